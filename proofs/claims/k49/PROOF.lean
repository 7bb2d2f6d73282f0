import PyProof.Rows.All
import Wide.All
import OpenK.AllK
import Wide.FinOn
import Lean
import PyProof.EqAt
import PyProof.EqKinds
import PyProof.TupleCall
import PyProof.ListRange
import PyProof.TupleOfSeq
import PyProof.Draws
import PyProof.EnumMake
import PyProof.TupleIter
import PyProof.Rows.SetFrom
import PyProof.SetRoads
import PyProof.WalksMore
import PyProof.Rows.SortShell
import KE.KMinBuiltin
import PyProof.Rows.CallKwBuiltin
import KE.KRevIter
import PyProof.Rows.Tup
import PyProof.Rows.Range3
import PyProof.DictWalks
import PyProof.DictTruth
import PyProof.TupleKey
import PyProof.Rows.SeqMore2
import PyProof.FString
import PyProof.StrWalks
import PyProof.StrBlockH
import PyProof.StrCalls2
import PyProof.SliceStr2
import KE.KIntText
import PyProof.StrLawsTight
import KE.KDictList
import PyProof.DictRoadsH
import KE.KLam
import KE.KNestM
import PyProof.DictItems
import PyProof.IsiHeapPairs
import KE.KPairComp
import PyProof.MinMaxWalk
import PyProof.MeetsSeq
import PySem.Challenge.RW_hueshare_k49_whole_turned_about
set_option compiler.extract_closed false
set_option Elab.async false
set_option linter.all false
set_option maxRecDepth 100000

noncomputable abbrev ζ:=PySem.Value
noncomputable abbrev η:=PySem.Shared
noncomputable abbrev θ:=PySem.PyData
noncomputable abbrev ξ:=PySem.Program
noncomputable abbrev ρ:=PySem.FuncData
noncomputable abbrev τ:=PySem.World
noncomputable abbrev υ:=PySem.Around
noncomputable abbrev L4:=PySem.Str->Option ζ
noncomputable abbrev L3:=ζ->η->Prop
noncomputable abbrev L1:=List (PySem.Addr×PySem.Obj)
noncomputable abbrev L0:=List (Int×Int)
def aM:=@PySem.wpAny_bind
def aq:=@if_neg
def aA:=@if_pos
def dB:=@decide_eq_true
def fJ:=@decide_eq_false
def cO:=@PySem.wpAny_pure
def jg:=@Bool.and_eq_true
def j9:=@of_decide_eq_true
def eX:=@PySem.sizeLine_eq
def qZ:=@Bool.false_ne_true
def pY:=@Bool.eq_iff_iff
def qY:=@Option.some.inj
def wW:=@decide_eq_true_eq
def Mp:=@PyProof.Rows.callWith_type1
def Hv:=@PySem.F.plainAttrs_list
def gq:=@congrArg
def M9:=@Classical.byContradiction
def Aa:=@PySem.PassesOwn.never
def was:=@PySem.mem_of_lookup
def Ie:=@PySem.Heap.SameBut.update
def Ml:=@PySem.wpAny_truthy_bool
def CQ:=@PySem.wpAny_holding
def QV:=@PySem.Around.under_plainId
def M8:=@PySem.wpAny_Call_Name_kw
def way:=@PySem.F.plain_max_loop
def RX:=@PySem.F.plain_min_loop
def Hu:=@PySem.wpAny_tryCatch
def jU:=@Ne.symm
def V3:=@PySem.F.slot_list_append
def V2:=@PySem.F.type_list_append
def Mj:=@PySem.codeAny_builtin
def EY:=@PySem.W.mg_none_of
def M7:=@PyProof.Rows.KeyOrd.kle_refl
def M6:=@PyProof.Rows.get?_update_seq
def M5:=@PySem.wpAny_seqItems
def wbj:=@PySem.F.slot_tuple_iterator_next
def V1:=@Bool.false_eq_true
def M4:=@PySem.plainId_quiet
def V0:=@of_decide_eq_false
def Xx:=@List.Pairwise.filter
def RW:=@PySem.wpAny_passesOwn
def wbp:=@PySem.F.args_tuple_add_2
def VR:=@PySem.wpAny_newObj_type
def wbr:=@PySem.F.entry_tuple_add
def wbs:=@decide_eq_false_iff_not
def VP:=@PySem.wpAny_call_entry
def wbu:=@PySem.F.slot_tuple_add
def Xw:=@PySem.wpAny_pyIter_tuple
def VN:=@PySem.wpAny_updateSeq
def Mi:=@PySem.wpAny_mono
def Xv:=@PyProof.Rows.KeyOrd.kle_of_klt
def QT:=@PySem.wpAny_letGo
def wca:=@eq_false_of_ne_true
def wcb:=@List.length_erase_of_mem
def wcc:=@PySem.Calls.spliced_cons
def Xu:=@PySem.W.KasT.kasWp_bind
def VL:=@PySem.wpAny_newList
def Ht:=@Prod.ext
def wcg:=@PySem.F.slot_list_index
def wch:=@PySem.F.type_list_index
def wci:=@PySem.Heap.get?_update_other
def wcj:=@PySem.F.entry_max_loop
def wck:=@PySem.F.entry_min_loop
def wcl:=@PySem.Calls.spliced_nil
def wcm:=@PySem.Heap.get?_push_ne
def wcn:=@PySem.wpAny_pyIter_list
def wco:=@PySem.wpAny_pyIter_enum
def wcp:=@Int.lt_trichotomy
def wcq:=@Bool.not_eq_true'
def wcr:=@List.flatMap_cons
def VJ:=@PySem.codeAny_mono
def wct:=@List.length_replicate
def wcu:=@Int.mul_le_mul_of_nonneg_right
def wcv:=@PySem.wpAny_forIn_list
def wcw:=@PySem.noFill_tuple_add
def wcx:=@PyProof.Rows.KeyOrd.kle_trans
def wcy:=@Nat.dvd_mul_left
def wcz:=@Nat.Coprime.symm
def wda:=@List.range_eq_range'
def wdb:=@List.mem_erase_of_ne
def Xr:=@List.any_cons
def wdd:=@PySem.F.args_tuple_iterator_next_1
def Xq:=@Int.lt_irrefl
def Xp:=@Bool.true_and
def Xo:=@Int.ofNat.inj
def RV:=@PySem.call_meets
def wdi:=@PySem.wpAny_execs_nil
def wdj:=@PySem.W.plainGet_of
def wdk:=@Nat.add_sub_cancel'
def wdl:=@Int.toNat_of_nonneg
def wdm:=@PySem.F.entry_tuple_iterator_next
def wdn:=@PySem.pushCells_keeps
def VH:=@Int.mul_pos
def wdp:=@Nat.add_le_add_left
def wdq:=@Int.mul_lt_mul_of_pos_left
def wdr:=@Int.le_of_mul_le_mul_right
def wds:=@PySem.W.callWith_K
def wdt:=@List.zip_cons_cons
def wdu:=@PySem.Reads.unique
def wdv:=@Nat.add_sub_cancel
def wdw:=@Nat.eq_zero_or_pos
def wdx:=@Array.getElem?_eq_getElem
def wdy:=@Int.eq_of_mul_eq_mul_left
def wdz:=@Int.le_of_mul_le_mul_left
def wea:=@Int.lt_of_mul_lt_mul_left
def wec:=@List.mem_or_eq_of_mem_set
def wed:=@Nat.le_of_succ_le
def wee:=@PyProof.noPylong_of_log2
def wef:=@PyProof.Rows.callWith_kw
def weg:=@Int.mul_ediv_cancel_left
def weh:=@PySem.F.slot_list_extend
def wei:=@PySem.F.type_list_extend
def wej:=@List.filter_congr
def wek:=@Nat.gcd_pos_of_pos_right
def wel:=@Nat.gcd_dvd_right
def wem:=@List.getElem?_set
def wen:=@PySem.rangeSize_one
def weo:=@List.getElem?_replicate
def wep:=@PySem.seq_tuple_add
def QS:=@if_false
def wer:=@PyProof.Rows.listUpdate_at
def wes:=@Nat.add_assoc
def wet:=@Nat.mul_div_cancel_left
def weu:=@List.sum_cons
def wev:=@PySem.SeqAt.eqAt_reads
def wew:=@PySem.AutoSeq1.idx_int
def wex:=@beq_self_eq_true
def wey:=@List.getElem?_set_self
def wez:=@PySem.W.cellsFrom_some
def wfa:=@Nat.le_mul_of_pos_left
def wfb:=@PySem.W.methodCall_KW
def wfc:=@List.of_mem_zip
def wfd:=@PySem.concat_meets
def VG:=@PyProof.Rows.IsTup.new
def wff:=@Nat.zero_add
def wfg:=@PySem.wpAny_specialOf
def wfh:=@Int.ediv_nonneg
def wfi:=@Bool.or_eq_true
def wfj:=@Int.le_antisymm
def Xn:=@PyProof.Rows.boot_range
def wfl:=@Bool.and_false
def wfm:=@List.nodup_nil
def wfn:=@PySem.IsRange.new
def wfo:=@PySem.wpAny_field
def RQ:=@if_true
def wfq:=@Nat.sub_le
def wfr:=@Nat.succ_mul
def wfs:=@Nat.sub_zero
def wft:=@Nat.lt_or_ge
def wfu:=@List.map_set
def wfv:=@Int.lt_asymm
def VF:=@PySem.W.mg_of
def aG:=@List.length_map
def aN:=@Nat.le_refl
def eO:=@List.getElem?_eq_getElem
def dF:=@List.mem_cons_of_mem
def cV:=@List.mem_cons_self
def bW:=@List.map_append
def cU:=@List.getElem?_map
def iU:=@List.getD_eq_getElem?_getD
def gP:=@PySem.Heap.get?_push_of_some
def fO:=@List.mem_singleton
def fH:=@List.size_toArray
def cQ:=@List.mem_cons
def dO:=@List.mem_filter
def lV:=@List.getElem?_eq_some_iff
def g8:=@List.length_append
def iT:=@Nat.lt_of_lt_of_le
def dH:=@Nat.le_of_lt
def lU:=@List.mem_append_right
def j7:=@PySem.Heap.get?_push_size
def dw:=@Nat.zero_le
def dX:=@PySem.Heap.lt_size
def eN:=@Nat.le_trans
def fG:=@List.mem_map
def fM:=@Nat.ne_of_lt
def j6:=@List.all_eq_true
def qW:=@List.mem_of_getElem?
def lO:=@List.mem_range
def pW:=@List.length_cons
def qU:=@Nat.lt_succ_of_lt
def pU:=@List.mem_append
def qT:=@List.filter_cons
def tM:=@Nat.lt_succ_self
def Af:=@List.length_filter_le
def tL:=@List.append_nil
def wV:=@List.length_range
def pR:=@Nat.lt_irrefl
def ur:=@List.nodup_cons
def MP:=@Int.mul_le_mul_of_nonneg_left
def zZ:=@List.pairwise_map
def wZ:=@Nat.succ_ne_zero
def wU:=@List.range_succ
def zY:=@List.length_take
def zX:=@List.getElem_mem
def Ez:=@List.getElem_of_mem
def HX:=@List.getElem?_eq_none
def CN:=@List.take_add_one
def Ae:=@List.take_length
def tU:=@List.map_map
def Hr:=@Nat.lt_of_le_of_lt
def HW:=@List.getElem?_range
def tR:=@Int.le_refl
def wR:=@Nat.succ_pos
def zW:=@List.map_cons
def Hq:=@List.lookup_cons
def HS:=@List.append_assoc
def Mh:=@List.filter_append
def zV:=@Int.mul_zero
def RP:=@List.pairwise_singleton
def VD:=@List.getElem?_append_right
def Ho:=@Int.mul_nonneg
def QJ:=@Array.length_toList
def CK:=@Nat.le_of_eq
def RN:=@List.length_singleton
def CJ:=@Int.le_of_lt
def QH:=@Nat.lt_of_le_of_ne
def RM:=@List.mem_append_left
def Ey:=@Int.mul_comm
def Xm:=@Int.eq_of_mul_eq_mul_right
def VB:=@List.length_pos_of_mem
def Vz:=@List.pairwise_lt_range
def RL:=@List.replicate_succ
def QG:=@Nat.le_of_lt_succ
def Xl:=@List.idxOf_lt_length_iff
def Vy:=@List.getElem?_append
def MN:=@PySem.Heap.size_push
def Hl:=@Nat.le_succ
def QF:=@Nat.le_antisymm
def QD:=@Nat.not_lt_zero
def Hj:=@Int.one_mul
def QC:=@Nat.min_le_left
def Vx:=@List.map_congr_left
def Xk:=@List.take_of_length_le
def Mg:=@Nat.ne_of_gt
def ydf:=@List.getElem?_append_left
def Xj:=@Nat.sub_one_lt_of_le
def RK:=@List.length_nil
def Vw:=@Int.toNat_natCast
def ydj:=@Nat.succ_add_eq_add_succ
def ydk:=@List.eraseIdx_eq_take_drop_succ
def MK:=@Nat.lt_trans
def MJ:=@Int.zero_add
def Xi:=@List.filterMap_cons
def Xh:=@List.filter_eq_self
def Xg:=@List.pairwise_cons
def Xf:=@Int.natAbs_natCast
def ydr:=@List.cons_lt_cons_iff
def QB:=@Int.le_of_eq
def Qz:=@Int.le_trans
def Xe:=@List.any_eq_false
def W4:=@List.flatten_cons
def W0:=@List.ext_getElem?
def ydx:=@Int.fdiv_eq_ediv_of_nonneg
def ydy:=@Array.perm_iff_toList_perm
def ydz:=@Nat.le_sub_one_of_lt
def yea:=@List.pairwise_append
def yeb:=@Nat.mul_le_mul_right
def WY:=@List.getElem_inj
def WX:=@Nat.le_add_right
def yee:=@List.length_pos_iff
def yef:=@List.filter_sublist
def yeg:=@List.getElem_idxOf
def Vv:=@Int.mul_assoc
def RJ:=@Int.mul_one
def WW:=@Int.natAbs_mul
def Vu:=@Int.zero_mul
def Vt:=@List.all_map
def Vs:=@Nat.sub_self
namespace Hd
open PySem PySem.W PySem.Calls PyProof.Rows
-- a run of the text's top over the heap as a tree, as one fold
noncomputable def SJ(tb:String->Option Builtin)(p:ξ)(w:τ)(m:Nat)(ann:Option ζ)(n:Nat):SharedT->Thread->Option SharedT:=
 @Nat.rec (fun _=>SharedT->Thread->Option SharedT) (fun _ _=>none)
  (fun _ ih s t=> @Bool.rec (fun _=>Option SharedT)
   (@Bool.rec (fun _=>Option SharedT) none
    (@Option.rec (SharedT×Thread) (fun _=>Option SharedT) none (fun r=>ih r.1 r.2) (stepT (denote tb) p w s t)) (stepOk m ann t))
   (some s) (through t)) n
theorem NP{tb:String->Option Builtin}{p:ξ}{w:τ}{m:Nat}{ann:Option ζ}:∀(n:Nat) (s s':SharedT) (t:Thread),
  SJ tb p w m ann n s t=some s'->topRun tb p w m ann n s.abs t=some s'.abs:=by
 intro n
 induction n with
 |zero=>intro s s' t h;exact absurd h (by intro h;cases h)
 |succ n ih=>
  intro s s' t h;have h1: @Bool.rec (fun _=>Option SharedT) (@Bool.rec (fun _=>Option SharedT) none
    (@Option.rec (SharedT×Thread) (fun _=>Option SharedT) none (fun r=>SJ tb p w m ann n r.1 r.2) (stepT (denote tb) p w s t)) (stepOk m ann t))
    (some s) (through t)=some s':=h
  unfold topRun;cases e1:through t with
  |true=>rw[e1]at h1;injection h1 with h1;rw[h1]
  |false=>
   rw[e1]at h1;cases e2:stepOk m ann t with
   |false=>rw[e2]at h1;cases h1
   |true=>
    rw[e2]at h1;cases e3:stepT (denote tb) p w s t with
    |none=>rw[e3]at h1;cases h1
    |some r=>
     rw[e3]at h1;have e4:=stepT_spec (s':=r.1) (t':=r.2) e3;show(match step (denote tb) p w s.abs t with | .go a b=>topRun tb p w m ann n a b| .halt _ _=>none)=_;rw[e4];exact ih _ _ _ h1
noncomputable def treeOf(l:List Obj):BT:=(l.foldl (fun x o=>(x.1.ins x.2 o,x.2+1)) ((BT.nil,0):BT×Nat)).1
-- the run from the start that the kit has laid
noncomputable def ran(p:ξ)(N:Nat)(w:τ)(os:OsState):Option SharedT:=
 SJ treeTable p w 11 (some (.ref 6)) N ⟨treeOf (boot_heap w.params).objs.toList,11,{},Array.mk [],boot_drawn,boot_toks,os⟩ (topStub p)
-- what is looked at behind the run
noncomputable def looked(p q:ξ)(loose:List Str)(Xt:η->Bool)(g0:Bool)(h:Heap)(s:η):=
 ((staticsOk (importedModules p.main.body) h s.heap&&namesBound p s.heap&&gensDone s&&laidKept h s.heap),openSeen q loose (importedModules p.main.body) Xt g0 s)
noncomputable def oO(p q:ξ)(loose:List Str)(Xt:η->Bool)(g0:Bool)(N:Nat):Prop:=
 ∀(w:τ) (os:OsState),(ran p N w os).map (fun s=>looked p q loose Xt g0 (boot_heap w.params) s.abs)=some (true,openGood q loose)
theorem Pg{p q:ξ}{loose:List Str}{Xt:η->Bool}{α:Type}{Yf:η->α}{Ya:τ->α}{N:Nat}{g0:Bool}(r:oO p q loose Xt g0 N)(e:opening p=plainProg p.main.scope.names)(hN:Nat.ble 600 N=true)(f:∀s,fenceModules? p s=some s)(y:∀(w:τ) (os:OsState),(ran p N w os).map (fun s=>Yf s.abs)=some (Ya w)):
  LeftO p q loose Xt Yf Ya N g0:=fun w=>by
 have b:((boot_heap w.params).isNs mainGlobals&&(Array.mk []:Array GenState).size==0,(boot_heap w.params).objs.size,(boot_heap w.params).nsMap mainGlobals "__annotations__")=(true,11,some (.ref 6)):=by kernel_rfl
 have c:absHeap (treeOf (boot_heap w.params).objs.toList) 11 {}=boot_heap w.params:=by kernel_rfl
 obtain⟨⟨h,gs',d',k',os⟩,e1,e'⟩:=Option.map_eq_some_iff.mp (boot_open e hN f w);obtain⟨rfl,rfl,rfl,rfl⟩:h=boot_heap w.params/\gs'=Array.mk []/\d'=boot_drawn/\k'=boot_toks:=by simpa using e'
 obtain⟨b1,b2,b3⟩:_/\_/\_:=by simpa only[Prod.mk.injEq]using b
 obtain⟨s,r1,r2⟩:=Option.map_eq_some_iff.mp (r w os);obtain⟨s',y1,y2⟩:=Option.map_eq_some_iff.mp (y w os);have es:s'=s:=by rw[r1]at y1;injection y1 with y1;exact y1.symm
 subst es;obtain⟨l1,l2⟩:_/\_:=by simpa only[looked,Prod.mk.injEq]using r2
 have t1:=NP N _ _ _ r1;have ab:SharedT.abs ⟨treeOf (boot_heap w.params).objs.toList,11,{},Array.mk [],boot_drawn,boot_toks,os⟩=⟨boot_heap w.params,Array.mk [],boot_drawn,boot_toks,os⟩:=by unfold SharedT.abs;rw[c]
 rw[ab]at t1;have t:topFrom treeTable p w N ⟨boot_heap w.params,Array.mk [],boot_drawn,boot_toks,os⟩=some s'.abs:=by
  unfold topFrom;dsimp only;rw[b1,b2,b3,t1];show(match staticsOk (importedModules p.main.body) (boot_heap w.params) s'.abs.heap&&namesBound p s'.abs.heap&&gensDone s'.abs&&laidKept (boot_heap w.params) s'.abs.heap with |true=>_|false=>_)=_;rw[l1]
 unfold openEnds;rw[e1];show(topFrom treeTable p w N _).map _=_;rw[t];show some (_,_)=_;rw[l2,y2]
-- what is looked at behind the run, in five groups: a run for each, so that none needs the memory of all
theorem two{α β γ:Type}{o:Option α}{f:α->β}{g:α->γ}{a:β}{b:γ}(h:o.map f=some a)(h':o.map g=some b):o.map (fun s=>(f s,g s))=some (a,b):=by
 cases o with
 |none=>cases h
 |some s=>
  injection h with h
  injection h' with h'
  show some (f s,g s)=_;rw[h,h']
theorem Ig{α β γ:Type}{o:Option α}{f:α->β}{g:α->γ}{a:β}{b:γ}(h:o.map (fun s=>(f s,g s))=some (a,b)):o.map f=some a/\o.map g=some b:=by
 cases o with
 |none=>cases h
 |some s=>
  injection h with h
  injection h with h h'
  exact⟨gq some h,gq some h'⟩
theorem both{α:Type}{o:Option α}{f g:α->Bool}(h:o.map f=some true)(h':o.map g=some true):o.map (fun s=>f s&&g s)=some true:=by
 cases o with
 |none=>cases h
 |some s=>
  injection h with h
  injection h' with h'
  show some (f s&&g s)=_;rw[h,h'];rfl
section
variable(p q:ξ)(Xt:η->Bool)(N:Nat)
noncomputable abbrev GA:Prop:=∀(w:τ) (os:OsState),(ran p N w os).map (fun s=>(seen ((recsOf q).map (·.name)) (ownsOf q) [] {s.abs with gens:=#[]},s.abs.heap.bltView,s.abs.heap.isNs mainGlobals,s.abs.heap.isNs builtinsNs,tablesOk q s.abs.heap,s.abs.gens.size==0))=some (expectedOf q,bltViewBooted,true,true,true,true)
noncomputable abbrev GB:Prop:=∀(w:τ) (os:OsState),(ran p N w os).map (fun s=>(s.abs.heap.keysOk (looseW q []) ((recsOf q).map (·.name)) ((litsOf q).map (·.1)) ((clssOf q (looseW q [])).map (·.name)),(staticsOk (importedModules p.main.body) (boot_heap w.params) s.abs.heap&&namesBound p s.abs.heap&&gensDone s.abs&&laidKept (boot_heap w.params) s.abs.heap),s.abs.heap.accountedOkI (importedModules p.main.body),Xt s.abs,plainSeenD q [] s.abs))=some (true,true,true,true,plainGoodD q [])
noncomputable abbrev GC:Prop:=∀(w:τ) (os:OsState),(ran p N w os).map (fun s=>(tabsOk q s.abs,pinSeenD q (drecsOf q) s.abs))=some (true,pinGoodD (drecsOf q))
noncomputable abbrev GD:Prop:=∀(w:τ) (os:OsState),(ran p N w os).map (fun s=>plainSeenE q (looseW q []) s.abs)=some (plainGoodE q (looseW q []))
noncomputable abbrev GE:Prop:=∀(w:τ) (os:OsState),(ran p N w os).map (fun s=>(wideSeen q s.abs,clsSeenW q [] s.abs))=some (wideGood q,clsGoodW q [])
end
theorem Ke{p q:ξ}{Xt:η->Bool}{N:Nat}(ga:GA p q N)(gb:GB p q Xt N)(gc:GC p q N)(gd:GD p q N)(ge:GE p q N):oO p q [] Xt true N:=fun w os=>by
 obtain⟨h1,a2⟩:=Ig (ga w os);obtain⟨h2,a3⟩:=Ig a2;obtain⟨h5,a4⟩:=Ig a3;obtain⟨h6,a5⟩:=Ig a4;obtain⟨h7,h9⟩:=Ig a5;obtain⟨h3,b2⟩:=Ig (gb w os);obtain⟨h0,b3⟩:=Ig b2;obtain⟨h4,b4⟩:=Ig b3;obtain⟨h8,k4⟩:=Ig b4;obtain⟨k1,k2⟩:=Ig (gc w os);obtain⟨k5,k6⟩:=Ig (ge w os);exact two h0 (two h1 (two h2 (two (both (both (both (both (both (both h3 h4) h5) h6) h7) h8) h9) (two k1 (two k2 (two (gd w os) (two k4 (two k5 k6))))))))
end Hd
section
open PySem PySem.W PyProof.Rows
namespace Hd
noncomputable abbrev L:=PySem.Challenge.rw_hueshare_k49_whole_turned_about
noncomputable def Q:ξ:=view L.row.toRowW.prog [1,2,3,4,5,7,8,9,10,11,12,13,14,15,16,17,18,19,21,22,23,24,25,26,28,29,30,31,33,34,35,36,37,38,39,40,42,44,45,46,47,48,50,51,52,53,54,56,57,58,59,60,61,62,63,64]
noncomputable abbrev X:η->Bool:=fun s=>xlAt Q [] s&&recOk (RowW.records L.row.toRowW) s
set_option maxRecDepth 100000 in
theorem g0:GA L.row.toRowW.prog Q 6758:=fun w os=>by kernel_rfl
set_option maxRecDepth 100000 in
theorem g1:GB L.row.toRowW.prog Q X 6758:=fun w os=>by kernel_rfl
set_option maxRecDepth 100000 in
theorem g2:GC L.row.toRowW.prog Q 6758:=fun w os=>by kernel_rfl
set_option maxRecDepth 100000 in
theorem g3:GD L.row.toRowW.prog Q 6758:=fun w os=>by kernel_rfl
set_option maxRecDepth 100000 in
theorem g4:GE L.row.toRowW.prog Q 6758:=fun w os=>by kernel_rfl
theorem looks:oO L.row.toRowW.prog Q [] X true 6758:=Ke g0 g1 g2 g3 g4
end Hd
local macro_rules
 |`(tactic|o_head $H)=>`(tactic|
  refine holds_open (q:=Hd.Q) (loose:=[]) (N:=6758) (Xt:=Hd.X) (XP:=XL Hd.Q [])
   (Yf:=Hook.obs $H) (Ya:=Hook.val $H) (YP:=Hook.says $H)
   (Hd.Pg Hd.looks (by kernel_rfl) rfl (fun _=>by kernel_rfl) (fun _ _=>by kernel_rfl))
   (Hook.of $H) (Hook.keeps $H) (fun s e=>xl_of s (Bool.and_eq_true_iff.mp e).1) XL.keeps
   (by rfl) (by rfl) (by rfl) (fun s e=>recFacts_of (Bool.and_eq_true_iff.mp e).2) (by rfl)
   (by first |assumption|decide+kernel) (by decide+kernel) ⟨rfl,rfl,rfl,rfl,rfl,by decide+kernel⟩ ?hw ?hc)
set_option maxRecDepth 100000 in
set_option maxHeartbeats 0 in
noncomputable def Hd.early:PSigma fun P:Prop=>P->PySem.Challenge.rw_hueshare_k49_whole_turned_about.Holds:=by
 refine⟨?P,fun W=> ?_⟩
 rotate_left
 w_on;o_law;k_head;(case hw=>w_witness2)
 exact W
end
namespace L2
open PySem PySem.Spec PyProof.Rows
noncomputable abbrev Key:=Sum Int Str
noncomputable def keyIs:Key->ζ->Bool
 | .inl k,v=>Value.isInt k v
 | .inr x,v=>Value.isStrOf x v
noncomputable def keyH(w:τ):Key->Int
 | .inl k=>hashInt k
 | .inr x=>hashStr w x
theorem Mf:∀{k:Key} {v:ζ},keyIs k v=true->(∃i t,k=Sum.inl i/\v=Value.int i t)\/(∃x t,k=Sum.inr x/\v=Value.str x t)
 | .inl i,v,h=>by
  obtain⟨t,e⟩:=Value.isInt_shape (k:=i) (v:=v) h;exact .inl ⟨i,t,rfl,e⟩
 | .inr x,v,h=>by
  obtain⟨t,e⟩:=Value.isStrOf_shape (x:=x) (v:=v) h;exact .inr ⟨x,t,rfl,e⟩
theorem key_ll(a b:Int):decide ((Sum.inl a:Key)=Sum.inl b)=(a==b):=by
 by_cases e:a=b
 ·subst e;simp
 ·have h:¬(Sum.inl a:Key)=Sum.inl b:=fun q=>e (Sum.inl.inj q);rw[fJ h];exact(beq_eq_false_iff_ne.mpr e).symm
theorem key_rr(a b:Str):decide ((Sum.inr a:Key)=Sum.inr b)=decide (a=b):=by
 by_cases e:a=b
 ·subst e;simp
 ·have h:¬(Sum.inr a:Key)=Sum.inr b:=fun q=>e (Sum.inr.inj q);rw[fJ h,fJ e]
theorem key_lr(a:Int)(b:Str):decide ((Sum.inl a:Key)=Sum.inr b)=false:=fJ (fun q=>nomatch q)
theorem key_rl(a:Str)(b:Int):decide ((Sum.inr a:Key)=Sum.inl b)=false:=fJ (fun q=>nomatch q)
noncomputable def mixKind(prog:ξ)(w:τ):PySem.KeyKind prog w Key where
 is:=keyIs
 hash:=keyH w
 inj:=fun v a b ha hb=>by
  rcases Mf ha with⟨i,t,rfl,rfl⟩|⟨x,t,rfl,rfl⟩
  ·rcases Mf hb with⟨j,u,rfl,e⟩|⟨y,u,rfl,e⟩
   ·injection e with e1 _;rw[e1]
   ·exact nomatch e
  ·rcases Mf hb with⟨j,u,rfl,e⟩|⟨y,u,rfl,e⟩
   ·exact nomatch e
   ·injection e with e1 _;rw[e1]
 byValue:=fun k v h=>by
  rcases Mf h with⟨i,t,rfl,rfl⟩|⟨x,t,rfl,rfl⟩<;>rfl
 pyHash:=fun hv h=>by
  rcases Mf hv with⟨i,t,rfl,rfl⟩|⟨x,t,rfl,rfl⟩
  ·exact wpAny_pyHash_int h
  ·exact wpAny_pyHash_str h
 eqBool:=fun hu hv h=>by
  rcases Mf hu with⟨i,t,rfl,rfl⟩|⟨x,t,rfl,rfl⟩
  ·rcases Mf hv with⟨j,u,rfl,rfl⟩|⟨y,u,rfl,rfl⟩
   ·rw[key_ll]at h;exact wpAny_eqBool_int h
   ·rw[key_lr]at h;exact SeqAt.EqAt.int_str i t y u _ _ _ _ h
  ·rcases Mf hv with⟨j,u,rfl,rfl⟩|⟨y,u,rfl,rfl⟩
   ·rw[key_rl]at h;exact SeqAt.EqAt.str_int x t j u _ _ _ _ h
   ·rw[key_rr]at h;exact wpAny_eqBool_str h
 «strs»:=fun k x t v h=>by
  rcases Mf h with⟨i,u,rfl,e⟩|⟨y,u,rfl,e⟩
  ·exact nomatch e
  ·injection e with e1 _
   subst e1;cases v<;>rfl
inductive V where
 |non|bl (b:Bool)|int (i:Int)|str (x:Str)|byt (b:Array UInt8)|flt (b:UInt64)|ref (a:Addr)|ty (n:String)
 deriving DecidableEq
noncomputable def RelV:V->ζ->Prop
 | .non,u=>u=Value.none
 | .bl b,u=>u=Value.bool b
 | .int i,u=>∃t,u=Value.int i t
 | .str x,u=>∃t,u=Value.str x t
 | .byt b,u=>∃t,u=Value.bytes b t
 | .flt b,u=>∃t,u=Value.float b t
 | .ref a,u=>u=Value.ref a
 | .ty n,u=>u=Value.type n
noncomputable abbrev Vals:List V->List ζ->Prop:=Paired RelV
theorem Vals.length{xs:List V}{us:List ζ}(r:Vals xs us):xs.length=us.length:=Paired.length r
theorem Vals.get:∀{xs:List V} {us:List ζ} {i:Nat} {x:V},Vals xs us->xs[i]? =some x->∃u,us[i]? =some u/\RelV x u
 |_,_,_,_,.nil,e=>by simp at e
 |_,_,0,_,.cons r _,e=>by simp at e;subst e;exact⟨_,rfl,r⟩
 |_,_,i+1,x,.cons _ t,e=>by
  obtain⟨u,h1,h2⟩:=Vals.get (i:=i) (x:=x) t (by simpa using e);exact⟨u,by simpa using h1,h2⟩
theorem Vals.set{x:V}{u:ζ}(r:RelV x u):∀{xs:List V} {us:List ζ} (i:Nat),Vals xs us->Vals (xs.set i x) (us.set i u)
 |_,_,_,.nil=> .nil
 |_,_,0,.cons _ t=> .cons r t
 |_,_,i+1,.cons q t=> .cons q (Vals.set r i t)
theorem Vals.append:∀{xs ys:List V} {us ws:List ζ},Vals xs us->Vals ys ws->Vals (xs++ys) (us++ws)
 |_,_,_,_,.nil,s=>s
 |_,_,_,_,.cons r t,s=> .cons r (Vals.append t s)
theorem Vals.take:∀{xs:List V} {us:List ζ} (n:Nat),Vals xs us->Vals (xs.take n) (us.take n)
 |_,_,0,_=> .nil
 |_,_,_+1,.nil=> .nil
 |_,_,n+1,.cons r t=> .cons r (Vals.take n t)
theorem Vals.drop:∀{xs:List V} {us:List ζ} (n:Nat),Vals xs us->Vals (xs.drop n) (us.drop n)
 |_,_,0,r=>r
 |_,_,_+1,.nil=> .nil
 |_,_,n+1,.cons _ t=>Vals.drop n t
noncomputable def RelO:Option V->Option ζ->Prop
 |some v,some u=>RelV v u
 |none,none=>True
 |_,_=>False
noncomputable def KV{κ:Type}:List (κ×V)->List (κ×ζ)->Prop:=Paired fun(p:κ×V) (q:κ×ζ)=>p.1=q.1/\RelV p.2 q.2
noncomputable def kV:Key->V
 | .inl i=> .int i
 | .inr x=> .str x
inductive HO where
 /-- a list -/
 |lst (xs:List V)
 /-- a tuple (never changes) -/
 |tup (xs:List V)
 /-- a dict whose keys are ints and texts; one whose keys are tuples of ints and texts (the empty one is both) -/
 |dK (kvs:List (Key×V))|dT (kvs:List (List Key×V))
 /-- a set of ints: its members, its size -/
 |set (S:Int->Bool) (n:Nat)
 /-- an instance of the class at C, its dict at dx, its attributes -/
 |ins (C dx:Addr) (fs:List (Str×V))
 /-- the dict of the instance at x -/
 |own (x:Addr)
 /-- the dict of an exception -/
 |xd (fs:List (Str×V))
 /-- a bound method, f of x -/
 |met (f x:Addr)
 /-- a range object lo, lo + 1, .. below hi -/
 |rng (lo hi:Int)
 /-- a thing that is known to the object (the script; a dict while a loop walks it): read, never written while it is so -/
 |frz (o:Obj) (u:HO)
 /-- a code object's table -/
 |tbl (ps:Array ζ)
 /-- any other thing, by what is true of its one object (a def of one's own: SetO a S n := HO.ext fun h => ..) -/
 |ext (φ:Heap->Prop)
noncomputable abbrev Hp:=Addr->Option HO
noncomputable def upd(H:Hp)(a:Addr)(o:HO):Hp:=fun b=>if b=a then some o else H b
theorem aJ{H:Hp}{a:Addr}{o:HO}:upd H a o a=some o:=by unfold upd;rw[aA rfl]
theorem cP{H:Hp}{a b:Addr}{o:HO}(h:b≠a):upd H a o b=H b:=by unfold upd;rw[aq h]
theorem ne_of{H:Hp}{a b:Addr}{o u:HO}(h:H a=some o)(h':H b=some u)(d:o≠u):a≠b:=by
 intro e;subst e;rw[h]at h';exact d (qY h')
theorem j5{H:Hp}{a b:Addr}{o:HO}(h:H a=some o)(h':H b=none):a≠b:=by
 intro e;subst e;rw[h]at h';cases h'
section
variable(P:ξ)(w:τ)
noncomputable def ObjOk(H:Hp)(h:Heap)(a:Addr):HO->Prop
 | .lst xs=>xs.length<=sizeLine/\∃(its:List ζ) (n:Nat),Vals xs its/\h.get? a=some {cls:= .type "list",data:= .seq its.toArray n}
 | .tup xs=>xs.length<=sizeLine/\∃its:List ζ,Vals xs its/\IsTup h a its.toArray
 | .dK kvs=>kvs.length<=sizeLine/\(a==sysModules)=false/\∃vs,KV kvs vs/\h.DictOf (mixKind P w) a vs
 | .dT kvs=>kvs.length<=sizeLine/\(a==sysModules)=false/\∃xs:List (List Key×Addr×ζ),
   Paired (fun(p:List Key×V) (q:List Key×Addr×ζ)=>p.1=q.1/\H q.2.1=some (.tup (p.1.map kV))/\RelV p.2 q.2.2) kvs xs/\
   ∃o es ep,h.get? a=some o/\o.ExactDict/\o.data= .dict es ep/\es.toList=xs.map (entryOfKey (tupleKind (mixKind P w)))/\(xs.map (·.1)).Nodup
 | .set S n=>h.SetOf (intKind P w) a S n
 | .ins C dx fs=>H dx=some (.own a)/\fs.length<=1000/\dx≠a/\h.get? a=some (PySem.W.instObj C dx)/\
   ∃mA,h.Ns1 dx mA/\(∀f,RelO (fs.lookup f) (mA f))/\PySem.Within mA (fs.map (·.1))
 | .own _=>∃o,h.get? a=some o
 | .xd fs=>∃mA,h.Ns1 a mA/\∀f,RelO (fs.lookup f) (mA f)
 | .rng lo hi=>∃t u v,h.get? a=some {cls:= .type "range",data:= .fields #[.int lo t,.int hi u,.int 1 v]}
 | .frz o u=>h.get? a=some o/\ObjOk H h a u
 | .tbl ps=>h.get? a=some {cls:= .none,data:= .fields ps}
 | .met f x=>h.get? a=some (PySem.W.methodObj (.ref f) (.ref x))
 | .ext φ=>φ h/\(∃o,h.get? a=some o)/\∀h1 h2:Heap,φ h1->(∀o,h1.get? a=some o->h2.get? a=some o)->φ h2
noncomputable def HOk(H:Hp)(h:Heap):Prop:=∀a o,H a=some o->ObjOk P w H h a o
end
section
variable{P:ξ}{w:τ}{H H':Hp}{h h':Heap}{a:Addr}{o:HO}
theorem ObjOk.lt(x:ObjOk P w H h a o):a<h.objs.size:=by
 cases o with
 |lst xs=>obtain⟨_,_,_,_,e⟩:=x;exact dX e
 |tup xs=>obtain⟨_,_,_,p⟩:=x;exact p.lt
 |dK kvs=>obtain⟨_,_,_,_,o,_,_,e,_⟩:=x;exact dX e
 |dT kvs=>obtain⟨_,_,_,_,o,_,_,e,_⟩:=x;exact dX e
 |set S n=>obtain⟨o,_,_,_,e,_⟩:=x;exact dX e
 |ins C dx fs=>obtain⟨_,_,_,e,_⟩:=x;exact dX e
 |own y=>obtain⟨_,e⟩:=x;exact dX e
 |xd fs=>obtain⟨_,⟨_,_,_,e,_⟩,_⟩:=x;exact dX e
 |rng lo hi=>obtain⟨_,_,_,e⟩:=x;exact dX e
 |frz ob u=>obtain⟨e,_⟩:=x;exact dX e
 |tbl ps=>exact dX (show h.get? a=some _ from x)
 |met f y=>exact dX (show h.get? a=some _ from x)
 |ext φ=>obtain⟨_,⟨_,e⟩,_⟩:=x;exact dX e
theorem Paired.mapP{α β:Type}{F G:α->β->Prop}:∀{l₁:List α} {l₂:List β},Paired F l₁ l₂->(∀a b,F a b->G a b)->Paired G l₁ l₂
 |_,_,.nil,_=> .nil
 |_,_,.cons r t,f=> .cons (f _ _ r) (Paired.mapP t f)
theorem ObjOk.stay(x:ObjOk P w H h a o)(k:∀b u,(b=a\/H b=some (.own a))->h.get? b=some u->h'.get? b=some u)(ho:∀b,H b=some (.own a)->H' b=some (.own a))(ht:∀b xs,H b=some (.tup xs)->H' b=some (.tup xs)):ObjOk P w H' h' a o:=by
 induction o with
 |lst xs=>obtain⟨z,its,n,r,e⟩:=x;exact⟨z,its,n,r,k _ _ (.inl rfl) e⟩
 |tup xs=>obtain⟨z,its,r,ob,e,c⟩:=x;exact⟨z,its,r,ob,k _ _ (.inl rfl) e,c⟩
 |dK kvs=>obtain⟨z,y,vs,r,ob,es,ep,e,c⟩:=x;exact⟨z,y,vs,r,ob,es,ep,k _ _ (.inl rfl) e,c⟩
 |dT kvs=>
  obtain⟨z,y,xs,r,ob,es,ep,e,c⟩:=x;exact⟨z,y,xs,Paired.mapP r fun p q z=>⟨z.1,ht _ _ z.2.1,z.2.2⟩,ob,es,ep,k _ _ (.inl rfl) e,c⟩
 |set S n=>obtain⟨ob,es,ep,t,e,c⟩:=x;exact⟨ob,es,ep,t,k _ _ (.inl rfl) e,c⟩
 |ins C dx fs=>
  obtain⟨d,z,ne,e,mA,⟨od,es,ep,e2,c⟩,r⟩:=x;exact⟨ho _ d,z,ne,k _ _ (.inl rfl) e,mA,⟨od,es,ep,k _ _ (.inr d) e2,c⟩,r⟩
 |own y=>obtain⟨ob,e⟩:=x;exact⟨ob,k _ _ (.inl rfl) e⟩
 |xd fs=>obtain⟨mA,⟨od,es,ep,e,c⟩,r⟩:=x;exact⟨mA,⟨od,es,ep,k _ _ (.inl rfl) e,c⟩,r⟩
 |rng lo hi=>obtain⟨t,u,v,e⟩:=x;exact⟨t,u,v,k _ _ (.inl rfl) e⟩
 |frz ob u ih=>obtain⟨e,q⟩:=x;exact⟨k _ _ (.inl rfl) e,ih q⟩
 |tbl ps=>
  have e:h.get? a=some {cls:= .none,data:= .fields ps}:=x;show h'.get? a=some {cls:= .none,data:= .fields ps};exact k a _ (.inl rfl) e
 |met f y=>
  have e:h.get? a=some (PySem.W.methodObj (.ref f) (.ref y)):=x;show h'.get? a=some (PySem.W.methodObj (.ref f) (.ref y));exact k a _ (.inl rfl) e
 |ext φ=>obtain⟨p,⟨o,e⟩,st⟩:=x;exact⟨st _ _ p fun o q=>k _ _ (.inl rfl) q,⟨o,k _ _ (.inl rfl) e⟩,st⟩
theorem HOk.lt(x:HOk P w H h)(e:H a=some o):a<h.objs.size:=(x a o e).lt
theorem HOk.fresh(x:HOk P w H h)(e:h.objs.size<=a):H a=none:=by
 cases q:H a with
 |none=>rfl
 |some u=>exact absurd (iT (x.lt q) e) (pR _)
theorem HOk.kept(x:HOk P w H h)(k:∀b u,h.get? b=some u->h'.get? b=some u):HOk P w H h':=fun a o e=>
 (x a o e).stay (fun b u _ q=>k b u q) (fun _ q=>q) fun _ _ q=>q
theorem HOk.laid(x:HOk P w H h)(k:∀b u,h.get? b=some u->h'.get? b=some u)(hp:h.objs.size<=a)(new:ObjOk P w (upd H a o) h' a o):HOk P w (upd H a o) h':=fun b u e=>by
 have hn:=x.fresh hp;by_cases hb:b=a
 ·subst hb;rw[aJ]at e;cases e;exact new
 ·rw[cP hb]at e;exact(x b u e).stay (fun c v _ q=>k c v q) (fun c q=>by rw[cP (j5 q hn)];exact q) fun c xs q=>by rw[cP (j5 q hn)];exact q
end
noncomputable def Rd(H:Hp)(a:Addr)(u:HO):Prop:=H a=some u\/∃o,H a=some (.frz o u)
theorem Rd.ok{P:ξ}{w:τ}{H:Hp}{h:Heap}{a:Addr}{u:HO}(r:Rd H a u)(x:HOk P w H h):ObjOk P w H h a u:=by
 rcases r with r|⟨o,r⟩
 ·exact x a u r
 ·obtain⟨_,q⟩:=x a _ r;exact q
noncomputable def Mut:Option HO->Prop
 |some (.lst _)=>True
 |some (.dK _)=>True
 |some (.dT _)=>True
 |some (.set _ _)=>True
 |some (.ins _ _ _)=>True
 |some (.ext _)=>True
 |_=>False
section
variable{P:ξ}{w:τ}{H:Hp}{h h':Heap}{x e:Addr}{o':HO}
theorem HOk.write(ok:HOk P w H h)(mu:Mut (H x))(he:e=x\/H e=some (.own x))(k:∀b u,b≠e->h.get? b=some u->h'.get? b=some u)(heo:∃u,h'.get? e=some u)(new:ObjOk P w (upd H x o') h' x o'):HOk P w (upd H x o') h':=fun b u q=>by
 have nown:∀c y,H c=some (.own y)->c≠x:=fun c y r z=>by subst z;rw[r]at mu;exact mu
 have ntup:∀c xs,H c=some (.tup xs)->c≠x:=fun c xs r z=>by subst z;rw[r]at mu;exact mu
 by_cases hb:b=x
 ·subst hb;rw[aJ]at q;cases q;exact new
 ·rw[cP hb]at q;by_cases hbe:b=e
  ·have q':H b=some (.own x):=by
    rcases he with z|z
    ·exact absurd (hbe.trans z) hb
    ·rw[hbe];exact z
   rw[q]at q';cases q';obtain⟨v,hv⟩:=heo;exact⟨v,by rw[hbe];exact hv⟩
  ·refine(ok b u q).stay (fun c v hc r=>k c v ?_ r) (fun c r=>by rw[cP (nown c b r)];exact r) fun c xs r=>by rw[cP (ntup c xs r)];exact r
   rcases hc with rfl|hc
   ·exact hbe
   ·rintro rfl;rcases he with z|z
    ·exact nown c b hc z
    ·rw[hc]at z;cases z;exact hb rfl
end
structure Un(fs ex:List Addr)(H H':Hp)(h h':Heap):Prop where
 keep:∀b o,h.get? b=some o->H b=none->b∉fs->b∉ex->h'.get? b=some o
 slot:∀b o,h.get? b=some o->H b=none->b∈fs->b∉ex->∃sl,h'.get? b=some {o with slots:=sl}
 free:∀b o,h.get? b=some o->H b=none->b∉ex->H' b=none
 there:∀b o,h.get? b=some o->b∉ex->∃o',h'.get? b=some o'
 tups:∀b xs,H b=some (.tup xs)->H' b=some (.tup xs)
 frzs:∀b o u,H b=some (.frz o u)->H' b=some (.frz o u)
 tbls:∀b ps,H b=some (.tbl ps)->∃more,H' b=some (.tbl (ps++more))
section
variable{fs ex:List Addr}{H H1:Hp}{h h1 h':Heap}{a x e:Addr}{o:HO}
theorem Un.any(u:Un fs ex H H1 h h1){b:Addr}{ob:Obj}(q:h.get? b=some ob)(n:H b=none)(hx:b∉ex):∃sl,h1.get? b=some {ob with slots:=sl}:=by
 by_cases hb:b∈fs
 ·exact u.slot b ob q n hb hx
 ·exact⟨ob.slots,u.keep b ob q n hb hx⟩
theorem Un.kept(k:∀b u,h.get? b=some u->h'.get? b=some u):Un fs ex H H h h':=
 ⟨fun b ob q _ _ _=>k b ob q,fun b ob q _ _ _=>⟨ob.slots,k b ob q⟩,fun _ _ _ n _=>n,fun b ob q _=>⟨ob,k b ob q⟩,fun _ _ q=>q,fun _ _ _ q=>q,fun _ ps q=>⟨#[],by rw[q];simp⟩⟩
theorem Un.refl:Un fs ex H H h h:=Un.kept fun _ _ q=>q
theorem Un.laid(k:∀b u,h.get? b=some u->h'.get? b=some u)(hp:h.objs.size<=a)(hn:H a=none):Un fs ex H (upd H a o) h h' where
 keep:=fun b u q _ _ _=>k b u q
 slot:=fun b u q _ _ _=>⟨u.slots,k b u q⟩
 free:=fun b u q n _=>by rw[cP (fM (iT (dX q) hp))];exact n
 there:=fun b u q _=>⟨u,k b u q⟩
 tups:=fun b xs q=>by rw[cP (j5 q hn)];exact q
 frzs:=fun b u xs q=>by rw[cP (j5 q hn)];exact q
 tbls:=fun b ps q=>⟨#[],by rw[cP (j5 q hn),q];simp⟩
theorem Un.write(mu:Mut (H x))(he:e=x\/H e=some (.own x))(k:∀b u,b≠e->h.get? b=some u->h'.get? b=some u)(heo:∃u,h'.get? e=some u):Un fs ex H (upd H x o) h h':=by
 have hx:∀b,H b=none->b≠x:=fun b n z=>by subst z;rw[n]at mu;exact mu
 have hb:∀b,H b=none->b≠e:=fun b n z=>by
  subst z;rcases he with r|r
  ·exact hx b n r
  ·rw[n]at r;cases r
 have hm:∀b u,H b=some u->¬Mut (some u)->b≠x:=fun b u q nm z=>by subst z;rw[q]at mu;exact nm mu
 refine⟨fun b u q n _ _=>k b u (hb b n) q,fun b u q n _ _=>⟨u.slots,k b u (hb b n) q⟩,fun b u q n _=>by rw[cP (hx b n)];exact n,fun b u q _=> ?_,
  fun b xs q=>by rw[cP (hm b _ q fun z=>z)];exact q,fun b u xs q=>by rw[cP (hm b _ q fun z=>z)];exact q,fun b ps q=>⟨#[],by rw[cP (hm b _ q fun z=>z),q];simp⟩⟩
 by_cases hbe:b=e
 ·subst hbe;exact heo
 ·exact⟨u,k b u hbe q⟩
end
noncomputable def trk(h:Heap)(H:Hp):List Addr:=(List.range h.objs.size).filter fun a=>(H a).isSome
noncomputable def hidT(h:Heap)(H:Hp):Heap:=PySem.W.hideAll h (trk h H)
theorem hidT_size(h:Heap)(H:Hp):(hidT h H).objs.size=h.objs.size:=PySem.W.hideAll_size _ _
theorem hidT_get{h:Heap}{H:Hp}{b:Addr}{o:Obj}(e:h.get? b=some o)(n:H b=none):(hidT h H).get? b=some o:=
 PySem.W.hideAll_get _ e fun hm=>by
  have q:(H b).isSome=true:=(dO.mp hm).2;rw[n]at q;simp at q
theorem of_hidT{h:Heap}{H:Hp}{b:Addr}{o:Obj}(e:(hidT h H).get? b=some o):h.get? b=some o/\H b=none:=by
 have e':h.get? b=some o:=PySem.W.of_hideAll (trk h H) e;refine⟨e',?_⟩;cases q:H b with
 |none=>rfl
 |some x=>
  have hm:b∈trk h H:=dO.mpr ⟨lO.mpr (dX e'),by simp[q]⟩;have z:(hidT h H).get? b=none:=PySem.W.hideAll_none (trk h H) hm;rw[z]at e;cases e
structure Mod(K:W.Frag)(mg:L4)(base:Heap):Prop where
 kin:K.In base
 glob:base.Ns mainGlobals mg
 blt:∃mb,base.Ns builtinsNs mb/\∀x:Str,x≠"__name__"->mb x=bootBuiltins x
 nolimit:base.NoLimit
structure Cx where
 prog:ξ
 w:τ
 K:W.Frag
 mg:Str->Option ζ
 base:Heap
 A:υ
 N:List Str
 s₀:η
 H₀:Hp
 env:Env
 outer:List Env
 stack:List Env
 ex:List Addr
 fn:Str->Bool
 calm:Bool
 pn:L1
 xe:ζ->η->Prop
noncomputable def frs(l:List Env):List Addr:=l.filterMap (·.frame)
noncomputable abbrev Cx.fs(X:Cx):List Addr:=frs X.outer
noncomputable def Vis(sc:Scope)(x:Str):Prop:=sc.names.lookup x=some .local\/sc.names.lookup x=some .cell\/sc.names.lookup x=some .free
noncomputable def Loc(sc:Scope)(x:Str):Prop:=sc.names.lookup x=some .local\/sc.names.lookup x=some .cell
noncomputable def Look(env:Env)(h:Heap)(m:L4)(x:Str)(u:ζ):Prop:=
 (env.kindOf x=some .local/\m x=some u)\/((env.kindOf x=some .cell\/env.kindOf x=some .free)/\∃c,env.cells.lookup x=some c/\h.IsCell c (some u))
structure Cx.Ok(X:Cx):Prop where
 mod:Mod X.K X.mg X.base
 kind:X.env.scope.kind= .function
 glob:X.env.globals=mainGlobals
 blt:X.env.builtins=builtinsNs
 above:X.s₀.heap.objs.size<=X.env.locals
 inj:∀x y c,X.env.cells.lookup x=some c->X.env.cells.lookup y=some c->x=y
 has:∀x,(X.env.kindOf x=some .cell\/X.env.kindOf x=some .free)->∃c,X.env.cells.lookup x=some c
 cab:∀x c,X.fn x=true->X.env.cells.lookup x=some c->X.s₀.heap.objs.size<=c
 hd:X.calm=true->X.A.handled=none
 frames:X.A.frames=some X.stack
 stk:X.stack=X.outer\/(X.stack=X.env::X.outer/\X.env.frame=some X.env.locals)
 exf:∀b∈X.ex,b≠X.env.locals/\∀x c,X.env.cells.lookup x=some c->c≠b
 bs:∀b o,X.base.get? b=some o->X.s₀.heap.get? b=some o/\X.H₀ b=none
 bsz:X.base.objs.size<=X.s₀.heap.objs.size
 noex:∀b o,X.base.get? b=some o->b∉X.ex
 exfs:∀b∈X.ex,b∉X.fs
 funs:X.s₀.heap.FunFrames X.base X.outer
 frf:∀b∈X.fs,X.H₀ b=none
structure Inv(X:Cx)(pins:L1)(σ:List (Option V))(H:Hp)(s:η):Prop where
 ok:X.Ok
 os:s.os=X.s₀.os
 bare:AllBare s.gens
 base:Un X.fs X.ex X.H₀ H X.s₀.heap s.heap
 loc:∃m,s.heap.Ns X.env.locals m/\∀(i:Nat) (x:Str) (v:V),X.N[i]? =some x->σ[i]? =some (some v)->Vis X.env.scope x->∃u,RelV v u/\Look X.env s.heap m x u
 cell:∀x c,X.env.cells.lookup x=some c->∃v,s.heap.IsCell c v
 free:H X.env.locals=none
 freeC:∀x c,X.env.cells.lookup x=some c->H c=none
 pin:∀p∈X.pn++pins,s.heap.get? p.1=some p.2/\H p.1=none/\p.1≠X.env.locals/\p.1∉X.fs/\∀v,p.2.data≠.cell v
 hok:HOk X.prog X.w H s.heap
 len:σ.length=X.N.length
section
variable{X:Cx}{pins:L1}{σ:List (Option V)}{H H':Hp}{s:η}{h':Heap}
theorem Cx.Ok.nofr(ok:X.Ok){b:Addr}{o:Obj}(e:X.base.get? b=some o):b∉X.fs:=fun hb=>by
 have:=(ok.funs.mem hb).1;rw[e]at this;cases this
theorem Inv.bs(I:Inv X pins σ H s):∀b o,X.base.get? b=some o->s.heap.get? b=some o/\H b=none:=fun b o e=>
 ⟨I.base.keep b o (I.ok.bs b o e).1 (I.ok.bs b o e).2 (I.ok.nofr e) (I.ok.noex b o e),I.base.free b o (I.ok.bs b o e).1 (I.ok.bs b o e).2 (I.ok.noex b o e)⟩
theorem Inv.bk(I:Inv X pins σ H s):∀b o,X.base.get? b=some o->s.heap.get? b=some o:=fun b o e=>(I.bs b o e).1
theorem Inv.mod(I:Inv X pins σ H s):Mod X.K X.mg X.base:=I.ok.mod
theorem Inv.kIn(I:Inv X pins σ H s):X.K.In s.heap:=I.ok.mod.kin.keeps I.bk
theorem Inv.lt(I:Inv X pins σ H s):X.env.locals<s.heap.objs.size:=let⟨_,hn,_⟩:=I.loc;hn.lt
theorem Inv.sz(I:Inv X pins σ H s):X.s₀.heap.objs.size<=s.heap.objs.size:=eN I.ok.above (dH I.lt)
theorem Inv.nofs(I:Inv X pins σ H s){a:Addr}(h:s.heap.objs.size<=a):a∉X.fs:=fun hb=>by
 obtain⟨_,o,ho,_⟩:=I.ok.funs.mem hb;exact absurd (iT (dX ho) (eN I.sz h)) (pR _)
theorem Inv.cne(I:Inv X pins σ H s):∀x c,X.env.cells.lookup x=some c->c≠X.env.locals:=fun x c e z=>by
 obtain⟨v,o,ho,hd⟩:=I.cell x c e;obtain⟨m,⟨o',es,ep,ho',hd',_⟩,_⟩:=I.loc;rw[z,ho']at ho;cases ho;rw[hd']at hd;cases hd
theorem Inv.funs(I:Inv X pins σ H s):s.heap.FunFrames X.base X.outer:=by
 have all:∀(l:List Env),(∀b∈frs l,b∈X.fs)->X.s₀.heap.FunFrames X.base l->s.heap.FunFrames X.base l:=by
  intro l
  induction l with
  |nil=>intro _ _;trivial
  |cons env r ih=>
   intro hs hl;obtain⟨hk,⟨L,o,hf,hn,ho,hd⟩,hr⟩:=hl;have hL:L∈X.fs:=hs L (by unfold frs;rw[Xi,hf];exact cV);obtain⟨sl,e⟩:=I.base.slot L o ho (I.ok.frf L hL) hL fun z=>I.ok.exfs L z hL;exact⟨hk,⟨L,_,hf,hn,e,hd⟩,ih (fun b hb=>hs b (by unfold frs;rw[Xi,hf];exact dF _ hb)) hr⟩
 exact all X.outer (fun _ hb=>hb) I.ok.funs
theorem Inv.stack(I:Inv X pins σ H s):s.heap.FunFrames X.base X.stack:=by
 rcases I.ok.stk with e|⟨e,hf⟩
 ·rw[e];exact I.funs
 ·rw[e];obtain⟨m,hn,_⟩:=I.loc;refine .cons (by rw[I.ok.kind];decide) hf hn ?_ I.funs;exact Heap.get?_none_of_le (eN I.ok.bsz I.ok.above)
theorem Inv.stkSub(I:Inv X pins σ H s):∀b∈frs X.stack,b∈X.env.locals::X.fs:=fun b hb=>by
 rcases I.ok.stk with e|⟨e,hf⟩
 ·rw[e]at hb;exact dF _ hb
 ·rw[e]at hb;unfold frs at hb;rw[Xi,hf]at hb;exact hb
theorem Inv.stkFree(I:Inv X pins σ H s):∀b∈frs X.stack,H b=none:=fun b hb=>by
 rcases cQ.mp (I.stkSub b hb)with e|hb
 ·rw[e];exact I.free
 ·obtain⟨_,o,ho,_⟩:=I.ok.funs.mem hb;exact I.base.free b o ho (I.ok.frf b hb) fun z=>I.ok.exfs b z hb
theorem Inv.step{g':Array GenState}{t':Nat}{d':Drawn}{ch:List Addr}(I:Inv X pins σ H s)(hch:∀b∈ch,(b∈X.ex\/X.s₀.heap.objs.size<=b)/\b≠X.env.locals/\(∀x c,X.env.cells.lookup x=some c->c≠b)/\∀p∈X.pn++pins,p.1≠b)(keep:∀b o,b≠X.env.locals->b∉X.fs->b∉ch->s.heap.get? b=some o->H b=none->h'.get? b=some o)(slot:∀b o,b≠X.env.locals->b∈X.fs->b∉ch->s.heap.get? b=some o->H b=none->∃sl,h'.get? b=some {o with slots:=sl})(free:∀b o,b∉ch->s.heap.get? b=some o->H b=none->H' b=none)(there:∀b o,b∉ch->s.heap.get? b=some o->∃o',h'.get? b=some o')(tups:∀b xs,H b=some (.tup xs)->H' b=some (.tup xs))(frzs:∀b o u,H b=some (.frz o u)->H' b=some (.frz o u))(tbls:∀b ps,H b=some (.tbl ps)->∃more,H' b=some (.tbl (ps++more)))(ns:∀m,s.heap.Ns X.env.locals m->h'.Ns X.env.locals m)(hok:HOk X.prog X.w H' h')(hg:AllBare g'):
  Inv X pins σ H' {s with heap:=h',gens:=g',drawn:=d',toks:=t'}:=by
 have neL:∀b o,X.s₀.heap.get? b=some o->b≠X.env.locals:=fun b o e=>fM (iT (dX e) I.ok.above);have neC:∀b o,X.s₀.heap.get? b=some o->b∉X.ex->b∉ch:=fun b o e hx hb=>by
  rcases(hch b hb).1 with z|z
  ·exact hx z
  ·exact absurd (iT (dX e) z) (pR _)
 have cellK:∀x c,X.env.cells.lookup x=some c->∀v,s.heap.IsCell c v->h'.IsCell c v:=fun x c e v ⟨o,ho,hd⟩=>by
  have nch:c∉ch:=fun z=>(hch c z).2.2.1 x c e rfl;by_cases hc:c∈X.fs
  ·obtain⟨sl,q⟩:=slot c o (I.cne x c e) hc nch ho (I.freeC x c e);exact⟨_,q,hd⟩
  ·exact⟨o,keep c o (I.cne x c e) hc nch ho (I.freeC x c e),hd⟩
 refine⟨I.ok,I.os,hg,⟨fun b o e n hb hx=> ?_,fun b o e n hb hx=> ?_,fun b o e n hx=> ?_,fun b o e hx=> ?_,fun b xs e=>tups b xs (I.base.tups b xs e),fun b o xs e=>frzs b o xs (I.base.frzs b o xs e),fun b ps e=> ?_⟩,?_,fun x c e=> ?_,?_,fun x c e=> ?_,fun p hp=> ?_,hok,I.len⟩
 ·exact keep b o (neL b o e) hb (neC b o e hx) (I.base.keep b o e n hb hx) (I.base.free b o e n hx)
 ·obtain⟨sl,e1⟩:=I.base.slot b o e n hb hx;obtain⟨sl',e2⟩:=slot b _ (neL b o e) hb (neC b o e hx) e1 (I.base.free b o e n hx);exact⟨sl',e2⟩
 ·obtain⟨o',e1⟩:=I.base.there b o e hx;exact free b o' (neC b o e hx) e1 (I.base.free b o e n hx)
 ·obtain⟨o',e1⟩:=I.base.there b o e hx;exact there b o' (neC b o e hx) e1
 ·obtain⟨m1,e1⟩:=I.base.tbls b ps e;obtain⟨m2,e2⟩:=tbls b _ e1;exact⟨m1++m2,by rw[e2,Array.append_assoc]⟩
 ·obtain⟨m,hn,hl⟩:=I.loc;refine⟨m,ns m hn,fun i x v e1 e2 e3=> ?_⟩;obtain⟨u,r,l⟩:=hl i x v e1 e2 e3;refine⟨u,r,?_⟩;rcases l with l|⟨k,c,e,z⟩
  ·exact .inl l
  ·exact .inr ⟨k,c,e,cellK x c e _ z⟩
 ·obtain⟨v,z⟩:=I.cell x c e;exact⟨v,cellK x c e v z⟩
 ·obtain⟨m,⟨o,_,_,ho,_⟩,_⟩:=I.loc;exact free _ o (fun z=>(hch _ z).2.1 rfl) ho I.free
 ·obtain⟨v,o,ho,hd⟩:=I.cell x c e;exact free c o (fun z=>(hch c z).2.2.1 x c e rfl) ho (I.freeC x c e)
 ·obtain⟨e,n,ne,nf,d⟩:=I.pin p hp;have nch:p.1∉ch:=fun z=>(hch p.1 z).2.2.2 p hp rfl;exact⟨keep p.1 p.2 ne nf nch e n,free p.1 p.2 nch e n,ne,nf,d⟩
theorem Inv.un{t':Nat}(I:Inv X pins σ H s)(u:Un X.fs [] H H' s.heap h')(hok:HOk X.prog X.w H' h'):Inv X pins σ H' {s with heap:=h',toks:=t'}:=by
 obtain⟨m,⟨o,es,ep,ho,r⟩,_⟩:=id I.loc;obtain⟨sl,hL⟩:=u.any ho I.free (by simp);exact I.step (g':=s.gens) (d':=s.drawn) (ch:=[]) (fun _ z=>nomatch z) (fun b o _ hb _ e n=>u.keep b o e n hb (by simp)) (fun b o _ hb _ e n=>u.slot b o e n hb (by simp)) (fun b o _ e n=>u.free b o e n (by simp)) (fun b o _ e=>u.there b o e (by simp)) u.tups u.frzs u.tbls (fun m' hm=>by
  obtain⟨o',es',ep',ho',r'⟩:=hm;rw[ho]at ho';cases ho';exact⟨_,es',ep',hL,r'⟩) hok I.bare
theorem Inv.call{g':Array GenState}{t':Nat}{d':Drawn}{ch:List Addr}(I:Inv X pins σ H s)(u:Un (frs X.stack) ch H H' s.heap h')(hok:HOk X.prog X.w H' h')(hg:AllBare g')(hch:∀b∈ch,(b∈X.ex\/X.s₀.heap.objs.size<=b)/\b≠X.env.locals/\(∀x c,X.env.cells.lookup x=some c->c≠b)/\∀p∈X.pn++pins,p.1≠b):
  Inv X pins σ H' {s with heap:=h',gens:=g',drawn:=d',toks:=t'}:=by
 obtain⟨m,⟨o,es,ep,ho,r⟩,_⟩:=id I.loc;obtain⟨sl,hL⟩:=u.any ho I.free fun z=>(hch _ z).2.1 rfl;exact I.step (ch:=ch) hch (fun b o hL hb hc e n=>u.keep b o e n (fun z=>(cQ.mp (I.stkSub b z)).elim hL hb) hc) (fun b o _ _ hc e n=>u.any e n hc) (fun b o hc e n=>u.free b o e n hc) (fun b o hc e=>u.there b o e hc) u.tups u.frzs u.tbls (fun m' hm=>by
  obtain⟨o',es',ep',ho',r'⟩:=hm;rw[ho]at ho';cases ho';exact⟨_,es',ep',hL,r'⟩) hok hg
theorem Inv.turned{t':Nat}{it:Addr}(I:Inv X pins σ H s)(k:∀b o,b≠it->s.heap.get? b=some o->h'.get? b=some o)(hn:H it=none)(hL:it≠X.env.locals)(h1:it∈X.ex\/X.s₀.heap.objs.size<=it)(h2:∀x c,X.env.cells.lookup x=some c->c≠it)(h3:∀p∈X.pn++pins,p.1≠it):Inv X pins σ H {s with heap:=h',toks:=t'}:=by
 have nit:∀b u,H b=some u->b≠it:=fun b u e z=>by rw[z,hn]at e;cases e
 refine I.step (g':=s.gens) (d':=s.drawn) (ch:=[it]) (fun b hb=> ?_) (fun b o _ _ hc e _=>k b o (fun z=>hc (by simp[z])) e) (fun b o _ _ hc e _=>⟨o.slots,k b o (fun z=>hc (by simp[z])) e⟩) (fun _ _ _ _ n=>n)
  (fun b o hc e=>⟨o,k b o (fun z=>hc (by simp[z])) e⟩) (fun _ _ e=>e) (fun _ _ _ e=>e) (fun b ps e=>⟨#[],by rw[e];simp⟩) (fun m hm=> ?_) (fun b u e=> ?_) I.bare
 ·have e:b=it:=by simpa using hb
  subst e;exact⟨h1,hL,h2,h3⟩
 ·obtain⟨o,es,ep,ho,r⟩:=hm;exact⟨o,es,ep,k _ o (jU hL) ho,r⟩
 ·refine(I.hok b u e).stay (fun c v hc q=>k c v ?_ q) (fun _ q=>q) fun _ _ q=>q;rcases hc with z|z
  ·rw[z];exact nit b u e
  ·exact nit c _ z
theorem Inv.tok(I:Inv X pins σ H s)(t:Nat):Inv X pins σ H {s with toks:=t}:=I.un (h':=s.heap) (t':=t) Un.refl I.hok
theorem Inv.kept{t':Nat}(I:Inv X pins σ H s)(k:∀b u,s.heap.get? b=some u->h'.get? b=some u):Inv X pins σ H {s with heap:=h',toks:=t'}:=I.un (Un.kept k) (I.hok.kept k)
theorem Inv.laid{a:Addr}{o:HO}{t':Nat}(I:Inv X pins σ H s)(k:∀b u,s.heap.get? b=some u->h'.get? b=some u)(hp:s.heap.objs.size<=a)(new:ObjOk X.prog X.w (upd H a o) h' a o):
  Inv X pins σ (upd H a o) {s with heap:=h',toks:=t'}:=I.un (Un.laid k hp (I.hok.fresh hp)) (I.hok.laid k hp new)
theorem Inv.write{x e:Addr}{o:HO}{t':Nat}(I:Inv X pins σ H s)(mu:Mut (H x))(he:e=x\/H e=some (.own x))(k:∀b u,b≠e->s.heap.get? b=some u->h'.get? b=some u)(heo:∃u,h'.get? e=some u)(new:ObjOk X.prog X.w (upd H x o) h' x o):Inv X pins σ (upd H x o) {s with heap:=h',toks:=t'}:=I.un (Un.write mu he k heo) (I.hok.write mu he k heo new)
theorem Inv.pins_of{pins':L1}(I:Inv X pins σ H s)(h:∀p∈pins',s.heap.get? p.1=some p.2/\H p.1=none/\p.1≠X.env.locals/\p.1∉X.fs/\∀v,p.2.data≠.cell v):Inv X pins' σ H s:=
 ⟨I.ok,I.os,I.bare,I.base,I.loc,I.cell,I.free,I.freeC,fun p hp=>(pU.mp hp).elim (fun z=>I.pin p (RM _ z)) (h p),I.hok,I.len⟩
theorem nodup_ix{N:List Str}(hN:N.Nodup){i j:Nat}{x:Str}(a:N[i]? =some x)(b:N[j]? =some x):i=j:=by
 obtain⟨h1,e1⟩:=lV.mp a;obtain⟨h2,e2⟩:=lV.mp b;exact(WY hN).mp (e1.trans e2.symm)
theorem store_ok2{M:Model}{A:υ}{E:L3}{i:Nat}{x:Str}{v:V}{u:ζ}{Q:Unit->η->Prop}(I:Inv X pins σ H s)(hN:X.N.Nodup)(hi:X.N[i]? =some x)(hx:Loc X.env.scope x)(r:RelV v u)(h:∀s',Inv X pins (σ.set i (some v)) H s'->(∃a,Heap.SameBut a s.heap s'.heap/\(a=X.env.locals\/X.env.cells.lookup x=some a))->Q () s')(hf:X.fn x=true\/X.env.scope.names.lookup x=some .local:=by first |exact .inl rfl|exact .inr rfl|assumption):wpAny M A (storeName X.env x u) Q E s:=by
 obtain⟨m,hn,hl⟩:=id I.loc;have hcls:(X.env.scope.kind== .class||(X.env.scope.kind== .module&&X.env.locals !=X.env.globals))=false:=by rw[I.ok.kind];rfl
 have hiσ:i<σ.length:=by rw[I.len];exact(lV.mp hi).1
 have cne:=I.cne;have tracked:∀{a:Addr} {h':Heap},(∃o,s.heap.get? a=some o/\H a=none)->Heap.SameBut a s.heap h'->HOk X.prog X.w H h':=fun{a h'} ha hs b ob e=>by
  obtain⟨_,_,hfree⟩:=ha;refine(I.hok b ob e).stay (fun c w' hc q=>(hs.2 c ?_).trans q) (fun _ q=>q) fun _ _ q=>q;rintro rfl;rcases hc with rfl|hc
  ·rw[hfree]at e;cases e
  ·rw[hfree]at hc;cases hc
 rcases hx with hk|hk
 ·refine wpAny_storeName_local hk hn (fun h' hn' hs=> ?_) hcls;obtain⟨oL,_,_,hoL,_⟩:=id hn;refine h _ ⟨I.ok,I.os,I.bare,⟨fun b o e n hb hx=> ?_,fun b o e n hb hx=> ?_,I.base.free,fun b o e hx=> ?_,I.base.tups,I.base.frzs,I.base.tbls⟩,⟨_,hn',fun j y v' e1 e2 e3=> ?_⟩,fun y c e=> ?_,I.free,I.freeC,fun p hp=> ?_,tracked ⟨oL,hoL,I.free⟩ hs,by simpa using I.len⟩ ⟨_,hs,.inl rfl⟩
  ·exact(hs.2 b (fM (iT (dX e) I.ok.above))).trans (I.base.keep b o e n hb hx)
  ·obtain⟨sl,e1⟩:=I.base.slot b o e n hb hx;exact⟨sl,(hs.2 b (fM (iT (dX e) I.ok.above))).trans e1⟩
  ·obtain⟨o',e1⟩:=I.base.there b o e hx;exact⟨o',(hs.2 b (fM (iT (dX e) I.ok.above))).trans e1⟩
  ·by_cases hj:j=i
   ·subst hj;rw[hi]at e1;cases e1;rw[wey hiσ]at e2;cases e2;exact⟨u,r,.inl ⟨hk,by simp⟩⟩
   ·rw[List.getElem?_set_ne (jU hj)]at e2;obtain⟨u',r',q⟩:=hl j y v' e1 e2 e3;refine⟨u',r',?_⟩;rcases q with⟨k,e⟩|⟨k,c,e,z⟩
    ·refine .inl ⟨k,?_⟩;have:y≠x:=fun e=>hj (nodup_ix hN e1 (e▸hi));simp[this,e]
    ·exact .inr ⟨k,c,e,z.sameBut hs (cne y c e)⟩
  ·obtain⟨w',z⟩:=I.cell y c e;exact⟨w',z.sameBut hs (cne y c e)⟩
  ·obtain⟨e,n,ne,nf,d⟩:=I.pin p hp;exact⟨(hs.2 p.1 ne).trans e,n,ne,nf,d⟩
 ·have hfn:X.fn x=true:=by
   rcases hf with z|z
   ·exact z
   ·rw[z]at hk;cases hk
  obtain⟨c,hc⟩:=I.ok.has x (.inl hk);obtain⟨w',z⟩:=I.cell x c hc;refine wpAny_storeName_cell I.ok.kind hk hc z (fun h' hc' hs=> ?_);obtain⟨oc,hoc,hocd⟩:=id z;refine h {s with heap:=h'} ⟨I.ok,I.os,I.bare,⟨fun b o e n hb hx=> ?_,fun b o e n hb hx=> ?_,I.base.free,fun b o e hx=> ?_,I.base.tups,I.base.frzs,I.base.tbls⟩,⟨m,hn.sameBut hs (jU (cne x c hc)),fun j y v' e1 e2 e3=> ?_⟩,fun y c' e=> ?_,I.free,I.freeC,fun p hp=> ?_,tracked ⟨oc,hoc,I.freeC x c hc⟩ hs,by simpa using I.len⟩ ⟨c,hs,.inr hc⟩
  ·exact(hs.2 b (fM (iT (dX e) (I.ok.cab x c hfn hc)))).trans (I.base.keep b o e n hb hx)
  ·obtain⟨sl,e1⟩:=I.base.slot b o e n hb hx;exact⟨sl,(hs.2 b (fM (iT (dX e) (I.ok.cab x c hfn hc)))).trans e1⟩
  ·obtain⟨o',e1⟩:=I.base.there b o e hx;exact⟨o',(hs.2 b (fM (iT (dX e) (I.ok.cab x c hfn hc)))).trans e1⟩
  ·by_cases hj:j=i
   ·subst hj;rw[hi]at e1;cases e1;rw[wey hiσ]at e2;cases e2;exact⟨u,r,.inr ⟨.inl hk,c,hc,hc'⟩⟩
   ·rw[List.getElem?_set_ne (jU hj)]at e2;obtain⟨u',r',q⟩:=hl j y v' e1 e2 e3;refine⟨u',r',?_⟩;rcases q with q|⟨k,c',e,z'⟩
    ·exact .inl q
    ·refine .inr ⟨k,c',e,z'.sameBut hs ?_⟩;rintro rfl;exact hj (nodup_ix hN e1 (I.ok.inj _ _ _ e hc▸hi))
  ·by_cases hcc:c'=c
   ·subst hcc;exact⟨_,hc'⟩
   ·obtain⟨w2,z2⟩:=I.cell y c' e;exact⟨w2,z2.sameBut hs hcc⟩
  ·obtain⟨e,n,ne,nf,d⟩:=I.pin p hp;refine⟨(hs.2 p.1 ?_).trans e,n,ne,nf,d⟩;intro q;rw[q,hoc]at e;have q':oc=p.2:=qY e;exact d w' (by rw[<-q'];exact hocd)
theorem store_ok{M:Model}{A:υ}{E:L3}{i:Nat}{x:Str}{v:V}{u:ζ}{Q:Unit->η->Prop}(I:Inv X pins σ H s)(hN:X.N.Nodup)(hi:X.N[i]? =some x)(hx:Loc X.env.scope x)(r:RelV v u)(h:∀s',Inv X pins (σ.set i (some v)) H s'->Q () s')(hf:X.fn x=true\/X.env.scope.names.lookup x=some .local:=by first |exact .inl rfl|exact .inr rfl|assumption):wpAny M A (storeName X.env x u) Q E s:=
 store_ok2 I hN hi hx r (fun s' I' _=>h s' I') hf
theorem Inv.call'{s':η}{ch:List Addr}(I:Inv X pins σ H s)(ho:s'.os=s.os)(u:Un (frs X.stack) ch H H' s.heap s'.heap)(hok:HOk X.prog X.w H' s'.heap)(hg:AllBare s'.gens)(hch:∀b∈ch,(b∈X.ex\/X.s₀.heap.objs.size<=b)/\b≠X.env.locals/\(∀x c,X.env.cells.lookup x=some c->c≠b)/\∀p∈X.pn++pins,p.1≠b):Inv X pins σ H' s':=by
 obtain⟨h',g',d',t',o'⟩:=s';have e:o'=s.os:=ho;subst e;exact I.call (g':=g') (t':=t') (d':=d') u hok hg hch
end
noncomputable abbrev XK:=ζ->Option Addr->Hp->Prop
noncomputable abbrev St:=List (Option V)
noncomputable abbrev VK:=V->Hp->Prop
noncomputable abbrev TE:=St->Hp->VK->Prop
noncomputable abbrev TT:=St->Hp->(Bool->Hp->Prop)->Prop
noncomputable abbrev TA:=St->Hp->(List V->Hp->Prop)->Prop
structure Ends where
 nx:St->Hp->Prop
 rt:VK
 bk:St->Hp->Prop:=fun _ _=>False
 ct:St->Hp->Prop:=fun _ _=>False
noncomputable abbrev TS:=Ends->St->Hp->Prop
noncomputable def EP(X:Cx)(pins:L1)(σ:St)(Q:VK)(u:ζ)(s':η):Prop:=∃v H',Inv X pins σ H' s'/\RelV v u/\Q v H'
noncomputable def TP(X:Cx)(pins:L1)(σ:St)(Q:Bool->Hp->Prop)(b:Bool)(s':η):Prop:=∃H',Inv X pins σ H' s'/\Q b H'
noncomputable def AP(X:Cx)(pins:L1)(σ:St)(Q:List V->Hp->Prop)(us:List ζ)(s':η):Prop:=∃vs H',Inv X pins σ H' s'/\Vals vs us/\Q vs H'
noncomputable def SP(X:Cx)(pins:L1)(D:Ends)(f:Flow)(s':η):Prop:=
 match f with
 | .next=>∃σ' H',Inv X pins σ' H' s'/\D.nx σ' H'
 | .brk=>∃σ' H',Inv X pins σ' H' s'/\D.bk σ' H'
 | .cont=>∃σ' H',Inv X pins σ' H' s'/\D.ct σ' H'
 | .ret u=>∃v σ' H',Inv X pins σ' H' s'/\RelV v u/\D.rt v H'
noncomputable def PE(X:Cx)(e:Expr)(t:TE):Prop:=
 ∀(pins:L1) (s:η) (σ:St) (H:Hp) (Q:VK),Inv X pins σ H s->t σ H Q->wpAny (model X.prog X.w) X.A (eval e X.env) (EP X pins σ Q) X.xe s
noncomputable def PT(X:Cx)(e:Expr)(t:TT):Prop:=
 ∀(pins:L1) (s:η) (σ:St) (H:Hp) (Q:Bool->Hp->Prop),Inv X pins σ H s->t σ H Q->wpAny (model X.prog X.w) X.A (isTrue e X.env (eval e X.env)) (TP X pins σ Q) X.xe s
noncomputable def PW(X:Cx)(e:Expr)(t:TT):Prop:=
 ∀(whole:Sem ζ) (pins:L1) (s:η) (σ:St) (H:Hp) (Q:Bool->Hp->Prop),Inv X pins σ H s->t σ H Q->wpAny (model X.prog X.w) X.A (isTrue e X.env whole) (TP X pins σ Q) X.xe s
theorem PW.pt{X:Cx}{e:Expr}{t:TT}(h:PW X e t):PT X e t:=h _
noncomputable def PA(X:Cx)(es:List Expr)(t:TA):Prop:=
 ∀(pos:Pos) (pins:L1) (s:η) (σ:St) (H:Hp) (Q:List V->Hp->Prop),Inv X pins σ H s->t σ H Q->wpAny (model X.prog X.w) X.A (spliced (backTo pos (starEach es X.env))) (AP X pins σ Q) X.xe s
noncomputable def PS(X:Cx)(st:Stmt)(t:TS):Prop:=
 ∀(pins:L1) (s:η) (σ:St) (H:Hp) (D:Ends),Inv X pins σ H s->t D σ H->wpAny (model X.prog X.w) X.A (exec st X.env) (SP X pins D) X.xe s
noncomputable def PSs(X:Cx)(st:List Stmt)(t:TS):Prop:=
 ∀(pins:L1) (s:η) (σ:St) (H:Hp) (D:Ends),Inv X pins σ H s->t D σ H->wpAny (model X.prog X.w) X.A (execs st X.env) (SP X pins D) X.xe s
theorem thn{α:Type}{t:Sem α}{Q Q':α->η->Prop}{M:Model}{A:υ}{E:L3}{s:η}(h:wpAny M A t Q E s)(hQ:∀a s,Q a s->Q' a s):wpAny M A t Q' E s:=Mi h hQ fun _ _ x=>x
section
variable{X:Cx}
noncomputable def tVar(i:Nat):TE:=fun σ H Q=>∃v,σ[i]? =some (some v)/\Q v H
noncomputable def tC(v:V):TE:=fun _ H Q=>Q v H
theorem pe_var{i:Nat}{x:Str}{pos:Pos}(hN:X.N[i]? =some x)(hv:Vis X.env.scope x)(hd:(x==("__debug__":Str))=false:=by decide)(hcd:(x==("__classdict__":Str))=false:=by decide):PE X (.Name x pos) (tVar i):=by
 intro pins s σ H Q I h;obtain⟨v,e,h⟩:=h;obtain⟨m,hn,hl⟩:=I.loc;obtain⟨u,r,l⟩:=hl i x v hN e hv;have fin:EP X pins σ Q u s:=⟨v,H,I,r,h⟩;rcases l with⟨hk,hm⟩|⟨hk,c,hc,hcell⟩
 ·exact wpAny_Name (wpAny_loadName_local I.ok.kind hk hn hm fin) hd
 ·rcases hk with hk|hk
  ·exact wpAny_Name (wpAny_loadName_cell I.ok.kind hk hc hcell fin) hd
  ·exact wpAny_Name (wpAny_loadName_free I.ok.kind hk hc hcell fin hcd) hd
theorem aL{i j pos}:PE X (.Constant (.int i) j pos) (tC (.int i)):=fun _ _ _ H _ I h=>wpAny_Constant_int ⟨.int i,H,I.tok _,⟨_,rfl⟩,h⟩
theorem pe_bl{b j pos}:PE X (.Constant (.bool b) j pos) (tC (.bl b)):=fun _ _ _ H _ I h=>Constant_bool ⟨.bl b,H,I,rfl,h⟩
theorem pe_non{j pos}:PE X (.Constant .none j pos) (tC .non):=fun _ _ _ H _ I h=>Constant_none ⟨.non,H,I,rfl,h⟩
noncomputable def Gl(X:Cx)(x:Str):Prop:=X.env.kindOf x=some .globalImplicit
theorem ld_glob{E:L3}{pins:L1}{s:η}{σ:St}{H:Hp}{x:Str}{u:ζ}{pos:Pos}{Q:L3}(I:Inv X pins σ H s)(hg:Gl X x)(hm:X.mg x=some u)(h:Q u s)(hd:(x==("__debug__":Str))=false:=by decide):wpAny (model X.prog X.w) X.A (eval (.Name x pos) X.env) Q E s:=
 Calls.Name_function_global I.ok.kind hg (Calls.loadGlobal_global (by rw[I.ok.glob];exact I.mod.glob.keeps I.bk) hm h) hd
theorem ld_blt{E:L3}{pins:L1}{s:η}{σ:St}{H:Hp}{x:Str}{u:ζ}{pos:Pos}{Q:L3}(I:Inv X pins σ H s)(hg:Gl X x)(hm:X.mg x=none)(hv:bootBuiltins x=some u)(h:Q u s)(hn:x≠"__name__":=by decide)(hd:(x==("__debug__":Str))=false:=by decide):wpAny (model X.prog X.w) X.A (eval (.Name x pos) X.env) Q E s:=by
 obtain⟨mb,h1,h2⟩:=I.mod.blt;exact Calls.Name_function_global I.ok.kind hg (Calls.loadGlobal_builtin (by rw[I.ok.glob];exact I.mod.glob.keeps I.bk) hm (by rw[I.ok.blt];exact h1.keeps I.bk) ((h2 x hn).trans hv) h) hd
theorem pe_glob{x:Str}{v:V}{u:ζ}{pos:Pos}(hg:Gl X x)(hm:X.mg x=some u)(r:RelV v u)(hd:(x==("__debug__":Str))=false:=by decide):PE X (.Name x pos) (tC v):=
 fun _ _ _ H _ I h=>ld_glob I hg hm ⟨v,H,I,r,h⟩ hd
theorem pe_bltn{x:Str}{v:V}{u:ζ}{pos:Pos}(hg:Gl X x)(hm:X.mg x=none)(hv:bootBuiltins x=some u)(r:RelV v u)(hn:x≠"__name__":=by decide)(hd:(x==("__debug__":Str))=false:=by decide):PE X (.Name x pos) (tC v):=
 fun _ _ _ H _ I h=>ld_blt I hg hm hv ⟨v,H,I,r,h⟩ hn hd
theorem pN{x:Str}{pos:Pos}(T:String)(hm:X.mg x=none)(hv:bootBuiltins x=some (.type T):=by decide+kernel)(hg:Gl X x:=by rfl)(hn:x≠"__name__":=by decide)(hd:(x==("__debug__":Str))=false:=by decide):PE X (.Name x pos) (tC (.ty T)):=pe_bltn hg hm hv rfl hn hd
variable{a b:Expr}{ta tb:TE}{pos:Pos}
noncomputable def tB(t:TE):TT:=fun σ H Q=>t σ H fun x H1=>∃c,x= .bl c/\Q c H1
theorem zU{e:Expr}{t:TE}(h:PE X e t)(he:∀whole,isTrue e X.env whole=(do let v<-whole;standAt e.pos;holding [v] (truthy v)):=by intro _;rfl):PT X e (tB t):=by
 intro pins s σ H Q I hw;refine isTrue_plain (thn (h pins s σ H _ I hw) fun v s1 ⟨x,H1,I1,r1,q1⟩=> ?_) (he _);obtain⟨d,rfl,q⟩:=q1;cases r1;exact Ml ⟨H1,I1,q⟩
variable{tA tB':TT}{rest:List Expr}
noncomputable def tAnd(t u:TT):TT:=fun σ H Q=>t σ H fun c H1=>if c=true then u σ H1 Q else Q false H1
noncomputable def tOr(t u:TT):TT:=fun σ H Q=>t σ H fun c H1=>if c=true then Q true H1 else u σ H1 Q
noncomputable def tNot(t:TT):TT:=fun σ H Q=>t σ H fun c H1=>Q (!c) H1
theorem pw_and1(ha:PT X a tA):PW X (.BoolOp .And [a] pos) tA:=by
 intro wh pins s σ H Q I h;refine isTrue_and (thn (ha pins s σ H Q I h) fun c s1 e=> ?_);cases c with
 |true=>exact isTrue_and_nil e
 |false=>exact e
theorem pw_or1(ha:PT X a tA):PW X (.BoolOp .Or [a] pos) tA:=by
 intro wh pins s σ H Q I h;refine isTrue_or (thn (ha pins s σ H Q I h) fun c s1 e=> ?_);cases c with
 |false=>exact isTrue_or_nil e
 |true=>exact e
theorem pw_and(ha:PT X a tA)(hb:PW X (.BoolOp .And (b::rest) pos) tB'):PW X (.BoolOp .And (a::b::rest) pos) (tAnd tA tB'):=by
 intro wh pins s σ H Q I h;refine isTrue_and (thn (ha pins s σ H _ I h) fun c s1 ⟨H1,I1,q1⟩=> ?_);cases c with
 |true=>exact hb wh pins s1 σ H1 Q I1 q1
 |false=>exact⟨H1,I1,q1⟩
theorem pw_or(ha:PT X a tA)(hb:PW X (.BoolOp .Or (b::rest) pos) tB'):PW X (.BoolOp .Or (a::b::rest) pos) (tOr tA tB'):=by
 intro wh pins s σ H Q I h;refine isTrue_or (thn (ha pins s σ H _ I h) fun c s1 ⟨H1,I1,q1⟩=> ?_);cases c with
 |true=>exact⟨H1,I1,q1⟩
 |false=>exact hb wh pins s1 σ H1 Q I1 q1
theorem pt_not(ha:PT X a tA):PT X (.UnaryOp .Not a pos) (tNot tA):=by
 intro pins s σ H Q I h;exact isTrue_not (ha pins s σ H (fun c H1=>Q (!c) H1) I h)
noncomputable def tAndV(ta tb:TE):TE:=fun σ H Q=>ta σ H fun x H1=>∃c,x= .bl c/\if c=true then tb σ H1 Q else Q (.bl false) H1
noncomputable def tOrV(ta tb:TE):TE:=fun σ H Q=>ta σ H fun x H1=>∃c,x= .bl c/\if c=true then Q (.bl true) H1 else tb σ H1 Q
noncomputable def tNotV(ta:TE):TE:=fun σ H Q=>ta σ H fun x H1=>∃c,x= .bl c/\Q (.bl (!c)) H1
theorem pe_one{op}{t:TE}(h:PE X a t):PE X (.BoolOp op [a] pos) t:=fun pins s σ H Q I hw=>BoolOp_one (h pins s σ H Q I hw)
theorem pe_and(ha:PE X a ta)(hb:PE X (.BoolOp .And (b::rest) pos) tb):PE X (.BoolOp .And (a::b::rest) pos) (tAndV ta tb):=by
 intro pins s σ H Q I h;refine BoolOp_and (thn (ha pins s σ H _ I h) fun v s1 ⟨x,H1,I1,r1,q1⟩=> ?_);obtain⟨c,rfl,q1⟩:=q1;cases r1;refine Ml ?_;cases c with
 |true=>exact hb pins s1 σ H1 Q I1 q1
 |false=>exact⟨.bl false,H1,I1,rfl,q1⟩
theorem pe_or(ha:PE X a ta)(hb:PE X (.BoolOp .Or (b::rest) pos) tb):PE X (.BoolOp .Or (a::b::rest) pos) (tOrV ta tb):=by
 intro pins s σ H Q I h;refine BoolOp_or (thn (ha pins s σ H _ I h) fun v s1 ⟨x,H1,I1,r1,q1⟩=> ?_);obtain⟨c,rfl,q1⟩:=q1;cases r1;refine Ml ?_;cases c with
 |false=>exact hb pins s1 σ H1 Q I1 q1
 |true=>exact⟨.bl true,H1,I1,rfl,q1⟩
theorem pe_not(ha:PE X a ta):PE X (.UnaryOp .Not a pos) (tNotV ta):=by
 intro pins s σ H Q I h;refine UnaryOp_ (thn (ha pins s σ H _ I h) fun v s1 ⟨x,H1,I1,r1,q1⟩=> ?_);obtain⟨c,rfl,q1⟩:=q1;cases r1;exact not_of (Ml ⟨.bl (!c),H1,I1,rfl,q1⟩)
noncomputable def tIf(t:TT)(ta tb:TE):TE:=fun σ H Q=>t σ H fun c H1=>if c=true then ta σ H1 Q else tb σ H1 Q
theorem pe_ifExp{c:Expr}(hc:PT X c tA)(ha:PE X a ta)(hb:PE X b tb):PE X (.IfExp c a b pos) (tIf tA ta tb):=by
 intro pins s σ H Q I h;refine wpAny_IfExp (thn (hc pins s σ H _ I h) fun d s1 ⟨H1,I1,q1⟩=> ?_);cases d with
 |true=>exact ha pins s1 σ H1 Q I1 q1
 |false=>exact hb pins s1 σ H1 Q I1 q1
end
noncomputable def SqL(K:W.Frag)(H:Hp)(a:Addr)(xs:List V):Prop:=
 Rd H a (.lst xs)\/
  ∃(o:Obj) (its:Array ζ) (n:Nat),K.lookup a=some o/\o.cls= .type "list"/\o.dict=none/\o.data= .seq its n/\its.size<=sizeLine/\Vals xs its.toList
noncomputable def SqT(K:W.Frag)(H:Hp)(a:Addr)(xs:List V):Prop:=
 Rd H a (.tup xs)\/
  ∃(o:Obj) (its:Array ζ) (n:Nat),K.lookup a=some o/\o.cls= .type "tuple"/\o.data= .seq its n/\its.size<=sizeLine/\Vals xs its.toList
noncomputable def absV:ζ->Option V
 | .none=>some .non
 | .bool b=>some (.bl b)
 | .int i _=>some (.int i)
 | .str x _=>some (.str x)
 | .bytes b _=>some (.byt b)
 | .float b _=>some (.flt b)
 | .ref a=>some (.ref a)
 | .type n=>some (.ty n)
 |_=>none
theorem RelV.abs{x:V}{u:ζ}(r:RelV x u):absV u=some x:=by
 cases x with
 |non=>cases r;rfl
 |bl _=>cases r;rfl
 |int _=>obtain⟨t,rfl⟩:=r;rfl
 |str _=>obtain⟨t,rfl⟩:=r;rfl
 |byt _=>obtain⟨t,rfl⟩:=r;rfl
 |flt _=>obtain⟨t,rfl⟩:=r;rfl
 |ref _=>cases r;rfl
 |ty _=>cases r;rfl
theorem RelV.inj{x y:V}{u:ζ}(r:RelV x u)(q:RelV y u):x=y:=qY (r.abs.symm.trans q.abs)
theorem Vals.inj{xs ys:List V}{us:List ζ}(h:Vals xs us)(h':Vals ys us):xs=ys:=by
 induction h generalizing ys with
 |nil=>cases h';rfl
 |cons r _ ih=>cases h' with |cons r' t'=>rw[r.inj r',ih t']
section
variable{X:Cx}{pins:L1}{σ:St}{H:Hp}{s:η}{a:Addr}{xs ys:List V}
theorem SqL.of{K:W.Frag}(h:H a=some (.lst xs)):SqL K H a xs:= .inl (.inl h)
theorem SqT.of{K:W.Frag}(h:H a=some (.tup xs)):SqT K H a xs:= .inl (.inl h)
theorem Inv.list(I:Inv X pins σ H s)(h:SqL X.K H a xs):∃its:List ζ,Vals xs its/\PlainL s.heap a its.toArray/\xs.length<=sizeLine:=by
 rcases h with h|⟨o,its,n,hk,hc,hd,hs,hz,r⟩
 ·obtain⟨z,its,n,r,e⟩:=h.ok I.hok;exact⟨its,r,⟨_,n,e,rfl,rfl,rfl⟩,z⟩
 ·refine⟨its.toList,r,⟨o,n,I.kIn a o hk,hc,hd,by simpa using hs⟩,?_⟩;have e:=r.length;simp only[QJ]at e;omega
theorem Inv.tuple(I:Inv X pins σ H s)(h:SqT X.K H a xs):∃its:List ζ,Vals xs its/\IsTup s.heap a its.toArray/\xs.length<=sizeLine:=by
 rcases h with h|⟨o,its,n,hk,hc,hs,hz,r⟩
 ·obtain⟨z,its,r,p⟩:=h.ok I.hok;exact⟨its,r,p,z⟩
 ·refine⟨its.toList,r,⟨o,I.kIn a o hk,hc,n,by simpa using hs⟩,?_⟩;have e:=r.length;simp only[QJ]at e;omega
theorem Inv.list_inj(I:Inv X pins σ H s)(h:SqL X.K H a xs)(h':SqL X.K H a ys):xs=ys:=by
 obtain⟨its,r,⟨o,n,e,_,_,d⟩,_⟩:=I.list h;obtain⟨its',r',⟨o',n',e',_,_,d'⟩,_⟩:=I.list h';rw[e]at e';cases e';rw[d]at d';injection d' with d1 _
 have:its=its':=by simpa using gq Array.toList d1
 subst this;exact r.inj r'
theorem Inv.tuple_inj(I:Inv X pins σ H s)(h:SqT X.K H a xs)(h':SqT X.K H a ys):xs=ys:=by
 obtain⟨its,r,⟨o,e,_,n,d⟩,_⟩:=I.tuple h;obtain⟨its',r',⟨o',e',_,n',d'⟩,_⟩:=I.tuple h';rw[e]at e';cases e';rw[d]at d';injection d' with d1 _
 have:its=its':=by simpa using gq Array.toList d1
 subst this;exact r.inj r'
end
noncomputable abbrev Cx.wish(X:Cx)(E:L3):Cx:={X with xe:=E}
noncomputable abbrev Cx.nox(X:Cx):Cx:=X.wish fun _ _=>False
theorem Cx.Ok.wish{X:Cx}(ok:X.Ok)(E:L3):(X.wish E).Ok:=
 ⟨ok.mod,ok.kind,ok.glob,ok.blt,ok.above,ok.inj,ok.has,ok.cab,ok.hd,ok.frames,ok.stk,ok.exf,ok.bs,ok.bsz,ok.noex,ok.exfs,ok.funs,ok.frf⟩
theorem Cx.Ok.unwish{X:Cx}{E:L3}(ok:(X.wish E).Ok):X.Ok:=
 ⟨ok.mod,ok.kind,ok.glob,ok.blt,ok.above,ok.inj,ok.has,ok.cab,ok.hd,ok.frames,ok.stk,ok.exf,ok.bs,ok.bsz,ok.noex,ok.exfs,ok.funs,ok.frf⟩
section
variable{X:Cx}{pins:L1}{σ:St}{H:Hp}{s:η}{E:L3}
theorem Inv.wish(I:Inv X pins σ H s)(E:L3):Inv (X.wish E) pins σ H s:=⟨I.ok.wish E,I.os,I.bare,I.base,I.loc,I.cell,I.free,I.freeC,I.pin,I.hok,I.len⟩
theorem Inv.unwish(I:Inv (X.wish E) pins σ H s):Inv X pins σ H s:=⟨I.ok.unwish,I.os,I.bare,I.base,I.loc,I.cell,I.free,I.freeC,I.pin,I.hok,I.len⟩
theorem SP.unwish{D:Ends}{f:Flow}{s':η}(h:SP (X.wish E) pins D f s'):SP X pins D f s':=by
 cases f with
 |next=>obtain⟨σ',H',I,q⟩:=h;exact⟨σ',H',I.unwish,q⟩
 |brk=>obtain⟨σ',H',I,q⟩:=h;exact⟨σ',H',I.unwish,q⟩
 |cont=>obtain⟨σ',H',I,q⟩:=h;exact⟨σ',H',I.unwish,q⟩
 |ret u=>obtain⟨v,σ',H',I,r,q⟩:=h;exact⟨v,σ',H',I.unwish,r,q⟩
theorem PSs.nox{st:List Stmt}{t:TS}(h:PSs X.nox st t):PSs X st t:=fun pins s σ H D I hw=>
 Mi (h pins s σ H D (I.wish _) hw) (fun _ _ q=>q.unwish) fun _ _ z=>False.elim z
end
section
variable{X:Cx}{st:Stmt}{rest:List Stmt}{t u:TS}{e:Expr}{te:TE}{pos:Pos}
noncomputable def tNext:TS:=fun D σ H=>D.nx σ H
noncomputable def tSeq(t u:TS):TS:=fun D σ H=>t {D with nx:=u D} σ H
theorem iJ:PSs X [] tNext:=fun _ _ σ H _ I h=>wdi ⟨σ,H,I,h⟩
theorem aV(h1:PS X st t)(h2:PSs X rest u):PSs X (st::rest) (tSeq t u):=by
 intro pins s σ H D I h;refine wpAny_execs_cons (thn (h1 pins s σ H {D with nx:=u D} I h) fun f s1 q=> ?_);cases f with
 |next=>
  obtain⟨σ',H',I',q⟩:=q;exact h2 pins s1 σ' H' D I' q
 |ret v=>exact q
 |brk=>exact q
 |cont=>exact q
theorem bf(h1:PS X st t):PSs X [st] t:=by
 intro pins s σ H D I h;refine wpAny_execs_cons (thn (h1 pins s σ H D I h) fun f s1 q=> ?_);cases f with
 |next=>exact wdi q
 |ret v=>exact q
 |brk=>exact q
 |cont=>exact q
noncomputable def tBreak:TS:=fun D σ H=>D.bk σ H
theorem ps_break:PS X (.Break pos) tBreak:=fun _ _ σ H _ I h=>wpAny_Break ⟨σ,H,I,h⟩
theorem Inv.quiet{pins:L1}{σ:St}{H:Hp}{s:η}(I:Inv X pins σ H s):interactive X.env=false:=by simp[interactive,I.ok.kind]
noncomputable def tDrop(te:TE):TS:=fun D σ H=>te σ H fun _ H1=>D.nx σ H1
theorem qR(he:PE X e te)(hs:swapsWith e none pos.line X.env=pure false:=by rfl):PS X (.Expr e pos) (tDrop te):=by
 intro pins s σ H D I h;exact wpAny_Expr_any (thn (he pins s σ H _ I h) fun v s1 ⟨x,H1,I1,r1,q1⟩=>⟨σ,H1,I1,q1⟩) I.quiet hs
noncomputable def tRet(te:TE):TS:=fun D σ H=>te σ H D.rt
theorem cD(he:PE X e te):PS X (.Return (some e) pos) (tRet te):=by
 intro pins s σ H D I h;exact wpAny_Return_some (thn (he pins s σ H _ I h) fun v s1 ⟨x,H1,I1,r1,q1⟩=>⟨x,σ,H1,I1,r1,q1⟩)
noncomputable def tIfS(c:TT)(t u:TS):TS:=fun D σ H=>c σ H fun b H1=>if b=true then t D σ H1 else u D σ H1
theorem gZ{c:Expr}{a b:List Stmt}{tc:TT}(hc:PT X c tc)(ha:PSs X a t)(hb:PSs X b u):PS X (.If c a b pos) (tIfS tc t u):=by
 intro pins s σ H D I h;refine wpAny_If (thn (hc pins s σ H _ I h) fun d s1 ⟨H1,I1,q1⟩=> ?_);cases d with
 |true=>exact ha pins s1 σ H1 D I1 q1
 |false=>exact hb pins s1 σ H1 D I1 q1
noncomputable def tNever:TS:=fun _ _ _=>False
theorem pss_never{sts:List Stmt}:PSs X sts tNever:=fun _ _ _ _ _ _ h=>h.elim
end
noncomputable abbrev TG:=V->St->Hp->(St->Hp->Prop)->Prop
noncomputable abbrev TGs:=List V->St->Hp->(St->Hp->Prop)->Prop
noncomputable def PG(X:Cx)(target:Expr)(t:TG):Prop:=
 ∀(pins:L1) (s:η) (σ:St) (H:Hp) (v:V) (u:ζ) (Q:St->Hp->Prop),Inv X pins σ H s->RelV v u->t v σ H Q->
  wpAny (model X.prog X.w) X.A (assign target X.env u) (fun _ s'=>∃σ' H',Inv X pins σ' H' s'/\Q σ' H') X.xe s
noncomputable def PGs(X:Cx)(ts:List Expr)(t:TGs):Prop:=
 ∀(pins:L1) (s:η) (σ:St) (H:Hp) (vs:List V) (us:List ζ) (Q:St->Hp->Prop),Inv X pins σ H s->Vals vs us->t vs σ H Q->
  wpAny (model X.prog X.w) X.A (assignInOrder ((assignEach ts X.env).map (·.2)) us) (fun _ s'=>∃σ' H',Inv X pins σ' H' s'/\Q σ' H') X.xe s
noncomputable abbrev TSet:=V->V->V->Hp->(Hp->Prop)->Prop
noncomputable def PSet(X:Cx)(t:TSet):Prop:=
 ∀(pins:L1) (s:η) (σ:St) (H:Hp) (o i v:V) (ov iv u:ζ) (Q:Hp->Prop),Inv X pins σ H s->RelV o ov->RelV i iv->RelV v u->t o i v H Q->
  wpAny (model X.prog X.w) X.A (setItem ov iv u) (fun _ s'=>∃H',Inv X pins σ H' s'/\Q H') X.xe s
section
variable{X:Cx}{pos:Pos}
noncomputable def gName(i:Nat):TG:=fun v σ H Q=>Q (σ.set i (some v)) H
theorem pg_name{i:Nat}{x:Str}(hN:X.N.Nodup)(hi:X.N[i]? =some x)(hx:Loc X.env.scope x)(hf:X.fn x=true\/X.env.scope.names.lookup x=some .local:=by first |exact .inl rfl|exact .inr rfl|assumption):PG X (.Name x pos) (gName i):=by
 intro pins s σ H v u Q I r h;exact wpAny_assign_Name (store_ok I hN hi hx r (fun s' I'=>⟨_,H,I',h⟩) hf)
theorem pG{X:Cx}{x:Str}{pos:Pos}(i:Nat)(hN:decide X.N.Nodup=true:=by kernel_rfl)(hi:X.N[i]? =some x:=by rfl)(hx:Loc X.env.scope x:=by first |exact Or.inl rfl|exact Or.inr rfl)(hf:X.fn x=true\/X.env.scope.names.lookup x=some .local:=by first |exact .inl rfl|exact .inr rfl|assumption):PG X (.Name x pos) (gName i):=pg_name (j9 hN) hi hx hf
noncomputable def gNil:TGs:=fun vs σ H Q=>vs=[]/\Q σ H
noncomputable def gCons(t:TG)(u:TGs):TGs:=fun vs σ H Q=>∃v r,vs=v::r/\t v σ H fun σ' H'=>u r σ' H' Q
theorem pgs_nil:PGs X [] gNil:=by
 intro pins s σ H vs us Q I r h;obtain⟨e,h⟩:=h;subst e;cases r;exact assignInOrder_nil ⟨σ,H,I,h⟩
theorem uq{e:Expr}{es:List Expr}{t:TG}{u:TGs}(h1:PG X e t)(h2:PGs X es u)(hs:(assignEach (e::es) X.env).map (·.2)=assign e X.env::(assignEach es X.env).map (·.2):=by rfl):PGs X (e::es) (gCons t u):=by
 intro pins s σ H vs us Q I r h;obtain⟨v,vr,e1,h⟩:=h;subst e1;cases r with
 |cons r rr=>
  rw[hs];refine assignInOrder_cons (thn (h1 pins s σ H _ _ _ I r h) fun _ s1 ⟨σ1,H1,I1,q1⟩=> ?_);exact h2 pins s1 σ1 H1 _ _ Q I1 rr q1
noncomputable def gTup(K:W.Frag)(n:Nat)(t:TGs):TG:=fun v σ H Q=>∃a xs,v= .ref a/\SqT K H a xs/\xs.length=n/\t xs σ H Q
theorem pg_tup{es:List Expr}{k:Nat}{t:TGs}{n:Nat}(hc:X.calm=true)(h:PGs X es t)(hn:(assignEach es X.env).length=n:=by rfl)(hst:(assignEach es X.env).findIdx? (·.1)=none:=by rfl):PG X (.Tuple es k pos) (gTup X.K n t):=by
 intro pins s σ H v u Q I r hw;obtain⟨a,xs,e1,hq,hl,hw⟩:=hw;subst e1;cases r;obtain⟨its,rv,ht,hz⟩:=I.tuple hq;refine assign_Tuple_tuple (I.ok.hd hc) ht (by simp[hn,<-hl,rv.length]) hst fun h' hx=> ?_;have I1:Inv X pins σ H {s with heap:=h'}:=I.kept (t':=s.toks) fun b o e=>hx b o (fM (dX e)) e;exact h pins _ σ H xs _ Q I1 (by simpa using rv) hw
noncomputable def gSub(to ti:TE)(t:TSet):TG:=fun v σ H Q=>to σ H fun o H1=>ti σ H1 fun i H2=>t o i v H2 fun H3=>Q σ H3
theorem pg_sub{o i:Expr}{to ti:TE}{t:TSet}(ho:PE X o to)(hi:PE X i ti)(hs:PSet X t)(ha:∀v,assign (.Subscript o i pos) X.env v=(do
   let ov<-holding [v] (eval o X.env);let iv<-holding [v,ov] (eval i X.env)
   standAt pos
   holding [v,ov,iv] (setItem ov iv v)
   release [v,ov,iv] []):=by intro _;rfl):PG X (.Subscript o i pos) (gSub to ti t):=by
 intro pins s σ H v u Q I r h;rw[ha];refine aM (CQ (thn (ho pins s σ H _ I h) fun ov s1 ⟨x,H1,I1,r1,q1⟩=> ?_));refine aM (CQ (thn (hi pins s1 σ H1 _ I1 q1) fun iv s2 ⟨y,H2,I2,r2,q2⟩=> ?_));refine aM (wpAny_standAt (aM (CQ (thn (hs pins s2 σ H2 x y v ov iv u _ I2 r1 r2 r q2) fun _ s3 ⟨H3,I3,q3⟩=> ?_))));exact wpAny_release ⟨σ,H3,I3,q3⟩
noncomputable def tAsg(te:TE)(g:TG):TS:=fun D σ H=>te σ H fun x H1=>g x σ H1 D.nx
theorem ps_asg{tg e:Expr}{te:TE}{g:TG}(he:PE X e te)(hg:PG X tg g)(hs:swapsWithSole [tg] e pos.line X.env=pure false:=by rfl)(hw:swappedStores [tg] e X.env=pure none:=by rfl)(h1:(assignEach [tg] X.env).map (·.2)=[assign tg X.env]:=by rfl):PS X (.Assign [tg] e pos) (tAsg te g):=by
 intro pins s σ H D I h;refine wpAny_Assign_stores (thn (he pins s σ H _ I h) fun v s1 ⟨x,H1,I1,r1,q1⟩=> ?_) hs hw;rw[h1];exact thn (hg pins s1 σ H1 x v _ I1 r1 q1) fun _ s2 q=>q
theorem ps_set{i:Nat}{x:Str}{e:Expr}{te:TE}{pos':Pos}(hN:X.N.Nodup)(hi:X.N[i]? =some x)(hx:Loc X.env.scope x)(he:PE X e te)(hs:swapsWith e (some (.Name x pos')) pos.line X.env=pure false:=by rfl)(hf:X.fn x=true\/X.env.scope.names.lookup x=some .local:=by first |exact .inl rfl|exact .inr rfl|assumption):
  PS X (.Assign [.Name x pos'] e pos) (tAsg te (gName i)):=by
 intro pins s σ H D I h;refine wpAny_Assign_Name (thn (he pins s σ H _ I h) fun v s1 ⟨y,H1,I1,r1,q1⟩=> ?_) hs;exact store_ok I1 hN hi hx r1 (fun s2 I2=>⟨_,H1,I2,q1⟩) hf
theorem pS{X:Cx}{x:Str}{e:Expr}{te:TE}{pos pos':Pos}(i:Nat)(he:PE X e te)(hN:decide X.N.Nodup=true:=by kernel_rfl)(hi:X.N[i]? =some x:=by rfl)(hx:Loc X.env.scope x:=by first |exact Or.inl rfl|exact Or.inr rfl)(hs:swapsWith e (some (.Name x pos')) pos.line X.env=pure false:=by rfl)(hf:X.fn x=true\/X.env.scope.names.lookup x=some .local:=by first |exact .inl rfl|exact .inr rfl|assumption):PS X (.Assign [.Name x pos'] e pos) (tAsg te (gName i)):=ps_set (j9 hN) hi hx he hs hf
noncomputable def tWhile(c:TT)(tb:TS):TS:=fun D σ H=>∃W:Nat->St->Hp->Prop,(∃m,W m σ H)/\∀m σ H,W m σ H->
 c σ H fun b H1=>if b=true then∃N:St->Hp->Prop,(∀σ' H',N σ' H'->∃m',m'<m/\W m' σ' H')/\tb {D with nx:=N,ct:=N,bk:=D.nx} σ H1 else D.nx σ H1
theorem ps_while{c:Expr}{body:List Stmt}{tc:TT}{tb:TS}(hp:PassesOwn (model X.prog X.w) X.A X.env X.xe)(hc:PT X c tc)(hb:PSs X body tb):PS X (.While c body [] pos) (tWhile tc tb):=by
 intro pins s σ H D I h;obtain⟨W,⟨m0,w0⟩,turn⟩:=h;refine wpAny_While (codeAny_whileLoop (fun n s'=>∃σ' H',Inv X pins σ' H' s'/\W n σ' H') ?_ m0 ⟨σ,H,I,w0⟩);rintro n s1 ⟨σ1,H1,I1,w1⟩;refine RW hp (thn (hc pins s1 σ1 H1 _ I1 (turn n σ1 H1 w1)) fun b s2 ⟨H2,I2,q2⟩=> ?_);cases b with
 |true=>
  obtain⟨N,hN,q2⟩:=q2;rw[aA rfl];refine RW hp (thn (hb pins s2 σ1 H2 _ I2 q2) fun f s3 q3=> ?_);cases f with
  |next=>
   obtain⟨σ3,H3,I3,n3⟩:=q3;obtain⟨m',hm,w3⟩:=hN σ3 H3 n3;exact⟨m',hm,σ3,H3,I3,w3⟩
  |cont=>
   obtain⟨σ3,H3,I3,n3⟩:=q3;obtain⟨m',hm,w3⟩:=hN σ3 H3 n3;exact⟨m',hm,σ3,H3,I3,w3⟩
  |brk=>exact q3
  |ret v=>exact q3
 |false=>
  rw[aq qZ];exact wdi ⟨σ1,H2,I2,q2⟩
end
structure It where
 go:Nat->Hp->Prop
 yld:Nat->Hp->V->Hp->Prop
 stop:Nat->Hp->Prop
noncomputable def FpOk(X:Cx)(pins:L1)(H:Hp)(b:Addr):Prop:=
 H b=none/\b≠X.env.locals/\b∉X.fs/\(b∈X.ex\/X.s₀.heap.objs.size<=b)/\(∀x c,X.env.cells.lookup x=some c->c≠b)/\∀p∈X.pn++pins,p.1≠b
theorem Inv.fpOk{X:Cx}{pins:L1}{σ:St}{H H':Hp}{s:η}{b:Addr}(I:Inv X pins σ H s)(hb:s.heap.objs.size<=b)(hn:H' b=none):FpOk X pins H' b:=by
 refine⟨hn,Mg (iT I.lt hb),I.nofs hb,.inr (eN I.sz hb),fun x c e z=> ?_,fun p hp z=> ?_⟩
 ·obtain⟨v,q⟩:=I.cell x c e;exact absurd (iT q.lt (by rw[z];exact hb)) (pR _)
 ·exact absurd (iT (dX (I.pin p hp).1) (by rw[z];exact hb)) (pR _)
structure Turn(P:ξ)(w:τ)(K:W.Frag)(tg:Expr)(J:It)(fp:List Addr)(it:Addr)(tn:Nat->Heap->Prop):Prop where
 mem:it∈fp
 obj:∀i h,tn i h->∀b∈fp,∃o,h.get? b=some o/\∀v,o.data≠.cell v
 keep:∀i h h',tn i h->(∀b∈fp,∀o,h.get? b=some o->h'.get? b=some o)->tn i h'
 item:∀(X:Cx),X.prog=P->X.w=w->X.K=K->X.calm=true->∀(i:Nat) (pins:L1) (s:η) (σ:St) (H:Hp) (E:L3),Inv X pins σ H s->(∀b∈fp,FpOk X pins H b)->tn i s.heap->J.go i H->
  wpAny (model P w) X.A (pyNext (.ref it)) (fun r s1=>∃u,r=some u/\
   wpAny (model P w) X.A (letOwnedTupleGo tg (.ref it) u) (fun _ s2=>∃x H',Inv X pins σ H' s2/\RelV x u/\J.yld i H x H'/\tn (i+1) s2.heap/\∀b∈fp,H' b=none) E s1) E s
 done:∀(X:Cx),X.prog=P->X.w=w->X.K=K->X.calm=true->∀(i:Nat) (pins:L1) (s:η) (σ:St) (H:Hp) (E:L3),Inv X pins σ H s->(∀b∈fp,FpOk X pins H b)->tn i s.heap->J.stop i H->
  wpAny (model P w) X.A (pyNext (.ref it)) (fun r s1=>r=none/\Inv X pins σ H s1) E s
 self:∀(A:υ) (i:Nat) (s:η) (Q:L3) (E:L3),tn i s.heap->Q (.ref it) s->wpAny (model P w) A (pyIter (.ref it)) Q E s
noncomputable abbrev TI:=St->Hp->(It->Hp->Prop)->Prop
noncomputable def PIE(X:Cx)(pins:L1)(σ:St)(tg:Expr)(R:It->Hp->Prop)(itv:ζ)(s2:η):Prop:=
 ∃(it:Addr) (fp:List Addr) (tn:Nat->Heap->Prop) (J:It) (H':Hp),itv= .ref it/\Inv X pins σ H' s2/\Turn X.prog X.w X.K tg J fp it tn/\tn 0 s2.heap/\(∀b∈fp,FpOk X pins H' b)/\R J H'
noncomputable def PI(X:Cx)(tg iter:Expr)(wi:TI):Prop:=
 ∀(pins:L1) (s:η) (σ:St) (H:Hp) (R:It->Hp->Prop),Inv X pins σ H s->wi σ H R->
  wpAny (model X.prog X.w) X.A (eval iter X.env) (fun v s1=>wpAny (model X.prog X.w) X.A (pyIter v) (PIE X pins σ tg R) X.xe s1) X.xe s
theorem go_of{M:Model}{A:υ}{E:L3}{s:η}{tg:Expr}{it:Addr}{u:ζ}{o:Obj}{n:String}{vs:Array ζ}{Q:Unit->η->Prop}(ho:s.heap.get? it=some o)(hc:o.cls= .type n)(hd:o.data= .fields vs)(hn:["enumerate","zip","dict_itemiterator","dict_reverseitemiterator","odict_iterator","itertools.zip_longest","itertools.pairwise"].contains n=false)(hQ:Q () s):wpAny M A (letOwnedTupleGo tg (.ref it) u) Q E s:=by
 unfold letOwnedTupleGo;cases tg<;>first
  |exact cO hQ
  |(cases u<;>first
    |exact cO hQ
    |(refine aM (wpAny_load ho ?_)
      rw[hc,hd];show wpAny M A (if(["enumerate","zip","dict_itemiterator","dict_reverseitemiterator","odict_iterator","itertools.zip_longest","itertools.pairwise"].contains n&&vs[0]? ==some (rawInt _))=true then _ else _) Q E s;rw[aq (by intro h;rw[hn,Bool.false_and]at h;cases h)];exact cO hQ))
noncomputable def Itl(K:W.Frag)(a:Addr):It:=
 ⟨fun i H=>∃xs x,SqL K H a xs/\xs[i]? =some x,fun i H x H'=>H'=H/\∀xs,SqL K H a xs->xs[i]? =some x,fun i H=>∃xs,SqL K H a xs/\xs.length<=i⟩
noncomputable def Itt(K:W.Frag)(a:Addr):It:=
 ⟨fun i H=>∃xs x,SqT K H a xs/\xs[i]? =some x,fun i H x H'=>H'=H/\∀xs,SqT K H a xs->xs[i]? =some x,fun i H=>∃xs,SqT K H a xs/\xs.length<=i⟩
noncomputable def Itr(lo:Int)(n:Nat):It:=⟨fun i _=>i<n,fun i H x H'=>H'=H/\x= .int (lo+i),fun i _=>n<=i⟩
theorem turn_list{P:ξ}{w:τ}{K:W.Frag}{tg:Expr}(a it:Addr):Turn P w K tg (Itl K a) [it] it (fun i h=>h.IsListIter it a i) where
 mem:=by simp
 obj:=fun i h st b hb=>by
  have e:b=it:=by simpa using hb
  subst e;obtain⟨o,e,c,d⟩:=st;exact⟨o,e,fun v z=>by rw[d]at z;cases z⟩
 keep:=fun i h h' st k=>st.at fun o e=>k it (by simp) o e
 item:=by
  intro X hP hw hK hc i pins s σ H E I hf st hg;subst hP hw hK;obtain⟨xs,x,hq,hx⟩:=hg;obtain⟨its,rv,p,hz⟩:=I.list hq;obtain⟨u,hu,ru⟩:=rv.get hx;obtain⟨f0,f1,f2,f3,f4,f5⟩:=hf it (by simp);refine wpAny_pyNext_list_item st p.isList (x:=u) (by simpa using hu) fun h' st' sb=> ?_;have I1:Inv X pins σ H {s with heap:=h'}:=I.turned (t':=s.toks) (fun b o hb e=>(sb.2 b hb).trans e) f0 f1 f3 f4 f5;obtain⟨o,e,c,d⟩:=id st';exact⟨u,rfl,go_of (s:={s with heap:=h'}) e c d (by decide) ⟨x,H,I1,ru,⟨rfl,fun ys hy=>by rw[I.list_inj hy hq];exact hx⟩,st',fun b hb=>(hf b hb).1⟩⟩
 done:=by
  intro X hP hw hK hc i pins s σ H E I hf st hg;subst hP hw hK;obtain⟨xs,hq,hx⟩:=hg;obtain⟨its,rv,p,hz⟩:=I.list hq;obtain⟨f0,f1,f2,f3,f4,f5⟩:=hf it (by simp);have hl:=rv.length;exact wpAny_pyNext_list_end (I.ok.hd hc) st p.isList (by simp;omega) fun h' eb=>⟨rfl,I.turned (t':=s.toks) (fun b o hb e=>eb b o hb e) f0 f1 f3 f4 f5⟩
 self:=fun _ _ _ _ _ st h=>wpAny_pyIter_listiter st h
theorem turn_tuple{P:ξ}{w:τ}{K:W.Frag}{tg:Expr}(a it:Addr):Turn P w K tg (Itt K a) [it] it (fun i h=>h.IsTupleIter it a i) where
 mem:=by simp
 obj:=fun i h st b hb=>by
  have e:b=it:=by simpa using hb
  subst e;obtain⟨o,e,c,d⟩:=st;exact⟨o,e,fun v z=>by rw[d]at z;cases z⟩
 keep:=fun i h h' st k=>st.at fun o e=>k it (by simp) o e
 item:=by
  intro X hP hw hK hc i pins s σ H E I hf st hg;subst hP hw hK;obtain⟨xs,x,hq,hx⟩:=hg;obtain⟨its,rv,p,hz⟩:=I.tuple hq;obtain⟨u,hu,ru⟩:=rv.get hx;obtain⟨f0,f1,f2,f3,f4,f5⟩:=hf it (by simp);refine wpAny_pyNext_tuple_item st (show s.heap.IsTuple a its.toArray from p) (x:=u) (by simpa using hu) fun h' st' sb=> ?_;have I1:Inv X pins σ H {s with heap:=h'}:=I.turned (t':=s.toks) (fun b o hb e=>(sb.2 b hb).trans e) f0 f1 f3 f4 f5;obtain⟨o,e,c,d⟩:=id st';exact⟨u,rfl,go_of (s:={s with heap:=h'}) e c d (by decide) ⟨x,H,I1,ru,⟨rfl,fun ys hy=>by rw[I.tuple_inj hy hq];exact hx⟩,st',fun b hb=>(hf b hb).1⟩⟩
 done:=by
  intro X hP hw hK hc i pins s σ H E I hf st hg;subst hP hw hK;obtain⟨xs,hq,hx⟩:=hg;obtain⟨its,rv,p,hz⟩:=I.tuple hq;obtain⟨f0,f1,f2,f3,f4,f5⟩:=hf it (by simp);have hl:=rv.length;exact wpAny_pyNext_tuple_end (I.ok.hd hc) st (show s.heap.IsTuple a its.toArray from p) (by simp;omega) fun h' eb=>⟨rfl,I.turned (t':=s.toks) (fun b o hb e=>eb b o hb e) f0 f1 f3 f4 f5⟩
 self:=fun _ _ _ _ _ st h=>wpAny_pyIter_tupleiter st h
theorem turn_range{P:ξ}{w:τ}{K:W.Frag}{tg:Expr}(it:Addr)(lo:Int)(n:Nat):Turn P w K tg (Itr lo n) [it] it (fun i h=>IsRangeIter h it (lo+(i:Nat)*1) ((n:Int)-(i:Nat)) 1) where
 mem:=by simp
 obj:=fun i h st b hb=>by
  have e:b=it:=by simpa using hb
  subst e;exact⟨_,st,fun v z=>by
   have z':Data.fields _=Data.cell v:=z;cases z'⟩
 keep:=fun i h h' st k=>k it (by simp) _ st
 item:=by
  intro X hP hw hK hc i pins s σ H E I hf st hg;subst hP hw hK;obtain⟨f0,f1,f2,f3,f4,f5⟩:=hf it (by simp);have W:=Walks.range (prog:=X.prog) (w:=X.w) (I.ok.hd hc) it lo 1 n;refine W.item i s _ _ hg st fun v h' tk hv st' kk=> ?_;obtain⟨t,rfl⟩:=hv;have I1:Inv X pins σ H {s with heap:=h',toks:=tk}:=I.turned (fun b o hb e=>kk b o (by simpa using hb) e) f0 f1 f3 f4 f5;refine⟨_,rfl,go_of (s:={s with heap:=h',toks:=tk}) (n:="range_iterator") st' rfl rfl (by decide) ⟨.int (lo+i),H,I1,⟨t,?_⟩,⟨rfl,rfl⟩,st',fun b hb=>(hf b hb).1⟩⟩;rw[RJ]
 done:=by
  intro X hP hw hK hc i pins s σ H E I hf st hg;subst hP hw hK;obtain⟨f0,f1,f2,f3,f4,f5⟩:=hf it (by simp);exact wpAny_pyNext_range_end (I.ok.hd hc) st (by have:n<=i:=hg;omega) fun h' eb=>⟨rfl,I.turned (t':=s.toks) (fun b o hb e=>eb b o hb e) f0 f1 f3 f4 f5⟩
 self:=fun _ _ _ _ _ st h=>wpAny_pyIter_rangeiter st h
section
variable{X:Cx}{tg:Expr}
theorem range_it{pins:L1}{σ:St}{H:Hp}{s:η}{R:It->Hp->Prop}{E:L3}{lo hi:Int}{t u v:Tok}{tk:Nat}(I:Inv X pins σ H s)(h1: -(2^62)<=lo)(h2:lo<2^62)(h3: -(2^62)<=hi)(h4:hi<2^62)(q:R (Itr lo (hi-lo).toNat) H):wpAny (model X.prog X.w) X.A (pyIter (.ref s.heap.objs.size)) (PIE X pins σ tg R) E {s with heap:=s.heap.push {cls:= .type "range",data:= .fields #[.int lo t,.int hi u,.int 1 v]},toks:=tk}:=by
 refine wpAny_pyIter_range (wfn ..) (small_one h1 h2 h3 h4) ?_;have I1:Inv X pins σ H {s with heap:=s.heap.push {cls:= .type "range",data:= .fields #[.int lo t,.int hi u,.int 1 v]},toks:=tk}:=I.kept fun b o e=>gP _ e;refine⟨(s.heap.push {cls:= .type "range",data:= .fields #[.int lo t,.int hi u,.int 1 v]}).objs.size,[(s.heap.push {cls:= .type "range",data:= .fields #[.int lo t,.int hi u,.int 1 v]}).objs.size],_,_,H,rfl,
  I1.kept (t':=tk) fun b o e=>gP _ e,turn_range _ lo (hi-lo).toNat,?_,fun b hb=> ?_,q⟩
 ·have e1:lo+((0:Nat):Int)*1=lo:=by simp
  have e2:(((hi-lo).toNat:Nat):Int)-((0:Nat):Int)=Builtin.Range.rangeSize lo hi 1:=by rw[wen];split<;>omega
  show IsRangeIter _ _ (lo+((0:Nat):Int)*1) ((((hi-lo).toNat:Nat):Int)-((0:Nat):Int)) 1;rw[e1,e2];exact j7 _ rfl
 ·have e:b=(s.heap.push {cls:= .type "range",data:= .fields #[.int lo t,.int hi u,.int 1 v]}).objs.size:=by simpa using hb
  subst e;exact I1.fpOk (aN _) (I1.hok.fresh (aN _))
noncomputable def iRng1(ta:TA):TI:=fun σ H R=>ta σ H fun vs H1=>∃j:Int,vs=[.int j]/\ -(2^62)<=j/\j<2^62/\R (Itr 0 j.toNat) H1
noncomputable def iRng2(ta:TA):TI:=fun σ H R=>ta σ H fun vs H1=>∃i j:Int,vs=[.int i,.int j]/\(-(2^62)<=i/\i<2^62/\ -(2^62)<=j/\j<2^62)/\R (Itr i (j-i).toNat) H1
theorem wQ{a:Expr}{ta:TA}{p pos:Pos}(hg:Gl X "range")(hm:X.mg "range"=none)(ha:PA X [a] ta)(hs:starEach [a] X.env=[(false,eval a X.env)]:=by rfl):PI X tg (.Call (.Name "range" p) [a] [] pos) (iRng1 ta):=by
 intro pins s σ H R I h;refine Call_ (ld_blt I hg hm Xn (Mp (thn (ha pos pins s σ H _ I h) fun us s1 ⟨vs,H1,I1,r1,q1⟩=> ?_) hs rfl));obtain⟨j,e,q1,q2,q⟩:=q1;subst e;cases r1 with
 |cons r rr=>
  cases rr;obtain⟨t,rfl⟩:=r;exact call_range_1 (range_it I1 (by omega) (by omega) q1 q2 (by simpa using q))
theorem pi_range2{a b:Expr}{ta:TA}{p pos:Pos}(hg:Gl X "range")(hm:X.mg "range"=none)(ha:PA X [a,b] ta)(hs:starEach [a,b] X.env=[(false,eval a X.env),(false,eval b X.env)]:=by rfl)(hs2:starEach [b] X.env=[(false,eval b X.env)]:=by rfl):
  PI X tg (.Call (.Name "range" p) [a,b] [] pos) (iRng2 ta):=by
 intro pins s σ H R I h;refine Call_ (ld_blt I hg hm Xn (Mp (thn (ha pos pins s σ H _ I h) fun us s1 ⟨vs,H1,I1,r1,q1⟩=> ?_) (by rw[hs,hs2]) (by rw[hs2];rfl)));obtain⟨i,j,e,⟨q1,q2,q3,q4⟩,q⟩:=q1;subst e;cases r1 with
 |cons r rr=>
  cases rr with
  |cons r' rr=>
   cases rr;obtain⟨t,rfl⟩:=r;obtain⟨t',rfl⟩:=r';exact call_range_2 (range_it I1 q1 q2 q3 q4 q)
noncomputable def tFor(wi:TI)(g:TG)(tb:TS):TS:=fun D σ H=>wi σ H fun J H1=>∃W:Nat->Nat->St->Hp->Prop,(∃m,W 0 m σ H1)/\∀i m σ H,W i m σ H->
 (J.stop i H/\D.nx σ H)\/(J.go i H/\∃N:St->Hp->Prop,(∀σ' H',N σ' H'->∃m',m'<m/\W (i+1) m' σ' H')/\∀x H',J.yld i H x H'->g x σ H' fun σ2 H2=>tb {D with nx:=N,ct:=N,bk:=D.nx} σ2 H2)
noncomputable def pinsAt(fp:List Addr)(h:Heap):L1:=fp.filterMap fun b=>(h.get? b).map fun o=>(b,o)
theorem mem_pinsAt{fp:List Addr}{h:Heap}{b:Addr}{o:Obj}(hb:b∈fp)(e:h.get? b=some o):(b,o)∈pinsAt fp h:=List.mem_filterMap.mpr ⟨b,hb,by rw[e];rfl⟩
theorem of_pinsAt{fp:List Addr}{h:Heap}{p:Addr×Obj}(hp:p∈pinsAt fp h):p.1∈fp/\h.get? p.1=some p.2:=by
 obtain⟨b,hb,e⟩:=List.mem_filterMap.mp hp;cases q:h.get? b with
 |none=>rw[q]at e;cases e
 |some o=>
  rw[q]at e;have e':(b,o)=p:=qY e;subst e';exact⟨hb,q⟩
theorem Inv.pinned{pins:L1}{σ:St}{H:Hp}{s:η}{fp:List Addr}(I:Inv X pins σ H s)(hf:∀b∈fp,FpOk X pins H b)(ho:∀b∈fp,∃o,s.heap.get? b=some o/\∀v,o.data≠.cell v):Inv X (pins++pinsAt fp s.heap) σ H s:=
 I.pins_of fun p hp=>(pU.mp hp).elim (fun z=>I.pin p (lU _ z)) fun z=>by
  obtain⟨hb,e⟩:=of_pinsAt z;obtain⟨f0,f1,f2,_⟩:=hf p.1 hb;obtain⟨o,e',d⟩:=ho p.1 hb;rw[e]at e';cases e';exact⟨e,f0,f1,f2,d⟩
theorem Inv.unpinned{pins pl:L1}{σ:St}{H:Hp}{s:η}(I:Inv X (pins++pl) σ H s):Inv X pins σ H s:=I.pins_of fun p hp=>I.pin p (lU _ (RM _ hp))
theorem ps_for{iter:Expr}{body:List Stmt}{wi:TI}{g:TG}{tb:TS}{pos:Pos}(hp:PassesOwn (model X.prog X.w) X.A X.env X.xe)(hc:X.calm=true)(hi:PI X tg iter wi)(hg:PG X tg g)(hb:PSs X body tb)(hs:∀x,foldedSetIterable iter X.env x=pure x:=by intro _;rfl):PS X (.For tg iter body [] pos) (tFor wi g tb):=by
 intro pins s σ H D I h;refine wpAny_For (thn (hi pins s σ H _ I h) fun v s1 h1=>thn h1 fun itv s2 h2=> ?_) hs;obtain⟨it,fp,tn,J,H2,e,I2,T,st2,f2,W,⟨m0,w0⟩,turn⟩:=h2;subst e
 -- what stays true of the iterator's objects through the loop
 have stat:∀{H':Hp},(∀b∈fp,H' b=none)->∀b∈fp,FpOk X pins H' b:=fun hn b hb=>⟨hn b hb,(f2 b hb).2⟩;refine codeAny_forLoop_any (fun n s'=>∃i σ' H',Inv X pins σ' H' s'/\tn i s'.heap/\(∀b∈fp,H' b=none)/\W i n σ' H') ?_ m0 ⟨0,σ,H2,I2,st2,fun b hb=>(f2 b hb).1,w0⟩;rintro n s3 ⟨i,σ3,H3,I3,st3,fr3,w3⟩;rcases turn i n σ3 H3 w3 with⟨stop,qn⟩|⟨go,N,hN,step⟩
 ·refine RW hp (thn (T.done X rfl rfl rfl hc i pins s3 σ3 H3 X.xe I3 (stat fr3) st3 stop) fun r s4 ⟨hr,I4⟩=> ?_);subst hr;exact wdi ⟨σ3,H3,I4,qn⟩
 ·refine RW hp (thn (T.item X rfl rfl rfl hc i pins s3 σ3 H3 X.xe I3 (stat fr3) st3 go) fun r s4 ⟨u,hr,h4⟩=> ?_);subst hr;refine RW hp (thn h4 fun _ s5 ⟨x,H5,I5,r5,y5,st5,fr5⟩=> ?_);have I5':=I5.pinned (stat fr5) (T.obj _ _ st5);refine RW hp (thn (hg _ s5 σ3 H5 x u _ I5' r5 (step x H5 y5)) fun _ s6 ⟨σ6,H6,I6,q6⟩=> ?_);refine RW hp (thn (hb _ s6 σ6 H6 _ I6 q6) fun f s7 q7=> ?_);have again:∀{σ7:St} {H7:Hp},Inv X (pins++pinsAt fp s5.heap) σ7 H7 s7->N σ7 H7->∃m,m<n/\∃i σ' H',Inv X pins σ' H' s7/\tn i s7.heap/\(∀b∈fp,H' b=none)/\W i m σ' H':=fun{σ7 H7} I7 n7=>by
   obtain⟨m',hm,w7⟩:=hN σ7 H7 n7;refine⟨m',hm,i+1,σ7,H7,I7.unpinned,T.keep _ _ _ st5 fun b hb o e=>(I7.pin (b,o) (lU _ (lU _ (mem_pinsAt hb e)))).1,fun b hb=> ?_,w7⟩;obtain⟨o,e,d⟩:=T.obj _ _ st5 b hb;exact(I7.pin (b,o) (lU _ (lU _ (mem_pinsAt hb e)))).2.1
  cases f with
  |next=>obtain⟨σ7,H7,I7,n7⟩:=q7;exact again I7 n7
  |cont=>obtain⟨σ7,H7,I7,n7⟩:=q7;exact again I7 n7
  |brk=>obtain⟨σ7,H7,I7,q7⟩:=q7;exact⟨σ7,H7,I7.unpinned,q7⟩
  |ret v=>obtain⟨x7,σ7,H7,I7,r7,q7⟩:=q7;exact⟨x7,σ7,H7,I7.unpinned,r7,q7⟩
end
theorem for_list{K:W.Frag}{a:Addr}{xs:List V}{g:TG}{tb:TS}{D:Ends}{σ:St}{H:Hp}(Pv:Nat->St->Hp->Prop)(h0:Pv 0 σ H)(hl:∀i σ H,i<=xs.length->Pv i σ H->SqL K H a xs)(hs:∀i x σ H,xs[i]? =some x->Pv i σ H->g x σ H fun σ2 H2=>tb {D with nx:=Pv (i+1),ct:=Pv (i+1),bk:=D.nx} σ2 H2)(hd:∀σ H,Pv xs.length σ H->D.nx σ H):
  ∃W:Nat->Nat->St->Hp->Prop,(∃m,W 0 m σ H)/\∀i m σ H,W i m σ H->
   ((Itl K a).stop i H/\D.nx σ H)\/((Itl K a).go i H/\∃N:St->Hp->Prop,(∀σ' H',N σ' H'->∃m',m'<m/\W (i+1) m' σ' H')/\∀x H',(Itl K a).yld i H x H'->g x σ H' fun σ2 H2=>tb {D with nx:=N,ct:=N,bk:=D.nx} σ2 H2):=by
 refine⟨fun i m σ H=>m=xs.length-i/\i<=xs.length/\Pv i σ H,⟨xs.length,by simp,dw _,h0⟩,?_⟩;rintro i m σ H ⟨rfl,hi,p⟩;have q:=hl i σ H hi p;by_cases hlt:i<xs.length
 ·refine .inr ⟨⟨xs,xs[i],q,by simp[hlt]⟩,Pv (i+1),fun σ' H' p'=>⟨xs.length-(i+1),by omega,rfl,hlt,p'⟩,fun x H' y=> ?_⟩;obtain⟨e,y⟩:=y;subst e;exact hs i x σ _ (y xs q) p
 ·have e:i=xs.length:=by omega
  subst e;exact .inl ⟨⟨xs,q,aN _⟩,hd σ H p⟩
theorem for_tup{K:W.Frag}{a:Addr}{xs:List V}{g:TG}{tb:TS}{D:Ends}{σ:St}{H:Hp}(Pv:Nat->St->Hp->Prop)(h0:Pv 0 σ H)(hl:∀i σ H,i<=xs.length->Pv i σ H->SqT K H a xs)(hs:∀i x σ H,xs[i]? =some x->Pv i σ H->g x σ H fun σ2 H2=>tb {D with nx:=Pv (i+1),ct:=Pv (i+1),bk:=D.nx} σ2 H2)(hd:∀σ H,Pv xs.length σ H->D.nx σ H):
  ∃W:Nat->Nat->St->Hp->Prop,(∃m,W 0 m σ H)/\∀i m σ H,W i m σ H->
   ((Itt K a).stop i H/\D.nx σ H)\/((Itt K a).go i H/\∃N:St->Hp->Prop,(∀σ' H',N σ' H'->∃m',m'<m/\W (i+1) m' σ' H')/\∀x H',(Itt K a).yld i H x H'->g x σ H' fun σ2 H2=>tb {D with nx:=N,ct:=N,bk:=D.nx} σ2 H2):=by
 refine⟨fun i m σ H=>m=xs.length-i/\i<=xs.length/\Pv i σ H,⟨xs.length,by simp,dw _,h0⟩,?_⟩;rintro i m σ H ⟨rfl,hi,p⟩;have q:=hl i σ H hi p;by_cases hlt:i<xs.length
 ·refine .inr ⟨⟨xs,xs[i],q,by simp[hlt]⟩,Pv (i+1),fun σ' H' p'=>⟨xs.length-(i+1),by omega,rfl,hlt,p'⟩,fun x H' y=> ?_⟩;obtain⟨e,y⟩:=y;subst e;exact hs i x σ _ (y xs q) p
 ·have e:i=xs.length:=by omega
  subst e;exact .inl ⟨⟨xs,q,aN _⟩,hd σ H p⟩
theorem Mx{lo:Int}{n:Nat}{g:TG}{tb:TS}{D:Ends}{σ:St}{H:Hp}(Pv:Nat->St->Hp->Prop)(h0:Pv 0 σ H)(hs:∀i σ H,i<n->Pv i σ H->g (.int (lo+i)) σ H fun σ2 H2=>tb {D with nx:=Pv (i+1),ct:=Pv (i+1),bk:=D.nx} σ2 H2)(hd:∀σ H,Pv n σ H->D.nx σ H):
  ∃W:Nat->Nat->St->Hp->Prop,(∃m,W 0 m σ H)/\∀i m σ H,W i m σ H->
   ((Itr lo n).stop i H/\D.nx σ H)\/((Itr lo n).go i H/\∃N:St->Hp->Prop,(∀σ' H',N σ' H'->∃m',m'<m/\W (i+1) m' σ' H')/\∀x H',(Itr lo n).yld i H x H'->g x σ H' fun σ2 H2=>tb {D with nx:=N,ct:=N,bk:=D.nx} σ2 H2):=by
 refine⟨fun i m σ H=>m=n-i/\i<=n/\Pv i σ H,⟨n,by simp,dw _,h0⟩,?_⟩;rintro i m σ H ⟨rfl,hi,p⟩;by_cases hlt:i<n
 ·refine .inr ⟨hlt,Pv (i+1),fun σ' H' p'=>⟨n-(i+1),by omega,rfl,hlt,p'⟩,fun x H' y=> ?_⟩;obtain⟨e,y⟩:=y;subst e y;exact hs i σ _ hlt p
 ·have e:i=n:=by omega
  subst e;exact .inl ⟨aN _,hd σ H p⟩
noncomputable abbrev R2:=V->V->Hp->VK->Prop
noncomputable def OpR(X:Cx)(f:ζ->ζ->Sem ζ)(r:R2):Prop:=
 ∀(pins:L1) (s:η) (σ:St) (H:Hp) (x y:V) (v u:ζ) (Q:VK),Inv X pins σ H s->RelV x v->RelV y u->r x y H Q->
  wpAny (model X.prog X.w) X.A (f v u) (EP X pins σ Q) X.xe s
noncomputable def UnR(X:Cx)(f:ζ->Sem ζ)(r:V->Hp->VK->Prop):Prop:=
 ∀(pins:L1) (s:η) (σ:St) (H:Hp) (x:V) (v:ζ) (Q:VK),Inv X pins σ H s->RelV x v->r x H Q->
  wpAny (model X.prog X.w) X.A (f v) (EP X pins σ Q) X.xe s
noncomputable def CallR(X:Cx)(f:ζ)(r:List V->Hp->VK->Prop):Prop:=
 ∀(pins:L1) (s:η) (σ:St) (H:Hp) (xs:List V) (us:List ζ) (Q:VK),Inv X pins σ H s->Vals xs us->r xs H Q->
  wpAny (model X.prog X.w) X.A (call f us) (EP X pins σ Q) X.xe s
noncomputable def TruR(X:Cx)(r:V->Hp->(Bool->Hp->Prop)->Prop):Prop:=
 ∀(pins:L1) (s:η) (σ:St) (H:Hp) (x:V) (v:ζ) (Q:Bool->Hp->Prop),Inv X pins σ H s->RelV x v->r x H Q->
  wpAny (model X.prog X.w) X.A (truthy v) (TP X pins σ Q) X.xe s
noncomputable def tOp(r:R2)(ta tb:TE):TE:=fun σ H Q=>ta σ H fun x H1=>tb σ H1 fun y H2=>r x y H2 Q
noncomputable def tUn(r:V->Hp->VK->Prop)(ta:TE):TE:=fun σ H Q=>ta σ H fun x H1=>r x H1 Q
noncomputable def rI(C:Int->Int->Prop)(g:Int->Int->V):R2:=fun x y H Q=>∃i j,x= .int i/\y= .int j/\C i j/\Q (g i j) H
noncomputable def rI0(g:Int->Int->V):R2:=fun x y H Q=>∃i j,x= .int i/\y= .int j/\Q (g i j) H
noncomputable def rU(g:Int->V):V->Hp->VK->Prop:=fun x H Q=>∃i,x= .int i/\Q (g i) H
section
variable{X:Cx}{a b:Expr}{ta tb:TE}{pos:Pos}
theorem binT(ha:PE X a ta)(hb:PE X b tb){pins:L1}{s:η}{σ:St}{H:Hp}{R:V->V->Hp->Prop}(I:Inv X pins σ H s)(h:ta σ H fun x H1=>tb σ H1 fun y H2=>R x y H2){Q:L3}{f:ζ->ζ->Sem ζ}(hf:∀v u s2 x y H2,Inv X pins σ H2 s2->RelV x v->RelV y u->R x y H2->wpAny (model X.prog X.w) X.A (f v u) Q X.xe s2):
  wpAny (model X.prog X.w) X.A (eval a X.env) (fun v s₁=>wpAny (model X.prog X.w) X.A (eval b X.env) (fun u s₂=>wpAny (model X.prog X.w) X.A (f v u) Q X.xe s₂) X.xe s₁) X.xe s:=by
 refine thn (ha pins s σ H _ I h) fun v s1 ⟨x,H1,I1,r1,q1⟩=> ?_;refine thn (hb pins s1 σ H1 _ I1 q1) fun u s2 ⟨y,H2,I2,r2,q2⟩=> ?_;exact hf v u s2 x y H2 I2 r1 r2 q2
theorem cu{op:Operator}{r:R2}(ho:OpR X (binaryOp op) r)(ha:PE X a ta)(hb:PE X b tb):PE X (.BinOp a op b pos) (tOp r ta tb):=by
 intro pins s σ H Q I h;exact wpAny_BinOp (binT ha hb I h fun v u s2 x y H2 I2 rx ry q=>ho pins s2 σ H2 x y v u Q I2 rx ry q)
theorem pe_un{op:UnaryOp}{r:V->Hp->VK->Prop}(ho:UnR X (unaryOp op) r)(ha:PE X a ta):PE X (.UnaryOp op a pos) (tUn r ta):=by
 intro pins s σ H Q I h;exact UnaryOp_ (thn (ha pins s σ H _ I h) fun v s1 ⟨x,H1,I1,r1,q1⟩=>ho pins s1 σ H1 x v Q I1 r1 q1)
theorem opI{f:ζ->ζ->Sem ζ}{C:Int->Int->Prop}{g:Int->Int->Int}(rule:∀(i j:Int) (t u:Tok) (s:η) (Q:L3) (E:L3),C i j->Q (.int (g i j) s.toks) {s with toks:=s.toks+1}->wpAny (model X.prog X.w) X.A (f (.int i t) (.int j u)) Q E s):
  OpR X f (rI C fun i j=> .int (g i j)):=by
 intro pins s σ H x y v u Q I rx ry h;obtain⟨i,j,rfl,rfl,hc,q⟩:=h;obtain⟨t,rfl⟩:=rx;obtain⟨t',rfl⟩:=ry;exact rule i j t t' s _ _ hc ⟨.int (g i j),H,I.tok _,⟨_,rfl⟩,q⟩
theorem opI0{f:ζ->ζ->Sem ζ}{g:Int->Int->Int}(rule:∀(i j:Int) (t u:Tok) (s:η) (Q:L3) (E:L3),Q (.int (g i j) s.toks) {s with toks:=s.toks+1}->wpAny (model X.prog X.w) X.A (f (.int i t) (.int j u)) Q E s):
  OpR X f (rI0 fun i j=> .int (g i j)):=by
 intro pins s σ H x y v u Q I rx ry h;obtain⟨i,j,rfl,rfl,q⟩:=h;obtain⟨t,rfl⟩:=rx;obtain⟨t',rfl⟩:=ry;exact rule i j t t' s _ _ ⟨.int (g i j),H,I.tok _,⟨_,rfl⟩,q⟩
theorem opB0{f:ζ->ζ->Sem ζ}{g:Int->Int->Bool}(rule:∀(i j:Int) (t u:Tok) (s:η) (Q:L3) (E:L3),Q (.bool (g i j)) s->wpAny (model X.prog X.w) X.A (f (.int i t) (.int j u)) Q E s):
  OpR X f (rI0 fun i j=> .bl (g i j)):=by
 intro pins s σ H x y v u Q I rx ry h;obtain⟨i,j,rfl,rfl,q⟩:=h;obtain⟨t,rfl⟩:=rx;obtain⟨t',rfl⟩:=ry;exact rule i j t t' s _ _ ⟨.bl (g i j),H,I,rfl,q⟩
noncomputable def CDiv(i j:Int):Prop:=0<j/\j<1073741824
noncomputable def CPow(i j:Int):Prop:=0<=j/\j<=1000000/\i.natAbs<2^64
noncomputable def CMul(i j:Int):Prop:=(-(2^64)<i/\i<2^64)\/(-(2^64)<j/\j<2^64)
theorem CMul.ok{i j:Int}(h:CMul i j):IntMulOk i j:=by
 rcases h with⟨h1,h2⟩|⟨h1,h2⟩
 ·exact .of_left (intBits_le_64 h1 h2)
 ·exact .of_right (intBits_le_64 h1 h2)
theorem pQ:OpR X (binaryOp .Add) (rI0 fun i j=> .int (i+j)):=opI0 fun _ _ _ _ _ _ _ q=>add_int q
theorem op_sub:OpR X (binaryOp .Sub) (rI0 fun i j=> .int (i-j)):=opI0 fun _ _ _ _ _ _ _ q=>sub_int q
theorem tQ:OpR X (binaryOp .Mult) (rI CMul fun i j=> .int (i*j)):=opI fun _ _ _ _ _ _ _ hc q=>mul_int q hc.ok
theorem op_fdiv:OpR X (binaryOp .FloorDiv) (rI CDiv fun i j=> .int (i/j)):=opI fun i j _ _ _ _ _ hc q=>by
 have h1:(0:Int)<j:=hc.1;have h2:j<1073741824:=hc.2;exact floordiv_int (by omega) (by rw[ydx i (by omega)];exact q) (.inl (PyProof.noPylong_small (by omega)))
theorem op_mod:OpR X (binaryOp .Mod) (rI (fun _ j=>0<j) fun i j=> .int (i %j)):=opI fun i j _ _ _ _ _ hc q=>by
 have h1:(0:Int)<j:=hc;exact mod_int' (by omega) (by rw[Int.fmod_eq_emod_of_nonneg i (by omega)];exact q)
theorem op_pow:OpR X (binaryOp .Pow) (rI CPow fun i j=> .int (i^j.toNat)):=opI fun _ _ _ _ _ _ _ hc q=>pow_int_small hc.1 hc.2.1 hc.2.2 q
theorem unI{f:ζ->Sem ζ}{g:Int->Int}(rule:∀(i:Int) (t:Tok) (s:η) (Q:L3) (E:L3),Q (.int (g i) s.toks) {s with toks:=s.toks+1}->wpAny (model X.prog X.w) X.A (f (.int i t)) Q E s):
  UnR X f (rU fun i=> .int (g i)):=by
 intro pins s σ H x v Q I rx h;obtain⟨i,rfl,q⟩:=h;obtain⟨t,rfl⟩:=rx;exact rule i t s _ _ ⟨.int (g i),H,I.tok _,⟨_,rfl⟩,q⟩
theorem un_neg:UnR X (unaryOp .USub) (rU fun i=> .int (-i)):=unI fun _ _ _ _ _ q=>neg_int q
end
noncomputable def scal:V->V->Bool
 | .non,.non=>true| .non,.int _=>true| .int _,.non=>true| .non,.bl _=>true| .bl _,.non=>true| .non,.str _=>true| .str _,.non=>true
 | .int _,.int _=>true| .bl _,.bl _=>true| .str _,.str _=>true| .byt _,.byt _=>true
 | .int _,.str _=>true| .str _,.int _=>true| .bl _,.str _=>true| .str _,.bl _=>true
 |_,_=>false
noncomputable def rEq:R2:=fun x y H Q=>scal x y=true/\Q (.bl (decide (x=y))) H
noncomputable def rNe:R2:=fun x y H Q=>scal x y=true/\Q (.bl (!decide (x=y))) H
theorem dec_int{i j:Int}:decide (V.int i=V.int j)=(i==j):=by
 rw[pY];simp
theorem dec_bl{i j:Bool}:decide (V.bl i=V.bl j)=(i==j):=by
 rw[pY];simp
theorem dec_str{i j:Str}:decide (V.str i=V.str j)=(i==j):=by
 rw[pY];simp
theorem dec_byt{i j:Array UInt8}:decide (V.byt i=V.byt j)=(i.toList==j.toList):=by
 rw[pY];cases i;cases j;simp
section
variable{X:Cx}{a b c:Expr}{ta tb tc:TE}{pos:Pos}
theorem jT{pins:L1}{σ:St}{H:Hp}{s:η}{Q:VK}{k k':Bool}(I:Inv X pins σ H s)(q:Q (.bl k) H)(e:k=k'):EP X pins σ Q (.bool k') s:=by
 subst e;exact⟨.bl k,H,I,rfl,q⟩
theorem op_eq:OpR X (compareOp .Eq) rEq:=by
 intro pins s σ H x y v u Q I rx ry h;obtain⟨hs,q⟩:=h;cases x with
 |non=>
  cases rx;cases y with
  |non=>cases ry;exact PySem.EqNone.eq_none_none (jT I q (by simp))
  |bl j=>cases ry;exact PySem.EqNone.eq_none_bool (jT I q (by simp))
  |int j=>obtain⟨t',rfl⟩:=ry;exact PySem.EqNone.eq_none_int (jT I q (by simp))
  |str j=>obtain⟨t',rfl⟩:=ry;exact PySem.EqNone.eq_none_str (jT I q (by simp))
  |_=>exact absurd (show false=true from hs) qZ
 |bl i=>
  cases rx;cases y with
  |non=>cases ry;exact PySem.EqNone.eq_bool_none (jT I q (by simp))
  |bl j=>cases ry;exact eq_bool (jT I q dec_bl)
  |str j=>obtain⟨t',rfl⟩:=ry;exact PySem.EqMixed.eq_bool_str (jT I q (by simp))
  |_=>exact absurd (show false=true from hs) qZ
 |int i=>
  obtain⟨t,rfl⟩:=rx;cases y with
  |non=>cases ry;exact PySem.EqNone.eq_int_none (jT I q (by simp))
  |int j=>obtain⟨t',rfl⟩:=ry;exact eq_int (jT I q dec_int)
  |str j=>obtain⟨t',rfl⟩:=ry;exact PySem.EqMixed.eq_int_str (jT I q (by simp))
  |_=>exact absurd (show false=true from hs) qZ
 |str i=>
  obtain⟨t,rfl⟩:=rx;cases y with
  |non=>cases ry;exact PySem.EqNone.eq_str_none (jT I q (by simp))
  |bl j=>cases ry;exact PySem.EqMixed.eq_str_bool (jT I q (by simp))
  |int j=>obtain⟨t',rfl⟩:=ry;exact PySem.EqMixed.eq_str_int (jT I q (by simp))
  |str j=>obtain⟨t',rfl⟩:=ry;exact eq_str (jT I q dec_str)
  |_=>exact absurd (show false=true from hs) qZ
 |byt i=>
  obtain⟨t,rfl⟩:=rx;cases y with
  |byt j=>obtain⟨t',rfl⟩:=ry;exact PySem.W.eq_bytes (jT I q dec_byt)
  |_=>exact absurd (show false=true from hs) qZ
 |_=>cases y<;>exact absurd (show false=true from hs) qZ
theorem op_ne:OpR X (compareOp .NotEq) rNe:=by
 intro pins s σ H x y v u Q I rx ry h;obtain⟨hs,q⟩:=h;cases x with
 |non=>
  cases rx;cases y with
  |non=>cases ry;exact PySem.EqNone.ne_none_none (jT I q (by simp))
  |bl j=>cases ry;exact PySem.EqNone.ne_none_bool (jT I q (by simp))
  |int j=>obtain⟨t',rfl⟩:=ry;exact PySem.EqNone.ne_none_int (jT I q (by simp))
  |str j=>obtain⟨t',rfl⟩:=ry;exact PySem.EqNone.ne_none_str (jT I q (by simp))
  |_=>exact absurd (show false=true from hs) qZ
 |bl i=>
  cases rx;cases y with
  |non=>cases ry;exact PySem.EqNone.ne_bool_none (jT I q (by simp))
  |bl j=>cases ry;exact ne_bool (jT I q (gq not dec_bl))
  |str j=>obtain⟨t',rfl⟩:=ry;exact PySem.EqMixed.ne_bool_str (jT I q (by simp))
  |_=>exact absurd (show false=true from hs) qZ
 |int i=>
  obtain⟨t,rfl⟩:=rx;cases y with
  |non=>cases ry;exact PySem.EqNone.ne_int_none (jT I q (by simp))
  |int j=>obtain⟨t',rfl⟩:=ry;exact ne_int (jT I q (gq not dec_int))
  |str j=>obtain⟨t',rfl⟩:=ry;exact PySem.EqMixed.ne_int_str (jT I q (by simp))
  |_=>exact absurd (show false=true from hs) qZ
 |str i=>
  obtain⟨t,rfl⟩:=rx;cases y with
  |non=>cases ry;exact PySem.EqNone.ne_str_none (jT I q (by simp))
  |bl j=>cases ry;exact PySem.EqMixed.ne_str_bool (jT I q (by simp))
  |int j=>obtain⟨t',rfl⟩:=ry;exact PySem.EqMixed.ne_str_int (jT I q (by simp))
  |str j=>obtain⟨t',rfl⟩:=ry;exact ne_str (jT I q (gq not dec_str))
  |_=>exact absurd (show false=true from hs) qZ
 |byt i=>
  obtain⟨t,rfl⟩:=rx;cases y with
  |byt j=>obtain⟨t',rfl⟩:=ry;exact PySem.W.ne_bytes (jT I q (gq not dec_byt))
  |_=>exact absurd (show false=true from hs) qZ
 |_=>cases y<;>exact absurd (show false=true from hs) qZ
theorem op_lt:OpR X (compareOp .Lt) (rI0 fun i j=> .bl (decide (i<j))):=opB0 fun _ _ _ _ _ _ _ q=>lt_int q
theorem op_le:OpR X (compareOp .LtE) (rI0 fun i j=> .bl (decide (i<=j))):=opB0 fun _ _ _ _ _ _ _ q=>le_int q
theorem op_gt:OpR X (compareOp .Gt) (rI0 fun i j=> .bl (decide (j<i))):=opB0 fun _ _ _ _ _ _ _ q=>gt_int q
theorem op_ge:OpR X (compareOp .GtE) (rI0 fun i j=> .bl (decide (j<=i))):=opB0 fun _ _ _ _ _ _ _ q=>ge_int q
theorem op_isN:OpR X (compareOp .Is) (fun x y H Q=>y= .non/\Q (.bl (decide (x= .non))) H):=by
 intro pins s σ H x y v u Q I rx ry h;obtain⟨rfl,q⟩:=h;cases ry;refine is_none_gen (jT I q ?_);cases x<;>first
  |(cases rx;rfl)
  |(obtain⟨t,rfl⟩:=rx;rfl)
theorem op_notN:OpR X (compareOp .IsNot) (fun x y H Q=>y= .non/\Q (.bl (!decide (x= .non))) H):=by
 intro pins s σ H x y v u Q I rx ry h;obtain⟨rfl,q⟩:=h;cases ry;refine isnot_none_gen (jT I q ?_);cases x<;>first
  |(cases rx;rfl)
  |(obtain⟨t,rfl⟩:=rx;rfl)
theorem OpR.or{f:ζ->ζ->Sem ζ}{r r':R2}(h:OpR X f r)(h':OpR X f r'):OpR X f (fun x y H Q=>r x y H Q\/r' x y H Q):=by
 intro pins s σ H x y v u Q I rx ry q;rcases q with q|q
 ·exact h pins s σ H x y v u Q I rx ry q
 ·exact h' pins s σ H x y v u Q I rx ry q
theorem nomark(b:Expr){op:CmpOp}(h:op≠.In:=by decide)(h2:op≠.NotIn:=by decide):behindInMarks op b=false:=by
 have e1:(op==CmpOp.In)=false:=by cases op<;>first |rfl|exact absurd rfl h
 have e2:(op==CmpOp.NotIn)=false:=by cases op<;>first |rfl|exact absurd rfl h2
 cases b<;>simp[behindInMarks,e1,e2]
theorem Hg{op:CmpOp}{r:R2}(ho:OpR X (compareOp op) r)(ha:PE X a ta)(hb:PE X b tb)(hm:behindInMarks op b=false:=by exact nomark _):PE X (.Compare a [op] [b] pos) (tOp r ta tb):=by
 intro pins s σ H Q I h;exact wpAny_Compare1 (binT ha hb I h fun v u s2 x y H2 I2 rx ry q=>ho pins s2 σ H2 x y v u Q I2 rx ry q) hm
noncomputable def tTest(t:TE):TT:=fun σ H Q=>t σ H fun x H'=>∃k,x= .bl k/\Q k H'
theorem dW{op:CmpOp}{r:R2}(ho:OpR X (compareOp op) r)(ha:PE X a ta)(hb:PE X b tb)(hm:behindInMarks op b=false:=by exact nomark _):PT X (.Compare a [op] [b] pos) (tTest (tOp r ta tb)):=by
 intro pins s σ H Q I h;refine wpAny_isTrue_Compare1 (thn (ha pins s σ H _ I h) fun v s1 ⟨x,H1,I1,r1,q1⟩=>thn (hb pins s1 σ H1 _ I1 q1) fun u s2 ⟨y,H2,I2,r2,q2⟩=>
  thn (ho pins s2 σ H2 x y v u _ I2 r1 r2 q2) fun c s3 ⟨z,H3,I3,r3,k,e,q3⟩=> ?_) hm
 subst e;cases r3;exact Ml ⟨H3,I3,q3⟩
noncomputable def tChain(r r':R2)(ta tb tc:TE):TE:=fun σ H Q=>ta σ H fun x H1=>tb σ H1 fun y H2=>r x y H2 fun z H3=>∃k,z= .bl k/\
 (if k=true then tc σ H3 fun w' H4=>r' y w' H4 Q else Q (.bl false) H3)
theorem pe_chain{op op':CmpOp}{r r':R2}(ho:OpR X (compareOp op) r)(ho':OpR X (compareOp op') r')(ha:PE X a ta)(hb:PE X b tb)(hc:PE X c tc)(hm:lastMarks [op,op'] [b,c]=false:=by with_unfolding_all rfl):PE X (.Compare a [op,op'] [b,c] pos) (tChain r r' ta tb tc):=by
 intro pins s σ H Q I h;refine Compare_chain (thn (ha pins s σ H _ I h) fun v s1 ⟨x,H1,I1,r1,q1⟩=>chain_link (thn (hb pins s1 σ H1 _ I1 q1) fun u s2 ⟨y,H2,I2,r2,q2⟩=>
  thn (ho pins s2 σ H2 x y v u _ I2 r1 r2 q2) fun d s3 ⟨z,H3,I3,r3,k,e,q3⟩=> ?_)) hm
 subst e;cases r3;refine Ml ?_;cases k with
 |false=>exact ite_ff ⟨.bl false,H3,I3,rfl,q3⟩
 |true=>exact ite_tt (chain_last (thn (hc pins s3 σ H3 _ I3 q3) fun w' s4 ⟨z',H4,I4,r4,q4⟩=>ho' pins s4 σ H4 y z' u w' Q I4 r2 r4 q4))
noncomputable def TruV(K:W.Frag)(x:V)(H:Hp)(k:Bool):Prop:=
 match x with
 | .non=>k=false
 | .bl b=>k=b
 | .int i=>k=(i !=0)
 | .str y=>y.length<=sizeLine/\k=((y.length:Int) !=0)
 | .byt y=>y.size<=sizeLine/\k=((y.size:Int) !=0)
 | .ref p=>(∃xs,SqL K H p xs/\k= !xs.isEmpty)\/(∃xs,SqT K H p xs/\k= !xs.isEmpty)\/∃kvs,H p=some (.dK kvs)/\k= !kvs.isEmpty
 |_=>False
theorem isEmpty_kv{κ:Type}{kvs:List (κ×V)}{vs:List (κ×ζ)}(r:KV kvs vs):(!vs.isEmpty)= !kvs.isEmpty:=by
 cases r<;>rfl
theorem isEmpty_of{xs:List V}{its:List ζ}(r:Vals xs its):(!its.toArray.isEmpty)= !xs.isEmpty:=by
 cases r<;>simp
theorem line63:(sizeLine:Nat)<2^63:=by rw[eX];decide
theorem tru_ok:TruR X (fun x H Q=>∃k,TruV X.K x H k/\Q k H):=by
 intro pins s σ H x v Q I rx h;obtain⟨k,e,q⟩:=h;have hl:=line63;have hs:sizeLine=16777216:=eX;cases x with
 |non=>
  cases rx;have e':k=false:=e;subst e';exact truthy_none ⟨H,I,q⟩
 |bl b=>
  cases rx;have e':k=b:=e;subst e';exact Ml ⟨H,I,q⟩
 |int i=>
  obtain⟨t,rfl⟩:=rx;have e':k=(i !=0):=e;subst e';exact PySem.P.truthy_int ⟨H,I,q⟩
 |str y=>
  obtain⟨t,rfl⟩:=rx;obtain⟨hy,e'⟩:y.length<=sizeLine/\k=((y.length:Int) !=0):=e;subst e';exact PySem.P.truthy_str (by omega) ⟨H,I.tok _,q⟩
 |byt y=>
  obtain⟨t,rfl⟩:=rx;obtain⟨hy,e'⟩:y.size<=sizeLine/\k=((y.size:Int) !=0):=e;subst e';exact PySem.W.truthy_bytes (by omega) ⟨H,I.tok _,q⟩
 |ref p=>
  cases rx;have e':(∃xs,SqL X.K H p xs/\k= !xs.isEmpty)\/(∃xs,SqT X.K H p xs/\k= !xs.isEmpty)\/∃kvs,H p=some (.dK kvs)/\k= !kvs.isEmpty:=e;rcases e' with⟨xs,hx,e'⟩|⟨xs,hx,e'⟩|⟨kvs,hx,e'⟩
  ·subst e';obtain⟨its,r,pl,hz⟩:=I.list hx;have hlen:=r.length;exact wpAny_truthy_list pl.isList (by simp only[fH];omega) ⟨H,I.tok _,by rw[isEmpty_of r];exact q⟩
  ·subst e';obtain⟨its,r,pl,hz⟩:=I.tuple hx;have hlen:=r.length;exact truthy_tuple pl (by simp only[fH];omega) ⟨H,I.tok _,by rw[isEmpty_of r];exact q⟩
  ·subst e';obtain⟨hz,hS,vs,r,m⟩:kvs.length<=sizeLine/\(p==sysModules)=false/\∃vs,KV kvs vs/\s.heap.DictOf (mixKind X.prog X.w) p vs:=I.hok p _ hx;have hlen:kvs.length=vs.length:=Paired.length r;exact wpAny_truthy_dict hS m (by omega) ⟨H,I.tok _,by rw[isEmpty_kv r];exact q⟩
 |_=>exact(show False from e).elim
theorem pt_truth(ha:PE X a ta)(he:∀whole,isTrue a X.env whole=(do let v<-whole;standAt a.pos;holding [v] (truthy v))):
  PT X a (fun σ H Q=>ta σ H fun x H'=>∃k,TruV X.K x H' k/\Q k H'):=by
 intro pins s σ H Q I h;exact isTrue_plain (thn (ha pins s σ H _ I h) fun v s1 ⟨x,H1,I1,r1,q1⟩=>tru_ok pins s1 σ H1 x v Q I1 r1 q1) (he _)
theorem vals1{x:V}{us:List ζ}(r:Vals [x] us):∃u,us=[u]/\RelV x u:=by
 cases r with
 |cons r1 r2=>cases r2;exact⟨_,rfl,r1⟩
theorem vals2{x y:V}{us:List ζ}(r:Vals [x,y] us):∃u w',us=[u,w']/\RelV x u/\RelV y w':=by
 cases r with
 |cons r1 r2=>
  cases r2 with
  |cons r3 r4=>cases r4;exact⟨_,_,rfl,r1,r3⟩
theorem call_abs:CallR X (.builtin "abs") (fun xs H Q=>∃i,xs=[.int i]/\Q (.int (if i<0 then -i else i)) H):=by
 intro pins s σ H xs us Q I r h;obtain⟨i,rfl,q⟩:=h;obtain⟨u,rfl,t,rfl⟩:=vals1 r;exact call_abs_int fun u tk=>⟨.int (if i<0 then -i else i),H,I.tok _,⟨_,rfl⟩,q⟩
theorem call_max2(hc:X.calm=true):CallR X (.builtin "max") (fun xs H Q=>∃i j,xs=[.int i,.int j]/\Q (.int (if j>i then j else i)) H):=by
 intro pins s σ H xs us Q I r h;obtain⟨i,j,rfl,q⟩:=h;obtain⟨u,w',rfl,⟨t,rfl⟩,⟨t',rfl⟩⟩:=vals2 r;refine max_two_ints (I.ok.hd hc) fun h' tk k=>⟨_,H,I.kept k,?_,q⟩;by_cases hj:j>i
 ·rw[aA hj,aA hj];exact⟨_,rfl⟩
 ·rw[aq hj,aq hj];exact⟨_,rfl⟩
theorem call_min2(hc:X.calm=true):CallR X (.builtin "min") (fun xs H Q=>∃i j,xs=[.int i,.int j]/\Q (.int (if j<i then j else i)) H):=by
 intro pins s σ H xs us Q I r h;obtain⟨i,j,rfl,q⟩:=h;obtain⟨u,w',rfl,⟨t,rfl⟩,⟨t',rfl⟩⟩:=vals2 r;refine min_two_ints (I.ok.hd hc) fun h' tk k=>⟨_,H,I.kept k,?_,q⟩;by_cases hj:j<i
 ·rw[aA hj,aA hj];exact⟨_,rfl⟩
 ·rw[aq hj,aq hj];exact⟨_,rfl⟩
theorem call_int1:CallR X (.type "int") (fun xs H Q=>(∃i,xs=[.int i]/\Q (.int i) H)\/∃k,xs=[.bl k]/\Q (.int (if k then 1 else 0)) H):=by
 intro pins s σ H xs us Q I r h;rcases h with⟨i,rfl,q⟩|⟨k,rfl,q⟩
 ·obtain⟨u,rfl,t,rfl⟩:=vals1 r;exact call_int_int ⟨.int i,H,I,⟨_,rfl⟩,q⟩
 ·obtain⟨u,rfl,r1⟩:=vals1 r;cases r1;exact call_int_bool ⟨.int (if k then 1 else 0),H,I.tok _,⟨_,rfl⟩,q⟩
end
structure ObjM(h:Heap)(x dx C:Addr)(mA:L4):Prop where
 obj:h.get? x=some (PySem.W.instObj C dx)
 ns:h.Ns1 dx mA
 ne:dx≠x
theorem lookIn_ns{h:Heap}{dx:Addr}{mA:L4}(n:h.Ns1 dx mA):∃od,h.get? dx=some od/\∀name,PySem.W.lookIn name od=some (mA name):=by
 obtain⟨o,es,ep,ho,hd,hk,_,hm⟩:=n;refine⟨o,ho,fun name=> ?_⟩;have e:=hm name;unfold nsFind findBy at e;rw[<-Array.find?_toList]at e;unfold PySem.W.lookIn;rw[hd];dsimp only;split
 ·rename_i y q;rw[q]at e;exact gq some e
 ·rename_i q;rw[q]at e;have a:es.toList.any (·.refKey)=false:=by
   rw[Xe];intro y hy;obtain⟨z,t,hkey⟩:=hk y (Array.mem_toList_iff.mp hy);simp[DictEntry.refKey,hkey]
  have a':¬es.toList.any (·.refKey)=true:=by rw[a];exact qZ
  rw[aq a'];exact gq some e
theorem ObjM.look{h:Heap}{x dx C:Addr}{mA:L4}(I:ObjM h x dx C mA):∃od,PySem.W.InstAt h x (PySem.W.instObj C dx) C (some od)/\∀name,PySem.W.lookIn name od=some (mA name):=
 let⟨od,ho,hl⟩:=lookIn_ns I.ns
 ⟨od,⟨I.obj,rfl,rfl,ho⟩,hl⟩
section
variable{prog:ξ}{w:τ}{A:υ}{E:L3}{s:η}{K:W.Frag}{x dx C f:Addr}{mA:L4}{name:Str}{v:ζ}
theorem get_map{expr:Bool}{Q:L3}(X:K.In s.heap)(I:ObjM s.heap x dx C mA)(hg:PySem.W.plainGet K C name=true)(hh:PySem.W.hasDictIn K C=true)(ha:PySem.W.findIn K (.ref C) name=some none)(hv:mA name=some v)(hv':PySem.W.handedIn v=true)(h:Q v {s with toks:=s.toks+1}):
  wpAny (model prog w) A (getAttr (.ref x) name expr) Q E s:=by
 obtain⟨od,J,hl⟩:=I.look;exact PySem.W.get_value X J (wdj hg).1 (PySem.W.findObj_own hh ha rfl (by rw[hl,hv])) hv' h
theorem get_meth{pl:Sem Bool}{Q:ζ×List ζ->η->Prop}(X:K.In s.heap)(I:ObjM s.heap x dx C mA)(hg:PySem.W.plainGet K C name=true)(hf:PySem.W.findIn K (.ref C) name=some (some (.ref f)))(ht:PySem.W.isFn K (.ref f)=true)(hv:mA name=none)(h:Q (.ref f,[.ref x]) s):
  wpAny (model prog w) A (getMethod (.ref x) name pl) Q E s:=by
 obtain⟨od,J,hl⟩:=I.look;exact PySem.W.method_fn X J (wdj hg).1 (wdj hg).2 hf (beq_iff_eq.mp ht) (by show(PySem.W.lookIn name od).map (·.isSome)=some false;rw[hl,hv];rfl) h
theorem set_map{ns:List Str}{Q:Unit->η->Prop}(X:K.In s.heap)(I:ObjM s.heap x dx C mA)(hs:PySem.W.findIn K (.ref C) "__setattr__"=some (some (.builtin "object.__setattr__")))(hp:PySem.W.plainOver K C=true)(ht:PySem.W.takerIn K C name=some none)(hh:PySem.W.hasDictIn K C=true)(hw:PySem.Within mA ns)(hsz:ns.length<=sizeLine)(h:∀h',ObjM h' x dx C (fun y=>if y=name then some v else mA y)->Heap.SameBut dx s.heap h'->Q () {s with heap:=h',toks:=s.toks+2}):
  wpAny (model prog w) A (setAttr (.ref x) name v) Q E s:=by
 obtain⟨od,J,hl⟩:=I.look;refine PySem.W.set_plain X J hs (PySem.W.osa_open (s:={s with toks:=s.toks+1}) (r:=none) X J hp ht fun b=> ?_);obtain⟨cd,hc,hd'⟩:=PySem.W.any_some hh;have hx:s.heap.get? x=some ⟨.ref C,some dx,.plain,#[]⟩:=I.obj;refine aM (cO (aM (aM (wpAny_loadPart hx (aM (PySem.W.Looks.here (s:={s with toks:=s.toks+1}) (PySem.W.looks_clsIn X hc) ?_))))));rw[hd'];refine cO (a:=some dx) (aM (cO (aM ?_)));refine wpAny_nsSet1 (s:={s with toks:=s.toks+1}) I.ns fun h' hn2 hs2=> ?_;obtain⟨oD,esD,epD,hoD,hdD,hcD⟩:=hn2.count (PySem.Within.cons name v hw);refine aM (wpAny_lookBehind hoD (by rw[hdD];exact pastItsLine_dict (eN hcD (by rw[pW];omega))) ?_);exact cO (h _ ⟨(hs2.2 _ (jU I.ne)).trans I.obj,hn2,I.ne⟩ hs2)
theorem make_map{R:Result->η->Prop}{vs:List ζ}{kw:List (Str×ζ)}(X:K.In s.heap)(hm:PySem.W.makesIn K C=true)(hi:PySem.W.findIn K (.ref C) "__init__"=some (some (.ref f)))(hf:PySem.W.typeIn K (.ref f)=some (.type "function"))(h:codeAny (model prog w) (A.under (.builtin "type.__call__" ⟨.ref C::vs,kw⟩)) (.call (.ref f) ⟨.ref (s.heap.objs.size+1)::vs,kw⟩) (PySem.W.InitBack (s.heap.objs.size+1) R)
   {s with heap:=(s.heap.push PySem.W.emptyDict).push (PySem.W.instObj C s.heap.objs.size)}):
  codeAny (model prog w) A (.call (.ref C) ⟨vs,kw⟩) R s:=by
 obtain⟨hh,g,d,t,os⟩:=s;exact PySem.W.make_core (PySem.W.makes_of X hm) (PySem.W.looks_findIn X hi) (fun self=>PySem.W.bind_fn X self hf) (.inl rfl) h
end
noncomputable def putF(f:Str)(v:V):List (Str×V)->List (Str×V)
 |[]=>[(f,v)]
 |(g,x)::r=>if g=f then(g,v)::r else(g,x)::putF f v r
theorem lookup_putF(f g:Str)(v:V):∀fs:List (Str×V),(putF f v fs).lookup g=if g=f then some v else fs.lookup g
 |[]=>by
  show List.lookup g [(f,v)]=_;by_cases h:g=f
  ·have hb:(g==f)=true:=beq_iff_eq.mpr h;simp only[List.lookup,hb,aA h]
  ·have hb:(g==f)=false:=beq_eq_false_iff_ne.mpr h;simp only[List.lookup,hb,aq h]
 |(k,x)::r=>by
  have ih:=lookup_putF f g v r;rw[show putF f v ((k,x)::r)=(if k=f then(k,v)::r else(k,x)::putF f v r)from rfl];by_cases hk:k=f
  ·rw[aA hk];by_cases h:g=k
   ·have hb:(g==k)=true:=beq_iff_eq.mpr h;simp only[List.lookup,hb,aA (h.trans hk)]
   ·have hb:(g==k)=false:=beq_eq_false_iff_ne.mpr h;simp only[List.lookup,hb,aq (fun e:g=f=>h (e.trans hk.symm))]
  ·rw[aq hk];by_cases h:g=k
   ·have hb:(g==k)=true:=beq_iff_eq.mpr h;simp only[List.lookup,hb,aq (fun e:g=f=>hk (h.symm.trans e))]
   ·have hb:(g==k)=false:=beq_eq_false_iff_ne.mpr h;simp only[List.lookup,hb];exact ih
theorem keys_putF(f:Str)(v:V):∀fs:List (Str×V),f∈(putF f v fs).map (·.1)/\∀g,g∈fs.map (·.1)->g∈(putF f v fs).map (·.1)
 |[]=>⟨by simp[putF],fun g h=>by simp at h⟩
 |(k,x)::r=>by
  obtain⟨i1,i2⟩:=keys_putF f v r;rw[show putF f v ((k,x)::r)=(if k=f then(k,v)::r else(k,x)::putF f v r)from rfl];by_cases hk:k=f
  ·rw[aA hk];subst hk;exact⟨by simp,fun g h=>by simpa using h⟩
  ·rw[aq hk];refine⟨?_,fun g h=> ?_⟩
   ·rw[zW];exact dF _ i1
   ·rw[zW]at h⊢;rcases cQ.mp h with e|e
    ·exact cQ.mpr (.inl e)
    ·exact dF _ (i2 g e)
theorem length_putF(f:Str)(v:V):∀fs:List (Str×V),(putF f v fs).length<=fs.length+1
 |[]=>by simp[putF]
 |(k,x)::r=>by
  have ih:=length_putF f v r;rw[show putF f v ((k,x)::r)=(if k=f then(k,v)::r else(k,x)::putF f v r)from rfl];by_cases hk:k=f
  ·rw[aA hk,pW,pW];omega
  ·rw[aq hk,pW,pW];omega
theorem RelO.some_of{v:V}{o:Option ζ}(r:RelO (some v) o):∃u,o=some u/\RelV v u:=by
 cases o with
 |none=>exact(show False from r).elim
 |some u=>exact⟨u,rfl,r⟩
theorem RelO.none_of{o:Option ζ}(r:RelO none o):o=none:=by
 cases o with
 |none=>rfl
 |some u=>exact(show False from r).elim
theorem handed_of{v:V}{u:ζ}(r:RelV v u):PySem.W.handedIn u=true:=by
 cases v with
 |non=>cases(show u=Value.none from r);rfl
 |bl b=>cases(show u=Value.bool b from r);rfl
 |int i=>obtain⟨t,e⟩:=(show∃t,u=Value.int i t from r);cases e;rfl
 |str x=>obtain⟨t,e⟩:=(show∃t,u=Value.str x t from r);cases e;rfl
 |byt b=>obtain⟨t,e⟩:=(show∃t,u=Value.bytes b t from r);cases e;rfl
 |flt b=>obtain⟨t,e⟩:=(show∃t,u=Value.float b t from r);cases e;rfl
 |ref a=>cases(show u=Value.ref a from r);rfl
 |ty n=>cases(show u=Value.type n from r);rfl
section
variable{P:ξ}{w:τ}{H:Hp}{h:Heap}{a C dx:Addr}{fs:List (Str×V)}
theorem ins_get(hok:HOk P w H h)(e:H a=some (.ins C dx fs)):∃mA,ObjM h a dx C mA/\(∀f,RelO (fs.lookup f) (mA f))/\PySem.Within mA (fs.map (·.1))/\fs.length<=1000/\H dx=some (.own a):=by
 obtain⟨d,z,ne,ob,mA,n,r,q⟩:=(show ObjOk P w H h a (.ins C dx fs)from hok a _ e);exact⟨mA,⟨ob,n,ne⟩,r,q,z,d⟩
end
structure Cls(K:W.Frag)(C:Addr):Prop where
 pg:PySem.W.plainGet K C Str.empty=true
 hd:PySem.W.hasDictIn K C=true
 po:PySem.W.plainOver K C=true
 sa:PySem.W.findIn K (.ref C) "__setattr__"=some (some (.builtin "object.__setattr__"))
theorem Cls.get{K:W.Frag}{C:Addr}(c:Cls K C)(f:Str):PySem.W.plainGet K C f=true:=c.pg
noncomputable def NoAttr(K:W.Frag)(C:Addr)(f:Str):Prop:=PySem.W.findIn K (.ref C) f=some none
theorem NoAttr.taker{K:W.Frag}{C:Addr}{f:Str}(n:NoAttr K C f):PySem.W.takerIn K C f=some none:=by
 unfold PySem.W.takerIn;rw[show PySem.W.findIn K (.ref C) f=some none from n];rfl
structure Meth(K:W.Frag)(C:Addr)(m:Str)(f:Addr):Prop where
 at_:PySem.W.findIn K (.ref C) m=some (some (.ref f))
 fn:PySem.W.isFn K (.ref f)=true
 kp:PySem.W.keepIn K (.ref f)=true
section
variable{X:Cx}{pins:L1}{σ:St}{H:Hp}{s:η}{a C dx:Addr}{fs:List (Str×V)}{f:Str}{v:V}{A:υ}{E:L3}
theorem getattr_ok{b:Bool}{Q:L3}(I:Inv X pins σ H s)(e:H a=some (.ins C dx fs))(c:Cls X.K C)(n:NoAttr X.K C f)(l:fs.lookup f=some v)(h:∀u s',Inv X pins σ H s'->RelV v u->Q u s'):wpAny (model X.prog X.w) A (getAttr (.ref a) f b) Q E s:=by
 obtain⟨mA,O,r,_,_,_⟩:=ins_get I.hok e;obtain⟨u,hu,ru⟩:=RelO.some_of (v:=v) (o:=mA f) (by rw[<-l];exact r f);exact get_map I.kIn O (c.get f) c.hd n hu (handed_of ru) (h u _ (I.tok _) ru)
theorem getmeth_ok{m:Str}{g:Addr}{pl:Sem Bool}{Q:ζ×List ζ->η->Prop}(I:Inv X pins σ H s)(e:H a=some (.ins C dx fs))(c:Cls X.K C)(k:Meth X.K C m g)(l:fs.lookup m=none)(h:Q (.ref g,[.ref a]) s):wpAny (model X.prog X.w) A (getMethod (.ref a) m pl) Q E s:=by
 obtain⟨mA,O,r,_,_,_⟩:=ins_get I.hok e;have hn:mA m=none:=RelO.none_of (by rw[<-l];exact r m);exact get_meth I.kIn O (c.get m) k.at_ k.fn hn h
theorem setattr_ok{y:V}{u:ζ}{Q:Unit->η->Prop}(I:Inv X pins σ H s)(e:H a=some (.ins C dx fs))(c:Cls X.K C)(n:NoAttr X.K C f)(hl:fs.length<1000)(ry:RelV y u)(h:∀s',Inv X pins σ (upd H a (.ins C dx (putF f y fs))) s'->Q () s'):wpAny (model X.prog X.w) A (setAttr (.ref a) f u) Q E s:=by
 obtain⟨mA,O,r,wi,_,ho⟩:=ins_get I.hok e;have hz:(fs.map (·.1)).length<=sizeLine:=by rw[aG,eX];omega
 refine set_map I.kIn O c.sa c.po n.taker c.hd wi hz fun h' O' sb=>h _ ?_;have hd:∃o,h'.get? dx=some o:=let⟨o,_,_,e',_⟩:=O'.ns;⟨o,e'⟩;refine I.write (x:=a) (e:=dx) (by rw[e];exact True.intro) (.inr ho) (fun b q hb z=>(sb.2 b hb).trans z) hd ?_;refine⟨by rw[cP O.ne];exact ho,?_,O.ne,O'.obj,_,O'.ns,fun g=> ?_,fun g hg=> ?_⟩
 ·have:=length_putF f y fs;omega
 ·show RelO ((putF f y fs).lookup g) (if g=f then some u else mA g);rw[lookup_putF];by_cases q:g=f
  ·rw[aA q,aA q];exact ry
  ·rw[aq q,aq q];exact r g
 ·by_cases q:g=f
  ·rw[q];exact(keys_putF f y fs).1
  ·refine(keys_putF f y fs).2 g (wi g fun z=>hg ?_);show(if g=f then some u else mA g)=none;rw[aq q];exact z
theorem Inv.made(I:Inv X pins σ H s):Inv X pins σ (upd (upd H s.heap.objs.size (.own (s.heap.objs.size+1))) (s.heap.objs.size+1) (.ins C s.heap.objs.size []))
  {s with heap:=(s.heap.push PySem.W.emptyDict).push (PySem.W.instObj C s.heap.objs.size)}:=by
 have e1:(s.heap.push PySem.W.emptyDict).get? s.heap.objs.size=some PySem.W.emptyDict:=j7 s.heap rfl;have e2:((s.heap.push PySem.W.emptyDict).push (PySem.W.instObj C s.heap.objs.size)).get? (s.heap.objs.size+1)=some (PySem.W.instObj C s.heap.objs.size):=by
  have:=j7 (s.heap.push PySem.W.emptyDict) (o:=PySem.W.instObj C s.heap.objs.size) rfl
  rwa [MN]at this
 have e3:(s.heap.push PySem.W.emptyDict).Ns s.heap.objs.size (fun _=>none):=⟨PySem.W.emptyDict,#[],_,e1,rfl,(fun e he=>absurd he (by simp)),fun _=>rfl⟩;have I1:=I.laid (a:=s.heap.objs.size) (o:= .own (s.heap.objs.size+1)) (h':=s.heap.push PySem.W.emptyDict) (t':=s.toks) (fun b u q=>gP _ q) (aN _) ⟨_,e1⟩;refine I1.laid (a:=s.heap.objs.size+1) (o:= .ins C s.heap.objs.size []) (t':=s.toks) (fun b u q=>gP _ q) (CK (MN _ _)) ?_;have ne:s.heap.objs.size≠s.heap.objs.size+1:=fM (tM _);refine⟨by rw[cP ne,aJ],dw _,ne,e2,fun _=>none,(Heap.Ns1.of_empty e3).at fun o q=>gP _ q,fun _=>True.intro,fun y hy=>absurd rfl hy⟩
theorem attr_of{prog:ξ}{w:τ}{env:Env}{e:Expr}{f:Str}{pos:Pos}{s:η}{Q:L3}(hb:attributeBase e f env (eval e env)=eval e env)(h:wpAny (model prog w) A (eval e env) (fun o s₁=>wpAny (model prog w) A (getAttr o f true) Q E s₁) E s):wpAny (model prog w) A (eval (.Attribute e f pos) env) Q E s:=
 Attribute_any_ h (by rw[arm_eval_Attribute,hb])
end
noncomputable def tFld(K:W.Frag)(ta:TE)(f:Str):TE:=fun σ H Q=>ta σ H fun x H1=>∃a C dx fs v,x= .ref a/\H1 a=some (.ins C dx fs)/\Cls K C/\NoAttr K C f/\fs.lookup f=some v/\Q v H1
noncomputable def sFld(K:W.Frag)(ta tv:TE)(f:Str):TS:=fun D σ H=>tv σ H fun y H1=>ta σ H1 fun x H2=>∃a C dx fs,x= .ref a/\H2 a=some (.ins C dx fs)/\Cls K C/\NoAttr K C f/\fs.length<1000/\
 D.nx σ (upd H2 a (.ins C dx (putF f y fs)))
section
variable{X:Cx}{o e value:Expr}{f:Str}{pos pos':Pos}{ta tv:TE}
theorem lN(he:PE X e ta)(hb:attributeBase e f X.env (eval e X.env)=eval e X.env):PE X (.Attribute e f pos) (tFld X.K ta f):=by
 intro pins s σ H Q I h;refine attr_of hb (thn (he pins s σ H _ I h) fun u s1 ⟨x,H1,I1,rx,a,C,dx,fs,v,ex,ea,c,n,l,q⟩=> ?_);subst ex;obtain rfl:u=Value.ref a:=rx;exact getattr_ok I1 ea c n l fun u' s2 I2 ru=>⟨v,H1,I2,ru,q⟩
theorem ps_fld(ha:PE X o ta)(hv:PE X value tv)(hs:swapsWith value (some (.Attribute o f pos')) pos.line X.env=pure false):PS X (.Assign [.Attribute o f pos'] value pos) (sFld X.K ta tv f):=by
 intro pins s σ H D I h;refine plainObj_wpAny_Assign_Attribute (thn (hv pins s σ H _ I h) fun u s1 ⟨y,H1,I1,ry,q⟩=>thn (ha pins s1 σ H1 _ I1 q) fun ov s2 ⟨x,H2,I2,rx,a,C,dx,fs,ex,ea,c,n,l,q2⟩=> ?_) hs;subst ex;obtain rfl:ov=Value.ref a:=rx;exact setattr_ok I2 ea c n l ry fun s3 I3=>⟨σ,_,I3,q2⟩
end
structure Room(k:Nat)(A:υ):Prop where
 hd:A.handled=none
 dp:A.depth+3*k+5<recursionLimit
 un:A.units+16*k+200<cLine
 gd:A.guards=some []
theorem Room.mono{j k:Nat}{A:υ}(r:Room k A)(h:j<=k):Room j A:=⟨r.hd,by have:=r.dp;omega,by have:=r.un;omega,r.gd⟩
theorem Room.deeper{k:Nat}{A:υ}(r:Room (k+1) A)(env:Env):Room k (A.deeper env):=
 ⟨r.hd,by have:=r.dp;show A.depth+1+3*k+5<_;omega,by have:=r.un;show A.units+3+16*k+200<_;omega,r.gd⟩
theorem Room.in1{k:Nat}{A:υ}(r:Room (k+1) A):Room k A.in1:=
 ⟨r.hd,by have:=r.dp;show A.depth+3*k+5<_;omega,by have:=r.un;show A.units+1+16*k+200<_;omega,r.gd⟩
theorem make_depth{A:υ}{C:Addr}{us:List ζ}{kw:List (Str×ζ)}:(A.under (.builtin "type.__call__" ⟨.ref C::us,kw⟩)).depth=A.depth+1:=by
 first |rfl|simp[Around.under,Code.weight,Code.isCreation,Code.isGuard,Code.isCaller,Code.frames,Code.isFrame,guardIds]
theorem make_units{A:υ}{C:Addr}{us:List ζ}{kw:List (Str×ζ)}:(A.under (.builtin "type.__call__" ⟨.ref C::us,kw⟩)).units=A.units+1:=by
 first |rfl|simp[Around.under,Code.cUnits,Code.frames,Code.isFrame]
theorem Room.make{k:Nat}{A:υ}(r:Room (k+1) A)(C:Addr)(us:List ζ)(kw:List (Str×ζ)):Room k (A.under (.builtin "type.__call__" ⟨.ref C::us,kw⟩)):=
 ⟨r.hd,by have:=r.dp;rw[make_depth];omega,by have:=r.un;rw[make_units];omega,by
  have q:=r.gd
  first |exact q|(simp[Around.under,Code.isGuard,guardIds];exact q)|(unfold Around.under;simp[Code.isGuard,guardIds,q])⟩
theorem Room.depth{k:Nat}{A:υ}(r:Room k A):A.depth<recursionLimit:=by have:=r.dp;omega
theorem Room.units{k:Nat}{A:υ}(r:Room k A):A.units+64<cLine:=by have:=r.un;omega
theorem Room.units0{k:Nat}{A:υ}(r:Room k A):A.units<cLine:=by have:=r.un;omega
noncomputable def tNil:TA:=fun _ H Q=>Q [] H
noncomputable def tCons(ta:TE)(tr:TA):TA:=fun σ H Q=>ta σ H fun x H1=>tr σ H1 fun xs H2=>Q (x::xs) H2
section
variable{X:Cx}{e:Expr}{es:List Expr}{te:TE}{t:TA}{pos:Pos}
theorem ao:PA X [] tNil:=fun _ _ _ _ H Q I h=>wcl ⟨[],H,I,.nil,h⟩
theorem aj(ha:PE X e te)(hr:PA X es t)(hs:starEach (e::es) X.env=(false,eval e X.env)::starEach es X.env:=by rfl):PA X (e::es) (tCons te t):=by
 intro pos pins s σ H Q I h;rw[hs];show wpAny _ _ (spliced ((false,eval e X.env)::backTo pos (starEach es X.env))) _ _ s;refine wcc (thn (ha pins s σ H _ I h) fun u s1 ⟨x,H1,I1,r1,q1⟩=> ?_);exact thn (hr pos pins s1 σ H1 _ I1 q1) fun us s2 ⟨xs,H2,I2,r2,q2⟩=>⟨x::xs,H2,I2,.cons r1 r2,q2⟩
noncomputable def tTup(t:TA):TE:=fun σ H Q=>t σ H fun xs H1=>xs.length<=sizeLine/\∀p,H1 p=none->Q (.ref p) (upd H1 p (.tup xs))
noncomputable def tLst(t:TA):TE:=fun σ H Q=>t σ H fun xs H1=>xs.length<=sizeLine/\∀p,H1 p=none->Q (.ref p) (upd H1 p (.lst xs))
theorem qu{x1}(h:PA X es t):PE X (.Tuple es x1 pos) (tTup t):=by
 intro pins s σ H Q I hq;refine wpAny_Tuple_spliced (thn (h pos pins s σ H _ I hq) fun us s1 ⟨xs,H1,I1,r,z,q⟩=>⟨by rw[<-r.length];exact z,?_⟩);have hf:H1 s1.heap.objs.size=none:=I1.hok.fresh (aN _);refine⟨.ref s1.heap.objs.size,upd H1 s1.heap.objs.size (.tup xs),I1.laid (t':=s1.toks) (fun b u e=>gP _ e) (aN _) ?_,rfl,q _ hf⟩;exact⟨z,us,r,⟨_,j7 _ rfl,rfl,_,rfl⟩⟩
theorem Ad(h:PA X es t):PE X (.List es pos) (tLst t):=by
 intro pins s σ H Q I hq;refine wpAny_List_spliced (thn (h pos pins s σ H _ I hq) fun us s1 ⟨xs,H1,I1,r,z,q⟩=>⟨by rw[<-r.length];exact z,?_⟩);have hf:H1 s1.heap.objs.size=none:=I1.hok.fresh (aN _);refine⟨.ref s1.heap.objs.size,upd H1 s1.heap.objs.size (.lst xs),I1.laid (t':=s1.toks) (fun b u e=>gP _ e) (aN _) ?_,rfl,q _ hf⟩;exact⟨z,us,0,r,j7 _ rfl⟩
end
noncomputable abbrev Sp:=List V->Hp->VK->XK->Prop
noncomputable abbrev CXT:=List Env->Hp->η->XK->ζ->η->Prop
structure Env0(P:ξ)(w:τ)(K:W.Frag)(mg:L4)(base:Heap)(A:υ)(outer:List Env)(s:η)(H:Hp):Prop where
 frames:A.frames=some outer
 mod:Mod K mg base
 bs:∀b o,base.get? b=some o->s.heap.get? b=some o/\H b=none
 bsz:base.objs.size<=s.heap.objs.size
 funs:s.heap.FunFrames base outer
 frf:∀b∈frs outer,H b=none
 hok:HOk P w H s.heap
 bare:AllBare s.gens
noncomputable def CE(outer:List Env)(P:ξ)(w:τ)(H:Hp)(s:η)(Q:VK)(u:ζ)(s':η):Prop:=
 ∃v H',s'.os=s.os/\AllBare s'.gens/\Un (frs outer) [] H H' s.heap s'.heap/\HOk P w H' s'.heap/\RelV v u/\Q v H'
noncomputable def CR(CX:CXT)(outer:List Env)(P:ξ)(w:τ)(H:Hp)(s:η)(Q:VK)(E:XK)(r:Result)(s':η):Prop:=
 match r with
 | .ok (.ret u)=>CE outer P w H s Q u s'
 | .ok _=>False
 | .error e=>CX outer H s E e s'
structure FnOk(P:ξ)(w:τ)(K:W.Frag)(mg:L4)(base:Heap)(CX:CXT)(k:Nat)(f:Addr)(fd:ρ)(ps:List Str)(sp:Sp):Prop where
 len:∀vs H Q E,sp vs H Q E->vs.length=ps.length
 run:∀(A:υ) (outer:List Env) (s:η) (H:Hp) (args:Args) (us:List ζ) (vs:List V) (Q:VK) (E:XK),Room k A->Env0 P w K mg base A outer s H->BindsTo s fd args (ps.zip us)->Vals vs us->sp vs H Q E->
  codeAny (model P w) A (.call (.ref f) args) (CR CX outer P w H s Q E) s
theorem FnOk.mono{P:ξ}{w:τ}{K:W.Frag}{mg:L4}{base:Heap}{CX:CXT}{j k:Nat}{f:Addr}{fd:ρ}{ps:List Str}{sp:Sp}(F:FnOk P w K mg base CX j f fd ps sp)(h:j<=k):
  FnOk P w K mg base CX k f fd ps sp:=⟨F.len,fun A outer s H args us vs Q E hr=>F.run A outer s H args us vs Q E (hr.mono h)⟩
theorem Env0.make{P:ξ}{w:τ}{K:W.Frag}{mg:L4}{base:Heap}{A:υ}{outer:List Env}{s:η}{H:Hp}(e:Env0 P w K mg base A outer s H)(C:Addr)(us:List ζ)(kw:List (Str×ζ)):
  Env0 P w K mg base (A.under (.builtin "type.__call__" ⟨.ref C::us,kw⟩)) outer s H:=⟨by first |exact e.frames|(simpa[Around.under,Code.envs,Code.isFrame,pushEnvs]using e.frames),e.mod,e.bs,e.bsz,e.funs,e.frf,e.hok,e.bare⟩
theorem Env0.in1{P:ξ}{w:τ}{K:W.Frag}{mg:L4}{base:Heap}{A:υ}{outer:List Env}{s:η}{H:Hp}(e:Env0 P w K mg base A outer s H):
  Env0 P w K mg base A.in1 outer s H:=⟨e.frames,e.mod,e.bs,e.bsz,e.funs,e.frf,e.hok,e.bare⟩
section
variable{X:Cx}{pins:L1}{σ:St}{H:Hp}{s s':η}
theorem Inv.env0(I:Inv X pins σ H s):Env0 X.prog X.w X.K X.mg X.base X.A X.stack s H:=
 ⟨I.ok.frames,I.ok.mod,I.bs,eN I.ok.bsz I.sz,I.stack,I.stkFree,I.hok,I.bare⟩
theorem Inv.after{Q:VK}{u:ζ}(I:Inv X pins σ H s)(h:CE X.stack X.prog X.w H s Q u s'):EP X pins σ Q u s':=by
 obtain⟨v,H',os,bare,un,hok,r,q⟩:=h;obtain⟨hh,g,d,t,os'⟩:=s';obtain rfl:os'=s.os:=os;exact⟨v,H',I.call (h':=hh) (g':=g) (d':=d) (t':=t) (ch:=[]) un hok bare (fun b z=>absurd z (by simp)),r,q⟩
end
noncomputable def tCall(sp:Sp)(dvs:List V)(E:XK)(t:TA):TE:=fun σ H Q=>t σ H fun vs H1=>sp (vs++dvs) H1 Q E
noncomputable def tMeth(C:Addr)(m:Str)(sp:Sp)(dvs:List V)(E:XK)(ta:TE)(t:TA):TE:=fun σ H Q=>ta σ H fun x H1=>∃a dx fs,x= .ref a/\H1 a=some (.ins C dx fs)/\fs.lookup m=none/\
 t σ H1 fun vs H2=>sp (x::(vs++dvs)) H2 Q E
noncomputable def tMake(C:Addr)(sp:Sp)(dvs:List V)(E:XK)(t:TA):TE:=fun σ H Q=>t σ H fun vs H1=>∀x dx,H1 x=none->H1 dx=none->dx≠x->
 sp (.ref x::(vs++dvs)) (upd (upd H1 dx (.own x)) x (.ins C dx [])) (fun v H2=>v= .non/\Q (.ref x) H2) E
noncomputable def Binds(K:W.Frag)(fd:ρ)(ps:List Str)(ds:List ζ):Prop:=
 ∀(s:η) (us:List ζ),K.In s.heap->(us++ds).length=ps.length->BindsTo s fd ⟨us,[]⟩ (ps.zip (us++ds))
theorem Binds.all{K:W.Frag}{fd:ρ}{ps:List Str}(h:∀us:List ζ,us.length=ps.length->bindArgs fd ⟨us,[]⟩=pure (ps.zip us)):Binds K fd ps []:=fun s us _ hl=>by
 rw[tL]at hl⊢;exact .of_eq (h us hl)
noncomputable def Passes(CX:CXT)(X:Cx)(E:XK):Prop:=∀(pins:L1) (σ:St) (H:Hp) (s:η) (e:ζ) (s':η),Inv X pins σ H s->CX X.stack H s E e s'->X.xe e s'
section
variable{X:Cx}{CX:CXT}{k:Nat}{f C:Addr}{fd:ρ}{ps:List Str}{sp:Sp}{dvs:List V}{ds:List ζ}{E:XK}{x m:Str}{p pos apos:Pos}{e o:Expr}{es:List Expr}{ta:TE}{t:TA}
theorem run_fn{pins:L1}{σ:St}{H:Hp}{s:η}{Q:VK}{us:List ζ}{vs:List V}(F:FnOk X.prog X.w X.K X.mg X.base CX k f fd ps sp)(hr:Room k X.A)(hb:Binds X.K fd ps ds)(hd:Vals dvs ds)(hx:Passes CX X E)
  (I:Inv X pins σ H s)(r:Vals vs us)(h:sp (vs++dvs) H Q E):wpAny (model X.prog X.w) X.A (call (.ref f) us) (EP X pins σ Q) X.xe s:=by
 have r2:Vals (vs++dvs) (us++ds):=r.append hd;have hl:(us++ds).length=ps.length:=by rw[<-r2.length];exact F.len _ _ _ _ h
 refine wpAny_call (VJ (F.run X.A X.stack s H ⟨us,[]⟩ (us++ds) (vs++dvs) Q E hr I.env0 (hb s us I.kIn hl) r2 h) fun r s' hq=> ?_);cases r with
 |error e=>exact hx pins σ H s e s' I hq
 |ok fl=>
  cases fl with
  |ret u=>exact I.after hq
  |next=>exact False.elim hq
  |brk=>exact False.elim hq
  |cont=>exact False.elim hq
theorem pe_call(F:FnOk X.prog X.w X.K X.mg X.base CX k f fd ps sp)(hr:Room k X.A)(hg:Gl X x)(hm:X.mg x=some (.ref f))(hk:PySem.W.keepIn X.K (.ref f)=true)(hb:Binds X.K fd ps ds)(hd:Vals dvs ds)(hx:Passes CX X E)(ha:PA X (e::es) t)(hdb:(x==("__debug__":Str))=false:=by decide)(he:starEach (e::es) X.env=(false,eval e X.env)::starEach es X.env:=by rfl)(hpl:(backTo pos (starEach es X.env)).any (·.1)=false:=by rfl):
  PE X (.Call (.Name x p) (e::es) [] pos) (tCall sp dvs E t):=by
 intro pins s σ H Q I h;refine M8 (ld_glob I hg hm ?_ hdb);refine wds (h₀:=X.base) I.ok.mod.kin hk (thn (ha pos pins s σ H _ I h) fun us s1 ⟨vs,H1,I1,r,q⟩=>⟨I1.kIn,?_⟩) he hpl;exact run_fn F hr hb hd hx I1 r q
theorem Cw{pl:Sem Bool}(he:PE X o ta)(c:Cls X.K C)(hm:Meth X.K C m f)(F:FnOk X.prog X.w X.K X.mg X.base CX k f fd ps sp)(hr:Room k X.A)(hb:Binds X.K fd ps ds)(hd:Vals dvs ds)(hx:Passes CX X E)(ha:PA X (e::es) t)(hst:starEach (e::es) X.env=(false,eval e X.env)::starEach es X.env:=by rfl)(hpl:(backTo pos (starEach es X.env)).any (·.1)=false:=by rfl)(ht:eval (.Call (.Attribute o m apos) (e::es) [] pos) X.env=(do
   let ov<-eval o X.env
   standAt apos.atName
   let(f,first)<-holding [ov] (getMethod ov m pl)
   callWith pos f first (backTo pos (starEach (e::es) X.env)) (backToKw pos (keywordEach [] X.env))):=by rfl):
  PE X (.Call (.Attribute o m apos) (e::es) [] pos) (tMeth C m sp dvs E ta t):=by
 intro pins s σ H Q I h;refine wfb (pl:=pl) (thn (he pins s σ H _ I h) fun u s1 ⟨x,H1,I1,rx,a,dx,fs,ex,ea,l,q⟩=> ?_) ht;subst ex;obtain rfl:u=Value.ref a:=rx;refine getmeth_ok I1 ea c hm l ?_;refine wds (first:=[.ref a]) (h₀:=X.base) I.ok.mod.kin hm.kp (thn (ha pos pins s1 σ H1 _ I1 q) fun us s2 ⟨vs,H2,I2,r,q2⟩=>⟨I2.kIn,?_⟩) hst hpl;exact run_fn (us:= .ref a::us) (vs:= .ref a::vs) F hr hb hd hx I2 (.cons rfl r) q2
theorem pe_meth0{pl:Sem Bool}(he:PE X o ta)(c:Cls X.K C)(hm:Meth X.K C m f)(F:FnOk X.prog X.w X.K X.mg X.base CX k f fd ps sp)(hr:Room k X.A)(hb:Binds X.K fd ps ds)(hd:Vals dvs ds)(hx:Passes CX X E)(ht:eval (.Call (.Attribute o m apos) [] [] pos) X.env=(do
   let ov<-eval o X.env
   standAt apos.atName
   let(f,first)<-holding [ov] (getMethod ov m pl)
   callWith pos f first (backTo pos (starEach [] X.env)) (backToKw pos (keywordEach [] X.env))):=by rfl):
  PE X (.Call (.Attribute o m apos) [] [] pos) (tMeth C m sp dvs E ta tNil):=by
 intro pins s σ H Q I h;refine wfb (pl:=pl) (thn (he pins s σ H _ I h) fun u s1 ⟨x,H1,I1,rx,a,dx,fs,ex,ea,l,q⟩=> ?_) ht;subst ex;obtain rfl:u=Value.ref a:=rx;refine getmeth_ok I1 ea c hm l ?_;exact PySem.W.callWith_K0 (first:=[.ref a]) I1.kIn hm.kp (run_fn (us:=[.ref a]) (vs:=[.ref a]) F hr hb hd hx I1 (.cons rfl .nil) q)
structure Mk(K:W.Frag)(C f:Addr):Prop where
 makes:PySem.W.makesIn K C=true
 init:PySem.W.findIn K (.ref C) "__init__"=some (some (.ref f))
 fn:PySem.W.isFn K (.ref f)=true
 kp:PySem.W.keepIn K (.ref C)=true
theorem run_make{pins:L1}{σ:St}{H:Hp}{s:η}{Q:VK}{us:List ζ}{vs:List V}(M:Mk X.K C f)(F:FnOk X.prog X.w X.K X.mg X.base CX k f fd ps sp)(hr:Room (k+1) X.A)(hb:Binds X.K fd ps ds)(hd:Vals dvs ds)(hx:Passes CX X E)(I:Inv X pins σ H s)(r:Vals vs us)(h:∀x dx,H x=none->H dx=none->dx≠x->sp (.ref x::(vs++dvs)) (upd (upd H dx (.own x)) x (.ins C dx [])) (fun v H2=>v= .non/\Q (.ref x) H2) E):
  wpAny (model X.prog X.w) X.A (call (.ref C) us) (EP X pins σ Q) X.xe s:=by
 have hq:=h (s.heap.objs.size+1) s.heap.objs.size (I.hok.fresh (Hl _)) (I.hok.fresh (aN _)) (fM (tM _));have I2:=Inv.made (C:=C) I;have r2:Vals (V.ref (s.heap.objs.size+1)::(vs++dvs)) (Value.ref (s.heap.objs.size+1)::(us++ds)):= .cons rfl (r.append hd);have hl:(Value.ref (s.heap.objs.size+1)::us++ds).length=ps.length:=by
  have e:=r2.length;rw[F.len _ _ _ _ hq]at e;exact e.symm
 refine wpAny_call (make_map (f:=f) I.kIn M.makes M.init (beq_iff_eq.mp M.fn) (VJ (F.run _ X.stack _ _ ⟨Value.ref (s.heap.objs.size+1)::us,[]⟩ (Value.ref (s.heap.objs.size+1)::(us++ds)) _ _ E (hr.make C us [])
  (I2.env0.make C us []) (hb _ (Value.ref (s.heap.objs.size+1)::us) I2.kIn hl) r2 hq) fun r s' hq'=> ?_))
 cases r with
 |error e=>exact hx pins σ _ _ e s' I2 hq'
 |ok fl=>
  cases fl with
  |ret u=>
   obtain⟨v,H',I3,rv,ev,q3⟩:=I2.after hq';subst ev;exact⟨rv,⟨V.ref (s.heap.objs.size+1),H',I3,rfl,q3⟩⟩
  |next=>exact False.elim hq'
  |brk=>exact False.elim hq'
  |cont=>exact False.elim hq'
theorem pe_make(M:Mk X.K C f)(F:FnOk X.prog X.w X.K X.mg X.base CX k f fd ps sp)(hr:Room (k+1) X.A)(hg:Gl X x)(hm:X.mg x=some (.ref C))(hb:Binds X.K fd ps ds)(hd:Vals dvs ds)(hx:Passes CX X E)(ha:PA X (e::es) t)(hdb:(x==("__debug__":Str))=false:=by decide)(he:starEach (e::es) X.env=(false,eval e X.env)::starEach es X.env:=by rfl)(hpl:(backTo pos (starEach es X.env)).any (·.1)=false:=by rfl):
  PE X (.Call (.Name x p) (e::es) [] pos) (tMake C sp dvs E t):=by
 intro pins s σ H Q I h;refine M8 (ld_glob I hg hm ?_ hdb);refine wds (h₀:=X.base) I.ok.mod.kin M.kp (thn (ha pos pins s σ H _ I h) fun us s1 ⟨vs,H1,I1,r,q⟩=>⟨I1.kIn,?_⟩) he hpl;exact run_make M F hr hb hd hx I1 r q
end
structure FnScope(N P:List Str)(sc:Scope):Prop where
 kind:sc.kind= .function
 co:sc.isCoroutine=false
 gen:sc.isGenerator=false
 nd:N.Nodup
 pre:N.take P.length=P
 par:∀x∈P,sc.names.lookup x=some .local\/sc.names.lookup x=some .cell
 nofree:∀y∈sc.names,y.2≠.free
theorem bindL_out{kindOf:Str->Option NameKind}{x:Str}:∀{binds:List (Str×ζ)} {m:L4},(∀v,(x,v)∉binds)->bindL kindOf binds m x=m x
 |[],_,_=>rfl
 |(n,v)::r,m,h=>by
  unfold bindL;rw[bindL_out fun w hw=>h w (dF _ hw)];split
  ·have:x≠n:=by rintro rfl;exact h v cV
   simp[this]
  ·rfl
theorem bindC_out{kindOf:Str->Option NameKind}{x:Str}:∀{binds:List (Str×ζ)} {m:L4},(∀v,(x,v)∉binds)->bindC kindOf binds m x=m x
 |[],_,_=>rfl
 |(n,v)::r,m,h=>by
  unfold bindC;rw[bindC_out fun w hw=>h w (dF _ hw)];split
  ·rfl
  ·have:x≠n:=by rintro rfl;exact h v cV
   simp[this]
theorem bindL_get{kindOf:Str->Option NameKind}{x:Str}{v:ζ}:∀{P:List Str} {vs:List ζ} {i:Nat} {m:L4},P.Nodup->P[i]? =some x->vs[i]? =some v->kindOf x=some .local->
  bindL kindOf (P.zip vs) m x=some v
 |[],_,_,_,_,h,_,_=>by simp at h
 |_::_,[],_,_,_,_,h,_=>by simp at h
 |p::P,w::vs,0,m,nd,h1,h2,hk=>by
  simp at h1 h2;subst h1;subst h2;show bindL kindOf ((p,w)::P.zip vs) m p=_;unfold bindL;rw[bindL_out fun v hv=>(ur.mp nd).1 (wfc hv).1,aA hk];simp
 |p::P,w::vs,i+1,m,nd,h1,h2,hk=>by
  show bindL kindOf ((p,w)::P.zip vs) m x=_;unfold bindL;exact bindL_get (i:=i) (ur.mp nd).2 (by simpa using h1) (by simpa using h2) hk
theorem bindC_get{kindOf:Str->Option NameKind}{x:Str}{v:ζ}:∀{P:List Str} {vs:List ζ} {i:Nat} {m:L4},P.Nodup->P[i]? =some x->vs[i]? =some v->kindOf x≠some .local->
  bindC kindOf (P.zip vs) m x=some v
 |[],_,_,_,_,h,_,_=>by simp at h
 |_::_,[],_,_,_,_,h,_=>by simp at h
 |p::P,w::vs,0,m,nd,h1,h2,hk=>by
  simp at h1 h2;subst h1;subst h2;show bindC kindOf ((p,w)::P.zip vs) m p=_;unfold bindC;rw[bindC_out fun v hv=>(ur.mp nd).1 (wfc hv).1,aq hk];simp
 |p::P,w::vs,i+1,m,nd,h1,h2,hk=>by
  show bindC kindOf ((p,w)::P.zip vs) m x=_;unfold bindC;exact bindC_get (i:=i) (ur.mp nd).2 (by simpa using h1) (by simpa using h2) hk
noncomputable def start(N:List Str)(vs:List V):St:=vs.map some++List.replicate (N.length-vs.length) none
noncomputable def cxOf(CX:CXT)(P:ξ)(w:τ)(K:W.Frag)(mg:L4)(base:Heap)(N:List Str)(qual:Str)(scope:Scope)(f:Addr)(cd:ζ)(A:υ)(outer:List Env)(s:η)(H:Hp)(E:XK):Cx where
 prog:=P
 w:=w
 K:=K
 mg:=mg
 base:=base
 A:=A.deeper (envOfC qual scope s.heap.objs.size f cd)
 N:=N
 s₀:=s
 H₀:=H
 env:=envOfC qual scope s.heap.objs.size f cd
 outer:=outer
 stack:=envOfC qual scope s.heap.objs.size f cd::outer
 ex:=[]
 calm:=true
 fn:=fun _=>true
 pn:=[]
 xe:=fun e s'=>wpAny (model P w) (A.deeper (envOfC qual scope s.heap.objs.size f cd)) (leaving (envOfC qual scope s.heap.objs.size f cd) e) (fun _ s''=>CX outer H s E e s'') (fun e' s''=>CX outer H s E e' s'') s'
theorem cell_has{sc:Scope}{n:Nat}{x:Str}(h:sc.names.lookup x=some .cell):∃c,(cellsFrom n sc.names []).lookup x=some c:=by
 have q:=wez sc.names n [] (.inl h);exact Option.isSome_iff_exists.mp q
theorem inv_start{CX:CXT}{P:ξ}{w:τ}{K:W.Frag}{mg:L4}{base:Heap}{N ps:List Str}{qual:Str}{scope:Scope}{f:Addr}{cd:ζ}{A:υ}{outer:List Env}{s s1:η}{H:Hp}{E:XK}{us:List ζ}{vs:List V}
  (S:FnScope N ps scope)(hd:A.handled=none)(e0:Env0 P w K mg base A outer s H)(hl:vs.length=ps.length)(r:Vals vs us)(x:InCallC s s.heap.objs.size (bindL (envOfC qual scope s.heap.objs.size f cd).kindOf (ps.zip us) fun _=>none) (cellsFrom (s.heap.objs.size+1) scope.names []) (bindC (envOfC qual scope s.heap.objs.size f cd).kindOf (ps.zip us) fun _=>none) s1):
  Inv (cxOf CX P w K mg base N qual scope f cd A outer s H E) [] (start N vs) H s1:=by
 have hpl:ps.length<=N.length:=by have:=gq List.length S.pre;rw[zY]at this;omega
 obtain⟨h1,tk,rfl,hk⟩:=x.done;have noA:∀b:Addr,b∉(cxOf CX P w K mg base N qual scope f cd A outer s H E).ex:=fun b z=>absurd (show b∈([]:List Addr)from z) (by simp);refine⟨⟨e0.mod,S.kind,rfl,rfl,aN _,fun y z c h1 h2=> ?_,fun y hy=> ?_,fun y c _ h=> ?_,fun _=>hd,Around.frames_deeper e0.frames,.inr ⟨rfl,rfl⟩,fun b z=>absurd z (noA b),e0.bs,e0.bsz,fun b _ _=>noA b,fun b z=>absurd z (noA b),e0.funs,e0.frf⟩,
  rfl,e0.bare,Un.kept hk,⟨_,x.toInCall.ns,fun i y v h1 h2 h3=> ?_⟩,fun y c h=>⟨_,x.cell y c h⟩,e0.hok.fresh (aN _),fun y c h=> ?_,fun p hp=>absurd (show p∈([]:L1)from hp) (by simp),e0.hok.kept hk,?_⟩
 ·exact name_of_addr x.apart (was h1) (was h2)
 ·have hy:scope.names.lookup y=some .cell\/scope.names.lookup y=some .free:=hy;rcases hy with hy|hy
  ·exact cell_has hy
  ·exact absurd rfl (S.nofree _ (was hy))
 ·exact dH (x.above y c (was h))
 ·have hi:i<vs.length:=by
   unfold start at h2;by_cases hi:i<vs.length
   ·exact hi
   ·rw[VD (by simpa using hi)]at h2;rw[weo]at h2;split at h2<;>cases h2
  have ha:vs[i]? =some v:=by
   unfold start at h2;rw[ydf (by simpa using hi),cU]at h2;cases e:vs[i]? with
   |none=>rw[e]at h2;cases h2
   |some a=>rw[e]at h2;cases h2;rfl
  obtain⟨u,hu,rv⟩:=r.get ha;have hp:ps[i]? =some y:=by
   rw[<-S.pre,List.getElem?_take_of_lt (by omega)];exact h1
  have ndP:ps.Nodup:=by rw[<-S.pre];exact S.nd.sublist (List.take_sublist _ _)
  refine⟨u,rv,?_⟩;rcases S.par y (qW hp)with k|k
  ·exact .inl ⟨k,bindL_get ndP hp hu k⟩
  ·obtain⟨c,e⟩:=cell_has (n:=s.heap.objs.size+1) k;refine .inr ⟨.inl k,c,e,?_⟩;have q:=x.cell y c e;rw[bindC_get ndP hp hu (by show scope.names.lookup y≠_;rw[k];decide)]at q;exact q
 ·exact e0.hok.fresh (dH (x.above y c (was h)))
 ·unfold start;show _=N.length;rw[g8,aG,wct];omega
theorem fn_of{CX:CXT}{P:ξ}{w:τ}{K:W.Frag}{mg:L4}{base:Heap}{k:Nat}{f:Addr}{name qual:Str}{params:Arguments}{body:List Stmt}{scope:Scope}{dV kV doc pm cdv ct oc:ζ}{an od:Option Addr}{osl:Array (Option ζ)}{N ps:List Str}{sp:Sp}(lk:K.lookup f=some ⟨oc,od,.func (PySem.W.fnOf name qual params body scope dV kV doc pm an cdv ct),osl⟩)(hcd:PySem.W.codeIn K cdv qual=true)(S:FnScope N ps scope)(len:∀vs H Q E,sp vs H Q E->vs.length=ps.length)(hbody:∀(A:υ) (outer:List Env) (s:η) (H:Hp) (vs:List V) (Q:VK) (E:XK),Room k (A.deeper (envOfC qual scope s.heap.objs.size f cdv))->sp vs H Q E->
   ∃t,PSs (cxOf CX P w K mg base N qual scope f cdv A outer s H E) body t/\t {nx:=fun _ H'=>Q .non H',rt:=Q} (start N vs) H):
  FnOk P w K mg base CX (k+1) f (PySem.W.fnOf name qual params body scope dV kV doc pm an cdv ct) ps sp:=by
 refine⟨len,fun A outer s H args us vs Q E hr e0 hb r hsp=> ?_⟩;have hl:=len _ _ _ _ hsp;have KX:K.In s.heap:=e0.mod.kin.keeps fun b o e=>(e0.bs b o e).1;have lim:s.heap.NoLimit:=e0.mod.nolimit.keeps fun b o e=>(e0.bs b o e).1;have hkind:∀y∈ps.zip us,scope.names.lookup y.1=some .local\/(scope.names.lookup y.1=some .cell/\((cellsFrom (s.heap.objs.size+1) scope.names []).lookup y.1).isSome=true):=fun⟨n,v⟩ hy=>by
  rcases S.par n (wfc hy).1 with q|q
  ·exact .inl q
  ·exact .inr ⟨q,wez _ _ _ (.inl q)⟩
 refine codeAny_call_function hr.depth (KX _ _ lk) rfl S.co S.gen rfl (PySem.W.codeRec_of KX hcd) (hb _ _ _ _ ?_);refine wpAny_newFunctionEnv_cells S.kind hkind fun env he s1 x=> ?_;subst he;refine⟨lim.keeps x.toInCall.keep,codeAny_func ?_⟩;obtain⟨t,ht,hq⟩:=hbody A outer s H vs Q E (hr.deeper _) hsp;have I:Inv (cxOf CX P w K mg base N qual scope f cdv A outer s H E) [] (start N vs) H s1:=inv_start S hr.hd e0 hl r x;refine Mi (ht [] s1 (start N vs) H _ I hq) (fun fl s' hs=> ?_) fun e s' hs=>hs;have fin:∀{σ':St} {H':Hp} {v:V} {u:ζ},Inv (cxOf CX P w K mg base N qual scope f cdv A outer s H E) [] σ' H' s'->RelV v u->Q v H'->CE outer P w H s Q u s':=
  fun{σ' H' v u} J rv q=>⟨v,H',J.os,J.bare,J.base,J.hok,rv,q⟩
 cases fl with
 |ret u=>
  obtain⟨v,σ',H',J,rv,q⟩:=hs;exact fin J rv q
 |next=>
  obtain⟨σ',H',J,q⟩:=hs;exact fin (v:=V.non) (u:=Value.none) J rfl q
 |brk=>
  obtain⟨_,_,_,q⟩:=hs;exact False.elim q
 |cont=>
  obtain⟨_,_,_,q⟩:=hs;exact False.elim q
section
variable{X:Cx}{x:Str}{p pos:Pos}{e:Expr}{es:List Expr}{t:TA}{id T:String}{r:List V->Hp->VK->Prop}
noncomputable def tCB(r:List V->Hp->VK->Prop)(t:TA):TE:=fun σ H Q=>t σ H fun vs H1=>r vs H1 Q
theorem pe_callB(hc:CallR X (.builtin id) r)(hg:Gl X x)(hm:X.mg x=none)(hv:bootBuiltins x=some (.builtin id))(ha:PA X (e::es) t)(hn:x≠"__name__":=by decide)(hdb:(x==("__debug__":Str))=false:=by decide)(he:starEach (e::es) X.env=(false,eval e X.env)::starEach es X.env:=by rfl)(hpl:(backTo pos (starEach es X.env)).any (·.1)=false:=by rfl):PE X (.Call (.Name x p) (e::es) [] pos) (tCB r t):=by
 intro pins s σ H Q I h;refine M8 (ld_blt I hg hm hv ?_ hn hdb);exact PyProof.Rows.callWith_builtin1 (thn (ha pos pins s σ H _ I h) fun us s1 ⟨vs,H1,I1,r1,q1⟩=>hc pins s1 σ H1 vs us Q I1 r1 q1) he hpl
theorem pB{X:Cx}{x:Str}{id:String}{r:List V->Hp->VK->Prop}{e:Expr}{es:List Expr}{t:TA}{p pos:Pos}(hc:CallR X (.builtin id) r)(hm:X.mg x=none)(ha:PA X (e::es) t)(hg:Gl X x:=by rfl)(hv:bootBuiltins x=some (.builtin id):=by decide+kernel)(hn:x≠"__name__":=by decide)(hdb:(x==("__debug__":Str))=false:=by decide)(he:starEach (e::es) X.env=(false,eval e X.env)::starEach es X.env:=by rfl)(hpl:(backTo pos (starEach es X.env)).any (·.1)=false:=by rfl):PE X (.Call (.Name x p) (e::es) [] pos) (tCB r t):=pe_callB hc hg hm hv ha hn hdb he hpl
theorem pe_callTy(hc:CallR X (.type T) r)(hg:Gl X x)(hm:X.mg x=none)(hv:bootBuiltins x=some (.type T))(ha:PA X (e::es) t)(hn:x≠"__name__":=by decide)(hdb:(x==("__debug__":Str))=false:=by decide)(he:starEach (e::es) X.env=(false,eval e X.env)::starEach es X.env:=by rfl)(hpl:(backTo pos (starEach es X.env)).any (·.1)=false:=by rfl):PE X (.Call (.Name x p) (e::es) [] pos) (tCB r t):=by
 intro pins s σ H Q I h;refine M8 (ld_blt I hg hm hv ?_ hn hdb);exact Mp (thn (ha pos pins s σ H _ I h) fun us s1 ⟨vs,H1,I1,r1,q1⟩=>hc pins s1 σ H1 vs us Q I1 r1 q1) he hpl
theorem pT{X:Cx}{x:Str}{T:String}{r:List V->Hp->VK->Prop}{e:Expr}{es:List Expr}{t:TA}{p pos:Pos}(hc:CallR X (.type T) r)(hm:X.mg x=none)(ha:PA X (e::es) t)(hg:Gl X x:=by rfl)(hv:bootBuiltins x=some (.type T):=by decide+kernel)(hn:x≠"__name__":=by decide)(hdb:(x==("__debug__":Str))=false:=by decide)(he:starEach (e::es) X.env=(false,eval e X.env)::starEach es X.env:=by rfl)(hpl:(backTo pos (starEach es X.env)).any (·.1)=false:=by rfl):PE X (.Call (.Name x p) (e::es) [] pos) (tCB r t):=pe_callTy hc hg hm hv ha hn hdb he hpl
end
end L2
namespace HT
open PySem PyProof.Rows
noncomputable def lexLt:List Int->List Int->Bool
 |[],[]=>false
 |[],_::_=>true
 |_::_,[]=>false
 |x::xs,y::ys=>if x=y then lexLt xs ys else decide (x<y)
theorem lexLt_cons(x y:Int)(xs ys:List Int):lexLt (x::xs) (y::ys)=if x=y then lexLt xs ys else decide (x<y):=rfl
theorem lexLt_nil_nil:lexLt [] []=false:=rfl
theorem lexLt_nil_cons(y:Int)(ys:List Int):lexLt [] (y::ys)=true:=rfl
theorem lexLt_cons_nil(x:Int)(xs:List Int):lexLt (x::xs) []=false:=rfl
theorem eqAt_int(A:υ)(s:η)(a:Int)(t:Tok)(c:Int)(u:Tok):∃e,SeqAt.EqAt A s (.int a t) (.int c u) e/\(e=true↔a=c):=
 ⟨(a==c),SeqAt.EqAt.int_int a t c u,by simp⟩
theorem rcLt_int(A:υ)(s:η)(a:Int)(t:Tok)(c:Int)(u:Tok)(prog:ξ)(w:τ)(E:L3)(Q:L3)(h:Q (.bool (decide (a<c))) s):
  wpAny (model prog w) A (richCompare .Lt (.int a t) (.int c u)) Q E s:=
 (PyProof.Rows.lt_int h:wpAny (model prog w) A (compareOp .Lt (.int a t) (.int c u)) Q E s)
section
open PySem.SeqAt
open PySem.AutoSeq1 (wpAny_loadPart')
open PySem.MeetsSeq PySem.MeetsSeq2 PySem.MeetsSeq3
theorem tuple_lt_ints(l b:Addr)(items items2:Array ζ)(n n2:Nat)(dd dd2:Option Addr)(sl sl2:Array (Option ζ))(ns ms:List Int)(hi:IntsAre items.toList ns)(hj:IntsAre items2.toList ms):
  Meets (Builtin.«tuple.__lt__» ⟨[.ref l,.ref b],[]⟩)
   (fun _ R s=>s.heap.get? l=some {cls:= .type "tuple",dict:=dd,data:= .seq items n,slots:=sl}/\s.heap.get? b=some {cls:= .type "tuple",dict:=dd2,data:= .seq items2 n2,slots:=sl2}/\
    R (.ok (.ret (.bool (lexLt ns ms)))) s):=
 .of_wp fun prog w A R s h=>by
  obtain⟨hp,g,d,tk,os⟩:=s;obtain⟨hl,hb,h⟩:=h;have f2:=AutoSeq1.sub_tuple_tuple;have z1:items.size=ns.length:=by rw[<-hi.length];simp
  have z2:items2.size=ms.length:=by rw[<-hj.length];simp
  wp_walk using wpAny_loadPart' hl,wpAny_loadPart' hb,wcv _ (fun rest b s'=>b.1=none/\s'=⟨hp,g,d,tk,os⟩/\∃(vs ws:List ζ) (ns' ms':List Int),rest=vs.zip ws/\
   IntsAre vs ns'/\IntsAre ws ms'/\ns'.length+items2.size=ms'.length+items.size/\R (.ok (.ret (.bool (lexLt ns' ms')))) ⟨hp,g,d,tk,os⟩) _
  case turn=>
   rintro⟨y,x⟩ rest b s' ⟨hb',rfl,vs,ws,ns',ms',hz,hvi,hwi,hlen,hR⟩;cases hvi with
   |nil=>rw[List.zip_nil_left]at hz;cases hz
   |cons a t hvi'=>
    cases hwi with
    |nil=>rw[List.zip_nil_right]at hz;cases hz
    |cons c u hwi'=>
     rw[wdt]at hz;injection hz with hyx hrest
     injection hyx with hy hx
     subst hy hx;rw[lexLt_cons]at hR;simp only[pW]at hlen;obtain⟨e,he,hiff⟩:=eqAt_int A.in1 ⟨hp,g,d,tk,os⟩ a t c u;refine aM (he prog w _ _ ?_);cases e with
     |true=>
      rw[aA (hiff.mp rfl)]at hR
      wp_walk
      exact⟨rfl,rfl,_,_,_,_,hrest,hvi',hwi',by omega,hR⟩
     |false=>
      rw[aq (fun q=>absurd (hiff.mpr q) qZ)]at hR;have hri:=rcLt_int A.in1 ⟨hp,g,d,tk,os⟩ a t c u prog w
      wp_walk using hri
      exact⟨_,rfl,by simpa using hR⟩
  case fin=>
   rintro⟨b1,b2⟩ s' ⟨hb',rfl,vs,ws,ns',ms',hz,hvi,hwi,hlen,hR⟩;simp only at hb';subst hb';have hv:lexLt ns' ms'=decide (items.size<items2.size):=by
    cases hvi with
    |nil=>
     cases hwi with
     |nil=>
      simp only[RK]at hlen;rw[lexLt_nil_nil];exact(fJ (by omega)).symm
     |cons c u hw=>
      simp only[RK,pW]at hlen;rw[lexLt_nil_cons];exact(dB (by omega)).symm
    |cons a t hv=>
     cases hwi with
     |nil=>
      simp only[RK,pW]at hlen;rw[lexLt_cons_nil];exact(fJ (by omega)).symm
     |cons c u hw=>
      rw[wdt]at hz;cases hz
   rw[hv]at hR
   wp_walk
   exact⟨_,rfl,by simpa[Builtin.Tuple.tupleCompareSizes]using hR⟩
  case h=>
   exact⟨rfl,rfl,items.toList,items2.toList,ns,ms,rfl,hi,hj,by omega,h⟩
end
section
variable{prog:ξ}{w:τ}{A:υ}{E:L3}{s:η}
theorem lt_tupInts{l b:Addr}{items items2:Array ζ}{ns ms:List Int}{Q:L3}(hl:IsTup s.heap l items)(hb:IsTup s.heap b items2)(hi:IntsAre items.toList ns)(hj:IntsAre items2.toList ms)(hu:A.units<cLine)(h:Q (.bool (lexLt ns ms)) s):wpAny (model prog w) A (compareOp .Lt (.ref l) (.ref b)) Q E s:=by
 obtain⟨⟨cls,dd,data,sl⟩,ho,hc,n,hd⟩:=id hl;obtain⟨⟨cls2,dd2,data2,sl2⟩,ho2,hc2,n2,hd2⟩:=id hb;simp only at hc hd hc2 hd2;subst hc hd hc2 hd2;exact richCompare_meets_room (op:= .Lt) ⟨_,ho,rfl⟩ ⟨_,ho2,rfl⟩ PySem.F.slot_tuple_lt PySem.F.entry_tuple_lt (PySem.F.args_tuple_lt_2 _ _) (tuple_lt_ints l b items items2 n n2 dd dd2 sl sl2 ns ms hi hj)
  ⟨ho,ho2,show Value.bool (lexLt ns ms)≠Value.notImplemented/\Q (.bool (lexLt ns ms)) s from⟨(fun x=>nomatch x),h⟩⟩ hu
theorem cat_tup{t b:Addr}{vs ws:List ζ}{Q:L3}(ht:IsTup s.heap t vs.toArray)(hb:IsTup s.heap b ws.toArray)(hv:vs≠[])(h1:ws=[]->Q (.ref t) s)(h2:ws≠[]->Q (.ref s.heap.objs.size) {s with heap:=s.heap.push {cls:= .type "tuple",data:= .seq (vs++ws).toArray}})(hsz:vs.length+ws.length<=sizeLine):wpAny (model prog w) A (binaryOp .Add (.ref t) (.ref b)) Q E s:=by
 obtain⟨⟨cls,dd,data,sl⟩,ho,hc,n,hd⟩:=id ht;obtain⟨⟨cls2,dd2,data2,sl2⟩,ho2,hc2,n2,hd2⟩:=id hb;simp only at hc hd hc2 hd2;subst hc hd hc2 hd2;have e:vs.toArray++ws.toArray=(vs++ws).toArray:=by simp
 by_cases hw:ws=[]
 ·exact wfd ⟨_,ho,rfl⟩ ⟨_,ho2,rfl⟩ wcw wep wbu wbr (wbp _ _)
   (tuple_addW1 t b vs.toArray ws.toArray n n2 dd dd2 sl sl2 (by simpa using hv) (by simp[hw])) ⟨ho,ho2,h1 hw⟩
 ·refine wfd ⟨_,ho,rfl⟩ ⟨_,ho2,rfl⟩ wcw wep wbu wbr (wbp _ _)
   (tuple_addW2 t b vs.toArray ws.toArray n n2 dd dd2 sl sl2 (by simpa using hv) (by simpa using hw) (by rw[fH,fH];exact hsz)) ⟨ho,ho2,?_⟩
  rw[e];exact h2 hw
noncomputable def sIx(n d:Nat):Option Int->Nat
 |none=>d
 |some v=>if v<0 then(v+(n:Int)).toNat else min v.toNat n
theorem sIx_none(n d:Nat):sIx n d none=d:=rfl
theorem sIx_nat(n d k:Nat):sIx n d (some (k:Int))=min k n:=by
 show(if(k:Int)<0 then((k:Int)+(n:Int)).toNat else min (k:Int).toNat n)=min k n;rw[aq (by omega),Vw]
end
end HT
namespace L2
open PySem PySem.Spec PyProof.Rows
noncomputable abbrev TO:=St->Hp->(Option Int->Hp->Prop)->Prop
noncomputable def PO(X:Cx)(e:Option Expr)(t:TO):Prop:=
 ∀(pins:L1) (s:η) (σ:St) (H:Hp) (Q:Option Int->Hp->Prop),Inv X pins σ H s->t σ H Q->
  wpAny (model X.prog X.w) X.A (evalPart e X.env) (fun u s'=>∃o H',Inv X pins σ H' s'/\IsPart u o/\Q o H') X.xe s
noncomputable def tNoPart:TO:=fun _ H Q=>Q none H
noncomputable def tPart(t:TE):TO:=fun σ H Q=>t σ H fun x H1=>∃i,x= .int i/\Q (some i) H1
theorem Vp{ns:List Int}:∀{us:List ζ},Vals (ns.map V.int) us->IntsAre us ns:=by
 induction ns with
 |nil=>intro us r;rw[List.map_nil]at r;cases r;exact .nil
 |cons n ns ih=>
  intro us r;rw[zW]at r;cases r with
  |cons r1 r2=>
   obtain⟨t,e⟩:=r1;subst e;exact .cons n t (ih r2)
section
variable{X:Cx}{e:Expr}{te:TE}{lo hi:Option Expr}{tl th:TO}{pos p2:Pos}
theorem po_none:PO X none tNoPart:=by
 intro pins s σ H Q I h;rw[evalPart_none];exact cO ⟨none,H,I,.none,h⟩
theorem po_some(h:PE X e te):PO X (some e) (tPart te):=by
 intro pins s σ H Q I hw;rw[evalPart_some];refine thn (h pins s σ H _ I hw) fun u s1 ⟨x,H1,I1,r1,q1⟩=> ?_;obtain⟨i,rfl,q⟩:=q1;obtain⟨t,rfl⟩:=r1;exact⟨some i,H1,I1,.int i t,q⟩
noncomputable def SlR(X:Cx)(r:V->Option Int->Option Int->Hp->VK->Prop):Prop:=
 ∀(pins:L1) (s:η) (σ:St) (H:Hp) (x:V) (v vl vu:ζ) (lo hi:Option Int) (sl:Addr) (Q:VK),Inv X pins σ H s->RelV x v->s.heap.IsSliceOf sl vl vu .none->IsPart vl lo->IsPart vu hi->r x lo hi H Q->
  ∃T id,typeLookup (.type T) "__getitem__"=pure (some (.builtin id))/\s.TypeIs v T/\wpAny (model X.prog X.w) X.A (getItem v (.ref sl)) (EP X pins σ Q) X.xe s
noncomputable def tSl(r:V->Option Int->Option Int->Hp->VK->Prop)(te:TE)(tl th:TO):TE:=fun σ H Q=>te σ H fun x H1=>tl σ H1 fun l H2=>th σ H2 fun u H3=>r x l u H3 Q
theorem pe_slice{r:V->Option Int->Option Int->Hp->VK->Prop}(hr:SlR X r)(he:PE X e te)(hl:PO X lo tl)(hu:PO X hi th):PE X (.Subscript e (.Slice lo hi none p2) pos) (tSl r te tl th):=by
 intro pins s σ H Q I h;refine Subscript_ (thn (he pins s σ H _ I h) fun v s1 ⟨x,H1,I1,r1,q1⟩=> ?_);refine wpAny_Slice (thn (hl pins s1 σ H1 _ I1 q1) fun vl s2 ⟨l,H2,I2,pl,q2⟩=>thn (hu pins s2 σ H2 _ I2 q2) fun vu s3 ⟨u,H3,I3,pu,q3⟩=> ?_);rw[evalPart_none];refine cO ?_;have I4:Inv X pins σ H3 {s3 with heap:=s3.heap.push {cls:= .type "slice",data:= .fields #[vl,vu,.none]}}:=I3.kept (t':=s3.toks) fun b ob q=>gP _ q;obtain⟨T,id,hT,ht,hg⟩:=hr pins {s3 with heap:=s3.heap.push {cls:= .type "slice",data:= .fields #[vl,vu,.none]}} σ H3 x v vl vu l u s3.heap.objs.size Q I4 r1 (Heap.IsSliceOf.new ..) pl pu q3;show wpAny (model X.prog X.w) X.A (subscriptTail e (.Slice lo hi none p2) v (.ref s3.heap.objs.size)) (EP X pins σ Q) X.xe {s3 with heap:=s3.heap.push {cls:= .type "slice",data:= .fields #[vl,vu,.none]}};exact tail_any (ops:=[.ref s3.heap.objs.size,v]) ht hT hg (by with_unfolding_all rfl)
noncomputable def cutV(xs:List V)(lo hi:Option Int):List V:=(xs.drop (HT.sIx xs.length 0 lo)).take (HT.sIx xs.length xs.length hi-HT.sIx xs.length 0 lo)
theorem cutV_length(xs:List V)(lo hi:Option Int):(cutV xs lo hi).length<=xs.length:=by
 unfold cutV;rw[zY,List.length_drop];omega
noncomputable def rLtT(K:W.Frag):R2:=fun x y H Q=>∃a b ns ms,x= .ref a/\y= .ref b/\SqT K H a (ns.map V.int)/\SqT K H b (ms.map V.int)/\Q (.bl (HT.lexLt ns ms)) H
theorem op_ltT(hu:X.A.units<cLine):OpR X (compareOp .Lt) (rLtT X.K):=by
 intro pins s σ H x y v u Q I rx ry h;obtain⟨a,b,ns,ms,rfl,rfl,ha,hb,q⟩:=h;cases rx;cases ry;obtain⟨its,r1,p1,_⟩:=I.tuple ha;obtain⟨its2,r2,p2,_⟩:=I.tuple hb;have i1:IntsAre its.toArray.toList ns:=Vp r1;have i2:IntsAre its2.toArray.toList ms:=Vp r2;exact HT.lt_tupInts p1 p2 i1 i2 hu ⟨.bl (HT.lexLt ns ms),H,I,rfl,q⟩
noncomputable def rCatT(K:W.Frag):R2:=fun x y H Q=>∃a b xs ys,x= .ref a/\y= .ref b/\SqT K H a xs/\SqT K H b ys/\xs≠[]/\xs.length+ys.length<=sizeLine/\
 (ys=[]->Q (.ref a) H)/\(ys≠[]->∀p,H p=none->Q (.ref p) (upd H p (.tup (xs++ys))))
theorem Vals.nil_iff{xs:List V}{us:List ζ}(r:Vals xs us):us=[]↔xs=[]:=by
 cases r with
 |nil=>simp
 |cons _ _=>simp
theorem op_catT:OpR X (binaryOp .Add) (rCatT X.K):=by
 intro pins s σ H x y v u Q I rx ry h;obtain⟨a,b,xs,ys,rfl,rfl,ha,hb,hx,hz,q1,q2⟩:=h;cases rx;cases ry;obtain⟨its,r1,p1,_⟩:=I.tuple ha;obtain⟨its2,r2,p2,_⟩:=I.tuple hb;refine HT.cat_tup p1 p2 (fun z=>hx (r1.nil_iff.mp z)) (fun z=>⟨.ref a,H,I,rfl,q1 (r2.nil_iff.mp z)⟩) (fun z=> ?_) (by rw[<-r1.length,<-r2.length];exact hz);refine⟨.ref s.heap.objs.size,_,I.laid (t':=s.toks) (o:= .tup (xs++ys)) (fun b ob q=>gP _ q) (aN _) ?_,rfl,q2 (fun w=>z (r2.nil_iff.mpr w)) _ (I.hok.fresh (aN _))⟩;exact⟨by rw[g8];exact hz,_,r1.append r2,VG _ _⟩
end
noncomputable def ixN(n:Nat)(i:Int):Option Nat:=if 0<=i then(if i<n then some i.toNat else none)else if -(n:Int)<=i then some (i+n).toNat else none
noncomputable def atI{α:Type}(xs:List α)(i:Int):Option α:=(ixN xs.length i).bind fun j=>xs[j]?
theorem ixN_seq{n:Nat}{i:Int}{j:Nat}(h:ixN n i=some j):seqIndex? i n=some j/\j<n/\ -(n:Int)<=i/\i<n:=by
 unfold ixN at h;by_cases h0:0<=i
 ·rw[aA h0]at h;by_cases h1:i<n
  ·rw[aA h1]at h;have e:i.toNat=j:=qY h;exact⟨by rw[seqIndex_of h0 h1,e],by omega,by omega,h1⟩
  ·rw[aq h1]at h;cases h
 ·rw[aq h0]at h;by_cases h1: -(n:Int)<=i
  ·rw[aA h1]at h;have e:(i+n).toNat=j:=qY h;exact⟨by rw[seqIndex_neg (by omega) h1,e],by omega,h1,by omega⟩
  ·rw[aq h1]at h;cases h
theorem atI_get{α:Type}{xs:List α}{i:Int}{v:α}(h:atI xs i=some v):∃j,seqIndex? i xs.length=some j/\xs[j]? =some v/\j<xs.length/\ -(xs.length:Int)<=i/\i<xs.length:=by
 unfold atI at h;cases e:ixN xs.length i with
 |none=>rw[e]at h;cases h
 |some j=>
  rw[e]at h;obtain⟨h1,h2,h3,h4⟩:=ixN_seq e;exact⟨j,h1,h,h2,h3,h4⟩
theorem atI_nat{α:Type}{xs:List α}{j:Nat}{v:α}(h:xs[j]? =some v):atI xs (j:Int)=some v:=by
 have hj:j<xs.length:=(lV.mp h).1;have e:ixN xs.length (j:Int)=some j:=by
  unfold ixN;rw[aA (by omega),aA (by omega)];simp
 unfold atI;rw[e];exact h
noncomputable def PlainIx(b:Expr):Prop:=∀o i,subscripted b false o i=operate [o,i] (getItem o i)
noncomputable def IxR(X:Cx)(r:R2):Prop:=
 ∀(value slice:Expr) (pins:L1) (s:η) (σ:St) (H:Hp) (x y:V) (v u:ζ) (Q:VK),Inv X pins σ H s->RelV x v->RelV y u->r x y H Q->
  subscripted slice false v u=operate [v,u] (getItem v u)->wpAny (model X.prog X.w) X.A (subscriptTail value slice v u) (EP X pins σ Q) X.xe s
noncomputable def MtR(X:Cx)(id:String)(r:V->List V->Hp->VK->Prop):Prop:=
 ∀(pins:L1) (s:η) (σ:St) (H:Hp) (x:V) (xs:List V) (v:ζ) (us:List ζ) (Q:VK),Inv X pins σ H s->RelV x v->Vals xs us->r x xs H Q->
  wpAny (model X.prog X.w) X.A (call (.builtin id) (v::us)) (EP X pins σ Q) X.xe s
section
variable{X:Cx}{a b:Expr}{ta tb:TE}{pos:Pos}
theorem bA{r:R2}(hr:IxR X r)(ha:PE X a ta)(hb:PE X b tb)(hs:PlainIx b:=by exact fun _ _=>rfl):PE X (.Subscript a b pos) (tOp r ta tb):=by
 intro pins s σ H Q I h;exact Subscript_ (binT ha hb I h fun v u s2 x y H2 I2 rx ry q=>hr a b pins s2 σ H2 x y v u Q I2 rx ry q (hs _ _))
noncomputable def rIxL(K:W.Frag):R2:=fun x y H Q=>∃p xs i v,x= .ref p/\y= .int i/\SqL K H p xs/\atI xs i=some v/\Q v H
noncomputable def rIxT(K:W.Frag):R2:=fun x y H Q=>∃p xs i v,x= .ref p/\y= .int i/\SqT K H p xs/\atI xs i=some v/\Q v H
theorem jf:IxR X (rIxL X.K):=by
 intro value slice pins s σ H x y v u Q I rx ry h hs;obtain⟨p,xs,i,z,rfl,rfl,hq,he,q⟩:=h;cases rx;obtain⟨t,rfl⟩:=ry;obtain⟨its,r,pl,hz⟩:=I.list hq;obtain⟨j,h1,h2,h3,h4,h5⟩:=atI_get he;obtain⟨w,ew,rw'⟩:=r.get h2;have hl:=r.length;have hn:=line63;have fin:EP X pins σ Q w s:=⟨z,H,I,rw',q⟩;by_cases h0:0<=i
 ·have hj:i.toNat=j:=by
   rw[seqIndex_of h0 h5]at h1;exact qY h1
  exact item_listR pl.isList h0 (by omega) (by rw[hj];simpa using ew) fin hs
 ·have hj:(i+(its.toArray.size:Int)).toNat=j:=by
   rw[seqIndex_neg (by omega) h4]at h1;rw[fH,<-hl];exact qY h1
  exact subscriptTail_builtinR (x:=w) pl.isList.typeIs slot_list_getitem.lookup
   (wpAny_getItem_list_neg (Q:=fun r s'=>r=w/\EP X pins σ Q r s') pl.isList (by omega) (by rw[fH]<;>omega) (by omega) (by rw[hj];simpa using ew) ⟨rfl,fin⟩) hs
theorem eG:IxR X (rIxT X.K):=by
 intro value slice pins s σ H x y v u Q I rx ry h hs;obtain⟨p,xs,i,z,rfl,rfl,hq,he,q⟩:=h;cases rx;obtain⟨t,rfl⟩:=ry;obtain⟨its,r,pl,hz⟩:=I.tuple hq;obtain⟨j,h1,h2,h3,h4,h5⟩:=atI_get he;obtain⟨w,ew,rw'⟩:=r.get h2;have hl:=r.length;have hn:=line63;have fin:EP X pins σ Q w s:=⟨z,H,I,rw',q⟩;exact subscriptTail_builtinR (x:=w) pl.typeIs slot_tuple_getitem.lookup
  (getItem_tuple (j:=j) (Q:=fun r s'=>r=w/\EP X pins σ Q r s') pl (by omega) (by omega) (by rw[fH,<-hl];exact h1) (by simpa using ew) ⟨rfl,fin⟩) hs
theorem mapSeq_set(its:List ζ)(n j:Nat)(u:ζ):Obj.mapSeq (·.setIfInBounds j u) {cls:= .type "list",data:= .seq its.toArray n}={cls:= .type "list",data:= .seq (its.set j u).toArray n}:=by
 simp[Obj.mapSeq]
theorem Inv.lst{pins:L1}{σ:St}{H:Hp}{s:η}{p:Addr}{xs:List V}(I:Inv X pins σ H s)(h:H p=some (.lst xs)):
  ∃(its:List ζ) (n:Nat),Vals xs its/\s.heap.get? p=some {cls:= .type "list",data:= .seq its.toArray n}/\xs.length<=sizeLine:=by
 obtain⟨z,its,n,r,e⟩:=I.hok p _ h;exact⟨its,n,r,e,z⟩
theorem Inv.lstUpd{pins:L1}{σ:St}{H:Hp}{s:η}{p:Addr}{xs ys:List V}{its its':List ζ}{n n':Nat}{f:Obj->Obj}(I:Inv X pins σ H s)(h:H p=some (.lst xs))(ho:s.heap.get? p=some {cls:= .type "list",data:= .seq its.toArray n})(hf:f {cls:= .type "list",data:= .seq its.toArray n}={cls:= .type "list",data:= .seq its'.toArray n'})(r:Vals ys its')(hz:ys.length<=sizeLine)(t:Nat):
  Inv X pins σ (upd H p (.lst ys)) {s with heap:=s.heap.update p f,toks:=t}:=by
 have e:(s.heap.update p f).get? p=some {cls:= .type "list",data:= .seq its'.toArray n'}:=by
  rw[Heap.get?_update_self f ho (by rw[hf]<;>rfl),hf]
 refine I.write (x:=p) (e:=p) (by rw[h];trivial) (.inl rfl) (fun b u hb q=>(wci _ _ (jU hb)).trans q) ⟨_,e⟩ ?_;exact⟨hz,its',n',r,e⟩
noncomputable def rSetL:V->V->V->Hp->(Hp->Prop)->Prop:=fun o i v H Q=>∃p xs k j,o= .ref p/\i= .int k/\H p=some (.lst xs)/\ixN xs.length k=some j/\Q (upd H p (.lst (xs.set j v)))
theorem set_list:PSet X rSetL:=by
 intro pins s σ H o i v ov iv u Q I ro ri rv h;obtain⟨p,xs,k,j,rfl,rfl,hp,hj,q⟩:=h;cases ro;obtain⟨t,rfl⟩:=ri;obtain⟨its,n,r,ho,hz⟩:=I.lst hp;obtain⟨h1,h2,h3,h4⟩:=ixN_seq hj;have hl:=r.length;have hn:=line63;have I':Inv X pins σ (upd H p (.lst (xs.set j v))) {s with heap:=s.heap.update p (Obj.mapSeq (·.setIfInBounds j u))}:=
  I.lstUpd hp ho (mapSeq_set its n j u) (r.set rv j) (by rw[List.length_set];exact hz) s.toks
 by_cases h0:0<=k
 ·have hk:k.toNat=j:=by
   rw[seqIndex_of h0 h4]at h1;exact qY h1
  exact PySem.W.ki_setAt ho h0 (by omega) (by rw[fH,<-hl];exact h4) (by rw[hk];exact⟨_,I',q⟩)
 ·have hk:(k+(its.toArray.size:Int)).toNat=j:=by
   rw[seqIndex_neg (by omega) h3]at h1;rw[fH,<-hl];exact qY h1
  exact PySem.W.ki_setBack ho (by omega) (by rw[fH,<-hl];exact h3) (by omega) (by rw[hk];exact⟨_,I',q⟩)
theorem slice_bounds(lo hi:Option Int)(n:Nat):(sliceBounds lo hi none n).1=((HT.sIx n 0 lo:Nat):Int)/\(sliceBounds lo hi none n).2.1=((HT.sIx n n hi:Nat):Int)/\(sliceBounds lo hi none n).2.2=1:=by
 refine⟨?_,?_,rfl⟩
 ·cases lo with
  |none=>simp[sliceBounds,HT.sIx]
  |some i=>
   simp only[sliceBounds,HT.sIx,Option.getD_none,show(1:Int)>0 by decide,RQ];by_cases h:i<0
   ·simp only[h,RQ]<;>omega
   ·simp only[h,QS]<;>omega
 ·cases hi with
  |none=>simp[sliceBounds,HT.sIx]
  |some i=>
   simp only[sliceBounds,HT.sIx,Option.getD_none,show(1:Int)>0 by decide,RQ];by_cases h:i<0
   ·simp only[h,RQ]<;>omega
   ·simp only[h,QS]<;>omega
theorem slicePick_cut(its:List ζ)(lo hi:Option Int):slicePick its.toArray lo hi none=((its.drop (HT.sIx its.length 0 lo)).take (HT.sIx its.length its.length hi-HT.sIx its.length 0 lo)).toArray:=by
 obtain⟨h1,h2,h3⟩:=slice_bounds lo hi its.toArray.size;unfold slicePick;rw[h1,h2,h3];simp only[sliceRange_one,pick_run,fH]<;>rfl
noncomputable def rSlL(K:W.Frag):V->Option Int->Option Int->Hp->VK->Prop:=fun x lo hi H Q=>∃a xs,x= .ref a/\SqL K H a xs/\∀p,H p=none->Q (.ref p) (upd H p (.lst (cutV xs lo hi)))
theorem sl_list:SlR X (rSlL X.K):=by
 intro pins s σ H x v vl vu lo hi sl Q I rx hs pl pu h;obtain⟨a,xs,rfl,hx,q⟩:=h;cases rx;obtain⟨its,r,ht,hz⟩:=I.list hx;have hlen:=r.length;refine⟨"list",_,slot_list_getitem.lookup,ht.isList.typeIs,?_⟩;refine wpAny_getItem_list_slice ht.isList hs pl pu .none (by simp) ?_ (by rw[fH]<;>omega);rw[slicePick_cut,<-hlen];refine⟨.ref s.heap.objs.size,_,I.laid (t':=s.toks) (o:= .lst (cutV xs lo hi)) (fun b ob q=>gP _ q) (aN _) ?_,rfl,q _ (I.hok.fresh (aN _))⟩;exact⟨eN (cutV_length xs lo hi) hz,_,0,(r.drop (HT.sIx xs.length 0 lo)).take (HT.sIx xs.length xs.length hi-HT.sIx xs.length 0 lo),j7 _ rfl⟩
theorem call_len_seq:CallR X (.builtin "len") (fun xs H Q=>∃p ys,xs=[.ref p]/\(SqL X.K H p ys\/SqT X.K H p ys)/\Q (.int ys.length) H):=by
 intro pins s σ H xs us Q I r h;obtain⟨p,ys,rfl,hq,q⟩:=h;obtain⟨u,rfl,rx⟩:=vals1 r;cases rx;have hn:=line63;rcases hq with hq|hq
 ·obtain⟨its,r',pl,hz⟩:=I.list hq;have hlen:=r'.length;exact Calls.call_len_list pl.isList (by simp only[fH]<;>omega) ⟨.int ys.length,H,I.tok _,⟨s.toks+1,by rw[fH,hlen]⟩,q⟩
 ·obtain⟨its,r',pl,hz⟩:=I.tuple hq;have hlen:=r'.length;exact len_tuple pl (by simp only[fH]<;>omega) ⟨.int ys.length,H,I.tok _,⟨s.toks+1,by rw[fH,hlen]⟩,q⟩
theorem call_list_of:CallR X (.type "list") (fun xs H Q=>∃p ys,xs=[.ref p]/\(SqL X.K H p ys\/SqT X.K H p ys)/\∀l,H l=none->Q (.ref l) (upd H l (.lst ys))):=by
 intro pins s σ H xs us Q I r h;obtain⟨p,ys,rfl,hq,q⟩:=h;obtain⟨u,rfl,rx⟩:=vals1 r;cases rx;have fin:∀(its:List ζ),Vals ys its->ys.length<=sizeLine->∀(h':Heap) (c':Nat),(∀b o',s.heap.get? b=some o'->h'.get? b=some o')->
   h'.get? s.heap.objs.size=some {cls:= .type "list",dict:=none,data:= .seq its.toArray c',slots:=#[]}->EP X pins σ Q (.ref s.heap.objs.size) {s with heap:=h'}:=fun its r' hz h' c' kp e=>
  ⟨.ref s.heap.objs.size,_,I.laid (t':=s.toks) kp (aN _) (show ObjOk X.prog X.w _ h' _ (.lst ys)from⟨hz,its,c',r',e⟩),rfl,q _ (I.hok.fresh (aN _))⟩
 rcases hq with hq|hq
 ·obtain⟨its,r',pl,hz⟩:=I.list hq;have hlen:=r'.length;obtain⟨o,ho,hc,n,hd⟩:=pl.isList;exact call_list_seq p (.inl rfl) ho hc hd (fun h' c' kp e=>fin its r' hz h' c' kp e) (by simp only[fH]<;>omega)
 ·obtain⟨its,r',pl,hz⟩:=I.tuple hq;have hlen:=r'.length;obtain⟨o,ho,hc,n,hd⟩:=pl;exact call_list_seq p (.inr rfl) ho hc hd (fun h' c' kp e=>fin its r' hz h' c' kp e) (by simp only[fH]<;>omega)
theorem Hi:CallR X (.type "tuple") (fun xs H Q=>∃p ys,xs=[.ref p]/\((SqL X.K H p ys/\∀l,H l=none->Q (.ref l) (upd H l (.tup ys)))\/(SqT X.K H p ys/\Q (.ref p) H))):=by
 intro pins s σ H xs us Q I r h;obtain⟨p,ys,rfl,h⟩:=h;obtain⟨u,rfl,rx⟩:=vals1 r;cases rx;rcases h with⟨hq,q⟩|⟨hq,q⟩
 ·obtain⟨its,r',pl,hz⟩:=I.list hq;have hlen:=r'.length;refine call_tuple_list pl.isList (fun h' kp=> ?_) (by simp only[fH]<;>omega);have I1:Inv X pins σ H {s with heap:=h'}:=I.kept (t':=s.toks) kp;have I2:Inv X pins σ (upd H h'.objs.size (.tup ys)) {s with heap:=h'.push {cls:= .type "tuple",data:= .seq its.toArray}}:=
   I1.laid (t':=s.toks) (fun b o e=>gP _ e) (aN _) (show ObjOk X.prog X.w _ _ _ (.tup ys)from⟨hz,its,r',VG _ _⟩)
  exact⟨.ref h'.objs.size,_,I2,rfl,q _ (I1.hok.fresh (aN _))⟩
 ·obtain⟨its,r',pl,hz⟩:=I.tuple hq;exact call_tuple_same pl ⟨.ref p,H,I,rfl,q⟩
noncomputable def tyV(K:W.Frag)(T:String)(x:V)(H:Hp):Prop:=match x with
 | .str _=>T="str"
 | .int _=>T="int"
 | .ref p=>(T="list"/\∃xs,SqL K H p xs)\/(T="tuple"/\∃o,K.lookup p=some o/\o.cls= .type "tuple"/\o.dict=none)\/
   (T="dict"/\((∃kvs,H p=some (.dK kvs))\/∃kvs,H p=some (.dT kvs)))\/(T="set"/\∃S n,H p=some (.set S n))
 |_=>False
theorem tyV_is{pins:L1}{σ:St}{H:Hp}{s:η}{T:String}{x:V}{v:ζ}(I:Inv X pins σ H s)(r:RelV x v)(ty:tyV X.K T x H):
  s.TypeIs v T/\∀a,v= .ref a->∃ob,s.heap.get? a=some ob/\ob.dict=none:=by
 cases x with
 |str z=>
  obtain⟨t,rfl⟩:=r;cases(show T="str" from ty);exact⟨typeIs_str s z t,fun _ e=>nomatch e⟩
 |int i=>
  obtain⟨t,rfl⟩:=r;cases(show T="int" from ty);exact⟨typeIs_int s i t,fun _ e=>nomatch e⟩
 |ref p=>
  cases r;rcases ty with⟨rfl,xs,hq⟩|⟨rfl,o,hk,hc,hd⟩|⟨rfl,hk⟩|⟨rfl,S,n,hk⟩
  ·obtain⟨its,_,pl,_⟩:=I.list hq;refine⟨pl.isList.typeIs,fun a e=> ?_⟩;cases e;obtain⟨o,n,e,c,hd,_⟩:=pl;exact⟨o,e,hd⟩
  ·refine⟨⟨o,I.kIn p o hk,hc⟩,fun a e=> ?_⟩;cases e;exact⟨o,I.kIn _ o hk,hd⟩
  ·have z:∃o,s.heap.get? p=some o/\o.ExactDict:=by
    rcases hk with⟨kvs,hk⟩|⟨kvs,hk⟩
    ·obtain⟨_,_,_,_,o,_,_,e,ex,_⟩:=I.hok p _ hk;exact⟨o,e,ex⟩
    ·obtain⟨_,_,_,_,o,_,_,e,ex,_⟩:=I.hok p _ hk;exact⟨o,e,ex⟩
   obtain⟨o,e,ex⟩:=z;refine⟨⟨o,e,ex.1⟩,fun a e2=> ?_⟩;cases e2;exact⟨o,e,ex.2.1⟩
  ·obtain⟨o,_,_,_,e,ex,_⟩:=I.hok p _ hk;refine⟨⟨o,e,ex.1⟩,fun a e2=> ?_⟩;cases e2;exact⟨o,e,ex.2.1⟩
 |_=>exact False.elim ty
noncomputable def tBM(K:W.Frag)(T:String)(r:V->List V->Hp->VK->Prop)(to:TE)(t:TA):TE:=fun σ H Q=>to σ H fun x H1=>tyV K T x H1/\t σ H1 fun xs H2=>r x xs H2 Q
variable{o e:Expr}{es:List Expr}{to:TE}{t:TA}{name:Str}{apos cpos:Pos}{T id:String}{r:V->List V->Hp->VK->Prop}
theorem pe_bm(pa:PlainAttrs T)(slot:Slot T name id)(hty:typeOf (.builtin id)=pure (.type "method_descriptor"))(hm:MtR X id r)(ho:PE X o to)(ha:PA X (e::es) t)(hbase:attributeBase o name X.env (eval o X.env)=eval o X.env:=by rfl)(hfew:((backTo cpos (starEach (e::es) X.env)).all (fun x=> !x.1)&&(backToKw cpos (keywordEach [] X.env)).all (fun x=>x.1.isSome)
   &&decide ((e::es).length+([]:List Keyword).length+(if([]:List Keyword).isEmpty then 0 else 1)<30))=true:=by rfl)(hline:(apos.endLine==cpos.line)=true:=by rfl)(hs:starEach (e::es) X.env=(false,eval e X.env)::starEach es X.env:=by rfl)(hplain:(backTo cpos (starEach es X.env)).any (·.1)=false:=by rfl):
  PE X (.Call (.Attribute o name apos) (e::es) [] cpos) (tBM X.K T r to t):=by
 intro pins s σ H Q I h;refine wpAny_Call_method_late hbase hfew hline rfl (thn (ho pins s σ H _ I h) fun v s1 ⟨x,H1,I1,r1,ty,q1⟩=> ?_);obtain⟨h1,h2⟩:=tyV_is I1 r1 ty;refine⟨T,id,pa,slot,hty,h1,h2,?_⟩;have hA:=ha cpos pins s1 σ H1 _ I1 q1;rw[hs]at hA⊢;refine Calls.callWith_builtin (by show(false||(backTo cpos (starEach es X.env)).any (·.1))=false;rw[hplain]<;>rfl) (Calls.evalArgs_plain ?_);exact thn hA fun us s2 ⟨vs,H2,I2,r2,q2⟩=>hm pins s2 σ H2 x vs v us Q I2 r1 r2 q2
end
noncomputable def MtM(X:Cx)(id:String)(r:V->List V->Hp->VK->Prop):Prop:=
 ∀(pins:L1) (s:η) (σ:St) (H:Hp) (x:V) (xs:List V) (v:ζ) (us:List ζ) (Q:VK),Inv X pins σ H s->RelV x v->Vals xs us->r x xs H Q->
  wpAny (model X.prog X.w) X.A (call (.builtin id) (v::us)) (EP X pins σ Q) X.xe s
theorem Vals.one{x:V}{us:List ζ}(h:Vals [x] us):∃u,us=[u]/\RelV x u:=by
 cases h with
 |cons r h=>cases h;exact⟨_,rfl,r⟩
theorem Vals.two{x y:V}{us:List ζ}(h:Vals [x,y] us):∃u v,us=[u,v]/\RelV x u/\RelV y v:=by
 cases h with
 |cons r h=>obtain⟨v,rfl,q⟩:=Vals.one h;exact⟨_,_,rfl,r,q⟩
theorem Vals.eraseIdx:∀{xs:List V} {us:List ζ} (i:Nat),Vals xs us->Vals (xs.eraseIdx i) (us.eraseIdx i)
 |_,_,_,.nil=> .nil
 |_,_,0,.cons _ t=>t
 |_,_,i+1,.cons r t=> .cons r (Vals.eraseIdx i t)
theorem len_erase{α:Type}:∀(l:List α) (i:Nat),(l.eraseIdx i).length<=l.length
 |[],_=>aN _
 |_::_,0=>Hl _
 |_::r,i+1=>Nat.succ_le_succ (len_erase r i)
theorem foldl_rep(its:List ζ):∀(k:Nat) (acc:List ζ),
  List.foldl (fun x1 x2=>x1++x2) acc.toArray (List.replicate k its.toArray)=(acc++(List.replicate k its).flatten).toArray
 |0,acc=>by simp
 |k+1,acc=>by
  have e:acc.toArray++its.toArray=(acc++its).toArray:=by simp
  have e2:(acc++its)++(List.replicate k its).flatten=acc++(List.replicate (k+1) its).flatten:=by
   rw[RL,W4,HS]
  rw[<-e2,<-foldl_rep its k (acc++its),<-e,RL,List.foldl_cons]
section
variable{X:Cx}{pins:L1}{σ:St}{H:Hp}{s:η}{l:Addr}{xs ys:List V}
theorem Inv.lset{its its':List ζ}{n:Nat}{f:Array ζ->Array ζ}{t':Nat}(I:Inv X pins σ H s)(hH:H l=some (.lst xs))(e:s.heap.get? l=some {cls:= .type "list",data:= .seq its.toArray n})(hf:f its.toArray=its'.toArray)(hv:Vals ys its')(hz:ys.length<=sizeLine):
  Inv X pins σ (upd H l (.lst ys)) {s with heap:=s.heap.update l (Obj.mapSeq f),toks:=t'}:=by
 have q:=PySem.IsL.update e f;rw[hf]at q;refine I.write (x:=l) (e:=l) (by rw[hH];exact trivial) (.inl rfl) (fun b' u hb hu=>(wci s.heap (Obj.mapSeq f) (jU hb)).trans hu) ⟨_,q⟩ ?_;exact⟨hz,its',_,hv,q⟩
theorem Inv.lnew{its:List ζ}{t':Nat}(I:Inv X pins σ H s)(hv:Vals ys its)(hz:ys.length<=sizeLine):
  Inv X pins σ (upd H s.heap.objs.size (.lst ys)) {s with heap:=s.heap.push {cls:= .type "list",data:= .seq its.toArray},toks:=t'}:=
 I.laid (fun _ _ q=>gP _ q) (aN _) ⟨hz,its,0,hv,j7 _ rfl⟩
theorem Inv.fresh(I:Inv X pins σ H s):H s.heap.objs.size=none:=I.hok.fresh (aN _)
theorem Inv.lstM(I:Inv X pins σ H s)(hH:H l=some (.lst xs)):xs.length<=sizeLine/\∃(its:List ζ) (n:Nat),Vals xs its/\xs.length=its.length/\s.heap.get? l=some {cls:= .type "list",data:= .seq its.toArray n}:=by
 obtain⟨z,its,n,r,e⟩:=I.hok l _ hH;exact⟨z,its,n,r,r.length,e⟩
theorem notLongL{n:Nat}(h:n<=sizeLine):Builtin.List.listTooLong n=false:=by
 unfold Builtin.List.listTooLong;exact fJ (by omega)
end
section
variable{X:Cx}
noncomputable def rAppend:V->List V->Hp->VK->Prop:=fun x vs H Q=>∃l xs y,x= .ref l/\vs=[y]/\H l=some (.lst xs)/\xs.length<sizeLine/\Q .non (upd H l (.lst (xs++[y])))
theorem mt_append:MtM X "list.append" rAppend:=by
 intro pins s σ H x vs v us Q I rx rv h;obtain⟨l,xs,y,rfl,rfl,hH,hz,q⟩:=h;cases rx;obtain⟨u,rfl,ru⟩:=rv.one;obtain⟨z,its,n,r,hl,e⟩:=I.lstM hH;refine RV F.slot_list_append ⟨_,e,rfl⟩ F.entry_list_append (F.args_list_append_2 _ _) (PySem.list_append l its.toArray n u (by rw[fH];omega)) ⟨e,?_⟩;refine⟨.non,_,I.lset (its':=its++[u]) hH e (by simp) (r.append (.cons ru .nil)) ?_,rfl,q⟩;rw[g8,RN];omega
noncomputable def rExtend:V->List V->Hp->VK->Prop:=fun x vs H Q=>∃l b xs zs,x= .ref l/\vs=[.ref b]/\H l=some (.lst xs)/\H b=some (.lst zs)/\xs.length+zs.length<=sizeLine/\Q .non (upd H l (.lst (xs++zs)))
theorem mt_extend:MtM X "list.extend" rExtend:=by
 intro pins s σ H x vs v us Q I rx rv h;obtain⟨l,b,xs,zs,rfl,rfl,hH,hB,hz,q⟩:=h;cases rx;obtain⟨u,rfl,ru⟩:=rv.one;cases ru;obtain⟨z,its,n,r,hl,e⟩:=I.lstM hH;obtain⟨z2,its2,n2,r2,hl2,e2⟩:=I.lstM hB;have hsz:its.toArray.size+its2.toArray.size<=sizeLine:=by rw[fH,fH];omega
 have hlong:¬(!its.toArray.isEmpty&&Builtin.List.listTooLong (its.toArray.size+its2.toArray.size))=true:=by
  rw[notLongL hsz,wfl];exact qZ
 refine RV F.slot_list_extend ⟨_,e,rfl⟩ F.entry_list_extend (F.args_list_extend_2 _ _)
  (AutoSeq1.list_extend_list_list_0 l its.toArray n b its2.toArray n2 hlong (by rw[fH];omega) (by omega)) ⟨e,e2,?_⟩
 refine⟨.non,_,I.lset (its':=its++its2) hH e (by simp) (r.append r2) ?_,rfl,q⟩;rw[g8];omega
noncomputable def rPopAt:V->List V->Hp->VK->Prop:=fun x vs H Q=>∃l xs i k y,x= .ref l/\vs=[.int i]/\H l=some (.lst xs)/\ -(2^63)<=i/\i<2^63/\seqIndex? i xs.length=some k/\xs[k]? =some y/\Q y (upd H l (.lst (xs.eraseIdx k)))
theorem mt_popAt:MtM X "list.pop" rPopAt:=by
 intro pins s σ H x vs v us Q I rx rv h;obtain⟨l,xs,i,k,y,rfl,rfl,hH,h1,h2,hk,hy,q⟩:=h;cases rx;obtain⟨u,rfl,ru⟩:=rv.one;obtain⟨t,rfl⟩:=ru;obtain⟨z,its,n,r,hl,e⟩:=I.lstM hH;obtain⟨w,hw,rw'⟩:=r.get hy;refine RV F.slot_list_pop ⟨_,e,rfl⟩ F.entry_list_pop (F.args_list_pop_2 _ _)
  (MeetsSeq.list_pop_at l its.toArray n i t k w (fitsIndex_both h1 h2) (by rw[fH,<-hl];exact hk) (by rw[<-Array.getElem?_toList];exact hw) (by rw[fH];omega)) ⟨e,?_⟩
 refine⟨y,_,I.lset (its':=its.eraseIdx k) hH e ?_ (r.eraseIdx k) ?_,rw',q⟩
 ·show its.toArray.eraseIdxIfInBounds k=(its.eraseIdx k).toArray;rw[List.eraseIdxIfInBounds_toArray]
 ·have:=len_erase xs k;omega
noncomputable def rCat:R2:=fun x y H Q=>∃l b xs zs,x= .ref l/\y= .ref b/\H l=some (.lst xs)/\H b=some (.lst zs)/\xs.length+zs.length<=sizeLine/\∀p,H p=none->Q (.ref p) (upd H p (.lst (xs++zs)))
theorem op_cat:OpR X (binaryOp .Add) rCat:=by
 intro pins s σ H x y v u Q I rx ry h;obtain⟨l,b,xs,zs,rfl,rfl,hH,hB,hz,q⟩:=h;cases rx;cases ry;obtain⟨z,its,n,r,hl,e⟩:=I.lstM hH;obtain⟨z2,its2,n2,r2,hl2,e2⟩:=I.lstM hB;refine PySem.P.add_list e e2 ?_ (by rw[fH,fH];omega);have ea:its.toArray++its2.toArray=(its++its2).toArray:=by simp
 rw[ea];exact⟨.ref _,_,I.lnew (t':=s.toks) (r.append r2) (by rw[g8];omega),rfl,q _ I.fresh⟩
theorem len_rep{α:Type}(xs:List α)(k:Nat):(List.replicate k xs).flatten.length=k*xs.length:=by
 induction k with
 |zero=>simp
 |succ k ih=>rw[RL,W4,g8,ih,wfr,Nat.add_comm]
end
end L2
namespace Att
open PySem PySem.W PySem.Calls PyProof.Rows
theorem ints_of_wellAll{P:Params}{h:Heap}:∀(ns:List Int) (vs:List ζ),WellAll P h vs (ns.map WData.int)->IntsAre vs ns:=by
 intro ns
 induction ns with
 |nil=>
  intro vs w;rw[List.map_nil]at w;cases w;exact .nil
 |cons n ns ih=>
  intro vs w;rw[zW]at w;cases w with
  |cons a b=>
   cases a;exact .cons _ _ (ih _ b)
theorem script_of{l:OpenLaw}{n:Nat}(hn:l.most=some n){P:Params}{h:Heap}{args:List WData}{vals:List ζ}(hpre:l.row.toRowW.claim.pre args=true)(hwl:WellAll P h vals args):
  ∃a vs ns,vals=[Value.ref a]/\args=[WData.list (ns.map WData.int)]/\h.get? a=some {cls:= .type "list",data:= .seq vs.toArray}/\IntsAre vs ns/\ns.length<=n:=by
 have hsh:WShape.hasAll [] args [.list .int]=true:=(pre_splitW hpre).1;have hc:l.pre.holds [] {args:=args}=true:=(pre_splitW hpre).2;obtain⟨d,r,rfl,h1,h2⟩:=hasAllW_cons hsh;obtain rfl:=hasAllW_nil h2;obtain⟨xs,rfl,h3⟩:=hasW_list h1;obtain⟨ns,rfl⟩:=items_int h3;have hlen:ns.length<=n:=by
  unfold OpenLaw.pre at hc;have h4:(WTm.not (.lt (.lit (.int (n:Int))) (.len (.arg 0)))).holds [] {args:=[.list (ns.map .int)]}=true:=by
   have h4:=(holds_andW hc).1;rw[hn]at h4;exact h4
  have h5:=condW_of h4 (w_not (w_lt w_lit (w_len_list (w_arg rfl))));rw[aG]at h5;refine Nat.le_of_not_lt fun q=> ?_;have q':(n:Int)<((ns.length:Nat):Int):=by omega
  first
   |(rw[dB q']at h5;exact absurd h5 (by decide))
   |(simp at h5;omega)
 cases hwl with
 |cons w1 w2=>
  cases w2;cases w1 with
  |list ho hall=>exact⟨_,_,ns,rfl,rfl,ho,ints_of_wellAll ns _ hall,hlen⟩
theorem post_true(l:OpenLaw)(args:List WData):l.row.toRowW.claim.post args (.bool true) args=true:=
 postW_of (r:=l.row.toRowW) (X:=(true==true))
  (show WShape.has [] (.bool true) .bool=true by first |rfl|decide|simp[WShape.has,WShape.arms,WShape.armsAll])
  (show(WTm.eq .res (.lit (.bool true))).value [] {args:=args,res:=some (.bool true),after:=args}=some (.bool (true==true))from w_eq_bool (w_res rfl) w_lit) rfl
theorem attach_call{l:OpenLaw}{n:Nat}{q:ξ}{loose:List Str}{XP:(L4)->Heap->Prop}{YP:τ->Heap->Prop}{d:DefRec}(hn:l.most=some n)(hdf:d.params.defaults=[])(call:∀(w:τ) (s₀ s₁:η) (mg mb:L4) (fa:Addr) (o:Obj) (pm cd doc:ζ) (a:Addr) (vs:List ζ) (ns:List Int),
   Ground q loose [] XP w s₀ mg mb s₁.heap->YP w s₁.heap->
   s₁.heap.get? fa=some o->o.data= .func (docDef d.name d.params d.body d.scope pm cd doc)->s₁.heap.CodeRec cd d.name->mg d.name=some (.ref fa)->
   s₁.heap.get? a=some {cls:= .type "list",data:= .seq vs.toArray}->IntsAre vs ns->ns.length<=n->s₁.gens=#[]->
   codeAny (model l.prog w) callerA (.call (.ref fa) ⟨[.ref a],[]⟩) (fun r s'=>r= .ok (.ret (.bool true))/\OldK s₁.heap s'.heap/\s'.os=s₁.os/\AllBare s'.gens) s₁):
  WalkO q loose XP YP l.row.toRowW d [] (fun f vs=>PySem.call f vs):=by
 intro w s₀ s₁ mg mb G Y fa o pm cd doc dV kV ho hd hcd hD hmg hg args vals as hpre hlay hrd hwl hlo;obtain rfl:dV= .none:=Dflts.none hD hdf;obtain rfl:kV= .none:=Dflts.noKw hD;obtain⟨a,vs,ns,rfl,rfl,hobj,hints,hlen⟩:=script_of hn hpre hwl;refine enter_call (VJ (call w s₀ s₁ mg mb fa o pm cd doc a vs ns G Y ho (fd_plain hd) hcd hmg hobj hints hlen hg) fun r s' hq=> ?_);obtain⟨rfl,h2,h3,h4⟩:=hq;exact⟨.inl ⟨.bool true,.bool true,[],rfl,fun _=>rfl,.bool true,post_true l _,fun _=>⟨List.Pairwise.nil,fun _ hm=>(nomatch hm)⟩⟩,h2,h3,h4⟩
end Att
namespace L2
open PySem PySem.Spec PyProof.Rows
theorem vals_ints:∀{vs:List ζ} {ns:List Int},IntsAre vs ns->Vals (ns.map V.int) vs
 |_,_,.nil=> .nil
 |_,_,.cons n t h=> .cons ⟨t,rfl⟩ (vals_ints h)
noncomputable def Only(H:Hp):Prop:=∀b,H b=none\/∃o xs,H b=some (.frz o (.lst xs))
theorem law_call{P:ξ}{w:τ}{K:W.Frag}{mg mb:L4}{CX:CXT}{k:Nat}{fa a:Addr}{fd:ρ}{x:Str}{sp:Sp}{s₁:η}{vs:List ζ}{ns:List Int}
  (KX:K.In s₁.heap)(hns:s₁.heap.Ns mainGlobals mg)(hb:s₁.heap.Ns builtinsNs mb)(hbb:∀x:Str,x≠"__name__"->mb x=bootBuiltins x)(hlim:s₁.heap.NoLimit)(hg:s₁.gens=#[])(ha:s₁.heap.get? a=some {cls:= .type "list",data:= .seq vs.toArray})(hi:IntsAre vs ns)(hl:ns.length<=sizeLine)(hr:Room k callerA)
  (F:∀base:Heap,K.In base->base.Ns mainGlobals mg->FnOk P w K mg base CX k fa fd [x] sp)(hbind:∀(s:η) (u:ζ),BindsTo s fd ⟨[u],[]⟩ [(x,u)])(hsp:∀H:Hp,Only H->SqL K H a (ns.map V.int)->sp [.ref a] H (fun v _=>v= .bl true) fun _ _ _=>False)(hCX:∀H e s',CX [] H s₁ (fun _ _ _=>False) e s'->False):
  codeAny (model P w) callerA (.call (.ref fa) ⟨[.ref a],[]⟩) (fun r s'=>r= .ok (.ret (.bool true))/\OldK s₁.heap s'.heap/\s'.os=s₁.os/\AllBare s'.gens) s₁:=by
 have rv:=vals_ints hi;have lenV:=hi.length
 -- from an abstract heap in which nothing but the script may be tracked
 have core:∀H:Hp,Only H->SqL K H a (ns.map V.int)->HOk P w H s₁.heap->(∀b,H b≠none->b=a)->(H a≠none->K.lookup a=none)->
   codeAny (model P w) callerA (.call (.ref fa) ⟨[.ref a],[]⟩) (fun r s'=>r= .ok (.ret (.bool true))/\OldK s₁.heap s'.heap/\s'.os=s₁.os/\AllBare s'.gens) s₁:=by
  intro H hO hS hok hA hK;have base_of:∀{b:Addr} {o:Obj},s₁.heap.get? b=some o->H b=none->(hidT s₁.heap H).get? b=some o:=fun e n=>hidT_get e n;have noA:∀{b:Addr} {o:Obj} {es:Array DictEntry} {ep:Nat},s₁.heap.get? b=some o->o.data= .dict es ep->H b=none:=fun{b o es ep} e d=>by
   cases q:H b with
   |none=>rfl
   |some u=>
    have e':b=a:=hA b (by rw[q];simp);subst e';rw[ha]at e;cases e;have d':Data.seq vs.toArray _=Data.dict es ep:=d;cases d'
  have nsK:∀{b:Addr} {m:L4},s₁.heap.Ns b m->(hidT s₁.heap H).Ns b m:=fun{b m} ⟨o,es,ep,e,d,r⟩=>⟨o,es,ep,base_of e (noA e d),d,r⟩;have hKb:K.In (hidT s₁.heap H):=fun b o e=>base_of (KX b o e) (by
   cases q:H b with
   |none=>rfl
   |some u=>
    have e':b=a:=hA b (by rw[q];simp);subst e';rw[hK (by rw[q];simp)]at e;cases e)
  have hM:Mod K mg (hidT s₁.heap H):=⟨hKb,nsK hns,⟨mb,nsK hb,hbb⟩,let⟨mc,h1,h2⟩:=hlim;⟨mc,nsK h1,h2⟩⟩;have e0:Env0 P w K mg (hidT s₁.heap H) callerA [] s₁ H:=⟨rfl,hM,fun b o e=>of_hidT e,CK (hidT_size _ _),trivial,fun b hb=>absurd (show b∈([]:List Addr)from hb) (by simp),hok,.of_eq hg⟩;refine VJ ((F _ hKb (nsK hns)).run callerA [] s₁ H ⟨[.ref a],[]⟩ [.ref a] [.ref a] _ _ hr e0 (hbind s₁ (.ref a)) (.cons rfl .nil) (hsp H hO hS)) fun r s' h=> ?_;cases r with
  |error e=>exact(hCX H e s' h).elim
  |ok fl=>
   cases fl with
   |next=>exact False.elim h
   |brk=>exact False.elim h
   |cont=>exact False.elim h
   |ret u=>
    obtain⟨v,H',os,bare,un,hok',r',q⟩:=h;have q':v= .bl true:=q;subst q';obtain rfl:u=Value.bool true:=r';refine⟨rfl,OldK.of_keep fun b o e=> ?_,os,bare⟩;cases q:H b with
    |none=>exact un.keep b o e q (by intro z;exact absurd (show b∈([]:List Addr)from z) (by simp)) (by simp)
    |some u=>
     rcases hO b with z|⟨ob,xs,z⟩
     ·rw[q]at z;cases z
     ·have z2:=un.frzs b ob _ z;obtain⟨e1,_⟩:=hok b _ z;obtain⟨e2,_⟩:=hok' b _ z2;rw[e]at e1;cases e1;exact e2
 cases hk:K.lookup a with
 |some o=>
  -- the script is one of the module's own objects
  have e:=KX a o hk;rw[ha]at e;cases e;refine core (fun _=>none) (fun _=> .inl rfl) (.inr ⟨_,vs.toArray,_,hk,rfl,rfl,rfl,by rw[fH,lenV];exact hl,by simpa using rv⟩) (fun b u z=>by have z':(none:Option HO)=some u:=z;cases z') (fun b z=>absurd rfl z) fun z=>absurd rfl z
 |none=>
  refine core (fun b=>if b=a then some (.frz {cls:= .type "list",data:= .seq vs.toArray} (.lst (ns.map V.int)))else none) (fun b=> ?_) (.inl (.inr ⟨{cls:= .type "list",data:= .seq vs.toArray},aA rfl⟩)) (fun b u z=> ?_) (fun b z=> ?_) fun _=>hk
  ·by_cases hb:b=a
   ·exact .inr ⟨_,_,aA hb⟩
   ·exact .inl (aq hb)
  ·by_cases hb:b=a
   ·have z':=(aA hb).symm.trans z;cases z';subst hb;exact⟨ha,by rw[aG];exact hl,vs,_,rv,ha⟩
   ·have z':=(aq hb).symm.trans z;cases z'
  ·by_cases hb:b=a
   ·exact hb
   ·exact absurd (aq hb) z
theorem walk_of{l:PySem.W.OpenLaw}{n k:Nat}{q:ξ}{loose:List Str}{XP:(L4)->Heap->Prop}{YP:τ->Heap->Prop}{d:DefRec}{K:Params->PySem.W.Frag}{CX:τ->CXT}{sp:τ->Sp}{x:Str}(hn:l.most=some n)(hn2:n<=sizeLine)(hdf:d.params.defaults=[])(hr:Room k callerA)(hY:∀(w:τ) (h:Heap),YP w h->(K w.params).In h)
  (F:∀(w:τ) (mg:L4) (fa:Addr) (h:Heap),(K w.params).In h->h.Ns mainGlobals mg->mg d.name=some (.ref fa)->
   ∃fd:ρ,(∀(s:η) (u:ζ),BindsTo s fd ⟨[u],[]⟩ [(x,u)])/\
    ∀base:Heap,(K w.params).In base->base.Ns mainGlobals mg->FnOk l.prog w (K w.params) mg base (CX w) k fa fd [x] (sp w))(hsp:∀(w:τ) (H:Hp) (a:Addr) (ns:List Int),ns.length<=n->Only H->SqL (K w.params) H a (ns.map V.int)->sp w [.ref a] H (fun v _=>v= .bl true) fun _ _ _=>False)(hCX:∀(w:τ) (H:Hp) (s:η) (e:ζ) (s':η),CX w [] H s (fun _ _ _=>False) e s'->False):
  PySem.W.WalkO q loose XP YP l.row.toRowW d [] (fun f vs=>PySem.call f vs):=by
 refine Att.attach_call hn hdf fun w s₀ s₁ mg mb fa o pm cd doc a vs ns G Y ho hd hcd hmg hobj hints hlen hg=> ?_;have KX:=hY w _ Y;obtain⟨fd,hb,hF⟩:=F w mg fa _ KX G.T.g hmg;exact law_call KX G.T.g G.T.b G.T.builtins G.T.nolimit hg hobj hints (eN hlen hn2) hr hF hb (fun H hO hS=>hsp w H a ns hlen hO hS) fun H e s'=>hCX w H s₁ e s'
noncomputable def inClass(s:Stmt)(j:Nat):Stmt:=match s with
 | .ClassDef _ _ _ body _ _ _ _ _ _ _=>body.getD j (.Pass ⟨0,0,0,0⟩)
 |_=> .Pass ⟨0,0,0,0⟩
noncomputable def defArgs(s:Stmt):Arguments:=match s with
 | .FunctionDef _ a _ _ _ _ _ _ _ _=>a
 |_=>{posonlyargs:=[],args:=[],vararg:=none,kwonlyargs:=[],kw_defaults:=[],kwarg:=none,defaults:=[]}
noncomputable def defBody(s:Stmt):List Stmt:=match s with
 | .FunctionDef _ _ b _ _ _ _ _ _ _=>b
 |_=>[]
noncomputable def defScope(s:Stmt):Scope:=match s with
 | .FunctionDef _ _ _ _ _ _ sc _ _ _=>sc
 |_=>{kind:= .function,names:=[],isGenerator:=false,isCoroutine:=false}
noncomputable abbrev CX0:CXT:=fun _ _ _ _ _ _=>False
noncomputable abbrev E0:XK:=fun _ _ _=>False
theorem pass0{X:Cx}:Passes CX0 X E0:=fun _ _ _ _ _ _ _ h=>h.elim
structure Fun(K:W.Frag)(x qual:Str)(st:Stmt)(f:Addr)(fd:ρ):Prop where
 ex:∃(oc:ζ) (od:Option Addr) (kV doc pm:ζ) (an:Option Addr) (cdv ct:ζ) (osl:Array (Option ζ)),
  fd=PySem.W.fnOf x qual (defArgs st) (defBody st) (defScope st) .none kV doc pm an cdv ct/\K.lookup f=some ⟨oc,od,.func fd,osl⟩/\PySem.W.codeIn K cdv qual=true
 kp:PySem.W.keepIn K (.ref f)=true
section
variable{P:ξ}{w:τ}{K:W.Frag}{mg:L4}{base:Heap}
theorem Fun.ok{x qual:Str}{st:Stmt}{f:Addr}{fd:ρ}{N ps:List Str}{k:Nat}{sp:Sp}(F:Fun K x qual st f fd)(S:FnScope N ps (defScope st))(len:∀vs H Q E,sp vs H Q E->vs.length=ps.length)(hbody:∀(cdv:ζ) (A:υ) (outer:List Env) (s:η) (H:Hp) (vs:List V) (Q:VK) (E:XK),Room k (A.deeper (envOfC qual (defScope st) s.heap.objs.size f cdv))->sp vs H Q E->
   ∃t,PSs (cxOf CX0 P w K mg base N qual (defScope st) f cdv A outer s H E).nox (defBody st) t/\t {nx:=fun _ H'=>Q .non H',rt:=Q} (start N vs) H):FnOk P w K mg base CX0 (k+1) f fd ps sp:=by
 obtain⟨oc,od,kV,doc,pm,an,cdv,ct,osl,rfl,lk,hcd⟩:=F.ex;refine fn_of lk hcd S len fun A outer s H vs Q E hr hsp=> ?_;obtain⟨t,h,q⟩:=hbody cdv A outer s H vs Q E hr hsp;exact⟨t,h.nox,q⟩
theorem Fun.binds{x qual:Str}{st:Stmt}{f:Addr}{fd:ρ}{ps:List Str}(F:Fun K x qual st f fd)(h:∀(kV doc pm:ζ) (an:Option Addr) (cdv ct:ζ) (us:List ζ),us.length=ps.length->bindArgs (PySem.W.fnOf x qual (defArgs st) (defBody st) (defScope st) .none kV doc pm an cdv ct) ⟨us,[]⟩=pure (ps.zip us)):Binds K fd ps []:=by
 obtain⟨oc,od,kV,doc,pm,an,cdv,ct,osl,rfl,lk,hcd⟩:=F.ex;exact .all (h kV doc pm an cdv ct)
theorem fun_mk{x qual:Str}{st:Stmt}{f:Addr}{oc:ζ}{od an:Option Addr}{osl:Array (Option ζ)}{kV doc pm cdv ct:ζ}(l:K.lookup f=some ⟨oc,od,.func (PySem.W.fnOf x qual (defArgs st) (defBody st) (defScope st) .none kV doc pm an cdv ct),osl⟩)(c:PySem.W.codeIn K cdv qual=true)(k:PySem.W.keepIn K (.ref f)=true):Fun K x qual st f (PySem.W.fnOf x qual (defArgs st) (defBody st) (defScope st) .none kV doc pm an cdv ct):=⟨⟨oc,od,kV,doc,pm,an,cdv,ct,osl,rfl,l,c⟩,k⟩
end
theorem small1000{n:Nat}(h:n<=1000):n<sizeLine:=Hr h (by decide)
section
variable{X:Cx}
theorem pv(i:Nat){x:Str}{pos:Pos}(hN:X.N[i]? =some x:=by rfl)(hv:Vis X.env.scope x:=by first |exact Or.inl rfl|exact Or.inr (Or.inl rfl)|exact Or.inr (Or.inr rfl))(hd:(x==("__debug__":Str))=false:=by decide)(hcd:(x==("__classdict__":Str))=false:=by decide):PE X (.Name x pos) (tVar i):=pe_var hN hv hd hcd
end
theorem iteF{A B:Prop}(h:B):if false=true then A else B:=by
 rw[aq qZ];exact h
theorem iteT{A B:Prop}(h:A):if true=true then A else B:=by
 rw[aA rfl];exact h
theorem ite2{c A B:Prop} [Decidable c](h1:c->A)(h2:¬c->B):if c then A else B:=by
 by_cases h:c
 ·rw[aA h];exact h1 h
 ·rw[aq h];exact h2 h
noncomputable def Same(H H':Hp):Prop:=∀b o,H b=some o->H' b=some o
theorem Same.refl(H:Hp):Same H H:=fun _ _ h=>h
theorem Same.trans{H H1 H2:Hp}(a:Same H H1)(b:Same H1 H2):Same H H2:=fun c o h=>b c o (a c o h)
theorem Same.free{H H':Hp}(e:Same H H'){l:Addr}(h:H' l=Option.none):H l=Option.none:=by
 cases q:H l with
 |none=>rfl
 |some o=>
  rw[e l o q]at h;cases h
theorem Same.seq{K:W.Frag}{H H':Hp}{a:Addr}{xs:List V}(e:Same H H')(h:SqL K H a xs):SqL K H' a xs:=by
 rcases h with(h|⟨o,h⟩)|h
 ·exact .inl (.inl (e _ _ h))
 ·exact .inl (.inr ⟨o,e _ _ h⟩)
 ·exact .inr h
end L2
set_option maxHeartbeats 4000000
namespace L2
open PySem PySem.Spec PyProof.Rows
noncomputable def jP(cells:List (Str×Addr)):List (Str×NameKind)->List (Str×Addr)->List (Str×Addr)
 |[],acc=>acc
 |p::r,acc=>jP cells r (if(p.2==NameKind.free)=true then(p.1,(cells.lookup p.1).getD 0)::acc else acc)
theorem mQ{cells:List (Str×Addr)}:∀{names:List (Str×NameKind)} {acc:List (Str×Addr)} {x:Str} {c:Addr},(x,c)∈jP cells names acc->(x,c)∈acc\/c=(cells.lookup x).getD 0/\(x,NameKind.free)∈names
 |[],_,_,_,h=> .inl h
 |(n,k)::r,acc,x,c,h=>by
  rcases mQ (names:=r) h with q|⟨q,m⟩
  ·dsimp only at q;split at q
   ·rename_i hk;rcases cQ.mp q with e|e
    ·cases e;have:k=NameKind.free:=by simpa using hk
     subst this;exact .inr ⟨rfl,cV⟩
    ·exact .inl e
   ·exact .inl q
  ·exact .inr ⟨q,dF _ m⟩
theorem zH{cells:List (Str×Addr)}:∀{names:List (Str×NameKind)} {acc:List (Str×Addr)} {p:Str×Addr},p∈acc->p∈jP cells names acc
 |[],_,_,h=>h
 |(n,k)::r,acc,p,h=>by
  refine zH (names:=r) ?_;split
  ·exact dF _ h
  ·exact h
theorem zG{cells:List (Str×Addr)}:∀{names:List (Str×NameKind)} {acc:List (Str×Addr)} {x:Str},(x,NameKind.free)∈names->∃c,(x,c)∈jP cells names acc
 |(n,k)::r,acc,x,h=>by
  rcases cQ.mp h with e|e
  ·cases e;refine⟨(cells.lookup n).getD 0,zH (names:=r) ?_⟩;rw[aA (show(NameKind.free==NameKind.free)=true from rfl)];exact cV
  ·exact zG (names:=r) e
theorem zbo{β:Type}:∀{l:List (Str×β)} {x:Str} {c:β},(x,c)∈l->∃d,l.lookup x=some d/\(x,d)∈l
 |(n,k)::r,x,c,h=>by
  cases hx:x==n with
  |true=>
   have e:x=n:=by simpa using hx
   subst e;exact⟨k,by simp[Hq],cV⟩
  |false=>
   rcases cQ.mp h with e|e
   ·cases e;simp at hx
   ·obtain⟨d,h1,h2⟩:=zbo e;exact⟨d,by simp only[Hq,hx];exact h1,dF _ h2⟩
theorem sW{scope:Scope}{env:Env}(h:∀x,(x,NameKind.free)∈scope.names->∃c,env.cells.lookup x=some c):closureFor scope env=pure (jP env.cells scope.names []):=by
 have key:∀(names:List (Str×NameKind)) (acc:List (Str×Addr)),(∀x,(x,NameKind.free)∈names->∃c,env.cells.lookup x=some c)->
   (forIn names acc fun(x:Str×NameKind) (cs:List (Str×Addr))=>if(x.2==NameKind.free)=true then(do let y<-cellOf env x.1;pure (ForInStep.yield ((x.1,y)::cs)))else pure (ForInStep.yield cs):Sem (List (Str×Addr)))=pure (jP env.cells names acc):=by
  intro names
  induction names with
  |nil=>intro acc _;rfl
  |cons p r ih=>
   intro acc hh;obtain⟨n,k⟩:=p;rw[List.forIn_cons];dsimp only;by_cases hk:(k==NameKind.free)=true
   ·have e:k=NameKind.free:=by simpa using hk
    subst e;obtain⟨c,hc⟩:=hh n cV;rw[aA hk];unfold cellOf;rw[hc];simp only[pure_bind];refine Eq.trans (ih _ fun x hx=>hh x (dF _ hx)) ?_;show _=pure (jP env.cells r (if(NameKind.free==NameKind.free)=true then(n,(env.cells.lookup n).getD 0)::acc else acc));rw[aA hk,hc];rfl
   ·rw[aq hk];simp only[pure_bind];refine Eq.trans (ih _ fun x hx=>hh x (dF _ hx)) ?_;show _=pure (jP env.cells r (if(k==NameKind.free)=true then(n,(env.cells.lookup n).getD 0)::acc else acc));rw[aq hk]
 have q:=key scope.names [] h;unfold closureFor;simp only[bind_pure];exact q
theorem lq{env:Env}:∀{names:List (Str×NameKind)} {x:Str} {k:NameKind},names.lookup x=some k->
  (names.map fun(n,k)=>if(k==NameKind.free&&env.scope.kind== .function&&env.kindOf n==some .cell)then(n,NameKind.cell)else(n,k)).lookup x=some (if(k==NameKind.free&&env.scope.kind== .function&&env.kindOf x==some .cell)=true then .cell else k)
 |[],_,_,h=>by simp at h
 |(n,k)::r,x,k',h=>by
  have ih:= @lq env r x k';show List.lookup x ((if(k==NameKind.free&&env.scope.kind== .function&&env.kindOf n==some .cell)=true then(n,NameKind.cell)else(n,k))::_)=_;cases hx:x==n with
  |true=>
   have e:x=n:=by simpa using hx
   subst e;simp only[Hq,hx]at h;cases h;by_cases hc:(k==NameKind.free&&env.scope.kind== .function&&env.kindOf x==some .cell)=true
   ·rw[aA hc,aA hc];simp[Hq]
   ·rw[aq hc,aq hc];simp[Hq]
  |false=>
   simp only[Hq,hx]at h;by_cases hc:(k==NameKind.free&&env.scope.kind== .function&&env.kindOf n==some .cell)=true
   ·rw[aA hc];simp only[Hq,hx];exact ih h
   ·rw[aq hc];simp only[Hq,hx];exact ih h
theorem rT{env:Env}:∀{names:List (Str×NameKind)} {x:Str},names.lookup x=none->
  (names.map fun(n,k)=>if(k==NameKind.free&&env.scope.kind== .function&&env.kindOf n==some .cell)then(n,NameKind.cell)else(n,k)).lookup x=none
 |[],_,_=>rfl
 |(n,k)::r,x,h=>by
  have ih:= @rT env r x;show List.lookup x ((if(k==NameKind.free&&env.scope.kind== .function&&env.kindOf n==some .cell)=true then(n,NameKind.cell)else(n,k))::_)=_;cases hx:x==n with
  |true=>simp only[Hq,hx]at h;cases h
  |false=>
   simp only[Hq,hx]at h;by_cases hc:(k==NameKind.free&&env.scope.kind== .function&&env.kindOf n==some .cell)=true
   ·rw[aA hc];simp only[Hq,hx];exact ih h
   ·rw[aq hc];simp only[Hq,hx];exact ih h
theorem Az{scope:Scope}{env:Env}{x:Str}(h:scope.names.lookup x=some .free):(relabel scope env).names.lookup x=some .cell\/(relabel scope env).names.lookup x=some .free:=by
 have q:=lq (env:=env) h;by_cases hc:((NameKind.free==NameKind.free)&&env.scope.kind== .function&&env.kindOf x==some .cell)=true
 ·rw[aA hc]at q;exact .inl q
 ·rw[aq hc]at q;exact .inr q
inductive iI(X:Cx)(scope:Scope):List Str->List Nat->Prop
 |nil:iI X scope [] []
 |cons {x:Str} {j:Nat} {xs:List Str} {js:List Nat} (hN:X.N[j]? =some x) (hf:scope.names.lookup x=some .free) (t:iI X scope xs js):iI X scope (x::xs) (j::js)
theorem iI.get{X:Cx}{scope:Scope}:∀{xs:List Str} {js:List Nat} {k:Nat} {x:Str},iI X scope xs js->xs[k]? =some x->∃j,js[k]? =some j/\X.N[j]? =some x/\scope.names.lookup x=some .free
 |_,_,k,x,.nil,h=>by simp at h
 |_,_,0,x,.cons h1 h2 _,h=>by simp at h;subst h;exact⟨_,rfl,h1,h2⟩
 |_,_,k+1,x,.cons _ _ t,h=>by
  obtain⟨j,a,b⟩:=iI.get (k:=k) t (by simpa using h);exact⟨j,by simpa using a,b⟩
theorem iI.len{X:Cx}{scope:Scope}:∀{xs:List Str} {js:List Nat},iI X scope xs js->xs.length=js.length
 |_,_,.nil=>rfl
 |_,_,.cons _ _ t=>by simp[iI.len t]
noncomputable def yO(own:List Str)(ix:List Nat)(σ:St):St:=own.map (fun _=>none)++ix.map fun j=>(σ[j]?).join
noncomputable def Rz(X:Cx)(ifs:List Expr)(t:TT):Prop:=
 ∀(pins:L1) (s:η) (σ:St) (H:Hp) (Q:Bool->Hp->Prop),Inv X pins σ H s->t σ H Q->
  wpAny (model X.prog X.w) X.A (forIn ifs true fun c r=>if r=true then do let ok<-isTrue c X.env (eval c X.env);pure (ForInStep.yield ok)else pure (ForInStep.yield r)) (TP X pins σ Q) X.xe s
theorem qz{X:Cx}:Rz X [] (fun _ H Q=>Q true H):=fun _ _ _ H _ I h=>wpAny_tests_nil ⟨H,I,h⟩
theorem HD{X:Cx}{c:Expr}{t:TT}(h:PT X c t):Rz X [c] t:=fun pins s σ H Q I hq=>wpAny_tests_one (h pins s σ H Q I hq)
theorem HOk.add{P:ξ}{w:τ}{H:Hp}{h:Heap}{a:Addr}{o:HO}(x:HOk P w H h)(hn:H a=none)(new:ObjOk P w (upd H a o) h a o):HOk P w (upd H a o) h:=fun b u e=>by
 by_cases hb:b=a
 ·subst hb;rw[aJ]at e;cases e;exact new
 ·rw[cP hb]at e;exact(x b u e).stay (fun c v _ q=>q) (fun c q=>by rw[cP (j5 q hn)];exact q) fun c xs q=>by rw[cP (j5 q hn)];exact q
theorem Un.add{fs ex:List Addr}{H H':Hp}{h h':Heap}{a:Addr}{o:HO}(u:Un fs ex H H' h h')(ha:h.objs.size<=a)(hn:H' a=none):Un fs ex H (upd H' a o) h h' where
 keep:=u.keep
 slot:=u.slot
 free:=fun b ob q n hx=>by rw[cP (fM (iT (dX q) ha))];exact u.free b ob q n hx
 there:=u.there
 tups:=fun b xs q=>by have:=u.tups b xs q;rw[cP (j5 this hn)];exact this
 frzs:=fun b ob xs q=>by have:=u.frzs b ob xs q;rw[cP (j5 this hn)];exact this
 tbls:=fun b ps q=>by obtain⟨m,e⟩:=u.tbls b ps q;exact⟨m,by rw[cP (j5 e hn)];exact e⟩
noncomputable def zT(J:It)(ini:St)(H:Hp)(g:TG)(tc:TT)(te:TE)(Fin:List V->Hp->Prop):Prop:=
 ∃W:Nat->Nat->List V->St->Hp->Prop,(∃m,W 0 m [] ini H)/\∀i m acc σ H,W i m acc σ H->
  (J.stop i H/\acc.length<=sizeLine/\Fin acc H)\/(J.go i H/\acc.length<sizeLine/\∃N:List V->St->Hp->Prop,(∀acc' σ' H',N acc' σ' H'->∃m',m'<m/\W (i+1) m' acc' σ' H')/\∀x H',J.yld i H x H'->g x σ H' fun σ2 H2=>tc σ2 H2 fun b H3=>
   if b=true then te σ2 H3 fun v H4=>N (acc++[v]) σ2 H4 else N acc σ2 H3)
noncomputable def Dc(wi:TI)(own:List Str)(ix:List Nat)(g:TG)(tc:TT)(te:TE):TE:=fun σ H Q=>wi σ H fun J H1=>
 zT J (yO own ix σ) H1 g tc te fun acc H'=>∀p,H' p=none->Q (.ref p) (upd H' p (.lst acc))
section
variable{K:W.Frag}{a:Addr}{xs:List V}{g:TG}{tc:TT}{te:TE}{Fin:List V->Hp->Prop}{ini:St}{H:Hp}
theorem Qt(Pv:Nat->List V->St->Hp->Prop)(h0:Pv 0 [] ini H)(hl:∀(i:Nat) acc σ H,i<=xs.length->Pv i acc σ H->SqL K H a xs)(hz:∀(i:Nat) acc σ H,i<=xs.length->Pv i acc σ H->acc.length<=i)(hx:xs.length<=sizeLine)(hs:∀(i:Nat) x acc σ H,xs[i]? =some x->Pv i acc σ H->g x σ H fun σ2 H2=>tc σ2 H2 fun b H3=>if b=true then te σ2 H3 fun v H4=>Pv (i+1) (acc++[v]) σ2 H4 else Pv (i+1) acc σ2 H3)(hd:∀acc σ H,Pv xs.length acc σ H->Fin acc H):zT (Itl K a) ini H g tc te Fin:=by
 refine⟨fun i m acc σ H=>m=xs.length-i/\i<=xs.length/\Pv i acc σ H,⟨xs.length,by simp,dw _,h0⟩,?_⟩;rintro i m acc σ H ⟨rfl,hi,p⟩;have q:=hl i acc σ H hi p;have z:=hz i acc σ H hi p;by_cases hlt:i<xs.length
 ·refine .inr ⟨⟨xs,xs[i],q,by simp[hlt]⟩,by omega,fun acc σ H=>Pv (i+1) acc σ H,fun acc' σ' H' r=>⟨_,by omega,rfl,hlt,r⟩,fun x H' y=> ?_⟩;obtain⟨e,y⟩:=y;subst e;exact hs i x acc σ _ (y xs q) p
 ·have e:i=xs.length:=by omega
  subst e;exact .inl ⟨⟨xs,q,aN _⟩,by omega,hd acc σ H p⟩
theorem LR(Pv:Nat->List V->St->Hp->Prop)(h0:Pv 0 [] ini H)(hl:∀(i:Nat) acc σ H,i<=xs.length->Pv i acc σ H->SqT K H a xs)(hz:∀(i:Nat) acc σ H,i<=xs.length->Pv i acc σ H->acc.length<=i)(hx:xs.length<=sizeLine)(hs:∀(i:Nat) x acc σ H,xs[i]? =some x->Pv i acc σ H->g x σ H fun σ2 H2=>tc σ2 H2 fun b H3=>if b=true then te σ2 H3 fun v H4=>Pv (i+1) (acc++[v]) σ2 H4 else Pv (i+1) acc σ2 H3)(hd:∀acc σ H,Pv xs.length acc σ H->Fin acc H):zT (Itt K a) ini H g tc te Fin:=by
 refine⟨fun i m acc σ H=>m=xs.length-i/\i<=xs.length/\Pv i acc σ H,⟨xs.length,by simp,dw _,h0⟩,?_⟩;rintro i m acc σ H ⟨rfl,hi,p⟩;have q:=hl i acc σ H hi p;have z:=hz i acc σ H hi p;by_cases hlt:i<xs.length
 ·refine .inr ⟨⟨xs,xs[i],q,by simp[hlt]⟩,by omega,fun acc σ H=>Pv (i+1) acc σ H,fun acc' σ' H' r=>⟨_,by omega,rfl,hlt,r⟩,fun x H' y=> ?_⟩;obtain⟨e,y⟩:=y;subst e;exact hs i x acc σ _ (y xs q) p
 ·have e:i=xs.length:=by omega
  subst e;exact .inl ⟨⟨xs,q,aN _⟩,by omega,hd acc σ H p⟩
theorem CG{lo:Int}{n:Nat}(Pv:Nat->List V->St->Hp->Prop)(h0:Pv 0 [] ini H)(hz:∀(i:Nat) acc σ H,i<=n->Pv i acc σ H->acc.length<=i)(hx:n<=sizeLine)(hs:∀(i:Nat) acc σ H,i<n->Pv i acc σ H->g (.int (lo+i)) σ H fun σ2 H2=>tc σ2 H2 fun b H3=>if b=true then te σ2 H3 fun v H4=>Pv (i+1) (acc++[v]) σ2 H4 else Pv (i+1) acc σ2 H3)(hd:∀acc σ H,Pv n acc σ H->Fin acc H):zT (Itr lo n) ini H g tc te Fin:=by
 refine⟨fun i m acc σ H=>m=n-i/\i<=n/\Pv i acc σ H,⟨n,by simp,dw _,h0⟩,?_⟩;rintro i m acc σ H ⟨rfl,hi,p⟩;have z:=hz i acc σ H hi p;by_cases hlt:i<n
 ·refine .inr ⟨hlt,by omega,fun acc σ H=>Pv (i+1) acc σ H,fun acc' σ' H' r=>⟨_,by omega,rfl,hlt,r⟩,fun x H' y=> ?_⟩;obtain⟨e,y⟩:=y;subst e y;exact hs i acc σ _ hlt p
 ·have e:i=n:=by omega
  subst e;exact .inl ⟨aN _,by omega,hd acc σ H p⟩
end
end L2
namespace nJ
open PySem PySem.W PyProof.Rows
section
variable{O:KeyOrd}{key:Nat->O.α}{N:Nat}{cmp:Nat->Nat->(Bool->η->Prop)->η->Prop}{s:η}
noncomputable def iR(O:KeyOrd)(key:Nat->O.α)(N:Nat)(cmp:Nat->Nat->(Bool->η->Prop)->η->Prop)(s:η):Prop:=
 ∀i j (C:Bool->η->Prop),i<N->j<N->C (O.blt (key i) (key j)) s->cmp i j C s
noncomputable def KN(key:Nat->O.α)(p:Array Nat)(i:Nat):O.α:=key (p.getD i 0)
noncomputable def So(key:Nat->O.α)(p:Array Nat)(k:Nat):Prop:=∀i j,i<=j->j<k->O.kle (KN key p i) (KN key p j)
noncomputable def Ni(key:Nat->O.α)(p:Array Nat)(k:Nat):Prop:=∀i j,i<=j->j<k->O.kle (KN key p j) (KN key p i)
structure Ord(N:Nat)(p:Array Nat):Prop where
 perm:p.Perm (List.toArray (List.range N))
theorem Ord.size{p:Array Nat}(h:Ord N p):p.size=N:=by have:=h.perm.size_eq;simpa using this
theorem Ord.lt{p:Array Nat}(h:Ord N p){i:Nat}(hi:i<N):p.getD i 0<N:=by
 have hi':i<p.size:=by rw[h.size];exact hi
 have e:p.getD i 0=p[i]:=by simp[Array.getD,hi']
 rw[e];have m:p[i]∈p.toList:=by simp
 have:=(ydy.mp h.perm).mem_iff.mp m;simpa using this
theorem Ord.rev{p:Array Nat}(h:Ord N p)(i j:Nat):Ord N (kas_rev p i j):=⟨(mirror_perm _ _ _ _).trans h.perm⟩
theorem Ord.bub{p:Array Nat}(h:Ord N p)(i j:Nat):Ord N (bubble p i j):=⟨(bubble_perm _ _ _).trans h.perm⟩
theorem sS(p:Array Nat)(i:Nat):p.getD i 0=(p[i]?).getD 0:=by simp
theorem Cm{p:Array Nat}{i j:Nat}(hj:j<=p.size)(k:Nat):KN key (kas_rev p i j) k=if i<=k/\k<j then KN key p (i+j-1-k)else KN key p k:=by
 have e:=getElem?_mirror_all (i:=i) hj k;unfold KN kas_rev;rw[sS,e];split
 ·rw[sS]
 ·rw[sS]
theorem Wz{p:Array Nat}{i j:Nat}(hj:j<=p.size)(heq:∀k,i<=k->k<j->KN key p k=KN key p (j-1))(k:Nat):KN key (kas_rev p i j) k=KN key p k:=by
 rw[Cm hj];split
 ·rename_i h;rw[heq k h.1 h.2,heq _ (by omega) (by omega)]
 ·rfl
theorem Ls{p:Array Nat}{src d:Nat}(hs:src<p.size)(hd:d<=src)(k:Nat):KN key (bubble p src d) k=if k=src-d then KN key p src else if src-d<k/\k<=src then KN key p (k-1)else KN key p k:=by
 have e:=getElem?_bubble hs d hd k;have q:KN key (bubble p src d) k=key (((bubble p src d)[k]?).getD 0):=gq key (sS _ _);have q2:∀i,KN key p i=key ((p[i]?).getD 0):=fun i=>gq key (sS _ _);rw[q,e,q2,q2,q2];by_cases h1:k=src-d
 ·rw[aA h1,aA h1]
 ·rw[aq h1,aq h1];by_cases h2:src-d<k/\k<=src
  ·rw[aA h2,aA h2]
  ·rw[aq h2,aq h2]
theorem Ea{i j:Nat}(h:i<=j)(hn:¬i=j):i<=j-1:=ydz (QH h hn)
theorem Bv{j n:Nat}(h:j<n+1)(hn:¬j<n):j=n:=QF (QG h) (Nat.not_lt.mp hn)
theorem ju{x k:Nat}(h:1<=x)(hk:x<=k):x-1<k:=Xj h hk
theorem Bm{x f N:Nat}(h:x+(f+1)<=N):x<N:=iT (Nat.lt_add_of_pos_right (wR f)) h
theorem nO{x f N:Nat}(h:x+(f+1)<=N):x+1+f<=N:=eN (CK (ydj x f)) h
theorem QW{x f m:Nat}(h:m<=x+1+f):m<=x+(f+1):=eN h (CK (ydj x f))
theorem S6{i j n:Nat}(h:i<=j):0+n-1-j<=0+n-1-i:=Nat.sub_le_sub_left h _
theorem SX{i n:Nat}(h:i<n):0+n-1-i<n:=by
 rw[wff];exact Hr (wfq _ _) (Xj (Hr (dw _) h) (aN _))
theorem asc(ok:iR O key N cmp s){p:Array Nat}(hp:Ord N p){Q:Nat->η->Prop}:∀(f n:Nat),1<=n->n+f<=N->So key p n->(∀m,n<=m->m<=n+f->So key p m->(m=n+f\/O.klt (KN key p m) (KN key p (m-1)))->Q m s)->(kas_asc p f n).kasWp cmp Q s
 |0,n,_,_,hs,h=>h n (aN _) (aN _) hs (.inl rfl)
 |f+1,n,h1,hn,hs,h=>by
  have Uv:n<N:=Bm hn;refine ok _ _ _ (hp.lt Uv) (hp.lt (ju h1 (dH Uv))) ?_;cases hless:O.blt (key (p.getD n 0)) (key (p.getD (n-1) 0))with
  |true=>
   show Q n s;exact h n (aN _) (WX _ _) hs (.inr hless)
  |false=>
   show(kas_asc p f (n+1)).kasWp cmp Q s;refine asc ok hp f (n+1) (wR _) (nO hn) (fun i j hij hj=> ?_) fun m a b c d=>h m (wed a) (QW b) c (d.imp (fun z=>z.trans (ydj n f)) id);by_cases hjn:j<n
   ·exact hs i j hij hjn
   ·have hj':j=n:=Bv hj hjn;subst hj';by_cases hi':i=j
    ·subst hi';exact M7 _
    ·exact wcx (hs i (j-1) (Ea hij hi') (ju h1 (aN _))) hless
theorem tail3(ok:iR O key N cmp s){p:Array Nat}(hp:Ord N p){n:Nat}{Q:Nat×Array Nat->η->Prop}(h1:1<=n)(hn:n<=N)(hs:Ni key p n)(h:∀m p',Ord N p'->1<=m->m<=N->So key p' m->Q (m,p') s):(kas_tail3 n N p).kasWp cmp Q s:=by
 unfold kas_tail3;rw[Xu];have hsz:n<=p.size:=by rw[hp.size];exact hn
 have hN:n+(N-n)=N:=wdk hn;refine asc ok (hp.rev 0 n) (N-n) n h1 (CK hN) (fun i j hij hj=> ?_) fun m a b c _=>h m _ (hp.rev 0 n) (eN h1 a) (eN b (CK hN)) c;rw[Cm hsz,Cm hsz,aA ⟨dw _,Hr hij hj⟩,aA ⟨dw _,hj⟩];exact hs _ _ (S6 hij) (SX (Hr hij hj))
theorem Ld{p p':Array Nat}{x:Nat}(h1:1<=x)(hs:Ni key p x)(hless:O.kle (KN key p x) (KN key p (x-1)))(hk:∀k,KN key p' k=KN key p k):Ni key p' (x+1):=by
 intro i j hij hj;rw[hk,hk];by_cases hjx:j<x
 ·exact hs i j hij hjx
 ·have hj':j=x:=Bv hj hjx;subst hj';by_cases hi':i=j
  ·subst hi';exact M7 _
  ·exact wcx hless (hs i (j-1) (Ea hij hi') (ju h1 (aN _)))
theorem one_eq{p:Array Nat}{x i:Nat}(h1:x+1-(0+1)<=i)(h2:i<x+1):KN key p i=KN key p (x+1-1):=gq _ (QF (QG h2) h1)
theorem desc(ok:iR O key N cmp s){Q:Array Nat×Nat×Nat->η->Prop}:∀(f:Nat) (p:Array Nat) (x neq:Nat),Ord N p->1<=x->x+f<=N->Ni key p x->neq+1<=x->(∀i,x-(neq+1)<=i->i<x->KN key p i=KN key p (x-1))->
  (∀p' m q,Ord N p'->x<=m->m<=x+f->Ni key p' m->q+1<=m->(∀i,m-(q+1)<=i->i<m->KN key p' i=KN key p' (m-1))->Q (p',m,q) s)->(kas_desc f p x neq).kasWp cmp Q s
 |0,p,x,neq,hp,_,_,hs,hq,he,h=>h p x neq hp (aN _) (aN _) hs hq he
 |f+1,p,x,neq,hp,h1,hn,hs,hq,he,h=>by
  have hxN:x<N:=Bm hn;have hsz:x<=p.size:=by rw[hp.size];exact dH hxN
  have hx1:x-1<N:=ju h1 (dH hxN);have hh:∀p' m q,Ord N p'->x+1<=m->m<=x+1+f->Ni key p' m->q+1<=m->(∀i,m-(q+1)<=i->i<m->KN key p' i=KN key p' (m-1))->Q (p',m,q) s:=fun p' m q a b c d e g=>h p' m q a (wed b) (QW c) d e g;refine ok _ _ _ (hp.lt hxN) (hp.lt hx1) ?_;cases hless:O.blt (key (p.getD x 0)) (key (p.getD (x-1) 0))with
  |true=>
   show(if neq>0 then kas_desc f (kas_rev p (x-(neq+1)) x) (x+1) 0 else kas_desc f p (x+1) 0).kasWp cmp Q s;by_cases hneq:neq>0
   ·rw[aA hneq];exact desc ok f _ (x+1) 0 (hp.rev _ _) (wR _) (nO hn) (Ld h1 hs (Xv hless) (Wz hsz he)) (wR _) (fun i h1 h2=>one_eq h1 h2) hh
   ·rw[aq hneq];exact desc ok f _ (x+1) 0 hp (wR _) (nO hn) (Ld h1 hs (Xv hless) fun _=>rfl) (wR _) (fun i h1 h2=>one_eq h1 h2) hh
  |false=>
   show(KasT.ask (p.getD (x-1) 0) (p.getD x 0) fun d=>if d=true then KasT.ret (p,x,neq)else kas_desc f p (x+1) (neq+1)).kasWp cmp Q s;refine ok _ _ _ (hp.lt hx1) (hp.lt hxN) ?_;cases hl:O.blt (key (p.getD (x-1) 0)) (key (p.getD x 0))with
   |true=>exact h p x neq hp (aN _) (WX _ _) hs hq he
   |false=>
    show(kas_desc f p (x+1) (neq+1)).kasWp cmp Q s;have heqx:KN key p x=KN key p (x-1):=KeyOrd.kle_antisymm hl hless;refine desc ok f _ (x+1) (neq+1) hp (wR _) (nO hn) (Ld h1 hs (by rw[heqx];exact M7 _) fun _=>rfl) (Nat.succ_le_succ hq) (fun i h1 h2=> ?_) hh;show KN key p i=KN key p x;by_cases hix:i=x
    ·subst hix;rfl
    ·rw[heqx];exact he i (eN (CK (Nat.succ_sub_succ x (neq+1)).symm) h1) (QH (QG h2) hix)
theorem descPart(ok:iR O key N cmp s){p:Array Nat}(hp:Ord N p){n:Nat}{Q:Nat×Array Nat->η->Prop}(hn:n+1<=N)(hs:Ni key p (n+1))(h:∀m p',Ord N p'->1<=m->m<=N->So key p' m->Q (m,p') s):(kas_descPart n N p).kasWp cmp Q s:=by
 unfold kas_descPart;rw[Xu];have hN:n+1+(N-(n+1))<=N:=CK (wdk hn);refine desc ok _ _ _ _ hp (wR _) hN hs (wR _) (fun i h1 h2=>one_eq h1 h2) fun p' m q a b c d e g=> ?_;have hm:m<=N:=eN c hN;have hm1:1<=m:=eN (wR _) b;have hsz:m<=p'.size:=by rw[a.size];exact hm
 dsimp only;by_cases hq:q>0
 ·rw[aA hq];refine tail3 ok (a.rev _ _) hm1 hm (fun i j hij hj=> ?_) h;rw[Wz hsz g,Wz hsz g];exact d i j hij hj
 ·rw[aq hq];exact tail3 ok a hm1 hm d h
theorem count(ok:iR O key N cmp s){p:Array Nat}(hp:Ord N p){Q:Nat×Array Nat->η->Prop}(h1:1<=N)(h:∀m p',Ord N p'->1<=m->m<=N->So key p' m->Q (m,p') s):(kas_count N p).kasWp cmp Q s:=by
 unfold kas_count;rw[Xu];have hN:1+(N-1)=N:=wdk h1;refine asc ok hp (N-1) 1 (aN _) (CK hN) (fun i j hij hj=>by
  have hj0:j=0:=Nat.lt_one_iff.mp hj;subst hj0;have hi0:i=0:=Nat.le_zero.mp hij;subst hi0;exact M7 _) fun n a b hsn hor=> ?_
 have Uv:n<=N:=eN b (CK hN);by_cases hnn:n=N
 ·rw[aA (by simpa using hnn)];exact h n p hp a Uv hsn
 ·rw[aq (by simpa using hnn)];have hlt:O.klt (KN key p n) (KN key p (n-1)):=hor.resolve_left fun z=>hnn (z.trans hN);have Pn:n<N:=QH Uv hnn;by_cases hgt:n>1
  ·rw[aA hgt];have hn1:n-1<n:=ju a (aN _);refine ok _ _ _ (hp.lt h1) (hp.lt (MK hn1 Pn)) ?_;cases hrose:O.blt (key (p.getD 0 0)) (key (p.getD (n-1) 0))with
   |true=>exact h n p hp a Uv hsn
   |false=>
    show(kas_descPart n N (kas_rev p 0 n)).kasWp cmp Q s;have hsz:n<=p.size:=by rw[hp.size];exact Uv
    have hall:∀k,0<=k->k<n->KN key p k=KN key p (n-1):=fun k _ hk=>
     KeyOrd.kle_antisymm (hsn k (n-1) (ydz hk) hn1) (wcx hrose (hsn 0 k (dw _) hk))
    refine descPart ok (hp.rev 0 n) Pn (fun i j hij hj=> ?_) h;rw[Wz hsz hall,Wz hsz hall];by_cases hjn:j<n
    ·rw[hall i (dw _) (Hr hij hjn),hall j (dw _) hjn];exact M7 _
    ·have hj':j=n:=Bv hj hjn;subst hj';by_cases hi':i=j
     ·subst hi';exact M7 _
     ·rw[hall i (dw _) (QH hij hi')];exact Xv hlt
  ·rw[aq hgt];have hn1':n=1:=QF (Nat.not_lt.mp hgt) a;subst hn1';refine descPart ok hp Pn (fun i j hij hj=> ?_) h;by_cases hi':i=j
   ·subst hi';exact M7 _
   ·have hij':i<j:=QH hij hi';have hj1:j=1:=QF (QG hj) (Hr (dw i) hij');subst hj1;have hi0:i=0:=Nat.lt_one_iff.mp hij';subst hi0;exact Xv hlt
theorem half_lt{l r:Nat}(h:l<r):(l+r)/2<r:=by omega
theorem Pq{l r:Nat}(h:l<r):l<=(l+r)/2:=by omega
theorem place(ok:iR O key N cmp s){p:Array Nat}(hp:Ord N p){k:Nat}{Q:Nat->η->Prop}(hk:k<N)(hs:So key p k):∀(f l r:Nat),l<=r->r<=k->r-l<=f->(∀i,i<l->O.kle (KN key p i) (KN key p k))->(∀i,r<=i->i<k->O.klt (KN key p k) (KN key p i))->
  (∀l,l<=k->(∀i,i<l->O.kle (KN key p i) (KN key p k))->(∀i,l<=i->i<k->O.klt (KN key p k) (KN key p i))->Q l s)->(kas_place p k f l r).kasWp cmp Q s
 |0,l,r,hlr,hrk,hm,hlo,hhi,h=>by
  have e:l=r:=QF hlr (Nat.sub_eq_zero_iff_le.mp (Nat.le_zero.mp hm));subst e;exact h l hrk hlo hhi
 |f+1,l,r,hlr,hrk,hm,hlo,hhi,h=>by
  show(if l≥r then KasT.ret l else KasT.ask (p.getD k 0) (p.getD ((l+r)/2) 0) fun c=>if c=true then kas_place p k f l ((l+r)/2)else kas_place p k f ((l+r)/2+1) r).kasWp cmp Q s;by_cases hge:l≥r
  ·rw[aA hge];have e:l=r:=QF hlr hge;subst e;exact h l hrk hlo hhi
  ·rw[aq hge];have hc:(l+r)/2<r:=half_lt (Nat.not_le.mp hge);have hd:l<=(l+r)/2:=Pq (Nat.not_le.mp hge);generalize (l+r)/2=c at hc hd⊢;refine ok _ _ _ (hp.lt hk) (hp.lt (MK (iT hc hrk) hk)) ?_;cases hless:O.blt (key (p.getD k 0)) (key (p.getD c 0))with
   |true=>
    refine place ok hp hk hs f l c hd (dH (iT hc hrk)) (QG (iT (Nat.sub_lt_sub_right hd hc) hm)) hlo (fun i h1 h2=> ?_) h;by_cases hi:i=c
    ·subst hi;exact hless
    ·exact KeyOrd.klt_of_klt_of_kle hless (hs c i h1 h2)
   |false=>
    refine place ok hp hk hs f (c+1) r hc hrk (QG (iT (Nat.sub_lt_sub_left (Hr hd hc) (Nat.lt_succ_of_le hd)) hm)) (fun i h1=> ?_) hhi h;by_cases hi:i=c
    ·subst hi;exact hless
    ·exact wcx (hs i c (QG h1) (iT hc hrk)) hless
theorem ZL{p:Array Nat}{k l:Nat}(hs:So key p k)(hl:l<=k)(hsz:k<p.size)(hlo:∀i,i<l->O.kle (KN key p i) (KN key p k))(hhi:∀i,l<=i->i<k->O.klt (KN key p k) (KN key p i)):So key (bubble p k (k-l)) (k+1):=by
 intro i j hij hj;have e:k-(k-l)=l:=Nat.sub_sub_self hl;rw[Ls hsz (wfq _ _),Ls hsz (wfq _ _),e];have hjk:j<=k:=QG hj;by_cases hi1:i=l
 ·rw[aA hi1];by_cases hj1:j=l
  ·rw[aA hj1];exact M7 _
  ·have lj:l<j:=QH (hi1▸hij) (jU hj1);rw[aq hj1,aA ⟨lj,hjk⟩];exact Xv (hhi (j-1) (ydz lj) (Xj (Hr (dw _) lj) hjk))
 ·rw[aq hi1];by_cases hi2:l<i/\i<=k
  ·have lj:l<j:=iT hi2.1 hij;rw[aA hi2,aq (jU (fM lj)),aA ⟨lj,hjk⟩];exact hs _ _ (Nat.sub_le_sub_right hij 1) (Xj (Hr (dw _) lj) hjk)
  ·rw[aq hi2];have il:i<l:=QH (Nat.not_lt.mp fun z=>hi2 ⟨z,eN hij hjk⟩) hi1;by_cases hj1:j=l
   ·rw[aA hj1];exact hlo i il
   ·rw[aq hj1];by_cases hj2:l<j/\j<=k
    ·rw[aA hj2];exact hs _ _ (ydz (MK il hj2.1)) (Xj (Hr (dw _) hj2.1) hjk)
    ·rw[aq hj2];exact hs _ _ hij (iT (QH (Nat.not_lt.mp fun z=>hj2 ⟨z,hjk⟩) hj1) hl)
theorem bins(ok:iR O key N cmp s){Q:Array Nat->η->Prop}:∀(f:Nat) (p:Array Nat) (k:Nat),Ord N p->1<=k->k+f=N->So key p k->(∀p',Ord N p'->So key p' N->Q p' s)->(kas_bin f p k).kasWp cmp Q s
 |0,p,k,hp,_,hf,hs,h=>h p hp ((show k=N from hf)▸hs)
 |f+1,p,k,hp,h1,hf,hs,h=>by
  show((kas_place p k k 0 k).bind fun l=>kas_bin f (bubble p k (k-l)) (k+1)).kasWp cmp Q s;rw[Xu];have hk:k<N:=Bm (CK hf);have hsz:k<p.size:=by rw[hp.size];exact hk
  refine place ok hp hk hs k 0 k (dw _) (aN _) (wfq _ _) (fun i hi=>absurd hi (QD _)) (fun i h1 h2=>absurd h2 (Nat.not_lt.mpr h1)) fun l hl hlo hhi=> ?_;exact bins ok f _ (k+1) (hp.bub _ _) (wR _) ((ydj k f).trans hf) (ZL hs hl hsz hlo hhi) h
theorem sort(ok:iR O key N cmp s){Q:Array Nat->η->Prop}(h1:1<=N)(h:∀p',Ord N p'->So key p' N->Q p' s):(kas_sort N).kasWp cmp Q s:=by
 unfold kas_sort;rw[Xu];refine count ok ⟨Array.Perm.refl _⟩ h1 fun m p' hp hm1 hm2 hs=> ?_;dsimp only;by_cases hlt:m<N
 ·rw[aA hlt];have e:max m 1=m:=by omega
  rw[e];exact bins ok _ _ _ hp hm1 (by omega) hs h
 ·rw[aq hlt];have e:m=N:=by omega
  subst e;exact h p' hp hs
end
end nJ
namespace nJ
open PySem PySem.W PyProof.Rows PySem.Calls
noncomputable def GR{O:KeyOrd}(key:Nat->O.α)(vs out:List ζ):Prop:=∃p:Array Nat,Ord vs.length p/\So key p vs.length/\out=p.toList.map fun i=>vs.getD i Value.none
section
variable{prog:ξ}{w:τ}{A:υ}{E:L3}{s:η}{O:KeyOrd}{key:Nat->O.α}{κ:SortKind}{vs:List ζ}
theorem Bc(h2:vs.length<2):GR key vs vs:=by
 refine⟨List.toArray (List.range vs.length),⟨Array.Perm.refl _⟩,fun i j hij hj=> ?_,?_⟩
 ·have e:i=j:=by omega
  subst e;exact M7 _
 ·match vs,h2 with
  |[],_=>rfl
  |[v],_=>rfl
  |_::_::_,h=>simp at h;omega
theorem jV{a:Addr}{n:Nat}{P:PySem.Fin->η->Prop}(ho:s.heap.get? a=some (seqObj "list" vs.toArray n))(h64:vs.length<64)(hkind:2<=vs.length->∀h',(∀b o,b≠a->s.heap.get? b=some o->h'.get? b=some o)->∀Q:SortKind->η->Prop,Q κ {s with heap:=h'}->wpAny (model prog w) A (keyKind' vs.toArray) Q E {s with heap:=h'})(Ku:2<=vs.length->∀h',(∀b o,b≠a->s.heap.get? b=some o->h'.get? b=some o)->iR O key vs.length (kas_ask prog w A κ vs) {s with heap:=h'})(h:∀h' out c,GR key vs out->(∀b o,b≠a->s.heap.get? b=some o->h'.get? b=some o)->h'.get? a=some (seqObj "list" (List.toArray out) c)->P (.done (.ret .none)) {s with heap:=h'}):
  wpAny (model prog w) A (Builtin.«list.sort» ⟨[.ref a],[]⟩) P E s:=by
 have ha:a<s.heap.objs.size:=dX ho;have s1:=Ie s.heap a (Obj.mapSeq fun _=>(#[]:Array ζ));obtain⟨e1,ho1⟩:∃e1,(s.heap.update a (Obj.mapSeq fun _=>(#[]:Array ζ))).get? a=some (seqObj "list" #[] e1):=⟨_,M6 ho fun _=>#[]⟩;have keep:∀b o,b≠a->s.heap.get? b=some o->(((s.heap.update a (Obj.mapSeq fun _=>(#[]:Array ζ))).push (seqObj "tuple" vs.toArray 0)).push (seqObj "list" #[] 0)).get? b=some o:=fun b o hb e=>
  gP _ (gP _ ((s1.2 b hb).trans e))
 have ho6:(((s.heap.update a (Obj.mapSeq fun _=>(#[]:Array ζ))).push (seqObj "tuple" vs.toArray 0)).push (seqObj "list" #[] 0)).get? a=some (seqObj "list" #[] e1):=gP _ (gP _ ho1);rw[list_sort_plain];refine aM (listItems_at ho rfl ?_);refine aM (wer ho rfl ?_ (by rw[fH,eX];omega) (dw _));refine aM (seqEpoch_at ho1 rfl ?_);refine aM (wpAny_newTuple ?_ (by show vs.length<=_;rw[eX];omega));refine aM (VL ?_ (dw _));refine CQ ?_;show wpAny (model prog w) A _ P E {s with heap:=((s.heap.update a (Obj.mapSeq fun _=>(#[]:Array ζ))).push (seqObj "tuple" vs.toArray 0)).push (seqObj "list" #[] 0)};dsimp only;by_cases h2:vs.toArray.size<2
 ·have h2':vs.length<2:=by simpa using h2
  rw[aA h2,aA h2];refine aM (cO ?_);rw[StateT.run_pure];refine aM (cO ?_);dsimp only;refine aM (seqEpoch_at ho6 rfl ?_);refine aM (wer ho6 rfl ?_ (dw _) (by rw[Array.size_map];show(pairsOf vs).size<=_;rw[pairsOf_size,eX];omega));simp only[bne_self_eq_false,V1,QS];refine cO ?_;have eo:(vs.toArray.zip vs.toArray).map (·.2)=List.toArray vs:=by
   apply Array.toList_inj.mp;simp[List.map_snd_zip]
  have s2:=Ie (((s.heap.update a (Obj.mapSeq fun _=>(#[]:Array ζ))).push (seqObj "tuple" vs.toArray 0)).push (seqObj "list" #[] 0)) a (Obj.mapSeq fun _=>List.toArray vs);obtain⟨c2,hc2⟩:∃c2,((((s.heap.update a (Obj.mapSeq fun _=>(#[]:Array ζ))).push (seqObj "tuple" vs.toArray 0)).push (seqObj "list" #[] 0)).update a (Obj.mapSeq fun _=>List.toArray vs)).get? a=some (seqObj "list" (List.toArray vs) c2):=⟨_,M6 ho6 fun _=>List.toArray vs⟩;have fin:=h _ vs c2 (Bc h2') (fun b o hb e=>(s2.2 b hb).trans (keep b o hb e)) hc2
  first
   |exact fin
   |(rw[<-eo]at fin;exact fin)
   |(show P _ {s with heap:=Heap.update _ a (Obj.mapSeq fun _=>(vs.toArray.zip vs.toArray).map (·.2))};rw[eo];exact fin)
 ·have h2':2<=vs.length:=by rw[fH]at h2;omega
  rw[aq h2,aq h2];refine aM (hkind h2' _ keep _ ?_);refine aM (Mi (kat_run (Q:=fun st' s'=>s'={s with heap:=((s.heap.update a (Obj.mapSeq fun _=>(#[]:Array ζ))).push (seqObj "tuple" vs.toArray 0)).push (seqObj "list" #[] 0)}/\∃p:Array Nat,p.size=vs.length/\arrOf st'=p.map (kas_item (vs.toArray.zip vs.toArray))/\failedOf st'=none/\Ord vs.length p/\So key p vs.length)
   (G:=fun p s'=>s'={s with heap:=((s.heap.update a (Obj.mapSeq fun _=>(#[]:Array ζ))).push (seqObj "tuple" vs.toArray 0)).push (seqObj "list" #[] 0)}/\Ord vs.length p/\So key p vs.length)
   rfl h2' h64 (fun p' st' s' a1 a2 a3 a4=>⟨a4.1,p',a1,a2,a3,a4.2.1,a4.2.2⟩) (sort (Ku h2' _ keep) (by omega) fun p' hp hs=>⟨rfl,hp,hs⟩)) ?_ fun _ _ e=>e)
  rintro⟨⟨⟩,st'⟩ s' ⟨rfl,p,hp,har,hf,hor,hso⟩;dsimp only;have hout:=kat_snds rfl har;have hsz:(List.toArray (p.toList.map fun i=>vs.getD i Value.none)).size=vs.length:=by rw[fH,aG,QJ,hp]
  rw[hout];refine aM (seqEpoch_at ho6 rfl ?_);refine aM (wer ho6 rfl ?_ (dw _) (eN (CK hsz) (by rw[eX];omega)));rw[hf];simp only[bne_self_eq_false,V1,QS];have s2:=Ie (((s.heap.update a (Obj.mapSeq fun _=>(#[]:Array ζ))).push (seqObj "tuple" vs.toArray 0)).push (seqObj "list" #[] 0)) a (Obj.mapSeq fun _=>List.toArray (p.toList.map fun i=>vs.getD i Value.none));obtain⟨c2,hc2⟩:∃c2,((((s.heap.update a (Obj.mapSeq fun _=>(#[]:Array ζ))).push (seqObj "tuple" vs.toArray 0)).push (seqObj "list" #[] 0)).update a (Obj.mapSeq fun _=>List.toArray (p.toList.map fun i=>vs.getD i Value.none))).get? a=some (seqObj "list" (List.toArray (p.toList.map fun i=>vs.getD i Value.none)) c2):=⟨_,M6 ho6 fun _=>_⟩;exact cO (h _ _ c2 ⟨p,hor,hso,rfl⟩ (fun b o hb e=>(s2.2 b hb).trans (keep b o hb e)) hc2)
theorem kJ{l:Addr}{Q:L3}(hl:s.heap.IsList l vs.toArray)(h64:vs.length<64)(hkind:2<=vs.length->∀h',(∀b o,s.heap.get? b=some o->h'.get? b=some o)->∀(E:L3) (Q:SortKind->η->Prop),Q κ {s with heap:=h'}->wpAny (model prog w) A.in1.in1 (keyKind' vs.toArray) Q E {s with heap:=h'})(Ku:2<=vs.length->∀h',(∀b o,s.heap.get? b=some o->h'.get? b=some o)->iR O key vs.length (kas_ask prog w A.in1.in1 κ vs) {s with heap:=h'})(h:∀D h' out c,GR key vs out->s.heap.objs.size<=D->(∀b o,s.heap.get? b=some o->h'.get? b=some o)->h'.get? D=some (seqObj "list" (List.toArray out) c)->Q (.ref D) {s with heap:=h'}):
  wpAny (model prog w) A (call (.builtin "sorted") [.ref l]) Q E s:=by
 refine Calls.call_function_entry kind_sorted plain_sorted entry_sorted (args_sorted1 _) ?_;unfold Builtin.«sorted»;refine aM (m:=checkCount "sorted" 1 1 _) (cO ?_);refine aM (collect_list hl ?_ (by rw[eX];omega));refine aM (VL ?_ (by rw[eX];omega));have hsz:((s.heap.push (seqObj "list" #[] 0)).update s.heap.objs.size (Obj.mapSeq (· ++vs.toArray))).objs.size=s.heap.objs.size+1:=by
  rw[Heap.size_update,size_push']
 have hoL:(((s.heap.push (seqObj "list" #[] 0)).update s.heap.objs.size (Obj.mapSeq (· ++vs.toArray))).push (seqObj "list" vs.toArray 0)).get? (s.heap.objs.size+1)=some (seqObj "list" vs.toArray 0):=by
  rw[<-hsz];exact j7 _ rfl
 have keep:∀b o,s.heap.get? b=some o->(((s.heap.push (seqObj "list" #[] 0)).update s.heap.objs.size (Obj.mapSeq (· ++vs.toArray))).push (seqObj "list" vs.toArray 0)).get? b=some o:=fun b o q=>by
  have hlt:b<s.heap.objs.size:=dX q;rw[wcm _ _ _ (by rw[hsz];exact fM (qU hlt)),Heap.get?_update_ne _ _ _ _ (fM hlt),wcm _ _ _ (fM hlt)];exact q
 have ne:∀b o,s.heap.get? b=some o->b≠s.heap.objs.size+1:=fun b o q=>fM (qU (dX q));show wpAny _ _ _ _ _ {s with heap:=((s.heap.push (seqObj "list" #[] 0)).update s.heap.objs.size (Obj.mapSeq (· ++vs.toArray))).push (seqObj "list" vs.toArray 0)};rw[hsz];refine aM (CQ (VP slot_list_sort ⟨_,hoL,rfl⟩ entry_list_sort ?body (args_list_sort _)))
 case body=>
  refine jV (key:=key) (κ:=κ) (s:={s with heap:=((s.heap.push (seqObj "list" #[] 0)).update s.heap.objs.size (Obj.mapSeq (· ++vs.toArray))).push (seqObj "list" vs.toArray 0)}) hoL h64
   (fun h2 h' k Q hq=>hkind h2 h' (fun b o q=>k b o (ne b o q) (keep b o q)) _ Q hq) (fun h2 h' k=>Ku h2 h' fun b o q=>k b o (ne b o q) (keep b o q)) fun h' out c ho k hc=> ?_
  exact⟨_,rfl,cO ⟨_,rfl,h _ h' out c ho (Hl _) (fun b o q=>k b o (ne b o q) (keep b o q)) hc⟩⟩
end
end nJ
namespace HT
open PySem PyProof.Rows
theorem cC:∀(a b:List Int),lexLt a b=decide (a<b)
 |[],[]=>by simp[lexLt]
 |[],_::_=>by simp[lexLt]
 |_::_,[]=>by simp[lexLt]
 |x::xs,y::ys=>by
  rw[lexLt_cons,cC xs ys];by_cases e:x=y
  ·subst e;simp
  ·rw[aq e];by_cases l:x<y
   ·simp[l,ydr]
   ·have:¬(x::xs<y::ys):=by rw[ydr];simp[l,e]
    simp[l,this]
end HT
namespace nJ
open PySem PySem.W PyProof.Rows PySem.Calls
noncomputable def lexOrd:KeyOrd where
 α:=List Int
 blt a b:=decide (a<b)
 irrefl a:=by simpa using List.lt_irrefl a
 trans a b c h1 h2:=by simp only[wW]at *;exact List.lt_trans h1 h2
 negTrans a b c h:=by
  simp only[wW]at *;by_cases hab:a<b
  ·exact .inl hab
  ·exact .inr (List.lt_of_le_of_lt (List.not_lt.mp hab) h)
 total a b h1 h2:=by simp only[wbs]at *;exact List.le_antisymm (List.not_lt.mp h2) (List.not_lt.mp h1)
noncomputable def vX:KeyOrd where
 α:=Int
 blt a b:=decide (a<b)
 irrefl a:=by simp
 trans a b c h1 h2:=by simp only[wW]at *;omega
 negTrans a b c h:=by simp only[wW]at *;omega
 total a b h1 h2:=by simp only[wbs]at *;omega
section
variable{prog:ξ}{w:τ}{A:υ}{s:η}{Q:Bool->η->Prop}
theorem yF{na nb:Nat}{xs ys:List ζ}{ns ms:List Int}(i:Nat)(hx:IntsAre xs ns)(hy:IntsAre ys ms)(hl:ns.length+nb=ms.length+na)(h:Q (HT.lexLt ns ms) s):KatLex prog w A true (decide (na<nb)) Q (xs.zip ys) i s:=by
 induction hx generalizing ys ms i with
 |nil=>
  rw[List.zip_nil_left];refine kat_nil ?_;cases hy with
  |nil=>
   rw[HT.lexLt_nil_nil]at h;rw[fJ (by simp only[RK]at hl;omega)];exact h
  |cons c u hw=>
   rw[HT.lexLt_nil_cons]at h;rw[dB (by simp only[RK,pW]at hl;omega)];exact h
 |cons a t hv ih=>
  cases hy with
  |nil=>
   rw[List.zip_nil_right];refine kat_nil ?_;rw[HT.lexLt_cons_nil]at h;rw[fJ (by simp only[RK,pW]at hl;omega)];exact h
  |cons c u hw=>
   rw[wdt];rw[HT.lexLt_cons]at h;refine kat_cons (wpAny_eqBool_int ?_);refine kat_go (fun e=> ?_) fun e=> ?_
   ·have e':a=c:=by simpa using e
    rw[aA e']at h;exact kat_yes (ih (i+1) hw (by simp only[pW]at hl;omega) h)
   ·have e':a≠c:=by simpa using e
    rw[aq e']at h;refine kat_no ?_;cases i with
    |zero=>exact oneLt_int h
    |succ i=>exact kat_one _ _ (lt_int (show PySem.W.BoolBack Q (.bool (decide (a<c))) s from h))
end
theorem vH{O:KeyOrd}{key:Nat->O.α}{α:Type}{vs out:List ζ}{its:List α}{d:α}{f:α->O.α}{R:α->ζ->Prop}(hR:Paired R its vs)(hk:∀i (hi:i<its.length),key i=f its[i])(h:GR key vs out):
  ∃its':List α,its'.Perm its/\Paired R its' out/\its'.Pairwise fun x y=>O.kle (f x) (f y):=by
 obtain⟨p,hp,hs,rfl⟩:=h;have hl:=hR.length;have get:∀{l₁:List α} {l₂:List ζ} {i:Nat},Paired R l₁ l₂->(h:i<l₁.length)->∃v,l₂[i]? =some v/\R l₁[i] v:=by
  intro l₁ l₂ i q
  induction q generalizing i with
  |nil=>intro h;simp at h
  |cons r t ih=>
   intro h;cases i with
   |zero=>exact⟨_,rfl,r⟩
   |succ i=>
    obtain⟨v,e,rv⟩:=ih (i:=i) (by simpa using h);exact⟨v,by simpa using e,by simpa using rv⟩
 have hlt:∀i∈p.toList,i<its.length:=fun i hi=>by
  have:=(ydy.mp hp.perm).mem_iff.mp hi;rw[hl];simpa using this
 refine⟨p.toList.map fun i=>its.getD i d,?_,?_,?_⟩
 ·have q:=(ydy.mp hp.perm).map (fun i=>its.getD i d);refine q.trans ?_;have e:(List.toArray (List.range vs.length)).toList.map (fun i=>its.getD i d)=its:=by
   rw[<-hl];apply W0;intro i;simp only[cU];by_cases hi:i<its.length
   ·simp[hi]
   ·simp[hi]
  rw[e]
 ·have mk:∀l:List Nat,(∀i∈l,i<its.length)->Paired R (l.map fun i=>its.getD i d) (l.map fun i=>vs.getD i Value.none):=by
   intro l
   induction l with
   |nil=>intro _;exact .nil
   |cons i l ih=>
    intro hb;refine .cons ?_ (ih fun j hj=>hb j (dF _ hj));have hi:=hb i cV;obtain⟨v,e,r⟩:=get hR hi;have e1:its.getD i d=its[i]:=by simp[hi]
    have e2:vs.getD i Value.none=v:=by rw[iU,e];rfl
    show R (its.getD i d) (vs.getD i Value.none);rw[e1,e2];exact r
  exact mk _ hlt
 ·rw[List.pairwise_iff_getElem];intro i j hi hj hij;simp only[aG,QJ]at hi hj;simp only[List.getElem_map];have hsz:=hp.size;have q:=hs i j (by omega) (by omega);have e:∀k (hk':k<p.size),KN key p k=f (its.getD p.toList[k] d):=fun k hk'=>by
   have e1:p.getD k 0=p.toList[k]:=by simp[Array.getD,hk']
   have hb:=hlt p.toList[k] (zX _);have e2:its.getD p.toList[k] d=its[p.toList[k]]:=by simp only[iU,eO hb,Option.getD_some]
   unfold KN;rw[e1,e2];exact hk _ hb
  rw[e i hi,e j hj]at q;exact q
end nJ
namespace L2
open PySem PySem.Spec PyProof.Rows PySem.W
section
variable{X:Cx}
theorem mV:CallR X (.builtin "sorted") (fun xs H Q=>∃(a:Addr) (its:List (Addr×List Int)),xs=[.ref a]/\SqL X.K H a (its.map fun p=>V.ref p.1)/\(∀p∈its,SqT X.K H p.1 (p.2.map V.int)/\p.2≠[])/\its.length<64/\
  ∀(l:Addr) (its':List (Addr×List Int)),H l=none->its'.Perm its->its'.Pairwise (fun p q=>HT.lexLt q.2 p.2=false)->Q (.ref l) (upd H l (.lst (its'.map fun p=>V.ref p.1)))):=by
 intro pins s σ H xs us Q I r h;obtain⟨a,its,rfl,hS,hT,h64,q⟩:=h;obtain⟨u,rfl,ru⟩:=r.one;cases ru;obtain⟨vs,rv,pl,hz⟩:=I.list hS;have hlen:its.length=vs.length:=by have:=rv.length;simpa using this
 -- the values beside the tuples
 have pr:Paired (fun(p:Addr×List Int) (v:ζ)=>v= .ref p.1) its vs:=by
  have go:∀(l:List (Addr×List Int)) (us:List ζ),Vals (l.map fun p=>V.ref p.1) us->Paired (fun(p:Addr×List Int) (v:ζ)=>v= .ref p.1) l us:=by
   intro l
   induction l with
   |nil=>intro us h;cases h;exact .nil
   |cons p l ih=>
    intro us h;cases h with
    |cons r t=>exact .cons r (ih _ t)
  exact go its vs rv
 have tup:∀p∈its,∃(items:List ζ),IntsAre items p.2/\IsTup s.heap p.1 items.toArray:=fun p hp=>by
  obtain⟨its',r',t',_⟩:=I.tuple (hT p hp).1;exact⟨its',Vp r',t'⟩
 refine nJ.kJ (O:=nJ.lexOrd) (key:=fun i=>(its.getD i (0,[])).2) (κ:=tuples' true) (s:=s) pl.isList (by omega) (fun h2 h' k E' Q' hq=> ?_) (fun h2 h' k=> ?_) (fun D h' out c ho hD k hc=> ?_)
 ·have kt:∀(l:List (Addr×List Int)) (us:List ζ),Paired (fun(p:Addr×List Int) (v:ζ)=>v= .ref p.1) l us->(∀p∈l,p∈its)->∃fs:List ζ,KatTups h' us fs/\fs.length=us.length/\∀v∈fs,∃i t,v=Value.int i t:=by
   intro l us h
   induction h with
   |nil=>intro _;exact⟨[],trivial,rfl,fun _ hv=>nomatch hv⟩
   | @cons p v l us r t ih=>
    intro hs;obtain⟨fs,k1,k2,k3⟩:=ih fun p hp=>hs p (dF _ hp);obtain⟨items,hi,o,e,hc,n,hd⟩:=tup p (hs p cV);have hne:=(hT p (hs p cV)).2;obtain⟨pa,pn⟩:=p;dsimp only at hi hne e r;cases hi with
    |nil=>exact absurd rfl hne
    |cons i t hi'=>
     rw[r];refine⟨Value.int i t::fs,KatTups.cons (k _ _ e) hc hd (by simp) k1,by simp[k2],fun v hv=> ?_⟩;rcases cQ.mp hv with e|e
     ·exact⟨i,t,e⟩
     ·exact k3 v e
  obtain⟨fs,k1,k2,k3⟩:=kt its vs pr fun _ hp=>hp;refine kat_kind (s:={s with heap:=h'}) (T:= .type "int") k1 (by omega) (fun v hv=> ?_) (by rfl) hq;obtain⟨i,t,rfl⟩:=k3 v hv;exact fun A Q E s _ q=>cO q
 ·intro i j C hi hj hC;rw[<-hlen]at hi hj;have get:∀i (hi:i<its.length),vs.getD i Value.none= .ref its[i].1:=by
   have go:∀(l:List (Addr×List Int)) (us:List ζ),Paired (fun(p:Addr×List Int) (v:ζ)=>v= .ref p.1) l us->∀i (hi:i<l.length),us.getD i Value.none= .ref l[i].1:=by
    intro l us h
    induction h with
    |nil=>intro i hi;simp at hi
    |cons r t ih=>
     intro i hi;cases i with
     |zero=>exact r
     |succ i=>simpa using ih i (by simpa using hi)
   exact go its vs pr
  unfold kas_ask;rw[get i hi,get j hj];obtain⟨xi,hxi,oi,ei,ci,ni,di⟩:=tup its[i] (zX _);obtain⟨xj,Yz,oj,ej,cj,nj,dj⟩:=tup its[j] (zX _);refine kat_lt (s:={s with heap:=h'}) (k _ _ ei) di (k _ _ ej) dj ?_;refine nJ.yF 0 hxi Yz ?_ ?_
  ·have:=hxi.length;have:=Yz.length;simp only[fH];omega
  ·rw[HT.cC];have e1:its.getD i (0,[])=its[i]:=by simp[hi]
   have e2:its.getD j (0,[])=its[j]:=by simp[hj]
   have hC':C (decide ((its.getD i (0,[])).2<(its.getD j (0,[])).2)) {s with heap:=h'}:=hC;rw[e1,e2]at hC';exact hC'
 ·obtain⟨its',hp,hr,hw⟩:=nJ.vH (d:=((0,[]):Addr×List Int)) (f:=fun p=>p.2) pr (fun i hi=>by show(its.getD i (0,[])).2=_;simp[hi]) ho;have hn:H D=none:=I.hok.fresh hD;have rv':Vals (its'.map fun p=>V.ref p.1) out:=by
   have go:∀(l:List (Addr×List Int)) (us:List ζ),Paired (fun(p:Addr×List Int) (v:ζ)=>v= .ref p.1) l us->Vals (l.map fun p=>V.ref p.1) us:=by
    intro l us h
    induction h with
    |nil=>exact .nil
    |cons r t ih=>exact .cons r ih
   exact go its' out hr
  have zl:(its'.map fun p=>V.ref p.1).length<=sizeLine:=by
   have:=hp.length_eq;rw[aG];exact dH (small1000 (by omega))
  have J:Inv X pins σ (upd H D (.lst (its'.map fun p=>V.ref p.1))) {s with heap:=h',toks:=s.toks}:=I.laid k hD ⟨zl,out,c,rv',hc⟩;refine⟨.ref D,_,J,rfl,q D its' hn hp (hw.imp fun{x y} hxy=> ?_)⟩;rw[HT.cC];exact hxy
end
end L2
namespace L2
open PySem PySem.Spec PyProof.Rows
section
variable{X:Cx}
theorem zJ:∀{bs:List Bool} {us:List ζ},Vals (bs.map V.bl) us->us=bs.map Value.bool
 |[],_,h=>by cases h;rfl
 |b::bs,_,h=>by
  cases h with
  |cons r t=>rw[zW,zJ t];exact gq (· ::_) r
theorem eF(hc:X.calm=true):CallR X (.builtin "all") (fun xs H Q=>∃(a:Addr) (bs:List Bool),xs=[.ref a]/\SqL X.K H a (bs.map V.bl)/\Q (.bl (bs.all id)) H):=by
 intro pins s σ H xs us Q I r h;obtain⟨a,bs,rfl,hS,q⟩:=h;obtain⟨u,rfl,ru⟩:=r.one;cases ru;obtain⟨vs,rv,pl,hz⟩:=I.list hS;have hv:=zJ rv;have hl:=pl.isList;have hlt:a<s.heap.objs.size:=by obtain⟨_,e,_⟩:=hl;exact dX e
 refine call_all_walk (wcn hl ?_);refine⟨s.heap.objs.size,[s.heap.objs.size,a],[s.heap.objs.size],vs.toArray.size,_,_,fun i=>(bs[i]?).getD true,rfl,Walks.list (A:=X.A.in1) (I.ok.hd hc) _ a (fM hlt) vs.toArray,
  ⟨⟨_,j7 _ rfl,rfl,rfl⟩,hl.push _⟩,fun i v s' Q' E' hP hQ=> ?_,fun h' tk hk=> ?_⟩
 ·have hP':vs[i]? =some v:=by simpa using hP
  rw[hv,cU]at hP';cases e:bs[i]? with
  |none=>rw[e]at hP';cases hP'
  |some b=>
   rw[e]at hP';cases hP';simp only[e,Option.getD_some]at hQ;exact Ml hQ
 ·have e:((List.range vs.toArray.size).all fun i=>(bs[i]?).getD true)=bs.all id:=by
   rw[fH,hv,aG];exact LSm.range_all bs
  rw[e];exact⟨.bl _,H,I.kept (LSm.kept_iter hk),rfl,q⟩
noncomputable def RD(K:W.Frag)(H:Hp):V->String->Prop
 | .non,T=>T="NoneType"
 | .bl _,T=>T="bool"
 | .int _,T=>T="int"
 | .str _,T=>T="str"
 | .ref a,T=>(T="tuple"/\∃xs,SqT K H a xs)\/(T="list"/\∃xs,SqL K H a xs)\/(T="dict"/\∃kvs,H a=some (.dK kvs))
 |_,_=>False
noncomputable def Bq(T C:String):Bool:=T==C||(T=="bool"&&C=="int")
theorem gn:CallR X (.builtin "isinstance") (fun xs H Q=>∃(x:V) (T C:String),xs=[x,.ty C]/\RD X.K H x T/\(C="int"\/C="bool"\/C="tuple"\/C="list")/\Q (.bl (Bq T C)) H):=by
 intro pins s σ H xs us Q I r h;obtain⟨x,T,C,rfl,hk,hC,q⟩:=h;obtain⟨u,v,rfl,ru,rv⟩:=r.two;cases rv;have K3:∀b,b=Bq T C->EP X pins σ Q (.bool b) s:=fun b e=>⟨.bl b,H,I,rfl,by rw[e];exact q⟩;have gj:∀b,b=Bq T C->EP X pins σ Q (.bool b) {s with toks:=s.toks+1}:=fun b e=>⟨.bl b,H,I.tok _,rfl,by rw[e];exact q⟩;cases x with
 |non=>
  cases ru;cases hk;rcases hC with rfl|rfl|rfl|rfl
  ·exact IsiPair.NoneType_int (gj _ rfl)
  ·exact IsiPair.NoneType_bool (gj _ rfl)
  ·exact IsiPair.NoneType_tuple (gj _ rfl)
  ·exact IsiPair.NoneType_list (gj _ rfl)
 |bl b=>
  cases ru;cases hk;rcases hC with rfl|rfl|rfl|rfl
  ·exact IsiPair.bool_int (K3 _ rfl)
  ·exact IsiPair.bool_bool (K3 _ rfl)
  ·exact IsiPair.bool_tuple (gj _ rfl)
  ·exact IsiPair.bool_list (gj _ rfl)
 |int i=>
  obtain⟨t,rfl⟩:=ru;cases hk;rcases hC with rfl|rfl|rfl|rfl
  ·exact IsiPair.int_int (K3 _ rfl)
  ·exact IsiPair.int_bool (gj _ rfl)
  ·exact IsiPair.int_tuple (gj _ rfl)
  ·exact IsiPair.int_list (gj _ rfl)
 |str z=>
  obtain⟨t,rfl⟩:=ru;cases hk;rcases hC with rfl|rfl|rfl|rfl
  ·exact IsiPair.str_int (gj _ rfl)
  ·exact IsiPair.str_bool (gj _ rfl)
  ·exact IsiPair.str_tuple (gj _ rfl)
  ·exact IsiPair.str_list (gj _ rfl)
 |ref a=>
  cases ru;rcases hk with⟨rfl,xs,hS⟩|⟨rfl,xs,hS⟩|⟨rfl,kvs,hS⟩
  ·obtain⟨its,_,⟨o,e,c,n,d⟩,_⟩:=I.tuple hS;rcases hC with rfl|rfl|rfl|rfl
   ·exact IsiPair.tuple_int e c (gj _ rfl)
   ·exact IsiPair.tuple_bool e c (gj _ rfl)
   ·exact IsiPair.tuple_tuple e c (K3 _ rfl)
   ·exact IsiPair.tuple_list e c (gj _ rfl)
  ·obtain⟨its,_,⟨o,n,e,c,d,_⟩,_⟩:=I.list hS;rcases hC with rfl|rfl|rfl|rfl
   ·exact IsiPair.list_int e c (gj _ rfl)
   ·exact IsiPair.list_bool e c (gj _ rfl)
   ·exact IsiPair.list_tuple e c (gj _ rfl)
   ·exact IsiPair.list_list e c (K3 _ rfl)
  ·obtain⟨_,_,vs,_,o,es,ep,e,c,_⟩:=I.hok a _ hS;have c':o.cls= .type "dict":=c.1;rcases hC with rfl|rfl|rfl|rfl
   ·exact IsiPair.dict_int e c' (gj _ rfl)
   ·exact IsiPair.dict_bool e c' (gj _ rfl)
   ·exact IsiPair.dict_tuple e c' (gj _ rfl)
   ·exact IsiPair.dict_list e c' (gj _ rfl)
 |_=>exact hk.elim
end
mutual
inductive DV(K:W.Frag)(H:Hp):V->θ->Prop
 |non:DV K H .non .none
 |bl (b:Bool):DV K H (.bl b) (.bool b)
 |int (i:Int):DV K H (.int i) (.int i)
 |str (x:Str):DV K H (.str x) (.str x)
 |tup {a:Addr} {xs:List V} {ds:List θ} (h:SqT K H a xs) (t:bO K H xs ds):DV K H (.ref a) (.tuple ds)
 |lst {a:Addr} {xs:List V} {ds:List θ} (h:SqL K H a xs) (t:bO K H xs ds):DV K H (.ref a) (.list ds)
 |dc0 {a:Addr} (h:H a=some (.dK [])):DV K H (.ref a) (.dict [])
 |dc1 {a b:Addr} {i:Int} (h:H a=some (.dK [(Sum.inl i,.ref b)])) (t:SqT K H b []):DV K H (.ref a) (.dict [(.int i,.tuple [])])
inductive bO(K:W.Frag)(H:Hp):List V->List θ->Prop
 |nil:bO K H [] []
 |cons {x:V} {d:θ} {xs:List V} {ds:List θ} (h:DV K H x d) (t:bO K H xs ds):bO K H (x::xs) (d::ds)
end
theorem Same.tup{K:W.Frag}{H H':Hp}{a:Addr}{xs:List V}(e:Same H H')(h:SqT K H a xs):SqT K H' a xs:=by
 rcases h with(h|⟨o,h⟩)|h
 ·exact .inl (.inl (e _ _ h))
 ·exact .inl (.inr ⟨o,e _ _ h⟩)
 ·exact .inr h
theorem DV.same{K:W.Frag}{H H':Hp}(e:Same H H'){x:V}{d:θ}(h:DV K H x d):DV K H' x d:=
 DV.rec (motive_1:=fun x d _=>DV K H' x d) (motive_2:=fun xs ds _=>bO K H' xs ds) .non (fun b=> .bl b) (fun i=> .int i) (fun x=> .str x) (fun h _ t=> .tup (e.tup h) t) (fun h _ t=> .lst (e.seq h) t) (fun h=> .dc0 (e _ _ h)) (fun h t=> .dc1 (e _ _ h) (e.tup t)) .nil (fun _ _ h t=> .cons h t) h
theorem bO.same{K:W.Frag}{H H':Hp}(e:Same H H'){xs:List V}{ds:List θ}(h:bO K H xs ds):bO K H' xs ds:=
 bO.rec (motive_1:=fun x d _=>DV K H' x d) (motive_2:=fun xs ds _=>bO K H' xs ds) .non (fun b=> .bl b) (fun i=> .int i) (fun x=> .str x) (fun h _ t=> .tup (e.tup h) t) (fun h _ t=> .lst (e.seq h) t) (fun h=> .dc0 (e _ _ h)) (fun h t=> .dc1 (e _ _ h) (e.tup t)) .nil (fun _ _ h t=> .cons h t) h
theorem FQ{P:ξ}{w:τ}{es:List DictEntry}(h:Pairs (mixKind P w) es []):es=[]:=by
 cases h;rfl
theorem FN{P:ξ}{w:τ}{es:List DictEntry}{k:Key}{u:ζ}(h:Pairs (mixKind P w) es [(k,u)]):∃e,es=[e]/\keyIs k e.key=true/\e.val=u:=by
 cases h with
 |cons h1 h2 h3=>
  cases h3;exact⟨_,rfl,h1,h2⟩
section
variable{X:Cx}{pins:L1}{σ:St}{H:Hp}{s:η}
theorem Gv(I:Inv X pins σ H s){a:Addr}(h:H a=some (.dK [])):Reads s.heap (.ref a) (.dict []) (a::[]++[])/\(a==sysModules)=false:=by
 obtain⟨_,hne,vs,r0,o,es,ep,e,c,d,_,pr,_⟩:=I.hok _ _ h;cases r0;have hes:es.toList=[]:=FQ pr;refine⟨.dict (kvs:=[]) (as:=[]) (bs:=[]) e c.1 d ?_ ?_,hne⟩
 ·rw[hes];exact .nil
 ·rw[hes];exact .nil
theorem Gu(I:Inv X pins σ H s){a b:Addr}{i:Int}(h:H a=some (.dK [(Sum.inl i,.ref b)]))(t:SqT X.K H b []):Reads s.heap (.ref a) (.dict [(.int i,.tuple [])]) (a::([]++[])++([]++[]))/\(a==sysModules)=false:=by
 obtain⟨_,hne,vs,r0,o,es,ep,e,c,d,_,pr,_⟩:=I.hok _ _ h;obtain⟨its,rv,⟨o2,e2,c2,n2,d2⟩,_⟩:=I.tuple t;cases rv;cases r0 with
 | @cons p q ps qs hq tl=>
  cases tl;obtain⟨en,he,hk,hv⟩:=FN pr;obtain⟨k,u⟩:=q;dsimp only at hq;obtain⟨hk1,hu1⟩:=hq;subst hk1;cases hu1;obtain⟨tk,ek⟩:∃tk,en.key=Value.int i tk:=by
   rcases Mf hk with⟨i',t',e3,e4⟩|⟨x,t',e3,e4⟩
   ·cases e3;exact⟨t',e4⟩
   ·cases e3
  refine⟨.dict (kvs:=[(.int i,.tuple [])]) (as:=[]++[]) (bs:=[]++[]) e c.1 d ?_ ?_,hne⟩
  ·rw[he];show ReadsAll s.heap [en.key] [PyData.int i] _;rw[ek];exact .cons (.int i tk) .nil
  ·rw[he];show ReadsAll s.heap [en.val] [PyData.tuple []] _;rw[hv];exact .cons (.tuple e2 c2 d2 .nil) .nil
theorem Fw(I:Inv X pins σ H s){a:Addr}{xs:List V}{ds:List θ}(h:SqT X.K H a xs)(t:∀{us:List ζ},Vals xs us->∃as,ReadsAll s.heap us ds as){u:ζ}(r:RelV (.ref a) u):∃as,Reads s.heap u (.tuple ds) as:=by
 cases r;obtain⟨its,rv,⟨o,e,c,n,d⟩,_⟩:=I.tuple h;obtain⟨as,ra⟩:=t rv;exact⟨_,.tuple e c d (by simpa using ra)⟩
theorem Fx(I:Inv X pins σ H s){a:Addr}{xs:List V}{ds:List θ}(h:SqL X.K H a xs)(t:∀{us:List ζ},Vals xs us->∃as,ReadsAll s.heap us ds as){u:ζ}(r:RelV (.ref a) u):∃as,Reads s.heap u (.list ds) as:=by
 cases r;obtain⟨its,rv,⟨o,n,e,c,_,d⟩,_⟩:=I.list h;obtain⟨as,ra⟩:=t rv;exact⟨_,.list e c d (by simpa using ra)⟩
theorem DV.reads(I:Inv X pins σ H s){x:V}{d:θ}{u:ζ}(h:DV X.K H x d)(r:RelV x u):∃as,Reads s.heap u d as:=
 DV.rec (motive_1:=fun x d _=>∀{u:ζ},RelV x u->∃as,Reads s.heap u d as) (motive_2:=fun xs ds _=>∀{us:List ζ},Vals xs us->∃as,ReadsAll s.heap us ds as)
  (fun r=>by cases r;exact⟨_,.none⟩) (fun b _ r=>by cases r;exact⟨_,.bool b⟩) (fun i _ r=>by obtain⟨t,rfl⟩:=r;exact⟨_,.int i t⟩) (fun x _ r=>by obtain⟨t,rfl⟩:=r;exact⟨_,.str x t⟩)
  (fun h _ t _ r=>Fw I h t r) (fun h _ t _ r=>Fx I h t r) (fun h _ r=>by cases r;exact⟨_,(Gv I h).1⟩) (fun h t _ r=>by cases r;exact⟨_,(Gu I h t).1⟩)
  (fun r=>by cases r;exact⟨_,.nil⟩) (fun _ _ h t _ r=>by
   cases r with
   |cons r rr=>
    obtain⟨as,ra⟩:=h r;obtain⟨bs,rb⟩:=t rr;exact⟨_,.cons ra rb⟩) h r
theorem bO.reads(I:Inv X pins σ H s){xs:List V}{ds:List θ}{us:List ζ}(h:bO X.K H xs ds)(r:Vals xs us):∃as,ReadsAll s.heap us ds as:=
 bO.rec (motive_1:=fun _ _ _=>True) (motive_2:=fun xs ds _=>∀{us:List ζ},Vals xs us->∃as,ReadsAll s.heap us ds as) trivial (fun _=>trivial) (fun _=>trivial) (fun _=>trivial) (fun _ _ _=>trivial) (fun _ _ _=>trivial) (fun _=>trivial) (fun _ _=>trivial)
  (fun r=>by cases r;exact⟨_,.nil⟩) (fun h _ _ t _ r=>by
   cases r with
   |cons r rr=>
    obtain⟨as,ra⟩:=DV.reads I h r;obtain⟨bs,rb⟩:=t rr;exact⟨_,.cons ra rb⟩) h r
end
mutual
def noL:θ->Bool
 | .list _=>false
 | .tuple ds=>Yi ds
 |_=>true
def Yi:List θ->Bool
 |[]=>true
 |d::ds=>noL d&&Yi ds
end
theorem bO.ints{K:W.Frag}{H:Hp}:∀(ns:List Int),bO K H (ns.map V.int) (ns.map PyData.int)
 |[]=> .nil
 |n::ns=> .cons (.int n) (bO.ints ns)
theorem bO.len{K:W.Frag}{H:Hp}{xs:List V}{ds:List θ}(h:bO K H xs ds):xs.length=ds.length:=
 bO.rec (motive_1:=fun _ _ _=>True) (motive_2:=fun xs ds _=>xs.length=ds.length) trivial (fun _=>trivial) (fun _=>trivial) (fun _=>trivial) (fun _ _ _=>trivial) (fun _ _ _=>trivial) (fun _=>trivial) (fun _ _=>trivial) rfl (fun _ _ _ t=>gq Nat.succ t) h
section
variable{X:Cx}
theorem vI(hu:X.A.units+64<cLine):OpR X (compareOp .NotEq) (fun x y H Q=>∃da db,DV X.K H x da/\DV X.K H y db/\da.canLay0=true/\db.canLay0=true/\min da.depth db.depth<=64/\Q (.bl (!PyData.eqv da db)) H):=by
 intro pins s σ H x y v u Q I rx ry h;obtain⟨da,db,hx,hy,ca,cb,hd,q⟩:=h;obtain⟨as,ra⟩:=DV.reads I hx rx;obtain⟨bs,rb⟩:=DV.reads I hy ry;exact SeqAt.rcNeAt_reads ra rb ca cb (by omega) _ _ _ _ ⟨.bl _,H,I,rfl,q⟩
theorem Cj:∀{ds:List θ},PyData.canLayAll0 ds=true->∀d∈ds,d.canLay0=true
 |[],_,d,h=>nomatch h
 |e::ds,h,d,hd=>by
  have h':(e.canLay0&&PyData.canLayAll0 ds)=true:=h;rw[jg]at h';rcases cQ.mp hd with rfl|hd
  ·exact h'.1
  ·exact Cj h'.2 d hd
open Classical in
theorem nT(hu:X.A.units+64<cLine):OpR X (compareOp .In) (fun x y H Q=>∃(p:Addr) (xs:List V) (ds:List θ) (dx:θ),y= .ref p/\(SqL X.K H p xs\/SqT X.K H p xs)/\bO X.K H xs ds/\DV X.K H x dx/\PyData.canLayAll0 ds=true/\dx.canLay0=true/\dx.depth<=60/\
  Q (.bl (ds.any fun d=>PyData.eqv d dx)) H):=by
 intro pins s σ H x y v u Q I rx ry h;obtain⟨p,xs,ds,dx,rfl,hq,hds,hx,ca,cb,hd,q⟩:=h;cases ry;obtain⟨bs,rb⟩:=DV.reads I hx rx;have key:∀{its:List ζ},Vals xs its->(∀y∈its,SeqAt.EqAt X.A.in1 s y v (decide (∃d as,Reads s.heap y d as/\d∈ds/\PyData.eqv d dx=true)))/\(its.any fun y=>decide (∃d as,Reads s.heap y d as/\d∈ds/\PyData.eqv d dx=true))=ds.any fun d=>PyData.eqv d dx:=by
  intro its rv;obtain⟨as,ra⟩:=bO.reads I hds rv;have each:∀{us:List ζ} {es:List θ} {as:List Addr},ReadsAll s.heap us es as->(∀e∈es,e∈ds)->(∀y∈us,SeqAt.EqAt X.A.in1 s y v (decide (∃d as,Reads s.heap y d as/\d∈ds/\PyData.eqv d dx=true)))/\(us.any fun y=>decide (∃d as,Reads s.heap y d as/\d∈ds/\PyData.eqv d dx=true))=es.any fun d=>PyData.eqv d dx:=by
   intro us
   induction us with
   |nil=>intro es as h _;cases h;exact⟨(fun y hy=>(nomatch hy)),rfl⟩
   |cons y us ih=>
    intro es as h hs;cases h with
    | @cons _ _ d ds' as' bs' r rr=>
     obtain⟨i1,i2⟩:=ih rr fun e he=>hs e (dF _ he);have cl:=Cj ca d (hs d cV);have e:decide (∃d as,Reads s.heap y d as/\d∈ds/\PyData.eqv d dx=true)=PyData.eqv d dx:=by
      rw[pY,wW];constructor
      ·rintro⟨d',as'',r',_,q'⟩;obtain⟨rfl,_⟩:=(wdu r _ _ r');exact q'
      ·intro q';exact⟨d,_,r,hs d cV,q'⟩
     refine⟨fun z hz=> ?_,?_⟩
     ·rcases cQ.mp hz with rfl|hz
      ·rw[e];exact wev d dx _ s _ _ _ _ r rb cl cb (by show X.A.units+1+min d.depth dx.depth<cLine;omega)
      ·exact i1 z hz
     ·rw[Xr,Xr,i2,e]
  exact each ra fun e he=>he
 rcases hq with hq|hq
 ·obtain⟨its,r,pl,hz⟩:=I.list hq;obtain⟨k1,k2⟩:=key r;refine SeqAt.in_listAt _ pl.isList (fun w hw=>k1 w (by simpa using hw)) ⟨.bl _,H,I,rfl,?_⟩;rw[show∀f:ζ->Bool,its.toArray.any f=its.any f from fun f=>by simp,k2];exact q
 ·obtain⟨its,r,pl,hz⟩:=I.tuple hq;obtain⟨k1,k2⟩:=key r;refine SeqAt.in_tupleAt _ pl (fun w hw=>k1 w (by simpa using hw)) ⟨.bl _,H,I,rfl,?_⟩;rw[show∀f:ζ->Bool,its.toArray.any f=its.any f from fun f=>by simp,k2];exact q
theorem FW:OpR X (compareOp .IsNot) (fun x y H Q=>∃a b,x= .bl a/\y= .bl b/\Q (.bl (a !=b)) H):=by
 intro pins s σ H x y v u Q I rx ry h;obtain⟨a,b,rfl,rfl,q⟩:=h;cases rx;cases ry;exact isnot_bool ⟨.bl _,H,I,rfl,q⟩
theorem yh:OpR X (binaryOp .FloorDiv) (rI (fun _ j=>0<j/\j<1000000000000000000000000000000) fun i j=> .int (i/j)):=opI fun i j _ _ _ _ _ hc q=>by
 have h1:(0:Int)<j:=hc.1;have h2:j<1000000000000000000000000000000:=hc.2;refine floordiv_int (by omega) ?_ (Or.inl (wee ?_))
 ·rw[ydx _ (by omega)];exact q
 ·have h3:j.natAbs≠0:=by omega
  have h4:j.natAbs<2^100:=by
   have:(2:Nat)^100=1267650600228229401496703205376:=by decide
   omega
  have:=(Nat.log2_lt h3).mpr h4;omega
noncomputable def Rk(K:W.Frag):R2:=fun x y H Q=>∃a b xs ys,x= .ref a/\y= .ref b/\SqT K H a xs/\SqT K H b ys/\xs.length+ys.length<=sizeLine/\∀r H',Same H H'->SqT K H' r (xs++ys)->Q (.ref r) H'
theorem Oc:OpR X (binaryOp .Add) (Rk X.K):=by
 intro pins s σ H x y v u Q I rx ry h;obtain⟨a,b,xs,ys,rfl,rfl,ha,hb,hz,q⟩:=h;by_cases hx:xs=[]
 ·subst hx;cases rx;cases ry;obtain⟨its,r1,p1,_⟩:=I.tuple ha;obtain⟨its2,r2,p2,_⟩:=I.tuple hb;cases r1;obtain⟨⟨cls,dd,data,sl⟩,ho,hc,n,hd⟩:=id p1;obtain⟨⟨cls2,dd2,data2,sl2⟩,ho2,hc2,n2,hd2⟩:=id p2;simp only at hc hd hc2 hd2;subst hc hd hc2 hd2;exact wfd ⟨_,ho,rfl⟩ ⟨_,ho2,rfl⟩ wcw wep wbu wbr (wbp _ _)
   (tuple_addW0 a b _ _ n n2 dd dd2 sl sl2 (by simp)) ⟨ho,ho2,⟨.ref b,H,I,rfl,q b H (Same.refl _) hb⟩⟩
 ·refine op_catT pins s σ H _ _ v u Q I rx ry ⟨a,b,xs,ys,rfl,rfl,ha,hb,hx,hz,fun e=> ?_,fun e p hp=> ?_⟩
  ·subst e;exact q a H (Same.refl _) (by rw[tL];exact ha)
  ·exact q p _ (fun c o e=>by rw[cP (j5 e hp)];exact e) (SqT.of aJ)
end
section
variable{X:Cx}{tg:Expr}
noncomputable def Uu(K:W.Frag)(tl:TE):TI:=fun σ H R=>tl σ H fun x H1=>∃a xs,x= .ref a/\SqL K H1 a xs/\(xs.length<=sizeLine->R (Itl K a) H1)
noncomputable def Yx(K:W.Frag)(tl:TE):TI:=fun σ H R=>tl σ H fun x H1=>∃a xs,x= .ref a/\SqT K H1 a xs/\(xs.length<=sizeLine->R (Itt K a) H1)
theorem Mw{l:Expr}{tl:TE}(hl:PE X l tl):PI X tg l (Uu X.K tl):=by
 intro pins s σ H R I h;refine thn (hl pins s σ H _ I h) fun v s1 ⟨x,H1,I1,r1,q1⟩=> ?_;obtain⟨a,xs,e,hq,q⟩:=q1;subst e;cases r1;obtain⟨its,rv,p,hz⟩:=I1.list hq;refine wcn p.isList ?_;refine⟨s1.heap.objs.size,[s1.heap.objs.size],_,_,H1,rfl,I1.kept (t':=s1.toks) fun b o e=>gP _ e,turn_list a _,⟨_,j7 _ rfl,rfl,rfl⟩,fun b hb=> ?_,q hz⟩;have e:b=s1.heap.objs.size:=by simpa using hb
 subst e;exact I1.fpOk (aN _) (I1.hok.fresh (aN _))
theorem Cy{l:Expr}{tl:TE}(hl:PE X l tl):PI X tg l (Yx X.K tl):=by
 intro pins s σ H R I h;refine thn (hl pins s σ H _ I h) fun v s1 ⟨x,H1,I1,r1,q1⟩=> ?_;obtain⟨a,xs,e,hq,q⟩:=q1;subst e;cases r1;obtain⟨its,rv,p,hz⟩:=I1.tuple hq;refine Xw (show s1.heap.IsTuple a its.toArray from p) ?_;refine⟨s1.heap.objs.size,[s1.heap.objs.size],_,_,H1,rfl,I1.kept (t':=s1.toks) fun b o e=>gP _ e,turn_tuple a _,⟨_,j7 _ rfl,rfl,rfl⟩,fun b hb=> ?_,q hz⟩;have e:b=s1.heap.objs.size:=by simpa using hb
 subst e;exact I1.fpOk (aN _) (I1.hok.fresh (aN _))
theorem lR:CallR X (.builtin "len") (fun xs H Q=>∃p ys,xs=[.ref p]/\(SqL X.K H p ys\/SqT X.K H p ys)/\(ys.length<=16777216->Q (.int ys.length) H)):=by
 intro pins s σ H xs us Q I r h;obtain⟨p,ys,rfl,hq,q⟩:=h;have hz:ys.length<=16777216:=by
  rw[<-eX];rcases hq with hq|hq
  ·exact(I.list hq).choose_spec.2.2
  ·exact(I.tuple hq).choose_spec.2.2
 exact call_len_seq pins s σ H _ us Q I r ⟨p,ys,rfl,hq,q hz⟩
end
mutual
inductive DX(K:W.Frag)(H:Hp):V->θ->Prop
 |non:DX K H .non .none
 |bl (b:Bool):DX K H (.bl b) (.bool b)
 |int (i:Int):DX K H (.int i) (.int i)
 |str (x:Str):DX K H (.str x) (.str x)
 |tup {a:Addr} {xs:List V} {ds:List θ} (h:SqT K H a xs) (t:qQ K H xs ds):DX K H (.ref a) (.tuple ds)
 |lst {a:Addr} {xs:List V} {ds:List θ} (h:SqL K H a xs) (t:qQ K H xs ds):DX K H (.ref a) (.list ds)
 |dct {a:Addr} {kvs:List (Key×V)} (ds:List (θ×θ)) (h:H a=some (.dK kvs)):DX K H (.ref a) (.dict ds)
inductive qQ(K:W.Frag)(H:Hp):List V->List θ->Prop
 |nil:qQ K H [] []
 |cons {x:V} {d:θ} {xs:List V} {ds:List θ} (h:DX K H x d) (t:qQ K H xs ds):qQ K H (x::xs) (d::ds)
end
theorem DX.same{K:W.Frag}{H H':Hp}(e:Same H H'){x:V}{d:θ}(h:DX K H x d):DX K H' x d:=
 DX.rec (motive_1:=fun x d _=>DX K H' x d) (motive_2:=fun xs ds _=>qQ K H' xs ds) .non (fun b=> .bl b) (fun i=> .int i) (fun x=> .str x) (fun h _ t=> .tup (e.tup h) t) (fun h _ t=> .lst (e.seq h) t) (fun ds h=> .dct ds (e _ _ h)) .nil (fun _ _ h t=> .cons h t) h
theorem qQ.same{K:W.Frag}{H H':Hp}(e:Same H H'){xs:List V}{ds:List θ}(h:qQ K H xs ds):qQ K H' xs ds:=
 qQ.rec (motive_1:=fun x d _=>DX K H' x d) (motive_2:=fun xs ds _=>qQ K H' xs ds) .non (fun b=> .bl b) (fun i=> .int i) (fun x=> .str x) (fun h _ t=> .tup (e.tup h) t) (fun h _ t=> .lst (e.seq h) t) (fun ds h=> .dct ds (e _ _ h)) .nil (fun _ _ h t=> .cons h t) h
theorem DV.dx{K:W.Frag}{H:Hp}{x:V}{d:θ}(h:DV K H x d):DX K H x d:=
 DV.rec (motive_1:=fun x d _=>DX K H x d) (motive_2:=fun xs ds _=>qQ K H xs ds) .non (fun b=> .bl b) (fun i=> .int i) (fun x=> .str x) (fun h _ t=> .tup h t) (fun h _ t=> .lst h t) (fun h=> .dct [] h) (fun h _=> .dct _ h) .nil (fun _ _ h t=> .cons h t) h
theorem bO.dx{K:W.Frag}{H:Hp}{xs:List V}{ds:List θ}(h:bO K H xs ds):qQ K H xs ds:=
 bO.rec (motive_1:=fun _ _ _=>True) (motive_2:=fun xs ds _=>qQ K H xs ds) trivial (fun _=>trivial) (fun _=>trivial) (fun _=>trivial) (fun _ _ _=>trivial) (fun _ _ _=>trivial) (fun _=>trivial) (fun _ _=>trivial) .nil (fun h _ _ t=> .cons h.dx t) h
noncomputable def yJ:θ->String
 | .none=>"NoneType"
 | .bool _=>"bool"
 | .int _=>"int"
 | .str _=>"str"
 | .list _=>"list"
 | .tuple _=>"tuple"
 | .dict _=>"dict"
theorem DX.kind{K:W.Frag}{H:Hp}:∀{x:V} {d:θ},DX K H x d->RD K H x (yJ d)
 |_,_,.non=>rfl
 |_,_,.bl _=>rfl
 |_,_,.int _=>rfl
 |_,_,.str _=>rfl
 |_,_,.tup h _=> .inl ⟨rfl,_,h⟩
 |_,_,.lst h _=> .inr (.inl ⟨rfl,_,h⟩)
 |_,_,.dct _ h=> .inr (.inr ⟨rfl,_,h⟩)
theorem qQ.len{K:W.Frag}{H:Hp}{xs:List V}{ds:List θ}(h:qQ K H xs ds):xs.length=ds.length:=
 qQ.rec (motive_1:=fun _ _ _=>True) (motive_2:=fun xs ds _=>xs.length=ds.length) trivial (fun _=>trivial) (fun _=>trivial) (fun _=>trivial) (fun _ _ _=>trivial) (fun _ _ _=>trivial) (fun _ _=>trivial) rfl (fun _ _ _ t=>gq Nat.succ t) h
theorem qQ.get{K:W.Frag}{H:Hp}:∀{xs:List V} {ds:List θ} {i:Nat} {x:V},qQ K H xs ds->xs[i]? =some x->∃d,ds[i]? =some d/\DX K H x d
 |_,_,_,_,.nil,e=>by simp at e
 |_,_,0,_,.cons h _,e=>by simp at e;subst e;exact⟨_,rfl,h⟩
 |_,_,i+1,x,.cons _ t,e=>by
  obtain⟨d,h1,h2⟩:=qQ.get (i:=i) t (by simpa using e);exact⟨d,by simpa using h1,h2⟩
structure bQ(K:W.Frag)(mg:L4)(x:Str)(st:Stmt)(ps:List Str)(f:Addr)(fd:ρ):Prop where
 F:Fun K x x st f fd
 b:Binds K fd ps []
 m:mg x=some (.ref f)
theorem pc{X:Cx}{x:Str}{st:Stmt}{ps:List Str}{f:Addr}{fd:ρ}{j k:Nat}{sp:Sp}{E:XK}{e:Expr}{es:List Expr}{t:TA}{p pos:Pos}(F:FnOk X.prog X.w X.K X.mg X.base CX0 j f fd ps sp)(hr:Room k X.A)(D:bQ X.K X.mg x st ps f fd)(ha:PA X (e::es) t)(hj:j<=k:=by first |decide|omega)(hg:Gl X x:=by rfl)(hx:Passes CX0 X E:=by exact pass0)(hdb:(x==("__debug__":Str))=false:=by decide)(he:starEach (e::es) X.env=(false,eval e X.env)::starEach es X.env:=by rfl)(hpl:(backTo pos (starEach es X.env)).any (·.1)=false:=by rfl):PE X (.Call (.Name x p) (e::es) [] pos) (tCall sp [] E t):=pe_call (F.mono hj) hr hg D.m D.F.kp D.b .nil hx ha hdb he hpl
theorem fsc{N P:List Str}{sc:Scope}(a:sc.kind= .function:=by rfl)(b:sc.isCoroutine=false:=by rfl)(c:sc.isGenerator=false:=by rfl)(d:N.Nodup:=by decide+kernel)(e:N.take P.length=P:=by rfl)(f:∀x∈P,sc.names.lookup x=some .local\/sc.names.lookup x=some .cell:=by decide+kernel)(g:∀y∈sc.names,y.2≠.free:=by decide+kernel):FnScope N P sc:=⟨a,b,c,d,e,f,g⟩
theorem Fun.dG{P:ξ}{w:τ}{K:W.Frag}{mg:L4}{base:Heap}{x qual:Str}{st:Stmt}{f:Addr}{fd:ρ}{ps:List Str}{k:Nat}{sp:Sp}(F:Fun K x qual st f fd)(N:List Str)(hb:∀(cdv:ζ) (A:υ) (outer:List Env) (s:η) (H:Hp) (vs:List V) (Q:VK) (E:XK),Room k (A.deeper (PyProof.Rows.envOfC qual (defScope st) s.heap.objs.size f cdv))->sp vs H Q E->
   ∃t,PSs (cxOf CX0 P w K mg base N qual (defScope st) f cdv A outer s H E).nox (defBody st) t/\t {nx:=fun _ H'=>Q .non H',rt:=Q} (start N vs) H)(S:FnScope N ps (defScope st):=by exact fsc)(len:∀vs H Q E,sp vs H Q E->vs.length=ps.length:=by intro _ _ _ _ h;repeat(first |(obtain⟨rfl,_⟩:=h;rfl)|obtain⟨_,h⟩:=h)):FnOk P w K mg base CX0 (k+1) f fd ps sp:=F.ok S len hb
theorem aY{H:Hp}{p:Addr}(h:H p=none)(o:HO):Same H (upd H p o):=fun b u q=>by rw[cP (j5 q h)];exact q
end L2
namespace lQ
open PySem L2
noncomputable def qX:θ->Bool
 | .int _=>true
 |_=>false
noncomputable def bU(n:Int):θ->Bool
 | .int i=>decide (0<=i)&&decide (i<n)
 |_=>false
noncomputable def intD:θ->Int
 | .int i=>i
 |_=>0
noncomputable def kids:θ->List θ
 | .tuple ds=>ds
 |_=>[]
noncomputable def jr(ns:List Int):Bool:=(List.range (ns.length-1)).all fun k=>decide (ns.getD k 0<ns.getD (k+1) 0)
noncomputable def jq(ts:List (List Int)):Bool:=(List.range (ts.length-1)).all fun k=>HT.lexLt (ts.getD k []) (ts.getD (k+1) [])
noncomputable def vg(n:Int):θ->Bool
 | .tuple ds=>ds.all (bU n)&&jr (ds.map intD)
 |_=>false
noncomputable def kh(n:Int)(d:θ):Bool:=vg n d&&decide ((kids d).length=2)
noncomputable def rC(n:Int):θ->Bool
 | .tuple ds=>ds.all (kh n)&&jq (ds.map fun t=>(kids t).map intD)
 |_=>false
noncomputable def uU:θ->Bool
 | .tuple [n,t]=>qX n&&(decide (0<=intD n)&&decide (intD n<=10))&&rC (intD n) t
 |_=>false
theorem Bb{n:Int}:∀{d:θ},bU n d=true->∃i,d= .int i/\0<=i/\i<n
 | .int i,h=>⟨i,rfl,by simpa[bU]using h⟩
end lQ
namespace L2
open PySem PySem.Spec PyProof.Rows
section
variable{X:Cx}
theorem dU(K:W.Frag)(h:X.K=K:=by rfl):IxR X (rIxT K):=by subst h;exact eG
theorem jz(K:W.Frag)(h:X.K=K:=by rfl):IxR X (rIxL K):=by subst h;exact jf
theorem oK(K:W.Frag)(h:X.K=K:=by rfl):CallR X (.builtin "len") (fun xs H Q=>∃p ys,xs=[.ref p]/\(SqL K H p ys\/SqT K H p ys)/\(ys.length<=16777216->Q (.int ys.length) H)):=by subst h;exact lR
theorem Oa(K:W.Frag)(hu:X.A.units<cLine)(h:X.K=K:=by rfl):OpR X (compareOp .Lt) (rLtT K):=by subst h;exact op_ltT hu
theorem mD(K:W.Frag)(hu:X.A.units+64<cLine)(h:X.K=K:=by rfl):OpR X (compareOp .In) (fun x y H Q=>∃(p:Addr) (xs:List V) (ds:List θ) (dx:θ),y= .ref p/\(SqL K H p xs\/SqT K H p xs)/\bO K H xs ds/\DV K H x dx/\PyData.canLayAll0 ds=true/\dx.canLay0=true/\dx.depth<=60/\
  Q (.bl (ds.any fun d=>PyData.eqv d dx)) H):=by subst h;exact nT hu
theorem gC(K:W.Frag){es:List Expr}{k:Nat}{t:TGs}{n:Nat}{pos:Pos}(hc:X.calm=true)(h:PGs X es t)(hn:(assignEach es X.env).length=n:=by rfl)(hst:(assignEach es X.env).findIdx? (·.1)=none:=by rfl)(hK:X.K=K:=by rfl):PG X (.Tuple es k pos) (gTup K n t):=by subst hK;exact pg_tup hc h hn hst
end
end L2
namespace PySem
open Sem (wp)
open AutoSeq1 (wpAny_loadPart')
section
variable{prog:ξ}{w:τ}{A:υ}{E:L3}{s:η}
theorem jO{Q:List ζ->η->Prop}{r:Addr}{a b c:Int}{t u v:Tok}{n:Nat}(hh:A.handled=none)(hr:IsRange s.heap r a b c t u v)(hsmall:Builtin.Range.small a b c=true)(hn:Builtin.Range.rangeSize a b c=n)(hlen:n<=2^24)(hQ:∀h' tk acc,(∀b o',s.heap.get? b=some o'->h'.get? b=some o')->ItemsOf (fun i v=>∃t,v= .int (a+i*c) t) acc n->Q acc.toList {s with heap:=h',toks:=tk}):
  wpAny (model prog w) A (collect (.ref r)) Q E s:=by
 unfold collect;refine aM (wpAny_runValue (Mj F.entry_proto_collect ?_));rw[QV F.plain_proto_collect _];show wpAny _ A.in1 (newList []>>=fun l=>again (.builtin "list.__iadd__" ⟨[l,.ref r],[]⟩)) _ _ s;refine aM (VR ?_);refine cO ⟨M4 F.plain_list_iadd _,Mj F.entry_list_iadd ?_⟩;rw[QV F.plain_list_iadd _];show wpAny _ A.in1 (Builtin.List.listExtendWith (.ref s.heap.objs.size) (.ref r) (.ref s.heap.objs.size)) _ _ _;have hS:(s.heap.push {cls:= .type "list",data:= .seq ([]:List ζ).toArray}).get? s.heap.objs.size=some {cls:= .type "list",data:= .seq #[] 0}:=j7 _ rfl;have fin':∀h' tk acc' c',(∀b o,b≠s.heap.objs.size->(s.heap.push {cls:= .type "list",data:= .seq ([]:List ζ).toArray}).get? b=some o->h'.get? b=some o)->
   h'.get? s.heap.objs.size=some {cls:= .type "list",dict:=none,data:= .seq acc' c',slots:=#[]}->ItemsOf (fun i v=>∃t,v= .int (a+i*c) t) acc' n->wpAny (model prog w) A (match Value.ref s.heap.objs.size with
   |Value.ref a=>do
    match(<-load a).data with
     |Data.seq xs _=>pure xs.toList
     |_=>unsupported "internal:collect"
   |_=>unsupported "internal:collect") Q E {s with heap:=h',toks:=tk}:=fun h' tk acc' c' hk hS' hacc=>by
  show wpAny _ A (load s.heap.objs.size>>=_) _ _ _;refine aM (wpAny_load hS' ?_);refine cO ?_;exact hQ h' tk acc' (fun b o e=>hk b o (fM (dX e)) (gP _ e)) hacc
 refine Mi (wpAny_extend_range (A:=A) (R:=fun r s'=>r= .ok (.ret (.ref s.heap.objs.size))/\∃h' tk acc' c',s'={s with heap:=h',toks:=tk}/\(∀b o,b≠s.heap.objs.size->(s.heap.push {cls:= .type "list",data:= .seq ([]:List ζ).toArray}).get? b=some o->h'.get? b=some o)/\
   h'.get? s.heap.objs.size=some {cls:= .type "list",dict:=none,data:= .seq acc' c',slots:=#[]}/\ItemsOf (fun i v=>∃t,v= .int (a+i*c) t) acc' n) (s:={s with heap:=s.heap.push {cls:= .type "list",data:= .seq ([]:List ζ).toArray}}) hh (gP _ hr) hsmall hn hlen s.heap.objs.size (.ref s.heap.objs.size) 0 hS (fun h' tk acc' c' hk hS' hacc=>⟨rfl,h',tk,acc',c',rfl,hk,hS',hacc⟩)) (fun fin s' h=> ?_) (fun e s' h=> ?_)
 ·cases fin with
  |done f=>
   obtain⟨e,h',tk,acc',c',rfl,h1,h2,h3⟩:=h;cases e;exact fin' h' tk acc' c' h1 h2 h3
  |again c'=>exact⟨h.1,VJ h.2 fun r s'' hr=>by obtain⟨rfl,h',tk,acc',c',rfl,h1,h2,h3⟩:=hr;exact fin' h' tk acc' c' h1 h2 h3⟩
 ·exact absurd h.1 (by simp)
end
theorem iW(r:Addr)(a b c:Int)(t u v:Tok)(n:Nat)(hsmall:Builtin.Range.small a b c=true)(hn:Builtin.Range.rangeSize a b c=n)(hlen:n<=2^24):
  Meets (Builtin.«tuple.__new__» ⟨[.type "tuple",.ref r],[]⟩)
   (fun A R s=>A.handled=none/\IsRange s.heap r a b c t u v/\∀(h':Heap) tk acc,(∀b o',s.heap.get? b=some o'->h'.get? b=some o')->ItemsOf (fun i v=>∃t,v= .int (a+i*c) t) acc n->R (.ok (.ret (.ref h'.objs.size))) {s with heap:=h'.push {cls:= .type "tuple",data:= .seq acc},toks:=tk}):=
 .of_wp fun prog w A R s h=>by
  obtain⟨hp,g,d,tk,os⟩:=s;obtain⟨hh,ht,h⟩:=h;have hsub:=sub_tuple_self;have hinit:=init_tuple_lookup;have hmh:=madeHere_tuple;have hT:Shared.TypeIs ⟨hp,g,d,tk,os⟩ (.ref r) "range":=⟨_,ht,rfl⟩
  wp_walk using wpAny_loadPart' ht,wpAny_typeOf hT,jO (A:=A.in1) hh ht hsmall hn hlen
  intro h' tk' acc hk hacc;show wpAny _ _ (Builtin.Tuple.tupleExact acc.toList.toArray>>=fun v=>ret v) _ _ _;unfold Builtin.Tuple.tupleExact;refine aM (VR ?_ (by show acc.toList.toArray.size<=sizeLine;rw[eX];simp;rw[hacc.1];omega));refine cO ⟨_,rfl,?_⟩;have e:acc.toList.toArray=acc:=by simp
  rw[e];exact h h' tk' acc hk hacc
section
variable{prog:ξ}{w:τ}{A:υ}{E:L3}{s:η}
theorem oJ{Q:L3}{r:Addr}{a b c:Int}{t u v:Tok}{n:Nat}(hh:A.handled=none)(hr:IsRange s.heap r a b c t u v)(hsmall:Builtin.Range.small a b c=true)(hn:Builtin.Range.rangeSize a b c=n)(hlen:n<=2^24)(h:∀(h':Heap) tk acc,(∀b o',s.heap.get? b=some o'->h'.get? b=some o')->ItemsOf (fun i v=>∃t,v= .int (a+i*c) t) acc n->Q (.ref h'.objs.size) {s with heap:=h'.push {cls:= .type "tuple",data:= .seq acc},toks:=tk}):
  wpAny (model prog w) A (call (.type "tuple") [.ref r]) Q E s:=
 callType_new F.called_tuple (by decide) (F.typeCall_tuple_1 _) (F.newCall_tuple_1 _) (fun obj=>F.args_object_init_2 obj _) F.entry_tuple_new
  (iW r a b c t u v n hsmall hn hlen) ⟨hh,hr,fun h' tk acc hk hacc=>⟨⟨_,j7 _ rfl,rfl⟩,h h' tk acc hk hacc⟩⟩
end
end PySem
namespace L2
open PySem PySem.Spec PyProof.Rows
section
variable{X:Cx}{p p' pos pos':Pos}{a:Expr}{ta:TA}
noncomputable def cR(n:Nat):List V:=(List.range n).map fun(k:Nat)=>V.int (k:Int)
noncomputable def Xz(ta:TA):TE:=fun σ H Q=>ta σ H fun vs H1=>∃j:Int,vs=[.int j]/\0<=j/\j<=16777216/\∀l,H1 l=none->Q (.ref l) (upd H1 l (.tup (cR j.toNat)))
theorem rA:∀{n:Nat} {us:List ζ},us.length=n->(∀(j:Nat) (u:ζ),us[j]? =some u->∃t:Tok,u=Value.int (0+((j:Nat):Int)*1) t)->Vals (cR n) us:=by
 intro n us hl hi;have go:∀(us:List ζ) (k:Nat),(∀(j:Nat) (u:ζ),us[j]? =some u->∃t:Tok,u=Value.int (0+((j+k:Nat):Int)*1) t)->Vals ((List.range' k us.length).map fun(k:Nat)=>V.int (k:Int)) us:=by
  intro us
  induction us with
  |nil=>intro k _;exact .nil
  |cons u us ih=>
   intro k h;obtain⟨t,e⟩:=h 0 u rfl;refine .cons ⟨t,?_⟩ (ih (k+1) fun j u' hj=> ?_)
   ·rw[e];congr 1;omega
   ·obtain⟨t',e'⟩:=h (j+1) u' (by simpa using hj);refine⟨t',?_⟩;rw[e'];congr 1;omega
 have:=go us 0 (fun j u hj=>by obtain⟨t,e⟩:=hi j u hj;exact⟨t,by rw[e];rfl⟩);unfold cR;rw[wda,<-hl];exact this
theorem pC(hc:X.calm=true)(YT:Gl X "tuple")(YG:X.mg "tuple"=none)(hg:Gl X "range")(hm:X.mg "range"=none)(ha:PA X [a] ta)(hs:starEach [a] X.env=[(false,eval a X.env)]:=by rfl)(hs2:starEach [Expr.Call (.Name "range" p') [a] [] pos'] X.env=[(false,eval (Expr.Call (.Name "range" p') [a] [] pos') X.env)]:=by rfl):
  PE X (.Call (.Name "tuple" p) [.Call (.Name "range" p') [a] [] pos'] [] pos) (Xz ta):=by
 intro pins s σ H Q I h;refine M8 (ld_blt I YT YG (show bootBuiltins "tuple"=some (.type "tuple")from by decide+kernel) ?_ (by decide) (by decide));refine Mp ?_ hs2 rfl;rw[hs2];refine wcc ?_;refine Call_ (ld_blt I hg hm Xn (Mp (thn (ha pos' pins s σ H _ I h) fun us s1 ⟨vs,H1,I1,r1,q1⟩=> ?_) hs rfl));obtain⟨j,e,q1,q2,q⟩:=q1;subst e;cases r1 with
 |cons r rr=>
  cases rr;obtain⟨t,rfl⟩:=r;refine call_range_1 ?_;refine wcl ?_;have hn:Builtin.Range.rangeSize 0 j 1=((j.toNat:Nat):Int):=by rw[wen];split<;>omega
  refine oJ (I.ok.hd hc) (wfn ..) (small_one (by decide) (by decide) (by omega) (by omega)) hn (by omega) fun h' tk acc hk hacc=> ?_;have I2:Inv X pins σ H1 {s1 with heap:=h',toks:=tk}:=I1.kept fun b o e=>hk b o (gP _ e);have hv:Vals (cR j.toNat) acc.toList:=rA (by rw[QJ];exact hacc.1) (fun i u hu=>hacc.2 i u (by simpa using hu));have hz:(cR j.toNat).length<=sizeLine:=by unfold cR;rw[eX];simp;omega
  have I3:Inv X pins σ (upd H1 h'.objs.size (.tup (cR j.toNat))) {s1 with heap:=h'.push {cls:= .type "tuple",data:= .seq acc},toks:=tk}:=
   I2.laid (t':=tk) (fun b o e=>gP _ e) (aN _) (show ObjOk X.prog X.w _ _ _ (.tup (cR j.toNat))from⟨hz,acc.toList,hv,by rw[show acc=acc.toList.toArray by simp];exact VG _ _⟩)
  exact⟨.ref h'.objs.size,_,I3,rfl,q _ (I2.hok.fresh (aN _))⟩
open Classical in
theorem fL(hu:X.A.units+64<cLine):OpR X (compareOp .NotIn) (fun x y H Q=>∃(p:Addr) (xs:List V) (ds:List θ) (dx:θ),y= .ref p/\(SqL X.K H p xs\/SqT X.K H p xs)/\bO X.K H xs ds/\DV X.K H x dx/\PyData.canLayAll0 ds=true/\dx.canLay0=true/\dx.depth<=60/\
  Q (.bl (!(ds.any fun d=>PyData.eqv d dx))) H):=by
 intro pins s σ H x y v u Q I rx ry h;obtain⟨p,xs,ds,dx,rfl,hq,hds,hx,ca,cb,hd,q⟩:=h;cases ry;obtain⟨bs,rb⟩:=DV.reads I hx rx;have key:∀{its:List ζ},Vals xs its->(∀y∈its,SeqAt.EqAt X.A.in1 s y v (decide (∃d as,Reads s.heap y d as/\d∈ds/\PyData.eqv d dx=true)))/\(its.any fun y=>decide (∃d as,Reads s.heap y d as/\d∈ds/\PyData.eqv d dx=true))=ds.any fun d=>PyData.eqv d dx:=by
  intro its rv;obtain⟨as,ra⟩:=bO.reads I hds rv;have each:∀{us:List ζ} {es:List θ} {as:List Addr},ReadsAll s.heap us es as->(∀e∈es,e∈ds)->(∀y∈us,SeqAt.EqAt X.A.in1 s y v (decide (∃d as,Reads s.heap y d as/\d∈ds/\PyData.eqv d dx=true)))/\(us.any fun y=>decide (∃d as,Reads s.heap y d as/\d∈ds/\PyData.eqv d dx=true))=es.any fun d=>PyData.eqv d dx:=by
   intro us
   induction us with
   |nil=>intro es as h _;cases h;exact⟨(fun y hy=>(nomatch hy)),rfl⟩
   |cons y us ih=>
    intro es as h hs;cases h with
    | @cons _ _ d ds' as' bs' r rr=>
     obtain⟨i1,i2⟩:=ih rr fun e he=>hs e (dF _ he);have cl:=Cj ca d (hs d cV);have e:decide (∃d as,Reads s.heap y d as/\d∈ds/\PyData.eqv d dx=true)=PyData.eqv d dx:=by
      rw[pY,wW];constructor
      ·rintro⟨d',as'',r',_,q'⟩;obtain⟨rfl,_⟩:=(wdu r _ _ r');exact q'
      ·intro q';exact⟨d,_,r,hs d cV,q'⟩
     refine⟨fun z hz=> ?_,?_⟩
     ·rcases cQ.mp hz with rfl|hz
      ·rw[e];exact wev d dx _ s _ _ _ _ r rb cl cb (by show X.A.units+1+min d.depth dx.depth<cLine;omega)
      ·exact i1 z hz
     ·rw[Xr,Xr,i2,e]
  exact each ra fun e he=>he
 rcases hq with hq|hq
 ·obtain⟨its,r,pl,hz⟩:=I.list hq;obtain⟨k1,k2⟩:=key r;refine SeqAt.notIn_listAt _ pl.isList (fun w hw=>k1 w (by simpa using hw)) ⟨.bl _,H,I,rfl,?_⟩;rw[show∀f:ζ->Bool,its.toArray.any f=its.any f from fun f=>by simp,k2];exact q
 ·obtain⟨its,r,pl,hz⟩:=I.tuple hq;obtain⟨k1,k2⟩:=key r;refine SeqAt.notIn_tupleAt _ pl (fun w hw=>k1 w (by simpa using hw)) ⟨.bl _,H,I,rfl,?_⟩;rw[show∀f:ζ->Bool,its.toArray.any f=its.any f from fun f=>by simp,k2];exact q
theorem Bd(K:W.Frag)(hu:X.A.units+64<cLine)(h:X.K=K:=by rfl):OpR X (compareOp .NotIn) (fun x y H Q=>∃(p:Addr) (xs:List V) (ds:List θ) (dx:θ),y= .ref p/\(SqL K H p xs\/SqT K H p xs)/\bO K H xs ds/\DV K H x dx/\PyData.canLayAll0 ds=true/\dx.canLay0=true/\dx.depth<=60/\
  Q (.bl (!(ds.any fun d=>PyData.eqv d dx))) H):=by subst h;exact fL hu
end
end L2
namespace PySem
open Sem (wp)
open Builtin
open AutoSeq1 (wpAny_loadPart')
theorem nU:fillsNumberSlot (.type "tuple") "mul"=pure false:=
 fillsNumberSlot_seq (id:="tuple.__mul__") (r:=some (.builtin "tuple.__rmul__")) F.slot_tuple_mul.lookup (by decide+kernel) F.slot_tuple_rmul.lookup (by decide+kernel)
theorem vB:seqRepeat? (.type "tuple")=pure (some (.builtin "tuple.__mul__")):=by
 unfold seqRepeat?;rw[seqSlot_of (T:="tuple") (name:="__mul__") (id:="tuple.__mul__") F.slot_tuple_mul.lookup (by decide+kernel),seqSlot_of (T:="tuple") (name:="__rmul__") (id:="tuple.__rmul__") F.slot_tuple_rmul.lookup (by decide+kernel)];rfl
theorem vW(a:Int)(t:Tok)(l:Addr)(items:Array ζ)(n:Nat)(d:Option Addr)(sl:Array (Option ζ)):
  Meets (Builtin.«int.__rmul__» ⟨[.int a t,.ref l],[]⟩) (fun _ R s=>s.heap.get? l=some {cls:= .type "tuple",dict:=d,data:= .seq items n,slots:=sl}/\R (.ok (.ret Value.notImplemented)) s):=
 .of_wp fun prog w A R s h=>by obtain⟨hp,g,d,tk,os⟩:=s;obtain⟨hl,h⟩:=h;wp_walk;exact⟨_,rfl,h⟩
theorem tup_mul_1(l:Addr)(items:Array ζ)(n:Nat)(d:Option Addr)(sl:Array (Option ζ))(x:Int)(u:Tok)(hx:x=1):
  Meets (Builtin.«tuple.__mul__» ⟨[.ref l,.int x u],[]⟩) (fun _ R s=>s.heap.get? l=some {cls:= .type "tuple",dict:=d,data:= .seq items n,slots:=sl}/\R (.ok (.ret (Value.ref l))) s):=
 .of_wp fun prog w A R s h=>by
  subst hx;obtain⟨hp,g,d,tk,os⟩:=s;obtain⟨hl,h⟩:=h;have f1:=wew
  wp_walk using wpAny_loadPart' hl;exact⟨_,rfl,h⟩
theorem tup_mul_0(l:Addr)(items:Array ζ)(n:Nat)(d:Option Addr)(sl:Array (Option ζ))(x:Int)(u:Tok)(hx:x<=0)(hlo: -(2^63)<=x)(hne:items.isEmpty=false):
  Meets (Builtin.«tuple.__mul__» ⟨[.ref l,.int x u],[]⟩) (fun _ R s=>s.heap.get? l=some {cls:= .type "tuple",dict:=d,data:= .seq items n,slots:=sl}/\R (.ok (.ret (Value.ref s.heap.objs.size))) {s with heap:=s.heap.push {cls:=Value.type "tuple",data:=Data.seq #[]},toks:=s.toks}):=
 .of_wp fun prog w A R s h=>by
  obtain⟨hp,g,d,tk,os⟩:=s;obtain⟨hl,h⟩:=h;have f1:=wew;have c1:¬((decide (x< -(2^63))||decide (x≥2^63))=true):=by simp;omega
  have c2:¬((items.isEmpty||x==1)=true):=by rw[hne];simp;omega
  have c3:(decide (x<=0)||items.isEmpty)=true:=by rw[hne];simp;omega
  wp_walk using wpAny_loadPart' hl;rw[aq c1];wp_walk using wpAny_loadPart' hl;rw[aq c2];wp_walk using wpAny_loadPart' hl;exact⟨_,rfl,h⟩
theorem Fe(l:Addr)(items:Array ζ)(n:Nat)(d:Option Addr)(sl:Array (Option ζ))(x:Int)(u:Tok)(hx:1<x)(hhi:x<2^63)(hne:items.isEmpty=false)(hsz:items.size*x.toNat<=1000):
  Meets (Builtin.«tuple.__mul__» ⟨[.ref l,.int x u],[]⟩) (fun _ R s=>s.heap.get? l=some {cls:= .type "tuple",dict:=d,data:= .seq items n,slots:=sl}/\R (.ok (.ret (Value.ref s.heap.objs.size))) {s with heap:=s.heap.push {cls:=Value.type "tuple",data:=Data.seq (List.foldl (fun x1 x2=>x1++x2) #[] (List.replicate x.toNat items))},toks:=s.toks}):=
 .of_wp fun prog w A R s h=>by
  obtain⟨hp,g,d,tk,os⟩:=s;obtain⟨hl,h⟩:=h;have f1:=wew;have c1:¬((decide (x< -(2^63))||decide (x≥2^63))=true):=by simp;omega
  have c2:¬((items.isEmpty||x==1)=true):=by rw[hne];simp;omega
  have c3:¬((decide (x<=0)||items.isEmpty)=true):=by rw[hne];simp;omega
  have hxs:(items.size:Int)*x=((items.size*x.toNat:Nat):Int):=by rw[Int.natCast_mul,wdl (by omega)]
  have c4:¬((items.size:Int)*x>(2^63-1)/8):=by rw[hxs];omega
  have c5:¬(Builtin.Tuple.tupleTooMany ((items.size:Int)*x)=true):=by
   rw[hxs];intro z;have z':((items.size*x.toNat:Nat):Int)>(sizeLine:Int):=j9 z;have:=eX;generalize items.size*x.toNat=m at *;omega
  have htake:(List.foldl (fun x1 x2=>x1++x2) #[] (List.replicate x.toNat items)).size<=sizeLine:=by
   have e:List.foldl (fun x1 x2=>x1++x2) #[] (List.replicate x.toNat items)=(List.replicate x.toNat items.toList).flatten.toArray:=by
    have:=PyProof.Rows.listMul_foldl_if items x.toNat;rw[aq (by rw[hne];simp)]at this;exact this
   rw[e,fH];have:(List.replicate x.toNat items.toList).flatten.length=x.toNat*items.size:=by simp
   rw[this,Nat.mul_comm,eX];omega
  wp_walk using wpAny_loadPart' hl;rw[aq c1];wp_walk using wpAny_loadPart' hl;rw[aq c2];wp_walk using wpAny_loadPart' hl;rw[aq c3]
  try dsimp only
  rw[aq c4]
  try dsimp only
  rw[aq c5]
  try dsimp only
  unfold Builtin.Tuple.tupleExact;refine aM (VR (cO ?_) htake);exact⟨_,rfl,h⟩
end PySem
namespace L2
open PySem PySem.Spec PyProof.Rows
section
variable{X:Cx}{p p' pos pos':Pos}{a:Expr}{ta:TA}
theorem Vals.X3{xs:List V}{us:List ζ}(h:Vals xs us):∀k:Nat,Vals (List.replicate k xs).flatten (List.replicate k us).flatten
 |0=> .nil
 |k+1=>by rw[RL,RL,W4,W4];exact h.append (Vals.X3 h k)
noncomputable def X5(K:W.Frag):R2:=fun x y H Q=>∃a k xs,x= .ref a/\y= .int k/\SqT K H a xs/\xs≠[]/\ -(2^63)<=k/\k<2^63/\xs.length*k.toNat<=1000/\∀r H',Same H H'->SqT K H' r (List.replicate k.toNat xs).flatten->Q (.ref r) H'
theorem N8:OpR X (binaryOp .Mult) (X5 X.K):=by
 intro pins s σ H x y v u Q I rx ry h;obtain⟨a,k,xs,rfl,rfl,ha,hne,h1,h2,hz,q⟩:=h;cases rx;obtain⟨t,rfl⟩:=ry;obtain⟨its,r1,p1,_⟩:=I.tuple ha;obtain⟨⟨cls,dd,data,sl⟩,ho,hc,n,hd⟩:=id p1;simp only at hc hd;subst hc hd;have hlen:=r1.length;have hem:its.toArray.isEmpty=false:=by
  cases its with
  |nil=>cases r1;exact absurd rfl hne
  |cons _ _=>rfl
 have road:∀{S:PySem.Spec},Meets (Builtin.«tuple.__mul__» ⟨[.ref a,.int k t],[]⟩) S->S X.A (wants (EP X pins σ Q) X.xe) s->wpAny (model X.prog X.w) X.A (binaryOp .Mult (.ref a) (.int k t)) (EP X pins σ Q) X.xe s:=fun M hS=>
  wpAny_binaryOp_repeat_ref (T:="tuple") (U:="int") (by decide) ⟨_,ho,rfl⟩ (fun s'=>typeIs_int s' k t) nU F.fills_int_mul F.slot_int_rmul vB F.slot_int_index.lookup
   (RV F.slot_int_rmul (typeIs_int s k t) F.entry_int_rmul (F.args_int_rmul_2 _ _) (vW k t a its.toArray n dd sl)
    ⟨ho,rfl,⟨_,ho,rfl⟩,RV F.slot_tuple_mul ⟨_,ho,rfl⟩ F.entry_tuple_mul (F.args_tuple_mul_2 _ _) M hS⟩)
 by_cases c1:k=1
 ·refine road (tup_mul_1 a its.toArray n dd sl k t c1) ⟨ho,⟨.ref a,H,I,rfl,q a H (Same.refl _) ?_⟩⟩;subst c1;have:(List.replicate (1:Int).toNat xs).flatten=xs:=by simp
  rw[this];exact ha
 by_cases c0:k<=0
 ·refine road (tup_mul_0 a its.toArray n dd sl k t c0 h1 hem) ⟨ho,?_⟩;have e0:k.toNat=0:=by omega
  refine⟨.ref s.heap.objs.size,_,I.laid (t':=s.toks) (o:= .tup []) (fun b ob q=>gP _ q) (aN _) ⟨dw _,[],.nil,VG _ _⟩,rfl,q _ _ (fun c o e=>by rw[cP (j5 e (I.hok.fresh (aN _)))];exact e) ?_⟩;rw[e0];exact SqT.of aJ
 ·have hsz:its.toArray.size*k.toNat<=1000:=by rw[fH,<-hlen];exact hz
  refine road (Fe a its.toArray n dd sl k t (by omega) h2 hem hsz) ⟨ho,?_⟩;have hnew:List.foldl (fun x1 x2=>x1++x2) #[] (List.replicate k.toNat its.toArray)=(List.replicate k.toNat its).flatten.toArray:=by
   have:=foldl_rep its k.toNat [];rw[List.nil_append]at this;exact this
  rw[hnew];have hz':(List.replicate k.toNat xs).flatten.length<=sizeLine:=by
   rw[len_rep,Nat.mul_comm];exact eN hz (by rw[eX];decide)
  refine⟨.ref s.heap.objs.size,_,I.laid (t':=s.toks) (o:= .tup (List.replicate k.toNat xs).flatten) (fun b ob q=>gP _ q) (aN _) ⟨hz',_,Vals.X3 r1 k.toNat,VG _ _⟩,rfl,q _ _ (fun c o e=>by rw[cP (j5 e (I.hok.fresh (aN _)))];exact e) (SqT.of aJ)⟩
noncomputable def XF(ta:TA):TE:=fun σ H Q=>ta σ H fun vs H1=>∃j:Int,vs=[.int j]/\0<=j/\j<=16777216/\∀l,H1 l=none->Q (.ref l) (upd H1 l (.lst (cR j.toNat)))
theorem jw(hc:X.calm=true)(YT:Gl X "list")(YG:X.mg "list"=none)(hg:Gl X "range")(hm:X.mg "range"=none)(ha:PA X [a] ta)(hs:starEach [a] X.env=[(false,eval a X.env)]:=by rfl)(hs2:starEach [Expr.Call (.Name "range" p') [a] [] pos'] X.env=[(false,eval (Expr.Call (.Name "range" p') [a] [] pos') X.env)]:=by rfl):
  PE X (.Call (.Name "list" p) [.Call (.Name "range" p') [a] [] pos'] [] pos) (XF ta):=by
 intro pins s σ H Q I h;refine M8 (ld_blt I YT YG (show bootBuiltins "list"=some (.type "list")from by decide+kernel) ?_ (by decide) (by decide));refine Mp ?_ hs2 rfl;rw[hs2];refine wcc ?_;refine Call_ (ld_blt I hg hm Xn (Mp (thn (ha pos' pins s σ H _ I h) fun us s1 ⟨vs,H1,I1,r1,q1⟩=> ?_) hs rfl));obtain⟨j,e,q1,q2,q⟩:=q1;subst e;cases r1 with
 |cons r rr=>
  cases rr;obtain⟨t,rfl⟩:=r;refine call_range_1 ?_;refine wcl ?_;have hn:Builtin.Range.rangeSize 0 j 1=((j.toNat:Nat):Int):=by rw[wen];split<;>omega
  refine call_list_range (I.ok.hd hc) (wfn ..) (small_one (by decide) (by decide) (by omega) (by omega)) hn (by omega) fun h' tk acc c hk hS hacc=> ?_;have hv:Vals (cR j.toNat) acc.toList:=rA (by rw[QJ];exact hacc.1) (fun i u hu=>hacc.2 i u (by simpa using hu));have hz:(cR j.toNat).length<=sizeLine:=by unfold cR;rw[eX];simp;omega
  have I2:Inv X pins σ H1 {s1 with heap:=s1.heap.push {cls:=Value.type "range",data:=Data.fields #[Value.int 0 s1.toks,Value.int j t,Value.int 1 (s1.toks+1)]},toks:=s1.toks+1+1}:=I1.kept fun b o e=>gP _ e;exact⟨.ref _,_,I2.laid (t':=tk) (o:= .lst (cR j.toNat)) hk (aN _) ⟨hz,acc.toList,c,hv,by simpa using hS⟩,rfl,q _ (I2.hok.fresh (aN _))⟩
end
end L2
namespace PySem
open Sem (wp)
open AutoSeq1 (wpAny_loadPart')
theorem wg(l:Addr)(items:Array ζ)(n:Nat)(dct:Option Addr)(sl:Array (Option ζ)):
  Meets (Builtin.«enumerate.__new__» ⟨[.type "enumerate",.ref l],[]⟩) (fun _ R s=>s.heap.get? l=some {cls:= .type "tuple",dict:=dct,data:= .seq items n,slots:=sl}/\
   R (.ok (.ret (.ref (s.heap.push {cls:= .type "tuple_iterator",data:= .fields #[.ref l,.int 0 0]}).objs.size)))
    {s with heap:=(s.heap.push {cls:= .type "tuple_iterator",data:= .fields #[.ref l,.int 0 0]}).push {cls:= .type "enumerate",data:= .fields #[.none,.bool false,.ref s.heap.objs.size,rawInt 0,.none,.none]}}):=
 .of_wp fun prog w A R s h=>by
  obtain⟨hp,g,d,tk,os⟩:=s;obtain⟨hl,h⟩:=h;have hsub:=sub_enumerate;have hL:Heap.IsTuple (Shared.heap ⟨hp,g,d,tk,os⟩) l items:=⟨_,hl,rfl,n,rfl⟩
  wp_walk using wpAny_loadPart' hl
  refine wpAny_stack_any fun st=>cO ?_;split
  ·rename_i c _ _ _ _ _;cases(c==Value.type "enumerate")
   ·wp_walk using wpAny_loadPart' hl,Xw hL;exact⟨_,rfl,h⟩
   ·wp_walk using wpAny_loadPart' hl,Xw hL;exact⟨_,rfl,h⟩
  ·wp_walk using wpAny_loadPart' hl,Xw hL;exact⟨_,rfl,h⟩
section
variable{prog:ξ}{w:τ}{A:υ}{E:L3}{s:η}
theorem Bj{it t:Addr}{i:Nat}{items:Array ζ}{x:ζ}{Q:L3}(hit:s.heap.IsTupleIter it t i)(ht:s.heap.IsTuple t items)(hx:items[i]? =some x)(hQ:∀h',h'.IsTupleIter it t (i+1)->Heap.SameBut it s.heap h'->Q x {s with heap:=h'}):wpAny (model prog w) A (Builtin.SmallTypes.nextOf (.ref it)) Q E s:=by
 obtain⟨o,ho,hc,hd⟩:=id hit;obtain⟨ol,hol,_,nl,hdl⟩:=ht;unfold Builtin.SmallTypes.nextOf;refine aM (wpAny_callSpecial?_slot (name:=Str.ofString "__next__") hit.typeIs wbj (VP wbj hit.typeIs wdm ?_ (wdd _)));show wpAny _ _ (field (.ref it) 0>>=_) _ _ s;refine aM (wfo ho hd (x:= .ref t) rfl ?_);show wpAny _ _ (if(Value.ref t==Value.none)=true then _ else _) _ _ s;rw[aq (show¬((Value.ref t==Value.none)=true)from qZ)];show wpAny _ _ (field (.ref it) 1>>=_) _ _ s;refine aM (wfo ho hd (x:= .int i 0) rfl ?_);show wpAny _ _ (seqItems? (.ref t)>>=_) _ _ s;refine aM (M5 hol hdl ?_);simp only[Vw,hx];refine aM (wpAny_setField ho hd (by simp) (cO ⟨x,rfl,cO (hQ _ ?_ (Ie ..))⟩));exact⟨_,Heap.get?_update_self _ ho (Obj.isFreed_of_fields (Obj.data_mapFields hd _)),(Obj.cls_mapFields ..).trans hc,by rw[Obj.data_mapFields hd];simp[rawInt]⟩
theorem su{it t:Addr}{i:Nat}{items:Array ζ}{Q:L3}(hh:A.handled=none)(hit:s.heap.IsTupleIter it t i)(ht:s.heap.IsTuple t items)(hx:items[i]? =none)(hE:∀h' e,Heap.ExtBut it s.heap h'->(∃o,h'.get? e=some o/\o.cls= .type "StopIteration")->E (.ref e) {s with heap:=h'}):wpAny (model prog w) A (Builtin.SmallTypes.nextOf (.ref it)) Q E s:=by
 obtain⟨o,ho,hc,hd⟩:=id hit;obtain⟨ol,hol,_,nl,hdl⟩:=ht;unfold Builtin.SmallTypes.nextOf;refine aM (wpAny_callSpecial?_slot (name:=Str.ofString "__next__") hit.typeIs wbj (VP wbj hit.typeIs wdm ?_ (wdd _)));show wpAny _ _ (field (.ref it) 0>>=_) _ _ s;refine aM (wfo ho hd (x:= .ref t) rfl ?_);show wpAny _ _ (if(Value.ref t==Value.none)=true then _ else _) _ _ s;rw[aq (show¬((Value.ref t==Value.none)=true)from qZ)];show wpAny _ _ (field (.ref it) 1>>=_) _ _ s;refine aM (wfo ho hd (x:= .int i 0) rfl ?_);show wpAny _ _ (seqItems? (.ref t)>>=_) _ _ s;refine aM (M5 hol hdl ?_);simp only[Vw,hx];refine aM (wpAny_rule (aM (wpAny_setField ho hd (by simp) ?_)));show wpAny _ _ (newExc (.type "StopIteration") []>>=_) _ _ _;refine aM ?_;simp only[newExc,newTuple];refine aM (VR ?_ (by size_fits));refine aM (m:=firstArgMember _ _) (wpAny_of_eq (a:=Value.none) (by first |rfl|(simp only[firstArgMember];rfl)) ?_);refine VR ?_ (by size_fits);simp only[raiseNew];refine aM (wpAny_handled ?_);first |rw[show A.in1.handled=none from hh]|rw[hh]
 refine aM (cO (wpAny_throw ?_));exact hE _ _ (((Ie ..).extBut.push _).push _) ⟨_,j7 _ rfl,rfl⟩
end
theorem Draws.tup{prog:ξ}{w:τ}{A:υ}(hh:A.handled=none)(it l:Addr)(hne:l≠it)(items:Array ζ):
  Draws prog w A it [it,l] items.size (fun i v=>items[i]? =some v) (fun i h=>h.IsTupleIter it l i/\h.IsTuple l items) where
 live:=fun i h st=>by obtain⟨⟨o,e,_⟩,_⟩:=st;exact⟨o,e⟩
 frame:=fun i h h' st k=>⟨st.1.at fun o e=>k it (by simp) o e,st.2.at fun o e=>k l (by simp) o e⟩
 item:=fun i s Q E hi st hQ=>by
  have hx:items[i]? =some items[i]:=wdx hi;exact Bj st.1 st.2 hx fun h' hit' hs=>hQ _ h' s.toks hx ⟨hit',st.2.at fun o e=>(hs.2 l hne).trans e⟩ hs
 done:=fun s Q E st hE=>su hh st.1 st.2 (Array.getElem?_eq_none (aN _)) hE
section
variable{prog:ξ}{w:τ}{A:υ}{E:L3}{s:η}
theorem uc{l:Addr}{items:Array ζ}{Q:L3}(hL:s.heap.IsTuple l items)(h:∀h',IsEnum h' (s.heap.objs.size+1) s.heap.objs.size 0 .none->h'.IsTupleIter s.heap.objs.size l 0->h'.objs.size=s.heap.objs.size+2->(∀b o,s.heap.get? b=some o->h'.get? b=some o)->Q (.ref (s.heap.objs.size+1)) {s with heap:=h'}):
  wpAny (model prog w) A (call (.type "enumerate") [.ref l]) Q E s:=by
 obtain⟨⟨c,dct,dt,sl⟩,hl,hc,n,hd⟩:=hL;replace hc:c= .type "tuple":=hc;replace hd:dt= .seq items n:=hd;subst hc hd;refine callType_new F.called_enumerate (by decide) (F.typeCall_enumerate_1 _) (F.newCall_enumerate_1 _) (fun obj=>F.args_object_init_2 obj _) F.entry_enumerate_new (wg l items n dct sl) ⟨hl,?_⟩;have hz:(s.heap.push {cls:= .type "tuple_iterator",data:= .fields #[.ref l,.int 0 0]}).objs.size=s.heap.objs.size+1:=MN ..;show _/\_;rw[hz];have he:IsEnum ((s.heap.push {cls:= .type "tuple_iterator",data:= .fields #[.ref l,.int 0 0]}).push {cls:= .type "enumerate",data:= .fields #[.none,.bool false,.ref s.heap.objs.size,rawInt 0,.none,.none]}) (s.heap.objs.size+1) s.heap.objs.size 0 .none:=by
  have:=j7 (s.heap.push {cls:= .type "tuple_iterator",data:= .fields #[.ref l,.int 0 0]}) (o:={cls:= .type "enumerate",data:= .fields #[.none,.bool false,.ref s.heap.objs.size,rawInt 0,.none,.none]}) rfl;rw[hz]at this;exact this
 exact⟨⟨_,he,rfl⟩,h _ he ⟨_,gP _ (j7 _ rfl),rfl,rfl⟩ (by rw[MN,hz]) fun b o x=>gP _ (gP _ x)⟩
end
end PySem
namespace L2
open PySem PySem.Spec PyProof.Rows
section
variable{X:Cx}{pins:L1}{σ:St}{H:Hp}{s:η}{h':Heap}
theorem Inv.uw{t':Nat}{fp:List Addr}{T:Addr}{o:HO}(I:Inv X pins σ H s)(k:∀b o,b∉fp->s.heap.get? b=some o->h'.get? b=some o)(hf:∀b∈fp,FpOk X pins H b)(hT:s.heap.objs.size<=T)(new:ObjOk X.prog X.w (upd H T o) h' T o):
  Inv X pins σ (upd H T o) {s with heap:=h',toks:=t'}:=by
 have hTn:H T=none:=I.hok.fresh hT;have Yj:∀b u,H b=some u->b∉fp:=fun b u e z=>by rw[(hf b z).1]at e;cases e
 have neT:∀b o,s.heap.get? b=some o->b≠T:=fun b o e=>fM (iT (dX e) hT);have Yk:∀b u,H b=some u->b≠T:=fun b u e z=>by rw[z,hTn]at e;cases e
 refine I.step (g':=s.gens) (d':=s.drawn) (ch:=fp) (fun b hb=> ?_) (fun b o _ _ hc e _=>k b o hc e) (fun b o _ _ hc e _=>⟨o.slots,k b o hc e⟩) (fun b o _ e n=>by rw[cP (neT b o e)];exact n)
  (fun b o hc e=>⟨o,k b o hc e⟩) (fun b xs e=>by rw[cP (Yk b _ e)];exact e) (fun b o u e=>by rw[cP (Yk b _ e)];exact e) (fun b ps e=>⟨#[],by rw[cP (Yk b _ e),e];simp⟩) (fun m hm=> ?_) (fun b u e=> ?_) I.bare
 ·obtain⟨f0,f1,f2,f3,f4,f5⟩:=hf b hb;exact⟨f3,f1,f4,f5⟩
 ·obtain⟨o,es,ep,ho,r⟩:=hm;exact⟨o,es,ep,k _ o (fun z=>(hf _ z).2.1 rfl) ho,r⟩
 ·by_cases hb:b=T
  ·subst hb;rw[aJ]at e;cases e;exact new
  ·rw[cP hb]at e;refine(I.hok b u e).stay (fun c v hc q=>k c v ?_ q) (fun c q=>by rw[cP (Yk c _ q)];exact q) fun c xs q=>by rw[cP (Yk c _ q)];exact q
   rcases hc with z|z
   ·rw[z];exact Yj b u e
   ·exact Yj c _ z
theorem Inv.turns{t':Nat}{fp:List Addr}(I:Inv X pins σ H s)(k:∀b o,b∉fp->s.heap.get? b=some o->h'.get? b=some o)(hf:∀b∈fp,FpOk X pins H b):Inv X pins σ H {s with heap:=h',toks:=t'}:=by
 have Yj:∀b u,H b=some u->b∉fp:=fun b u e z=>by rw[(hf b z).1]at e;cases e
 refine I.step (g':=s.gens) (d':=s.drawn) (ch:=fp) (fun b hb=> ?_) (fun b o _ _ hc e _=>k b o hc e) (fun b o _ _ hc e _=>⟨o.slots,k b o hc e⟩) (fun b o _ e n=>n)
  (fun b o hc e=>⟨o,k b o hc e⟩) (fun b xs e=>e) (fun b o u e=>e) (fun b ps e=>⟨#[],by rw[e];simp⟩) (fun m hm=> ?_) (fun b u e=> ?_) I.bare
 ·obtain⟨f0,f1,f2,f3,f4,f5⟩:=hf b hb;exact⟨f3,f1,f4,f5⟩
 ·obtain⟨o,es,ep,ho,r⟩:=hm;exact⟨o,es,ep,k _ o (fun z=>(hf _ z).2.1 rfl) ho,r⟩
 ·refine(I.hok b u e).stay (fun c v hc q=>k c v ?_ q) (fun c q=>q) fun c xs q=>q;rcases hc with z|z
  ·rw[z];exact Yj b u e
  ·exact Yj c _ z
end
noncomputable def ZQ(K:W.Frag)(b:Bool)(H:Hp)(a:Addr)(xs:List V):Prop:=match b with
 |false=>SqL K H a xs
 |true=>SqT K H a xs
noncomputable def Ite(K:W.Frag)(b:Bool)(a:Addr)(xs:List V):It:=
 ⟨fun i H=>ZQ K b H a xs/\i<xs.length,fun i H x H'=>∃t v,x= .ref t/\H t=none/\H'=upd H t (.tup [.int (i:Int),v])/\xs[i]? =some v,fun i H=>ZQ K b H a xs/\i=xs.length⟩
theorem Ai{P:ξ}{w:τ}{K:W.Frag}{es:List Expr}{k:Nat}{pos:Pos}(a e it:Addr)(xs:List V)(hne:e≠it):
  Turn P w K (.Tuple es k pos) (Ite K false a xs) [e,it] e (fun i h=>(∃old,IsEnum h e it (i:Int) old)/\h.IsListIter it a i) where
 mem:=by simp
 obj:=fun i h st b hb=>by
  obtain⟨⟨old,he⟩,o,e1,c,d⟩:=st;rcases cQ.mp hb with z|hb
  ·subst z;exact⟨_,he,fun v z=>by cases z⟩
  ·have z:b=it:=by simpa using hb
   subst z;exact⟨o,e1,fun v z=>by rw[d]at z;cases z⟩
 keep:=fun i h h' st k=>⟨st.1.imp fun old he=>k e (by simp) _ he,st.2.at fun o e=>k it (by simp) o e⟩
 item:=by
  intro X hP hw hK hc i pins s σ H E I hf st hg;subst hP hw hK;obtain⟨hq0,hi⟩:=hg;have hq:SqL X.K H a xs:=hq0;obtain⟨its,rv,p,hz⟩:=I.list hq;have hx:xs[i]? =some xs[i]:=eO hi;obtain⟨u,hu,ru⟩:=rv.get hx;obtain⟨⟨old,he⟩,hit⟩:=st;refine wpAny_pyNext_enum_item he hit p.isList (x:=u) (by simpa using hu) hne fun h1 ho hit1 hT hsz hk=>⟨_,rfl,?_⟩;refine wpAny_letOwnedTupleGo_enum ho fun h2 he2 hs2=> ?_;have Br:Heap.SameBut e h1 h2:=hs2;have Ym:s.heap.objs.size≠e:=fun z=>absurd (dX he) (by rw[<-z];exact pR _);have keep:∀b o,b∉[e,it]->s.heap.get? b=some o->h2.get? b=some o:=fun b o hb q=>(Br.2 b fun z=>hb (by simp[z])).trans (hk b o (fun z=>hb (by simp[z])) (fun z=>hb (by simp[z])) q);have hT2:h2.get? s.heap.objs.size=some {cls:= .type "tuple",data:= .seq #[.int i s.toks,u]}:=(Br.2 _ Ym).trans hT;have I2:=I.uw (h':=h2) (t':=s.toks+1) (o:= .tup [.int (i:Int),xs[i]]) keep hf (aN _) ⟨(by show 2<=sizeLine;decide),[.int i s.toks,u],.cons ⟨_,rfl⟩ (.cons ru .nil),_,hT2,rfl,_,rfl⟩;exact⟨.ref s.heap.objs.size,_,I2,rfl,⟨_,_,rfl,I.hok.fresh (aN _),rfl,hx⟩,⟨⟨_,by simpa using he2⟩,hit1.at fun o q=>(Br.2 it hne.symm).trans q⟩,fun b hb=>by
   rw[cP (fun z=> ?_)]
   ·exact(hf b hb).1
   ·obtain⟨_,q1,_⟩:=hit;rcases cQ.mp hb with y|y
    ·exact Ym (z.symm.trans y)
    ·have y:b=it:=by simpa using y
     rw[<-y,z]at q1;exact absurd (dX q1) (pR _)⟩
 done:=by
  intro X hP hw hK hc i pins s σ H E I hf st hg;subst hP hw hK;obtain⟨hq0,hi⟩:=hg;have hq:SqL X.K H a xs:=hq0;obtain⟨its,rv,p,hz⟩:=I.list hq;have hl:=rv.length;obtain⟨⟨old,he⟩,hit⟩:=st;exact wpAny_pyNext_enum_end (I.ok.hd hc) he hit p.isList (by simp;omega) fun h' eb=>⟨rfl,I.turns (t':=s.toks) (fp:=[e,it]) (fun b o hb q=>eb b o (fun z=>hb (by simp[z])) q) hf⟩
 self:=fun _ _ _ _ _ st h=>by
  obtain⟨⟨old,he⟩,_⟩:=st;exact wco he h
theorem Ah{P:ξ}{w:τ}{K:W.Frag}{es:List Expr}{k:Nat}{pos:Pos}(a e it:Addr)(xs:List V)(hne:e≠it)(hat:a≠it)(hae:a≠e):
  Turn P w K (.Tuple es k pos) (Ite K true a xs) [e,it] e (fun i h=>(∃old,IsEnum h e it (i:Int) old)/\h.IsTupleIter it a i) where
 mem:=by simp
 obj:=fun i h st b hb=>by
  obtain⟨⟨old,he⟩,o,e1,c,d⟩:=st;rcases cQ.mp hb with z|hb
  ·subst z;exact⟨_,he,fun v z=>by cases z⟩
  ·have z:b=it:=by simpa using hb
   subst z;exact⟨o,e1,fun v z=>by rw[d]at z;cases z⟩
 keep:=fun i h h' st k=>⟨st.1.imp fun old he=>k e (by simp) _ he,st.2.at fun o e=>k it (by simp) o e⟩
 item:=by
  intro X hP hw hK hc i pins s σ H E I hf st hg;subst hP hw hK;obtain⟨hq0,hi⟩:=hg;have hq:SqT X.K H a xs:=hq0;obtain⟨its,rv,p,hz⟩:=I.tuple hq;have hx:xs[i]? =some xs[i]:=eO hi;obtain⟨u,hu,ru⟩:=rv.get hx;obtain⟨⟨old,he⟩,hit⟩:=st;have hl:=rv.length;have pt:s.heap.IsTuple a its.toArray:=p;have D:=Draws.tup (prog:=X.prog) (w:=X.w) (A:=X.A.in1) (I.ok.hd hc) it a hat its.toArray;refine wpAny_pyNext_enum_itemD D he ⟨hit,pt⟩ (by simp;omega) hne (by simp;exact⟨hne,fun z=>hae z.symm⟩) fun y h1 tk hy ho aat hT hsz hk=>⟨_,rfl,?_⟩;have ey:y=u:=by
   have hu':its.toArray[i]? =some u:=by simpa using hu
   rw[hu']at hy;exact(qY hy).symm
  subst ey;refine wpAny_letOwnedTupleGo_enum ho fun h2 he2 hs2=> ?_;have Br:Heap.SameBut e h1 h2:=hs2;have Ym:s.heap.objs.size≠e:=fun z=>absurd (dX he) (by rw[<-z];exact pR _);have keep:∀b o,b∉[e,it]->s.heap.get? b=some o->h2.get? b=some o:=fun b o hb q=>(Br.2 b fun z=>hb (by simp[z])).trans (hk b o (fun z=>hb (by simp[z])) (fun z=>hb (by simp[z])) q);have hT2:h2.get? s.heap.objs.size=some {cls:= .type "tuple",data:= .seq #[.int i tk,y]}:=(Br.2 _ Ym).trans hT;have I2:=I.uw (h':=h2) (t':=tk+1) (o:= .tup [.int (i:Int),xs[i]]) keep hf (aN _) ⟨(by show 2<=sizeLine;decide),[.int i tk,y],.cons ⟨_,rfl⟩ (.cons ru .nil),_,hT2,rfl,_,rfl⟩;exact⟨.ref s.heap.objs.size,_,I2,rfl,⟨_,_,rfl,I.hok.fresh (aN _),rfl,hx⟩,⟨⟨_,by simpa using he2⟩,aat.1.at fun o q=>(Br.2 it hne.symm).trans q⟩,fun b hb=>by
   rw[cP (fun z=> ?_)]
   ·exact(hf b hb).1
   ·obtain⟨_,q1,_⟩:=hit;rcases cQ.mp hb with y|y
    ·exact Ym (z.symm.trans y)
    ·have y:b=it:=by simpa using y
     rw[<-y,z]at q1;exact absurd (dX q1) (pR _)⟩
 done:=by
  intro X hP hw hK hc i pins s σ H E I hf st hg;subst hP hw hK;obtain⟨hq0,hi⟩:=hg;have hq:SqT X.K H a xs:=hq0;obtain⟨its,rv,p,hz⟩:=I.tuple hq;have hl:=rv.length;obtain⟨⟨old,he⟩,hit⟩:=st;have pt:s.heap.IsTuple a its.toArray:=p;have ei:i=its.toArray.size:=by rw[fH];omega
  subst ei;have D:=Draws.tup (prog:=X.prog) (w:=X.w) (A:=X.A.in1) (I.ok.hd hc) it a hat its.toArray;exact wpAny_pyNext_enum_endD D he ⟨hit,pt⟩ fun h' eb=>⟨rfl,I.turns (t':=s.toks) (fp:=[e,it]) (fun b o hb q=>eb b o (fun z=>hb (by simp[z])) q) hf⟩
 self:=fun _ _ _ _ _ st h=>by
  obtain⟨⟨old,he⟩,_⟩:=st;exact wco he h
section
variable{X:Cx}{es:List Expr}{k:Nat}{S9:Pos}
noncomputable def Yy(K:W.Frag)(ta:TA):TI:=fun σ H R=>ta σ H fun vs H1=>∃(b:Bool) (a:Addr) (xs:List V),vs=[.ref a]/\ZQ K b H1 a xs/\(xs.length<=sizeLine->R (Ite K b a xs) H1)
theorem vD{a:Expr}{ta:TA}{p pos:Pos}(hg:Gl X "enumerate")(hm:X.mg "enumerate"=none)(ha:PA X [a] ta)(hs:starEach [a] X.env=[(false,eval a X.env)]:=by rfl):
  PI X (.Tuple es k S9) (.Call (.Name "enumerate" p) [a] [] pos) (Yy X.K ta):=by
 intro pins s σ H R I h;refine Call_ (ld_blt I hg hm (show bootBuiltins "enumerate"=some (.type "enumerate")from by decide+kernel) (Mp (thn (ha pos pins s σ H _ I h) fun us s1 ⟨vs,H1,I1,r1,q1⟩=> ?_) hs rfl));obtain⟨b,l,xs,e,hq,q⟩:=q1;subst e;cases r1 with
 |cons r rr=>
  cases rr;cases r;cases b with
  |false=>
   obtain⟨its,rv,pl,hz⟩:=I1.list (show SqL X.K H1 l xs from hq);refine call_enumerate_list pl.isList fun h' he hit hsz hk=> ?_;refine wco he ?_;have I2:Inv X pins σ H1 {s1 with heap:=h'}:=I1.kept (t':=s1.toks) hk;have hne:s1.heap.objs.size+1≠s1.heap.objs.size:=Nat.succ_ne_self _;refine⟨s1.heap.objs.size+1,[s1.heap.objs.size+1,s1.heap.objs.size],_,_,H1,rfl,I2,Ai l _ _ xs hne,⟨⟨_,he⟩,hit⟩,fun c hc=> ?_,q hz⟩;rcases cQ.mp hc with z|z
   ·subst z;exact I1.fpOk (Hl _) (I1.hok.fresh (Hl _))
   ·have z:c=s1.heap.objs.size:=by simpa using z
    subst z;exact I1.fpOk (aN _) (I1.hok.fresh (aN _))
  |true=>
   obtain⟨its,rv,pl,hz⟩:=I1.tuple (show SqT X.K H1 l xs from hq);have pt:s1.heap.IsTuple l its.toArray:=pl;have hlt:l<s1.heap.objs.size:=by obtain⟨_,e,_⟩:=id pt;exact dX e
   refine uc pt fun h' he hit hsz hk=> ?_;refine wco he ?_;have I2:Inv X pins σ H1 {s1 with heap:=h'}:=I1.kept (t':=s1.toks) hk;have hne:s1.heap.objs.size+1≠s1.heap.objs.size:=Nat.succ_ne_self _;refine⟨s1.heap.objs.size+1,[s1.heap.objs.size+1,s1.heap.objs.size],_,_,H1,rfl,I2,Ah l _ _ xs hne (fM hlt) (fM (qU hlt)),⟨⟨_,he⟩,hit⟩,fun c hc=> ?_,q hz⟩;rcases cQ.mp hc with z|z
   ·subst z;exact I1.fpOk (Hl _) (I1.hok.fresh (Hl _))
   ·have z:c=s1.heap.objs.size:=by simpa using z
    subst z;exact I1.fpOk (aN _) (I1.hok.fresh (aN _))
end
section
variable{ini:St}{H:Hp}{g:TG}{tc:TT}{te:TE}{Fin:List V->Hp->Prop}{K:W.Frag}{b:Bool}{a:Addr}{xs:List V}
theorem oH(Pv:Nat->List V->St->Hp->Prop)(h0:Pv 0 [] ini H)(hl:∀(i:Nat) acc σ H,i<=xs.length->Pv i acc σ H->ZQ K b H a xs)(hz:∀(i:Nat) acc σ H,i<=xs.length->Pv i acc σ H->acc.length<=i)(hx:xs.length<=sizeLine)(hs:∀(i:Nat) v t acc σ H,xs[i]? =some v->Pv i acc σ H->H t=none->g (.ref t) σ (upd H t (.tup [.int (i:Int),v])) fun σ2 H2=>tc σ2 H2 fun b H3=>if b=true then te σ2 H3 fun v H4=>Pv (i+1) (acc++[v]) σ2 H4 else Pv (i+1) acc σ2 H3)(hd:∀acc σ H,Pv xs.length acc σ H->Fin acc H):zT (Ite K b a xs) ini H g tc te Fin:=by
 refine⟨fun i m acc σ H=>m=xs.length-i/\i<=xs.length/\Pv i acc σ H,⟨xs.length,by simp,dw _,h0⟩,?_⟩;rintro i m acc σ H ⟨rfl,hi,p⟩;have q:=hl i acc σ H hi p;have z:=hz i acc σ H hi p;by_cases hlt:i<xs.length
 ·refine .inr ⟨⟨q,hlt⟩,by omega,fun acc σ H=>Pv (i+1) acc σ H,fun acc' σ' H' r=>⟨_,by omega,rfl,hlt,r⟩,fun x H' y=> ?_⟩;obtain⟨t,v,rfl,ht,rfl,hv⟩:=y;exact hs i v t acc σ H hv p ht
 ·have e:i=xs.length:=by omega
  subst e;exact .inl ⟨⟨q,rfl⟩,by omega,hd acc σ H p⟩
end
section
variable{X:Cx}
theorem JD(K:W.Frag)(h:X.K=K:=by rfl):OpR X (binaryOp .Add) (Rk K):=by subst h;exact Oc
end
theorem vh{s u:TS}{D:Ends}{σ:St}{H:Hp}(I:St->Hp->Prop)(h1:∀N:St->Hp->Prop,(∀σ' H',I σ' H'->N σ' H')->s {D with nx:=N} σ H)(h2:∀σ' H',I σ' H'->u D σ' H'):tSeq s u D σ H:=h1 (u D) h2
theorem BK:∀(names:List (Str×NameKind)) (n:Nat) (acc:List (Str×Addr)) {x:Str} {c:Addr},(x,c)∈cellsFrom n names acc->(x,c)∈acc\/((x,NameKind.cell)∈names/\n<=c)
 |[],_,_,_,_,h=> .inl h
 |(nm,k)::r,n,acc,x,c,h=>by
  unfold cellsFrom at h;split at h
  ·rename_i hk;have ek:k=NameKind.cell:=by simpa using hk
   rcases BK r _ _ h with q|⟨q,m⟩
   ·rcases cQ.mp q with e|e
    ·cases e;subst ek;exact .inr ⟨cV,aN _⟩
    ·exact .inl e
   ·exact .inr ⟨dF _ q,by omega⟩
  ·rcases BK r _ _ h with q|⟨q,m⟩
   ·exact .inl q
   ·exact .inr ⟨dF _ q,m⟩
theorem wD:∀(names:List (Str×NameKind)) (n:Nat) (acc:List (Str×Addr)) {p:Str×Addr},p∈acc->p∈cellsFrom n names acc
 |[],_,_,_,h=>h
 |(nm,k)::r,n,acc,p,h=>by
  unfold cellsFrom;split
  ·exact wD r _ _ (dF _ h)
  ·exact wD r _ _ h
theorem BP:∀(names:List (Str×NameKind)) (n:Nat) (acc:List (Str×Addr)) {x:Str},(x,NameKind.cell)∈names->∃c,(x,c)∈cellsFrom n names acc
 |(nm,k)::r,n,acc,x,h=>by
  unfold cellsFrom;rcases cQ.mp h with e|e
  ·cases e;rw[aA (show(NameKind.cell==NameKind.cell)=true from rfl)];exact⟨n,wD r _ _ cV⟩
  ·split
   ·exact BP r _ _ e
   ·exact BP r _ _ e
theorem BL{n0:Nat}:∀(names:List (Str×NameKind)) (n:Nat) (acc:List (Str×Addr)),n0<=n->(∀x y c,(x,c)∈acc->(y,c)∈acc->n0<=c->x=y)->(∀x c,(x,c)∈acc->c<n)->∀x y c,(x,c)∈cellsFrom n names acc->(y,c)∈cellsFrom n names acc->n0<=c->x=y
 |[],_,_,_,h,_=>h
 |(nm,k)::r,n,acc,hn,h,hl=>by
  unfold cellsFrom;split
  ·refine BL r (n+1) ((nm,n)::acc) (by omega) (fun x y c hx hy hc=> ?_) (fun x c hx=> ?_)
   ·rcases cQ.mp hx with e1|e1<;>rcases cQ.mp hy with e2|e2
    ·cases e1;cases e2;rfl
    ·cases e1;exact absurd (hl _ _ e2) (pR _)
    ·cases e2;exact absurd (hl _ _ e1) (pR _)
    ·exact h x y c e1 e2 hc
   ·rcases cQ.mp hx with e1|e1
    ·cases e1;exact tM _
    ·exact qU (hl _ _ e1)
  ·exact BL r n acc hn h hl
theorem wC:∀(names:List (Str×NameKind)) (h:Heap) (acc:List (Str×Addr)) {x:Str} {c:Addr},(x,c)∈cellsFrom h.objs.size names acc->(x,c)∈acc\/(pushCells h names).IsCell c none
 |[],_,_,_,_,h=> .inl h
 |(nm,k)::r,h,acc,x,c,hm=>by
  unfold cellsFrom at hm;unfold pushCells;split at hm
  ·rename_i hk;rw[aA hk];have hm':(x,c)∈cellsFrom (h.push {cls:= .type "cell",data:= .cell none}).objs.size r ((nm,h.objs.size)::acc):=by rw[MN];exact hm
   rcases wC r (h.push {cls:= .type "cell",data:= .cell none}) _ hm' with q|q
   ·rcases cQ.mp q with e|e
    ·cases e;exact .inr ⟨_,wdn _ _ _ _ (j7 _ rfl),rfl⟩
    ·exact .inl e
   ·exact .inr q
  ·rename_i hk;rw[aq hk];exact wC r h acc hm
theorem Ov{M:Model}{A:υ}{E:L3}{s:η}{scope:Scope}{globals:Addr}{closure:List (Str×Addr)}{qual:Str}{env:Env}{Q:Env->η->Prop}(hQ:Q (newEnv scope s.heap.objs.size globals (cellsFrom (s.heap.objs.size+1) scope.names closure) qual none Value.none (some env) 0) {s with heap:=pushCells (s.heap.push {cls:= .type "dict",data:= .dict #[]}) scope.names}):
  wpAny M A (newFunctionEnv scope globals closure [] qual none .none (some env)) Q E s:=by
 simp only[newFunctionEnv,Option.isSome_some,RQ];refine aM (wpAny_alloc ?_);refine aM (wpAny_layCells _ (fun name kind cells=>by cases hkc:kind==NameKind.cell<;>simp[hkc]) _ _ _ _ ?_);rw[List.forIn_nil];refine aM (cO (cO ?_));rw[show({s with heap:=s.heap.push {cls:= .type "dict",data:= .dict #[]}}:η).heap.objs.size=s.heap.objs.size+1 from MN ..];exact hQ
noncomputable def aP(sc scope:Scope):Bool:=scope.names.all fun p=>(p.2 !=NameKind.cell||scope.names.lookup p.1==some NameKind.cell)&&(p.2 !=NameKind.local||scope.names.lookup p.1==some NameKind.local)&&
 (p.2 !=NameKind.free||(scope.names.lookup p.1==some NameKind.free&&(sc.names.lookup p.1==some NameKind.cell||sc.names.lookup p.1==some NameKind.free)))
section
variable{sc scope:Scope}
theorem aP.cell(h:aP sc scope=true){x:Str}(hy:(x,NameKind.cell)∈scope.names):scope.names.lookup x=some .cell:=by
 have q:=j6.mp h _ hy;simpa using q
theorem aP.names(h:aP sc scope=true):∀y∈scope.names,y.2= .local->scope.names.lookup y.1=some .local:=fun y hy e=>by
 have q:=j6.mp h y hy;simpa[e]using q
theorem aP.free(h:aP sc scope=true){x:Str}(hy:(x,NameKind.free)∈scope.names):scope.names.lookup x=some .free/\(sc.names.lookup x=some .cell\/sc.names.lookup x=some .free):=by
 have q:=j6.mp h _ hy;simpa using q
end
theorem xZ{scope:Scope}{env:Env}{x:Str}(h:(relabel scope env).names.lookup x=some .cell\/(relabel scope env).names.lookup x=some .free):(x,NameKind.free)∈scope.names\/(x,NameKind.cell)∈scope.names:=by
 cases e:scope.names.lookup x with
 |none=>
  have q:=rT (env:=env) e;rcases h with h|h
  ·rw[show(relabel scope env).names.lookup x=none from q]at h;cases h
  ·rw[show(relabel scope env).names.lookup x=none from q]at h;cases h
 |some k=>
  have q:=lq (env:=env) e;have m:=was e;by_cases hk:k= .free
  ·subst hk;exact .inl m
  ·have q':(relabel scope env).names.lookup x=some k:=by
    refine Eq.trans q ?_;have:(k==NameKind.free)=false:=by simpa using hk
    simp[this]
   rw[q']at h;rcases h with h|h
   ·cases h;exact .inr m
   ·cases h;exact absurd rfl hk
noncomputable def bK(X:Cx)(scope:Scope)(N:List Str)(s:η)(H:Hp)(cl:List (Str×Addr))(C:Addr)(ex:List Addr):Cx:=
 {X with N:=N,s₀:=s,H₀:=H,env:=compEnvC scope cl C X.env,outer:=X.stack,ex:=ex,fn:=fun x=>scope.names.lookup x==some NameKind.cell,pn:=[],xe:=fun _ _=>False}
section
variable{X:Cx}{tg iter elt:Expr}{ifs:List Expr}{scope:Scope}{pos:Pos}{own caps:List Str}{ix:List Nat}{g:TG}{tc:TT}{te:TE}
noncomputable abbrev Hx(X:Cx)(scope:Scope)(C:Addr):List (Str×Addr):=cellsFrom (C+1) scope.names (jP X.env.cells scope.names [])
theorem wB{pins:L1}{s:η}{σ:St}{H:Hp}{C:Addr}(ck:aP X.env.scope scope=true)(I:Inv X pins σ H s){x:Str}{c:Addr}(e:(Hx X scope C).lookup x=some c):
  (X.env.cells.lookup x=some c/\(x,NameKind.free)∈scope.names)\/((x,NameKind.cell)∈scope.names/\C<c/\(x,c)∉jP X.env.cells scope.names []):=by
 have old:(x,c)∈jP X.env.cells scope.names []->X.env.cells.lookup x=some c/\(x,NameKind.free)∈scope.names:=fun q=>by
  rcases mQ q with q|⟨q,mm⟩
  ·cases q
  ·obtain⟨d,hd⟩:=I.ok.has x (aP.free ck mm).2;rw[hd]at q;have q:c=d:=q;rw[q];exact⟨hd,mm⟩
 rcases BK _ _ _ (was e)with q|⟨q,m⟩
 ·exact .inl (old q)
 ·refine .inr ⟨q,m,fun z=> ?_⟩;have h1:=aP.cell ck q;have h2:=(aP.free ck (old z).2).1;rw[h1]at h2;cases h2
theorem zE{pins:L1}{s s':η}{σ:St}{H:Hp}{fp:List Addr}{C:Addr}{m:L4}(ck:aP X.env.scope scope=true)(hkind:scope.kind= .function)(hcap:iI X scope caps ix)
  (I:Inv X pins σ H s)(f2:∀b∈fp,FpOk X pins H b)(hlt:∀b∈fp,b<s.heap.objs.size)(hC:s.heap.objs.size<=C)(hos:s'.os=s.os)(hg:AllBare s'.gens)(hk:∀b o,s.heap.get? b=some o->s'.heap.get? b=some o)(hn:s'.heap.Ns C m)(hcl:∀x c,(Hx X scope C).lookup x=some c->(x,c)∉jP X.env.cells scope.names []->s'.heap.IsCell c none):
  Inv (bK X scope (own++caps) s H (Hx X scope C) C fp) [] (yO own ix σ) H s':=by
 have cl1:=fun x c e=>wB (C:=C) (x:=x) (c:=c) ck I e;have DQ:∀x c,X.env.cells.lookup x=some c->c<s.heap.objs.size:=fun x c e=>by
  obtain⟨v,o,ho,_⟩:=I.cell x c e;exact dX ho
 have cl2:∀x,(x,NameKind.free)∈scope.names\/(x,NameKind.cell)∈scope.names->∃c,(Hx X scope C).lookup x=some c:=fun x mm=>by
  rcases mm with mm|mm
  ·obtain⟨c,hc⟩:=zG (cells:=X.env.cells) (acc:=[]) mm;obtain⟨d,hd,_⟩:=zbo (wD scope.names (C+1) _ hc);exact⟨d,hd⟩
  ·obtain⟨c,hc⟩:=BP scope.names (C+1) (jP X.env.cells scope.names []) mm;obtain⟨d,hd,_⟩:=zbo hc;exact⟨d,hd⟩
 have inj:∀x y c,(Hx X scope C).lookup x=some c->(Hx X scope C).lookup y=some c->x=y:=fun x y c h1 h2=>by
  rcases cl1 x c h1 with⟨q1,_⟩|⟨q1,m1,_⟩<;>rcases cl1 y c h2 with⟨q2,_⟩|⟨q2,m2,_⟩
  ·exact I.ok.inj x y c q1 q2
  ·exact absurd (MK (iT (DQ x c q1) hC) m2) (pR _)
  ·exact absurd (MK (iT (DQ y c q2) hC) m1) (pR _)
  ·refine BL (n0:=C+1) scope.names (C+1) _ (aN _) (fun x y c hx hy hc=> ?_) (fun x c hx=> ?_) x y c (was h1) (was h2) m1
   ·obtain⟨d,hd,_⟩:=zbo hx;rcases mQ hx with q|⟨q,mm⟩
    ·cases q
    ·obtain⟨d,hd⟩:=I.ok.has x (aP.free ck mm).2;rw[hd]at q;have q:c=d:=q;subst q;exact absurd (iT (iT (DQ x c hd) hC) (dH hc)) (pR _)
   ·rcases mQ hx with q|⟨q,mm⟩
    ·cases q
    ·obtain⟨d,hd⟩:=I.ok.has x (aP.free ck mm).2;rw[hd]at q;have q:c=d:=q;subst q;exact qU (iT (DQ x c hd) hC)
 have bsz:X.base.objs.size<=s.heap.objs.size:=eN I.ok.bsz I.sz;refine⟨⟨I.ok.mod,hkind,I.ok.glob,I.ok.blt,hC,inj,fun x hx=>cl2 x (xZ hx),fun x c h e=> ?cab,I.ok.hd,I.ok.frames,.inl rfl,fun b hb=>⟨fM (iT (hlt b hb) hC),fun x c e=> ?exf⟩,I.bs,bsz,
  fun b o e hb=> ?_,fun b hb hz=> ?_,I.stack,I.stkFree⟩,?_,hg,Un.kept hk,⟨m,hn,fun i x v h1 h2 h3=> ?_⟩,fun x c e=> ?_,I.hok.fresh hC,fun x c e=> ?frc,fun p hp=>absurd (show p∈([]:L1)from hp) (by simp),I.hok.kept hk,?_⟩
 case cab=>
  rcases cl1 x c e with⟨_,q⟩|⟨_,q,_⟩
  ·have y1:=(aP.free ck q).1;have y2:(scope.names.lookup x==some NameKind.cell)=true:=h;rw[y1]at y2;exact absurd y2 (by decide)
  ·exact eN hC (dH q)
 case exf=>
  rcases cl1 x c e with⟨q,_⟩|⟨_,q,_⟩
  ·exact(f2 b hb).2.2.2.2.1 x c q
  ·exact jU (fM (MK (iT (hlt b hb) hC) q))
 case frc=>
  rcases cl1 x c e with⟨q,_⟩|⟨_,q,_⟩
  ·exact I.freeC x c q
  ·exact I.hok.fresh (eN hC (dH q))
 ·rcases(f2 b hb).2.2.2.1 with z|z
  ·exact I.ok.noex b o e z
  ·exact absurd (iT (dX e) (eN I.ok.bsz z)) (pR _)
 ·rcases cQ.mp (I.stkSub b hz)with z|z
  ·exact(f2 b hb).2.1 z
  ·exact(f2 b hb).2.2.1 z
 ·exact hos
 ·have h1:(own++caps)[i]? =some x:=h1;have h2:(own.map (fun _=>(none:Option V))++ix.map fun j=>(σ[j]?).join)[i]? =some (some v):=h2;by_cases hi:i<own.length
  ·rw[ydf (by simpa using hi),cU]at h2;cases e:own[i]? <;>rw[e]at h2<;>simp at h2
  ·rw[VD (by simpa using hi)]at h2;rw[VD (by omega)]at h1;rw[aG]at h2;obtain⟨j,e1,e2,e3⟩:=hcap.get h1;rw[cU,e1]at h2;have h2':(σ[j]?).join=some v:=by simpa using h2
   have h4:σ[j]? =some (some v):=by
    cases q:σ[j]? with
    |none=>rw[q]at h2';cases h2'
    |some w=>rw[q]at h2';exact gq some h2'
   obtain⟨m0,hn0,hl0⟩:=I.loc;have mm:=was e3;have vis:=(aP.free ck mm).2;obtain⟨u,r,l⟩:=hl0 j x v e2 h4 (.inr vis);refine⟨u,r,.inr ?_⟩;rcases l with⟨k,_⟩|⟨k,c,e,z⟩
   ·rcases vis with q|q
    ·rw[show X.env.kindOf x=some .cell from q]at k;cases k
    ·rw[show X.env.kindOf x=some .free from q]at k;cases k
   ·obtain⟨d,hd⟩:=cl2 x (.inl mm);rcases cl1 x d hd with⟨this,_⟩|⟨qc,_⟩
    ·rw[e]at this;cases this;exact⟨Az e3,c,hd,z.keeps hk⟩
    ·have y1:=aP.cell ck qc;rw[e3]at y1;cases y1
 ·rcases cl1 x c e with⟨q,_⟩|⟨_,_,q⟩
  ·obtain⟨v,z⟩:=I.cell x c q;exact⟨v,z.keeps hk⟩
  ·exact⟨none,hcl x c e q⟩
 ·show(own.map (fun _=>(none:Option V))++ix.map fun j=>(σ[j]?).join).length=(own++caps).length;simp[hcap.len]
theorem sV(ck:aP X.env.scope scope=true)(hkind:scope.kind= .function)(hcap:iI X scope caps ix)(hc:X.calm=true)(hg:∀s H cl C ex,PG (bK X scope (own++caps) s H cl C ex) tg g)(ht:∀s H cl C ex,Rz (bK X scope (own++caps) s H cl C ex) ifs tc)(he:∀s H cl C ex,PE (bK X scope (own++caps) s H cl C ex) elt te){pins:L1}{s2:η}{σ:St}{H2:Hp}{E:L3}(I2:Inv X pins σ H2 s2){it:Addr}{fp:List Addr}{tn:Nat->Heap->Prop}{J:It}(T:Turn X.prog X.w X.K tg J fp it tn)(st2:tn 0 s2.heap)(f2:∀b∈fp,FpOk X pins H2 b)
  {W:Nat->Nat->List V->St->Hp->Prop}{m0:Nat}(w0:W 0 m0 [] (yO own ix σ) H2){Fin:List V->Hp->Prop}(turn:∀i m acc σ H,W i m acc σ H->(J.stop i H/\acc.length<=sizeLine/\Fin acc H)\/(J.go i H/\acc.length<sizeLine/\∃N:List V->St->Hp->Prop,(∀acc' σ' H',N acc' σ' H'->∃m',m'<m/\W (i+1) m' acc' σ' H')/\∀x H',J.yld i H x H'->g x σ H' fun σ2 H2=>tc σ2 H2 fun b H3=>
   if b=true then te σ2 H3 fun v H4=>N (acc++[v]) σ2 H4 else N acc σ2 H3))
  {RR:ζ->Addr->Result->η->Prop}(hRR:∀D C s' acc Hf m,Inv X pins σ (upd Hf D (.lst acc)) s'->Hf D=none->s'.heap.Ns C m->FpOk X pins (upd Hf D (.lst acc)) C->Fin acc Hf->RR (.ref D) C (.ok .next) s'):
  wpAny (model X.prog X.w) X.A (newList []) (fun acc s₃=>wpAny (model X.prog X.w) X.A (newFunctionEnv scope X.env.globals (jP X.env.cells scope.names []) [] X.env.qual none .none (some X.env)) (fun cenv s₄=>
   codeAny (model X.prog X.w) X.A (.compStart (.ListComp elt [⟨tg,iter,ifs,0⟩] scope pos) 0 (.ref it) acc {cenv with scope:=relabel scope X.env}) (RR acc cenv.locals) s₄) E s₃) E s2:=by
 refine VR (Ov ?_);generalize hP:s2.heap.push {cls:= .type "list",dict:=none,data:= .seq ([]:List ζ).toArray}=P1;have hC:P1.objs.size=s2.heap.objs.size+1:=by rw[<-hP,MN]
 have hlt:∀b∈fp,b<s2.heap.objs.size:=fun b hb=>by
  obtain⟨o,e,_⟩:=T.obj _ _ st2 b hb;exact dX e
 generalize hh1:pushCells (P1.push {cls:= .type "dict",data:= .dict #[]}) scope.names=h₁;have hns₁:h₁.Ns P1.objs.size (fun _=>none):=by rw[<-hh1];exact(Heap.Ns.new P1 (.type "dict")).keeps (wdn _ _)
 have old:∀b o,s2.heap.get? b=some o->h₁.get? b=some o:=fun b o e=>by
  rw[<-hh1];exact wdn _ _ b o (gP _ (hP▸gP _ e))
 have hD1:h₁.get? s2.heap.objs.size=some {cls:= .type "list",data:= .seq ([]:List ζ).toArray 0}:=by
  rw[<-hh1];exact wdn _ _ _ _ (gP _ (hP▸j7 _ rfl))
 have YZ:∀x c,(Hx X scope P1.objs.size).lookup x=some c->(x,c)∉jP X.env.cells scope.names []->h₁.IsCell c none:=fun x c e n=>by
  have e':(x,c)∈cellsFrom (P1.objs.size+1) scope.names (jP X.env.cells scope.names []):=was e;rw[show P1.objs.size+1=(P1.push {cls:= .type "dict",data:= .dict #[]}).objs.size from(MN ..).symm]at e';rcases wC _ _ _ e' with q|q
  ·exact absurd q n
  ·rw[<-hh1];exact q
 show codeAny (model X.prog X.w) X.A (.compStart (.ListComp elt [⟨tg,iter,ifs,0⟩] scope pos) 0 (.ref it) (.ref s2.heap.objs.size) {newEnv scope P1.objs.size X.env.globals (Hx X scope P1.objs.size) X.env.qual none Value.none (some X.env) 0 with scope:=relabel scope X.env}) (RR (.ref s2.heap.objs.size) P1.objs.size) {s2 with heap:=h₁};generalize Pr:s2.heap.objs.size=D at *;rw[hC]at hns₁ YZ⊢;have entry:Inv (bK X scope (own++caps) s2 H2 (Hx X scope (D+1)) (D+1) fp) [] (yO own ix σ) H2 {s2 with heap:=h₁}:=
  zE ck hkind hcap I2 f2 (by rw[Pr];exact hlt) (by rw[Pr];exact Hl _) rfl I2.bare old hns₁ YZ
 generalize hX':bK X scope (own++caps) s2 H2 (Hx X scope (D+1)) (D+1) fp=X' at entry;have eP:X'.prog=X.prog:=by rw[<-hX'];rfl
 have ew:X'.w=X.w:=by rw[<-hX'];rfl
 have eK:X'.K=X.K:=by rw[<-hX'];rfl
 have eA:X'.A=X.A:=by rw[<-hX'];rfl
 have Ru:X'.calm=true:=by rw[<-hX'];exact hc
 have efs:X'.fs=frs X.stack:=by rw[<-hX'];rfl
 have eex:X'.ex=fp:=by rw[<-hX'];rfl
 have epn:X'.pn=[]:=by rw[<-hX'];rfl
 have es0:X'.s₀=s2:=by rw[<-hX'];rfl
 have eH0:X'.H₀=H2:=by rw[<-hX'];rfl
 have exe:X'.xe=fun _ _=>False:=by rw[<-hX'];rfl
 have Qf:X'.env=compEnvC scope (Hx X scope (D+1)) (D+1) X.env:=by rw[<-hX'];rfl
 have K6:X'.env.locals=D+1:=by rw[Qf];rfl
 have hg':PG X' tg g:=by rw[<-hX'];exact hg _ _ _ _ _
 have ht':Rz X' ifs tc:=by rw[<-hX'];exact ht _ _ _ _ _
 have he':PE X' elt te:=by rw[<-hX'];exact he _ _ _ _ _
 have ecl:∀x c,X'.env.cells.lookup x=some c->c≠D:=fun x c e=>by
  rw[Qf]at e;rcases wB (C:=D+1) ck I2 e with⟨q,_⟩|⟨_,q,_⟩
  ·obtain⟨v',o',ho',_⟩:=I2.cell x c q;exact fM (by rw[<-Pr];exact dX ho')
  ·exact jU (fM (MK (tM D) q))
 have dfs:D∉frs X.stack:=fun hb=>by
  rcases cQ.mp (I2.stkSub D hb)with z|z
  ·exact absurd (Nat.lt_of_lt_of_eq I2.lt Pr) (by rw[z];exact pR _)
  ·exact I2.nofs (CK Pr) z
 have fpn:∀{H':Hp} {o:Obj},(∀b∈fp,H' b=none)->∀b∈fp,FpOk X' [(D,o)] H' b:=fun{H' o} hn b hb=>by
  have hbl:=hlt b hb;refine⟨hn b hb,by rw[K6];exact fM (qU hbl),?_,.inl (by rw[eex];exact hb),fun x c e=> ?_,fun p hp=> ?_⟩
  ·rw[efs];intro z;rcases cQ.mp (I2.stkSub b z)with z|z
   ·exact(f2 b hb).2.1 z
   ·exact(f2 b hb).2.2.1 z
  ·rw[Qf]at e;rcases wB (C:=D+1) ck I2 e with⟨q,_⟩|⟨_,q,_⟩
   ·exact(f2 b hb).2.2.2.2.1 x c q
   ·exact jU (fM (MK (qU hbl) q))
  ·rw[epn]at hp;have:p=(D,o):=by simpa using hp
   rw[this];exact Mg hbl
 have aah:∀{σ':St} {H':Hp} {s':η} {o:Obj},Inv X' [] σ' H' s'->s'.heap.get? D=some o->H' D=none->(∀v,o.data≠.cell v)->Inv X' [(D,o)] σ' H' s':=fun{σ' H' s' o} I e n d=>
  I.pins_of fun p hp=>by
   have:p=(D,o):=by simpa using hp
   subst this;exact⟨e,n,by rw[K6];exact fM (tM D),by rw[efs];exact dfs,d⟩
 have loop:∀s₃:η,s₃={s2 with heap:=h₁}->
   codeAny (model X.prog X.w) X.A (.compLoop (.ListComp elt [⟨tg,iter,ifs,0⟩] scope pos) 0 (.ref it) (.ref D) X'.env) (RR (.ref D) (D+1)) s₃:=by
  intro s₃ hs₃;refine codeAny_loop rfl (fun n s'=>∃i acc its k σ' H',Inv X' [] σ' H' s'/\tn i s'.heap/\(∀b∈fp,H' b=none)/\s'.heap.get? D=some {cls:= .type "list",data:= .seq (List.toArray its) k}/\Vals acc its/\H' D=none/\W i n acc σ' H') ?_ m0
   ⟨0,[],[],0,yO own ix σ,H2,by rw[hs₃];exact entry,by rw[hs₃];exact T.keep _ _ _ st2 fun b _ o e=>old b o e,fun b hb=>(f2 b hb).1,by rw[hs₃];exact hD1,.nil,I2.hok.fresh (CK Pr),w0⟩
  rintro n s3 ⟨i,acc,its,k,σ3,H3,I3,st3,fr3,eD,rv,nD,w3⟩;show wpAny _ X.A ((compTurn (.ListComp elt [⟨tg,iter,ifs,0⟩] scope pos) 0 (.ref it) (.ref D) X'.env).onRaise (fun x=>do noteFrame x X'.env;theTreesLotGoes x)) _ _ s3;refine wpAny_noted ?_;rw[compTurn_list];have noE:∀{α:Type} {t:Sem α} {Q:α->η->Prop} {E':L3} {s:η},wpAny (model X'.prog X'.w) X'.A t Q X'.xe s->wpAny (model X.prog X.w) X.A t Q E' s:=fun{α t Q E' s} h=>by
   rw[eP,ew,eA,exe]at h;exact Mi h (fun _ _ q=>q) fun _ _ z=>z.elim
  have I3':=aah (o:={cls:= .type "list",data:= .seq (List.toArray its) k}) I3 eD nD (fun v z=>by
   have z':Data.seq (List.toArray its) k=Data.cell v:=z;cases z')
  refine aM (wpAny_standAt (aM ?_));rcases turn i n acc σ3 H3 w3 with⟨stop,hz,fin⟩|⟨go,hz,Nn,hN,step⟩
  ·have q:=T.done X' eP ew eK Ru i [(D,_)] s3 σ3 H3 (notedBy (model X.prog X.w) X.A X'.env fun e s'=>RR (.ref D) (D+1) (.error e) s') I3' (fpn fr3) st3 stop;rw[eA]at q;refine thn q fun r s4 ⟨hr,I4⟩=> ?_;subst hr;refine cO ?_;obtain⟨e4,_⟩:=I4.pin (D,_) (lU _ cV);obtain⟨mC,hnC,_⟩:=I4.loc;have u4:=I4.base;rw[efs,eex,eH0,es0]at u4;have ok4:=I4.hok;rw[eP,ew]at ok4;have nC:H3 (D+1)=none:=by have:=I4.free;rw[K6]at this;exact this
   have hok:HOk X.prog X.w (upd H3 D (.lst acc)) s4.heap:=ok4.add nD ⟨hz,its,k,rv,e4⟩;refine hRR D (D+1) s4 acc H3 mC ?_ nD (by rw[K6]at hnC;exact hnC) ?_ fin
   ·refine I2.call' (s':=s4) (ch:=fp) ?_ (u4.add (by rw[Pr];exact aN _) nD) hok I4.bare fun b hb=> ?_
    ·have:=I4.os;rw[es0]at this;exact this
    ·obtain⟨f0,f1,f3,f4,f5,f6⟩:=f2 b hb;exact⟨f4,f1,f5,f6⟩
   ·refine I2.fpOk (by rw[Pr];exact Hl _) ?_;rw[cP (Mg (tM D))];exact nC
  ·have q:=T.item X' eP ew eK Ru i [(D,_)] s3 σ3 H3 (notedBy (model X.prog X.w) X.A X'.env fun e s'=>RR (.ref D) (D+1) (.error e) s') I3' (fpn fr3) st3 go;rw[eA]at q;refine thn q fun r s4 ⟨u,hr,h4⟩=> ?_;subst hr;dsimp only;refine aM (thn h4 fun _ s5 ⟨x,H5,I5,r5,y5,st5,fr5⟩=> ?_);have I5':=I5.pinned (fpn fr5) (T.obj _ _ st5);have again:∀{σ7:St} {H7:Hp} {s7:η},Inv X' ([(D,{cls:= .type "list",data:= .seq (List.toArray its) k})]++pinsAt fp s5.heap) σ7 H7 s7->tn (i+1) s7.heap/\(∀b∈fp,H7 b=none)/\s7.heap.get? D=some {cls:= .type "list",data:= .seq (List.toArray its) k}/\H7 D=none:=fun{σ7 H7 s7} I7=>by
    refine⟨T.keep _ _ _ st5 fun b hb o e=>(I7.pin (b,o) (lU _ (lU _ (mem_pinsAt hb e)))).1,fun b hb=> ?_,?_⟩
    ·obtain⟨o,e,d⟩:=T.obj _ _ st5 b hb;exact(I7.pin (b,o) (lU _ (lU _ (mem_pinsAt hb e)))).2.1
    ·have:=I7.pin (D,_) (lU _ (RM _ cV));exact⟨this.1,this.2.1⟩
   refine aM (thn (noE (hg' _ s5 σ3 H5 x u _ I5' r5 (step x H5 y5))) fun _ s6 ⟨σ6,H6,I6,q6⟩=> ?_);refine aM (thn (noE (ht' _ s6 σ6 H6 _ I6 q6)) fun ok s7 ⟨H7,I7,q7⟩=> ?_);cases ok with
   |false=>
    rw[aq qZ]at q7;obtain⟨m',hm,w7⟩:=hN _ _ _ q7;obtain⟨a1,a2,a3,a4⟩:=again I7;exact cO ⟨rfl,m',hm,i+1,acc,its,k,σ6,H7,I7.pins_of (fun p hp=>nomatch hp),a1,a2,a3,rv,a4,w7⟩
   |true=>
    rw[aA rfl]at q7;refine aM (aM (thn (noE (he' _ s7 σ6 H7 _ I7 q7)) fun v s8 ⟨y,H8,I8,r8,q8⟩=> ?_));obtain⟨m',hm,w8⟩:=hN _ _ _ q8;obtain⟨a1,a2,a3,a4⟩:=again I8;have hl:=rv.length;refine aM (RV F.slot_list_append ⟨_,a3,rfl⟩ F.entry_list_append (F.args_list_append_2 _ _) (PySem.list_append D its.toArray k v (by rw[fH];omega)) ⟨a3,?_⟩);refine cO (cO ⟨rfl,m',hm,i+1,acc++[y],its++[v],?_⟩);have qD:=PySem.IsL.update a3 (fun a:Array ζ=>a.push v);rw[List.push_toArray]at qD;have kp:∀b o,b≠D->s8.heap.get? b=some o->(s8.heap.update D (Obj.mapSeq fun a=>a.push v)).get? b=some o:=fun b o hb e=>(wci s8.heap _ (jU hb)).trans e;have I8':Inv X' [] σ6 H8 {s8 with heap:=s8.heap.update D (Obj.mapSeq fun a=>a.push v)}:=by
     refine(I8.pins_of (pins':=[]) (fun p hp=>nomatch hp)).turned (t':=s8.toks) (it:=D) kp a4 (by rw[K6];exact fM (tM D)) (.inr (by rw[es0,Pr];exact aN _)) (fun x c e=>ecl x c e) (fun p hp=> ?_);rw[epn]at hp;exact nomatch hp
    exact⟨_,σ6,H8,I8',T.keep _ _ _ a1 fun b hb o e=>kp b o (fM (hlt b hb)) e,a2,qD,rv.append (.cons r8 .nil),a4,w8⟩
 have Zw:({newEnv scope (D+1) X.env.globals (Hx X scope (D+1)) X.env.qual none Value.none (some X.env) 0 with scope:=relabel scope X.env}:Env)=X'.env:=by rw[Qf];rfl
 have L:=loop _ rfl;rw[<-Zw]at L;exact codeAny_compStart_list L (T.self X.A 0 _ _ _ (T.keep _ _ _ st2 fun b _ o e=>old b o e) L)
end
section
variable{X:Cx}{tg iter elt:Expr}{ifs:List Expr}{scope:Scope}{pos:Pos}{own caps:List Str}{ix:List Nat}{wi:TI}{g:TG}{tc:TT}{te:TE}
theorem JC(hc:X.calm=true)(hi:PI X tg iter wi)(ck:aP X.env.scope scope=true)(hkind:scope.kind= .function)(hcap:iI X scope caps ix)(hg:∀s H cl C ex,PG (bK X scope (own++caps) s H cl C ex) tg g)(ht:∀s H cl C ex,Rz (bK X scope (own++caps) s H cl C ex) ifs tc)(he:∀s H cl C ex,PE (bK X scope (own++caps) s H cl C ex) elt te)(hs:∀x,foldedSetIterable iter X.env x=pure x:=by intro _;rfl):PE X (.ListComp elt [⟨tg,iter,ifs,0⟩] scope pos) (Dc wi own ix g tc te):=by
 intro pins s σ H Q I h;rw[eval_ListComp];refine wpAny_comprehension_free (use:=none) rfl hs (sW fun x hx=>I.ok.has x ((aP.free ck hx).2)) hkind (aP.names ck) (thn (hi pins s σ H _ I h) fun xv s1 h1=>thn h1 fun itv s2 h2=> ?_);obtain⟨it,fp,tn,J,H2,e,I2,T,st2,f2,W,⟨m0,w0⟩,turn⟩:=h2;subst e;refine sV (RR:=fun acc C=>compPost (model X.prog X.w) X.A X.xe none (EP X pins σ Q) acc C) ck hkind hcap hc hg ht he I2 T st2 f2 w0 turn ?_;intro D C s' acc Hf m I' nD hn fC fin;refine⟨m,hn,fun h' sb=> ?_⟩;obtain⟨f0,f1,f3,f4,f5,f6⟩:=fC;exact⟨.ref D,_,I'.turned (t':=s'.toks) (it:=C) (fun b o hb e=>(sb.2 b hb).trans e) f0 f1 f4 f5 f6,rfl,fin D nD⟩
theorem pK{X:Cx}{tg iter elt:Expr}{ifs:List Expr}{scope:Scope}{pos:Pos}{wi:TI}{g:TG}{tc:TT}{te:TE}(own caps:List Str)(ix:List Nat)(hi:PI X tg iter wi)(hg:∀{s H cl C ex},PG (bK X scope (own++caps) s H cl C ex) tg g)(ht:∀{s H cl C ex},Rz (bK X scope (own++caps) s H cl C ex) ifs tc)(he:∀{s H cl C ex},PE (bK X scope (own++caps) s H cl C ex) elt te)(hcap:iI X scope caps ix:=by repeat(first |exact iI.nil|refine iI.cons rfl rfl ?_))(hc:X.calm=true:=by rfl)(ck:aP X.env.scope scope=true:=by rfl)(hkind:scope.kind= .function:=by rfl)(hs:∀x,foldedSetIterable iter X.env x=pure x:=by intro _;rfl):PE X (.ListComp elt [⟨tg,iter,ifs,0⟩] scope pos) (Dc wi own ix g tc te):=JC hc hi ck hkind hcap (fun _ _ _ _ _=>hg) (fun _ _ _ _ _=>ht) (fun _ _ _ _ _=>he) hs
theorem yc{i:Nat}{y:Str}{py spos:Pos}(hN:X.N.Nodup)(hiN:X.N[i]? =some y)(hx:Loc X.env.scope y)(hc:X.calm=true)(hi:PI X tg iter wi)(ck:aP X.env.scope scope=true)(hkind:scope.kind= .function)(hcap:iI X scope caps ix)(hg:∀s H cl C ex,PG (bK X scope (own++caps) s H cl C ex) tg g)(ht:∀s H cl C ex,Rz (bK X scope (own++caps) s H cl C ex) ifs tc)(he:∀s H cl C ex,PE (bK X scope (own++caps) s H cl C ex) elt te)(hsw:swapsWith (.ListComp elt [⟨tg,iter,ifs,0⟩] scope pos) (some (.Name y py)) spos.line X.env=pure true:=by rfl)(hf:X.fn y=true\/X.env.scope.names.lookup y=some .local:=by first |exact .inl rfl|exact .inr rfl|assumption)(hs:∀x,foldedSetIterable iter X.env x=pure x:=by intro _;rfl):PS X (.Assign [.Name y py] (.ListComp elt [⟨tg,iter,ifs,0⟩] scope pos) spos) (tAsg (Dc wi own ix g tc te) (gName i)):=by
 intro pins s σ H Dn I h;rw[exec_Assign_Name_used _ _ _ _ hsw];refine aM (wpAny_standAt (aM ?_));show wpAny _ X.A (do let _<-comprehension (.ListComp elt [⟨tg,iter,ifs,0⟩] scope pos) scope X.env _ (newList []) false (eval iter X.env) (some (assign (.Name y py) X.env))) _ _ s;refine aM (Mi (wpAny_comprehension_free (use:=some (assign (.Name y py) X.env)) (Q:=fun _ s'=>SP X pins Dn .next s') rfl hs (sW fun x hx=>I.ok.has x ((aP.free ck hx).2)) hkind (aP.names ck)
  (thn (hi pins s σ H _ I h) fun xv s1 h1=>thn h1 fun itv s2 h2=> ?_)) (fun _ s' hq=>cO (cO hq)) fun _ _ e=>e)
 obtain⟨it,fp,tn,J,H2,e,I2,T,st2,f2,W,⟨m0,w0⟩,turn⟩:=h2;subst e;refine sV (RR:=fun acc C=>compPost (model X.prog X.w) X.A X.xe (some (assign (.Name y py) X.env)) (fun _ s'=>SP X pins Dn .next s') acc C) ck hkind hcap hc hg ht he I2 T st2 f2 w0 turn ?_;intro D C s' acc Hf m I' nD hn fC fin;obtain⟨f0,f1,f3,f4,f5,f6⟩:=fC;show wpAny _ X.A (assign (.Name y py) X.env (.ref D)) _ _ _;refine wpAny_assign_Name (store_ok2 I' hN hiN hx (show RelV (.ref D) (.ref D)from rfl) (fun s'' I'' ⟨a,sb,ha⟩=> ?_) hf);have hCa:C≠a:=by
  rcases ha with ha|ha
  ·rw[ha];exact f1
  ·exact fun z=>f5 y a ha z.symm
 refine⟨m,hn.sameBut sb hCa,fun h' sb'=> ?_⟩;exact⟨_,_,I''.turned (t':=s''.toks) (it:=C) (fun b o hb e=>(sb'.2 b hb).trans e) f0 f1 f4 f5 f6,fin D nD⟩
theorem pX{X:Cx}{tg iter elt:Expr}{ifs:List Expr}{scope:Scope}{pos:Pos}{wi:TI}{g:TG}{tc:TT}{te:TE}{y:Str}{py spos:Pos}(i:Nat)(own caps:List Str)(ix:List Nat)(hi:PI X tg iter wi)(hg:∀{s H cl C ex},PG (bK X scope (own++caps) s H cl C ex) tg g)(ht:∀{s H cl C ex},Rz (bK X scope (own++caps) s H cl C ex) ifs tc)(he:∀{s H cl C ex},PE (bK X scope (own++caps) s H cl C ex) elt te)(hcap:iI X scope caps ix:=by repeat(first |exact iI.nil|refine iI.cons rfl rfl ?_))(hc:X.calm=true:=by rfl)(ck:aP X.env.scope scope=true:=by rfl)(hkind:scope.kind= .function:=by rfl)(hN:decide X.N.Nodup=true:=by kernel_rfl)(hi_:X.N[i]? =some y:=by rfl)(hx:Loc X.env.scope y:=by first |exact Or.inl rfl|exact Or.inr rfl)(hsw:swapsWith (.ListComp elt [⟨tg,iter,ifs,0⟩] scope pos) (some (.Name y py)) spos.line X.env=pure true:=by rfl)(hf:X.fn y=true\/X.env.scope.names.lookup y=some .local:=by first |exact .inl rfl|exact .inr rfl|assumption)(hs:∀x,foldedSetIterable iter X.env x=pure x:=by intro _;rfl):PS X (.Assign [.Name y py] (.ListComp elt [⟨tg,iter,ifs,0⟩] scope pos) spos) (tAsg (Dc wi own ix g tc te) (gName i)):=yc (j9 hN) hi_ hx hc hi ck hkind hcap (fun _ _ _ _ _=>hg) (fun _ _ _ _ _=>ht) (fun _ _ _ _ _=>he) hsw hf hs
end
end L2
namespace nJ
open PySem PySem.W PyProof.Rows PySem.Calls
section
variable{prog:ξ}{w:τ}{A:υ}{E:L3}{s:η}{O:KeyOrd}{key:Nat->O.α}{κ:SortKind}{vs:List ζ}
theorem zF{t:Addr}{Q:List ζ->η->Prop}(ht:s.heap.IsTuple t vs.toArray)(h:Q vs {s with heap:=(s.heap.push (seqObj "list" #[] 0)).update s.heap.objs.size (Obj.mapSeq (· ++vs.toArray))})(hz:vs.length<=sizeLine):
  wpAny (model prog w) A (collect (.ref t)) Q E s:=by
 obtain⟨o,ho,hc,n,hd⟩:=id ht;unfold collect;refine aM (wpAny_runValue (Mj entry_proto_collect' ?_));show wpAny _ _ (do again (.builtin "list.__iadd__" ⟨[<-newList [],.ref t],[]⟩)) _ _ s;refine aM (VL (cO ⟨Code.quiet_builtin _ (by decide+kernel),Mj entry_list_iadd' ?_⟩));show wpAny _ _ (Builtin.List.listExtendWith (.ref s.heap.objs.size) (.ref t) (.ref s.heap.objs.size)) _ _ {s with heap:=s.heap.push (seqObj "list" #[] 0)};unfold Builtin.List.listExtendWith;have h1:(s.heap.push (seqObj "list" #[] 0)).get? t=some o:=gP _ ho;have h2:(Value.type "tuple"==Value.type "tuple")=true:=by rfl
 refine aM (wpAny_typeOf (T:="tuple") ⟨o,h1,hc⟩ ?_);rw[aA (by rw[h2];simp)];refine aM (listItems_at h1 hd (aM (listItems_at (xs:=#[]) (n:=0) (j7 _ rfl) rfl ?_)));rw[aq (by simp)];refine aM (wer (xs:=#[]) (n:=0) (j7 _ rfl) rfl (cO ?_) (dw _) (by show(#[]++vs.toArray).size<=sizeLine+1;simp only[Array.size_append,fH,RK];omega));show wpAny (model prog w) A (load s.heap.objs.size>>=_) Q E {s with heap:=(s.heap.push (seqObj "list" #[] 0)).update s.heap.objs.size (Obj.mapSeq (· ++vs.toArray))};refine aM (wpAny_load (M6 (j7 _ rfl) _) ?_);show wpAny _ _ (pure ((#[]:Array ζ)++vs.toArray).toList) Q E _;have e:((#[]:Array ζ)++vs.toArray).toList=vs:=by simp
 rw[e];exact cO h
theorem Aq{l:Addr}{Q:L3}(hl:s.heap.IsTuple l vs.toArray)(h64:vs.length<64)(hkind:2<=vs.length->∀h',(∀b o,s.heap.get? b=some o->h'.get? b=some o)->∀(E:L3) (Q:SortKind->η->Prop),Q κ {s with heap:=h'}->wpAny (model prog w) A.in1.in1 (keyKind' vs.toArray) Q E {s with heap:=h'})(Ku:2<=vs.length->∀h',(∀b o,s.heap.get? b=some o->h'.get? b=some o)->iR O key vs.length (kas_ask prog w A.in1.in1 κ vs) {s with heap:=h'})(h:∀D h' out c,GR key vs out->s.heap.objs.size<=D->(∀b o,s.heap.get? b=some o->h'.get? b=some o)->h'.get? D=some (seqObj "list" (List.toArray out) c)->Q (.ref D) {s with heap:=h'}):
  wpAny (model prog w) A (call (.builtin "sorted") [.ref l]) Q E s:=by
 refine Calls.call_function_entry kind_sorted plain_sorted entry_sorted (args_sorted1 _) ?_;unfold Builtin.«sorted»;refine aM (m:=checkCount "sorted" 1 1 _) (cO (aM (zF hl (aM (VL ?_ (by rw[eX];omega))) (by rw[eX];omega))));have hsz:((s.heap.push (seqObj "list" #[] 0)).update s.heap.objs.size (Obj.mapSeq (· ++vs.toArray))).objs.size=s.heap.objs.size+1:=by
  rw[Heap.size_update,size_push']
 have hoL:(((s.heap.push (seqObj "list" #[] 0)).update s.heap.objs.size (Obj.mapSeq (· ++vs.toArray))).push (seqObj "list" vs.toArray 0)).get? (s.heap.objs.size+1)=some (seqObj "list" vs.toArray 0):=by
  rw[<-hsz];exact j7 _ rfl
 have keep:∀b o,s.heap.get? b=some o->(((s.heap.push (seqObj "list" #[] 0)).update s.heap.objs.size (Obj.mapSeq (· ++vs.toArray))).push (seqObj "list" vs.toArray 0)).get? b=some o:=fun b o q=>by
  have hlt:b<s.heap.objs.size:=dX q;rw[wcm _ _ _ (by rw[hsz];exact fM (qU hlt)),Heap.get?_update_ne _ _ _ _ (fM hlt),wcm _ _ _ (fM hlt)];exact q
 have ne:∀b o,s.heap.get? b=some o->b≠s.heap.objs.size+1:=fun b o q=>fM (qU (dX q));show wpAny _ _ _ _ _ {s with heap:=((s.heap.push (seqObj "list" #[] 0)).update s.heap.objs.size (Obj.mapSeq (· ++vs.toArray))).push (seqObj "list" vs.toArray 0)};rw[hsz];refine aM (CQ (VP slot_list_sort ⟨_,hoL,rfl⟩ entry_list_sort ?body (args_list_sort _)))
 case body=>
  refine jV (key:=key) (κ:=κ) (s:={s with heap:=((s.heap.push (seqObj "list" #[] 0)).update s.heap.objs.size (Obj.mapSeq (· ++vs.toArray))).push (seqObj "list" vs.toArray 0)}) hoL h64
   (fun h2 h' k Q hq=>hkind h2 h' (fun b o q=>k b o (ne b o q) (keep b o q)) _ Q hq) (fun h2 h' k=>Ku h2 h' fun b o q=>k b o (ne b o q) (keep b o q)) fun h' out c ho k hc=> ?_
  exact⟨_,rfl,cO ⟨_,rfl,h _ h' out c ho (Hl _) (fun b o q=>k b o (ne b o q) (keep b o q)) hc⟩⟩
end
end nJ
namespace L2
open PySem PySem.Spec PyProof.Rows
section
variable{X:Cx}
theorem oX:∀{xs:List Int} {us:List ζ},Vals (xs.map V.int) us->Paired (fun(i:Int) (v:ζ)=>∃t,v= .int i t) xs us
 |[],_,h=>by cases h;exact .nil
 |_::_,_,h=>by
  cases h with
  |cons r t=>exact .cons r (oX t)
theorem pD:∀{xs:List Int} {us:List ζ},Paired (fun(i:Int) (v:ζ)=>∃t,v= .int i t) xs us->Vals (xs.map V.int) us
 |_,_,.nil=> .nil
 |_,_,.cons r t=> .cons r (pD t)
theorem Ec{xs:List Int}{us:List ζ}(h:Paired (fun(i:Int) (v:ζ)=>∃t,v= .int i t) xs us):∀i (hi:i<xs.length),∃t,us.getD i Value.none= .int xs[i] t:=by
 induction h with
 |nil=>intro i hi;simp at hi
 |cons r t ih=>
  intro i hi;cases i with
  |zero=>exact r
  |succ i=>simpa using ih i (by simpa using hi)
theorem wF:CallR X (.builtin "sorted") (fun vs H Q=>∃(b:Bool) (a:Addr) (xs:List Int),vs=[.ref a]/\ZQ X.K b H a (xs.map V.int)/\xs.length<64/\
  ∀(l:Addr) (ys:List Int),H l=none->ys.Perm xs->ys.Pairwise (· <= ·)->Q (.ref l) (upd H l (.lst (ys.map V.int)))):=by
 intro pins s σ H xs us Q I r h;obtain⟨b,a,ns,rfl,hS,h64,q⟩:=h;obtain⟨u,rfl,ru⟩:=r.one;cases ru;have main:∀vs:List ζ,Vals (ns.map V.int) vs->(b=false/\s.heap.IsList a vs.toArray\/b=true/\s.heap.IsTuple a vs.toArray)->wpAny (model X.prog X.w) X.A (call (.builtin "sorted") [.ref a]) (EP X pins σ Q) X.xe s:=by
  intro vs rv hb;have hlen:ns.length=vs.length:=by have:=rv.length;simpa using this
  have pr:=oX rv;have hi:IntsAre vs ns:=Vp rv;have p1:2<=vs.length->∀h',(∀b o,s.heap.get? b=some o->h'.get? b=some o)->∀(E:L3) (Q:SortKind->η->Prop),Q oneType' {s with heap:=h'}->wpAny (model X.prog X.w) X.A.in1.in1 (keyKind' vs.toArray) Q E {s with heap:=h'}:=fun h2 h' k E' Q' hq=>by
   rw[ksk_kind (kz:=ns) (by simpa using hi) (by simpa using h2)];exact cO hq
  have p2:2<=vs.length->∀h',(∀b o,s.heap.get? b=some o->h'.get? b=some o)->nJ.iR nJ.vX (fun i=>ns.getD i 0) vs.length (PySem.W.kas_ask X.prog X.w X.A.in1.in1 oneType' vs) {s with heap:=h'}:=fun h2 h' k=>by
   intro i j C hi hj hC;rw[<-hlen]at hi hj;unfold PySem.W.kas_ask;obtain⟨t1,e1⟩:=Ec pr i hi;obtain⟨t2,e2⟩:=Ec pr j hj;rw[e1,e2];refine PySem.W.kat_lt_int ?_;have hC':C (decide (ns.getD i 0<ns.getD j 0)) {s with heap:=h'}:=hC;have e3:ns.getD i 0=ns[i]:=by simp[hi]
   have e4:ns.getD j 0=ns[j]:=by simp[hj]
   rw[e3,e4]at hC';exact hC'
  have p3:∀D h' out c,nJ.GR (O:=nJ.vX) (fun i=>ns.getD i 0) vs out->s.heap.objs.size<=D->(∀b o,s.heap.get? b=some o->h'.get? b=some o)->h'.get? D=some (seqObj "list" (List.toArray out) c)->EP X pins σ Q (.ref D) {s with heap:=h'}:=fun D h' out c ho hD k hc=>by
   obtain⟨ys,hp,hr,hw⟩:=nJ.vH (d:=(0:Int)) (f:=fun p=>p) pr (fun i hi=>by show ns.getD i 0=_;simp[hi]) ho;have zl:(ys.map V.int).length<=sizeLine:=by
    have:=hp.length_eq;rw[aG];exact dH (small1000 (by omega))
   have J:Inv X pins σ (upd H D (.lst (ys.map V.int))) {s with heap:=h',toks:=s.toks}:=I.laid k hD ⟨zl,out,c,pD hr,hc⟩;refine⟨.ref D,_,J,rfl,q D ys (I.hok.fresh hD) hp (hw.imp fun{x y} hxy=> ?_)⟩;have:decide (y<x)=false:=hxy;have:=V0 this;omega
  rcases hb with⟨_,hb⟩|⟨_,hb⟩
  ·exact nJ.kJ (O:=nJ.vX) (key:=fun i=>ns.getD i 0) (κ:=oneType') hb (by omega) p1 p2 p3
  ·exact nJ.Aq (O:=nJ.vX) (key:=fun i=>ns.getD i 0) (κ:=oneType') hb (by omega) p1 p2 p3
 cases b with
 |false=>
  obtain⟨vs,rv,pl,hz⟩:=I.list (show SqL X.K H a (ns.map V.int)from hS);exact main vs rv (.inl ⟨rfl,pl.isList⟩)
 |true=>
  obtain⟨vs,rv,pl,hz⟩:=I.tuple (show SqT X.K H a (ns.map V.int)from hS);exact main vs rv (.inr ⟨rfl,pl⟩)
end
end L2
namespace L2
open PySem PySem.W PySem.Spec PyProof.Rows
section
variable{X:Cx}
theorem wG:CallR X (.builtin "sorted") (fun xs H Q=>∃(a:Addr) (its:List (Addr×List Int)),xs=[.ref a]/\SqL X.K H a (its.map fun p=>V.ref p.1)/\(∀p∈its,SqT X.K H p.1 (p.2.map V.int)/\(2<=its.length->p.2≠[]))/\its.length<64/\
  ∀(l:Addr) (its':List (Addr×List Int)),H l=none->its'.Perm its->its'.Pairwise (fun p q=>HT.lexLt q.2 p.2=false)->Q (.ref l) (upd H l (.lst (its'.map fun p=>V.ref p.1)))):=by
 intro pins s σ H xs us Q I r h;obtain⟨a,its,rfl,hS,hT,h64,q⟩:=h;obtain⟨u,rfl,ru⟩:=r.one;cases ru;obtain⟨vs,rv,pl,hz⟩:=I.list hS;have hlen:its.length=vs.length:=by have:=rv.length;simpa using this
 -- the values beside the tuples
 have pr:Paired (fun(p:Addr×List Int) (v:ζ)=>v= .ref p.1) its vs:=by
  have go:∀(l:List (Addr×List Int)) (us:List ζ),Vals (l.map fun p=>V.ref p.1) us->Paired (fun(p:Addr×List Int) (v:ζ)=>v= .ref p.1) l us:=by
   intro l
   induction l with
   |nil=>intro us h;cases h;exact .nil
   |cons p l ih=>
    intro us h;cases h with
    |cons r t=>exact .cons r (ih _ t)
  exact go its vs rv
 have tup:∀p∈its,∃(items:List ζ),IntsAre items p.2/\IsTup s.heap p.1 items.toArray:=fun p hp=>by
  obtain⟨its',r',t',_⟩:=I.tuple (hT p hp).1;exact⟨its',Vp r',t'⟩
 refine nJ.kJ (O:=nJ.lexOrd) (key:=fun i=>(its.getD i (0,[])).2) (κ:=tuples' true) (s:=s) pl.isList (by omega) (fun h2 h' k E' Q' hq=> ?_) (fun h2 h' k=> ?_) (fun D h' out c ho hD k hc=> ?_)
 ·have kt:∀(l:List (Addr×List Int)) (us:List ζ),Paired (fun(p:Addr×List Int) (v:ζ)=>v= .ref p.1) l us->(∀p∈l,p∈its)->∃fs:List ζ,KatTups h' us fs/\fs.length=us.length/\∀v∈fs,∃i t,v=Value.int i t:=by
   intro l us h
   induction h with
   |nil=>intro _;exact⟨[],trivial,rfl,fun _ hv=>nomatch hv⟩
   | @cons p v l us r t ih=>
    intro hs;obtain⟨fs,k1,k2,k3⟩:=ih fun p hp=>hs p (dF _ hp);obtain⟨items,hi,o,e,hc,n,hd⟩:=tup p (hs p cV);have hne:=(hT p (hs p cV)).2 (by omega);obtain⟨pa,pn⟩:=p;dsimp only at hi hne e r;cases hi with
    |nil=>exact absurd rfl hne
    |cons i t hi'=>
     rw[r];refine⟨Value.int i t::fs,KatTups.cons (k _ _ e) hc hd (by simp) k1,by simp[k2],fun v hv=> ?_⟩;rcases cQ.mp hv with e|e
     ·exact⟨i,t,e⟩
     ·exact k3 v e
  obtain⟨fs,k1,k2,k3⟩:=kt its vs pr fun _ hp=>hp;refine kat_kind (s:={s with heap:=h'}) (T:= .type "int") k1 (by omega) (fun v hv=> ?_) (by rfl) hq;obtain⟨i,t,rfl⟩:=k3 v hv;exact fun A Q E s _ q=>cO q
 ·intro i j C hi hj hC;rw[<-hlen]at hi hj;have get:∀i (hi:i<its.length),vs.getD i Value.none= .ref its[i].1:=by
   have go:∀(l:List (Addr×List Int)) (us:List ζ),Paired (fun(p:Addr×List Int) (v:ζ)=>v= .ref p.1) l us->∀i (hi:i<l.length),us.getD i Value.none= .ref l[i].1:=by
    intro l us h
    induction h with
    |nil=>intro i hi;simp at hi
    |cons r t ih=>
     intro i hi;cases i with
     |zero=>exact r
     |succ i=>simpa using ih i (by simpa using hi)
   exact go its vs pr
  unfold kas_ask;rw[get i hi,get j hj];obtain⟨xi,hxi,oi,ei,ci,ni,di⟩:=tup its[i] (zX _);obtain⟨xj,Yz,oj,ej,cj,nj,dj⟩:=tup its[j] (zX _);refine kat_lt (s:={s with heap:=h'}) (k _ _ ei) di (k _ _ ej) dj ?_;refine nJ.yF 0 hxi Yz ?_ ?_
  ·have:=hxi.length;have:=Yz.length;simp only[fH];omega
  ·rw[HT.cC];have e1:its.getD i (0,[])=its[i]:=by simp[hi]
   have e2:its.getD j (0,[])=its[j]:=by simp[hj]
   have hC':C (decide ((its.getD i (0,[])).2<(its.getD j (0,[])).2)) {s with heap:=h'}:=hC;rw[e1,e2]at hC';exact hC'
 ·obtain⟨its',hp,hr,hw⟩:=nJ.vH (d:=((0,[]):Addr×List Int)) (f:=fun p=>p.2) pr (fun i hi=>by show(its.getD i (0,[])).2=_;simp[hi]) ho;have hn:H D=none:=I.hok.fresh hD;have rv':Vals (its'.map fun p=>V.ref p.1) out:=by
   have go:∀(l:List (Addr×List Int)) (us:List ζ),Paired (fun(p:Addr×List Int) (v:ζ)=>v= .ref p.1) l us->Vals (l.map fun p=>V.ref p.1) us:=by
    intro l us h
    induction h with
    |nil=>exact .nil
    |cons r t ih=>exact .cons r ih
   exact go its' out hr
  have zl:(its'.map fun p=>V.ref p.1).length<=sizeLine:=by
   have:=hp.length_eq;rw[aG];exact dH (small1000 (by omega))
  have J:Inv X pins σ (upd H D (.lst (its'.map fun p=>V.ref p.1))) {s with heap:=h',toks:=s.toks}:=I.laid k hD ⟨zl,out,c,rv',hc⟩;refine⟨.ref D,_,J,rfl,q D its' hn hp (hw.imp fun{x y} hxy=> ?_)⟩;rw[HT.cC];exact hxy
theorem Fz(K:W.Frag){a:Expr}{ta:TE}(ha:PE X a ta)(he:∀whole,isTrue a X.env whole=(do let v<-whole;standAt a.pos;holding [v] (truthy v)))(h:X.K=K:=by rfl):
  PT X a (fun σ H Q=>ta σ H fun x H'=>∃k,TruV K x H' k/\Q k H'):=by subst h;exact pt_truth ha he
end
end L2
namespace L2
open PySem PySem.Spec PyProof.Rows
section
variable{prog:ξ}{w:τ}{A:υ}{E:L3}{s:η}{l:Addr}{kid:String}{vs:List ζ}{R:Result->η->Prop}{Q:L3}
noncomputable def Kp(s:η)(h:Heap):Prop:=∀b o,s.heap.get? b=some o->h.get? b=some o
theorem Uh(kf:Nat->Int)(hA:A.handled=none)(hl:s.heap.IsList l vs.toArray)(turn:∀(i:Nat) (v:ζ),vs[i]? =some v->∀(h:Heap) (tk:Nat),Kp s h->∀Q E:ζ->η->Prop,(∀t tk',Q (.int (kf i) t) {s with heap:=h,toks:=tk'})->wpAny (model prog w) A.in1 (call (.builtin kid) [v]) Q E {s with heap:=h,toks:=tk})(hR:∀i v h' tk',vs[i]? =some v->(∀j,j<vs.length->kf j<=kf i/\(j<i->kf j<kf i))->Kp s h'->R (.ok (.ret v)) {s with heap:=h',toks:=tk'}):
  ∀(r j i:Nat) (h:Heap) (tk:Nat) (vb:ζ) (tb:Tok) (c:Nat),vs.length-(j+1)=r->j+1<=vs.length->Kp s h->h.get? (s.heap.objs.size+1)=some (seqObj "list" #[vb,.int (kf i) tb] c)->h.IsListIter s.heap.objs.size l (j+1)->vs[i]? =some vb->i<=j->(∀j',j'<=j->kf j'<=kf i/\(j'<i->kf j'<kf i))->
   codeAny (model prog w) A (.builtin "max.loop" ⟨[.ref s.heap.objs.size,.builtin kid,.ref (s.heap.objs.size+1)],[]⟩) R {s with heap:=h,toks:=tk}:=by
 have nm:(toString "max"++toString ".loop":String)="max.loop":=by decide
 obtain⟨ol,hol,hlc,Pn,hld⟩:=id hl;have Ro:l≠s.heap.objs.size:=fM (dX hol);have W:=Walks.list (prog:=prog) (w:=w) (A:=A.in1) hA s.heap.objs.size l Ro vs.toArray;have zs:vs.toArray.size=vs.length:=fH ..;have Rq:s.heap.objs.size+1≠s.heap.objs.size:=Mg (tM _);have hlK:∀h,Kp s h->h.IsList l vs.toArray:=fun h k=>⟨ol,k _ _ hol,hlc,Pn,hld⟩;have kI:∀h h',Kp s h->(∀b o,b∉[s.heap.objs.size]->h.get? b=some o->h'.get? b=some o)->Kp s h':=fun h h' k q b o e=>q b o (fun z=>pR _ ((fO.mp z)▸dX e)) (k b o e);have kS:∀h h',Kp s h->(∀b,b≠s.heap.objs.size+1->h'.get? b=h.get? b)->Kp s h':=fun h h' k q b o e=>(q b (fM (qU (dX e)))).trans (k b o e);intro r
 induction r with
 |zero=>
  intro j i h tk vb tb c hr hj k hS hit hvb hij hbest;refine Mj wcj (by
   rw[QV way _];show wpAny _ A.in1 (seqItems? (.ref (s.heap.objs.size+1))>>=_) _ _ _;refine aM (M5 hS rfl (?_));show wpAny _ A.in1 (tryCatch (pyNext (.ref s.heap.objs.size)) _>>=_) _ _ _;refine aM (Hu (W.done _ _ _ ⟨by rw[zs,<-show j+1=vs.length by omega];exact hit,hlK h k⟩ fun h' tk' hk'=> ?_));have g:=hk' (s.heap.objs.size+1) _ (by simp) hS;show wpAny _ A.in1 (updateSeq (s.heap.objs.size+1) (fun _=>#[])>>=_) _ _ _;refine aM (VN g rfl (aM (QT (cO ?_))));exact hR i vb _ _ hvb (fun j' hj'=>hbest j' (by omega)) (kS _ _ (kI _ _ k hk') (Ie h' (s.heap.objs.size+1) (Obj.mapSeq fun _=>(#[]:Array ζ))).2))
 |succ r ih=>
  intro j i h tk vb tb c hr hj k hS hit hvb hij hbest;have hlt:j+1<vs.length:=by omega
  refine Mj wcj (by
   rw[QV way _];show wpAny _ A.in1 (seqItems? (.ref (s.heap.objs.size+1))>>=_) _ _ _;refine aM (M5 hS rfl (?_));show wpAny _ A.in1 (tryCatch (pyNext (.ref s.heap.objs.size)) _>>=_) _ _ _;refine aM (Hu (W.item (j+1) _ _ _ (by rw[zs];exact hlt) ⟨hit,hlK h k⟩ fun v h' tk' hP hst' hk'=> ?_));have hv:vs[j+1]? =some v:=(by simpa using hP);have k1:=kI _ _ k hk';have g:=hk' (s.heap.objs.size+1) _ (by simp) hS;show wpAny _ A.in1 (tryCatch (holding [v] (call (.builtin kid) [v])) _>>=_) _ _ _;refine aM (Hu (CQ (turn (j+1) v hv h' tk' k1 _ _ fun t2 tk2=> ?_)));show wpAny _ A.in1 (tryCatch (holding [v,.int (kf (j+1)) t2] (richCompare .Gt (.int (kf (j+1)) t2) (.int (kf i) tb)>>=_)) _>>=_) _ _ _;refine aM (Hu (CQ (aM (CmpOf.ints_gt (prog:=prog) (w:=w) (A:=A.in1) (P:=fun i v=>∃t,v= .int (kf i) t) kf (fun i v h=>h) (j+1) i _ _ _ _ _ ⟨t2,rfl⟩ ⟨tb,rfl⟩ (aM (CQ (Ml (aM (QT (cO ?_))))))))));by_cases hb:kf (j+1)>kf i
   ·have sb:=Ie h' (s.heap.objs.size+1) (Obj.mapSeq fun _=>#[v,.int (kf (j+1)) t2]);obtain⟨c2,hc2⟩:∃c2,(h'.update (s.heap.objs.size+1) (Obj.mapSeq fun _=>#[v,.int (kf (j+1)) t2])).get? (s.heap.objs.size+1)=some (seqObj "list" #[v,.int (kf (j+1)) t2] c2):=⟨_,M6 g fun _=>#[v,.int (kf (j+1)) t2]⟩;simp only[hb,decide_true,RQ];refine aM (VN g rfl (aM (QT ?_)));obtain⟨oI,hoI,hoc,hod⟩:=id hst'.1;rw[nm];refine cO ⟨M4 way _,ih (j+1) (j+1) _ _ v t2 c2 (by omega) hlt (kS _ _ k1 sb.2) hc2 ⟨oI,(sb.2 _ Rq.symm).trans hoI,hoc,hod⟩ hv (aN _) fun j' hj'=> ?_⟩;by_cases e:j'=j+1
    ·subst e;exact⟨tR _,fun z=>absurd z (pR _)⟩
    ·have q:=(hbest j' (by omega)).1;exact⟨by omega,fun _=>by omega⟩
   ·simp only[hb,decide_false,V1,QS];refine aM (QT (?_));rw[nm];refine cO ⟨M4 way _,ih (j+1) i _ _ vb tb c (by omega) hlt k1 g hst'.1 hvb (by omega) fun j' hj'=> ?_⟩;by_cases e:j'=j+1
    ·subst e;exact⟨by omega,fun z=>by omega⟩
    ·exact hbest j' (by omega))
theorem Ox(kf:Nat->Int)(hA:A.handled=none)(hl:s.heap.IsList l vs.toArray)(hne:0<vs.length)(turn:∀(i:Nat) (v:ζ),vs[i]? =some v->∀(h:Heap) (tk:Nat),Kp s h->∀Q E:ζ->η->Prop,(∀t tk',Q (.int (kf i) t) {s with heap:=h,toks:=tk'})->wpAny (model prog w) A.in1 (call (.builtin kid) [v]) Q E {s with heap:=h,toks:=tk})(hQ:∀i v h' tk',vs[i]? =some v->(∀j,j<vs.length->kf j<=kf i/\(j<i->kf j<kf i))->Kp s h'->Q v {s with heap:=h',toks:=tk'}):
  wpAny (model prog w) A (call (.builtin "max") [.ref l] [(Str.ofString "key",.builtin kid)]) Q E s:=by
 have nm:(toString "max"++toString ".loop":String)="max.loop":=by decide
 obtain⟨ol,hol,hlc,Pn,hld⟩:=id hl;have Ro:l≠s.heap.objs.size:=fM (dX hol);refine kmb_tree PySem.F.kind_max PySem.F.plain_max PySem.F.entry_max (kmb_max_key _ _) (by
  show wpAny _ A.in1 (Builtin.Builtins.bindParams "max" ["key","default"] 0 ⟨[],[(Str.ofString "key",.builtin kid)]⟩>>=_) _ _ s;refine aM (wpAny_of_eq (show Builtin.Builtins.bindParams "max" ["key","default"] 0 ⟨[],[(Str.ofString "key",.builtin kid)]⟩=pure [some (.builtin kid),none]from rfl) (aM (cO (aM (wcn hl (aM (VL ?_ (dw _))))))));rw[nm];have zS:(s.heap.push {cls:= .type "list_iterator",data:= .fields #[.ref l,.int 0 0]}).objs.size=s.heap.objs.size+1:=size_push' ..;rw[zS];have k0:Kp s ((s.heap.push {cls:= .type "list_iterator",data:= .fields #[.ref l,.int 0 0]}).push (seqObj "list" #[] 0)):=fun b o e=>gP _ (gP _ e);have gI:((s.heap.push {cls:= .type "list_iterator",data:= .fields #[.ref l,.int 0 0]}).push (seqObj "list" #[] 0)).IsListIter s.heap.objs.size l 0:=⟨_,gP _ (j7 _ rfl),rfl,rfl⟩;have gS:((s.heap.push {cls:= .type "list_iterator",data:= .fields #[.ref l,.int 0 0]}).push (seqObj "list" #[] 0)).get? (s.heap.objs.size+1)=some (seqObj "list" #[] 0):=by rw[<-zS];exact j7 _ rfl
  have W:=Walks.list (prog:=prog) (w:=w) (A:=A.in1) hA s.heap.objs.size l Ro vs.toArray;refine cO ⟨M4 way _,Mj wcj ?_⟩;rw[QV way _];show wpAny _ A.in1 (seqItems? (.ref (s.heap.objs.size+1))>>=_) _ _ _;refine aM (M5 gS rfl (?_));show wpAny _ A.in1 (tryCatch (pyNext (.ref s.heap.objs.size)) _>>=_) _ _ _;refine aM (Hu (W.item 0 _ _ _ (by rw[fH];exact hne) ⟨gI,⟨ol,k0 _ _ hol,hlc,Pn,hld⟩⟩ fun v h' tk' hP hst' hk'=> ?_));have hv:vs[0]? =some v:=(by simpa using hP);have k1:Kp s h':=fun b o e=>hk' b o (fun z=>pR _ ((fO.mp z)▸dX e)) (k0 b o e);have g:=hk' (s.heap.objs.size+1) _ (by simp) gS;show wpAny _ A.in1 (tryCatch (holding [v] (call (.builtin kid) [v])) _>>=_) _ _ _;refine aM (Hu (CQ (turn 0 v hv h' tk' k1 _ _ fun t2 tk2=> ?_)));have sb:=Ie h' (s.heap.objs.size+1) (Obj.mapSeq fun _=>#[v,.int (kf 0) t2]);obtain⟨c2,hc2⟩:∃c2,(h'.update (s.heap.objs.size+1) (Obj.mapSeq fun _=>#[v,.int (kf 0) t2])).get? (s.heap.objs.size+1)=some (seqObj "list" #[v,.int (kf 0) t2] c2):=⟨_,M6 g fun _=>#[v,.int (kf 0) t2]⟩;obtain⟨oI,hoI,hoc,hod⟩:=id hst'.1;show wpAny _ A.in1 (updateSeq (s.heap.objs.size+1) (fun _=>#[v,.int (kf 0) t2])>>=_) _ _ _;refine aM (VN g rfl ?_);rw[nm];exact cO ⟨M4 way _,Uh kf hA hl turn hQ _ 0 0 _ _ v t2 c2 rfl hne (fun b o e=>(sb.2 b (fM (qU (dX e)))).trans (k1 b o e)) hc2 ⟨oI,(sb.2 _ (fM (tM _))).trans hoI,hoc,hod⟩ hv (aN _) fun j' hj'=>by
   have e:j'=0:=by omega
   subst e;exact⟨tR _,fun z=>absurd z (pR _)⟩⟩)
end
section
variable{X:Cx}{a:Expr}{ta:TA}{p p2 kp pos:Pos}
noncomputable def Nk(K:W.Frag)(ta:TA):TE:=fun σ H Q=>ta σ H fun vs H1=>∃(l:Addr) (its:List (Addr×List Int)),vs=[.ref l]/\SqL K H1 l (its.map fun p=>V.ref p.1)/\(∀p∈its,SqT K H1 p.1 (p.2.map V.int))/\its≠[]/\
 ∀(i:Nat) (p:Addr×List Int),its[i]? =some p->(∀(j:Nat) r,its[j]? =some r->r.2.length<=p.2.length/\(j<i->r.2.length<p.2.length))->Q (.ref p.1) H1
theorem rm:∀{its:List (Addr×List Int)} {us:List ζ} {i:Nat} {v:ζ},Vals (its.map fun p=>V.ref p.1) us->us[i]? =some v->∃p,its[i]? =some p/\v= .ref p.1
 |[],_,i,v,h,e=>by cases h;simp at e
 |p::its,_,0,v,h,e=>by
  cases h with
  |cons r t=>
   cases r;simp at e;exact⟨p,rfl,e.symm⟩
 |p::its,_,i+1,v,h,e=>by
  cases h with
  |cons r t=>exact rm (i:=i) t (by simpa using e)
theorem FJ(hc:X.calm=true)(hg:Gl X "max")(hm:X.mg "max"=none)(YW:Gl X "len")(hmL:X.mg "len"=none)(ha:PA X [a] ta)(hs:starEach [a] X.env=[(false,eval a X.env)]:=by rfl)(he:backTo pos (starEach [a] X.env)=(false,eval a X.env)::backTo pos (starEach [] X.env):=by rfl)(hp:(backTo pos (starEach [a] X.env)).any (·.1)=false:=by rfl):PE X (.Call (.Name "max" p) [a] [⟨some "key",.Name "len" p2,kp⟩] pos) (Nk X.K ta):=by
 intro pins s σ H Q I h;refine M8 (ld_blt I hg hm (show bootBuiltins "max"=some (.builtin "max")from by decide+kernel) ?_ (by decide) (by decide));refine wef (thn (ha pos pins s σ H _ I h) fun us s1 ⟨vs,H1,I1,r1,q1⟩=>kws_cons (ld_blt I1 YW hmL PySem.boot_len (kws_nil ?_) (by decide) (by decide))) he hp;obtain⟨l,its,e,hq,hT,hne,q⟩:=q1;subst e;cases r1 with
 |cons r rr=>
  cases rr;cases r;obtain⟨ws,rv,pl,hz⟩:=I1.list hq;have hlen:its.length=ws.length:=by have:=rv.length;simpa using this
  have hpos:0<ws.length:=by
   rw[<-hlen];cases its with
   |nil=>exact absurd rfl hne
   |cons _ _=>simp
  have kf:∀i p,its[i]? =some p->its.getD i (0,[])=p:=fun i p e=>by rw[iU,e];rfl
  show wpAny (model X.prog X.w) X.A (call (.builtin "max") [.ref l] [(Str.ofString "key",.builtin "len")]) (EP X pins σ Q) X.xe s1;refine Ox (fun i=>((its.getD i (0,[])).2.length:Int)) (I.ok.hd hc) pl.isList hpos (fun i v hv h' tk k Q' E' hq'=> ?_) (fun i v h' tk' hv hb k=> ?_)
  ·obtain⟨p,e1,rfl⟩:=rm rv hv;obtain⟨xs,rx,px,hx⟩:=I1.tuple (hT p (qW e1));obtain⟨o,ho,ho2,n,hd⟩:=id px;have hxl:xs.length=p.2.length:=by have:=rx.length;simpa using this.symm
   have hz2:xs.toArray.size=p.2.length:=by rw[fH];exact hxl
   refine len_tuple (s:={s1 with heap:=h',toks:=tk}) (t:=p.1) (items:=xs.toArray) ⟨o,k _ _ ho,ho2,n,hd⟩ ?_ ?_
   ·rw[fH];have:xs.length<=sizeLine:=by rw[hxl];simpa using hx
    rw[eX]at this;omega
   ·have z:=hq' (tk+1) (tk+1+1);rw[kf i p e1]at z;rw[hz2];exact z
  ·obtain⟨p,e1,rfl⟩:=rm rv hv;have I2:Inv X pins σ H1 {s1 with heap:=h',toks:=tk'}:=I1.kept k;refine⟨.ref p.1,H1,I2,rfl,q i p e1 fun j r hr=> ?_⟩;have hj:j<ws.length:=by rw[<-hlen];exact(lV.mp hr).1
   have z:=hb j hj;rw[kf i p e1,kf j r hr]at z;exact⟨by omega,fun hji=>by have:=z.2 hji;omega⟩
end
mutual
def aaq:Nat->Expr->Option θ
 |0,_=>none
 |n+1,e=>match e with
  | .Constant (.int i) _ _=>some (.int i)
  | .Constant (.bool b) _ _=>some (.bool b)
  | .Constant .none _ _=>some .none
  | .Constant (.str x) _ _=>some (.str x)
  | .UnaryOp .USub (.Constant (.int i) _ _) _=>some (.int (-i))
  | .Tuple es _ _=>(Kf n es).map .tuple
  | .List es _=>(Kf n es).map .list
  | .Dict [] [] _=>some (.dict [])
  |_=>none
def Kf:Nat->List Expr->Option (List θ)
 |0,_=>none
 |_+1,[]=>some []
 |n+1,e::es=>match aaq n e,Kf n es with
  |some d,some ds=>some (d::ds)
  |_,_=>none
end
section
variable{X:Cx}{pins:L1}{σ:St}{H:Hp}{s:η}{a:Addr}
theorem Inv.big(I:Inv X pins σ H s):sysModules<s.heap.objs.size:=by
 have h:mainGlobals<s.heap.objs.size:=(I.mod.glob.keeps I.bk).lt;exact MK (by decide) h
theorem d_write{h':Heap}{t':Nat}{ob:HO}(I:Inv X pins σ H s)(mu:Mut (H a))(hs:Heap.SameBut a s.heap h')(he:∃q,h'.get? a=some q)(new:ObjOk X.prog X.w (upd H a ob) h' a ob):
  Inv X pins σ (upd H a ob) {s with heap:=h',toks:=t'}:=
 I.write (x:=a) (e:=a) mu (.inl rfl) (fun b q hb z=>(hs.2 b hb).trans z) he new
end
section
variable{X:Cx}
theorem Gx(hc:X.calm=true):CallR X (.builtin "min") (fun xs H Q=>∃(a:Addr) (ns:List Int),xs=[.ref a]/\SqL X.K H a (ns.map V.int)/\ns≠[]/\∀m∈ns,(∀n∈ns,m<=n)->Q (.int m) H):=by
 intro pins s σ H xs us Q I r h;obtain⟨a,ns,rfl,hS,hne,q⟩:=h;obtain⟨u,rfl,ru⟩:=r.one;cases ru;obtain⟨vs,rv,pl,hz⟩:=I.list hS;have hl:=pl.isList;have hlt:a<s.heap.objs.size:=by obtain⟨_,e,_⟩:=hl;exact dX e
 have hlen:=rv.length;rw[aG]at hlen;have hI:∀(i:Nat) (v:ζ),vs.toArray[i]? =some v->∃t,v= .int (ns.getD i 0) t:=fun i v hv=>by
  have hv':vs[i]? =some v:=by simpa using hv
  have hi:i<ns.length:=by have:=(lV.mp hv').1;omega
  have hn:(ns.map V.int)[i]? =some (.int (ns.getD i 0)):=by rw[cU,eO hi,iU,eO hi];rfl
  obtain⟨u,hu,ru⟩:=rv.get hn;rw[hv']at hu;cases hu;obtain⟨t,rfl⟩:=ru;exact⟨t,rfl⟩
 refine call_min_walk (wcn hl ?_);refine⟨s.heap.objs.size,[s.heap.objs.size,a],[s.heap.objs.size],vs.toArray.size,_,_,_,rfl,Walks.list (A:=X.A.in1) (I.ok.hd hc) _ a (fM hlt) vs.toArray,
  ⟨⟨_,j7 _ rfl,rfl,rfl⟩,hl.push _⟩,?_,?_,CmpOf.ints_lt (fun i=>ns.getD i 0) hI,fun v h' tk hP hk=> ?_⟩
 ·intro b hb;show b<(s.heap.push _).objs.size;rw[MN];rcases cQ.mp hb with rfl|hb
  ·exact tM _
  ·rw[fO.mp hb];exact qU hlt
 ·rw[fH,<-hlen];exact yee.mpr hne
 ·obtain⟨t,rfl⟩:=hI _ v hP;obtain⟨h1,h2⟩:=argBest_lt (fun i=>ns.getD i 0) (vs.toArray.size-1);have hn0:0<ns.length:=yee.mpr hne;have hb:argBest (fun i j=>decide (ns.getD i 0<ns.getD j 0)) (vs.toArray.size-1)<ns.length:=by
   have:vs.toArray.size=ns.length:=by rw[fH];omega
   omega
  refine⟨.int _,H,I.kept (LSm.kept_iter hk),⟨t,rfl⟩,q _ ?_ fun n hn=> ?_⟩
  ·rw[iU,eO hb];exact zX hb
  ·obtain⟨j,hj,rfl⟩:=Ez hn;have:=h2 j (by rw[fH];omega);rw[iU (i:=j),eO hj]at this;exact this
end
theorem uJ:∀{c t:List Int},c.Nodup->(∀x∈c,x∈t)->c.length<=t.length
 |[],_,_,_=>dw _
 |x::c,t,nd,h=>by
  have hx:=h x cV;rw[ur]at nd;have z:=uJ (c:=c) (t:=t.erase x) nd.2 fun y hy=>(wdb (fun e:y=x=>nd.1 (e▸hy))).mpr (h y (dF _ hy));rw[wcb hx]at z;have p:0<t.length:=VB hx;rw[pW];omega
section
variable{prog:ξ}{w:τ}{A:υ}{E:L3}{s:η}
theorem Fg{t:Addr}{items:Array ζ}{ns:List Int}{k:Int}{tk:Tok}{Q:L3}(hl:IsTup s.heap t items)(hi:IntsAre items.toList ns)(hk:k∈ns)(h:Q (.int (ns.idxOf k:Nat) s.toks) {s with toks:=s.toks+1}):
  wpAny (model prog w) A (call (.builtin "tuple.index") [.ref t,.int k tk]) Q E s:=by
 obtain⟨o,ho,hc,n,hd⟩:=hl;refine VP F.slot_tuple_index ⟨o,ho,hc⟩ F.entry_tuple_index ?_ (F.args_tuple_index_2 _ _);unfold Builtin.«tuple.index»;refine aM (cO ?_);refine aM (wpAny_tupleItemsOf ho hd ?_);have hlen:items.toList.length=ns.length:=hi.length;have hsz:items.size=ns.length:=by rw[<-hlen];exact QJ.symm
 have hj:ns.idxOf k<ns.length:=Xl.mpr hk;refine aM (cO ?_);refine aM (cO ?_);refine aM ?_;rw[Std.Legacy.Range.forIn_eq_forIn_range'];have hm:min items.size items.size=items.size:=Nat.min_self _;show wpAny _ _ (forIn (List.range' 0 ((min items.size items.size-0+1-1)/1) 1) _ _) _ _ _;rw[hm,wfs,wdv,Nat.div_one];refine wcv _ (fun rest b s'=>b.1=none/\s'=s/\∃i,i<=ns.idxOf k/\rest=List.range' i (items.size-i)) _ ?_ ?_ _ _ ⟨rfl,rfl,0,dw _,by rw[wfs]⟩
 ·rintro x rest b s' ⟨hb,rfl,i,hij,hr⟩;have hlt:i<items.size:=by omega
  have e1:items.size-i=(items.size-(i+1))+1:=by omega
  rw[e1,List.range'_succ]at hr;injection hr with hx hr
  subst hx;have hi2:items[x]? =some items[x]:=wdx hlt;show wpAny _ _ (match items[x]? with |some y=>_|x=>_) _ _ _;rw[hi2];refine aM ((eq_isInt k tk hi items[x] (by simp)).at _ _ prog w _ _ ?_);have e2:=isInt_at k hi x (by omega) (by omega);have e3:items.toList[x]'(by omega)=items[x]:=by simp
  rw[e3]at e2;rw[e2];by_cases he:ns[x]'(by omega)=k
  ·have ex:x=ns.idxOf k:=by
    rcases Nat.lt_or_eq_of_le hij with z|z
    ·have:=ne_of_lt_idxOf z (by omega);rw[beq_eq_false_iff_ne]at this;exact absurd he this
    ·exact z
   rw[aA (by rw[he];exact wex k)];rw[<-ex]at h;refine aM ?_;show wpAny _ _ (do ret (<-mkInt _)) _ _ _;exact aM (wpAny_mkInt (cO (cO (cO ⟨_,rfl,h⟩))))
  ·rw[aq (by rw[beq_iff_eq];exact he)];refine cO ⟨rfl,rfl,x+1,?_,hr⟩;rcases Nat.lt_or_eq_of_le hij with z|z
   ·exact z
   ·exact absurd (by subst z;exact yeg hj) he
 ·rintro b s' ⟨hb,rfl,i,hij,hr⟩;have:items.size-i=0:=by
   have:=gq List.length hr;simpa using this.symm
  omega
end
section
variable{X:Cx}{o e:Expr}{to:TE}{t:TA}{apos cpos:Pos}
noncomputable def aad(to:TE)(t:TA):TE:=fun σ H Q=>to σ H fun x H1=>(∃(a:Addr) (ob:Obj) (u:HO),x= .ref a/\H1 a=some (.frz ob u)/\ob.dict=none/\∃xs:List Int,u= .tup (xs.map V.int)/\t σ H1 fun vs H2=>∃k:Int,vs=[.int k]/\H2 a=some (.frz ob u)/\k∈xs/\Q (.int (xs.idxOf k:Nat)) H2)
theorem Td(ho:PE X o to)(ha:PA X [e] t)(hbase:attributeBase o "index" X.env (eval o X.env)=eval o X.env:=by rfl)(hfew:((backTo cpos (starEach [e] X.env)).all (fun x=> !x.1)&&(backToKw cpos (keywordEach [] X.env)).all (fun x=>x.1.isSome)
   &&decide ([e].length+([]:List Keyword).length+(if([]:List Keyword).isEmpty then 0 else 1)<30))=true:=by rfl)(hline:(apos.endLine==cpos.line)=true:=by rfl)(hs:starEach [e] X.env=[(false,eval e X.env)]:=by rfl):
  PE X (.Call (.Attribute o "index" apos) [e] [] cpos) (aad to t):=by
 intro pins s σ H Q I h;refine wpAny_Call_method_late hbase hfew hline rfl (thn (ho pins s σ H _ I h) fun v s1 ⟨x,H1,I1,r1,a,ob,u,hx,ha1,hd,xs,hu,q1⟩=> ?_);subst hx;cases r1;obtain⟨g1,_⟩:=(show ObjOk X.prog X.w H1 s1.heap a (.frz ob u)from I1.hok a _ ha1);have hT1:SqT X.K H1 a (xs.map V.int):= .inl (.inr ⟨ob,by rw[ha1,hu]⟩);obtain⟨aaU,rv1,pl1,_⟩:=I1.tuple hT1;refine⟨"tuple","tuple.index",PySem.F.plainAttrs_tuple,PySem.F.slot_tuple_index,PySem.F.type_tuple_index,pl1.typeIs,fun b eb=> ?_,?_⟩
 ·cases eb;exact⟨ob,g1,hd⟩
 have hA:=ha cpos pins s1 σ H1 _ I1 q1;rw[hs]at hA⊢;refine Calls.callWith_builtin rfl (Calls.evalArgs_plain ?_);refine thn hA fun us s2 ⟨vs,H2,I2,r2,k,hv,ha2,hk,q2⟩=> ?_;subst hv;obtain⟨uv,rfl,ru⟩:=vals1 r2;obtain⟨tk,rfl⟩:=ru;have hT2:SqT X.K H2 a (xs.map V.int):= .inl (.inr ⟨ob,by rw[ha2,hu]⟩);obtain⟨its2,rv2,pl2,_⟩:=I2.tuple hT2;refine Fg pl2 (Vp rv2) hk ?_;exact⟨.int (xs.idxOf k:Nat),H2,I2.kept (t':=s2.toks+1) (fun _ _ e=>e),⟨_,rfl⟩,q2⟩
end
structure qe(X:Cx)(pins:L1)(I:Addr):Prop where
 lo:X.s₀.heap.objs.size<=I
 loc:I≠X.env.locals
 fs:I∉X.fs
 cl:∀x c,X.env.cells.lookup x=some c->c≠I
 pn:∀p∈X.pn++pins,p.1≠I
section
variable{X:Cx}{σ:St}{H:Hp}{s:η}{pins:L1}
theorem qe.new{I:Addr}(J:Inv X pins σ H s)(h:s.heap.objs.size<=I):qe X pins I:=by
 refine⟨eN J.sz h,Mg (iT J.lt h),J.nofs h,fun x c e=> ?_,fun p hp=>fM (iT (dX (J.pin p hp).1) h)⟩;obtain⟨v,o,ho,_⟩:=J.cell x c e;exact fM (iT (dX ho) h)
theorem Inv.rB{p:Addr×Obj}(J:Inv X (p::pins) σ H s):Inv X pins σ H s:=J.pins_of fun q hq=>J.pin q (lU _ (dF _ hq))
theorem Inv.xY{I:Addr}{o o':Obj}{h':Heap}{tk:Nat}(J:Inv X ((I,o)::pins) σ H s)(m:qe X pins I)(k:∀b x,b≠I->s.heap.get? b=some x->h'.get? b=some x)(e:h'.get? I=some o')(d:∀v,o'.data≠.cell v):
  Inv X ((I,o')::pins) σ H {s with heap:=h',toks:=tk}:=by
 have hI:=J.pin (I,o) (lU _ cV);have K:=(J.rB).turned (t':=tk) (it:=I) k hI.2.1 m.loc (.inr m.lo) m.cl m.pn;refine K.pins_of fun q hq=> ?_;rcases cQ.mp hq with z|z
 ·subst z;exact⟨e,hI.2.1,m.loc,m.fs,d⟩
 ·exact K.pin q (lU _ z)
theorem Inv.swap{p q:Addr×Obj}(J:Inv X (p::q::pins) σ H s):Inv X (q::p::pins) σ H s:=J.pins_of fun r hr=>J.pin r (lU _ (by
 rcases cQ.mp hr with z|z
 ·rw[z];exact dF _ cV
 ·rcases cQ.mp z with z|z
  ·rw[z];exact cV
  ·exact dF _ (dF _ z)))
theorem qe.under{I:Addr}{p:Addr×Obj}(m:qe X pins I)(n:p.1≠I):qe X (p::pins) I:=⟨m.lo,m.loc,m.fs,m.cl,fun q hq=>by
 rcases pU.mp hq with z|z
 ·exact m.pn q (RM _ z)
 ·rcases cQ.mp z with z|z
  ·rw[z];exact n
  ·exact m.pn q (lU _ z)⟩
theorem vN{a:Array ζ}{k:Nat}(T:String):∀v,(seqObj T a k).data≠.cell v:=fun v z=>by
 have z':Data.seq a k=Data.cell v:=z;cases z'
end
noncomputable def isK(k:Int):ζ->Bool
 | .int i _=>i==k
 |_=>false
theorem Fb{i:Int}:∀{n:Nat} {us:List ζ},us.length=n->(∀(j:Nat) (u:ζ),us[j]? =some u->∃t:Tok,u=Value.int (i+((j:Nat):Int)*1) t)->Vals (((List.range n).map fun(k:Nat)=>i+(k:Int)).map V.int) us:=by
 intro n us hl hi;have go:∀(us:List ζ) (k:Nat),(∀(j:Nat) (u:ζ),us[j]? =some u->∃t:Tok,u=Value.int (i+((j+k:Nat):Int)*1) t)->Vals (((List.range' k us.length).map fun(k:Nat)=>i+(k:Int)).map V.int) us:=by
  intro us
  induction us with
  |nil=>intro k _;exact .nil
  |cons u us ih=>
   intro k h;obtain⟨t,e⟩:=h 0 u rfl;refine .cons ⟨t,?_⟩ ?_
   ·rw[e];show Value.int (i+((0+k:Nat):Int)*1) t=Value.int (i+(k:Int)) t;congr 1;omega
   ·refine ih (k+1) fun j u hu=> ?_;obtain⟨t,e⟩:=h (j+1) u (by simpa using hu);exact⟨t,by rw[e];congr 1;omega⟩
 have:=go us 0 fun j u hu=>hi j u hu;rw[hl,<-wda]at this;exact this
section
variable{X:Cx}{e:Expr}{ta:TE}{f:Str}{pos:Pos}
theorem DP(K:W.Frag)(he:PE X e ta)(hb:attributeBase e f X.env (eval e X.env)=eval e X.env)(h:X.K=K:=by rfl):PE X (.Attribute e f pos) (tFld K ta f):=by subst h;exact lN he hb
theorem nW:MtM X "list.index" (fun x vs H Q=>∃(l:Addr) (ns:List Int) (k:Int) (j:Nat),x= .ref l/\vs=[.int k]/\H l=some (.lst (ns.map V.int))/\ns[j]? =some k/\(∀i,i<j->ns[i]? ≠some k)/\ns.length<=1000/\Q (.int (j:Nat)) H):=by
 intro pins s σ H x vs v us Q I rx rv h;obtain⟨l,ns,k,j,rfl,rfl,hH,hj,hno,hb,q⟩:=h;cases rx;obtain⟨u,rfl,ru⟩:=rv.one;obtain⟨t,rfl⟩:=ru;obtain⟨z,its,n,r,hl,e⟩:=I.lstM hH;rw[aG]at z hl;have hI:∀(i:Nat) (v:ζ),its[i]? =some v->∃t,v= .int (ns.getD i 0) t/\ns[i]? =some (ns.getD i 0):=fun i v hv=>by
  have hi:i<ns.length:=by have:=(lV.mp hv).1;omega
  have e0:ns[i]? =some (ns.getD i 0):=by rw[iU,eO hi];rfl
  obtain⟨u,hu,ru⟩:=r.get (show(ns.map V.int)[i]? =some (.int (ns.getD i 0)) by rw[cU,e0];rfl);rw[hv]at hu;cases hu;obtain⟨t,rfl⟩:=ru;exact⟨t,rfl,e0⟩
 have hj':j<its.length:=by have:=(lV.mp hj).1;omega
 refine RV F.slot_list_index ⟨_,e,rfl⟩ F.entry_list_index (F.args_list_index_2 _ _)
  (MeetsSeq.list_index l its.toArray n (.int k t) (isK k) (fun y hy=> ?_) j (by simpa using hj') (by omega) ?_ (fun i hi hlt=> ?_)) ⟨e,?_⟩
 ·obtain⟨i,hi,rfl⟩:=Ez (show y∈its by simpa using hy);obtain⟨t',e',_⟩:=hI i its[i] (eO hi);rw[e'];exact MeetsSeq.EqGives.int _ _ _ _
 ·obtain⟨t',e',e0⟩:=hI j its[j] (eO hj');show isK k its[j]=true;rw[e'];rw[hj]at e0;have:k=ns.getD j 0:=qY e0;show(ns.getD j 0==k)=true;rw[<-this];exact wex _
 ·have hi':i<its.length:=by simpa using hi
  obtain⟨t',e',e0⟩:=hI i its[i] (eO hi');show isK k its[i]=false;rw[e'];show(ns.getD i 0==k)=false;refine beq_eq_false_iff_ne.mpr fun z=>hno i hlt ?_;rw[e0,z]
 ·exact⟨.int (j:Nat),H,I.tok _,⟨s.toks,rfl⟩,q⟩
end
section
variable{X:Cx}{a b:Expr}{ta:TA}{p pos p' pos':Pos}
noncomputable def mq(i:Int)(n:Nat):List Int:=(List.range n).map fun(k:Nat)=>i+(k:Int)
noncomputable def R6(ta:TA):TE:=fun σ H Q=>ta σ H fun vs H1=>∃i j:Int,vs=[.int i,.int j]/\0<=i/\i<=j/\j<=1000000/\∀l,H1 l=none->Q (.ref l) (upd H1 l (.lst ((mq i (j-i).toNat).map V.int)))
theorem vG(hc:X.calm=true)(YT:Gl X "list")(YG:X.mg "list"=none)(hg:Gl X "range")(hm:X.mg "range"=none)(ha:PA X [a,b] ta)(hs:starEach [a,b] X.env=[(false,eval a X.env),(false,eval b X.env)]:=by rfl)(hs':starEach [b] X.env=[(false,eval b X.env)]:=by rfl)(hs2:starEach [Expr.Call (.Name "range" p') [a,b] [] pos'] X.env=[(false,eval (Expr.Call (.Name "range" p') [a,b] [] pos') X.env)]:=by rfl):
  PE X (.Call (.Name "list" p) [.Call (.Name "range" p') [a,b] [] pos'] [] pos) (R6 ta):=by
 intro pins s σ H Q I h;refine M8 (ld_blt I YT YG (show bootBuiltins "list"=some (.type "list")from by decide+kernel) ?_ (by decide) (by decide));refine Mp ?_ hs2 rfl;rw[hs2];refine wcc ?_;refine Call_ (ld_blt I hg hm Xn (Mp (thn (ha pos' pins s σ H _ I h) fun us s1 ⟨vs,H1,I1,r1,q1⟩=> ?_) (by rw[hs,hs']) (by rw[hs'];rfl)));obtain⟨i,j,e,q0,q1,q2,q⟩:=q1;subst e;cases r1 with
 |cons r rr=>
  cases rr with
  |cons r' rr=>
   cases rr;obtain⟨t,rfl⟩:=r;obtain⟨t',rfl⟩:=r';refine call_range_2 ?_;refine wcl ?_;have hn:Builtin.Range.rangeSize i j 1=(((j-i).toNat:Nat):Int):=by rw[wen];split<;>omega
   refine call_list_range (I.ok.hd hc) (wfn ..) (small_one (by omega) (by omega) (by omega) (by omega)) hn (by omega) fun h' tk acc c hk hS hacc=> ?_;have hv:Vals ((mq i (j-i).toNat).map V.int) acc.toList:=Fb (by rw[QJ];exact hacc.1) (fun k u hu=>hacc.2 k u (by simpa using hu));have hz:((mq i (j-i).toNat).map V.int).length<=sizeLine:=by unfold mq;rw[eX];simp;omega
   have I2:Inv X pins σ H1 {s1 with heap:=s1.heap.push {cls:=Value.type "range",data:=Data.fields #[Value.int i t,Value.int j t',Value.int 1 s1.toks]},toks:=s1.toks+1}:=I1.kept fun b o e=>gP _ e;exact⟨.ref _,_,I2.laid (t':=tk) (o:= .lst ((mq i (j-i).toNat).map V.int)) hk (aN _) ⟨hz,acc.toList,c,hv,by simpa using hS⟩,rfl,q _ (I2.hok.fresh (aN _))⟩
end
structure qg(K:W.Frag)(C:Addr)(x qual:Str)(st:Stmt)(ps:List Str)(f:Addr)(fd:ρ):Prop where
 F:Fun K x qual st f fd
 b:Binds K fd ps []
 m:Meth K C x f
end L2
namespace NK
open PySem PySem.W
mutual
def hsh:θ->Int
 | .int i=>hashInt i
 | .tuple xs=>reduceHash (Builtin.Tuple.tupleHashOf (p7 xs))
 |_=>0
def p7:List θ->List Int
 |[]=>[]
 |d::ds=>hsh d::p7 ds
end
mutual
def Ve:θ->Nat
 | .int _=>1
 | .tuple xs=>wk xs+1
 |_=>0
def wk:List θ->Nat
 |[]=>0
 |d::ds=>Ve d+wk ds
end
mutual
def yt:θ->Bool
 | .int _=>true
 | .tuple xs=>gw xs
 |_=>false
def gw:List θ->Bool
 |[]=>true
 |d::ds=>yt d&&gw ds
end
noncomputable def Cp(A:υ)(s:η)(v:ζ)(d:θ):Prop:=∀(prog:ξ) (w:τ) (E:L3) (t:Nat) (Q:Int->η->Prop),
 Q (hsh d) {s with toks:=t+Ve d}->wpAny (model prog w) A (pyHash v) Q E {s with toks:=t}
inductive jM(A:υ)(s:η):List ζ->List θ->Prop
 |nil:jM A s [] []
 |cons {v vs d ds} (h:Cp A s v d) (t:jM A s vs ds):jM A s (v::vs) (d::ds)
theorem Kv{A:υ}{s:η}{a:Addr}{o:Obj}{vs:Array ζ}{n:Nat}{xs:List θ}(ho:s.heap.get? a=some o)(hc:o.cls= .type "tuple")(hd:o.data= .seq vs n)(hu:A.units<cLine)(hi:jM A.in1 s vs.toList xs):Cp A s (.ref a) (.tuple xs):=by
 intro prog w E t Q h;have hT:({s with toks:=t}:η).TypeIs (.ref a) "tuple":=⟨o,ho,hc⟩;unfold pyHash
 first |unfold pyHashByItsType|skip
 first |refine aM (wpAny_cRoomFor_or (.inr hu) ?_)|skip
 refine aM (wfg hT F.slot_tuple_hash.lookup ?_);show wpAny _ _ (if(some (Value.builtin "tuple.__hash__")==some Value.none)=true then _ else _) Q E _;rw[aq (by rw[beq_builtin_none];exact qZ)];refine aM (wfg hT F.slot_tuple_hash.lookup ?_);show wpAny _ _ (callSpecialIfBoundUnlessNone? (.ref a) "__hash__" _>>=_) Q E _;refine aM (wpAny_callSpecialIfBoundUnlessNone?_slot hT F.slot_tuple_hash (VP F.slot_tuple_hash hT F.entry_tuple_hash ?_ (F.args_tuple_hash_1 _)));show wpAny _ _ (Builtin.Tuple.tupleItemsOf (.ref a)>>=_) _ _ _;refine aM (wpAny_tupleItemsOf ho hd (aM ?_));rw[<-Array.forIn_toList];refine wcv _ (fun rest (b:Array Int) s'=>∃left k,jM A.in1 s rest left/\b.toList++p7 left=p7 xs/\k+wk left=wk xs/\s'={s with toks:=t+k}) _ ?_ ?_ _ _ ⟨xs,0,hi,rfl,wff _,rfl⟩
 ·rintro x rest b s' ⟨left,k,hl,hb,hk,rfl⟩;cases hl with
  | @cons _ _ d ds h1 hl'=>
   refine aM (h1 prog w E (t+k) _ ?_);have e1:(b.push (hsh d)).toList++p7 ds=p7 xs:=by rw[<-hb,Array.toList_push,HS];rfl
   have e2:k+Ve d+wk ds=wk xs:=by rw[<-hk];show _=k+(Ve d+wk ds);omega
   first
    |exact cO ⟨ds,k+Ve d,hl',e1,e2,by rw[wes]⟩
    |exact aM (cO (cO ⟨ds,k+Ve d,hl',e1,e2,by rw[wes]⟩))
 ·rintro b s' ⟨left,k,hl,hb,hk,rfl⟩;cases hl;have e1:b.toList=p7 xs:=by rw[<-hb];exact(tL _).symm
  have e2:k=wk xs:=by rw[<-hk];rfl
  subst e2;show wpAny _ _ (retInt (Builtin.Tuple.tupleHashOf b.toList)) _ _ _;rw[e1];refine wpAny_ret_mkInt ?_;show wpAny _ _ (if(decide (-(2:Int)^63<=Builtin.Tuple.tupleHashOf (p7 xs))&&decide (Builtin.Tuple.tupleHashOf (p7 xs)<2^63))=true then _ else _) Q E _;have h':Q (reduceHash (Builtin.Tuple.tupleHashOf (p7 xs))) {s with toks:=t+(wk xs+1)}:=h;unfold reduceHash at h';by_cases c:(decide (-(2:Int)^63<=Builtin.Tuple.tupleHashOf (p7 xs))&&decide (Builtin.Tuple.tupleHashOf (p7 xs)<2^63))=true
  ·rw[aA c];rw[aA c]at h';exact cO (by simpa[wes]using h')
  ·rw[aq c];rw[aq c]at h';exact aM (wpAny_rule (cO (by simpa[wes]using h')))
mutual
theorem sO:∀(d:θ) (A:υ) (s:η) (v:ζ) (as:List Addr),Reads s.heap v d as->yt d=true->A.units+d.depth<cLine->Cp A s v d
 | .int i,A,s,_,_,r,_,hu=>by
  cases r;intro prog w E t Q h;exact wpAny_pyHash_int h
 | .tuple xs,A,s,_,_,r,hn,hu=>by
  have hu':A.units+(PyData.depthAll xs+1)<cLine:=hu;cases r with
  |tuple h1 h2 h3 h4=>exact Kv h1 h2 h3 (by omega) (jW xs A.in1 s _ _ h4 hn (by show A.units+1+_<_;omega))
 | .none,_,_,_,_,_,hn,_=>by cases hn
 | .bool _,_,_,_,_,_,hn,_=>by cases hn
 | .str _,_,_,_,_,_,hn,_=>by cases hn
 | .list _,_,_,_,_,_,hn,_=>by cases hn
 | .dict _,_,_,_,_,_,hn,_=>by cases hn
theorem jW:∀(ds:List θ) (A:υ) (s:η) (vs:List ζ) (as:List Addr),ReadsAll s.heap vs ds as->gw ds=true->A.units+PyData.depthAll ds<cLine->jM A s vs ds
 |[],_,_,_,_,r,_,_=>by cases r;exact .nil
 |d::ds,A,s,_,_,r,hn,hu=>by
  have hu':A.units+max d.depth (PyData.depthAll ds)<cLine:=hu;have hn':(yt d&&gw ds)=true:=hn;rw[jg]at hn';cases r with
  |cons h1 h2=>exact .cons (sO d A s _ _ h1 hn'.1 (by omega)) (jW ds A s _ _ h2 hn'.2 (by omega))
end
noncomputable def m5(A:υ)(s:η)(m:Nat)(v:ζ):Prop:=∀(prog:ξ) (w:τ) (E:L3) (Q:Bool->η->Prop),Q true s->wpAny (model prog w) A (eqIsQuiet m v) Q E s
theorem Fy{A:υ}{s:η}{a:Addr}{o:Obj}{vs:Array ζ}{n m:Nat}(ho:s.heap.get? a=some o)(hc:o.cls= .type "tuple")(hd:o.data= .seq vs n)(hi:∀v∈vs.toList,m5 A s m v):m5 A s (m+1) (.ref a):=by
 intro prog w E Q h;have hT:s.TypeIs (.ref a) "tuple":=⟨o,ho,hc⟩;unfold eqIsQuiet;refine aM (wfg hT F.slot_tuple_eq.lookup ?_);show wpAny _ _ (isInstance (.ref a) (.type "tuple")>>=_) _ _ s;refine aM (wpAny_isInstance hT isSubtype_tuple_tuple ?_);simp only[Bool.not_true,V1,QS];refine aM (M5 ho hd (aM ?_));show wpAny _ _ (forIn vs _ _) _ _ s;rw[<-Array.forIn_toList];refine wcv _ (fun rest r s'=>r.1=none/\s'=s/\∀v∈rest,m5 A s m v) _ ?_ ?_ _ _ ⟨rfl,rfl,hi⟩
 ·rintro v rest r s' ⟨hr,rfl,hall⟩;refine aM (hall v cV prog w E _ ?_);simp only[Bool.not_true,V1,QS];exact cO ⟨rfl,rfl,fun u hu'=>hall u (dF _ hu')⟩
 ·rintro⟨r1,r2⟩ s' ⟨hr,rfl,_⟩;simp only at hr;subst hr;exact cO h
mutual
theorem pA:∀(d:θ) (A:υ) (s:η) (v:ζ) (as:List Addr) (m:Nat),Reads s.heap v d as->yt d=true->d.depth<=m->m5 A s m v
 | .int i,A,s,_,_,m,r,_,_=>by
  cases r;intro prog w E Q h;rw[eqIsQuiet_byValue m (v:= .int i _) rfl];exact cO h
 | .tuple xs,A,s,_,_,m,r,hn,hm=>by
  have hm':PyData.depthAll xs+1<=m:=hm;obtain⟨k,rfl⟩:∃k,m=k+1:=⟨m-1,by omega⟩;cases r with
  |tuple h1 h2 h3 h4=>exact Fy h1 h2 h3 (jt xs A s _ _ k h4 hn (by omega))
 | .none,_,_,_,_,_,_,hn,_=>by cases hn
 | .bool _,_,_,_,_,_,_,hn,_=>by cases hn
 | .str _,_,_,_,_,_,_,hn,_=>by cases hn
 | .list _,_,_,_,_,_,_,hn,_=>by cases hn
 | .dict _,_,_,_,_,_,_,hn,_=>by cases hn
theorem jt:∀(ds:List θ) (A:υ) (s:η) (vs:List ζ) (as:List Addr) (m:Nat),ReadsAll s.heap vs ds as->gw ds=true->PyData.depthAll ds<=m->∀v∈vs,m5 A s m v
 |[],_,_,_,_,_,r,_,_=>by cases r;exact fun v hv=>(nomatch hv)
 |d::ds,A,s,_,_,m,r,hn,hm=>by
  have hm':max d.depth (PyData.depthAll ds)<=m:=hm;have hn':(yt d&&gw ds)=true:=hn;rw[jg]at hn';cases r with
  |cons h1 h2=>
   intro v hv;rcases cQ.mp hv with rfl|hv
   ·exact pA d A s _ _ m h1 hn'.1 (by omega)
   ·exact jt ds A s _ _ m h2 hn'.2 (by omega) v hv
end
noncomputable abbrev SK:=List (Int×List Int)
noncomputable def uG(p:Int×List Int):θ:= .tuple [.int p.1,.tuple (p.2.map PyData.int)]
noncomputable def toD(k:SK):θ:= .tuple (k.map uG)
theorem yK:∀l:List Int,gw (l.map PyData.int)=true
 |[]=>rfl
 |x::l=>by show(true&&gw (l.map PyData.int))=true;rw[yK l];rfl
theorem yN:∀l:List Int,PyData.depthAll (l.map PyData.int)=0
 |[]=>rfl
 |x::l=>by show max 0 (PyData.depthAll (l.map PyData.int))=0;rw[yN l];rfl
theorem yL:∀l:List Int,PyData.canLayAll0 (l.map PyData.int)=true
 |[]=>rfl
 |x::l=>by show(PyData.canLay0 (.int x)&&PyData.canLayAll0 (l.map PyData.int))=true;rw[yL l];rfl
theorem yM:∀l m:List Int,PyData.eqvAll (l.map PyData.int) (m.map PyData.int)=decide (l=m)
 |[],[]=>by simp[PyData.eqvAll]
 |[],y::m=>by simp[PyData.eqvAll]
 |x::l,[]=>by simp[PyData.eqvAll]
 |x::l,y::m=>by
  show(PyData.eqv (.int x) (.int y)&&PyData.eqvAll (l.map PyData.int) (m.map PyData.int))=_;rw[yM l m];have e:PyData.eqv (.int x) (.int y)=decide (x=y):=by
   show(x==y)=_;rw[pY];simp
  rw[e,pY];simp
theorem S8(p q:Int×List Int):PyData.eqv (uG p) (uG q)=decide (p=q):=by
 show(PyData.eqv (.int p.1) (.int q.1)&&(PyData.eqvAll (p.2.map PyData.int) (q.2.map PyData.int)&&PyData.eqvAll [] []))=_;rw[yM];have e:PyData.eqv (.int p.1) (.int q.1)=decide (p.1=q.1):=by
  show(p.1==q.1)=_;rw[pY];simp
 have e2:PyData.eqvAll [] []=true:=by simp[PyData.eqvAll]
 rw[e,e2,Bool.and_true,pY,jg,wW,wW,wW];exact⟨fun h=>Ht h.1 h.2,fun h=>by rw[h];exact⟨rfl,rfl⟩⟩
theorem qK:∀k:SK,gw (k.map uG)=true/\PyData.depthAll (k.map uG)<=2/\PyData.canLayAll0 (k.map uG)=true
 |[]=>⟨rfl,dw _,rfl⟩
 |p::k=>by
  obtain⟨a,b,c⟩:=qK k;refine⟨?_,?_,?_⟩
  ·show((true&&(gw (p.2.map PyData.int)&&true))&&gw (k.map uG))=true;rw[yK,a];rfl
  ·show max (max 0 (max (PyData.depthAll (p.2.map PyData.int)+1) 0)+1) (PyData.depthAll (k.map uG))<=2;rw[yN];omega
  ·show(PyData.canLay0 (uG p)&&PyData.canLayAll0 (k.map uG))=true;have:PyData.canLay0 (uG p)=true:=by
    show(PyData.canLay0 (.int p.1)&&(PyData.canLayAll0 (p.2.map PyData.int)&&PyData.canLayAll0 []))=true;rw[yL];rfl
   rw[this,c];rfl
theorem DG:∀j k:SK,PyData.eqvAll (j.map uG) (k.map uG)=decide (j=k)
 |[],[]=>by simp[PyData.eqvAll]
 |[],y::m=>by simp[PyData.eqvAll]
 |x::l,[]=>by simp[PyData.eqvAll]
 |x::l,y::m=>by
  show(PyData.eqv (uG x) (uG y)&&PyData.eqvAll (l.map uG) (m.map uG))=_;rw[DG l m,S8,pY];simp
theorem toD_nst(k:SK):yt (toD k)=true:=(qK k).1
theorem toD_dep(k:SK):(toD k).depth<=3:=by
 show PyData.depthAll (k.map uG)+1<=3;have:=(qK k).2.1;omega
theorem toD_lay(k:SK):(toD k).canLay0=true:=(qK k).2.2
theorem toD_eqv(j k:SK):PyData.eqv (toD j) (toD k)=decide (j=k):=DG j k
theorem toD_inj{j k:SK}(h:toD j=toD k):j=k:=by
 have e:=toD_eqv j k;have e2:=toD_eqv j j;rw[dB rfl]at e2;rw[<-h,e2]at e;exact j9 e.symm
theorem uF{h:Heap}{v:ζ}{d:θ}{as:List Addr}(r:Reads h v d as)(hn:yt d=true):as=[]:=
 Reads.rec (motive_1:=fun _ d as _=>yt d=true->as=[]) (motive_2:=fun _ ds as _=>gw ds=true->as=[])
  (fun _=>rfl) (fun _ _=>rfl) (fun _ _ _=>rfl) (fun _ _ _=>rfl) (fun _ _ _ _ _ hn=>by cases hn) (fun _ _ _ _ ih hn=>ih hn) (fun _ _ _ _ _ _ _ hn=>by cases hn) (fun _=>rfl)
  (fun _ _ i1 i2 hn=>by
   have hn':(yt _&&gw _)=true:=hn;rw[jg]at hn';rw[i1 hn'.1,i2 hn'.2];rfl) r hn
theorem Ba{h h':Heap}{dd:Addr}{o:Obj}{es:Array DictEntry}{ep:Nat}(ho:h.get? dd=some o)(hd:o.data= .dict es ep)(hs:Heap.SameBut dd h h'){v:ζ}{d:θ}{as:List Addr}(r:Reads h v d as)(hn:yt d=true):Reads h' v d as:=
 Reads.rec (motive_1:=fun v d as _=>yt d=true->Reads h' v d as) (motive_2:=fun vs ds as _=>gw ds=true->ReadsAll h' vs ds as)
  (fun _=> .none) (fun b _=> .bool b) (fun i t _=> .int i t) (fun x t _=> .str x t) (fun _ _ _ _ _ hn=>by cases hn)
  (fun{a o' vs n xs as} h1 h2 h3 _ ih hn=>by
   have ne:a≠dd:=fun z=>by
    rw[z]at h1;have e:=qY (h1.symm.trans ho);rw[e,hd]at h3;cases h3
   exact .tuple ((hs.2 a ne).trans h1) h2 h3 (ih hn)) (fun _ _ _ _ _ _ _ hn=>by cases hn) (fun _=> .nil)
  (fun _ _ i1 i2 hn=>by
   have hn':(yt _&&gw _)=true:=hn;rw[jg]at hn';exact .cons (i1 hn'.1) (i2 hn'.2)) r hn
noncomputable def uW(prog:ξ)(w:τ):HeapKind prog w SK where
 is:=fun h k a=>Reads h (.ref a) (toD k) []
 hash:=fun k=>hsh (toD k)
 draws:=fun k=>Ve (toD k)
 room:=fun A=>A.units+3<cLine
 inj:=fun hx hy=>toD_inj (wdu hx _ _ hy).1
 keeps:=fun{h h' k a d o es ep} x ho hd hs=>Ba ho hd hs x (toD_nst k)
 pyHash:=fun{A E s k a Q} hu hk h=>sO (toD k) A s (.ref a) [] hk (toD_nst k) (by have:=toD_dep k;omega) prog w E s.toks Q h
 eqBool:=fun{A E s x y a b Q} hu hx hy h=>by
  have e:=toD_eqv x y;have:=toD_dep x;exact wev (toD x) (toD y) A s (.ref a) (.ref b) [] [] hx hy (toD_lay x) (toD_lay y) (by omega) prog w E Q (by rw[e];exact h)
 quiet:=fun{A E s k a Q} hk h=>pA (toD k) A s (.ref a) [] 8 hk (toD_nst k) (by have:=toD_dep k;omega) prog w E Q h
end NK
namespace L2
open PySem PySem.Spec PyProof.Rows
noncomputable def Ww(a:Addr)(xs:List (NK.SK×Addr))(h:Heap):Prop:=(a==sysModules)=false/\xs.length<=sizeLine/\
 ∃o es ep,h.get? a=some o/\o.ExactDict/\o.data= .dict es ep/\es.toList=xs.map (fun x=>(⟨NK.hsh (NK.toD x.1),.ref x.2,.bool true⟩:DictEntry))/\(xs.map (·.1)).Nodup
noncomputable def Vo(a:Addr)(xs:List (NK.SK×Addr)):HO:= .ext (Ww a xs)
noncomputable def DN(K:W.Frag)(H:Hp)(a:Addr)(ks:List NK.SK):Prop:=∃xs,H a=some (Vo a xs)/\xs.map (·.1)=ks/\∀x∈xs,DV K H (.ref x.2) (NK.toD x.1)
theorem K7{a:Addr}{xs:List (NK.SK×Addr)}:∀h1 h2:Heap,Ww a xs h1->(∀o,h1.get? a=some o->h2.get? a=some o)->Ww a xs h2:=fun h1 h2 ⟨x,y,o,es,ep,ho,r⟩ k=>⟨x,y,o,es,ep,k o ho,r⟩
theorem Rv{P:ξ}{w:τ}{H:Hp}{h:Heap}{a:Addr}{xs:List (NK.SK×Addr)}(p:Ww a xs h):ObjOk P w H h a (Vo a xs):=by
 refine⟨p,?_,K7⟩;obtain⟨_,_,o,_,_,ho,_⟩:=p;exact⟨o,ho⟩
theorem jG{K:W.Frag}{H H':Hp}{a b:Addr}{φ:Heap->Prop}{xs:List V}(ha:H a=some (.ext φ))(e:∀c o,c≠a->H c=some o->H' c=some o)(h:SqT K H b xs):SqT K H' b xs:=by
 rcases h with(q|⟨o,q⟩)|q
 ·exact .inl (.inl (e _ _ (fun z=>by rw[z,ha]at q;cases q) q))
 ·exact .inl (.inr ⟨o,e _ _ (fun z=>by rw[z,ha]at q;cases q) q⟩)
 ·exact .inr q
theorem wj{K:W.Frag}{H H':Hp}{a:Addr}{φ:Heap->Prop}(ha:H a=some (.ext φ))(e:∀c o,c≠a->H c=some o->H' c=some o){x:V}{d:θ}(h:DV K H x d)(hn:NK.yt d=true):DV K H' x d:=
 DV.rec (motive_1:=fun x d _=>NK.yt d=true->DV K H' x d) (motive_2:=fun xs ds _=>NK.gw ds=true->bO K H' xs ds)
  (fun _=> .non) (fun b _=> .bl b) (fun i _=> .int i) (fun x _=> .str x) (fun h _ t hn=> .tup (jG ha e h) (t hn)) (fun _ _ _ hn=>by cases hn) (fun _ hn=>by cases hn) (fun _ _ hn=>by cases hn) (fun _=> .nil)
  (fun _ _ i1 i2 hn=>by
   have hn':(NK.yt _&&NK.gw _)=true:=hn;rw[jg]at hn';exact .cons (i1 hn'.1) (i2 hn'.2)) h hn
theorem DN.same{K:W.Frag}{H H':Hp}{a:Addr}{ks:List NK.SK}(h:DN K H a ks)(e:Same H H'):DN K H' a ks:=by
 obtain⟨xs,h1,h2,h3⟩:=h;exact⟨xs,e _ _ h1,h2,fun x hx=>(h3 x hx).same e⟩
section
variable{X:Cx}{pins:L1}{σ:St}{H:Hp}{s:η}
theorem Rw{a:Addr}{xs:List (NK.SK×Addr)}(I:Inv X pins σ H s)(h:H a=some (Vo a xs))(hk:∀x∈xs,DV X.K H (.ref x.2) (NK.toD x.1)):
  (a==sysModules)=false/\xs.length<=sizeLine/\s.heap.DictOfH (NK.uW X.prog X.w) a (xs.map fun x=>(x.1,x.2,Value.bool true)):=by
 obtain⟨⟨hd,hz,o,es,ep,ho,hx,hda,he,nd⟩,_⟩:=(show ObjOk X.prog X.w H s.heap a (Vo a xs)from I.hok a _ h);refine⟨hd,hz,o,es,ep,ho,hx,hda,?_,fun y hy=> ?_,?_⟩
 ·rw[he,tU];rfl
 ·obtain⟨x,hx',rfl⟩:=fG.mp hy;obtain⟨as,r⟩:=DV.reads I (hk x hx') (u:= .ref x.2) rfl;have:=NK.uF r (NK.toD_nst x.1);subst this;exact r
 ·rw[tU];exact nd
theorem K8{b:Addr}{k:NK.SK}(I:Inv X pins σ H s)(h:DV X.K H (.ref b) (NK.toD k)):(NK.uW X.prog X.w).is s.heap k b:=by
 obtain⟨as,r⟩:=DV.reads I h (u:= .ref b) rfl;have:=NK.uF r (NK.toD_nst k);subst this;exact r
theorem K9(k:NK.SK):∀xs:List (NK.SK×Addr),(atKey (xs.map fun x=>(x.1,x.2,Value.bool true)) k).isSome=decide (k∈xs.map (·.1))
 |[]=>rfl
 |x::xs=>by
  have ih:=K9 k xs;unfold atKey at ih⊢;rw[zW,List.find?_cons];by_cases c:x.1=k
  ·subst c;simp
  ·have e1:decide (x.1=k)=false:=fJ c;show(Option.map _ (match decide (x.1=k)with |true=>_|false=>_)).isSome=_;rw[e1];show(Option.map _ (List.find? _ _)).isSome=_;rw[ih];refine decide_eq_decide.mpr ⟨fun h=>dF _ h,fun h=> ?_⟩;rcases cQ.mp h with z|z
   ·exact absurd z.symm c
   ·exact z
end
section
variable{X:Cx}{o i value:Expr}{pos pos':Pos}{td ty tv:TE}
theorem Tg(hu:X.A.units+64<cLine):OpR X (compareOp .In) (fun x y H Q=>∃(a b:Addr) (ks:List NK.SK) (k:NK.SK),y= .ref a/\x= .ref b/\DN X.K H a ks/\DV X.K H (.ref b) (NK.toD k)/\Q (.bl (decide (k∈ks))) H):=by
 intro pins s σ H x y v u Q I rx ry h;obtain⟨a,b,ks,k,rfl,rfl,⟨xs,h1,h2,h3⟩,hk,q⟩:=h;cases ry;cases(show v=Value.ref b from rx);obtain⟨hd,hz,dd⟩:=Rw I h1 h3;refine wpAny_in_heap (knd:=NK.uW X.prog X.w) (show X.A.units+1+3<cLine by omega) (K8 I hk) hd dd ?_;rw[K9,h2];exact⟨.bl _,H,I.tok _,rfl,q⟩
noncomputable def Ss(K:W.Frag)(td ty tv:TE):TS:=fun D σ H=>tv σ H fun v H1=>td σ H1 fun x H2=>ty σ H2 fun y H3=>∃(a b:Addr) (ks:List NK.SK) (k:NK.SK),x= .ref a/\y= .ref b/\v= .bl true/\DN K H3 a ks/\DV K H3 (.ref b) (NK.toD k)/\k∉ks/\ks.length<sizeLine/\
 ∀H4,(∀c o,c≠a->H3 c=some o->H4 c=some o)->DN K H4 a (ks++[k])->D.nx σ H4
theorem Jx(hu:X.A.units+64<cLine)(ho:PE X o td)(hi:PE X i ty)(hv:PE X value tv)(hs:swapsWith value (some (.Subscript o i pos')) pos.line X.env=pure false:=by rfl):
  PS X (.Assign [.Subscript o i pos'] value pos) (Ss X.K td ty tv):=by
 intro pins s σ H D I h;refine wpAny_Assign_Subscript (thn (hv pins s σ H _ I h) fun r s1 ⟨v,H1,I1,rv,q1⟩=>thn (ho pins s1 σ H1 _ I1 q1) fun u s2 ⟨x,H2,I2,rx,q2⟩=>thn (hi pins s2 σ H2 _ I2 q2) fun iv s3 ⟨y,H3,I3,ry,a,b,ks,k,ex,ey,ev,⟨xs,h1,h2,h3⟩,hk,nk,lk,q3⟩=> ?_) hs;subst ex ey ev;obtain rfl:u=Value.ref a:=rx;obtain rfl:iv=Value.ref b:=ry;obtain rfl:r=Value.bool true:=rv;obtain⟨hd,hz,dd⟩:=Rw I3 h1 h3;have none:atKey (xs.map fun x=>(x.1,x.2,Value.bool true)) k=none:=by
  have:=K9 k xs;rw[h2,fJ nk]at this;exact Option.not_isSome_iff_eq_none.mp (by rw[this];decide)
 have kk:=K8 I3 hk;refine wpAny_setItem_heap (knd:=NK.uW X.prog X.w) (hsz:=by rw[aG];exact hz) (show X.A.units+1+3<cLine by omega) kk dd fun h' dd' hb=> ?_;rw[storedH_new none]at dd';obtain⟨o',es,ep,e1,e2,e3,e4,_,e5⟩:=dd';have hl:xs.length<sizeLine:=by rw[<-h2,aG]at lk;exact lk
 have p:Ww a (xs++[(k,b)]) h':=by
  refine⟨hd,by rw[g8];show xs.length+1<=_;omega,o',es,ep,e1,e2,e3,?_,?_⟩
  ·rw[e4,bW,bW,tU];rfl
  ·rw[bW,tU]at e5;rw[bW];exact e5
 have keep:∀c o,c≠a->H3 c=some o->(upd H3 a (Vo a (xs++[(k,b)]))) c=some o:=fun c o n z=>by rw[cP n];exact z
 refine⟨σ,upd H3 a (Vo a (xs++[(k,b)])),d_write I3 (by rw[h1];exact True.intro) hb ⟨o',e1⟩ (Rv p),q3 _ keep ⟨xs++[(k,b)],aJ,by rw[bW,h2];rfl,fun x hx=> ?_⟩⟩;rcases pU.mp hx with z|z
 ·exact wj h1 keep (h3 x z) (NK.toD_nst _)
 ·rw[fO.mp z];exact wj h1 keep hk (NK.toD_nst _)
theorem JB:PE X (.Dict [] [] pos) (fun _ H Q=>∀p H',Same H H'->H p=none->DN X.K H' p []->Q (.ref p) H'):=fun pins s σ H Q I h=>by
 have hn:H s.heap.objs.size=none:=I.hok.fresh (aN _);have p:Ww s.heap.objs.size [] (s.heap.push {cls:= .type "dict",data:= .dict #[]}):=
  ⟨beq_eq_false_iff_ne.mpr (jU (fM I.big)),dw _,_,#[],0,j7 _ rfl,⟨rfl,rfl,rfl⟩,rfl,rfl,wfm⟩
 exact wpAny_Dict_empty ⟨.ref s.heap.objs.size,_,I.laid (a:=s.heap.objs.size) (o:=Vo s.heap.objs.size []) (t':=s.toks) (fun _ _ q=>gP _ q) (aN _) (Rv p),rfl,
  h _ _ (fun c o z=>by rw[cP (j5 z hn)];exact z) hn ⟨[],aJ,rfl,fun x hx=>(nomatch hx)⟩⟩
end
section
variable{X:Cx}{σ:St}{H:Hp}{s:η}{pins:L1}
variable{I S f l:Addr}{vs:List ζ}{RR:Result->η->Prop}
theorem Ow(kf:Nat->Int)(R:Nat->Hp->Prop)(hA:X.A.handled=none)(mI:qe X pins I)(mS:qe X pins S)(Rq:S≠I)(Ro:l≠I)(hl:∀j H s,Inv X pins σ H s->R j H->s.heap.IsTuple l vs.toArray)(turn:∀j v (ps:L1) H s,vs[j]? =some v->Inv X ps σ H s->R j H->wpAny (model X.prog X.w) X.A.in1 (call (.ref f) [v]) (fun u s'=>∃H' t,u= .int (kf j) t/\Inv X ps σ H' s'/\R (j+1) H') (fun _ _=>False) s)(hR:∀i v H' s',vs[i]? =some v->(∀j,j<vs.length->kf i<=kf j/\(j<i->kf i<kf j))->Inv X pins σ H' s'->R vs.length H'->RR (.ok (.ret v)) s'):
  ∀(r j i:Nat) (H:Hp) (s:η) (vb:ζ) (tb:Tok) (c:Nat) (oI:Obj),vs.length-(j+1)=r->j+1<=vs.length->Inv X ((I,oI)::(S,seqObj "list" #[vb,.int (kf i) tb] c)::pins) σ H s->R (j+1) H->s.heap.IsTupleIter I l (j+1)->vs[i]? =some vb->i<=j->(∀j',j'<=j->kf i<=kf j'/\(j'<i->kf i<kf j'))->
   codeAny (model X.prog X.w) X.A (.builtin "min.loop" ⟨[.ref I,.ref f,.ref S],[]⟩) RR s:=by
 have nm:(toString "min"++toString ".loop":String)="min.loop":=by decide
 have W:=Walks.tuple (prog:=X.prog) (w:=X.w) (A:=X.A.in1) hA I l Ro vs.toArray;have zs:vs.toArray.size=vs.length:=fH ..;have m2:∀o,qe X ((S,o)::pins) I:=fun o=>mI.under (p:=(S,o)) Rq;have m3:∀o,qe X ((I,o)::pins) S:=fun o=>mS.under (p:=(I,o)) Rq.symm;intro r
 induction r with
 |zero=>
  intro j i H s vb tb c oI hr hj J Y6 hit hvb hij hbest;have pS:=(J.pin _ (lU _ (dF _ cV))).1;refine Mj wck (by
   rw[QV RX _];show wpAny _ X.A.in1 (seqItems? (.ref S)>>=_) _ _ _;refine aM (M5 pS rfl (?_));show wpAny _ X.A.in1 (tryCatch (pyNext (.ref I)) _>>=_) _ _ _;refine aM (Hu (W.done _ _ _ ⟨by rw[zs,<-show j+1=vs.length by omega];exact hit,hl (j+1) H s J.rB.rB Y6⟩ fun h' tk' hk'=> ?_));have k1:∀b x,b≠I->s.heap.get? b=some x->h'.get? b=some x:=fun b x hb e=>hk' b x (fun z=>hb (fO.mp z)) e;have pI:=J.pin (I,oI) (lU _ cV);have J1:Inv X ((S,seqObj "list" #[vb,.int (kf i) tb] c)::pins) σ H {s with heap:=h',toks:=tk'}:=J.rB.turned (t':=tk') (it:=I) k1 pI.2.1 mI.loc (.inr mI.lo) mI.cl (m2 _).pn;have g:=(J1.pin _ (lU _ cV)).1;show wpAny _ X.A.in1 (updateSeq S (fun _=>#[])>>=_) _ _ _;refine aM (VN g rfl (aM (QT (cO ?_))));have sb:=Ie h' S (Obj.mapSeq fun _=>(#[]:Array ζ));have J2:=(J1.xY (o':=seqObj "list" #[] _) (tk:=tk') mS (fun b x hb e=>(sb.2 b hb).trans e) (M6 g fun _=>#[]) (vN _));exact hR i vb H _ hvb (fun j' hj'=>hbest j' (by omega)) J2.rB (by rw[<-show j+1=vs.length by omega];exact Y6))
 |succ r ih=>
  intro j i H s vb tb c oI hr hj J Y6 hit hvb hij hbest;have hlt:j+1<vs.length:=by omega
  have pS:=(J.pin _ (lU _ (dF _ cV))).1;refine Mj wck (by
   rw[QV RX _];show wpAny _ X.A.in1 (seqItems? (.ref S)>>=_) _ _ _;refine aM (M5 pS rfl (?_));show wpAny _ X.A.in1 (tryCatch (pyNext (.ref I)) _>>=_) _ _ _;refine aM (Hu (W.item (j+1) _ _ _ (by rw[zs];exact hlt) ⟨hit,hl (j+1) H s J.rB.rB Y6⟩ fun v h' tk' hP hst' hk'=> ?_));have hv:vs[j+1]? =some v:=(by simpa using hP);have k1:∀b x,b≠I->s.heap.get? b=some x->h'.get? b=some x:=fun b x hb e=>hk' b x (fun z=>hb (fO.mp z)) e;obtain⟨oI',hoI,hoc,hod⟩:=id hst'.1;have J1:=J.xY (o':=oI') (tk:=tk') (m2 _) k1 hoI (fun v z=>by rw[hod]at z;cases z);show wpAny _ X.A.in1 (tryCatch (holding [v] (call (.ref f) [v])) _>>=_) _ _ _;refine aM (Hu (CQ (Mi (turn (j+1) v _ H _ hv J1 Y6) (fun u s2 z=> ?_) fun _ _ z=>z.elim)));obtain⟨H2,t2,rfl,J2,hR2⟩:=z;have hit2:s2.heap.IsTupleIter I l (j+1+1):=⟨oI',(J2.pin _ (lU _ cV)).1,hoc,hod⟩;have g:=(J2.pin _ (lU _ (dF _ cV))).1;show wpAny _ X.A.in1 (tryCatch (holding [v,.int (kf (j+1)) t2] (richCompare .Lt (.int (kf (j+1)) t2) (.int (kf i) tb)>>=_)) _>>=_) _ _ _;refine aM (Hu (CQ (aM (CmpOf.ints_lt (prog:=X.prog) (w:=X.w) (A:=X.A.in1) (P:=fun i v=>∃t,v= .int (kf i) t) kf (fun i v h=>h) (j+1) i _ _ _ _ _ ⟨t2,rfl⟩ ⟨tb,rfl⟩ (aM (CQ (Ml (aM (QT (cO ?_))))))))));by_cases hb:kf (j+1)<kf i
   ·have sb:=Ie s2.heap S (Obj.mapSeq fun _=>#[v,.int (kf (j+1)) t2]);simp only[hb,decide_true,RQ];refine aM (VN g rfl (aM (QT ?_)));rw[nm];have J3:=(J2.swap.xY (o':=seqObj "list" #[v,.int (kf (j+1)) t2] _) (tk:=s2.toks) (m3 _) (fun b x hb e=>(sb.2 b hb).trans e) (M6 g fun _=>#[v,.int (kf (j+1)) t2]) (vN _)).swap;refine cO ⟨M4 RX _,ih (j+1) (j+1) H2 _ v t2 _ oI' (by omega) hlt J3 hR2 ⟨oI',(J3.pin _ (lU _ cV)).1,hoc,hod⟩ hv (aN _) fun j' hj'=> ?_⟩;by_cases e:j'=j+1
    ·subst e;exact⟨tR _,fun z=>absurd z (pR _)⟩
    ·have q:=(hbest j' (by omega)).1;exact⟨by omega,fun _=>by omega⟩
   ·simp only[hb,decide_false,V1,QS];refine aM (QT (?_));rw[nm];refine cO ⟨M4 RX _,ih (j+1) i H2 _ vb tb c oI' (by omega) hlt J2 hR2 hit2 hvb (by omega) fun j' hj'=> ?_⟩;by_cases e:j'=j+1
    ·subst e;exact⟨by omega,fun z=>by omega⟩
    ·exact hbest j' (by omega))
theorem J6{Q:L3}{E:L3}(kf:Nat->Int)(R:Nat->Hp->Prop)(hA:X.A.handled=none)(hne:0<vs.length)(J:Inv X pins σ H s)(hR0:R 0 H)(hl:∀j H s,Inv X pins σ H s->R j H->s.heap.IsTuple l vs.toArray)(turn:∀j v (ps:L1) H s,vs[j]? =some v->Inv X ps σ H s->R j H->wpAny (model X.prog X.w) X.A.in1 (call (.ref f) [v]) (fun u s'=>∃H' t,u= .int (kf j) t/\Inv X ps σ H' s'/\R (j+1) H') (fun _ _=>False) s)(hQ:∀i v H' s',vs[i]? =some v->(∀j,j<vs.length->kf i<=kf j/\(j<i->kf i<kf j))->Inv X pins σ H' s'->R vs.length H'->Q v s'):
  wpAny (model X.prog X.w) X.A (call (.builtin "min") [.ref l] [(Str.ofString "key",.ref f)]) Q E s:=by
 have nm:(toString "min"++toString ".loop":String)="min.loop":=by decide
 have hls:=hl 0 H s J hR0;obtain⟨ol,hol,_⟩:=id hls;have Ro:l≠s.heap.objs.size:=fM (dX hol);refine kmb_tree PySem.F.kind_min PySem.F.plain_min PySem.F.entry_min (kmb_min_key _ _) (by
  show wpAny _ X.A.in1 (Builtin.Builtins.bindParams "min" ["key","default"] 0 ⟨[],[(Str.ofString "key",.ref f)]⟩>>=_) _ _ s;refine aM (wpAny_of_eq (show Builtin.Builtins.bindParams "min" ["key","default"] 0 ⟨[],[(Str.ofString "key",.ref f)]⟩=pure [some (.ref f),none]from rfl) (aM (cO (aM (Xw hls (aM (VL ?_ (dw _))))))));rw[nm];have zS:(s.heap.push {cls:= .type "tuple_iterator",data:= .fields #[.ref l,.int 0 0]}).objs.size=s.heap.objs.size+1:=size_push' ..;rw[zS];have k0:∀b o,s.heap.get? b=some o->((s.heap.push {cls:= .type "tuple_iterator",data:= .fields #[.ref l,.int 0 0]}).push (seqObj "list" #[] 0)).get? b=some o:=fun b o e=>gP _ (gP _ e);have gI0:((s.heap.push {cls:= .type "tuple_iterator",data:= .fields #[.ref l,.int 0 0]}).push (seqObj "list" #[] 0)).get? s.heap.objs.size=some {cls:= .type "tuple_iterator",data:= .fields #[.ref l,.int 0 0]}:=gP _ (j7 _ rfl);have gS:((s.heap.push {cls:= .type "tuple_iterator",data:= .fields #[.ref l,.int 0 0]}).push (seqObj "list" #[] 0)).get? (s.heap.objs.size+1)=some (seqObj "list" #[] 0):=by rw[<-zS];exact j7 _ rfl
  have mI:=qe.new J (aN _);have mS:=qe.new J (Hl s.heap.objs.size);have Rq:s.heap.objs.size+1≠s.heap.objs.size:=Mg (tM _);have Jk:Inv X pins σ H {s with heap:=(s.heap.push {cls:= .type "tuple_iterator",data:= .fields #[.ref l,.int 0 0]}).push (seqObj "list" #[] 0),toks:=s.toks}:=J.kept k0;have JI:Inv X ((s.heap.objs.size,{cls:= .type "tuple_iterator",data:= .fields #[.ref l,.int 0 0]})::(s.heap.objs.size+1,seqObj "list" #[] 0)::pins) σ H {s with heap:=(s.heap.push {cls:= .type "tuple_iterator",data:= .fields #[.ref l,.int 0 0]}).push (seqObj "list" #[] 0),toks:=s.toks}:=Jk.pins_of fun q hq=>by
   rcases cQ.mp hq with z|z
   ·subst z;exact⟨gI0,J.hok.fresh (aN _),mI.loc,mI.fs,fun v z=>by have z':Data.fields #[Value.ref l,.int 0 0]=Data.cell v:=z;cases z'⟩
   ·rcases cQ.mp z with z|z
    ·subst z;exact⟨gS,J.hok.fresh (Hl _),mS.loc,mS.fs,vN _⟩
    ·exact Jk.pin q (lU _ z)
  have W:=Walks.tuple (prog:=X.prog) (w:=X.w) (A:=X.A.in1) hA s.heap.objs.size l Ro vs.toArray;refine cO ⟨M4 RX _,Mj wck ?_⟩;rw[QV RX _];show wpAny _ X.A.in1 (seqItems? (.ref (s.heap.objs.size+1))>>=_) _ _ _;refine aM (M5 gS rfl (?_));show wpAny _ X.A.in1 (tryCatch (pyNext (.ref s.heap.objs.size)) _>>=_) _ _ _;refine aM (Hu (W.item 0 _ _ _ (by rw[fH];exact hne) ⟨⟨_,gI0,rfl,rfl⟩,hl 0 H _ Jk hR0⟩ fun v h' tk' hP hst' hk'=> ?_));have hv:vs[0]? =some v:=(by simpa using hP);obtain⟨oI',hoI,hoc,hod⟩:=id hst'.1;have J1:=JI.xY (o':=oI') (tk:=tk') (mI.under (p:=(s.heap.objs.size+1,seqObj "list" #[] 0)) Rq) (fun b x hb e=>hk' b x (fun z=>hb (fO.mp z)) e) hoI (fun v z=>by rw[hod]at z;cases z);show wpAny _ X.A.in1 (tryCatch (holding [v] (call (.ref f) [v])) _>>=_) _ _ _;refine aM (Hu (CQ (Mi (turn 0 v _ H _ hv J1 hR0) (fun u s2 z=> ?_) fun _ _ z=>z.elim)));obtain⟨H2,t2,rfl,J2,hR2⟩:=z;have g:=(J2.pin _ (lU _ (dF _ cV))).1;have sb:=Ie s2.heap (s.heap.objs.size+1) (Obj.mapSeq fun _=>#[v,.int (kf 0) t2]);show wpAny _ X.A.in1 (updateSeq (s.heap.objs.size+1) (fun _=>#[v,.int (kf 0) t2])>>=_) _ _ _;refine aM (VN g rfl ?_);rw[nm];have J3:=(J2.swap.xY (o':=seqObj "list" #[v,.int (kf 0) t2] _) (tk:=s2.toks) (mS.under (p:=(s.heap.objs.size,oI')) Rq.symm) (fun b x hb e=>(sb.2 b hb).trans e) (M6 g fun _=>#[v,.int (kf 0) t2]) (vN _)).swap;exact cO ⟨M4 RX _,Ow kf R hA mI mS Rq Ro hl turn hQ _ 0 0 H2 _ v t2 _ oI' rfl hne J3 hR2 ⟨oI',(J3.pin _ (lU _ cV)).1,hoc,hod⟩ hv (aN _) fun j' hj'=>by
   have e:j'=0:=by omega
   subst e;exact⟨tR _,fun z=>absurd z (pR _)⟩⟩)
theorem Nz{k:Nat}{fd:ρ}{ps:List Str}{sp:Sp}{Q:VK}{us:List ζ}{zs:List V}(F:FnOk X.prog X.w X.K X.mg X.base CX0 k f fd ps sp)(hr:Room k X.A.in1)(hb:Binds X.K fd ps [])(I:Inv X pins σ H s)(r:Vals zs us)(h:sp zs H Q E0):
  wpAny (model X.prog X.w) X.A.in1 (call (.ref f) us) (EP X pins σ Q) (fun _ _=>False) s:=by
 have hl:us.length=ps.length:=by rw[<-r.length];exact F.len _ _ _ _ h
 have bb:=hb s us I.kIn (by rw[tL];exact hl);rw[tL]at bb;refine wpAny_call (VJ (F.run X.A.in1 X.stack s H ⟨us,[]⟩ us zs Q E0 hr I.env0.in1 bb r h) fun r s' hq=> ?_);cases r with
 |error e=>exact hq
 |ok fl=>
  cases fl with
  |ret u=>exact I.after hq
  |next=>exact False.elim hq
  |brk=>exact False.elim hq
  |cont=>exact False.elim hq
end
noncomputable def XD(K:W.Frag)(sp:Sp)(ta:TA):TE:=fun σ H Q=>ta σ H fun vs H1=>∃(l:Addr) (its:List Addr) (kf:Nat->Int),vs=[.ref l]/\SqT K H1 l (its.map V.ref)/\its≠[]/\
 (∀j p,its[j]? =some p->sp [.ref p] H1 (fun v H'=>v= .int (kf j)/\H'=H1) E0)/\
 ∀i p,its[i]? =some p->(∀j,j<its.length->kf i<=kf j/\(j<i->kf i<kf j))->Q (.ref p) H1
theorem q9:∀{its:List Addr} {us:List ζ},Vals (its.map V.ref) us->us=its.map Value.ref
 |[],_,h=>by cases h;rfl
 |p::its,_,h=>by
  cases h with
  |cons r t=>rw[q9 t];cases r;rfl
section
variable{X:Cx}{a:Expr}{ta:TA}{p kp p2 pos:Pos}{k:Nat}{f:Addr}{fd:ρ}{q x:Str}{sp:Sp}
theorem N5(F:FnOk X.prog X.w X.K X.mg X.base CX0 k f fd [q] sp)(hc:X.calm=true)(hr:Room (k+1) X.A)(hg:Gl X "min")(hm:X.mg "min"=none)(hgx:Gl X x)(hmx:X.mg x=some (.ref f))(hk:PySem.W.keepIn X.K (.ref f)=true)(hb:Binds X.K fd [q] [])(ha:PA X [a] ta)(hdb:(x==("__debug__":Str))=false:=by decide)(YX:backTo pos (starEach [a] X.env)=(false,eval a X.env)::backTo pos (starEach [] X.env):=by rfl)(hp:(backTo pos (starEach [a] X.env)).any (·.1)=false:=by rfl):PE X (.Call (.Name "min" p) [a] [⟨some "key",.Name x p2,kp⟩] pos) (XD X.K sp ta):=by
 intro pins s σ H Q I h;refine M8 (ld_blt I hg hm (show bootBuiltins "min"=some (.builtin "min")from by decide+kernel) ?_ (by decide) (by decide));refine wef (thn (ha pos pins s σ H _ I h) fun us s1 ⟨vs,H1,I1,r1,q1⟩=>kws_cons ?_) YX hp;obtain⟨l,its,kf,e,hq,hne,ht,q⟩:=q1;subst e;cases r1 with
 |cons r rr=>
  cases rr;cases r;refine ld_glob I1 hgx hmx (kws_nil ?_) hdb;have Yt:(its.map Value.ref).length=its.length:=aG _;show wpAny (model X.prog X.w) X.A (call (.builtin "min") [.ref l] [(Str.ofString "key",.ref f)]) (EP X pins σ Q) X.xe s1;refine J6 (vs:=its.map Value.ref) kf (fun j H=>H=H1) (I.ok.hd hc) (by rw[Yt];exact yee.mpr hne) I1 rfl (fun j H s J hj=> ?_) (fun j v ps H s hv' J hj=> ?_) fun i v H' s' hv' hb' J hj=> ?_
  ·subst hj;obtain⟨ws,rv,pl,hz⟩:=J.tuple hq;rw[q9 rv]at pl;exact pl
  ·subst hj;rw[cU]at hv';cases ej:its[j]? with
   |none=>rw[ej]at hv';cases hv'
   |some p=>
    rw[ej]at hv';cases hv';refine Mi (Nz F (hr.in1) hb J (zs:=[.ref p]) (.cons rfl .nil) (ht j p ej)) (fun u s' z=> ?_) fun _ _ z=>z.elim;obtain⟨w,H',J',rw',rfl,rfl⟩:=z;obtain⟨t,rfl⟩:=rw';exact⟨H',t,rfl,J',rfl⟩
  ·subst hj;rw[cU]at hv';cases ei:its[i]? with
   |none=>rw[ei]at hv';cases hv'
   |some p=>
    rw[ei]at hv';cases hv';rw[Yt]at hb';exact⟨.ref p,H',J,rfl,q i p ei hb'⟩
end
end L2
namespace Sw
noncomputable abbrev SK:=List (Int×List Int)
section
variable(T U:Int->Int->Bool)
noncomputable def pJ(k:SK)(l img:Int):SK:=k.filterMap fun p=>if T l p.1=true then some (p.1,p.2.filter fun y=>U img y)else if p.1=l then none else some p
structure Hy(k:SK)(g:Int->Int):Prop where
 im:∀p∈k,g p.1∈p.2
 ti:∀p∈k,∀q∈k,T p.1 q.1=true->U (g p.1) (g q.1)=true
structure Ok:Prop where
 Ms:∀x,T x x=false
 sym:∀x y,T x y=T y x
 usy:∀x y,U x y=U y x
noncomputable def Nd(k:SK):Prop:=(k.map (·.1)).Nodup
end
section
variable{T U:Int->Int->Bool}
theorem gF{k:SK}{l img:Int}{p:Int×List Int}:p∈pJ T U k l img↔∃q∈k,q.1=p.1/\((T l q.1=true/\p.2=q.2.filter fun y=>U img y)\/(T l q.1=false/\q.1≠l/\p.2=q.2)):=by
 unfold pJ;rw[List.mem_filterMap];refine⟨fun⟨q,hq,e⟩=>⟨q,hq,?_⟩,fun⟨q,hq,e,h⟩=>⟨q,hq,?_⟩⟩
 ·by_cases c:T l q.1=true
  ·rw[aA c]at e;cases e;exact⟨rfl,.inl ⟨c,rfl⟩⟩
  ·rw[aq c]at e;by_cases c2:q.1=l
   ·rw[aA c2]at e;cases e
   ·rw[aq c2]at e;cases e;exact⟨rfl,.inr ⟨Bool.eq_false_iff.mpr c,c2,rfl⟩⟩
 ·rcases h with⟨a,b⟩|⟨a,b,c⟩
  ·rw[aA a];exact gq some (Ht e b.symm)
  ·rw[aq (by rw[a];decide),aq b];exact gq some (Ht e c.symm)
theorem nd_eq{k:SK}(h:Nd k){p q:Int×List Int}(hp:p∈k)(hq:q∈k)(e:p.1=q.1):p=q:=by
 obtain⟨i,hi,rfl⟩:=Ez hp;obtain⟨j,hj,rfl⟩:=Ez hq;have h':(k.map fun p:Int×List Int=>p.1).Nodup:=h;have:=(List.getElem?_inj (i:=i) (j:=j) (by rw[aG];exact hi) h').mp (by rw[cU,cU,eO hi,eO hj];exact gq some e);subst this;rfl
theorem Jh(o:Ok T U){k:SK}{l:Int}{g:Int->Int}{is:List Int}(hl:(l,is)∈k)(h:Hy T U k g):Hy T U (pJ T U k l (g l)) g:=by
 refine⟨fun p hp=> ?_,fun p hp q hq t=> ?_⟩
 ·obtain⟨r,hr,e,c⟩:=gF.mp hp;rw[<-e];rcases c with⟨a,b⟩|⟨a,b,c⟩
  ·rw[b];exact dO.mpr ⟨h.im r hr,h.ti _ hl r hr a⟩
  ·rw[c];exact h.im r hr
 ·obtain⟨r,hr,e,_⟩:=gF.mp hp;obtain⟨r',hr',e',_⟩:=gF.mp hq;rw[<-e,<-e']at t⊢;exact h.ti r hr r' hr' t
noncomputable def pt(g:Int->Int)(l img:Int):Int->Int:=fun x=>if x=l then img else g x
theorem Jf(o:Ok T U){k:SK}(nd:Nd k){l img:Int}{g:Int->Int}{is:List Int}(hl:(l,is)∈k)(hi:img∈is)(h:Hy T U (pJ T U k l img) g):Hy T U k (pt g l img):=by
 have rest:∀p∈k,p.1≠l->g p.1∈p.2/\(T l p.1=true->U img (g p.1)=true)/\∃p'∈pJ T U k l img,p'.1=p.1:=fun p hp ne=>by
  by_cases c:T l p.1=true
  ·have m:(p.1,p.2.filter fun y=>U img y)∈pJ T U k l img:=gF.mpr ⟨p,hp,rfl,.inl ⟨c,rfl⟩⟩;have:=dO.mp (h.im _ m);exact⟨this.1,fun _=>this.2,_,m,rfl⟩
  ·have m:p∈pJ T U k l img:=gF.mpr ⟨p,hp,rfl,.inr ⟨Bool.eq_false_iff.mpr c,ne,rfl⟩⟩;exact⟨h.im _ m,fun z=>absurd z c,_,m,rfl⟩
 refine⟨fun p hp=> ?_,fun p hp q hq t=> ?_⟩
 ·unfold pt;by_cases c:p.1=l
  ·rw[aA c];have:=nd_eq nd hp hl c;rw[this];exact hi
  ·rw[aq c];exact(rest p hp c).1
 ·unfold pt;by_cases c:p.1=l
  ·by_cases d:q.1=l
   ·rw[c,d,o.Ms]at t;cases t
   ·rw[aA c,aq d];rw[c]at t;exact(rest q hq d).2.1 t
  ·by_cases d:q.1=l
   ·rw[aq c,aA d];rw[d,o.sym]at t;rw[o.usy];exact(rest p hp c).2.1 t
   ·rw[aq c,aq d];obtain⟨p',hp',e⟩:=(rest p hp c).2.2;obtain⟨q',hq',e'⟩:=(rest q hq d).2.2;have:=h.ti p' hp' q' hq' (by rw[e,e'];exact t);rw[e,e']at this;exact this
theorem mW(o:Ok T U)(l img:Int):∀k:SK,(pJ T U k l img).map (·.1)=(k.map (·.1)).filter fun x=>decide (x≠l)
 |[]=>rfl
 |p::k=>by
  have ih:=mW o l img k;unfold pJ at ih⊢;rw[Xi,zW,qT];by_cases c:T l p.1=true
  ·have ne:p.1≠l:=fun z=>by rw[z,o.Ms]at c;cases c
   rw[aA c,aA (by simpa using ne)];show p.1::_=_;rw[ih]
  ·rw[aq c];by_cases d:p.1=l
   ·rw[aA d,aq (by simpa using d)];exact ih
   ·rw[aq d,aA (by simpa using d)];show p.1::_=_;rw[ih]
theorem Ce(o:Ok T U){k:SK}{l img:Int}(h:Nd k):Nd (pJ T U k l img):=by
 unfold Nd;rw[mW o];exact Xx _ h
theorem rZ{l:Int}:∀{xs:List Int},xs.Nodup->l∈xs->(xs.filter (fun x=>decide (x≠l))++[l]).Perm xs
 |[],_,h=>nomatch h
 |x::xs,nd,h=>by
  obtain⟨nx,nd'⟩:=ur.mp nd;rw[qT];by_cases c:x=l
  ·subst c;rw[aq (by simp)];have e:xs.filter (fun y=>decide (y≠x))=xs:=Xh.mpr fun y hy=>dB fun z=>nx (by rw[<-z];exact hy);rw[e];exact List.perm_append_comm
  ·rw[aA (by simpa using c)];have:l∈xs:=(cQ.mp h).elim (fun z=>absurd z.symm c) id;exact(rZ nd' this).cons x
theorem wI(o:Ok T U){k:SK}{l img:Int}{is:List Int}(h:Nd k)(hl:(l,is)∈k):(pJ T U k l img).length+1=k.length:=by
 have p:=(rZ h (fG.mpr ⟨_,hl,rfl⟩)).length_eq;rw[<-mW o l img,g8,aG,aG]at p;exact p
noncomputable def Res(T U:Int->Int->Bool)(k:SK)(r:L0):Prop:=(r.map (·.1)).Perm (k.map (·.1))/\∃g,Hy T U k g/\∀e∈r,g e.1=e.2
theorem Jw(o:Ok T U){k:SK}(nd:Nd k){l img:Int}{is:List Int}{r:L0}(hl:(l,is)∈k)(hi:img∈is)(h:Res T U (pJ T U k l img) r):Res T U k (r++[(l,img)]):=by
 obtain⟨hp,g,hg,he⟩:=h;refine⟨?_,pt g l img,Jf o nd hl hi hg,fun e m=> ?_⟩
 ·rw[bW];refine(hp.append_right _).trans ?_;rw[mW o];exact rZ nd (fG.mpr ⟨_,hl,rfl⟩)
 ·unfold pt;rcases pU.mp m with z|z
  ·have:e.1∈(pJ T U k l img).map (·.1):=hp.mem_iff.mp (fG.mpr ⟨e,z,rfl⟩);rw[mW o,dO]at this;rw[aq (j9 this.2)];exact he e z
  ·rw[fO.mp z,aA rfl]
theorem NT:Res T U [] []:=⟨List.Perm.refl _,fun _=>0,⟨fun p hp=>(nomatch hp),fun p hp=>(nomatch hp)⟩,fun e he=>(nomatch he)⟩
theorem R9(o:Ok T U){k:SK}{l:Int}{is:List Int}(hl:(l,is)∈k)(h:∀y∈is,¬∃g,Hy T U (pJ T U k l y) g):¬∃g,Hy T U k g:=fun⟨g,hg⟩=>h (g l) (hg.im _ hl) ⟨g,Jh o hl hg⟩
theorem Jg{k:SK}{p:Int×List Int}(hp:p∈k)(h:p.2=[]):¬∃g,Hy T U k g:=fun⟨g,hg⟩=>by
 have:=hg.im p hp;rw[h]at this;cases this
noncomputable def cst(m:Nat):Nat->Nat
 |0=>0
 |l+1=>1+m*cst m l
structure Qm(U:Int->Int->Bool)(no:Int)(k:SK):Prop where
 all:∀x y,0<=x->x<no->0<=y->y<no->x≠y->U x y=true
 big:∀p∈k,p.2.Nodup/\(∀y∈p.2,0<=y/\y<no)/\k.length<=p.2.length
theorem yG{U:Int->Int->Bool}{img:Int}:∀{ys:List Int},ys.Nodup->(∀y∈ys,y≠img->U img y=true)->ys.length<=(ys.filter fun y=>U img y).length+1
 |[],_,_=>dw _
 |y::ys,nd,h=>by
  obtain⟨ny,nd'⟩:=ur.mp nd;rw[qT];by_cases c:y=img
  ·subst c;have e:ys.filter (fun z=>U y z)=ys:=Xh.mpr fun z hz=>h z (dF _ hz) fun q=>ny (by rw[<-q];exact hz);split<;>simp only[pW,e]<;>omega
  ·rw[aA (h y cV c)];have:=yG nd' fun z hz=>h z (dF _ hz);simp only[pW];omega
theorem xW(o:Ok T U){no:Int}{k:SK}(nd:Nd k){l img:Int}{is:List Int}(hl:(l,is)∈k)(hi:img∈is)(h:Qm U no k):Qm U no (pJ T U k l img):=by
 have hb:=(h.big _ hl).2.1 img hi;have len:=wI (img:=img) o nd hl;refine⟨h.all,fun p hp=> ?_⟩;obtain⟨q,hq,e,c⟩:=gF.mp hp;obtain⟨b1,b2,b3⟩:=h.big q hq;rcases c with⟨a,b⟩|⟨a,b,c⟩
 ·rw[b];refine⟨b1.filter _,fun y hy=>b2 y (dO.mp hy).1,?_⟩;have:=yG (U:=U) (img:=img) b1 fun y hy ne=>h.all img y hb.1 hb.2 (b2 y hy).1 (b2 y hy).2 (jU ne);omega
 ·rw[c];exact⟨b1,b2,by omega⟩
theorem rR(o:Ok T U){no:Int}:∀(m:Nat) {k:SK},k.length=m->Nd k->Qm U no k->∃g,Hy T U k g
 |0,k,e,_,_=>by
  cases k with
  |nil=>exact⟨fun _=>0,fun p hp=>(nomatch hp),fun p hp=>(nomatch hp)⟩
  |cons p k=>cases e
 |m+1,k,e,nd,h=>by
  cases k with
  |nil=>cases e
  |cons p k=>
   have hp:(p.1,p.2)∈p::k:=cV;have b:=(h.big p cV).2.2;cases ep:p.2 with
   |nil=>rw[ep]at b;simp at b
   |cons y ys=>
    have hy:y∈p.2:=by rw[ep];exact cV
    have len:=wI (img:=y) o nd hp;obtain⟨g,hg⟩:=rR o m (k:=pJ T U (p::k) p.1 y) (by omega) (Ce o nd) (xW o nd hp hy h);exact⟨_,Jf o nd hp hy hg⟩
structure Wu(n no:Int)(k:SK):Prop where
 nd:Nd k
 pl:∀p∈k,0<=p.1/\p.1<n
 im:∀p∈k,(∀y∈p.2,0<=y/\y<no)/\(p.2.length:Int)<=no
theorem Wu.pJ(o:Ok T U){n no:Int}{k:SK}{l img:Int}(h:Wu n no k):Wu n no (pJ T U k l img):=by
 refine⟨Ce o h.nd,fun p hp=> ?_,fun p hp=> ?_⟩
 ·obtain⟨q,hq,e,_⟩:=gF.mp hp;rw[<-e];exact h.pl q hq
 ·obtain⟨q,hq,e,c⟩:=gF.mp hp;obtain⟨i1,i2⟩:=h.im q hq;rcases c with⟨_,b⟩|⟨_,_,b⟩
  ·rw[b];have:=Af (fun y=>U img y) q.2;exact⟨fun y hy=>i1 y (dO.mp hy).1,by omega⟩
  ·rw[b];exact⟨i1,i2⟩
theorem nO{xs ys:List Int}(h:xs.Perm ys)(hx:xs.Pairwise (· < ·))(hy:ys.Pairwise (· < ·)):xs=ys:=
 List.Perm.eq_of_pairwise (le:=fun a b=>a<b) (fun a b _ _ h1 h2=>absurd h1 (by omega)) hx hy h
end
end Sw
namespace Sx
noncomputable abbrev Vec:=Nat->Int
noncomputable abbrev uh:=Nat->Vec
noncomputable def sm:Nat->(Nat->Int)->Int
 |0,_=>0
 |k+1,f=>sm k f+f k
theorem aO{f g:Nat->Int}:∀k,(∀i,i<k->f i=g i)->sm k f=sm k g
 |0,_=>rfl
 |k+1,h=>by
  show sm k f+f k=sm k g+g k;rw[aO k fun i hi=>h i (qU hi),h k (tM k)]
theorem ji(f g:Nat->Int):∀k,sm k (fun i=>f i+g i)=sm k f+sm k g
 |0=>rfl
 |k+1=>by
  show sm k (fun i=>f i+g i)+(f k+g k)=sm k f+f k+(sm k g+g k);rw[ji f g k];omega
theorem cY(a:Int)(f:Nat->Int):∀k,sm k (fun i=>a*f i)=a*sm k f
 |0=>by show(0:Int)=a*0;rw[zV]
 |k+1=>by
  show sm k (fun i=>a*f i)+a*f k=a*(sm k f+f k);rw[cY a f k,Int.mul_add]
theorem cW{f:Nat->Int}:∀k,(∀i,i<k->f i=0)->sm k f=0
 |0,_=>rfl
 |k+1,h=>by
  show sm k f+f k=0;rw[cW k fun i hi=>h i (qU hi),h k (tM k)];rfl
theorem cX{f:Nat->Int}{j:Nat}:∀k,j<k->(∀i,i<k->i≠j->f i=0)->sm k f=f j
 |k+1,hj,h=>by
  show sm k f+f k=f j;by_cases e:j=k
  ·subst e;rw[cW j fun i hi=>h i (qU hi) (fM hi),MJ]
  ·rw[cX k (by omega) fun i hi=>h i (qU hi),h k (tM k) (jU e),Int.add_zero]
theorem Ji{f:Nat->Int}{j:Nat}:∀k,j+1<k->(∀i,i<k->i≠j->i≠j+1->f i=0)->f j+f (j+1)=0->sm k f=0
 |k+1,hj,h,z=>by
  show sm k f+f k=0;by_cases e:j+1=k
  ·subst e;rw[cX (j:=j) (j+1) (tM _) fun i hi hn=>h i (qU hi) hn (fM hi)];exact z
  ·rw[Ji k (by omega) (fun i hi=>h i (qU hi)) z,h k (tM k) (by omega) (jU e)];rfl
theorem qI(f:Nat->Nat->Int)(m:Nat):∀k,sm k (fun i=>sm m (fun j=>f i j))=sm m (fun j=>sm k (fun i=>f i j))
 |0=>by show(0:Int)=sm m fun _=>0;rw[cW m fun _ _=>rfl]
 |k+1=>by
  show sm k (fun i=>sm m (fun j=>f i j))+sm m (fun j=>f k j)=sm m (fun j=>sm k (fun i=>f i j)+f k j);rw[qI f m k,ji]
theorem uE{f:Nat->Int}:∀k,(∀i,i<k->0<=f i)->0<=sm k f
 |0,_=>tR _
 |k+1,h=>Int.add_nonneg (uE k fun i hi=>h i (qU hi)) (h k (tM k))
theorem Jj{f:Nat->Int}:∀k,sm k f<0->∃i,i<k/\f i<0
 |0,h=>absurd h (Xq 0)
 |k+1,h=>by
  by_cases c:f k<0
  ·exact⟨k,tM k,c⟩
  ·have h':sm k f+f k<0:=h;obtain⟨i,hi,hf⟩:=Jj k (f:=f) (by omega);exact⟨i,qU hi,hf⟩
theorem Du{f:Nat->Int}:∀k,(∀i,i<k->0<=f i)->sm k f<=0->∀i,i<k->f i=0
 |0,_,_,i,hi=>absurd hi (QD i)
 |k+1,h,z,i,hi=>by
  have h1:=uE k fun i hi=>h i (qU hi);have h2:=h k (tM k);have z':sm k f+f k<=0:=z;by_cases e:i=k
  ·subst e;omega
  ·exact Du k (fun i hi=>h i (qU hi)) (by omega) i (by omega)
noncomputable def sg(i:Nat):Int:=if i %2=0 then 1 else -1
theorem Nt(i:Nat):sg (i+1)= -sg i:=by
 unfold sg;rcases Nat.mod_two_eq_zero_or_one i with h|h
 ·rw[aA h,aq (by omega)]
 ·rw[aA (by omega),aq (by omega)];rfl
theorem Sg(i:Nat):sg i=1\/sg i= -1:=by unfold sg;split;exact .inl rfl;exact .inr rfl
noncomputable def Hw(i r:Nat):Nat:=if r<i then r else r+1
noncomputable def Mq(i r:Nat):Nat:=if r<i then r else r-1
theorem Jo(i r:Nat):Hw i r≠i:=by unfold Hw;split<;>omega
theorem qJ{i r j:Nat}(h:j≠i):Hw i r=j↔r=Mq i j:=by unfold Hw Mq;split<;>split<;>omega
theorem Av{i r k:Nat}(hi:i<k+1)(hr:r<k):Hw i r<k+1:=by unfold Hw;split<;>omega
theorem R0{i j k:Nat}(h:j≠i)(hi:i<k+1)(hj:j<k+1):Mq i j<k:=by unfold Mq;split<;>omega
noncomputable def sG(M:uh)(i:Nat):uh:=fun r c=>M (Hw i r) (c+1)
noncomputable def det:Nat->uh->Int
 |0,_=>1
 |k+1,M=>sm (k+1) fun i=>sg i*M i 0*det k (sG M i)
noncomputable def put(M:uh)(r:Nat)(v:Vec):uh:=fun i=>if i=r then v else M i
theorem put_same(M:uh)(r:Nat)(v:Vec):put M r v r=v:=by unfold put;rw[aA rfl]
theorem gM(M:uh){r i:Nat}(v:Vec)(h:i≠r):put M r v i=M i:=by unfold put;rw[aq h]
theorem rW(M:uh)(r:Nat):put M r (M r)=M:=by funext i;unfold put;split;rename_i h;rw[h];rfl
theorem gR(M:uh){r t:Nat}(u v:Vec)(h:r≠t):put (put M r u) t v=put (put M t v) r u:=by
 funext i;unfold put;by_cases h1:i=t
 ·by_cases h2:i=r
  ·exact absurd (h2.symm.trans h1) h
  ·rw[aA h1,aq h2,aA h1]
 ·rw[aq h1];by_cases h2:i=r
  ·rw[aA h2,aA h2]
  ·rw[aq h2,aq h2,aq h1]
theorem iB(M:uh)(i:Nat)(v:Vec):sG (put M i v) i=sG M i:=by
 funext r c;unfold sG;rw[gM _ _ (Jo i r)]
theorem vP(M:uh){i j:Nat}(v:Vec)(h:j≠i):sG (put M j v) i=put (sG M i) (Mq i j) (fun c=>v (c+1)):=by
 funext r c;unfold sG put;by_cases e:r=Mq i j
 ·rw[aA e,aA ((qJ h).mpr e)]
 ·rw[aq e,aq fun z=>e ((qJ h).mp z)]
theorem uQ:∀k {M N:uh},(∀i,i<k->∀j,j<k->M i j=N i j)->det k M=det k N
 |0,_,_,_=>rfl
 |k+1,M,N,h=>aO (k+1) fun i hi=>by
  rw[h i hi 0 (wR k),uQ k (M:=sG M i) (N:=sG N i) fun r hr c hc=>h _ (Av hi hr) _ (Nat.succ_lt_succ hc)]
theorem wz:∀k (M:uh) (r:Nat) (a b:Int) (u v:Vec),r<k->det k (put M r fun c=>a*u c+b*v c)=a*det k (put M r u)+b*det k (put M r v)
 |k+1,M,r,a,b,u,v,hr=>by
  unfold det;rw[<-cY,<-cY,<-ji];refine aO (k+1) fun i hi=> ?_;by_cases e:r=i
  ·subst e;rw[iB,iB,iB,put_same,put_same,put_same]
   grind
  ·rw[vP _ _ e,vP _ _ e,vP _ _ e,gM _ _ (jU e),gM _ _ (jU e),gM _ _ (jU e),wz k (sG M i) (Mq i r) a b (fun c=>u (c+1)) (fun c=>v (c+1)) (R0 e hi hr)]
   grind
theorem qN:∀k (M:uh) (r:Nat),r+1<k->M r=M (r+1)->det k M=0
 |k+1,M,r,hr,e=>by
  unfold det;refine Ji (j:=r) (k+1) hr (fun i hi h1 h2=> ?_) ?_
  ·have z:det k (sG M i)=0:=by
    by_cases c:i<r
    ·refine qN k (sG M i) (r-1) (by omega) ?_;funext x;unfold sG Hw;rw[aq (by omega),aq (by omega),show r-1+1=r by omega,e]
    ·refine qN k (sG M i) r (by omega) ?_;funext x;unfold sG Hw;rw[aA (by omega),aA (by omega),e]
   rw[z,zV]
  ·have z:sG M r=sG M (r+1):=by
    funext x c;unfold sG Hw;by_cases h1:x<r
    ·rw[aA h1,aA (by omega)]
    ·rw[aq h1];by_cases h2:x=r
     ·subst h2;rw[aA (by omega),e]
     ·rw[aq (by omega)]
   rw[z,e,Nt]
   grind
theorem Lb(k:Nat)(M:uh)(t:Nat)(u v:Vec)(h:t+1<k):det k (put (put M t u) (t+1) v)= -det k (put (put M t v) (t+1) u):=by
 have n1:t≠t+1:=by omega
 have z:∀w:Vec,det k (put (put M t w) (t+1) w)=0:=fun w=>qN k _ t h (by rw[gM _ _ n1,put_same,put_same]);have Uo:∀(N:uh) (r:Nat) (a b:Vec),r<k->det k (put N r fun c=>a c+b c)=det k (put N r a)+det k (put N r b):=fun N r a b hr=>by
  have:=wz k N r 1 1 a b hr;simp only[Hj]at this;exact this
 have z1:=z fun c=>u c+v c;rw[Uo _ (t+1) u v h,gR M _ _ n1,gR M _ _ n1,Uo _ t u v (by omega),Uo _ t u v (by omega),<-gR M _ _ n1,<-gR M _ _ n1,<-gR M _ _ n1,<-gR M _ _ n1,z u,z v]at z1;omega
theorem oF:∀(d k:Nat) (M:uh) (r:Nat),r+d+1<k->M r=M (r+d+1)->det k M=0
 |0,k,M,r,h,e=>qN k M r h e
 |d+1,k,M,r,h,e=>by
  have f:=Lb k M (r+d+1) (M (r+d+1)) (M (r+d+1+1)) h;rw[rW,rW]at f;rw[f,oF d k _ r (by omega) (by rw[gM _ _ (by omega),gM _ _ (by omega),gM _ _ (by omega),put_same,e];rfl)];rfl
theorem La{k:Nat}{M:uh}{r t:Nat}(hr:r<k)(ht:t<k)(h:r≠t)(e:M r=M t):det k M=0:=by
 by_cases c:r<t
 ·exact oF (t-r-1) k M r (by omega) (by rw[e];congr 1;omega)
 ·exact oF (r-t-1) k M t (by omega) (by rw[<-e];congr 1;omega)
theorem zu:∀k (M:uh),(∀i,i<k->∀j,j<k->M i j=if i=j then 1 else 0)->det k M=1
 |0,_,_=>rfl
 |k+1,M,h=>by
  unfold det;rw[cX (j:=0) (k+1) (wR k) fun i hi hn=>by rw[h i hi 0 (wR k),aq hn];grind];rw[h 0 (wR k) 0 (wR k),aA rfl,zu k (sG M 0) fun i hi j hj=> ?_]
  ·rfl
  ·unfold sG Hw;rw[aq (by omega),h _ (by omega) _ (by omega)];by_cases e:i=j
   ·rw[aA e,aA (by omega)]
   ·rw[aq e,aq (by omega)]
noncomputable def fct:Nat->Int
 |0=>1
 |k+1=>(k+1:Int)*fct k
theorem Jm{f:Nat->Int}{b:Int}:∀k,(∀i,i<k-> -b<=f i/\f i<=b)-> -((k:Int)*b)<=sm k f/\sm k f<=(k:Int)*b
 |0,_=>by
  show -((0:Int)*b)<=0/\(0:Int)<=0*b;omega
 |k+1,h=>by
  have ih:=Jm k fun i hi=>h i (qU hi);have hk:=h k (tM k);show -((k+1:Nat)*b)<=sm k f+f k/\sm k f+f k<=(k+1:Nat)*b;rw[show(((k+1:Nat):Int))*b=(k:Int)*b+b by rw[Int.natCast_succ,Int.add_mul,Hj]];omega
theorem DW{x y a b:Int}(hx: -a<=x/\x<=a)(hy: -b<=y/\y<=b): -(a*b)<=x*y/\x*y<=a*b:=by
 have h1:0<=(a-x)*(b-y):=Ho (by omega) (by omega);have h2:0<=(a+x)*(b+y):=Ho (by omega) (by omega);have h3:0<=(a-x)*(b+y):=Ho (by omega) (by omega);have h4:0<=(a+x)*(b-y):=Ho (by omega) (by omega);constructor<;>grind
theorem wA:∀k (M:uh) (c:Nat) (B:Int),1<=B->(∀i,i<k->∀j,j<k->i≠c-> -1<=M i j/\M i j<=1)->(∀j,j<k->c<k-> -B<=M c j/\M c j<=B)-> -(fct k*B)<=det k M/\det k M<=fct k*B
 |0,M,c,B,hB,_,_=>by
  show -(1*B)<=1/\(1:Int)<=1*B;omega
 |k+1,M,c,B,hB,h1,h2=>by
  unfold det;have e:fct (k+1)*B=((k+1:Nat):Int)*(fct k*B):=by show((k:Int)+1)*fct k*B=_;rw[Vv];rfl
  rw[e];refine Jm (k+1) fun i hi=> ?_;have hs:∀x y:Int, -y<=x/\x<=y-> -y<=sg i*x/\sg i*x<=y:=fun x y h=>by
   rcases Sg i with s|s
   ·rw[s,Hj];exact h
   ·rw[s];omega
  rw[Vv];refine hs _ _ ?_;by_cases ci:i=c
  ·subst ci;have a:=wA k (sG M i) k 1 (by decide) (fun r hr x hx _=>h1 _ (Av hi hr) _ (by omega) (Jo i r)) (fun x hx hk=>absurd hk (pR k));have b:=h2 0 (wR k) hi;rw[RJ]at a;have:=DW b a;rw[Ey (fct k) B];exact this
  ·have a:=wA k (sG M i) (Mq i c) B hB (fun r hr x hx hn=>h1 _ (Av hi hr) _ (by omega) fun z=>hn ((qJ (jU ci)).mp z)) (fun x hx hk=>by
    have hc:Hw i (Mq i c)=c:=(qJ (jU ci)).mpr rfl;have hlt:c<k+1:=by unfold Mq at hk;split at hk<;>omega
    have:=h2 (x+1) (by omega) hlt;unfold sG;rw[hc];exact this)
   have b:=h1 i hi 0 (wR k) ci;have:=DW b a;rw[Hj]at this;exact this
structure Tab where
 col:Nat->Nat
 row:Nat->Nat
 cell:Nat->Nat->Int
 over:Int
 s:Int
noncomputable def one:Vec:=fun j=>if j=0 then 1 else 0
section
variable(n m:Nat)(S:Nat->Nat->Bool)(w:Nat->Int)
noncomputable def nv(a:Nat):Vec:=fun j=>if a<n then(if j=a+1 then 1 else 0)else(if j=0 then 1 else if S (a-n) (j-1)=true then -1 else 0)
noncomputable def zv:Vec:=fun j=>if j=0 then 0 else w (j-1)
noncomputable def rv(T:Tab)(r:Nat):Vec:=if r<m then nv n S (T.row r)else zv w
noncomputable def ug(T:Tab):uh:=fun i=>if i=0 then one else nv n S (T.col (i-1))
noncomputable def Fn(T:Tab)(c:Nat)(v:Vec):Int:=T.s*det (n+1) (put (ug n S T) c v)
structure Good(T:Tab):Prop where
 pos:0<T.over
 eq:∀r,r<=m->∀j,j<=n->T.over*rv n m S w T r j=T.cell r n*one j-sm n (fun c=>T.cell r c*nv n S (T.col c) j)
 sg:T.s=1\/T.s= -1
 dt:T.over=T.s*det (n+1) (ug n S T)
 BJ:∀c c',c<n->c'<n->T.col c=T.col c'->c=c'
 Jv:∀r r',r<m->r'<m->T.row r=T.row r'->r=r'
 dis:∀c r,c<n->r<m->T.col c≠T.row r
 Qi:∀c,c<n->T.col c<n+m
 rlt:∀r,r<m->T.row r<n+m
 all:∀a,a<n+m->(∃c,c<n/\T.col c=a)\/∃r,r<m/\T.row r=a
 Wo:∀r,r<m->0<=T.cell r n
end
section
variable{n m:Nat}{S:Nat->Nat->Bool}{w:Nat->Int}{T:Tab}
theorem eU{r:Nat}(h:r<m):rv n m S w T r=nv n S (T.row r):=aA h
theorem gB:rv n m S w T m=zv w:=aq (pR m)
theorem zK:ug n S T 0=one:=rfl
theorem Er(c:Nat):ug n S T (c+1)=nv n S (T.col c):=by unfold ug;rw[aq (wZ c)];rfl
theorem wL{c:Nat}(hc:c<=n)(a b:Int)(u v:Vec):Fn n S T c (fun j=>a*u j+b*v j)=a*Fn n S T c u+b*Fn n S T c v:=by
 unfold Fn;rw[wz (n+1) (ug n S T) c a b u v (by omega)];grind
theorem HJ{c:Nat}{u v:Vec}(h:∀j,j<=n->u j=v j):Fn n S T c u=Fn n S T c v:=by
 unfold Fn;rw[uQ (n+1) (M:=put (ug n S T) c u) (N:=put (ug n S T) c v) fun i _ j hj=> ?_];unfold put;split
 ·exact h j (by omega)
 ·rfl
theorem iH{c:Nat}(hc:c<=n)(x:Int)(a:Vec)(y:Nat->Int)(W:Nat->Vec):∀k,Fn n S T c (fun j=>x*a j-sm k (fun i=>y i*W i j))=x*Fn n S T c a-sm k (fun i=>y i*Fn n S T c (W i))
 |0=>by
  have h:=wL (T:=T) (S:=S) hc x 0 a a;rw[HJ (v:=fun j=>x*a j+0*a j) fun j _=>by show x*a j-0=_;omega,h];show _=_-0;omega
 |k+1=>by
  have h:=wL (T:=T) (S:=S) hc 1 (-(y k)) (fun j=>x*a j-sm k (fun i=>y i*W i j)) (W k);rw[HJ (v:=fun j=>1*(x*a j-sm k (fun i=>y i*W i j))+ -(y k)*W k j) fun j _=>by show x*a j-(sm k _+y k*W k j)=_;grind,h,iH hc x a y W k];show _=x*Fn n S T c a-(sm k _+y k*Fn n S T c (W k))
  grind
theorem m6{c:Nat}(hc:c<=n)(a:Int)(u:Vec):Fn n S T c (fun j=>a*u j)=a*Fn n S T c u:=by
 have h:=wL (T:=T) (S:=S) hc a 0 u u;rw[HJ (v:=fun j=>a*u j+0*u j) fun j _=>by omega,h];omega
theorem Lx(g:T.over=T.s*det (n+1) (ug n S T)){c i:Nat}(hc:c<=n)(hi:i<=n):Fn n S T c (ug n S T i)=if i=c then T.over else 0:=by
 unfold Fn;by_cases e:i=c
 ·subst e;rw[aA rfl,rW,<-g]
 ·rw[aq e,La (r:=c) (t:=i) (by omega) (by omega) (jU e) (by rw[put_same,gM _ _ e]),zV]
theorem jC(g:T.over=T.s*det (n+1) (ug n S T)){c:Nat}(hc:c<=n):Fn n S T c one=if c=0 then T.over else 0:=by
 have:=Lx g hc (dw n);rw[zK]at this;rw[this];by_cases e:c=0
 ·rw[aA e,aA e.symm]
 ·rw[aq e,aq (jU e)]
theorem wY(g:T.over=T.s*det (n+1) (ug n S T)){c i:Nat}(hc:c<=n)(hi:i<n):Fn n S T c (nv n S (T.col i))=if i+1=c then T.over else 0:=by
 have:=Lx g hc (show i+1<=n by omega);rw[Er]at this;exact this
theorem WK{a x y:Int}(h:0<a)(e:a*x=a*y):x=y:=wdy (by omega) e
theorem Good.base(G:Good n m S w T){r:Nat}(hr:r<=m):Fn n S T 0 (rv n m S w T r)=T.cell r n:=by
 have h1:=m6 (T:=T) (S:=S) (c:=0) (dw n) T.over (rv n m S w T r);rw[HJ fun j hj=>G.eq r hr j hj,iH (dw n) _ _ (T.cell r) (fun c=>nv n S (T.col c)),jC G.dt (dw n),aA rfl,cW n fun c hc=>by rw[wY G.dt (dw n) hc,aq (wZ c),zV]]at h1;refine WK G.pos ?_;rw[<-h1,Ey];omega
theorem Good.dir(G:Good n m S w T){r c:Nat}(hr:r<=m)(hc:c<n):Fn n S T (c+1) (rv n m S w T r)= -T.cell r c:=by
 have h1:=m6 (T:=T) (S:=S) (c:=c+1) hc T.over (rv n m S w T r);rw[HJ fun j hj=>G.eq r hr j hj,iH hc _ _ (T.cell r) (fun c=>nv n S (T.col c)),jC G.dt hc,aq (wZ c),cX (j:=c) n hc fun i hi hn=>by rw[wY G.dt hc hi,aq (by omega),zV],wY G.dt hc hc,aA rfl]at h1;refine WK G.pos ?_;rw[<-h1];grind
noncomputable def turn(T:Tab)(p q:Nat):Tab where
 col:=fun c=>if c=q then T.row p else T.col c
 row:=fun r=>if r=p then T.col q else T.row r
 over:=T.cell p q
 s:= -T.s
 cell:=fun r c=>if r=p then(if c=q then T.over else T.cell p c)else if c=q then -T.cell r q else(T.cell r c*T.cell p q-T.cell r q*T.cell p c)/T.over
theorem Ii{p q:Nat}:ug n S (turn T p q)=put (ug n S T) (q+1) (nv n S (T.row p)):=by
 funext i;unfold ug put turn;dsimp only;by_cases h0:i=0
 ·rw[aA h0,aq (by omega),aA h0]
 ·rw[aq h0];by_cases h1:i=q+1
  ·rw[aA h1,aA (by omega)]
  ·rw[aq h1,aq (by omega),aq h0]
theorem Nb{p q r:Nat}(h:r≠p):rv n m S w (turn T p q) r=rv n m S w T r:=by
 unfold rv turn;dsimp only;rw[aq h]
theorem Good.ux(G:Good n m S w T){p q:Nat}(hp:p<m)(hq:q<n):(turn T p q).over=(turn T p q).s*det (n+1) (ug n S (turn T p q)):=by
 have h:=G.dir (r:=p) (dH hp) hq;rw[eU hp]at h;unfold Fn at h;rw[Ii];show T.cell p q= -T.s*_
 grind
theorem Good.exact(G:Good n m S w T){p q r c:Nat}(hp:p<m)(hq:q<n)(hb:0<T.cell p q)(hr:r<=m)(hrp:r≠p)(hc:c<=n)(Ux:c≠q):
  T.over*(turn T p q).cell r c=T.cell r c*T.cell p q-T.cell r q*T.cell p c:=by
 have g':=G.ux hp hq;have aak:∀j,j<=n->T.cell p q*T.over*rv n m S w T r j=(T.cell r n*T.cell p q-T.cell r q*T.cell p n)*one j-sm n (fun c=>(T.cell r c*T.cell p q-T.cell r q*T.cell p c)*nv n S (T.col c) j)+T.over*T.cell r q*nv n S (T.row p) j:=fun j hj=>by
  have e1:=G.eq r hr j hj;have e2:=G.eq p (dH hp) j hj;rw[eU hp]at e2;have e3:sm n (fun c=>(T.cell r c*T.cell p q-T.cell r q*T.cell p c)*nv n S (T.col c) j)=T.cell p q*sm n (fun c=>T.cell r c*nv n S (T.col c) j)+ -(T.cell r q)*sm n (fun c=>T.cell p c*nv n S (T.col c) j):=by
   rw[<-cY,<-cY,<-ji];exact aO n fun c _=>by grind
  rw[e3];generalize sm n (fun c=>T.cell r c*nv n S (T.col c) j)=A at *;generalize sm n (fun c=>T.cell p c*nv n S (T.col c) j)=B at *
  grind
 have app:∀d,d<=n->T.cell p q*T.over*Fn n S (turn T p q) d (rv n m S w T r)=(T.cell r n*T.cell p q-T.cell r q*T.cell p n)*Fn n S (turn T p q) d one-sm n (fun c=>(T.cell r c*T.cell p q-T.cell r q*T.cell p c)*Fn n S (turn T p q) d (nv n S (T.col c)))+T.over*T.cell r q*Fn n S (turn T p q) d (nv n S (T.row p)):=fun d hd=>by
  rw[<-m6 hd,HJ aak,<-iH hd _ _ (fun c=>T.cell r c*T.cell p q-T.cell r q*T.cell p c) (fun c=>nv n S (T.col c))];have h:=wL (T:=turn T p q) (S:=S) hd 1 (T.over*T.cell r q) (fun j=>(T.cell r n*T.cell p q-T.cell r q*T.cell p n)*one j-sm n (fun c=>(T.cell r c*T.cell p q-T.cell r q*T.cell p c)*nv n S (T.col c) j)) (nv n S (T.row p));simp only[Hj]at h;exact h
 have ZC:nv n S ((turn T p q).col q)=nv n S (T.row p):=by unfold turn;dsimp only;rw[aA rfl]
 have Vg:∀c,c≠q->nv n S ((turn T p q).col c)=nv n S (T.col c):=fun c h=>by unfold turn;dsimp only;rw[aq h]
 have ov:(turn T p q).over=T.cell p q:=rfl;have key:∃x,T.cell r c*T.cell p q-T.cell r q*T.cell p c=T.over*x:=by
  by_cases hl:c=n
  ·subst hl;have h:=app 0 (dw _);have f1:=jC g' (dw c);have f2:=wY g' (dw c) hq;rw[aA rfl,ov]at f1;rw[ZC,aq (wZ q)]at f2;rw[f1,f2,cW c fun i hi=> ?_]at h
   ·refine⟨Fn c S (turn T p q) 0 (rv c m S w T r),WK hb ?_⟩
    grind
   ·by_cases YM:i=q
    ·subst YM;rw[Int.sub_self,Vu]
    ·have f3:=wY g' (dw c) hi;rw[Vg i YM,aq (wZ i)]at f3;rw[f3,zV]
  ·have hc':c<n:=by omega
   have h:=app (c+1) hc';have f1:=jC g' (show c+1<=n from hc');have f2:=wY g' (show c+1<=n from hc') hq;have f3:=wY g' (show c+1<=n from hc') hc';rw[aq (wZ c)]at f1;rw[ZC,aq (by omega)]at f2;rw[Vg c Ux,aA rfl,ov]at f3;rw[f1,f2,cX (j:=c) n hc' fun i hi hn=> ?_,f3]at h
   ·refine⟨-Fn n S (turn T p q) (c+1) (rv n m S w T r),WK hb ?_⟩
    grind
   ·by_cases YM:i=q
    ·subst YM;rw[Int.sub_self,Vu]
    ·have f4:=wY g' (show c+1<=n from hc') hi;rw[Vg i YM,aq (by omega)]at f4;rw[f4,zV]
 obtain⟨x,hx⟩:=key;show T.over*(if r=p then _ else if c=q then _ else(T.cell r c*T.cell p q-T.cell r q*T.cell p c)/T.over)=_;rw[aq hrp,aq Ux,hx,weg _ (Int.ne_of_gt G.pos)]
theorem Good.turn(G:Good n m S w T){p q:Nat}(hp:p<m)(hq:q<n)(hb:0<T.cell p q)(ra:∀r,r<m->0<T.cell r q->T.cell p n*T.cell r q<=T.cell r n*T.cell p q):Good n m S w (turn T p q):=by
 have hqn:n≠q:=by omega
 have c1:∀r,r≠p->(Sx.turn T p q).cell r q= -T.cell r q:=fun r h=>by unfold Sx.turn;dsimp only;rw[aq h,aA rfl]
 have c2:(Sx.turn T p q).cell p q=T.over:=by unfold Sx.turn;dsimp only;rw[aA rfl,aA rfl]
 have c3:∀c,c≠q->(Sx.turn T p q).cell p c=T.cell p c:=fun c h=>by unfold Sx.turn;dsimp only;rw[aA rfl,aq h]
 have k1:(Sx.turn T p q).col q=T.row p:=by unfold Sx.turn;dsimp only;rw[aA rfl]
 have k2:∀c,c≠q->(Sx.turn T p q).col c=T.col c:=fun c h=>by unfold Sx.turn;dsimp only;rw[aq h]
 have r1:(Sx.turn T p q).row p=T.col q:=by unfold Sx.turn;dsimp only;rw[aA rfl]
 have r2:∀r,r≠p->(Sx.turn T p q).row r=T.row r:=fun r h=>by unfold Sx.turn;dsimp only;rw[aq h]
 refine⟨hb,fun r hr j hj=> ?_,?_,G.ux hp hq,fun c c' hc hc' e=> ?_,fun r r' hr hr' e=> ?_,fun c r hc hr e=> ?_,fun c hc=> ?_,fun r hr=> ?_,fun a ha=> ?_,fun r hr=> ?_⟩
 ·have e2:=G.eq p (dH hp) j hj;rw[eU hp]at e2;by_cases h:r=p
  ·subst h;rw[eU hp,r1,c3 n hqn];have e3:sm n (fun c=>(Sx.turn T r q).cell r c*nv n S ((Sx.turn T r q).col c) j)=sm n (fun c=>T.cell r c*nv n S (T.col c) j)+(T.over*nv n S (T.row r) j-T.cell r q*nv n S (T.col q) j):=by
    have:sm n (fun c=>if c=q then T.over*nv n S (T.row r) j-T.cell r q*nv n S (T.col q) j else 0)=T.over*nv n S (T.row r) j-T.cell r q*nv n S (T.col q) j:=by
     rw[cX (j:=q) n hq fun i _ hn=>aq hn,aA rfl]
    rw[<-this,<-ji];refine aO n fun c _=> ?_;by_cases hc:c=q
    ·subst hc;rw[c2,k1,aA rfl];omega
    ·rw[c3 c hc,k2 c hc,aq hc];omega
   rw[e3];show T.cell r q*nv n S (T.col q) j=_;omega
  ·rw[Nb h];have e1:=G.eq r hr j hj;have e3:T.over*sm n (fun c=>(Sx.turn T p q).cell r c*nv n S ((Sx.turn T p q).col c) j)=T.cell p q*sm n (fun c=>T.cell r c*nv n S (T.col c) j)+ -(T.cell r q)*sm n (fun c=>T.cell p c*nv n S (T.col c) j)+ -(T.over*T.cell r q*nv n S (T.row p) j):=by
    have:sm n (fun c=>if c=q then -(T.over*T.cell r q*nv n S (T.row p) j)else 0)= -(T.over*T.cell r q*nv n S (T.row p) j):=by
     rw[cX (j:=q) n hq fun i _ hn=>aq hn,aA rfl]
    rw[<-this,<-cY,<-cY,<-cY,<-ji,<-ji];refine aO n fun c hc=> ?_;by_cases Ux:c=q
    ·subst Ux;rw[c1 r h,k1,aA rfl];grind
    ·have:=G.exact hp hq hb hr h (dH hc) Ux;rw[k2 c Ux,aq Ux,<-Vv,this];grind
   have e4:=G.exact hp hq hb hr h (aN n) hqn;refine WK G.pos ?_;show T.over*(T.cell p q*rv n m S w T r j)=_;rw[Int.mul_sub,e3,<-Vv T.over ((Sx.turn T p q).cell r n),e4];generalize sm n (fun c=>T.cell r c*nv n S (T.col c) j)=A at *;generalize sm n (fun c=>T.cell p c*nv n S (T.col c) j)=B at *
   grind
 ·rcases G.sg with e|e
  ·exact .inr (by show -T.s= -1;rw[e])
  ·exact .inl (by show -T.s=1;rw[e];rfl)
 ·by_cases h1:c=q
  ·by_cases h2:c'=q
   ·rw[h1,h2]
   ·rw[h1,k1,k2 c' h2]at e;exact absurd e.symm (G.dis c' p hc' hp)
  ·by_cases h2:c'=q
   ·rw[h2,k1,k2 c h1]at e;exact absurd e (G.dis c p hc hp)
   ·rw[k2 c h1,k2 c' h2]at e;exact G.BJ c c' hc hc' e
 ·by_cases h1:r=p
  ·by_cases h2:r'=p
   ·rw[h1,h2]
   ·rw[h1,r1,r2 r' h2]at e;exact absurd e (G.dis q r' hq hr')
  ·by_cases h2:r'=p
   ·rw[h2,r1,r2 r h1]at e;exact absurd e.symm (G.dis q r hq hr)
   ·rw[r2 r h1,r2 r' h2]at e;exact G.Jv r r' hr hr' e
 ·by_cases h1:c=q
  ·by_cases h2:r=p
   ·rw[h1,h2,k1,r1]at e;exact G.dis q p hq hp e.symm
   ·rw[h1,k1,r2 r h2]at e;exact h2 (G.Jv p r hp hr e).symm
  ·by_cases h2:r=p
   ·rw[h2,k2 c h1,r1]at e;exact h1 (G.BJ c q hc hq e)
   ·rw[k2 c h1,r2 r h2]at e;exact G.dis c r hc hr e
 ·by_cases h1:c=q
  ·rw[h1,k1];exact G.rlt p hp
  ·rw[k2 c h1];exact G.Qi c hc
 ·by_cases h1:r=p
  ·rw[h1,r1];exact G.Qi q hq
  ·rw[r2 r h1];exact G.rlt r hr
 ·rcases G.all a ha with⟨c,hc,e⟩|⟨r,hr,e⟩
  ·by_cases h1:c=q
   ·exact .inr ⟨p,hp,by rw[r1,<-h1,e]⟩
   ·exact .inl ⟨c,hc,by rw[k2 c h1,e]⟩
  ·by_cases h1:r=p
   ·exact .inl ⟨q,hq,by rw[k1,<-h1,e]⟩
   ·exact .inr ⟨r,hr,by rw[r2 r h1,e]⟩
 ·by_cases h1:r=p
  ·rw[h1,c3 n hqn];exact G.Wo p hp
  ·have e:=G.exact hp hq hb (dH hr) h1 (aN n) hqn;have f1:=G.Wo r hr;have f2:=G.Wo p hp;have z:0<=T.cell r n*T.cell p q-T.cell r q*T.cell p n:=by
    by_cases hc:0<T.cell r q
    ·have:=ra r hr hc;rw[Ey (T.cell r q)];omega
    ·have a1:0<=T.cell r n*T.cell p q:=Ho f1 (by omega);have a2:0<= -(T.cell r q)*T.cell p n:=Ho (by omega) f2
     grind
   rw[<-e]at z;have:=G.pos;refine Int.not_lt.mp fun hn=> ?_;have:T.over*(Sx.turn T p q).cell r n<0:=Int.mul_neg_of_pos_of_neg G.pos hn;omega
end
structure Step(n m:Nat)(T:Tab)(p q:Nat):Prop where
 hp:p<m
 hq:q<n
 neg:T.cell m q<0
 ent:∀c,c<n->T.cell m c<0->T.col q<=T.col c
 by_:0<T.cell p q
 lev:∀r,r<m->0<T.cell r q->T.cell p n*T.cell r q<T.cell r n*T.cell p q\/(T.cell p n*T.cell r q=T.cell r n*T.cell p q/\T.row p<=T.row r)
noncomputable def inC(n:Nat)(T:Tab)(a:Nat):Prop:=∃c,c<n/\T.col c=a
section
variable{n m:Nat}{S:Nat->Nat->Bool}{w:Nat->Int}
theorem Step.good{T:Tab}{p q:Nat}(s:Step n m T p q)(G:Good n m S w T):Good n m S w (turn T p q):=
 G.turn s.hp s.hq s.by_ fun r hr h=>(s.lev r hr h).elim CJ fun e=>QB e.1
theorem Step.worth{T:Tab}{p q:Nat}(s:Step n m T p q)(G:Good n m S w T):T.over*(turn T p q).cell m n-(turn T p q).over*T.cell m n= -(T.cell m q)*T.cell p n:=by
 have h:=G.exact s.hp s.hq s.by_ (aN m) (Mg s.hp) (aN n) (Mg s.hq);rw[h];show _-T.cell p q*_=_
 grind
theorem Step.le{T:Tab}{p q:Nat}(s:Step n m T p q)(G:Good n m S w T):(turn T p q).over*T.cell m n<=T.over*(turn T p q).cell m n:=by
 have h:=s.worth G;have:=Ho (a:= -(T.cell m q)) (b:=T.cell p n) (by have:=s.neg;omega) (G.Wo p s.hp);omega
theorem v7{a b c d e f:Int}(hd:0<d)(hb:0<b)(hf:0<f)(h1:d*a<=b*c)(h2:f*c<=d*e):f*a<=b*e:=by
 have x:=MP h1 (CJ hf);have y:=MP h2 (CJ hb);refine wdz (a:=d) ?_ hd
 grind
theorem vZ{a b c d e f:Int}(hd:0<d)(hb:0<b)(hf:0<f)(h1:d*a<=b*c)(h2:f*c<d*e):f*a<b*e:=by
 have x:=MP h1 (CJ hf);have y:=wdq h2 hb;refine wea (a:=d) ?_ (CJ hd)
 grind
theorem zf{a b c d e f:Int}(hd:0<d)(hb:0<b)(hf:0<f)(h1:d*a<b*c)(h2:f*c<=d*e):f*a<b*e:=by
 have x:=wdq h1 hf;have y:=MP h2 (CJ hb);refine wea (a:=d) ?_ (CJ hd)
 grind
theorem goes{P:Nat->Prop}{s:Nat}:∀d,P s->¬P (s+d)->∃t,s<=t/\t<s+d/\P t/\¬P (t+1)
 |0,h,h'=>absurd h h'
 |d+1,h,h'=>by
  by_cases c:P (s+d)
  ·exact⟨s+d,by omega,by omega,c,h'⟩
  ·obtain⟨t,a,b,x⟩:=goes d h c;exact⟨t,a,by omega,x⟩
theorem yS{P:Nat->Prop}{s e:Nat}(hse:s<=e)(h:P s)(h':¬P e):∃t,s<=t/\t<e/\P t/\¬P (t+1):=by
 obtain⟨t,a,b,x⟩:=goes (s:=s) (e-s) h (by rw[show s+(e-s)=e by omega];exact h');exact⟨t,a,by omega,x⟩
theorem most{P:Nat->Prop}:∀N,(∃a,P a)->(∀a,P a->a<N)->∃a,P a/\∀b,P b->b<=a
 |0,⟨a,h⟩,hb=>absurd (hb a h) (QD a)
 |N+1,h,hb=>by
  by_cases c:P N
  ·exact⟨N,c,fun b hP=>by have:=hb b hP;omega⟩
  ·exact most N h fun a hP=>by
    have:=hb a hP;have:a≠N:=fun e=>c (e▸hP);omega
structure Run(n m:Nat)(S:Nat->Nat->Bool)(w:Nat->Int)(T:Nat->Tab)(p q:Nat->Nat)(L:Nat):Prop where
 first:Good n m S w (T 0)
 step:∀t,t<L->Step n m (T t) (p t) (q t)
 next:∀t,t<L->T (t+1)=turn (T t) (p t) (q t)
variable{T:Nat->Tab}{p q:Nat->Nat}{L:Nat}
theorem Run.good(R:Run n m S w T p q L):∀t,t<=L->Good n m S w (T t)
 |0,_=>R.first
 |t+1,h=>by rw[R.next t h];exact(R.step t h).good (R.good t (wed h))
theorem Run.worth(R:Run n m S w T p q L){i:Nat}:∀d,i+d<=L->(T (i+d)).over*(T i).cell m n<=(T i).over*(T (i+d)).cell m n
 |0,_=>tR _
 |d+1,h=>by
  have ih:=R.worth d (i:=i) (by omega);have g1:=R.good (i+d) (by omega);have st:=(R.step (i+d) (by omega)).le g1;rw[<-R.next (i+d) (by omega)]at st;exact v7 g1.pos (R.good i (by omega)).pos (R.good (i+d+1) h).pos ih st
theorem Run.Ia(R:Run n m S w T p q L){i j:Nat}(hij:i<=j)(hj:j<=L):(T j).over*(T i).cell m n<=(T i).over*(T j).cell m n:=by
 have:=R.worth (i:=i) (j-i) (by omega)
 rwa [show i+(j-i)=j by omega]at this
theorem Aw{A B:Tab}(GA:Good n m S w A)(GB:Good n m S w B)(h:∀a,inC n B a->inC n A a):B.over*A.cell m n=A.over*B.cell m n:=by
 have h1:=m6 (T:=A) (S:=S) (c:=0) (dw n) B.over (zv w);have e:=GB.eq m (aN m);rw[gB]at e;have b:=GA.base (aN m);rw[gB]at b;rw[HJ e,iH (dw n) _ _ (B.cell m) (fun c=>nv n S (B.col c)),jC GA.dt (dw n),aA rfl,cW n fun c hc=> ?_,b]at h1
 ·rw[<-h1,Ey];omega
 ·obtain⟨c',hc',e'⟩:=h _ ⟨c,hc,rfl⟩;rw[<-e',wY GA.dt (dw n) hc',aq (wZ c'),zV]
theorem Ih{T:Tab}{p q:Nat}(G:Good n m S w T)(hp:p<m)(hq:q<n)(a:Nat):inC n (turn T p q) a↔(inC n T a/\a≠T.col q)\/a=T.row p:=by
 constructor
 ·rintro⟨c,hc,e⟩;have e':(if c=q then T.row p else T.col c)=a:=e;by_cases h:c=q
  ·rw[aA h]at e';exact .inr e'.symm
  ·rw[aq h]at e';exact .inl ⟨⟨c,hc,e'⟩,fun z=>h (G.BJ c q hc hq (e'.trans z))⟩
 ·rintro(⟨⟨c,hc,e⟩,hn⟩|e)
  ·have h:c≠q:=fun z=>hn (by rw[<-e,z]);exact⟨c,hc,by show(if c=q then _ else _)=a;rw[aq h];exact e⟩
  ·exact⟨q,hq,by show(if q=q then _ else _)=a;rw[aA rfl];exact e.symm⟩
theorem flat{T:Tab}{p q:Nat}(G:Good n m S w T)(G':Good n m S w (turn T p q))(s:Step n m T p q)(h0:T.cell p n=0){a:Nat}(ha:a<n+m):Fn n S (turn T p q) 0 (nv n S a)=0↔Fn n S T 0 (nv n S a)=0:=by
 have z0:=dw n;rcases G'.all a ha with⟨c,hc,e⟩|⟨r,hr,e⟩
 ·have f1:=wY G'.dt z0 hc;rw[e,aq (wZ c)]at f1;refine⟨fun _=> ?_,fun _=>f1⟩;have e':(if c=q then T.row p else T.col c)=a:=e;by_cases h:c=q
  ·rw[aA h]at e';have:=G.base (dH s.hp);rw[eU s.hp,e']at this;rw[this,h0]
  ·rw[aq h]at e';have:=wY G.dt z0 hc;rw[e',aq (wZ c)]at this;exact this
 ·have f1:=G'.base (dH hr);rw[eU hr,e]at f1;have e':(if r=p then T.col q else T.row r)=a:=e;rw[f1];by_cases h:r=p
  ·rw[aA h]at e';have f2:=wY G.dt z0 s.hq;rw[e',aq (wZ q)]at f2;have f3:(turn T p q).cell r n=T.cell p n:=by
    show(if r=p then(if n=q then _ else _)else _)=_;rw[aA h,aq (Mg s.hq)]
   rw[f3,h0];exact⟨fun _=>f2,fun _=>rfl⟩
  ·rw[aq h]at e';have f2:=G.base (dH hr);rw[eU hr,e']at f2;rw[f2];have x:=G.exact s.hp s.hq s.by_ (dH hr) h (aN n) (Mg s.hq);rw[h0,zV,Int.sub_zero]at x;constructor
   ·intro z;rw[z,zV]at x;rcases Int.mul_eq_zero.mp x.symm with y|y
    ·exact y
    ·have:=s.by_;omega
   ·intro z;rw[z,Vu]at x;rcases Int.mul_eq_zero.mp x with y|y
    ·have:=G.pos;omega
    ·exact y
theorem Run.Gi(R:Run n m S w T p q L){i j:Nat}(hij:i<j)(hj:j<=L):¬∀a,inC n (T i) a↔inC n (T j) a:=by
 intro same;have Gt:∀t,i<=t->t<=j->Good n m S w (T t):=fun t _ h=>R.good t (eN h hj);have D:=Aw (Gt i (aN i) (dH hij)) (Gt j (dH hij) (aN j)) fun a=>(same a).mpr;have St:∀t,t<j->Step n m (T t) (p t) (q t):=fun t h=>R.step t (iT h hj);have nx:∀t,t<j->T (t+1)=turn (T t) (p t) (q t):=fun t h=>R.next t (iT h hj)
 -- every turn of these is flat
 have fl:∀t,i<=t->t<j->(T t).cell (p t) n=0:=fun t hi ht=>by
  have g:=Gt t hi (dH ht);have W:=(St t ht).worth g;have F:=g.Wo (p t) (St t ht).hp;have N:=(St t ht).neg;by_cases z:(T t).cell (p t) n=0
  ·exact z
  ·exfalso;have B:(turn (T t) (p t) (q t)).over*(T t).cell m n<(T t).over*(turn (T t) (p t) (q t)).cell m n:=by
    have:=VH (a:= -((T t).cell m (q t))) (b:=(T t).cell (p t) n) (by omega) (by omega);omega
   rw[<-nx t ht]at B;have A:=R.Ia (i:=i) (j:=t) hi (by omega);have C:=R.Ia (i:=t+1) (j:=j) ht hj;have o1:=(Gt i (aN i) (dH hij)).pos;have o2:=g.pos;have o3:=(Gt (t+1) (by omega) ht).pos;have o4:=(Gt j (dH hij) (aN j)).pos;have x:=vZ o2 o1 o3 A B;have y:=zf o3 o1 o4 x C;omega
 have ic:∀t,t<j->i<=t->∀a,inC n (T (t+1)) a↔(inC n (T t) a/\a≠(T t).col (q t))\/a=(T t).row (p t):=fun t ht hi a=>by
  rw[nx t ht];exact Ih (Gt t hi (dH ht)) (St t ht).hp (St t ht).hq a
 have zeros:∀{a:Nat},a<n+m->∀d s,i<=s->s+d<=j->(Fn n S (T (s+d)) 0 (nv n S a)=0↔Fn n S (T s) 0 (nv n S a)=0):=fun{a} ha d=>by
  induction d with
  |zero=>intro s _ _;exact Iff.rfl
  |succ d ih=>
   intro s hs hd;have f:=flat (Gt (s+d) (by omega) (by omega)) (by rw[<-nx (s+d) (by omega)];exact Gt (s+d+1) (by omega) hd) (St (s+d) (by omega)) (fl (s+d) (by omega) (by omega)) ha;rw[<-nx (s+d) (by omega)]at f;exact f.trans (ih s hs (by omega))
 have Wx:∀{a s t:Nat},a<n+m->i<=s->s<=j->i<=t->t<=j->Fn n S (T s) 0 (nv n S a)=0->Fn n S (T t) 0 (nv n S a)=0:=fun{a s t} ha h1 h2 h3 h4 z=>by
  by_cases c:s<=t
  ·have:=zeros ha (t-s) s h1 (by omega);rw[show s+(t-s)=t by omega]at this;exact this.mpr z
  ·have:=zeros ha (s-t) t h3 (by omega);rw[show t+(s-t)=s by omega]at this;exact this.mp z
 -- the greatest name that comes and goes
 let Fk:Nat->Prop:=fun a=>∃t,i<=t/\t<j/\((inC n (T t) a/\¬inC n (T (t+1)) a)\/(¬inC n (T t) a/\inC n (T (t+1)) a));have fkc:∀t,i<=t->t<j->Fk ((T t).col (q t)):=fun t hi ht=>by
  have g:=Gt t hi (dH ht);refine⟨t,hi,ht,.inl ⟨⟨q t,(St t ht).hq,rfl⟩,fun z=> ?_⟩⟩;rcases(ic t ht hi _).mp z with⟨_,z⟩|z
  ·exact z rfl
  ·exact g.dis (q t) (p t) (St t ht).hq (St t ht).hp z
 have lt:∀a,Fk a->a<n+m:=fun a h=>by
  obtain⟨t,hi,ht,(⟨⟨c,hc,e⟩,_⟩|⟨_,⟨c,hc,e⟩⟩)⟩:=h
  ·rw[<-e];exact(Gt t hi (dH ht)).Qi c hc
  ·rw[<-e];exact(Gt (t+1) (by omega) ht).Qi c hc
 obtain⟨tt,hF,hmax⟩:=most (n+m) ⟨_,fkc i (aN i) hij⟩ lt;have diff:∀{a s e:Nat},i<=s->s<=j->i<=e->e<=j->inC n (T s) a->¬inC n (T e) a->Fk a:=fun{a s e} h1 h2 h3 h4 x y=>by
  by_cases c:s<=e
  ·obtain⟨t,a1,a2,a3,a4⟩:=yS (P:=fun t=>inC n (T t) a) c x y;exact⟨t,by omega,by omega,.inl ⟨a3,a4⟩⟩
  ·obtain⟨t,a1,a2,a3,a4⟩:=yS (P:=fun t=>¬inC n (T t) a) (s:=e) (e:=s) (by omega) y (fun z=>z x);exact⟨t,by omega,by omega,.inr ⟨a3,Classical.not_not.mp a4⟩⟩
 obtain⟨t1,Y7,Wm,h1a,h1b⟩:∃t,i<=t/\t<j/\inC n (T t) tt/\¬inC n (T (t+1)) tt:=by
  obtain⟨t,hi,ht,(⟨x,y⟩|⟨x,y⟩)⟩:=hF
  ·exact⟨t,hi,ht,x,y⟩
  ·by_cases c:inC n (T j) tt
   ·obtain⟨u,a1,a2,a3,a4⟩:=yS (P:=fun t=>inC n (T t) tt) hi ((same tt).mpr c) x;exact⟨u,a1,by omega,a3,a4⟩
   ·obtain⟨u,a1,a2,a3,a4⟩:=yS (P:=fun t=>inC n (T t) tt) (s:=t+1) (e:=j) ht y c;exact⟨u,by omega,a2,a3,a4⟩
 obtain⟨t2,Wk,Uy,h2a,h2b⟩:∃t,i<=t/\t<j/\¬inC n (T t) tt/\inC n (T (t+1)) tt:=by
  have up:∀s e,i<=s->s<=e->e<=j->¬inC n (T s) tt->inC n (T e) tt->∃t,i<=t/\t<j/\¬inC n (T t) tt/\inC n (T (t+1)) tt:=fun s e a b c x y=>by
   obtain⟨u,a1,a2,a3,a4⟩:=yS (P:=fun t=>¬inC n (T t) tt) b x (fun z=>z y);exact⟨u,by omega,by omega,a3,Classical.not_not.mp a4⟩
  by_cases c:inC n (T j) tt
  ·exact up (t1+1) j (by omega) Wm (aN j) h1b c
  ·exact up i t1 (aN i) Y7 (by omega) (fun z=>c ((same tt).mp z)) h1a
 have e1:tt=(T t1).col (q t1):=by
  refine M9 fun hn=>h1b ((ic t1 Wm Y7 tt).mpr (.inl ⟨h1a,hn⟩))
 have e2:tt=(T t2).row (p t2):=by
  rcases(ic t2 Uy Wk tt).mp h2b with⟨z,_⟩|z
  ·exact absurd z h2a
  ·exact z
 have G1:=Gt t1 Y7 (dH Wm);have G2:=Gt t2 Wk (dH Uy);have S1:=St t1 Wm;have S2:=St t2 Uy
 -- along the column that enters at t2
 have hq2:q t2+1<=n:=S2.hq;have dz:=G2.dir (aN m) S2.hq;rw[gB]at dz;have sum:=m6 (T:=T t2) (S:=S) hq2 (T t1).over (zv w);have eq1:=G1.eq m (aN m);rw[gB]at eq1;rw[HJ eq1,iH hq2 _ _ ((T t1).cell m) (fun c=>nv n S ((T t1).col c)),jC G2.dt hq2,aq (wZ _),dz]at sum;have neg:sm n (fun c=>(T t1).cell m c*Fn n S (T t2) (q t2+1) (nv n S ((T t1).col c)))<0:=by
  have:=VH G1.pos (b:= -((T t2).cell m (q t2))) (by have:=S2.neg;omega);omega
 obtain⟨c,hc,hlt⟩:=Jj n neg;have hnm:=G1.Qi c hc;rcases G2.all _ hnm with⟨c0,hc0,e0⟩|⟨r0,hr0,e0⟩
 ·have f:=wY G2.dt hq2 hc0;rw[e0]at f;by_cases z:c0=q t2
  ·rw[aA (by omega)]at f;rw[f]at hlt;have cn:(T t1).cell m c<0:=by
    refine Int.not_le.mp fun h=> ?_;have:=Ho h (CJ G2.pos);omega
   have a:=S1.ent c hc cn;rw[<-e1,<-e0,z]at a;have b:=hmax _ (fkc t2 Wk Uy);have:tt=(T t2).col (q t2):=QF a b;exact G2.dis (q t2) (p t2) S2.hq S2.hp (this.symm.trans e2)
  ·rw[aq (by omega)]at f;rw[f,zV]at hlt;exact absurd hlt (Xq 0)
 ·have f:=G2.dir (dH hr0) S2.hq;rw[eU hr0,e0]at f;rw[f]at hlt;have fk:Fk ((T t1).col c):=diff Y7 (dH Wm) Wk (dH Uy) ⟨c,hc,rfl⟩ (fun⟨c',hc',e'⟩=>G2.dis c' r0 hc' hr0 (e'.trans e0.symm));have le:=hmax _ fk;by_cases z:(T t1).col c=tt
  ·have cq:c=q t1:=G1.BJ c (q t1) hc S1.hq (z.trans e1);have rp:r0=p t2:=G2.Jv r0 (p t2) hr0 S2.hp (e0.trans (z.trans e2));subst cq rp;have a:=S1.neg;have b:=S2.by_;have:=VH (a:= -((T t1).cell m (q t1))) (b:=(T t2).cell (p t2) (q t2)) (by omega) b
   grind
  ·have cn:¬(T t1).cell m c<0:=fun h=>by
    have:=S1.ent c hc h;omega
   have S9:0<(T t2).cell r0 (q t2):=by
    refine Int.not_le.mp fun h=> ?_;have:=Ho (a:=(T t1).cell m c) (b:= -((T t2).cell r0 (q t2))) (by omega) (by omega);omega
   have v1:Fn n S (T t1) 0 (nv n S ((T t1).col c))=0:=by rw[wY G1.dt (dw n) hc,aq (wZ c)]
   have v2:=Wx hnm Y7 (dH Wm) Wk (dH Uy) v1;have b:=G2.base (dH hr0);rw[eU hr0,e0,v2]at b;have k:=fl t2 Wk Uy;rcases S2.lev r0 hr0 S9 with h|⟨_,h⟩
   ·rw[k,<-b,Vu,Vu]at h;exact absurd h (Xq 0)
   ·rw[<-e2,e0]at h;omega
noncomputable def enc:List Bool->Nat
 |[]=>0
 |b::l=>(if b=true then 1 else 0)+2*enc l
theorem K5:∀l:List Bool,enc l<2^l.length
 |[]=>by decide
 |b::l=>by
  have:=K5 l;show(if b=true then 1 else 0)+2*enc l<2^(l.length+1);rw[Nat.pow_succ];split<;>omega
theorem Ep:∀{l l':List Bool},l.length=l'.length->enc l=enc l'->l=l'
 |[],[],_,_=>rfl
 |b::l,b'::l',h,e=>by
  have e':(if b=true then 1 else 0)+2*enc l=(if b'=true then 1 else 0)+2*enc l':=e;have hb:b=b':=by cases b<;>cases b'<;>simp at e'⊢<;>omega
  subst hb;rw[Ep (l:=l) (l':=l') (by simpa using h) (by omega)]
theorem few:∀(K:Nat) (l:List Nat),l.Nodup->(∀x∈l,x<K)->l.length<=K
 |0,[],_,_=>aN 0
 |0,x::_,_,h=>absurd (h x cV) (QD x)
 |K+1,l,nd,h=>by
  have a:=few K (l.filter fun x=>decide (x≠K)) (nd.filter _) fun x hx=>by
   obtain⟨h1,h2⟩:=dO.mp hx;have:=h x h1;have:=j9 h2;omega
  have b:l.length<=(l.filter fun x=>decide (x≠K)).length+1:=by
   clear a h
   induction l with
   |nil=>exact dw _
   |cons y l ih=>
    have nd':=ur.mp nd;rw[qT];by_cases c:y=K
    ·subst c;rw[aq (by simp)];have:l.filter (fun x=>decide (x≠y))=l:=Xh.mpr fun x hx=>dB fun e=>nd'.1 (e▸hx);rw[this];exact aN _
    ·rw[aA (dB c)];have:=ih nd'.2;simp only[pW];omega
  omega
open Classical in
noncomputable def code(n m:Nat)(T:Tab):Nat:=enc ((List.range (n+m)).map fun a=>decide (inC n T a))
theorem Run.short(R:Run n m S w T p q L):L<2^(n+m):=by
 have inj:∀i j,i<=L->j<=L->code n m (T i)=code n m (T j)->i=j:=by
  have one:∀i j,i<j->j<=L->code n m (T i)≠code n m (T j):=fun i j hij hj e=>by
   have l:=Ep (by simp) e;refine R.Gi hij hj fun a=> ?_;by_cases ha:a<n+m
   ·have:=gq (fun l:List Bool=>l[a]?) l;simp only[cU,HW ha,Option.map_some,Option.some.injEq,decide_eq_decide]at this;exact this
   ·exact⟨fun⟨c,hc,e⟩=>absurd ((R.good i (by omega)).Qi c hc) (by omega),fun⟨c,hc,e⟩=>absurd ((R.good j hj).Qi c hc) (by omega)⟩
  intro i j hi hj e;rcases Nat.lt_trichotomy i j with h|h|h
  ·exact absurd e (one i j h hj)
  ·exact h
  ·exact absurd e.symm (one j i h hi)
 have nd:((List.range (L+1)).map fun t=>code n m (T t)).Nodup:=by
  refine zZ.mpr (List.nodup_range.imp_of_mem fun{a b} ha hb hab e=>hab (inj a b ?_ ?_ e))
  ·have:=lO.mp ha;omega
  ·have:=lO.mp hb;omega
 have:=few (2^(n+m)) _ nd fun x hx=>by
  obtain⟨t,_,rfl⟩:=fG.mp hx;have:=K5 ((List.range (n+m)).map fun a=> @decide (inC n (T t) a) (Classical.propDecidable _));rw[aG,wV]at this;exact this
 rw[aG,wV]at this;omega
end
section
variable{n m:Nat}{S:Nat->Nat->Bool}{w:Nat->Int}{T:Tab}
theorem lA{a j:Nat}(h:a<n):nv n S a j=if j=a+1 then 1 else 0:=aA h
theorem vM{k j:Nat}:nv n S (n+k) j=if j=0 then 1 else if S k (j-1)=true then -1 else 0:=by
 unfold nv;rw[aq (by omega),show n+k-n=k by omega]
theorem Dt{y:Nat->Int}{j:Nat}(hj:j<=n):sm n (fun c=>y c*nv n S c j)=if j=0 then 0 else y (j-1):=by
 by_cases h:j=0
 ·rw[aA h];exact cW n fun c hc=>by rw[lA hc,aq (by omega),zV]
 ·rw[aq h,cX (j:=j-1) n (by omega) fun c hc hn=>by rw[lA hc,aq (by omega),zV],lA (by omega),aA (by omega),RJ]
theorem Bh{k j:Nat}(hj:j<=n):nv n S (n+k) j=1*one j-sm n (fun c=>(if S k c=true then 1 else 0)*nv n S c j):=by
 rw[vM,Dt hj];unfold one;by_cases h:j=0
 ·rw[aA h,aA h,aA h];rfl
 ·rw[aq h,aq h,aq h];split<;>rfl
theorem HB{j:Nat}(hj:j<=n):zv w j=0*one j-sm n (fun c=> -(w c)*nv n S c j):=by
 rw[Dt hj];unfold zv;by_cases h:j=0
 ·rw[aA h,aA h];omega
 ·rw[aq h,aq h];omega
noncomputable def start(n m:Nat)(S:Nat->Nat->Bool)(w:Nat->Int):Tab where
 col:=fun c=>c
 row:=fun r=>n+r
 cell:=fun r c=>if r=m then(if c=n then 0 else -(w c))else if c=n then 1 else if S r c=true then 1 else 0
 over:=1
 s:=1
theorem Aj:Good n m S w (start n m S w):=by
 refine⟨Int.one_pos,fun r hr j hj=> ?_,.inl rfl,?_,fun c c' _ _ e=>e,fun r r' _ _ e=>by have:n+r=n+r':=e;omega,fun c r hc _ e=>by have:c=n+r:=e;omega,fun c hc=>by show c<n+m;omega,fun r hr=>by show n+r<n+m;omega,fun a ha=> ?_,fun r hr=> ?_⟩
 ·show 1*rv n m S w (start n m S w) r j=(start n m S w).cell r n*one j-sm n (fun c=>(start n m S w).cell r c*nv n S c j);by_cases h:r<m
  ·rw[eU h];show 1*nv n S (n+r) j=_;rw[Hj,Bh hj];have e1:(start n m S w).cell r n=1:=by show(if r=m then _ else if n=n then(1:Int)else _)=1;rw[aq (by omega),aA rfl]
   rw[e1,aO n fun c hc=> ?_];show _=(if r=m then _ else if c=n then(1:Int)else if S r c=true then 1 else 0)*_;rw[aq (show¬r=m by omega),aq (show¬c=n by omega)]
  ·have e:r=m:=by omega
   subst e;rw[gB,Hj,HB (n:=n) (S:=S) hj];have e1:(start n r S w).cell r n=0:=by show(if r=r then(if n=n then(0:Int)else _)else _)=0;rw[aA rfl,aA rfl]
   rw[e1,aO n fun c hc=> ?_];show _=(if r=r then(if c=n then(0:Int)else -(w c))else _)*_;rw[aA rfl,aq (show¬c=n by omega)]
 ·show(1:Int)=1*det (n+1) _;rw[zu (n+1) _ fun i hi j hj=> ?_]; · rfl
  by_cases h:i=0
  ·subst h;rw[zK];unfold one;by_cases e:j=0
   ·rw[aA e,aA e.symm]
   ·rw[aq e,aq (jU e)]
  ·obtain⟨c,rfl⟩:∃c,i=c+1:=⟨i-1,by omega⟩;rw[Er];show nv n S c j=_;rw[lA (by omega)];by_cases e:j=c+1
   ·rw[aA e,aA e.symm]
   ·rw[aq e,aq (jU e)]
 ·by_cases h:a<n
  ·exact .inl ⟨a,h,rfl⟩
  ·exact .inr ⟨a-n,by omega,by show n+(a-n)=a;omega⟩
 ·show 0<=(if r=m then _ else if n=n then(1:Int)else _);rw[aq (by omega),aA rfl];decide
theorem Good.bounded(G:Good n m S w T)(cov:∀p,p<n->∃k,k<m/\S k p=true){q:Nat}(hq:q<n):∃r,r<m/\0<T.cell r q:=by
 refine M9 fun no=> ?_;have no':∀r,r<m->T.cell r q<=0:=fun r hr=>Int.not_lt.mp fun h=>no ⟨r,hr,h⟩;have hq':q+1<=n:=hq;have nn:∀a,a<n+m->0<=Fn n S T (q+1) (nv n S a):=fun a ha=>by
  rcases G.all a ha with⟨c,hc,e⟩|⟨r,hr,e⟩
  ·rw[<-e,wY G.dt hq' hc];split
   ·exact CJ G.pos
   ·exact tR 0
  ·have:=G.dir (dH hr) hq;rw[eU hr,e]at this;rw[this];have:=no' r hr;omega
 have set:∀k,Fn n S T (q+1) (nv n S (n+k))= -sm n (fun p=>(if S k p=true then 1 else 0)*Fn n S T (q+1) (nv n S p)):=fun k=>by
  rw[HJ fun j hj=>Bh hj,iH hq' _ _ (fun c=>if S k c=true then 1 else 0) (fun c=>nv n S c),jC G.dt hq',aq (wZ q)];omega
 have low:∀p,p<n->Fn n S T (q+1) (nv n S p)=0:=fun p hp=>by
  obtain⟨k,hk,hs⟩:=cov p hp;have a:=nn (n+k) (by omega);rw[set k]at a;have:=Du n (f:=fun p=>(if S k p=true then 1 else 0)*Fn n S T (q+1) (nv n S p)) (fun i hi=> ?_) (by omega) p hp
  ·rw[aA hs,Hj]at this;exact this
  ·have:=nn i (by omega);split<;>omega
 have z:Fn n S T (q+1) (nv n S (T.col q))=0:=by
  have hc:=G.Qi q hq;by_cases h:T.col q<n
  ·exact low _ h
  ·have e:T.col q=n+(T.col q-n):=by omega
   rw[e,set,cW n fun p hp=>by rw[low p hp,zV]];rfl
 rw[wY G.dt hq' hq,aA rfl]at z;have:=G.pos;omega
theorem J4(a j:Nat): -1<=nv n S a j/\nv n S a j<=1:=by
 unfold nv;split
 ·split<;>decide
 ·split
  ·decide
  ·split<;>decide
theorem Es(i j:Nat): -1<=ug n S T i j/\ug n S T i j<=1:=by
 unfold ug;split
 ·unfold one;split<;>decide
 ·exact J4 _ _
theorem Cq(G:Good n m S w T){c:Nat}{v:Vec}{B:Int}(hB:1<=B)(h:∀j,j<=n-> -B<=v j/\v j<=B): -(fct (n+1)*B)<=Fn n S T c v/\Fn n S T c v<=fct (n+1)*B:=by
 have d:=wA (n+1) (put (ug n S T) c v) c B hB (fun i _ j _ hn=>by rw[gM _ _ hn];exact Es i j) (fun j hj _=>by rw[put_same];exact h j (by omega));unfold Fn;rcases G.sg with s|s
 ·rw[s,Hj];exact d
 ·rw[s];omega
theorem Good.N6(G:Good n m S w T):T.over<=fct (n+1):=by
 have d:=Cq G (c:=0) (v:=ug n S T 0) (B:=1) (by decide) fun j _=>Es 0 j;rw[Lx G.dt (dw n) (dw n),aA rfl]at d;omega
theorem Good.Le(G:Good n m S w T)(hw:∀p,p<n->0<=w p/\w p<=99){r c:Nat}(hr:r<=m)(hc:c<=n): -(fct (n+1)*99)<=T.cell r c/\T.cell r c<=fct (n+1)*99:=by
 have hv:∀j,j<=n-> -99<=rv n m S w T r j/\rv n m S w T r j<=99:=fun j hj=>by
  unfold rv;split
  ·have:=J4 (n:=n) (S:=S) (T.row r) j;omega
  ·unfold zv;split
   ·decide
   ·have:=hw (j-1) (by omega);omega
 by_cases h:c=n
 ·subst h;have d:=Cq G (c:=0) (B:=99) (by decide) hv;rw[G.base hr]at d;exact d
 ·have d:=Cq G (c:=c+1) (B:=99) (by decide) hv;rw[G.dir hr (by omega)]at d;omega
theorem K4:∀{k:Nat},k<=11->fct k<=39916800
 |0,_|1,_|2,_|3,_|4,_|5,_|6,_|7,_|8,_|9,_|10,_|11,_=>by decide
noncomputable def Ys(n m:Nat)(T:Tab)(a:Nat):Int:=sm n fun c=>if T.col c=a then T.cell m c else 0
noncomputable def Xs(n m:Nat)(T:Tab)(a:Nat):Int:=sm m fun r=>if T.row r=a then T.cell r n else 0
theorem Good.WT(G:Good n m S w T){c:Nat}(hc:c<n):Ys n m T (T.col c)=T.cell m c:=by
 unfold Ys;rw[cX (j:=c) n hc fun i hi hn=>aq fun e=>hn (G.BJ i c hi hc e),aA rfl]
theorem WR{a:Nat}(h:∀c,c<n->T.col c≠a):Ys n m T a=0:=cW n fun c hc=>aq (h c hc)
theorem Good.QM(G:Good n m S w T){r:Nat}(hr:r<m):Xs n m T (T.row r)=T.cell r n:=by
 unfold Xs;rw[cX (j:=r) m hr fun i hi hn=>aq fun e=>hn (G.Jv i r hi hr e),aA rfl]
theorem QK{a:Nat}(h:∀r,r<m->T.row r≠a):Xs n m T a=0:=cW m fun r hr=>aq (h r hr)
theorem Good.HY(G:Good n m S w T){a:Nat}(ha:a<n+m):Fn n S T 0 (nv n S a)=Xs n m T a:=by
 rcases G.all a ha with⟨c,hc,e⟩|⟨r,hr,e⟩
 ·rw[<-e,wY G.dt (dw n) hc,aq (wZ c),QK fun r hr z=>G.dis c r hc hr z.symm]
 ·rw[<-e,G.QM hr];have:=G.base (dH hr);rw[eU hr]at this;exact this
theorem Good.QL(G:Good n m S w T)(a:Nat):0<=Xs n m T a:=uE m fun r hr=>by
 have:=G.Wo r hr;split
 ·exact this
 ·exact tR 0
theorem Qy(h:∀c,c<n->0<=T.cell m c)(a:Nat):0<=Ys n m T a:=uE n fun c hc=>by
 have:=h c hc;split
 ·exact this
 ·exact tR 0
theorem xR(f:Nat->Int)(a:Nat):∀b,sm (a+b) f=sm a f+sm b fun k=>f (a+k)
 |0=>by show sm a f=sm a f+0;omega
 |b+1=>by
  show sm (a+b) f+f (a+b)=_;rw[xR f a b];show _=sm a f+(sm b (fun k=>f (a+k))+f (a+b));omega
theorem Good.X4(G:Good n m S w T)(g:Nat->Int):sm n (fun c=>T.cell m c*g (T.col c))=sm n (fun a=>Ys n m T a*g a)+sm m (fun k=>Ys n m T (n+k)*g (n+k)):=by
 rw[<-xR (fun a=>Ys n m T a*g a)];have e:∀a,Ys n m T a*g a=sm n fun c=>(if T.col c=a then T.cell m c else 0)*g a:=fun a=>by
  unfold Ys;rw[Ey,<-cY];exact aO n fun c _=>Ey _ _
 rw[aO (n+m) fun a _=>e a,qI (fun a c=>(if T.col c=a then T.cell m c else 0)*g a)];refine aO n fun c hc=> ?_;rw[cX (j:=T.col c) (n+m) (G.Qi c hc) fun a _ hn=>by rw[aq (jU hn),Vu],aA rfl]
theorem Good.total(G:Good n m S w T):sm m (fun k=>Ys n m T (n+k))=T.cell m n:=by
 have e:=G.eq m (aN m) 0 (dw n);rw[gB,G.X4 (fun a=>nv n S a 0),cW n fun a ha=>by rw[lA ha,aq (by omega),zV]]at e;have z:zv w 0=0:=rfl;have o:one 0=1:=rfl;rw[z,o,aO m fun k _=>show Ys n m T (n+k)*nv n S (n+k) 0=Ys n m T (n+k) by rw[vM,aA rfl,RJ]]at e;omega
theorem Good.enough(G:Good n m S w T){p:Nat}(hp:p<n):sm m (fun k=>if S k p=true then Ys n m T (n+k)else 0)=T.over*w p+Ys n m T p:=by
 have e:=G.eq m (aN m) (p+1) hp;rw[gB,G.X4 (fun a=>nv n S a (p+1)),cX (j:=p) n hp fun a ha hn=>by rw[lA ha,aq (by omega),zV],lA hp,aA rfl]at e;have z:zv w (p+1)=w p:=by unfold zv;rw[aq (wZ p)];rfl
 have o:one (p+1)=0:=aq (wZ p);rw[z,o,aO m fun k _=>show Ys n m T (n+k)*nv n S (n+k) (p+1)= -1*(if S k p=true then Ys n m T (n+k)else 0) by
  rw[vM,aq (wZ p),wdv];split<;>omega,cY]at e
 omega
theorem Good.light(G:Good n m S w T){k:Nat}(hk:k<m):sm n (fun p=>if S k p=true then Xs n m T p else 0)<=T.over:=by
 have h:Fn n S T 0 (nv n S (n+k))=1*Fn n S T 0 one-sm n (fun p=>(if S k p=true then 1 else 0)*Fn n S T 0 (nv n S p)):=by
  rw[HJ fun j hj=>Bh hj,iH (dw n) _ _ (fun c=>if S k c=true then 1 else 0) (fun c=>nv n S c)]
 rw[jC G.dt (dw n),aA rfl,G.HY (by omega),aO n fun p hp=>show(if S k p=true then(1:Int)else 0)*Fn n S T 0 (nv n S p)=if S k p=true then Xs n m T p else 0 by
  rw[G.HY (by omega)];split<;>omega]at h
 have:=G.QL (n+k);omega
theorem Good.prices(G:Good n m S w T):sm n (fun p=>w p*Xs n m T p)=T.cell m n:=by
 have h:=G.base (aN m);rw[gB,HJ fun j hj=>HB (n:=n) (S:=S) hj,iH (dw n) _ _ (fun c=> -(w c)) (fun c=>nv n S c),aO n fun p hp=>show -(w p)*Fn n S T 0 (nv n S p)= -1*(w p*Xs n m T p) by rw[G.HY (by omega)];grind,cY]at h;omega
end
noncomputable def ls(f:α->Int):List α->Int
 |[]=>0
 |x::l=>f x+ls f l
theorem Rt{f:α->Int}{b:Int}:∀{l:List α},(∀x∈l,f x<=b)->ls f l<=(l.length:Int)*b
 |[],_=>by show(0:Int)<=0*b;omega
 |x::l,h=>by
  have a:=h x cV;have c:=Rt (f:=f) (b:=b) (l:=l) fun y hy=>h y (dF _ hy);show f x+ls f l<=((l.length+1:Nat):Int)*b;have:((l.length+1:Nat):Int)*b=(l.length:Int)*b+b:=by push_cast;grind
  omega
theorem ls_eq{f:α->Int}{b:Int}:∀{l:List α},(∀x∈l,f x=b)->ls f l=(l.length:Int)*b
 |[],_=>by show(0:Int)=0*b;omega
 |x::l,h=>by
  have a:=h x cV;have c:=ls_eq (f:=f) (b:=b) (l:=l) fun y hy=>h y (dF _ hy);show f x+ls f l=((l.length+1:Nat):Int)*b;have:((l.length+1:Nat):Int)*b=(l.length:Int)*b+b:=by push_cast;grind
  omega
theorem vQ{f:α->β->Int}{m:List β}:∀l:List α,ls (fun x=>ls (fun y=>f x y) m) l=ls (fun y=>ls (fun x=>f x y) l) m
 |[]=>by
  have:∀m:List β,ls (fun y=>ls (fun x=>f x y) ([]:List α)) m=0:=by
   intro m
   induction m with
   |nil=>rfl
   |cons y m ih=>show 0+_=0;rw[ih];rfl
  rw[this];rfl
 |x::l=>by
  show ls (fun y=>f x y) m+ls (fun x=>ls (fun y=>f x y) m) l=ls (fun y=>f x y+ls (fun x=>f x y) l) m;rw[vQ l];have:∀(g h:β->Int) (m:List β),ls g m+ls h m=ls (fun y=>g y+h y) m:=by
   intro g h m
   induction m with
   |nil=>rfl
   |cons y m ih=>show g y+ls g m+(h y+ls h m)=g y+h y+ls _ m;rw[<-ih];omega
  exact this _ _ m
theorem Rb{f:Nat->α->Int}{m:List α}:∀k,sm k (fun v=>ls (fun g=>f v g) m)=ls (fun g=>sm k fun v=>f v g) m
 |0=>by
  have:∀m:List α,ls (fun g=>sm 0 fun v=>f v g) m=0:=by
   intro m
   induction m with
   |nil=>rfl
   |cons y m ih=>show 0+_=0;rw[ih];rfl
  rw[this];rfl
 |k+1=>by
  show sm k (fun v=>ls (fun g=>f v g) m)+ls (fun g=>f k g) m=ls (fun g=>sm k (fun v=>f v g)+f k g) m;rw[Rb k];have:∀(g h:α->Int) (m:List α),ls g m+ls h m=ls (fun y=>g y+h y) m:=by
   intro g h m
   induction m with
   |nil=>rfl
   |cons y m ih=>show g y+ls g m+(h y+ls h m)=g y+h y+ls _ m;rw[<-ih];omega
  exact this _ _ m
theorem vt{n:Nat}{G:List α}{act:α->Nat->Nat}{X:Nat->Int}{ov:Int}(hG:G≠[])(bij:∀g∈G,sm n (fun v=>X (act g v))=sm n X)(shift:∀a,a<n->ls (fun g=>X (act g a)) G=ls (fun g=>X (act g 0)) G){A:List Nat}(hA:∀a∈A,a<n)(light:∀g∈G,ls (fun a=>X (act g a)) A<=ov):(A.length:Int)*sm n X<=(n:Int)*ov:=by
 have gp:(0:Int)<(G.length:Int):=by
  have:=yee.mpr hG;omega
 have e1:sm n (fun v=>ls (fun g=>X (act g v)) G)=(n:Int)*ls (fun g=>X (act g 0)) G:=by
  have:∀k,k<=n->sm k (fun v=>ls (fun g=>X (act g v)) G)=(k:Int)*ls (fun g=>X (act g 0)) G:=by
   intro k
   induction k with
   |zero=>intro _;show(0:Int)=0*_;omega
   |succ k ih=>
    intro hk;show sm k _+ls (fun g=>X (act g k)) G=_;rw[ih (by omega),shift k (by omega)]
    push_cast;grind
  exact this n (aN n)
 rw[Rb,ls_eq (b:=sm n X) bij]at e1;have e2:ls (fun a=>ls (fun g=>X (act g a)) G) A=(A.length:Int)*ls (fun g=>X (act g 0)) G:=ls_eq fun a ha=>shift a (hA a ha);rw[vQ]at e2;have e3:=Rt light;rw[e2]at e3;generalize ls (fun g=>X (act g 0)) G=c at *;generalize sm n X=s at *;refine wdz (a:=(G.length:Int)) ?_ gp;have x1:(G.length:Int)*((A.length:Int)*s)=(A.length:Int)*((G.length:Int)*s):=by grind
 have x2:(G.length:Int)*((n:Int)*ov)=(n:Int)*((G.length:Int)*ov):=by grind
 rw[x1,x2,e1];have x3:(A.length:Int)*((n:Int)*c)=(n:Int)*((A.length:Int)*c):=by grind
 rw[x3];exact MP e3 (by omega)
end Sx
namespace Hs
open PySem L2 lQ
noncomputable def top(i:Nat):Stmt:=PySem.Challenge.pw_hueshare_k49_whole_turned_about.main.body.getD i (.Pass ⟨0,0,0,0⟩)
noncomputable abbrev fV:Stmt:=top 8
noncomputable abbrev iy:Stmt:=top 9
noncomputable abbrev fB:Stmt:=top 10
noncomputable abbrev gA:Stmt:=top 11
noncomputable abbrev rP:Stmt:=top 12
noncomputable abbrev kZ:Stmt:=top 13
noncomputable abbrev rN:Stmt:=top 14
noncomputable abbrev HN:Stmt:=top 15
noncomputable abbrev iu:Stmt:=top 16
noncomputable abbrev vq:Stmt:=top 17
noncomputable abbrev fK:Stmt:=top 18
noncomputable abbrev fj:Stmt:=top 19
noncomputable abbrev zdf:Stmt:=top 21
noncomputable abbrev nQ:Stmt:=top 22
noncomputable abbrev jo:Stmt:=top 23
noncomputable abbrev fu:Stmt:=top 24
noncomputable abbrev zcv:Stmt:=top 25
noncomputable abbrev zcu:Stmt:=top 26
noncomputable abbrev zca:Stmt:=top 28
noncomputable abbrev fQ:Stmt:=top 29
noncomputable abbrev vo:Stmt:=top 30
noncomputable abbrev nP:Stmt:=top 31
noncomputable abbrev zdg:Stmt:=top 34
noncomputable abbrev Wy:Stmt:=top 35
noncomputable abbrev Qx:Stmt:=top 36
noncomputable abbrev kY:Stmt:=top 37
noncomputable abbrev zct:Stmt:=top 38
noncomputable abbrev iz:Stmt:=top 39
noncomputable abbrev gJ:Stmt:=top 40
noncomputable abbrev jk:Stmt:=top 42
noncomputable abbrev fX:Stmt:=inClass (top 45) 0
noncomputable abbrev zbr:Stmt:=inClass (top 45) 1
noncomputable abbrev zbu:Stmt:=inClass (top 45) 2
noncomputable abbrev zcd:Stmt:=inClass (top 45) 3
noncomputable abbrev zcw:Stmt:=inClass (top 45) 4
noncomputable abbrev fW:Stmt:=inClass (top 45) 5
noncomputable abbrev zdi:Stmt:=inClass (top 45) 6
noncomputable abbrev WQ:Stmt:=inClass (top 45) 7
noncomputable abbrev zcc:Stmt:=inClass (top 45) 8
noncomputable abbrev zcb:Stmt:=inClass (top 45) 9
noncomputable abbrev ig:Stmt:=top 46
noncomputable abbrev rM:Stmt:=top 47
noncomputable abbrev vm:Stmt:=top 48
noncomputable abbrev WL:Stmt:=top 50
noncomputable abbrev WD:Stmt:=top 51
noncomputable abbrev gK:Stmt:=inClass (top 52) 0
noncomputable abbrev zbv:Stmt:=inClass (top 52) 1
noncomputable abbrev WM:Stmt:=inClass (top 52) 2
noncomputable abbrev RG:Stmt:=inClass (top 52) 3
noncomputable abbrev Qw:Stmt:=inClass (top 52) 4
noncomputable abbrev kW:Stmt:=top 53
noncomputable abbrev rO:Stmt:=top 54
noncomputable abbrev iw:Stmt:=top 56
noncomputable abbrev Qv:Stmt:=top 57
noncomputable abbrev fU:Stmt:=top 58
noncomputable abbrev jm:Stmt:=top 59
noncomputable abbrev zdb:Stmt:=top 60
noncomputable abbrev zda:Stmt:=top 61
noncomputable abbrev zcj:Stmt:=top 62
noncomputable abbrev zby:Stmt:=top 63
noncomputable abbrev o9:Stmt:=top 64
end Hs
namespace Hs
open PySem L2
theorem bw{X:Cx}{b:List Stmt}{R:TS->Prop}(h:let Y:=X;∃t,PSs Y b t/\R t):∃t,PSs X b t/\R t:=h
theorem gU{t1 t2:TS}{D:Ends}{σ:St}{H:Hp}(h:let c2:=t2;tSeq t1 c2 D σ H):(tSeq t1 t2) D σ H:=h
theorem jA{t1 t2 t3:TS}{D:Ends}{σ:St}{H:Hp}(h:let c3:=t3;let c2:=tSeq t2 c3;tSeq t1 c2 D σ H):(tSeq t1 (tSeq t2 t3)) D σ H:=h
theorem yP{t1 t2 t3 t4:TS}{D:Ends}{σ:St}{H:Hp}(h:let c4:=t4;let c3:=tSeq t3 c4;let c2:=tSeq t2 c3;tSeq t1 c2 D σ H):(tSeq t1 (tSeq t2 (tSeq t3 t4))) D σ H:=h
theorem Ks{t1 t2 t3 t4 t5:TS}{D:Ends}{σ:St}{H:Hp}(h:let c5:=t5;let c4:=tSeq t4 c5;let c3:=tSeq t3 c4;let c2:=tSeq t2 c3;tSeq t1 c2 D σ H):(tSeq t1 (tSeq t2 (tSeq t3 (tSeq t4 t5)))) D σ H:=h
theorem YS{t1 t2 t3 t4 t5 t6:TS}{D:Ends}{σ:St}{H:Hp}(h:let c6:=t6;let c5:=tSeq t5 c6;let c4:=tSeq t4 c5;let c3:=tSeq t3 c4;let c2:=tSeq t2 c3;tSeq t1 c2 D σ H):(tSeq t1 (tSeq t2 (tSeq t3 (tSeq t4 (tSeq t5 t6))))) D σ H:=h
theorem YQ{t1 t2 t3 t4 t5 t6 t7 t8:TS}{D:Ends}{σ:St}{H:Hp}(h:let c8:=t8;let c7:=tSeq t7 c8;let c6:=tSeq t6 c7;let c5:=tSeq t5 c6;let c4:=tSeq t4 c5;let c3:=tSeq t3 c4;let c2:=tSeq t2 c3;tSeq t1 c2 D σ H):(tSeq t1 (tSeq t2 (tSeq t3 (tSeq t4 (tSeq t5 (tSeq t6 (tSeq t7 t8))))))) D σ H:=h
theorem Uw{t1 t2 t3 t4 t5 t6 t7 t8 t9 t10:TS}{D:Ends}{σ:St}{H:Hp}(h:let ZJ:=t10;let c9:=tSeq t9 ZJ;let c8:=tSeq t8 c9;let c7:=tSeq t7 c8;let c6:=tSeq t6 c7;let c5:=tSeq t5 c6;let c4:=tSeq t4 c5;let c3:=tSeq t3 c4;let c2:=tSeq t2 c3;tSeq t1 c2 D σ H):(tSeq t1 (tSeq t2 (tSeq t3 (tSeq t4 (tSeq t5 (tSeq t6 (tSeq t7 (tSeq t8 (tSeq t9 t10))))))))) D σ H:=h
end Hs
namespace Hs
open PySem L2 lQ
section
variable{P:ξ}{w:τ}{K:W.Frag}{mg:L4}{base:Heap}
noncomputable def qH(K:W.Frag):Sp:=fun vs H Q _=>∃x d,vs=[x]/\DX K H x d/\Q (.bl (qX d)) H
theorem JF{f:Addr}{fd:ρ}(F:Fun K "is_whole" "is_whole" fV f fd)(mi:mg "isinstance"=none)(mI:mg "int"=none)(mB:mg "bool"=none):FnOk P w K mg base CX0 1 f fd ["thing"] (qH K):=by
 refine F.dG ["thing"] fun cdv A outer s H vs Q E hr h=> ?_;obtain⟨x,d,rfl,hx,q⟩:=h;refine⟨_,bf (cD (pe_and (pB gn mi (aj (pv 0) (aj (pN "int" mI) ao)))
  (pe_one (pe_not (pB gn mi (aj (pv 0) (aj (pN "bool" mB) ao))))))),?_⟩
 refine⟨_,rfl,x,_,_,rfl,hx.kind,.inl rfl,_,rfl,?_⟩;refine ite2 (fun c=> ?_) (fun c=> ?_)
 ·refine⟨_,rfl,x,_,_,rfl,hx.kind,.inr (.inl rfl),_,rfl,?_⟩;cases d<;>first |exact q|(simp[Bq,yJ]at c;done)
 ·cases d<;>first |exact q|(exfalso;exact c rfl)
noncomputable def uX(K:W.Frag):Sp:=fun vs H Q _=>∃(n:Int) (x:V) (d:θ),vs=[.int n,x]/\DX K H x d/\Q (.bl (bU n d)) H
theorem JN{f g:Addr}{fd gd:ρ}(F:Fun K "is_place" "is_place" iy f fd)(D:bQ K mg "is_whole" fV ["thing"] g gd)(G:FnOk P w K mg base CX0 1 g gd ["thing"] (qH K)):FnOk P w K mg base CX0 2 f fd ["n","thing"] (uX K):=by
 refine F.dG ["n","thing"] fun cdv A outer s H vs Q E hr h=> ?_;obtain⟨n,x,d,rfl,hx,q⟩:=h;refine⟨_,bf (cD (pe_and (pe_call G hr rfl D.m D.F.kp D.b .nil pass0 (aj (pv 1) ao)) (pe_one (pe_chain op_le op_lt aL (pv 1) (pv 0))))),?_⟩;refine⟨_,rfl,x,d,rfl,hx,_,rfl,?_⟩;refine ite2 (fun c=> ?_) (fun c=> ?_)
 ·cases hx with
  |int i=>
   refine⟨_,rfl,_,_,rfl,rfl,_,rfl,?_⟩;refine ite2 (fun c2=> ?_) (fun c2=> ?_)
   ·refine⟨_,rfl,_,_,rfl,rfl,?_⟩;have e:bU n (.int i)=decide (i<n):=by show(decide (0<=i)&&decide (i<n))=_;rw[c2];rfl
    rw[e]at q;exact q
   ·have e:bU n (.int i)=false:=by show(decide (0<=i)&&decide (i<n))=_;rw[Bool.eq_false_iff.mpr c2];rfl
    rw[e]at q;exact q
  |_=>simp[qX]at c
 ·have e:bU n d=false:=by
   cases d<;>first |rfl|(exfalso;exact c rfl)
  rw[e]at q;exact q
noncomputable def rH(K:W.Frag):Sp:=fun vs H Q _=>∃(n:Int) (a:Addr) (xs:List V) (ds:List θ),vs=[.int n,.ref a]/\SqT K H a xs/\qQ K H xs ds/\∀H',Same H H'->Q (.bl (ds.all (bU n))) H'
theorem mX{α:Type}(ds:List α)(p:α->Bool):(ds.map p).all id=ds.all p:=by rw[Vt];rfl
theorem Gd{f g:Addr}{fd gd:ρ}(F:Fun K "are_places" "are_places" fB f fd)(D:bQ K mg "is_place" iy ["n","thing"] g gd)(G:FnOk P w K mg base CX0 2 g gd ["n","thing"] (uX K))(mA:mg "all"=none):FnOk P w K mg base CX0 3 f fd ["n","things"] (rH K):=by
 refine F.dG ["n","things"] fun cdv A outer s H vs Q E hr h=> ?_;obtain⟨n,a,xs,ds,rfl,hS,hd,q⟩:=h;refine⟨_,bf (cD (pB (eF rfl) mA (aj (pK ["thing"] ["n"] [0] (Cy (pv 1)) (pG 0) qz (pe_call G hr rfl D.m D.F.kp D.b .nil pass0 (aj (pv 1) (aj (pv 0) ao)))) ao))),?_⟩;refine⟨_,rfl,a,xs,rfl,hS,fun hz=> ?_⟩;have hl:=hd.len;let gO:Nat->List V->St->Hp->Prop:=fun i acc σ H'=>acc=((ds.take i).map (bU n)).map V.bl/\Same H H'/\∃o,σ=[o,some (.int n)];refine LR (xs:=xs) gO ⟨rfl,Same.refl _,_,rfl⟩ (fun i acc σ H' _ p=>p.2.1.tup hS) (fun i acc σ H' hi p=> ?_) hz (fun i x acc σ H' hx p=> ?_) (fun acc σ H' p=> ?_)
 ·rw[p.1];simp;omega
 ·obtain⟨rfl,sm,o,rfl⟩:=p;obtain⟨d,e1,e2⟩:=hd.get hx;refine⟨_,rfl,_,rfl,n,x,d,rfl,DX.same sm e2,?_,sm,_,rfl⟩;rw[CN,e1];simp
 ·intro p1 hp1;obtain⟨rfl,sm,_⟩:=p;refine⟨p1,(ds.map (bU n)),rfl,SqL.of (by rw[aJ,hl,Ae]),?_⟩;rw[mX];exact q _ (sm.trans (aY hp1 _))
noncomputable def Vm(K:W.Frag)(H:Hp)(x y:V)(b:Bool):Prop:=(∃i j,x= .int i/\y= .int j/\b=decide (i<j))\/(∃p q ns ms,x= .ref p/\y= .ref q/\SqT K H p (ns.map V.int)/\SqT K H q (ms.map V.int)/\b=HT.lexLt ns ms)
noncomputable def rG(K:W.Frag):Sp:=fun vs H Q _=>∃(a:Addr) (xs:List V) (bs:Nat->Bool),vs=[.ref a]/\SqT K H a xs/\(∀k,k+1<xs.length->∃x y,xs[k]? =some x/\xs[k+1]? =some y/\Vm K H x y (bs k))/\
 ∀H',Same H H'->Q (.bl ((List.range (xs.length-1)).all bs)) H'
theorem Gb{f:Addr}{fd:ρ}(F:Fun K "is_rising" "is_rising" gA f fd)(mA:mg "all"=none)(mR:mg "range"=none)(mL:mg "len"=none):FnOk P w K mg base CX0 1 f fd ["things"] (rG K):=by
 refine F.dG ["things"] fun cdv A outer s H vs Q E hr h=> ?_;obtain⟨a,xs,bs,rfl,hS,hb,q⟩:=h;refine⟨_,bf (cD (pB (eF rfl) mA (aj (pK ["k"] ["things"] [0] (pi_range2 rfl mR (aj aL (aj (pB lR mL (aj (pv 0) ao)) ao))) (pG 0) qz (Hg (op_lt.or (Oa K hr.units0)) (bA (dU K) (pv 1) (cu op_sub (pv 0) aL)) (bA (dU K) (pv 1) (pv 0)))) ao))),?_⟩;refine⟨_,rfl,a,xs,rfl,.inr hS,fun hz=>⟨1,_,rfl,⟨by omega,by omega,by omega,by omega⟩,?_⟩⟩;have en:((xs.length:Int)-1).toNat=xs.length-1:=by omega
 rw[en];let gO:Nat->List V->St->Hp->Prop:=fun i acc σ H'=>acc=((List.range i).map bs).map V.bl/\Same H H'/\∃o,σ=[o,some (.ref a)];refine CG gO ⟨rfl,Same.refl _,_,rfl⟩ (fun i acc σ H' hi p=>by rw[p.1];simp) (by rw[eX];omega) (fun i acc σ H' hi p=> ?_) (fun acc σ H' p=> ?_)
 ·obtain⟨rfl,sm,o,rfl⟩:=p;obtain⟨x,y,hx,hy,hxy⟩:=hb i (by omega);have e1:(1+(i:Int))-1=((i:Nat):Int):=by omega
  have e2:(1+(i:Int))=((i+1:Nat):Int):=by omega
  have a1:atI xs (1+(i:Int)-1)=some x:=by rw[e1];exact atI_nat hx
  have a2:atI xs (1+(i:Int))=some y:=by rw[e2];exact atI_nat hy
  refine⟨_,rfl,_,rfl,_,_,rfl,rfl,a,xs,_,x,rfl,rfl,sm.tup hS,a1,_,rfl,_,rfl,a,xs,_,y,rfl,rfl,sm.tup hS,a2,?_⟩;have ea:((List.range i).map bs).map V.bl++[V.bl (bs i)]=((List.range (i+1)).map bs).map V.bl:=by rw[wU];simp
  rcases hxy with⟨u,v,rfl,rfl,e⟩|⟨p,p',ns,ms,rfl,rfl,h1,h2,e⟩
  ·refine .inl ⟨u,v,rfl,rfl,?_,sm,_,rfl⟩;show _++[V.bl (decide (u<v))]=_;rw[<-e];exact ea
  ·refine .inr ⟨p,p',ns,ms,rfl,rfl,sm.tup h1,sm.tup h2,?_,sm,_,rfl⟩;show _++[V.bl (HT.lexLt ns ms)]=_;rw[<-e];exact ea
 ·intro p1 hp1;obtain⟨rfl,sm,_⟩:=p;refine⟨p1,(List.range (xs.length-1)).map bs,rfl,SqL.of aJ,?_⟩;rw[mX];exact q _ (sm.trans (aY hp1 _))
theorem ints_of{H:Hp}{n:Int}{xs:List V}{ds:List θ}(h:qQ K H xs ds)(hp:ds.all (bU n)=true):xs=(ds.map intD).map V.int:=by
 induction ds generalizing xs with
 |nil=>cases h;rfl
 |cons d ds ih=>
  rw[List.all_cons,jg]at hp;cases h with
  |cons h t=>
   obtain⟨i,rfl,_⟩:=Bb hp.1;cases h;rw[zW,zW,<-ih t hp.2];rfl
theorem Fv{H:Hp}(ns:List Int):∀k,k+1<(ns.map V.int).length->∃x y,(ns.map V.int)[k]? =some x/\(ns.map V.int)[k+1]? =some y/\Vm K H x y (decide (ns.getD k 0<ns.getD (k+1) 0)):=fun k hk=>by
 rw[aG]at hk;have h1:k<ns.length:=by omega
 refine⟨.int (ns.getD k 0),.int (ns.getD (k+1) 0),by simp[h1],by simp[hk],.inl ⟨_,_,rfl,rfl,rfl⟩⟩
noncomputable def Q9(K:W.Frag):Sp:=fun vs H Q _=>∃(n:Int) (x:V) (d:θ),vs=[.int n,x]/\DX K H x d/\∀H',Same H H'->Q (.bl (vg n d)) H'
theorem TQ{f f1 f2:Addr}{fd d1 d2:ρ}(F:Fun K "is_set" "is_set" rP f fd)(D1:bQ K mg "are_places" fB ["n","things"] f1 d1)(G1:FnOk P w K mg base CX0 3 f1 d1 ["n","things"] (rH K))(D2:bQ K mg "is_rising" gA ["things"] f2 d2)(G2:FnOk P w K mg base CX0 1 f2 d2 ["things"] (rG K))(mi:mg "isinstance"=none)(mT:mg "tuple"=none):FnOk P w K mg base CX0 4 f fd ["n","thing"] (Q9 K):=by
 refine F.dG ["n","thing"] fun cdv A outer s H vs Q E hr h=> ?_;obtain⟨n,x,d,rfl,hx,q⟩:=h;refine⟨_,bf (cD (pe_and (pB gn mi (aj (pv 1) (aj (pN "tuple" mT) ao)))
  (pe_and (pc G1 hr D1 (aj (pv 0) (aj (pv 1) ao))) (pe_one (pc G2 hr D2 (aj (pv 1) ao)))))),?_⟩
 refine⟨_,rfl,x,_,_,rfl,hx.kind,.inr (.inr (.inl rfl)),_,rfl,?_⟩;refine ite2 (fun c=> ?_) (fun c=> ?_)
 ·cases hx with
  | @tup a xs ds h t=>
   refine⟨_,rfl,_,rfl,n,a,xs,ds,rfl,h,t,fun H1 sm=>⟨_,rfl,?_⟩⟩;refine ite2 (fun c2=> ?_) (fun c2=> ?_)
   ·have ex:=ints_of t c2;refine⟨_,rfl,a,xs,fun k=>decide ((ds.map intD).getD k 0<(ds.map intD).getD (k+1) 0),rfl,sm.tup h,?_,fun H2 XJ=> ?_⟩
    ·rw[ex];exact Fv _
    ·have e:vg n (.tuple ds)=(List.range (xs.length-1)).all fun k=>decide ((ds.map intD).getD k 0<(ds.map intD).getD (k+1) 0):=by
      show(ds.all (bU n)&&jr (ds.map intD))=_;rw[c2,t.len];show jr (ds.map intD)=_;unfold jr;rw[aG]
     have:=q H2 (sm.trans XJ);rw[e]at this;exact this
   ·have e:vg n (.tuple ds)=false:=by
     show(ds.all (bU n)&&jr (ds.map intD))=_;rw[Bool.eq_false_iff.mpr c2];rfl
    have:=q H1 sm;rw[e]at this;exact this
  |_=>simp[Bq,yJ]at c
 ·have e:vg n d=false:=by
   cases d<;>first |rfl|(exfalso;exact c rfl)
  have:=q H (Same.refl _);rw[e]at this;exact this
noncomputable def Iu(K:W.Frag):Sp:=fun vs H Q _=>∃(n:Int) (x:V) (d:θ),vs=[.int n,x]/\DX K H x d/\∀H',Same H H'->Q (.bl (rC n d)) H'
theorem CW{H:Hp}{n:Int}{x:V}{d:θ}(h:DX K H x d)(ht:kh n d=true):∃p,x= .ref p/\SqT K H p (((kids d).map intD).map V.int):=by
 cases h with
 | @tup a xs ds h t=>
  have q:(ds.all (bU n)&&jr (ds.map intD)&&decide (ds.length=2))=true:=ht;rw[jg,jg]at q;exact⟨a,rfl,by rw[ints_of t q.1.1]at h;exact h⟩
 |_=>simp[kh,vg]at ht
theorem Ft{H:Hp}{n:Int}{xs:List V}{ds:List θ}(t:qQ K H xs ds)(ha:ds.all (kh n)=true):∀k,k+1<xs.length->∃x y,xs[k]? =some x/\xs[k+1]? =some y/\
  Vm K H x y (HT.lexLt ((ds.map fun t=>(kids t).map intD).getD k []) ((ds.map fun t=>(kids t).map intD).getD (k+1) [])):=fun k hk=>by
 have hl:=t.len;have h1:k<xs.length:=by omega
 obtain⟨d1,e1,x1⟩:=t.get (i:=k) (x:=xs[k]) (by simp[h1]);obtain⟨d2,e2,x2⟩:=t.get (i:=k+1) (x:=xs[k+1]) (by simp[hk]);have m1:=j6.mp ha d1 (qW e1);have m2:=j6.mp ha d2 (qW e2);obtain⟨p1,q1,s1⟩:=CW x1 m1;obtain⟨p2,q2,s2⟩:=CW x2 m2;refine⟨xs[k],xs[k+1],by simp[h1],by simp[hk],.inr ⟨p1,p2,_,_,q1,q2,s1,s2,?_⟩⟩;have g1:(ds.map fun t=>(kids t).map intD).getD k []=(kids d1).map intD:=by rw[iU,cU,e1];rfl
 have g2:(ds.map fun t=>(kids t).map intD).getD (k+1) []=(kids d2).map intD:=by rw[iU,cU,e2];rfl
 rw[g1,g2]
theorem Oe{f f1 f2:Addr}{fd d1 d2:ρ}(F:Fun K "are_ties" "are_ties" kZ f fd)(D1:bQ K mg "is_set" rP ["n","thing"] f1 d1)(G1:FnOk P w K mg base CX0 4 f1 d1 ["n","thing"] (Q9 K))(D2:bQ K mg "is_rising" gA ["things"] f2 d2)(G2:FnOk P w K mg base CX0 1 f2 d2 ["things"] (rG K))(mi:mg "isinstance"=none)(mT:mg "tuple"=none)(mA:mg "all"=none)(mL:mg "len"=none):FnOk P w K mg base CX0 5 f fd ["n","thing"] (Iu K):=by
 refine F.dG ["n","thing"] fun cdv A outer s H vs Q E hr h=> ?_;obtain⟨n,x,d,rfl,hx,q⟩:=h;refine bw ?_;intro Y;refine⟨_,aV (gZ (pt_not (zU (pB gn mi (aj (pv 1) (aj (pN "tuple" mT) ao))))) (bf (cD pe_bl)) iJ) (bf (cD (pe_and (pB (eF rfl) mA (aj (pK ["tie"] ["n"] [0] (Cy (pv 1)) (pG 0) qz (pe_and (pc G1 hr D1 (aj (pv 1) (aj (pv 0) ao))) (pe_one (Hg op_eq (pB (oK K) mL (aj (pv 0) ao)) aL)))) ao))
  (pe_one (pc G2 hr D2 (aj (pv 1) ao)))))),?_⟩
 refine gU ?_;intro c2;refine⟨_,rfl,x,_,_,rfl,hx.kind,.inr (.inr (.inl rfl)),_,rfl,?_⟩;refine ite2 (fun c=> ?_) (fun c=> ?_)
 ·have e:rC n d=false:=by
   cases d<;>first |rfl|(exfalso;simp[Bq,yJ]at c;done)
  have:=q H (Same.refl _);rw[e]at this;exact this
 ·cases hx with
  | @tup a xs ds h t=>
   refine⟨_,rfl,a,xs,rfl,h,fun hz=> ?_⟩;have hl:=t.len;let sZ:Nat->List V->St->Hp->Prop:=fun i acc σ H'=>acc=((ds.take i).map (kh n)).map V.bl/\Same H H'/\∃o,σ=[o,some (.int n)];refine LR (xs:=xs) sZ ⟨rfl,Same.refl _,_,rfl⟩ (fun i acc σ H' _ p=>p.2.1.tup h) (fun i acc σ H' hi p=> ?_) hz (fun i x acc σ H' hx p=> ?_) (fun acc σ H' p=> ?_)
   ·rw[p.1];simp;omega
   ·obtain⟨rfl,sm,o,rfl⟩:=p;obtain⟨d,e1,e2⟩:=t.get hx;refine⟨_,rfl,_,rfl,n,x,d,rfl,DX.same sm e2,fun H1 XM=>⟨_,rfl,?_⟩⟩;have ea:∀b,b=kh n d->((ds.take i).map (kh n)).map V.bl++[V.bl b]=((ds.take (i+1)).map (kh n)).map V.bl:=fun b hb=>by
     rw[CN,e1,hb];simp
    refine ite2 (fun c2=> ?_) (fun c2=> ?_)
    ·cases e2 with
     | @tup a2 xs2 ds2 h2 t2=>
      refine⟨_,rfl,a2,xs2,rfl,.inr (XM.tup (sm.tup h2)),fun hz2=>⟨rfl,ea _ ?_,sm.trans XM,_,rfl⟩⟩;show decide (V.int (xs2.length:Int)=V.int 2)=(vg n (.tuple ds2)&&decide (ds2.length=2));rw[c2,t2.len];by_cases e3:ds2.length=2
      ·rw[e3];rfl
      ·rw[fJ e3,fJ (by intro z;injection z with z;exact e3 (by omega))];rfl
     |_=>simp[vg]at c2
    ·refine⟨ea _ ?_,sm.trans XM,_,rfl⟩;show false=(vg n d&&decide ((kids d).length=2));rw[Bool.eq_false_iff.mpr c2];rfl
   ·intro p1 hp1;obtain⟨rfl,sm,_⟩:=p;have sm':Same H (upd H' p1 (.lst (((ds.take xs.length).map (kh n)).map V.bl))):=sm.trans (aY hp1 _);refine⟨p1,(ds.map (kh n)),rfl,SqL.of (by rw[aJ,hl,Ae]),_,rfl,?_⟩;rw[mX];refine ite2 (fun c2=> ?_) (fun c2=> ?_)
    ·refine⟨_,rfl,a,xs,fun k=>HT.lexLt ((ds.map fun t=>(kids t).map intD).getD k []) ((ds.map fun t=>(kids t).map intD).getD (k+1) []),rfl,sm'.tup h,?_,fun H2 XJ=> ?_⟩
     ·exact Ft (qQ.same sm' t) c2
     ·have e:rC n (.tuple ds)=(List.range (xs.length-1)).all fun k=>HT.lexLt ((ds.map fun t=>(kids t).map intD).getD k []) ((ds.map fun t=>(kids t).map intD).getD (k+1) []):=by
       show(ds.all (kh n)&&jq (ds.map fun t=>(kids t).map intD))=_;rw[c2,hl];show jq (ds.map fun t=>(kids t).map intD)=_;unfold jq;rw[aG]
      have:=q H2 (sm'.trans XJ);rw[e]at this;exact this
    ·have e:rC n (.tuple ds)=false:=by
      show(ds.all (kh n)&&jq (ds.map fun t=>(kids t).map intD))=_;rw[Bool.eq_false_iff.mpr c2];rfl
     have:=q _ sm';rw[e]at this;exact this
  |_=>exfalso;exact c rfl
end
end Hs
namespace lQ
open PySem L2
noncomputable def pairD(p:Int×Int):θ:= .tuple [.int p.1,.int p.2]
noncomputable def Ag(n:Int)(ts:L0):θ:= .tuple [.int n,.tuple (ts.map pairD)]
noncomputable def mY(K:W.Frag)(H:Hp)(a:Addr)(n:Int)(ts:L0):Prop:=∃t rs,SqT K H a [.int n,.ref t]/\SqT K H t rs/\bO K H rs (ts.map pairD)
theorem mY.dv{K:W.Frag}{H:Hp}{a:Addr}{n:Int}{ts:L0}(h:mY K H a n ts):DV K H (.ref a) (Ag n ts):=by
 obtain⟨t,rs,h1,h2,h3⟩:=h;exact .tup h1 (.cons (.int n) (.cons (.tup h2 h3) .nil))
theorem mY.same{K:W.Frag}{H H':Hp}{a:Addr}{n:Int}{ts:L0}(h:mY K H a n ts)(e:Same H H'):mY K H' a n ts:=by
 obtain⟨t,rs,h1,h2,h3⟩:=h;exact⟨t,rs,e.tup h1,e.tup h2,bO.same e h3⟩
noncomputable def ak(ts:L0)(i j:Int):Bool:=decide ((if j<i then j else i,if j>i then j else i)∈ts)
theorem zp(p q:Int×Int):PyData.eqv (pairD p) (pairD q)=decide (p=q):=by
 obtain⟨a,b⟩:=p;obtain⟨c,d⟩:=q;show((a==c)&&((b==d)&&true))=_;rw[pY];simp
theorem ou:∀ts:L0,PyData.canLayAll0 (ts.map pairD)=true
 |[]=>rfl
 |p::ts=>by
  show(PyData.canLay0 (pairD p)&&PyData.canLayAll0 (ts.map pairD))=true;rw[ou ts];rfl
theorem zM(ts:L0)(q:Int×Int):((ts.map pairD).any fun d=>PyData.eqv d (pairD q))=decide (q∈ts):=by
 rw[List.any_map,pY,List.any_eq_true];constructor
 ·rintro⟨p,hp,h⟩;have h':PyData.eqv (pairD p) (pairD q)=true:=h;rw[zp]at h';have e:p=q:=j9 h';subst e;exact dB hp
 ·intro h;refine⟨q,j9 h,?_⟩;show PyData.eqv (pairD q) (pairD q)=true;rw[zp];exact dB rfl
end lQ
namespace Hs
open PySem L2 lQ
section
variable{P:ξ}{w:τ}{K:W.Frag}{mg:L4}{base:Heap}
noncomputable def QZ(K:W.Frag):Sp:=fun vs H Q _=>∃(x:V) (d:θ),vs=[x]/\DX K H x d/\∀H',Same H H'->Q (.bl (uU d)) H'
theorem Tj{f f1 f2:Addr}{fd d1 d2:ρ}{tk:Tok}(F:Fun K "is_web" "is_web" rN f fd)(D1:bQ K mg "is_whole" fV ["thing"] f1 d1)(G1:FnOk P w K mg base CX0 1 f1 d1 ["thing"] (qH K))(D2:bQ K mg "are_ties" kZ ["n","thing"] f2 d2)(G2:FnOk P w K mg base CX0 5 f2 d2 ["n","thing"] (Iu K))(mi:mg "isinstance"=none)(mT:mg "tuple"=none)(mL:mg "len"=none)(mM:mg "MOST_PLACES"=some (.int 10 tk)):FnOk P w K mg base CX0 6 f fd ["thing"] (QZ K):=by
 refine F.dG ["thing","n"] fun cdv A outer s H vs Q E hr h=> ?_;obtain⟨x,d,rfl,hx,q⟩:=h;refine bw ?_;intro Y;refine⟨_,aV (gZ (PW.pt (pw_or (pt_not (zU (pB gn mi (aj (pv 0) (aj (pN "tuple" mT) ao)))))
   (pw_or1 (dW op_ne (pB lR mL (aj (pv 0) ao)) aL)))) (bf (cD pe_bl)) iJ) (aV (pS 1 (bA eG (pv 0) aL)) (bf (cD (pe_and (pc G1 hr D1 (aj (pv 1) ao)) (pe_and (pe_chain op_le op_le aL (pv 1) (pe_glob rfl mM (v:= .int 10) ⟨_,rfl⟩))
   (pe_one (pc G2 hr D2 (aj (pv 1) (aj (bA eG (pv 0) aL) ao))))))))),?_⟩
 refine jA ?_;intro c3 c2;refine⟨_,rfl,x,_,_,rfl,hx.kind,.inr (.inr (.inl rfl)),_,rfl,?_⟩;refine ite2 (fun c=> ?_) (fun c=> ?_)
 ·have e:uU d=false:=by
   cases d<;>first |rfl|(exfalso;simp[Bq,yJ]at c;done)
  have:=q H (Same.refl _);rw[e]at this;exact this
 ·cases hx with
  | @tup a xs ds h t=>
   have hl:=t.len;refine⟨_,rfl,a,xs,rfl,.inr h,fun hz=>⟨rfl,_,rfl,?_⟩⟩;refine ite2 (fun c2=> ?_) (fun c2=> ?_)
   ·have e:uU (.tuple ds)=false:=by
     match ds,hl with
     |[],_=>rfl
     |[_],_=>rfl
     |[_,_],hl=>
      exfalso;have e2:(!decide (V.int (xs.length:Int)=V.int 2))=true:=c2;rw[hl]at e2;simp at e2
     |_::_::_::_,_=>rfl
    have:=q H (Same.refl _);rw[e]at this;exact this
   ·have e2:xs.length=2:=by
     have e2:¬(!decide (V.int (xs.length:Int)=V.int 2))=true:=c2;simp at e2;omega
    cases t with
    |nil=>simp at e2
    |cons h0 t0=>
     cases t0 with
     |nil=>simp at e2
     | @cons x1 Wq xs1 ds1 h1 t1=>
      cases t1 with
      |cons _ _=>simp at e2
      |nil=>
       rename_i x0 Wr;refine⟨_,rfl,a,_,_,x0,rfl,rfl,h,by rfl,?_⟩;refine⟨_,rfl,x0,Wr,rfl,h0,_,rfl,?_⟩;refine ite2 (fun c3=> ?_) (fun c3=> ?_)
       ·cases h0 with
        |int n=>
         refine⟨_,rfl,_,_,rfl,rfl,_,rfl,?_⟩;have fin:∀b,b=uU (.tuple [.int n,Wq])->∀H',Same H H'->Q (.bl b) H':=fun b hb H' sm=>by rw[hb];exact q H' sm
         have wd:uU (.tuple [.int n,Wq])=((decide (0<=n)&&decide (n<=10))&&rC n Wq):=rfl;refine ite2 (fun c4=> ?_) (fun c4=> ?_)
         ·refine⟨_,_,rfl,rfl,_,rfl,?_⟩;refine ite2 (fun c5=> ?_) (fun c5=> ?_)
          ·refine⟨_,rfl,_,rfl,a,_,_,x1,rfl,rfl,h,by rfl,n,x1,Wq,rfl,h1,fun H' sm=>fin _ ?_ H' sm⟩;rw[wd,c4,c5];rfl
          ·refine fin _ ?_ H (Same.refl _);rw[wd,Bool.eq_false_iff.mpr c5,wfl];rfl
         ·refine⟨_,rfl,?_⟩;refine iteF (fin _ ?_ H (Same.refl _));rw[wd,Bool.eq_false_iff.mpr c4];rfl
        |_=>simp[qX]at c3
       ·have e:uU (.tuple [Wr,Wq])=false:=by
         show(qX Wr&&(decide (0<=intD Wr)&&decide (intD Wr<=10))&&rC (intD Wr) Wq)=false;rw[Bool.eq_false_iff.mpr c3];rfl
        have:=q H (Same.refl _);rw[e]at this;exact this
  |_=>exfalso;exact c rfl
noncomputable def cA(K:W.Frag):Sp:=fun vs H Q _=>∃(x:V) (d:θ),vs=[x]/\DX K H x d/\uU d=true/\∀H',Same H H'->Q .non H'
theorem Bg{f f1:Addr}{fd d1:ρ}(F:Fun K "need_web" "need_web" HN f fd)(D1:bQ K mg "is_web" rN ["thing"] f1 d1)(G1:FnOk P w K mg base CX0 6 f1 d1 ["thing"] (QZ K)):FnOk P w K mg base CX0 7 f fd ["thing"] (cA K):=by
 refine F.dG ["thing"] fun cdv A outer s H vs Q E hr h=> ?_;obtain⟨x,d,rfl,hx,hw,q⟩:=h;refine⟨_,bf (gZ (pt_not (zU (pc G1 hr D1 (aj (pv 0) ao)))) pss_never iJ),?_⟩;refine⟨_,rfl,x,d,rfl,hx,fun H' sm=>⟨_,rfl,?_⟩⟩;rw[hw];exact iteF (q H' sm)
noncomputable def xJ(K:W.Frag):Sp:=fun vs H Q _=>∃(a:Addr) (n i j:Int) (ts:L0),vs=[.ref a,.int i,.int j]/\mY K H a n ts/\∀H',Same H H'->Q (.bl (ak ts i j)) H'
theorem Ub{f:Addr}{fd:ρ}(F:Fun K "has_tie" "has_tie" fK f fd)(mi:mg "min"=none)(ma:mg "max"=none):FnOk P w K mg base CX0 1 f fd ["web","one","other"] (xJ K):=by
 refine F.dG ["web","one","other"] fun cdv A outer s H vs Q E hr h=> ?_;obtain⟨a,n,i,j,ts,rfl,hW,q⟩:=h;refine⟨_,bf (cD (Hg (nT hr.units) (qu (aj (pB (call_min2 rfl) mi (aj (pv 1) (aj (pv 2) ao))) (aj (pB (call_max2 rfl) ma (aj (pv 1) (aj (pv 2) ao))) ao)))
  (bA eG (pv 0) aL) (by with_unfolding_all rfl))),?_⟩
 refine⟨_,rfl,_,rfl,_,_,rfl,_,rfl,_,rfl,_,_,rfl,(by show 2<=sizeLine;decide),fun p hp=> ?_⟩;have sm:=aY hp (.tup [.int (if j<i then j else i),.int (if j>i then j else i)]);obtain⟨t,rs,h1,h2,h3⟩:=hW.same sm;refine⟨_,rfl,a,_,_,.ref t,rfl,rfl,h1,rfl,t,rs,_,pairD (if j<i then j else i,if j>i then j else i),rfl,.inr h2,h3,.tup (SqT.of aJ) (.cons (.int _) (.cons (.int _) .nil)),ou ts,rfl,(by show max 0 (max 0 0)+1<=60;decide),?_⟩;rw[zM];exact q _ sm
end
noncomputable def Lk(n:Int)(ts:L0):Prop:=uU (Ag n ts)=true
end Hs
namespace L2
open PySem
noncomputable def aF(t:Addr)(H H':Hp):Prop:=∀b o,b≠t->H b=some o->H' b=some o
theorem aF.refl(t:Addr)(H:Hp):aF t H H:=fun _ _ _ h=>h
theorem aF.trans{t:Addr}{H H1 H2:Hp}(a:aF t H H1)(b:aF t H1 H2):aF t H H2:=fun c o n h=>b c o n (a c o n h)
theorem Same.x{H H':Hp}(h:Same H H')(t:Addr):aF t H H':=fun b o _ e=>h b o e
theorem aF.upd{t:Addr}{H H':Hp}{o:HO}(h:aF t H H'):aF t H (upd H' t o):=fun b u n e=>by rw[cP n];exact h b u n e
noncomputable def qd(K:W.Frag)(H:Hp)(bC:Addr)(ns:List Int):Prop:=(∃o,H bC=some (.frz o (.lst (ns.map V.int))))\/
 ∃(o:Obj) (its:Array ζ) (n:Nat),K.lookup bC=some o/\o.cls= .type "list"/\o.dict=none/\o.data= .seq its n/\its.size<=sizeLine/\Vals (ns.map V.int) its.toList
theorem qd.sq{K:W.Frag}{H:Hp}{bC:Addr}{ns:List Int}(h:qd K H bC ns):SqL K H bC (ns.map V.int):=by
 rcases h with⟨o,h⟩|h
 ·exact .inl (.inr ⟨o,h⟩)
 ·exact .inr h
theorem qd.bL{K:W.Frag}{H H':Hp}{bC t:Addr}{ns:List Int}{zs:List V}(h:qd K H bC ns)(e:aF t H H')(n:H t=some (.lst zs)):qd K H' bC ns:=by
 rcases h with⟨o,h⟩|h
 ·exact .inl ⟨o,e _ _ (ne_of h n (by intro z;cases z)) h⟩
 ·exact .inr h
theorem qd.same{K:W.Frag}{H H':Hp}{bC:Addr}{ns:List Int}(h:qd K H bC ns)(e:Same H H'):qd K H' bC ns:=by
 rcases h with⟨o,h⟩|h
 ·exact .inl ⟨o,e _ _ h⟩
 ·exact .inr h
structure mZ(K:W.Frag)(H:Hp)(tp bC:Addr)(ns:List Int):Prop where
 at_:∃(i r:Int),H tp=some (.lst [.ref bC,.int i,.int r])/\0<=i/\0<=r
 aaM:qd K H bC ns
 len:ns.length<=63
theorem mZ.same{K:W.Frag}{H H':Hp}{tp bC:Addr}{ns:List Int}(h:mZ K H tp bC ns)(e:Same H H'):mZ K H' tp bC ns:=by
 obtain⟨⟨i,r,h1,h2,h3⟩,h4,h5⟩:=h;exact⟨⟨i,r,e _ _ h1,h2,h3⟩,h4.same e,h5⟩
theorem mZ.other{K:W.Frag}{H H':Hp}{tp bC c:Addr}{ns:List Int}{zs:List V}(h:mZ K H tp bC ns)(e:aF c H H')(hc:H c=some (.lst zs))(n:tp≠c):mZ K H' tp bC ns:=by
 obtain⟨⟨i,r,h1,h2,h3⟩,h4,h5⟩:=h;exact⟨⟨i,r,e _ _ n h1,h2,h3⟩,h4.bL e hc,h5⟩
theorem qC:∀ns:List Int,PyData.canLayAll0 (ns.map PyData.int)=true
 |[]=>rfl
 |n::ns=>by
  show(true&&PyData.canLayAll0 (ns.map PyData.int))=true;rw[qC ns];rfl
structure cI(K:W.Frag)(H:Hp)(tp bC:Addr)(ns:List Int)(b:Int):Prop where
 tv:mZ K H tp bC ns
 le:∃(i r:Int),H tp=some (.lst [.ref bC,.int i,.int r])/\i<=b
theorem cI.same{K:W.Frag}{H H':Hp}{tp bC:Addr}{ns:List Int}{b:Int}(h:cI K H tp bC ns b)(e:Same H H'):cI K H' tp bC ns b:=by
 obtain⟨i,r,h1,h2⟩:=h.le;exact⟨h.tv.same e,i,r,e _ _ h1,h2⟩
theorem cI.mono{K:W.Frag}{H:Hp}{tp bC:Addr}{ns:List Int}{b c:Int}(h:cI K H tp bC ns b)(e:b<=c):cI K H tp bC ns c:=by
 obtain⟨i,r,h1,h2⟩:=h.le;exact⟨h.tv,i,r,h1,by omega⟩
theorem cI.other{K:W.Frag}{H H':Hp}{tp bC c:Addr}{ns:List Int}{b:Int}{zs:List V}(h:cI K H tp bC ns b)(e:aF c H H')(hc:H c=some (.lst zs))(n:tp≠c):cI K H' tp bC ns b:=by
 obtain⟨i,r,h1,h2⟩:=h.le;exact⟨h.tv.other e hc n,i,r,e _ _ n h1,h2⟩
theorem cI.lst{K:W.Frag}{H:Hp}{tp bC:Addr}{ns:List Int}{b:Int}(h:cI K H tp bC ns b):∃zs,H tp=some (.lst zs):=by
 obtain⟨i,r,h1,_⟩:=h.le;exact⟨_,h1⟩
theorem dY{H:Hp}{a b:Addr}{o:HO}(h:H a=some o)(n:H b=none):b≠a:=fun e=>by rw[e,h]at n;cases n
theorem aF.free{t:Addr}{H H':Hp}{a:Addr}(e:aF t H H')(n:a≠t)(h:H' a=none):H a=none:=by
 cases q:H a with
 |none=>rfl
 |some o=>rw[e a o n q]at h;cases h
end L2
namespace Hs
open PySem L2 lQ
section
variable{P:ξ}{w:τ}{K:W.Frag}{mg:L4}{base:Heap}
theorem nY(a:Int){b:Int}(h:0<b):0<=a %b:=Int.emod_nonneg _ (by omega)
theorem mod_lt(a:Int){b:Int}(h:0<b):a %b<b:=Int.emod_lt_of_pos _ h
theorem qP{ns:List Int}{k:Int}(h0:0<=k)(h1:k<(ns.length:Int)):∃v:Int,atI (ns.map V.int) k=some (.int v)/\ns[k.toNat]? =some v:=by
 have hk:k.toNat<ns.length:=by omega
 have ek:((k.toNat:Nat):Int)=k:=by omega
 have q:atI (ns.map V.int) ((k.toNat:Nat):Int)=some (.int ns[k.toNat]):=atI_nat (by rw[cU,eO hk];rfl);rw[ek]at q;exact⟨_,q,eO hk⟩
noncomputable def Dq(K:W.Frag):Sp:=fun vs H Q _=>∃(c i:Int),vs=[.int c,.int i]/\0<=i/\i<=1000000000/\∀r,0<=r->Q (.int r) H
theorem JW{f:Addr}{fd:ρ}(F:Fun K "_law_e_stir" "_law_e_stir" iw f fd):
  FnOk P w K mg base CX0 1 f fd ["cell","at"] (Dq K):=by
 refine F.dG ["cell","at","one","two","three"] fun cdv A outer s H vs Q E hr h=> ?_;obtain⟨c,i,rfl,hi0,hi1,q⟩:=h;refine bw ?_;intro Y;refine⟨_,(aV (gZ (dW op_ge (pv 0) (cu op_pow aL aL)) (bf (cD (pv 0))) iJ) (aV (pS 2 (cu op_mod (cu pQ (cu pQ (cu tQ (cu op_mod (pv 0) aL) aL) (cu tQ (pv 1) aL)) aL) aL)) (aV (pS 3 (cu op_mod (cu pQ (cu pQ (cu pQ (cu tQ (pv 2) (pv 2)) (cu tQ (cu tQ aL (pv 1)) (pv 1))) (cu tQ aL (pv 2))) aL) aL)) (aV (pS 4 (cu op_mod (cu pQ (cu pQ (cu pQ (cu tQ (pv 3) (pv 3)) (cu tQ aL (pv 3))) (pv 2)) (pv 1)) aL)) (bf (cD (cu pQ (cu tQ (pv 3) aL) (pv 4)))))))),?_⟩;refine Ks ?_;intro c5 c4 c3 c2;refine⟨_,rfl,_,_,rfl,rfl,⟨by decide,by decide,by decide⟩,_,_,rfl,rfl,_,rfl,?_⟩;refine ite2 (fun c1=> ?_) (fun c1=> ?_)
 ·have c2:(10:Int)^(18:Int).toNat<=c:=j9 c1;have c3:(0:Int)<=10^(18:Int).toNat:=by decide
  exact⟨_,rfl,q c (by omega)⟩
 ·refine⟨_,rfl,_,_,rfl,rfl,(by show(0:Int)<2147483549;decide),_,_,rfl,rfl,.inr ⟨by decide,by decide⟩,_,rfl,_,_,rfl,rfl,.inr ⟨by decide,by decide⟩,_,_,rfl,rfl,_,_,rfl,rfl,_,_,rfl,rfl,(by show(0:Int)<2147483543;decide),?_⟩;generalize hfirst:((fun i j=>V.int (i %j)) _ _:V)=vf;obtain⟨a1,e1,a2,a3⟩:∃a:Int,vf= .int a/\0<=a/\a<2147483543:=⟨_,hfirst.symm,nY _ (by decide),mod_lt _ (by decide)⟩;rw[e1];refine⟨_,rfl,_,rfl,_,_,rfl,rfl,.inl ⟨by omega,by omega⟩,_,rfl,_,_,rfl,rfl,.inl ⟨by decide,by decide⟩,_,rfl,_,_,rfl,rfl,.inr ⟨by omega,by omega⟩,_,_,rfl,rfl,_,rfl,_,_,rfl,rfl,.inl ⟨by decide,by decide⟩,_,_,rfl,rfl,_,_,rfl,rfl,_,_,rfl,rfl,(by show(0:Int)<2147483497;decide),?_⟩;generalize aau:((fun i j=>V.int (i %j)) _ _:V)=vs;obtain⟨b1,f1,b2,b3⟩:∃a:Int,vs= .int a/\0<=a/\a<2147483497:=⟨_,aau.symm,nY _ (by decide),mod_lt _ (by decide)⟩;rw[f1];refine⟨_,rfl,_,rfl,_,_,rfl,rfl,.inl ⟨by omega,by omega⟩,_,rfl,_,_,rfl,rfl,.inl ⟨by decide,by decide⟩,_,_,rfl,rfl,_,rfl,_,_,rfl,rfl,_,rfl,_,_,rfl,rfl,_,_,rfl,rfl,(by show(0:Int)<2147483489;decide),?_⟩;generalize aar:((fun i j=>V.int (i %j)) _ _:V)=vt;obtain⟨c1',g1,c2,c3⟩:∃a:Int,vt= .int a/\0<=a/\a<2147483489:=⟨_,aar.symm,nY _ (by decide),mod_lt _ (by decide)⟩;rw[g1];refine⟨_,rfl,_,_,rfl,rfl,.inr ⟨by decide,by decide⟩,_,rfl,_,_,rfl,rfl,q _ ?_⟩;have:=Ho b2 (show(0:Int)<=2147483489 by decide);omega
noncomputable def rK(K:W.Frag):Sp:=fun vs H Q _=>∃(tp bC:Addr) (ns:List Int) (m b:Int),vs=[.ref tp,.int m]/\cI K H tp bC ns b/\b<=1000000000/\0<m/\m<1000000000000000000000000000000/\
 ∀r H',0<=r->r<m->aF tp H H'->cI K H' tp bC ns (b+1)->Q (.int r) H'
theorem Uc{f f1:Addr}{fd d1:ρ}(F:Fun K "_law_e_dip" "_law_e_dip" Qv f fd)(D1:bQ K mg "_law_e_stir" iw ["cell","at"] f1 d1)(G1:FnOk P w K mg base CX0 1 f1 d1 ["cell","at"] (Dq K))(aK:mg "len"=none):
  FnOk P w K mg base CX0 2 f fd ["cup","many"] (rK K):=by
 refine F.dG ["cup","many","at","cell","found"] fun cdv A outer s H vs Q E hr h=> ?_;obtain⟨tp,bC,ns,m,b,rfl,hC,hb,hm0,hm1,q⟩:=h;refine bw ?_;intro Y;refine⟨_,(aV (gZ (dW op_lt (bA jf (pv 0) aL) (pv 1)) (aV (pS 2 (bA jf (pv 0) aL)) (aV (pS 3 (cu pQ (cu tQ aL (pv 2)) aL)) (aV (gZ (dW op_lt (pv 2) (pB lR aK (aj (bA jf (pv 0) aL) ao))) (bf (pS 3 (bA jf (bA jf (pv 0) aL) (pv 2)))) (bf (gZ (dW op_gt (pB lR aK (aj (bA jf (pv 0) aL) ao)) aL) (bf (pS 3 (cu pQ (cu op_mod (bA jf (bA jf (pv 0) aL) (cu op_mod (cu pQ (cu tQ aL (pv 2)) aL) (pB lR aK (aj (bA jf (pv 0) aL) ao)))) aL) (cu tQ (pv 2) aL)))) iJ))) (aV (ps_asg (cu pQ (pv 2) aL) (pg_sub (pv 0) aL set_list)) (bf (ps_asg (pc G1 hr D1 (aj (pv 3) (aj (pv 2) ao))) (pg_sub (pv 0) aL set_list))))))) iJ) (aV (pS 4 (cu op_mod (bA jf (pv 0) aL) (pv 1))) (aV (ps_asg (cu yh (bA jf (pv 0) aL) (pv 1)) (pg_sub (pv 0) aL set_list)) (bf (cD (pv 4)))))),?_⟩;refine yP ?_;intro c4 c3 c2;obtain⟨⟨⟨i,r,hH,hi,hr0⟩,hS0,h63⟩,i',r',hH',hle⟩:=hC;have ei:i'=i/\r'=r:=by
  rw[hH]at hH';injection hH' with e1
  injection e1 with e2
  injection e2 with _ e3
  injection e3 with e4 e5
  injection e5 with e6 _
  injection e4 with e4
  injection e6 with e6
  exact⟨e4.symm,e6.symm⟩
 obtain⟨rfl,rfl⟩:=ei;have hS:=hS0.sq;refine⟨_,rfl,tp,_,_,.int r',rfl,rfl,SqL.of hH,rfl,_,rfl,_,_,rfl,rfl,_,rfl,?_⟩;refine ite2 (fun c=> ?_) (fun c=> ?_)
 ·refine⟨_,rfl,tp,_,_,.int i',rfl,rfl,SqL.of hH,rfl,?_⟩;refine⟨_,rfl,_,_,rfl,rfl,.inl ⟨by decide,by decide⟩,_,_,rfl,rfl,?_⟩;refine⟨_,rfl,_,rfl,tp,_,_,.ref bC,rfl,rfl,SqL.of hH,rfl,bC,_,rfl,.inl hS,fun hz=>⟨_,_,rfl,rfl,_,rfl,?_⟩⟩;have go:∀r2,0<=r2->∀q',q'=r2/m->
    ((0:Int)<=r2 %m/\r2 %m<m)/\aF tp H (upd (upd (upd H tp (.lst [.ref bC,.int (i'+1),.int r'])) tp (.lst [.ref bC,.int (i'+1),.int r2])) tp (.lst [.ref bC,.int (i'+1),.int q']))/\
    cI K (upd (upd (upd H tp (.lst [.ref bC,.int (i'+1),.int r'])) tp (.lst [.ref bC,.int (i'+1),.int r2])) tp (.lst [.ref bC,.int (i'+1),.int q'])) tp bC ns (b+1):=fun r2 h0 q' hq=>by
   have sx:aF tp H (upd (upd (upd H tp (.lst [.ref bC,.int (i'+1),.int r'])) tp (.lst [.ref bC,.int (i'+1),.int r2])) tp (.lst [.ref bC,.int (i'+1),.int q'])):=(aF.refl _ _).upd.upd.upd;have hq0:0<=q':=by rw[hq];exact wfh h0 (by omega)
   exact⟨⟨nY _ hm0,mod_lt _ hm0⟩,sx,⟨⟨i'+1,q',aJ,by omega,hq0⟩,hS0.bL sx hH,h63⟩,i'+1,q',aJ,by omega⟩
  refine ite2 (fun c2=> ?_) (fun c2=> ?_)
  ·have c3:i'<((ns.map V.int).length:Int):=j9 c2;rw[aG]at c3;obtain⟨v,hx,_⟩:=qP hi c3;refine⟨_,rfl,tp,_,_,.ref bC,rfl,rfl,SqL.of hH,rfl,_,rfl,bC,_,_,_,rfl,rfl,hS,hx,?_⟩;refine⟨_,rfl,_,_,rfl,rfl,_,rfl,tp,_,_,1,rfl,rfl,hH,rfl,?_⟩;refine⟨_,rfl,_,rfl,_,_,rfl,hi,by omega,fun r2 h0=>⟨_,rfl,tp,_,_,2,rfl,rfl,aJ,rfl,?_⟩⟩;obtain⟨⟨g1,g2⟩,g3,g4⟩:=go r2 h0 _ rfl;refine⟨_,rfl,tp,_,_,.int r2,rfl,rfl,SqL.of aJ,rfl,_,rfl,_,_,rfl,rfl,hm0,?_⟩;refine⟨_,rfl,tp,_,_,.int r2,rfl,rfl,SqL.of aJ,rfl,_,rfl,_,_,rfl,rfl,⟨hm0,hm1⟩,_,rfl,tp,_,_,2,rfl,rfl,aJ,rfl,?_⟩;exact⟨_,rfl,q _ _ g1 g2 g3 g4⟩
  ·refine⟨_,rfl,tp,_,_,.ref bC,rfl,rfl,SqL.of hH,rfl,bC,_,rfl,.inl hS,fun hz2=>⟨_,_,rfl,rfl,_,rfl,?_⟩⟩;refine ite2 (fun c4=> ?_) (fun c4=> ?_)
   ·have e3:(0:Int)<((ns.map V.int).length:Int):=j9 c4;have hk1:=nY (5*i'+2) e3;have hk2:=mod_lt (5*i'+2) e3;rw[aG]at hk1 hk2;obtain⟨v,hx,_⟩:=qP hk1 hk2;rw[<-aG (f:=V.int)]at hx;refine⟨_,rfl,tp,_,_,.ref bC,rfl,rfl,SqL.of hH,rfl,_,rfl,_,_,rfl,rfl,.inl ⟨by decide,by decide⟩,_,_,rfl,rfl,_,rfl,tp,_,_,.ref bC,rfl,rfl,SqL.of hH,rfl,bC,_,rfl,.inl hS,fun hz2=>⟨_,_,rfl,rfl,e3,bC,_,_,_,rfl,rfl,hS,hx,?_⟩⟩;refine⟨_,_,rfl,rfl,(by show(0:Int)<777777769;decide),_,rfl,_,_,rfl,rfl,.inr ⟨by decide,by decide⟩,_,_,rfl,rfl,?_⟩;refine⟨_,rfl,_,_,rfl,rfl,_,rfl,tp,_,_,1,rfl,rfl,hH,rfl,?_⟩;refine⟨_,rfl,_,rfl,_,_,rfl,hi,by omega,fun r2 h0=>⟨_,rfl,tp,_,_,2,rfl,rfl,aJ,rfl,?_⟩⟩;obtain⟨⟨g1,g2⟩,g3,g4⟩:=go r2 h0 _ rfl;refine⟨_,rfl,tp,_,_,.int r2,rfl,rfl,SqL.of aJ,rfl,_,rfl,_,_,rfl,rfl,hm0,?_⟩;refine⟨_,rfl,tp,_,_,.int r2,rfl,rfl,SqL.of aJ,rfl,_,rfl,_,_,rfl,rfl,⟨hm0,hm1⟩,_,rfl,tp,_,_,2,rfl,rfl,aJ,rfl,?_⟩;exact⟨_,rfl,q _ _ g1 g2 g3 g4⟩
   ·refine⟨_,rfl,_,_,rfl,rfl,_,rfl,tp,_,_,1,rfl,rfl,hH,rfl,?_⟩;refine⟨_,rfl,_,rfl,_,_,rfl,hi,by omega,fun r2 h0=>⟨_,rfl,tp,_,_,2,rfl,rfl,aJ,rfl,?_⟩⟩;obtain⟨⟨g1,g2⟩,g3,g4⟩:=go r2 h0 _ rfl;refine⟨_,rfl,tp,_,_,.int r2,rfl,rfl,SqL.of aJ,rfl,_,rfl,_,_,rfl,rfl,hm0,?_⟩;refine⟨_,rfl,tp,_,_,.int r2,rfl,rfl,SqL.of aJ,rfl,_,rfl,_,_,rfl,rfl,⟨hm0,hm1⟩,_,rfl,tp,_,_,2,rfl,rfl,aJ,rfl,?_⟩;exact⟨_,rfl,q _ _ g1 g2 g3 g4⟩
 ·refine⟨_,rfl,tp,_,_,.int r',rfl,rfl,SqL.of hH,rfl,_,rfl,_,_,rfl,rfl,hm0,?_⟩;refine⟨_,rfl,tp,_,_,.int r',rfl,rfl,SqL.of hH,rfl,_,rfl,_,_,rfl,rfl,⟨hm0,hm1⟩,_,rfl,tp,_,_,2,rfl,rfl,hH,rfl,?_⟩;have sx:aF tp H (upd H tp (.lst [.ref bC,.int i',.int (r'/m)])):=(aF.refl _ _).upd;have hq0:0<=r'/m:=wfh hr0 (by omega);exact⟨_,rfl,q _ _ (nY _ hm0) (mod_lt _ hm0) sx ⟨⟨⟨i',r'/m,aJ,hi,hq0⟩,hS0.bL sx hH,h63⟩,i',r'/m,aJ,by omega⟩⟩
end
end Hs
namespace L2
open PySem
theorem bO.append{K:W.Frag}{H:Hp}{xs ys:List V}{ds es:List θ}(h:bO K H xs ds)(h':bO K H ys es):bO K H (xs++ys) (ds++es):=
 bO.rec (motive_1:=fun _ _ _=>True) (motive_2:=fun xs ds _=>bO K H (xs++ys) (ds++es)) trivial (fun _=>trivial) (fun _=>trivial) (fun _=>trivial) (fun _ _ _=>trivial) (fun _ _ _=>trivial) (fun _=>trivial) (fun _ _=>trivial) h' (fun h _ _ t=> .cons h t) h
theorem aF.tup{K:W.Frag}{t:Addr}{H H':Hp}{a:Addr}{xs zs:List V}(e:aF t H H')(n:H t=some (.lst zs))(h:SqT K H a xs):SqT K H' a xs:=by
 rcases h with(h|⟨o,h⟩)|h
 ·exact .inl (.inl (e _ _ (ne_of h n (by intro z;cases z)) h))
 ·exact .inl (.inr ⟨o,e _ _ (ne_of h n (by intro z;cases z)) h⟩)
 ·exact .inr h
end L2
namespace lQ
open PySem L2
theorem Vq{K:W.Frag}{t:Addr}{H H':Hp}{zs:List V}(e:aF t H H')(n:H t=some (.lst zs)){rs:List V}{ps:L0}(h:bO K H rs (ps.map pairD)):bO K H' rs (ps.map pairD):=by
 induction ps generalizing rs with
 |nil=>cases h;exact .nil
 |cons p ps ih=>
  cases h with
  |cons h tl=>
   refine .cons ?_ (ih tl);cases h with
   |tup h hd=>
    cases hd with
    |cons a1 t1=>
     cases a1;cases t1 with
     |cons a2 t2=>
      cases a2;cases t2;exact .tup (e.tup n h) (.cons (.int _) (.cons (.int _) .nil))
theorem mY.bL{K:W.Frag}{t:Addr}{H H':Hp}{zs:List V}{a:Addr}{n:Int}{ts:L0}(h:mY K H a n ts)(e:aF t H H')(hn:H t=some (.lst zs)):mY K H' a n ts:=by
 obtain⟨u,rs,h1,h2,h3⟩:=h;exact⟨u,rs,e.tup hn h1,e.tup hn h2,Vq e hn h3⟩
structure Sub(j:Nat)(l:List Int):Prop where
 nd:l.Nodup
 lt:∀i∈l,0<=i/\i<(j:Int)
theorem Qu{α:Type} [DecidableEq α]:∀{l m:List α},l.Nodup->(∀a∈l,a∈m)->l.length<=m.length
 |[],m,_,_=>dw _
 |a::l,m,nd,h=>by
  have ha:=h a cV;have nd':=ur.mp nd;have q:∀b∈l,b∈m.erase a:=fun b hb=>by
   have hne:b≠a:=fun e=>nd'.1 (e▸hb);exact(wdb hne).mpr (h b (dF _ hb))
  have:=Qu nd'.2 q;have e:=wcb ha;have:0<m.length:=VB ha;simp only[pW];omega
theorem Sub.len{j:Nat}{l:List Int}(h:Sub j l):l.length<=j:=by
 have q:=Qu (m:=(List.range j).map fun(k:Nat)=>(k:Int)) h.nd fun i hi=>by
  have:=h.lt i hi;exact fG.mpr ⟨i.toNat,lO.mpr (by omega),by omega⟩
 simpa using q
structure au(n:Int)(ps:L0):Prop where
 nd:ps.Nodup
 lt:∀p∈ps,0<=p.1/\p.1<p.2/\p.2<n
noncomputable def ZP(n:Nat):L0:=((List.range n).map fun(j:Nat)=>(List.range j).map fun(i:Nat)=>((i:Int),(j:Int))).flatten
theorem pairs_len{n:Int}{ps:L0}(h:au n ps)(hn:n<=10):ps.length<=45:=by
 have q:=Qu (m:=ZP 10) h.nd fun p hp=>by
  obtain⟨h0,h1,h2⟩:=h.lt p hp;obtain⟨a,b⟩:=p;dsimp only at h0 h1 h2;refine List.mem_flatten.mpr ⟨(List.range b.toNat).map fun(i:Nat)=>((i:Int),((b.toNat:Nat):Int)),fG.mpr ⟨b.toNat,lO.mpr (by omega),rfl⟩,fG.mpr ⟨a.toNat,lO.mpr (by omega),?_⟩⟩;have e1:((a.toNat:Nat):Int)=a:=by omega
  have e2:((b.toNat:Nat):Int)=b:=by omega
  rw[e1,e2]
 have e:(ZP 10).length=45:=by decide
 omega
noncomputable def mp(l:List Int)(p:Int×Int):Int×Int:=
 (if l.getD p.2.toNat 0<l.getD p.1.toNat 0 then l.getD p.2.toNat 0 else l.getD p.1.toNat 0,if l.getD p.2.toNat 0>l.getD p.1.toNat 0 then l.getD p.2.toNat 0 else l.getD p.1.toNat 0)
noncomputable def pl(p:Int×Int):List Int:=[p.1,p.2]
theorem Tc{p q:Int×Int}(h:pl p=pl q):p=q:=by
 obtain⟨a,b⟩:=p;obtain⟨c,d⟩:=q;unfold pl at h;simp at h;rw[h.1,h.2]
theorem Uq{a b:List Int}(h:HT.lexLt b a=false)(ne:a≠b):HT.lexLt a b=true:=by
 rw[HT.cC]at h⊢;have h1:¬b<a:=V0 h;have h2:a<=b:=List.not_lt.mp h1;refine dB ?_;rcases Classical.em (a<b)with h3|h3
 ·exact h3
 ·exact absurd (List.le_antisymm h2 (List.not_lt.mp h3)) ne
theorem Im{n:Int}{p:Int×Int}(h0:0<=p.1)(h1:p.1<p.2)(h2:p.2<n):kh n (pairD p)=true:=by
 show((bU n (.int p.1)&&(bU n (.int p.2)&&true))&&jr [p.1,p.2]&&decide (([PyData.int p.1,PyData.int p.2]).length=2))=true;have e1:bU n (.int p.1)=true:=by
  show(decide (0<=p.1)&&decide (p.1<n))=true;rw[dB h0,dB (by omega)];rfl
 have e2:bU n (.int p.2)=true:=by
  show(decide (0<=p.2)&&decide (p.2<n))=true;rw[dB (by omega),dB h2];rfl
 have e3:jr [p.1,p.2]=true:=by
  show(decide (p.1<p.2)&&true)=true;rw[dB h1];rfl
 rw[e1,e2,e3];rfl
theorem Ib{n:Int}{ts:L0}(hn0:0<=n)(hn1:n<=10)(h:au n ts)(hs:ts.Pairwise fun p q=>HT.lexLt (pl q) (pl p)=false):uU (Ag n ts)=true:=by
 show(true&&(decide (0<=n)&&decide (n<=10))&&((ts.map pairD).all (kh n)&&jq ((ts.map pairD).map fun t=>(kids t).map intD)))=true;have e1:(ts.map pairD).all (kh n)=true:=by
  rw[Vt,j6];intro p hp;obtain⟨h0,h1,h2⟩:=h.lt p hp;exact Im h0 h1 h2
 have e2:(ts.map pairD).map (fun t=>(kids t).map intD)=ts.map pl:=by rw[tU];rfl
 have e3:jq (ts.map pl)=true:=by
  unfold jq;rw[j6];intro k hk;have hk':k<ts.length-1:=by simpa using hk
  have g1:(ts.map pl).getD k []=pl ts[k]:=by rw[iU,cU,eO (by omega)];rfl
  have g2:(ts.map pl).getD (k+1) []=pl ts[k+1]:=by rw[iU,cU,eO (by omega)];rfl
  rw[g1,g2];refine Uq (List.pairwise_iff_getElem.mp hs k (k+1) (by omega) (by omega) (by omega)) fun e=> ?_;have:=(WY h.nd).mp (Tc e);omega
 rw[dB hn0,dB hn1,e1,e2,e3];rfl
noncomputable def bN(ts:L0)(i j:Int):Bool:=decide ((i,j)∈ts)||decide ((j,i)∈ts)
theorem tied_eq{n:Int}{ts:L0}(h:au n ts)(i j:Int):ak ts i j=bN ts i j:=by
 unfold ak bN;have no:∀{a b:Int},b<=a->decide ((a,b)∈ts)=false:=fun{a b} hab=>fJ fun hm=>by
  have:=(h.lt _ hm).2.1;dsimp only at this;omega
 rcases wcp i j with c|c|c
 ·rw[aq (show¬j<i by omega),aA (show j>i by omega),no (show i<=j by omega),Bool.or_false]
 ·subst c;rw[aq (show¬i<i by omega),Bool.or_self]
  try rw[aq (show¬i>i by omega)]
 ·rw[aA (show j<i by omega),aq (show¬j>i by omega),no (show j<=i by omega),Bool.false_or]
end lQ
namespace Hs
open PySem L2 lQ
noncomputable def sI(p q:Int×Int):Prop:=p.1<q.1\/(p.1=q.1/\p.2<q.2)
theorem sI.trans{p q r:Int×Int}(a:sI p q)(b:sI q r):sI p r:=by
 unfold sI at *;omega
theorem sI.Ms{p:Int×Int}(a:sI p p):False:=by
 unfold sI at a;omega
theorem O9{p q:Int×Int}(h:HT.lexLt (pl p) (pl q)=true):sI p q:=by
 rw[HT.cC]at h;have:=j9 h;unfold pl at this;rw[ydr]at this;rcases this with a|⟨a,b⟩
 ·exact .inl a
 ·rw[ydr]at b;rcases b with b|⟨_,b⟩
  ·exact .inr ⟨a,b⟩
  ·exact absurd b (by simp)
noncomputable def row(so:Int->Int->Bool)(i:Int)(k:Nat):L0:=((List.range k).map fun(t:Nat)=>(i,i+1+(t:Int))).filter fun p=>so p.1 p.2
noncomputable def rows(so:Int->Int->Bool)(m:Int)(i:Nat):L0:=((List.range i).map fun(t:Nat)=>row so (0+(t:Int)) (m-(0+(t:Int)+1)).toNat).flatten
theorem lZ(so:Int->Int->Bool)(i:Int)(k:Nat):row so i (k+1)=row so i k++(if so i (i+1+(k:Int))=true then[(i,i+1+(k:Int))]else[]):=by
 unfold row;rw[wU,bW,Mh];congr 1;show List.filter _ [(i,i+1+(k:Int))]=_;rw[qT];rfl
theorem Mz(so:Int->Int->Bool)(m:Int)(i:Nat):rows so m (i+1)=rows so m i++row so (0+(i:Int)) (m-(0+(i:Int)+1)).toNat:=by
 unfold rows;rw[wU,bW,List.flatten_append];simp
theorem qM{so:Int->Int->Bool}{i:Int}{k:Nat}{p:Int×Int}:p∈row so i k↔p.1=i/\i<p.2/\p.2<i+1+(k:Int)/\so p.1 p.2=true:=by
 unfold row;rw[dO,fG];constructor
 ·rintro⟨⟨t,ht,rfl⟩,h⟩;rw[lO]at ht;exact⟨rfl,by show i<i+1+(t:Int);omega,by show i+1+(t:Int)<_;omega,h⟩
 ·rintro⟨h1,h2,h3,h4⟩;refine⟨⟨(p.2-i-1).toNat,by rw[lO];omega,?_⟩,h4⟩;apply Ht
  ·exact h1.symm
  ·show i+1+(((p.2-i-1).toNat:Nat):Int)=p.2;omega
theorem dZ{so:Int->Int->Bool}{m:Int}:∀{i:Nat} {p:Int×Int},p∈rows so m i↔0<=p.1/\p.1<(i:Int)/\p.1<p.2/\p.2<m/\so p.1 p.2=true
 |0,p=>by
  constructor
  ·intro h;simp[rows]at h
  ·intro h;omega
 |i+1,p=>by
  rw[Mz,pU,dZ (i:=i),qM];constructor
  ·rintro(h|h)
   ·exact⟨h.1,by omega,h.2.2⟩
   ·exact⟨by omega,by omega,by omega,by omega,h.2.2.2⟩
  ·rintro⟨h1,h2,h3,h4,h5⟩;by_cases e:p.1<(i:Int)
   ·exact .inl ⟨h1,e,h3,h4,h5⟩
   ·exact .inr ⟨by omega,by omega,by omega,h5⟩
theorem rQ(so:Int->Int->Bool)(i:Int)(k:Nat):(row so i k).Pairwise sI:=by
 unfold row;refine Xx _ ?_;rw[zZ];exact Vz.imp fun h=> .inr ⟨rfl,by show i+1+_<i+1+_;omega⟩
theorem Vr(so:Int->Int->Bool)(m:Int):∀i:Nat,(rows so m i).Pairwise sI
 |0=>by unfold rows;exact List.Pairwise.nil
 |i+1=>by
  rw[Mz,yea];refine⟨Vr so m i,rQ so _ _,fun p hp q hq=> ?_⟩;rw[dZ]at hp;rw[qM]at hq;exact .inl (by omega)
theorem vA{so:Int->Int->Bool}{m:Int}{i:Nat}:au m (rows so m i):=
 ⟨(Vr so m i).imp fun h e=>by subst e;exact sI.Ms h,fun p hp=>by rw[dZ]at hp;exact⟨hp.1,hp.2.2.1,hp.2.2.2.1⟩⟩
theorem uI{l:L0}(h:l.Pairwise sI):l.Nodup:=h.imp fun h e=>by subst e;exact sI.Ms h
end Hs
namespace L2
open PySem
theorem bO.get'{K:W.Frag}{H:Hp}:∀{xs:List V} {ds:List θ} {i:Nat},bO K H xs ds->i<ds.length->∃x d,xs[i]? =some x/\ds[i]? =some d/\DV K H x d
 |_,_,i,.nil,h=>by simp at h
 |_,_,0,.cons h _,_=>⟨_,_,rfl,rfl,h⟩
 |_,_,i+1,.cons _ t,h=>by
  obtain⟨x,d,h1,h2,h3⟩:=bO.get' (i:=i) t (by simpa using h);exact⟨x,d,by simpa using h1,by simpa using h2,h3⟩
end L2
namespace Hs
open PySem L2 lQ
structure aZ(K:W.Frag)(H:Hp)(a:Addr)(n:Int)(ts:L0):Prop where
 web:mY K H a n ts
 h0:0<=n
 h1:n<=10
 pk:au n ts
 ok:Lk n ts
theorem aZ.same{K:W.Frag}{H H':Hp}{a:Addr}{n:Int}{ts:L0}(h:aZ K H a n ts)(e:Same H H'):aZ K H' a n ts:=⟨h.web.same e,h.h0,h.h1,h.pk,h.ok⟩
theorem aZ.bL{K:W.Frag}{H H':Hp}{t a:Addr}{zs:List V}{n:Int}{ts:L0}(h:aZ K H a n ts)(e:aF t H H')(hn:H t=some (.lst zs)):aZ K H' a n ts:=⟨h.web.bL e hn,h.h0,h.h1,h.pk,h.ok⟩
theorem aZ.len{K:W.Frag}{H:Hp}{a:Addr}{n:Int}{ts:L0}(h:aZ K H a n ts):ts.length<=45:=pairs_len h.pk h.h1
noncomputable def tt(_ _:Int):Bool:=true
theorem Oz{p q:Int×Int}(h:sI p q):HT.lexLt (pl q) (pl p)=false:=by
 rw[HT.cC];refine fJ fun z=> ?_;have:sI q p:=O9 (by rw[HT.cC];exact dB z);exact sI.Ms (h.trans this)
theorem j8{n:Int}{ts:L0}{i:Nat}(h0:0<=n)(h1:n<=10)(h:ts.Sublist (rows tt n i)):au n ts/\Lk n ts:=by
 have hs:ts.Pairwise sI:=(Vr tt n i).sublist h;have ho:au n ts:=⟨uI hs,fun p hp=>(vA (so:=tt) (m:=n) (i:=i)).lt p (h.subset hp)⟩;exact⟨ho,Ib h0 h1 ho (hs.imp Oz)⟩
theorem qL{K:W.Frag}{H:Hp}{rs:List V}{ps:L0}{i:Nat}{x:V}(h:bO K H rs (ps.map pairD))(hx:rs[i]? =some x):∃(t:Addr) (hi:i<ps.length),x= .ref t/\SqT K H t [.int (ps[i]).1,.int (ps[i]).2]:=by
 have hlen:=h.len;rw[aG]at hlen;have hi:i<ps.length:=by rw[<-hlen];exact(lV.mp hx).1
 obtain⟨x',d,e1,e2,e3⟩:=bO.get' (i:=i) h (by rw[aG];exact hi);rw[hx]at e1;cases e1;rw[cU,eO hi]at e2;cases e2;cases e3 with
 |tup hp tp=>
  cases tp with
  |cons ta tb=>
   cases tb with
   |cons tc td=>
    cases td;cases ta;cases tc;exact⟨_,hi,rfl,hp⟩
theorem Lh{xs:List Int}{i:Int}(h0:0<=i)(h1:i<(xs.length:Int)):atI (xs.map V.int) i=some (.int (xs.getD i.toNat 0)):=by
 have hk:i.toNat<xs.length:=by omega
 have ek:((i.toNat:Nat):Int)=i:=by omega
 have q:atI (xs.map V.int) ((i.toNat:Nat):Int)=some (.int (xs.getD i.toNat 0)):=atI_nat (by rw[cU,eO hk,iU,eO hk];rfl);rw[ek]at q;exact q
noncomputable def gH(K:W.Frag)(H:Hp)(l:Addr)(R:L0)(P:Int×Int->Prop):Prop:=∃(rs:List V) (ts:L0),H l=some (.lst rs)/\bO K H rs (ts.map pairD)/\ts.Sublist R/\∀p∈ts,P p
theorem gH.nil{K:W.Frag}{H:Hp}{l:Addr}{R:L0}{P:Int×Int->Prop}(h:H l=some (.lst [])):gH K H l R P:=⟨[],[],h,.nil,List.nil_sublist _,fun p hp=>(nomatch hp)⟩
theorem gH.step{K:W.Frag}{H H':Hp}{l c:Addr}{R:L0}{P:Int×Int->Prop}{zs:List V}(h:gH K H l R P)(e:aF c H H')(hc:H c=some (.lst zs))(n:l≠c):gH K H' l R P:=by
 obtain⟨rs,ts,h1,h2,h3⟩:=h;exact⟨rs,ts,e _ _ n h1,Vq e hc h2,h3⟩
theorem gH.mono{K:W.Frag}{H:Hp}{l:Addr}{R R':L0}{P:Int×Int->Prop}(h:gH K H l R P)(e:R.Sublist R'):gH K H l R' P:=by
 obtain⟨rs,ts,h1,h2,h3,h4⟩:=h;exact⟨rs,ts,h1,h2,h3.trans e,h4⟩
theorem gH.push{K:W.Frag}{H:Hp}{l p:Addr}{R:L0}{P:Int×Int->Prop}{i j:Int}{rs:List V}{ts:L0}(h1:H l=some (.lst rs))(h2:bO K H rs (ts.map pairD))(h3:ts.Sublist R)(h4:∀p∈ts,P p)(hp:SqT K H p [.int i,.int j])(hP:P (i,j)):gH K (upd H l (.lst (rs++[.ref p]))) l (R++[(i,j)]) P:=by
 have x:aF l H (upd H l (.lst (rs++[.ref p]))):=(aF.refl _ _).upd;refine⟨_,ts++[(i,j)],aJ,?_,h3.append (List.Sublist.refl _),fun q hq=> ?_⟩
 ·rw[bW];exact(Vq x h1 h2).append (.cons (.tup (x.tup h1 hp) (.cons (.int _) (.cons (.int _) .nil))) .nil)
 ·rcases pU.mp hq with q'|q'
  ·exact h4 q q'
  ·rw[fO.mp q'];exact hP
theorem sub_len{n:Int}{ts:L0}{i k:Nat}(h1:n<=10)(hk:0+(i:Int)+1+(k:Int)<=n)(h:ts.Sublist (rows tt n i++row tt (0+(i:Int)) k)):ts.length<=45:=by
 refine pairs_len (n:=n) ⟨?_,fun p hp=> ?_⟩ h1
 ·refine uI (List.Pairwise.sublist h ?_);rw[yea];refine⟨Vr _ _ _,rQ _ _ _,fun p hp q hq=> ?_⟩;rw[dZ]at hp;rw[qM]at hq;exact .inl (by omega)
 ·rcases pU.mp (h.subset hp)with q|q
  ·rw[dZ]at q;exact⟨q.1,q.2.2.1,q.2.2.2.1⟩
  ·rw[qM]at q;exact⟨by omega,by omega,by omega⟩
section
variable{P:ξ}{w:τ}{K:W.Frag}{mg:L4}{base:Heap}
noncomputable def Dh(K:W.Frag):Sp:=fun vs H Q _=>∃(cp bC:Addr) (ns:List Int) (n b:Int),vs=[.ref cp,.int n]/\cI K H cp bC ns b/\b<=900000000/\0<=n/\n<=10/\
 ∀r ts H',aF cp H H'->cI K H' cp bC ns (b+120)->aZ K H' r n ts->Q (.ref r) H'
theorem JG{f f1:Addr}{fd d1:ρ}(F:Fun K "_law_e_web_of" "_law_e_web_of" fU f fd)(D1:bQ K mg "_law_e_dip" Qv ["cup","many"] f1 d1)(G1:FnOk P w K mg base CX0 2 f1 d1 ["cup","many"] (rK K))(aB:mg "range"=none)(aX:mg "tuple"=none):
  FnOk P w K mg base CX0 3 f fd ["cup","n"] (Dh K):=by
 refine F.dG ["cup","n","often","ties","i","j"] fun cdv A outer s H vs Q E hr h=> ?_;obtain⟨cp,bC,ns,n,b,rfl,hC,hb,hn0,hn1,q⟩:=h;refine⟨_,(aV (pS 2 (pc G1 hr D1 (aj (pv 0) (aj aL ao)))) (aV (pS 3 (Ad ao)) (aV (ps_for Aa rfl (wQ rfl aB (aj (pv 1) ao)) (pG 4) (bf (ps_for Aa rfl (pi_range2 rfl aB (aj (cu pQ (pv 4) aL) (aj (pv 1) ao))) (pG 5) (bf (gZ (dW op_lt (pc G1 hr D1 (aj (pv 0) (aj aL ao))) (pv 2)) (bf (qR (pe_bm Hv V3 V2 mt_append (pv 3) (aj (qu (aj (pv 4) (aj (pv 5) ao))) ao)))) iJ))))) (bf (cD (qu (aj (pv 1) (aj (pT Hi aX (aj (pv 3) ao)) ao)))))))),?_⟩;refine⟨_,rfl,cp,bC,ns,7,b,rfl,hC,by omega,by decide,by decide,fun o H1 ho0 ho1 x1 c1=> ?_⟩;refine⟨(by show 0<=sizeLine;decide),fun tl htl=> ?_⟩;obtain⟨zs,hz⟩:=c1.lst;have s2:=aY htl (.lst []);have Wa:tl≠cp:=dY hz htl;have tl0:H tl=none:=x1.free Wa htl;refine⟨_,rfl,n,rfl,by omega,by omega,?_⟩;refine Mx (n:=n.toNat) (fun i σ H'=>aF cp H H'/\cI K H' cp bC ns (b+1+10*(i:Int))/\gH K H' tl (rows tt n i) (fun _=>True)/\∃a4 a5,σ=[some (.ref cp),some (.int n),some (.int o),some (.ref tl),a4,a5])
  ⟨x1.trans (s2.x _),(c1.same s2).mono (by omega),gH.nil aJ,_,_,rfl⟩ (fun i σ H' hi p=> ?_) (fun σ H' p=> ?_)
 ·obtain⟨x,c,tl1,a4,a5,rfl⟩:=p;refine⟨_,rfl,_,_,rfl,rfl,_,rfl,_,_,rfl,⟨by omega,by omega,by omega,by omega⟩,?_⟩;refine Mx (n:=(n-(0+(i:Int)+1)).toNat) (fun k σ H'=>aF cp H H'/\cI K H' cp bC ns (b+1+10*(i:Int)+(k:Int))/\gH K H' tl (rows tt n i++row tt (0+(i:Int)) k) (fun _=>True)/\∃a5,σ=[some (.ref cp),some (.int n),some (.int o),some (.ref tl),some (.int (0+(i:Int))),a5])
   ⟨x,c.mono (by omega),by rw[show row tt (0+(i:Int)) 0=[]from rfl,tL];exact tl1,_,rfl⟩ (fun k σ H' hk p=> ?_) (fun σ H' p=> ?_)
  ·obtain⟨x,c,tl1,a5,rfl⟩:=p;refine⟨_,rfl,cp,bC,ns,6,_,rfl,c,by omega,by decide,by decide,fun d H2 hd0 hd1 x2 c2=>⟨_,rfl,_,_,rfl,rfl,_,rfl,?_⟩⟩;obtain⟨zs,hz⟩:=c.lst;have tl2:=tl1.step x2 hz Wa;have er:rows tt n i++row tt (0+(i:Int)) (k+1)=(rows tt n i++row tt (0+(i:Int)) k)++[(0+(i:Int),0+(i:Int)+1+(k:Int))]:=by rw[lZ,aA (show tt _ _=true from rfl),HS]
   have ec:b+1+10*(i:Int)+((k+1:Nat):Int)=b+1+10*(i:Int)+(k:Int)+1:=by omega
   rw[er,ec];refine ite2 (fun cc=> ?_) (fun cc=> ?_)
   ·obtain⟨rs,ts,h1,h2,h3,h4⟩:=tl2;have hl:=sub_len hn1 (by omega) h3;have hrl:=h2.len;rw[aG]at hrl;refine⟨_,rfl,.inl ⟨rfl,_,SqL.of h1⟩,_,rfl,_,rfl,(by show 2<=sizeLine;decide),fun p hp=> ?_⟩;have s3:=aY hp (.tup [.int (0+(i:Int)),.int (0+(i:Int)+1+(k:Int))]);refine⟨tl,rs,_,rfl,rfl,s3 _ _ h1,(by rw[eX];omega),?_⟩;have xw:aF tl (upd H2 p (.tup [.int (0+(i:Int)),.int (0+(i:Int)+1+(k:Int))])) (upd (upd H2 p (.tup [.int (0+(i:Int)),.int (0+(i:Int)+1+(k:Int))])) tl (.lst (rs++[.ref p]))):=(aF.refl _ _).upd;refine⟨fun q o hq e=> ?_,(c2.same s3).other xw (s3 _ _ h1) Wa.symm,gH.push (s3 _ _ h1) (h2.same s3) h3 h4 (SqT.of aJ) trivial,_,rfl⟩;have nq:q≠tl:=fun z=>by rw[z,tl0]at e;cases e
    exact xw _ _ nq (s3 _ _ (x2 _ _ hq (x _ _ hq e)))
   ·exact⟨x.trans x2,c2,tl2.mono (List.sublist_append_left _ _),_,rfl⟩
  ·obtain⟨x,c,tl1,a5,rfl⟩:=p;rw[<-Mz]at tl1;exact⟨x,c.mono (by omega),tl1,_,_,rfl⟩
 ·obtain⟨x,c,⟨rs,ts,h1,h2,h3,h4⟩,a4,a5,rfl⟩:=p;refine⟨_,rfl,_,rfl,tl,rs,rfl,.inl ⟨SqL.of h1,fun t ht=>⟨(by show 2<=sizeLine;decide),fun wb YB=> ?_⟩⟩⟩;have s3:=aY ht (.tup rs);have s4:=aY YB (.tup [.int n,.ref t]);have Rh:=s3.trans s4;obtain⟨g1,g2⟩:=j8 hn0 hn1 h3;exact q wb ts _ (x.trans (Rh.x _)) ((c.same Rh).mono (by omega)) ⟨⟨t,rs,SqT.of aJ,SqT.of (s4 _ _ aJ),h2.same Rh⟩,hn0,hn1,g1,g2⟩
structure aaH(K:W.Frag)(H:Hp)(l:Addr)(ps:L0):Prop where
 ex:∃rs,H l=some (.lst rs)/\bO K H rs (ps.map pairD)
noncomputable def Je(K:W.Frag):Sp:=fun vs H Q _=>∃(n:Int),vs=[.int n]/\0<=n/\n<=10/\∀l H',Same H H'->aaH K H' l (rows tt n n.toNat)->Q (.ref l) H'
theorem Ot{f:Addr}{fd:ρ}(F:Fun K "pairs" "pairs" vq f fd)(mR:mg "range"=none):FnOk P w K mg base CX0 1 f fd ["n"] (Je K):=by
 refine F.dG ["n","found","one"] fun cdv A outer s H vs Q E hr h=> ?_;obtain⟨n,rfl,hn0,hn1,q⟩:=h;refine bw ?_;intro Y;refine⟨_,aV (pS 1 (Ad ao)) (aV (ps_for Aa rfl (wQ rfl mR (aj (pv 0) ao)) (pG 2) (bf (qR (pe_bm Hv weh wei mt_extend (pv 1) (aj
    (pK ["other"] ["one"] [2] (pi_range2 rfl mR (aj (cu pQ (pv 2) aL) (aj (pv 0) ao))) (pG 0) qz (qu (aj (pv 1) (aj (pv 0) ao)))) ao))))) (bf (cD (pv 1)))),?_⟩
 refine jA ?_;intro c3 c2;refine⟨(by show 0<=sizeLine;decide),fun l hl=> ?_⟩;refine⟨_,rfl,n,rfl,by omega,by omega,?_⟩;let gO:Nat->St->Hp->Prop:=fun i σ H'=>Same H H'/\(∃rs,H' l=some (.lst rs)/\bO K H' rs ((rows tt n i).map pairD))/\∃o,σ=[some (.int n),some (.ref l),o];refine Mx (n:=n.toNat) gO ⟨aY hl _,⟨[],aJ,.nil⟩,_,rfl⟩ (fun i σ H' hi p=> ?_) (fun σ H' p=> ?_)
 ·obtain⟨sm,⟨rs,hr1,hr2⟩,o,rfl⟩:=p;have hlen:=hr2.len;rw[aG]at hlen;have h45:=pairs_len (vA (so:=tt) (m:=n) (i:=i)) hn1;refine⟨_,rfl,.inl ⟨rfl,_,SqL.of hr1⟩,_,rfl,_,_,rfl,rfl,_,rfl,_,_,rfl,⟨by omega,by omega,by omega,by omega⟩,?_⟩;let sZ:Nat->List V->St->Hp->Prop:=fun k acc σ H2=>Same H' H2/\acc.length=k/\bO K H2 acc ((row tt (0+(i:Int)) k).map pairD)/\∃o1,σ=[o1,some (.int (0+(i:Int)))];refine CG (n:=(n-(0+(i:Int)+1)).toNat) sZ ⟨Same.refl _,rfl,.nil,_,rfl⟩ (fun k acc σ H2 hk p=>by rw[p.2.1];exact aN _) (by rw[eX];omega) (fun k acc σ H2 hk p=> ?_) (fun acc σ H2 p=> ?_)
  ·obtain⟨s2,hl2,hd,o1,rfl⟩:=p;refine⟨_,rfl,_,rfl,(by show 2<=sizeLine;decide),fun p hp=> ?_⟩;have s3:=aY hp (.tup [.int (0+(i:Int)),.int (0+(i:Int)+1+(k:Int))]);refine⟨s2.trans s3,by rw[g8,hl2];rfl,?_,_,rfl⟩;rw[lZ,bW,aA (show tt (0+(i:Int)) (0+(i:Int)+1+(k:Int))=true from rfl)];exact(hd.same s3).append (.cons (.tup (SqT.of aJ) (.cons (.int _) (.cons (.int _) .nil))) .nil)
  ·intro p1 hp1;obtain⟨s2,hl2,hd,_⟩:=p;have s3:=aY hp1 (.lst acc);have hr3:=s3 _ _ (s2 _ _ hr1);refine⟨l,p1,rs,acc,rfl,rfl,hr3,aJ,?_,?_⟩
   ·rw[eX];omega
   ·have x4:aF l (upd H2 p1 (.lst acc)) (upd (upd H2 p1 (.lst acc)) l (.lst (rs++acc))):=(aF.refl _ _).upd;refine⟨?_,⟨_,aJ,?_⟩,_,rfl⟩
    ·intro b o hb;have nb:b≠l:=fun e=>by rw[e,hl]at hb;cases hb
     exact x4 _ _ nb (s3 _ _ (s2 _ _ (sm _ _ hb)))
    ·rw[Mz];exact Vq x4 hr3 (by rw[bW];exact((hr2.same s2).same s3).append (hd.same s3))
 ·obtain⟨sm,⟨rs,hr1,hr2⟩,o,rfl⟩:=p;exact⟨_,rfl,q l _ sm ⟨rs,hr1,hr2⟩⟩
end
end Hs
namespace Hs
noncomputable def ff:Nat->Nat
 |0=>1
 |1=>1
 |2=>2
 |3=>3
 |4=>4
 |5=>6
 |6=>9
 |7=>12
 |8=>18
 |9=>27
 |_=>36
theorem v9:∀m n:Nat,m<=n->n<=10->ff m<=ff n:=by
 have h:∀n:Fin 11,∀m:Fin 11,m.val<=n.val->ff m.val<=ff n.val:=by decide
 intro m n hm hn;exact h ⟨n,by omega⟩ ⟨m,by omega⟩ hm
theorem Qc:∀n d:Nat,0<d->d<=n->n<=10->d*ff (n-d)<=ff n:=by
 have h:∀n:Fin 11,∀d:Fin 11,0<d.val->d.val<=n.val->d.val*ff (n.val-d.val)<=ff n.val:=by decide
 intro n d h0 hd hn;exact h ⟨n,by omega⟩ ⟨d,by omega⟩ h0 hd
structure Full(r:Int->Int->Bool)(V:List Int)(s:List Int):Prop where
 up:s.Pairwise (· < ·)
 sub:∀x∈s,x∈V
 ind:∀x∈s,∀y∈s,x≠y->r x y=false
 max:∀v∈V,v∉s->∃x∈s,r x v=true
theorem yI(g:Int->Nat):∀V:List Int,V≠[]->∃v∈V,∀u∈V,g v<=g u
 |[],h=>absurd rfl h
 |[x],_=>⟨x,by simp,fun u hu=>by rw[fO.mp hu];exact aN _⟩
 |x::y::V,_=>by
  obtain⟨v,hv,hm⟩:=yI g (y::V) (by simp);by_cases c:g x<=g v
  ·refine⟨x,by simp,fun u hu=> ?_⟩;rcases cQ.mp hu with e|e
   ·rw[e];exact aN _
   ·exact eN c (hm u e)
  ·refine⟨v,dF _ hv,fun u hu=> ?_⟩;rcases cQ.mp hu with e|e
   ·rw[e];omega
   ·exact hm u e
theorem lC{α:Type}(p:α->Bool):∀l:List α,(l.filter p).length+(l.filter fun x=> !p x).length=l.length
 |[]=>rfl
 |x::l=>by
  have ih:=lC p l;rw[qT,qT];cases p x<;>simp <;>omega
theorem uR{α β:Type}(p:β->α->Bool)(m:Nat):∀(us:List β) (fs:List α),(∀s∈fs,∃u∈us,p u s=true)->(∀u∈us,∀gs:List α,gs.Sublist fs->(∀s∈gs,p u s=true)->gs.length<=m)->fs.length<=us.length*m
 |[],fs,h,_=>by
  cases fs with
  |nil=>simp
  |cons s fs=>obtain⟨u,hu,_⟩:=h s (by simp);cases hu
 |u::us,fs,h,hm=>by
  have e:=lC (p u) fs;have a:=hm u (by simp) (fs.filter (p u)) yef (fun s hs=>(dO.mp hs).2);have b:=uR p m us (fs.filter fun x=> !p u x) (fun s hs=>by
   obtain⟨h1,h2⟩:=dO.mp hs;obtain⟨w,hw,hp⟩:=h s h1;rcases cQ.mp hw with z|z
   ·rw[z]at hp;rw[hp]at h2;cases h2
   ·exact⟨w,z,hp⟩) (fun w hw gs hg hp=>hm w (dF _ hw) gs (hg.trans yef) hp)
  rw[pW,wfr];omega
theorem CV:∀{xs ys:List Int},xs.Pairwise (· < ·)->ys.Pairwise (· < ·)->(∀k,k∈xs↔k∈ys)->xs=ys
 |[],[],_,_,_=>rfl
 |[],y::ys,_,_,h=>by have:=(h y).mpr (by simp);simp at this
 |x::xs,[],_,_,h=>by have:=(h x).mp (by simp);simp at this
 |x::xs,y::ys,hx,hy,h=>by
  rw[Xg]at hx hy;have e:x=y:=by
   have a:=(h x).mp (by simp);have b:=(h y).mpr (by simp);rcases cQ.mp a with a|a
   ·exact a
   ·rcases cQ.mp b with b|b
    ·exact b.symm
    ·have:=hy.1 x a;have:=hx.1 y b;omega
  subst e;rw[CV hx.2 hy.2 fun k=> ?_];constructor
  ·intro hk;rcases cQ.mp ((h k).mp (dF _ hk))with a|a
   ·have:=hx.1 k hk;omega
   ·exact a
  ·intro hk;rcases cQ.mp ((h k).mpr (dF _ hk))with a|a
   ·have:=hy.1 k hk;omega
   ·exact a
theorem nZ{α β:Type}{g:α->β}:∀{l:List α},l.Nodup->(∀a∈l,∀b∈l,g a=g b->a=b)->(l.map g).Nodup
 |[],_,_=>wfm
 |a::l,h,hi=>by
  rw[ur]at h;rw[zW,ur];refine⟨fun hm=> ?_,nZ h.2 fun x hx y hy=>hi x (dF _ hx) y (dF _ hy)⟩;obtain⟨b,hb,e⟩:=fG.mp hm;have:=hi b (dF _ hb) a (by simp) e;rw[this]at hb;exact h.1 hb
noncomputable def bY(r:Int->Int->Bool)(v u:Int):Bool:=decide (u=v)||r u v
theorem Bu{r:Int->Int->Bool}(sym:∀i j,r i j=r j i):∀(n:Nat) (V:List Int),V.length=n->n<=10->∀fs:List (List Int),fs.Nodup->(∀s∈fs,Full r V s)->fs.length<=ff n:=by
 intro n
 induction n using Nat.strongRecOn with
 |ind n ih=>
  intro V hV hn fs nd hf;by_cases hz:V=[]
  ·have e:∀s∈fs,s=[]:=fun s hs=>by
    cases s with
    |nil=>rfl
    |cons x s=>have:=(hf _ hs).sub x (by simp);rw[hz]at this;cases this
   have l1:fs.length<=1:=by
    match fs,nd,e with
    |[],_,_=>simp
    |[_],_,_=>simp
    |a::b::fs,nd,e=>
     exfalso;rw[ur]at nd;apply nd.1;rw[e a (by simp),e b (by simp)];simp
   have:1<=ff n:=by
    have:=v9 0 n (dw _) hn;exact this
   omega
  obtain⟨v,hv,hmin⟩:=yI (fun u=>(V.filter (bY r u)).length) V hz;have key:=uR (fun(u:Int) (s:List Int)=>decide (u∈s)) (ff (n-(V.filter (bY r v)).length)) (V.filter (bY r v)) fs (fun s hs=> ?_) (fun u hu gs hg hp=> ?_)
  ·have hle:(V.filter (bY r v)).length<=n:=by rw[<-hV];exact Af _ _
   have hpos:0<(V.filter (bY r v)).length:=VB (dO.mpr ⟨hv,by unfold bY;simp⟩);exact eN key (Qc n _ hpos hle hn)
  ·by_cases c:v∈s
   ·exact⟨v,dO.mpr ⟨hv,by unfold bY;simp⟩,dB c⟩
   ·obtain⟨x,hx,hr⟩:=(hf s hs).max v hv c;exact⟨x,dO.mpr ⟨(hf s hs).sub x hx,by unfold bY;rw[hr];simp⟩,dB hx⟩
  ·have huV:u∈V:=(dO.mp hu).1;have fg:∀s∈gs,Full r V s/\u∈s:=fun s hs=>⟨hf s (hg.subset hs),j9 (hp s hs)⟩;have hle:(V.filter (bY r u)).length<=n:=by rw[<-hV];exact Af _ _
   have hge:=hmin u huV;have hpos:0<(V.filter (bY r u)).length:=VB (dO.mpr ⟨huV,by unfold bY;simp⟩);have hV2:(V.filter fun x=> !bY r u x).length=n-(V.filter (bY r u)).length:=by have:=lC (bY r u) V;omega
   have Bl:∀(s:List Int) (x:Int),x∈s.filter (fun x=> !decide (x=u))↔x∈s/\x≠u:=fun s x=>by rw[dO];simp
   have h1:=ih (n-(V.filter (bY r u)).length) (by omega) (V.filter fun x=> !bY r u x) hV2 (by omega) (gs.map fun s=>s.filter fun x=> !decide (x=u)) (nZ (nd.sublist hg) fun s hs t ht e=> ?_) (fun t ht=> ?_)
   ·rw[aG]at h1;exact eN h1 (v9 _ _ (by omega) (by omega))
   ·obtain⟨a1,a2⟩:=fg s hs;obtain⟨b1,b2⟩:=fg t ht;refine CV a1.up b1.up fun k=> ?_;have hk:k∈s.filter (fun x=> !decide (x=u))↔k∈t.filter (fun x=> !decide (x=u)):=by rw[show s.filter (fun x=> !decide (x=u))=t.filter (fun x=> !decide (x=u))from e]
    rw[Bl,Bl]at hk;by_cases c:k=u
    ·rw[c];exact⟨fun _=>b2,fun _=>a2⟩
    ·exact⟨fun z=>(hk.mp ⟨z,c⟩).1,fun z=>(hk.mpr ⟨z,c⟩).1⟩
   ·obtain⟨s,hs,rfl⟩:=fG.mp ht;obtain⟨a1,a2⟩:=fg s hs;refine⟨a1.up.sublist yef,fun x hx=> ?_,fun x hx y hy=> ?_,fun w hw hn=> ?_⟩
    ·obtain⟨x1,x2⟩:=(Bl s x).mp hx;refine dO.mpr ⟨a1.sub x x1,?_⟩;unfold bY;rw[a1.ind x x1 u a2 x2,fJ x2];rfl
    ·exact a1.ind x ((Bl s x).mp hx).1 y ((Bl s y).mp hy).1
    ·obtain⟨w1,w2⟩:=dO.mp hw;have w3:bY r u w=false:=by simpa using w2
     unfold bY at w3;rw[Bool.or_eq_false_iff]at w3;have wu:w≠u:=V0 w3.1;have ws:w∉s:=fun z=>hn ((Bl s w).mpr ⟨z,wu⟩);obtain⟨x,hx,hr⟩:=a1.max w w1 ws;have xu:x≠u:=fun z=>by rw[z,sym u w,w3.2]at hr;cases hr
     exact⟨x,(Bl s x).mpr ⟨hx,xu⟩,hr⟩
end Hs
namespace Hs
open PySem lQ
noncomputable def rng(n:Nat):List Int:=(List.range n).map fun k=>((k:Nat):Int)
theorem fD{n:Nat}{x:Int}:x∈rng n↔0<=x/\x<(n:Int):=by
 unfold rng;rw[fG];constructor
 ·rintro⟨k,hk,rfl⟩;have:=lO.mp hk;omega
 ·rintro⟨h0,h1⟩;exact⟨x.toNat,lO.mpr (by omega),by omega⟩
theorem MF(ts:L0)(i j:Int):bN ts i j=bN ts j i:=by unfold bN;rw[Bool.or_comm]
noncomputable def goB(ts:L0)(w:Bool)(s:List Int)(p:Int):Bool:=s.all fun q=>bN ts p q==w
noncomputable def bD(ts:L0)(w:Bool):Nat->List (List Int)
 |0=>[[]]
 |k+1=>bD ts w k++((bD ts w k).filter fun s=>goB ts w s (k:Int)).map fun s=>s++[(k:Int)]
noncomputable def jX(ts:L0)(w:Bool)(n:Nat)(s:List Int):Bool:= !((rng n).any fun p=> !decide (p∈s)&&goB ts w s p)
noncomputable def gW(ts:L0)(w:Bool)(n:Nat):List (List Int):=(bD ts w n).filter (jX ts w n)
structure jc(ts:L0)(w:Bool)(k:Nat)(s:List Int):Prop where
 up:s.Pairwise (· < ·)
 lt:∀x∈s,0<=x/\x<(k:Int)
 all:∀x∈s,∀y∈s,x≠y->(bN ts x y==w)=true
theorem jj{ts:L0}{w:Bool}:∀(k:Nat) (s:List Int),s∈bD ts w k->jc ts w k s
 |0,s,h=>by
  rw[fO.mp (show s∈[[]]from h)];exact⟨List.Pairwise.nil,fun x hx=>(nomatch hx),fun x hx=>(nomatch hx)⟩
 |k+1,s,h=>by
  rcases pU.mp (show s∈bD ts w k++((bD ts w k).filter fun s=>goB ts w s (k:Int)).map fun s=>s++[(k:Int)]from h)with q|q
  ·have S:=jj k s q;exact⟨S.up,fun x hx=>by have:=S.lt x hx;omega,S.all⟩
  ·obtain⟨t,ht,rfl⟩:=fG.mp q;obtain⟨t1,t2⟩:=dO.mp ht;have S:=jj k t t1;have g:∀y∈t,(bN ts (k:Int) y==w)=true:=fun y hy=>j6.mp t2 y hy;refine⟨?_,fun x hx=> ?_,fun x hx y hy hne=> ?_⟩
   ·rw[yea];refine⟨S.up,RP _ _,fun x hx y hy=> ?_⟩;rw[fO.mp hy];exact(S.lt x hx).2
   ·rcases pU.mp hx with z|z
    ·have:=S.lt x z;omega
    ·rw[fO.mp z];omega
   ·rcases pU.mp hx with z|z
    ·rcases pU.mp hy with z'|z'
     ·exact S.all x z y z' hne
     ·rw[fO.mp z',MF];exact g x z
    ·rw[fO.mp z]at hne⊢;rcases pU.mp hy with z'|z'
     ·exact g y z'
     ·exact absurd (fO.mp z').symm hne
theorem kO{ts:L0}{w:Bool}:∀k:Nat,(bD ts w k).Nodup
 |0=>by show([[]]:List (List Int)).Nodup;simp
 |k+1=>by
  show(bD ts w k++((bD ts w k).filter fun s=>goB ts w s (k:Int)).map fun s=>s++[(k:Int)]).Nodup;refine List.nodup_append.mpr ⟨kO k,nZ ((kO k).filter _) (fun a _ b _ e=>List.append_cancel_right e),fun a ha b hb e=> ?_⟩;obtain⟨t,_,rfl⟩:=fG.mp hb;have:=(jj k a ha).lt (k:Int) (by rw[e];simp);omega
theorem xT{ts:L0}{w:Bool}:∀k:Nat,(bD ts w k).length<=2^k
 |0=>aN _
 |k+1=>by
  show(bD ts w k++((bD ts w k).filter fun s=>goB ts w s (k:Int)).map fun s=>s++[(k:Int)]).length<=2^(k+1);rw[g8,aG,Nat.pow_succ];have a:=xT (ts:=ts) (w:=w) k;have b:=Af (fun s=>goB ts w s (k:Int)) (bD ts w k);omega
theorem En{ts:L0}{w:Bool}{n:Nat}{s:List Int}(h:s∈gW ts w n):Full (fun i j=> !(bN ts i j==w)) (rng n) s:=by
 obtain⟨h1,h2⟩:=dO.mp h;have S:=jj n s h1;refine⟨S.up,fun x hx=>fD.mpr (S.lt x hx),fun x hx y hy hne=>by rw[S.all x hx y hy hne];rfl,fun v hv hn=> ?_⟩;unfold jX at h2;apply M9;intro hc;have h3:((rng n).any fun p=> !decide (p∈s)&&goB ts w s p)=false:=by simpa using h2
 rw[Xe]at h3;apply h3 v hv;rw[fJ hn];show goB ts w s v=true;unfold goB;rw[j6];intro q hq;cases e:(bN ts v q==w)with
 |true=>rfl
 |false=>exact absurd ⟨q,hq,by show(!(bN ts q v==w))=true;rw[MF,e];rfl⟩ hc
theorem uP{ts:L0}{w:Bool}{n:Nat}(hn:n<=10):(gW ts w n).length<=36:=by
 have h:=Bu (r:=fun i j=> !(bN ts i j==w)) (fun i j=>by rw[MF]) n (rng n) (by unfold rng;simp) hn (gW ts w n) ((kO n).filter _) (fun s hs=>En hs);have:=v9 n 10 hn (aN _);exact eN h this
noncomputable def iQ(ts:L0)(w:Bool)(n:Nat)(s:List Int):List Int:=(rng n).filter fun p=>s.all fun q=> !decide (p=q)&&(bN ts q p==w)
noncomputable def mO(ts:L0)(w:Bool)(n:Nat)(q:Int):List Int:=(rng n).filter fun p=> !decide (p=q)&&(bN ts q p==w)
theorem Kh(ts:L0)(w:Bool)(n:Nat):iQ ts w n []=rng n:=by unfold iQ;exact Xh.mpr fun _ _=>rfl
theorem Gm(ts:L0)(w:Bool)(n:Nat)(s:List Int)(k:Int):iQ ts w n (s++[k])=(iQ ts w n s).filter fun p=>decide (p∈mO ts w n k):=by
 unfold iQ;rw[List.filter_filter];refine wej fun p hp=> ?_;rw[List.all_append,Bool.and_comm];congr 1;unfold mO;rw[pY,wW,dO];simp[hp]
theorem Pj{ts:L0}{w:Bool}{n k:Nat}{s:List Int}(hs:jc ts w k s)(hk:k<n):decide ((k:Int)∈iQ ts w n s)=goB ts w s (k:Int):=by
 unfold iQ goB;rw[pY,wW,dO,j6,j6];constructor
 ·rintro⟨_,h⟩ q hq;have:=h q hq;rw[jg]at this;rw[MF];exact this.2
 ·intro h;refine⟨fD.mpr ⟨by omega,by omega⟩,fun q hq=> ?_⟩;have:=(hs.lt q hq).2;rw[jg];refine⟨?_,by rw[MF];exact h q hq⟩;rw[fJ (by omega)];rfl
theorem Gn(ts:L0)(w:Bool)(n:Nat)(s:List Int):decide (iQ ts w n s=[])=jX ts w n s:=by
 unfold iQ jX;rw[pY,wW,List.filter_eq_nil_iff,wcq,Xe];constructor
 ·intro h p hp hc;rw[jg]at hc;apply h p hp;rw[j6];intro q hq;have h1:p∉s:=by simpa using hc.1
  have h2:=j6.mp hc.2 q hq;rw[jg];refine⟨?_,by rw[MF];exact h2⟩;have ne:¬p=q:=fun e=>h1 (by rw[e];exact hq);rw[fJ ne];rfl
 ·intro h p hp hc;apply h p hp;rw[j6]at hc;rw[jg];refine⟨?_,?_⟩
  ·have:p∉s:=fun z=>by
    have:=hc p z;simp at this
   rw[fJ this];rfl
  ·unfold goB;rw[j6];intro q hq;have:=hc q hq;rw[jg]at this;rw[MF];exact this.2
theorem jc.of{ts:L0}{w:Bool}{n:Nat}{s:List Int}(F:Full (fun i j=> !(bN ts i j==w)) (rng n) s):jc ts w n s:=
 ⟨F.up,fun x hx=>fD.mp (F.sub x hx),fun x hx y hy hne=>by
  have:=F.ind x hx y hy hne
  try dsimp only at this
  cases e:(bN ts x y==w)with
  |true=>rfl
  |false=>rw[e]at this;cases this⟩
end Hs
namespace Hs
open PySem L2 lQ
section
variable{P:ξ}{w:τ}{K:W.Frag}{mg:L4}{base:Heap}
theorem blV_eq(a b:Bool):decide (V.bl a=V.bl b)=(a==b):=by cases a<;>cases b<;>rfl
theorem intV_eq(a b:Int):decide (V.int a=V.int b)=decide (a=b):=by
 by_cases e:a=b
 ·subst e;simp
 ·rw[fJ e,fJ (by intro z;injection z with z;exact e z)]
theorem Ph{a b:Int}:(!decide (V.int a=V.int b))= !decide (a=b):=by rw[intV_eq]
theorem Mu(xs:List Int)(k:Int):((xs.map PyData.int).any fun d=>PyData.eqv d (.int k))=decide (k∈xs):=by
 induction xs with
 |nil=>simp
 |cons x xs ih=>
  rw[zW,Xr,ih];have e:PyData.eqv (.int x) (.int k)=decide (k=x):=by
   show(x==k)=_;rw[pY];simp;exact⟨fun h=>h.symm,fun h=>h.symm⟩
  rw[e,pY];simp
theorem zcy{α:Type}{p:α->Bool}{l:List α}{i:Nat}(hi:i<l.length):(l.take (i+1)).filter p=(l.take i).filter p++(if p l[i]=true then[l[i]]else[]):=by
 rw[CN,eO hi,Mh];congr 1;show[l[i]].filter p=_;rw[qT];rfl
theorem Ju(k:Nat):rng (k+1)=rng k++[(k:Int)]:=by unfold rng;rw[wU,bW];rfl
theorem Ij(n:Nat):cR n=(rng n).map V.int:=by unfold cR rng;rw[tU];rfl
noncomputable def xH(K:W.Frag):Sp:=fun vs H Q _=>∃(l m:Addr) (xs ys:List Int),vs=[.ref l,.ref m]/\SqL K H l (xs.map V.int)/\SqL K H m (ys.map V.int)/\∀r H',Same H H'->H' r=some (.lst ((xs.filter fun p=>decide (p∈ys)).map V.int))->H r=none->Q (.ref r) H'
theorem Ge{f:Addr}{fd:ρ}(F:Fun K "in_both" "in_both" nQ f fd):
  FnOk P w K mg base CX0 1 f fd ["ones","others"] (xH K):=by
 refine F.dG ["ones","others"] fun cdv A outer s H vs Q E hr h=> ?_;obtain⟨l,m,xs,ys,rfl,hL,hM,q⟩:=h;refine⟨_,(bf (cD (pK ["place"] ["others"] [1] (Mw (pv 0)) (pG 0) (HD (dW (mD K hr.units) (pv 0) (pv 1) (by with_unfolding_all rfl))) (pv 0)))),?_⟩;refine⟨_,rfl,l,_,rfl,hL,fun hz=> ?_⟩;let gO:Nat->List V->St->Hp->Prop:=fun k acc σ H'=>acc=((xs.take k).filter fun p=>decide (p∈ys)).map V.int/\Same H H'/\∃o,σ=[o,some (.ref m)];refine Qt (xs:=xs.map V.int) gO ⟨rfl,Same.refl _,_,rfl⟩ (fun k acc σ H' _ p=>p.2.1.seq hL) (fun k acc σ H' hk p=> ?_) hz (fun k x acc σ H' hx p=> ?_) (fun acc σ H' p=> ?_)
 ·rw[p.1,aG];exact eN (Af _ _) (by rw[zY];exact QC _ _)
 ·obtain⟨rfl,sm,o,rfl⟩:=p;rw[cU]at hx;cases ex:xs[k]? with
  |none=>rw[ex]at hx;cases hx
  |some y=>
   rw[ex]at hx;cases hx;obtain⟨hk,ey⟩:=lV.mp ex;have e:=zcy (p:=fun p=>decide (p∈ys)) hk;rw[ey]at e;refine⟨_,rfl,_,rfl,m,_,_,.int y,rfl,.inl (sm.seq hM),bO.ints ys,.int _,qC ys,rfl,(by show 0<=60;decide),_,rfl,?_⟩;rw[Mu];refine ite2 (fun c=> ?_) (fun c=> ?_)
   ·exact⟨_,rfl,by rw[e,aA c,bW];rfl,sm,_,rfl⟩
   ·exact⟨by rw[e,aq c,tL],sm,_,rfl⟩
 ·intro p1 hp1;obtain⟨rfl,sm,_⟩:=p;rw[aG,Ae];exact q p1 _ (sm.trans (aY hp1 _)) aJ (sm.free hp1)
noncomputable def Ds(K:W.Frag):Sp:=fun vs H Q _=>∃(a:Addr) (n i:Int) (ts:L0) (w:Bool),vs=[.ref a,.int i,.bl w]/\aZ K H a n ts/\∀r H',Same H H'->H' r=some (.lst ((mO ts w n.toNat i).map V.int))->H r=none->Q (.ref r) H'
theorem JX{f f1:Addr}{fd d1:ρ}(F:Fun K "places_by_tie" "places_by_tie" zdf f fd)(D1:bQ K mg "has_tie" fK ["web","one","other"] f1 d1)(G1:FnOk P w K mg base CX0 1 f1 d1 ["web","one","other"] (xJ K))(aB:mg "range"=none):
  FnOk P w K mg base CX0 2 f fd ["web","place","tied"] (Ds K):=by
 refine F.dG ["web","place","tied"] fun cdv A outer s H vs Q E hr h=> ?_;obtain⟨a,n,i,ts,w,rfl,hA,q⟩:=h;refine⟨_,(bf (cD (pK ["other"] ["place","web","tied"] [1,0,2] (wQ rfl aB (aj (bA eG (pv 0) aL) ao)) (pG 0) (HD (PW.pt (pw_and (dW op_ne (pv 0) (pv 1)) (pw_and1 (dW op_eq (pc G1 hr D1 (aj (pv 2) (aj (pv 1) (aj (pv 0) ao)))) (pv 3)))))) (pv 0)))),?_⟩;have h0:=hA.h0;have h10:=hA.h1;obtain⟨ta,ra,a1,a2,a3⟩:=id hA.web;refine⟨_,rfl,a,_,_,.int n,rfl,rfl,a1,rfl,n,rfl,by omega,by omega,?_⟩;let sZ:Nat->List V->St->Hp->Prop:=fun k acc σ H'=>acc=((rng k).filter fun p=> !decide (p=i)&&(bN ts i p==w)).map V.int/\Same H H'/\∃o,σ=[o,some (.int i),some (.ref a),some (.bl w)];refine CG (n:=n.toNat) sZ ⟨rfl,Same.refl _,_,rfl⟩ (fun k acc σ H' hk p=> ?_) (by rw[eX];omega) (fun k acc σ H' hk p=> ?_) (fun acc σ H' p=> ?_)
 ·rw[p.1,aG];exact eN (Af _ _) (by unfold rng;simp)
 ·obtain⟨rfl,sm,o,rfl⟩:=p;have ek:(0+(k:Int))=(k:Int):=by omega
  rw[ek];have e:∀b,b=(!decide ((k:Int)=i)&&(bN ts i (k:Int)==w))->((rng (k+1)).filter fun p=> !decide (p=i)&&(bN ts i p==w))=((rng k).filter fun p=> !decide (p=i)&&(bN ts i p==w))++(if b=true then[(k:Int)]else[]):=fun b hb=>by
   rw[Ju,Mh,qT,hb];rfl
  refine⟨_,rfl,_,rfl,rfl,_,rfl,?_⟩;rw[Ph];refine ite2 (fun c=> ?_) (fun c=> ?_)
  ·refine⟨_,rfl,_,rfl,_,rfl,a,n,_,_,ts,rfl,(hA.same sm).web,fun H5 s5=>⟨_,rfl,rfl,_,rfl,?_⟩⟩;rw[blV_eq,tied_eq hA.pk];refine ite2 (fun c2=> ?_) (fun c2=> ?_)
   ·exact⟨_,rfl,by rw[e true (by rw[c,c2];rfl),bW];rfl,sm.trans s5,_,rfl⟩
   ·exact⟨by rw[e false (by rw[c,Bool.eq_false_iff.mpr c2];rfl)];simp,sm.trans s5,_,rfl⟩
  ·exact⟨by rw[e false (by rw[Bool.eq_false_iff.mpr c];rfl)];simp,sm,_,rfl⟩
 ·intro p1 hp1;obtain⟨rfl,sm,_⟩:=p;exact q p1 _ (sm.trans (aY hp1 _)) aJ (sm.free hp1)
noncomputable def Lr(K:W.Frag)(H:Hp)(r:Addr)(ss:List (List Int)):Prop:=∃its:List (Addr×List Int),H r=some (.lst (its.map fun p=>V.ref p.1))/\(∀p∈its,SqT K H p.1 (p.2.map V.int))/\its.map (fun p=>p.2)=ss
noncomputable def bh(ss:List (List Int))(ts:L0)(w:Bool)(n:Nat):Prop:=ss.Perm (gW ts w n)/\ss.Pairwise fun a b=>HT.lexLt b a=false
theorem P0{ts:L0}{w:Bool}{n:Nat}(h2:2<=(gW ts w n).length):∀s∈gW ts w n,s≠[]:=by
 intro s hs e;subst e;have F:=En hs;cases n with
 |zero=>
  have:(gW ts w 0).length<=1:=by
   show(([[]]:List (List Int)).filter (jX ts w 0)).length<=1;exact Af _ _
  omega
 |succ n=>
  obtain⟨x,hx,_⟩:=F.max 0 (fD.mpr ⟨by omega,by omega⟩) (by simp);cases hx
structure ZX(K:W.Frag)(H:Hp)(ts:L0)(w:Bool)(n:Nat)(q:Addr×Addr×Addr×List Int):Prop where
 pr:SqT K H q.1 [.ref q.2.1,.ref q.2.2.1]
 so:SqT K H q.2.1 (q.2.2.2.map V.int)
 le:H q.2.2.1=some (.lst ((iQ ts w n q.2.2.2).map V.int))
theorem ZX.same{H H':Hp}{ts:L0}{w:Bool}{n:Nat}{q:Addr×Addr×Addr×List Int}(h:ZX K H ts w n q)(e:Same H H'):ZX K H' ts w n q:=⟨e.tup h.pr,e.tup h.so,e _ _ h.le⟩
noncomputable def Lw(K:W.Frag)(H:Hp)(fd:Addr)(ts:L0)(w:Bool)(n:Nat)(ss:List (List Int)):Prop:=∃its:List (Addr×Addr×Addr×List Int),H fd=some (.lst (its.map fun q=>V.ref q.1))/\(∀q∈its,ZX K H ts w n q)/\its.map (fun q=>q.2.2.2)=ss
noncomputable def rJ(K:W.Frag):Sp:=fun vs H Q _=>∃(fl:Addr) (fas:List Addr) (ts:L0) (w:Bool) (n:Nat),vs=[.ref fl]/\H fl=some (.lst (fas.map V.ref))/\fas.length=n/\n<=10/\(∀(i:Nat) f,fas[i]? =some f->H f=some (.lst ((mO ts w n (i:Int)).map V.int)))/\
 ∀r ss H',Same H H'->Lr K H' r ss->bh ss ts w n->H r=none->Q (.ref r) H'
theorem yp{f f1:Addr}{fd d1:ρ}(F:Fun K "full_sets" "full_sets" jo f fd)(D1:bQ K mg "in_both" nQ ["ones","others"] f1 d1)(G1:FnOk P w K mg base CX0 1 f1 d1 ["ones","others"] (xH K))(jy:mg "list"=none)(aB:mg "range"=none)(aK:mg "len"=none)(fZ:mg "sorted"=none):
  FnOk P w K mg base CX0 2 f fd ["friends"] (rJ K):=by
 refine F.dG ["friends","found","place","wider"] fun cdv A outer s H vs Q E hr h=> ?_;obtain⟨fl,fas,ts,w,n,rfl,hF,hn,h10,hfr,q⟩:=h;refine bw ?_;intro Y;refine⟨_,(aV (pS 1 (Ad (aj (qu (aj (qu ao) (aj (jw rfl rfl jy rfl aB (aj (pB lR aK (aj (pv 0) ao)) ao)) ao))) ao))) (aV (ps_for Aa rfl (wQ rfl aB (aj (pB lR aK (aj (pv 0) ao)) ao)) (pG 2) (aV (pX 3 ["some","left"] ["place","friends"] [2,0] (Mw (pv 1)) (gC K (n:=2) rfl (uq (pG 0) (uq (pG 1) pgs_nil))) (HD (dW (mD K hr.units) (pv 2) (pv 1) (by with_unfolding_all rfl))) (qu (aj (cu (JD K) (pv 0) (qu (aj (pv 2) ao))) (aj (pc G1 hr D1 (aj (pv 1) (aj (bA (jz K) (pv 3) (pv 2)) ao))) ao)))) (bf (pS 1 (cu op_cat (pv 1) (pv 3)))))) (bf (cD (pB wG fZ (aj (pK ["some","left"] [] [] (Mw (pv 1)) (gC K (n:=2) rfl (uq (pG 0) (uq (pG 1) pgs_nil))) (HD (pt_not (Fz K (pv 1) (fun _=>rfl)))) (pv 0)) ao)))))),?_⟩;refine jA ?_;intro c3 c2;have el:((fas.map V.ref).length:Int)=(n:Int):=by rw[aG,hn]
 refine⟨(by show 0<=sizeLine;decide),fun e1 YX=> ?_⟩;have s1:=aY YX (.tup []);have t1:SqT K (upd H e1 (.tup [])) e1 []:=SqT.of aJ;generalize (upd H e1 (.tup []))=H1 at *;refine⟨_,rfl,fl,_,rfl,.inl (SqL.of (s1 _ _ hF)),fun _=>⟨_,rfl,by omega,by rw[el];omega,fun rl hrl=> ?_⟩⟩;have er:cR ((fas.map V.ref).length:Int).toNat=(rng n).map V.int:=by rw[el,Vw,Ij]
 rw[er];have s2:=aY hrl (.lst ((rng n).map V.int));have t2:(upd H1 rl (.lst ((rng n).map V.int))) rl=some (.lst ((rng n).map V.int)):=aJ;generalize (upd H1 rl (.lst ((rng n).map V.int)))=H2 at *;refine⟨(by show 2<=sizeLine;decide),fun e3 he3=> ?_⟩;have s3:=aY he3 (.tup [.ref e1,.ref rl]);have t3:SqT K (upd H2 e3 (.tup [.ref e1,.ref rl])) e3 [.ref e1,.ref rl]:=SqT.of aJ;generalize (upd H2 e3 (.tup [.ref e1,.ref rl]))=H3 at *;refine⟨(by show 1<=sizeLine;decide),fun fd hfd=> ?_⟩;have s4:=aY hfd (.lst [.ref e3]);have F4:Lw K (upd H3 fd (.lst [.ref e3])) fd ts w n (bD ts w 0):=by
  refine⟨[(e3,e1,rl,[])],aJ,fun q hq=> ?_,rfl⟩;rw[fO.mp hq];exact⟨s4.tup t3,s4.tup (s3.tup (s2.tup t1)),by rw[Kh];exact s4 _ _ (s3 _ _ t2)⟩
 have s04:=s1.trans (s2.trans (s3.trans s4));generalize (upd H3 fd (.lst [.ref e3]))=H4 at *;refine⟨_,rfl,fl,_,rfl,.inl (SqL.of (s04 _ _ hF)),fun _=>⟨_,rfl,by omega,by rw[el];omega,?_⟩⟩;have en:((fas.map V.ref).length:Int).toNat=n:=by rw[el,Vw]
 rw[en];let gO:Nat->St->Hp->Prop:=fun k σ H'=>Same H H'/\∃fd b2 b3,Lw K H' fd ts w n (bD ts w k)/\σ=[some (.ref fl),some (.ref fd),b2,b3];refine Mx (n:=n) gO ⟨s04,fd,_,_,F4,rfl⟩ (fun k σ H' hk p=> ?_) (fun σ H' p=> ?_)
 ·obtain⟨s5,fd,b2,b3,F5,rfl⟩:=p;have ek:(0+(k:Int))=(k:Int):=by omega
  rw[ek];obtain⟨its,f1,f2,f3⟩:=F5;have hlen:its.length<=1024:=by
   have a:=xT (ts:=ts) (w:=w) k;rw[<-f3,aG]at a;have b:2^k<=2^10:=Nat.pow_le_pow_right (by decide) (by omega);have c:2^10=1024:=by decide
   omega
  have hkf:k<fas.length:=by omega
  have hfk:(fas.map V.ref)[k]? =some (.ref fas[k]):=by rw[cU,eO hkf];rfl
  have hgk:=hfr k fas[k] (eO hkf);refine⟨_,rfl,fd,_,rfl,SqL.of f1,fun hzf=> ?_⟩;let sZ:Nat->List V->St->Hp->Prop:=fun i acc σ Et=>(∃its2:List (Addr×Addr×Addr×List Int),acc=its2.map (fun q=>V.ref q.1)/\(∀q∈its2,ZX K Et ts w n q)/\its2.map (fun q=>q.2.2.2)=(((bD ts w k).take i).filter fun s=>goB ts w s (k:Int)).map fun s=>s++[(k:Int)])/\Same H' Et/\∃o1 o2,σ=[o1,o2,some (.int (k:Int)),some (.ref fl)];refine Qt (xs:=its.map fun q=>V.ref q.1) sZ ⟨⟨[],rfl,fun q hq=>(nomatch hq),rfl⟩,Same.refl _,_,_,rfl⟩ (fun i acc σ Et _ p=>p.2.1.seq (SqL.of f1)) (fun i acc σ Et hi p=> ?_) hzf (fun i x acc σ Et hx p=> ?_) (fun acc σ Et p=> ?_)
  ·obtain⟨⟨its2,rfl,g2,g3⟩,_⟩:=p;have a:=gq List.length g3;rw[aG,aG]at a;rw[aG,a];exact eN (Af _ _) (by rw[zY];exact QC _ _)
  ·obtain⟨⟨its2,rfl,g2,g3⟩,sm,o1,o2,rfl⟩:=p;rw[cU]at hx;cases ex:its[i]? with
   |none=>rw[ex]at hx;cases hx
   |some v=>
    rw[ex]at hx;cases hx;have fv:=(f2 v (qW ex)).same sm;have hsv:(bD ts w k)[i]? =some v.2.2.2:=by rw[<-f3,cU,ex];rfl
    obtain⟨hi,esv⟩:=lV.mp hsv;have Sv:=jj k v.2.2.2 (qW hsv);have e:=zcy (p:=fun s=>goB ts w s (k:Int)) hi;rw[esv]at e;refine⟨v.1,_,rfl,fv.pr,rfl,_,_,rfl,_,_,rfl,rfl,?_⟩;refine⟨_,rfl,_,rfl,v.2.2.1,_,_,.int (k:Int),rfl,.inl (SqL.of fv.le),bO.ints _,.int _,qC _,rfl,(by show 0<=60;decide),_,rfl,?_⟩;rw[Mu,Pj Sv hk];refine ite2 (fun c=> ?_) (fun c=> ?_)
    ·refine⟨_,rfl,_,rfl,(by show 1<=sizeLine;decide),fun e5 he5=> ?_⟩;have s6:=aY he5 (.tup [.int (k:Int)]);have t6:SqT K (upd Et e5 (.tup [.int (k:Int)])) e5 [.int (k:Int)]:=SqT.of aJ;generalize (upd Et e5 (.tup [.int (k:Int)]))=H6 at *;have hvl:v.2.2.2.length<=10:=by
      have a:=Qu (l:=v.2.2.2) (m:=rng n) (Sv.up.imp fun{x y} h=>by omega) (fun x hx=>fD.mpr (by have:=Sv.lt x hx;omega));have b:(rng n).length=n:=by unfold rng;simp
      omega
     refine⟨v.2.1,e5,_,_,rfl,rfl,s6.tup fv.so,t6,(by rw[aG,eX];show v.2.2.2.length+1<=_;omega),fun r7 H7 s7 h7=> ?_⟩;have s67:=s6.trans s7;refine⟨_,rfl,_,rfl,_,rfl,fl,_,_,.ref fas[k],rfl,rfl,SqL.of ((s5.trans (sm.trans s67)) _ _ hF),atI_nat hfk,v.2.2.1,fas[k],_,_,rfl,SqL.of (s67 _ _ fv.le),SqL.of ((s5.trans (sm.trans s67)) _ _ hgk),fun r8 H8 s8 h8 n8=> ?_⟩;refine⟨(by show 2<=sizeLine;decide),fun e9 he9=> ?_⟩;have s9:=aY he9 (.tup [.ref r7,.ref r8]);have s69:=s67.trans (s8.trans s9);refine⟨⟨its2++[(e9,r7,r8,v.2.2.2++[(k:Int)])],by rw[bW];rfl,fun q hq=> ?_,by rw[bW,g3,e,aA c,bW];rfl⟩,sm.trans s69,_,_,rfl⟩;rcases pU.mp hq with z|z
     ·exact(g2 q z).same s69
     ·rw[fO.mp z];refine⟨SqT.of aJ,s9.tup (s8.tup ?_),by rw[Gm];exact s9 _ _ h8⟩;rw[bW];exact h7
    ·exact⟨⟨its2,rfl,g2,by rw[g3,e,aq c,tL]⟩,sm,_,_,rfl⟩
  ·intro p1 hp1;obtain⟨⟨its2,rfl,g2,g3⟩,sm,o1,o2,rfl⟩:=p;have hle:(its.map fun q=>V.ref q.1).length=(bD ts w k).length:=by rw[aG,<-f3,aG]
   rw[hle,Ae]at g3;have s6:=aY hp1 (.lst (its2.map fun q=>V.ref q.1));have l2:its2.length<=1024:=by
    have a:=gq List.length g3;rw[aG,aG]at a;have b:=Af (fun s=>goB ts w s (k:Int)) (bD ts w k);rw[<-f3,aG]at b;rw[<-f3]at a;omega
   refine⟨_,rfl,_,rfl,fd,p1,_,_,rfl,rfl,(sm.trans s6) _ _ f1,aJ,by rw[aG,aG,eX];omega,fun p2 hp2=> ?_⟩;have s7:=aY hp2 (.lst ((its.map fun q=>V.ref q.1)++(its2.map fun q=>V.ref q.1)));refine⟨s5.trans (sm.trans (s6.trans s7)),p2,_,_,⟨its++its2,by rw[aJ,bW],fun q hq=> ?_,by rw[bW,f3,g3];rfl⟩,rfl⟩;rcases pU.mp hq with z|z
   ·exact(f2 q z).same (sm.trans (s6.trans s7))
   ·exact(g2 q z).same (s6.trans s7)
 ·obtain⟨s5,fd,b2,b3,⟨its,f1,f2,f3⟩,rfl⟩:=p;refine⟨_,rfl,fd,_,rfl,SqL.of f1,fun hzf=> ?_⟩;let Qn:Nat->List V->St->Hp->Prop:=fun i acc σ Et=>(∃its2:List (Addr×List Int),acc=its2.map (fun q=>V.ref q.1)/\(∀q∈its2,SqT K H' q.1 (q.2.map V.int))/\its2.map (fun q=>q.2)=((bD ts w n).take i).filter (jX ts w n))/\Same H' Et/\∃o1 o2,σ=[o1,o2];refine Qt (xs:=its.map fun q=>V.ref q.1) Qn ⟨⟨[],rfl,fun q hq=>(nomatch hq),rfl⟩,Same.refl _,_,_,rfl⟩ (fun i acc σ Et _ p=>p.2.1.seq (SqL.of f1)) (fun i acc σ Et hi p=> ?_) hzf (fun i x acc σ Et hx p=> ?_) (fun acc σ Et p=> ?_)
  ·obtain⟨⟨its2,rfl,g2,g3⟩,_⟩:=p;have a:=gq List.length g3;rw[aG]at a;rw[aG,a];exact eN (Af _ _) (by rw[zY];exact QC _ _)
  ·obtain⟨⟨its2,rfl,g2,g3⟩,sm,o1,o2,rfl⟩:=p;rw[cU]at hx;cases ex:its[i]? with
   |none=>rw[ex]at hx;cases hx
   |some v=>
    rw[ex]at hx;cases hx;have fv:=f2 v (qW ex);have hsv:(bD ts w n)[i]? =some v.2.2.2:=by rw[<-f3,cU,ex];rfl
    obtain⟨hi,esv⟩:=lV.mp hsv;have e:=zcy (p:=jX ts w n) hi;rw[esv]at e;refine⟨v.1,_,rfl,sm.tup fv.pr,rfl,_,_,rfl,_,_,rfl,rfl,?_⟩;refine⟨_,rfl,_,.inl ⟨_,SqL.of (sm _ _ fv.le),rfl⟩,?_⟩;have eb:(!!((iQ ts w n v.2.2.2).map V.int).isEmpty)=jX ts w n v.2.2.2:=by
     rw[Bool.not_not,<-Gn];cases iQ ts w n v.2.2.2<;>rfl
    dsimp only;rw[eb];refine ite2 (fun c=> ?_) (fun c=> ?_)
    ·refine⟨_,rfl,⟨its2++[(v.2.1,v.2.2.2)],by rw[bW];rfl,fun q hq=> ?_,by rw[bW,g3,e,aA c];rfl⟩,sm,_,_,rfl⟩;rcases pU.mp hq with z|z
     ·exact g2 q z
     ·rw[fO.mp z];exact fv.so
    ·exact⟨⟨its2,rfl,g2,by rw[g3,e,aq c,tL]⟩,sm,_,_,rfl⟩
  ·intro p1 hp1;obtain⟨⟨its2,rfl,g2,g3⟩,sm,_⟩:=p;have hle:(its.map fun q=>V.ref q.1).length=(bD ts w n).length:=by rw[aG,<-f3,aG]
   rw[hle,Ae]at g3;have g4:its2.map (fun q=>q.2)=gW ts w n:=g3;have hl2:its2.length=(gW ts w n).length:=by rw[<-g4,aG]
   have h36:=uP (ts:=ts) (w:=w) h10;have s6:=aY hp1 (.lst (its2.map fun q=>V.ref q.1));refine⟨p1,its2,rfl,SqL.of aJ,fun p hp=>⟨(sm.trans s6).tup (g2 p hp),fun h2=> ?_⟩,by omega,fun l its' hl hpm hpw=> ?_⟩
   ·exact P0 (ts:=ts) (w:=w) (n:=n) (by omega) p.2 (by rw[<-g4];exact fG.mpr ⟨p,hp,rfl⟩)
   ·have s7:=aY hl (.lst (its'.map fun q=>V.ref q.1));have s57:=s5.trans (sm.trans (s6.trans s7));refine q l (its'.map fun q=>q.2) _ s57 ⟨its',aJ,fun p hp=>(sm.trans (s6.trans s7)).tup (g2 p (hpm.mem_iff.mp hp)),rfl⟩ ⟨?_,?_⟩ ((s5.trans (sm.trans s6)).free hl)
    ·rw[<-g4];exact hpm.map _
    ·rw[zZ];exact hpw
noncomputable def jh(K:W.Frag):Sp:=fun vs H Q _=>∃(a:Addr) (n:Int) (ts:L0),vs=[.ref a]/\aZ K H a n ts/\∀r ss H',Same H H'->Lr K H' r ss->bh ss ts false n.toNat->H r=none->Q (.ref r) H'
theorem vL{f f1 f2 f3:Addr}{fd d1 d2 d3:ρ}(F:Fun K "full_apart" "full_apart" fu f fd)(D1:bQ K mg "need_web" HN ["thing"] f1 d1)(G1:FnOk P w K mg base CX0 7 f1 d1 ["thing"] (cA K))(D2:bQ K mg "full_sets" jo ["friends"] f2 d2)(G2:FnOk P w K mg base CX0 2 f2 d2 ["friends"] (rJ K))(D3:bQ K mg "places_by_tie" zdf ["web","place","tied"] f3 d3)(G3:FnOk P w K mg base CX0 2 f3 d3 ["web","place","tied"] (Ds K))(aB:mg "range"=none):
  FnOk P w K mg base CX0 8 f fd ["web"] (jh K):=by
 refine F.dG ["web"] fun cdv A outer s H vs Q E hr h=> ?_;obtain⟨a,n,ts,rfl,hA,q⟩:=h;refine bw ?_;intro Y;refine⟨_,(aV (qR (pc G1 hr D1 (aj (pv 0) ao))) (bf (cD (pc G2 hr D2 (aj (pK ["place"] ["web"] [0] (wQ rfl aB (aj (bA eG (pv 0) aL) ao)) (pG 0) qz (pc G3 hr D3 (aj (pv 1) (aj (pv 0) (aj pe_bl ao))))) ao))))),?_⟩;refine gU ?_;intro c2;have h0:=hA.h0;have h10:=hA.h1;refine⟨_,rfl,_,_,rfl,hA.web.dv.dx,hA.ok,fun H1 s1=> ?_⟩;have hA1:=hA.same s1;obtain⟨ta,ra,a1,a2,a3⟩:=id hA1.web;refine⟨_,rfl,a,_,_,.int n,rfl,rfl,a1,rfl,n,rfl,by omega,by omega,?_⟩;let gO:Nat->List V->St->Hp->Prop:=fun k acc σ H'=>(∃fas:List Addr,acc=fas.map V.ref/\fas.length=k/\∀(i:Nat) f,fas[i]? =some f->H' f=some (.lst ((mO ts false n.toNat (i:Int)).map V.int)))/\Same H1 H'/\∃o,σ=[o,some (.ref a)];refine CG (n:=n.toNat) gO ⟨⟨[],rfl,rfl,fun i f h=>by simp at h⟩,Same.refl _,_,rfl⟩ (fun k acc σ H' hk p=> ?_) (by rw[eX];omega) (fun k acc σ H' hk p=> ?_) (fun acc σ H' p=> ?_)
 ·obtain⟨⟨fas,rfl,hl,_⟩,_⟩:=p;rw[aG];omega
 ·obtain⟨⟨fas,rfl,hl,hf⟩,sm,o,rfl⟩:=p;have ek:(0+(k:Int))=(k:Int):=by omega
  rw[ek];refine⟨_,rfl,_,rfl,a,n,_,ts,false,rfl,hA1.same sm,fun r H5 s5 h5 n5=>⟨⟨fas++[r],by rw[bW];rfl,by rw[g8,hl];rfl,fun i f hi=> ?_⟩,sm.trans s5,_,rfl⟩⟩;by_cases c:i<fas.length
  ·rw[ydf c]at hi;exact s5 _ _ (hf i f hi)
  ·have hb:i<(fas++[r]).length:=(lV.mp hi).1;rw[g8]at hb;have e:i=fas.length:=by have:[r].length=1:=rfl;omega
   rw[e,VD (aN _),Vs]at hi;cases hi;rw[e,hl];exact h5
 ·intro p1 hp1;obtain⟨⟨fas,rfl,hl,hf⟩,sm,_⟩:=p;have s6:=aY hp1 (.lst (fas.map V.ref));exact⟨p1,fas,ts,false,n.toNat,rfl,aJ,hl,by omega,fun i f hi=>s6 _ _ (hf i f hi),fun r ss H7 s7 h7 h8 n7=>q r ss H7 (s1.trans (sm.trans (s6.trans s7))) h7 h8 ((s1.trans (sm.trans s6)).free n7)⟩
noncomputable def eZ(ts:L0)(w:Bool):Nat->List Int
 |0=>[]
 |k+1=>if goB ts w (eZ ts w k) (k:Int)=true then eZ ts w k++[(k:Int)]else eZ ts w k
theorem uN{ts:L0}{w:Bool}:∀k:Nat,eZ ts w k∈bD ts w k
 |0=>by show([]:List Int)∈[[]];simp
 |k+1=>by
  have ih:=uN (ts:=ts) (w:=w) k;show eZ ts w (k+1)∈bD ts w k++((bD ts w k).filter fun s=>goB ts w s (k:Int)).map fun s=>s++[(k:Int)];unfold eZ;by_cases c:goB ts w (eZ ts w k) (k:Int)=true
  ·rw[aA c];exact lU _ (fG.mpr ⟨_,dO.mpr ⟨ih,c⟩,rfl⟩)
  ·rw[aq c];exact RM _ ih
theorem lB{ts:L0}{w:Bool}{x:Int}{k:Nat}(h:x∈eZ ts w k):∀m:Nat,x∈eZ ts w (k+m)
 |0=>h
 |m+1=>by
  have ih:=lB h m;show x∈eZ ts w (k+m+1);unfold eZ;split
  ·exact RM _ ih
  ·exact ih
theorem KR(ts:L0)(w:Bool)(n:Nat):gW ts w n≠[]:=by
 have h:eZ ts w n∈gW ts w n:=by
  refine dO.mpr ⟨uN n,?_⟩;unfold jX;rw[wcq,Xe];intro p hp hc;rw[jg]at hc;have hn:p∉eZ ts w n:=by simpa using hc.1
  obtain⟨p0,p1⟩:=fD.mp hp;have ep:((p.toNat:Nat):Int)=p:=by omega
  have hk:¬goB ts w (eZ ts w p.toNat) p=true:=fun c=>by
   apply hn;have h1:p∈eZ ts w (p.toNat+1):=by
    unfold eZ;rw[ep,aA c];simp
   have h2:=lB h1 (n-(p.toNat+1));rw[show p.toNat+1+(n-(p.toNat+1))=n by omega]at h2;exact h2
  apply hk;unfold goB;rw[j6];intro q hq;have h2:=lB hq (n-p.toNat);rw[show p.toNat+(n-p.toNat)=n by omega]at h2;exact j6.mp hc.2 q h2
 intro e;rw[e]at h;cases h
noncomputable def xM(K:W.Frag):Sp:=fun vs H Q _=>∃(l:Addr) (its:List (Addr×List Int)),vs=[.ref l]/\SqL K H l (its.map fun p=>V.ref p.1)/\(∀p∈its,SqT K H p.1 (p.2.map V.int))/\its≠[]/\
 ∀(i:Nat) (p:Addr×List Int),its[i]? =some p->(∀(j:Nat) r,its[j]? =some r->r.2.length<=p.2.length/\(j<i->r.2.length<p.2.length))->Q (.ref p.1) H
theorem Gg{f:Addr}{fd:ρ}(F:Fun K "first_greatest" "first_greatest" zcv f fd)(yx:mg "max"=none)(aK:mg "len"=none):
  FnOk P w K mg base CX0 1 f fd ["sets"] (xM K):=by
 refine F.dG ["sets"] fun cdv A outer s H vs Q E hr h=> ?_;obtain⟨l,its,rfl,hL,hT,hne,q⟩:=h;refine⟨_,(bf (cD (FJ rfl rfl yx rfl aK (aj (pv 0) ao)))),?_⟩;exact⟨_,rfl,l,its,rfl,hL,hT,hne,q⟩
noncomputable def lE(s:List Int)(ts:L0)(w:Bool)(n:Nat):Prop:=∃ss,bh ss ts w n/\∃i:Nat,ss[i]? =some s/\∀(j:Nat) t,ss[j]? =some t->t.length<=s.length/\(j<i->t.length<s.length)
theorem Fl{ss:List (List Int)}{ts:L0}{w:Bool}{n:Nat}(h:bh ss ts w n):ss≠[]:=fun e=>by
 have:=h.1.length_eq;rw[e]at this;exact KR ts w n (List.length_eq_zero_iff.mp this.symm)
noncomputable def xK(K:W.Frag):Sp:=fun vs H Q _=>∃(a:Addr) (n:Int) (ts:L0),vs=[.ref a]/\aZ K H a n ts/\∀(r:Addr) (s:List Int) H',Same H H'->SqT K H' r (s.map V.int)->lE s ts false n.toNat->Q (.ref r) H'
theorem Gf{f f1 f2:Addr}{fd d1 d2:ρ}(F:Fun K "greatest_apart" "greatest_apart" zcu f fd)(D1:bQ K mg "first_greatest" zcv ["sets"] f1 d1)(G1:FnOk P w K mg base CX0 1 f1 d1 ["sets"] (xM K))(D2:bQ K mg "full_apart" fu ["web"] f2 d2)(G2:FnOk P w K mg base CX0 8 f2 d2 ["web"] (jh K)):
  FnOk P w K mg base CX0 9 f fd ["web"] (xK K):=by
 refine F.dG ["web"] fun cdv A outer s H vs Q E hr h=> ?_;obtain⟨a,n,ts,rfl,hA,q⟩:=h;refine⟨_,(bf (cD (pc G1 hr D1 (aj (pc G2 hr D2 (aj (pv 0) ao)) ao)))),?_⟩;refine⟨_,rfl,a,n,ts,rfl,hA,fun r ss H1 s1 h1 h2 n1=> ?_⟩;obtain⟨its,g1,g2,g3⟩:=h1;refine⟨r,its,rfl,SqL.of g1,g2,fun e=>Fl h2 (by rw[<-g3,e];rfl),fun i p hi hb=>q p.1 p.2 H1 s1 (g2 p (qW hi)) ⟨ss,h2,i,by rw[<-g3,cU,hi];rfl,fun j t ht=> ?_⟩⟩;rw[<-g3,cU]at ht;cases ej:its[j]? with
 |none=>rw[ej]at ht;cases ht
 |some r'=>
  rw[ej]at ht;cases ht;exact hb j r' ej
end
end Hs
namespace L2
open PySem PySem.Spec PyProof.Rows
theorem Vj{n:Nat}(h:n<=10^200):n<2^700:=Hr h (by decide+kernel)
section
variable{X:Cx}
theorem yg:OpR X (binaryOp .FloorDiv) (rI (fun _ j=>0<j/\j.natAbs<=10^200) fun i j=> .int (i/j)):=opI fun i j _ _ _ _ _ hc q=>by
 have h1:(0:Int)<j:=hc.1;refine floordiv_int (by omega) ?_ (Or.inl (wee ?_))
 ·rw[ydx _ (by omega)];exact q
 ·have h3:j.natAbs≠0:=by omega
  have h4:=(Nat.log2_lt h3).mpr (Vj hc.2);omega
end
end L2
namespace Hs
open PySem L2 lQ
theorem Kw(m n:Nat):Nat.gcd n (m %n)=Nat.gcd m n:=by
 rw[Nat.gcd_comm m n,Nat.gcd_rec n m,Nat.gcd_comm]
structure Low(a:Int)(b:Nat)(u:Int)(v:Nat):Prop where
 pos:0<v
 cop:Nat.gcd u.natAbs v=1
 eq:u*(b:Int)=a*(v:Int)
 lu:u.natAbs<=a.natAbs
 lv:v<=b
 nn:0<=a->0<=u
theorem J9(a:Int)(b:Nat)(hb:0<b):Low a b (a/((Nat.gcd a.natAbs b:Nat):Int)) (b/Nat.gcd a.natAbs b):=by
 have hg:0<Nat.gcd a.natAbs b:=wek _ hb;obtain⟨x,hx⟩:((Nat.gcd a.natAbs b:Nat):Int)∣a:=Int.natAbs_dvd_natAbs.mp (by rw[Xf];exact Nat.gcd_dvd_left _ _);obtain⟨y,hy⟩:=wel a.natAbs b;generalize hgg:Nat.gcd a.natAbs b=g at *;have e1:a/(g:Int)=x:=by rw[hx];exact weg _ (by omega)
 have e2:b/g=y:=by rw[hy];exact wet _ hg
 rw[e1,e2];have hna:a.natAbs=g*x.natAbs:=by rw[hx,WW];rfl
 have hy0:0<y:=by
  rcases wdw y with h|h
  ·subst h;simp at hy;omega
  ·exact h
 refine⟨hy0,?_,?_,?_,?_,fun h=> ?_⟩
 ·have h2:Nat.gcd (g*x.natAbs) (g*y)=g:=by rw[<-hna,<-hy];exact hgg
  rw[Nat.gcd_mul_left]at h2;have h3:g*Nat.gcd x.natAbs y=g*1:=by omega
  exact Nat.eq_of_mul_eq_mul_left hg h3
 ·rw[hx];have:(b:Int)=(g:Int)*(y:Int):=by rw[hy];exact Int.natCast_mul _ _
  rw[this,Ey (g:Int) x,Vv]
 ·rw[hna];exact wfa _ hg
 ·rw[hy];exact wfa _ hg
 ·rw[<-e1];exact wfh h (by omega)
theorem abs_eq(i:Int):(if i<0 then -i else i)=((i.natAbs:Nat):Int):=by split<;>omega
theorem Uz(a:Int)(b:Nat)(hb:0<b):Nat.gcd a.natAbs b<=b:=Nat.le_of_dvd hb (wel _ _)
section
variable{P:ξ}{w:τ}{K:W.Frag}{mg:L4}{base:Heap}
noncomputable def XH(K:W.Frag):Sp:=fun vs H Q _=>∃(m n:Nat),vs=[.int m,.int n]/\Q (.int ((Nat.gcd m n:Nat):Int)) H
theorem Yh{f:Addr}{fd:ρ}(F:Fun K "greatest_divisor" "greatest_divisor" zca f fd):FnOk P w K mg base CX0 1 f fd ["one","other"] (XH K):=by
 refine F.dG ["one","other","rest"] fun cdv A outer s H vs Q E hr h=> ?_;obtain⟨m,n,rfl,q⟩:=h;refine bw ?_;intro Y;refine⟨_,aV (ps_while Aa (pt_truth (pv 1) (fun _=>rfl)) (aV (pS 2 (cu op_mod (pv 0) (pv 1))) (aV (pS 0 (pv 1)) (bf (pS 1 (pv 2)))))) (bf (cD (pv 0))),?_⟩;refine gU ?_;intro c2;refine⟨fun k σ H'=>H'=H/\∃(m':Nat) (r:Option V),σ=[some (.int (m':Int)),some (.int (k:Int)),r]/\Nat.gcd m' k=Nat.gcd m n,⟨n,rfl,m,_,rfl,rfl⟩,?_⟩;rintro k σ H' ⟨rfl,m',r,rfl,hg⟩;refine⟨_,rfl,_,rfl,?_⟩;refine ite2 (fun c=> ?_) (fun c=> ?_)
 ·have hk:0<k:=by
   rcases wdw k with h|h
   ·subst h;exact absurd c (by decide)
   ·exact h
  refine⟨fun σ' H2=>H2=H'/\∃r',σ'=[some (.int (k:Int)),some (.int ((m' %k:Nat):Int)),r'],fun σ' H2 ⟨e1,r',e2⟩=>⟨m' %k,Nat.mod_lt _ hk,e1,k,r',e2,?_⟩,?_⟩
  ·rw[Kw];exact hg
  ·exact⟨_,rfl,_,rfl,_,_,rfl,rfl,Int.ofNat_lt.mpr hk,_,rfl,_,rfl,rfl,_,rfl⟩
 ·have hk:k=0:=by
   rcases wdw k with h|h
   ·exact h
   ·exfalso;apply c;show((k:Int) !=0)=true;simp;omega
  subst hk;rw[Nat.gcd_zero_right]at hg;refine⟨_,rfl,?_⟩;rw[hg];exact q
noncomputable def uz(K:W.Frag):Sp:=fun vs H Q _=>∃(a:Int) (b:Nat),vs=[.int a,.int b]/\0<b/\b<=10^200/\∀p H' u v,Same H H'->H' p=some (.tup [.int u,.int ((v:Nat):Int)])->Low a b u v->Q (.ref p) H'
theorem OJ{H:Hp}{a:Int}{b:Nat}{p:Addr}(hp:H p=none):(upd H p (.tup [.int (a/((Nat.gcd a.natAbs b:Nat):Int)),.int ((b:Int)/((Nat.gcd a.natAbs b:Nat):Int))])) p=some (.tup [.int (a/((Nat.gcd a.natAbs b:Nat):Int)),.int (((b/Nat.gcd a.natAbs b:Nat)):Int)]):=by
 rw[aJ,Int.natCast_ediv]
theorem TY{f f1:Addr}{fd d1:ρ}(F:Fun K "lowest" "lowest" fQ f fd)(D1:bQ K mg "greatest_divisor" zca ["one","other"] f1 d1)(G1:FnOk P w K mg base CX0 1 f1 d1 ["one","other"] (XH K))(mA:mg "abs"=none):
  FnOk P w K mg base CX0 2 f fd ["a","b"] (uz K):=by
 refine F.dG ["a","b","by"] fun cdv A outer s H vs Q E hr h=> ?_;obtain⟨a,b,rfl,hb,hB,q⟩:=h;refine bw ?_;intro Y;refine⟨_,aV (pS 2 (pc G1 hr D1 (aj (pB call_abs mA (aj (pv 0) ao)) (aj (pv 1) ao)))) (bf (cD (qu (aj (cu yg (pv 0) (pv 2)) (aj (cu yg (pv 1) (pv 2)) ao))))),?_⟩;refine gU ?_;intro c2;refine⟨_,rfl,a,rfl,_,rfl,a.natAbs,b,?_,?_⟩
 ·rw[abs_eq];rfl
 have hg:0<Nat.gcd a.natAbs b:=wek _ hb;have hg2:(((Nat.gcd a.natAbs b:Nat):Int)).natAbs<=10^200:=eN (Uz a b hb) hB;refine⟨_,rfl,_,rfl,_,_,rfl,rfl,⟨Int.ofNat_lt.mpr hg,hg2⟩,_,rfl,_,rfl,_,_,rfl,rfl,⟨Int.ofNat_lt.mpr hg,hg2⟩,(by show 2<=sizeLine;decide),fun p hp=> ?_⟩;exact q p _ _ _ (aY hp _) (OJ hp) (J9 a b hb)
end
end Hs
namespace lQ
open PySem L2
noncomputable def eY(n:Int)(ts:L0)(i:Int):List Int:=((List.range n.toNat).map fun k=>(0+(k:Nat):Int)).filter fun j=>ak ts i j
end lQ
namespace Hs
open PySem L2 lQ
section
variable{P:ξ}{w:τ}{K:W.Frag}{mg:L4}{base:Heap}
noncomputable def oZ(K:W.Frag):Sp:=fun vs H Q _=>∃(a:Addr) (n i:Int) (t:V),vs=[.ref a,.int i]/\SqT K H a [.int n,t]/\0<=i/\i<n/\Q .non H
theorem vK{f f1:Addr}{fd d1:ρ}(F:Fun K "need_place" "need_place" iu f fd)(D1:bQ K mg "is_place" iy ["n","thing"] f1 d1)(G1:FnOk P w K mg base CX0 2 f1 d1 ["n","thing"] (uX K)):FnOk P w K mg base CX0 3 f fd ["web","thing"] (oZ K):=by
 refine F.dG ["web","thing"] fun cdv A outer s H vs Q E hr h=> ?_;obtain⟨a,n,i,t,rfl,hS,h0,h1,q⟩:=h;refine⟨_,bf (gZ (pt_not (zU (pc G1 hr D1 (aj (bA eG (pv 0) aL) (aj (pv 1) ao))))) pss_never iJ),?_⟩;refine⟨_,rfl,a,_,_,.int n,rfl,rfl,hS,rfl,_,rfl,n,.int i,.int i,rfl,.int i,_,rfl,?_⟩;have e:bU n (.int i)=true:=by show(decide (0<=i)&&decide (i<n))=true;rw[dB h0,dB h1];rfl
 rw[e];exact iteF q
noncomputable def uZ(K:W.Frag):Sp:=fun vs H Q _=>∃(a:Addr) (n i:Int) (ts:L0),vs=[.ref a,.int i]/\mY K H a n ts/\Lk n ts/\(0<=i/\i<n)/\n<=10/\∀r H',Same H H'->H' r=some (.tup ((eY n ts i).map V.int))->Q (.ref r) H'
theorem JT{f f1 f2 f3:Addr}{fd d1 d2 d3:ρ}(F:Fun K "neighbours" "neighbours" fj f fd)(D1:bQ K mg "need_web" HN ["thing"] f1 d1)(G1:FnOk P w K mg base CX0 7 f1 d1 ["thing"] (cA K))(D2:bQ K mg "need_place" iu ["web","thing"] f2 d2)(G2:FnOk P w K mg base CX0 3 f2 d2 ["web","thing"] (oZ K))(D3:bQ K mg "has_tie" fK ["web","one","other"] f3 d3)(G3:FnOk P w K mg base CX0 1 f3 d3 ["web","one","other"] (xJ K))(mT:mg "tuple"=none)(mR:mg "range"=none):FnOk P w K mg base CX0 8 f fd ["web","place"] (uZ K):=by
 refine F.dG ["web","place"] fun cdv A outer s H vs Q E hr h=> ?_;obtain⟨a,n,i,ts,rfl,hW,hok,hi,hn,q⟩:=h;refine⟨_,aV (qR (pc G1 hr D1 (aj (pv 0) ao))) (aV (qR (pc G2 hr D2 (aj (pv 0) (aj (pv 1) ao)))) (bf (cD (pT Hi mT (aj (pK ["other"] ["web","place"] [0,1] (wQ rfl mR (aj (bA eG (pv 0) aL) ao)) (pG 0) (HD (zU (pc G3 hr D3 (aj (pv 1) (aj (pv 2) (aj (pv 0) ao)))))) (pv 0)) ao))))),?_⟩;refine⟨_,rfl,_,_,rfl,hW.dv.dx,hok,fun H1 s1=> ?_⟩;obtain⟨t,rs,h1,h2,h3⟩:=hW.same s1;refine⟨_,rfl,_,rfl,a,n,i,_,rfl,h1,hi.1,hi.2,?_⟩;refine⟨_,rfl,a,_,_,.int n,rfl,rfl,h1,rfl,n,rfl,by omega,by omega,?_⟩;refine CG (fun k acc σ H'=>acc=(((List.range k).map fun k=>(0+(k:Nat):Int)).filter fun j=>ak ts i j).map V.int/\Same H1 H'/\∃o,σ=[o,some (.ref a),some (.int i)]) ⟨rfl,Same.refl _,_,rfl⟩ (fun k acc σ H' hk p=> ?_) (by rw[eX];omega) (fun k acc σ H' hk p=> ?_) (fun acc σ H' p=> ?_)
 ·rw[p.1,aG];refine eN (Af _ _) ?_;simp
 ·obtain⟨rfl,sm,o,rfl⟩:=p;refine⟨_,rfl,_,rfl,_,rfl,a,n,i,_,ts,rfl,hW.same (s1.trans sm),fun H2 s2=>⟨_,rfl,?_⟩⟩;have ea:((List.range (k+1)).map fun k=>(0+(k:Nat):Int)).filter (fun j=>ak ts i j)=((List.range k).map fun k=>(0+(k:Nat):Int)).filter (fun j=>ak ts i j)++(if ak ts i (0+(k:Int))=true then[0+(k:Int)]else[]):=by
   rw[wU,bW,Mh];congr 1;show List.filter _ [0+(k:Int)]=_;rw[qT];rfl
  rw[ea];refine ite2 (fun c=> ?_) (fun c=> ?_)
  ·refine⟨_,rfl,?_,sm.trans s2,_,rfl⟩;rw[aA c,bW];rfl
  ·refine⟨?_,sm.trans s2,_,rfl⟩;rw[aq c,tL]
 ·intro p1 hp1;obtain⟨rfl,sm,_⟩:=p;refine⟨p1,_,rfl,.inl ⟨SqL.of aJ,fun l hl=> ?_⟩⟩;exact q l _ (s1.trans (sm.trans ((aY hp1 _).trans (aY hl _)))) aJ
end
end Hs
namespace L2
open PySem
theorem bO.snoc{K:W.Frag}{H:Hp}{xs:List V}{ds:List θ}{x:V}{d:θ}(h:bO K H xs ds)(h':DV K H x d):bO K H (xs++[x]) (ds++[d]):=h.append (.cons h' .nil)
end L2
namespace Hs
open PySem L2 lQ
theorem tY{α β γ:Type}{f:α->β}{g:β->γ}{l:List α}{i:Nat}(hi:i<l.length):((l.take i).map f).map g++[g (f l[i])]=((l.take (i+1)).map f).map g:=by
 rw[CN,eO hi,bW,bW];rfl
section
variable{P:ξ}{w:τ}{K:W.Frag}{mg:L4}{base:Heap}
noncomputable def dh(n no:Int)(ts bx:L0)(ys:List Int):Bool:=decide ((ys.length:Int)=n)&&(ys.all (fun y=>decide (0<=y)&&decide (y<no))&&ts.all fun p=>ak bx (ys.getD p.1.toNat 0) (ys.getD p.2.toNat 0))
noncomputable def Q0(K:W.Frag):Sp:=fun vs H Q _=>∃(a o sm:Addr) (n no:Int) (ts bx:L0) (ys:List Int),vs=[.ref a,.ref o,.ref sm]/\aZ K H a n ts/\aZ K H o no bx/\SqT K H sm (ys.map V.int)/\
 ∀H',Same H H'->Q (.bl (dh n no ts bx ys)) H'
theorem Ci(no:Int)(ys:List Int):(ys.map PyData.int).all (bU no)=ys.all (fun y=>decide (0<=y)&&decide (y<no)):=by rw[Vt];rfl
theorem Pb(ys:List Int):(V.int ((ys.map V.int).length:Int))=V.int (ys.length:Int):=by rw[aG]
theorem Ko{a b:Int}:(!decide (V.int a=V.int b))= !decide (a=b):=by
 by_cases e:a=b
 ·subst e;simp
 ·rw[fJ e,fJ (by intro z;injection z with z;exact e z)]
theorem Tn{f f1 f2 f3:Addr}{fd d1 d2 d3:ρ}(F:Fun K "is_way" "is_way" rO f fd)(D1:bQ K mg "need_web" HN ["thing"] f1 d1)(G1:FnOk P w K mg base CX0 7 f1 d1 ["thing"] (cA K))(D2:bQ K mg "are_places" fB ["n","things"] f2 d2)(G2:FnOk P w K mg base CX0 3 f2 d2 ["n","things"] (rH K))(D3:bQ K mg "has_tie" fK ["web","one","other"] f3 d3)(G3:FnOk P w K mg base CX0 1 f3 d3 ["web","one","other"] (xJ K))(aK:mg "len"=none)(iG:mg "isinstance"=none)(aX:mg "tuple"=none)(mK:mg "all"=none):
  FnOk P w K mg base CX0 8 f fd ["web","other","some"] (Q0 K):=by
 refine F.dG ["web","other","some"] fun cdv A outer s H vs Q E hr h=> ?_;obtain⟨a,o,sm,n,no,ts,bx,ys,rfl,hA,hO,hY,q⟩:=h;refine bw ?_;intro Y;refine⟨_,(aV (qR (pc G1 hr D1 (aj (pv 0) ao))) (aV (qR (pc G1 hr D1 (aj (pv 1) ao))) (aV (gZ (PW.pt (pw_or (pt_not (zU (pB gn iG (aj (pv 2) (aj (pN "tuple" aX) ao))))) (pw_or (dW op_ne (pB lR aK (aj (pv 2) ao)) (bA eG (pv 0) aL)) (pw_or1 (pt_not (zU (pc G2 hr D2 (aj (bA eG (pv 1) aL) (aj (pv 2) ao))))))))) (bf (cD pe_bl)) iJ) (bf (cD (pB (eF rfl) mK (aj (pK ["i","j"] ["other","some"] [1,2] (Cy (bA eG (pv 0) aL)) (gC K (n:=2) rfl (uq (pG 0) (uq (pG 1) pgs_nil))) qz (pc G3 hr D3 (aj (pv 2) (aj (bA (dU K) (pv 3) (pv 0)) (aj (bA (dU K) (pv 3) (pv 1)) ao))))) ao))))))),?_⟩;refine yP ?_;intro c4 c3 c2;refine⟨_,rfl,_,_,rfl,hA.web.dv.dx,hA.ok,fun H1 s1=> ?_⟩;refine⟨_,rfl,_,_,rfl,(hO.same s1).web.dv.dx,hO.ok,fun H2 s2=> ?_⟩;have s12:=s1.trans s2;obtain⟨ta,ra,a1,a2,a3⟩:=id (hA.same s12).web;obtain⟨to,ro,o1,o2,o3⟩:=id (hO.same s12).web;have Y0:=s12.tup hY;refine⟨_,rfl,.ref sm,"tuple",_,rfl,.inl ⟨rfl,_,Y0⟩,.inr (.inr (.inl rfl)),_,rfl,?_⟩;refine iteF ?_;refine⟨_,rfl,sm,_,rfl,.inr Y0,fun hz=>⟨_,rfl,a,_,_,.int n,rfl,rfl,a1,rfl,rfl,_,rfl,?_⟩⟩;rw[Pb,Ko];refine ite2 (fun c=> ?_) (fun c=> ?_)
 ·have e:dh n no ts bx ys=false:=by unfold dh;rw[fJ (by simpa using c)];rfl
  have:=q H2 s12;rw[e]at this;exact this
 have hlen:(ys.length:Int)=n:=by simpa using c
 refine⟨_,rfl,o,_,_,.int no,rfl,rfl,o1,rfl,_,rfl,no,sm,_,_,rfl,Y0,bO.dx (bO.ints ys),fun H3 s3=>⟨_,rfl,?_⟩⟩;rw[Ci];refine ite2 (fun c2=> ?_) (fun c2=> ?_)
 ·have e:dh n no ts bx ys=false:=by unfold dh;rw[show ys.all (fun y=>decide (0<=y)&&decide (y<no))=false by simpa using c2];simp
  have:=q H3 (s12.trans s3);rw[e]at this;exact this
 have hall:ys.all (fun y=>decide (0<=y)&&decide (y<no))=true:=by simpa using c2
 refine⟨_,rfl,a,_,_,.ref ta,rfl,rfl,s3.tup a1,rfl,ta,ra,rfl,s3.tup a2,fun hz2=> ?_⟩;have h45:=hA.len;have hra:=a3.len;rw[aG]at hra;let gO:Nat->List V->St->Hp->Prop:=fun i acc σ H'=>acc=((ts.take i).map fun p=>ak bx (ys.getD p.1.toNat 0) (ys.getD p.2.toNat 0)).map V.bl/\Same H3 H'/\∃o1 o2,σ=[o1,o2,some (.ref o),some (.ref sm)];refine LR (xs:=ra) gO ⟨rfl,Same.refl _,_,_,rfl⟩ (fun i acc σ H' _ p=>p.2.1.tup (s3.tup a2)) (fun i acc σ H' hi p=> ?_) hz2 (fun i x acc σ H' hx p=> ?_) (fun acc σ H' p=> ?_)
 ·rw[p.1];simp;omega
 ·obtain⟨rfl,sm',b1,b2,rfl⟩:=p;obtain⟨t,hi,rfl,ht⟩:=qL a3 hx;have Rh:=s3.trans sm';have hp:=hA.pk.lt ts[i] (zX _);have hO':=(hO.same (s12.trans Rh)).web;refine⟨t,_,rfl,Rh.tup ht,rfl,_,_,rfl,_,_,rfl,rfl,?_⟩;refine⟨_,rfl,_,rfl,_,rfl,sm,_,_,_,rfl,rfl,Rh.tup Y0,Lh hp.1 (by omega),_,rfl,_,rfl,sm,_,_,_,rfl,rfl,Rh.tup Y0,Lh (by omega) (by omega),?_⟩;refine⟨o,no,_,_,bx,rfl,hO',fun H5 s5=>⟨?_,sm'.trans s5,_,_,rfl⟩⟩;exact tY (f:=fun p:Int×Int=>ak bx (ys.getD p.1.toNat 0) (ys.getD p.2.toNat 0)) hi
 ·intro p1 hp1;obtain⟨rfl,sm',_⟩:=p;refine⟨p1,(ts.map fun p=>ak bx (ys.getD p.1.toNat 0) (ys.getD p.2.toNat 0)),rfl,SqL.of (by rw[aJ,hra,Ae]),?_⟩;have:=q _ (s12.trans (s3.trans (sm'.trans (aY hp1 (.lst (((ts.take ra.length).map fun p=>ak bx (ys.getD p.1.toNat 0) (ys.getD p.2.toNat 0)).map V.bl))))));rw[mX];have e:dh n no ts bx ys=ts.all fun p=>ak bx (ys.getD p.1.toNat 0) (ys.getD p.2.toNat 0):=by unfold dh;rw[dB hlen,hall];rfl
  rw[e]at this;exact this
theorem Paired.at_{α β:Type}{R:α->β->Prop}:∀{l:List α} {m:List β} {i:Nat} {a:α},Paired R l m->l[i]? =some a->∃b,m[i]? =some b/\R a b
 |_,_,_,_,.nil,e=>by simp at e
 |_,_,0,_,.cons r _,e=>by simp at e;subst e;exact⟨_,rfl,r⟩
 |_,_,i+1,a,.cons _ t,e=>by
  obtain⟨b,h1,h2⟩:=Paired.at_ (i:=i) (a:=a) t (by simpa using e);exact⟨b,by simpa using h1,h2⟩
theorem Paired.tZ{α β:Type}{R:α->β->Prop}:∀{l:List α} {m:List β},Paired R l m->l.length=m.length
 |_,_,.nil=>rfl
 |_,_,.cons _ t=>by simp[Paired.tZ t]
theorem uL{n y z:Int}{ts:L0}:z∈eY n ts y↔(0<=z/\z<n)/\ak ts y z=true:=by
 unfold eY;rw[dO,fG];constructor
 ·rintro⟨⟨k,hk,rfl⟩,h⟩;have:=lO.mp hk;exact⟨⟨by omega,by omega⟩,h⟩
 ·rintro⟨⟨a,b⟩,h⟩;exact⟨⟨z.toNat,lO.mpr (by omega),by omega⟩,h⟩
theorem gG(ts:L0)(i j:Int):ak ts i j=ak ts j i:=by
 unfold ak;congr 2;rcases wcp i j with c|c|c
 ·rw[aq (by omega),aA (show j>i by omega),aA c,aq (show¬i>j by omega)]
 ·subst c;rfl
 ·rw[aA c,aq (show¬j>i by omega),aq (by omega),aA (show i>j by omega)]
theorem zq{H:Hp}:∀{l:List Int} {xs:List V},bO K H xs (l.map PyData.int)->xs=l.map V.int
 |[],_,h=>by cases h;rfl
 |i::l,_,h=>by
  cases h with
  |cons a t=>rw[zq t];cases a;rfl
noncomputable def Lp(K:W.Frag)(H:Hp):List (Addr×Addr)->NK.SK->Prop:=Paired fun i p=>SqT K H i.1 [.int p.1,.ref i.2]/\SqT K H i.2 (p.2.map V.int)
theorem Dd{H:Hp}{b:Addr}{k:NK.SK}(h:DV K H (.ref b) (NK.toD k)):∃its:List (Addr×Addr),SqT K H b (its.map fun i=>V.ref i.1)/\Lp K H its k:=by
 have go:∀{k:NK.SK} {xs:List V},bO K H xs (k.map NK.uG)->∃its:List (Addr×Addr),xs=its.map (fun i=>V.ref i.1)/\Lp K H its k:=fun{k}=>by
  induction k with
  |nil=>intro xs h;cases h;exact⟨[],rfl,.nil⟩
  |cons p k ih=>
   intro xs h;cases h with
   |cons a t=>
    obtain⟨its,rfl,r⟩:=ih t;unfold NK.uG at a;cases a with
    | @tup a ys _ hs ht=>
     cases ht with
     |cons h1 t1=>
      cases h1;cases t1 with
      |cons h2 t2=>
       cases t2;cases h2 with
       | @tup q zs _ hq hz=>
        have:=zq hz;subst this;exact⟨(a,q)::its,rfl,.cons ⟨hs,hq⟩ r⟩
 unfold NK.toD at h;cases h with
 | @tup a xs _ hs ht=>
  obtain⟨its,rfl,r⟩:=go ht;exact⟨its,hs,r⟩
theorem Rn{H:Hp}{b:Addr}{k:NK.SK}{its:List (Addr×Addr)}(h:SqT K H b (its.map fun i=>V.ref i.1))(r:Lp K H its k):DV K H (.ref b) (NK.toD k):=by
 refine .tup h ?_;clear h
 induction r with
 |nil=>exact .nil
 |cons a _ ih=>exact .cons (.tup a.1 (.cons (.int _) (.cons (.tup a.2 (bO.ints _)) .nil))) ih
theorem Lp.same{H H':Hp}{its:List (Addr×Addr)}{k:NK.SK}(h:Lp K H its k)(e:Same H H'):Lp K H' its k:=Paired.mapP h fun _ _ z=>⟨e.tup z.1,e.tup z.2⟩
theorem Lp.bL{H H':Hp}{t:Addr}{zs:List V}{its:List (Addr×Addr)}{k:NK.SK}(h:Lp K H its k)(e:aF t H H')(hn:H t=some (.lst zs)):Lp K H' its k:=Paired.mapP h fun _ _ z=>⟨e.tup hn z.1,e.tup hn z.2⟩
noncomputable def KZ(ln lf d:Addr):List (Str×V):=[("near",.ref ln),("far",.ref lf),("led_nowhere",.ref d)]
structure SeA(K:W.Frag)(C:Addr)(H:Hp)(o dx ln lf d:Addr)(nn ff:List Addr)(n no:Int)(ts bx:L0):Prop where
 at_:H o=some (.ins C dx (KZ ln lf d))
 near:SqL K H ln (nn.map V.ref)
 nlen:(nn.length:Int)=n
 ntup:∀(i:Nat) a,nn[i]? =some a->SqT K H a ((eY n ts (i:Int)).map V.int)
 far:SqL K H lf (ff.map V.ref)
 Vc:(ff.length:Int)=no
 Vb:∀(i:Nat) a,ff[i]? =some a->SqT K H a ((eY no bx (i:Int)).map V.int)
noncomputable def Mt(K:W.Frag)(C:Addr)(H:Hp)(o d:Addr)(n no:Int)(ts bx:L0):Prop:=∃dx ln lf nn ff,SeA K C H o dx ln lf d nn ff n no ts bx
theorem Mt.same{C:Addr}{H H':Hp}{o d:Addr}{n no:Int}{ts bx:L0}(h:Mt K C H o d n no ts bx)(e:Same H H'):Mt K C H' o d n no ts bx:=by
 obtain⟨dx,ln,lf,nn,ff,h⟩:=h;exact⟨dx,ln,lf,nn,ff,e _ _ h.at_,e.seq h.near,h.nlen,fun i a z=>e.tup (h.ntup i a z),e.seq h.far,h.Vc,fun i a z=>e.tup (h.Vb i a z)⟩
theorem Dg{H H':Hp}{a b:Addr}{φ:Heap->Prop}{xs:List V}(ha:H a=some (.ext φ))(e:∀c o,c≠a->H c=some o->H' c=some o)(h:SqL K H b xs):SqL K H' b xs:=by
 rcases h with(q|⟨o,q⟩)|q
 ·exact .inl (.inl (e _ _ (fun z=>by rw[z,ha]at q;cases q) q))
 ·exact .inl (.inr ⟨o,e _ _ (fun z=>by rw[z,ha]at q;cases q) q⟩)
 ·exact .inr q
theorem Mt.but{C:Addr}{H H':Hp}{o d:Addr}{n no:Int}{ts bx:L0}{φ:Heap->Prop}(h:Mt K C H o d n no ts bx)(ha:H d=some (.ext φ))(e:∀c o,c≠d->H c=some o->H' c=some o):Mt K C H' o d n no ts bx:=by
 obtain⟨dx,ln,lf,nn,ff,h⟩:=h;exact⟨dx,ln,lf,nn,ff,e _ _ (fun z=>by have:=h.at_;rw[z,ha]at this;cases this) h.at_,Dg ha e h.near,h.nlen,fun i a z=>jG ha e (h.ntup i a z),Dg ha e h.far,h.Vc,fun i a z=>jG ha e (h.Vb i a z)⟩
theorem Li{as:List Addr}{i:Int}(h0:0<=i)(h1:i<(as.length:Int)):∃a,as[i.toNat]? =some a/\atI (as.map V.ref) i=some (.ref a):=by
 have hi:i.toNat<as.length:=by omega
 refine⟨as[i.toNat],eO hi,?_⟩;have z:atI (as.map V.ref) ((i.toNat:Nat):Int)=some (.ref as[i.toNat]):=atI_nat (by rw[cU,eO hi];rfl)
 rwa [show((i.toNat:Nat):Int)=i by omega]at z
noncomputable def xO(K:W.Frag):Sp:=fun vs H Q _=>∃(b:Addr) (k:NK.SK),vs=[.ref b]/\DV K H (.ref b) (NK.toD k)/\k.length<=10/\∀H',Same H H'->Q (.bl (k.all fun p=> !p.2.isEmpty)) H'
theorem Ue{f:Addr}{fd:ρ}(F:Fun K "are_left_open" "are_left_open" WL f fd)(mK:mg "all"=none)(aK:mg "len"=none):
  FnOk P w K mg base CX0 1 f fd ["state"] (xO K):=by
 refine F.dG ["state"] fun cdv A outer s H vs Q E hr h=> ?_;obtain⟨b,k,rfl,hk,hl,qq⟩:=h;refine⟨_,(bf (cD (pB (eF rfl) mK (aj (pK ["place","images"] [] [] (Cy (pv 0)) (gC K (n:=2) rfl (uq (pG 0) (uq (pG 1) pgs_nil))) qz (Hg op_gt (pB (oK K) aK (aj (pv 1) ao)) aL)) ao)))),?_⟩;obtain⟨its,h1,h2⟩:=Dd hk;have hlen:=Paired.tZ h2;refine⟨_,rfl,b,_,rfl,h1,fun hz=> ?_⟩;let gO:Nat->List V->St->Hp->Prop:=fun i acc σ H'=>acc=((k.take i).map fun p=> !p.2.isEmpty).map V.bl/\H'=H/\∃o1 o2,σ=[o1,o2];refine LR (xs:=its.map fun i=>V.ref i.1) gO ⟨rfl,rfl,_,_,rfl⟩ (fun i acc σ H' _ p=>by rw[p.2.1];exact h1) (fun i acc σ H' hi p=>by rw[p.1,aG,aG,zY];exact QC _ _) hz (fun i x acc σ H' hx p=> ?_) (fun acc σ H' p=> ?_)
 ·obtain⟨rfl,rfl,o1,o2,rfl⟩:=p;rw[cU]at hx;cases ex:its[i]? with
  |none=>rw[ex]at hx;cases hx
  |some y=>
   rw[ex]at hx;cases hx;obtain⟨p,hp,r1,r2⟩:=Paired.at_ h2 ex;refine⟨y.1,_,rfl,r1,rfl,_,_,rfl,_,_,rfl,rfl,?_⟩;refine⟨_,rfl,y.2,_,rfl,.inr r2,fun _=> ?_⟩;refine⟨_,_,rfl,rfl,?_,rfl,_,_,rfl⟩;have eb:decide ((0:Int)<(((p.2.map V.int).length:Nat):Int))= !p.2.isEmpty:=by
    rw[aG];cases p.2 with
    |nil=>rfl
    |cons z zs=>exact dB (by simp only[pW];omega)
   show _++[V.bl (decide ((0:Int)<(((p.2.map V.int).length:Nat):Int)))]=_;rw[eb,CN,hp,bW,bW];rfl
 ·intro p1 hp1;obtain⟨rfl,rfl,_⟩:=p;rw[aG,hlen,Ae];refine⟨p1,_,rfl,SqL.of aJ,?_⟩;have e:(k.map fun p=> !p.2.isEmpty).all id=k.all fun p=> !p.2.isEmpty:=by rw[Vt];rfl
  rw[e];exact qq _ (aY hp1 _)
noncomputable def Dr(K:W.Frag):Sp:=fun vs H Q _=>∃(p q:Addr) (i:Int) (l:List Int),vs=[.ref p]/\SqT K H p [.int i,.ref q]/\SqT K H q (l.map V.int)/\Q (.int (l.length:Int)) H
theorem Ud{f:Addr}{fd:ρ}(F:Fun K "count_images" "count_images" WD f fd)(aK:mg "len"=none):
  FnOk P w K mg base CX0 1 f fd ["open_place"] (Dr K):=by
 refine F.dG ["open_place"] fun cdv A outer s H vs Q E hr h=> ?_;obtain⟨p,q,i,l,rfl,hp,hq,qq⟩:=h;refine⟨_,(bf (cD (pB lR aK (aj (bA eG (pv 0) aL) ao)))),?_⟩;refine⟨_,rfl,p,_,_,.ref q,rfl,rfl,hp,rfl,q,_,rfl,.inr hq,fun _=> ?_⟩;rw[aG];exact qq
noncomputable def IW(K:W.Frag)(C:Addr):Sp:=fun vs H Q _=>∃(o d q:Addr) (n no img:Int) (ts bx:L0) (l:List Int),vs=[.ref o,.ref q,.int img]/\Mt K C H o d n no ts bx/\SqT K H q (l.map V.int)/\0<=img/\img<no/\(∀y∈l,0<=y/\y<no)/\
 ∀r H',Same H H'->H' r=some (.tup ((l.filter fun y=>ak bx img y).map V.int))->Q (.ref r) H'
theorem Oi{f C:Addr}{fd:ρ}(F:Fun K "images_left" "Search.images_left" zbv f fd)
  (Cc:Cls K C)(dN:NoAttr K C "near")(gD:NoAttr K C "far")(aH:NoAttr K C "led_nowhere")(aX:mg "tuple"=none):
  FnOk P w K mg base CX0 1 f fd ["self","images","image"] (IW K C):=by
 refine F.dG ["self","images","image"] fun cdv A outer s H vs Q E hr h=> ?_;obtain⟨o,d,q,n,no,img,ts,bx,l,rfl,⟨dx,ln,lf,nn,ff,hS⟩,hq,i0,i1,hl,qq⟩:=h;refine⟨_,(bf (cD (pT Hi aX (aj (pK ["other"] ["self","image"] [0,2] (Cy (pv 1)) (pG 0) (HD (dW (mD K hr.units) (pv 0) (bA (jz K) (DP K (pv 1) rfl) (pv 2)) (by with_unfolding_all rfl))) (pv 0)) ao)))),?_⟩;have fl:=hS.Vc;obtain⟨fa,f1,f2⟩:=Li i0 (show img<(ff.length:Int) by omega);have ft:=hS.Vb _ _ f1;rw[show((img.toNat:Nat):Int)=img by omega]at ft;refine⟨_,rfl,q,_,rfl,hq,fun hz=> ?_⟩;let sZ:Nat->List V->St->Hp->Prop:=fun i acc σ H'=>acc=((l.take i).filter fun y=>ak bx img y).map V.int/\H'=H/\∃o1,σ=[o1,some (.ref o),some (.int img)];refine LR (xs:=l.map V.int) sZ ⟨rfl,rfl,_,rfl⟩ (fun i acc σ H' _ p=>by rw[p.2.1];exact hq) (fun i acc σ H' hi p=> ?_) hz (fun i x acc σ H' hx p=> ?_) (fun acc σ H' p=> ?_)
 ·rw[p.1,aG];exact eN (Af _ _) (by rw[zY];exact QC _ _)
 ·obtain⟨rfl,rfl,o1,rfl⟩:=p;rw[cU]at hx;cases ex:l[i]? with
  |none=>rw[ex]at hx;cases hx
  |some y=>
   rw[ex]at hx;cases hx;have hy:=hl y (qW ex);refine⟨_,rfl,_,rfl,o,C,dx,_,_,rfl,hS.at_,Cc,gD,rfl,_,rfl,lf,_,_,.ref fa,rfl,rfl,hS.far,f2,fa,_,_,.int y,rfl,.inr ft,bO.ints _,.int _,qC _,rfl,(by show 0<=60;decide),_,rfl,?_⟩;have em:((eY no bx img).map PyData.int).any (fun d=>PyData.eqv d (.int y))=ak bx img y:=by
    rw[Mu,pY,wW,uL];exact⟨fun z=>z.2,fun z=>⟨hy,z⟩⟩
   rw[em];have go:(l.take (i+1)).filter (fun y=>ak bx img y)=(l.take i).filter (fun y=>ak bx img y)++(if ak bx img y=true then[y]else[]):=by
    rw[CN,ex,Mh];congr 1;show List.filter _ [y]=_;rw[qT];rfl
   refine ite2 (fun c=> ?_) (fun c=> ?_)
   ·exact⟨_,rfl,by rw[go,aA c,bW];rfl,rfl,_,rfl⟩
   ·exact⟨by rw[go,aq c,tL],rfl,_,rfl⟩
 ·intro p1 hp1;obtain⟨rfl,rfl,_⟩:=p;rw[aG,Ae];refine⟨p1,_,rfl,.inl ⟨SqL.of aJ,fun r hr'=> ?_⟩⟩;exact qq r _ ((aY hp1 _).trans (aY hr' _)) aJ
theorem Lg{T U:Int->Int->Bool}{k:NK.SK}{l img:Int}{i:Nat}{p:Int×List Int}(h:k[i]? =some p):Sw.pJ T U (k.take (i+1)) l img=Sw.pJ T U (k.take i) l img++(if T l p.1=true then[(p.1,p.2.filter fun y=>U img y)]else if p.1=l then[]else[p]):=by
 unfold Sw.pJ;rw[CN,h,List.filterMap_append];congr 1;show List.filterMap _ [p]=_;rw[Xi];by_cases c:T l p.1=true
 ·rw[aA c,aA c];rfl
 ·rw[aq c,aq c];by_cases c2:p.1=l
  ·rw[aA c2,aA c2];rfl
  ·rw[aq c2,aq c2];rfl
noncomputable def rF(K:W.Frag)(C:Addr):Sp:=fun vs H Q _=>∃(o d b:Addr) (n no l img:Int) (ts bx:L0) (k:NK.SK),vs=[.ref o,.ref b,.int l,.int img]/\Mt K C H o d n no ts bx/\DV K H (.ref b) (NK.toD k)/\k.length<=10/\(0<=l/\l<n)/\(0<=img/\img<no)/\Sw.Wu n no k/\
 ∀r H',Same H H'->DV K H' (.ref r) (NK.toD (Sw.pJ (ak ts) (ak bx) k l img))->Q (.ref r) H'
theorem Oj{f f1 C:Addr}{fd d1:ρ}(F:Fun K "state_behind" "Search.state_behind" WM f fd)
  (Cc:Cls K C)(dN:NoAttr K C "near")(gD:NoAttr K C "far")(aH:NoAttr K C "led_nowhere")(D1:qg K C "images_left" "Search.images_left" zbv ["self","images","image"] f1 d1)(G1:FnOk P w K mg base CX0 1 f1 d1 ["self","images","image"] (IW K C))(aX:mg "tuple"=none):
  FnOk P w K mg base CX0 2 f fd ["self","state","led","image"] (rF K C):=by
 refine F.dG ["self","state","led","image","rest","place","images"] fun cdv A outer s H vs Q E hr h=> ?_;obtain⟨o,d,b,n,no,l,img,ts,bx,k,rfl,Y5,hk,YL,hl,hi,hO,qq⟩:=h;refine bw ?_;intro Y;refine⟨_,(aV (pS 4 (Ad ao)) (aV (ps_for Aa rfl (Cy (pv 1)) (pg_tup rfl (uq (pG 5) (uq (pG 6) pgs_nil))) (bf (gZ (dW (nT hr.units) (pv 5) (bA jf (lN (pv 0) rfl) (pv 2)) (by with_unfolding_all rfl)) (bf (qR (pe_bm Hv V3 V2 mt_append (pv 4) (aj (qu (aj (pv 5) (aj (Cw (pv 0) Cc D1.m G1 hr D1.b .nil pass0 (aj (pv 6) (aj (pv 3) ao))) ao))) ao)))) (bf (gZ (dW op_ne (pv 5) (pv 2)) (bf (qR (pe_bm Hv V3 V2 mt_append (pv 4) (aj (qu (aj (pv 5) (aj (pv 6) ao))) ao)))) iJ))))) (bf (cD (pT Hi aX (aj (pv 4) ao)))))),?_⟩;refine jA ?_;intro c3 c2;obtain⟨its,h1,h2⟩:=Dd hk;have hlen:=Paired.tZ h2;refine⟨(by show 0<=sizeLine;decide),fun rl hrl=> ?_⟩;have s1:=aY hrl (.lst []);have e1:(upd H rl (.lst [])) rl=some (.lst []):=aJ;generalize (upd H rl (.lst []))=H1 at *;refine⟨_,rfl,b,_,rfl,s1.tup h1,fun hz=> ?_⟩;let gO:Nat->St->Hp->Prop:=fun i σ H'=>∃(its':List (Addr×Addr)) (o5 o6:Option V),σ=[some (.ref o),some (.ref b),some (.int l),some (.int img),some (.ref rl),o5,o6]/\Same H H'/\H' rl=some (.lst (its'.map fun i=>V.ref i.1))/\Lp K H' its' (Sw.pJ (ak ts) (ak bx) (k.take i) l img)/\its'.length<=i;refine for_tup (K:=K) (a:=b) (xs:=its.map fun i=>V.ref i.1) gO
  ⟨[],_,_,rfl,s1,e1,.nil,aN _⟩ (fun i σ H' _ p=> ?_) (fun i x σ H' hx p=> ?_) (fun σ H' p=> ?_)
 ·obtain⟨_,_,_,_,xx,_⟩:=p;exact xx.tup h1
 ·obtain⟨its',o5,o6,rfl,xx,er,hst,hil⟩:=p;rw[cU]at hx;cases ex:its[i]? with
  |none=>rw[ex]at hx;cases hx
  |some y=>
   rw[ex]at hx;cases hx;obtain⟨p,hp,r1,r2⟩:=Paired.at_ h2 ex;have aax:i<its.length:=(lV.mp ex).1;have pm:=qW hp;have pl:=hO.pl p pm;have r1':=xx.tup r1;have r2':=xx.tup r2;have hS':=Y5.same xx;obtain⟨dx,ln,lf,nn,ff,hS⟩:=id hS';have nl:=hS.nlen;obtain⟨na,f1,f2⟩:=Li hl.1 (show l<(nn.length:Int) by omega);have nt:=hS.ntup _ _ f1;rw[show((l.toNat:Nat):Int)=l by omega]at nt;have szl:its'.length<sizeLine:=by rw[eX];omega
   have step:=Lg (T:=ak ts) (U:=ak bx) (l:=l) (img:=img) hp;refine⟨y.1,_,rfl,r1',rfl,_,_,rfl,_,_,rfl,rfl,?_⟩;refine⟨_,rfl,_,rfl,o,C,dx,_,_,rfl,hS.at_,Cc,dN,rfl,_,rfl,ln,_,_,.ref na,rfl,rfl,hS.near,f2,na,_,_,.int p.1,rfl,.inr nt,bO.ints _,.int _,qC _,rfl,(by show 0<=60;decide),_,rfl,?_⟩;have em:((eY n ts l).map PyData.int).any (fun d=>PyData.eqv d (.int p.1))=ak ts l p.1:=by
    rw[Mu,pY,wW,uL];exact⟨fun z=>z.2,fun z=>⟨pl,z⟩⟩
   rw[em];refine ite2 (fun c=> ?_) (fun c=> ?_)
   ·rw[aA c]at step;refine⟨_,rfl,.inl ⟨rfl,_,SqL.of er⟩,_,rfl,_,rfl,o,dx,_,rfl,hS.at_,rfl,_,rfl,_,rfl,o,d,y.2,n,no,img,ts,bx,p.2,rfl,hS',r2',hi.1,hi.2,(hO.im p pm).1,fun r H2 s2 e2=>⟨(by show 2<=sizeLine;decide),fun pn hpn=> ?_⟩⟩;have s3:=aY hpn (.tup [.int p.1,.ref r]);have Qe:=s3 _ _ (s2 _ _ er);refine⟨rl,_,_,rfl,rfl,Qe,(by rw[aG];exact szl),?_⟩;have x4:aF rl (upd H2 pn (.tup [.int p.1,.ref r])) (upd (upd H2 pn (.tup [.int p.1,.ref r])) rl (.lst (its'.map (fun i=>V.ref i.1)++[.ref pn]))):=(aF.refl _ _).upd;refine⟨its'++[(pn,r)],_,_,rfl,fun c q z=>x4 c q (j5 z hrl) (s3 _ _ (s2 _ _ (xx _ _ z))),by rw[bW];exact aJ,?_,by rw[g8];show its'.length+1<=i+1;omega⟩;rw[step];have t1:SqT K (upd H2 pn (.tup [.int p.1,.ref r])) pn [.int p.1,.ref r]:=SqT.of aJ;have t2:SqT K (upd H2 pn (.tup [.int p.1,.ref r])) r ((p.2.filter fun y=>ak bx img y).map V.int):=s3.tup (SqT.of e2);exact Paired.snoc (((hst.same s2).same s3).bL x4 Qe) ⟨x4.tup Qe t1,x4.tup Qe t2⟩
   ·rw[aq c]at step;refine⟨_,rfl,_,rfl,rfl,_,rfl,?_⟩;by_cases c2:p.1=l
    ·rw[aA c2]at step;have eb:(!decide (V.int p.1=V.int l))=false:=by rw[c2,dB rfl];rfl
     rw[eb];refine iteF ?_;exact⟨its',_,_,rfl,xx,er,by rw[step,tL];exact hst,by omega⟩
    ·rw[aq c2]at step;have eb:(!decide (V.int p.1=V.int l))=true:=by rw[fJ fun z=>c2 (V.int.inj z)];rfl
     rw[eb];refine iteT ?_;refine⟨_,rfl,.inl ⟨rfl,_,SqL.of er⟩,_,rfl,_,rfl,(by show 2<=sizeLine;decide),fun pn hpn=> ?_⟩;have s3:=aY hpn (.tup [.int p.1,.ref y.2]);have Qe:=s3 _ _ er;refine⟨rl,_,_,rfl,rfl,Qe,(by rw[aG];exact szl),?_⟩;have x4:aF rl (upd H' pn (.tup [.int p.1,.ref y.2])) (upd (upd H' pn (.tup [.int p.1,.ref y.2])) rl (.lst (its'.map (fun i=>V.ref i.1)++[.ref pn]))):=(aF.refl _ _).upd;refine⟨its'++[(pn,y.2)],_,_,rfl,fun c q z=>x4 c q (j5 z hrl) (s3 _ _ (xx _ _ z)),by rw[bW];exact aJ,?_,by rw[g8];show its'.length+1<=i+1;omega⟩;rw[step];have t1:SqT K (upd H' pn (.tup [.int p.1,.ref y.2])) pn [.int p.1,.ref y.2]:=SqT.of aJ;exact Paired.snoc ((hst.same s3).bL x4 Qe) ⟨x4.tup Qe t1,x4.tup Qe (s3.tup r2')⟩
 ·obtain⟨its',o5,o6,rfl,xx,er,hst,hil⟩:=p;rw[aG,hlen,Ae]at hst;refine⟨_,rfl,rl,_,rfl,.inl ⟨SqL.of er,fun r hr'=> ?_⟩⟩;have s5:=aY hr' (.tup (its'.map fun i=>V.ref i.1));exact qq r _ (xx.trans s5) (Rn (SqT.of aJ) (hst.same s5))
theorem Ak{H H':Hp}{a b C dx:Addr}{fs:List (Str×V)}{xs:List V}(ha:H a=some (.ins C dx fs))(e:∀c o,c≠a->H c=some o->H' c=some o)(h:SqT K H b xs):SqT K H' b xs:=by
 rcases h with(q|⟨o,q⟩)|q
 ·exact .inl (.inl (e _ _ (fun z=>by rw[z,ha]at q;cases q) q))
 ·exact .inl (.inr ⟨o,e _ _ (fun z=>by rw[z,ha]at q;cases q) q⟩)
 ·exact .inr q
theorem Vd{H H':Hp}{a C dx:Addr}{fs:List (Str×V)}(ha:H a=some (.ins C dx fs))(e:∀c o,c≠a->H c=some o->H' c=some o){xs:List V}{ds:List θ}(h:bO K H xs ds)(hn:NK.gw ds=true):bO K H' xs ds:=
 bO.rec (motive_1:=fun x d _=>NK.yt d=true->DV K H' x d) (motive_2:=fun xs ds _=>NK.gw ds=true->bO K H' xs ds)
  (fun _=> .non) (fun b _=> .bl b) (fun i _=> .int i) (fun x _=> .str x) (fun h _ t hn=> .tup (Ak ha e h) (t hn)) (fun _ _ _ hn=>by cases hn) (fun _ hn=>by cases hn) (fun _ _ hn=>by cases hn) (fun _=> .nil)
  (fun _ _ i1 i2 hn=>by
   have hn':(NK.yt _&&NK.gw _)=true:=hn;rw[jg]at hn';exact .cons (i1 hn'.1) (i2 hn'.2)) h hn
theorem uH:∀ts:L0,NK.gw (ts.map pairD)=true
 |[]=>rfl
 |p::ts=>by show(true&&NK.gw (ts.map pairD))=true;rw[uH ts];rfl
theorem RT{H H':Hp}{a b C dx:Addr}{fs:List (Str×V)}{n:Int}{ts:L0}(ha:H a=some (.ins C dx fs))(e:∀c o,c≠a->H c=some o->H' c=some o)(h:aZ K H b n ts):aZ K H' b n ts:=by
 obtain⟨⟨t,rs,h1,h2,h3⟩,x0,x1,x2,x3⟩:=h;exact⟨⟨t,rs,Ak ha e h1,Ak ha e h2,Vd ha e h3 (uH ts)⟩,x0,x1,x2,x3⟩
noncomputable def Am(K:W.Frag)(C:Addr):Sp:=fun vs H Q _=>∃(o dx a b:Addr) (n no:Int) (ts bx:L0),vs=[.ref o,.ref a,.ref b]/\H o=some (.ins C dx [])/\aZ K H a n ts/\aZ K H b no bx/\
 ∀d H',(∀c q,c≠o->H c=some q->H' c=some q)->Mt K C H' o d n no ts bx->DN K H' d []->H d=none->Q .non H'
theorem Oh{f f1 C:Addr}{fd d1:ρ}(F:Fun K "__init__" "Search.__init__" gK f fd)
  (Cc:Cls K C)(dN:NoAttr K C "near")(gD:NoAttr K C "far")(aH:NoAttr K C "led_nowhere")(D1:bQ K mg "neighbours" fj ["web","place"] f1 d1)(G1:FnOk P w K mg base CX0 8 f1 d1 ["web","place"] (uZ K))(aB:mg "range"=none):
  FnOk P w K mg base CX0 9 f fd ["self","web","other"] (Am K C):=by
 refine F.dG ["self","web","other"] fun cdv A outer s H vs Q E hr h=> ?_;obtain⟨o,dx,a,b,n,no,ts,bx,rfl,Wi,hA,hB,qq⟩:=h;refine bw ?_;intro Y;refine⟨_,(aV (ps_fld (pv 0) (pK ["place"] ["web"] [1] (wQ rfl aB (aj (bA eG (pv 1) aL) ao)) (pG 0) qz (pc G1 hr D1 (aj (pv 1) (aj (pv 0) ao)))) rfl) (aV (ps_fld (pv 0) (pK ["place"] ["other"] [2] (wQ rfl aB (aj (bA eG (pv 2) aL) ao)) (pG 0) qz (pc G1 hr D1 (aj (pv 1) (aj (pv 0) ao)))) rfl) (bf (ps_fld (pv 0) JB rfl)))),?_⟩;refine jA ?_;intro c3 c2;have kk0:∀c q,c≠o->H c=some q->H c=some q:=fun c q _ z=>z;generalize hG:H=G1 at kk0 Wi hA hB⊢;have kk0:∀c q,c≠o->H c=some q->G1 c=some q:=fun c q _ z=>by rw[<-hG];exact z
 obtain⟨tt1,rr1,w1,_,_⟩:=id hA.web;refine⟨_,rfl,a,_,_,.int n,rfl,rfl,w1,rfl,n,rfl,by have:=hA.h0;omega,by have:=hA.h1;omega,?_⟩;let gO:Nat->List V->St->Hp->Prop:=fun i acc σ H'=>∃as:List Addr,acc=as.map V.ref/\as.length=i/\Same G1 H'/\(∀(j:Nat) x,as[j]? =some x->H' x=some (.tup ((eY n ts (j:Int)).map V.int)))/\∃o1,σ=[o1,some (.ref a)];refine CG (n:=n.toNat) gO ⟨[],rfl,rfl,Same.refl _,(fun j x z=>by cases z),_,rfl⟩ (fun i acc σ H' hi p=> ?_) (by rw[eX];have:=hA.h1;omega) (fun i acc σ H' hi p=> ?_) (fun acc σ H' p=> ?_)
 ·obtain⟨as,rfl,hl,_⟩:=p;rw[aG];omega
 ·obtain⟨as,rfl,hl,sm,hh,o1,rfl⟩:=p;have hW:=hA.same sm;refine⟨_,rfl,_,rfl,a,n,0+(i:Int),ts,rfl,hW.web,hW.ok,⟨by omega,by omega⟩,hW.h1,fun r H2 s2 e2=> ?_⟩;refine⟨as++[r],by rw[bW];rfl,by rw[g8,hl];rfl,sm.trans s2,fun j x z=> ?_,_,rfl⟩;rw[Vy]at z;by_cases c:j<as.length
  ·rw[aA c]at z;exact s2 _ _ (hh j x z)
  ·rw[aq c]at z;have ej:j=as.length:=by
    rcases wft (j-as.length) 1 with q|q
    ·omega
    ·rw[HX (by show 1<=_;exact q)]at z;cases z
   rw[ej,Vs]at z;cases z;rw[ej,hl,show((i:Nat):Int)=0+(i:Int) by omega];exact e2
 intro l1 hl1;obtain⟨as1,rfl,len1,XM,hh1,_⟩:=p;have t1:=aY hl1 (.lst (as1.map V.ref));have el1:(upd H' l1 (.lst (as1.map V.ref))) l1=some (.lst (as1.map V.ref)):=aJ;generalize (upd H' l1 (.lst (as1.map V.ref)))=J1 at *;have u1:=XM.trans t1;have O1:=u1 _ _ Wi;refine⟨_,rfl,o,C,dx,_,rfl,O1,Cc,dN,(by show 0<1000;decide),?_⟩;rw[show putF "near" (V.ref l1) ([]:List (Str×V))=([("near",.ref l1)]:List (Str×V))from rfl];have k1:∀c q,c≠o->J1 c=some q->(upd J1 o (.ins C dx ([("near",.ref l1)]))) c=some q:=fun c q ne z=>by rw[cP ne];exact z
 have hO2:(upd J1 o (.ins C dx ([("near",.ref l1)]))) o=some (.ins C dx ([("near",.ref l1)])):=aJ;have kk1:∀c q,c≠o->H c=some q->(upd J1 o (.ins C dx ([("near",.ref l1)]))) c=some q:=fun c q ne z=>k1 c q ne (u1 _ _ (kk0 c q ne z));have nl1:l1≠o:=fun z=>by rw[z,O1]at el1;cases el1
 have at1:∀(j:Nat) x,as1[j]? =some x->(upd J1 o (.ins C dx ([("near",.ref l1)]))) x=some (.tup ((eY n ts (j:Int)).map V.int)):=fun j x z=>by
  have e:=t1 _ _ (hh1 j x z);exact k1 _ _ (fun q=>by rw[q,O1]at e;cases e) e
 have ls1:=k1 _ _ nl1 el1;have hB2:=RT O1 k1 (hB.same u1);generalize (upd J1 o (.ins C dx ([("near",.ref l1)])))=G2 at *;obtain⟨tt2,rr2,w2,_,_⟩:=id hB2.web;refine⟨_,rfl,b,_,_,.int no,rfl,rfl,w2,rfl,no,rfl,by have:=hB2.h0;omega,by have:=hB2.h1;omega,?_⟩;let sZ:Nat->List V->St->Hp->Prop:=fun i acc σ H'=>∃as:List Addr,acc=as.map V.ref/\as.length=i/\Same G2 H'/\(∀(j:Nat) x,as[j]? =some x->H' x=some (.tup ((eY no bx (j:Int)).map V.int)))/\∃o1,σ=[o1,some (.ref b)];refine CG (n:=no.toNat) sZ ⟨[],rfl,rfl,Same.refl _,(fun j x z=>by cases z),_,rfl⟩ (fun i acc σ H' hi p=> ?_) (by rw[eX];have:=hB2.h1;omega) (fun i acc σ H' hi p=> ?_) (fun acc σ H' p=> ?_)
 ·obtain⟨as,rfl,hl,_⟩:=p;rw[aG];omega
 ·obtain⟨as,rfl,hl,sm,hh,o1,rfl⟩:=p;have hW:=hB2.same sm;refine⟨_,rfl,_,rfl,b,no,0+(i:Int),bx,rfl,hW.web,hW.ok,⟨by omega,by omega⟩,hW.h1,fun r H2 s2 e2=> ?_⟩;refine⟨as++[r],by rw[bW];rfl,by rw[g8,hl];rfl,sm.trans s2,fun j x z=> ?_,_,rfl⟩;rw[Vy]at z;by_cases c:j<as.length
  ·rw[aA c]at z;exact s2 _ _ (hh j x z)
  ·rw[aq c]at z;have ej:j=as.length:=by
    rcases wft (j-as.length) 1 with q|q
    ·omega
    ·rw[HX (by show 1<=_;exact q)]at z;cases z
   rw[ej,Vs]at z;cases z;rw[ej,hl,show((i:Nat):Int)=0+(i:Int) by omega];exact e2
 intro l2 hl2;obtain⟨as2,rfl,len2,XJ,hh2,_⟩:=p;have t2:=aY hl2 (.lst (as2.map V.ref));have el2:(upd H' l2 (.lst (as2.map V.ref))) l2=some (.lst (as2.map V.ref)):=aJ;generalize (upd H' l2 (.lst (as2.map V.ref)))=J2 at *;have u2:=XJ.trans t2;have O2:=u2 _ _ hO2;refine⟨_,rfl,o,C,dx,_,rfl,O2,Cc,gD,(by show 1<1000;decide),?_⟩;rw[show putF "far" (V.ref l2) ([("near",.ref l1)]:List (Str×V))=([("near",.ref l1),("far",.ref l2)]:List (Str×V))from rfl];have k2:∀c q,c≠o->J2 c=some q->(upd J2 o (.ins C dx ([("near",.ref l1),("far",.ref l2)]))) c=some q:=fun c q ne z=>by rw[cP ne];exact z
 have hO3:(upd J2 o (.ins C dx ([("near",.ref l1),("far",.ref l2)]))) o=some (.ins C dx ([("near",.ref l1),("far",.ref l2)])):=aJ;have kk2:∀c q,c≠o->H c=some q->(upd J2 o (.ins C dx ([("near",.ref l1),("far",.ref l2)]))) c=some q:=fun c q ne z=>k2 c q ne (u2 _ _ (kk1 c q ne z));have nl2:l2≠o:=fun z=>by rw[z,O2]at el2;cases el2
 have at2:∀(j:Nat) x,as2[j]? =some x->(upd J2 o (.ins C dx ([("near",.ref l1),("far",.ref l2)]))) x=some (.tup ((eY no bx (j:Int)).map V.int)):=fun j x z=>by
  have e:=t2 _ _ (hh2 j x z);exact k2 _ _ (fun q=>by rw[q,O2]at e;cases e) e
 have ls2:=k2 _ _ nl2 el2;have lsA:=k2 _ _ nl1 (u2 _ _ ls1);have atA:∀(j:Nat) x,as1[j]? =some x->(upd J2 o (.ins C dx ([("near",.ref l1),("far",.ref l2)]))) x=some (.tup ((eY n ts (j:Int)).map V.int)):=fun j x z=>by
  have e:=u2 _ _ (at1 j x z);exact k2 _ _ (fun q=>by rw[q,O2]at e;cases e) e
 generalize (upd J2 o (.ins C dx ([("near",.ref l1),("far",.ref l2)])))=G3 at *;intro d H4 s4 hd hN;refine⟨_,rfl,o,C,dx,_,rfl,s4 _ _ hO3,Cc,aH,(by show 2<1000;decide),?_⟩;rw[show putF "led_nowhere" (V.ref d) ([("near",.ref l1),("far",.ref l2)]:List (Str×V))=KZ l1 l2 d from rfl];have O4:=s4 _ _ hO3;have k4:∀c q,c≠o->H4 c=some q->(upd H4 o (.ins C dx (KZ l1 l2 d))) c=some q:=fun c q ne z=>by rw[cP ne];exact z
 have nd:d≠o:=fun z=>by rw[z,hO3]at hd;cases hd
 have tu:∀x xs,G3 x=some (.tup xs)->SqT K (upd H4 o (.ins C dx (KZ l1 l2 d))) x xs:=fun x xs e=>SqT.of (k4 _ _ (fun q=>by rw[q,hO3]at e;cases e) (s4 _ _ e));have h0:=hA.h0;have h0':=hB2.h0;refine qq d (upd H4 o (.ins C dx (KZ l1 l2 d))) (fun c q ne z=>k4 c q ne (s4 _ _ (kk2 c q ne z))) ⟨dx,l1,l2,as1,as2,aJ,SqL.of (k4 _ _ nl1 (s4 _ _ lsA)),by omega,fun i x z=>tu _ _ (atA i x z),SqL.of (k4 _ _ nl2 (s4 _ _ ls2)),by omega,fun i x z=>tu _ _ (at2 i x z)⟩ ?_ ?_
 ·obtain⟨xs,n1,n2,n3⟩:=hN;have:xs=[]:=List.map_eq_nil_iff.mp n2;subst this;exact⟨[],k4 _ _ nd n1,rfl,fun x hx=>(nomatch hx)⟩
 ·cases e:H d with
  |none=>rfl
  |some q=>rw[kk2 d q nd e]at hd;cases hd
noncomputable abbrev Qj(ts bx:L0)(k:NK.SK):Prop:=∃g,Sw.Hy (ak ts) (ak bx) k g
noncomputable def aaI(K:W.Frag)(H:Hp)(l:Addr)(r:L0):Prop:=∃its:List (Addr×List Int),H l=some (.lst (its.map fun p=>V.ref p.1))/\(∀p∈its,SqT K H p.1 (p.2.map V.int))/\its.map (·.2)=r.map fun e=>[e.1,e.2]
noncomputable def qO(ri:Bool)(c:Nat):Nat:=if ri=true then 0 else c
theorem wH{ri:Bool}{a b:Nat}(h:a<=b):qO ri a<=qO ri b:=by unfold qO;split<;>omega
structure LdP(K:W.Frag)(C:Addr)(H:Hp)(o b d:Addr)(n no:Int)(ts bx:L0)(ks:List NK.SK)(k:NK.SK)(ri:Bool):Prop where
 se:Mt K C H o d n no ts bx
 dn:DN K H d ks
 un:∀j∈ks,¬Qj ts bx j
 st:DV K H (.ref b) (NK.toD k)
 so:Sw.Wu n no k
 ok:Sw.Ok (ak ts) (ak bx)
 n10:n<=10
 n1:k.length<=10
 ri:ri=true->Sw.Qm (ak bx) no k
structure Wv(K:W.Frag)(H H':Hp)(d:Addr)(ts bx:L0)(ks ks':List NK.SK)(c m:Nat):Prop where
 keep:∀x q,x≠d->H x=some q->H' x=some q
 dn:DN K H' d ks'
 un:∀j∈ks',¬Qj ts bx j
 ln:ks'.length<=ks.length+c
 nw:∀j∈ks',j∈ks\/j.length<m
noncomputable def RsV(K:W.Frag)(H:Hp)(ts bx:L0)(k:NK.SK)(v:V):Prop:=(v= .non/\¬Qj ts bx k)\/∃l r,v= .ref l/\aaI K H l r/\Sw.Res (ak ts) (ak bx) k r/\r.length<=10
noncomputable def Dk(K:W.Frag)(C:Addr)(m:Nat):Sp:=fun vs H Q _=>∃(o b d:Addr) (n no:Int) (ts bx:L0) (ks:List NK.SK) (k:NK.SK) (ri:Bool),vs=[.ref o,.ref b]/\LdP K C H o b d n no ts bx ks k ri/\k.length=m/\ks.length+qO ri (Sw.cst no.toNat m)<=16000000/\
 ∀v H' ks',Wv K H H' d ts bx ks ks' (qO ri (Sw.cst no.toNat m)) (m+1)->RsV K H' ts bx k v->Q v H'
noncomputable def Ra(K:W.Frag)(C:Addr):Nat->Sp
 |0=>fun _ _ _ _=>False
 |m+1=>fun vs H Q _=>∃(o b d:Addr) (n no:Int) (ts bx:L0) (ks:List NK.SK) (k:NK.SK) (ri:Bool),vs=[.ref o,.ref b]/\LdP K C H o b d n no ts bx ks k ri/\k.length=m+1/\ks.length+qO ri (no.toNat*Sw.cst no.toNat m)<=16000000/\
  ∀v H' ks',Wv K H H' d ts bx ks ks' (qO ri (no.toNat*Sw.cst no.toNat m)) (m+1)->RsV K H' ts bx k v->Q v H'
theorem DN.ext{H:Hp}{d:Addr}{ks:List NK.SK}(h:DN K H d ks):∃φ,H d=some (.ext φ):=by
 obtain⟨xs,h1,_⟩:=h;exact⟨_,h1⟩
theorem TV{f f1 f2 f3 C:Addr}{fd d1 d2 d3:ρ}{m lv:Nat}(F:Fun K "lead_first" "Search.lead_first" RG f fd)
  (Cc:Cls K C)(dN:NoAttr K C "near")(gD:NoAttr K C "far")(aH:NoAttr K C "led_nowhere")(D1:qg K C "lead" "Search.lead" Qw ["self","state"] f1 d1)(G1:FnOk P w K mg base CX0 lv f1 d1 ["self","state"] (Dk K C m))(D2:qg K C "state_behind" "Search.state_behind" WM ["self","state","led","image"] f2 d2)(G2':FnOk P w K mg base CX0 2 f2 d2 ["self","state","led","image"] (rF K C))(D3:bQ K mg "count_images" WD ["open_place"] f3 d3)(G3:FnOk P w K mg base CX0 1 f3 d3 ["open_place"] (Dr K))(iK:mg "min"=none)(hlv:2<=lv):
  FnOk P w K mg base CX0 (lv+1) f fd ["self","state"] (Ra K C (m+1)):=by
 have G2:FnOk P w K mg base CX0 lv f2 d2 ["self","state","led","image"] (rF K C):=G2'.mono hlv;refine F.dG ["self","state","first","image","led"] fun cdv A outer s H vs Q E hr h=> ?_;obtain⟨o,b,d,n,no,ts,bx,ks,k,ri,rfl,hP,hm,hb,qq⟩:=h;refine bw ?_;intro Y;refine⟨_,(aV (pS 2 (N5 G3 rfl (hr.mono hlv) rfl iK rfl D3.m D3.F.kp D3.b (aj (pv 1) ao))) (aV (ps_for Aa rfl (Cy (bA eG (pv 2) aL)) (pG 3) (aV (pS 4 (Cw (pv 0) Cc D1.m G1 hr D1.b .nil pass0 (aj (Cw (pv 0) Cc D2.m G2 hr D2.b .nil pass0 (aj (pv 1) (aj (bA eG (pv 2) aL) (aj (pv 3) ao)))) ao))) (bf (gZ (dW op_notN (pv 4) pe_non) (bf (cD (cu op_cat (pv 4) (Ad (aj (qu (aj (bA eG (pv 2) aL) (aj (pv 3) ao))) ao))))) iJ)))) (bf (cD pe_non)))),?_⟩;refine jA ?_;intro c3 c2;obtain⟨its,h1,h2⟩:=Dd hP.st;have hlen:=Paired.tZ h2;obtain⟨φ,hφ⟩:=DN.ext hP.dn;refine⟨_,rfl,b,its.map (·.1),fun j=>((k.getD j (0,[])).2.length:Int),rfl,by rw[tU];exact h1,fun z=> ?_,fun j p hj=> ?_,fun i p hi _=> ?_⟩
 ·have:=gq List.length z;rw[aG]at this;simp at this;rw[this]at hlen;simp at hlen;omega
 ·rw[cU]at hj;cases ex:its[j]? with
  |none=>rw[ex]at hj;cases hj
  |some y=>
   rw[ex]at hj;cases hj;obtain⟨p,hp,r1,r2⟩:=Paired.at_ h2 ex;refine⟨y.1,y.2,p.1,p.2,rfl,r1,r2,?_,rfl⟩;show _=V.int ((k.getD j (0,[])).2.length:Int);rw[iU,hp];rfl
 rw[cU]at hi;cases ey:its[i]? with
 |none=>rw[ey]at hi;cases hi
 |some y=>
 rw[ey]at hi;cases hi;obtain⟨pp,hpp,r1,r2⟩:=Paired.at_ h2 ey;have pm:=qW hpp;have pl:=hP.so.pl pp pm;obtain⟨pi1,pi2⟩:=hP.so.im pp pm;refine⟨_,rfl,y.1,_,_,.ref y.2,rfl,rfl,r1,rfl,y.2,_,rfl,r2,fun hz=> ?_⟩;let gO:Nat->St->Hp->Prop:=fun i σ H'=>∃(ks':List NK.SK) (o3 o4:Option V),σ=[some (.ref o),some (.ref b),some (.ref y.1),o3,o4]/\Wv K H H' d ts bx ks ks' (qO ri (i*Sw.cst no.toNat m)) (m+1)/\(∀z∈pp.2.take i,¬Qj ts bx (Sw.pJ (ak ts) (ak bx) k pp.1 z))/\(ri=true->i=0);refine for_tup (K:=K) (a:=y.2) (xs:=pp.2.map V.int) gO
  ⟨ks,_,_,rfl,⟨fun x q _ z=>z,hP.dn,hP.un,WX _ _,fun j hj=> .inl hj⟩,fun z hz=>(nomatch hz),fun _=>rfl⟩ (fun i σ H' _ p=> ?_) (fun i x σ H' hx p=> ?_) (fun σ H' p=> ?_)
 ·obtain⟨_,_,_,_,q,_⟩:=p;exact jG hφ q.keep r2
 ·obtain⟨ks',o3,o4,rfl,LQ,hno,hri⟩:=p;rw[cU]at hx;cases ex:pp.2[i]? with
  |none=>rw[ex]at hx;cases hx
  |some z=>
   rw[ex]at hx;cases hx;have aax:i<pp.2.length:=(lV.mp ex).1;have zm:=qW ex;have zi:=pi1 z zm;have Y5:=hP.se.but hφ LQ.keep;obtain⟨dx,ln,lf,nn,ff,hS⟩:=id Y5;have r1':=jG hφ LQ.keep r1;have st':=wj hφ LQ.keep hP.st (NK.toD_nst k);refine⟨_,rfl,o,dx,_,rfl,hS.at_,rfl,_,rfl,o,dx,_,rfl,hS.at_,rfl,_,rfl,_,rfl,y.1,_,_,.int pp.1,rfl,rfl,r1',rfl,_,rfl,o,d,b,n,no,pp.1,z,ts,bx,k,rfl,Y5,st',hP.n1,pl,zi,hP.so,fun rb H2 s2 db=> ?_⟩;have ppm:(pp.1,pp.2)∈k:=pm;have bl:=Sw.wI (img:=z) hP.ok hP.so.nd ppm;have LP:LdP K C H2 o rb d n no ts bx ks' (Sw.pJ (ak ts) (ak bx) k pp.1 z) ri:=⟨Y5.same s2,LQ.dn.same s2,LQ.un,db,hP.so.pJ hP.ok,hP.ok,hP.n10,by have:=hP.n1;omega,fun r=>Sw.xW hP.ok hP.so.nd ppm zm (hP.ri r)⟩;have bb:ks'.length+qO ri (Sw.cst no.toNat m)<=16000000/\qO ri (i*Sw.cst no.toNat m)+qO ri (Sw.cst no.toNat m)=qO ri ((i+1)*Sw.cst no.toNat m):=by
    have l1:=LQ.ln;unfold qO at *;split
    ·rename_i c;rw[aA c]at l1 hb;exact⟨by omega,rfl⟩
    ·rename_i c;rw[aq c]at l1 hb;have:(i+1)*Sw.cst no.toNat m<=no.toNat*Sw.cst no.toNat m:=yeb _ (by omega);rw[wfr]at this⊢;exact⟨by omega,by omega⟩
   refine⟨o,rb,d,n,no,ts,bx,ks',_,ri,rfl,LP,by omega,bb.1,fun v H3 Kl Qo RS=> ?_⟩;have Vn:Wv K H H3 d ts bx ks Kl (qO ri ((i+1)*Sw.cst no.toNat m)) (m+1):=by
    refine⟨fun x q ne e=>Qo.keep x q ne (s2 _ _ (LQ.keep x q ne e)),Qo.dn,Qo.un,?_,fun j hj=> ?_⟩
    ·have a1:=LQ.ln;have a2:=Qo.ln;have a3:=bb.2;omega
    ·rcases Qo.nw j hj with q|q
     ·exact LQ.nw j q
     ·exact .inr q
   refine⟨_,rfl,rfl,_,rfl,?_⟩;rcases RS with⟨rfl,Mr⟩|⟨l,r,rfl,⟨jts,j1,j2,j3⟩,hres,rl⟩
   ·have eb:(!decide (V.non=V.non))=false:=rfl;rw[eb];refine iteF ?_;refine⟨Kl,_,_,rfl,Vn,fun x hx=> ?_,fun r=> ?_⟩
    ·rw[CN,ex]at hx;rcases pU.mp hx with q|q
     ·exact hno x q
     ·have:x=z:=by simpa using q
      rw[this];exact Mr
    ·exact absurd (Sw.rR hP.ok _ rfl (Sw.Ce hP.ok hP.so.nd) (LP.ri r)) Mr
   ·have eb:(!decide (V.ref l=V.non))=true:=by rw[fJ (fun z=>by cases z)];rfl
    rw[eb];refine iteT ?_;have aag:=jG hφ Vn.keep r1;refine⟨_,rfl,_,rfl,y.1,_,_,.int pp.1,rfl,rfl,aag,rfl,_,rfl,(by show 2<=sizeLine;decide),fun pt hpt=>⟨(by show 1<=sizeLine;decide),fun pl' hpl=> ?_⟩⟩;have g1:=aY hpt (.tup [.int pp.1,.int z]);have g2:=aY hpl (.lst [.ref pt]);have ept:(upd H3 pt (.tup [.int pp.1,.int z])) pt=some (.tup [.int pp.1,.int z]):=aJ;have Us:(r++[(pp.1,z)]).length<=10:=by
     have hh:=(Sw.Jw hP.ok hP.so.nd ppm zm hres).1.length_eq;rw[aG,aG]at hh;rw[hh];exact hP.n1
    have jl:jts.length=r.length:=by have:=gq List.length j3;rwa [aG,aG]at this
    refine⟨l,pl',_,_,rfl,rfl,g2 _ _ (g1 _ _ j1),aJ,by rw[aG,jl,eX];rw[g8]at Us;show r.length+1<=_;have:r.length+1<=10:=Us;omega,fun pr hpr=> ?_⟩;have g3:=aY hpr (.lst (jts.map (fun p=>V.ref p.1)++[.ref pt]));have g:=g1.trans (g2.trans g3);refine qq _ _ Kl ⟨fun x q ne e=>g _ _ (Vn.keep x q ne e),Vn.dn.same g,Vn.un,eN Vn.ln (wdp (wH (yeb _ (by omega))) _),Vn.nw⟩ (.inr ⟨pr,r++[(pp.1,z)],rfl,⟨jts++[(pt,[pp.1,z])],by rw[bW];exact aJ,fun q hq=> ?_,by rw[bW,bW,j3];rfl⟩,Sw.Jw hP.ok hP.so.nd ppm zm hres,Us⟩);rcases pU.mp hq with w'|w'
    ·exact g.tup (j2 q w')
    ·rw[fO.mp w'];exact(g2.trans g3).tup (SqT.of ept)
 ·obtain⟨ks',o3,o4,rfl,LQ,hno,hri⟩:=p;rw[aG]at LQ hri;rw[aG,Ae]at hno;refine qq _ _ ks' ⟨LQ.keep,LQ.dn,LQ.un,eN LQ.ln (wdp (wH (yeb _ (by omega))) _),LQ.nw⟩ (.inl ⟨rfl,Sw.R9 hP.ok (show(pp.1,pp.2)∈k from pm) hno⟩)
theorem JL{f f1 f2 C:Addr}{fd d1 d2:ρ}{m lv:Nat}(F:Fun K "lead" "Search.lead" Qw f fd)
  (Cc:Cls K C)(dN:NoAttr K C "near")(gD:NoAttr K C "far")(aH:NoAttr K C "led_nowhere")(D1:bQ K mg "are_left_open" WL ["state"] f1 d1)(ZW:FnOk P w K mg base CX0 1 f1 d1 ["state"] (xO K))(D2:qg K C "lead_first" "Search.lead_first" RG ["self","state"] f2 d2)(G2:FnOk P w K mg base CX0 lv f2 d2 ["self","state"] (Ra K C m))(hlv:1<=lv):
  FnOk P w K mg base CX0 (lv+1) f fd ["self","state"] (Dk K C m):=by
 have G1:FnOk P w K mg base CX0 lv f1 d1 ["state"] (xO K):=ZW.mono hlv;refine F.dG ["self","state","led"] fun cdv A outer s H vs Q E hr h=> ?_;obtain⟨o,b,d,n,no,ts,bx,ks,k,ri,rfl,hP,hm,hb,qq⟩:=h;refine bw ?_;intro Y;refine⟨_,(aV (gZ (pt_not (pt_truth (pv 1) (fun _=>rfl))) (bf (cD (Ad ao))) iJ) (aV (gZ (PW.pt (pw_or (dW (Tg hr.units) (pv 1) (lN (pv 0) rfl) (by with_unfolding_all rfl)) (pw_or1 (pt_not (zU (pc G1 hr D1 (aj (pv 1) ao))))))) (bf (cD pe_non)) iJ) (aV (pS 2 (Cw (pv 0) Cc D2.m G2 hr D2.b .nil pass0 (aj (pv 1) ao))) (aV (gZ (dW op_isN (pv 2) pe_non) (bf (Jx hr.units (lN (pv 0) rfl) (pv 1) pe_bl)) iJ) (bf (cD (pv 2))))))),?_⟩;refine Ks ?_;intro c5 c4 c3 c2;obtain⟨its,h1,h2⟩:=Dd hP.st;have hlen:=Paired.tZ h2;refine⟨_,rfl,_,.inr (.inl ⟨_,h1,rfl⟩),?_⟩;cases k with
 |nil=>
  cases its with
  |cons y ys=>cases hlen
  |nil=>
   refine iteT ?_;refine⟨(by show 0<=sizeLine;decide),fun l hl=> ?_⟩;have g:=aY hl (.lst []);exact qq _ _ ks ⟨fun x q _ e=>g _ _ e,hP.dn.same g,hP.un,WX _ _,fun j hj=> .inl hj⟩ (.inr ⟨l,[],rfl,⟨[],aJ,fun q hq=>(nomatch hq),rfl⟩,Sw.NT,dw _⟩)
 |cons k0 kr=>
 cases its with
 |nil=>cases hlen
 |cons y0 yr=>
 refine iteF ?_;generalize hK:(k0::kr)=k at *;obtain⟨m',rfl⟩:∃m',m=m'+1:=⟨kr.length,by rw[<-hm,<-hK];rfl⟩;obtain⟨dx,ln,lf,nn,ff,hS⟩:=id hP.se;refine⟨_,rfl,_,rfl,o,C,dx,_,_,rfl,hS.at_,Cc,aH,rfl,d,b,ks,k,rfl,rfl,hP.dn,hP.st,_,rfl,?_⟩;have id0:∀H',Same H H'->Wv K H H' d ts bx ks ks (qO ri (Sw.cst no.toNat (m'+1))) (m'+1+1):=fun H' g=>⟨fun x q _ e=>g _ _ e,hP.dn.same g,hP.un,WX _ _,fun j hj=> .inl hj⟩;by_cases cin:k∈ks
 ·rw[dB cin];refine iteT (iteT ?_);exact qq _ _ ks (id0 H (Same.refl _)) (.inl ⟨rfl,hP.un k cin⟩)
 rw[fJ cin];refine iteF ?_;refine⟨_,rfl,b,k,rfl,hP.st,hP.n1,fun H1 s1=>⟨_,rfl,?_⟩⟩;cases hop:k.all fun p=> !p.2.isEmpty with
 |false=>
  refine iteT ?_;refine qq _ _ ks (id0 H1 s1) (.inl ⟨rfl,?_⟩);have:∃p∈k,p.2=[]:=by
   rw[Bool.eq_false_iff]at hop;refine M9 fun c=>hop (j6.mpr fun p hp=> ?_);cases e:p.2 with
   |nil=>exact absurd ⟨p,hp,e⟩ c
   |cons z zs=>rfl
  obtain⟨p,hp,e⟩:=this;exact Sw.Jg hp e
 |true=>
 refine iteF ?_;have hc:qO ri (Sw.cst no.toNat (m'+1))=qO ri (1+no.toNat*Sw.cst no.toNat m'):=rfl;have hb':ks.length+qO ri (no.toNat*Sw.cst no.toNat m')<=16000000:=by
  have:qO ri (no.toNat*Sw.cst no.toNat m')<=qO ri (1+no.toNat*Sw.cst no.toNat m'):=wH (by omega);rw[hc]at hb;omega
 refine⟨_,rfl,o,dx,_,rfl,s1 _ _ hS.at_,rfl,_,rfl,o,b,d,n,no,ts,bx,ks,k,ri,rfl,⟨hP.se.same s1,hP.dn.same s1,hP.un,hP.st.same s1,hP.so,hP.ok,hP.n10,hP.n1,hP.ri⟩,hm,hb',fun v H2 Kl LQ RS=> ?_⟩;obtain⟨φ,hφ⟩:=DN.ext (hP.dn.same s1);refine⟨_,rfl,rfl,_,rfl,?_⟩;have Qo:Wv K H H2 d ts bx ks Kl (qO ri (Sw.cst no.toNat (m'+1))) (m'+1+1):=⟨fun x q ne e=>LQ.keep x q ne (s1 _ _ e),LQ.dn,LQ.un,eN LQ.ln (wdp (by rw[hc];exact wH (by omega)) _),fun j hj=>(LQ.nw j hj).imp id fun z=>by omega⟩;rcases id RS with⟨rfl,Mr⟩|⟨l,r,rfl,_⟩
 ·have eb:decide (V.non=V.non)=true:=rfl;rw[eb];refine iteT ?_;have rf:ri=false:=by
   cases hri:ri with
   |false=>rfl
   |true=>exact absurd (Sw.rR hP.ok _ rfl hP.so.nd (hP.ri hri)) Mr
  subst rf;have nk:k∉Kl:=fun z=>by
   rcases LQ.nw k z with q|q
   ·exact cin q
   ·omega
  have l2:Kl.length<=ks.length+no.toNat*Sw.cst no.toNat m':=LQ.ln;have hb2:ks.length+no.toNat*Sw.cst no.toNat m'<=16000000:=hb';obtain⟨dx2,ln2,lf2,nn2,ff2,hS2⟩:=id ((hP.se.same s1).but hφ LQ.keep);refine⟨_,rfl,o,C,dx2,_,_,rfl,hS2.at_,Cc,aH,rfl,_,rfl,d,b,Kl,k,rfl,rfl,rfl,LQ.dn,wj hφ LQ.keep (hP.st.same s1) (NK.toD_nst k),nk,by rw[eX];omega,fun H4 Yv D4=> ?_⟩;refine⟨_,rfl,qq _ _ (Kl++[k]) ⟨fun x q ne e=>Yv x q ne (Qo.keep x q ne e),D4,fun j hj=> ?_,?_,fun j hj=> ?_⟩ (.inl ⟨rfl,Mr⟩)⟩
  ·rcases pU.mp hj with q|q
   ·exact LQ.un j q
   ·rw[fO.mp q];exact Mr
  ·rw[g8];show Kl.length+1<=ks.length+(1+no.toNat*Sw.cst no.toNat m');omega
  ·rcases pU.mp hj with q|q
   ·exact Qo.nw j q
   ·rw[fO.mp q];exact .inr (by omega)
 ·have eb:decide (V.ref l=V.non)=false:=fJ fun z=>by cases z
  rw[eb];refine iteF ?_;exact⟨_,rfl,qq _ _ Kl Qo RS⟩
theorem KY{k:Nat}{f:Addr}{fd:ρ}{ps:List Str}:FnOk P w K mg base CX0 k f fd ps (fun _ _ _ _=>False):=⟨fun _ _ _ _ h=>h.elim,fun _ _ _ _ _ _ _ _ _ _ _ _ _ h=>h.elim⟩
theorem Rm{f f1 f2 f3 f4 C:Addr}{fd d1 d2 d3 d4:ρ}(F:Fun K "lead" "Search.lead" Qw f fd)(F4:Fun K "lead_first" "Search.lead_first" RG f4 d4)
  (Cc:Cls K C)(dN:NoAttr K C "near")(gD:NoAttr K C "far")(aH:NoAttr K C "led_nowhere")
  (D:qg K C "lead" "Search.lead" Qw ["self","state"] f fd)(D4:qg K C "lead_first" "Search.lead_first" RG ["self","state"] f4 d4)(D1:bQ K mg "are_left_open" WL ["state"] f1 d1)(G1:FnOk P w K mg base CX0 1 f1 d1 ["state"] (xO K))(D2:qg K C "state_behind" "Search.state_behind" WM ["self","state","led","image"] f2 d2)(G2:FnOk P w K mg base CX0 2 f2 d2 ["self","state","led","image"] (rF K C))(D3:bQ K mg "count_images" WD ["open_place"] f3 d3)(G3:FnOk P w K mg base CX0 1 f3 d3 ["open_place"] (Dr K))(iK:mg "min"=none):∀m:Nat,FnOk P w K mg base CX0 (2*m+4) f fd ["self","state"] (Dk K C m)
 |0=>JL F Cc dN gD aH D1 G1 D4 (lv:=3) KY (by decide)
 |m+1=>JL F Cc dN gD aH D1 G1 D4 (lv:=2*m+5) (TV F4 Cc dN gD aH D (Rm F F4 Cc dN gD aH D D4 D1 G1 D2 G2 D3 G3 iK m) D2 G2 D3 G3 iK (by omega)) (by omega)
noncomputable def IV(K:W.Frag)(C:Addr):Sp:=fun vs H Q E=>∃m,m<=10/\Dk K C m vs H Q E
theorem Ua{f f1 f2 f3 f4 C:Addr}{fd d1 d2 d3 d4:ρ}(F:Fun K "lead" "Search.lead" Qw f fd)(F4:Fun K "lead_first" "Search.lead_first" RG f4 d4)
  (Cc:Cls K C)(dN:NoAttr K C "near")(gD:NoAttr K C "far")(aH:NoAttr K C "led_nowhere")
  (D:qg K C "lead" "Search.lead" Qw ["self","state"] f fd)(D4:qg K C "lead_first" "Search.lead_first" RG ["self","state"] f4 d4)(D1:bQ K mg "are_left_open" WL ["state"] f1 d1)(G1:FnOk P w K mg base CX0 1 f1 d1 ["state"] (xO K))(D2:qg K C "state_behind" "Search.state_behind" WM ["self","state","led","image"] f2 d2)(G2:FnOk P w K mg base CX0 2 f2 d2 ["self","state","led","image"] (rF K C))(D3:bQ K mg "count_images" WD ["open_place"] f3 d3)(G3:FnOk P w K mg base CX0 1 f3 d3 ["open_place"] (Dr K))(iK:mg "min"=none):FnOk P w K mg base CX0 24 f fd ["self","state"] (IV K C):=by
 have all:=Rm F F4 Cc dN gD aH D D4 D1 G1 D2 G2 D3 G3 iK;refine⟨fun vs H Q E h=> ?_,fun A outer s H args us vs Q E hr he hb hv h=> ?_⟩
 ·obtain⟨m,hm,h⟩:=h;exact(all m).len vs H Q E h
 ·obtain⟨m,hm,h⟩:=h;exact((all m).mono (by omega)).run A outer s H args us vs Q E hr he hb hv h
noncomputable def up(n:Nat):List Int:=(List.range n).map fun k=>((k:Nat):Int)
theorem CT(n:Nat):(up n).Pairwise (· < ·):=by
 unfold up;rw[zZ];exact Vz.imp fun{a b} h=>by omega
theorem iC{n:Nat}{x:Int}:x∈up n↔0<=x/\x<(n:Int):=by
 unfold up;refine⟨fun h=> ?_,fun h=>fG.mpr ⟨x.toNat,lO.mpr (by omega),by omega⟩⟩;obtain⟨k,hk,rfl⟩:=fG.mp h;have:=lO.mp hk;omega
theorem qF(n:Nat):(up n).length=n:=by unfold up;simp
theorem Nf(n:Nat):cR n=(up n).map V.int:=by unfold cR up;rw[tU];rfl
noncomputable def st0(n no:Int):NK.SK:=(up n.toNat).map fun p=>(p,up no.toNat)
theorem Df(n no:Int):(st0 n no).map (·.1)=up n.toNat:=by
 unfold st0;rw[tU];exact List.map_id _
theorem iD{n no:Int}{p:Int×List Int}:p∈st0 n no↔(0<=p.1/\p.1<(n.toNat:Int))/\p.2=up no.toNat:=by
 unfold st0;rw[fG];refine⟨fun⟨q,hq,e⟩=> ?_,fun⟨h1,h2⟩=>⟨p.1,iC.mpr h1,Ht rfl h2.symm⟩⟩;rw[<-e];exact⟨iC.mp hq,rfl⟩
theorem R8{n no:Int}(h0:0<=n)(h1:0<=no):Sw.Wu n no (st0 n no):=by
 refine⟨?_,fun p hp=> ?_,fun p hp=> ?_⟩
 ·unfold Sw.Nd;rw[Df];exact(CT _).imp fun h e=>by omega
 ·have:=(iD.mp hp).1;omega
 ·rw[(iD.mp hp).2];refine⟨fun y hy=> ?_,by rw[qF];omega⟩;have:=iC.mp hy;omega
theorem Ed{ts:L0}{i j:Int}(h:i<j):ak ts i j=decide ((i,j)∈ts):=by
 unfold ak;rw[aq (by omega),aA (by omega)]
theorem QX{n:Int}{ts bx:L0}(h:au n ts):Sw.Ok (ak ts) (ak bx):=by
 refine⟨fun x=> ?_,gG ts,gG bx⟩;rw[tied_eq h];unfold bN;rw[fJ fun z=>by have:=h.lt _ z;dsimp only at this;omega];rfl
theorem Fo{n no:Int}{ts bx:L0}{g:Int->Int}(h0:0<=n)(h1:0<=no)(hp:au n ts)(h:Sw.Hy (ak ts) (ak bx) (st0 n no) g):dh n no ts bx ((up n.toNat).map g)=true:=by
 have im:∀x:Int,0<=x->x<n->0<=g x/\g x<no:=fun x a b=>by
  have:g x∈up no.toNat:=h.im (x,up no.toNat) (iD.mpr ⟨⟨a,by show x<(n.toNat:Int);omega⟩,rfl⟩);have:=iC.mp this;omega
 have gt:∀x:Int,0<=x->x<n->((up n.toNat).map g).getD x.toNat 0=g x:=fun x a b=>by
  rw[iU,cU];unfold up;rw[cU,HW (by omega)];show g ((x.toNat:Nat):Int)=g x;rw[show((x.toNat:Nat):Int)=x by omega]
 unfold dh;rw[jg,jg];refine⟨dB (by rw[aG,qF];omega),j6.mpr fun y hy=> ?_,j6.mpr fun p hm=> ?_⟩
 ·obtain⟨x,hx,rfl⟩:=fG.mp hy;have:=iC.mp hx;have:=im x (by omega) (by omega);rw[jg];exact⟨dB this.1,dB this.2⟩
 ·have l:=hp.lt p hm;rw[gt p.1 (by omega) (by omega),gt p.2 (by omega) (by omega)];refine h.ti (p.1,up no.toNat) (iD.mpr ⟨⟨by show 0<=p.1;omega,by show p.1<(n.toNat:Int);omega⟩,rfl⟩) (p.2,up no.toNat) (iD.mpr ⟨⟨by show 0<=p.2;omega,by show p.2<(n.toNat:Int);omega⟩,rfl⟩) ?_;show ak ts p.1 p.2=true;rw[Ed l.2.1];exact dB hm
theorem Gp{n no:Int}{ts bx:L0}{ys:List Int}(h0:0<=n)(h1:0<=no)(hp:au n ts)(h:dh n no ts bx ys=true):Sw.Hy (ak ts) (ak bx) (st0 n no) fun x=>ys.getD x.toNat 0:=by
 unfold dh at h;rw[jg,jg]at h;obtain⟨e1,e2,e3⟩:=h;have e1:=j9 e1;have ti:∀x y:Int,x<y->ak ts x y=true->ak bx (ys.getD x.toNat 0) (ys.getD y.toNat 0)=true:=fun x y l t=>by
  rw[Ed l]at t;exact j6.mp e3 _ (j9 t)
 refine⟨fun p hm=> ?_,fun p hm q hq t=> ?_⟩
 ·obtain⟨a,b⟩:=iD.mp hm;rw[b];have hl:p.1.toNat<ys.length:=by omega
  have:=j6.mp e2 _ (zX hl);rw[jg]at this;show ys.getD p.1.toNat 0∈up no.toNat;rw[iU,eO hl];refine iC.mpr ⟨j9 this.1,?_⟩;have:=j9 this.2;show ys[p.1.toNat]<_;omega
 ·rcases wcp p.1 q.1 with c|c|c
  ·exact ti _ _ c t
  ·rw[c,(QX (bx:=bx) hp).Ms]at t;cases t
  ·rw[gG bx];rw[gG ts]at t;exact ti _ _ c t
theorem Ur{a b c d:Int}(h:HT.lexLt [c,d] [a,b]=false):a<=c:=by
 rw[HT.cC,wbs]at h;refine M9 fun z=>h ?_;exact List.Lex.rel (by omega)
theorem Ao{L:List (List Int)}{r:L0}{n:Nat}{g:Int->Int}(h:L.Perm (r.map fun e=>[e.1,e.2]))(hs:L.Pairwise fun a b=>HT.lexLt b a=false)(hp:(r.map (·.1)).Perm (up n))(hg:∀e∈r,g e.1=e.2):L.map (fun l=>l.getD 1 0)=(up n).map g:=by
 have sh:∀l∈L,l=[l.getD 0 0,g (l.getD 0 0)]:=fun l hl=>by
  obtain⟨e,he,rfl⟩:=fG.mp (h.mem_iff.mp hl);show[e.1,e.2]=[e.1,g e.1];rw[hg e he]
 have fp:(L.map fun l=>l.getD 0 0).Perm (up n):=by
  refine(h.map _).trans ?_;rw[tU];exact hp
 have nd:(L.map fun l=>l.getD 0 0).Nodup:=fp.nodup_iff.mpr ((CT n).imp fun h e=>by omega);have le:(L.map fun l=>l.getD 0 0).Pairwise (· <= ·):=by
  rw[zZ];refine List.Pairwise.imp_of_mem (fun{a b} ha hb z=> ?_) hs;rw[sh a ha,sh b hb]at z;exact Ur z
 have e:(L.map fun l=>l.getD 0 0)=up n:=Sw.nO fp (List.Pairwise.imp₂ (fun a b x y=>by omega) le nd) (CT n);rw[<-e,tU];refine Vx fun l hl=> ?_;have:=sh l hl;rw[this];rfl
noncomputable def uy(K:W.Frag):Sp:=fun vs H Q _=>∃(a b:Addr) (n no:Int) (ts bx:L0) (ri:Bool),vs=[.ref a,.ref b]/\aZ K H a n ts/\aZ K H b no bx/\(ri=true->n<=no/\∀x y,0<=x->x<no->0<=y->y<no->x≠y->ak bx x y=true)/\qO ri (Sw.cst no.toNat n.toNat)<=16000000/\
 ∀v H',Same H H'->((v= .non/\¬∃ys,dh n no ts bx ys=true)\/∃r ys,v= .ref r/\SqT K H' r (ys.map V.int)/\dh n no ts bx ys=true)->Q v H'
theorem Bf{f f1 f2 f3 C:Addr}{fd d1 d2 d3:ρ}(F:Fun K "way_into" "way_into" kW f fd)
  (Cc:Cls K C)(dN:NoAttr K C "near")(gD:NoAttr K C "far")(aH:NoAttr K C "led_nowhere")(sH:mg "Search"=some (.ref C))(D1:bQ K mg "need_web" HN ["thing"] f1 d1)(G1:FnOk P w K mg base CX0 7 f1 d1 ["thing"] (cA K))(D2:qg K C "__init__" "Search.__init__" gK ["self","web","other"] f2 d2)(Mk2:Mk K C f2)(aaK:FnOk P w K mg base CX0 9 f2 d2 ["self","web","other"] (Am K C))(D3:qg K C "lead" "Search.lead" Qw ["self","state"] f3 d3)(G3:FnOk P w K mg base CX0 24 f3 d3 ["self","state"] (IV K C))(aX:mg "tuple"=none)(aB:mg "range"=none)(fZ:mg "sorted"=none):
  FnOk P w K mg base CX0 25 f fd ["web","other"] (uy K):=by
 have G2m:FnOk P w K mg base CX0 23 f2 d2 ["self","web","other"] (Am K C):=aaK.mono (by decide);refine F.dG ["web","other","every","led"] fun cdv A outer s H vs Q E hr h=> ?_;obtain⟨a,b,n,no,ts,bx,ri,rfl,hA,hB,hri,hbu,qq⟩:=h;refine bw ?_;intro Y;refine⟨_,(aV (qR (pc G1 hr D1 (aj (pv 0) ao))) (aV (qR (pc G1 hr D1 (aj (pv 1) ao))) (aV (pS 2 (pC rfl rfl aX rfl aB (aj (bA eG (pv 1) aL) ao))) (aV (pS 3 (Cw (pe_make Mk2 G2m hr rfl sH D2.b .nil pass0 (aj (pv 0) (aj (pv 1) ao))) Cc D3.m G3 hr D3.b .nil pass0 (aj (pT Hi aX (aj (pK ["place"] ["every"] [2] (wQ rfl aB (aj (bA eG (pv 0) aL) ao)) (pG 0) qz (qu (aj (pv 0) (aj (pv 1) ao)))) ao)) ao))) (bf (cD (pe_ifExp (dW op_isN (pv 3) pe_non) pe_non (pT Hi aX (aj (pK ["place","image"] [] [] (Mw (pB mV fZ (aj (pv 3) ao))) (gC K (n:=2) rfl (uq (pG 0) (uq (pG 1) pgs_nil))) qz (pv 1)) ao))))))))),?_⟩;refine Ks ?_;intro c5 c4 c3 c2;have h0:=hA.h0;have h10:=hA.h1;have h0':=hB.h0;have aaX:=hB.h1;refine⟨_,rfl,.ref a,_,rfl,hA.web.dv.dx,hA.ok,fun H1 s1=> ?_⟩;refine⟨_,rfl,.ref b,_,rfl,(hB.same s1).web.dv.dx,hB.ok,fun H2 s2=> ?_⟩;have s02:=s1.trans s2;have Wj:=hA.same s02;have hB2:=hB.same s02;obtain⟨tt1,rr1,w1,_,_⟩:=id Wj.web;obtain⟨tt2,rr2,y1,_,_⟩:=id hB2.web;refine⟨_,rfl,b,_,_,.int no,rfl,rfl,y1,rfl,no,rfl,h0',by omega,fun ev hev=> ?_⟩;rw[Nf];have s3:=aY hev (.tup ((up no.toNat).map V.int));have eev:(upd H2 ev (.tup ((up no.toNat).map V.int))) ev=some (.tup ((up no.toNat).map V.int)):=aJ;generalize (upd H2 ev (.tup ((up no.toNat).map V.int)))=H3 at *;have s03:=s02.trans s3;refine⟨_,rfl,_,rfl,fun x dx hx hdx ne=> ?_⟩;have s4:Same H3 (upd (upd H3 dx (.own x)) x (.ins C dx [])):=fun c q z=>by rw[cP (j5 z hx),cP (j5 z hdx)];exact z
 have ex:(upd (upd H3 dx (.own x)) x (.ins C dx [])) x=some (.ins C dx []):=aJ;generalize (upd (upd H3 dx (.own x)) x (.ins C dx []))=H4 at *;refine⟨x,dx,a,b,n,no,ts,bx,rfl,ex,(hA.same s03).same s4,(hB.same s03).same s4,fun d H5 keep SV DN0 hd=>⟨rfl,?_⟩⟩;have s5:Same H3 H5:=fun c q z=>keep c q (j5 z hx) (s4 _ _ z);have s05:=s03.trans s5;have hA5:=hA.same s05;obtain⟨tt5,rr5,w5,_,_⟩:=id hA5.web;obtain⟨dx5,ln,lf,nn,ff,hS⟩:=id SV;refine⟨x,dx5,_,rfl,hS.at_,rfl,?_⟩;refine⟨_,rfl,a,_,_,.int n,rfl,rfl,w5,rfl,n,rfl,by omega,by omega,?_⟩;have aaE:=s5 _ _ eev;let gO:Nat->List V->St->Hp->Prop:=fun i acc σ H'=>∃as:List Addr,acc=as.map V.ref/\as.length=i/\Same H5 H'/\(∀(j:Nat) p,as[j]? =some p->H' p=some (.tup [.int (j:Int),.ref ev]))/\∃o1,σ=[o1,some (.ref ev)];refine CG (n:=n.toNat) gO ⟨[],rfl,rfl,Same.refl _,(fun j p z=>by cases z),_,rfl⟩ (fun i acc σ H' hi p=> ?_) (by rw[eX];omega) (fun i acc σ H' hi p=> ?_) (fun acc σ H' p=> ?_)
 ·obtain⟨as,rfl,hl,_⟩:=p;rw[aG];omega
 ·obtain⟨as,rfl,hl,sm,hh,o1,rfl⟩:=p;refine⟨_,rfl,_,rfl,(by show 2<=sizeLine;decide),fun pn hpn=> ?_⟩;have sn:=aY hpn (.tup [.int (0+(i:Int)),.ref ev]);refine⟨as++[pn],by rw[bW];rfl,by rw[g8,hl];rfl,sm.trans sn,fun j x z=> ?_,_,rfl⟩;rw[Vy]at z;by_cases c:j<as.length
  ·rw[aA c]at z;exact sn _ _ (hh j x z)
  ·rw[aq c]at z;have ej:j=as.length:=by
    rcases wft (j-as.length) 1 with q|q
    ·omega
    ·rw[HX (by show 1<=_;exact q)]at z;cases z
   rw[ej,Vs]at z;cases z;rw[ej,hl,aJ,MJ]
 intro pl hpl;obtain⟨as,rfl,hl,sm,hh,_⟩:=p;refine⟨pl,_,rfl,.inl ⟨SqL.of aJ,fun pt hpt=> ?_⟩⟩;have s6:=sm.trans ((aY hpl (.lst (as.map V.ref))).trans (aY hpt (.tup (as.map V.ref))));have g6:=(aY hpl (.lst (as.map V.ref))).trans (aY hpt (.tup (as.map V.ref)));have ept:(upd (upd H' pl (.lst (as.map V.ref))) pt (.tup (as.map V.ref))) pt=some (.tup (as.map V.ref)):=aJ;generalize (upd (upd H' pl (.lst (as.map V.ref))) pt (.tup (as.map V.ref)))=H6 at *;have hst:DV K H6 (.ref pt) (NK.toD (st0 n no)):=by
  refine Rn (its:=as.map fun p=>(p,ev)) (by rw[tU];exact SqT.of ept) ?_;have go:∀(bs:List Addr) (j0:Nat),(∀(j:Nat) p,bs[j]? =some p->H6 p=some (.tup [.int ((j0+j:Nat):Int),.ref ev]))->Lp K H6 (bs.map fun p=>(p,ev)) ((List.range' j0 bs.length).map fun k=>(((k:Nat):Int),up no.toNat)):=fun bs=>by
   induction bs with
   |nil=>exact fun _ _=> .nil
   |cons p bs ih=>
    intro j0 hj;refine .cons ⟨SqT.of (hj 0 p rfl),SqT.of (s6 _ _ aaE)⟩ (ih (j0+1) fun j q z=> ?_);have:=hj (j+1) q z
    rwa [show j0+(j+1)=j0+1+j by omega]at this
  have:=go as 0 fun j p z=>by rw[wff];exact g6 _ _ (hh j p z)
  rw[hl,<-wda]at this;unfold st0 up;rw[tU];exact this
 have kl:(st0 n no).length=n.toNat:=by unfold st0;rw[aG,qF]
 have hok:=QX (bx:=bx) hA.pk;refine⟨n.toNat,by omega,x,pt,d,n,no,ts,bx,[],st0 n no,ri,rfl,⟨SV.same s6,DN0.same s6,fun j hj=>(nomatch hj),hst,R8 h0 h0',hok,h10,by rw[kl];omega,fun r=> ?_⟩,kl,by show 0+_<=_;omega,fun v H7 ks' LQ RS=> ?_⟩
 ·obtain⟨q1,q2⟩:=hri r;refine⟨q2,fun p hp=> ?_⟩;rw[(iD.mp hp).2,kl,qF];refine⟨(CT _).imp fun h e=>by omega,fun y hy=> ?_,by omega⟩;have:=iC.mp hy;omega
 have hd0:H d=none:=by
  cases e:H d with
  |none=>rfl
  |some q=>rw[s4 _ _ (s03 _ _ e)]at hd;cases hd
 have s07:Same H H7:=fun c q z=>LQ.keep c q (j5 z hd0) (s6 _ _ (s05 _ _ z));rcases RS with⟨rfl,Mr⟩|⟨l,r,rfl,⟨jts,j1,j2,j3⟩,⟨hperm,g,hg,he⟩,rl⟩
 ·refine⟨_,rfl,rfl,_,rfl,?_⟩;have eb:decide (V.non=V.non)=true:=rfl;rw[eb];refine iteT ?_;exact qq _ _ s07 (.inl ⟨rfl,fun⟨ys,hy⟩=>Mr ⟨_,Gp h0 h0' hA.pk hy⟩⟩)
 ·refine⟨_,rfl,rfl,_,rfl,?_⟩;have eb:decide (V.ref l=V.non)=false:=fJ fun z=>by cases z
  rw[eb];refine iteF ?_;have jl:jts.length=r.length:=by have:=gq List.length j3;rwa [aG,aG]at this
  have j2':∀p∈jts,SqT K H7 p.1 (p.2.map V.int)/\p.2≠[]:=fun p hp=>⟨j2 p hp,fun z=>by
   have m:p.2∈r.map fun e=>[e.1,e.2]:=by rw[<-j3];exact fG.mpr ⟨p,hp,rfl⟩
   obtain⟨e,_,q⟩:=fG.mp m;rw[z]at q;cases q⟩
  refine⟨_,rfl,l,jts,rfl,SqL.of j1,j2',by omega,fun l' its' hl' hpm hpw=> ?_⟩;have s8:=aY hl' (.lst (its'.map fun p=>V.ref p.1));have el':(upd H7 l' (.lst (its'.map fun p=>V.ref p.1))) l'=some (.lst (its'.map fun p=>V.ref p.1)):=aJ;generalize (upd H7 l' (.lst (its'.map fun p=>V.ref p.1)))=H8 at *;refine⟨l',_,rfl,SqL.of el',fun hz=> ?_⟩;let sZ:Nat->List V->St->Hp->Prop:=fun i acc σ H'=>acc=((its'.take i).map fun p=>p.2.getD 1 0).map V.int/\H'=H8/\∃o1 o2,σ=[o1,o2];refine Qt (xs:=its'.map fun p=>V.ref p.1) sZ ⟨rfl,rfl,_,_,rfl⟩ (fun i acc σ H' _ p=>by rw[p.2.1];exact SqL.of el') (fun i acc σ H' hi p=>by rw[p.1,aG,aG,zY];exact QC _ _) hz (fun i u acc σ H' hu p=> ?_) (fun acc σ H' p=> ?_)
  ·obtain⟨rfl,rfl,o1,o2,rfl⟩:=p;rw[cU]at hu;cases ei:its'[i]? with
   |none=>rw[ei]at hu;cases hu
   |some q=>
    rw[ei]at hu;cases hu;have qm:=hpm.mem_iff.mp (qW ei);have m:q.2∈r.map fun e=>[e.1,e.2]:=by rw[<-j3];exact fG.mpr ⟨q,qm,rfl⟩
    obtain⟨e,_,eq⟩:=fG.mp m;have tq:=s8.tup (j2 q qm);rw[<-eq]at tq;refine⟨q.1,_,rfl,tq,rfl,_,_,rfl,_,_,rfl,rfl,?_⟩;refine⟨_,rfl,?_,rfl,_,_,rfl⟩;rw[CN,ei,bW,bW];show _=_++[V.int (q.2.getD 1 0)];rw[<-eq];rfl
  ·intro pz hpz;obtain⟨rfl,rfl,_⟩:=p;rw[aG,Ae];refine⟨pz,_,rfl,.inl ⟨SqL.of aJ,fun pw aaw=> ?_⟩⟩;have s9:=(aY hpz (.lst ((its'.map fun p=>p.2.getD 1 0).map V.int))).trans (aY aaw (.tup ((its'.map fun p=>p.2.getD 1 0).map V.int)));rw[Df]at hperm;have sw:=Ao (L:=its'.map (·.2)) (by rw[<-j3];exact hpm.map _) (by rw[zZ];exact hpw) hperm he;rw[tU]at sw;refine qq _ _ (s07.trans (s8.trans s9)) (.inr ⟨pw,(up n.toNat).map g,rfl,SqT.of ?_,Fo h0 h0' hA.pk hg⟩);rw[<-sw];exact aJ
end
noncomputable def cB(n:Nat):List Int:=(List.range n).map fun(t:Nat)=>(t:Int)
theorem xX(n:Nat):cB (n+1)=cB n++[(n:Int)]:=by unfold cB;rw[wU,bW];rfl
noncomputable def cnt(ts:L0)(p:Int):Nat:=(ts.filter fun t=>decide (p∈[t.1,t.2])).length
noncomputable def V9(ts:L0)(b:List Int)(x:Int):Bool:=(List.range b.length).all fun k=>ak ts (b.getD k 0) x==ak ts (k:Int) (b.length:Int)
noncomputable def iY(ts:L0)(b:List Int)(x:Int):Bool:=(!decide (x∈b)&&decide (cnt ts x=cnt ts (b.length:Int)))&&V9 ts b x
noncomputable def bH(g:List Int->Int->Bool)(n:Nat):Nat->List Int->List (List Int)
 |0,b=>[b]
 |m+1,b=>((cB n).filter (g b)).flatMap fun x=>bH g n m (b++[x])
structure Ab(ts:L0)(n:Nat)(b:List Int):Prop where
 nd:b.Nodup
 rg:∀x∈b,0<=x/\x<(n:Int)
 pr:∀j k,j<k->k<b.length->ak ts (b.getD j 0) (b.getD k 0)=ak ts (j:Int) (k:Int)
theorem Ab.nil(ts:L0)(n:Nat):Ab ts n []:=⟨.nil,fun x hx=>(nomatch hx),fun j k _ h=>absurd h (QD _)⟩
theorem Nh{α:Type}{X Y:List α}{m:Nat}(h:(X.take m).length<m):(X++Y).take m=X.take m++Y.take (m-(X.take m).length):=by
 rw[zY]at h;have e:X.take m=X:=Xk (by omega);rw[List.take_append,e]
theorem Nj{α:Type}{X Y:List α}{m:Nat}(h:¬(X.take m).length<m):(X++Y).take m=X.take m:=by
 rw[zY]at h;rw[List.take_append,show m-X.length=0 by omega,List.take_zero,tL]
noncomputable def upTo(g:List Int->Int->Bool)(n m:Nat)(b:List Int)(i:Nat):List (List Int):=((cB i).filter (g b)).flatMap fun x=>bH g n m (b++[x])
theorem Fd(g:List Int->Int->Bool)(n m:Nat)(b:List Int)(i:Nat):upTo g n m b (i+1)=upTo g n m b i++(if g b (i:Int)=true then bH g n m (b++[(i:Int)])else[]):=by
 unfold upTo;rw[xX,Mh,List.flatMap_append];congr 1;by_cases c:g b (i:Int)=true
 ·rw[aA c,qT,aA c];simp
 ·rw[aq c,qT,aq c];rfl
section
variable{P:ξ}{w:τ}{K:W.Frag}{mg:L4}{base:Heap}
theorem blE(a b:Bool):decide (V.bl a=V.bl b)=(a==b):=by cases a<;>cases b<;>rfl
noncomputable def Jd(K:W.Frag):Sp:=fun vs H Q _=>∃(a:Addr) (n p:Int) (ts:L0),vs=[.ref a,.int p]/\mY K H a n ts/\∀H',Same H H'->Q (.int (cnt ts p:Int)) H'
theorem Oq{f:Addr}{fd:ρ}(F:Fun K "count_ties_at" "count_ties_at" zdg f fd)(aK:mg "len"=none):
  FnOk P w K mg base CX0 1 f fd ["web","place"] (Jd K):=by
 refine F.dG ["web","place"] fun cdv A outer s H vs Q E hr h=> ?_;obtain⟨a,n,p,ts,rfl,hW,q⟩:=h;refine⟨_,(bf (cD (pB lR aK (aj (pK ["tie"] ["place"] [1] (Cy (bA eG (pv 0) aL)) (pG 0) (HD (dW (mD K hr.units) (pv 1) (pv 0) (by with_unfolding_all rfl))) (pv 0)) ao)))),?_⟩;obtain⟨t,rs,h1,h2,h3⟩:=hW;have hlen:rs.length=ts.length:=by have:=h3.len;rwa [aG]at this
 refine⟨_,rfl,a,_,_,.ref t,rfl,rfl,h1,rfl,t,rs,rfl,h2,fun hz=> ?_⟩;let gO:Nat->List V->St->Hp->Prop:=fun k acc σ H'=>acc.length=((ts.take k).filter fun t=>decide (p∈[t.1,t.2])).length/\H'=H/\∃o,σ=[o,some (.int p)];refine LR (xs:=rs) gO ⟨rfl,rfl,_,rfl⟩ (fun k acc σ H' _ pp=>by rw[pp.2.1];exact h2) (fun k acc σ H' _ pp=> ?_) hz (fun k x acc σ H' hx pp=> ?_) (fun acc σ H' pp=> ?_)
 ·rw[pp.1];exact eN (Af _ _) (by rw[zY];exact QC _ _)
 ·obtain⟨e,rfl,o,rfl⟩:=pp;obtain⟨u,hi,rfl,hu⟩:=qL h3 hx;refine⟨_,rfl,_,rfl,u,_,[(ts[k]).1,(ts[k]).2].map PyData.int,.int p,rfl,.inr hu,bO.ints [(ts[k]).1,(ts[k]).2],.int _,qC _,rfl,(by show 0<=60;decide),_,rfl,?_⟩;rw[Mu];have et:(ts.take (k+1)).filter (fun t=>decide (p∈[t.1,t.2]))=(ts.take k).filter (fun t=>decide (p∈[t.1,t.2]))++[ts[k]].filter fun t=>decide (p∈[t.1,t.2]):=by
   rw[CN,eO hi,Mh];rfl
  refine ite2 (fun c=> ?_) (fun c=> ?_)
  ·refine⟨_,rfl,?_,rfl,_,rfl⟩;rw[et,qT,aA c,g8,g8,e];rfl
  ·refine⟨?_,rfl,_,rfl⟩;rw[et,qT,aq c,g8,e];rfl
 ·obtain⟨e,rfl,_⟩:=pp;intro p1 hp1;rw[hlen,Ae]at e;refine⟨p1,_,rfl,.inl (SqL.of aJ),fun _=> ?_⟩;rw[e];exact q _ (aY hp1 _)
theorem yH(ys:List Int):V.int (((ys.map V.int).length:Nat):Int)=V.int (ys.length:Int):=by rw[aG]
theorem neE(a b:Int):(!decide (V.int a=V.int b))= !decide (a=b):=by
 by_cases e:a=b
 ·subst e;simp
 ·rw[fJ e,fJ (by intro z;injection z with z;exact e z)]
noncomputable def Nm(K:W.Frag):Sp:=fun vs H Q _=>∃(a b:Addr) (x n:Int) (ts:L0) (bs:List Int),vs=[.ref a,.ref b,.int x]/\mY K H a n ts/\SqT K H b (bs.map V.int)/\bs.length<=100/\∀H',Same H H'->Q (.bl (iY ts bs x)) H'
theorem Yg{f f1 f2:Addr}{fd d1 d2:ρ}(F:Fun K "can_go_on" "can_go_on" Wy f fd)(D1:bQ K mg "count_ties_at" zdg ["web","place"] f1 d1)(G1:FnOk P w K mg base CX0 1 f1 d1 ["web","place"] (Jd K))(D2:bQ K mg "has_tie" fK ["web","one","other"] f2 d2)(G2:FnOk P w K mg base CX0 1 f2 d2 ["web","one","other"] (xJ K))(aK:mg "len"=none)(mK:mg "all"=none)(aB:mg "range"=none):
  FnOk P w K mg base CX0 2 f fd ["web","begun","image"] (Nm K):=by
 refine F.dG ["web","begun","image","place"] fun cdv A outer s H vs Q E hr h=> ?_;obtain⟨a,b,x,n,ts,bs,rfl,hW,hb,hl,q⟩:=h;refine bw ?_;intro Y;refine⟨_,(aV (pS 3 (pB lR aK (aj (pv 1) ao))) (aV (gZ (PW.pt (pw_or (dW (nT hr.units) (pv 2) (pv 1) (by with_unfolding_all rfl)) (pw_or1 (dW op_ne (pc G1 hr D1 (aj (pv 0) (aj (pv 2) ao))) (pc G1 hr D1 (aj (pv 0) (aj (pv 3) ao))))))) (bf (cD pe_bl)) iJ) (bf (cD (pB (eF rfl) mK (aj (pK ["k"] ["web","begun","image","place"] [0,1,2,3] (wQ rfl aB (aj (pv 3) ao)) (pG 0) qz (Hg op_eq (pc G2 hr D2 (aj (pv 1) (aj (bA (dU K) (pv 2) (pv 0)) (aj (pv 3) ao)))) (pc G2 hr D2 (aj (pv 1) (aj (pv 0) (aj (pv 4) ao)))))) ao)))))),?_⟩;refine jA ?_;intro c3 c2;refine⟨_,rfl,b,_,rfl,.inr hb,fun _=> ?_⟩;rw[yH];refine⟨_,rfl,_,rfl,b,_,bs.map PyData.int,.int x,rfl,.inr hb,bO.ints bs,.int _,qC bs,rfl,(by show 0<=60;decide),_,rfl,?_⟩;rw[Mu];refine ite2 (fun c=> ?_) (fun c=> ?_)
 ·refine iteT ?_;have e:iY ts bs x=false:=by unfold iY;rw[c];rfl
  rw[<-e];exact q _ (Same.refl _)
 ·refine⟨_,rfl,_,rfl,a,n,x,ts,rfl,hW,fun H1 s1=>⟨_,rfl,_,rfl,a,n,_,ts,rfl,hW.same s1,fun H2 s2=>⟨rfl,_,rfl,?_⟩⟩⟩;rw[neE];have s12:=s1.trans s2;have c':decide (x∈bs)=false:=wca c;refine ite2 (fun d=> ?_) (fun d=> ?_)
  ·have e:iY ts bs x=false:=by
    unfold iY;have z:¬cnt ts x=cnt ts (bs.length:Int):=fun z=>by rw[z]at d;simp at d
    rw[fJ z,wfl];rfl
   rw[<-e];exact q _ s12
  ·have z:cnt ts x=cnt ts (bs.length:Int):=by
    have:((cnt ts x:Nat):Int)=((cnt ts (bs.length:Int):Nat):Int):=by simpa using d
    omega
   have eg:iY ts bs x=V9 ts bs x:=by unfold iY;rw[c',dB z];rfl
   refine⟨_,rfl,(bs.length:Int),rfl,by omega,by omega,?_⟩;let sZ:Nat->List V->St->Hp->Prop:=fun k acc σ H'=>acc=((List.range k).map fun(j:Nat)=>ak ts (bs.getD j 0) x==ak ts (j:Int) (bs.length:Int)).map V.bl/\Same H2 H'/\∃o,σ=[o,some (.ref a),some (.ref b),some (.int x),some (.int (bs.length:Int))];refine CG (lo:=0) (n:=(bs.length:Int).toNat) sZ ⟨rfl,Same.refl _,_,rfl⟩ (fun k acc σ H' _ p=>by rw[p.1,aG,aG,wV];exact aN _) (by rw[eX];omega) (fun k acc σ H' hk p=> ?_) (fun acc σ H' p=> ?_)
   ·obtain⟨rfl,s3,o,rfl⟩:=p;have hat:atI (bs.map V.int) (0+(k:Int))=some (.int (bs.getD k 0)):=by
     have z:=Lh (xs:=bs) (i:=0+(k:Int)) (by omega) (by omega)
     rwa [show(0+(k:Int)).toNat=k by omega]at z
    have s23:=s12.trans s3;refine⟨_,rfl,_,rfl,_,rfl,b,_,_,_,rfl,rfl,s23.tup hb,hat,_,rfl,a,n,_,x,ts,rfl,hW.same s23,fun H4 s4=>⟨_,rfl,_,rfl,_,rfl,a,n,_,_,ts,rfl,hW.same (s23.trans s4),fun H5 s5=>⟨rfl,?_,s3.trans (s4.trans s5),_,rfl⟩⟩⟩;rw[blE,wU,bW,bW,MJ];rfl
   ·obtain⟨rfl,s3,_⟩:=p;intro p1 hp1;refine⟨p1,_,rfl,SqL.of aJ,?_⟩;have e2:((List.range (bs.length:Int).toNat).map fun(j:Nat)=>ak ts (bs.getD j 0) x==ak ts (j:Int) (bs.length:Int)).all id=V9 ts bs x:=by
     rw[Vt,show(bs.length:Int).toNat=bs.length by omega];rfl
    rw[e2,<-eg];exact q _ (s12.trans (s3.trans (aY hp1 _)))
end
end Hs
namespace L2
open PySem PySem.Spec PyProof.Rows
noncomputable def Hz(H:Hp)(a:Addr)(xs:List V):Prop:=∃ob:Obj,H a=some (.frz ob (.tup xs))/\ob.dict=none
theorem Hz.sq{K:W.Frag}{H:Hp}{a:Addr}{xs:List V}(h:Hz H a xs):SqT K H a xs:=let⟨ob,e,_⟩:=h;.inl (.inr ⟨ob,e⟩)
theorem Hz.same{H H':Hp}{a:Addr}{xs:List V}(h:Hz H a xs)(s:Same H H'):Hz H' a xs:=let⟨ob,e,d⟩:=h;⟨ob,s _ _ e,d⟩
section
variable{X:Cx}{es:List Expr}{t:TA}{pos:Pos}
noncomputable def XC(t:TA):TE:=fun σ H Q=>t σ H fun xs H1=>xs.length<=sizeLine/\∀(a:Addr) (ob:Obj),H1 a=none->ob.dict=none->Q (.ref a) (upd H1 a (.frz ob (.tup xs)))
theorem DK{x1}(h:PA X es t):PE X (.Tuple es x1 pos) (XC t):=by
 intro pins s σ H Q I hq;refine wpAny_Tuple_spliced (thn (h pos pins s σ H _ I hq) fun us s1 ⟨xs,H1,I1,r,z,q⟩=>⟨by rw[<-r.length];exact z,?_⟩);have hf:H1 s1.heap.objs.size=none:=I1.hok.fresh (aN _);refine⟨.ref s1.heap.objs.size,_,I1.laid (t':=s1.toks) (fun b u e=>gP _ e) (aN _) (show ObjOk X.prog X.w _ _ _ (.frz _ (.tup xs))from⟨j7 _ rfl,z,us,r,⟨_,j7 _ rfl,rfl,_,rfl⟩⟩),rfl,q _ _ hf rfl⟩
noncomputable def X6(K:W.Frag):R2:=fun x y H Q=>∃a b xs ys,x= .ref a/\y= .ref b/\SqT K H a xs/\Hz H b ys/\ys≠[]/\xs.length+ys.length<=sizeLine/\∀r H',Same H H'->Hz H' r (xs++ys)->Q (.ref r) H'
theorem Ob:OpR X (binaryOp .Add) (X6 X.K):=by
 intro pins s σ H x y v u Q I rx ry h;obtain⟨a,b,xs,ys,rfl,rfl,ha,hb,hy,hz,q⟩:=h;cases rx;cases ry;obtain⟨its,r1,p1,_⟩:=I.tuple ha;obtain⟨its2,r2,p2,_⟩:=I.tuple (hb.sq (K:=X.K));by_cases hx:xs=[]
 ·subst hx;cases r1;obtain⟨⟨cls,dd,data,sl⟩,ho,hc,n,hd⟩:=id p1;obtain⟨⟨cls2,dd2,data2,sl2⟩,ho2,hc2,n2,hd2⟩:=id p2;simp only at hc hd hc2 hd2;subst hc hd hc2 hd2;exact wfd ⟨_,ho,rfl⟩ ⟨_,ho2,rfl⟩ wcw wep wbu wbr (wbp _ _)
   (tuple_addW0 a b _ _ n n2 dd dd2 sl sl2 (by simp)) ⟨ho,ho2,⟨.ref b,H,I,rfl,q b H (Same.refl _) hb⟩⟩
 ·refine HT.cat_tup p1 p2 (fun z=>hx (r1.nil_iff.mp z)) (fun z=>absurd (r2.nil_iff.mp z) hy) (fun z=> ?_) (by rw[<-r1.length,<-r2.length];exact hz);have hf:H s.heap.objs.size=none:=I.hok.fresh (aN _);refine⟨.ref s.heap.objs.size,_,I.laid (t':=s.toks) (fun b ob q=>gP _ q) (aN _) (show ObjOk X.prog X.w _ _ _ (.frz _ (.tup (xs++ys)))from⟨j7 _ rfl,by rw[g8];exact hz,_,r1.append r2,VG _ _⟩),rfl,q _ _ (aY hf _) ⟨_,aJ,rfl⟩⟩
end
end L2
namespace Hs
open PySem L2 lQ
section
variable{P:ξ}{w:τ}{K:W.Frag}{mg:L4}{base:Heap}
theorem _root_.L2.Hz.bL{H H':Hp}{a l:Addr}{xs zs:List V}(h:Hz H a xs)(s:aF l H H')(hl:H l=some (.lst zs)):Hz H' a xs:=let⟨ob,e,d⟩:=h;⟨ob,s _ _ (fun z=>by rw[z,hl]at e;cases e) e,d⟩
noncomputable def Qk(K:W.Frag)(H:Hp)(a:Addr)(xs:List Int):Prop:=SqT K H a (xs.map V.int)/\(xs≠[]->Hz H a (xs.map V.int))
theorem Qk.same{H H':Hp}{a:Addr}{xs:List Int}(h:Qk K H a xs)(e:Same H H'):Qk K H' a xs:=⟨e.tup h.1,fun z=>(h.2 z).same e⟩
theorem Qk.bL{H H':Hp}{a l:Addr}{xs:List Int}{zs:List V}(h:Qk K H a xs)(e:aF l H H')(hl:H l=some (.lst zs)):Qk K H' a xs:=⟨e.tup hl h.1,fun z=>(h.2 z).bL e hl⟩
noncomputable def sY(K:W.Frag)(H:Hp)(l:Addr)(its:List (Addr×List Int)):Prop:=H l=some (.lst (its.map fun p=>V.ref p.1))/\∀p∈its,Qk K H p.1 p.2
theorem sY.same{H H':Hp}{l:Addr}{its:List (Addr×List Int)}(h:sY K H l its)(e:Same H H'):sY K H' l its:=⟨e _ _ h.1,fun p hp=>(h.2 p hp).same e⟩
noncomputable def kj(K:W.Frag)(m:Nat):Sp:=fun vs H Q _=>∃(a b:Addr) (n most:Int) (ts:L0) (bs:List Int),vs=[.ref a,.ref b,.int most]/\aZ K H a n ts/\Qk K H b bs/\bs.length+m=n.toNat/\0<most/\most<=721/\
 ∀r its H',Same H H'->sY K H' r its->its.map (·.2)=(bH (iY ts) n.toNat m bs).take most.toNat->H r=none->Q (.ref r) H'
noncomputable def Np(K:W.Frag):Nat->Sp
 |0=>fun _ _ _ _=>False
 |m+1=>kj K m
theorem eqE(a b:Int):decide (V.int a=V.int b)=decide (a=b):=by
 by_cases e:a=b
 ·subst e;simp
 ·rw[fJ e,fJ (by intro z;injection z with z;exact e z)]
theorem yd{H0 H H':Hp}{l:Addr}(s:Same H0 H)(n:H0 l=none)(e:aF l H H'):Same H0 H':=fun b u h=>e _ _ (fun z=>by rw[z,n]at h;cases h) (s _ _ h)
theorem Jq:FnScope ["web","begun","most","found","image"] ["web","begun","most"] (defScope Qx):=fsc
theorem rD{f f1:Addr}{fd d1:ρ}{lv m:Nat}(F:Fun K "turnings_from" "turnings_from" Qx f fd)(D1:bQ K mg "can_go_on" Wy ["web","begun","image"] f1 d1)(G1:FnOk P w K mg base CX0 lv f1 d1 ["web","begun","image"] (Nm K))(D2:bQ K mg "turnings_from" Qx ["web","begun","most"] f fd)(G2:FnOk P w K mg base CX0 lv f fd ["web","begun","most"] (Np K m))(aK:mg "len"=none)(aB:mg "range"=none):FnOk P w K mg base CX0 (lv+1) f fd ["web","begun","most"] (kj K m):=by
 refine F.dG ["web","begun","most","found","image"] fun cdv A outer s H vs Q E hr h=> ?_;obtain⟨a,b,n,most,ts,bs,rfl,hW,hb,hm,m0,m1,q⟩:=h;refine⟨_,(aV (gZ (dW op_eq (pB lR aK (aj (pv 1) ao)) (bA eG (pv 0) aL)) (bf (cD (Ad (aj (pv 1) ao)))) iJ) (aV (pS 3 (Ad ao)) (aV (ps_for Aa rfl (wQ rfl aB (aj (bA eG (pv 0) aL) ao)) (pG 4) (bf (gZ (PW.pt (pw_and (dW op_lt (pB lR aK (aj (pv 3) ao)) (pv 2)) (pw_and1 (zU (pc G1 hr D1 (aj (pv 0) (aj (pv 1) (aj (pv 4) ao)))))))) (bf (qR (pe_bm Hv weh wei mt_extend (pv 3) (aj (pc G2 hr D2 (aj (pv 0) (aj (cu Ob (pv 1) (DK (aj (pv 4) ao))) (aj (cu op_sub (pv 2) (pB lR aK (aj (pv 3) ao))) ao)))) ao)))) iJ))) (bf (cD (pv 3)))))),?_⟩;have h0:=hW.h0;have h1:=hW.h1;obtain⟨t0,rs0,w1,_,_⟩:=hW.web;refine⟨_,rfl,b,_,rfl,.inr hb.1,fun _=>⟨_,rfl,a,_,_,.int n,rfl,rfl,w1,rfl,rfl,_,rfl,?_⟩⟩;rw[yH,eqE];cases m with
 |zero=>
  rw[dB (show(bs.length:Int)=n by omega)];refine iteT ?_;refine⟨_,rfl,(by show 1<=sizeLine;decide),fun l hl=> ?_⟩;refine q l [(b,bs)] _ (aY hl _) ⟨aJ,fun p hp=>by rw[fO.mp hp];exact hb.same (aY hl _)⟩ ?_ hl;show[bs]=[bs].take most.toNat;rw[Xk (by show 1<=_;omega)]
 |succ m=>
  rw[fJ (show¬(bs.length:Int)=n by omega)];refine iteF ?_;dsimp only[tNext];refine⟨(by show 0<=sizeLine;decide),fun tl htl=> ?_⟩;have s1:=aY htl (.lst []);have T0:sY K (upd H tl (.lst [])) tl []:=⟨aJ,fun p hp=>(nomatch hp)⟩;dsimp only at s1 T0⊢;generalize upd H tl (.lst [])=H1 at *;refine⟨_,rfl,a,_,_,.int n,rfl,rfl,s1.tup w1,rfl,n,rfl,by omega,by omega,?_⟩;refine Mx (n:=n.toNat) (fun i σ H'=>Same H H'/\(∃its,sY K H' tl its/\its.map (·.2)=(upTo (iY ts) n.toNat m bs i).take most.toNat)/\∃o4,σ=[some (.ref a),some (.ref b),some (.int most),some (.ref tl),o4])
   ⟨s1,⟨[],T0,by show[]=([]:List (List Int)).take _;rw[List.take_nil]⟩,_,rfl⟩ (fun i σ H2 hi p=> ?_) (fun σ H2 p=> ?_)
  ·obtain⟨s2,⟨its,T,e⟩,o4,rfl⟩:=p;have hW2:=hW.same s2;have hb2:=hb.same s2;have hlen:its.length=((upTo (iY ts) n.toNat m bs i).take most.toNat).length:=by rw[<-e,aG]
   refine⟨_,rfl,tl,_,rfl,.inl (SqL.of T.1),fun _=>⟨_,rfl,_,_,rfl,rfl,_,rfl,?_⟩⟩;have e0:0+(i:Int)=(i:Int):=MJ _;rw[Fd];refine ite2 (fun c=> ?_) (fun c=> ?_)
   ·have c2:its.length<most.toNat:=by
     have c3:=j9 c;rw[aG]at c3;omega
    refine⟨_,rfl,_,rfl,_,rfl,a,b,_,n,ts,bs,rfl,hW2.web,hb2.1,by omega,fun H3 s3=>⟨_,rfl,?_⟩⟩;rw[e0];have T3:=T.same s3;refine ite2 (fun d=> ?_) (fun d=> ?_)
    ·refine⟨_,rfl,.inl ⟨rfl,_,SqL.of T3.1⟩,?_⟩;refine⟨_,rfl,_,rfl,_,rfl,(by show 1<=sizeLine;decide),fun t ob ht hob=> ?_⟩;have s4:=aY ht (.frz ob (.tup [.int (i:Int)]));refine⟨b,t,_,_,rfl,rfl,s4.tup (s3.tup hb2.1),⟨ob,aJ,hob⟩,(fun z=>nomatch z),by rw[aG,eX];show _+1<=_;omega,fun b5 H5 s5 h5=> ?_⟩;have Nx:=s3.trans (s4.trans s5);have T5:=T3.same (s4.trans s5);refine⟨_,rfl,_,rfl,tl,_,rfl,.inl (SqL.of T5.1),fun _=>⟨_,_,rfl,rfl,?_⟩⟩;refine⟨a,b5,n,_,ts,bs++[(i:Int)],rfl,hW2.same Nx,?_,by rw[g8,RN];omega,?_,?_,fun r Ut H6 s6 T6 e6 n6=> ?_⟩
     ·exact⟨by rw[bW];exact h5.sq,fun _=>by rw[bW];exact h5⟩
     ·show 0<most-((its.map fun p=>V.ref p.1).length:Int);rw[aG];omega
     ·show most-((its.map fun p=>V.ref p.1).length:Int)<=721;rw[aG];omega
     ·have T56:=T5.same s6;have e7:(most-((its.map fun p=>V.ref p.1).length:Int)).toNat=most.toNat-its.length:=by rw[aG];omega
      have l6:Ut.length<=721:=by
       have:=gq List.length e6;rw[aG,zY,e7]at this;omega
      refine⟨tl,r,_,_,rfl,rfl,T56.1,T6.1,by rw[aG,aG,eX];omega,?_⟩;have x7:aF tl H6 (upd H6 tl (.lst ((its.map fun p=>V.ref p.1)++Ut.map fun p=>V.ref p.1))):=(aF.refl _ _).upd;refine⟨yd (s2.trans (Nx.trans s6)) htl x7,⟨its++Ut,⟨by rw[aJ,bW],fun p hp=> ?_⟩,?_⟩,_,rfl⟩
      ·rcases pU.mp hp with z|z
       ·exact(T56.2 p z).bL x7 T56.1
       ·exact(T6.2 p z).bL x7 T56.1
      ·rw[aA d,Nh (by rw[<-hlen];exact c2),<-hlen,bW,e,e6,e7]
    ·refine⟨s2.trans s3,⟨its,T3,?_⟩,_,rfl⟩;rw[aq d,tL];exact e
   ·refine iteF ?_;refine⟨s2,⟨its,T,?_⟩,_,rfl⟩;have c2:¬its.length<most.toNat:=fun z=>c (dB (by rw[aG];omega));rw[Nj (by rw[<-hlen];exact c2)];exact e
  ·obtain⟨s2,⟨its,T,e⟩,o4,rfl⟩:=p;exact⟨_,rfl,q tl its _ s2 T e htl⟩
theorem yj{f f1:Addr}{fd d1:ρ}(F:Fun K "turnings_from" "turnings_from" Qx f fd)(D1:bQ K mg "can_go_on" Wy ["web","begun","image"] f1 d1)(G1:FnOk P w K mg base CX0 2 f1 d1 ["web","begun","image"] (Nm K))(D2:bQ K mg "turnings_from" Qx ["web","begun","most"] f fd)(aK:mg "len"=none)(aB:mg "range"=none):∀m,FnOk P w K mg base CX0 (3+m) f fd ["web","begun","most"] (kj K m)
 |0=>rD (lv:=2) F D1 G1 D2 (F.ok (k:=1) Jq (fun vs H Q E h=>h.elim) (fun cdv A outer s H vs Q E hr h=>h.elim)) aK aB
 |m+1=>rD (lv:=3+m) (m:=m+1) F D1 (G1.mono (by omega)) D2 (yj F D1 G1 D2 aK aB m) aK aB
noncomputable def xq(K:W.Frag):Sp:=fun vs H Q _=>∃(a:Addr) (n:Int) (ts:L0),vs=[.ref a]/\aZ K H a n ts/\(bH (iY ts) n.toNat n.toNat []).length<=720/\
 ∀r its H',Same H H'->sY K H' r its->its.map (·.2)=bH (iY ts) n.toNat n.toNat []->H r=none->Q (.ref r) H'
theorem FZ{f f1 f2:Addr}{fd d1 d2:ρ}{tk0:Tok}(F:Fun K "turnings" "turnings" kY f fd)(D1:bQ K mg "need_web" HN ["thing"] f1 d1)(G1:FnOk P w K mg base CX0 7 f1 d1 ["thing"] (cA K))(D2:bQ K mg "turnings_from" Qx ["web","begun","most"] f2 d2)(G2':∀m,FnOk P w K mg base CX0 (3+m) f2 d2 ["web","begun","most"] (kj K m))(aK:mg "len"=none)(iM:mg "MOST_TURNINGS"=some (.int 720 tk0)):
  FnOk P w K mg base CX0 14 f fd ["web"] (xq K):=by
 refine F.dG ["web","found"] fun cdv A outer s H vs Q E hr h=> ?_;obtain⟨a,n,ts,rfl,hW,hle,q⟩:=h;have h1:=hW.h1;have G2:FnOk P w K mg base CX0 13 f2 d2 ["web","begun","most"] (kj K n.toNat):=(G2' n.toNat).mono (by omega);refine bw ?_;intro Y;refine⟨_,(aV (qR (pc G1 hr D1 (aj (pv 0) ao))) (aV (pS 1 (pc G2 hr D2 (aj (pv 0) (aj (qu ao) (aj (cu pQ (pe_glob rfl iM (v:= .int 720) ⟨_,rfl⟩) aL) ao))))) (aV (gZ (dW op_gt (pB lR aK (aj (pv 1) ao)) (pe_glob rfl iM (v:= .int 720) ⟨_,rfl⟩)) pss_never iJ) (bf (cD (pv 1)))))),?_⟩;refine yP ?_;intro c4 c3 c2;refine⟨_,rfl,.ref a,_,rfl,hW.web.dv.dx,hW.ok,fun H1 s1=> ?_⟩;refine⟨_,rfl,(by show 0<=sizeLine;decide),fun e he=>⟨_,_,rfl,rfl,?_⟩⟩;have s2:=aY he (.tup []);refine⟨a,e,n,720+1,ts,[],rfl,(hW.same s1).same s2,⟨SqT.of aJ,fun z=>absurd rfl z⟩,by show 0+n.toNat=n.toNat;omega,by decide,by decide,fun r its H2 s3 T e2 n2=> ?_⟩;have tO:=s1.trans (s2.trans s3);have r0:H r=none:=(s1.trans s2).free n2;have hl:its.length=min 721 (bH (iY ts) n.toNat n.toNat []).length:=by
  have:=gq List.length e2;rw[aG,zY]at this;exact this
 refine⟨_,rfl,r,_,rfl,.inl (SqL.of T.1),fun _=>⟨_,_,rfl,rfl,_,rfl,?_⟩⟩;rw[aG];rw[fJ (show¬(720:Int)<(its.length:Int) by omega)];refine iteF ?_;refine⟨_,rfl,q r its H2 tO T ?_ r0⟩;rw[e2];exact Xk (show _<=721 by omega)
end
theorem HF(n:Nat):(cB n).length=n:=by unfold cB;rw[aG,wV]
noncomputable def bM(ts:L0)(n:Nat):Bool:=(cB n).all fun p=>iY ts [] p&& !(bH (iY ts) n (n-1) [p]).isEmpty
section
variable{P:ξ}{w:τ}{K:W.Frag}{mg:L4}{base:Heap}
noncomputable def sJ(ts:L0)(n:Nat)(p:Int):Bool:=iY ts [] p&& !(bH (iY ts) n (n-1) [p]).isEmpty
noncomputable def Ja(K:W.Frag):Sp:=fun vs H Q _=>∃(a:Addr) (n p:Int) (ts:L0),vs=[.ref a,.int p]/\aZ K H a n ts/\0<=p/\p<n/\∀H',Same H H'->Q (.bl (sJ ts n.toNat p)) H'
theorem Om{f f1 f2:Addr}{fd d1 d2:ρ}(F:Fun K "leads_first_to" "leads_first_to" zct f fd)(D1:bQ K mg "turnings_from" Qx ["web","begun","most"] f1 d1)(ZW:∀m,FnOk P w K mg base CX0 (3+m) f1 d1 ["web","begun","most"] (kj K m))(D2:bQ K mg "can_go_on" Wy ["web","begun","image"] f2 d2)(G2:FnOk P w K mg base CX0 2 f2 d2 ["web","begun","image"] (Nm K))(aK:mg "len"=none):
  FnOk P w K mg base CX0 14 f fd ["web","place"] (Ja K):=by
 refine F.dG ["web","place"] fun cdv A outer s H vs Q E hr h=> ?_;obtain⟨a,n,p,ts,rfl,hW,p0,p1,q⟩:=h;have h1':=hW.h1;have G1:FnOk P w K mg base CX0 13 f1 d1 ["web","begun","most"] (kj K (n.toNat-1)):=(ZW (n.toNat-1)).mono (by omega);refine⟨_,(bf (cD (pe_and (pc G2 hr D2 (aj (pv 0) (aj (qu ao) (aj (pv 1) ao)))) (pe_one (Hg op_gt (pB lR aK (aj (pc G1 hr D1 (aj (pv 0) (aj (DK (aj (pv 1) ao)) (aj aL ao)))) ao)) aL))))),?_⟩;have h1:=hW.h1;refine⟨_,rfl,(by show 0<=sizeLine;decide),fun e0 he0=> ?_⟩;have s1:=aY he0 (.tup []);refine⟨_,rfl,a,e0,p,n,ts,[],rfl,(hW.same s1).web,SqT.of aJ,by decide,fun H1 s2=>⟨_,rfl,?_⟩⟩;have s12:=s1.trans s2;refine ite2 (fun c=> ?_) (fun c=> ?_)
 ·refine⟨_,rfl,_,rfl,(by show 1<=sizeLine;decide),fun e1 ob YX hob=> ?_⟩;have s3:=aY YX (.frz ob (.tup [.int p]));refine⟨a,e1,n,1,ts,[p],rfl,hW.same (s12.trans s3),⟨Hz.sq ⟨ob,aJ,hob⟩,fun _=>⟨ob,aJ,hob⟩⟩,by show 1+(n.toNat-1)=n.toNat;omega,by decide,by decide,fun r its H2 s4 T e4 n4=> ?_⟩;refine⟨r,_,rfl,.inl (SqL.of T.1),fun _=>⟨_,_,rfl,rfl,?_⟩⟩;have el:its.length=min 1 (bH (iY ts) n.toNat (n.toNat-1) [p]).length:=by
   have:=gq List.length e4;rw[aG,zY]at this;exact this
  have eb:decide ((0:Int)<(((its.map fun p=>V.ref p.1).length:Nat):Int))=sJ ts n.toNat p:=by
   unfold sJ;rw[c,Xp,aG,el];cases bH (iY ts) n.toNat (n.toNat-1) [p]with
   |nil=>rfl
   |cons x xs=>rw[pW,show min 1 (xs.length+1)=1 by omega];rfl
  dsimp only;rw[eb];exact q _ (s12.trans (s3.trans s4))
 ·have eb:sJ ts n.toNat p=false:=by unfold sJ;rw[wca c];rfl
  rw[<-eb];exact q _ s12
noncomputable def u6(K:W.Frag):Sp:=fun vs H Q _=>∃(a:Addr) (n:Int) (ts:L0),vs=[.ref a]/\aZ K H a n ts/\∀H',Same H H'->Q (.bl (bM ts n.toNat)) H'
theorem JZ{f f1 f2:Addr}{fd d1 d2:ρ}(F:Fun K "is_alike" "is_alike" iz f fd)(D1:bQ K mg "need_web" HN ["thing"] f1 d1)(G1:FnOk P w K mg base CX0 7 f1 d1 ["thing"] (cA K))(D2:bQ K mg "leads_first_to" zct ["web","place"] f2 d2)(G2:FnOk P w K mg base CX0 14 f2 d2 ["web","place"] (Ja K))(mK:mg "all"=none)(aB:mg "range"=none):
  FnOk P w K mg base CX0 15 f fd ["web"] (u6 K):=by
 refine F.dG ["web"] fun cdv A outer s H vs Q E hr h=> ?_;obtain⟨a,n,ts,rfl,hW,q⟩:=h;refine bw ?_;intro Y;refine⟨_,(aV (qR (pc G1 hr D1 (aj (pv 0) ao))) (bf (cD (pB (eF rfl) mK (aj (pK ["place"] ["web"] [0] (wQ rfl aB (aj (bA eG (pv 0) aL) ao)) (pG 0) qz (pc G2 hr D2 (aj (pv 1) (aj (pv 0) ao)))) ao))))),?_⟩;refine gU ?_;intro c2;have h0:=hW.h0;have h1:=hW.h1;refine⟨_,rfl,.ref a,_,rfl,hW.web.dv.dx,hW.ok,fun H1 s1=> ?_⟩;have hW1:=hW.same s1;obtain⟨t,rs,w1,_,_⟩:=hW1.web;refine⟨_,rfl,a,_,_,.int n,rfl,rfl,w1,rfl,n,rfl,by omega,by omega,?_⟩;let gO:Nat->List V->St->Hp->Prop:=fun k acc σ H'=>acc=((cB k).map (sJ ts n.toNat)).map V.bl/\Same H1 H'/\∃o,σ=[o,some (.ref a)];refine CG (lo:=0) (n:=n.toNat) gO ⟨rfl,Same.refl _,_,rfl⟩ (fun k acc σ H' _ p=>by rw[p.1,aG,aG,HF];exact aN _) (by rw[eX];omega) (fun k acc σ H' hk p=> ?_) (fun acc σ H' p=> ?_)
 ·obtain⟨rfl,s2,o,rfl⟩:=p;refine⟨_,rfl,_,rfl,a,n,_,ts,rfl,hW1.same s2,by omega,by omega,fun H2 s3=>⟨?_,s2.trans s3,_,rfl⟩⟩;rw[xX,bW,bW,MJ];rfl
 ·obtain⟨rfl,s2,_⟩:=p;intro p1 hp1;refine⟨p1,_,rfl,SqL.of aJ,?_⟩;have e:((cB n.toNat).map (sJ ts n.toNat)).all id=bM ts n.toNat:=by rw[Vt];rfl
  rw[e];exact q _ (s1.trans (s2.trans (aY hp1 _)))
theorem Bk{n:Int}{ts:L0}{s:List Int}(h0:0<=n)(h1:n<=10)(h:lE s ts false n.toNat):s.length<=10:=by
 obtain⟨ss,hS,i,hi,hm⟩:=h;have K1:jc ts false n.toNat s:=jj _ _ (dO.mp (hS.1.mem_iff.mp (qW hi))).1;have h2:Sub n.toNat s:=⟨K1.up.imp fun h e=>by omega,fun i hi=>by have:=K1.lt i hi;omega⟩;have:=h2.len;omega
noncomputable def xP(K:W.Frag):Sp:=fun vs H Q _=>∃(a:Addr) (n:Int) (ts:L0),vs=[.ref a]/\aZ K H a n ts/\(bM ts n.toNat=false->∀H',Same H H'->Q .non H')/\
 (bM ts n.toNat=true->∀(p:Addr) (H':Hp) (u:Int) (v:Nat) (s:List Int),Same H H'->H' p=some (.tup [.int u,.int (v:Int)])->lE s ts false n.toNat->Low n (max s.length 1) u v->Q (.ref p) H')
theorem Gh{f f1 f2 f3:Addr}{fd d1 d2 d3:ρ}(F:Fun K "alike_value" "alike_value" gJ f fd)(D1:bQ K mg "is_alike" iz ["web"] f1 d1)(G1:FnOk P w K mg base CX0 15 f1 d1 ["web"] (u6 K))(D2:bQ K mg "lowest" fQ ["a","b"] f2 d2)(G2:FnOk P w K mg base CX0 2 f2 d2 ["a","b"] (uz K))(D3:bQ K mg "greatest_apart" zcu ["web"] f3 d3)(G3:FnOk P w K mg base CX0 9 f3 d3 ["web"] (xK K))(yx:mg "max"=none)(aK:mg "len"=none):
  FnOk P w K mg base CX0 16 f fd ["web"] (xP K):=by
 refine F.dG ["web"] fun cdv A outer s H vs Q E hr h=> ?_;obtain⟨a,n,ts,rfl,hW,q1,q2⟩:=h;refine bw ?_;intro Y;refine⟨_,(aV (gZ (pt_not (zU (pc G1 hr D1 (aj (pv 0) ao)))) (bf (cD pe_non)) iJ) (bf (cD (pc G2 hr D2 (aj (bA eG (pv 0) aL) (aj (pB (call_max2 rfl) yx (aj (pB lR aK (aj (pc G3 hr D3 (aj (pv 0) ao)) ao)) (aj aL ao))) ao)))))),?_⟩;refine gU ?_;intro c2;have hw1:=hW.h1;refine⟨_,rfl,a,n,ts,rfl,hW,fun H1 s1=>⟨_,rfl,?_⟩⟩;refine ite2 (fun c=> ?_) (fun c=> ?_)
 ·exact q1 (by cases z:bM ts n.toNat with
   |false=>rfl
   |true=>rw[z]at c;cases c) H1 s1
 ·have ct:bM ts n.toNat=true:=by
   cases z:bM ts n.toNat with
   |true=>rfl
   |false=>rw[z]at c;exact absurd rfl c
  obtain⟨t,rs,w1,_,_⟩:=(hW.same s1).web;refine⟨_,rfl,a,_,_,.int n,rfl,rfl,w1,rfl,_,rfl,a,n,ts,rfl,hW.same s1,fun r s H2 s2 hr hm=> ?_⟩;refine⟨r,_,rfl,.inr hr,fun hz=>⟨_,_,rfl,?_⟩⟩;have e:(if(1:Int)>(((s.map V.int).length:Nat):Int)then(1:Int)else(((s.map V.int).length:Nat):Int))=((max s.length 1:Nat):Int):=by
   rw[aG];split<;>omega
  rw[e];have hs:=Bk hW.h0 hw1 hm;exact⟨n,max s.length 1,rfl,by omega,eN (show max s.length 1<=10 by omega) (by decide+kernel),fun p H' u v s' hp L=>q2 ct p H' u v s (s1.trans (s2.trans s')) hp hm L⟩
end
end Hs
namespace Hs
open PySem lQ
theorem pq:∀{xs ys:List Int},xs.Pairwise (· < ·)->ys.Pairwise (· < ·)->(∀k,k∈xs↔k∈ys)->xs=ys
 |[],[],_,_,_=>rfl
 |[],y::ys,_,_,h=>by have:=(h y).mpr (by simp);simp at this
 |x::xs,[],_,_,h=>by have:=(h x).mp (by simp);simp at this
 |x::xs,y::ys,hx,hy,h=>by
  rw[Xg]at hx hy;have e:x=y:=by
   have a:=(h x).mp (by simp);have b:=(h y).mpr (by simp);rcases cQ.mp a with a|a
   ·exact a
   ·rcases cQ.mp b with b|b
    ·exact b.symm
    ·have:=hy.1 x a;have:=hx.1 y b;omega
  subst e;rw[pq hx.2 hy.2 fun k=> ?_];constructor
  ·intro hk;rcases cQ.mp ((h k).mp (dF _ hk))with a|a
   ·have:=hx.1 k hk;omega
   ·exact a
  ·intro hk;rcases cQ.mp ((h k).mpr (dF _ hk))with a|a
   ·have:=hy.1 k hk;omega
   ·exact a
theorem lX{ts:L0}{w:Bool}:∀(k:Nat) (s:List Int),jc ts w k s->s∈bD ts w k
 |0,s,h=>by
  cases s with
  |nil=>show([]:List Int)∈[[]];simp
  |cons x s=>have:=h.lt x (by simp);omega
 |k+1,s,h=>by
  show s∈bD ts w k++((bD ts w k).filter fun s=>goB ts w s (k:Int)).map fun s=>s++[(k:Int)];by_cases c:(k:Int)∈s
  ·have hm:∀x,x∈s.filter (fun x=> !decide (x=(k:Int)))↔x∈s/\x≠(k:Int):=fun x=>by rw[dO];simp
   refine lU _ (fG.mpr ⟨s.filter (fun x=> !decide (x=(k:Int))),dO.mpr ⟨lX k _ ⟨h.up.filter _,fun x hx=> ?_,fun x hx y hy hne=> ?_⟩,?_⟩,?_⟩)
   ·have a:=(hm x).mp hx;have b:=h.lt x a.1;have:=a.2;omega
   ·exact h.all x ((hm x).mp hx).1 y ((hm y).mp hy).1 hne
   ·unfold goB;rw[j6];intro q hq;have a:=(hm q).mp hq;exact h.all _ c q a.1 (fun e=>a.2 e.symm)
   ·refine pq ?_ h.up fun x=> ?_
    ·rw[yea];refine⟨h.up.filter _,RP _ _,fun x hx y hy=> ?_⟩;rw[fO.mp hy];have a:=(hm x).mp hx;have b:=h.lt x a.1;have:=a.2;omega
    ·rw[pU,hm,fO];constructor
     ·rintro(a|a)
      ·exact a.1
      ·rw[a];exact c
     ·intro a;by_cases e:x=(k:Int)
      ·exact .inr e
      ·exact .inl ⟨a,e⟩
  ·refine RM _ (lX k s ⟨h.up,fun x hx=> ?_,h.all⟩);have b:=h.lt x hx;have:x≠(k:Int):=fun e=>c (by rw[<-e];exact hx);omega
theorem Qa{ts:L0}{w:Bool}{n:Nat}{s:List Int}(F:Full (fun i j=> !(bN ts i j==w)) (rng n) s):s∈gW ts w n:=by
 refine dO.mpr ⟨lX n s (jc.of F),?_⟩;unfold jX;rw[wcq,Xe];intro p hp hc;rw[jg]at hc;have hn:p∉s:=by simpa using hc.1
 obtain⟨x,hx,hr⟩:=F.max p hp hn;have:=j6.mp hc.2 x hx
 try dsimp only at hr this
 rw[MF,this]at hr;cases hr
theorem DY{α:Type}(g:α->Nat):∀V:List α,V≠[]->∃v∈V,∀u∈V,g u<=g v
 |[],h=>absurd rfl h
 |[x],_=>⟨x,by simp,fun u hu=>by rw[fO.mp hu];exact aN _⟩
 |x::y::V,_=>by
  obtain⟨v,hv,hm⟩:=DY g (y::V) (by simp);by_cases c:g v<=g x
  ·refine⟨x,by simp,fun u hu=> ?_⟩;rcases cQ.mp hu with e|e
   ·rw[e];exact aN _
   ·exact eN (hm u e) c
  ·refine⟨v,dF _ hv,fun u hu=> ?_⟩;rcases cQ.mp hu with e|e
   ·rw[e];omega
   ·exact hm u e
theorem sU{ts:L0}{w:Bool}{n:Nat}{s:List Int}(hs:jc ts w n s):∃t∈gW ts w n,∀x∈s,x∈t:=by
 let C:=(bD ts w n).filter fun t=>s.all fun x=>decide (x∈t);have mC:∀t,t∈C↔t∈bD ts w n/\∀x∈s,x∈t:=fun t=>by
  show t∈(bD ts w n).filter _↔_;rw[dO,j6];simp
 have hne:C≠[]:=fun e=>by
  have:s∈C:=(mC s).mpr ⟨lX n s hs,fun x hx=>hx⟩;rw[e]at this;cases this
 obtain⟨t,ht,hm⟩:=DY List.length C hne;obtain⟨h1,h2⟩:=(mC t).mp ht;have T:=jj n t h1;refine⟨t,Qa ⟨T.up,fun x hx=>fD.mpr (T.lt x hx),fun x hx y hy hne=> ?_,fun v hv hn=> ?_⟩,h2⟩
 ·show(!(bN ts x y==w))=false;rw[T.all x hx y hy hne];rfl
 ·apply M9;intro hc;have go:∀x∈t,(bN ts x v==w)=true:=fun x hx=>by
   cases e:(bN ts x v==w)with
   |true=>rfl
   |false=>exact absurd ⟨x,hx,by show(!(bN ts x v==w))=true;rw[e];rfl⟩ hc
  have mU:∀x,x∈(rng n).filter (fun x=>decide (x∈t)||decide (x=v))↔x∈t\/x=v:=fun x=>by
   rw[dO,wfi,wW,wW];constructor
   ·exact fun z=>z.2
   ·rintro(z|z)
    ·exact⟨fD.mpr (T.lt x z),.inl z⟩
    ·exact⟨by rw[z];exact hv,.inr z⟩
  have up:((rng n).filter (fun x=>decide (x∈t)||decide (x=v))).Pairwise (· < ·):=by
   refine Xx _ ?_;unfold rng;rw[zZ];exact Vz.imp fun{a b} h=>by omega
  have U:jc ts w n ((rng n).filter (fun x=>decide (x∈t)||decide (x=v))):=⟨up,fun x hx=>fD.mp (dO.mp hx).1,fun x hx y hy hne=>by
   rcases(mU x).mp hx with a|a
   ·rcases(mU y).mp hy with b|b
    ·exact T.all x a y b hne
    ·rw[b];exact go x a
   ·rcases(mU y).mp hy with b|b
    ·rw[a,MF];exact go y b
    ·exact absurd (a.trans b.symm) hne⟩
  have inC:=(mC _).mpr ⟨lX n _ U,fun x hx=>(mU x).mpr (.inl (h2 x hx))⟩;have l1:=hm _ inC;have l2:=Qu (l:=v::t) (m:=(rng n).filter (fun x=>decide (x∈t)||decide (x=v))) (ur.mpr ⟨hn,T.up.imp fun{a b} h=>by omega⟩) (fun x hx=>by
   rcases cQ.mp hx with z|z
   ·exact(mU x).mpr (.inr z)
   ·exact(mU x).mpr (.inl z))
  rw[pW]at l2;omega
end Hs
namespace Hs
open PySem L2 lQ
theorem uT{n:Nat}{x:Int}:x∈cB n↔0<=x/\x<(n:Int):=by
 unfold cB;rw[fG];constructor
 ·rintro⟨t,ht,rfl⟩;have:=lO.mp ht;omega
 ·intro h;exact⟨x.toNat,lO.mpr (by omega),by omega⟩
section
variable{P:ξ}{w:τ}{K:W.Frag}{mg:L4}{base:Heap}
noncomputable def aU(n:Nat)(X:Nat->Int):List V:=((List.range (n+1)).map X).map V.int
noncomputable def bV(n:Nat)(c:Nat->Nat):List Int:=(List.range n).map fun k=>((c k:Nat):Int)
noncomputable def flds(cl co ro:Addr)(o:Int):List (Str×V):=[("cells",.ref cl),("over",.int o),("columns",.ref co),("rows",.ref ro)]
structure cG(K:W.Frag)(C:Addr)(H0 H:Hp)(o dx cl co ro:Addr)(rws:List Addr)(n m:Nat)(T:Sx.Tab):Prop where
 same:Same H0 H
 o0:H0 o=none
 Vh:H0 cl=none
 Rx:H0 co=none
 Ri:H0 ro=none
 ne:co≠ro
 nc:co∉rws
 nr:ro∉rws
 at_:H o=some (.ins C dx (flds cl co ro T.over))
 cells:H cl=some (.lst (rws.map V.ref))
 len:rws.length=m+1
 row:∀r a,rws[r]? =some a->H a=some (.lst (aU n (T.cell r)))
 cols:H co=some (.lst ((bV n T.col).map V.int))
 rows:H ro=some (.lst ((bV m T.row).map V.int))
noncomputable def jB(K:W.Frag)(C:Addr)(H0 H:Hp)(o:Addr)(n m:Nat)(T:Sx.Tab):Prop:=∃dx cl co ro rws,cG K C H0 H o dx cl co ro rws n m T
theorem cG.sm{C:Addr}{H0 H H':Hp}{o dx cl co ro:Addr}{rws:List Addr}{n m:Nat}{T:Sx.Tab}(h:cG K C H0 H o dx cl co ro rws n m T)(s:Same H H'):cG K C H0 H' o dx cl co ro rws n m T:=
 ⟨h.same.trans s,h.o0,h.Vh,h.Rx,h.Ri,h.ne,h.nc,h.nr,s _ _ h.at_,s _ _ h.cells,h.len,fun r a e=>s _ _ (h.row r a e),s _ _ h.cols,s _ _ h.rows⟩
theorem jB.sm{C:Addr}{H0 H H':Hp}{o:Addr}{n m:Nat}{T:Sx.Tab}(h:jB K C H0 H o n m T)(s:Same H H'):jB K C H0 H' o n m T:=by
 obtain⟨dx,cl,co,ro,rws,h⟩:=h;exact⟨dx,cl,co,ro,rws,h.sm s⟩
structure TG(n m:Nat)(S:Nat->Nat->Bool)(wt:Nat->Int)(T:Sx.Tab):Prop where
 good:Sx.Good n m S wt T
 n10:n<=10
 Yr:m<=40
 wb:∀p,p<n->0<=wt p/\wt p<=99
 cov:∀p,p<n->∃k,k<m/\S k p=true
theorem TG.cell{n m:Nat}{S:Nat->Nat->Bool}{wt:Nat->Int}{T:Sx.Tab}(h:TG n m S wt T){r c:Nat}(hr:r<=m)(hc:c<=n): -4000000000<=T.cell r c/\T.cell r c<=4000000000:=by
 have a:=h.good.Le h.wb hr hc;have b:=Sx.K4 (k:=n+1) (by have:=h.n10;omega);omega
theorem TG.over{n m:Nat}{S:Nat->Nat->Bool}{wt:Nat->Int}{T:Sx.Tab}(h:TG n m S wt T):0<T.over/\T.over<=39916800:=by
 have a:=h.good.N6;have b:=Sx.K4 (k:=n+1) (by have:=h.n10;omega);exact⟨h.good.pos,by omega⟩
theorem Eu(n:Nat)(X:Nat->Int):(aU n X).length=n+1:=by unfold aU;rw[aG,aG,wV]
theorem mj{n c:Nat}(X:Nat->Int)(h:c<=n):(aU n X)[c]? =some (.int (X c)):=by
 unfold aU;rw[cU,cU,HW (by omega)];rfl
theorem dR{n c:Nat}(X:Nat->Int)(h:c<=n):atI (aU n X) (c:Int)=some (.int (X c)):=atI_nat (mj X h)
theorem atI_last{xs:List V}{v:V}(h:xs[xs.length-1]? =some v)(h0:0<xs.length):atI xs (-1)=some v:=by
 have e:ixN xs.length (-1)=some (xs.length-1):=by
  unfold ixN;rw[aq (by decide),aA (by omega)];congr 1;omega
 unfold atI;rw[e];exact h
theorem nR(n:Nat)(X:Nat->Int):atI (aU n X) (-1)=some (.int (X n)):=atI_last (by rw[Eu];exact mj X (aN n)) (by rw[Eu];omega)
theorem Ew(n:Nat)(c:Nat->Nat):(bV n c).length=n:=by unfold bV;rw[aG,wV]
theorem Cz{n k:Nat}(c:Nat->Nat)(h:k<n):(bV n c)[k]? =some ((c k:Nat):Int):=by
 unfold bV;rw[cU,HW h];rfl
theorem mF{n k:Nat}(c:Nat->Nat)(h:k<n):atI ((bV n c).map V.int) (k:Int)=some (.int ((c k:Nat):Int)):=atI_nat (by rw[cU,Cz c h];rfl)
theorem uK{n k:Nat}(c:Nat->Nat)(v:Nat)(h:k<n):(bV n c).set k (v:Int)=bV n (fun i=>if i=k then v else c i):=by
 refine W0 fun i=> ?_;rw[wem];by_cases hi:i<n
 ·rw[Cz _ hi,Cz _ hi,Ew];by_cases e:k=i
  ·rw[aA e,aA h,aA e.symm]
  ·rw[aq e,aq (jU e)]
 ·rw[HX (by rw[Ew];omega),HX (by rw[Ew];omega),aq (by omega)]
theorem cG.Fq{C:Addr}{H0 H:Hp}{o dx cl co ro:Addr}{rws:List Addr}{n m:Nat}{T:Sx.Tab}(h:cG K C H0 H o dx cl co ro rws n m T){r:Nat}(hr:r<=m):∃a,rws[r]? =some a/\atI (rws.map V.ref) (r:Int)=some (.ref a)/\H a=some (.lst (aU n (T.cell r))):=by
 have hl:=h.len;have e:rws[r]? =some rws[r]:=eO (by omega);exact⟨rws[r],e,atI_nat (by rw[cU,e];rfl),h.row r _ e⟩
theorem cG.XS{C:Addr}{H0 H:Hp}{o dx cl co ro:Addr}{rws:List Addr}{n m:Nat}{T:Sx.Tab}(h:cG K C H0 H o dx cl co ro rws n m T):∃a,rws[m]? =some a/\atI (rws.map V.ref) (-1)=some (.ref a)/\H a=some (.lst (aU n (T.cell m))):=by
 obtain⟨a,e,_,f⟩:=h.Fq (aN m);exact⟨a,e,atI_last (by rw[aG,h.len,cU,wdv,e];rfl) (by rw[aG,h.len];omega),f⟩
noncomputable def IK(K:W.Frag)(C:Addr):Sp:=fun vs H Q _=>∃(o:Addr) (H0:Hp) (n m:Nat) (S:Nat->Nat->Bool) (wt:Nat->Int) (T:Sx.Tab),vs=[.ref o]/\jB K C H0 H o n m T/\TG n m S wt T/\
 ((∀c,c<n->0<=T.cell m c)->∀H',Same H H'->Q .non H')/\∀(q:Nat) H',q<n->T.cell m q<0->(∀c,c<n->T.cell m c<0->T.col q<=T.col c)->Same H H'->Q (.int (q:Int)) H'
theorem TF{f C:Addr}{fd:ρ}(F:Fun K "next_column" "Tableau.next_column" zbr f fd)
  (Cc:Cls K C)(aW:NoAttr K C "cells")(cZ:NoAttr K C "over")(aQ:NoAttr K C "columns")(cF:NoAttr K C "rows")(eE:mg "enumerate"=none)(iK:mg "min"=none):
  FnOk P w K mg base CX0 1 f fd ["self"] (IK K C):=by
 refine F.dG ["self","worth","names"] fun cdv A outer s H vs Q E hr h=> ?_;obtain⟨o,H0,n,m,S,wt,T,rfl,⟨dx,cl,co,ro,rws,hT⟩,hG,q1,q2⟩:=h;refine bw ?_;intro Y;refine⟨_,(aV (pS 1 (bA jf (lN (pv 0) rfl) (pe_un un_neg aL))) (aV (pX 2 ["k","name"] ["worth"] [1] (vD rfl eE (aj (lN (pv 0) rfl) ao)) (gC K (n:=2) rfl (uq (pG 0) (uq (pG 1) pgs_nil))) (HD (dW op_lt (bA (jz K) (pv 2) (pv 0)) aL)) (pv 1)) (bf (cD (pe_ifExp (pt_truth (pv 2) (fun _=>rfl)) (pe_bm Hv wcg wch nW (lN (pv 0) rfl) (aj (pB (Gx rfl) iK (aj (pv 2) ao)) ao)) pe_non))))),?_⟩;refine jA ?_;intro c3 c2;obtain⟨za,ze,zi,zr⟩:=hT.XS;refine⟨_,rfl,o,C,dx,_,_,rfl,hT.at_,Cc,aW,rfl,_,rfl,cl,_,_,_,rfl,rfl,SqL.of hT.cells,zi,?_⟩;refine⟨_,rfl,o,C,dx,_,_,rfl,hT.at_,Cc,aQ,rfl,false,co,_,rfl,SqL.of hT.cols,fun hz=> ?_⟩;let gO:Nat->List V->St->Hp->Prop:=fun i acc σ H'=>acc=(((List.range i).filter fun c=>decide (T.cell m c<0)).map fun c=>((T.col c:Nat):Int)).map V.int/\Same H H'/\∃o1 o2,σ=[o1,o2,some (.ref za)];refine oH (K:=K) (b:=false) (a:=co) (xs:=(bV n T.col).map V.int) gO ⟨rfl,Same.refl _,_,_,rfl⟩ (fun i acc σ H' _ p=>p.2.1.seq (SqL.of hT.cols)) (fun i acc σ H' _ p=> ?_) hz (fun i v t acc σ H' hv p ht=> ?_) (fun acc σ H' p=> ?_)
 ·rw[p.1,aG,aG];exact eN (Af _ _) (by rw[wV];exact aN _)
 ·obtain⟨rfl,sm,o1,o2,rfl⟩:=p;have hi:i<n:=by
   have:=(lV.mp hv).1;rw[aG,Ew]at this;exact this
  rw[cU,Cz _ hi]at hv;cases hv;have s1:=aY ht (.tup [.int (i:Int),.int ((T.col i:Nat):Int)]);refine⟨t,_,rfl,SqT.of aJ,rfl,_,_,rfl,_,_,rfl,rfl,?_⟩;refine⟨_,rfl,_,rfl,za,_,_,_,rfl,rfl,SqL.of ((sm.trans s1) _ _ zr),dR _ (dH hi),_,_,rfl,rfl,_,rfl,?_⟩;have go:((List.range (i+1)).filter fun c=>decide (T.cell m c<0))=((List.range i).filter fun c=>decide (T.cell m c<0))++(if decide (T.cell m i<0)=true then[i]else[]):=by
   rw[wU,Mh];congr 1;rw[qT];split<;>rfl
  refine ite2 (fun c=> ?_) (fun c=> ?_)
  ·exact⟨_,rfl,by rw[go,aA c,bW,bW];rfl,sm.trans s1,_,_,rfl⟩
  ·exact⟨by rw[go,aq c,tL],sm.trans s1,_,_,rfl⟩
 ·intro p1 hp1;obtain⟨rfl,sm,_⟩:=p;rw[aG,Ew];have s1:=aY hp1 (.lst ((((List.range n).filter fun c=>decide (T.cell m c<0)).map fun c=>((T.col c:Nat):Int)).map V.int));have e1:(upd H' p1 (.lst ((((List.range n).filter fun c=>decide (T.cell m c<0)).map fun c=>((T.col c:Nat):Int)).map V.int))) p1=some (.lst ((((List.range n).filter fun c=>decide (T.cell m c<0)).map fun c=>((T.col c:Nat):Int)).map V.int)):=aJ;have s2:=sm.trans s1;generalize (upd H' p1 (.lst ((((List.range n).filter fun c=>decide (T.cell m c<0)).map fun c=>((T.col c:Nat):Int)).map V.int)))=H1 at *;have hT1:=hT.sm s2;refine⟨_,rfl,_,.inl ⟨_,SqL.of e1,rfl⟩,?_⟩;cases hl:(List.range n).filter fun c=>decide (T.cell m c<0)with
  |nil=>
   refine iteF ?_;refine q1 (fun c hc=>Int.not_lt.mp fun hn=> ?_) _ s2;have:c∈(List.range n).filter fun c=>decide (T.cell m c<0):=dO.mpr ⟨lO.mpr hc,dB hn⟩;rw[hl]at this;cases this
  |cons c0 rest=>
   rw[hl]at e1;refine iteT ?_;refine⟨_,rfl,o,C,dx,_,_,rfl,hT1.at_,Cc,aQ,rfl,.inl ⟨rfl,_,SqL.of hT1.cols⟩,_,rfl,p1,_,rfl,SqL.of e1,(fun e=>nomatch e),fun mn hmn hle=> ?_⟩;rw[<-hl]at hmn hle;obtain⟨c,hc,rfl⟩:=fG.mp hmn;obtain⟨hc1,hc2⟩:=dO.mp hc;have hcn:=lO.mp hc1;refine⟨co,bV n T.col,_,c,rfl,rfl,hT1.cols,Cz _ hcn,fun i hi e=> ?_,by rw[Ew];have:=hG.n10;omega,?_⟩
   ·rw[Cz _ (by omega)]at e;have:T.col i=T.col c:=Xo (qY e);have:=hG.good.BJ i c (by omega) hcn this;omega
   ·refine q2 c _ hcn (j9 hc2) (fun c' hc' hn=> ?_) s2;have:=hle _ (fG.mpr ⟨c',dO.mpr ⟨lO.mpr hc',dB hn⟩,rfl⟩);omega
noncomputable def V4(n q:Nat)(T:Sx.Tab)(r t:Nat):Bool:=decide (T.cell r n*T.cell t q<T.cell t n*T.cell r q)||(decide (T.cell r n*T.cell t q=T.cell t n*T.cell r q)&&decide (T.row r<T.row t))
noncomputable def Q6(K:W.Frag)(C:Addr):Sp:=fun vs H Q _=>∃(o:Addr) (H0:Hp) (n m q r t:Nat) (S:Nat->Nat->Bool) (wt:Nat->Int) (T:Sx.Tab),vs=[.ref o,.int (q:Int),.int (r:Int),.int (t:Int)]/\jB K C H0 H o n m T/\TG n m S wt T/\q<n/\r<m/\t<m/\Q (.bl (V4 n q T r t)) H
theorem Tq{f C:Addr}{fd:ρ}(F:Fun K "is_tighter" "Tableau.is_tighter" zbu f fd)
  (Cc:Cls K C)(aW:NoAttr K C "cells")(cZ:NoAttr K C "over")(aQ:NoAttr K C "columns")(cF:NoAttr K C "rows"):
  FnOk P w K mg base CX0 1 f fd ["self","column","row","other"] (Q6 K C):=by
 refine F.dG ["self","column","row","other","one","two"] fun cdv A outer s H vs Q E hr h=> ?_;obtain⟨o,H0,n,m,q,r,t,S,wt,T,rfl,⟨dx,cl,co,ro,rws,hT⟩,hG,hq,hr0,ht,qq⟩:=h;refine bw ?_;intro Y;refine⟨_,(aV (pS 4 (cu tQ (bA jf (bA jf (lN (pv 0) rfl) (pv 2)) (pe_un un_neg aL)) (bA jf (bA jf (lN (pv 0) rfl) (pv 3)) (pv 1)))) (aV (pS 5 (cu tQ (bA jf (bA jf (lN (pv 0) rfl) (pv 3)) (pe_un un_neg aL)) (bA jf (bA jf (lN (pv 0) rfl) (pv 2)) (pv 1)))) (bf (cD (pe_or (Hg op_lt (pv 4) (pv 5)) (pe_one (pe_and (Hg op_eq (pv 4) (pv 5)) (pe_one (Hg op_lt (bA jf (lN (pv 0) rfl) (pv 2)) (bA jf (lN (pv 0) rfl) (pv 3))))))))))),?_⟩;refine jA ?_;intro c3 c2;obtain⟨ra,re,ri,rr⟩:=hT.Fq (dH hr0);obtain⟨ta,te,ti,tr⟩:=hT.Fq (dH ht);have b1:=hG.cell (dH hr0) (aN n);have b2:=hG.cell (dH ht) (aN n);refine⟨_,rfl,o,C,dx,_,_,rfl,hT.at_,Cc,aW,rfl,_,rfl,cl,_,_,_,rfl,rfl,SqL.of hT.cells,ri,_,rfl,ra,_,_,_,rfl,rfl,SqL.of rr,nR _ _,?_⟩;refine⟨_,rfl,o,C,dx,_,_,rfl,hT.at_,Cc,aW,rfl,_,rfl,cl,_,_,_,rfl,rfl,SqL.of hT.cells,ti,_,rfl,ta,_,_,_,rfl,rfl,SqL.of tr,dR _ (dH hq),_,_,rfl,rfl,.inl ⟨by omega,by omega⟩,?_⟩;refine⟨_,rfl,o,C,dx,_,_,rfl,hT.at_,Cc,aW,rfl,_,rfl,cl,_,_,_,rfl,rfl,SqL.of hT.cells,ti,_,rfl,ta,_,_,_,rfl,rfl,SqL.of tr,nR _ _,?_⟩;refine⟨_,rfl,o,C,dx,_,_,rfl,hT.at_,Cc,aW,rfl,_,rfl,cl,_,_,_,rfl,rfl,SqL.of hT.cells,ri,_,rfl,ra,_,_,_,rfl,rfl,SqL.of rr,dR _ (dH hq),_,_,rfl,rfl,.inl ⟨by omega,by omega⟩,?_⟩;refine⟨_,rfl,_,rfl,_,_,rfl,rfl,_,rfl,?_⟩;unfold V4 at qq;refine ite2 (fun c=> ?_) (fun c=> ?_)
 ·rw[c,Bool.true_or]at qq;exact qq
 ·rw[wca c,Bool.false_or]at qq;refine⟨_,rfl,_,rfl,rfl,_,rfl,?_⟩;refine ite2 (fun c2=> ?_) (fun c2=> ?_)
  ·have c2':decide (T.cell r n*T.cell t q=T.cell t n*T.cell r q)=true:=dB (V.int.inj (j9 c2));rw[c2',Xp]at qq;refine⟨_,rfl,o,C,dx,_,_,rfl,hT.at_,Cc,cF,rfl,_,rfl,ro,_,_,_,rfl,rfl,SqL.of hT.rows,mF _ hr0,?_⟩;refine⟨_,rfl,o,C,dx,_,_,rfl,hT.at_,Cc,cF,rfl,_,rfl,ro,_,_,_,rfl,rfl,SqL.of hT.rows,mF _ ht,_,_,rfl,rfl,?_⟩;rw[<-show decide (((T.row r:Nat):Int)<((T.row t:Nat):Int))=decide (T.row r<T.row t)from decide_eq_decide.mpr Int.ofNat_lt]at qq;exact qq
  ·have c2':decide (T.cell r n*T.cell t q=T.cell t n*T.cell r q)=false:=fJ fun e=>c2 (dB (gq V.int e));rw[c2',Bool.false_and]at qq;exact qq
noncomputable def RB(n q:Nat)(T:Sx.Tab)(p r:Nat):Prop:=T.cell p n*T.cell r q<T.cell r n*T.cell p q\/(T.cell p n*T.cell r q=T.cell r n*T.cell p q/\T.row p<=T.row r)
theorem Gk{n q:Nat}{T:Sx.Tab}{a b c:Nat}(ha:0<T.cell a q)(hb:0<T.cell b q)(hc:0<T.cell c q)(h1:RB n q T a b)(h2:RB n q T b c):RB n q T a c:=by
 have cm:∀x y:Nat,T.cell x n*T.cell y q=T.cell y q*T.cell x n:=fun x y=>Ey _ _;have cn:∀x y:Nat,T.cell y n*T.cell x q=T.cell x q*T.cell y n:=fun x y=>Ey _ _;unfold RB at *;rw[cm a b,cn a b]at h1;rw[cm b c,cn b c]at h2;rw[cm a c,cn a c];rcases h1 with h1|⟨h1,l1⟩
 ·rcases h2 with h2|⟨h2,_⟩
  ·exact .inl (Sx.vZ hb ha hc (CJ h1) h2)
  ·exact .inl (Sx.zf hb ha hc h1 (QB h2))
 ·rcases h2 with h2|⟨h2,l2⟩
  ·exact .inl (Sx.vZ hb ha hc (QB h1) h2)
  ·exact .inr ⟨wfj (Sx.v7 hb ha hc (QB h1) (QB h2)) (Sx.v7 hb hc ha (by rw[<-h2];exact tR _) (by rw[<-h1];exact tR _)),eN l1 l2⟩
theorem R3{n q:Nat}{T:Sx.Tab}{r t:Nat}(h:V4 n q T r t=true):RB n q T r t:=by
 unfold V4 at h;rw[wfi,jg]at h;rcases h with h|⟨h1,h2⟩
 ·exact .inl (j9 h)
 ·exact .inr ⟨j9 h1,dH (j9 h2)⟩
theorem Xy{n q:Nat}{T:Sx.Tab}{r t:Nat}(h:V4 n q T r t=false):RB n q T t r:=by
 unfold V4 at h;rw[Bool.or_eq_false_iff,Bool.and_eq_false_iff]at h;have h1:=V0 h.1;by_cases c:T.cell r n*T.cell t q=T.cell t n*T.cell r q
 ·refine .inr ⟨c.symm,?_⟩;rcases h.2 with z|z
  ·exact absurd c (V0 z)
  ·exact Nat.not_lt.mp (V0 z)
 ·exact .inl (by omega)
noncomputable def Q8(K:W.Frag)(C:Addr):Sp:=fun vs H Q _=>∃(o:Addr) (H0:Hp) (n m q:Nat) (S:Nat->Nat->Bool) (wt:Nat->Int) (T:Sx.Tab),vs=[.ref o,.int (q:Int)]/\jB K C H0 H o n m T/\TG n m S wt T/\q<n/\
 ∀p:Nat,p<m->0<T.cell p q->(∀r,r<m->0<T.cell r q->RB n q T p r)->Q (.int (p:Int)) H
theorem Tz{f f1 C:Addr}{fd d1:ρ}(F:Fun K "next_row" "Tableau.next_row" zcd f fd)
  (Cc:Cls K C)(aW:NoAttr K C "cells")(cZ:NoAttr K C "over")(aQ:NoAttr K C "columns")(cF:NoAttr K C "rows")(D1:qg K C "is_tighter" "Tableau.is_tighter" zbu ["self","column","row","other"] f1 d1)(G1:FnOk P w K mg base CX0 1 f1 d1 ["self","column","row","other"] (Q6 K C))(aB:mg "range"=none)(aK:mg "len"=none):
  FnOk P w K mg base CX0 2 f fd ["self","column"] (Q8 K C):=by
 refine F.dG ["self","column","tightest","row"] fun cdv A outer s H vs Q E hr h=> ?_;obtain⟨o,H0,n,m,q,S,wt,T,rfl,⟨dx,cl,co,ro,rws,hT⟩,hG,hq,qq⟩:=h;refine⟨_,(aV (pS 2 pe_non) (aV (ps_for Aa rfl (wQ rfl aB (aj (pB lR aK (aj (lN (pv 0) rfl) ao)) ao)) (pG 3) (bf (gZ (PW.pt (pw_and (dW op_gt (bA jf (bA jf (lN (pv 0) rfl) (pv 3)) (pv 1)) aL) (pw_and1 (PW.pt (pw_or (dW op_isN (pv 2) pe_non) (pw_or1 (zU (Cw (pv 0) Cc D1.m G1 hr D1.b .nil pass0 (aj (pv 1) (aj (pv 3) (aj (pv 2) ao))))))))))) (bf (pS 2 (pv 3))) iJ))) (bf (cD (pv 2))))),?_⟩;refine⟨_,rfl,o,C,dx,_,_,rfl,hT.at_,Cc,cF,rfl,ro,_,rfl,.inl (SqL.of hT.rows),fun _=> ?_⟩;rw[aG,Ew];refine⟨_,rfl,by have:=hG.Yr;omega,by have:=hG.Yr;omega,?_⟩;refine Mx (n:=m) (fun i σ H'=>H'=H/\∃(x:V) (o3:Option V),σ=[some (.ref o),some (.int (q:Int)),some x,o3]/\((x= .non/\∀r,r<i->T.cell r q<=0)\/∃p:Nat,p<i/\x= .int (p:Int)/\0<T.cell p q/\∀r,r<i->0<T.cell r q->RB n q T p r)) ⟨rfl,_,_,rfl,.inl ⟨rfl,fun r hr=>absurd hr (QD r)⟩⟩ (fun i σ H' hi p=> ?_) (fun σ H' p=> ?_)
 ·obtain⟨rfl,x,o3,rfl,hx⟩:=p;rw[MJ];obtain⟨ra,re,ri,rr⟩:=hT.Fq (dH hi);refine⟨_,rfl,o,C,dx,_,_,rfl,hT.at_,Cc,aW,rfl,_,rfl,cl,_,_,_,rfl,rfl,SqL.of hT.cells,ri,_,rfl,ra,_,_,_,rfl,rfl,SqL.of rr,dR _ (dH hq),_,_,rfl,rfl,_,rfl,?_⟩;refine ite2 (fun c=> ?_) (fun c=> ?_)
  ·have c':0<T.cell i q:=j9 c;rcases hx with⟨rfl,hx⟩|⟨p,hp,rfl,hp0,hlev⟩
   ·refine⟨_,rfl,rfl,_,rfl,?_⟩;refine iteT ?_;refine iteT ?_;refine⟨_,rfl,rfl,_,_,rfl,.inr ⟨i,tM i,rfl,c',fun r hr h0=> ?_⟩⟩;by_cases e:r=i
    ·subst e;exact .inr ⟨rfl,aN _⟩
    ·have:=hx r (by omega);omega
   ·refine⟨_,rfl,rfl,_,rfl,?_⟩;refine iteF ?_;refine⟨_,rfl,o,dx,_,rfl,hT.at_,rfl,_,rfl,_,rfl,_,rfl,o,H0,n,m,q,i,p,S,wt,T,rfl,⟨dx,cl,co,ro,rws,hT⟩,hG,hq,hi,by omega,_,rfl,?_⟩;refine ite2 (fun z=> ?_) (fun z=> ?_)
    ·refine⟨_,rfl,rfl,_,_,rfl,.inr ⟨i,tM i,rfl,c',fun r hr h0=> ?_⟩⟩;by_cases e:r=i
     ·subst e;exact .inr ⟨rfl,aN _⟩
     ·exact Gk c' hp0 h0 (R3 z) (hlev r (by omega) h0)
    ·refine⟨rfl,_,_,rfl,.inr ⟨p,by omega,rfl,hp0,fun r hr h0=> ?_⟩⟩;by_cases e:r=i
     ·subst e;exact Xy (wca z)
     ·exact hlev r (by omega) h0
  ·refine iteF ?_;have c':T.cell i q<=0:=Int.not_lt.mp fun h=>c (dB h);refine⟨rfl,_,_,rfl,?_⟩;rcases hx with⟨rfl,hx⟩|⟨p,hp,rfl,hp0,hlev⟩
   ·refine .inl ⟨rfl,fun r hr=> ?_⟩;by_cases e:r=i
    ·subst e;exact c'
    ·exact hx r (by omega)
   ·refine .inr ⟨p,by omega,rfl,hp0,fun r hr h0=> ?_⟩;by_cases e:r=i
    ·subst e;omega
    ·exact hlev r (by omega) h0
 ·obtain⟨rfl,x,o3,rfl,hx⟩:=p;rcases hx with⟨rfl,hx⟩|⟨p,hp,rfl,hp0,hlev⟩
  ·obtain⟨r,hr0,h0⟩:=hG.good.bounded hG.cov hq;have:=hx r hr0;omega
  ·exact⟨_,rfl,qq p hp hp0 hlev⟩
noncomputable def tdF(ov:Int)(X Y:Nat->Int)(q c:Nat):Int:=if c=q then -X q else(X c*Y q-X q*Y c)/ov
theorem xV{n q:Nat}(X:Nat->Int)(v:Int)(h:q<=n):(aU n X).set q (.int v)=aU n fun c=>if c=q then v else X c:=by
 refine W0 fun i=> ?_;rw[wem];by_cases hi:i<=n
 ·rw[mj _ hi,mj _ hi,Eu];by_cases e:q=i
  ·rw[aA e,aA (by omega),aA e.symm]
  ·rw[aq e,aq (jU e)]
 ·rw[HX (by rw[Eu];omega),HX (by rw[Eu];omega),aq (by omega)]
theorem lg{n:Nat}{X Y:Nat->Int}(h:∀c,c<=n->X c=Y c):aU n X=aU n Y:=by
 unfold aU;rw[Vx fun c hc=>h c (by have:=lO.mp hc;omega)]
noncomputable def Q7(K:W.Frag)(C:Addr):Sp:=fun vs H Q _=>∃(o xa ya:Addr) (H0:Hp) (n m q:Nat) (X Y:Nat->Int) (T:Sx.Tab),vs=[.ref o,.ref xa,.ref ya,.int (q:Int)]/\jB K C H0 H o n m T/\n<=10/\(0<T.over/\T.over<=39916800)/\q<=n/\H xa=some (.lst (aU n X))/\H ya=some (.lst (aU n Y))/\
 (∀c,c<=n->(-4000000000<=X c/\X c<=4000000000)/\(-4000000000<=Y c/\Y c<=4000000000))/\∀r H',Same H H'->H r=none->H' r=some (.lst (aU n (tdF T.over X Y q)))->Q (.ref r) H'
theorem Tr{f C:Addr}{fd:ρ}(F:Fun K "turned" "Tableau.turned" zcw f fd)
  (Cc:Cls K C)(aW:NoAttr K C "cells")(cZ:NoAttr K C "over")(aQ:NoAttr K C "columns")(cF:NoAttr K C "rows")(eE:mg "enumerate"=none):
  FnOk P w K mg base CX0 1 f fd ["self","cells","pivots","column"] (Q7 K C):=by
 refine F.dG ["self","cells","pivots","column","by","fresh"] fun cdv A outer s H vs Q E hr h=> ?_;obtain⟨o,xa,ya,H0,n,m,q,X,Y,T,rfl,⟨dx,cl,co,ro,rws,hT⟩,hn,⟨ho0,ho1⟩,hq,hX,hY,hb,qq⟩:=h;refine⟨_,(aV (pS 4 (bA jf (pv 2) (pv 3))) (aV (pX 5 ["k","cell"] ["by","cells","column","pivots","self"] [4,1,3,2,0] (vD rfl eE (aj (pv 1) ao)) (gC K (n:=2) rfl (uq (pG 0) (uq (pG 1) pgs_nil))) qz (cu yh (cu op_sub (cu tQ (pv 1) (pv 2)) (cu tQ (bA (jz K) (pv 3) (pv 4)) (bA (jz K) (pv 5) (pv 0)))) (DP K (pv 6) rfl))) (aV (ps_asg (pe_un un_neg (bA jf (pv 1) (pv 3))) (pg_sub (pv 5) (pv 3) set_list)) (bf (cD (pv 5)))))),?_⟩;refine⟨_,rfl,_,rfl,ya,_,_,_,rfl,rfl,SqL.of hY,dR _ hq,?_⟩;refine⟨_,rfl,false,xa,_,rfl,SqL.of hX,fun hz=> ?_⟩;refine oH (K:=K) (b:=false) (a:=xa) (xs:=aU n X) (fun i acc σ H'=>acc=((List.range i).map fun c=>(X c*Y q-X q*Y c)/T.over).map V.int/\Same H H'/\∃o1 o2,σ=[o1,o2,some (.int (Y q)),some (.ref xa),some (.int (q:Int)),some (.ref ya),some (.ref o)]) ⟨rfl,Same.refl _,_,_,rfl⟩ (fun i acc σ H' _ p=>p.2.1.seq (SqL.of hX)) (fun i acc σ H' _ p=> ?_) hz (fun i v t acc σ H' hv p ht=> ?_) (fun acc σ H' p=> ?_)
 ·rw[p.1,aG,aG,wV];exact aN _
 ·obtain⟨rfl,sm,o1,o2,rfl⟩:=p;have hi:i<=n:=by
   have:=(lV.mp hv).1;rw[Eu]at this;omega
  rw[mj _ hi]at hv;cases hv;have s1:=aY ht (.tup [.int (i:Int),.int (X i)]);have s2:=sm.trans s1;have bi:=(hb i hi).1;have bq:=(hb q hq).1;refine⟨t,_,rfl,SqT.of aJ,rfl,_,_,rfl,_,_,rfl,rfl,?_⟩;refine⟨_,rfl,_,rfl,_,_,rfl,rfl,.inl ⟨by omega,by omega⟩,?_⟩;refine⟨_,rfl,_,rfl,xa,_,_,_,rfl,rfl,SqL.of (s2 _ _ hX),dR _ hq,_,rfl,_,rfl,ya,_,_,_,rfl,rfl,SqL.of (s2 _ _ hY),dR _ hi,_,_,rfl,rfl,.inl ⟨by omega,by omega⟩,_,_,rfl,rfl,?_⟩;refine⟨_,rfl,o,C,dx,_,_,rfl,s2 _ _ hT.at_,Cc,cZ,rfl,_,_,rfl,rfl,⟨ho0,by omega⟩,?_⟩;exact⟨by rw[wU,bW,bW];rfl,s2,_,_,rfl⟩
 ·intro p1 hp1;obtain⟨rfl,sm,_⟩:=p;rw[Eu];have s1:=aY hp1 (.lst (aU n fun c=>(X c*Y q-X q*Y c)/T.over));have s2:=sm.trans s1;have h0:H p1=none:=by
   cases e:H p1 with
   |none=>rfl
   |some u=>rw[sm _ _ e]at hp1;cases hp1
  refine⟨_,rfl,_,rfl,xa,_,_,_,rfl,rfl,SqL.of (s2 _ _ hX),dR _ hq,_,rfl,?_⟩;refine⟨_,rfl,_,rfl,p1,_,_,q,rfl,rfl,aJ,?_,?_⟩
  ·have e:ixN (aU n fun c=>(X c*Y q-X q*Y c)/T.over).length (q:Int)=some q:=by
    rw[Eu];unfold ixN;rw[aA (by omega),aA (by omega)];rfl
   exact e
  ·refine⟨_,rfl,qq p1 _ (fun b u hb=> ?_) h0 ?_⟩
   ·have nb:b≠p1:=fun e=>by rw[e,h0]at hb;cases hb
    rw[cP nb];exact s2 _ _ hb
   ·rw[aJ];have e:=xV (fun c=>(X c*Y q-X q*Y c)/T.over) (-X q) hq;exact gq (fun l=>some (HO.lst l)) e
theorem Qg{xs:List V}{k:Nat}(hk:k<=xs.length):cutV xs none (some (k:Int))=xs.take k:=by
 unfold cutV;rw[HT.sIx_nat,HT.sIx_none,Nat.min_eq_left hk,List.drop_zero,wfs]
theorem Gw{xs:List V}{k:Nat}(hk:k<=xs.length):cutV xs (some (k:Int)) none=xs.drop k:=by
 unfold cutV;rw[HT.sIx_nat,HT.sIx_none,Nat.min_eq_left hk,Xk (by rw[List.length_drop];omega)]
theorem _root_.L2.Same.tW{H0 H:Hp}{a:Addr}{u:HO}(s:Same H0 H)(h:H0 a=none):Same H0 (upd H a u):=fun b o hb=>by
 have nb:b≠a:=fun e=>by rw[e,h]at hb;cases hb
 rw[cP nb];exact s _ _ hb
theorem _root_.L2.Same.none{H0 H:Hp}{a:Addr}(s:Same H0 H)(h:H a=none):H0 a=none:=by
 cases e:H0 a with
 |none=>rfl
 |some u=>rw[s _ _ e]at h;cases h
section
variable{C:Addr}{H0 H:Hp}{o dx cl co ro:Addr}{rws:List Addr}{n m:Nat}{T:Sx.Tab}
theorem cG.ocl(h:cG K C H0 H o dx cl co ro rws n m T):o≠cl:=ne_of h.at_ h.cells fun e=>nomatch e
theorem cG.oco(h:cG K C H0 H o dx cl co ro rws n m T):o≠co:=ne_of h.at_ h.cols fun e=>nomatch e
theorem cG.oro(h:cG K C H0 H o dx cl co ro rws n m T):o≠ro:=ne_of h.at_ h.rows fun e=>nomatch e
theorem jH{rws:List Addr}{xs:List Int}(h:0<rws.length)(e:rws.map V.ref=xs.map V.int):False:=by
 cases rws with
 |nil=>exact absurd h (pR 0)
 |cons a r=>
  cases xs with
  |nil=>cases e
  |cons x xs=>injection e with e1 _;cases e1
theorem cG.ZG(h:cG K C H0 H o dx cl co ro rws n m T):cl≠co:=fun e=>by
 have z:=h.cols;rw[<-e,h.cells]at z;exact jH (by rw[h.len];omega) (HO.lst.inj (qY z))
theorem cG.ZF(h:cG K C H0 H o dx cl co ro rws n m T):cl≠ro:=fun e=>by
 have z:=h.rows;rw[<-e,h.cells]at z;exact jH (by rw[h.len];omega) (HO.lst.inj (qY z))
theorem cG.ZD(h:cG K C H0 H o dx cl co ro rws n m T){r:Nat}{a:Addr}(e:rws[r]? =some a):a≠cl:=fun z=>by
 have y:=h.row r a e;rw[z,h.cells]at y;exact jH (by rw[h.len];omega) (HO.lst.inj (qY y))
theorem cG.orow(h:cG K C H0 H o dx cl co ro rws n m T){r:Nat}{a:Addr}(e:rws[r]? =some a):a≠o:=fun z=>by
 have y:=h.row r a e;rw[z,h.at_]at y;cases y
theorem cG.Jp(h:cG K C H0 H o dx cl co ro rws n m T){Ws:Addr}{Ax:List Addr}{X:Nat->Nat->Int}(h0:H0 Ws=none)(hc:H Ws=some (.lst (Ax.map V.ref)))(hl:Ax.length=m+1)(hr:∀r a,Ax[r]? =some a->H a=some (.lst (aU n (X r))))(n1:co∉Ax)(n2:ro∉Ax):
  cG K C H0 (upd H o (.ins C dx (putF "cells" (.ref Ws) (flds cl co ro T.over)))) o dx Ws co ro Ax n m {T with cell:=X}:=by
 have k:∀b,b≠o->∀u,H b=some u->(upd H o (.ins C dx (putF "cells" (.ref Ws) (flds cl co ro T.over)))) b=some u:=fun b hb u e=>by rw[cP hb];exact e
 refine⟨h.same.tW h.o0,h.o0,h0,h.Rx,h.Ri,h.ne,n1,n2,aJ,k _ (fun e=> ?_) _ hc,hl,fun r a e=>k _ (fun z=> ?_) _ (hr r a e),k _ h.oco.symm _ h.cols,k _ h.oro.symm _ h.rows⟩
 ·rw[e,h.at_]at hc;cases hc
 ·have y:=hr r a e;rw[z,h.at_]at y;cases y
theorem cG.Sq(h:cG K C H0 H o dx cl co ro rws n m T){p:Nat}{a:Addr}{X:Nat->Int}(hp:p<=m)(ha:H a=some (.lst (aU n X)))(n1:co≠a)(n2:ro≠a):
  cG K C H0 (upd H cl (.lst ((rws.map V.ref).set p (.ref a)))) o dx cl co ro (rws.set p a) n m {T with cell:=fun r c=>if r=p then X c else T.cell r c}:=by
 have k:∀b,b≠cl->∀u,H b=some u->(upd H cl (.lst ((rws.map V.ref).set p (.ref a)))) b=some u:=fun b hb u e=>by rw[cP hb];exact e
 have hac:a≠cl:=fun z=>by
  rw[z,h.cells]at ha;exact jH (by rw[h.len];omega) (HO.lst.inj (qY ha))
 refine⟨h.same.tW h.Vh,h.o0,h.Vh,h.Rx,h.Ri,h.ne,fun z=> ?_,fun z=> ?_,k _ h.ocl _ h.at_,by rw[aJ,wfu],by rw[List.length_set];exact h.len,fun r b e=> ?_,k _ h.ZG.symm _ h.cols,k _ h.ZF.symm _ h.rows⟩
 ·rcases wec z with z|z
  ·exact h.nc z
  ·exact n1 z
 ·rcases wec z with z|z
  ·exact h.nr z
  ·exact n2 z
 ·rw[wem]at e;by_cases c:p=r
  ·rw[aA c,aA (by rw[h.len];omega)]at e;cases e;rw[k _ hac _ ha];exact gq (fun l=>some (HO.lst l)) (lg fun c' _=>by show X c'=if r=p then X c' else T.cell r c';rw[aA c.symm])
  ·rw[aq c]at e;rw[k _ (h.ZD e) _ (h.row r b e)];exact gq (fun l=>some (HO.lst l)) (lg fun c' _=>by show T.cell r c'=if r=p then X c' else T.cell r c';rw[aq (jU c)])
theorem cG.setOver(h:cG K C H0 H o dx cl co ro rws n m T)(v:Int):cG K C H0 (upd H o (.ins C dx (putF "over" (.int v) (flds cl co ro T.over)))) o dx cl co ro rws n m {T with over:=v}:=by
 have k:∀b,b≠o->∀u,H b=some u->(upd H o (.ins C dx (putF "over" (.int v) (flds cl co ro T.over)))) b=some u:=fun b hb u e=>by rw[cP hb];exact e
 exact⟨h.same.tW h.o0,h.o0,h.Vh,h.Rx,h.Ri,h.ne,h.nc,h.nr,aJ,k _ h.ocl.symm _ h.cells,h.len,fun r a e=>k _ (h.orow e) _ (h.row r a e),k _ h.oco.symm _ h.cols,k _ h.oro.symm _ h.rows⟩
theorem cG.Nu(h:cG K C H0 H o dx cl co ro rws n m T){p:Nat}(v:Nat)(hp:p<m):cG K C H0 (upd H ro (.lst (((bV m T.row).map V.int).set p (.int (v:Int))))) o dx cl co ro rws n m {T with row:=fun r=>if r=p then v else T.row r}:=by
 have k:∀b,b≠ro->∀u,H b=some u->(upd H ro (.lst (((bV m T.row).map V.int).set p (.int (v:Int))))) b=some u:=fun b hb u e=>by rw[cP hb];exact e
 refine⟨h.same.tW h.Ri,h.o0,h.Vh,h.Rx,h.Ri,h.ne,h.nc,h.nr,k _ h.oro _ h.at_,k _ h.ZF _ h.cells,h.len,fun r a e=>k _ (fun z=>h.nr (z▸qW e)) _ (h.row r a e),k _ h.ne _ h.cols,?_⟩;rw[aJ,<-wfu,uK _ _ hp]
theorem cG.Nv(h:cG K C H0 H o dx cl co ro rws n m T){q:Nat}(v:Nat)(hq:q<n):cG K C H0 (upd H co (.lst (((bV n T.col).map V.int).set q (.int (v:Int))))) o dx cl co ro rws n m {T with col:=fun c=>if c=q then v else T.col c}:=by
 have k:∀b,b≠co->∀u,H b=some u->(upd H co (.lst (((bV n T.col).map V.int).set q (.int (v:Int))))) b=some u:=fun b hb u e=>by rw[cP hb];exact e
 refine⟨h.same.tW h.Rx,h.o0,h.Vh,h.Rx,h.Ri,h.ne,h.nc,h.nr,k _ h.oco _ h.at_,k _ h.ZG _ h.cells,h.len,fun r a e=>k _ (fun z=>h.nc (z▸qW e)) _ (h.row r a e),?_,k _ h.ne.symm _ h.rows⟩;rw[aJ,<-wfu,uK _ _ hq]
end
theorem Jt{n q:Nat}(X:Nat->Int)(v:Int)(h:q<=n):((aU n X).take q++[.int v])++(aU n X).drop (q+1)=aU n fun c=>if c=q then v else X c:=by
 rw[<-xV X v h,List.set_eq_take_append_cons_drop,aA (by rw[Eu];omega),HS];rfl
noncomputable def Q5(K:W.Frag)(C:Addr):Sp:=fun vs H Q _=>∃(o:Addr) (H0:Hp) (n m p q:Nat) (S:Nat->Nat->Bool) (wt:Nat->Int) (T:Sx.Tab),vs=[.ref o,.int (p:Int),.int (q:Int)]/\jB K C H0 H o n m T/\TG n m S wt T/\p<m/\q<n/\∀H',jB K C H0 H' o n m (Sx.turn T p q)->Q .non H'
theorem Tp{f f1 C:Addr}{fd d1:ρ}(F:Fun K "turn" "Tableau.turn" fW f fd)
  (Cc:Cls K C)(aW:NoAttr K C "cells")(cZ:NoAttr K C "over")(aQ:NoAttr K C "columns")(cF:NoAttr K C "rows")(D1:qg K C "turned" "Tableau.turned" zcw ["self","cells","pivots","column"] f1 d1)(G1:FnOk P w K mg base CX0 1 f1 d1 ["self","cells","pivots","column"] (Q7 K C)):
  FnOk P w K mg base CX0 2 f fd ["self","row","column"] (Q5 K C):=by
 refine F.dG ["self","row","column","pivots","by","name"] fun cdv A outer s H vs Q E hr h=> ?_;obtain⟨o,H0,n,m,p,q,S,wt,T,rfl,⟨dx,cl,co,ro,rws,hT⟩,hG,hp,hq,qq⟩:=h;refine bw ?_;intro Y;refine⟨_,(aV (pS 3 (bA jf (lN (pv 0) rfl) (pv 1))) (aV (pS 4 (bA jf (pv 3) (pv 2))) (aV (ps_fld (pv 0) (pK ["cells"] ["self","pivots","column"] [0,3,2] (Mw (lN (pv 0) rfl)) (pG 0) qz (Cw (pv 1) Cc D1.m G1 hr D1.b .nil pass0 (aj (pv 0) (aj (pv 2) (aj (pv 3) ao))))) rfl) (aV (ps_asg (cu op_cat (cu op_cat (pe_slice sl_list (pv 3) po_none (po_some (pv 2))) (Ad (aj (lN (pv 0) rfl) ao))) (pe_slice sl_list (pv 3) (po_some (cu pQ (pv 2) aL)) po_none)) (pg_sub (lN (pv 0) rfl) (pv 1) set_list)) (aV (ps_fld (pv 0) (pv 4) rfl) (aV (pS 5 (bA jf (lN (pv 0) rfl) (pv 1))) (aV (ps_asg (bA jf (lN (pv 0) rfl) (pv 2)) (pg_sub (lN (pv 0) rfl) (pv 1) set_list)) (bf (ps_asg (pv 5) (pg_sub (lN (pv 0) rfl) (pv 2) set_list)))))))))),?_⟩;refine YQ ?_;intro c8 c7 c6 c5 c4 c3 c2;obtain⟨pa,pe,pi,pr⟩:=hT.Fq (dH hp);refine⟨_,rfl,o,C,dx,_,_,rfl,hT.at_,Cc,aW,rfl,_,rfl,cl,_,_,_,rfl,rfl,SqL.of hT.cells,pi,?_⟩;refine⟨_,rfl,_,rfl,pa,_,_,_,rfl,rfl,SqL.of pr,dR _ (dH hq),?_⟩;refine⟨_,rfl,o,C,dx,_,_,rfl,hT.at_,Cc,aW,rfl,cl,_,rfl,SqL.of hT.cells,fun hz=> ?_⟩;let gO:Nat->List V->St->Hp->Prop:=fun i acc σ H'=>∃as:List Addr,acc=as.map V.ref/\as.length=i/\Same H H'/\(∀r a,as[r]? =some a->H a=none/\H' a=some (.lst (aU n (tdF T.over (T.cell r) (T.cell p) q))))/\∃o1,σ=[o1,some (.ref o),some (.ref pa),some (.int (q:Int))];refine Qt (xs:=rws.map V.ref) gO ⟨[],rfl,rfl,Same.refl _,fun r a e=>(nomatch e),_,rfl⟩ (fun i acc σ H' _ x=> ?_) (fun i acc σ H' _ x=> ?_) hz (fun i v acc σ H' hv x=> ?_) (fun acc σ H' x=> ?_)
 ·obtain⟨_,_,_,sm,_⟩:=x;exact sm.seq (SqL.of hT.cells)
 ·obtain⟨as,rfl,hl,_⟩:=x;rw[aG,hl];exact aN _
 ·obtain⟨as,rfl,hl,sm,has,o1,rfl⟩:=x;rw[cU]at hv;cases er:rws[i]? with
  |none=>rw[er]at hv;cases hv
  |some ra=>
   rw[er]at hv;cases hv;have him:i<=m:=by have:=(lV.mp er).1;rw[hT.len]at this;omega
   refine⟨_,rfl,o,dx,_,rfl,sm _ _ hT.at_,rfl,_,rfl,_,rfl,_,rfl,o,ra,pa,H0,n,m,q,T.cell i,T.cell p,T,rfl,⟨dx,cl,co,ro,rws,hT.sm sm⟩,hG.n10,hG.over,dH hq,sm _ _ (hT.row i ra er),sm _ _ pr,fun c hc=>⟨hG.cell him hc,hG.cell (dH hp) hc⟩,fun r1 H1 s1 h1 e1=> ?_⟩;refine⟨as++[r1],by rw[bW];rfl,by rw[g8,hl];rfl,sm.trans s1,fun r a e=> ?_,_,rfl⟩;rw[Vy]at e;by_cases c:r<as.length
   ·rw[aA c]at e;exact⟨(has r a e).1,s1 _ _ (has r a e).2⟩
   ·rw[aq c]at e;have Zv:r-as.length=0:=by
     have:=(lV.mp e).1;have:r-as.length<1:=this;omega
    rw[Zv]at e;cases e;have:r=i:=by omega
    subst this;exact⟨sm.none h1,e1⟩
 ·intro p1 hp1;obtain⟨as,rfl,hl,sm,has,_⟩:=x;rw[aG,hT.len]at hl;have s1:=aY hp1 (.lst (as.map V.ref));have hT1:=hT.sm (sm.trans s1);have h10:H0 p1=none:=hT.same.none (sm.none hp1);have nas:∀b u,H b=some u->b∉as:=fun b u hb hm=>by
   obtain⟨r,hr1,rfl⟩:=Ez hm;have:=(has r _ (eO hr1)).1;rw[hb]at this;cases this
  have hT2:=hT1.Jp (Ws:=p1) (Ax:=as) (X:=fun r=>tdF T.over (T.cell r) (T.cell p) q) h10 aJ hl (fun r a e=>s1 _ _ (has r a e).2) (nas _ _ hT.cols) (nas _ _ hT.rows);refine⟨_,rfl,o,C,dx,_,rfl,hT1.at_,Cc,aW,(by show 4<1000;decide),?_⟩;have npo:pa≠o:=hT.orow pe;have pr2:=(sm.trans s1) _ _ pr;have pr3:(upd (upd H' p1 (.lst (as.map V.ref))) o (.ins C dx (putF "cells" (.ref p1) (flds cl co ro T.over)))) pa=some (.lst (aU n (T.cell p))):=by rw[cP npo];exact pr2
  generalize (upd (upd H' p1 (.lst (as.map V.ref))) o (.ins C dx (putF "cells" (.ref p1) (flds cl co ro T.over))))=H2 at *
  -- the row of the turn
  refine⟨_,rfl,_,rfl,_,rfl,pa,_,rfl,SqL.of pr3,fun l1 hl1=> ?_⟩;have t1:=aY hl1 (.lst (cutV (aU n (T.cell p)) none (some (q:Int))));have f1:(upd H2 l1 (.lst (cutV (aU n (T.cell p)) none (some (q:Int))))) l1=some (.lst (cutV (aU n (T.cell p)) none (some (q:Int)))):=aJ;generalize (upd H2 l1 (.lst (cutV (aU n (T.cell p)) none (some (q:Int)))))=H3 at *;refine⟨_,rfl,o,C,dx,_,_,rfl,t1 _ _ hT2.at_,Cc,cZ,rfl,(by show 1<=sizeLine;decide),fun l2 hl2=> ?_⟩;have t2:=aY hl2 (.lst [.int T.over]);have f2:(upd H3 l2 (.lst [.int T.over])) l2=some (.lst [.int T.over]):=aJ;have f1':=t2 _ _ f1;refine⟨l1,l2,_,_,rfl,rfl,f1',f2,?_,fun l3 hl3=> ?_⟩
  ·have:=cutV_length (aU n (T.cell p)) none (some (q:Int));rw[Eu]at this;have:=hG.n10;rw[eX];show _+1<=_;omega
  have t3:=aY hl3 (.lst (cutV (aU n (T.cell p)) none (some (q:Int))++[.int T.over]));have f3:(upd (upd H3 l2 (.lst [.int T.over])) l3 (.lst (cutV (aU n (T.cell p)) none (some (q:Int))++[.int T.over]))) l3=some (.lst (cutV (aU n (T.cell p)) none (some (q:Int))++[.int T.over])):=aJ;have t13:=t1.trans (t2.trans t3);generalize (upd (upd H3 l2 (.lst [.int T.over])) l3 (.lst (cutV (aU n (T.cell p)) none (some (q:Int))++[.int T.over])))=H5 at *;refine⟨_,rfl,_,rfl,_,_,rfl,rfl,_,rfl,pa,_,rfl,SqL.of (t13 _ _ pr3),fun l4 hl4=> ?_⟩;have t4:=aY hl4 (.lst (cutV (aU n (T.cell p)) (some ((q:Int)+1)) none));refine⟨l3,l4,_,_,rfl,rfl,t4 _ _ f3,aJ,?_,fun l5 YK=> ?_⟩
  ·have a1:=cutV_length (aU n (T.cell p)) none (some (q:Int));have a2:=cutV_length (aU n (T.cell p)) (some ((q:Int)+1)) none;rw[Eu]at a1 a2;have:=hG.n10;rw[g8,eX];show _+1+_<=_;omega
  have t5:=aY YK (.lst ((cutV (aU n (T.cell p)) none (some (q:Int))++[.int T.over])++cutV (aU n (T.cell p)) (some ((q:Int)+1)) none));have aaD:(cutV (aU n (T.cell p)) none (some (q:Int))++[.int T.over])++cutV (aU n (T.cell p)) (some ((q:Int)+1)) none=aU n fun c=>if c=q then T.over else T.cell p c:=by
   rw[Qg (by rw[Eu];omega),show(q:Int)+1=((q+1:Nat):Int)from by omega,Gw (by rw[Eu];omega)];exact Jt _ _ (dH hq)
  rw[aaD]at t5⊢;have hT3:=hT2.sm (t13.trans (t4.trans t5));have f5:(upd (upd H5 l4 (.lst (cutV (aU n (T.cell p)) (some ((q:Int)+1)) none))) l5 (.lst (aU n fun c=>if c=q then T.over else T.cell p c))) l5=some (.lst (aU n fun c=>if c=q then T.over else T.cell p c)):=aJ;have g1:co≠l5:=j5 ((t13.trans t4) _ _ hT2.cols) YK;have g2:ro≠l5:=j5 ((t13.trans t4) _ _ hT2.rows) YK;generalize (upd (upd H5 l4 (.lst (cutV (aU n (T.cell p)) (some ((q:Int)+1)) none))) l5 (.lst (aU n fun c=>if c=q then T.over else T.cell p c)))=H6 at *;have Wh:=hT3.Sq (p:=p) (dH hp) f5 g1 g2;refine⟨_,rfl,o,C,dx,_,_,rfl,hT3.at_,Cc,aW,rfl,_,rfl,p1,_,_,p,rfl,rfl,hT3.cells,?_,?_⟩
  ·have e:ixN (as.map V.ref).length (p:Int)=some p:=by
    rw[aG,hl];unfold ixN;rw[aA (by omega),aA (by omega)];rfl
   exact e
  generalize (upd H6 p1 (.lst ((as.map V.ref).set p (.ref l5))))=H7 at *;have hT5:=Wh.setOver (T.cell p q);refine⟨_,rfl,_,rfl,o,C,dx,_,rfl,Wh.at_,Cc,cZ,(by show 4<1000;decide),?_⟩;generalize (upd H7 o (.ins C dx (putF "over" (.int (T.cell p q)) (flds p1 co ro T.over))))=H8 at *;refine⟨_,rfl,o,C,dx,_,_,rfl,hT5.at_,Cc,cF,rfl,_,rfl,ro,_,_,_,rfl,rfl,SqL.of hT5.rows,mF _ hp,?_⟩;refine⟨_,rfl,o,C,dx,_,_,rfl,hT5.at_,Cc,aQ,rfl,_,rfl,co,_,_,_,rfl,rfl,SqL.of hT5.cols,mF _ hq,?_⟩;have Wg:=hT5.Nu (p:=p) (T.col q) hp;refine⟨_,rfl,o,C,dx,_,_,rfl,hT5.at_,Cc,cF,rfl,_,rfl,ro,_,_,p,rfl,rfl,hT5.rows,?_,?_⟩
  ·have e:ixN ((bV m T.row).map V.int).length (p:Int)=some p:=by
    rw[aG,Ew];unfold ixN;rw[aA (by omega),aA (by omega)];rfl
   exact e
  generalize (upd H8 ro (.lst (((bV m T.row).map V.int).set p (.int ((T.col q:Nat):Int)))))=H9 at *;have yQ:=Wg.Nv (q:=q) (T.row p) hq;refine⟨_,rfl,_,rfl,o,C,dx,_,_,rfl,Wg.at_,Cc,aQ,rfl,_,rfl,co,_,_,q,rfl,rfl,Wg.cols,?_,?_⟩
  ·have e:ixN ((bV n T.col).map V.int).length (q:Int)=some q:=by
    rw[aG,Ew];unfold ixN;rw[aA (by omega),aA (by omega)];rfl
   exact e
  refine qq _ ⟨dx,p1,co,ro,_,yQ.same,yQ.o0,yQ.Vh,yQ.Rx,yQ.Ri,yQ.ne,yQ.nc,yQ.nr,yQ.at_,yQ.cells,yQ.len,fun r a e=> ?_,yQ.cols,yQ.rows⟩;rw[yQ.row r a e];refine gq (fun l=>some (HO.lst l)) (lg fun c _=> ?_);show(if r=p then(if c=q then T.over else T.cell p c)else tdF T.over (T.cell r) (T.cell p) q c)=_;rfl
theorem Js{n m:Nat}{S:Nat->Nat->Bool}{wt:Nat->Int}{Ts:Nat->Sx.Tab}{ps qs:Nat->Nat}{L p q:Nat}(R:Sx.Run n m S wt Ts ps qs L)(s:Sx.Step n m (Ts L) p q):
  Sx.Run n m S wt (fun t=>if t<=L then Ts t else Sx.turn (Ts L) p q) (fun t=>if t<L then ps t else p) (fun t=>if t<L then qs t else q) (L+1):=by
 refine⟨by rw[aA (dw L)];exact R.first,fun t ht=> ?_,fun t ht=> ?_⟩
 ·by_cases c:t<L
  ·rw[aA (dH c),aA c,aA c];exact R.step t c
  ·have e:t=L:=by omega
   subst e;rw[aA (aN t),aq c,aq c];exact s
 ·by_cases c:t<L
  ·rw[aA (show t+1<=L from c),aA (dH c),aA c,aA c];exact R.next t c
  ·have e:t=L:=by omega
   subst e;rw[aq (by omega),aA (aN t),aq c,aq c]
structure Sta(n m:Nat)(S:Nat->Nat->Bool)(wt:Nat->Int):Prop where
 n10:n<=10
 Yr:m<=40
 wb:∀p,p<n->0<=wt p/\wt p<=99
 cov:∀p,p<n->∃k,k<m/\S k p=true
theorem Sta.tg{n m:Nat}{S:Nat->Nat->Bool}{wt:Nat->Int}{T:Sx.Tab}(h:Sta n m S wt)(g:Sx.Good n m S wt T):TG n m S wt T:=⟨g,h.n10,h.Yr,h.wb,h.cov⟩
noncomputable def NcV(n m:Nat)(T:Sx.Tab)(x:V):Prop:=(x= .non/\∀c,c<n->0<=T.cell m c)\/∃q:Nat,x= .int (q:Int)/\q<n/\T.cell m q<0/\∀c,c<n->T.cell m c<0->T.col q<=T.col c
noncomputable def Lq(K:W.Frag)(C o:Addr)(H0:Hp)(n m:Nat)(S:Nat->Nat->Bool)(wt:Nat->Int)(k:Nat)(σ:St)(H:Hp):Prop:=
 ∃(Ts:Nat->Sx.Tab) (ps qs:Nat->Nat) (L:Nat) (x:V),Sx.Run n m S wt Ts ps qs L/\L+k=2^(n+m)/\jB K C H0 H o n m (Ts L)/\σ=[some (.ref o),some x]/\NcV n m (Ts L) x
noncomputable def Iv(K:W.Frag)(C:Addr):Sp:=fun vs H Q _=>∃(o:Addr) (H0:Hp) (n m:Nat) (S:Nat->Nat->Bool) (wt:Nat->Int) (T:Sx.Tab),vs=[.ref o]/\jB K C H0 H o n m T/\Sta n m S wt/\Sx.Good n m S wt T/\
 ∀T' H',jB K C H0 H' o n m T'->Sx.Good n m S wt T'->(∀c,c<n->0<=T'.cell m c)->Q .non H'
theorem Tt{f f1 f2 f3 C:Addr}{fd d1 d2 d3:ρ}(F:Fun K "solve" "Tableau.solve" zdi f fd)
  (Cc:Cls K C)(aW:NoAttr K C "cells")(cZ:NoAttr K C "over")(aQ:NoAttr K C "columns")(cF:NoAttr K C "rows")(D1:qg K C "next_column" "Tableau.next_column" zbr ["self"] f1 d1)(ZW:FnOk P w K mg base CX0 1 f1 d1 ["self"] (IK K C))(D2:qg K C "turn" "Tableau.turn" fW ["self","row","column"] f2 d2)(G2:FnOk P w K mg base CX0 2 f2 d2 ["self","row","column"] (Q5 K C))(D3:qg K C "next_row" "Tableau.next_row" zcd ["self","column"] f3 d3)(G3:FnOk P w K mg base CX0 2 f3 d3 ["self","column"] (Q8 K C)):
  FnOk P w K mg base CX0 3 f fd ["self"] (Iv K C):=by
 have G1:FnOk P w K mg base CX0 2 f1 d1 ["self"] (IK K C):=ZW.mono (by decide);refine F.dG ["self","column"] fun cdv A outer s H vs Q E hr h=> ?_;obtain⟨o,H0,n,m,S,wt,T,rfl,hT,hS,hg,qq⟩:=h;refine bw ?_;intro Y;refine⟨_,(aV (pS 1 (pe_meth0 (pv 0) Cc D1.m G1 hr D1.b .nil pass0)) (bf (ps_while Aa (dW op_notN (pv 1) pe_non) (aV (qR (Cw (pv 0) Cc D2.m G2 hr D2.b .nil pass0 (aj (Cw (pv 0) Cc D3.m G3 hr D3.b .nil pass0 (aj (pv 1) ao)) (aj (pv 1) ao)))) (bf (pS 1 (pe_meth0 (pv 0) Cc D1.m G1 hr D1.b .nil pass0))))))),?_⟩;refine gU ?_;intro c2;have key:∀(x:V) (H1:Hp),jB K C H0 H1 o n m T->NcV n m T x->∃k,Lq K C o H0 n m S wt k [some (.ref o),some x] H1:=fun x H1 h1 h2=>
  ⟨2^(n+m),fun _=>T,fun _=>0,fun _=>0,0,x,⟨hg,fun t ht=>absurd ht (QD t),fun t ht=>absurd ht (QD t)⟩,wff _,h1,rfl,h2⟩
 obtain⟨dx,cl,co,ro,rws,hA0⟩:=id hT;refine⟨_,rfl,o,dx,_,rfl,hA0.at_,rfl,o,H0,n,m,S,wt,T,rfl,hT,hS.tg hg,?a,?b⟩
 case' a=>
  intro h H1 s1;have w0:=key _ _ (hT.sm s1) (.inl ⟨rfl,h⟩);refine⟨Lq K C o H0 n m S wt,w0,?_⟩;clear w0 s1 h
 case' b=>
  intro q H1 hq hn he s1;have w0:=key _ _ (hT.sm s1) (.inr ⟨q,rfl,hq,hn,he⟩);refine⟨Lq K C o H0 n m S wt,w0,?_⟩;clear w0 s1 he hn hq q
 all_goals
  clear H1;intro k σ H1 h;obtain⟨Ts,ps,qs,L,x,R,hk,⟨dx',cl,co,ro,rws,hA⟩,rfl,hx⟩:=h;have YW:=R.good L (aN L);have hG:=hS.tg YW;have hsh:=R.short;rcases hx with⟨rfl,hx⟩|⟨q,rfl,hq,hn,he⟩
  ·refine⟨_,rfl,rfl,_,rfl,?_⟩;refine iteF ?_;exact qq (Ts L) H1 ⟨dx',cl,co,ro,rws,hA⟩ YW hx
  ·refine⟨_,rfl,rfl,_,rfl,?_⟩;refine iteT ?_;refine⟨Lq K C o H0 n m S wt (k-1),fun σ' H' z=>⟨k-1,by omega,z⟩,?_⟩;refine⟨_,rfl,o,dx',_,rfl,hA.at_,rfl,_,rfl,o,dx',_,rfl,hA.at_,rfl,_,rfl,o,H0,n,m,q,S,wt,Ts L,rfl,⟨dx',cl,co,ro,rws,hA⟩,hG,hq,fun p hp h0 hlev=> ?_⟩;have st:Sx.Step n m (Ts L) p q:=⟨hp,hq,hn,he,h0,hlev⟩;refine⟨_,rfl,o,H0,n,m,p,q,S,wt,Ts L,rfl,⟨dx',cl,co,ro,rws,hA⟩,hG,hp,hq,fun H2 hT2=> ?_⟩;have R2:=Js R st;have g2:=st.good YW;obtain⟨dx2,cl2,co2,ro2,aaN,Wj⟩:=id hT2;have fin:∀(x:V) (H3:Hp),Same H2 H3->NcV n m (Sx.turn (Ts L) p q) x->Lq K C o H0 n m S wt (k-1) [some (.ref o),some x] H3:=fun x H3 s3 hx=>by
    refine⟨_,_,_,L+1,x,R2,by omega,?_,rfl,?_⟩
    ·rw[aq (by omega)];exact hT2.sm s3
    ·rw[aq (by omega)];exact hx
   exact⟨_,rfl,o,dx2,_,rfl,Wj.at_,rfl,o,H0,n,m,S,wt,_,rfl,hT2,hS.tg g2,fun h H3 s3=>fin _ H3 s3 (.inl ⟨rfl,h⟩),fun q' H3 hq' hn' he' s3=>fin _ H3 s3 (.inr ⟨q',rfl,hq',hn',he'⟩)⟩
noncomputable def ZV(k:Nat)(i:Int)(r:Nat):Prop:=(i=(r:Int)/\r<=k)\/(i= -1/\r=k)
noncomputable def xr(K:W.Frag)(C:Addr):Sp:=fun vs H Q _=>∃(o:Addr) (H0:Hp) (n m r c:Nat) (i j:Int) (S:Nat->Nat->Bool) (wt:Nat->Int) (T:Sx.Tab),vs=[.ref o,.int i,.int j]/\jB K C H0 H o n m T/\TG n m S wt T/\ZV m i r/\ZV n j c/\
 ∀p H' u v,Same H H'->H' p=some (.tup [.int u,.int ((v:Nat):Int)])->Low (T.cell r c) T.over.toNat u v->Q (.ref p) H'
theorem TJ{f f1 C:Addr}{fd d1:ρ}(F:Fun K "fraction_at" "Tableau.fraction_at" WQ f fd)
  (Cc:Cls K C)(aW:NoAttr K C "cells")(cZ:NoAttr K C "over")(aQ:NoAttr K C "columns")(cF:NoAttr K C "rows")(D1:bQ K mg "lowest" fQ ["a","b"] f1 d1)(G1:FnOk P w K mg base CX0 2 f1 d1 ["a","b"] (uz K)):
  FnOk P w K mg base CX0 3 f fd ["self","row","column"] (xr K C):=by
 refine F.dG ["self","row","column"] fun cdv A outer s H vs Q E hr h=> ?_;obtain⟨o,H0,n,m,r,c,i,j,S,wt,T,rfl,⟨dx,cl,co,ro,rws,hT⟩,hG,hi,hj,qq⟩:=h;refine⟨_,(bf (cD (pc G1 hr D1 (aj (bA jf (bA jf (lN (pv 0) rfl) (pv 1)) (pv 2)) (aj (lN (pv 0) rfl) ao))))),?_⟩;have hri:∃a,atI (rws.map V.ref) i=some (.ref a)/\H a=some (.lst (aU n (T.cell r))):=by
  rcases hi with⟨rfl,h⟩|⟨rfl,rfl⟩
  ·obtain⟨a,_,h1,h2⟩:=hT.Fq h;exact⟨a,h1,h2⟩
  ·obtain⟨a,_,h1,h2⟩:=hT.XS;exact⟨a,h1,h2⟩
 have hcj:atI (aU n (T.cell r)) j=some (.int (T.cell r c)):=by
  rcases hj with⟨rfl,h⟩|⟨rfl,rfl⟩
  ·exact dR _ h
  ·exact nR _ _
 obtain⟨a,h1,h2⟩:=hri;have ho:=hG.over;refine⟨_,rfl,o,C,dx,_,_,rfl,hT.at_,Cc,aW,rfl,_,rfl,cl,_,_,_,rfl,rfl,SqL.of hT.cells,h1,_,rfl,a,_,_,_,rfl,rfl,SqL.of h2,hcj,?_⟩;refine⟨_,rfl,o,C,dx,_,_,rfl,hT.at_,Cc,cZ,rfl,T.cell r c,T.over.toNat,?_,by omega,eN (show T.over.toNat<=39916800 by omega) (by decide),fun p H' u v s e l=>qq p H' u v s e l⟩;rw[show((T.over.toNat:Nat):Int)=T.over by omega];rfl
theorem yD{u:Int}{v b:Nat}(hb:0<b)(h:Low 0 1 u v):Low 0 b u v:=by
 have e:=h.eq;have hu:u=0:=by omega
 subst hu;have c:=h.cop;rw[show(0:Int).natAbs=0 from rfl,Nat.gcd_zero_left]at c;subst c;exact⟨by decide,rfl,by omega,aN _,hb,fun _=>tR _⟩
noncomputable def Iz(K:W.Frag)(C:Addr):Sp:=fun vs H Q _=>∃(o:Addr) (H0:Hp) (n m a:Nat) (S:Nat->Nat->Bool) (wt:Nat->Int) (T:Sx.Tab),vs=[.ref o,.int (a:Int)]/\jB K C H0 H o n m T/\TG n m S wt T/\
 ∀p H' u v,Same H H'->H' p=some (.tup [.int u,.int ((v:Nat):Int)])->Low (Sx.Xs n m T a) T.over.toNat u v->Q (.ref p) H'
theorem Tw{f f1 f2 C:Addr}{fd d1 d2:ρ}(F:Fun K "price_of" "Tableau.price_of" zcc f fd)
  (Cc:Cls K C)(aW:NoAttr K C "cells")(cZ:NoAttr K C "over")(aQ:NoAttr K C "columns")(cF:NoAttr K C "rows")(D1:bQ K mg "lowest" fQ ["a","b"] f1 d1)(G1:FnOk P w K mg base CX0 2 f1 d1 ["a","b"] (uz K))(D2:qg K C "fraction_at" "Tableau.fraction_at" WQ ["self","row","column"] f2 d2)(G2:FnOk P w K mg base CX0 3 f2 d2 ["self","row","column"] (xr K C)):
  FnOk P w K mg base CX0 4 f fd ["self","name"] (Iz K C):=by
 refine F.dG ["self","name"] fun cdv A outer s H vs Q E hr h=> ?_;obtain⟨o,H0,n,m,a,S,wt,T,rfl,⟨dx,cl,co,ro,rws,hT⟩,hG,qq⟩:=h;refine bw ?_;intro Y;refine⟨_,(aV (gZ (dW (fL hr.units) (pv 1) (lN (pv 0) rfl) (by with_unfolding_all rfl)) (bf (cD (pc G1 hr D1 (aj aL (aj aL ao))))) iJ) (bf (cD (Cw (pv 0) Cc D2.m G2 hr D2.b .nil pass0 (aj (pe_bm Hv wcg wch nW (lN (pv 0) rfl) (aj (pv 1) ao)) (aj (pe_un un_neg aL) ao)))))),?_⟩;refine gU ?_;intro c2;have ho:=hG.over;refine⟨_,rfl,_,rfl,o,C,dx,_,_,rfl,hT.at_,Cc,cF,rfl,ro,_,_,.int (a:Int),rfl,.inl (SqL.of hT.rows),bO.ints _,.int _,qC _,rfl,(by show 0<=60;decide),_,rfl,?_⟩;rw[Mu];refine ite2 (fun c=> ?_) (fun c=> ?_)
 ·have c':((a:Nat):Int)∉bV m T.row:=by
   intro hm;rw[dB hm]at c;cases c
  refine⟨0,1,rfl,by decide,by decide,fun p H' u v s e l=>qq p H' u v s e ?_⟩;rw[Sx.QK fun r hr z=>c' (by
   have:=Cz T.row hr;rw[z]at this;exact qW this)]
  exact yD (by omega) l
 ·have c':((a:Nat):Int)∈bV m T.row:=by
   refine M9 fun hm=>c ?_;rw[fJ hm];rfl
  obtain⟨r,hr1,er⟩:=Ez c';have hr0:r<m:=by rw[Ew]at hr1;exact hr1
  have e0:=eO hr1;rw[er]at e0;have ea:T.row r=a:=by
   rw[Cz _ hr0]at e0;exact Xo (qY e0)
  subst ea;refine⟨_,rfl,o,dx,_,rfl,hT.at_,rfl,_,rfl,o,C,dx,_,_,rfl,hT.at_,Cc,cF,rfl,.inl ⟨rfl,_,SqL.of hT.rows⟩,_,rfl,ro,bV m T.row,_,r,rfl,rfl,hT.rows,Cz _ hr0,fun i hi e=> ?_,by rw[Ew];have:=hG.Yr;omega,?_⟩
  ·rw[Cz _ (by omega)]at e;have:=hG.good.Jv i r (by omega) hr0 (Xo (qY e));omega
  ·refine⟨_,rfl,o,H0,n,m,r,n,_,_,S,wt,T,rfl,⟨dx,cl,co,ro,rws,hT⟩,hG,.inl ⟨rfl,dH hr0⟩,.inr ⟨rfl,rfl⟩,fun p H' u v s e l=>qq p H' u v s e ?_⟩;rw[hG.good.QM hr0];exact l
noncomputable def Iw(K:W.Frag)(C:Addr):Sp:=fun vs H Q _=>∃(o:Addr) (H0:Hp) (n m a:Nat) (S:Nat->Nat->Bool) (wt:Nat->Int) (T:Sx.Tab),vs=[.ref o,.int (a:Int)]/\jB K C H0 H o n m T/\TG n m S wt T/\
 ∀p H' u v,Same H H'->H' p=some (.tup [.int u,.int ((v:Nat):Int)])->Low (Sx.Ys n m T a) T.over.toNat u v->Q (.ref p) H'
theorem Tv{f f1 f2 C:Addr}{fd d1 d2:ρ}(F:Fun K "share_of" "Tableau.share_of" zcb f fd)
  (Cc:Cls K C)(aW:NoAttr K C "cells")(cZ:NoAttr K C "over")(aQ:NoAttr K C "columns")(cF:NoAttr K C "rows")(D1:bQ K mg "lowest" fQ ["a","b"] f1 d1)(G1:FnOk P w K mg base CX0 2 f1 d1 ["a","b"] (uz K))(D2:qg K C "fraction_at" "Tableau.fraction_at" WQ ["self","row","column"] f2 d2)(G2:FnOk P w K mg base CX0 3 f2 d2 ["self","row","column"] (xr K C)):
  FnOk P w K mg base CX0 4 f fd ["self","name"] (Iw K C):=by
 refine F.dG ["self","name"] fun cdv A outer s H vs Q E hr h=> ?_;obtain⟨o,H0,n,m,a,S,wt,T,rfl,⟨dx,cl,co,ro,rws,hT⟩,hG,qq⟩:=h;refine bw ?_;intro Y;refine⟨_,(aV (gZ (dW (fL hr.units) (pv 1) (lN (pv 0) rfl) (by with_unfolding_all rfl)) (bf (cD (pc G1 hr D1 (aj aL (aj aL ao))))) iJ) (bf (cD (Cw (pv 0) Cc D2.m G2 hr D2.b .nil pass0 (aj (pe_un un_neg aL) (aj (pe_bm Hv wcg wch nW (lN (pv 0) rfl) (aj (pv 1) ao)) ao)))))),?_⟩;refine gU ?_;intro c2;have ho:=hG.over;refine⟨_,rfl,_,rfl,o,C,dx,_,_,rfl,hT.at_,Cc,aQ,rfl,co,_,_,.int (a:Int),rfl,.inl (SqL.of hT.cols),bO.ints _,.int _,qC _,rfl,(by show 0<=60;decide),_,rfl,?_⟩;rw[Mu];refine ite2 (fun c=> ?_) (fun c=> ?_)
 ·have c':((a:Nat):Int)∉bV n T.col:=by
   intro hm;rw[dB hm]at c;cases c
  refine⟨0,1,rfl,by decide,by decide,fun p H' u v s e l=>qq p H' u v s e ?_⟩;rw[Sx.WR fun r hr z=>c' (by
   have:=Cz T.col hr;rw[z]at this;exact qW this)]
  exact yD (by omega) l
 ·have c':((a:Nat):Int)∈bV n T.col:=by
   refine M9 fun hm=>c ?_;rw[fJ hm];rfl
  obtain⟨r,hr1,er⟩:=Ez c';have hr0:r<n:=by rw[Ew]at hr1;exact hr1
  have e0:=eO hr1;rw[er]at e0;have ea:T.col r=a:=by
   rw[Cz _ hr0]at e0;exact Xo (qY e0)
  subst ea;refine⟨_,rfl,o,dx,_,rfl,hT.at_,rfl,_,rfl,_,rfl,o,C,dx,_,_,rfl,hT.at_,Cc,aQ,rfl,.inl ⟨rfl,_,SqL.of hT.cols⟩,_,rfl,co,bV n T.col,_,r,rfl,rfl,hT.cols,Cz _ hr0,fun i hi e=> ?_,by rw[Ew];have:=hG.n10;omega,?_⟩
  ·rw[Cz _ (by omega)]at e;have:=hG.good.BJ i r (by omega) hr0 (Xo (qY e));omega
  ·refine⟨o,H0,n,m,m,r,_,_,S,wt,T,rfl,⟨dx,cl,co,ro,rws,hT⟩,hG,.inr ⟨rfl,rfl⟩,.inl ⟨rfl,dH hr0⟩,fun p H' u v s e l=>qq p H' u v s e ?_⟩;rw[hG.good.WT hr0];exact l
noncomputable def dI(L:List (List Int))(k p:Nat):Bool:=decide (((p:Nat):Int)∈L.getD k [])
noncomputable def nM(wl:List Int)(p:Nat):Int:=wl.getD p 0
theorem SM{n m r:Nat}{L:List (List Int)}{wt:Nat->Int}(hr:r<m):((List.range n).map fun(p:Nat)=>if decide (((p:Nat):Int)∈L.getD r [])=true then(1:Int)else 0).map V.int++[.int 1]=aU n ((Sx.start n m (dI L) wt).cell r):=by
 unfold aU;rw[wU,bW,bW];congr 1
 ·refine gq _ (Vx fun c hc=> ?_);have hc':=lO.mp hc;show _=if r=m then _ else if c=n then(1:Int)else if dI L r c=true then 1 else 0
  rw[aq (show¬r=m by omega),aq (show¬c=n by omega)];rfl
 ·show[V.int 1]=[V.int (if r=m then _ else if n=n then(1:Int)else _)];rw[aq (by omega),aA rfl]
theorem NQ{m:Nat}{L:List (List Int)}{wl:List Int}:(wl.map fun x=> -x).map V.int++[.int 0]=aU wl.length ((Sx.start wl.length m (dI L) (nM wl)).cell m):=by
 unfold aU;rw[wU,bW,bW];congr 1
 ·refine gq _ (W0 fun i=> ?_);rw[cU,cU];by_cases hi:i<wl.length
  ·rw[eO hi,HW hi];show some (-wl[i])=some (if m=m then(if i=wl.length then(0:Int)else -(wl.getD i 0))else _);rw[aA rfl,aq (by omega),iU,eO hi];rfl
  ·rw[HX (by omega),HX (by rw[wV];omega)];rfl
 ·show[V.int 0]=[V.int (if m=m then(if wl.length=wl.length then(0:Int)else _)else _)];rw[aA rfl,aA rfl]
theorem _root_.L2.SqT.aac{H:Hp}{a o C dx:Addr}{fs:List (Str×V)}{u:HO}{xs:List V}(hO:H o=some (.ins C dx fs))(h:SqT K H a xs):SqT K (upd H o u) a xs:=by
 rcases h with(h|⟨ob,h⟩)|h
 ·exact .inl (.inl (by rw[cP (ne_of h hO fun e=>nomatch e)];exact h))
 ·exact .inl (.inr ⟨ob,by rw[cP (ne_of h hO fun e=>nomatch e)];exact h⟩)
 ·exact .inr h
noncomputable def Al(K:W.Frag)(C:Addr):Sp:=fun vs H Q _=>∃(o dx sl wa:Addr) (H0:Hp) (its:List (Addr×List Int)) (wl:List Int),vs=[.ref o,.ref sl,.ref wa]/\H o=some (.ins C dx [])/\Same H0 H/\H0 o=none/\H sl=some (.lst (its.map fun p=>V.ref p.1))/\(∀p∈its,SqT K H p.1 (p.2.map V.int))/\SqT K H wa (wl.map V.int)/\wl.length<=10/\its.length<=40/\
 ∀H',jB K C H0 H' o wl.length its.length (Sx.start wl.length its.length (dI (its.map (·.2))) (nM wl))->Q .non H'
theorem Og{f C:Addr}{fd:ρ}(F:Fun K "__init__" "Tableau.__init__" fX f fd)
  (Cc:Cls K C)(aW:NoAttr K C "cells")(cZ:NoAttr K C "over")(aQ:NoAttr K C "columns")(cF:NoAttr K C "rows")(aK:mg "len"=none)(aB:mg "range"=none)(jy:mg "list"=none):
  FnOk P w K mg base CX0 1 f fd ["self","sets","wants"] (Al K C):=by
 refine F.dG ["self","sets","wants","n"] fun cdv A outer s H vs Q E hr h=> ?_;obtain⟨o,dx,sl,wa,H0,its,wl,rfl,hO,hS0,h0,hS,hP,hW,hn,hm,qq⟩:=h;refine bw ?_;intro Y;refine⟨_,(aV (pS 3 (pB lR aK (aj (pv 2) ao))) (aV (ps_fld (pv 0) (pK ["some"] ["n"] [3] (Mw (pv 1)) (pG 0) qz (cu op_cat (pK ["place"] ["some"] [0] (wQ rfl aB (aj (pv 1) ao)) (pG 0) qz (pe_ifExp (dW (mD K hr.units) (pv 0) (pv 1) (by with_unfolding_all rfl)) aL aL)) (Ad (aj aL ao)))) rfl) (aV (qR (pe_bm Hv V3 V2 mt_append (lN (pv 0) rfl) (aj (cu op_cat (pK ["want"] [] [] (Cy (pv 2)) (pG 0) qz (pe_un un_neg (pv 0))) (Ad (aj aL ao))) ao))) (aV (ps_fld (pv 0) aL rfl) (aV (ps_fld (pv 0) (jw rfl rfl jy rfl aB (aj (pv 3) ao)) rfl) (bf (ps_fld (pv 0) (vG rfl rfl jy rfl aB (aj (pv 3) (aj (cu pQ (pv 3) (pB lR aK (aj (pv 1) ao))) ao))) rfl))))))),?_⟩;refine YS ?_;intro c6 c5 c4 c3 c2;refine⟨_,rfl,wa,_,rfl,.inr hW,fun _=> ?_⟩;rw[aG];refine⟨_,rfl,sl,_,rfl,SqL.of hS,fun hz=> ?_⟩;let gO:Nat->List V->St->Hp->Prop:=fun i acc σ H'=>∃as:List Addr,acc=as.map V.ref/\as.length=i/\Same H H'/\(∀r a,as[r]? =some a->H' a=some (.lst (aU wl.length ((Sx.start wl.length its.length (dI (its.map (·.2))) (nM wl)).cell r))))/\∃o1,σ=[o1,some (.int (wl.length:Int))];refine Qt (xs:=its.map fun p=>V.ref p.1) gO ⟨[],rfl,rfl,Same.refl _,fun r a e=>(nomatch e),_,rfl⟩ (fun i acc σ H' _ x=> ?_) (fun i acc σ H' _ x=> ?_) hz (fun i v acc σ H1 hv x=> ?_) (fun acc σ H1 x=> ?_)
 ·obtain⟨_,_,_,sm,_⟩:=x;exact sm.seq (SqL.of hS)
 ·obtain⟨as,rfl,hl,_⟩:=x;rw[aG,hl];exact aN _
 ·obtain⟨as,rfl,hl,sm,has,o1,rfl⟩:=x;rw[cU]at hv;cases ev:its[i]? with
  |none=>rw[ev]at hv;cases hv
  |some it=>
   rw[ev]at hv;cases hv;have him:i<its.length:=(lV.mp ev).1;have hit:=hP it (qW ev);have eg:(its.map (·.2)).getD i []=it.2:=by rw[iU,cU,ev];rfl
   refine⟨_,rfl,_,rfl,by omega,by omega,?_⟩;let sZ:Nat->List V->St->Hp->Prop:=fun c acc σ H'=>acc=((List.range c).map fun(p:Nat)=>if decide (((p:Nat):Int)∈it.2)=true then(1:Int)else 0).map V.int/\H'=H1/\∃o2,σ=[o2,some (.ref it.1)];refine CG (n:=wl.length) sZ ⟨rfl,rfl,_,rfl⟩ (fun c acc σ H' hc y=> ?_) (by rw[eX];omega) (fun c acc σ H' hc y=> ?_) (fun acc σ H' y=> ?_)
   ·rw[y.1,aG,aG,wV];exact aN _
   ·obtain⟨rfl,rfl,o2,rfl⟩:=y;refine⟨_,rfl,_,rfl,it.1,_,_,.int (0+(c:Int)),rfl,.inr (sm.tup hit),bO.ints _,.int _,qC _,rfl,(by show 0<=60;decide),_,rfl,?_⟩;rw[Mu,MJ];refine ite2 (fun z=> ?_) (fun z=> ?_)
    ·exact⟨by rw[wU,bW,bW];show _=_++[V.int (if _ then _ else _)];rw[aA z],rfl,_,rfl⟩
    ·exact⟨by rw[wU,bW,bW];show _=_++[V.int (if _ then _ else _)];rw[aq z],rfl,_,rfl⟩
   ·intro p1 hp1;obtain⟨rfl,rfl,_⟩:=y;have s1:=aY hp1 (.lst (((List.range wl.length).map fun(p:Nat)=>if decide (((p:Nat):Int)∈it.2)=true then(1:Int)else 0).map V.int));refine⟨(by show 1<=sizeLine;decide),fun p2 hp2=> ?_⟩;have s2:=aY hp2 (.lst [.int 1]);refine⟨p1,p2,_,_,rfl,rfl,s2 _ _ aJ,aJ,(by rw[aG,aG,wV,eX];show _+1<=_;omega),fun p3 hp3=> ?_⟩;have s3:=aY hp3 (.lst (((List.range wl.length).map fun(p:Nat)=>if decide (((p:Nat):Int)∈it.2)=true then(1:Int)else 0).map V.int++[.int 1]));have tO:=s1.trans (s2.trans s3);refine⟨as++[p3],by rw[bW];rfl,by rw[g8,hl];rfl,sm.trans tO,fun r a e=> ?_,_,rfl⟩;rw[Vy]at e;by_cases c:r<as.length
    ·rw[aA c]at e;exact tO _ _ (has r a e)
    ·rw[aq c]at e;have Zv:r-as.length=0:=by
      have:=(lV.mp e).1;have:r-as.length<1:=this;omega
     rw[Zv]at e;cases e;have:r=i:=by omega
     subst this;rw[aJ,<-SM (wt:=nM wl) him,eg]
 ·intro p1 hp1;obtain⟨as,rfl,hl,sm,has,_⟩:=x;rw[aG]at hl;have s1:=aY hp1 (.lst (as.map V.ref));have Wi:=(sm.trans s1) _ _ hO;refine⟨_,rfl,o,C,dx,_,rfl,Wi,Cc,aW,(by show 0<1000;decide),?_⟩
  -- what lies beside the object
  have np:p1≠o:=(j5 (sm _ _ hO) hp1).symm;have h10:H p1=none:=sm.none hp1;have Lj:∀r a,as[r]? =some a->a≠o/\a≠p1:=fun r a e=>⟨fun z=>(by have y:=has r a e;rw[z,sm _ _ hO]at y;cases y),fun z=>(by have y:=has r a e;rw[z,hp1]at y;cases y)⟩;have W2:SqT K (upd (upd H1 p1 (.lst (as.map V.ref))) o (.ins C dx (putF "cells" (.ref p1) []))) wa (wl.map V.int):=((sm.trans s1).tup hW).aac Wi;have S2:(upd (upd H1 p1 (.lst (as.map V.ref))) o (.ins C dx (putF "cells" (.ref p1) []))) sl=some (.lst (its.map fun p=>V.ref p.1)):=by
   rw[cP (ne_of ((sm.trans s1) _ _ hS) Wi fun e=>nomatch e)];exact(sm.trans s1) _ _ hS
  have A2:∀r a,as[r]? =some a->(upd (upd H1 p1 (.lst (as.map V.ref))) o (.ins C dx (putF "cells" (.ref p1) []))) a=some (.lst (aU wl.length ((Sx.start wl.length its.length (dI (its.map (·.2))) (nM wl)).cell r))):=fun r a e=>by
   rw[cP (Lj r a e).1];exact s1 _ _ (has r a e)
  have P2:(upd (upd H1 p1 (.lst (as.map V.ref))) o (.ins C dx (putF "cells" (.ref p1) []))) p1=some (.lst (as.map V.ref)):=by rw[cP np,aJ]
  have O2:(upd (upd H1 p1 (.lst (as.map V.ref))) o (.ins C dx (putF "cells" (.ref p1) []))) o=some (.ins C dx [("cells",.ref p1)]):=aJ;have Z2:Same H0 (upd (upd H1 p1 (.lst (as.map V.ref))) o (.ins C dx (putF "cells" (.ref p1) []))):=Same.tW (hS0.trans (sm.trans s1)) h0;generalize (upd (upd H1 p1 (.lst (as.map V.ref))) o (.ins C dx (putF "cells" (.ref p1) [])))=H2 at *;refine⟨_,rfl,o,C,dx,_,_,rfl,O2,Cc,aW,rfl,.inl ⟨rfl,_,SqL.of P2⟩,_,rfl,wa,_,rfl,W2,fun hz2=> ?_⟩;let Qn:Nat->List V->St->Hp->Prop:=fun i acc σ H'=>acc=((wl.take i).map fun x=> -x).map V.int/\H'=H2/\∃o2,σ=[o2];refine LR (xs:=wl.map V.int) Qn ⟨rfl,rfl,_,rfl⟩ (fun i acc σ H' _ y=>by rw[y.2.1];exact W2) (fun i acc σ H' _ y=> ?_) hz2 (fun i v acc σ H' hv y=> ?_) (fun acc σ H' y=> ?_)
  ·rw[y.1,aG,aG,zY];exact QC _ _
  ·obtain⟨rfl,rfl,o2,rfl⟩:=y;rw[cU]at hv;cases ev:wl[i]? with
   |none=>rw[ev]at hv;cases hv
   |some x=>
    rw[ev]at hv;cases hv;exact⟨_,rfl,_,rfl,by rw[CN,ev,bW,bW];rfl,rfl,_,rfl⟩
  intro p2 hp2;obtain⟨rfl,rfl,_⟩:=y;rw[aG,Ae];have s2:=aY hp2 (.lst ((wl.map fun x=> -x).map V.int));refine⟨(by show 1<=sizeLine;decide),fun p3 hp3=> ?_⟩;have s3:=aY hp3 (.lst [.int 0]);refine⟨p2,p3,_,_,rfl,rfl,s3 _ _ aJ,aJ,(by rw[aG,aG,eX];show _+1<=_;omega),fun p4 hp4=> ?_⟩;have s4:=aY hp4 (.lst ((wl.map fun x=> -x).map V.int++[.int 0]));have V6:=s2.trans (s3.trans s4);rw[NQ (m:=its.length) (L:=its.map (·.2))]at V6 s4⊢;have e4:(upd (upd (upd H' p2 (.lst ((wl.map fun x=> -x).map V.int))) p3 (.lst [.int 0])) p4 (.lst (aU wl.length ((Sx.start wl.length its.length (dI (its.map (·.2))) (nM wl)).cell its.length)))) p4=some (.lst (aU wl.length ((Sx.start wl.length its.length (dI (its.map (·.2))) (nM wl)).cell its.length))):=aJ;have n4:p4≠p1:=(j5 (s3 _ _ (s2 _ _ P2)) hp4).symm;have n4o:p4≠o:=(j5 (s3 _ _ (s2 _ _ O2)) hp4).symm;have P3:=V6 _ _ P2;have O3:=V6 _ _ O2;have S3:=V6 _ _ S2;have Z3:=Z2.trans V6;have A3:∀r a,as[r]? =some a->_:=fun r a e=>V6 _ _ (A2 r a e);generalize (upd (upd (upd H' p2 (.lst ((wl.map fun x=> -x).map V.int))) p3 (.lst [.int 0])) p4 (.lst (aU wl.length ((Sx.start wl.length its.length (dI (its.map (·.2))) (nM wl)).cell its.length))))=H3 at *;refine⟨p1,_,_,rfl,rfl,P3,(by rw[aG,eX];omega),?_⟩
  -- all rows
  have h1n:H0 p1=none:=hS0.none h10;have Mr:o≠p1:=np.symm;have nsl:sl≠p1:=(j5 hS h10);have C4:(upd H3 p1 (.lst (as.map V.ref++[.ref p4]))) p1=some (.lst ((as++[p4]).map V.ref)):=by rw[aJ,bW];rfl
  have O4:(upd H3 p1 (.lst (as.map V.ref++[.ref p4]))) o=some (.ins C dx [("cells",.ref p1)]):=by rw[cP Mr];exact O3
  have S4:(upd H3 p1 (.lst (as.map V.ref++[.ref p4]))) sl=some (.lst (its.map fun p=>V.ref p.1)):=by rw[cP nsl];exact S3
  have Z4:Same H0 (upd H3 p1 (.lst (as.map V.ref++[.ref p4]))):=Same.tW Z3 h1n;have R4:∀r a,(as++[p4])[r]? =some a->(upd H3 p1 (.lst (as.map V.ref++[.ref p4]))) a=some (.lst (aU wl.length ((Sx.start wl.length its.length (dI (its.map (·.2))) (nM wl)).cell r)))/\a≠o:=fun r a e=>by
   rw[Vy]at e;by_cases c:r<as.length
   ·rw[aA c]at e;refine⟨?_,(Lj r a e).1⟩;rw[cP (Lj r a e).2];exact A3 r a e
   ·rw[aq c]at e;have Zv:r-as.length=0:=by
     have:=(lV.mp e).1;have:r-as.length<1:=this;omega
    rw[Zv]at e;cases e;have:r=its.length:=by omega
    subst this;refine⟨?_,n4o⟩;rw[cP n4];exact e4
  generalize (upd H3 p1 (.lst (as.map V.ref++[.ref p4])))=H4 at *;refine⟨_,rfl,o,C,dx,_,rfl,O4,Cc,cZ,(by show 1<1000;decide),?_⟩;have O5:(upd H4 o (.ins C dx (putF "over" (.int 1) [("cells",.ref p1)]))) o=some (.ins C dx [("cells",.ref p1),("over",.int 1)]):=aJ;have k5:∀b u,b≠o->H4 b=some u->(upd H4 o (.ins C dx (putF "over" (.int 1) [("cells",.ref p1)]))) b=some u:=fun b u hb e=>by rw[cP hb];exact e
  have nso:sl≠o:=ne_of S4 O4 fun e=>nomatch e
  have C5:=k5 _ _ np C4;have S5:=k5 _ _ nso S4;have Z5:Same H0 (upd H4 o (.ins C dx (putF "over" (.int 1) [("cells",.ref p1)]))):=Same.tW Z4 h0;have R5:∀r a,(as++[p4])[r]? =some a->_:=fun r a e=>k5 _ _ (R4 r a e).2 (R4 r a e).1;generalize (upd H4 o (.ins C dx (putF "over" (.int 1) [("cells",.ref p1)])))=H5 at *;refine⟨_,rfl,(wl.length:Int),rfl,by omega,by omega,fun co hco=> ?_⟩;have s6:=aY hco (.lst (cR (wl.length:Int).toNat));have O6:=s6 _ _ O5;refine⟨_,rfl,o,C,dx,_,rfl,O6,Cc,aQ,(by show 2<1000;decide),?_⟩;have nco:co≠o:=(j5 O5 hco).symm;have k7:∀b u,b≠o->(upd H5 co (.lst (cR (wl.length:Int).toNat))) b=some u->(upd (upd H5 co (.lst (cR (wl.length:Int).toNat))) o (.ins C dx (putF "columns" (.ref co) [("cells",.ref p1),("over",.int 1)]))) b=some u:=fun b u hb e=>by rw[cP hb];exact e
  have O7:(upd (upd H5 co (.lst (cR (wl.length:Int).toNat))) o (.ins C dx (putF "columns" (.ref co) [("cells",.ref p1),("over",.int 1)]))) o=some (.ins C dx [("cells",.ref p1),("over",.int 1),("columns",.ref co)]):=aJ;have C7:=k7 _ _ np (s6 _ _ C5);have S7:=k7 _ _ nso (s6 _ _ S5);have L7:=k7 _ _ nco aJ;have R7:∀r a,(as++[p4])[r]? =some a->_:=fun r a e=>k7 _ _ (R4 r a e).2 (s6 _ _ (R5 r a e));have Z7:Same H0 (upd (upd H5 co (.lst (cR (wl.length:Int).toNat))) o (.ins C dx (putF "columns" (.ref co) [("cells",.ref p1),("over",.int 1)]))):=Same.tW (Z5.trans s6) h0;have c0:H0 co=none:=Z5.none hco;have ncr:co∉as++[p4]:=fun hm=>by
   obtain⟨r,hr1,e⟩:=Ez hm;have:=R5 r _ (eO hr1);rw[e,hco]at this;cases this
  generalize (upd (upd H5 co (.lst (cR (wl.length:Int).toNat))) o (.ins C dx (putF "columns" (.ref co) [("cells",.ref p1),("over",.int 1)])))=H7 at *;refine⟨_,rfl,_,rfl,_,rfl,sl,_,rfl,.inl (SqL.of S7),fun _=>⟨_,_,rfl,rfl,_,_,rfl,by omega,?_,?_,fun ro YD=> ?_⟩⟩
  ·rw[aG];omega
  ·rw[aG];omega
  rw[aG];have s8:=aY YD (.lst ((mq (wl.length:Int) ((wl.length:Int)+(its.length:Int)-(wl.length:Int)).toNat).map V.int));have O8:=s8 _ _ O7;refine⟨_,rfl,o,C,dx,_,rfl,O8,Cc,cF,(by show 3<1000;decide),?_⟩;have nro:ro≠o:=(j5 O7 YD).symm;have k9:∀b u,b≠o->(upd H7 ro (.lst ((mq (wl.length:Int) ((wl.length:Int)+(its.length:Int)-(wl.length:Int)).toNat).map V.int))) b=some u->(upd (upd H7 ro (.lst ((mq (wl.length:Int) ((wl.length:Int)+(its.length:Int)-(wl.length:Int)).toNat).map V.int))) o (.ins C dx (putF "rows" (.ref ro) [("cells",.ref p1),("over",.int 1),("columns",.ref co)]))) b=some u:=fun b u hb e=>by rw[cP hb];exact e
  refine qq _ ⟨dx,p1,co,ro,as++[p4],Same.tW (Z7.trans s8) h0,h0,h1n,c0,Z7.none YD,j5 L7 YD,ncr,fun hm=> ?_,aJ,k9 _ _ np (s8 _ _ C7),by rw[g8,hl];rfl,fun r a e=>k9 _ _ (R4 r a e).2 (s8 _ _ (R7 r a e)),?_,?_⟩
  ·obtain⟨r,hr1,e⟩:=Ez hm;have:=R7 r _ (eO hr1);rw[e,YD]at this;cases this
  ·rw[k9 _ _ nco (s8 _ _ L7)];congr 2;unfold cR bV;rw[tU,show(wl.length:Int).toNat=wl.length by omega];rfl
  ·rw[k9 _ _ nro aJ];congr 2;unfold mq bV;rw[show((wl.length:Int)+(its.length:Int)-(wl.length:Int)).toNat=its.length by omega];refine gq _ (Vx fun k _=> ?_);show(wl.length:Int)+(k:Int)=((wl.length+k:Nat):Int);omega
end
noncomputable def bR(a:Int)(b:Nat):Int×Nat:=(a/((Nat.gcd a.natAbs b:Nat):Int),b/Nat.gcd a.natAbs b)
theorem Ma(a:Int){b:Nat}(hb:0<b):Low a b (bR a b).1 (bR a b).2:=J9 a b hb
theorem J8{a:Int}{b:Nat}{u u':Int}{v v':Nat}(hb:0<b)(h:Low a b u v)(h':Low a b u' v'):u=u'/\v=v':=by
 have e1:=h.eq;have e2:=h'.eq;have bi:(0:Int)<(b:Int):=by omega
 have cr:u*(v':Int)=u'*(v:Int):=by
  refine wdy (a:=(b:Int)) (by omega) ?_;have x:(b:Int)*(u*(v':Int))=u*(b:Int)*(v':Int):=by grind
  have y:(b:Int)*(u'*(v:Int))=u'*(b:Int)*(v:Int):=by grind
  rw[x,y,e1,e2];grind
 have cn:u.natAbs*v'=u'.natAbs*v:=by
  have:=gq Int.natAbs cr
  rwa [WW,WW,Xf,Xf]at this
 have d1:v∣v':=by
  have:v∣u.natAbs*v':=by rw[cn];exact wcy _ _
  exact(wcz h.cop).dvd_of_dvd_mul_left this
 have d2:v'∣v:=by
  have:v'∣u'.natAbs*v:=by rw[<-cn];exact wcy _ _
  exact(wcz h'.cop).dvd_of_dvd_mul_left this
 have ev:=Nat.dvd_antisymm d1 d2;subst ev;refine⟨?_,rfl⟩;have hv:=h.pos;exact Xm (a:=(v:Int)) (by omega) cr
theorem Bp{a:Int}{b:Nat}{u:Int}{v:Nat}(hb:0<b)(h:Low a b u v):(u,v)=bR a b:=by
 obtain⟨e1,e2⟩:=J8 hb h (Ma a hb);rw[e1,e2]
theorem rY{x y:Int}(h:0<x*y)(hy:0<y):0<x:=by
 refine Int.not_le.mp fun hn=> ?_;have:=Ho (a:= -x) (b:=y) (by omega) (by omega)
 grind
theorem Ka{a:Int}{b:Nat}(hb:0<b):0<(bR a b).1↔0<a:=by
 have l:=Ma a hb;have e:=l.eq;have hv:(0:Int)<((bR a b).2:Int):=by have:=l.pos;omega
 have bi:(0:Int)<(b:Int):=by omega
 constructor
 ·intro h;have:0<(bR a b).1*(b:Int):=VH h bi;rw[e]at this;exact rY this hv
 ·intro h;have:0<a*((bR a b).2:Int):=VH h hv;rw[<-e]at this;exact rY this bi
structure Sh(n:Nat)(L:List (List Int))(wl:List Int)(ov:Nat)(Z:Int)(Y X:Nat->Int):Prop where
 pos:0<ov
 big:ov<=39916800
 yn:∀k,0<=Y k
 xn:∀p,0<=X p
 tot:Sx.sm L.length Y=Z
 eno:∀p,p<n->(ov:Int)*nM wl p<=Sx.sm L.length fun k=>if dI L k p=true then Y k else 0
 lig:∀k,k<L.length->(Sx.sm n fun p=>if dI L k p=true then X p else 0)<=(ov:Int)
 wor:(Sx.sm n fun p=>nM wl p*X p)=Z
theorem XQ{n:Nat}{L:List (List Int)}{wl:List Int}{T:Sx.Tab}(hg:TG n L.length (dI L) (nM wl) T)(hz:∀c,c<n->0<=T.cell L.length c):
  Sh n L wl T.over.toNat (T.cell L.length n) (fun k=>Sx.Ys n L.length T (n+k)) (fun p=>Sx.Xs n L.length T p):=by
 have ho:=hg.over;have eo:((T.over.toNat:Nat):Int)=T.over:=by omega
 refine⟨by omega,by omega,fun k=>Sx.Qy hz _,fun p=>hg.good.QL _,hg.good.total,fun p hp=> ?_,fun k hk=> ?_,hg.good.prices⟩
 ·rw[eo,hg.good.enough hp];have:=Sx.Qy hz p;omega
 ·rw[eo];exact hg.good.light hk
theorem Vf{ts:L0}{n:Nat}{ss:List (List Int)}(h:bh ss ts false n){p:Nat}(hp:p<n):∃k,k<ss.length/\dI ss k p=true:=by
 have sk:jc ts false n [(p:Int)]:=⟨RP _ _,fun x hx=>by rw[fO.mp hx];omega,fun x hx y hy hn=>absurd ((fO.mp hx).trans (fO.mp hy).symm) hn⟩;obtain⟨t,ht,hx⟩:=sU sk;have ht':=h.1.mem_iff.mpr ht;obtain⟨k,hk,rfl⟩:=Ez ht';refine⟨k,hk,?_⟩;unfold dI;rw[iU,eO hk];exact dB (hx _ cV)
theorem Ar{ts:L0}{n:Nat}{ss:List (List Int)}(h:bh ss ts false n)(hn:n<=10):ss.length<=36:=by rw[h.1.length_eq];exact uP hn
noncomputable def Yu(ss:List (List Int))(ov:Nat)(Y:Nat->Int):List (List Int×(Int×Nat)):=((List.range ss.length).filter fun k=>decide (0<Y k)).map fun k=>(ss.getD k [],bR (Y k) ov)
noncomputable def X8(n ov:Nat)(X:Nat->Int):List (Int×Nat):=(List.range n).map fun p=>bR (X p) ov
section
variable{K:W.Frag}
noncomputable def Ac(K:W.Frag)(H:Hp)(a:Addr)(f:Int×Nat):Prop:=SqT K H a [.int f.1,.int ((f.2:Nat):Int)]
noncomputable def Ql(K:W.Frag)(H:Hp)(v:V)(q:List Int×(Int×Nat)):Prop:=∃t sa fa,v= .ref t/\SqT K H t [.ref sa,.ref fa]/\SqT K H sa (q.1.map V.int)/\Ac K H fa q.2
noncomputable def um(K:W.Frag)(H:Hp):List V->List (List Int×(Int×Nat))->Prop:=Paired (Ql K H)
noncomputable def zO(K:W.Frag)(H:Hp):List V->List (Int×Nat)->Prop:=Paired fun v f=>∃a,v= .ref a/\Ac K H a f
theorem Ql.same{H H':Hp}{v:V}{q:List Int×(Int×Nat)}(h:Ql K H v q)(s:Same H H'):Ql K H' v q:=by
 obtain⟨t,sa,fa,e,h1,h2,h3⟩:=h;exact⟨t,sa,fa,e,s.tup h1,s.tup h2,s.tup h3⟩
theorem um.same{H H':Hp}{vs:List V}{l:List (List Int×(Int×Nat))}(h:um K H vs l)(s:Same H H'):um K H' vs l:=Paired.mapP h fun _ _ z=>z.same s
theorem zO.same{H H':Hp}{vs:List V}{l:List (Int×Nat)}(h:zO K H vs l)(s:Same H H'):zO K H' vs l:=Paired.mapP h fun _ _ ⟨a,e,z⟩=>⟨a,e,s.tup z⟩
theorem Paired.snoc{α β:Type}{R:α->β->Prop}:∀{l:List α} {m:List β} {a:α} {b:β},Paired R l m->R a b->Paired R (l++[a]) (m++[b])
 |_,_,_,_,.nil,h=> .cons h .nil
 |_,_,_,_,.cons r t,h=> .cons r (Paired.snoc t h)
end
section
variable{P:ξ}{w:τ}{K:W.Frag}{mg:L4}{base:Heap}
noncomputable def Ln(n:Int)(wl:List Int):Prop:=(wl.length:Int)=n/\∀x∈wl,0<=x/\x<=99
theorem all_true(k:Nat):(List.replicate k true).all id=true:=by
 rw[j6];intro b hb;rw[(List.mem_replicate.mp hb).2];rfl
noncomputable def oY(K:W.Frag):Sp:=fun vs H Q _=>∃(a wa:Addr) (n:Int) (t:V) (wl:List Int),vs=[.ref a,.ref wa]/\SqT K H a [.int n,t]/\SqT K H wa (wl.map V.int)/\Ln n wl/\∀H',Same H H'->Q .non H'
theorem vJ{f f1:Addr}{fd d1:ρ}{tk0:Tok}(F:Fun K "need_wants" "need_wants" ig f fd)(D1:bQ K mg "is_whole" fV ["thing"] f1 d1)(G1:FnOk P w K mg base CX0 1 f1 d1 ["thing"] (qH K))(aK:mg "len"=none)(iG:mg "isinstance"=none)(aX:mg "tuple"=none)(mK:mg "all"=none)(yC:mg "MOST_WANT"=some (.int 99 tk0)):
  FnOk P w K mg base CX0 2 f fd ["web","thing"] (oY K):=by
 refine F.dG ["web","thing"] fun cdv A outer s H vs Q E hr h=> ?_;obtain⟨a,wa,n,t,wl,rfl,hA,hW,⟨hl,hb⟩,qq⟩:=h;refine bw ?_;intro Y;refine⟨_,(aV (gZ (PW.pt (pw_or (pt_not (zU (pB gn iG (aj (pv 1) (aj (pN "tuple" aX) ao))))) (pw_or1 (dW op_ne (pB lR aK (aj (pv 1) ao)) (bA eG (pv 0) aL))))) pss_never iJ) (bf (gZ (pt_not (zU (pB (eF rfl) mK (aj (pK ["want"] [] [] (Cy (pv 1)) (pG 0) qz (pe_and (pc G1 hr D1 (aj (pv 0) ao)) (pe_one (pe_chain op_le op_le aL (pv 0) (pe_glob rfl yC (v:= .int 99) ⟨_,rfl⟩))))) ao)))) pss_never iJ))),?_⟩;refine gU ?_;intro c2;refine⟨_,rfl,.ref wa,"tuple",_,rfl,.inl ⟨rfl,_,hW⟩,.inr (.inr (.inl rfl)),_,rfl,?_⟩;refine iteF ?_;refine⟨_,rfl,wa,_,rfl,.inr hW,fun hz=>⟨_,rfl,a,_,_,.int n,rfl,rfl,hA,rfl,rfl,_,rfl,?_⟩⟩;have e1:(!decide (V.int (((wl.map V.int).length:Nat):Int)=V.int n))=false:=by rw[aG,hl];simp
 rw[e1];refine iteF ?_;refine⟨_,rfl,wa,_,rfl,hW,fun hz=> ?_⟩;let gO:Nat->List V->St->Hp->Prop:=fun i acc σ H'=>acc=(List.replicate i true).map V.bl/\H'=H/\∃o,σ=[o];refine LR (xs:=wl.map V.int) gO ⟨rfl,rfl,_,rfl⟩ (fun i acc σ H' _ p=>by rw[p.2.1];exact hW) (fun i acc σ H' _ p=>by rw[p.1,aG,wct];exact aN _) hz (fun i x acc σ H' hx p=> ?_) (fun acc σ H' p=> ?_)
 ·obtain⟨rfl,rfl,o,rfl⟩:=p;rw[cU]at hx;cases ex:wl[i]? with
  |none=>rw[ex]at hx;cases hx
  |some y=>
   rw[ex]at hx;cases hx;have hy:=hb y (qW ex);refine⟨_,rfl,.int y,.int y,rfl,.int _,_,rfl,iteT ?_⟩;refine⟨_,rfl,_,_,rfl,rfl,_,rfl,?_⟩;rw[dB hy.1];refine iteT ?_;refine⟨_,_,rfl,rfl,?_,rfl,_,rfl⟩;show _++[V.bl (decide (y<=99))]=_;rw[dB hy.2,List.replicate_succ',bW];rfl
 ·intro p1 hp1;obtain⟨rfl,rfl,_⟩:=p;refine⟨p1,_,rfl,SqL.of aJ,_,rfl,?_⟩;rw[all_true];exact iteF (qq _ (aY hp1 _))
noncomputable def xG(K:W.Frag):Sp:=fun vs H Q _=>∃(a wa:Addr) (n:Int) (ts:L0) (wl:List Int),vs=[.ref a,.ref wa]/\aZ K H a n ts/\SqT K H wa (wl.map V.int)/\Ln n wl/\
 ∀(r va la pa:Addr) (lrefs Jy:List V) (ss:List (List Int)) (ov:Nat) (Z:Int) (Y X:Nat->Int) H',Same H H'->H' r=some (.tup [.ref va,.ref la,.ref pa])->Ac K H' va (bR Z ov)->H' la=some (.lst lrefs)->um K H' lrefs (Yu ss ov Y)->H' pa=some (.lst Jy)->zO K H' Jy (X8 n.toNat ov X)->
  bh ss ts false n.toNat->Sh n.toNat ss wl ov Z Y X->H la=none->H pa=none->la≠pa->Q (.ref r) H'
theorem Ga{f f1 f2 f3 f4 f5 f6 f7 f8 C:Addr}{fd d1 d2 d3 d4 d5 d6 d7 d8:ρ}(F:Fun K "shares" "shares" rM f fd)
  (Cc:Cls K C)(aW:NoAttr K C "cells")(cZ:NoAttr K C "over")(aQ:NoAttr K C "columns")(cF:NoAttr K C "rows")(oh:mg "Tableau"=some (.ref C))(D1:bQ K mg "need_web" HN ["thing"] f1 d1)(G1:FnOk P w K mg base CX0 7 f1 d1 ["thing"] (cA K))(D2:bQ K mg "need_wants" ig ["web","thing"] f2 d2)(G2:FnOk P w K mg base CX0 2 f2 d2 ["web","thing"] (oY K))(D3:bQ K mg "full_apart" fu ["web"] f3 d3)(G3:FnOk P w K mg base CX0 8 f3 d3 ["web"] (jh K))(D4:qg K C "__init__" "Tableau.__init__" fX ["self","sets","wants"] f4 d4)(Mk4:Mk K C f4)(aaJ:FnOk P w K mg base CX0 1 f4 d4 ["self","sets","wants"] (Al K C))(D5:qg K C "solve" "Tableau.solve" zdi ["self"] f5 d5)(G5':FnOk P w K mg base CX0 3 f5 d5 ["self"] (Iv K C))(D6:qg K C "share_of" "Tableau.share_of" zcb ["self","name"] f6 d6)(G6':FnOk P w K mg base CX0 4 f6 d6 ["self","name"] (Iw K C))(D7:qg K C "price_of" "Tableau.price_of" zcc ["self","name"] f7 d7)(G7':FnOk P w K mg base CX0 4 f7 d7 ["self","name"] (Iz K C))(D8:qg K C "fraction_at" "Tableau.fraction_at" WQ ["self","row","column"] f8 d8)(G8':FnOk P w K mg base CX0 3 f8 d8 ["self","row","column"] (xr K C))(eE:mg "enumerate"=none)(aB:mg "range"=none):
  FnOk P w K mg base CX0 9 f fd ["web","wants"] (xG K):=by
 have G4m:FnOk P w K mg base CX0 7 f4 d4 ["self","sets","wants"] (Al K C):=aaJ.mono (by decide);have G5:FnOk P w K mg base CX0 8 f5 d5 ["self"] (Iv K C):=G5'.mono (by decide);have G6:FnOk P w K mg base CX0 8 f6 d6 ["self","name"] (Iw K C):=G6'.mono (by decide);have G7:FnOk P w K mg base CX0 8 f7 d7 ["self","name"] (Iz K C):=G7'.mono (by decide);have G8:FnOk P w K mg base CX0 8 f8 d8 ["self","row","column"] (xr K C):=G8'.mono (by decide);refine F.dG ["web","wants","n","sets","tableau","given","laying","prices"] fun cdv A outer s H vs Q E hr h=> ?_;obtain⟨a,wa,n,ts,wl,rfl,hA,hW,hwl,qq⟩:=h;refine bw ?_;intro Y;refine⟨_,(aV (qR (pc G1 hr D1 (aj (pv 0) ao))) (aV (qR (pc G2 hr D2 (aj (pv 0) (aj (pv 1) ao)))) (aV (pS 2 (bA eG (pv 0) aL)) (aV (pS 3 (pc G3 hr D3 (aj (pv 0) ao))) (aV (pS 4 (pe_make Mk4 G4m hr rfl oh D4.b .nil pass0 (aj (pv 3) (aj (pv 1) ao)))) (aV (qR (pe_meth0 (pv 4) Cc D5.m G5 hr D5.b .nil pass0)) (aV (pX 5 ["k","some"] ["tableau","n"] [4,2] (vD rfl eE (aj (pv 3) ao)) (gC K (n:=2) rfl (uq (pG 0) (uq (pG 1) pgs_nil))) qz (qu (aj (pv 1) (aj (Cw (pv 2) Cc D6.m G6 hr D6.b .nil pass0 (aj (cu pQ (pv 3) (pv 0)) ao)) ao)))) (aV (pX 6 ["share"] [] [] (Mw (pv 5)) (pG 0) (HD (dW op_gt (bA (dU K) (bA (dU K) (pv 0) aL) aL) aL)) (pv 0)) (aV (pX 7 ["place"] ["tableau"] [4] (wQ rfl aB (aj (pv 2) ao)) (pG 0) qz (Cw (pv 1) Cc D7.m G7 hr D7.b .nil pass0 (aj (pv 0) ao))) (bf (cD (qu (aj (Cw (pv 4) Cc D8.m G8 hr D8.b .nil pass0 (aj (pe_un un_neg aL) (aj (pe_un un_neg aL) ao))) (aj (pv 6) (aj (pv 7) ao))))))))))))))),?_⟩;refine Uw ?_;intro ZJ c9 c8 c7 c6 c5 c4 c3 c2;have h0:=hA.h0;have h10:=hA.h1;refine⟨_,rfl,.ref a,_,rfl,hA.web.dv.dx,hA.ok,fun H1 s1=> ?_⟩;obtain⟨tt1,rr1,w1,w2,w3⟩:=id (hA.same s1).web;refine⟨_,rfl,_,rfl,a,wa,n,_,wl,rfl,w1,s1.tup hW,hwl,fun H2 s2=> ?_⟩;have s12:=s1.trans s2;have Wj:=hA.same s12;obtain⟨tt2,rr2,x1,x2,x3⟩:=id Wj.web;refine⟨_,rfl,a,_,_,.int n,rfl,rfl,x1,rfl,?_⟩;refine⟨_,rfl,a,n,ts,rfl,Wj,fun sl ss H3 s3 aay yR hsl=> ?_⟩;obtain⟨its,hS,hP,hss⟩:=aay;have tO:=s12.trans s3;have hm:its.length=ss.length:=by rw[<-hss,aG]
 have aaV:=Ar yR (by omega);have hwn:wl.length=n.toNat:=by have:=hwl.1;omega
 refine⟨_,rfl,_,rfl,fun o dx ho hdx hne=> ?_⟩;have sM:Same H3 (upd (upd H3 dx (.own o)) o (.ins C dx [])):=(aY hdx _).trans (aY (by rw[cP (jU hne)];exact ho) _);refine⟨o,dx,sl,wa,H3,its,wl,rfl,aJ,sM,ho,sM _ _ hS,fun p hp=>sM.tup (hP p hp),sM.tup (tO.tup hW),by omega,by omega,fun H4 Wh=>⟨rfl,?_⟩⟩;rw[hss,hm,hwn]at Wh;have Y4:Sta n.toNat ss.length (dI ss) (nM wl):=by
  refine⟨by omega,by omega,fun p hp=> ?_,fun p hp=>Vf yR hp⟩;unfold nM;rw[iU,eO (by omega)];exact hwl.2 _ (zX _)
 obtain⟨dx4,cl4,co4,ro4,rw4,hA4⟩:=id Wh;refine⟨_,rfl,o,dx4,_,rfl,hA4.at_,rfl,o,H3,n.toNat,ss.length,dI ss,nM wl,_,rfl,Wh,Y4,Sx.Aj,fun T H5 hT5 hg5 hz5=> ?_⟩;have hG:=Y4.tg hg5;have hSh:=XQ hG hz5;obtain⟨dx5,cl5,co5,ro5,rw5,hA5⟩:=id hT5;have Nx:=hA5.same;have ovp:=hSh.pos;generalize hY:(fun k=>Sx.Ys n.toNat ss.length T (n.toNat+k))=Y at *;generalize hX:(fun p=>Sx.Xs n.toNat ss.length T p)=X at *
 -- given
 refine⟨_,rfl,false,sl,_,rfl,SqL.of (Nx _ _ hS),fun hz=> ?_⟩;let sZ:Nat->List V->St->Hp->Prop:=fun i acc σ H'=>um K H' acc ((List.range i).map fun k=>(ss.getD k [],bR (Y k) T.over.toNat))/\Same H5 H'/\∃o1 o2,σ=[o1,o2,some (.ref o),some (.int n)];refine oH (K:=K) (b:=false) (a:=sl) (xs:=its.map fun p=>V.ref p.1) sZ ⟨.nil,Same.refl _,_,_,rfl⟩ (fun i acc σ H' _ p=>p.2.1.seq (SqL.of (Nx _ _ hS))) (fun i acc σ H' _ p=> ?_) hz (fun i v t acc σ H' hv p ht=> ?_) (fun acc σ H' p=> ?_)
 ·rw[Paired.tZ p.1,aG,wV];exact aN _
 ·obtain⟨hl,sm,o1,o2,rfl⟩:=p;rw[cU]at hv;cases ev:its[i]? with
  |none=>rw[ev]at hv;cases hv
  |some it=>
   rw[ev]at hv;cases hv;have eg:ss.getD i []=it.2:=by rw[<-hss,iU,cU,ev];rfl
   have t1:=aY ht (.tup [.int (i:Int),.ref it.1]);have Wg:=hT5.sm (sm.trans t1);obtain⟨dx6,cl6,co6,ro6,rw6,hA6⟩:=id Wg;refine⟨t,_,rfl,SqT.of aJ,rfl,_,_,rfl,_,_,rfl,rfl,?_⟩;refine⟨_,rfl,_,rfl,o,dx6,_,rfl,hA6.at_,rfl,_,rfl,_,rfl,_,_,rfl,rfl,o,H3,n.toNat,ss.length,n.toNat+i,dI ss,nM wl,T,?_,Wg,hG,fun fa H7 u v' s7 e7 l7=> ?_⟩
   ·rw[show(((n.toNat+i:Nat)):Int)=n+(i:Int) by omega];rfl
   ·refine⟨(by show 2<=sizeLine;decide),fun tp htp=> ?_⟩;have s8:=aY htp (.tup [.ref it.1,.ref fa]);have s68:=t1.trans (s7.trans s8);have hlow:(u,v')=bR (Y i) T.over.toNat:=by rw[<-hY];exact Bp ovp l7
    refine⟨?_,sm.trans s68,_,_,rfl⟩;rw[wU,bW];refine Paired.snoc (um.same hl s68) ⟨tp,it.1,fa,rfl,SqT.of aJ,?_,?_⟩
    ·show SqT K _ it.1 ((ss.getD i []).map V.int);rw[eg];exact(Nx.trans (sm.trans s68)).tup (hP it (qW ev))
    ·show Ac K _ fa (bR (Y i) T.over.toNat);rw[<-hlow];exact s8.tup (SqT.of e7)
 intro gl hgl;obtain⟨hl,sm5,_⟩:=p;rw[aG,hm]at hl;have g1:=aY hgl (.lst acc);have s6:=sm5.trans g1;have eg1:(upd H' gl (.lst acc)) gl=some (.lst acc):=aJ;have YJ:=um.same hl g1;generalize (upd H' gl (.lst acc))=H6 at *
 -- laying
 refine⟨_,rfl,gl,_,rfl,SqL.of eg1,fun hz=> ?_⟩;let Qn:Nat->List V->St->Hp->Prop:=fun i acc' σ H'=>H'=H6/\um K H6 acc' (((List.range i).filter fun k=>decide (0<Y k)).map fun k=>(ss.getD k [],bR (Y k) T.over.toNat))/\∃o1,σ=[o1];refine Qt (xs:=acc) Qn ⟨rfl,.nil,_,rfl⟩ (fun i acc' σ H' _ p=>by rw[p.1];exact SqL.of eg1) (fun i acc' σ H' _ p=> ?_) hz (fun i v acc' σ H' hv p=> ?_) (fun acc' σ H' p=> ?_)
 ·rw[Paired.tZ p.2.1,aG];exact eN (Af _ _) (by rw[wV];exact aN _)
 ·obtain⟨rfl,hl',o1,rfl⟩:=p;obtain⟨qv,eq1,hv1⟩:=Paired.at_ YJ hv;have hi:i<ss.length:=by
   have:=(lV.mp hv).1;rw[Paired.tZ YJ,aG,wV]at this;exact this
  rw[cU,HW hi]at eq1;have eq2:qv=(ss.getD i [],bR (Y i) T.over.toNat):=(qY eq1).symm;obtain⟨t,sa,fa,rfl,h1,h2,h3⟩:=id hv1;have h3':Ac K H' fa (bR (Y i) T.over.toNat):=by rw[eq2]at h3;exact h3
  refine⟨_,rfl,t,_,_,.ref fa,rfl,rfl,h1,rfl,fa,_,_,.int (bR (Y i) T.over.toNat).1,rfl,rfl,h3',rfl,_,_,rfl,rfl,_,rfl,?_⟩;have go:((List.range (i+1)).filter fun k=>decide (0<Y k))=((List.range i).filter fun k=>decide (0<Y k))++(if decide (0<Y i)=true then[i]else[]):=by
   rw[wU,Mh];congr 1;rw[qT];split<;>rfl
  have ed:decide (0<(bR (Y i) T.over.toNat).1)=decide (0<Y i):=decide_eq_decide.mpr (Ka ovp);refine ite2 (fun c=> ?_) (fun c=> ?_)
  ·have c':decide (0<Y i)=true:=by rw[<-ed];exact c
   refine⟨_,rfl,rfl,?_,_,rfl⟩;rw[go,aA c',bW];refine Paired.snoc hl' ?_;rw[eq2]at hv1;exact hv1
  ·have c':¬decide (0<Y i)=true:=by rw[<-ed];exact c
   refine⟨rfl,?_,_,rfl⟩;rw[go,aq c',tL];exact hl'
 intro la hla;obtain⟨rfl,hlay,_⟩:=p;rw[Paired.tZ YJ,aG,wV]at hlay;have g2:=aY hla (.lst acc');have s7:=s6.trans g2;have ela:(upd H' la (.lst acc')) la=some (.lst acc'):=aJ;have YH:=um.same hlay g2;have yQ:=hT5.sm s7;generalize (upd H' la (.lst acc'))=H7 at *
 -- prices
 refine⟨_,rfl,n,rfl,by omega,by omega,?_⟩;let ZS:Nat->List V->St->Hp->Prop:=fun i wK σ H2=>zO K H2 wK ((List.range i).map fun p=>bR (X p) T.over.toNat)/\Same H7 H2/\∃o1,σ=[o1,some (.ref o)];refine CG (n:=n.toNat) ZS ⟨.nil,Same.refl _,_,rfl⟩ (fun i wK σ H2 hi p=> ?_) (by rw[eX];omega) (fun i wK σ H2 hi p=> ?_) (fun wK σ H2 p=> ?_)
 ·rw[Paired.tZ p.1,aG,wV];exact aN _
 ·obtain⟨hf,sm,o1,rfl⟩:=p;have hT8:=yQ.sm sm;obtain⟨dx8,cl8,co8,ro8,rw8,hA8⟩:=id hT8;refine⟨_,rfl,o,dx8,_,rfl,hA8.at_,rfl,_,rfl,o,H3,n.toNat,ss.length,i,dI ss,nM wl,T,by rw[MJ];rfl,hT8,hG,fun fa H9 u v' s9 e9 l9=> ?_⟩;have hlow:(u,v')=bR (X i) T.over.toNat:=by rw[<-hX];exact Bp ovp l9
  refine⟨?_,sm.trans s9,_,rfl⟩;rw[wU,bW];refine Paired.snoc (zO.same hf s9) ⟨fa,rfl,?_⟩;show Ac K H9 fa (bR (X i) T.over.toNat);rw[<-hlow];exact SqT.of e9
 intro pa hpa;obtain⟨hf,sm7,_⟩:=p;have g3:=aY hpa (.lst wK);have s8:=sm7.trans g3;have epa:(upd H2 pa (.lst wK)) pa=some (.lst wK):=aJ;have hf8:=zO.same hf g3;have hT8:=yQ.sm s8;have nlp:la≠pa:=j5 (sm7 _ _ ela) hpa;generalize (upd H2 pa (.lst wK))=H8 at *;obtain⟨dx8,cl8,co8,ro8,rw8,hA8⟩:=id hT8;refine⟨_,rfl,o,dx8,_,rfl,hA8.at_,rfl,_,rfl,_,rfl,o,H3,n.toNat,ss.length,ss.length,n.toNat,_,_,dI ss,nM wl,T,rfl,hT8,hG,.inr ⟨rfl,rfl⟩,.inr ⟨rfl,rfl⟩,fun va H9 u v' s9 e9 l9=> ?_⟩;refine⟨_,rfl,_,rfl,(by show 3<=sizeLine;decide),fun r hr'=> ?_⟩;have Ny:=aY hr' (.tup [.ref va,.ref la,.ref pa]);have Jr:=s9.trans Ny;have hlow:(u,v')=bR (T.cell ss.length n.toNat) T.over.toNat:=Bp ovp l9;refine qq r va la pa acc' wK ss T.over.toNat (T.cell ss.length n.toNat) Y X _ (tO.trans (Nx.trans (s7.trans (s8.trans Jr)))) aJ ?_ ((s8.trans Jr) _ _ ela) (um.same YH (s8.trans Jr)) (Jr _ _ epa) (zO.same hf8 Jr) yR hSh ?_ ?_ nlp
 ·rw[<-hlow];exact Ny.tup (SqT.of e9)
 ·exact(tO.trans (Nx.trans s6)).none hla
 ·exact(tO.trans (Nx.trans (s7.trans sm7))).none hpa
noncomputable def iV(n:Nat):List Int:=List.replicate n 1
noncomputable def Di(K:W.Frag):Sp:=fun vs H Q _=>∃(a:Addr) (n:Int) (ts:L0),vs=[.ref a]/\aZ K H a n ts/\
 ∀(va:Addr) (ss:List (List Int)) (ov:Nat) (Z:Int) (Y X:Nat->Int) H',Same H H'->Ac K H' va (bR Z ov)->bh ss ts false n.toNat->Sh n.toNat ss (iV n.toNat) ov Z Y X->Q (.ref va) H'
theorem JH{f f1 f2:Addr}{fd d1 d2:ρ}(F:Fun K "value" "value" vm f fd)(D1:bQ K mg "need_web" HN ["thing"] f1 d1)(G1:FnOk P w K mg base CX0 7 f1 d1 ["thing"] (cA K))(D2:bQ K mg "shares" rM ["web","wants"] f2 d2)(G2:FnOk P w K mg base CX0 9 f2 d2 ["web","wants"] (xG K)):
  FnOk P w K mg base CX0 10 f fd ["web"] (Di K):=by
 refine F.dG ["web"] fun cdv A outer s H vs Q E hr h=> ?_;obtain⟨a,n,ts,rfl,hA,qq⟩:=h;refine bw ?_;intro Y;refine⟨_,(aV (qR (pc G1 hr D1 (aj (pv 0) ao))) (bf (cD (bA eG (pc G2 hr D2 (aj (pv 0) (aj (cu N8 (qu (aj aL ao)) (bA eG (pv 0) aL)) ao))) aL)))),?_⟩;refine gU ?_;intro c2;have h0:=hA.h0;have h10:=hA.h1;refine⟨_,rfl,.ref a,_,rfl,hA.web.dv.dx,hA.ok,fun H1 s1=> ?_⟩;obtain⟨tt1,rr1,w1,w2,w3⟩:=id (hA.same s1).web;refine⟨_,rfl,(by show 1<=sizeLine;decide),fun p1 hp1=> ?_⟩;have s2:=aY hp1 (.tup [.int 1]);refine⟨_,rfl,a,_,_,.int n,rfl,rfl,s2.tup w1,rfl,p1,n,_,rfl,rfl,SqT.of aJ,(fun e=>nomatch e),by omega,by omega,?_,fun wa H3 s3 h3=> ?_⟩
 ·show 1*n.toNat<=1000;omega
 have ew:(List.replicate n.toNat [V.int 1]).flatten=(iV n.toNat).map V.int:=by
  unfold iV;generalize n.toNat=k
  induction k with
  |zero=>rfl
  |succ k ih=>rw[RL,W4,ih,RL];rfl
 rw[ew]at h3;have tO:=s1.trans (s2.trans s3);refine⟨a,wa,n,ts,iV n.toNat,rfl,hA.same tO,h3,⟨by unfold iV;rw[wct];omega,fun x hx=> ?_⟩,fun r va la pa lrefs Jy ss ov Z Y X H4 s4 e1 e2 e3 e4 e5 e6 yR hSh _ _ _=> ?_⟩
 ·rw[(List.mem_replicate.mp hx).2];decide
 exact⟨r,_,_,.ref va,rfl,rfl,SqT.of e1,rfl,qq va ss ov Z Y X H4 (tO.trans s4) e2 yR hSh⟩
noncomputable def I9(K:W.Frag):Sp:=fun vs H Q _=>∃(p p':Addr) (u u':Int) (v v':Nat),vs=[.ref p,.ref p']/\SqT K H p [.int u,.int ((v:Nat):Int)]/\SqT K H p' [.int u',.int ((v':Nat):Int)]/\CMul u ((v':Nat):Int)/\CMul u' ((v:Nat):Int)/\Q (.bl (decide (u*(v':Int)<u'*(v:Int)))) H
theorem Ol{f:Addr}{fd:ρ}(F:Fun K "is_less" "is_less" nP f fd):
  FnOk P w K mg base CX0 1 f fd ["one","other"] (I9 K):=by
 refine F.dG ["one","other"] fun cdv A outer s H vs Q E hr h=> ?_;obtain⟨p,p1,u,u1,v,v1,rfl,h1,h2,b1,b2,q⟩:=h;refine⟨_,(bf (cD (Hg op_lt (cu tQ (bA eG (pv 0) aL) (bA eG (pv 1) aL)) (cu tQ (bA eG (pv 1) aL) (bA eG (pv 0) aL))))),?_⟩;exact⟨_,rfl,p,_,_,.int u,rfl,rfl,h1,rfl,_,rfl,p1,_,_,.int v1,rfl,rfl,h2,rfl,_,_,rfl,rfl,b1,_,rfl,p1,_,_,.int u1,rfl,rfl,h2,rfl,_,rfl,p,_,_,.int v,rfl,rfl,h1,rfl,_,_,rfl,rfl,b2,_,_,rfl,rfl,q⟩
noncomputable def Dj(K:W.Frag):Sp:=fun vs H Q _=>∃(p p':Addr) (u u':Int) (v v':Nat),vs=[.ref p,.ref p']/\SqT K H p [.int u,.int ((v:Nat):Int)]/\SqT K H p' [.int u',.int ((v':Nat):Int)]/\CMul u u'/\CMul ((v:Nat):Int) ((v':Nat):Int)/\0<v*v'/\v*v'<=10^200/\∀r H' x y,Same H H'->H' r=some (.tup [.int x,.int ((y:Nat):Int)])->Low (u*u') (v*v') x y->Q (.ref r) H'
theorem JK{f f1:Addr}{fd d1:ρ}(F:Fun K "times" "times" vo f fd)(D1:bQ K mg "lowest" fQ ["a","b"] f1 d1)(G1:FnOk P w K mg base CX0 2 f1 d1 ["a","b"] (uz K)):FnOk P w K mg base CX0 3 f fd ["one","other"] (Dj K):=by
 refine F.dG ["one","other"] fun cdv A outer s H vs Q E hr h=> ?_;obtain⟨p,p',u,u',v,v',rfl,q1,q2,m1,m2,hp,hb,q⟩:=h;refine⟨_,bf (cD (pc G1 hr D1 (aj (cu tQ (bA eG (pv 0) aL) (bA eG (pv 1) aL))
  (aj (cu tQ (bA eG (pv 0) aL) (bA eG (pv 1) aL)) ao)))),?_⟩
 refine⟨_,rfl,p,_,_,.int u,rfl,rfl,q1,rfl,_,rfl,p',_,_,.int u',rfl,rfl,q2,rfl,_,_,rfl,rfl,m1,?_⟩;refine⟨_,rfl,p,_,_,.int v,rfl,rfl,q1,rfl,_,rfl,p',_,_,.int v',rfl,rfl,q2,rfl,_,_,rfl,rfl,m2,?_⟩;exact⟨_,v*v',rfl,hp,hb,q⟩
end
end Hs
namespace lQ
open PySem L2
theorem getD_inj{l:List Int}(nd:l.Nodup){i j:Nat}(hi:i<l.length)(hj:j<l.length)(e:l.getD i 0=l.getD j 0):i=j:=by
 have e1:l.getD i 0=l[i]:=by simp[hi]
 have e2:l.getD j 0=l[j]:=by simp[hj]
 rw[e1,e2]at e;exact(WY nd).mp e
theorem getD_mem{l:List Int}{i:Nat}(hi:i<l.length):l.getD i 0∈l:=by
 have e1:l.getD i 0=l[i]:=by simp[hi]
 rw[e1];exact zX _
theorem J5(a b:Int):(a<=b/\(if b<a then b else a)=a/\(if b>a then b else a)=b)\/(b<=a/\(if b<a then b else a)=b/\(if b>a then b else a)=a):=by
 rcases wcp a b with h|h|h
 ·exact .inl ⟨CJ h,aq (wfv h),aA h⟩
 ·subst h;exact .inl ⟨tR _,aq (Xq _),aq (Xq _)⟩
 ·exact .inr ⟨CJ h,aA h,aq (wfv h)⟩
theorem mm_eq{a b c d:Int}(e1:(if b<a then b else a)=if d<c then d else c)(e2:(if b>a then b else a)=if d>c then d else c):(a=c/\b=d)\/(a=d/\b=c):=by
 rcases J5 a b with⟨_,p,q⟩|⟨_,p,q⟩<;>rcases J5 c d with⟨_,r,s⟩|⟨_,r,s⟩<;>rw[p,r]at e1<;>rw[q,s]at e2
 ·exact .inl ⟨e1,e2⟩
 ·exact .inr ⟨e1,e2⟩
 ·exact .inr ⟨e2,e1⟩
 ·exact .inl ⟨e2,e1⟩
theorem toNat_in{x:Int}{n:Nat}(h0:0<=x)(h:x<n):x.toNat<n:=(Int.toNat_lt h0).mpr h
theorem toNat_eq{a b:Int}(ha:0<=a)(hb:0<=b)(h:a.toNat=b.toNat):a=b:=by rw[<-wdl ha,<-wdl hb,h]
theorem Yn{n:Nat}{l:List Int}(hl:Sub n l)(hlen:l.length=n){ps:L0}(h:au (n:Int) ps):au (n:Int) (ps.map (mp l)):=by
 have hin:∀p∈ps,p.1.toNat<l.length/\p.2.toNat<l.length/\0<=p.1/\0<=p.2/\p.1<p.2:=fun p hp=>by
  obtain⟨a0,a1,a2⟩:=h.lt p hp;rw[hlen];exact⟨toNat_in a0 (Int.lt_trans a1 a2),toNat_in (Qz a0 (CJ a1)) a2,a0,Qz a0 (CJ a1),a1⟩
 refine⟨?_,fun q hq=> ?_⟩
 ·rw[List.nodup_iff_pairwise_ne,zZ];refine(List.nodup_iff_pairwise_ne.mp h.nd).imp_of_mem fun{a b} ha hb hne e=>hne ?_;obtain⟨hx1,hx2,n1,n2,hlt⟩:=hin a ha;obtain⟨hy1,hy2,m1,m2,hlt'⟩:=hin b hb;rcases mm_eq (Prod.mk.inj e).1 (Prod.mk.inj e).2 with⟨k1,k2⟩|⟨k1,k2⟩
  ·exact Ht (toNat_eq n1 m1 (getD_inj hl.nd hx1 hy1 k1)) (toNat_eq n2 m2 (getD_inj hl.nd hx2 hy2 k2))
  ·rw[toNat_eq n1 m2 (getD_inj hl.nd hx1 hy2 k1),toNat_eq n2 m1 (getD_inj hl.nd hx2 hy1 k2)]at hlt;exact absurd hlt' (wfv hlt)
 ·obtain⟨p,hp,rfl⟩:=fG.mp hq;obtain⟨hx1,hx2,n1,n2,hlt⟩:=hin p hp;have m1:=hl.lt _ (getD_mem (l:=l) (i:=p.1.toNat) hx1);have m2:=hl.lt _ (getD_mem (l:=l) (i:=p.2.toNat) hx2);have hne:l.getD p.1.toNat 0≠l.getD p.2.toNat 0:=fun z=>Int.ne_of_lt hlt (toNat_eq n1 n2 (getD_inj hl.nd hx1 hx2 z));unfold mp;dsimp only;rcases J5 (l.getD p.1.toNat 0) (l.getD p.2.toNat 0)with⟨o,r,s⟩|⟨o,r,s⟩<;>rw[r,s]
  ·exact⟨m1.1,Int.lt_iff_le_and_ne.mpr ⟨o,hne⟩,m2.2⟩
  ·exact⟨m2.1,Int.lt_iff_le_and_ne.mpr ⟨o,jU hne⟩,m1.2⟩
theorem au.perm{n:Int}{ps qs:L0}(h:au n ps)(e:qs.Perm ps):au n qs:=⟨e.nodup_iff.mpr h.nd,fun p hp=>h.lt p (e.mem_iff.mp hp)⟩
theorem Km{K:W.Frag}{H:Hp}{rs:List V}{ps:L0}(h:bO K H rs (ps.map pairD)):∃its:List (Addr×(Int×Int)),rs=its.map (fun p=>V.ref p.1)/\its.map (·.2)=ps/\∀p∈its,SqT K H p.1 ((pl p.2).map V.int):=by
 induction ps generalizing rs with
 |nil=>cases h;exact⟨[],rfl,rfl,fun p h=>(nomatch h)⟩
 |cons p ps ih=>
  cases h with
  |cons h tl=>
   obtain⟨its,e1,e2,e3⟩:=ih tl;cases h with
   | @tup a _ _ h hd=>
    cases hd with
    |cons a1 t1=>
     cases a1;cases t1 with
     |cons a2 t2=>
      cases a2;cases t2;refine⟨(a,p)::its,by rw[e1];rfl,by rw[<-e2];rfl,fun q hq=> ?_⟩;rcases cQ.mp hq with e|e
      ·rw[e];exact h
      ·exact e3 q e
theorem yq{K:W.Frag}{H:Hp}:∀(its:List (Addr×(Int×Int))),(∀p∈its,SqT K H p.1 ((pl p.2).map V.int))->bO K H (its.map fun p=>V.ref p.1) ((its.map (·.2)).map pairD)
 |[],_=> .nil
 |p::its,h=> .cons (.tup (h p cV) (.cons (.int _) (.cons (.int _) .nil))) (yq its fun q hq=>h q (dF _ hq))
end lQ
namespace Hs
open PySem L2 lQ
theorem gQ(n:Nat):(cB n).Nodup:=by
 unfold cB List.Nodup;rw[zZ];exact List.nodup_range.imp fun h e=>h (by omega)
noncomputable def Bs(ts:L0)(b:List Int)(x:Int):Bool:= !decide (x∈b)&&V9 ts b x
theorem oA{b c:List Int}{j:Nat}(h:j<b.length):(b++c).getD j 0=b.getD j 0:=by
 rw[iU,ydf h,iU]
theorem getD_last{b:List Int}{x:Int}:(b++[x]).getD b.length 0=x:=by
 rw[iU,VD (aN _),Vs];rfl
theorem Ab.snoc{ts:L0}{n:Nat}{b:List Int}{x:Int}(h:Ab ts n b)(hx:0<=x/\x<(n:Int))(g:Bs ts b x=true):Ab ts n (b++[x]):=by
 unfold Bs at g;rw[jg]at g;obtain⟨g1,g2⟩:=g;have nx:x∉b:=fun z=>by rw[dB z]at g1;cases g1
 refine⟨?_,fun y hy=> ?_,fun j k hjk hk=> ?_⟩
 ·rw[List.nodup_append];refine⟨h.nd,by simp,fun y hy z hz e=>nx ?_⟩;rw[fO.mp hz]at e;rw[<-e];exact hy
 ·rcases pU.mp hy with z|z
  ·exact h.rg y z
  ·rw[fO.mp z];exact hx
 ·rw[g8,RN]at hk;by_cases e:k<b.length
  ·rw[oA (by omega),oA e];exact h.pr j k hjk e
  ·have e2:k=b.length:=by omega
   subst e2;rw[oA hjk,getD_last];exact eq_of_beq (j6.mp g2 j (lO.mpr hjk))
end Hs
namespace L2
open PySem PySem.Spec PyProof.Rows
section
variable{X:Cx}{o e:Expr}{es:List Expr}{to:TE}{t:TA}{name:Str}{apos cpos:Pos}{T id:String}{r:V->List V->Hp->VK->Prop}
theorem Te(K:W.Frag)(pa:PlainAttrs T)(slot:Slot T name id)(hty:typeOf (.builtin id)=pure (.type "method_descriptor"))(hm:MtR X id r)(ho:PE X o to)(ha:PA X (e::es) t)(hbase:attributeBase o name X.env (eval o X.env)=eval o X.env:=by rfl)(hfew:((backTo cpos (starEach (e::es) X.env)).all (fun x=> !x.1)&&(backToKw cpos (keywordEach [] X.env)).all (fun x=>x.1.isSome)
   &&decide ((e::es).length+([]:List Keyword).length+(if([]:List Keyword).isEmpty then 0 else 1)<30))=true:=by rfl)(hline:(apos.endLine==cpos.line)=true:=by rfl)(hs:starEach (e::es) X.env=(false,eval e X.env)::starEach es X.env:=by rfl)(hplain:(backTo cpos (starEach es X.env)).any (·.1)=false:=by rfl)(hK:X.K=K:=by rfl):
  PE X (.Call (.Attribute o name apos) (e::es) [] cpos) (tBM K T r to t):=by subst hK;exact pe_bm pa slot hty hm ho ha hbase hfew hline hs hplain
end
end L2
namespace Hs
open PySem L2 lQ
section
variable{P:ξ}{w:τ}{K:W.Frag}{mg:L4}{base:Heap}
noncomputable def ZR(a b:Addr)(H H':Hp):Prop:=∀x o,x≠a->x≠b->H x=some o->H' x=some o
theorem Fi(n:Nat):cR n=(cB n).map V.int:=by
 unfold cR cB;rw[tU];rfl
theorem Qd(l:List Int)(k:Nat):(l.map V.int).eraseIdx k=(l.eraseIdx k).map V.int:=by rw[ydk,ydk,bW,List.map_take,List.map_drop]
theorem Jz{l acc:List Int}{n k:Nat}{v:Int}(h:(acc++l).Perm (cB n))(hv:l[k]? =some v):((acc++[v])++l.eraseIdx k).Perm (cB n):=by
 have hk:k<l.length:=(lV.mp hv).1;have e:l=l.take k++v::l.drop (k+1):=by
  have z:=List.take_append_drop k l;rw[List.drop_eq_getElem_cons hk,(lV.mp hv).2]at z;exact z.symm
 have p:(v::l.eraseIdx k).Perm l:=by
  rw[ydk]
  conv=>rhs;rw[e]
  exact List.perm_middle.symm
 rw[HS];exact(List.Perm.append_left acc p).trans h
noncomputable def uY(K:W.Frag):Sp:=fun vs H Q _=>∃(cp bC:Addr) (ns:List Int) (n b:Int),vs=[.ref cp,.int n]/\cI K H cp bC ns b/\b<=900000000/\0<=n/\n<=10/\
 ∀(r:Addr) (xs:List Int) H',aF cp H H'->cI K H' cp bC ns (b+10)->SqT K H' r (xs.map V.int)->xs.Perm (cB n.toNat)->Q (.ref r) H'
theorem JR{f f1:Addr}{fd d1:ρ}(F:Fun K "_law_e_order" "_law_e_order" zda f fd)(D1:bQ K mg "_law_e_dip" Qv ["cup","many"] f1 d1)(G1:FnOk P w K mg base CX0 2 f1 d1 ["cup","many"] (rK K))(jy:mg "list"=none)(aB:mg "range"=none)(aX:mg "tuple"=none)(aK:mg "len"=none):
  FnOk P w K mg base CX0 3 f fd ["cup","n"] (uY K):=by
 refine F.dG ["cup","n","left"] fun cdv A outer s H vs Q E hr h=> ?_;obtain⟨cp,bC,ns,n,b,rfl,hC,hb,n0,n1,q⟩:=h;refine bw ?_;intro Y;refine⟨_,(aV (pS 2 (jw rfl rfl jy rfl aB (aj (pv 1) ao))) (bf (cD (pT Hi aX (aj (pK ["place"] ["left","cup"] [2,0] (wQ rfl aB (aj (pv 1) ao)) (pG 0) qz (Te K Hv PySem.F.slot_list_pop PySem.F.type_list_pop mt_popAt (pv 1) (aj (pc G1 hr D1 (aj (pv 2) (aj (pB (oK K) aK (aj (pv 1) ao)) ao))) ao))) ao))))),?_⟩;refine gU ?_;intro c2;refine⟨_,rfl,n,rfl,by omega,by omega,fun lf hlf=> ?_⟩;rw[Fi];obtain⟨zc,hzc⟩:=hC.lst;have nlc:lf≠cp:=dY hzc hlf;have s1:=aY hlf (.lst ((cB n.toNat).map V.int));have e1:(upd H lf (.lst ((cB n.toNat).map V.int))) lf=some (.lst ((cB n.toNat).map V.int)):=aJ;have c1:=hC.same s1;dsimp only at s1 e1 c1⊢;generalize upd H lf (.lst ((cB n.toNat).map V.int))=H1 at *;refine⟨_,rfl,n,rfl,by omega,by omega,?_⟩;let gO:Nat->List V->St->Hp->Prop:=fun k acc σ H'=>ZR cp lf H1 H'/\cI K H' cp bC ns (b+(k:Int))/\(∃xs l:List Int,acc=xs.map V.int/\H' lf=some (.lst (l.map V.int))/\(xs++l).Perm (cB n.toNat)/\xs.length=k)/\∃o,σ=[o,some (.ref lf),some (.ref cp)];refine CG (lo:=0) (n:=n.toNat) gO
  ⟨fun x o _ _ h=>h,c1.mono (by omega),⟨[],cB n.toNat,rfl,e1,List.Perm.refl _,rfl⟩,_,rfl⟩ (fun k acc σ H' _ p=> ?_) (by rw[eX];omega) (fun k acc σ H' hk p=> ?_) (fun acc σ H' p=> ?_)
 ·obtain⟨_,_,⟨xs,l,rfl,_,_,hx⟩,_⟩:=p;rw[aG,hx];exact aN _
 ·obtain⟨g,c,⟨xs,l,rfl,hl,hp,hx⟩,o,rfl⟩:=p;have hlen:xs.length+l.length=n.toNat:=by have:=hp.length_eq;rwa [g8,HF]at this
  obtain⟨z,hz⟩:=c.lst;refine⟨_,rfl,.inl ⟨rfl,_,SqL.of hl⟩,_,rfl,_,rfl,lf,_,rfl,.inl (SqL.of hl),fun _=> ?_⟩;rw[aG];refine⟨cp,bC,ns,_,_,rfl,c,by omega,by omega,by omega,fun d H2 d0 d1 x2 c2=> ?_⟩;have hd:d.toNat<l.length:=by omega
  have hl2:=x2 _ _ nlc hl;have hv:l[d.toNat]? =some l[d.toNat]:=eO hd;have si:seqIndex? d (l.map V.int).length=some d.toNat:=by
   rw[aG];exact(ixN_seq (by unfold ixN;rw[aA d0,aA (by omega)])).1
  refine⟨lf,_,d,d.toNat,.int l[d.toNat],rfl,rfl,hl2,by omega,by omega,si,by rw[cU,hv];rfl,?_⟩;have x3:aF lf H2 (upd H2 lf (.lst ((l.map V.int).eraseIdx d.toNat))):=(aF.refl _ _).upd;refine⟨fun x o a1 a2 h=>x3 _ _ a2 (x2 _ _ a1 (g _ _ a1 a2 h)),(c2.other x3 hl2 nlc.symm).mono (by omega),⟨xs++[l[d.toNat]],l.eraseIdx d.toNat,by rw[bW];rfl,by rw[aJ,Qd],Jz hp hv,by rw[g8,hx];rfl⟩,_,rfl⟩
 ·obtain⟨g,c,⟨xs,l,rfl,hl,hp,hx⟩,_⟩:=p;intro p1 hp1;have hlen:xs.length+l.length=n.toNat:=by have:=hp.length_eq;rwa [g8,HF]at this
  have el:l=[]:=List.length_eq_zero_iff.mp (by omega);rw[el,tL]at hp;have s2:=aY hp1 (.lst (xs.map V.int));refine⟨p1,_,rfl,.inl ⟨SqL.of aJ,fun t ht=> ?_⟩⟩;have s3:=aY ht (.tup (xs.map V.int));refine q t xs _ (fun x o a1 h=> ?_) (((c.same s2).same s3).mono (by omega)) (SqT.of aJ) hp;have a2:x≠lf:=fun z=>by rw[z,hlf]at h;cases h
  exact s3 _ _ (s2 _ _ (g _ _ a1 a2 (s1 _ _ h)))
noncomputable def u5(K:W.Frag):Sp:=fun vs H Q _=>∃(a o:Addr) (n:Int) (ts:L0) (xs:List Int),vs=[.ref a,.ref o]/\aZ K H a n ts/\SqT K H o (xs.map V.int)/\xs.Perm (cB n.toNat)/\
 ∀r us H',Same H H'->aZ K H' r n us->us.Perm (ts.map (mp xs))->Q (.ref r) H'
theorem JV{f:Addr}{fd:ρ}(F:Fun K "_law_e_moved" "_law_e_moved" zdb f fd)(iK:mg "min"=none)(yx:mg "max"=none)(aX:mg "tuple"=none)(fZ:mg "sorted"=none):
  FnOk P w K mg base CX0 1 f fd ["web","order"] (u5 K):=by
 refine F.dG ["web","order","ties","i","j"] fun cdv A outer s H vs Q E hr h=> ?_;obtain⟨a,o,n,ts,xs,rfl,hA,hX,hP,q⟩:=h;refine bw ?_;intro Y;refine⟨_,(aV (pS 2 (Ad ao)) (aV (ps_for Aa rfl (Cy (bA eG (pv 0) aL)) (pg_tup rfl (uq (pG 3) (uq (pG 4) pgs_nil))) (bf (qR (pe_bm Hv V3 V2 mt_append (pv 2) (aj (qu (aj (pB (call_min2 rfl) iK (aj (bA eG (pv 1) (pv 3)) (aj (bA eG (pv 1) (pv 4)) ao))) (aj (pB (call_max2 rfl) yx (aj (bA eG (pv 1) (pv 3)) (aj (bA eG (pv 1) (pv 4)) ao))) ao))) ao))))) (bf (cD (qu (aj (bA eG (pv 0) aL) (aj (pT Hi aX (aj (pB mV fZ (aj (pv 2) ao)) ao)) ao))))))),?_⟩;refine jA ?_;intro c3 c2;have h0:=hA.h0;have h1:=hA.h1;have en:((n.toNat:Nat):Int)=n:=by omega
 obtain⟨t0,rs,w1,w2,w3⟩:=hA.web;have hxl:xs.length=n.toNat:=by have:=hP.length_eq;rwa [HF]at this
 have hsub:Sub n.toNat xs:=⟨hP.nodup_iff.mpr (gQ _),fun i hi=>uT.mp (hP.mem_iff.mp hi)⟩;have YF:au ((n.toNat:Nat):Int) ts:=by rw[en];exact hA.pk
 have hlen':rs.length=ts.length:=by have:=w3.len;rwa [aG]at this
 have h45:=hA.len;refine⟨(by show 0<=sizeLine;decide),fun tl htl=> ?_⟩;have s1:=aY htl (.lst []);have e1:(upd H tl (.lst [])) tl=some (.lst []):=aJ;dsimp only at s1 e1⊢;generalize upd H tl (.lst [])=H1 at *;refine⟨_,rfl,a,_,_,.ref t0,rfl,rfl,s1.tup w1,rfl,t0,rs,rfl,s1.tup w2,fun hz=> ?_⟩;let gO:Nat->St->Hp->Prop:=fun idx σ H'=>Same H H'/\(∃fl,H' tl=some (.lst fl)/\bO K H' fl (((ts.take idx).map (mp xs)).map pairD)/\fl.length=idx)/\∃o3 o4,σ=[some (.ref a),some (.ref o),some (.ref tl),o3,o4];refine for_tup (xs:=rs) gO ⟨s1,⟨[],e1,.nil,rfl⟩,_,_,rfl⟩ (fun idx σ H' _ p=>p.1.tup w2) (fun idx x σ H' hx p=> ?_) (fun σ H' p=> ?_)
 ·obtain⟨s2,⟨fl,Wf,dv6,hfl⟩,o3,o4,rfl⟩:=p;obtain⟨u,hi,rfl,hu⟩:=qL w3 hx;have hidx:idx<rs.length:=(lV.mp hx).1;have hpi:ts[idx]? =some ts[idx]:=eO hi;have hmem:=zX hi;have hu2:=s2.tup hu;generalize ts[idx]=pr at *;obtain⟨p0,p1,p2⟩:=YF.lt pr hmem;obtain⟨v1,a1,g1⟩:=qP (ns:=xs) (k:=pr.1) p0 (by omega);obtain⟨v2,a2,g2⟩:=qP (ns:=xs) (k:=pr.2) (by omega) (by omega);have hc6:=s2.tup hX;refine⟨u,_,rfl,hu2,rfl,_,_,rfl,_,_,rfl,rfl,?_⟩;refine⟨_,rfl,.inl ⟨rfl,_,SqL.of Wf⟩,_,rfl,_,rfl,o,_,_,_,rfl,rfl,hc6,a1,_,rfl,_,rfl,o,_,_,_,rfl,rfl,hc6,a2,_,_,rfl,_,rfl,_,rfl,o,_,_,_,rfl,rfl,hc6,a1,_,rfl,_,rfl,o,_,_,_,rfl,rfl,hc6,a2,_,_,rfl,(by show 2<=sizeLine;decide),fun pn hpn=> ?_⟩;have sn:=aY hpn (.tup [.int (if v2<v1 then v2 else v1),.int (if v2>v1 then v2 else v1)]);refine⟨tl,fl,_,rfl,rfl,sn _ _ Wf,(by rw[hfl,eX];omega),?_⟩;have hnf:pn≠tl:=dY Wf hpn;have xw:aF tl (upd H' pn (.tup [.int (if v2<v1 then v2 else v1),.int (if v2>v1 then v2 else v1)])) (upd (upd H' pn (.tup [.int (if v2<v1 then v2 else v1),.int (if v2>v1 then v2 else v1)])) tl (.lst (fl++[.ref pn]))):=(aF.refl _ _).upd;refine⟨yd (s2.trans sn) htl xw,⟨fl++[.ref pn],aJ,?_,by simp[hfl]⟩,_,_,rfl⟩;have em:mp xs pr=(if v2<v1 then v2 else v1,if v2>v1 then v2 else v1):=by
   unfold mp;rw[iU,iU,g1,g2];rfl
  have ea:((ts.take (idx+1)).map (mp xs)).map pairD=((ts.take idx).map (mp xs)).map pairD++[pairD (if v2<v1 then v2 else v1,if v2>v1 then v2 else v1)]:=by
   rw[CN,hpi,<-em];simp
  rw[ea];refine(Vq xw (sn _ _ Wf) (bO.same sn dv6)).snoc (.tup (SqT.of ?_) (.cons (.int _) (.cons (.int _) .nil)));rw[cP hnf,aJ]
 ·obtain⟨s2,⟨fl,Wf,dv6,hfl⟩,o3,o4,rfl⟩:=p;rw[hlen',Ae]at dv6;have hq:=Yn hsub hxl YF;rw[en]at hq;have aav:=pairs_len hq (by omega);obtain⟨its,e1',e2,e3⟩:=Km dv6;have aaW:its.length<=45:=by rw[<-aG (f:=(·.2)),e2];exact aav
  refine⟨_,rfl,a,_,_,.int n,rfl,rfl,s2.tup w1,rfl,_,rfl,tl,its.map (fun p=>(p.1,pl p.2)),rfl,?_,?_,by rw[aG];omega,fun l1 its' hl1 hperm YC=> ?_⟩
  ·rw[tU];have:=SqL.of (K:=K) Wf;rw[e1']at this;exact this
  ·intro p hp;obtain⟨p',hp',rfl⟩:=fG.mp hp;exact⟨e3 p' hp',by unfold pl;simp⟩
  ·have s7:=aY hl1 (.lst (its'.map fun p=>V.ref p.1));refine⟨l1,_,rfl,.inl ⟨SqL.of aJ,fun t1 ht1=>⟨(by show 2<=sizeLine;decide),fun wb YB=> ?_⟩⟩⟩;have s8:=aY ht1 (.tup (its'.map fun p=>V.ref p.1));have s9:=aY YB (.tup [.int n,.ref t1]);have XR:=s7.trans (s8.trans s9);let un:List Int->Int×Int:=fun l=>(l.getD 0 0,l.getD 1 0);have back:∀p∈its',∃q∈its,p=(q.1,pl q.2):=fun p hp=>by
    obtain⟨q,hq,e⟩:=fG.mp (hperm.mem_iff.mp hp);exact⟨q,hq,e.symm⟩
   have pts:(its'.map fun p=>un p.2).Perm (ts.map (mp xs)):=by
    have h1:=hperm.map (fun p:Addr×List Int=>un p.2);rw[tU]at h1;have h2:its.map ((fun p:Addr×List Int=>un p.2)∘fun p=>(p.1,pl p.2))=ts.map (mp xs):=by rw[<-e2];rfl
    rw[h2]at h1;exact h1
   have pok:=hq.perm pts;have X7:(its'.map fun p=>un p.2).Pairwise fun p q=>HT.lexLt (pl q) (pl p)=false:=by
    rw[zZ];refine YC.imp_of_mem fun{x y} hx hy hxy=> ?_;obtain⟨qx,_,rfl⟩:=back x hx;obtain⟨qy,_,rfl⟩:=back y hy;exact hxy
   refine q wb (its'.map fun p=>un p.2) _ (s2.trans XR) ⟨⟨t1,its'.map (fun p=>V.ref p.1),SqT.of aJ,SqT.of (s9 _ _ aJ),?_⟩,h0,h1,pok,Ib h0 h1 pok X7⟩ pts;have h1:=yq (K:=K) (H:=upd (upd (upd H' l1 (.lst (its'.map fun p=>V.ref p.1))) t1 (.tup (its'.map fun p=>V.ref p.1))) wb (.tup [.int n,.ref t1])) (its'.map fun p=>(p.1,un p.2)) (fun p hp=>by
    obtain⟨p',hp',rfl⟩:=fG.mp hp;obtain⟨q',hq',rfl⟩:=back p' hp';exact XR.tup (e3 q' hq'))
   have h2:(its'.map fun p=>(p.1,un p.2)).map (fun p=>V.ref p.1)=its'.map fun p=>V.ref p.1:=by rw[tU];rfl
   have h3:(its'.map fun p=>(p.1,un p.2)).map (·.2)=its'.map fun p=>un p.2:=by rw[tU];rfl
   rw[h2,h3]at h1;exact h1
noncomputable def nG(n:Int)(ys:List Int)(i j:Int):Bool:=(ys.map PyData.int).any fun d=>PyData.eqv d (.int (if n-j+i<j-i then n-j+i else j-i))
noncomputable def TX(K:W.Frag)(H:Hp)(l:Addr)(R:L0):Prop:=∃rs:List V,H l=some (.lst rs)/\bO K H rs (R.map pairD)
theorem Dz(so:Int->Int->Bool)(i:Int)(k:Nat):(row so i k).Sublist (row tt i k):=by
 unfold row;have e:(((List.range k).map fun(t:Nat)=>(i,i+1+(t:Int))).filter fun p=>tt p.1 p.2)=(List.range k).map fun(t:Nat)=>(i,i+1+(t:Int)):=Xh.mpr fun _ _=>rfl;rw[e];exact yef
theorem lY(so:Int->Int->Bool)(m:Int):∀i:Nat,(rows so m i).Sublist (rows tt m i)
 |0=>List.Sublist.refl _
 |i+1=>by rw[Mz,Mz];exact(lY so m i).append (Dz so _ _)
noncomputable def Dl(K:W.Frag):Sp:=fun vs H Q _=>∃(cp bC:Addr) (ns:List Int) (n b:Int),vs=[.ref cp,.int n]/\cI K H cp bC ns b/\b<=800000000/\0<=n/\n<=10/\
 ∀r ts H',aF cp H H'->cI K H' cp bC ns (b+40)->aZ K H' r n ts->(∃ys xs:List Int,xs.Perm (cB n.toNat)/\ts.Perm ((rows (nG n ys) n n.toNat).map (mp xs)))->Q (.ref r) H'
theorem JM{f f1 f2 f3:Addr}{fd d1 d2 d3:ρ}(F:Fun K "_law_e_round_web" "_law_e_round_web" zcj f fd)(D1:bQ K mg "_law_e_dip" Qv ["cup","many"] f1 d1)(G1:FnOk P w K mg base CX0 2 f1 d1 ["cup","many"] (rK K))(D2:bQ K mg "_law_e_moved" zdb ["web","order"] f2 d2)(G2:FnOk P w K mg base CX0 1 f2 d2 ["web","order"] (u5 K))(D3:bQ K mg "_law_e_order" zda ["cup","n"] f3 d3)(G3:FnOk P w K mg base CX0 3 f3 d3 ["cup","n"] (uY K))(aB:mg "range"=none)(iK:mg "min"=none)(aX:mg "tuple"=none):
  FnOk P w K mg base CX0 4 f fd ["cup","n"] (Dl K):=by
 refine F.dG ["cup","n","far","ties","i","j"] fun cdv A outer s H vs Q E hr h=> ?_;obtain⟨cp,bC,ns,n,b,rfl,hC,hb,n0,n1,q⟩:=h;refine bw ?_;intro Y;refine⟨_,(aV (pX 2 ["step"] ["cup"] [0] (pi_range2 rfl aB (aj aL (aj (cu pQ (cu op_fdiv (pv 1) aL) aL) ao))) (pG 0) (HD (dW op_eq (pc G1 hr D1 (aj (pv 1) (aj aL ao))) aL)) (pv 0)) (aV (pS 3 (Ad ao)) (aV (ps_for Aa rfl (wQ rfl aB (aj (pv 1) ao)) (pG 4) (bf (ps_for Aa rfl (pi_range2 rfl aB (aj (cu pQ (pv 4) aL) (aj (pv 1) ao))) (pG 5) (bf (gZ (dW (nT hr.units) (pB (call_min2 rfl) iK (aj (cu op_sub (pv 5) (pv 4)) (aj (cu pQ (cu op_sub (pv 1) (pv 5)) (pv 4)) ao))) (pv 2) (by with_unfolding_all rfl)) (bf (qR (pe_bm Hv V3 V2 mt_append (pv 3) (aj (qu (aj (pv 4) (aj (pv 5) ao))) ao)))) iJ))))) (bf (cD (pc G2 hr D2 (aj (qu (aj (pv 1) (aj (pT Hi aX (aj (pv 3) ao)) ao))) (aj (pc G3 hr D3 (aj (pv 0) (aj (pv 1) ao))) ao)))))))),?_⟩;refine yP ?_;intro c4 c3 c2;obtain⟨zc,hzc⟩:=hC.lst;refine⟨_,rfl,_,_,rfl,rfl,⟨by decide,by decide⟩,_,_,rfl,rfl,_,_,rfl,⟨by decide,by decide,by omega,by omega⟩,?_⟩;let sZ:Nat->List V->St->Hp->Prop:=fun k acc σ H'=>aF cp H H'/\cI K H' cp bC ns (b+(k:Int))/\(∃ys:List Int,acc=ys.map V.int/\ys.length<=k)/\∃o,σ=[o,some (.ref cp)];refine CG (lo:=1) (n:=(n/2+1-1).toNat) sZ ⟨aF.refl _ _,hC.mono (by omega),⟨[],rfl,aN _⟩,_,rfl⟩ (fun k acc σ H' _ p=> ?_) (by rw[eX];omega) (fun k acc σ H' hk p=> ?_) (fun acc σ H' p=> ?_)
 ·obtain⟨_,_,⟨ys,rfl,hy⟩,_⟩:=p;rw[aG];exact hy
 ·obtain⟨x,c,⟨ys,rfl,hy⟩,o,rfl⟩:=p;refine⟨_,rfl,cp,bC,ns,2,_,rfl,c,by omega,by decide,by decide,fun d H2 d0 d1 x2 c2=>⟨rfl,_,rfl,?_⟩⟩;refine ite2 (fun e=> ?_) (fun e=> ?_)
  ·exact⟨_,rfl,x.trans x2,c2.mono (by omega),⟨ys++[1+(k:Int)],by rw[bW];rfl,by rw[g8];show _+1<=_;omega⟩,_,rfl⟩
  ·exact⟨x.trans x2,c2.mono (by omega),⟨ys,rfl,by omega⟩,_,rfl⟩
 ·obtain⟨x,c,⟨ys,rfl,hy⟩,_⟩:=p;intro fa hfa;obtain⟨z0,hz0⟩:=c.lst;have nfc:fa≠cp:=dY hz0 hfa;have fa0:H fa=none:=x.free nfc hfa;have s1:=aY hfa (.lst (ys.map V.int));have e1:(upd H' fa (.lst (ys.map V.int))) fa=some (.lst (ys.map V.int)):=aJ;have x1:=x.trans (s1.x cp);have c1:=c.same s1;dsimp only at s1 e1 x1 c1⊢;generalize upd H' fa (.lst (ys.map V.int))=H1 at *;refine⟨(by show 0<=sizeLine;decide),fun tl htl=> ?_⟩;have ntf:tl≠fa:=dY e1 htl;obtain⟨z1,hz1⟩:=c1.lst;have Wa:tl≠cp:=dY hz1 htl;have tl0:H tl=none:=x1.free Wa htl;have s2:=aY htl (.lst []);have c2:=c1.same s2;have e2:=s2 _ _ e1;have x2:=x1.trans (s2.x cp);have T2:TX K (upd H1 tl (.lst [])) tl (rows (nG n ys) n 0):=⟨[],aJ,.nil⟩;dsimp only at c2 e2 x2 T2⊢;generalize upd H1 tl (.lst [])=H2 at *;refine⟨_,rfl,n,rfl,by omega,by omega,?_⟩;let Qn:Nat->St->Hp->Prop:=fun i σ H'=>aF cp H H'/\cI K H' cp bC ns (b+20)/\H' fa=some (.lst (ys.map V.int))/\TX K H' tl (rows (nG n ys) n i)/\∃a4 a5,σ=[some (.ref cp),some (.int n),some (.ref fa),some (.ref tl),a4,a5];refine Mx (n:=n.toNat) Qn
   ⟨x2,c2.mono (by omega),e2,T2,_,_,rfl⟩ (fun i σ H3 hi p=> ?_) (fun σ H3 p=> ?_)
  ·obtain⟨x3,c3,e3,T3,a4,a5,rfl⟩:=p;refine⟨_,rfl,_,_,rfl,rfl,_,rfl,_,_,rfl,⟨by omega,by omega,by omega,by omega⟩,?_⟩;let ZS:Nat->St->Hp->Prop:=fun k σ H'=>aF cp H H'/\cI K H' cp bC ns (b+20)/\H' fa=some (.lst (ys.map V.int))/\TX K H' tl (rows (nG n ys) n i++row (nG n ys) (0+(i:Int)) k)/\∃a5,σ=[some (.ref cp),some (.int n),some (.ref fa),some (.ref tl),some (.int (0+(i:Int))),a5];refine Mx (n:=(n-(0+(i:Int)+1)).toNat) ZS
    ⟨x3,c3,e3,by rw[show row (nG n ys) (0+(i:Int)) 0=[]from rfl,tL];exact T3,_,rfl⟩ (fun k σ H4 hk p=> ?_) (fun σ H4 p=> ?_)
   ·obtain⟨x4,c4,e4,T4,a5,rfl⟩:=p;have er:nG n ys (0+(i:Int)) (0+(i:Int)+1+(k:Int))=true->rows (nG n ys) n i++row (nG n ys) (0+(i:Int)) (k+1)=(rows (nG n ys) n i++row (nG n ys) (0+(i:Int)) k)++[(0+(i:Int),0+(i:Int)+1+(k:Int))]:=fun z=>by rw[lZ,aA z,HS]
    have ef:nG n ys (0+(i:Int)) (0+(i:Int)+1+(k:Int))=false->rows (nG n ys) n i++row (nG n ys) (0+(i:Int)) (k+1)=rows (nG n ys) n i++row (nG n ys) (0+(i:Int)) k:=fun z=>by rw[lZ,aq (by rw[z];decide),tL]
    refine⟨_,rfl,_,rfl,_,_,rfl,rfl,_,rfl,_,rfl,_,_,rfl,rfl,_,rfl,_,_,rfl,rfl,_,_,rfl,?_⟩;refine⟨_,rfl,fa,_,ys.map PyData.int,.int _,rfl,.inl (SqL.of e4),bO.ints ys,.int _,qC ys,rfl,(by show 0<=60;decide),_,rfl,?_⟩;refine ite2 (fun c=> ?_) (fun c=> ?_)
    ·obtain⟨rs,h1,h2⟩:=T4;have hl:=sub_len n1 (by omega) ((lY (nG n ys) n i).append (Dz (nG n ys) (0+(i:Int)) k));have hrl:rs.length=(rows (nG n ys) n i++row (nG n ys) (0+(i:Int)) k).length:=by have:=h2.len;rwa [aG]at this
     refine⟨_,rfl,.inl ⟨rfl,_,SqL.of h1⟩,_,rfl,_,rfl,(by show 2<=sizeLine;decide),fun p hp=> ?_⟩;have s5:=aY hp (.tup [.int (0+(i:Int)),.int (0+(i:Int)+1+(k:Int))]);have h1':=s5 _ _ h1;refine⟨tl,rs,_,rfl,rfl,h1',by rw[hrl,eX];omega,?_⟩;have x6:aF tl (upd H4 p (.tup [.int (0+(i:Int)),.int (0+(i:Int)+1+(k:Int))])) (upd (upd H4 p (.tup [.int (0+(i:Int)),.int (0+(i:Int)+1+(k:Int))])) tl (.lst (rs++[.ref p]))):=(aF.refl _ _).upd;refine⟨fun y o a1 h=> ?_,(c4.same s5).other x6 h1' Wa.symm,x6 _ _ ntf.symm (s5 _ _ e4),?_,_,rfl⟩
     ·have a2:y≠tl:=fun z=>by rw[z,tl0]at h;cases h
      exact x6 _ _ a2 (s5 _ _ (x4 _ _ a1 h))
     ·rw[er c];refine⟨_,aJ,?_⟩;rw[bW];exact(Vq x6 h1' (h2.same s5)).append (.cons (.tup (x6.tup h1' (SqT.of aJ)) (.cons (.int _) (.cons (.int _) .nil))) .nil)
    ·exact⟨x4,c4,e4,by rw[ef (by first |exact c|exact Bool.eq_false_iff.mpr c)];exact T4,_,rfl⟩
   ·obtain⟨x4,c4,e4,T4,a5,rfl⟩:=p;refine⟨x4,c4,e4,?_,_,_,rfl⟩;rw[Mz];exact T4
  ·obtain⟨x3,c3,e3,⟨rs,h1,h2⟩,a4,a5,rfl⟩:=p;have hw:=j8 n0 n1 (lY (nG n ys) n n.toNat);refine⟨_,rfl,_,rfl,tl,_,rfl,.inl ⟨SqL.of h1,fun tt' htt=> ?_⟩⟩;have s4:=aY htt (.tup rs);refine⟨(by show 2<=sizeLine;decide),fun wb YB=> ?_⟩;have s5:=aY YB (.tup [.int n,.ref tt']);have W:aZ K _ wb n (rows (nG n ys) n n.toNat):=⟨⟨tt',rs,SqT.of aJ,s5.tup (SqT.of aJ),(h2.same s4).same s5⟩,n0,n1,hw.1,hw.2⟩;have c5:=(c3.same s4).same s5;obtain⟨z5,hz5⟩:=c5.lst;refine⟨_,rfl,_,rfl,cp,bC,ns,n,_,rfl,c5,by omega,n0,n1,fun r xs H6 x6 c6 hr hp=> ?_⟩;refine⟨wb,r,n,_,xs,rfl,W.bL x6 hz5,hr,hp,fun r2 us H7 s7 W7 pm=> ?_⟩;exact q r2 us H7 (((x3.trans (s4.x _)).trans (s5.x _)).trans (x6.trans (s7.x _))) ((c6.same s7).mono (by omega)) W7 ⟨ys,xs,hp,pm⟩
end
theorem eq_of_sorted:∀{l m:L0},l.Pairwise sI->m.Pairwise sI->(∀p,p∈l↔p∈m)->l=m
 |[],[],_,_,_=>rfl
 |[],q::m,_,_,h=>absurd ((h q).mpr (cV ..)) (by simp)
 |p::l,[],_,_,h=>absurd ((h p).mp (cV ..)) (by simp)
 |p::l,q::m,hl,hm,h=>by
  rw[Xg]at hl hm;have e:p=q:=by
   rcases cQ.mp ((h p).mp (cV ..))with e|e
   ·exact e
   rcases cQ.mp ((h q).mpr (cV ..))with e'|e'
   ·exact e'.symm
   exact(sI.Ms ((hl.1 _ e').trans (hm.1 _ e))).elim
  subst e;have:l=m:=eq_of_sorted hl.2 hm.2 (fun r=>by
   have hr:=h r;rw[cQ,cQ]at hr;constructor
   ·intro hi;rcases hr.mp (.inr hi)with e|e
    ·subst e;exact(sI.Ms (hl.1 _ hi)).elim
    ·exact e
   ·intro hi;rcases hr.mpr (.inr hi)with e|e
    ·subst e;exact(sI.Ms (hm.1 _ hi)).elim
    ·exact e)
  rw[this]
theorem xU{so:Int->Int->Bool}{m:Int}{i:Nat}:(rows tt m i).filter (fun p=>so p.1 p.2)=rows so m i:=by
 refine eq_of_sorted ((Vr _ _ _).filter _) (Vr _ _ _) fun p=> ?_;rw[dO,dZ,dZ];constructor
 ·rintro⟨⟨a,b,c,d,_⟩,e⟩;exact⟨a,b,c,d,e⟩
 ·rintro⟨a,b,c,d,e⟩;exact⟨⟨a,b,c,d,rfl⟩,e⟩
theorem zj{so:Int×Int->Bool}{ps:L0}{i:Nat}(hi:i<ps.length):(ps.take (i+1)).filter so=(ps.take i).filter so++(if so ps[i]=true then[ps[i]]else[]):=by
 rw[CN,eO hi,Mh];congr 1;show List.filter so [ps[i]]=_;rw[qT];rfl
noncomputable def xQ(ts:L0)(i j:Int):Bool:= !decide ((i,j)∈ts)
section
variable{P:ξ}{w:τ}{K:W.Frag}{mg:L4}{base:Heap}
noncomputable def Dm(K:W.Frag):Sp:=fun vs H Q _=>∃(a:Addr) (n:Int) (ts:L0),vs=[.ref a]/\aZ K H a n ts/\∀r H',Same H H'->mY K H' r n (rows (xQ ts) n n.toNat)->Q (.ref r) H'
theorem JQ{f f1 f3:Addr}{fd d1 d3:ρ}(F:Fun K "other_web" "other_web" jk f fd)(D1:bQ K mg "need_web" HN ["thing"] f1 d1)(G1:FnOk P w K mg base CX0 7 f1 d1 ["thing"] (cA K))(D3:bQ K mg "pairs" vq ["n"] f3 d3)(G3:FnOk P w K mg base CX0 1 f3 d3 ["n"] (Je K))(mT:mg "tuple"=none):
  FnOk P w K mg base CX0 8 f fd ["web"] (Dm K):=by
 refine F.dG ["web"] fun cdv A outer s H vs Q E hr h=> ?_;obtain⟨a,n,ts,rfl,hA,q⟩:=h;refine⟨_,aV (qR (pc G1 hr D1 (aj (pv 0) ao))) (bf (cD (qu (aj (bA eG (pv 0) aL) (aj (pT Hi mT (aj
   (pK ["tie"] ["web"] [0] (Mw (pc G3 hr D3 (aj (bA eG (pv 0) aL) ao))) (pG 0) (HD (dW (Bd K hr.units) (pv 0) (bA (dU K) (pv 1) aL) (by with_unfolding_all rfl))) (pv 0)) ao)) ao))))),?_⟩
 refine⟨_,rfl,_,_,rfl,hA.web.dv.dx,hA.ok,fun H1 s1=> ?_⟩;obtain⟨ta,ra,a1,a2,a3⟩:=id (hA.same s1).web;have hA0:=hA.h0;have hA1:=hA.h1;refine⟨_,rfl,a,_,_,.int n,rfl,rfl,a1,rfl,?_⟩;refine⟨_,rfl,a,_,_,.int n,rfl,rfl,a1,rfl,n,rfl,hA0,hA1,fun l H3 s3 p1=> ?_⟩;obtain⟨rs,e1,v1⟩:=p1.ex;refine⟨l,rs,rfl,SqL.of e1,fun hz=> ?_⟩;have hlen:=v1.len;rw[aG]at hlen;have tO:=s1.trans s3;refine Qt (xs:=rs) (fun i acc σ H'=>Same H3 H'/\acc.length<=i/\bO K H' acc (((rows tt n n.toNat).take i).filter (fun p=>xQ ts p.1 p.2)|>.map pairD)/\∃o,σ=[o,some (.ref a)]) ⟨Same.refl _,aN _,.nil,_,rfl⟩ (fun i acc σ H' _ p=>p.1.seq (SqL.of e1)) (fun i acc σ H' hi p=>p.2.1) hz (fun i x acc σ H' hx p=> ?_) (fun acc σ H' p=> ?_)
 ·obtain⟨sm,hl,hd,o,rfl⟩:=p;obtain⟨t,hi,rfl,ht⟩:=qL v1 hx;have sA:=s3.trans sm;have hp:DV K H' (.ref t) (pairD (rows tt n n.toNat)[i]):= .tup (sm.tup ht) (.cons (.int _) (.cons (.int _) .nil));refine⟨_,rfl,_,rfl,a,_,_,.ref ta,rfl,rfl,sA.tup a1,rfl,ta,ra,_,_,rfl,.inr (sA.tup a2),a3.same sA,hp,ou ts,rfl,(by show max 0 (max 0 0)+1<=60;decide),_,rfl,?_⟩;rw[zM,zj hi];refine ite2 (fun c=> ?_) (fun c=> ?_)
  ·refine⟨_,rfl,sm,by rw[g8];show acc.length+1<=i+1;omega,?_,_,rfl⟩;rw[aA (show xQ ts (rows tt n n.toNat)[i].fst (rows tt n n.toNat)[i].snd=true from c),bW];exact hd.append (.cons hp .nil)
  ·refine⟨sm,by omega,?_,_,rfl⟩;rw[aq (show¬xQ ts (rows tt n n.toNat)[i].fst (rows tt n n.toNat)[i].snd=true from c),tL];exact hd
 ·intro p1 hp1;obtain⟨sm,hl,hd,_⟩:=p;rw[hlen,Ae,xU]at hd;have s5:=aY hp1 (.lst acc);refine⟨p1,_,rfl,.inl ⟨SqL.of aJ,fun t ht=> ?_⟩⟩;have s6:=aY ht (.tup acc);refine⟨(by show 2<=sizeLine;decide),fun r hr'=> ?_⟩;have s7:=aY hr' (.tup [.int n,.ref t]);exact q r _ (tO.trans (sm.trans (s5.trans (s6.trans s7)))) ⟨t,acc,SqT.of aJ,SqT.of (s7 _ _ aJ),hd.same (s5.trans (s6.trans s7))⟩
noncomputable def Jc(K:W.Frag):Sp:=fun vs H Q _=>∃(cp bC:Addr) (ns:List Int) (m b:Int),vs=[.ref cp,.int m]/\cI K H cp bC ns b/\b<=800000000/\0<=m/\m<=10/\
 ∀r n ts H',aF cp H H'->cI K H' cp bC ns (b+121)->aZ K H' r n ts->n<=m->Q (.ref r) H'
theorem Oo{f f1 f2:Addr}{fd d1 d2:ρ}(F:Fun K "_law_e_web" "_law_e_web" jm f fd)(D1:bQ K mg "_law_e_dip" Qv ["cup","many"] f1 d1)(G1:FnOk P w K mg base CX0 2 f1 d1 ["cup","many"] (rK K))(D2:bQ K mg "_law_e_web_of" fU ["cup","n"] f2 d2)(G2:FnOk P w K mg base CX0 3 f2 d2 ["cup","n"] (Dh K)):
  FnOk P w K mg base CX0 4 f fd ["cup","most"] (Jc K):=by
 refine F.dG ["cup","most","n"] fun cdv A outer s H vs Q E hr h=> ?_;obtain⟨cp,bC,ns,m,b,rfl,hC,hb,hm0,hm1,q⟩:=h;refine bw ?_;intro Y;refine⟨_,(aV (pS 2 (pc G1 hr D1 (aj (pv 0) (aj (cu pQ (pv 1) aL) ao)))) (bf (cD (pc G2 hr D2 (aj (pv 0) (aj (pv 2) ao)))))),?_⟩;refine gU ?_;intro c2;refine⟨_,rfl,_,rfl,_,_,rfl,rfl,cp,bC,ns,_,b,rfl,hC,by omega,by omega,by omega,fun o H1 ho0 ho1 x1 c1=> ?_⟩;refine⟨_,rfl,_,rfl,cp,bC,ns,o,b+1,rfl,c1,by omega,ho0,by omega,fun r ts H2 x2 c2 W=>q r o ts H2 (x1.trans x2) (c2.mono (by omega)) W (by omega)⟩
end
noncomputable def frS(D:Nat):List (Int×Nat)->Int
 |[]=>0
 |f::fs=>f.1*((D/f.2:Nat):Int)+frS D fs
theorem Kd{a:Int}{D:Nat}(hD:0<D):(bR a D).2∣D:=⟨Nat.gcd a.natAbs D,(Nat.div_mul_cancel (wel _ _)).symm⟩
theorem Kc{a:Int}{D:Nat}(hD:0<D):(bR a D).1*((D/(bR a D).2:Nat):Int)=a:=by
 have l:=Ma a hD;have e:=l.eq;have hv:=l.pos;obtain⟨c,hc⟩:=Kd (a:=a) hD;generalize (bR a D).1=u at *;generalize (bR a D).2=v at *;have:D/v=c:=by rw[hc];exact wet _ hv
 rw[this];rw[hc]at e
 push_cast at e
 refine Xm (a:=(v:Int)) (by omega) ?_
 grind
theorem vC{D:Nat}{X:Nat->Int}(hD:0<D):∀xs:List Int,frS D (xs.map fun x=>bR (X x.toNat) D)=(xs.map fun x=>X x.toNat).sum
 |[]=>rfl
 |x::xs=>by
  show _*_+frS D (xs.map _)=_;rw[vC hD xs,Kc hD];rfl
theorem jJ{n:Nat}{X:Nat->Int}:∀{xs:List Int},xs.Nodup->(∀x∈xs,0<=x/\x<(n:Int))->(xs.map fun x=>X x.toNat).sum=Sx.sm n fun p=>if decide (((p:Nat):Int)∈xs)=true then X p else 0
 |[],_,_=>(Sx.cW n fun i _=>by simp).symm
 |x::xs,nd,hb=>by
  obtain⟨nx,nd'⟩:=ur.mp nd;have hx:=hb x cV;have ih:=jJ (X:=X) nd' fun y hy=>hb y (dF _ hy);show X x.toNat+(xs.map fun x=>X x.toNat).sum=_;rw[ih];have e1:Sx.sm n (fun p=>if p=x.toNat then X p else 0)=X x.toNat:=by
   rw[Sx.cX (j:=x.toNat) n (by omega) fun i _ hi=>aq hi,aA rfl]
  rw[<-e1,<-Sx.ji];refine Sx.aO n fun p hp=> ?_;by_cases h:p=x.toNat
  ·have h1:((p:Nat):Int)=x:=by omega
   rw[aA h,aq (by rw[h1];simpa using nx),aA (by rw[h1];simp)];omega
  ·have h1:((p:Nat):Int)≠x:=by omega
   rw[aq h];have:decide (((p:Nat):Int)∈x::xs)=decide (((p:Nat):Int)∈xs):=by
    refine decide_eq_decide.mpr ⟨fun z=> ?_,dF _⟩;rcases cQ.mp z with z|z
    ·exact absurd z h1
    ·exact z
   rw[this];omega
theorem Dv{f g:Nat->Int}:∀k,(∀i,i<k->f i<=g i)->Sx.sm k f<=Sx.sm k g
 |0,_=>tR _
 |k+1,h=>Int.add_le_add (Dv k fun i hi=>h i (by omega)) (h k (by omega))
theorem zL{n:Nat}{ts:L0}{ss:List (List Int)}{wl:List Int}{ov:Nat}{Z:Int}{Y X:Nat->Int}(hS:bh ss ts false n)(h:Sh n ss wl ov Z Y X){xs:List Int}(hk:jc ts false n xs):
  frS ov (xs.map fun x=>bR (X x.toNat) ov)<=1*(ov:Int):=by
 have nd:xs.Nodup:=hk.up.imp fun h e=>by omega
 rw[vC h.pos,jJ nd hk.lt,Hj];obtain⟨t,ht,hx⟩:=sU hk;obtain⟨k,hk',rfl⟩:=Ez (hS.1.mem_iff.mpr ht);refine Qz (Dv n fun p hp=> ?_) (h.lig k hk');have hxn:=h.xn p;by_cases c:decide (((p:Nat):Int)∈xs)=true
 ·rw[aA c,aA]
  ·exact tR _
  ·unfold dI;rw[iU,eO hk'];exact dB (hx _ (j9 c))
 ·rw[aq c];split
  ·exact hxn
  ·exact tR _
theorem jK:∀l:List Int,PyData.depthAll (l.map PyData.int)<=1
 |[]=>by decide
 |x::l=>by
  have:=jK l;show max _ (PyData.depthAll (l.map PyData.int))<=1;exact Nat.max_le.mpr ⟨by show 0<=1;decide,this⟩
theorem Gj{u u':Int}{v v':Nat}(hv:0<v)(c1:Nat.gcd u.natAbs v=1)(c2:Nat.gcd u'.natAbs v'=1)(cr:u*(v':Int)=u'*(v:Int)):u=u'/\v=v':=by
 have cn:u.natAbs*v'=u'.natAbs*v:=by
  have:=gq Int.natAbs cr
  rwa [WW,WW,Xf,Xf]at this
 have d1:v∣v':=(wcz c1).dvd_of_dvd_mul_left (by rw[cn];exact wcy _ _);have d2:v'∣v:=(wcz c2).dvd_of_dvd_mul_left (by rw[<-cn];exact wcy _ _);have ev:=Nat.dvd_antisymm d1 d2;subst ev;exact⟨Xm (a:=(v:Int)) (by omega) cr,rfl⟩
theorem oE(xs ys:List Int):PyData.eqv (.tuple (xs.map PyData.int)) (.tuple (ys.map PyData.int))=decide (xs=ys):=by
 have:∀(xs ys:List Int),PyData.eqvAll (xs.map PyData.int) (ys.map PyData.int)=decide (xs=ys):=by
  intro xs
  induction xs with
  |nil=>intro ys;cases ys<;>simp[PyData.eqvAll]
  |cons x xs ih=>intro ys;cases ys with
   |nil=>simp[PyData.eqvAll]
   |cons y ys=>
    have e:(x==y)=decide (x=y):=by rw[pY];simp
    simp[PyData.eqvAll,PyData.eqv,ih,e]
 simp[PyData.eqv,this]
theorem zx(l m:List Int):min (PyData.tuple (l.map PyData.int)).depth (PyData.tuple (m.map PyData.int)).depth<=64:=by
 have:=jK l;have e:(PyData.tuple (l.map PyData.int)).depth=PyData.depthAll (l.map PyData.int)+1:=rfl;rw[e];omega
theorem Dw{n:Nat}{ts:L0}{ss:List (List Int)}(hS:bh ss ts false n){s:List Int}(h:s∈ss):jc ts false n s:=jj n s (dO.mp (hS.1.mem_iff.mp h)).1
theorem Bw{n:Nat}{ts:L0}{ss':List (List Int)}{wl:List Int}{ov ov':Nat}{Z':Int}{X Y' X':Nat->Int}(hx:∀p,0<=X p)(hl:∀xs,jc ts false n xs->(xs.map fun x=>X x.toNat).sum<=(ov:Int))(hS':bh ss' ts false n)(h':Sh n ss' wl ov' Z' Y' X'):(Sx.sm n fun p=>nM wl p*X p)*(ov':Int)<=Z'*(ov:Int):=by
 have lig:∀k,k<ss'.length->(Sx.sm n fun p=>if dI ss' k p=true then X p else 0)<=(ov:Int):=fun k hk=>by
  have hK:=Dw hS' (zX hk);have e:=hl _ hK;rw[jJ (n:=n) (hK.up.imp fun{a b} h=>by omega) hK.lt]at e;have:∀p,dI ss' k p=decide (((p:Nat):Int)∈ss'[k]):=fun p=>by
   unfold dI;rw[iU,eO hk];rfl
  simp only[this];exact e
 have a1:(Sx.sm n fun p=>nM wl p*X p)*(ov':Int)=Sx.sm n fun p=>(ov':Int)*(nM wl p*X p):=by rw[Sx.cY,Ey]
 have a2:(Sx.sm n fun p=>(ov':Int)*(nM wl p*X p))<=Sx.sm n fun p=>Sx.sm ss'.length fun k=>X p*(if dI ss' k p=true then Y' k else 0):=by
  refine Dv n fun p hp=> ?_;rw[Sx.cY];have:=MP (h'.eno p hp) (hx p);have x:(ov':Int)*(nM wl p*X p)=X p*((ov':Int)*nM wl p):=by grind
  rw[x];exact this
 have a3:=Sx.qI (fun p k=>X p*(if dI ss' k p=true then Y' k else 0)) ss'.length n;have a4:(Sx.sm ss'.length fun k=>Sx.sm n fun p=>X p*(if dI ss' k p=true then Y' k else 0))<=Sx.sm ss'.length fun k=>(ov:Int)*Y' k:=by
  refine Dv _ fun k hk=> ?_;have e:(Sx.sm n fun p=>X p*(if dI ss' k p=true then Y' k else 0))=Sx.sm n fun p=>Y' k*(if dI ss' k p=true then X p else 0):=Sx.aO n fun p _=>by split<;>grind
  rw[e,Sx.cY];have:=MP (lig k hk) (h'.yn k);rw[Ey (ov:Int)];exact this
 have a5:(Sx.sm ss'.length fun k=>(ov:Int)*Y' k)=Z'*(ov:Int):=by rw[Sx.cY,h'.tot,Ey]
 rw[a1];refine Qz a2 ?_;rw[a3];refine Qz a4 ?_;rw[a5];exact tR _
noncomputable def fc:Nat->Nat
 |0=>1
 |m+1=>(m+1)*fc m
theorem sub_le:∀{l m:List Int},l.Nodup->(∀x∈l,x∈m)->l.length<=m.length
 |[],m,_,_=>dw _
 |y::l,m,nd,hs=>by
  obtain⟨ny,nd'⟩:=ur.mp nd;have my:y∈m:=hs y cV;have:=sub_le (l:=l) (m:=m.erase y) nd' fun z hz=>(wdb (fun q=>ny (by rw[<-q];exact hz))).mpr (hs z (dF _ hz));rw[wcb my]at this;have:=VB my;rw[pW];omega
theorem SQ(n:Nat):(cB n).Nodup:=zZ.mpr (Vz.imp fun h=>by omega)
theorem Eo{α β:Type}{f:α->List β}{k:Nat}:∀{l:List α},(∀x∈l,(f x).length<=k)->(l.flatMap f).length<=l.length*k
 |[],_=>by simp
 |x::l,h=>by
  have a:=h x cV;have b:=Eo (f:=f) (l:=l) fun y hy=>h y (dF _ hy);rw[wcr,g8,pW,Nat.add_mul];omega
theorem zB(ts:L0)(n:Nat):∀(m:Nat) (b:List Int),b.Nodup->(∀x∈b,x∈cB n)->b.length+m=n->(bH (iY ts) n m b).length<=fc m
 |0,b,_,_,_=>aN _
 |m+1,b,nd,hb,hl=>by
  have hg:∀x,iY ts b x=true->x∉b:=fun x hx=>by
   unfold iY at hx;rw[jg,jg,wcq,wbs]at hx;exact hx.1.1
  have len:((cB n).filter (iY ts b)).length+b.length<=n:=by
   have nd2:((cB n).filter (iY ts b)++b).Nodup:=List.nodup_append.mpr ⟨(SQ n).filter _,nd,fun x hx y hy e=>hg x (dO.mp hx).2 (by rw[e];exact hy)⟩;have:=sub_le nd2 (m:=cB n) fun x hx=>by
    rcases pU.mp hx with z|z
    ·exact(dO.mp z).1
    ·exact hb x z
   rw[g8,HF]at this;exact this
  have each:∀x∈(cB n).filter (iY ts b),(bH (iY ts) n m (b++[x])).length<=fc m:=fun x hx=>by
   obtain⟨h1,h2⟩:=dO.mp hx;refine zB ts n m (b++[x]) (List.nodup_append.mpr ⟨nd,RP _ _,fun y hy z hz e=> ?_⟩) (fun y hy=> ?_) ?_
   ·rw[fO.mp hz]at e;exact hg x h2 (by rw[<-e];exact hy)
   ·rcases pU.mp hy with z|z
    ·exact hb y z
    ·rw[fO.mp z];exact h1
   ·rw[g8,RN];omega
  show(((cB n).filter (iY ts b)).flatMap fun x=>bH (iY ts) n m (b++[x])).length<=(m+1)*fc m;exact eN (Eo each) (yeb _ (by omega))
theorem compl_720(ts:L0){n:Nat}(h:n<=6):(bH (iY ts) n n []).length<=720:=by
 have a:=zB ts n n [] .nil (fun x hx=>(nomatch hx)) (by simp);have:fc n<=720:=by
  have:n=0\/n=1\/n=2\/n=3\/n=4\/n=5\/n=6:=by omega
  rcases this with z|z|z|z|z|z|z<;>subst z<;>decide
 omega
theorem jL{ts:L0}{n:Nat}:∀(m:Nat) (b:List Int),b.length+m=n->Ab ts n b->∀s∈bH (Bs ts) n m b,Ab ts n s/\s.length=n/\∃r,s=b++r
 |0,b,hb,I,s,hs=>by
  rw[fO.mp (show s∈[b]from hs)];exact⟨I,by omega,[],by rw[tL]⟩
 |m+1,b,hb,I,s,hs=>by
  obtain⟨x,hx,hs⟩:=List.mem_flatMap.mp (show s∈((cB n).filter (Bs ts b)).flatMap fun x=>bH (Bs ts) n m (b++[x])from hs);obtain⟨h1,h2⟩:=dO.mp hx;obtain⟨i1,i2,r,i3⟩:=jL m (b++[x]) (by rw[g8,RN];omega) (I.snoc (uT.mp h1) h2) s hs;exact⟨i1,i2,x::r,by rw[i3,HS];rfl⟩
theorem Bx{n:Nat}{ts:L0}(h:au (n:Int) ts)(p:Int):cnt ts p=((cB n).filter fun q=>ak ts p q).length:=by
 have hm:∀q,q∈((ts.filter fun t=>decide (p∈[t.1,t.2])).map fun t=>if p=t.1 then t.2 else t.1)↔q∈(cB n).filter fun q=>ak ts p q:=fun q=>by
  rw[fG,dO,uT,tied_eq h];unfold bN;rw[wfi,wW,wW];constructor
  ·rintro⟨t,ht,e⟩;obtain⟨t1,t2⟩:=dO.mp ht;have hl:=h.lt t t1;have t3:=j9 t2;by_cases c:p=t.1
   ·rw[aA c]at e;refine⟨by omega,.inl ?_⟩;rw[c,<-e];exact t1
   ·rw[aq c]at e;have c2:p=t.2:=by
     rcases cQ.mp t3 with z|z
     ·exact absurd z c
     ·exact fO.mp z
    refine⟨by omega,.inr ?_⟩;rw[c2,<-e];exact t1
  ·rintro⟨hq,z|z⟩
   ·exact⟨(p,q),dO.mpr ⟨z,dB cV⟩,aA rfl⟩
   ·have hl:=h.lt _ z;exact⟨(q,p),dO.mpr ⟨z,dB (dF _ (fO.mpr rfl))⟩,aq (fun e=>by have e:p=q:=e;have:q<p:=hl.2.1;omega)⟩
 have nd1:((ts.filter fun t=>decide (p∈[t.1,t.2])).map fun t=>if p=t.1 then t.2 else t.1).Nodup:=by
  unfold List.Nodup;rw[zZ];refine(h.nd.filter _).imp_of_mem fun{s t} hs ht ne e=>ne ?_;obtain⟨s1,s2⟩:=dO.mp hs;obtain⟨t1,t2⟩:=dO.mp ht;have ls:=h.lt s s1;have lt:=h.lt t t1;have s3:p=s.1\/p=s.2:=by
   rcases cQ.mp (j9 s2)with z|z
   ·exact .inl z
   ·exact .inr (fO.mp z)
  have t3:p=t.1\/p=t.2:=by
   rcases cQ.mp (j9 t2)with z|z
   ·exact .inl z
   ·exact .inr (fO.mp z)
  by_cases c:p=s.1
  ·by_cases c2:p=t.1
   ·rw[aA c,aA c2]at e;exact Ht (by omega) e
   ·rw[aA c,aq c2]at e;omega
  ·by_cases c2:p=t.1
   ·rw[aq c,aA c2]at e;omega
   ·rw[aq c,aq c2]at e;exact Ht e (by omega)
 have nd2:((cB n).filter fun q=>ak ts p q).Nodup:=(gQ n).filter _;have a1:=uJ nd1 fun x hx=>(hm x).mp hx;have a2:=uJ nd2 fun x hx=>(hm x).mpr hx;rw[aG]at a1 a2;unfold cnt;omega
theorem CZ{n:Int}{ts:L0}(h:au n ts)(i j:Int):ak ts i j=ak ts j i:=by
 rw[tied_eq h,tied_eq h];unfold bN;rw[Bool.or_comm]
theorem xg{n:Int}{ts:L0}(h:au n ts)(i:Int):ak ts i i=false:=by
 rw[tied_eq h];unfold bN;have:(i,i)∉ts:=fun z=>by have:=h.lt _ z;omega
 rw[fJ this];rfl
theorem Eb{n:Nat}{ts:L0}(h:au (n:Int) ts){s:List Int}(I:Ab ts n s)(hl:s.length=n){j k:Nat}(hj:j<n)(hk:k<n):ak ts (s.getD k 0) (s.getD j 0)=ak ts (k:Int) (j:Int):=by
 rcases Nat.lt_trichotomy j k with e|e|e
 ·rw[CZ h,I.pr j k e (by omega),CZ h]
 ·subst e;rw[xg h,xg h]
 ·exact I.pr k j e (by omega)
theorem vV{n:Nat}{ts:L0}(h:au (n:Int) ts){s:List Int}(I:Ab ts n s)(hl:s.length=n){k:Nat}(hk:k<n):cnt ts (s.getD k 0)=cnt ts (k:Int):=by
 rw[Bx h,Bx h];have es:s=(List.range n).map fun j=>s.getD j 0:=by
  refine W0 fun i=> ?_;rw[cU];by_cases hi:i<n
  ·rw[HW hi];show s[i]? =some (s.getD i 0);rw[iU,eO (by omega)];rfl
  ·rw[HX (by omega),HX (by rw[wV];omega)];rfl
 have sur:∀q∈cB n,q∈s:=fun q hq=>by
  refine M9 fun no=> ?_;have:=uJ (c:=q::s) (t:=cB n) (ur.mpr ⟨no,I.nd⟩) fun y hy=>by
   rcases cQ.mp hy with z|z
   ·rw[z];exact hq
   ·exact uT.mpr (I.rg y z)
  rw[pW,HF]at this;omega
 have b1:((cB n).filter fun q=>ak ts (s.getD k 0) q).length=(s.filter fun q=>ak ts (s.getD k 0) q).length:=by
  have a1:=uJ (c:=(cB n).filter fun q=>ak ts (s.getD k 0) q) (t:=s.filter fun q=>ak ts (s.getD k 0) q) ((gQ n).filter _) fun x hx=>by
   obtain⟨x1,x2⟩:=dO.mp hx;exact dO.mpr ⟨sur x x1,x2⟩
  have a2:=uJ (c:=s.filter fun q=>ak ts (s.getD k 0) q) (t:=(cB n).filter fun q=>ak ts (s.getD k 0) q) (I.nd.filter _) fun x hx=>by
   obtain⟨x1,x2⟩:=dO.mp hx;exact dO.mpr ⟨uT.mpr (I.rg x x1),x2⟩
  omega
 have b2:(s.filter fun q=>ak ts (s.getD k 0) q).length=((List.range n).filter fun j=>ak ts (s.getD k 0) (s.getD j 0)).length:=by
  generalize s.getD k 0=y;have z:=gq (fun l:List Int=>(l.filter fun q=>ak ts y q).length) es;rw[List.filter_map,aG]at z;exact z
 have b3:((cB n).filter fun q=>ak ts (k:Int) q).length=((List.range n).filter fun(j:Nat)=>ak ts (k:Int) (j:Int)).length:=by
  unfold cB;rw[List.filter_map,aG];rfl
 rw[b1,b2,b3];congr 1;refine wej fun j hj=> ?_;exact Eb h I hl (lO.mp hj) hk
theorem flat_eq{α:Type}{p q:Int->Bool}{f g:Int->List α}:∀{l:List Int},(∀x∈l,(p x=true->q x=true/\f x=g x)/\(p x=false->q x=true->g x=[]))->(l.filter p).flatMap f=(l.filter q).flatMap g
 |[],_=>rfl
 |x::l,h=>by
  have ih:=flat_eq (l:=l) fun y hy=>h y (dF _ hy);obtain⟨h1,h2⟩:=h x cV;cases hp:p x with
  |true=>
   obtain⟨hq,e⟩:=h1 hp;rw[qT,aA hp,qT,aA hq,wcr,wcr,ih,e]
  |false=>
   rw[qT,aq (by rw[hp];exact qZ),ih];cases hq:q x with
   |true=>rw[qT,aA hq,wcr,h2 hp hq];rfl
   |false=>rw[qT,aq (by rw[hq];exact qZ)]
theorem compl_eq{n:Nat}{ts:L0}(h:au (n:Int) ts):∀(m:Nat) (b:List Int),b.length+m=n->Ab ts n b->bH (iY ts) n m b=bH (Bs ts) n m b
 |0,b,_,_=>rfl
 |m+1,b,hb,I=>by
  refine flat_eq fun x hx=>⟨fun hp=> ?_,fun hp hq=> ?_⟩
  ·unfold iY at hp;rw[jg,jg]at hp;have g:Bs ts b x=true:=by unfold Bs;rw[hp.1.1,hp.2];rfl
   exact⟨g,compl_eq h m (b++[x]) (by rw[g8,RN];omega) (I.snoc (uT.mp hx) g)⟩
  ·have J:=I.snoc (uT.mp hx) hq;cases hc:bH (Bs ts) n m (b++[x])with
   |nil=>rfl
   |cons s r=>
    obtain⟨i1,i2,u,i3⟩:=jL m (b++[x]) (by rw[g8,RN];omega) J s (by rw[hc];exact cV);have d:=vV h i1 i2 (k:=b.length) (by omega);rw[i3,HS]at d;have e:(b++([x]++u)).getD b.length 0=x:=by
     rw[iU,VD (aN _),Vs];rfl
    rw[e]at d;unfold Bs at hq;rw[jg]at hq;unfold iY at hp;rw[hq.1,hq.2,dB d]at hp;cases hp
theorem Pu(ts:L0)(p:Int):iY ts [] p=decide (cnt ts p=cnt ts 0):=by
 unfold iY V9;show((true&&decide (cnt ts p=cnt ts ((([]:List Int).length:Nat):Int)))&&true)=_;rw[Bool.and_true,Xp];rfl
theorem vR{n:Nat}{ts:L0}{p:Int}(h:0<=p/\p<(n:Int)):Ab ts n [p]:=
 ⟨ur.mpr ⟨(fun z=>nomatch z),wfm⟩,fun x hx=>by rw[fO.mp hx];exact h,fun j k hjk hk=>by have:k<1:=hk;omega⟩
structure Mv(n:Nat)(ts us:L0)(f g:Nat->Nat):Prop where
 fl:∀i,i<n->f i<n
 gl:∀i,i<n->g i<n
 gf:∀i,i<n->g (f i)=i
 fg:∀i,i<n->f (g i)=i
 tie:∀i j,i<n->j<n->ak us (f i:Nat) (f j:Nat)=ak ts (i:Nat) (j:Nat)
theorem Mv.refl(n:Nat)(ts:L0):Mv n ts ts id id:=⟨fun _ h=>h,fun _ h=>h,fun _ _=>rfl,fun _ _=>rfl,fun _ _ _ _=>rfl⟩
theorem Mv.symm{n:Nat}{ts us:L0}{f g:Nat->Nat}(h:Mv n ts us f g):Mv n us ts g f:=
 ⟨h.gl,h.fl,h.fg,h.gf,fun i j hi hj=>by have:=h.tie (g i) (g j) (h.gl i hi) (h.gl j hj);rw[h.fg i hi,h.fg j hj]at this;exact this.symm⟩
theorem Mv.trans{n:Nat}{ts us vs:L0}{f g f' g':Nat->Nat}(h:Mv n ts us f g)(h':Mv n us vs f' g'):Mv n ts vs (fun i=>f' (f i)) (fun i=>g (g' i)):=
 ⟨fun i hi=>h'.fl _ (h.fl i hi),fun i hi=>h.gl _ (h'.gl i hi),fun i hi=>by rw[h'.gf _ (h.fl i hi),h.gf i hi],fun i hi=>by rw[h.fg _ (h'.gl i hi),h'.fg i hi],fun i j hi hj=>by rw[h'.tie _ _ (h.fl i hi) (h.fl j hj),h.tie i j hi hj]⟩
noncomputable def toL(n:Nat)(f:Nat->Nat):List Int:=(List.range n).map fun i=>((f i:Nat):Int)
theorem Hh(n:Nat)(f:Nat->Nat):(toL n f).length=n:=by unfold toL;rw[aG,wV]
theorem qw{n:Nat}{f:Nat->Nat}{i:Nat}(h:i<n):(toL n f).getD i 0=((f i:Nat):Int):=by
 unfold toL;rw[iU,cU,HW h];rfl
theorem toL_congr{n:Nat}{f f':Nat->Nat}(h:∀i,i<n->f i=f' i):toL n f=toL n f':=by
 unfold toL;exact Vx fun i hi=>by rw[h i (lO.mp hi)]
theorem toL_inj{n:Nat}{f f':Nat->Nat}(h:toL n f=toL n f'){i:Nat}(hi:i<n):f i=f' i:=by
 have:=qw (f:=f) hi;rw[h,qw hi]at this;omega
theorem toL_mem{n:Nat}{f:Nat->Nat}{x:Int}:x∈toL n f↔∃i,i<n/\x=((f i:Nat):Int):=by
 unfold toL;rw[fG];exact⟨fun⟨i,hi,e⟩=>⟨i,lO.mp hi,e.symm⟩,fun⟨i,hi,e⟩=>⟨i,lO.mpr hi,e.symm⟩⟩
theorem Mv.nd{n:Nat}{ts us:L0}{f g:Nat->Nat}(h:Mv n ts us f g):(toL n f).Nodup:=by
 unfold toL;refine zZ.mpr ((List.nodup_range (n:=n)).imp_of_mem fun{a b} ha hb hne e=>hne ?_);have e':f a=f b:=by omega
 rw[<-h.gf a (lO.mp ha),e',h.gf b (lO.mp hb)]
theorem Mv.perm{n:Nat}{ts us:L0}{f g:Nat->Nat}(h:Mv n ts us f g)(x:Int):x∈toL n f↔x∈cB n:=by
 rw[toL_mem,uT];constructor
 ·rintro⟨i,hi,rfl⟩;have:=h.fl i hi;omega
 ·intro hx;refine⟨g x.toNat,h.gl _ (by omega),?_⟩;rw[h.fg _ (by omega)];omega
theorem vU{ts:L0}{n:Nat}{s:List Int}(I:Ab ts n s)(hl:s.length=n):∀(m k:Nat),k+m=n->s∈bH (Bs ts) n m (s.take k)
 |0,k,h=>by
  rw[Xk (by omega)];exact fO.mpr rfl
 |m+1,k,h=>by
  have hk:k<s.length:=by omega
  refine List.mem_flatMap.mpr ⟨s[k],dO.mpr ⟨uT.mpr (I.rg _ (zX hk)),?_⟩,?_⟩
  ·have Pn:(s.take k).length=k:=by rw[zY];omega
   have gd:∀j,j<k->(s.take k).getD j 0=s.getD j 0:=fun j hj=>by rw[iU,iU,List.getElem?_take,aA hj]
   have gk:s.getD k 0=s[k]:=by rw[iU,eO hk];rfl
   unfold Bs;rw[fJ,Bool.not_false,Xp]
   ·unfold V9;rw[Pn];refine j6.mpr fun j hj=> ?_;have hj':=lO.mp hj;rw[gd j hj',<-gk,I.pr j k hj' hk];exact wex _
   ·intro z;obtain⟨j,hj,e⟩:=Ez z;have hj':j<k:=by omega
    rw[List.getElem_take]at e;have:j=k:=(WY I.nd).mp e;omega
  ·have:=vU I hl m (k+1) (by omega);rw[CN,eO hk]at this;exact this
theorem Mv.iso{n:Nat}{ts:L0}{f g:Nat->Nat}(h:Mv n ts ts f g):Ab ts n (toL n f):=
 ⟨h.nd,fun x hx=>uT.mp ((h.perm x).mp hx),fun j k hjk hk=>by rw[Hh]at hk;rw[qw (by omega),qw hk,h.tie j k (by omega) hk]⟩
noncomputable def tX(ts:L0)(n:Nat):List (List Int):=bH (Bs ts) n n []
theorem Mv.mem{n:Nat}{ts:L0}{f g:Nat->Nat}(h:Mv n ts ts f g):toL n f∈tX ts n:=vU h.iso (Hh n f) n 0 (by omega)
theorem J0{n:Nat}{s:List Int}(nd:s.Nodup)(rg:∀x∈s,0<=x/\x<(n:Int))(hl:s.length=n):∃f g:Nat->Nat,s=toL n f/\(∀i,i<n->f i<n)/\(∀i,i<n->g i<n)/\(∀i,i<n->g (f i)=i)/\∀i,i<n->f (g i)=i:=by
 have at_:∀i (hi:i<s.length),s.getD i 0=s[i]:=fun i hi=>by rw[iU,eO hi];rfl
 have fr:∀i,i<n->0<=s.getD i 0/\s.getD i 0<(n:Int):=fun i hi=>by rw[at_ i (by omega)];exact rg _ (zX _)
 have all:∀p,p<n->((p:Nat):Int)∈s:=fun p hp=>by
  by_cases c:((p:Nat):Int)∈s
  ·exact c
  ·exfalso;have q:=Qu (l:=((p:Nat):Int)::s) (m:=cB n) (ur.mpr ⟨c,nd⟩) fun x hx=>by
    rcases cQ.mp hx with e|e
    ·rw[e];exact uT.mpr (by omega)
    ·exact uT.mpr (rg x e)
   rw[HF,pW]at q;omega
 refine⟨fun i=>(s.getD i 0).toNat,fun p=>s.idxOf ((p:Nat):Int),?_,fun i hi=> ?_,fun i hi=> ?_,fun i hi=> ?_,fun i hi=> ?_⟩
 ·refine List.ext_getElem (by rw[Hh,hl]) fun i h1 h2=> ?_;have e:=qw (n:=n) (f:=fun i=>(s.getD i 0).toNat) (i:=i) (by omega);rw[iU,eO h2]at e;have e2:(toL n fun i=>(s.getD i 0).toNat)[i]=(((s.getD i 0).toNat:Nat):Int):=e;have:=fr i (by omega);rw[e2,<-at_ i h1];omega
 ·have:=fr i hi;show(s.getD i 0).toNat<n;omega
 ·show s.idxOf _<n;rw[<-hl];exact Xl.mpr (all i hi)
 ·have:=fr i hi;show s.idxOf (((s.getD i 0).toNat:Nat):Int)=i;rw[show(((s.getD i 0).toNat:Nat):Int)=s[i]from by rw[<-at_ i (by omega)];omega];have hx:s.idxOf s[i]<s.length:=Xl.mpr (zX _);exact(WY nd).mp (yeg hx)
 ·show(s.getD (s.idxOf ((i:Nat):Int)) 0).toNat=i;have hx:s.idxOf ((i:Nat):Int)<s.length:=Xl.mpr (all i hi);rw[at_ _ hx,yeg hx];omega
theorem Rr{n:Nat}{ts:L0}(hp:au (n:Int) ts){s:List Int}(I:Ab ts n s)(hl:s.length=n):∃f g,Mv n ts ts f g/\s=toL n f:=by
 obtain⟨f,g,e,a1,a2,a3,a4⟩:=J0 I.nd I.rg hl;refine⟨f,g,⟨a1,a2,a3,a4,fun i j hi hj=> ?_⟩,e⟩;have:=Eb hp I hl (j:=j) (k:=i) hj hi;rw[e,qw hi,qw hj]at this;exact this
theorem fY{n:Nat}{ts:L0}(hp:au (n:Int) ts){s:List Int}(h:s∈tX ts n):∃f g,Mv n ts ts f g/\s=toL n f:=by
 obtain⟨I,hl,_⟩:=jL n [] (by show 0+n=n;omega) (Ab.nil ts n) s h;exact Rr hp I hl
theorem trn_eq{n:Nat}{ts:L0}(hp:au (n:Int) ts):bH (iY ts) n n []=tX ts n:=compl_eq hp n [] (by show 0+n=n;omega) (Ab.nil ts n)
theorem oG{g:List Int->Int->Bool}{n:Nat}:∀(m:Nat) (b s:List Int),s∈bH g n m b->∃r,s=b++r
 |0,b,s,h=>⟨[],by rw[fO.mp (show s∈[b]from h),tL]⟩
 |m+1,b,s,h=>by
  obtain⟨x,hx,hs⟩:=List.mem_flatMap.mp (show s∈((cB n).filter (g b)).flatMap fun x=>bH g n m (b++[x])from h);obtain⟨r,e⟩:=oG m (b++[x]) s hs;exact⟨x::r,by rw[e,HS];rfl⟩
theorem zA{g:List Int->Int->Bool}{n:Nat}:∀(m:Nat) (b:List Int),(bH g n m b).Nodup
 |0,b=>RP _ _
 |m+1,b=>by
  show(((cB n).filter (g b)).flatMap fun x=>bH g n m (b++[x])).Pairwise (· ≠ ·);refine List.pairwise_flatMap.mpr ⟨fun x _=>zA m (b++[x]),?_⟩;refine(Xx _ (gQ n)).imp fun{x y} hne u hu v hv e=>hne ?_;obtain⟨r1,e1⟩:=oG m _ u hu;obtain⟨r2,e2⟩:=oG m _ v hv;rw[e1,e2,HS,HS]at e;have:=List.append_cancel_left e;exact(List.cons.inj this).1
theorem Ik(ts:L0)(n:Nat):(tX ts n).Nodup:=zA n []
theorem Il{n:Nat}{ts us:L0}{f g:Nat->Nat}(hp:au (n:Int) ts)(h:Mv n ts us f g):(tX ts n).length<=(tX us n).length:=by
 let φ:List Int->List Int:=fun s=>toL n fun i=>f (s.getD (g i) 0).toNat;have conj:∀{u v:Nat->Nat},Mv n ts ts u v->φ (toL n u)=toL n fun i=>f (u (g i)):=fun{u v} m=>toL_congr fun i hi=>by
  show f ((toL n u).getD (g i) 0).toNat=_;rw[qw (h.gl i hi)];rfl
 have key:=Qu (l:=(tX ts n).map φ) (m:=tX us n) ?_ ?_
 ·rwa [aG]at key
 ·refine zZ.mpr ((Ik ts n).imp_of_mem fun{a b} ha hb hne e=>hne ?_);obtain⟨u,v,m,rfl⟩:=fY hp ha;obtain⟨u',v',m',rfl⟩:=fY hp hb;rw[conj m,conj m']at e;refine toL_congr fun i hi=> ?_;have:=toL_inj e (h.fl i hi);rw[h.gf i hi]at this;rw[<-h.gf (u i) (m.fl i hi),this,h.gf _ (m'.fl i hi)]
 ·intro s hs;obtain⟨a,ha,rfl⟩:=fG.mp hs;obtain⟨u,v,m,rfl⟩:=fY hp ha;rw[conj m];exact(h.symm.trans (m.trans h)).mem
theorem uV{n:Nat}{ts us:L0}{f g:Nat->Nat}(hp:au (n:Int) ts)(hq:au (n:Int) us)(h:Mv n ts us f g):(tX ts n).length=(tX us n).length:=
 QF (Il hp h) (Il hq h.symm)
theorem oN{n:Nat}{ts:L0}(hp:au (n:Int) ts):bM ts n=true↔∀p,p<n->∃f g,Mv n ts ts f g/\f 0=p:=by
 unfold bM;rw[j6];constructor
 ·intro h p hp';have a:=h ((p:Nat):Int) (uT.mpr (by omega));rw[jg,compl_eq hp (n-1) [((p:Nat):Int)] (by show 1+(n-1)=n;omega) (vR (by omega))]at a;cases hc:bH (Bs ts) n (n-1) [((p:Nat):Int)]with
  |nil=>rw[hc]at a;exact absurd a.2 (by decide)
  |cons s l=>
   obtain⟨I,hl,r,e⟩:=jL (n-1) [((p:Nat):Int)] (by show 1+(n-1)=n;omega) (vR (by omega)) s (by rw[hc];exact cV);obtain⟨f,g,m,e2⟩:=Rr hp I hl;refine⟨f,g,m,?_⟩;have:=qw (f:=f) (n:=n) (i:=0) (by omega);rw[<-e2,e]at this;have t:((p:Nat):Int)=((f 0:Nat):Int):=this;omega
 ·intro h x hx;have hx':=uT.mp hx;obtain⟨f,g,m,e⟩:=h x.toNat (by omega);have ex:x=((f 0:Nat):Int):=by omega
  have d:=vV hp m.iso (Hh n f) (k:=0) (by omega);rw[qw (by omega),<-ex]at d;have d':cnt ts x=cnt ts 0:=d;rw[Pu,dB d',Xp,compl_eq hp (n-1) [x] (by show 1+(n-1)=n;omega) (vR hx')];have k:=vU m.iso (Hh n f) (n-1) 1 (by omega);have tk:(toL n f).take 1=[x]:=by
   cases n with
   |zero=>omega
   |succ k=>
    unfold toL;rw[List.range_succ_eq_map,zW,List.take_succ_cons,List.take_zero,<-ex]
  rw[tk]at k;cases hc:bH (Bs ts) n (n-1) [x]with
  |nil=>rw[hc]at k;exact absurd k (fun z=>nomatch z)
  |cons s l=>rfl
theorem zN{n:Nat}{ts us:L0}{f g:Nat->Nat}(hp:au (n:Int) ts)(hq:au (n:Int) us)(h:Mv n ts us f g)(a:bM ts n=true):bM us n=true:=by
 rw[oN hp]at a;refine(oN hq).mpr fun p hpn=> ?_;obtain⟨f1,g1,m1,e1⟩:=a (g 0) (h.gl 0 (by omega));obtain⟨f2,g2,m2,e2⟩:=a (g p) (h.gl p hpn);refine⟨_,_,h.symm.trans (m1.symm.trans (m2.trans h)),?_⟩;show f (f2 (g1 (g 0)))=p;rw[<-e1,m1.gf 0 (by omega),e2,h.fg p hpn]
theorem Ck{n:Nat}{ts us:L0}{f g:Nat->Nat}(hp:au (n:Int) ts)(hq:au (n:Int) us)(h:Mv n ts us f g):bM ts n=bM us n:=by
 rw[pY];exact⟨zN hp hq h,zN hq hp h.symm⟩
theorem u9{n:Nat}{f g:Nat->Nat}(fl:∀i,i<n->f i<n)(gl:∀i,i<n->g i<n)(gf:∀i,i<n->g (f i)=i)(fg:∀i,i<n->f (g i)=i)(h:Nat->Int):(Sx.sm n fun q=>h (f q))=Sx.sm n h:=by
 have e1:(Sx.sm n fun q=>h (f q))=Sx.sm n fun q=>Sx.sm n fun p=>if f q=p then h p else 0:=Sx.aO n fun q hq=>by
  rw[Sx.cX (j:=f q) n (fl q hq) fun i _ hne=>aq fun z=>hne z.symm,aA rfl]
 have e2:(Sx.sm n fun p=>Sx.sm n fun q=>if f q=p then h p else 0)=Sx.sm n h:=Sx.aO n fun p hp=>by
  rw[Sx.cX (j:=g p) n (gl p hp) fun i hi hne=>aq fun z=>hne (by rw[<-z,gf i hi]),aA (fg p hp)]
 rw[e1,Sx.qI,e2]
theorem yE{n:Nat}{ts us:L0}{f g:Nat->Nat}(hp:au (n:Int) ts)(hq:au (n:Int) us)(h:Mv n ts us f g){ss:List (List Int)}{wl:List Int}{ov:Nat}{Z:Int}{Y X:Nat->Int}(hS:bh ss ts false n)(s:Sh n ss wl ov Z Y X){xs:List Int}(hk:jc us false n xs):(xs.map fun x=>X (g x.toNat)).sum<=(ov:Int):=by
 let S:=(cB n).filter fun q=>decide (((f q.toNat:Nat):Int)∈xs);have mS:∀q,q∈S↔(0<=q/\q<(n:Int))/\((f q.toNat:Nat):Int)∈xs:=fun q=>by
  show q∈(cB n).filter _↔_;rw[dO,uT];simp
 have K1:jc ts false n S:=by
  refine⟨Xx _ ?_,fun x hx=>((mS x).mp hx).1,fun x hx y hy hne=> ?_⟩
  ·unfold cB;exact zZ.mpr (Vz.imp fun{a b} z=>by omega)
  ·obtain⟨⟨x0,x1⟩,x2⟩:=(mS x).mp hx;obtain⟨⟨y0,y1⟩,y2⟩:=(mS y).mp hy;have ne:((f x.toNat:Nat):Int)≠((f y.toNat:Nat):Int):=fun z=>hne (by
    have z':f x.toNat=f y.toNat:=by omega
    have:=h.gf x.toNat (by omega);rw[z',h.gf y.toNat (by omega)]at this;omega)
   have a:=hk.all _ x2 _ y2 ne;rw[<-tied_eq hq,h.tie x.toNat y.toNat (by omega) (by omega)]at a;rw[<-tied_eq hp]
   rwa [show((x.toNat:Nat):Int)=x from by omega,show((y.toNat:Nat):Int)=y from by omega]at a
 have nd:xs.Nodup:=hk.up.imp fun h e=>by omega
 have ndS:S.Nodup:=K1.up.imp fun h e=>by omega
 have a:=zL hS s K1;rw[vC s.pos,jJ ndS K1.lt,Hj]at a;rw[show(xs.map fun x=>X (g x.toNat))=xs.map fun x=>(fun p=>X (g p)) x.toNat from rfl,jJ (X:=fun p=>X (g p)) nd hk.lt];rw[<-u9 h.fl h.gl h.gf h.fg];refine Qz (QB (Sx.aO n fun q hq=> ?_)) a;have e:decide (((f q:Nat):Int)∈xs)=decide (((q:Nat):Int)∈S):=by
  refine decide_eq_decide.mpr ?_;rw[mS];show _↔_/\((f q:Nat):Int)∈xs;exact⟨fun z=>⟨⟨by omega,by omega⟩,z⟩,fun z=>z.2⟩
 rw[e,h.gf q hq]
theorem Ti{n p:Nat}(h:p<n):nM (iV n) p=1:=by
 unfold nM iV;rw[iU,weo,aA h];rfl
theorem uD{n:Nat}(X:Nat->Int):(Sx.sm n fun p=>nM (iV n) p*X p)=Sx.sm n X:=Sx.aO n fun p hp=>by rw[Ti hp,Hj]
theorem CP{n:Nat}{ts us:L0}{f g:Nat->Nat}(hp:au (n:Int) ts)(hq:au (n:Int) us)(h:Mv n ts us f g){ss ss':List (List Int)}{ov ov':Nat}{Z Z':Int}{Y X Y' X':Nat->Int}(hS:bh ss ts false n)(s:Sh n ss (iV n) ov Z Y X)(hS':bh ss' us false n)(s':Sh n ss' (iV n) ov' Z' Y' X'):Z*(ov':Int)<=Z'*(ov:Int):=by
 have d:=Bw (X:=fun p=>X (g p)) (ov:=ov) (fun p=>s.xn _) (fun xs hk=>yE hp hq h hS s hk) hS' s';rw[uD,u9 h.gl h.fl h.fg h.gf]at d;have w:=s.wor;rw[uD]at w
 rwa [w]at d
theorem low_eq{Z Z':Int}{ov ov':Nat}{u u':Int}{v v':Nat}(p1:0<ov)(p2:0<ov')(l:Low Z ov u v)(l':Low Z' ov' u' v')(e:Z*(ov':Int)=Z'*(ov:Int)):u=u'/\v=v':=by
 have e1:=l.eq;have e2:=l'.eq;refine Gj l.pos l.cop l'.cop ?_;refine Xm (a:=(ov:Int)*(ov':Int)) ?_ ?_
 ·have:=VH (a:=(ov:Int)) (b:=(ov':Int)) (by omega) (by omega);omega
 ·have x1:u*(v':Int)*((ov:Int)*(ov':Int))=(u*(ov:Int))*((v':Int)*(ov':Int)):=by grind
  have x2:u'*(v:Int)*((ov:Int)*(ov':Int))=(u'*(ov':Int))*((v:Int)*(ov:Int)):=by grind
  rw[x1,x2,e1,e2];have x3:Z*(v:Int)*((v':Int)*(ov':Int))=(Z*(ov':Int))*((v:Int)*(v':Int)):=by grind
  rw[x3,e];grind
theorem RZ{n:Nat}{ts us:L0}{f g:Nat->Nat}(hp:au (n:Int) ts)(hq:au (n:Int) us)(h:Mv n ts us f g){ss ss':List (List Int)}{ov ov':Nat}{Z Z':Int}{Y X Y' X':Nat->Int}(hS:bh ss ts false n)(s:Sh n ss (iV n) ov Z Y X)(hS':bh ss' us false n)(s':Sh n ss' (iV n) ov' Z' Y' X'):bR Z ov=bR Z' ov':=by
 obtain⟨x,y⟩:=low_eq s.pos s'.pos (Ma Z s.pos) (Ma Z' s'.pos) (wfj (CP hp hq h hS s hS' s') (CP hq hp h.symm hS' s' hS s));exact Ht x y
theorem sE{n:Nat}{ts:L0}{s:List Int}(h:lE s ts false n):jc ts false n s/\∀xs,jc ts false n xs->xs.length<=s.length:=by
 obtain⟨ss,hS,i,hi,hm⟩:=h;refine⟨Dw hS (qW hi),fun xs hk=> ?_⟩;obtain⟨t,ht,hx⟩:=sU hk;obtain⟨j,hj,e⟩:=Ez (hS.1.mem_iff.mpr ht);have a:=(hm j t (by rw[eO hj,e])).1;exact eN (Qu (hk.up.imp fun h e=>by omega) hx) a
theorem rE:∀xs:List Int,(xs.map fun _=>(1:Int)).sum=(xs.length:Int)
 |[]=>rfl
 |x::xs=>by rw[zW,weu,rE xs,pW];omega
theorem Jl(n:Nat):(Sx.sm n fun _=>(1:Int))=(n:Int):=by
 induction n with
 |zero=>rfl
 |succ k ih=>show Sx.sm k _+1=_;rw[ih];omega
theorem Vk{n:Nat}{ts:L0}{s:List Int}(hm:lE s ts false n){ss':List (List Int)}{ov':Nat}{Z':Int}{Y' X':Nat->Int}(hS':bh ss' ts false n)(s':Sh n ss' (iV n) ov' Z' Y' X'):(n:Int)*(ov':Int)<=Z'*(s.length:Int):=by
 have d:=Bw (X:=fun _=>(1:Int)) (ov:=s.length) (fun _=>by decide) (fun xs hk=>by rw[rE];have:=(sE hm).2 xs hk;omega) hS' s'
 rwa [uD,Jl]at d
theorem Bo{α:Type} [DecidableEq α]{F:α->Int}{x:α}:∀{l:List α},l.Nodup->x∈l->Sx.ls (fun t=>if t=x then F t else 0) l=F x
 |[],_,h=>nomatch h
 |a::l,nd,h=>by
  obtain⟨na,nd'⟩:=ur.mp nd;show(if a=x then F a else 0)+Sx.ls _ l=F x;by_cases c:a=x
  ·subst c;rw[aA rfl];have z:∀m:List α,(∀t∈m,t≠a)->Sx.ls (fun t=>if t=a then F t else 0) m=0:=by
    intro m
    induction m with
    |nil=>intro _;rfl
    |cons b m ih=>intro hm;show(if b=a then F b else 0)+Sx.ls _ m=0;rw[aq (hm b cV),ih fun t ht=>hm t (dF _ ht)];rfl
   rw[z l fun t ht e=>na (e▸ht)];omega
  ·rw[aq c,Bo nd' ((cQ.mp h).resolve_left fun e=>c e.symm)];omega
theorem uM{α:Type}{F G:α->Int}:∀{l:List α},(∀x∈l,F x=G x)->Sx.ls F l=Sx.ls G l
 |[],_=>rfl
 |a::l,h=>by show F a+Sx.ls F l=G a+Sx.ls G l;rw[h a cV,uM fun x hx=>h x (dF _ hx)]
theorem OD{α:Type} [DecidableEq α]{T:List α}(nd:T.Nodup){φ ψ:α->α}(h1:∀s∈T,φ s∈T)(h2:∀s∈T,ψ s∈T)(h3:∀s∈T,ψ (φ s)=s)(h4:∀s∈T,φ (ψ s)=s)(F:α->Int):Sx.ls (fun s=>F (φ s)) T=Sx.ls F T:=by
 have e1:Sx.ls (fun s=>F (φ s)) T=Sx.ls (fun s=>Sx.ls (fun t=>if t=φ s then F t else 0) T) T:=uM fun s hs=>(Bo nd (h1 s hs)).symm;have e2:Sx.ls (fun t=>Sx.ls (fun s=>if t=φ s then F t else 0) T) T=Sx.ls F T:=uM fun t ht=>by
  have:Sx.ls (fun s=>if t=φ s then F t else 0) T=Sx.ls (fun s=>if s=ψ t then(fun _=>F t) s else 0) T:=uM fun s hs=>by
   by_cases c:t=φ s
   ·rw[aA c,aA (by rw[c,h3 s hs])]
   ·rw[aq c,aq fun z=>c (by rw[z,h4 t ht])]
  rw[this,Bo (F:=fun _=>F t) nd (h2 t ht)]
 rw[e1,Sx.vQ,e2]
theorem J7{F:Nat->Int}:∀xs:List Int,Sx.ls (fun a=>F a) (xs.map Int.toNat)=(xs.map fun x=>F x.toNat).sum
 |[]=>rfl
 |x::xs=>by show F x.toNat+Sx.ls _ (xs.map Int.toNat)=_;rw[J7 xs,zW,weu]
theorem Vl{n:Nat}{ts:L0}(hp:au (n:Int) ts)(n0:0<n)(al:bM ts n=true){s:List Int}(hm:lE s ts false n){ss:List (List Int)}{ov:Nat}{Z:Int}{Y X:Nat->Int}(hS:bh ss ts false n)(sh:Sh n ss (iV n) ov Z Y X):Z*(s.length:Int)<=(n:Int)*(ov:Int):=by
 have K:=(sE hm).1;have w:=sh.wor;rw[uD]at w;have v:=Sx.vt (n:=n) (G:=tX ts n) (act:=fun t i=>(t.getD i 0).toNat) (X:=X) (ov:=(ov:Int)) (A:=s.map Int.toNat) ?_ ?_ ?_ ?_ ?_
 ·rw[aG,w]at v;rw[Ey];exact v
 ·intro e;have:=(Mv.refl n ts).mem;rw[e]at this;exact nomatch this
 ·intro t ht;obtain⟨f,g,m,rfl⟩:=fY hp ht;rw[<-u9 m.fl m.gl m.gf m.fg X];exact Sx.aO n fun i hi=>by show X ((toL n f).getD i 0).toNat=_;rw[qw hi];rfl
 ·intro a ha;obtain⟨f,g,m,e⟩:=(oN hp).mp al a ha;have c1:∀{u u':Nat->Nat},Mv n ts ts u u'->(toL n fun i=>((toL n u).getD (f i) 0).toNat)=toL n fun i=>u (f i):=fun{u u'} q=>toL_congr fun i hi=>by rw[qw (m.fl i hi)];rfl
  have c2:∀{u u':Nat->Nat},Mv n ts ts u u'->(toL n fun i=>((toL n u).getD (g i) 0).toNat)=toL n fun i=>u (g i):=fun{u u'} q=>toL_congr fun i hi=>by rw[qw (m.gl i hi)];rfl
  have k:=OD (Ik ts n) (φ:=fun t=>toL n fun i=>(t.getD (f i) 0).toNat) (ψ:=fun t=>toL n fun i=>(t.getD (g i) 0).toNat)
   (fun t ht=>by obtain⟨u,u',q,rfl⟩:=fY hp ht;show(toL n fun i=>((toL n u).getD (f i) 0).toNat)∈_;rw[c1 q];exact(m.trans q).mem)
   (fun t ht=>by obtain⟨u,u',q,rfl⟩:=fY hp ht;show(toL n fun i=>((toL n u).getD (g i) 0).toNat)∈_;rw[c2 q];exact(m.symm.trans q).mem)
   (fun t ht=>by
    obtain⟨u,u',q,rfl⟩:=fY hp ht;refine toL_congr fun i hi=> ?_;show((toL n fun i=>((toL n u).getD (f i) 0).toNat).getD (g i) 0).toNat=u i;rw[qw (m.gl i hi),qw (m.fl _ (m.gl i hi)),m.fg i hi];rfl)
   (fun t ht=>by
    obtain⟨u,u',q,rfl⟩:=fY hp ht;refine toL_congr fun i hi=> ?_;show((toL n fun i=>((toL n u).getD (g i) 0).toNat).getD (f i) 0).toNat=u i;rw[qw (m.fl i hi),qw (m.gl _ (m.fl i hi)),m.gf i hi];rfl)
   (fun t=>X (t.getD 0 0).toNat)
  rw[<-k];refine uM fun t ht=> ?_;show X (t.getD a 0).toNat=X ((toL n fun i=>(t.getD (f i) 0).toNat).getD 0 0).toNat;rw[qw n0,e];rfl
 ·intro a ha;obtain⟨x,hx,rfl⟩:=fG.mp ha;have:=K.lt x hx;omega
 ·intro t ht;obtain⟨f,g,m,rfl⟩:=fY hp ht;refine Qz (QB ?_) (yE hp hp m.symm hS sh K);have c:Sx.ls (fun a=>X ((toL n f).getD a 0).toNat) (s.map Int.toNat)=Sx.ls (fun a=>X (f a)) (s.map Int.toNat):=uM fun a ha=>by
   obtain⟨x,hx,rfl⟩:=fG.mp ha;have:=K.lt x hx;rw[qw (by omega)];rfl
  show Sx.ls (fun a=>X ((toL n f).getD a 0).toNat) (s.map Int.toNat)=_;rw[c,J7 (F:=fun a=>X (f a))]
theorem big_eq{n:Nat}{ts:L0}(hp:au (n:Int) ts)(al:bM ts n=true){s:List Int}(hm:lE s ts false n){ss:List (List Int)}{ov:Nat}{Z:Int}{Y X:Nat->Int}(hS:bh ss ts false n)(sh:Sh n ss (iV n) ov Z Y X):Z*((max s.length 1:Nat):Int)=(n:Int)*(ov:Int):=by
 by_cases n0:n=0
 ·subst n0;have w:=sh.wor;rw[uD]at w;have:Z=0:=w.symm;rw[this];simp
 ·have s1:1<=s.length:=by
   have:=(sE hm).2 [0] ⟨RP _ _,fun x hx=>by rw[fO.mp hx];omega,fun x hx y hy hne=>absurd (by rw[fO.mp hx,fO.mp hy]) hne⟩;exact this
  rw[show max s.length 1=s.length from by omega];exact wfj (Vl hp (by omega) al hm hS sh) (Vk hm hS sh)
theorem Kq{s:List Int}:∀{xs:List Int},xs.Nodup->(∀x∈xs,∀y∈xs,x≠y->¬(x∈s/\y∈s))->(xs.map fun x=>if decide (x∈s)=true then(1:Int)else 0).sum<=1
 |[],_,_=>by show(0:Int)<=1;decide
 |x::xs,nd,h=>by
  obtain⟨nx,nd'⟩:=ur.mp nd;rw[zW,weu];have ih:=Kq nd' fun a ha b hb=>h a (dF _ ha) b (dF _ hb);by_cases c:decide (x∈s)=true
  ·have z:∀l:List Int,(∀y∈l,¬y∈s)->(l.map fun x=>if decide (x∈s)=true then(1:Int)else 0).sum=0:=by
    intro l
    induction l with
    |nil=>intro _;rfl
    |cons b l ih=>intro hl;rw[zW,weu,ih fun y hy=>hl y (dF _ hy),aq (by simpa using hl b cV)];rfl
   rw[aA c,z xs fun y hy hs=>h x cV y (dF _ hy) (fun e=>nx (e▸hy)) ⟨j9 c,hs⟩];decide
  ·rw[aq c];omega
theorem Tf{n:Nat}{ts os:L0}(hp:au (n:Int) ts)(hq:au (n:Int) os)(ho:∀x y:Int,0<=x->x<(n:Int)->0<=y->y<(n:Int)->x≠y->ak os x y= !ak ts x y){s:List Int}(K:jc ts false n s){ss':List (List Int)}{ov':Nat}{Z':Int}{Y' X':Nat->Int}(hS':bh ss' os false n)(s':Sh n ss' (iV n) ov' Z' Y' X'):(s.length:Int)*(ov':Int)<=Z':=by
 have d:=Bw (X:=fun p=>if decide (((p:Nat):Int)∈s)=true then(1:Int)else 0) (ov:=1) (fun p=>by show(0:Int)<=if _ then _ else _;split<;>decide) (fun xs hk=> ?_) hS' s'
 ·rw[uD,<-jJ (X:=fun _=>(1:Int)) (K.up.imp fun h e=>by omega) K.lt,rE]at d;simpa using d
 ·have nd:xs.Nodup:=hk.up.imp fun h e=>by omega
  have a:=Kq (s:=s) nd fun x hx y hy hne z=>by
   have t1:=hk.all x hx y hy hne;have t2:=K.all x z.1 y z.2 hne;obtain⟨x0,x1⟩:=hk.lt x hx;obtain⟨y0,y1⟩:=hk.lt y hy;rw[<-tied_eq hq,ho x y x0 x1 y0 y1 hne]at t1;rw[<-tied_eq hp]at t2;cases hh:ak ts x y<;>rw[hh]at t1 t2<;>simp at t1 t2
  refine Qz (QB ?_) a;congr 1;exact Vx fun x hx=>by
   have:=hk.lt x hx;show(if decide (((x.toNat:Nat):Int)∈s)=true then(1:Int)else 0)=_;rw[show((x.toNat:Nat):Int)=x from by omega]
theorem NZ{n:Nat}{Z Z2 u u2 x:Int}{al ov V8 v v2 y:Nat}(a0:0<al)(p1:0<ov)(p2:0<V8)(l:Low Z ov u v)(l2:Low Z2 V8 u2 v2)(h:Z*(al:Int)=(n:Int)*(ov:Int))(h2:(al:Int)*(V8:Int)<=Z2)(un:0<=u)(lx:Low (u*u2) (v*v2) x y):(n:Int)*(y:Int)<=x*1:=by
 have e1:=l.eq;have e2:=l2.eq;have e3:=lx.eq;have vp:=l.pos;have v2p:=l2.pos;have k1:u*(al:Int)=(n:Int)*(v:Int):=by
  refine Xm (a:=(ov:Int)) (by omega) ?_;have:u*(al:Int)*(ov:Int)=(u*(ov:Int))*(al:Int):=by grind
  rw[this,e1];have:Z*(v:Int)*(al:Int)=(Z*(al:Int))*(v:Int):=by grind
  rw[this,h];grind
 have k2:(al:Int)*(v2:Int)<=u2:=by
  refine wdr (a:=(V8:Int)) ?_ (by omega);rw[e2];have:(al:Int)*(v2:Int)*(V8:Int)=((al:Int)*(V8:Int))*(v2:Int):=by grind
  rw[this];exact wcu h2 (by omega)
 have k3:(n:Int)*(v:Int)*(v2:Int)<=u*u2:=by
  rw[<-k1,Vv];exact MP k2 un
 have vv:(0:Int)<((v*v2:Nat):Int):=by
  have:=Nat.mul_pos vp v2p;omega
 refine wdr (a:=((v*v2:Nat):Int)) ?_ vv;rw[RJ,e3];have:(n:Int)*(y:Int)*((v*v2:Nat):Int)=((n:Int)*(v:Int)*(v2:Int))*(y:Int):=by push_cast;grind
 rw[this];exact wcu k3 (by omega)
theorem Mv.leads{n:Int}{ts us:L0}{f g:Nat->Nat}(n0:0<=n)(hp:au n ts)(h:Mv n.toNat ts us f g):dh n n ts us (toL n.toNat f)=true:=by
 unfold dh;rw[jg,jg,Hh];refine⟨dB (by omega),j6.mpr fun y hy=> ?_,j6.mpr fun p hpm=> ?_⟩
 ·have:=uT.mp ((h.perm y).mp hy);rw[jg];exact⟨dB this.1,dB (by omega)⟩
 ·obtain⟨a,b,c⟩:=hp.lt p hpm;rw[qw (by omega),qw (by omega),h.tie _ _ (by omega) (by omega),show((p.1.toNat:Nat):Int)=p.1 from by omega,show((p.2.toNat:Nat):Int)=p.2 from by omega];unfold ak;rw[aq (by omega),aA (by omega)];exact dB hpm
theorem Mv.deg{n:Int}{ts:L0}{f g:Nat->Nat}(n0:0<=n)(hp:au n ts)(h:Mv n.toNat ts ts f g){p:Nat}(hq:p<n.toNat):(eY n ts ((f p:Nat):Int)).length=(eY n ts (p:Int)).length:=by
 have e:∀x:Int,(eY n ts x).length=cnt ts x:=fun x=>by
  rw[Bx (n:=n.toNat) (by rw[show((n.toNat:Nat):Int)=n from by omega];exact hp)];unfold eY cB;simp only[MJ]
 rw[e,e];have hp':au ((n.toNat:Nat):Int) ts:=by rw[show((n.toNat:Nat):Int)=n from by omega];exact hp
 have:=vV hp' h.iso (Hh _ f) hq
 rwa [qw hq]at this
theorem yw{n:Nat}{ts us:L0}{xs:List Int}(hp:au (n:Int) ts)(hx:xs.Perm (cB n))(hu:us.Perm (ts.map (mp xs))):∃f g,Mv n ts us f g/\xs=toL n f:=by
 have hl:xs.length=n:=by have:=hx.length_eq;rwa [HF]at this
 obtain⟨f,g,e,a1,a2,a3,a4⟩:=J0 (hx.nodup_iff.mpr (gQ n)) (fun x h=>uT.mp (hx.mem_iff.mp h)) hl;refine⟨f,g,⟨a1,a2,a3,a4,fun i j hi hj=> ?_⟩,e⟩;have at_:∀i,i<n->xs.getD i 0=((f i:Nat):Int):=fun i hi=>by rw[e,qw hi]
 have mpe:∀i j:Nat,i<n->j<n->mp xs ((i:Int),(j:Int))=((if((f j:Nat):Int)<((f i:Nat):Int)then((f j:Nat):Int)else((f i:Nat):Int)),(if((f j:Nat):Int)>((f i:Nat):Int)then((f j:Nat):Int)else((f i:Nat):Int))):=fun i j hi hj=>by
  unfold mp;simp only[Vw,at_ i hi,at_ j hj]
 have inj:∀i j,i<n->j<n->f i=f j->i=j:=fun i j hi hj z=>by rw[<-a3 i hi,z,a3 j hj]
 unfold ak;refine decide_eq_decide.mpr ?_;rw[hu.mem_iff,fG];constructor
 ·rintro⟨p,hpm,ep⟩;obtain⟨b0,b1,b2⟩:=hp.lt p hpm;have q:=mpe p.1.toNat p.2.toNat (by omega) (by omega);rw[show((p.1.toNat:Nat):Int)=p.1 from by omega,show((p.2.toNat:Nat):Int)=p.2 from by omega]at q;rw[show(p.1,p.2)=p from rfl,ep]at q;have q1:=gq Prod.fst q;have q2:=gq Prod.snd q;dsimp only at q1 q2;have ne:f p.1.toNat≠f p.2.toNat:=fun z=>by have:=inj _ _ (by omega) (by omega) z;omega
  have c:(f i=f p.1.toNat/\f j=f p.2.toNat)\/(f i=f p.2.toNat/\f j=f p.1.toNat):=by
   split at q1<;>split at q1<;>split at q2<;>split at q2<;>omega
  rcases c with⟨c1,c2⟩|⟨c1,c2⟩
  ·have d1:=inj _ _ hi (by omega) c1;have d2:=inj _ _ hj (by omega) c2;rw[aq (by omega),aA (by omega),show((i:Int),(j:Int))=p from Ht (by show(i:Int)=p.1;omega) (by show(j:Int)=p.2;omega)];exact hpm
  ·have d1:=inj _ _ hi (by omega) c1;have d2:=inj _ _ hj (by omega) c2;rw[aA (by omega),aq (by omega),show((j:Int),(i:Int))=p from Ht (by show(j:Int)=p.1;omega) (by show(i:Int)=p.2;omega)];exact hpm
 ·intro hm;by_cases c:(j:Int)<(i:Int)
  ·rw[aA c,aq (by omega)]at hm;refine⟨_,hm,?_⟩;rw[mpe j i hj hi];refine Ht ?_ ?_<;>dsimp only <;>split<;>split<;>omega
  ·by_cases c2:(j:Int)>(i:Int)
   ·rw[aq c,aA c2]at hm;exact⟨_,hm,mpe i j hi hj⟩
   ·rw[aq c,aq c2]at hm;have:=(hp.lt _ hm).2.1;dsimp only at this;omega
theorem Dy{so so':Int->Int->Bool}{m:Int}:∀i:Nat,(∀x y:Int,0<=x->x<y->y<m->so x y=so' x y)->rows so m i=rows so' m i
 |0,_=>rfl
 |i+1,h=>by
  rw[Mz,Mz,Dy i h];congr 1;unfold row;refine wej fun p hp=> ?_;obtain⟨t,ht,rfl⟩:=fG.mp hp;have:=lO.mp ht;exact h _ _ (by dsimp only;omega) (by dsimp only;omega) (by dsimp only;omega)
noncomputable def cs(a b c:Bool)(i j:Int):Bool:=if 7-j+i=1\/j-i=1 then a else if 7-j+i=2\/j-i=2 then b else c
theorem aaF(ys:List Int):∃a b c,rows (nG 7 ys) 7 7=rows (cs a b c) 7 7:=by
 refine⟨(ys.map PyData.int).any fun d=>PyData.eqv d (.int 1),(ys.map PyData.int).any fun d=>PyData.eqv d (.int 2),(ys.map PyData.int).any fun d=>PyData.eqv d (.int 3),Dy 7 fun x y hx hxy hy=> ?_⟩;unfold nG cs;have c:(if 7-y+x<y-x then 7-y+x else y-x)=1\/(if 7-y+x<y-x then 7-y+x else y-x)=2\/(if 7-y+x<y-x then 7-y+x else y-x)=3:=by split<;>omega
 rcases c with c|c|c<;>rw[c]
 ·rw[aA (by split at c<;>omega)]
 ·rw[aq (by split at c<;>omega),aA (by split at c<;>omega)]
 ·rw[aq (by split at c<;>omega),aq (by split at c<;>omega)]
theorem aaA:∀a b c:Bool,((rows (cs a b c) 7 7).length=0\/(rows (cs a b c) 7 7).length=21)\/(tX (rows (cs a b c) 7 7) 7).length<=720:=by decide+kernel
theorem SN{ts:L0}{ys xs:List Int}(hx:xs.Perm (cB 7))(hp:au 7 ts)(hu:ts.Perm ((rows (nG 7 ys) 7 7).map (mp xs)))(h0:ts.length≠0)(h1:ts.length≠21):(tX ts 7).length<=720:=by
 have hl:ts.length=(rows (nG 7 ys) 7 7).length:=by rw[hu.length_eq,aG]
 have hq:au ((7:Nat):Int) (rows (nG 7 ys) 7 7):=vA;obtain⟨f,g,m,_⟩:=yw (n:=7) hq hx hu;rw[<-uV hq hp m];obtain⟨a,b,c,e⟩:=aaF ys;rw[e]at hl⊢;rcases aaA a b c with(h|h)|h
 ·omega
 ·omega
 ·exact h
section
variable{P:ξ}{w:τ}{K:W.Frag}{mg:L4}{base:Heap}
theorem Gs(xs ys:List Int):PyData.eqv (.list (xs.map PyData.int)) (.list (ys.map PyData.int))=decide (xs=ys):=by
 have:∀(xs ys:List Int),PyData.eqvAll (xs.map PyData.int) (ys.map PyData.int)=decide (xs=ys):=by
  intro xs
  induction xs with
  |nil=>intro ys;cases ys<;>simp[PyData.eqvAll]
  |cons x xs ih=>intro ys;cases ys with
   |nil=>simp[PyData.eqvAll]
   |cons y ys=>
    have e:(x==y)=decide (x=y):=by rw[pY];simp
    simp[PyData.eqvAll,PyData.eqv,ih,e]
 simp[PyData.eqv,this]
theorem wJ(its:List (Addr×List Int))(ys:List Int):((its.map fun p=>PyData.tuple (p.2.map PyData.int)).any fun d=>PyData.eqv d (.tuple (ys.map PyData.int)))=decide (ys∈its.map (·.2)):=by
 rw[pY,List.any_eq_true,decide_eq_true_iff];constructor
 ·rintro⟨d,hd,e⟩;obtain⟨p,hp,rfl⟩:=fG.mp hd;rw[oE]at e;exact fG.mpr ⟨p,hp,j9 e⟩
 ·intro h;obtain⟨p,hp,rfl⟩:=fG.mp h;exact⟨_,fG.mpr ⟨p,hp,rfl⟩,by rw[oE];exact dB rfl⟩
theorem qG{H:Hp}:∀{its:List (Addr×List Int)},(∀p∈its,Qk K H p.1 p.2)->bO K H (its.map fun p=>V.ref p.1) (its.map fun p=>PyData.tuple (p.2.map PyData.int))
 |[],_=> .nil
 |p::l,h=> .cons (.tup (h p cV).1 (bO.ints _)) (qG fun q hq=>h q (dF _ hq))
theorem lW:∀its:List (Addr×List Int),PyData.canLayAll0 (its.map fun p=>PyData.tuple (p.2.map PyData.int))=true
 |[]=>rfl
 |p::l=>by
  show(PyData.canLayAll0 (p.2.map PyData.int)&&PyData.canLayAll0 (l.map _))=true;rw[qC,lW l];rfl
theorem Ng(n:Nat):cR n=(cB n).map V.int:=by unfold cR cB;rw[tU];rfl
theorem Ay(xs:List Int):(PyData.tuple (xs.map PyData.int)).depth<=60:=by
 have:=jK xs;have e:(PyData.tuple (xs.map PyData.int)).depth=PyData.depthAll (xs.map PyData.int)+1:=rfl;rw[e];omega
theorem Kg(xs ys:List Int):min (PyData.list (xs.map PyData.int)).depth (PyData.list (ys.map PyData.int)).depth<=64:=by
 have:=jK xs;have e:(PyData.list (xs.map PyData.int)).depth=PyData.depthAll (xs.map PyData.int)+1:=rfl;rw[e];omega
theorem sY.bL{H H':Hp}{l c:Addr}{its:List (Addr×List Int)}{zs:List V}(h:sY K H l its)(e:aF c H H')(hc:H c=some (.lst zs))(n:l≠c):sY K H' l its:=⟨e _ _ n h.1,fun p hp=>(h.2 p hp).bL e hc⟩
theorem Fj{n:Nat}{ys xs:List Int}(hp:ys.Perm xs)(hs:ys.Pairwise (· <= ·))(nd:xs.Nodup)(hm:∀x,x∈xs↔x∈cB n):ys=cB n:=by
 have nd':ys.Nodup:=hp.nodup_iff.mpr nd;have s1:ys.Pairwise (· < ·):=(hs.and nd').imp fun{a b} h=>by omega
 have s2:(cB n).Pairwise (· < ·):=by
  unfold cB;exact zZ.mpr (Vz.imp fun{a b} z=>by omega)
 have key:∀{l m:List Int},l.Pairwise (· < ·)->m.Pairwise (· < ·)->(∀x,x∈l↔x∈m)->l=m:=by
  intro l
  induction l with
  |nil=>intro m _ _ h;cases m with
   |nil=>rfl
   |cons y m=>exact absurd ((h y).mpr cV) (fun z=>nomatch z)
  |cons x l ih=>intro m h1 h2 h;cases m with
   |nil=>exact absurd ((h x).mp cV) (fun z=>nomatch z)
   |cons y m=>
    obtain⟨a1,a2⟩:=Xg.mp h1;obtain⟨b1,b2⟩:=Xg.mp h2;have exy:x=y:=by
     rcases cQ.mp ((h x).mp cV)with e|e
     ·exact e
     ·rcases cQ.mp ((h y).mpr cV)with e2|e2
      ·exact e2.symm
      ·have:=b1 x e;have:=a1 y e2;omega
    subst exy;congr 1;refine ih a2 b2 fun z=>⟨fun hz=> ?_,fun hz=> ?_⟩
    ·rcases cQ.mp ((h z).mp (dF _ hz))with e|e
     ·subst e;have:=a1 z hz;omega
     ·exact e
    ·rcases cQ.mp ((h z).mpr (dF _ hz))with e|e
     ·subst e;have:=b1 z hz;omega
     ·exact e
 exact key s1 s2 fun x=>by rw[hp.mem_iff,hm]
theorem Pk{n:Nat}{ts us:L0}{f g:Nat->Nat}(h:Mv n ts us f g){p:Nat}(hp:p<n):(toL n f).idxOf ((p:Nat):Int)=g p:=by
 have hm:((p:Nat):Int)∈toL n f:=(h.perm _).mpr (uT.mpr (by omega));have hx:=Xl.mpr hm;have e:=yeg hx;have hx':(toL n f).idxOf ((p:Nat):Int)<n:=by rw[Hh]at hx;exact hx
 have e2:=qw (f:=f) hx';rw[iU,eO hx]at e2;have e3:((p:Nat):Int)=((f ((toL n f).idxOf ((p:Nat):Int)):Nat):Int):=by rw[<-e2];exact e.symm
 have e4:p=f ((toL n f).idxOf ((p:Nat):Int)):=by omega
 have e5:=h.gf _ hx';rw[<-e4]at e5;exact e5.symm
theorem Cg{n:Nat}{f:Nat->Nat}{i:Nat}(h:i<n):atI ((toL n f).map V.int) ((i:Nat):Int)=some (.int ((f i:Nat):Int)):=atI_nat (by
 unfold toL;rw[cU,cU,HW h];rfl)
theorem Rj{n i:Nat}{x:V}(hx:((cB n).map V.int)[i]? =some x):i<n/\x= .int (i:Int):=by
 have hi:i<n:=by have:=(lV.mp hx).1;rwa [aG,HF]at this
 refine⟨hi,?_⟩;unfold cB at hx;rw[cU,cU,HW hi]at hx;cases hx;rfl
theorem toL_succ(i:Nat)(f:Nat->Nat):(toL (i+1) f).map V.int=(toL i f).map V.int++[.int ((f i:Nat):Int)]:=by
 unfold toL;rw[wU,bW,bW];rfl
noncomputable def Ir(K:W.Frag):Sp:=fun vs H Q _=>∃(cp bC a r:Addr) (ns:List Int) (n b:Int) (ts:L0) (its:List (Addr×List Int)),vs=[.ref cp,.ref a,.ref r]/\cI K H cp bC ns b/\b<=800000000/\aZ K H a n ts/\sY K H r its/\its.map (·.2)=tX ts n.toNat/\its.length<=720/\r≠cp/\
 ∀H',aF cp H H'->cI K H' cp bC ns (b+720)->Q (.bl true) H'
theorem Od{f f1 f2 f3:Addr}{fd d1 d2 d3:ρ}(F:Fun K "_law_e_turns_right" "_law_e_turns_right" zby f fd)(D1:bQ K mg "is_way" rO ["web","other","some"] f1 d1)(G1:FnOk P w K mg base CX0 8 f1 d1 ["web","other","some"] (Q0 K))(D2:bQ K mg "_law_e_dip" Qv ["cup","many"] f2 d2)(G2:FnOk P w K mg base CX0 2 f2 d2 ["cup","many"] (rK K))(D3:bQ K mg "neighbours" fj ["web","place"] f3 d3)(G3:FnOk P w K mg base CX0 8 f3 d3 ["web","place"] (uZ K))(aX:mg "tuple"=none)(aB:mg "range"=none)(fZ:mg "sorted"=none)(jy:mg "list"=none)(aK:mg "len"=none):
  FnOk P w K mg base CX0 15 f fd ["cup","web","some"] (Ir K):=by
 refine F.dG ["cup","web","some","n","here","one","back","other","place"] fun cdv A outer s H vs Q E hr h=> ?_;obtain⟨cp,bC,a,r,ns,n,b,ts,its,rfl,hC,hb,hW,hT,hE,hl,Wd,q⟩:=h;refine bw ?_;intro Y;refine⟨_,(aV (pS 3 (bA eG (pv 1) aL)) (aV (pS 4 (pC rfl rfl aX rfl aB (aj (pv 3) ao))) (aV (ps_for Aa rfl (Mw (pe_slice sl_list (pv 2) po_none (po_some aL))) (pG 5) (aV (gZ (PW.pt (pw_or (dW FW (pc G1 hr D1 (aj (pv 1) (aj (pv 1) (aj (pv 5) ao)))) pe_bl) (pw_or1 (dW (vI hr.units) (pB wF fZ (aj (pv 5) ao)) (pT call_list_of jy (aj (pv 4) ao)))))) (bf (cD pe_bl)) iJ) (aV (pS 6 (pT Hi aX (aj (pK ["place"] ["one"] [5] (Cy (pv 4)) (pG 0) qz (Td (pv 1) (aj (pv 0) ao))) ao))) (aV (pS 7 (bA jf (pv 2) (pc G2 hr D2 (aj (pv 0) (aj (pB lR aK (aj (pv 2) ao)) ao))))) (aV (gZ (PW.pt (pw_or (dW (fL hr.units) (pv 6) (pv 2) (by with_unfolding_all rfl)) (pw_or1 (dW (fL hr.units) (pT Hi aX (aj (pK ["place"] ["one","other"] [5,7] (Cy (pv 4)) (pG 0) qz (bA (dU K) (pv 1) (bA (dU K) (pv 2) (pv 0)))) ao)) (pv 2) (by with_unfolding_all rfl))))) (bf (cD pe_bl)) iJ) (bf (ps_for Aa rfl (Cy (pv 4)) (pG 8) (bf (gZ (dW op_ne (pB lR aK (aj (pc G3 hr D3 (aj (pv 1) (aj (pv 8) ao))) ao)) (pB lR aK (aj (pc G3 hr D3 (aj (pv 1) (aj (bA eG (pv 5) (pv 8)) ao))) ao))) (bf (cD pe_bl)) iJ))))))))) (bf (cD (Hg (nT hr.units) (pv 4) (pv 2) (by with_unfolding_all rfl))))))),?_⟩;refine yP ?_;intro c4 c3 c2;have h0:=hW.h0;have h1:=hW.h1;have en:((n.toNat:Nat):Int)=n:=by omega
 have hp':au ((n.toNat:Nat):Int) ts:=by rw[en];exact hW.pk
 obtain⟨t0,rs0,w1,_,_⟩:=id hW.web;obtain⟨zc,hzc⟩:=hC.lst;refine⟨_,rfl,a,_,_,.int n,rfl,rfl,w1,rfl,?_⟩;refine⟨_,rfl,n,rfl,h0,by omega,fun he hhe=> ?_⟩;have s1:=aY hhe (.tup (cR n.toNat));have e1:SqT K (upd H he (.tup (cR n.toNat))) he ((cB n.toNat).map V.int):=by rw[<-Ng];exact SqT.of aJ
 have T1:=hT.same s1;have W1:=hW.same s1;have C1:=hC.same s1;have x1:=s1.x cp
 try dsimp only at s1 e1 T1 W1 C1 x1
 generalize upd H he (.tup (cR n.toNat))=H1 at *;refine⟨_,rfl,_,rfl,r,_,rfl,SqL.of T1.1,fun sl hsl=> ?_⟩;have nsc:sl≠cp:=by
  obtain⟨z1,hz1⟩:=C1.lst;exact dY hz1 hsl
 have s2:=aY hsl (.lst (cutV (its.map fun p=>V.ref p.1) none (some 40)));have e2:(upd H1 sl (.lst (cutV (its.map fun p=>V.ref p.1) none (some 40)))) sl=some (.lst (cutV (its.map fun p=>V.ref p.1) none (some 40))):=aJ;have zm:∀x∈cutV (its.map fun p=>V.ref p.1) none (some 40),∃p∈its,x=V.ref p.1:=fun x hx=>by
  unfold cutV at hx;obtain⟨p,hp,e⟩:=fG.mp (List.mem_of_mem_drop (List.mem_of_mem_take hx));exact⟨p,hp,e.symm⟩
 have zl:(cutV (its.map fun p=>V.ref p.1) none (some 40)).length<=720:=by
  have:=cutV_length (its.map fun p=>V.ref p.1) none (some 40);rw[aG]at this;omega
 have T2:=T1.same s2;have W2:=W1.same s2;have C2:=C1.same s2;have x2:=x1.trans (s2.x cp);have e2h:=s2.tup e1
 try dsimp only at s2 e2 T2 W2 C2 x2 e2h
 generalize upd H1 sl (.lst (cutV (its.map fun p=>V.ref p.1) none (some 40)))=H2 at *;generalize cutV (its.map fun p=>V.ref p.1) none (some 40)=zs at *;clear s1 s2 T1 W1 C1 x1 e1;obtain⟨zc2,hz2⟩:=C2.lst;refine⟨sl,_,rfl,SqL.of e2,fun hz=> ?_⟩;let gO:Nat->St->Hp->Prop:=fun j σ H'=>aF cp H2 H'/\cI K H' cp bC ns (b+(j:Int))/\∃o5 o6 o7 o8,σ=[some (.ref cp),some (.ref a),some (.ref r),some (.int n),some (.ref he),o5,o6,o7,o8];refine for_list (K:=K) (a:=sl) (xs:=zs) gO
  ⟨aF.refl _ _,C2.mono (by omega),_,_,_,_,rfl⟩ (fun j σ H' _ p=>SqL.of (p.1 _ _ nsc e2)) (fun j x σ H3 hx p=> ?_) (fun σ H3 p=> ?_)
 ·obtain⟨x3,c3,o5,o6,o7,o8,rfl⟩:=p;have hj:j<zs.length:=(lV.mp hx).1;obtain⟨⟨pa,ps⟩,hpi,rfl⟩:=zm x (qW hx);have hps:ps∈tX ts n.toNat:=by rw[<-hE];exact fG.mpr ⟨_,hpi,rfl⟩
  obtain⟨ff,gg,mv,rfl⟩:=fY hp' hps;have W3:=W2.bL x3 hz2;have T3:=T2.bL x3 hz2 Wd;have e3h:=x3.tup hz2 e2h;have k3:=T3.2 _ hpi;dsimp only at k3;have lead:=mv.leads h0 hW.pk;refine⟨_,rfl,_,rfl,_,rfl,a,a,pa,n,n,ts,ts,toL n.toNat ff,rfl,W3,W3,k3.1,fun H4 s4=>⟨_,_,rfl,rfl,_,rfl,?_⟩⟩;rw[lead];refine iteF ?_;have k4:=k3.same s4;have e4h:=s4.tup e3h;refine⟨_,rfl,true,pa,toL n.toNat ff,rfl,k4.1,by rw[Hh];omega,fun l5 ys YK hpm hso=> ?_⟩;have ey:ys=cB n.toNat:=Fj hpm hso mv.nd mv.perm;subst ey;have s5:=aY YK (.lst ((cB n.toNat).map V.int));refine⟨_,rfl,he,_,rfl,.inr (s5.tup e4h),fun l6 YJ=> ?_⟩;have s6:=aY YJ (.lst ((cB n.toNat).map V.int));refine⟨_,_,.lst (SqL.of (s6 _ _ aJ)) (bO.ints _),.lst (SqL.of aJ) (bO.ints _),qC _,qC _,Kg _ _,_,rfl,?_⟩;rw[Gs,dB rfl];refine iteF ?_;dsimp only[tNext];have Rg:=s4.trans (s5.trans s6);have x6:=x3.trans (Rg.x cp);have c6:=c3.same Rg;have W6:=W3.same Rg;have T6:=T3.same Rg;have Zx:=Rg.tup e3h;have k6:=k3.same Rg
  try dsimp only at Rg x6 c6 W6 T6 Zx k6
  generalize upd (upd H4 l5 (.lst ((cB n.toNat).map V.int))) l6 (.lst ((cB n.toNat).map V.int))=H6 at *;clear s4 s5 s6 Rg k4 e4h
  -- back
  refine⟨_,rfl,he,_,rfl,Zx,fun hz6=> ?_⟩;let sZ:Nat->List V->St->Hp->Prop:=fun i acc σ H'=>acc=(toL i gg).map V.int/\H'=H6/\∃o,σ=[o,some (.ref pa)];refine LR (xs:=(cB n.toNat).map V.int) sZ ⟨rfl,rfl,_,rfl⟩ (fun i acc σ H' _ p=>by rw[p.2.1];exact Zx) (fun i acc σ H' hi p=>by rw[p.1,aG,Hh];exact aN _) hz6 (fun i x acc σ H' hx p=> ?_) (fun acc σ H' p=> ?_)
  ·obtain⟨rfl,rfl,o,rfl⟩:=p;have hi:i<n.toNat:=by have:=(lV.mp hx).1;rwa [aG,HF]at this
   have exi:x= .int (i:Int):=by
    unfold cB at hx;rw[cU,cU,HW hi]at hx;cases hx;rfl
   subst exi;obtain⟨ob,ke,kd⟩:=k6.2 (fun z=>by have:=gq List.length z;rw[Hh]at this;simp at this;omega);refine⟨_,rfl,?_⟩;refine⟨pa,ob,_,rfl,ke,kd,toL n.toNat ff,rfl,_,rfl,(i:Int),rfl,ke,(mv.perm _).mpr (uT.mpr (by omega)),?_⟩;rw[Pk mv hi];refine⟨?_,rfl,_,rfl⟩;unfold toL;rw[wU,bW,bW];rfl
  ·obtain⟨rfl,rfl,o,rfl⟩:=p;intro l7 hl7;have ln:((cB n.toNat).map V.int).length=n.toNat:=by rw[aG,HF]
   rw[ln];have s7:=aY hl7 (.lst ((toL n.toNat gg).map V.int));refine⟨l7,_,rfl,.inl ⟨SqL.of aJ,fun t8 ht8=> ?_⟩⟩;have s8:=aY ht8 (.tup ((toL n.toNat gg).map V.int));have b8:SqT K (upd (upd H' l7 (.lst ((toL n.toNat gg).map V.int))) t8 (.tup ((toL n.toNat gg).map V.int))) t8 ((toL n.toNat gg).map V.int):=SqT.of aJ;have Fp:=s7.trans s8;have x8:=x6.trans (Fp.x cp);have c8:=c6.same Fp;have W8:=W6.same Fp;have T8:=T6.same Fp;have e8h:=Fp.tup Zx;have k8:=k6.same Fp
   try dsimp only at b8 Fp x8 c8 W8 T8 e8h k8
   generalize upd (upd H' l7 (.lst ((toL n.toNat gg).map V.int))) t8 (.tup ((toL n.toNat gg).map V.int))=H8 at *;clear s7 s8 Fp k6 Zx T6 W6 c6 x6;obtain⟨z8,hz8⟩:=c8.lst;have ip:0<its.length:=VB hpi;have il:((its.map fun p=>V.ref p.1).length:Int)=(its.length:Int):=by rw[aG]
   refine⟨_,rfl,_,rfl,_,rfl,r,_,rfl,.inl (SqL.of T8.1),fun _=>⟨cp,bC,ns,_,_,rfl,c8,by omega,by omega,by omega,fun d H9 d0 d1 x9 c9=> ?_⟩⟩;have dl:d.toNat<its.length:=by omega
   have ed:((d.toNat:Nat):Int)=d:=by omega
   obtain⟨⟨po,pt⟩,eq2⟩:∃q2,its[d.toNat]=q2:=⟨_,rfl⟩;have at9:atI (its.map fun p=>V.ref p.1) d=some (.ref po):=by
    have:=atI_nat (xs:=its.map fun p=>V.ref p.1) (j:=d.toNat) (v:=V.ref po) (by rw[cU,eO dl,eq2];rfl)
    rwa [ed]at this
   have hpo:(po,pt)∈its:=eq2▸zX dl;have x29:=x8.trans x9;have W9:=W8.bL x9 hz8;have T9:=T8.bL x9 hz8 Wd;have b9:=x9.tup hz8 b8;have e9h:=x9.tup hz8 e8h;have k9:=k8.bL x9 hz8;have kq:=T9.2 _ hpo;dsimp only at kq;have hpt:pt∈tX ts n.toNat:=by rw[<-hE];exact fG.mpr ⟨_,hpo,rfl⟩
   obtain⟨uu,vv,mu,rfl⟩:=fY hp' hpt;refine⟨r,_,d,_,rfl,rfl,SqL.of T9.1,at9,?_⟩;clear x8 c8 W8 T8 b8 e8h k8 x9;refine⟨_,rfl,_,rfl,r,_,_,_,rfl,.inl (SqL.of T9.1),qG T9.2,.tup b9 (bO.ints _),lW its,qC _,Ay _,_,rfl,?_⟩;rw[wJ,hE,dB mv.symm.mem];refine iteF ?_;refine⟨_,rfl,he,_,rfl,e9h,fun hz9=> ?_⟩;let Qn:Nat->List V->St->Hp->Prop:=fun i acc σ H'=>acc=(toL i fun k=>ff (uu k)).map V.int/\H'=H9/\∃o,σ=[o,some (.ref pa),some (.ref po)];refine LR (xs:=(cB n.toNat).map V.int) Qn ⟨rfl,rfl,_,rfl⟩ (fun i acc σ H' _ p=>by rw[p.2.1];exact e9h) (fun i acc σ H' hi p=>by rw[p.1,aG,Hh];exact aN _) hz9 (fun i x acc σ H' hx p=> ?_) (fun acc σ H' p=> ?_)
   ·obtain⟨rfl,rfl,o,rfl⟩:=p;obtain⟨hi,rfl⟩:=Rj hx;refine⟨_,rfl,_,rfl,_,rfl,po,_,_,_,rfl,rfl,kq.1,Cg hi,pa,_,_,_,rfl,rfl,k9.1,Cg (mu.fl i hi),?_⟩;exact⟨(toL_succ i _).symm,rfl,_,rfl⟩
   ·obtain⟨rfl,rfl,o,rfl⟩:=p;intro l10 YL;rw[ln];have Ny:=aY YL (.lst ((toL n.toNat fun k=>ff (uu k)).map V.int));refine⟨l10,_,rfl,.inl ⟨SqL.of aJ,fun t11 aas=> ?_⟩⟩;have Sy:=aY aas (.tup ((toL n.toNat fun k=>ff (uu k)).map V.int));have sb:=Ny.trans Sy;have Tb:=T9.same sb;refine⟨_,rfl,r,_,_,_,rfl,.inl (SqL.of Tb.1),qG Tb.2,.tup (SqT.of aJ) (bO.ints _),lW its,qC _,Ay _,_,rfl,?_⟩;rw[wJ,hE,dB (mu.trans mv).mem];refine iteF ?_;dsimp only[tNext];have xb:=x29.trans (sb.x cp);have cb:=c9.same sb;have Wb:=W9.same sb;have eb:=sb.tup e9h;have kb:=k9.same sb
    try dsimp only at xb cb Wb eb kb
    generalize upd (upd H' l10 (.lst ((toL n.toNat fun k=>ff (uu k)).map V.int))) t11 (.tup ((toL n.toNat fun k=>ff (uu k)).map V.int))=Hb at *;clear Ny Sy sb Tb x29 c9 W9 T9 b9 e9h k9 kq;refine⟨_,rfl,he,_,rfl,eb,fun hzb=> ?_⟩;let ZS:Nat->St->Hp->Prop:=fun i σ H'=>Same Hb H'/\∃o8,σ=[some (.ref cp),some (.ref a),some (.ref r),some (.int n),some (.ref he),some (.ref pa),some (.ref t8),some (.ref po),o8];refine for_tup (K:=K) (a:=he) (xs:=(cB n.toNat).map V.int) ZS ⟨Same.refl _,_,rfl⟩ (fun i σ H' _ p=>p.1.tup eb) (fun i x σ Hc hx p=> ?_) (fun σ Hc p=> ?_)
    ·obtain⟨sc,o8',rfl⟩:=p;obtain⟨hi,rfl⟩:=Rj hx;have Wc:=Wb.same sc;have kc:=kb.same sc;refine⟨_,rfl,_,rfl,a,n,(i:Int),ts,rfl,Wc.web,Wc.ok,⟨by omega,by omega⟩,h1,fun r13 H13 tO e13=>⟨r13,_,rfl,.inr (SqT.of e13),fun _=> ?_⟩⟩;have fi:=mv.fl i hi;refine⟨_,rfl,_,rfl,_,rfl,pa,_,_,_,rfl,rfl,tO.tup kc.1,Cg hi,a,n,((ff i:Nat):Int),ts,rfl,(Wc.same tO).web,Wc.ok,⟨by omega,by omega⟩,h1,fun r14 H14 V7 e14=>⟨r14,_,rfl,.inr (SqT.of e14),fun _=>⟨rfl,_,rfl,?_⟩⟩⟩;have dg:=mv.deg h0 hW.pk hi;rw[aG,aG,dg,dB rfl];refine iteF ?_;exact⟨sc.trans (tO.trans V7),_,rfl⟩
    ·obtain⟨sc,o8',rfl⟩:=p;exact⟨xb.trans (sc.x cp),(cb.same sc).mono (by push_cast;omega),_,_,_,_,rfl⟩
 ·obtain⟨x3,c3,o5,o6,o7,o8,rfl⟩:=p;have W3:=W2.bL x3 hz2;have T3:=T2.bL x3 hz2 Wd;have e3h:=x3.tup hz2 e2h;refine⟨_,rfl,_,rfl,r,_,_,_,rfl,.inl (SqL.of T3.1),qG T3.2,.tup e3h (bO.ints _),lW its,qC _,Ay _,?_⟩;rw[wJ,hE];have hm:cB n.toNat∈tX ts n.toNat:=by
   have:=(Mv.refl n.toNat ts).mem;exact this
  rw[dB hm];exact q _ (x2.trans x3) (c3.mono (by omega))
noncomputable def spLaw(K:W.Frag):Sp:=fun vs H Q _=>∃(a:Addr) (ns:List Int),vs=[.ref a]/\qd K H a ns/\ns.length<=63/\∀H',Q (.bl true) H'
theorem Jb{H:Hp}{a:Addr}{ns:List Int}(hl:ns.length<=63)(hO:Only H)(hS:SqL K H a (ns.map V.int)):spLaw K [.ref a] H (fun v _=>v= .bl true) fun _ _ _=>False:=by
 refine⟨a,ns,rfl,?_,hl,fun _=>rfl⟩;rcases hS with(h|⟨o,h⟩)|h
 ·rcases hO a with q|⟨o,xs,q⟩
  ·rw[q]at h;cases h
  ·rw[q]at h;cases h
 ·exact .inl ⟨o,h⟩
 ·exact .inr h
theorem Ip{H:Hp}{a p:Addr}{ns:List Int}(hS:qd K H a ns)(h63:ns.length<=63)(hp:H p=none):mZ K (upd H p (.lst [.ref a,.int 0,.int 0])) p a ns:=
 ⟨⟨0,0,aJ,tR _,tR _⟩,hS.same (aY hp _),h63⟩
noncomputable def aaf(K:W.Frag):List V->Hp->VK->Prop:=fun xs H Q=>∃p ys,xs=[.ref p]/\(SqL K H p ys\/SqT K H p ys)/\(ys.length<=16777216->Q (.int ys.length) H)
theorem Io{H:Hp}{tp bC:Addr}{ns:List Int}{k:Int}{r:St}{Q:Bool->Hp->Prop}(tv:mZ K H tp bC ns)(hQ:∀b,Q b H):
  tAnd (tTest (tOp (rI0 fun i j=> .bl (decide (j<i))) (tVar 2) (tC (.int 1)))) (tTest (tOp (rI0 fun i j=> .bl (decide (j<=i))) (tOp (rIxL K) (tVar 1) (tC (.int 1))) (tCB (aaf K) (tCons (tVar 0) tNil)))) (some (.ref bC)::some (.ref tp)::some (.int k)::r) H Q:=by
 obtain⟨⟨i,rr,hH,_,_⟩,hS,_⟩:=tv;refine⟨_,rfl,_,_,rfl,rfl,_,rfl,?_⟩;refine ite2 (fun c=> ?_) (fun c=>hQ _);exact⟨_,rfl,tp,_,_,.int i,rfl,rfl,SqL.of hH,rfl,_,rfl,bC,_,rfl,.inl hS.sq,fun _=>⟨_,_,rfl,rfl,_,rfl,hQ _⟩⟩
theorem Qh{H:Hp}{a p:Addr}{ns:List Int}(hS:qd K H a ns)(h63:ns.length<=63)(hp:H p=none):cI K (upd H p (.lst [.ref a,.int 0,.int 0])) p a ns 0:=
 ⟨Ip hS h63 hp,0,0,aJ,tR _⟩
theorem zy{m m':Nat}(h:m<=m'):∀{l l':Nat},l<=l'->Sw.cst m l<=Sw.cst m' l'
 |0,_,_=>dw _
 |l+1,0,h2=>by omega
 |l+1,l'+1,h2=>by
  show 1+m*Sw.cst m l<=1+m'*Sw.cst m' l';have:=Nat.mul_le_mul h (zy h (show l<=l' by omega));omega
theorem Kr{t:TT}{s u:TS}{D:Ends}{σ:St}{H:Hp}(I:Bool->Hp->Prop)(h1:∀N:Bool->Hp->Prop,(∀b H',I b H'->N b H')->t σ H N)(h2:∀b H',I b H'->if b=true then s D σ H' else u D σ H'):tIfS t s u D σ H:=h1 _ h2
theorem ZK{n:Nat}(h:n<=7):qO false (Sw.cst n n)<=16000000:=by
 have:Sw.cst n n<=Sw.cst 7 7:=zy h h;have e:Sw.cst 7 7<=16000000:=by decide+kernel
 unfold qO;rw[aq (by decide)];exact eN this e
noncomputable def Wn(f:Int×Nat):θ:= .tuple ([f.1,((f.2:Nat):Int)].map PyData.int)
theorem Ac.dv{H:Hp}{a:Addr}{f:Int×Nat}(h:Ac K H a f):DV K H (.ref a) (Wn f):= .tup (xs:=[f.1,((f.2:Nat):Int)].map V.int) h (bO.ints _)
theorem frD_eq(f:Int×Nat):PyData.eqv (Wn f) (Wn f)=true:=by unfold Wn;rw[oE,dB rfl]
theorem v8(f g:Int×Nat):min (Wn f).depth (Wn g).depth<=64:=zx _ _
theorem N7{n:Int}{ts:L0}(x y:Int)(x0:0<=x)(x1:x<n)(y0:0<=y)(y1:y<n)(ne:x≠y):ak (rows (xQ ts) n n.toNat) x y= !ak ts x y:=by
 have key:∀a b:Int,0<=a->a<b->b<n->decide ((a,b)∈rows (xQ ts) n n.toNat)= !decide ((a,b)∈ts):=fun a b h0 h1 h2=>by
  show _=xQ ts a b;rw[pY,decide_eq_true_iff,dZ];exact⟨fun z=>z.2.2.2.2,fun z=>⟨h0,by show a<_;omega,h1,h2,z⟩⟩
 unfold ak;by_cases c:y<x
 ·rw[aA c,aq (by omega)];exact key y x y0 c x1
 ·rw[aq c,aA (by omega)];exact key x y x0 (by omega) y1
theorem Ou{t k:Int}(h:(!(([0,k].map PyData.int).any fun d=>PyData.eqv d (.int t)))=true):t≠0/\t≠k:=by
 refine⟨fun e=> ?_,fun e=> ?_⟩
 ·subst e;simp[PyData.eqv]at h
 ·subst e;simp[PyData.eqv]at h
theorem Pa{n:Nat}{x:Int}{y:Nat}(h:(n:Int)*(y:Int)<=x*1):decide (x*((1:Nat):Int)<(n:Int)*(y:Int))=false:=fJ (by
 rw[show((1:Nat):Int)=1 from rfl];exact Int.not_lt.mpr h)
theorem ok_law{f f1 f2 f3 f4 f5 f6 f7 f8 f9 f10 f11 f12 f13 f14:Addr}{fd d1 d2 d3 d4 d5 d6 d7 d8 d9 d10 d11 d12 d13 d14:ρ}(F:Fun K "law" "law" o9 f fd)(D1:bQ K mg "_law_e_web" jm ["cup","most"] f1 d1)(G1:FnOk P w K mg base CX0 4 f1 d1 ["cup","most"] (Jc K))(D2:bQ K mg "_law_e_dip" Qv ["cup","many"] f2 d2)(G2:FnOk P w K mg base CX0 2 f2 d2 ["cup","many"] (rK K))(D3:bQ K mg "_law_e_round_web" zcj ["cup","n"] f3 d3)(G3:FnOk P w K mg base CX0 4 f3 d3 ["cup","n"] (Dl K))(D4:bQ K mg "_law_e_moved" zdb ["web","order"] f4 d4)(G4:FnOk P w K mg base CX0 1 f4 d4 ["web","order"] (u5 K))(D5:bQ K mg "_law_e_order" zda ["cup","n"] f5 d5)(G5:FnOk P w K mg base CX0 3 f5 d5 ["cup","n"] (uY K))(D6:bQ K mg "turnings" kY ["web"] f6 d6)(G6:FnOk P w K mg base CX0 14 f6 d6 ["web"] (xq K))(D7:bQ K mg "_law_e_turns_right" zby ["cup","web","some"] f7 d7)(G7:FnOk P w K mg base CX0 15 f7 d7 ["cup","web","some"] (Ir K))(D8:bQ K mg "value" vm ["web"] f8 d8)(G8:FnOk P w K mg base CX0 10 f8 d8 ["web"] (Di K))(D9:bQ K mg "is_alike" iz ["web"] f9 d9)(G9:FnOk P w K mg base CX0 15 f9 d9 ["web"] (u6 K))(D10:bQ K mg "alike_value" gJ ["web"] f10 d10)(G10:FnOk P w K mg base CX0 16 f10 d10 ["web"] (xP K))(D11:bQ K mg "way_into" kW ["web","other"] f11 d11)(G11:FnOk P w K mg base CX0 25 f11 d11 ["web","other"] (uy K))(D12:bQ K mg "is_less" nP ["one","other"] f12 d12)(G12:FnOk P w K mg base CX0 1 f12 d12 ["one","other"] (I9 K))(D13:bQ K mg "times" vo ["one","other"] f13 d13)(G13:FnOk P w K mg base CX0 3 f13 d13 ["one","other"] (Dj K))(D14:bQ K mg "other_web" jk ["web"] f14 d14)(G14:FnOk P w K mg base CX0 8 f14 d14 ["web"] (Dm K))(aB:mg "range"=none)(aK:mg "len"=none)(Yq:mg "int"=none):
  FnOk P w K mg base CX0 26 f fd ["script"] (spLaw K):=by
 refine F.dG ["script","cup","k","web","twin","some"] fun cdv A outer s H vs Q E hr h=> ?_;obtain⟨a,ns,rfl,hS,h63,q⟩:=h;refine bw ?_;intro Y;refine⟨_,(aV (pS 1 (Ad (aj (pv 0) (aj aL (aj aL ao))))) (aV (ps_for Aa rfl (wQ rfl aB (aj aL ao)) (pG 2) (aV (gZ (PW.pt (pw_and (dW op_gt (pv 2) aL) (pw_and1 (dW op_ge (bA jf (pv 1) aL) (pB lR aK (aj (pv 0) ao)))))) (bf ps_break) iJ) (aV (pS 3 (pc G1 hr D1 (aj (pv 1) (aj aL ao)))) (aV (gZ (dW op_eq (pc G2 hr D2 (aj (pv 1) (aj aL ao))) aL) (bf (pS 3 (pc G3 hr D3 (aj (pv 1) (aj (cu pQ aL (pc G2 hr D2 (aj (pv 1) (aj (cu pQ aL (pT call_int1 Yq (aj (Hg op_eq (pv 2) aL) ao))) ao)))) ao))))) iJ) (aV (pS 4 (pc G4 hr D4 (aj (pv 3) (aj (pc G5 hr D5 (aj (pv 1) (aj (bA eG (pv 3) aL) ao))) ao)))) (aV (gZ (PW.pt (pw_or (dW (fL hr.units) (pB lR aK (aj (bA eG (pv 3) aL) ao)) (Ad (aj aL (aj (cu op_fdiv (cu tQ (bA eG (pv 3) aL) (cu op_sub (bA eG (pv 3) aL) aL)) aL) ao))) (by with_unfolding_all rfl)) (pw_or1 (dW op_lt (bA eG (pv 3) aL) aL)))) (aV (pS 5 (pc G6 hr D6 (aj (pv 3) ao))) (bf (gZ (PW.pt (pw_or (pt_not (zU (pc G7 hr D7 (aj (pv 1) (aj (pv 3) (aj (pv 5) ao)))))) (pw_or1 (dW op_ne (pB lR aK (aj (pc G6 hr D6 (aj (pv 4) ao)) ao)) (pB lR aK (aj (pv 5) ao)))))) (bf (cD pe_bl)) iJ))) iJ) (aV (gZ (PW.pt (pw_or (dW op_ne (pc G9 hr D9 (aj (pv 4) ao)) (pc G9 hr D9 (aj (pv 3) ao))) (pw_or1 (dW (vI hr.units) (pc G8 hr D8 (aj (pv 4) ao)) (pc G8 hr D8 (aj (pv 3) ao)))))) (bf (cD pe_bl)) iJ) (aV (gZ (dW (vI hr.units) (pc G10 hr D10 (aj (pv 4) ao)) (pc G10 hr D10 (aj (pv 3) ao))) (bf (cD pe_bl)) iJ) (aV (gZ (PW.pt (pw_or (dW op_isN (pc G11 hr D11 (aj (pv 3) (aj (pv 4) ao))) pe_non) (pw_or1 (dW op_isN (pc G11 hr D11 (aj (pv 4) (aj (pv 3) ao))) pe_non)))) (bf (cD pe_bl)) iJ) (bf (gZ (zU (pc G9 hr D9 (aj (pv 3) ao))) (aV (gZ (dW (vI hr.units) (pc G10 hr D10 (aj (pv 3) ao)) (pc G8 hr D8 (aj (pv 3) ao))) (bf (cD pe_bl)) iJ) (bf (gZ (zU (pc G12 hr D12 (aj (pc G13 hr D13 (aj (pc G8 hr D8 (aj (pv 3) ao)) (aj (pc G8 hr D8 (aj (pc G14 hr D14 (aj (pv 3) ao)) ao)) ao))) (aj (qu (aj (bA eG (pv 3) aL) (aj aL ao))) ao)))) (bf (cD pe_bl)) iJ))) iJ))))))))))) (bf (cD pe_bl)))),?_⟩;refine jA ?_;intro c3 c2;refine⟨_,rfl,(by show 3<=sizeLine;decide),fun cp hcp=> ?_⟩;have c0:=Qh hS h63 hcp;dsimp only;refine⟨3,rfl,by decide,by decide,?_⟩;let gO:Nat->St->Hp->Prop:=fun k σ H'=>cI K H' cp a ns (2000*(k:Int))/\∃b2 b3 b4 b5,σ=[some (.ref a),some (.ref cp),b2,b3,b4,b5];refine Mx (n:=3) gO ⟨c0.mono (by omega),_,_,_,_,rfl⟩ (fun k σ H' hk p=> ?_) (fun σ H' p=>q H');obtain⟨c,b2,b3,b4,b5,rfl⟩:=p;refine Io (K:=K) (r:=[b3,b4,b5]) c.tv (fun b=> ?_);cases b with
 |true=>exact q H'
 |false=>
  refine iteF ?_;dsimp only[tNext];refine vh (fun σ' H'=>∃(wb:Addr) (n:Int) (ts:L0),σ'=[some (.ref a),some (.ref cp),some (.int (0+(k:Int))),some (.ref wb),b4,b5]/\cI K H' cp a ns (2000*(k:Int)+121)/\aZ K H' wb n ts/\n<=5) (fun N hN=> ?_) ?_
  ·exact⟨_,rfl,cp,a,ns,5,_,rfl,c,by omega,by decide,by decide,fun wb n ts H3 x3 c3 W hn=>hN _ _ ⟨wb,n,ts,rfl,c3.mono (by omega),W,hn⟩⟩
  rintro σ' H2 ⟨wb,n,ts,rfl,c2,hW,n5⟩
  try dsimp only
  refine vh (fun σ' H'=>∃(wb:Addr) (n:Int) (ts:L0),σ'=[some (.ref a),some (.ref cp),some (.int (0+(k:Int))),some (.ref wb),b4,b5]/\cI K H' cp a ns (2000*(k:Int)+200)/\aZ K H' wb n ts/\n<=7/\(n=7->∃ys xs:List Int,xs.Perm (cB 7)/\ts.Perm ((rows (nG 7 ys) 7 7).map (mp xs)))) (fun N hN=> ?_) ?_
  ·obtain⟨z2,hz2⟩:=c2.lst;refine⟨_,rfl,cp,a,ns,2,_,rfl,c2,by omega,by decide,by decide,fun d H3 d0 d1 x3 c3=>⟨rfl,_,rfl,?_⟩⟩;refine ite2 (fun e=> ?_) (fun e=>hN _ _ ⟨wb,n,ts,rfl,c3.mono (by omega),hW.bL x3 hz2,by omega,fun z=>by omega⟩);have hm:(4:Int)<=4+(if decide (V.int (0+(k:Int))=V.int 0)=true then 1 else 0)/\4+(if decide (V.int (0+(k:Int))=V.int 0)=true then 1 else 0)<=(5:Int):=by split<;>omega
   refine⟨_,rfl,_,rfl,_,rfl,rfl,.inr ⟨_,rfl,_,_,rfl,rfl,cp,a,ns,_,_,rfl,c3,by omega,Int.lt_of_lt_of_le (by decide) hm.1,Int.lt_of_le_of_lt hm.2 (by decide),fun e H4 e0 e1 x4 c4=> ?_⟩⟩;have e5:=Int.lt_of_lt_of_le e1 hm.2;refine⟨_,_,rfl,rfl,cp,a,ns,3+e,_,rfl,c4,by omega,by omega,by omega,fun wb' ts' H5 x5 c5 W5 hc=>hN _ _ ⟨wb',3+e,ts',rfl,c5.mono (by omega),W5,by omega,fun e7=> ?_⟩⟩;rw[e7]at hc;exact hc
  clear hW c2 ts n wb n5;rintro σ' H3 ⟨wb,n,ts,rfl,c3,hW,n7,hc⟩
  try dsimp only
  obtain⟨m,rfl⟩:=Int.eq_ofNat_of_zero_le hW.h0;obtain⟨z3,hz3⟩:=c3.lst;obtain⟨t,rs,w1,w2,w3⟩:=id hW.web;refine⟨_,rfl,_,rfl,_,rfl,wb,_,_,.int (m:Int),rfl,rfl,w1,rfl,cp,a,ns,(m:Int),_,rfl,c3,by omega,hW.h0,hW.h1,fun o xs H4 x4 c4 ho hx=> ?_⟩;refine⟨wb,o,(m:Int),ts,xs,rfl,hW.bL x4 hz3,ho,hx,fun tw us H5 s5 hU hu=> ?_⟩;have hp:au ((m:Nat):Int) ts:=hW.pk;have hq:au ((m:Nat):Int) us:=hU.pk;obtain⟨f',g',mv,_⟩:=yw hp hx hu;have W5:=(hW.bL x4 hz3).same s5;have c5:=c4.same s5;have hlt:rs.length=ts.length:=by have:=w3.len;rwa [aG]at this
  clear hz3 c3 x4 c4 ho s5 hW w1 w2 w3;dsimp only[gName,List.set];refine vh (fun σ' H'=>∃b5,σ'=[some (.ref a),some (.ref cp),some (.int (0+(k:Int))),some (.ref wb),some (.ref tw),b5]/\cI K H' cp a ns (2000*(k:Int)+1000)/\aZ K H' wb (m:Int) ts/\aZ K H' tw (m:Int) us) (fun N hN=> ?_) ?_
  ·refine Kr (fun b H'=>Same H5 H'/\(b=true->(bH (iY ts) m m []).length<=720)) (fun N' hN'=> ?_) ?_
   ·obtain⟨t,rs',w1,w2,w3⟩:=id W5.web;have n0:=W5.h0;have hl':rs'.length=ts.length:=by have:=w3.len;rwa [aG]at this
    refine⟨_,rfl,wb,_,_,.ref t,rfl,rfl,w1,rfl,t,rs',rfl,.inr w2,fun _=> ?_⟩;refine⟨_,rfl,wb,_,_,.int (m:Int),rfl,rfl,w1,rfl,_,rfl,wb,_,_,.int (m:Int),rfl,rfl,w1,rfl,_,_,rfl,rfl,_,_,rfl,rfl,.inl ⟨by omega,by omega⟩,_,_,rfl,rfl,⟨by decide,by decide⟩,(by show 2<=sizeLine;decide),fun l hl=> ?_⟩;have s6:=aY hl (.lst [.int 0,.int ((m:Int)*((m:Int)-1)/2)]);refine⟨l,_,[0,(m:Int)*((m:Int)-1)/2].map PyData.int,.int _,rfl,.inl (SqL.of aJ),bO.ints [0,(m:Int)*((m:Int)-1)/2],.int _,qC _,rfl,(by show 0<=60;decide),_,rfl,?_⟩;by_cases c7:m=7
    ·refine ite2 (fun e=>hN' _ _ ⟨s6,fun _=> ?_⟩) (fun e=> ?_)
     ·subst c7;have nt:=Ou e;rw[hl']at nt;obtain⟨ys,xs',hx',hu'⟩:=hc rfl;rw[trn_eq hp];exact SN hx' hp hu' (by omega) (by have:=nt.2;omega)
     ·refine⟨_,rfl,wb,_,_,.int (m:Int),rfl,rfl,s6.tup w1,rfl,_,_,rfl,rfl,_,rfl,?_⟩;rw[fJ (by omega)];exact hN' _ _ ⟨s6,fun z=>nomatch z⟩
    ·refine ite2 (fun e=>hN' _ _ ⟨s6,fun _=>compl_720 ts (by omega)⟩) (fun e=> ?_);exact⟨_,rfl,wb,_,_,.int (m:Int),rfl,rfl,s6.tup w1,rfl,_,_,rfl,rfl,_,rfl,hN' _ _ ⟨s6,fun _=>compl_720 ts (by omega)⟩⟩
   ·rintro b H6 ⟨s6,few⟩;have W6:=W5.same s6;have U6:=hU.same s6;have c6:=c5.same s6;refine ite2 (fun e=> ?_) (fun e=>hN _ _ ⟨_,rfl,c6.mono (by omega),W6,U6⟩);have Zu:=few e;obtain⟨z6,hz6⟩:=c6.lst;refine⟨_,rfl,wb,(m:Int),ts,rfl,W6,Zu,fun r its H7 s7 T7 e7 hr7=> ?_⟩;have e7':its.map (·.2)=tX ts m:=e7.trans (trn_eq hp);have il:its.length=(tX ts m).length:=by rw[<-e7',aG]
    have aaC:(tX ts m).length<=720:=by rw[<-trn_eq hp];exact Zu
    have Wd:r≠cp:=dY hz6 hr7;have c7:=c6.same s7;obtain⟨z7,hz7⟩:=c7.lst;refine⟨_,rfl,_,rfl,_,rfl,cp,a,wb,r,ns,(m:Int),_,ts,its,rfl,c7,by omega,W6.same s7,T7,e7',by omega,Wd,fun H8 x8 c8=>⟨_,rfl,?_⟩⟩;refine iteF ?_;have aaB:(bH (iY us) m m []).length<=720:=by rw[trn_eq hq,<-uV hp hq mv];exact aaC
    have W8:=(W6.same s7).bL x8 hz7;have U8:=(U6.same s7).bL x8 hz7;have T8:=T7.bL x8 hz7 Wd;refine⟨_,rfl,tw,(m:Int),us,rfl,U8,aaB,fun r2 its2 H9 s9 T9 e9 _=>⟨r2,_,rfl,.inl (SqL.of T9.1),fun _=>⟨_,rfl,r,_,rfl,.inl (SqL.of (T8.same s9).1),fun _=>⟨rfl,_,rfl,?_⟩⟩⟩⟩;have e9':its2.map (·.2)=tX us m:=e9.trans (trn_eq hq);have il2:its2.length=its.length:=by rw[il,uV hp hq mv,<-e9',aG]
    rw[aG,aG,il2,dB rfl];refine iteF ?_;exact hN _ _ ⟨_,rfl,(c8.same s9).mono (by omega),W8.same s9,U8.same s9⟩
  clear hU W5 c5 hx hu;rintro σ' H6 ⟨b5',rfl,c6,W6,U6⟩
  try dsimp only
  refine⟨_,rfl,tw,(m:Int),us,rfl,U6,fun H7 s7=>⟨_,rfl,wb,(m:Int),ts,rfl,W6.same s7,fun H8 s8=>⟨rfl,_,rfl,?_⟩⟩⟩;have als:bM us m=bM ts m:=(Ck hp hq mv).symm;rw[show bM us (Int.toNat (m:Int))=bM ts (Int.toNat (m:Int))from als,dB rfl];refine iteF ?_;have Fp:=s7.trans s8;refine⟨_,rfl,tw,(m:Int),us,rfl,U6.same Fp,fun va sa oa Za Ya Xa H9 s9 F9 Sa V5=>⟨_,rfl,wb,(m:Int),ts,rfl,(W6.same Fp).same s9,fun vb sb ob Zb Yb Xb H10 Ny F10 Sb shb=> ?_⟩⟩;have Sa':bh sa us false m:=Sa;have Sb':bh sb ts false m:=Sb;have Nr:Sh m sa (iV m) oa Za Ya Xa:=V5;have Nq:Sh m sb (iV m) ob Zb Yb Xb:=shb;clear Sa Sb V5 shb;have ev:bR Za oa=bR Zb ob:=RZ hq hp mv.symm Sa' Nr Sb' Nq;rw[ev]at F9;have F9':Ac K H10 va (bR Zb ob):=Ny.tup F9;refine⟨_,_,F9'.dv,F10.dv,qC _,qC _,v8 _ _,_,rfl,?_⟩;rw[frD_eq];refine iteF ?_;dsimp only[tNext];have s6a:=Fp.trans (s9.trans Ny);have ZJ:=c6.same s6a;have W10:=W6.same s6a;have U10:=U6.same s6a;clear F9 F9' F10 s6a Fp s7 s8 s9 Ny c6 W6 U6;refine Kr (fun b H'=>b=false/\Same H10 H') (fun N hN=> ?_) ?_
  ·refine⟨_,rfl,tw,(m:Int),us,rfl,U10,(fun hf H7 s7=> ?_),(fun ht p1 H7 u1 v1 l1 s7 hp1 hm1 lo1=> ?_)⟩
   ·have hf':bM ts m=false:=als▸hf;refine⟨_,rfl,wb,(m:Int),ts,rfl,W10.same s7,(fun _ H8 s8=> ?_),(fun ht=>absurd (hf'.symm.trans ht) (by decide))⟩;exact⟨_,_,.non,.non,rfl,rfl,(by decide),_,rfl,hN _ _ ⟨rfl,s7.trans s8⟩⟩
   ·have ht':bM ts m=true:=als▸ht;refine⟨_,rfl,wb,(m:Int),ts,rfl,W10.same s7,(fun hf=>absurd (ht'.symm.trans hf) (by decide)),(fun _ p2 H8 u2 v2 l2 s8 hp2 hm2 lo2=> ?_)⟩;have q1:=low_eq Nr.pos (by omega) (Ma Za Nr.pos) lo1 (big_eq hq ht hm1 Sa' Nr);have q2:=low_eq Nq.pos (by omega) (Ma Zb Nq.pos) lo2 (big_eq hp ht' hm2 Sb' Nq);rw[ev]at q1;have z1:Ac K H8 p1 (bR Zb ob):=by unfold Ac;rw[q1.1,q1.2];exact SqT.of (s8 _ _ hp1)
    have z2:Ac K H8 p2 (bR Zb ob):=by unfold Ac;rw[q2.1,q2.2];exact SqT.of hp2
    refine⟨_,_,z1.dv,z2.dv,qC _,qC _,v8 _ _,_,rfl,?_⟩;rw[frD_eq];exact hN _ _ ⟨rfl,s7.trans s8⟩
  rintro b H11 ⟨rfl,Sy⟩;refine iteF ?_;dsimp only[tNext];have Wt:=W10.same Sy;have U11:=U10.same Sy;have c11:=ZJ.same Sy;clear W10 U10 ZJ Sy;have m7:m<=7:=by omega
  refine⟨_,rfl,_,rfl,wb,tw,(m:Int),(m:Int),ts,us,false,rfl,Wt,U11,(fun z=>nomatch z),ZK m7,fun v1 H12 s12 hv1=> ?_⟩;rcases hv1 with⟨_,no⟩|⟨r1,y1,rfl,_,_⟩
  ·exact absurd ⟨_,mv.leads Wt.h0 hp⟩ no
  refine⟨rfl,_,rfl,?_⟩;rw[fJ (fun z=>by cases z)];refine iteF ?_;refine⟨_,rfl,_,rfl,tw,wb,(m:Int),(m:Int),us,ts,false,rfl,U11.same s12,Wt.same s12,(fun z=>nomatch z),ZK m7,fun v1 H13 tO hv1=> ?_⟩;rcases hv1 with⟨_,no⟩|⟨r2,y2,rfl,_,_⟩
  ·exact absurd ⟨_,mv.symm.leads Wt.h0 hq⟩ no
  refine⟨rfl,_,rfl,?_⟩;rw[fJ (fun z=>by cases z)];refine iteF ?_;dsimp only[tNext];have W13:=Wt.same (s12.trans tO);have c13:=c11.same (s12.trans tO);clear Wt U11 c11 s12 tO;refine⟨_,rfl,wb,(m:Int),ts,rfl,W13,fun H14 V7=>⟨_,rfl,?_⟩⟩;refine ite2 (fun al=> ?_) (fun _=>⟨(c13.same V7).mono (by omega),_,_,_,_,rfl⟩);have al':bM ts m=true:=al;have W14:=W13.same V7;have c14:=c13.same V7;refine⟨_,rfl,wb,(m:Int),ts,rfl,W14,(fun hf=>absurd (al'.symm.trans hf) (by decide)),(fun _ p1 H15 u1 v1 l1 s15 hp1 hm1 lo1=> ?_)⟩;refine⟨_,rfl,wb,(m:Int),ts,rfl,W14.same s15,fun va sa oa Za Ya Xa H16 s16 F16 Sa V5=> ?_⟩;have q1:=low_eq V5.pos (by omega) (Ma Za V5.pos) lo1 (big_eq hp al' hm1 Sa V5);have z1:Ac K H16 p1 (bR Za oa):=by unfold Ac;rw[q1.1,q1.2];exact SqT.of (s16 _ _ hp1)
  refine⟨_,_,z1.dv,F16.dv,qC _,qC _,v8 _ _,_,rfl,?_⟩;rw[frD_eq];refine iteF ?_;dsimp only[tNext];have Ry:=W14.same (s15.trans s16);have c16:=c14.same (s15.trans s16);clear z1 F16 q1 s15 s16 V7 W14 W13 c14 c13;refine⟨_,rfl,wb,(m:Int),ts,rfl,Ry,fun vc sc oc Zc Yc Xc H17 s17 F17 Sc Rf=> ?_⟩;refine⟨_,rfl,wb,(m:Int),ts,rfl,Ry.same s17,fun ow H18 s18 hO=> ?_⟩;have hw:=j8 Ry.h0 Ry.h1 (lY (xQ ts) (m:Int) m);refine⟨ow,(m:Int),_,rfl,⟨hO,Ry.h0,Ry.h1,hw.1,hw.2⟩,fun vd sd od Zd Yd Xd H19 s19 F19 Sd shd=> ?_⟩;have lc:=Ma Zc Rf.pos;have ld:=Ma Zd shd.pos;have bc:=big_eq hp al' hm1 Sc Rf;have zn:0<=Zc:=by rw[<-Rf.tot];exact Sx.uE _ fun i _=>Rf.yn i
  have un:=lc.nn zn;have s1:0<max l1.length 1:=by omega
  have zd:0<=Zd:=by rw[<-shd.tot];exact Sx.uE _ fun i _=>shd.yn i
  have ud:=ld.nn zd;have m10:(m:Int)<=10:=Ry.h1;have zb:Zc<=399168000:=by
   have z1:Zc*1<=Zc*((max l1.length 1:Nat):Int):=MP (by omega) zn;rw[bc,RJ]at z1;have o2:(m:Int)*(oc:Int)<=10*39916800:=Int.mul_le_mul m10 (by have:=Rf.big;omega) (by omega) (by decide);omega
  have cm1:CMul (bR Zc oc).1 (bR Zd od).1:= .inl ⟨by omega,by have:=lc.lu;omega⟩;have cm2:CMul (((bR Zc oc).2:Nat):Int) (((bR Zd od).2:Nat):Int):= .inl ⟨by omega,by have:=lc.lv;have:=Rf.big;omega⟩;refine⟨vc,vd,_,_,_,_,rfl,(s18.trans s19).tup F17,F19,cm1,cm2,Nat.mul_pos lc.pos ld.pos,eN (Nat.mul_le_mul (eN lc.lv Rf.big) (eN ld.lv shd.big)) (by decide),fun r7 H20 x y s20 h20 lx=> ?_⟩;have s1a:=s17.trans (s18.trans (s19.trans s20));obtain⟨t',rs',w1',_,_⟩:=id (Ry.same s1a).web;refine⟨_,rfl,wb,_,_,.int (m:Int),rfl,rfl,w1',rfl,(by show 2<=sizeLine;decide),fun t2 ht2=> ?_⟩;have s21:=aY ht2 (.tup [.int (m:Int),.int 1]);refine⟨r7,t2,x,(m:Int),y,1,rfl,SqT.of (s21 _ _ h20),SqT.of aJ,.inr ⟨by decide,by decide⟩,.inl ⟨by omega,by omega⟩,_,rfl,?_⟩;have ge:(m:Int)*(y:Int)<=x*1:=by
   by_cases m0:m=0
   ·subst m0;have:=lx.nn (Ho un ud);rw[RJ];simpa using this
   ·have l0:1<=l1.length:=(sE hm1).2 [0] ⟨RP _ _,fun x hx=>by rw[fO.mp hx];exact⟨tR _,by omega⟩,fun x hx y hy hne=>absurd (by rw[fO.mp hx,fO.mp hy]) hne⟩;refine NZ (al:=max l1.length 1) s1 Rf.pos shd.pos lc ld bc ?_ un lx;rw[show max l1.length 1=l1.length from by omega];exact Tf hp hw.1 N7 (sE hm1).1 Sd shd
  rw[Pa ge];refine iteF ?_;exact⟨((c16.same s1a).same s21).mono (by omega),_,_,_,_,rfl⟩
end
end Hs
namespace L2
open PySem
section
variable{K:W.Frag}{x y:Str}{st:Stmt}{f C:Addr}{fd:ρ}{oc:ζ}{od an:Option Addr}{osl:Array (Option ζ)}{kV doc pm cdv ct:ζ}{mg:L4}{h:Heap}
noncomputable def DA(K:W.Frag)(x:Str)(st:Stmt)(f:Addr):Prop:=∃fd,Fun K x x st f fd/\PySem.W.nsIn K mainGlobals x=some (some (.ref f))
theorem DA.of(a:PySem.W.nsIn K mainGlobals x=some (some (.ref f)):=by k_is)(l:K.lookup f=some ⟨oc,od,.func (PySem.W.fnOf x x (defArgs st) (defBody st) (defScope st) .none kV doc pm an cdv ct),osl⟩:=by k_is)(c:PySem.W.codeIn K cdv x=true:=by k_is)(k:PySem.W.keepIn K (.ref f)=true:=by k_is):DA K x st f:=⟨_,fun_mk l c k,a⟩
noncomputable def MA(K:W.Frag)(C:Addr)(x y:Str)(st:Stmt)(f:Addr):Prop:=∃fd,Fun K x y st f fd/\PySem.W.findIn K (.ref C) x=some (some (.ref f))/\PySem.W.isFn K (.ref f)=true/\PySem.W.keepIn K (.ref f)=true
theorem MA.of(a:PySem.W.findIn K (.ref C) x=some (some (.ref f)):=by k_is)(l:K.lookup f=some ⟨oc,od,.func (PySem.W.fnOf x y (defArgs st) (defBody st) (defScope st) .none kV doc pm an cdv ct),osl⟩:=by k_is)(c:PySem.W.codeIn K cdv y=true:=by k_is)(k:PySem.W.keepIn K (.ref f)=true:=by k_is)(i:PySem.W.isFn K (.ref f)=true:=by k_is):MA K C x y st f:=⟨_,fun_mk l c k,a,i,k⟩
theorem DA.d{ps:List Str}(X:K.In h)(G:h.Ns mainGlobals mg)(F:Fun K x x st f fd)(a:PySem.W.nsIn K mainGlobals x=some (some (.ref f)))(b:∀(kV doc pm:ζ) (an:Option Addr) (cdv ct:ζ) (us:List ζ),us.length=ps.length->bindArgs (PySem.W.fnOf x x (defArgs st) (defBody st) (defScope st) .none kV doc pm an cdv ct) ⟨us,[]⟩=pure (ps.zip us)):bQ K mg x st ps f fd:=⟨F,F.binds b,PySem.W.mg_of X G a⟩
theorem MA.d{ps:List Str}(F:Fun K x y st f fd)(a:PySem.W.findIn K (.ref C) x=some (some (.ref f))/\PySem.W.isFn K (.ref f)=true/\PySem.W.keepIn K (.ref f)=true)(b:∀(kV doc pm:ζ) (an:Option Addr) (cdv ct:ζ) (us:List ζ),us.length=ps.length->bindArgs (PySem.W.fnOf x y (defArgs st) (defBody st) (defScope st) .none kV doc pm an cdv ct) ⟨us,[]⟩=pure (ps.zip us)):qg K C x y st ps f fd:=⟨F,F.binds b,⟨a.1,a.2.1,a.2.2⟩⟩
theorem wX{p1:Str}{P:List ζ->Prop}(h:∀a,P [a])(us:List ζ)(hl:us.length=[p1].length):P us:=by
 match us,hl with
 |[a],_=>exact h a
theorem nH{p1 p2:Str}{P:List ζ->Prop}(h:∀a b,P [a,b])(us:List ζ)(hl:us.length=[p1,p2].length):P us:=by
 match us,hl with
 |[a,b],_=>exact h a b
theorem Lf{p1 p2 p3:Str}{P:List ζ->Prop}(h:∀a b c,P [a,b,c])(us:List ζ)(hl:us.length=[p1,p2,p3].length):P us:=by
 match us,hl with
 |[a,b,c],_=>exact h a b c
theorem bn4{p1 p2 p3 p4:Str}{P:List ζ->Prop}(h:∀a b c d,P [a,b,c,d])(us:List ζ)(hl:us.length=[p1,p2,p3,p4].length):P us:=by
 match us,hl with
 |[a,b,c,d],_=>exact h a b c d
end
end L2
namespace Hs
open PySem L2 lQ
theorem all_mk{l:W.OpenLaw}{w:τ}{K:W.Frag}{h:Heap}{mg:L4}{fa:Addr}(X:K.In h)(G:h.Ns mainGlobals mg)(hfa:mg "law"=some (.ref fa))
  {f0 f1 f2 f3 f4 f5 f6 f7 f8 f9 f10 f11 f12 f13 f14 f15 f16 f17 f18 f19 f20 f21 f22 f23 f24 f25 f26 f27 f28 f29 f30 f31 f32 f33 f34 f35 f36 f37 f38 f39 f40 f41 f42 f43 f44 mf0 mf1 mf2 mf3 mf4 mf5 mf6 mf7 mf8 mf9 aap aao aan aam aal:Addr}{f45:Addr}{aai ZM:Option Addr}{aae:Array (Option ζ)}{aaj Yw Zy Ye Vi Zz:ζ}{tk0:Tok}{tk1:Tok}{tk2:Tok}{aR:Addr}{aD:Addr}(a0:DA K "is_whole" fV f0)(a1:DA K "is_place" iy f1)(a2:DA K "are_places" fB f2)(a3:DA K "is_rising" gA f3)(a4:DA K "is_set" rP f4)(a5:DA K "are_ties" kZ f5)(a6:DA K "is_web" rN f6)(a7:DA K "need_web" HN f7)(a8:DA K "need_place" iu f8)(a9:DA K "pairs" vq f9)(a10:DA K "has_tie" fK f10)(a11:DA K "neighbours" fj f11)(a12:DA K "places_by_tie" zdf f12)(a13:DA K "in_both" nQ f13)(a14:DA K "full_sets" jo f14)(a15:DA K "full_apart" fu f15)(a16:DA K "first_greatest" zcv f16)(a17:DA K "greatest_apart" zcu f17)(a18:DA K "greatest_divisor" zca f18)(a19:DA K "lowest" fQ f19)(a20:DA K "times" vo f20)(a21:DA K "is_less" nP f21)(a22:DA K "count_ties_at" zdg f22)(a23:DA K "can_go_on" Wy f23)(a24:DA K "turnings_from" Qx f24)(a25:DA K "turnings" kY f25)(a26:DA K "leads_first_to" zct f26)(a27:DA K "is_alike" iz f27)(a28:DA K "alike_value" gJ f28)(a29:DA K "other_web" jk f29)(a30:DA K "need_wants" ig f30)(a31:DA K "shares" rM f31)(a32:DA K "value" vm f32)(a33:DA K "are_left_open" WL f33)(a34:DA K "count_images" WD f34)(a35:DA K "way_into" kW f35)(a36:DA K "is_way" rO f36)(a37:DA K "_law_e_stir" iw f37)(a38:DA K "_law_e_dip" Qv f38)(a39:DA K "_law_e_web_of" fU f39)(a40:DA K "_law_e_web" jm f40)(a41:DA K "_law_e_moved" zdb f41)(a42:DA K "_law_e_order" zda f42)(a43:DA K "_law_e_round_web" zcj f43)(a44:DA K "_law_e_turns_right" zby f44)(a45:W.nsIn K mainGlobals "law"=some (some (.ref f45)))(l45:K.lookup f45=some ⟨aaj,aai,.func (W.fnOf "law" "law" (defArgs o9) (defBody o9) (defScope o9) .none Yw Zy Ye ZM Vi Zz),aae⟩)(c45:W.codeIn K Vi "law"=true)(k45:W.keepIn K (.ref f45)=true)(x0:W.nsIn K mainGlobals "MOST_PLACES"=some (some (.int 10 tk0)))(x1:W.nsIn K mainGlobals "MOST_TURNINGS"=some (some (.int 720 tk1)))(x2:W.nsIn K mainGlobals "MOST_WANT"=some (some (.int 99 tk2)))(z0:W.nsIn K mainGlobals "abs"=some none)(z1:W.nsIn K mainGlobals "all"=some none)(z2:W.nsIn K mainGlobals "bool"=some none)(z3:W.nsIn K mainGlobals "enumerate"=some none)(z4:W.nsIn K mainGlobals "int"=some none)(z5:W.nsIn K mainGlobals "isinstance"=some none)(z6:W.nsIn K mainGlobals "len"=some none)(z7:W.nsIn K mainGlobals "list"=some none)(z8:W.nsIn K mainGlobals "max"=some none)(z9:W.nsIn K mainGlobals "min"=some none)(z10:W.nsIn K mainGlobals "range"=some none)(z11:W.nsIn K mainGlobals "sorted"=some none)(z12:W.nsIn K mainGlobals "tuple"=some none)(y0:W.nsIn K mainGlobals "Search"=some (some (.ref aR)))(y1:W.nsIn K mainGlobals "Tableau"=some (some (.ref aD)))(Yp:MA K aR "__init__" "Search.__init__" gK mf0)(ma1:MA K aR "images_left" "Search.images_left" zbv mf1)(ma2:MA K aR "state_behind" "Search.state_behind" WM mf2)(ma3:MA K aR "lead_first" "Search.lead_first" RG mf3)(ma4:MA K aR "lead" "Search.lead" Qw mf4)(Yo:MA K aD "__init__" "Tableau.__init__" fX mf5)(ma6:MA K aD "next_column" "Tableau.next_column" zbr mf6)(ma7:MA K aD "is_tighter" "Tableau.is_tighter" zbu mf7)(ma8:MA K aD "next_row" "Tableau.next_row" zcd mf8)(ma9:MA K aD "turned" "Tableau.turned" zcw mf9)(Um:MA K aD "turn" "Tableau.turn" fW aap)(Ul:MA K aD "solve" "Tableau.solve" zdi aao)(Uk:MA K aD "fraction_at" "Tableau.fraction_at" WQ aan)(Uj:MA K aD "price_of" "Tableau.price_of" zcc aam)(Ui:MA K aD "share_of" "Tableau.share_of" zcb aal)(GQ:W.plainGet K aR Str.empty=true)(GK:W.hasDictIn K aR=true)(GJ:W.plainOver K aR=true)(GF:W.findIn K (.ref aR) "__setattr__"=some (some (.builtin "object.__setattr__")))(Gz:W.makesIn K aR=true)(Gy:W.keepIn K (.ref aR)=true)(sX:W.findIn K (.ref aR) "near"=some none)(uf:W.findIn K (.ref aR) "far"=some none)(iZ:W.findIn K (.ref aR) "led_nowhere"=some none)(Cd:W.plainGet K aD Str.empty=true)(Ca:W.hasDictIn K aD=true)(BZ:W.plainOver K aD=true)(BX:W.findIn K (.ref aD) "__setattr__"=some (some (.builtin "object.__setattr__")))(BW:W.makesIn K aD=true)(BR:W.keepIn K (.ref aD)=true)(oM:W.findIn K (.ref aD) "cells"=some none)(qb:W.findIn K (.ref aD) "over"=some none)(lD:W.findIn K (.ref aD) "columns"=some none)(p8:W.findIn K (.ref aD) "rows"=some none):
  ∃fd:ρ,(∀(s:η) (v:ζ),BindsTo s fd ⟨[v],[]⟩ [("script",v)])/\∀base:Heap,K.In base->base.Ns mainGlobals mg->FnOk l.prog w K mg base CX0 26 fa fd ["script"] (spLaw K):=by
 have e:=hfa.symm.trans (VF X G a45);cases e;obtain⟨d0,F0,a0⟩:=a0;have lF:=DA.d (ps:=["thing"]) X G F0 a0 (fun _ _ _ _ _ _=>wX fun _=>rfl);obtain⟨d1,F1,a1⟩:=a1;have tE:=DA.d (ps:=["n","thing"]) X G F1 a1 (fun _ _ _ _ _ _=>nH fun _ _=>rfl);obtain⟨d2,F2,a2⟩:=a2;have nA:=DA.d (ps:=["n","things"]) X G F2 a2 (fun _ _ _ _ _ _=>nH fun _ _=>rfl);obtain⟨d3,F3,a3⟩:=a3;have pL:=DA.d (ps:=["things"]) X G F3 a3 (fun _ _ _ _ _ _=>wX fun _=>rfl);obtain⟨d4,F4,a4⟩:=a4;have LK:=DA.d (ps:=["n","thing"]) X G F4 a4 (fun _ _ _ _ _ _=>nH fun _ _=>rfl);obtain⟨d5,F5,a5⟩:=a5;have Cv:=DA.d (ps:=["n","thing"]) X G F5 a5 (fun _ _ _ _ _ _=>nH fun _ _=>rfl);obtain⟨d6,F6,a6⟩:=a6;have Lz:=DA.d (ps:=["thing"]) X G F6 a6 (fun _ _ _ _ _ _=>wX fun _=>rfl);obtain⟨d7,F7,a7⟩:=a7;have cg:=DA.d (ps:=["thing"]) X G F7 a7 (fun _ _ _ _ _ _=>wX fun _=>rfl);obtain⟨d8,F8,a8⟩:=a8;have wN:=DA.d (ps:=["web","thing"]) X G F8 a8 (fun _ _ _ _ _ _=>nH fun _ _=>rfl);obtain⟨d9,F9,a9⟩:=a9;have Qs:=DA.d (ps:=["n"]) X G F9 a9 (fun _ _ _ _ _ _=>wX fun _=>rfl);obtain⟨d10,F10,a10⟩:=a10;have jN:=DA.d (ps:=["web","one","other"]) X G F10 a10 (fun _ _ _ _ _ _=>Lf fun _ _ _=>rfl);obtain⟨d11,F11,a11⟩:=a11;have m8:=DA.d (ps:=["web","place"]) X G F11 a11 (fun _ _ _ _ _ _=>nH fun _ _=>rfl);obtain⟨d12,F12,a12⟩:=a12;have qj:=DA.d (ps:=["web","place","tied"]) X G F12 a12 (fun _ _ _ _ _ _=>Lf fun _ _ _=>rfl);obtain⟨d13,F13,a13⟩:=a13;have GZ:=DA.d (ps:=["ones","others"]) X G F13 a13 (fun _ _ _ _ _ _=>nH fun _ _=>rfl);obtain⟨d14,F14,a14⟩:=a14;have zR:=DA.d (ps:=["friends"]) X G F14 a14 (fun _ _ _ _ _ _=>wX fun _=>rfl);obtain⟨d15,F15,a15⟩:=a15;have nu:=DA.d (ps:=["web"]) X G F15 a15 (fun _ _ _ _ _ _=>wX fun _=>rfl);obtain⟨d16,F16,a16⟩:=a16;have oV:=DA.d (ps:=["sets"]) X G F16 a16 (fun _ _ _ _ _ _=>wX fun _=>rfl);obtain⟨d17,F17,a17⟩:=a17;have oU:=DA.d (ps:=["web"]) X G F17 a17 (fun _ _ _ _ _ _=>wX fun _=>rfl);obtain⟨d18,F18,a18⟩:=a18;have lG:=DA.d (ps:=["one","other"]) X G F18 a18 (fun _ _ _ _ _ _=>nH fun _ _=>rfl);obtain⟨d19,F19,a19⟩:=a19;have jD:=DA.d (ps:=["a","b"]) X G F19 a19 (fun _ _ _ _ _ _=>nH fun _ _=>rfl);obtain⟨d20,F20,a20⟩:=a20;have Qq:=DA.d (ps:=["one","other"]) X G F20 a20 (fun _ _ _ _ _ _=>nH fun _ _=>rfl);obtain⟨d21,F21,a21⟩:=a21;have GX:=DA.d (ps:=["one","other"]) X G F21 a21 (fun _ _ _ _ _ _=>nH fun _ _=>rfl);obtain⟨d22,F22,a22⟩:=a22;have ql:=DA.d (ps:=["web","place"]) X G F22 a22 (fun _ _ _ _ _ _=>nH fun _ _=>rfl);obtain⟨d23,F23,a23⟩:=a23;have pO:=DA.d (ps:=["web","begun","image"]) X G F23 a23 (fun _ _ _ _ _ _=>Lf fun _ _ _=>rfl);obtain⟨d24,F24,a24⟩:=a24;have eV:=DA.d (ps:=["web","begun","most"]) X G F24 a24 (fun _ _ _ _ _ _=>Lf fun _ _ _=>rfl);obtain⟨d25,F25,a25⟩:=a25;have Cu:=DA.d (ps:=["web"]) X G F25 a25 (fun _ _ _ _ _ _=>wX fun _=>rfl);obtain⟨d26,F26,a26⟩:=a26;have oR:=DA.d (ps:=["web","place"]) X G F26 a26 (fun _ _ _ _ _ _=>nH fun _ _=>rfl);obtain⟨d27,F27,a27⟩:=a27;have tG:=DA.d (ps:=["web"]) X G F27 a27 (fun _ _ _ _ _ _=>wX fun _=>rfl);obtain⟨d28,F28,a28⟩:=a28;have uo:=DA.d (ps:=["web"]) X G F28 a28 (fun _ _ _ _ _ _=>wX fun _=>rfl);obtain⟨d29,F29,a29⟩:=a29;have zP:=DA.d (ps:=["web"]) X G F29 a29 (fun _ _ _ _ _ _=>wX fun _=>rfl);obtain⟨d30,F30,a30⟩:=a30;have wM:=DA.d (ps:=["web","thing"]) X G F30 a30 (fun _ _ _ _ _ _=>nH fun _ _=>rfl);obtain⟨d31,F31,a31⟩:=a31;have Ly:=DA.d (ps:=["web","wants"]) X G F31 a31 (fun _ _ _ _ _ _=>nH fun _ _=>rfl);obtain⟨d32,F32,a32⟩:=a32;have Qp:=DA.d (ps:=["web"]) X G F32 a32 (fun _ _ _ _ _ _=>wX fun _=>rfl);obtain⟨d33,F33,a33⟩:=a33;have qp:=DA.d (ps:=["state"]) X G F33 a33 (fun _ _ _ _ _ _=>wX fun _=>rfl);obtain⟨d34,F34,a34⟩:=a34;have tH:=DA.d (ps:=["open_place"]) X G F34 a34 (fun _ _ _ _ _ _=>wX fun _=>rfl);obtain⟨d35,F35,a35⟩:=a35;have Cr:=DA.d (ps:=["web","other"]) X G F35 a35 (fun _ _ _ _ _ _=>nH fun _ _=>rfl);obtain⟨d36,F36,a36⟩:=a36;have LC:=DA.d (ps:=["web","other","some"]) X G F36 a36 (fun _ _ _ _ _ _=>Lf fun _ _ _=>rfl);obtain⟨d37,F37,a37⟩:=a37;have wO:=DA.d (ps:=["cell","at"]) X G F37 a37 (fun _ _ _ _ _ _=>nH fun _ _=>rfl);obtain⟨d38,F38,a38⟩:=a38;have dD:=DA.d (ps:=["cup","many"]) X G F38 a38 (fun _ _ _ _ _ _=>nH fun _ _=>rfl);obtain⟨d39,F39,a39⟩:=a39;have tD:=DA.d (ps:=["cup","n"]) X G F39 a39 (fun _ _ _ _ _ _=>nH fun _ _=>rfl);obtain⟨d40,F40,a40⟩:=a40;have zQ:=DA.d (ps:=["cup","most"]) X G F40 a40 (fun _ _ _ _ _ _=>nH fun _ _=>rfl);obtain⟨d41,F41,a41⟩:=a41;have jZ:=DA.d (ps:=["web","order"]) X G F41 a41 (fun _ _ _ _ _ _=>nH fun _ _=>rfl);obtain⟨d42,F42,a42⟩:=a42;have jY:=DA.d (ps:=["cup","n"]) X G F42 a42 (fun _ _ _ _ _ _=>nH fun _ _=>rfl);obtain⟨d43,F43,a43⟩:=a43;have m9:=DA.d (ps:=["cup","n"]) X G F43 a43 (fun _ _ _ _ _ _=>nH fun _ _=>rfl);obtain⟨d44,F44,a44⟩:=a44;have jQ:=DA.d (ps:=["cup","web","some"]) X G F44 a44 (fun _ _ _ _ _ _=>Lf fun _ _ _=>rfl);have F45:=fun_mk (st:=o9) l45 c45 k45;have tV:=VF X G x0;have pZ:=VF X G x1;have w6:=VF X G x2;have Yl:=EY X G z0;have pF:=EY X G z1;have Ug:=EY X G z2;have jx:=EY X G z3;have Rp:=EY X G z4;have cM:=EY X G z5;have cT:=EY X G z6;have vO:=EY X G z7;have DR:=EY X G z8;have yu:=EY X G z9;have bB:=EY X G z10;have mJ:=EY X G z11;have bZ:=EY X G z12;have sH:=VF X G y0;have oh:=VF X G y1;obtain⟨md0,FM0,Yp⟩:=Yp;have nF:=MA.d (ps:=["self","web","other"]) FM0 Yp (fun _ _ _ _ _ _=>Lf fun _ _ _=>rfl);obtain⟨md1,FM1,ma1⟩:=ma1;have jF:=MA.d (ps:=["self","images","image"]) FM1 ma1 (fun _ _ _ _ _ _=>Lf fun _ _ _=>rfl);obtain⟨md2,FM2,ma2⟩:=ma2;have je:=MA.d (ps:=["self","state","led","image"]) FM2 ma2 (fun _ _ _ _ _ _=>bn4 fun _ _ _ _=>rfl);obtain⟨md3,FM3,ma3⟩:=ma3;have jR:=MA.d (ps:=["self","state"]) FM3 ma3 (fun _ _ _ _ _ _=>nH fun _ _=>rfl);obtain⟨md4,FM4,ma4⟩:=ma4;have j4:=MA.d (ps:=["self","state"]) FM4 ma4 (fun _ _ _ _ _ _=>nH fun _ _=>rfl);obtain⟨md5,FM5,Yo⟩:=Yo;have lM:=MA.d (ps:=["self","sets","wants"]) FM5 Yo (fun _ _ _ _ _ _=>Lf fun _ _ _=>rfl);obtain⟨md6,FM6,ma6⟩:=ma6;have jd:=MA.d (ps:=["self"]) FM6 ma6 (fun _ _ _ _ _ _=>wX fun _=>rfl);obtain⟨md7,FM7,ma7⟩:=ma7;have jE:=MA.d (ps:=["self","column","row","other"]) FM7 ma7 (fun _ _ _ _ _ _=>bn4 fun _ _ _ _=>rfl);obtain⟨md8,FM8,ma8⟩:=ma8;have lK:=MA.d (ps:=["self","column"]) FM8 ma8 (fun _ _ _ _ _ _=>nH fun _ _=>rfl);obtain⟨md9,FM9,ma9⟩:=ma9;have oW:=MA.d (ps:=["self","cells","pivots","column"]) FM9 ma9 (fun _ _ _ _ _ _=>bn4 fun _ _ _ _=>rfl);obtain⟨aaS,Z9,Um⟩:=Um;have tK:=MA.d (ps:=["self","row","column"]) Z9 Um (fun _ _ _ _ _ _=>Lf fun _ _ _=>rfl);obtain⟨aaR,Z8,Ul⟩:=Ul;have qt:=MA.d (ps:=["self"]) Z8 Ul (fun _ _ _ _ _ _=>wX fun _=>rfl);obtain⟨aaQ,Z6,Uk⟩:=Uk;have cH:=MA.d (ps:=["self","row","column"]) Z6 Uk (fun _ _ _ _ _ _=>Lf fun _ _ _=>rfl);obtain⟨aaP,Z1,Uj⟩:=Uj;have lJ:=MA.d (ps:=["self","name"]) Z1 Uj (fun _ _ _ _ _ _=>nH fun _ _=>rfl);obtain⟨aaO,Z0,Ui⟩:=Ui;have lH:=MA.d (ps:=["self","name"]) Z0 Ui (fun _ _ _ _ _ _=>nH fun _ _=>rfl);have gY:Cls K aR:=⟨GQ,GK,GJ,GF⟩;have mH:NoAttr K aR "near":=sX;have sy:NoAttr K aR "far":=uf;have cJ:NoAttr K aR "led_nowhere":=iZ;have mk_Search:Mk K aR mf0:=⟨Gz,Yp.1,Yp.2.1,Gy⟩;have bJ:Cls K aD:=⟨Cd,Ca,BZ,BX⟩;have cL:NoAttr K aD "cells":=oM;have dM:NoAttr K aD "over":=qb;have bF:NoAttr K aD "columns":=lD;have dJ:NoAttr K aD "rows":=p8;have mk_Tableau:Mk K aD mf5:=⟨BW,Yo.1,Yo.2.1,BR⟩;refine⟨W.fnOf "law" "law" (defArgs o9) (defBody o9) (defScope o9) .none Yw Zy Ye ZM Vi Zz,fun s v=> .of_eq rfl,fun base _ _=> ?_⟩;have PN:=JW (P:=l.prog) (w:=w) (mg:=mg) (base:=base) F37;have uO:=Uc F38 wO PN cT;have Px:=JG F39 dD uO bB bZ;have U7:=Oo F40 dD uO tD Px;have Ek:=JV (P:=l.prog) (w:=w) (mg:=mg) (base:=base) F41 yu DR bZ mJ;have Ei:=JR F42 dD uO vO bB bZ cT;have PJ:=JM F43 dD uO jZ Ek jY Ei bB yu bZ;have vY:=JF (P:=l.prog) (w:=w) (base:=base) F0 cM Rp Ug;have Eh:=JN (P:=l.prog) (w:=w) (base:=base) F1 lF vY;have yV:=Gd (P:=l.prog) (w:=w) (base:=base) F2 tE Eh pF;have yU:=Gb (P:=l.prog) (w:=w) (mg:=mg) (base:=base) F3 pF bB cT;have Zn:=TQ (P:=l.prog) (w:=w) (base:=base) F4 nA yV pL yU cM bZ;have UJ:=Oe (P:=l.prog) (w:=w) (base:=base) F5 LK Zn pL yU cM bZ pF cT;have Y8:=Tj (P:=l.prog) (w:=w) (base:=base) F6 lF vY Cv UJ cM bZ cT tV;have cN:=Bg (P:=l.prog) (w:=w) (base:=base) F7 Lz Y8;have U9:=Oq (P:=l.prog) (w:=w) (mg:=mg) (base:=base) F22 cT;have El:=Ub (P:=l.prog) (w:=w) (mg:=mg) (base:=base) F10 yu DR;have Zq:=Yg F23 ql U9 jN El cT pF bB;have Ef:=yj (P:=l.prog) (w:=w) (mg:=mg) (base:=base) F24 pO Zq eV cT bB;have Pz:=FZ F25 cg cN eV Ef cT pZ;have Y9:=Tn F36 cg cN nA yV jN El cT cM bZ pF;have yX:=vK (P:=l.prog) (w:=w) (base:=base) F8 tE Eh;have Ej:=JT (P:=l.prog) (w:=w) (base:=base) F11 cg cN wN yX jN El bZ bB;have UG:=Od F44 LC Y9 dD uO m8 Ej bZ bB mJ vO cT;have yW:=vJ F30 lF vY cT cM bZ pF w6;have KD:=Ge (P:=l.prog) (w:=w) (mg:=mg) (base:=base) F13;have Bt:=yp F14 GZ KD vO bB cT mJ;have PX:=JX F12 jN El bB;have pH:=vL F15 cg cN zR Bt qj PX bB;have UL:=Og (P:=l.prog) (w:=w) (mg:=mg) (base:=base) FM5 bJ cL dM bF dJ cT bB vO;have Zm:=TF (P:=l.prog) (w:=w) (mg:=mg) (base:=base) FM6 bJ cL dM bF dJ jx yu;have Zg:=Tr (P:=l.prog) (w:=w) (mg:=mg) (base:=base) FM9 bJ cL dM bF dJ jx;have Ze:=Tp Z9 bJ cL dM bF dJ oW Zg;have Zf:=Tq (P:=l.prog) (w:=w) (mg:=mg) (base:=base) FM7 bJ cL dM bF dJ;have Zk:=Tz FM8 bJ cL dM bF dJ jE Zf bB cT;have Zh:=Tt Z8 bJ cL dM bF dJ jd Zm tK Ze lK Zk;have aaz:=Yh (P:=l.prog) (w:=w) (mg:=mg) (base:=base) F18;have yZ:=TY (P:=l.prog) (w:=w) (base:=base) F19 lG aaz Yl;have Kz:=TJ Z6 bJ cL dM bF dJ jD yZ;have Zi:=Tv Z0 bJ cL dM bF dJ jD yZ cH Kz;have Zj:=Tw Z1 bJ cL dM bF dJ jD yZ cH Kz;have KC:=Ga F31 bJ cL dM bF dJ oh cg cN wM yW nu pH lM mk_Tableau UL qt Zh lH Zi lJ Zj cH Kz jx bB;have Py:=JH F32 cg cN Ly KC;have U5:=Om F26 eV Ef pO Zq cT;have Em:=JZ F27 cg cN oR U5 pF bB;have KJ:=Gg (P:=l.prog) (w:=w) (mg:=mg) (base:=base) F16 DR cT;have KH:=Gf F17 oV KJ nu pH;have KQ:=Gh F28 tG Em jD yZ oU KH DR cT;have UW:=Oh FM0 gY mH sy cJ m8 Ej bB;have Zt:=Ue (P:=l.prog) (w:=w) (mg:=mg) (base:=base) F33 pF cT;have U0:=Oi (P:=l.prog) (w:=w) (mg:=mg) (base:=base) FM1 gY mH sy cJ bZ;have U3:=Oj FM2 gY mH sy cJ jF U0 bZ;have Zr:=Ud (P:=l.prog) (w:=w) (mg:=mg) (base:=base) F34 cT;have Zo:=Ua FM4 FM3 gY mH sy cJ j4 jR qp Zt je U3 tH Zr yu;have Gq:=Bf F35 gY mH sy cJ sH cg cN nF mk_Search UW j4 Zo bZ bB mJ;have U4:=Ol (P:=l.prog) (w:=w) (mg:=mg) (base:=base) F21;have PB:=JK (P:=l.prog) (w:=w) (base:=base) F20 jD yZ;have Va:=Ot (P:=l.prog) (w:=w) (base:=base) F9 bB;have PL:=JQ (P:=l.prog) (w:=w) (base:=base) F29 cg cN Qs Va bZ;exact ok_law F45 zQ U7 dD uO m9 PJ jZ Ek jY Ei Cu Pz jQ UG Qp Py tG Em uo KQ Cr Gq GX U4 Qq PB zP PL bB cT Rp
theorem walk{l:PySem.W.OpenLaw}{q:ξ}{loose:List Str}{XP:(L4)->Heap->Prop}{YP:τ->Heap->Prop}{d:DefRec}{K:Params->PySem.W.Frag}(hn:l.most=some 63)(hdf:d.params.defaults=[])(hY:∀(w:τ) (h:Heap),YP w h->(K w.params).In h)
  (F:∀(w:τ) (mg:L4) (fa:Addr) (h:Heap),(K w.params).In h->h.Ns mainGlobals mg->mg d.name=some (.ref fa)->
   ∃fd:ρ,(∀(s:η) (u:ζ),BindsTo s fd ⟨[u],[]⟩ [("script",u)])/\∀base:Heap,(K w.params).In base->base.Ns mainGlobals mg->FnOk l.prog w (K w.params) mg base CX0 26 fa fd ["script"] (spLaw (K w.params))):
  PySem.W.WalkO q loose XP YP l.row.toRowW d [] (fun f vs=>PySem.call f vs):=
 L2.walk_of (n:=63) (k:=26) (x:="script") (CX:=fun _=>CX0) (sp:=fun w=>spLaw (K w.params)) hn (by decide) hdf ⟨rfl,by decide,by decide,rfl⟩ hY F (fun _ _ a ns hl hO hS=>Jb hl hO hS) fun _ _ _ _ _ z=>z
end Hs
open PySem PySem.W PyProof.Rows
set_option maxRecDepth 100000 in
set_option maxHeartbeats 0 in
theorem PySem.Challenge.cw_hueshare_k49_whole_turned_about_holds : PySem.Challenge.rw_hueshare_k49_whole_turned_about.Holds := by
 refine Hd.early.2 ?_;unfold Hd.early;dsimp only
 k_fill
 refine Hs.walk (l:=PySem.Challenge.rw_hueshare_k49_whole_turned_about) rfl rfl (fun w h Y=>PySem.W.kIn_of Y) ?F
 case F=>
  intro w mg fa h KX G hmg
  refine' Hs.all_mk KX G hmg .of .of .of .of .of .of .of .of .of .of .of .of .of .of .of .of .of .of .of .of .of .of .of .of .of .of .of .of .of .of .of .of .of .of .of .of .of .of .of .of .of .of .of .of .of (by k_is) (by k_is) (by k_is) (by k_is) (by k_is) (by k_is) (by k_is) (by k_is) (by k_is) (by k_is) (by k_is) (by k_is) (by k_is) (by k_is) (by k_is) (by k_is) (by k_is) (by k_is) (by k_is) (by k_is) (by k_is) (by k_is) .of .of .of .of .of .of .of .of .of .of .of .of .of .of .of (by k_is) (by k_is) (by k_is) (by k_is) (by k_is) (by k_is) (by k_is) (by k_is) (by k_is) (by k_is) (by k_is) (by k_is) (by k_is) (by k_is) (by k_is) (by k_is) (by k_is) (by k_is) (by k_is)
