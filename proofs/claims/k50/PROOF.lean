import PyProof.Rows.All
import Wide.All
import OpenK.AllK
import Wide.FinOn
import Lean
import PyProof.EqAt
import PyProof.EqKinds
import PyProof.TupleCall
import PyProof.ListRange
import PyProof.TupleOfSeq
import PyProof.Draws
import PyProof.EnumMake
import PyProof.TupleIter
import PyProof.Rows.SetFrom
import PyProof.SetRoads
import PyProof.WalksMore
import PyProof.Rows.SortShell
import KE.KMinBuiltin
import PyProof.Rows.CallKwBuiltin
import KE.KRevIter
import PyProof.Rows.Tup
import PyProof.Rows.Range3
import PyProof.DictWalks
import PyProof.DictTruth
import PyProof.TupleKey
import PyProof.Rows.SeqMore2
import PyProof.FString
import PyProof.StrWalks
import PyProof.StrBlockH
import PyProof.StrCalls2
import PyProof.SliceStr2
import KE.KIntText
import PyProof.StrLawsTight
import KE.KDictList
import PyProof.DictRoadsH
import KE.KLam
import KE.KNestM
import PyProof.DictItems
import PyProof.IsiHeapPairs
import KE.KPairComp
import PyProof.MinMaxWalk
import PyProof.MeetsSeq
import PyProof.Rows.ZipGen
import PySem.Challenge.RW_hueshare_k50_shares_kept
set_option compiler.extract_closed false
set_option Elab.async false
set_option linter.all false
set_option maxRecDepth 100000

noncomputable abbrev ζ:=PySem.Value
noncomputable abbrev η:=PySem.Shared
noncomputable abbrev θ:=PySem.PyData
noncomputable abbrev ξ:=PySem.Program
noncomputable abbrev ρ:=PySem.FuncData
noncomputable abbrev τ:=PySem.World
noncomputable abbrev L5:=PySem.Str->Option ζ
noncomputable abbrev L4:=ζ->η->Prop
noncomputable abbrev L3:=List (PySem.Addr×PySem.Obj)
noncomputable abbrev L0:=List (Int×Int)
def cL:=@decide_eq_true
def fX:=@of_decide_eq_true
def aA:=@if_neg
def bK:=@PySem.wpAny_bind
def aF:=@if_pos
def fO:=@decide_eq_false
def kO:=@Bool.and_eq_true
def gR:=@PySem.sizeLine_eq
def gQ:=@PySem.wpAny_pure
def vG:=@Bool.false_ne_true
def sU:=@Option.some.inj
def Py:=@PyProof.Rows.callWith_type1
def v9:=@Bool.eq_iff_iff
def wZ:=@PySem.PassesOwn.never
def JV:=@of_decide_eq_false
def Qg:=@PySem.F.plainAttrs_list
def J7:=@PySem.mem_of_lookup
def lq:=@congrArg
def was:=@decide_eq_true_iff
def Px:=@decide_eq_true_eq
def Cv:=@PySem.W.mg_none_of
def Xv:=@Classical.byContradiction
def Qf:=@PySem.wpAny_truthy_bool
def Qe:=@Bool.not_eq_true'
def way:=@Ne.symm
def Xu:=@decide_eq_false_iff_not
def S8:=@PySem.wpAny_newObj_type
def Qd:=@PyProof.Rows.KeyOrd.kle_refl
def Uw:=@PySem.wpAny_Call_Name_kw
def wbd:=@PySem.F.slot_tuple_iterator_next
def Xr:=@PyProof.Rows.assignInOrder_cons
def Uv:=@PySem.wpAny_passesOwn
def wbg:=@PySem.F.slot_list_append
def wbh:=@PySem.F.type_list_append
def YB:=@PySem.Heap.SameBut.update
def Xq:=@Bool.not_eq_true
def Uu:=@PySem.Paired.length
def Yz:=@PyProof.Rows.KeyOrd.kle_of_klt
def wbm:=@PySem.F.args_tuple_add_2
def wbn:=@Int.mul_ediv_cancel_left
def wbo:=@Nat.gcd_pos_of_pos_right
def wbp:=@List.sublist_append_left
def Xp:=@PySem.wpAny_holding
def wbr:=@PySem.Calls.spliced_cons
def wbs:=@PySem.F.entry_tuple_add
def Yy:=@PySem.W.KasT.kasWp_bind
def wbu:=@PySem.wpAny_pyIter_tuple
def wbv:=@PySem.F.slot_list_index
def wbw:=@PySem.F.type_list_index
def wbx:=@PySem.F.slot_tuple_add
def wby:=@PySem.Heap.get?_update_other
def wbz:=@List.length_pos_of_mem
def wca:=@PySem.Calls.spliced_nil
def wcb:=@List.append_assoc
def wcc:=@PySem.Heap.get?_push_ne
def wcd:=@List.ext_getElem?
def wce:=@PySem.wpAny_pyIter_list
def wcf:=@PySem.wpAny_pyIter_enum
def Yx:=@PySem.wpAny_bindName
def wch:=@PyProof.Rows.KeyOrd.kle_trans
def wci:=@PySem.wpAny_call_entry
def wcj:=@Nat.dvd_mul_left
def wck:=@Nat.Coprime.symm
def wcl:=@List.eq_nil_of_length_eq_zero
def wcm:=@List.getElem?_append
def wcn:=@List.replicate_succ'
def Yw:=@PySem.wpAny_standAt
def wcp:=@PySem.F.args_tuple_iterator_next_1
def Yv:=@Int.ofNat.inj
def Yu:=@Nat.mul_assoc
def wcs:=@List.dropLast_concat_getLast
def Ut:=@PySem.wpAny_mono
def Us:=@PySem.call_meets
def wcv:=@List.filterMap_cons
def wcw:=@PySem.wpAny_execs_nil
def wcx:=@PySem.W.plainGet_of
def wcy:=@Nat.add_sub_cancel'
def wcz:=@PyProof.Rows.get?_update_seq
def wda:=@PySem.codeAny_builtin
def wdb:=@PySem.F.entry_tuple_iterator_next
def wdc:=@PySem.pushCells_keeps
def Xo:=@Int.mul_pos
def wde:=@List.filter_map
def wdf:=@Int.fdiv_eq_ediv_of_nonneg
def wdg:=@Int.mul_lt_mul_of_pos_left
def Yt:=@PySem.codeAny_mono
def wdi:=@PySem.W.callWith_K
def wdj:=@List.zip_nil_right
def Yr:=@List.map_nil
def Yq:=@Int.add_zero
def Yp:=@Int.le_of_eq
def wdn:=@Int.eq_of_mul_eq_mul_left
def wdo:=@Int.lt_of_mul_lt_mul_left
def wdp:=@Nat.eq_of_mul_eq_mul_left
def wdq:=@List.mem_or_eq_of_mem_set
def Ur:=@PyProof.Rows.IsTup.new
def wds:=@List.zip_nil_left
def wdt:=@Nat.le_of_succ_le
def wdu:=@PyProof.noPylong_of_log2
def wdv:=@List.getElem?_set
def wdw:=@List.Sublist.refl
def Yo:=@Int.mul_one
def wdy:=@PySem.rangeSize_one
def wdz:=@List.getElem?_replicate
def wea:=@PyProof.Rows.listUpdate_at
def wec:=@PySem.wpAny_newList
def wed:=@Int.add_mul
def wee:=@Nat.gcd_pos_of_pos_left
def Yn:=@Nat.mul_pos
def weg:=@PySem.noFill_tuple_add
def weh:=@Nat.le_add_right
def wei:=@Option.getD_some
def wej:=@PySem.AutoSeq1.idx_int
def wek:=@Int.natCast_ediv
def wel:=@List.getElem?_set_self
def wem:=@PySem.W.cellsFrom_some
def wen:=@Nat.le_mul_of_pos_left
def weo:=@PySem.W.methodCall_KW
def wep:=@List.of_mem_zip
def weq:=@Bool.or_eq_true
def wer:=@Int.ediv_nonneg
def wes:=@Int.le_antisymm
def wet:=@Nat.div_le_self
def weu:=@Int.le_trans
def wev:=@List.take_append_drop
def Ym:=@PyProof.Rows.boot_range
def wex:=@Int.add_le_add
def wey:=@Int.mul_le_mul
def wez:=@PySem.IsRange.new
def wfa:=@PySem.wpAny_field
def wfb:=@Int.lt_irrefl
def wfc:=@List.all_cons
def wfd:=@Bool.false_or
def wfe:=@Bool.true_and
def wff:=@Nat.sub_le
def wfg:=@Nat.pow_succ
def wfh:=@List.map_set
def wfi:=@List.map_id'
def wfj:=@Nat.mul_zero
def Xn:=@PySem.W.mg_of
def aJ:=@List.length_map
def dF:=@List.getElem?_eq_getElem
def bL:=@List.map_append
def aX:=@Nat.le_refl
def dJ:=@List.getElem?_map
def lg:=@List.getD_eq_getElem?_getD
def iG:=@List.mem_cons_of_mem
def nF:=@List.getElem?_eq_some_iff
def kZ:=@PySem.Heap.get?_push_of_some
def gY:=@List.mem_singleton
def cT:=@Nat.le_trans
def iW:=@List.mem_cons_self
def cY:=@List.mem_cons
def iD:=@List.size_toArray
def fL:=@List.mem_filter
def dH:=@Nat.le_of_lt
def mJ:=@Nat.lt_of_lt_of_le
def j4:=@List.all_eq_true
def dX:=@Nat.zero_le
def fV:=@PySem.Heap.lt_size
def ql:=@List.length_append
def jZ:=@List.mem_range
def sO:=@List.mem_of_getElem?
def nA:=@List.mem_append
def sJ:=@PySem.Heap.get?_push_size
def vC:=@List.length_filter_le
def iZ:=@Nat.ne_of_lt
def qm:=@List.take_length
def jY:=@List.mem_map
def sI:=@List.take_add_one
def rK:=@List.length_take
def vo:=@List.length_range
def vB:=@Nat.lt_succ_of_lt
def wW:=@Nat.lt_succ_self
def Iv:=@List.mem_append_right
def zc:=@List.length_cons
def Cq:=@List.filter_append
def zy:=@Nat.succ_ne_zero
def yZ:=@List.range_succ
def Cd:=@List.getElem_mem
def Iu:=@List.getElem_of_mem
def SM:=@Int.mul_le_mul_of_nonneg_left
def zx:=@List.append_nil
def Pu:=@List.pairwise_singleton
def Pr:=@Nat.mul_div_cancel_left
def Ir:=@Nat.lt_of_le_of_lt
def Cp:=@List.filter_cons
def wV:=@Nat.lt_irrefl
def vA:=@List.map_map
def tH:=@Int.le_refl
def Ip:=@Int.toNat_natCast
def yX:=@List.map_cons
def Cm:=@Nat.min_le_left
def yW:=@Nat.succ_pos
def Xm:=@Int.mul_le_mul_of_nonneg_right
def SJ:=@Int.eq_ofNat_of_zero_le
def JT:=@List.lookup_cons
def Uq:=@List.pairwise_iff_getElem
def FW:=@Int.mul_nonneg
def zu:=@Int.mul_zero
def Sy:=@List.pairwise_append
def Ck:=@Int.mul_comm
def Qa:=@List.pairwise_cons
def J4:=@List.nodup_cons
def Sw:=@List.getElem?_range
def FQ:=@Nat.le_of_eq
def Uo:=@List.length_replicate
def P0:=@List.pairwise_map
def Pq:=@List.length_nil
def Ss:=@Nat.lt_of_le_of_ne
def Cj:=@Int.one_mul
def yct:=@List.take_succ_eq_append_getElem
def Yl:=@Int.le_of_mul_le_mul_right
def Xl:=@List.filter_eq_nil_iff
def Xk:=@List.take_of_length_le
def Um:=@Array.length_toList
def Ul:=@List.replicate_succ
def Sq:=@Nat.le_of_lt_succ
def Uk:=@List.map_congr_left
def JR:=@Int.zero_mul
def Xj:=@List.getElem?_eq_none
def Uj:=@Nat.eq_zero_or_pos
def PX:=@PySem.Heap.size_push
def J3:=@Int.le_of_lt
def Yk:=@List.pairwise_lt_range
def ydh:=@List.getElem?_append_right
def ydi:=@Int.eq_of_mul_eq_mul_right
def Xi:=@Int.natAbs_natCast
def PN:=@Nat.le_of_dvd
def Yj:=@Nat.sub_one_lt_of_le
def Xh:=@List.any_eq_false
def Ui:=@Nat.le_antisymm
def ydo:=@Nat.succ_add_eq_add_succ
def Uh:=@Nat.not_lt_zero
def Ug:=@Int.natCast_mul
def Pn:=@Nat.le_succ
def Sg:=@Int.mul_assoc
def ydt:=@List.filter_cons_of_pos
def ydu:=@List.filter_cons_of_neg
def Yi:=@List.zip_cons_cons
def Yh:=@Int.natCast_nonneg
def R9:=@Nat.lt_trans
def ydy:=@List.cons_lt_cons_iff
def Yg:=@List.flatten_cons
def Ye:=@List.nodup_append
def Yd:=@Nat.gcd_dvd_right
def yec:=@Array.perm_iff_toList_perm
def yed:=@List.mem_append_left
def yee:=@Nat.le_sub_one_of_lt
def yef:=@List.getElem?_append_left
def yeg:=@Int.toNat_of_nonneg
def yeh:=@List.filter_sublist
def Ue:=@Nat.ne_of_gt
def Ud:=@Nat.mul_comm
def Uc:=@Int.ofNat_lt
def Xg:=@List.any_cons
def yem:=@List.map_singleton
def Yc:=@Int.natAbs_mul
def Xf:=@Int.zero_add
def Xe:=@List.all_map
namespace Hd
open PySem PySem.W PySem.Calls PyProof.Rows
-- a run of the text's top over the heap as a tree, as one fold
noncomputable def U7(tb:String->Option Builtin)(p:ξ)(w:τ)(m:Nat)(ann:Option ζ)(n:Nat):SharedT->Thread->Option SharedT:=
 @Nat.rec (fun _=>SharedT->Thread->Option SharedT) (fun _ _=>none)
  (fun _ ih s t=> @Bool.rec (fun _=>Option SharedT)
   (@Bool.rec (fun _=>Option SharedT) none
    (@Option.rec (SharedT×Thread) (fun _=>Option SharedT) none (fun r=>ih r.1 r.2) (stepT (denote tb) p w s t)) (stepOk m ann t))
   (some s) (through t)) n
theorem Qq{tb:String->Option Builtin}{p:ξ}{w:τ}{m:Nat}{ann:Option ζ}:∀(n:Nat) (s s':SharedT) (t:Thread),
  U7 tb p w m ann n s t=some s'->topRun tb p w m ann n s.abs t=some s'.abs:=by
 intro n
 induction n with
 |zero=>intro s s' t h;exact absurd h (by intro h;cases h)
 |succ n ih=>
  intro s s' t h;have h1: @Bool.rec (fun _=>Option SharedT) (@Bool.rec (fun _=>Option SharedT) none
    (@Option.rec (SharedT×Thread) (fun _=>Option SharedT) none (fun r=>U7 tb p w m ann n r.1 r.2) (stepT (denote tb) p w s t)) (stepOk m ann t))
    (some s) (through t)=some s':=h
  unfold topRun;cases e1:through t with
  |true=>rw[e1]at h1;injection h1 with h1;rw[h1]
  |false=>
   rw[e1]at h1;cases e2:stepOk m ann t with
   |false=>rw[e2]at h1;cases h1
   |true=>
    rw[e2]at h1;cases e3:stepT (denote tb) p w s t with
    |none=>rw[e3]at h1;cases h1
    |some r=>
     rw[e3]at h1;have e4:=stepT_spec (s':=r.1) (t':=r.2) e3;show(match step (denote tb) p w s.abs t with | .go a b=>topRun tb p w m ann n a b| .halt _ _=>none)=_;rw[e4];exact ih _ _ _ h1
noncomputable def treeOf(l:List Obj):BT:=(l.foldl (fun x o=>(x.1.ins x.2 o,x.2+1)) ((BT.nil,0):BT×Nat)).1
-- the run from the start that the kit has laid
noncomputable def ran(p:ξ)(N:Nat)(w:τ)(os:OsState):Option SharedT:=
 U7 treeTable p w 11 (some (.ref 6)) N ⟨treeOf (boot_heap w.params).objs.toList,11,{},Array.mk [],boot_drawn,boot_toks,os⟩ (topStub p)
-- what is looked at behind the run
noncomputable def looked(p q:ξ)(loose:List Str)(Xt:η->Bool)(g0:Bool)(h:Heap)(s:η):=
 ((staticsOk (importedModules p.main.body) h s.heap&&namesBound p s.heap&&gensDone s&&laidKept h s.heap),openSeen q loose (importedModules p.main.body) Xt g0 s)
noncomputable def qT(p q:ξ)(loose:List Str)(Xt:η->Bool)(g0:Bool)(N:Nat):Prop:=
 ∀(w:τ) (os:OsState),(ran p N w os).map (fun s=>looked p q loose Xt g0 (boot_heap w.params) s.abs)=some (true,openGood q loose)
theorem Rk{p q:ξ}{loose:List Str}{Xt:η->Bool}{α:Type}{Yf:η->α}{Ya:τ->α}{N:Nat}{g0:Bool}(r:qT p q loose Xt g0 N)(e:opening p=plainProg p.main.scope.names)(hN:Nat.ble 600 N=true)(f:∀s,fenceModules? p s=some s)(y:∀(w:τ) (os:OsState),(ran p N w os).map (fun s=>Yf s.abs)=some (Ya w)):
  LeftO p q loose Xt Yf Ya N g0:=fun w=>by
 have b:((boot_heap w.params).isNs mainGlobals&&(Array.mk []:Array GenState).size==0,(boot_heap w.params).objs.size,(boot_heap w.params).nsMap mainGlobals "__annotations__")=(true,11,some (.ref 6)):=by kernel_rfl
 have c:absHeap (treeOf (boot_heap w.params).objs.toList) 11 {}=boot_heap w.params:=by kernel_rfl
 obtain⟨⟨h,gs',d',k',os⟩,e1,e'⟩:=Option.map_eq_some_iff.mp (boot_open e hN f w);obtain⟨rfl,rfl,rfl,rfl⟩:h=boot_heap w.params/\gs'=Array.mk []/\d'=boot_drawn/\k'=boot_toks:=by simpa using e'
 obtain⟨b1,b2,b3⟩:_/\_/\_:=by simpa only[Prod.mk.injEq]using b
 obtain⟨s,r1,r2⟩:=Option.map_eq_some_iff.mp (r w os);obtain⟨s',y1,y2⟩:=Option.map_eq_some_iff.mp (y w os);have es:s'=s:=by rw[r1]at y1;injection y1 with y1;exact y1.symm
 subst es;obtain⟨l1,l2⟩:_/\_:=by simpa only[looked,Prod.mk.injEq]using r2
 have t1:=Qq N _ _ _ r1;have ab:SharedT.abs ⟨treeOf (boot_heap w.params).objs.toList,11,{},Array.mk [],boot_drawn,boot_toks,os⟩=⟨boot_heap w.params,Array.mk [],boot_drawn,boot_toks,os⟩:=by unfold SharedT.abs;rw[c]
 rw[ab]at t1;have t:topFrom treeTable p w N ⟨boot_heap w.params,Array.mk [],boot_drawn,boot_toks,os⟩=some s'.abs:=by
  unfold topFrom;dsimp only;rw[b1,b2,b3,t1];show(match staticsOk (importedModules p.main.body) (boot_heap w.params) s'.abs.heap&&namesBound p s'.abs.heap&&gensDone s'.abs&&laidKept (boot_heap w.params) s'.abs.heap with |true=>_|false=>_)=_;rw[l1]
 unfold openEnds;rw[e1];show(topFrom treeTable p w N _).map _=_;rw[t];show some (_,_)=_;rw[l2,y2]
-- what is looked at behind the run, in five groups: a run for each, so that none needs the memory of all
theorem two{α β γ:Type}{o:Option α}{f:α->β}{g:α->γ}{a:β}{b:γ}(h:o.map f=some a)(h':o.map g=some b):o.map (fun s=>(f s,g s))=some (a,b):=by
 cases o with
 |none=>cases h
 |some s=>
  injection h with h
  injection h' with h'
  show some (f s,g s)=_;rw[h,h']
theorem J9{α β γ:Type}{o:Option α}{f:α->β}{g:α->γ}{a:β}{b:γ}(h:o.map (fun s=>(f s,g s))=some (a,b)):o.map f=some a/\o.map g=some b:=by
 cases o with
 |none=>cases h
 |some s=>
  injection h with h
  injection h with h h'
  exact⟨lq some h,lq some h'⟩
theorem both{α:Type}{o:Option α}{f g:α->Bool}(h:o.map f=some true)(h':o.map g=some true):o.map (fun s=>f s&&g s)=some true:=by
 cases o with
 |none=>cases h
 |some s=>
  injection h with h
  injection h' with h'
  show some (f s&&g s)=_;rw[h,h'];rfl
section
variable(p q:ξ)(Xt:η->Bool)(N:Nat)
noncomputable abbrev GA:Prop:=∀(w:τ) (os:OsState),(ran p N w os).map (fun s=>(seen ((recsOf q).map (·.name)) (ownsOf q) [] {s.abs with gens:=#[]},s.abs.heap.bltView,s.abs.heap.isNs mainGlobals,s.abs.heap.isNs builtinsNs,tablesOk q s.abs.heap,s.abs.gens.size==0))=some (expectedOf q,bltViewBooted,true,true,true,true)
noncomputable abbrev GB:Prop:=∀(w:τ) (os:OsState),(ran p N w os).map (fun s=>(s.abs.heap.keysOk (looseW q []) ((recsOf q).map (·.name)) ((litsOf q).map (·.1)) ((clssOf q (looseW q [])).map (·.name)),(staticsOk (importedModules p.main.body) (boot_heap w.params) s.abs.heap&&namesBound p s.abs.heap&&gensDone s.abs&&laidKept (boot_heap w.params) s.abs.heap),s.abs.heap.accountedOkI (importedModules p.main.body),Xt s.abs,plainSeenD q [] s.abs))=some (true,true,true,true,plainGoodD q [])
noncomputable abbrev GC:Prop:=∀(w:τ) (os:OsState),(ran p N w os).map (fun s=>(tabsOk q s.abs,pinSeenD q (drecsOf q) s.abs))=some (true,pinGoodD (drecsOf q))
noncomputable abbrev GD:Prop:=∀(w:τ) (os:OsState),(ran p N w os).map (fun s=>plainSeenE q (looseW q []) s.abs)=some (plainGoodE q (looseW q []))
noncomputable abbrev GE:Prop:=∀(w:τ) (os:OsState),(ran p N w os).map (fun s=>(wideSeen q s.abs,clsSeenW q [] s.abs))=some (wideGood q,clsGoodW q [])
end
theorem M7{p q:ξ}{Xt:η->Bool}{N:Nat}(ga:GA p q N)(gb:GB p q Xt N)(gc:GC p q N)(gd:GD p q N)(ge:GE p q N):qT p q [] Xt true N:=fun w os=>by
 obtain⟨h1,a2⟩:=J9 (ga w os);obtain⟨h2,a3⟩:=J9 a2;obtain⟨h5,a4⟩:=J9 a3;obtain⟨h6,a5⟩:=J9 a4;obtain⟨h7,h9⟩:=J9 a5;obtain⟨h3,b2⟩:=J9 (gb w os);obtain⟨h0,b3⟩:=J9 b2;obtain⟨h4,b4⟩:=J9 b3;obtain⟨h8,k4⟩:=J9 b4;obtain⟨k1,k2⟩:=J9 (gc w os);obtain⟨k5,k6⟩:=J9 (ge w os);exact two h0 (two h1 (two h2 (two (both (both (both (both (both (both h3 h4) h5) h6) h7) h8) h9) (two k1 (two k2 (two (gd w os) (two k4 (two k5 k6))))))))
end Hd
section
open PySem PySem.W PyProof.Rows
namespace Hd
noncomputable abbrev L:=PySem.Challenge.rw_hueshare_k50_shares_kept
noncomputable def Q:ξ:=view L.row.toRowW.prog [1,2,3,4,5,6,8,9,10,11,12,13,14,15,16,17,18,19,20,21,23,24,25,26,27,28,30,31,33,34,35,36,37,39,40,41,42,43,44,45,46,48,49,50,51,52,53,55,56,57,58,59,60,61,62,63,64,65,66,67,68,69,70,71,72,73,74]
noncomputable abbrev X:η->Bool:=fun s=>xlAt Q [] s&&recOk (RowW.records L.row.toRowW) s
set_option maxRecDepth 100000 in
theorem g0:GA L.row.toRowW.prog Q 8250:=fun w os=>by kernel_rfl
set_option maxRecDepth 100000 in
theorem g1:GB L.row.toRowW.prog Q X 8250:=fun w os=>by kernel_rfl
set_option maxRecDepth 100000 in
theorem g2:GC L.row.toRowW.prog Q 8250:=fun w os=>by kernel_rfl
set_option maxRecDepth 100000 in
theorem g3:GD L.row.toRowW.prog Q 8250:=fun w os=>by kernel_rfl
set_option maxRecDepth 100000 in
theorem g4:GE L.row.toRowW.prog Q 8250:=fun w os=>by kernel_rfl
theorem looks:qT L.row.toRowW.prog Q [] X true 8250:=M7 g0 g1 g2 g3 g4
end Hd
local macro_rules
 |`(tactic|o_head $H)=>`(tactic|
  refine holds_open (q:=Hd.Q) (loose:=[]) (N:=8250) (Xt:=Hd.X) (XP:=XL Hd.Q [])
   (Yf:=Hook.obs $H) (Ya:=Hook.val $H) (YP:=Hook.says $H)
   (Hd.Rk Hd.looks (by kernel_rfl) rfl (fun _=>by kernel_rfl) (fun _ _=>by kernel_rfl))
   (Hook.of $H) (Hook.keeps $H) (fun s e=>xl_of s (Bool.and_eq_true_iff.mp e).1) XL.keeps
   (by rfl) (by rfl) (by rfl) (fun s e=>recFacts_of (Bool.and_eq_true_iff.mp e).2) (by rfl)
   (by first |assumption|decide+kernel) (by decide+kernel) ⟨rfl,rfl,rfl,rfl,rfl,by decide+kernel⟩ ?hw ?hc)
set_option maxRecDepth 100000 in
set_option maxHeartbeats 0 in
noncomputable def Hd.early:PSigma fun P:Prop=>P->PySem.Challenge.rw_hueshare_k50_shares_kept.Holds:=by
 refine⟨?P,fun W=> ?_⟩
 rotate_left
 w_on;o_law;k_head;(case hw=>w_witness2)
 exact W
end
namespace L2
open PySem PySem.Spec PyProof.Rows
noncomputable abbrev Key:=Sum Int Str
noncomputable def keyIs:Key->ζ->Bool
 | .inl k,v=>Value.isInt k v
 | .inr x,v=>Value.isStrOf x v
noncomputable def keyH(w:τ):Key->Int
 | .inl k=>hashInt k
 | .inr x=>hashStr w x
theorem Pk:∀{k:Key} {v:ζ},keyIs k v=true->(∃i t,k=Sum.inl i/\v=Value.int i t)\/(∃x t,k=Sum.inr x/\v=Value.str x t)
 | .inl i,v,h=>by
  obtain⟨t,e⟩:=Value.isInt_shape (k:=i) (v:=v) h;exact .inl ⟨i,t,rfl,e⟩
 | .inr x,v,h=>by
  obtain⟨t,e⟩:=Value.isStrOf_shape (x:=x) (v:=v) h;exact .inr ⟨x,t,rfl,e⟩
theorem key_ll(a b:Int):decide ((Sum.inl a:Key)=Sum.inl b)=(a==b):=by
 by_cases e:a=b
 ·subst e;simp
 ·have h:¬(Sum.inl a:Key)=Sum.inl b:=fun q=>e (Sum.inl.inj q);rw[fO h];exact(beq_eq_false_iff_ne.mpr e).symm
theorem key_rr(a b:Str):decide ((Sum.inr a:Key)=Sum.inr b)=decide (a=b):=by
 by_cases e:a=b
 ·subst e;simp
 ·have h:¬(Sum.inr a:Key)=Sum.inr b:=fun q=>e (Sum.inr.inj q);rw[fO h,fO e]
theorem key_lr(a:Int)(b:Str):decide ((Sum.inl a:Key)=Sum.inr b)=false:=fO (fun q=>nomatch q)
theorem key_rl(a:Str)(b:Int):decide ((Sum.inr a:Key)=Sum.inl b)=false:=fO (fun q=>nomatch q)
noncomputable def mixKind(prog:ξ)(w:τ):PySem.KeyKind prog w Key where
 is:=keyIs
 hash:=keyH w
 inj:=fun v a b ha hb=>by
  rcases Pk ha with⟨i,t,rfl,rfl⟩|⟨x,t,rfl,rfl⟩
  ·rcases Pk hb with⟨j,u,rfl,e⟩|⟨y,u,rfl,e⟩
   ·injection e with e1 _;rw[e1]
   ·exact nomatch e
  ·rcases Pk hb with⟨j,u,rfl,e⟩|⟨y,u,rfl,e⟩
   ·exact nomatch e
   ·injection e with e1 _;rw[e1]
 byValue:=fun k v h=>by
  rcases Pk h with⟨i,t,rfl,rfl⟩|⟨x,t,rfl,rfl⟩<;>rfl
 pyHash:=fun hv h=>by
  rcases Pk hv with⟨i,t,rfl,rfl⟩|⟨x,t,rfl,rfl⟩
  ·exact wpAny_pyHash_int h
  ·exact wpAny_pyHash_str h
 eqBool:=fun hu hv h=>by
  rcases Pk hu with⟨i,t,rfl,rfl⟩|⟨x,t,rfl,rfl⟩
  ·rcases Pk hv with⟨j,u,rfl,rfl⟩|⟨y,u,rfl,rfl⟩
   ·rw[key_ll]at h;exact wpAny_eqBool_int h
   ·rw[key_lr]at h;exact SeqAt.EqAt.int_str i t y u _ _ _ _ h
  ·rcases Pk hv with⟨j,u,rfl,rfl⟩|⟨y,u,rfl,rfl⟩
   ·rw[key_rl]at h;exact SeqAt.EqAt.str_int x t j u _ _ _ _ h
   ·rw[key_rr]at h;exact wpAny_eqBool_str h
 «strs»:=fun k x t v h=>by
  rcases Pk h with⟨i,u,rfl,e⟩|⟨y,u,rfl,e⟩
  ·exact nomatch e
  ·injection e with e1 _
   subst e1;cases v<;>rfl
inductive V where
 |non|bl (b:Bool)|int (i:Int)|str (x:Str)|byt (b:Array UInt8)|flt (b:UInt64)|ref (a:Addr)|ty (n:String)
 deriving DecidableEq
noncomputable def RelV:V->ζ->Prop
 | .non,u=>u=Value.none
 | .bl b,u=>u=Value.bool b
 | .int i,u=>∃t,u=Value.int i t
 | .str x,u=>∃t,u=Value.str x t
 | .byt b,u=>∃t,u=Value.bytes b t
 | .flt b,u=>∃t,u=Value.float b t
 | .ref a,u=>u=Value.ref a
 | .ty n,u=>u=Value.type n
noncomputable abbrev Vals:List V->List ζ->Prop:=Paired RelV
theorem Vals.length{xs:List V}{us:List ζ}(r:Vals xs us):xs.length=us.length:=Uu r
theorem Vals.get:∀{xs:List V} {us:List ζ} {i:Nat} {x:V},Vals xs us->xs[i]? =some x->∃u,us[i]? =some u/\RelV x u
 |_,_,_,_,.nil,e=>by simp at e
 |_,_,0,_,.cons r _,e=>by simp at e;subst e;exact⟨_,rfl,r⟩
 |_,_,i+1,x,.cons _ t,e=>by
  obtain⟨u,h1,h2⟩:=Vals.get (i:=i) (x:=x) t (by simpa using e);exact⟨u,by simpa using h1,h2⟩
theorem Vals.set{x:V}{u:ζ}(r:RelV x u):∀{xs:List V} {us:List ζ} (i:Nat),Vals xs us->Vals (xs.set i x) (us.set i u)
 |_,_,_,.nil=> .nil
 |_,_,0,.cons _ t=> .cons r t
 |_,_,i+1,.cons q t=> .cons q (Vals.set r i t)
theorem Vals.append:∀{xs ys:List V} {us ws:List ζ},Vals xs us->Vals ys ws->Vals (xs++ys) (us++ws)
 |_,_,_,_,.nil,s=>s
 |_,_,_,_,.cons r t,s=> .cons r (Vals.append t s)
theorem Vals.take:∀{xs:List V} {us:List ζ} (n:Nat),Vals xs us->Vals (xs.take n) (us.take n)
 |_,_,0,_=> .nil
 |_,_,_+1,.nil=> .nil
 |_,_,n+1,.cons r t=> .cons r (Vals.take n t)
theorem Vals.drop:∀{xs:List V} {us:List ζ} (n:Nat),Vals xs us->Vals (xs.drop n) (us.drop n)
 |_,_,0,r=>r
 |_,_,_+1,.nil=> .nil
 |_,_,n+1,.cons _ t=>Vals.drop n t
noncomputable def RelO:Option V->Option ζ->Prop
 |some v,some u=>RelV v u
 |none,none=>True
 |_,_=>False
noncomputable def KV{κ:Type}:List (κ×V)->List (κ×ζ)->Prop:=Paired fun(p:κ×V) (q:κ×ζ)=>p.1=q.1/\RelV p.2 q.2
noncomputable def kV:Key->V
 | .inl i=> .int i
 | .inr x=> .str x
inductive HO where
 /-- a list -/
 |lst (xs:List V)
 /-- a tuple (never changes) -/
 |tup (xs:List V)
 /-- a dict whose keys are ints and texts; one whose keys are tuples of ints and texts (the empty one is both) -/
 |dK (kvs:List (Key×V))|dT (kvs:List (List Key×V))
 /-- a set of ints: its members, its size -/
 |set (S:Int->Bool) (n:Nat)
 /-- an instance of the class at C, its dict at dx, its attributes -/
 |ins (C dx:Addr) (fs:List (Str×V))
 /-- the dict of the instance at x -/
 |own (x:Addr)
 /-- the dict of an exception -/
 |xd (fs:List (Str×V))
 /-- a bound method, f of x -/
 |met (f x:Addr)
 /-- a range object lo, lo + 1, .. below hi -/
 |rng (lo hi:Int)
 /-- a thing that is known to the object (the script; a dict while a loop walks it): read, never written while it is so -/
 |frz (o:Obj) (u:HO)
 /-- a code object's table -/
 |tbl (ps:Array ζ)
 /-- any other thing, by what is true of its one object (a def of one's own: SetO a S n := HO.ext fun h => ..) -/
 |ext (φ:Heap->Prop)
noncomputable abbrev Hp:=Addr->Option HO
noncomputable def upd(H:Hp)(a:Addr)(o:HO):Hp:=fun b=>if b=a then some o else H b
theorem aB{H:Hp}{a:Addr}{o:HO}:upd H a o a=some o:=by unfold upd;rw[aF rfl]
theorem cW{H:Hp}{a b:Addr}{o:HO}(h:b≠a):upd H a o b=H b:=by unfold upd;rw[aA h]
theorem upd_upd{H:Hp}{a:Addr}{o u:HO}:upd (upd H a o) a u=upd H a u:=by
 funext b;unfold upd;split<;>rfl
theorem ne_of{H:Hp}{a b:Addr}{o u:HO}(h:H a=some o)(h':H b=some u)(d:o≠u):a≠b:=by
 intro e;subst e;rw[h]at h';exact d (sU h')
theorem sH{H:Hp}{a b:Addr}{o:HO}(h:H a=some o)(h':H b=none):a≠b:=by
 intro e;subst e;rw[h]at h';cases h'
section
variable(P:ξ)(w:τ)
noncomputable def ObjOk(H:Hp)(h:Heap)(a:Addr):HO->Prop
 | .lst xs=>xs.length<=sizeLine/\∃(its:List ζ) (n:Nat),Vals xs its/\h.get? a=some {cls:= .type "list",data:= .seq its.toArray n}
 | .tup xs=>xs.length<=sizeLine/\∃its:List ζ,Vals xs its/\IsTup h a its.toArray
 | .dK kvs=>kvs.length<=sizeLine/\(a==sysModules)=false/\∃vs,KV kvs vs/\h.DictOf (mixKind P w) a vs
 | .dT kvs=>kvs.length<=sizeLine/\(a==sysModules)=false/\∃xs:List (List Key×Addr×ζ),
   Paired (fun(p:List Key×V) (q:List Key×Addr×ζ)=>p.1=q.1/\H q.2.1=some (.tup (p.1.map kV))/\RelV p.2 q.2.2) kvs xs/\
   ∃o es ep,h.get? a=some o/\o.ExactDict/\o.data= .dict es ep/\es.toList=xs.map (entryOfKey (tupleKind (mixKind P w)))/\(xs.map (·.1)).Nodup
 | .set S n=>h.SetOf (intKind P w) a S n
 | .ins C dx fs=>H dx=some (.own a)/\fs.length<=1000/\dx≠a/\h.get? a=some (PySem.W.instObj C dx)/\
   ∃mA,h.Ns1 dx mA/\(∀f,RelO (fs.lookup f) (mA f))/\PySem.Within mA (fs.map (·.1))
 | .own _=>∃o,h.get? a=some o
 | .xd fs=>∃mA,h.Ns1 a mA/\∀f,RelO (fs.lookup f) (mA f)
 | .rng lo hi=>∃t u v,h.get? a=some {cls:= .type "range",data:= .fields #[.int lo t,.int hi u,.int 1 v]}
 | .frz o u=>h.get? a=some o/\ObjOk H h a u
 | .tbl ps=>h.get? a=some {cls:= .none,data:= .fields ps}
 | .met f x=>h.get? a=some (PySem.W.methodObj (.ref f) (.ref x))
 | .ext φ=>φ h/\(∃o,h.get? a=some o)/\∀h1 h2:Heap,φ h1->(∀o,h1.get? a=some o->h2.get? a=some o)->φ h2
noncomputable def HOk(H:Hp)(h:Heap):Prop:=∀a o,H a=some o->ObjOk P w H h a o
end
section
variable{P:ξ}{w:τ}{H H':Hp}{h h':Heap}{a:Addr}{o:HO}
theorem ObjOk.lt(x:ObjOk P w H h a o):a<h.objs.size:=by
 cases o with
 |lst xs=>obtain⟨_,_,_,_,e⟩:=x;exact fV e
 |tup xs=>obtain⟨_,_,_,p⟩:=x;exact p.lt
 |dK kvs=>obtain⟨_,_,_,_,o,_,_,e,_⟩:=x;exact fV e
 |dT kvs=>obtain⟨_,_,_,_,o,_,_,e,_⟩:=x;exact fV e
 |set S n=>obtain⟨o,_,_,_,e,_⟩:=x;exact fV e
 |ins C dx fs=>obtain⟨_,_,_,e,_⟩:=x;exact fV e
 |own y=>obtain⟨_,e⟩:=x;exact fV e
 |xd fs=>obtain⟨_,⟨_,_,_,e,_⟩,_⟩:=x;exact fV e
 |rng lo hi=>obtain⟨_,_,_,e⟩:=x;exact fV e
 |frz ob u=>obtain⟨e,_⟩:=x;exact fV e
 |tbl ps=>exact fV (show h.get? a=some _ from x)
 |met f y=>exact fV (show h.get? a=some _ from x)
 |ext φ=>obtain⟨_,⟨_,e⟩,_⟩:=x;exact fV e
theorem Paired.mapP{α β:Type}{F G:α->β->Prop}:∀{l₁:List α} {l₂:List β},Paired F l₁ l₂->(∀a b,F a b->G a b)->Paired G l₁ l₂
 |_,_,.nil,_=> .nil
 |_,_,.cons r t,f=> .cons (f _ _ r) (Paired.mapP t f)
theorem ObjOk.stay(x:ObjOk P w H h a o)(k:∀b u,(b=a\/H b=some (.own a))->h.get? b=some u->h'.get? b=some u)(ho:∀b,H b=some (.own a)->H' b=some (.own a))(ht:∀b xs,H b=some (.tup xs)->H' b=some (.tup xs)):ObjOk P w H' h' a o:=by
 induction o with
 |lst xs=>obtain⟨z,its,n,r,e⟩:=x;exact⟨z,its,n,r,k _ _ (.inl rfl) e⟩
 |tup xs=>obtain⟨z,its,r,ob,e,c⟩:=x;exact⟨z,its,r,ob,k _ _ (.inl rfl) e,c⟩
 |dK kvs=>obtain⟨z,y,vs,r,ob,es,ep,e,c⟩:=x;exact⟨z,y,vs,r,ob,es,ep,k _ _ (.inl rfl) e,c⟩
 |dT kvs=>
  obtain⟨z,y,xs,r,ob,es,ep,e,c⟩:=x;exact⟨z,y,xs,Paired.mapP r fun p q z=>⟨z.1,ht _ _ z.2.1,z.2.2⟩,ob,es,ep,k _ _ (.inl rfl) e,c⟩
 |set S n=>obtain⟨ob,es,ep,t,e,c⟩:=x;exact⟨ob,es,ep,t,k _ _ (.inl rfl) e,c⟩
 |ins C dx fs=>
  obtain⟨d,z,ne,e,mA,⟨od,es,ep,e2,c⟩,r⟩:=x;exact⟨ho _ d,z,ne,k _ _ (.inl rfl) e,mA,⟨od,es,ep,k _ _ (.inr d) e2,c⟩,r⟩
 |own y=>obtain⟨ob,e⟩:=x;exact⟨ob,k _ _ (.inl rfl) e⟩
 |xd fs=>obtain⟨mA,⟨od,es,ep,e,c⟩,r⟩:=x;exact⟨mA,⟨od,es,ep,k _ _ (.inl rfl) e,c⟩,r⟩
 |rng lo hi=>obtain⟨t,u,v,e⟩:=x;exact⟨t,u,v,k _ _ (.inl rfl) e⟩
 |frz ob u ih=>obtain⟨e,q⟩:=x;exact⟨k _ _ (.inl rfl) e,ih q⟩
 |tbl ps=>
  have e:h.get? a=some {cls:= .none,data:= .fields ps}:=x;show h'.get? a=some {cls:= .none,data:= .fields ps};exact k a _ (.inl rfl) e
 |met f y=>
  have e:h.get? a=some (PySem.W.methodObj (.ref f) (.ref y)):=x;show h'.get? a=some (PySem.W.methodObj (.ref f) (.ref y));exact k a _ (.inl rfl) e
 |ext φ=>obtain⟨p,⟨o,e⟩,st⟩:=x;exact⟨st _ _ p fun o q=>k _ _ (.inl rfl) q,⟨o,k _ _ (.inl rfl) e⟩,st⟩
theorem HOk.lt(x:HOk P w H h)(e:H a=some o):a<h.objs.size:=(x a o e).lt
theorem HOk.fresh(x:HOk P w H h)(e:h.objs.size<=a):H a=none:=by
 cases q:H a with
 |none=>rfl
 |some u=>exact absurd (mJ (x.lt q) e) (wV _)
theorem HOk.kept(x:HOk P w H h)(k:∀b u,h.get? b=some u->h'.get? b=some u):HOk P w H h':=fun a o e=>
 (x a o e).stay (fun b u _ q=>k b u q) (fun _ q=>q) fun _ _ q=>q
theorem HOk.laid(x:HOk P w H h)(k:∀b u,h.get? b=some u->h'.get? b=some u)(hp:h.objs.size<=a)(new:ObjOk P w (upd H a o) h' a o):HOk P w (upd H a o) h':=fun b u e=>by
 have hn:=x.fresh hp;by_cases hb:b=a
 ·subst hb;rw[aB]at e;cases e;exact new
 ·rw[cW hb]at e;exact(x b u e).stay (fun c v _ q=>k c v q) (fun c q=>by rw[cW (sH q hn)];exact q) fun c xs q=>by rw[cW (sH q hn)];exact q
end
noncomputable def Rd(H:Hp)(a:Addr)(u:HO):Prop:=H a=some u\/∃o,H a=some (.frz o u)
theorem Rd.ok{P:ξ}{w:τ}{H:Hp}{h:Heap}{a:Addr}{u:HO}(r:Rd H a u)(x:HOk P w H h):ObjOk P w H h a u:=by
 rcases r with r|⟨o,r⟩
 ·exact x a u r
 ·obtain⟨_,q⟩:=x a _ r;exact q
noncomputable def Mut:Option HO->Prop
 |some (.lst _)=>True
 |some (.dK _)=>True
 |some (.dT _)=>True
 |some (.set _ _)=>True
 |some (.ins _ _ _)=>True
 |some (.ext _)=>True
 |_=>False
section
variable{P:ξ}{w:τ}{H:Hp}{h h':Heap}{x e:Addr}{o':HO}
theorem HOk.write(ok:HOk P w H h)(mu:Mut (H x))(he:e=x\/H e=some (.own x))(k:∀b u,b≠e->h.get? b=some u->h'.get? b=some u)(heo:∃u,h'.get? e=some u)(new:ObjOk P w (upd H x o') h' x o'):HOk P w (upd H x o') h':=fun b u q=>by
 have nown:∀c y,H c=some (.own y)->c≠x:=fun c y r z=>by subst z;rw[r]at mu;exact mu
 have ntup:∀c xs,H c=some (.tup xs)->c≠x:=fun c xs r z=>by subst z;rw[r]at mu;exact mu
 by_cases hb:b=x
 ·subst hb;rw[aB]at q;cases q;exact new
 ·rw[cW hb]at q;by_cases hbe:b=e
  ·have q':H b=some (.own x):=by
    rcases he with z|z
    ·exact absurd (hbe.trans z) hb
    ·rw[hbe];exact z
   rw[q]at q';cases q';obtain⟨v,hv⟩:=heo;exact⟨v,by rw[hbe];exact hv⟩
  ·refine(ok b u q).stay (fun c v hc r=>k c v ?_ r) (fun c r=>by rw[cW (nown c b r)];exact r) fun c xs r=>by rw[cW (ntup c xs r)];exact r
   rcases hc with rfl|hc
   ·exact hbe
   ·rintro rfl;rcases he with z|z
    ·exact nown c b hc z
    ·rw[hc]at z;cases z;exact hb rfl
end
structure Un(fs ex:List Addr)(H H':Hp)(h h':Heap):Prop where
 keep:∀b o,h.get? b=some o->H b=none->b∉fs->b∉ex->h'.get? b=some o
 slot:∀b o,h.get? b=some o->H b=none->b∈fs->b∉ex->∃sl,h'.get? b=some {o with slots:=sl}
 free:∀b o,h.get? b=some o->H b=none->b∉ex->H' b=none
 there:∀b o,h.get? b=some o->b∉ex->∃o',h'.get? b=some o'
 tups:∀b xs,H b=some (.tup xs)->H' b=some (.tup xs)
 frzs:∀b o u,H b=some (.frz o u)->H' b=some (.frz o u)
 tbls:∀b ps,H b=some (.tbl ps)->∃more,H' b=some (.tbl (ps++more))
section
variable{fs ex:List Addr}{H H1:Hp}{h h1 h':Heap}{a x e:Addr}{o:HO}
theorem Un.any(u:Un fs ex H H1 h h1){b:Addr}{ob:Obj}(q:h.get? b=some ob)(n:H b=none)(hx:b∉ex):∃sl,h1.get? b=some {ob with slots:=sl}:=by
 by_cases hb:b∈fs
 ·exact u.slot b ob q n hb hx
 ·exact⟨ob.slots,u.keep b ob q n hb hx⟩
theorem Un.kept(k:∀b u,h.get? b=some u->h'.get? b=some u):Un fs ex H H h h':=
 ⟨fun b ob q _ _ _=>k b ob q,fun b ob q _ _ _=>⟨ob.slots,k b ob q⟩,fun _ _ _ n _=>n,fun b ob q _=>⟨ob,k b ob q⟩,fun _ _ q=>q,fun _ _ _ q=>q,fun _ ps q=>⟨#[],by rw[q];simp⟩⟩
theorem Un.refl:Un fs ex H H h h:=Un.kept fun _ _ q=>q
theorem Un.laid(k:∀b u,h.get? b=some u->h'.get? b=some u)(hp:h.objs.size<=a)(hn:H a=none):Un fs ex H (upd H a o) h h' where
 keep:=fun b u q _ _ _=>k b u q
 slot:=fun b u q _ _ _=>⟨u.slots,k b u q⟩
 free:=fun b u q n _=>by rw[cW (iZ (mJ (fV q) hp))];exact n
 there:=fun b u q _=>⟨u,k b u q⟩
 tups:=fun b xs q=>by rw[cW (sH q hn)];exact q
 frzs:=fun b u xs q=>by rw[cW (sH q hn)];exact q
 tbls:=fun b ps q=>⟨#[],by rw[cW (sH q hn),q];simp⟩
theorem Un.write(mu:Mut (H x))(he:e=x\/H e=some (.own x))(k:∀b u,b≠e->h.get? b=some u->h'.get? b=some u)(heo:∃u,h'.get? e=some u):Un fs ex H (upd H x o) h h':=by
 have hx:∀b,H b=none->b≠x:=fun b n z=>by subst z;rw[n]at mu;exact mu
 have hb:∀b,H b=none->b≠e:=fun b n z=>by
  subst z;rcases he with r|r
  ·exact hx b n r
  ·rw[n]at r;cases r
 have hm:∀b u,H b=some u->¬Mut (some u)->b≠x:=fun b u q nm z=>by subst z;rw[q]at mu;exact nm mu
 refine⟨fun b u q n _ _=>k b u (hb b n) q,fun b u q n _ _=>⟨u.slots,k b u (hb b n) q⟩,fun b u q n _=>by rw[cW (hx b n)];exact n,fun b u q _=> ?_,
  fun b xs q=>by rw[cW (hm b _ q fun z=>z)];exact q,fun b u xs q=>by rw[cW (hm b _ q fun z=>z)];exact q,fun b ps q=>⟨#[],by rw[cW (hm b _ q fun z=>z),q];simp⟩⟩
 by_cases hbe:b=e
 ·subst hbe;exact heo
 ·exact⟨u,k b u hbe q⟩
end
noncomputable def trk(h:Heap)(H:Hp):List Addr:=(List.range h.objs.size).filter fun a=>(H a).isSome
noncomputable def hidT(h:Heap)(H:Hp):Heap:=PySem.W.hideAll h (trk h H)
theorem hidT_size(h:Heap)(H:Hp):(hidT h H).objs.size=h.objs.size:=PySem.W.hideAll_size _ _
theorem hidT_get{h:Heap}{H:Hp}{b:Addr}{o:Obj}(e:h.get? b=some o)(n:H b=none):(hidT h H).get? b=some o:=
 PySem.W.hideAll_get _ e fun hm=>by
  have q:(H b).isSome=true:=(fL.mp hm).2;rw[n]at q;simp at q
theorem of_hidT{h:Heap}{H:Hp}{b:Addr}{o:Obj}(e:(hidT h H).get? b=some o):h.get? b=some o/\H b=none:=by
 have e':h.get? b=some o:=PySem.W.of_hideAll (trk h H) e;refine⟨e',?_⟩;cases q:H b with
 |none=>rfl
 |some x=>
  have hm:b∈trk h H:=fL.mpr ⟨jZ.mpr (fV e'),by simp[q]⟩;have z:(hidT h H).get? b=none:=PySem.W.hideAll_none (trk h H) hm;rw[z]at e;cases e
structure Mod(K:W.Frag)(mg:L5)(base:Heap):Prop where
 kin:K.In base
 glob:base.Ns mainGlobals mg
 blt:∃mb,base.Ns builtinsNs mb/\∀x:Str,x≠"__name__"->mb x=bootBuiltins x
 nolimit:base.NoLimit
structure Cx where
 prog:ξ
 w:τ
 K:W.Frag
 mg:Str->Option ζ
 base:Heap
 A:Around
 N:List Str
 s₀:η
 H₀:Hp
 env:Env
 outer:List Env
 stack:List Env
 ex:List Addr
 fn:Str->Bool
 calm:Bool
 pn:L3
 xe:ζ->η->Prop
noncomputable def frs(l:List Env):List Addr:=l.filterMap (·.frame)
noncomputable abbrev Cx.fs(X:Cx):List Addr:=frs X.outer
noncomputable def Vis(sc:Scope)(x:Str):Prop:=sc.names.lookup x=some .local\/sc.names.lookup x=some .cell\/sc.names.lookup x=some .free
noncomputable def Loc(sc:Scope)(x:Str):Prop:=sc.names.lookup x=some .local\/sc.names.lookup x=some .cell
noncomputable def Look(env:Env)(h:Heap)(m:L5)(x:Str)(u:ζ):Prop:=
 (env.kindOf x=some .local/\m x=some u)\/((env.kindOf x=some .cell\/env.kindOf x=some .free)/\∃c,env.cells.lookup x=some c/\h.IsCell c (some u))
structure Cx.Ok(X:Cx):Prop where
 mod:Mod X.K X.mg X.base
 kind:X.env.scope.kind= .function
 glob:X.env.globals=mainGlobals
 blt:X.env.builtins=builtinsNs
 above:X.s₀.heap.objs.size<=X.env.locals
 inj:∀x y c,X.env.cells.lookup x=some c->X.env.cells.lookup y=some c->x=y
 has:∀x,(X.env.kindOf x=some .cell\/X.env.kindOf x=some .free)->∃c,X.env.cells.lookup x=some c
 cab:∀x c,X.fn x=true->X.env.cells.lookup x=some c->X.s₀.heap.objs.size<=c
 hd:X.calm=true->X.A.handled=none
 frames:X.A.frames=some X.stack
 stk:X.stack=X.outer\/(X.stack=X.env::X.outer/\X.env.frame=some X.env.locals)
 exf:∀b∈X.ex,b≠X.env.locals/\∀x c,X.env.cells.lookup x=some c->c≠b
 bs:∀b o,X.base.get? b=some o->X.s₀.heap.get? b=some o/\X.H₀ b=none
 bsz:X.base.objs.size<=X.s₀.heap.objs.size
 noex:∀b o,X.base.get? b=some o->b∉X.ex
 exfs:∀b∈X.ex,b∉X.fs
 funs:X.s₀.heap.FunFrames X.base X.outer
 frf:∀b∈X.fs,X.H₀ b=none
structure Inv(X:Cx)(pins:L3)(σ:List (Option V))(H:Hp)(s:η):Prop where
 ok:X.Ok
 os:s.os=X.s₀.os
 bare:AllBare s.gens
 base:Un X.fs X.ex X.H₀ H X.s₀.heap s.heap
 loc:∃m,s.heap.Ns X.env.locals m/\∀(i:Nat) (x:Str) (v:V),X.N[i]? =some x->σ[i]? =some (some v)->Vis X.env.scope x->∃u,RelV v u/\Look X.env s.heap m x u
 cell:∀x c,X.env.cells.lookup x=some c->∃v,s.heap.IsCell c v
 free:H X.env.locals=none
 freeC:∀x c,X.env.cells.lookup x=some c->H c=none
 pin:∀p∈X.pn++pins,s.heap.get? p.1=some p.2/\H p.1=none/\p.1≠X.env.locals/\p.1∉X.fs/\∀v,p.2.data≠.cell v
 hok:HOk X.prog X.w H s.heap
 len:σ.length=X.N.length
section
variable{X:Cx}{pins:L3}{σ:List (Option V)}{H H':Hp}{s:η}{h':Heap}
theorem Cx.Ok.nofr(ok:X.Ok){b:Addr}{o:Obj}(e:X.base.get? b=some o):b∉X.fs:=fun hb=>by
 have:=(ok.funs.mem hb).1;rw[e]at this;cases this
theorem Inv.bs(I:Inv X pins σ H s):∀b o,X.base.get? b=some o->s.heap.get? b=some o/\H b=none:=fun b o e=>
 ⟨I.base.keep b o (I.ok.bs b o e).1 (I.ok.bs b o e).2 (I.ok.nofr e) (I.ok.noex b o e),I.base.free b o (I.ok.bs b o e).1 (I.ok.bs b o e).2 (I.ok.noex b o e)⟩
theorem Inv.bk(I:Inv X pins σ H s):∀b o,X.base.get? b=some o->s.heap.get? b=some o:=fun b o e=>(I.bs b o e).1
theorem Inv.mod(I:Inv X pins σ H s):Mod X.K X.mg X.base:=I.ok.mod
theorem Inv.kIn(I:Inv X pins σ H s):X.K.In s.heap:=I.ok.mod.kin.keeps I.bk
theorem Inv.lt(I:Inv X pins σ H s):X.env.locals<s.heap.objs.size:=let⟨_,hn,_⟩:=I.loc;hn.lt
theorem Inv.sz(I:Inv X pins σ H s):X.s₀.heap.objs.size<=s.heap.objs.size:=cT I.ok.above (dH I.lt)
theorem Inv.nofs(I:Inv X pins σ H s){a:Addr}(h:s.heap.objs.size<=a):a∉X.fs:=fun hb=>by
 obtain⟨_,o,ho,_⟩:=I.ok.funs.mem hb;exact absurd (mJ (fV ho) (cT I.sz h)) (wV _)
theorem Inv.cne(I:Inv X pins σ H s):∀x c,X.env.cells.lookup x=some c->c≠X.env.locals:=fun x c e z=>by
 obtain⟨v,o,ho,hd⟩:=I.cell x c e;obtain⟨m,⟨o',es,ep,ho',hd',_⟩,_⟩:=I.loc;rw[z,ho']at ho;cases ho;rw[hd']at hd;cases hd
theorem Inv.funs(I:Inv X pins σ H s):s.heap.FunFrames X.base X.outer:=by
 have all:∀(l:List Env),(∀b∈frs l,b∈X.fs)->X.s₀.heap.FunFrames X.base l->s.heap.FunFrames X.base l:=by
  intro l
  induction l with
  |nil=>intro _ _;trivial
  |cons env r ih=>
   intro hs hl;obtain⟨hk,⟨L,o,hf,hn,ho,hd⟩,hr⟩:=hl;have hL:L∈X.fs:=hs L (by unfold frs;rw[wcv,hf];exact iW);obtain⟨sl,e⟩:=I.base.slot L o ho (I.ok.frf L hL) hL fun z=>I.ok.exfs L z hL;exact⟨hk,⟨L,_,hf,hn,e,hd⟩,ih (fun b hb=>hs b (by unfold frs;rw[wcv,hf];exact iG _ hb)) hr⟩
 exact all X.outer (fun _ hb=>hb) I.ok.funs
theorem Inv.stack(I:Inv X pins σ H s):s.heap.FunFrames X.base X.stack:=by
 rcases I.ok.stk with e|⟨e,hf⟩
 ·rw[e];exact I.funs
 ·rw[e];obtain⟨m,hn,_⟩:=I.loc;refine .cons (by rw[I.ok.kind];decide) hf hn ?_ I.funs;exact Heap.get?_none_of_le (cT I.ok.bsz I.ok.above)
theorem Inv.stkSub(I:Inv X pins σ H s):∀b∈frs X.stack,b∈X.env.locals::X.fs:=fun b hb=>by
 rcases I.ok.stk with e|⟨e,hf⟩
 ·rw[e]at hb;exact iG _ hb
 ·rw[e]at hb;unfold frs at hb;rw[wcv,hf]at hb;exact hb
theorem Inv.stkFree(I:Inv X pins σ H s):∀b∈frs X.stack,H b=none:=fun b hb=>by
 rcases cY.mp (I.stkSub b hb)with e|hb
 ·rw[e];exact I.free
 ·obtain⟨_,o,ho,_⟩:=I.ok.funs.mem hb;exact I.base.free b o ho (I.ok.frf b hb) fun z=>I.ok.exfs b z hb
theorem Inv.step{g':Array GenState}{t':Nat}{d':Drawn}{ch:List Addr}(I:Inv X pins σ H s)(hch:∀b∈ch,(b∈X.ex\/X.s₀.heap.objs.size<=b)/\b≠X.env.locals/\(∀x c,X.env.cells.lookup x=some c->c≠b)/\∀p∈X.pn++pins,p.1≠b)(keep:∀b o,b≠X.env.locals->b∉X.fs->b∉ch->s.heap.get? b=some o->H b=none->h'.get? b=some o)(slot:∀b o,b≠X.env.locals->b∈X.fs->b∉ch->s.heap.get? b=some o->H b=none->∃sl,h'.get? b=some {o with slots:=sl})(free:∀b o,b∉ch->s.heap.get? b=some o->H b=none->H' b=none)(there:∀b o,b∉ch->s.heap.get? b=some o->∃o',h'.get? b=some o')(tups:∀b xs,H b=some (.tup xs)->H' b=some (.tup xs))(frzs:∀b o u,H b=some (.frz o u)->H' b=some (.frz o u))(tbls:∀b ps,H b=some (.tbl ps)->∃more,H' b=some (.tbl (ps++more)))(ns:∀m,s.heap.Ns X.env.locals m->h'.Ns X.env.locals m)(hok:HOk X.prog X.w H' h')(hg:AllBare g'):
  Inv X pins σ H' {s with heap:=h',gens:=g',drawn:=d',toks:=t'}:=by
 have neL:∀b o,X.s₀.heap.get? b=some o->b≠X.env.locals:=fun b o e=>iZ (mJ (fV e) I.ok.above);have neC:∀b o,X.s₀.heap.get? b=some o->b∉X.ex->b∉ch:=fun b o e hx hb=>by
  rcases(hch b hb).1 with z|z
  ·exact hx z
  ·exact absurd (mJ (fV e) z) (wV _)
 have cellK:∀x c,X.env.cells.lookup x=some c->∀v,s.heap.IsCell c v->h'.IsCell c v:=fun x c e v ⟨o,ho,hd⟩=>by
  have nch:c∉ch:=fun z=>(hch c z).2.2.1 x c e rfl;by_cases hc:c∈X.fs
  ·obtain⟨sl,q⟩:=slot c o (I.cne x c e) hc nch ho (I.freeC x c e);exact⟨_,q,hd⟩
  ·exact⟨o,keep c o (I.cne x c e) hc nch ho (I.freeC x c e),hd⟩
 refine⟨I.ok,I.os,hg,⟨fun b o e n hb hx=> ?_,fun b o e n hb hx=> ?_,fun b o e n hx=> ?_,fun b o e hx=> ?_,fun b xs e=>tups b xs (I.base.tups b xs e),fun b o xs e=>frzs b o xs (I.base.frzs b o xs e),fun b ps e=> ?_⟩,?_,fun x c e=> ?_,?_,fun x c e=> ?_,fun p hp=> ?_,hok,I.len⟩
 ·exact keep b o (neL b o e) hb (neC b o e hx) (I.base.keep b o e n hb hx) (I.base.free b o e n hx)
 ·obtain⟨sl,e1⟩:=I.base.slot b o e n hb hx;obtain⟨sl',e2⟩:=slot b _ (neL b o e) hb (neC b o e hx) e1 (I.base.free b o e n hx);exact⟨sl',e2⟩
 ·obtain⟨o',e1⟩:=I.base.there b o e hx;exact free b o' (neC b o e hx) e1 (I.base.free b o e n hx)
 ·obtain⟨o',e1⟩:=I.base.there b o e hx;exact there b o' (neC b o e hx) e1
 ·obtain⟨m1,e1⟩:=I.base.tbls b ps e;obtain⟨m2,e2⟩:=tbls b _ e1;exact⟨m1++m2,by rw[e2,Array.append_assoc]⟩
 ·obtain⟨m,hn,hl⟩:=I.loc;refine⟨m,ns m hn,fun i x v e1 e2 e3=> ?_⟩;obtain⟨u,r,l⟩:=hl i x v e1 e2 e3;refine⟨u,r,?_⟩;rcases l with l|⟨k,c,e,z⟩
  ·exact .inl l
  ·exact .inr ⟨k,c,e,cellK x c e _ z⟩
 ·obtain⟨v,z⟩:=I.cell x c e;exact⟨v,cellK x c e v z⟩
 ·obtain⟨m,⟨o,_,_,ho,_⟩,_⟩:=I.loc;exact free _ o (fun z=>(hch _ z).2.1 rfl) ho I.free
 ·obtain⟨v,o,ho,hd⟩:=I.cell x c e;exact free c o (fun z=>(hch c z).2.2.1 x c e rfl) ho (I.freeC x c e)
 ·obtain⟨e,n,ne,nf,d⟩:=I.pin p hp;have nch:p.1∉ch:=fun z=>(hch p.1 z).2.2.2 p hp rfl;exact⟨keep p.1 p.2 ne nf nch e n,free p.1 p.2 nch e n,ne,nf,d⟩
theorem Inv.un{t':Nat}(I:Inv X pins σ H s)(u:Un X.fs [] H H' s.heap h')(hok:HOk X.prog X.w H' h'):Inv X pins σ H' {s with heap:=h',toks:=t'}:=by
 obtain⟨m,⟨o,es,ep,ho,r⟩,_⟩:=id I.loc;obtain⟨sl,hL⟩:=u.any ho I.free (by simp);exact I.step (g':=s.gens) (d':=s.drawn) (ch:=[]) (fun _ z=>nomatch z) (fun b o _ hb _ e n=>u.keep b o e n hb (by simp)) (fun b o _ hb _ e n=>u.slot b o e n hb (by simp)) (fun b o _ e n=>u.free b o e n (by simp)) (fun b o _ e=>u.there b o e (by simp)) u.tups u.frzs u.tbls (fun m' hm=>by
  obtain⟨o',es',ep',ho',r'⟩:=hm;rw[ho]at ho';cases ho';exact⟨_,es',ep',hL,r'⟩) hok I.bare
theorem Inv.call{g':Array GenState}{t':Nat}{d':Drawn}{ch:List Addr}(I:Inv X pins σ H s)(u:Un (frs X.stack) ch H H' s.heap h')(hok:HOk X.prog X.w H' h')(hg:AllBare g')(hch:∀b∈ch,(b∈X.ex\/X.s₀.heap.objs.size<=b)/\b≠X.env.locals/\(∀x c,X.env.cells.lookup x=some c->c≠b)/\∀p∈X.pn++pins,p.1≠b):
  Inv X pins σ H' {s with heap:=h',gens:=g',drawn:=d',toks:=t'}:=by
 obtain⟨m,⟨o,es,ep,ho,r⟩,_⟩:=id I.loc;obtain⟨sl,hL⟩:=u.any ho I.free fun z=>(hch _ z).2.1 rfl;exact I.step (ch:=ch) hch (fun b o hL hb hc e n=>u.keep b o e n (fun z=>(cY.mp (I.stkSub b z)).elim hL hb) hc) (fun b o _ _ hc e n=>u.any e n hc) (fun b o hc e n=>u.free b o e n hc) (fun b o hc e=>u.there b o e hc) u.tups u.frzs u.tbls (fun m' hm=>by
  obtain⟨o',es',ep',ho',r'⟩:=hm;rw[ho]at ho';cases ho';exact⟨_,es',ep',hL,r'⟩) hok hg
theorem Inv.turned{t':Nat}{it:Addr}(I:Inv X pins σ H s)(k:∀b o,b≠it->s.heap.get? b=some o->h'.get? b=some o)(hn:H it=none)(hL:it≠X.env.locals)(h1:it∈X.ex\/X.s₀.heap.objs.size<=it)(h2:∀x c,X.env.cells.lookup x=some c->c≠it)(h3:∀p∈X.pn++pins,p.1≠it):Inv X pins σ H {s with heap:=h',toks:=t'}:=by
 have nit:∀b u,H b=some u->b≠it:=fun b u e z=>by rw[z,hn]at e;cases e
 refine I.step (g':=s.gens) (d':=s.drawn) (ch:=[it]) (fun b hb=> ?_) (fun b o _ _ hc e _=>k b o (fun z=>hc (by simp[z])) e) (fun b o _ _ hc e _=>⟨o.slots,k b o (fun z=>hc (by simp[z])) e⟩) (fun _ _ _ _ n=>n)
  (fun b o hc e=>⟨o,k b o (fun z=>hc (by simp[z])) e⟩) (fun _ _ e=>e) (fun _ _ _ e=>e) (fun b ps e=>⟨#[],by rw[e];simp⟩) (fun m hm=> ?_) (fun b u e=> ?_) I.bare
 ·have e:b=it:=by simpa using hb
  subst e;exact⟨h1,hL,h2,h3⟩
 ·obtain⟨o,es,ep,ho,r⟩:=hm;exact⟨o,es,ep,k _ o (way hL) ho,r⟩
 ·refine(I.hok b u e).stay (fun c v hc q=>k c v ?_ q) (fun _ q=>q) fun _ _ q=>q;rcases hc with z|z
  ·rw[z];exact nit b u e
  ·exact nit c _ z
theorem Inv.tok(I:Inv X pins σ H s)(t:Nat):Inv X pins σ H {s with toks:=t}:=I.un (h':=s.heap) (t':=t) Un.refl I.hok
theorem Inv.kept{t':Nat}(I:Inv X pins σ H s)(k:∀b u,s.heap.get? b=some u->h'.get? b=some u):Inv X pins σ H {s with heap:=h',toks:=t'}:=I.un (Un.kept k) (I.hok.kept k)
theorem Inv.laid{a:Addr}{o:HO}{t':Nat}(I:Inv X pins σ H s)(k:∀b u,s.heap.get? b=some u->h'.get? b=some u)(hp:s.heap.objs.size<=a)(new:ObjOk X.prog X.w (upd H a o) h' a o):
  Inv X pins σ (upd H a o) {s with heap:=h',toks:=t'}:=I.un (Un.laid k hp (I.hok.fresh hp)) (I.hok.laid k hp new)
theorem Inv.write{x e:Addr}{o:HO}{t':Nat}(I:Inv X pins σ H s)(mu:Mut (H x))(he:e=x\/H e=some (.own x))(k:∀b u,b≠e->s.heap.get? b=some u->h'.get? b=some u)(heo:∃u,h'.get? e=some u)(new:ObjOk X.prog X.w (upd H x o) h' x o):Inv X pins σ (upd H x o) {s with heap:=h',toks:=t'}:=I.un (Un.write mu he k heo) (I.hok.write mu he k heo new)
theorem Inv.pins_of{pins':L3}(I:Inv X pins σ H s)(h:∀p∈pins',s.heap.get? p.1=some p.2/\H p.1=none/\p.1≠X.env.locals/\p.1∉X.fs/\∀v,p.2.data≠.cell v):Inv X pins' σ H s:=
 ⟨I.ok,I.os,I.bare,I.base,I.loc,I.cell,I.free,I.freeC,fun p hp=>(nA.mp hp).elim (fun z=>I.pin p (yed _ z)) (h p),I.hok,I.len⟩
theorem nodup_ix{N:List Str}(hN:N.Nodup){i j:Nat}{x:Str}(a:N[i]? =some x)(b:N[j]? =some x):i=j:=by
 obtain⟨h1,e1⟩:=nF.mp a;obtain⟨h2,e2⟩:=nF.mp b;exact(List.getElem_inj hN).mp (e1.trans e2.symm)
theorem store_ok2{M:Model}{A:Around}{E:L4}{i:Nat}{x:Str}{v:V}{u:ζ}{Q:Unit->η->Prop}(I:Inv X pins σ H s)(hN:X.N.Nodup)(hi:X.N[i]? =some x)(hx:Loc X.env.scope x)(r:RelV v u)(h:∀s',Inv X pins (σ.set i (some v)) H s'->(∃a,Heap.SameBut a s.heap s'.heap/\(a=X.env.locals\/X.env.cells.lookup x=some a))->Q () s')(hf:X.fn x=true\/X.env.scope.names.lookup x=some .local:=by first |exact .inl rfl|exact .inr rfl|assumption):wpAny M A (storeName X.env x u) Q E s:=by
 obtain⟨m,hn,hl⟩:=id I.loc;have hcls:(X.env.scope.kind== .class||(X.env.scope.kind== .module&&X.env.locals !=X.env.globals))=false:=by rw[I.ok.kind];rfl
 have hiσ:i<σ.length:=by rw[I.len];exact(nF.mp hi).1
 have cne:=I.cne;have tracked:∀{a:Addr} {h':Heap},(∃o,s.heap.get? a=some o/\H a=none)->Heap.SameBut a s.heap h'->HOk X.prog X.w H h':=fun{a h'} ha hs b ob e=>by
  obtain⟨_,_,hfree⟩:=ha;refine(I.hok b ob e).stay (fun c w' hc q=>(hs.2 c ?_).trans q) (fun _ q=>q) fun _ _ q=>q;rintro rfl;rcases hc with rfl|hc
  ·rw[hfree]at e;cases e
  ·rw[hfree]at hc;cases hc
 rcases hx with hk|hk
 ·refine wpAny_storeName_local hk hn (fun h' hn' hs=> ?_) hcls;obtain⟨oL,_,_,hoL,_⟩:=id hn;refine h _ ⟨I.ok,I.os,I.bare,⟨fun b o e n hb hx=> ?_,fun b o e n hb hx=> ?_,I.base.free,fun b o e hx=> ?_,I.base.tups,I.base.frzs,I.base.tbls⟩,⟨_,hn',fun j y v' e1 e2 e3=> ?_⟩,fun y c e=> ?_,I.free,I.freeC,fun p hp=> ?_,tracked ⟨oL,hoL,I.free⟩ hs,by simpa using I.len⟩ ⟨_,hs,.inl rfl⟩
  ·exact(hs.2 b (iZ (mJ (fV e) I.ok.above))).trans (I.base.keep b o e n hb hx)
  ·obtain⟨sl,e1⟩:=I.base.slot b o e n hb hx;exact⟨sl,(hs.2 b (iZ (mJ (fV e) I.ok.above))).trans e1⟩
  ·obtain⟨o',e1⟩:=I.base.there b o e hx;exact⟨o',(hs.2 b (iZ (mJ (fV e) I.ok.above))).trans e1⟩
  ·by_cases hj:j=i
   ·subst hj;rw[hi]at e1;cases e1;rw[wel hiσ]at e2;cases e2;exact⟨u,r,.inl ⟨hk,by simp⟩⟩
   ·rw[List.getElem?_set_ne (way hj)]at e2;obtain⟨u',r',q⟩:=hl j y v' e1 e2 e3;refine⟨u',r',?_⟩;rcases q with⟨k,e⟩|⟨k,c,e,z⟩
    ·refine .inl ⟨k,?_⟩;have:y≠x:=fun e=>hj (nodup_ix hN e1 (e▸hi));simp[this,e]
    ·exact .inr ⟨k,c,e,z.sameBut hs (cne y c e)⟩
  ·obtain⟨w',z⟩:=I.cell y c e;exact⟨w',z.sameBut hs (cne y c e)⟩
  ·obtain⟨e,n,ne,nf,d⟩:=I.pin p hp;exact⟨(hs.2 p.1 ne).trans e,n,ne,nf,d⟩
 ·have hfn:X.fn x=true:=by
   rcases hf with z|z
   ·exact z
   ·rw[z]at hk;cases hk
  obtain⟨c,hc⟩:=I.ok.has x (.inl hk);obtain⟨w',z⟩:=I.cell x c hc;refine wpAny_storeName_cell I.ok.kind hk hc z (fun h' hc' hs=> ?_);obtain⟨oc,hoc,hocd⟩:=id z;refine h {s with heap:=h'} ⟨I.ok,I.os,I.bare,⟨fun b o e n hb hx=> ?_,fun b o e n hb hx=> ?_,I.base.free,fun b o e hx=> ?_,I.base.tups,I.base.frzs,I.base.tbls⟩,⟨m,hn.sameBut hs (way (cne x c hc)),fun j y v' e1 e2 e3=> ?_⟩,fun y c' e=> ?_,I.free,I.freeC,fun p hp=> ?_,tracked ⟨oc,hoc,I.freeC x c hc⟩ hs,by simpa using I.len⟩ ⟨c,hs,.inr hc⟩
  ·exact(hs.2 b (iZ (mJ (fV e) (I.ok.cab x c hfn hc)))).trans (I.base.keep b o e n hb hx)
  ·obtain⟨sl,e1⟩:=I.base.slot b o e n hb hx;exact⟨sl,(hs.2 b (iZ (mJ (fV e) (I.ok.cab x c hfn hc)))).trans e1⟩
  ·obtain⟨o',e1⟩:=I.base.there b o e hx;exact⟨o',(hs.2 b (iZ (mJ (fV e) (I.ok.cab x c hfn hc)))).trans e1⟩
  ·by_cases hj:j=i
   ·subst hj;rw[hi]at e1;cases e1;rw[wel hiσ]at e2;cases e2;exact⟨u,r,.inr ⟨.inl hk,c,hc,hc'⟩⟩
   ·rw[List.getElem?_set_ne (way hj)]at e2;obtain⟨u',r',q⟩:=hl j y v' e1 e2 e3;refine⟨u',r',?_⟩;rcases q with q|⟨k,c',e,z'⟩
    ·exact .inl q
    ·refine .inr ⟨k,c',e,z'.sameBut hs ?_⟩;rintro rfl;exact hj (nodup_ix hN e1 (I.ok.inj _ _ _ e hc▸hi))
  ·by_cases hcc:c'=c
   ·subst hcc;exact⟨_,hc'⟩
   ·obtain⟨w2,z2⟩:=I.cell y c' e;exact⟨w2,z2.sameBut hs hcc⟩
  ·obtain⟨e,n,ne,nf,d⟩:=I.pin p hp;refine⟨(hs.2 p.1 ?_).trans e,n,ne,nf,d⟩;intro q;rw[q,hoc]at e;have q':oc=p.2:=sU e;exact d w' (by rw[<-q'];exact hocd)
theorem store_ok{M:Model}{A:Around}{E:L4}{i:Nat}{x:Str}{v:V}{u:ζ}{Q:Unit->η->Prop}(I:Inv X pins σ H s)(hN:X.N.Nodup)(hi:X.N[i]? =some x)(hx:Loc X.env.scope x)(r:RelV v u)(h:∀s',Inv X pins (σ.set i (some v)) H s'->Q () s')(hf:X.fn x=true\/X.env.scope.names.lookup x=some .local:=by first |exact .inl rfl|exact .inr rfl|assumption):wpAny M A (storeName X.env x u) Q E s:=
 store_ok2 I hN hi hx r (fun s' I' _=>h s' I') hf
theorem Inv.call'{s':η}{ch:List Addr}(I:Inv X pins σ H s)(ho:s'.os=s.os)(u:Un (frs X.stack) ch H H' s.heap s'.heap)(hok:HOk X.prog X.w H' s'.heap)(hg:AllBare s'.gens)(hch:∀b∈ch,(b∈X.ex\/X.s₀.heap.objs.size<=b)/\b≠X.env.locals/\(∀x c,X.env.cells.lookup x=some c->c≠b)/\∀p∈X.pn++pins,p.1≠b):Inv X pins σ H' s':=by
 obtain⟨h',g',d',t',o'⟩:=s';have e:o'=s.os:=ho;subst e;exact I.call (g':=g') (t':=t') (d':=d') u hok hg hch
end
noncomputable abbrev XK:=ζ->Option Addr->Hp->Prop
noncomputable abbrev St:=List (Option V)
noncomputable abbrev VK:=V->Hp->Prop
noncomputable abbrev TE:=St->Hp->VK->Prop
noncomputable abbrev TT:=St->Hp->(Bool->Hp->Prop)->Prop
noncomputable abbrev TA:=St->Hp->(List V->Hp->Prop)->Prop
structure Ends where
 nx:St->Hp->Prop
 rt:VK
 bk:St->Hp->Prop:=fun _ _=>False
 ct:St->Hp->Prop:=fun _ _=>False
noncomputable abbrev TS:=Ends->St->Hp->Prop
noncomputable def EP(X:Cx)(pins:L3)(σ:St)(Q:VK)(u:ζ)(s':η):Prop:=∃v H',Inv X pins σ H' s'/\RelV v u/\Q v H'
noncomputable def TP(X:Cx)(pins:L3)(σ:St)(Q:Bool->Hp->Prop)(b:Bool)(s':η):Prop:=∃H',Inv X pins σ H' s'/\Q b H'
noncomputable def AP(X:Cx)(pins:L3)(σ:St)(Q:List V->Hp->Prop)(us:List ζ)(s':η):Prop:=∃vs H',Inv X pins σ H' s'/\Vals vs us/\Q vs H'
noncomputable def SP(X:Cx)(pins:L3)(D:Ends)(f:Flow)(s':η):Prop:=
 match f with
 | .next=>∃σ' H',Inv X pins σ' H' s'/\D.nx σ' H'
 | .brk=>∃σ' H',Inv X pins σ' H' s'/\D.bk σ' H'
 | .cont=>∃σ' H',Inv X pins σ' H' s'/\D.ct σ' H'
 | .ret u=>∃v σ' H',Inv X pins σ' H' s'/\RelV v u/\D.rt v H'
noncomputable def PE(X:Cx)(e:Expr)(t:TE):Prop:=
 ∀(pins:L3) (s:η) (σ:St) (H:Hp) (Q:VK),Inv X pins σ H s->t σ H Q->wpAny (model X.prog X.w) X.A (eval e X.env) (EP X pins σ Q) X.xe s
noncomputable def PT(X:Cx)(e:Expr)(t:TT):Prop:=
 ∀(pins:L3) (s:η) (σ:St) (H:Hp) (Q:Bool->Hp->Prop),Inv X pins σ H s->t σ H Q->wpAny (model X.prog X.w) X.A (isTrue e X.env (eval e X.env)) (TP X pins σ Q) X.xe s
noncomputable def PW(X:Cx)(e:Expr)(t:TT):Prop:=
 ∀(whole:Sem ζ) (pins:L3) (s:η) (σ:St) (H:Hp) (Q:Bool->Hp->Prop),Inv X pins σ H s->t σ H Q->wpAny (model X.prog X.w) X.A (isTrue e X.env whole) (TP X pins σ Q) X.xe s
theorem PW.pt{X:Cx}{e:Expr}{t:TT}(h:PW X e t):PT X e t:=h _
noncomputable def PA(X:Cx)(es:List Expr)(t:TA):Prop:=
 ∀(pos:Pos) (pins:L3) (s:η) (σ:St) (H:Hp) (Q:List V->Hp->Prop),Inv X pins σ H s->t σ H Q->wpAny (model X.prog X.w) X.A (spliced (backTo pos (starEach es X.env))) (AP X pins σ Q) X.xe s
noncomputable def PS(X:Cx)(st:Stmt)(t:TS):Prop:=
 ∀(pins:L3) (s:η) (σ:St) (H:Hp) (D:Ends),Inv X pins σ H s->t D σ H->wpAny (model X.prog X.w) X.A (exec st X.env) (SP X pins D) X.xe s
noncomputable def PSs(X:Cx)(st:List Stmt)(t:TS):Prop:=
 ∀(pins:L3) (s:η) (σ:St) (H:Hp) (D:Ends),Inv X pins σ H s->t D σ H->wpAny (model X.prog X.w) X.A (execs st X.env) (SP X pins D) X.xe s
theorem thn{α:Type}{t:Sem α}{Q Q':α->η->Prop}{M:Model}{A:Around}{E:L4}{s:η}(h:wpAny M A t Q E s)(hQ:∀a s,Q a s->Q' a s):wpAny M A t Q' E s:=Ut h hQ fun _ _ x=>x
section
variable{X:Cx}
noncomputable def tVar(i:Nat):TE:=fun σ H Q=>∃v,σ[i]? =some (some v)/\Q v H
noncomputable def tC(v:V):TE:=fun _ H Q=>Q v H
theorem pe_var{i:Nat}{x:Str}{pos:Pos}(hN:X.N[i]? =some x)(hv:Vis X.env.scope x)(hd:(x==("__debug__":Str))=false:=by decide)(hcd:(x==("__classdict__":Str))=false:=by decide):PE X (.Name x pos) (tVar i):=by
 intro pins s σ H Q I h;obtain⟨v,e,h⟩:=h;obtain⟨m,hn,hl⟩:=I.loc;obtain⟨u,r,l⟩:=hl i x v hN e hv;have fin:EP X pins σ Q u s:=⟨v,H,I,r,h⟩;rcases l with⟨hk,hm⟩|⟨hk,c,hc,hcell⟩
 ·exact wpAny_Name (wpAny_loadName_local I.ok.kind hk hn hm fin) hd
 ·rcases hk with hk|hk
  ·exact wpAny_Name (wpAny_loadName_cell I.ok.kind hk hc hcell fin) hd
  ·exact wpAny_Name (wpAny_loadName_free I.ok.kind hk hc hcell fin hcd) hd
theorem ao{i j pos}:PE X (.Constant (.int i) j pos) (tC (.int i)):=fun _ _ _ H _ I h=>wpAny_Constant_int ⟨.int i,H,I.tok _,⟨_,rfl⟩,h⟩
theorem qZ{b j pos}:PE X (.Constant (.bool b) j pos) (tC (.bl b)):=fun _ _ _ H _ I h=>Constant_bool ⟨.bl b,H,I,rfl,h⟩
theorem pe_non{j pos}:PE X (.Constant .none j pos) (tC .non):=fun _ _ _ H _ I h=>Constant_none ⟨.non,H,I,rfl,h⟩
theorem pe_str{x j pos}:PE X (.Constant (.str x) j pos) (tC (.str x)):=fun _ _ _ H _ I h=>Calls.Constant_str ⟨.str x,H,I.tok _,⟨_,rfl⟩,h⟩
noncomputable def Gl(X:Cx)(x:Str):Prop:=X.env.kindOf x=some .globalImplicit
theorem ld_glob{E:L4}{pins:L3}{s:η}{σ:St}{H:Hp}{x:Str}{u:ζ}{pos:Pos}{Q:L4}(I:Inv X pins σ H s)(hg:Gl X x)(hm:X.mg x=some u)(h:Q u s)(hd:(x==("__debug__":Str))=false:=by decide):wpAny (model X.prog X.w) X.A (eval (.Name x pos) X.env) Q E s:=
 Calls.Name_function_global I.ok.kind hg (Calls.loadGlobal_global (by rw[I.ok.glob];exact I.mod.glob.keeps I.bk) hm h) hd
theorem ld_blt{E:L4}{pins:L3}{s:η}{σ:St}{H:Hp}{x:Str}{u:ζ}{pos:Pos}{Q:L4}(I:Inv X pins σ H s)(hg:Gl X x)(hm:X.mg x=none)(hv:bootBuiltins x=some u)(h:Q u s)(hn:x≠"__name__":=by decide)(hd:(x==("__debug__":Str))=false:=by decide):wpAny (model X.prog X.w) X.A (eval (.Name x pos) X.env) Q E s:=by
 obtain⟨mb,h1,h2⟩:=I.mod.blt;exact Calls.Name_function_global I.ok.kind hg (Calls.loadGlobal_builtin (by rw[I.ok.glob];exact I.mod.glob.keeps I.bk) hm (by rw[I.ok.blt];exact h1.keeps I.bk) ((h2 x hn).trans hv) h) hd
theorem pe_glob{x:Str}{v:V}{u:ζ}{pos:Pos}(hg:Gl X x)(hm:X.mg x=some u)(r:RelV v u)(hd:(x==("__debug__":Str))=false:=by decide):PE X (.Name x pos) (tC v):=
 fun _ _ _ H _ I h=>ld_glob I hg hm ⟨v,H,I,r,h⟩ hd
theorem pe_bltn{x:Str}{v:V}{u:ζ}{pos:Pos}(hg:Gl X x)(hm:X.mg x=none)(hv:bootBuiltins x=some u)(r:RelV v u)(hn:x≠"__name__":=by decide)(hd:(x==("__debug__":Str))=false:=by decide):PE X (.Name x pos) (tC v):=
 fun _ _ _ H _ I h=>ld_blt I hg hm hv ⟨v,H,I,r,h⟩ hn hd
theorem pN{x:Str}{pos:Pos}(T:String)(hm:X.mg x=none)(hv:bootBuiltins x=some (.type T):=by decide+kernel)(hg:Gl X x:=by rfl)(hn:x≠"__name__":=by decide)(hd:(x==("__debug__":Str))=false:=by decide):PE X (.Name x pos) (tC (.ty T)):=pe_bltn hg hm hv rfl hn hd
variable{a b:Expr}{ta tb:TE}{pos:Pos}
noncomputable def tB(t:TE):TT:=fun σ H Q=>t σ H fun x H1=>∃c,x= .bl c/\Q c H1
theorem iY{e:Expr}{t:TE}(h:PE X e t)(he:∀whole,isTrue e X.env whole=(do let v<-whole;standAt e.pos;holding [v] (truthy v)):=by intro _;rfl):PT X e (tB t):=by
 intro pins s σ H Q I hw;refine isTrue_plain (thn (h pins s σ H _ I hw) fun v s1 ⟨x,H1,I1,r1,q1⟩=> ?_) (he _);obtain⟨d,rfl,q⟩:=q1;cases r1;exact Qf ⟨H1,I1,q⟩
variable{tA tB':TT}{rest:List Expr}
noncomputable def tAnd(t u:TT):TT:=fun σ H Q=>t σ H fun c H1=>if c=true then u σ H1 Q else Q false H1
noncomputable def tOr(t u:TT):TT:=fun σ H Q=>t σ H fun c H1=>if c=true then Q true H1 else u σ H1 Q
noncomputable def tNot(t:TT):TT:=fun σ H Q=>t σ H fun c H1=>Q (!c) H1
theorem pw_and1(ha:PT X a tA):PW X (.BoolOp .And [a] pos) tA:=by
 intro wh pins s σ H Q I h;refine isTrue_and (thn (ha pins s σ H Q I h) fun c s1 e=> ?_);cases c with
 |true=>exact isTrue_and_nil e
 |false=>exact e
theorem yV(ha:PT X a tA):PW X (.BoolOp .Or [a] pos) tA:=by
 intro wh pins s σ H Q I h;refine isTrue_or (thn (ha pins s σ H Q I h) fun c s1 e=> ?_);cases c with
 |false=>exact isTrue_or_nil e
 |true=>exact e
theorem pw_and(ha:PT X a tA)(hb:PW X (.BoolOp .And (b::rest) pos) tB'):PW X (.BoolOp .And (a::b::rest) pos) (tAnd tA tB'):=by
 intro wh pins s σ H Q I h;refine isTrue_and (thn (ha pins s σ H _ I h) fun c s1 ⟨H1,I1,q1⟩=> ?_);cases c with
 |true=>exact hb wh pins s1 σ H1 Q I1 q1
 |false=>exact⟨H1,I1,q1⟩
theorem qg(ha:PT X a tA)(hb:PW X (.BoolOp .Or (b::rest) pos) tB'):PW X (.BoolOp .Or (a::b::rest) pos) (tOr tA tB'):=by
 intro wh pins s σ H Q I h;refine isTrue_or (thn (ha pins s σ H _ I h) fun c s1 ⟨H1,I1,q1⟩=> ?_);cases c with
 |true=>exact⟨H1,I1,q1⟩
 |false=>exact hb wh pins s1 σ H1 Q I1 q1
theorem kY(ha:PT X a tA):PT X (.UnaryOp .Not a pos) (tNot tA):=by
 intro pins s σ H Q I h;exact isTrue_not (ha pins s σ H (fun c H1=>Q (!c) H1) I h)
noncomputable def tAndV(ta tb:TE):TE:=fun σ H Q=>ta σ H fun x H1=>∃c,x= .bl c/\if c=true then tb σ H1 Q else Q (.bl false) H1
noncomputable def tOrV(ta tb:TE):TE:=fun σ H Q=>ta σ H fun x H1=>∃c,x= .bl c/\if c=true then Q (.bl true) H1 else tb σ H1 Q
noncomputable def tNotV(ta:TE):TE:=fun σ H Q=>ta σ H fun x H1=>∃c,x= .bl c/\Q (.bl (!c)) H1
theorem pe_one{op}{t:TE}(h:PE X a t):PE X (.BoolOp op [a] pos) t:=fun pins s σ H Q I hw=>BoolOp_one (h pins s σ H Q I hw)
theorem zp(ha:PE X a ta)(hb:PE X (.BoolOp .And (b::rest) pos) tb):PE X (.BoolOp .And (a::b::rest) pos) (tAndV ta tb):=by
 intro pins s σ H Q I h;refine BoolOp_and (thn (ha pins s σ H _ I h) fun v s1 ⟨x,H1,I1,r1,q1⟩=> ?_);obtain⟨c,rfl,q1⟩:=q1;cases r1;refine Qf ?_;cases c with
 |true=>exact hb pins s1 σ H1 Q I1 q1
 |false=>exact⟨.bl false,H1,I1,rfl,q1⟩
theorem pe_or(ha:PE X a ta)(hb:PE X (.BoolOp .Or (b::rest) pos) tb):PE X (.BoolOp .Or (a::b::rest) pos) (tOrV ta tb):=by
 intro pins s σ H Q I h;refine BoolOp_or (thn (ha pins s σ H _ I h) fun v s1 ⟨x,H1,I1,r1,q1⟩=> ?_);obtain⟨c,rfl,q1⟩:=q1;cases r1;refine Qf ?_;cases c with
 |false=>exact hb pins s1 σ H1 Q I1 q1
 |true=>exact⟨.bl true,H1,I1,rfl,q1⟩
theorem pe_not(ha:PE X a ta):PE X (.UnaryOp .Not a pos) (tNotV ta):=by
 intro pins s σ H Q I h;refine UnaryOp_ (thn (ha pins s σ H _ I h) fun v s1 ⟨x,H1,I1,r1,q1⟩=> ?_);obtain⟨c,rfl,q1⟩:=q1;cases r1;exact not_of (Qf ⟨.bl (!c),H1,I1,rfl,q1⟩)
noncomputable def tIf(t:TT)(ta tb:TE):TE:=fun σ H Q=>t σ H fun c H1=>if c=true then ta σ H1 Q else tb σ H1 Q
theorem pe_ifExp{c:Expr}(hc:PT X c tA)(ha:PE X a ta)(hb:PE X b tb):PE X (.IfExp c a b pos) (tIf tA ta tb):=by
 intro pins s σ H Q I h;refine wpAny_IfExp (thn (hc pins s σ H _ I h) fun d s1 ⟨H1,I1,q1⟩=> ?_);cases d with
 |true=>exact ha pins s1 σ H1 Q I1 q1
 |false=>exact hb pins s1 σ H1 Q I1 q1
end
noncomputable def SqL(K:W.Frag)(H:Hp)(a:Addr)(xs:List V):Prop:=
 Rd H a (.lst xs)\/
  ∃(o:Obj) (its:Array ζ) (n:Nat),K.lookup a=some o/\o.cls= .type "list"/\o.dict=none/\o.data= .seq its n/\its.size<=sizeLine/\Vals xs its.toList
noncomputable def SqT(K:W.Frag)(H:Hp)(a:Addr)(xs:List V):Prop:=
 Rd H a (.tup xs)\/
  ∃(o:Obj) (its:Array ζ) (n:Nat),K.lookup a=some o/\o.cls= .type "tuple"/\o.data= .seq its n/\its.size<=sizeLine/\Vals xs its.toList
noncomputable def absV:ζ->Option V
 | .none=>some .non
 | .bool b=>some (.bl b)
 | .int i _=>some (.int i)
 | .str x _=>some (.str x)
 | .bytes b _=>some (.byt b)
 | .float b _=>some (.flt b)
 | .ref a=>some (.ref a)
 | .type n=>some (.ty n)
 |_=>none
theorem RelV.abs{x:V}{u:ζ}(r:RelV x u):absV u=some x:=by
 cases x with
 |non=>cases r;rfl
 |bl _=>cases r;rfl
 |int _=>obtain⟨t,rfl⟩:=r;rfl
 |str _=>obtain⟨t,rfl⟩:=r;rfl
 |byt _=>obtain⟨t,rfl⟩:=r;rfl
 |flt _=>obtain⟨t,rfl⟩:=r;rfl
 |ref _=>cases r;rfl
 |ty _=>cases r;rfl
theorem RelV.inj{x y:V}{u:ζ}(r:RelV x u)(q:RelV y u):x=y:=sU (r.abs.symm.trans q.abs)
theorem Vals.inj{xs ys:List V}{us:List ζ}(h:Vals xs us)(h':Vals ys us):xs=ys:=by
 induction h generalizing ys with
 |nil=>cases h';rfl
 |cons r _ ih=>cases h' with |cons r' t'=>rw[r.inj r',ih t']
section
variable{X:Cx}{pins:L3}{σ:St}{H:Hp}{s:η}{a:Addr}{xs ys:List V}
theorem SqL.of{K:W.Frag}(h:H a=some (.lst xs)):SqL K H a xs:= .inl (.inl h)
theorem SqT.of{K:W.Frag}(h:H a=some (.tup xs)):SqT K H a xs:= .inl (.inl h)
theorem Inv.list(I:Inv X pins σ H s)(h:SqL X.K H a xs):∃its:List ζ,Vals xs its/\PlainL s.heap a its.toArray/\xs.length<=sizeLine:=by
 rcases h with h|⟨o,its,n,hk,hc,hd,hs,hz,r⟩
 ·obtain⟨z,its,n,r,e⟩:=h.ok I.hok;exact⟨its,r,⟨_,n,e,rfl,rfl,rfl⟩,z⟩
 ·refine⟨its.toList,r,⟨o,n,I.kIn a o hk,hc,hd,by simpa using hs⟩,?_⟩;have e:=r.length;simp only[Um]at e;omega
theorem Inv.tuple(I:Inv X pins σ H s)(h:SqT X.K H a xs):∃its:List ζ,Vals xs its/\IsTup s.heap a its.toArray/\xs.length<=sizeLine:=by
 rcases h with h|⟨o,its,n,hk,hc,hs,hz,r⟩
 ·obtain⟨z,its,r,p⟩:=h.ok I.hok;exact⟨its,r,p,z⟩
 ·refine⟨its.toList,r,⟨o,I.kIn a o hk,hc,n,by simpa using hs⟩,?_⟩;have e:=r.length;simp only[Um]at e;omega
theorem Inv.list_inj(I:Inv X pins σ H s)(h:SqL X.K H a xs)(h':SqL X.K H a ys):xs=ys:=by
 obtain⟨its,r,⟨o,n,e,_,_,d⟩,_⟩:=I.list h;obtain⟨its',r',⟨o',n',e',_,_,d'⟩,_⟩:=I.list h';rw[e]at e';cases e';rw[d]at d';injection d' with d1 _
 have:its=its':=by simpa using lq Array.toList d1
 subst this;exact r.inj r'
theorem Inv.tuple_inj(I:Inv X pins σ H s)(h:SqT X.K H a xs)(h':SqT X.K H a ys):xs=ys:=by
 obtain⟨its,r,⟨o,e,_,n,d⟩,_⟩:=I.tuple h;obtain⟨its',r',⟨o',e',_,n',d'⟩,_⟩:=I.tuple h';rw[e]at e';cases e';rw[d]at d';injection d' with d1 _
 have:its=its':=by simpa using lq Array.toList d1
 subst this;exact r.inj r'
end
noncomputable abbrev Cx.wish(X:Cx)(E:L4):Cx:={X with xe:=E}
noncomputable abbrev Cx.nox(X:Cx):Cx:=X.wish fun _ _=>False
theorem Cx.Ok.wish{X:Cx}(ok:X.Ok)(E:L4):(X.wish E).Ok:=
 ⟨ok.mod,ok.kind,ok.glob,ok.blt,ok.above,ok.inj,ok.has,ok.cab,ok.hd,ok.frames,ok.stk,ok.exf,ok.bs,ok.bsz,ok.noex,ok.exfs,ok.funs,ok.frf⟩
theorem Cx.Ok.unwish{X:Cx}{E:L4}(ok:(X.wish E).Ok):X.Ok:=
 ⟨ok.mod,ok.kind,ok.glob,ok.blt,ok.above,ok.inj,ok.has,ok.cab,ok.hd,ok.frames,ok.stk,ok.exf,ok.bs,ok.bsz,ok.noex,ok.exfs,ok.funs,ok.frf⟩
section
variable{X:Cx}{pins:L3}{σ:St}{H:Hp}{s:η}{E:L4}
theorem Inv.wish(I:Inv X pins σ H s)(E:L4):Inv (X.wish E) pins σ H s:=⟨I.ok.wish E,I.os,I.bare,I.base,I.loc,I.cell,I.free,I.freeC,I.pin,I.hok,I.len⟩
theorem Inv.unwish(I:Inv (X.wish E) pins σ H s):Inv X pins σ H s:=⟨I.ok.unwish,I.os,I.bare,I.base,I.loc,I.cell,I.free,I.freeC,I.pin,I.hok,I.len⟩
theorem SP.unwish{D:Ends}{f:Flow}{s':η}(h:SP (X.wish E) pins D f s'):SP X pins D f s':=by
 cases f with
 |next=>obtain⟨σ',H',I,q⟩:=h;exact⟨σ',H',I.unwish,q⟩
 |brk=>obtain⟨σ',H',I,q⟩:=h;exact⟨σ',H',I.unwish,q⟩
 |cont=>obtain⟨σ',H',I,q⟩:=h;exact⟨σ',H',I.unwish,q⟩
 |ret u=>obtain⟨v,σ',H',I,r,q⟩:=h;exact⟨v,σ',H',I.unwish,r,q⟩
theorem PSs.nox{st:List Stmt}{t:TS}(h:PSs X.nox st t):PSs X st t:=fun pins s σ H D I hw=>
 Ut (h pins s σ H D (I.wish _) hw) (fun _ _ q=>q.unwish) fun _ _ z=>False.elim z
end
section
variable{X:Cx}{st:Stmt}{rest:List Stmt}{t u:TS}{e:Expr}{te:TE}{pos:Pos}
noncomputable def tNext:TS:=fun D σ H=>D.nx σ H
noncomputable def tSeq(t u:TS):TS:=fun D σ H=>t {D with nx:=u D} σ H
theorem eG:PSs X [] tNext:=fun _ _ σ H _ I h=>wcw ⟨σ,H,I,h⟩
theorem aL(h1:PS X st t)(h2:PSs X rest u):PSs X (st::rest) (tSeq t u):=by
 intro pins s σ H D I h;refine wpAny_execs_cons (thn (h1 pins s σ H {D with nx:=u D} I h) fun f s1 q=> ?_);cases f with
 |next=>
  obtain⟨σ',H',I',q⟩:=q;exact h2 pins s1 σ' H' D I' q
 |ret v=>exact q
 |brk=>exact q
 |cont=>exact q
theorem aR(h1:PS X st t):PSs X [st] t:=by
 intro pins s σ H D I h;refine wpAny_execs_cons (thn (h1 pins s σ H D I h) fun f s1 q=> ?_);cases f with
 |next=>exact wcw q
 |ret v=>exact q
 |brk=>exact q
 |cont=>exact q
noncomputable def tBreak:TS:=fun D σ H=>D.bk σ H
theorem ps_break:PS X (.Break pos) tBreak:=fun _ _ σ H _ I h=>wpAny_Break ⟨σ,H,I,h⟩
theorem Inv.quiet{pins:L3}{σ:St}{H:Hp}{s:η}(I:Inv X pins σ H s):interactive X.env=false:=by simp[interactive,I.ok.kind]
noncomputable def tDrop(te:TE):TS:=fun D σ H=>te σ H fun _ H1=>D.nx σ H1
theorem qj(he:PE X e te)(hs:swapsWith e none pos.line X.env=pure false:=by rfl):PS X (.Expr e pos) (tDrop te):=by
 intro pins s σ H D I h;exact wpAny_Expr_any (thn (he pins s σ H _ I h) fun v s1 ⟨x,H1,I1,r1,q1⟩=>⟨σ,H1,I1,q1⟩) I.quiet hs
noncomputable def tRet(te:TE):TS:=fun D σ H=>te σ H D.rt
theorem bB(he:PE X e te):PS X (.Return (some e) pos) (tRet te):=by
 intro pins s σ H D I h;exact wpAny_Return_some (thn (he pins s σ H _ I h) fun v s1 ⟨x,H1,I1,r1,q1⟩=>⟨x,σ,H1,I1,r1,q1⟩)
noncomputable def tIfS(c:TT)(t u:TS):TS:=fun D σ H=>c σ H fun b H1=>if b=true then t D σ H1 else u D σ H1
theorem dZ{c:Expr}{a b:List Stmt}{tc:TT}(hc:PT X c tc)(ha:PSs X a t)(hb:PSs X b u):PS X (.If c a b pos) (tIfS tc t u):=by
 intro pins s σ H D I h;refine wpAny_If (thn (hc pins s σ H _ I h) fun d s1 ⟨H1,I1,q1⟩=> ?_);cases d with
 |true=>exact ha pins s1 σ H1 D I1 q1
 |false=>exact hb pins s1 σ H1 D I1 q1
noncomputable def tNever:TS:=fun _ _ _=>False
theorem Pj{sts:List Stmt}:PSs X sts tNever:=fun _ _ _ _ _ _ h=>h.elim
end
noncomputable abbrev TG:=V->St->Hp->(St->Hp->Prop)->Prop
noncomputable abbrev TGs:=List V->St->Hp->(St->Hp->Prop)->Prop
noncomputable def PG(X:Cx)(target:Expr)(t:TG):Prop:=
 ∀(pins:L3) (s:η) (σ:St) (H:Hp) (v:V) (u:ζ) (Q:St->Hp->Prop),Inv X pins σ H s->RelV v u->t v σ H Q->
  wpAny (model X.prog X.w) X.A (assign target X.env u) (fun _ s'=>∃σ' H',Inv X pins σ' H' s'/\Q σ' H') X.xe s
noncomputable def PGs(X:Cx)(ts:List Expr)(t:TGs):Prop:=
 ∀(pins:L3) (s:η) (σ:St) (H:Hp) (vs:List V) (us:List ζ) (Q:St->Hp->Prop),Inv X pins σ H s->Vals vs us->t vs σ H Q->
  wpAny (model X.prog X.w) X.A (assignInOrder ((assignEach ts X.env).map (·.2)) us) (fun _ s'=>∃σ' H',Inv X pins σ' H' s'/\Q σ' H') X.xe s
noncomputable abbrev TSet:=V->V->V->Hp->(Hp->Prop)->Prop
noncomputable def PSet(X:Cx)(t:TSet):Prop:=
 ∀(pins:L3) (s:η) (σ:St) (H:Hp) (o i v:V) (ov iv u:ζ) (Q:Hp->Prop),Inv X pins σ H s->RelV o ov->RelV i iv->RelV v u->t o i v H Q->
  wpAny (model X.prog X.w) X.A (setItem ov iv u) (fun _ s'=>∃H',Inv X pins σ H' s'/\Q H') X.xe s
section
variable{X:Cx}{pos:Pos}
noncomputable def gName(i:Nat):TG:=fun v σ H Q=>Q (σ.set i (some v)) H
theorem pg_name{i:Nat}{x:Str}(hN:X.N.Nodup)(hi:X.N[i]? =some x)(hx:Loc X.env.scope x)(hf:X.fn x=true\/X.env.scope.names.lookup x=some .local:=by first |exact .inl rfl|exact .inr rfl|assumption):PG X (.Name x pos) (gName i):=by
 intro pins s σ H v u Q I r h;exact wpAny_assign_Name (store_ok I hN hi hx r (fun s' I'=>⟨_,H,I',h⟩) hf)
theorem pG{X:Cx}{x:Str}{pos:Pos}(i:Nat)(hN:decide X.N.Nodup=true:=by kernel_rfl)(hi:X.N[i]? =some x:=by rfl)(hx:Loc X.env.scope x:=by first |exact Or.inl rfl|exact Or.inr rfl)(hf:X.fn x=true\/X.env.scope.names.lookup x=some .local:=by first |exact .inl rfl|exact .inr rfl|assumption):PG X (.Name x pos) (gName i):=pg_name (fX hN) hi hx hf
noncomputable def gNil:TGs:=fun vs σ H Q=>vs=[]/\Q σ H
noncomputable def gCons(t:TG)(u:TGs):TGs:=fun vs σ H Q=>∃v r,vs=v::r/\t v σ H fun σ' H'=>u r σ' H' Q
theorem zq:PGs X [] gNil:=by
 intro pins s σ H vs us Q I r h;obtain⟨e,h⟩:=h;subst e;cases r;exact assignInOrder_nil ⟨σ,H,I,h⟩
theorem mH{e:Expr}{es:List Expr}{t:TG}{u:TGs}(h1:PG X e t)(h2:PGs X es u)(hs:(assignEach (e::es) X.env).map (·.2)=assign e X.env::(assignEach es X.env).map (·.2):=by rfl):PGs X (e::es) (gCons t u):=by
 intro pins s σ H vs us Q I r h;obtain⟨v,vr,e1,h⟩:=h;subst e1;cases r with
 |cons r rr=>
  rw[hs];refine Xr (thn (h1 pins s σ H _ _ _ I r h) fun _ s1 ⟨σ1,H1,I1,q1⟩=> ?_);exact h2 pins s1 σ1 H1 _ _ Q I1 rr q1
noncomputable def gTup(K:W.Frag)(n:Nat)(t:TGs):TG:=fun v σ H Q=>∃a xs,v= .ref a/\SqT K H a xs/\xs.length=n/\t xs σ H Q
theorem pg_tup{es:List Expr}{k:Nat}{t:TGs}{n:Nat}(hc:X.calm=true)(h:PGs X es t)(hn:(assignEach es X.env).length=n:=by rfl)(hst:(assignEach es X.env).findIdx? (·.1)=none:=by rfl):PG X (.Tuple es k pos) (gTup X.K n t):=by
 intro pins s σ H v u Q I r hw;obtain⟨a,xs,e1,hq,hl,hw⟩:=hw;subst e1;cases r;obtain⟨its,rv,ht,hz⟩:=I.tuple hq;refine assign_Tuple_tuple (I.ok.hd hc) ht (by simp[hn,<-hl,rv.length]) hst fun h' hx=> ?_;have I1:Inv X pins σ H {s with heap:=h'}:=I.kept (t':=s.toks) fun b o e=>hx b o (iZ (fV e)) e;exact h pins _ σ H xs _ Q I1 (by simpa using rv) hw
noncomputable def gSub(to ti:TE)(t:TSet):TG:=fun v σ H Q=>to σ H fun o H1=>ti σ H1 fun i H2=>t o i v H2 fun H3=>Q σ H3
theorem pg_sub{o i:Expr}{to ti:TE}{t:TSet}(ho:PE X o to)(hi:PE X i ti)(hs:PSet X t)(ha:∀v,assign (.Subscript o i pos) X.env v=(do
   let ov<-holding [v] (eval o X.env);let iv<-holding [v,ov] (eval i X.env)
   standAt pos
   holding [v,ov,iv] (setItem ov iv v)
   release [v,ov,iv] []):=by intro _;rfl):PG X (.Subscript o i pos) (gSub to ti t):=by
 intro pins s σ H v u Q I r h;rw[ha];refine bK (Xp (thn (ho pins s σ H _ I h) fun ov s1 ⟨x,H1,I1,r1,q1⟩=> ?_));refine bK (Xp (thn (hi pins s1 σ H1 _ I1 q1) fun iv s2 ⟨y,H2,I2,r2,q2⟩=> ?_));refine bK (Yw (bK (Xp (thn (hs pins s2 σ H2 x y v ov iv u _ I2 r1 r2 r q2) fun _ s3 ⟨H3,I3,q3⟩=> ?_))));exact wpAny_release ⟨σ,H3,I3,q3⟩
noncomputable def tAsg(te:TE)(g:TG):TS:=fun D σ H=>te σ H fun x H1=>g x σ H1 D.nx
theorem ps_asg{tg e:Expr}{te:TE}{g:TG}(he:PE X e te)(hg:PG X tg g)(hs:swapsWithSole [tg] e pos.line X.env=pure false:=by rfl)(hw:swappedStores [tg] e X.env=pure none:=by rfl)(h1:(assignEach [tg] X.env).map (·.2)=[assign tg X.env]:=by rfl):PS X (.Assign [tg] e pos) (tAsg te g):=by
 intro pins s σ H D I h;refine wpAny_Assign_stores (thn (he pins s σ H _ I h) fun v s1 ⟨x,H1,I1,r1,q1⟩=> ?_) hs hw;rw[h1];exact thn (hg pins s1 σ H1 x v _ I1 r1 q1) fun _ s2 q=>q
theorem ps_set{i:Nat}{x:Str}{e:Expr}{te:TE}{pos':Pos}(hN:X.N.Nodup)(hi:X.N[i]? =some x)(hx:Loc X.env.scope x)(he:PE X e te)(hs:swapsWith e (some (.Name x pos')) pos.line X.env=pure false:=by rfl)(hf:X.fn x=true\/X.env.scope.names.lookup x=some .local:=by first |exact .inl rfl|exact .inr rfl|assumption):
  PS X (.Assign [.Name x pos'] e pos) (tAsg te (gName i)):=by
 intro pins s σ H D I h;refine wpAny_Assign_Name (thn (he pins s σ H _ I h) fun v s1 ⟨y,H1,I1,r1,q1⟩=> ?_) hs;exact store_ok I1 hN hi hx r1 (fun s2 I2=>⟨_,H1,I2,q1⟩) hf
theorem pS{X:Cx}{x:Str}{e:Expr}{te:TE}{pos pos':Pos}(i:Nat)(he:PE X e te)(hN:decide X.N.Nodup=true:=by kernel_rfl)(hi:X.N[i]? =some x:=by rfl)(hx:Loc X.env.scope x:=by first |exact Or.inl rfl|exact Or.inr rfl)(hs:swapsWith e (some (.Name x pos')) pos.line X.env=pure false:=by rfl)(hf:X.fn x=true\/X.env.scope.names.lookup x=some .local:=by first |exact .inl rfl|exact .inr rfl|assumption):PS X (.Assign [.Name x pos'] e pos) (tAsg te (gName i)):=ps_set (fX hN) hi hx he hs hf
noncomputable def tPar(i j:Nat)(ta:TA):TS:=fun D σ H=>ta σ H fun vs H1=>∃v w,vs=[v,w]/\D.nx ((σ.set i (some v)).set j (some w)) H1
theorem ps_par{i j:Nat}{x y:Str}{a b:Expr}{ta:TA}{px py pt:Pos}{kt k2 pt2}(hc:X.calm=true)(hN:X.N.Nodup)(hi:X.N[i]? =some x)(hj:X.N[j]? =some y)(hij:i≠j)(hx:X.env.scope.names.lookup x=some .local)(hy:X.env.scope.names.lookup y=some .local)(ha:PA X [a,b] ta)(hw:swappedStores [.Tuple [.Name x px,.Name y py] kt pt] (.Tuple [a,b] k2 pt2) X.env=pure (some [x,y]))(hs:swapsWithSole [.Tuple [.Name x px,.Name y py] kt pt] (.Tuple [a,b] k2 pt2) pos.line X.env=pure false:=by rfl):
  PS X (.Assign [.Tuple [.Name x px,.Name y py] kt pt] (.Tuple [a,b] k2 pt2) pos) (tPar i j ta):=by
 intro pins s σ H D I h;rw[exec_Assign_arm];refine bK (Yw ?_);rw[hs];refine bK (gQ ?_);rw[aA (by decide)];refine bK (Tuple_ (thn (ha _ pins s σ H _ I h) fun us s1 ⟨vs,H1,I1,r1,q1⟩=> ?_));obtain⟨v,w,e1,q1⟩:=q1;subst e1;obtain⟨u1,u2,rfl,rv,rw'⟩:∃u1 u2,us=[u1,u2]/\RelV v u1/\RelV w u2:=by
  cases r1 with
  |cons p q=>
   cases q with
   |cons p' q'=>
    cases q';exact⟨_,_,rfl,p,p'⟩
 refine S8 ?_ (by show 2<=sizeLine;decide);have I2:Inv X pins σ H1 {s1 with heap:=s1.heap.push {cls:= .type "tuple",data:= .seq [u1,u2].toArray}}:=I1.kept (t':=s1.toks) fun b o e=>kZ _ e;rw[hw];refine bK (gQ ?_);show wpAny (model X.prog X.w) X.A (do rule "assign.swapped-stores";let items<-unpackItems (.ref s1.heap.objs.size) 2 none;assignInOrder [fun v=>bindName X.env y v,fun v=>bindName X.env x v] items.reverse;pure Flow.next) _ _ _;refine bK (wpAny_rule (bK (unpackItems_tuple (items:=#[u1,u2]) (I.ok.hd hc) (Ur s1.heap _) fun h' hx'=> ?_)));have I3:=I2.kept (h':=h') (t':=s1.toks) fun b o e=>hx' b o (iZ (fV e)) e;show wpAny _ _ (assignInOrder [fun v=>bindName X.env y v,fun v=>bindName X.env x v] [u2,u1]>>=fun _=>pure Flow.next) _ _ _;refine bK (Xr (Yx (store_ok I3 hN hj (.inl hy) rw' (fun s2 I4=> ?_) (.inr hy))));refine Xr (Yx (store_ok I4 hN hi (.inl hx) rv (fun s3 I5=>assignInOrder_nil (gQ ?_)) (.inr hx)));rw[List.set_comm _ _ (way hij)]at I5;exact⟨_,H1,I5,q1⟩
noncomputable def tWhile(c:TT)(tb:TS):TS:=fun D σ H=>∃W:Nat->St->Hp->Prop,(∃m,W m σ H)/\∀m σ H,W m σ H->
 c σ H fun b H1=>if b=true then∃N:St->Hp->Prop,(∀σ' H',N σ' H'->∃m',m'<m/\W m' σ' H')/\tb {D with nx:=N,ct:=N,bk:=D.nx} σ H1 else D.nx σ H1
theorem ps_while{c:Expr}{body:List Stmt}{tc:TT}{tb:TS}(hp:PassesOwn (model X.prog X.w) X.A X.env X.xe)(hc:PT X c tc)(hb:PSs X body tb):PS X (.While c body [] pos) (tWhile tc tb):=by
 intro pins s σ H D I h;obtain⟨W,⟨m0,w0⟩,turn⟩:=h;refine wpAny_While (codeAny_whileLoop (fun n s'=>∃σ' H',Inv X pins σ' H' s'/\W n σ' H') ?_ m0 ⟨σ,H,I,w0⟩);rintro n s1 ⟨σ1,H1,I1,w1⟩;refine Uv hp (thn (hc pins s1 σ1 H1 _ I1 (turn n σ1 H1 w1)) fun b s2 ⟨H2,I2,q2⟩=> ?_);cases b with
 |true=>
  obtain⟨N,hN,q2⟩:=q2;rw[aF rfl];refine Uv hp (thn (hb pins s2 σ1 H2 _ I2 q2) fun f s3 q3=> ?_);cases f with
  |next=>
   obtain⟨σ3,H3,I3,n3⟩:=q3;obtain⟨m',hm,w3⟩:=hN σ3 H3 n3;exact⟨m',hm,σ3,H3,I3,w3⟩
  |cont=>
   obtain⟨σ3,H3,I3,n3⟩:=q3;obtain⟨m',hm,w3⟩:=hN σ3 H3 n3;exact⟨m',hm,σ3,H3,I3,w3⟩
  |brk=>exact q3
  |ret v=>exact q3
 |false=>
  rw[aA vG];exact wcw ⟨σ1,H2,I2,q2⟩
end
structure It where
 go:Nat->Hp->Prop
 yld:Nat->Hp->V->Hp->Prop
 stop:Nat->Hp->Prop
noncomputable def FpOk(X:Cx)(pins:L3)(H:Hp)(b:Addr):Prop:=
 H b=none/\b≠X.env.locals/\b∉X.fs/\(b∈X.ex\/X.s₀.heap.objs.size<=b)/\(∀x c,X.env.cells.lookup x=some c->c≠b)/\∀p∈X.pn++pins,p.1≠b
theorem Inv.fpOk{X:Cx}{pins:L3}{σ:St}{H H':Hp}{s:η}{b:Addr}(I:Inv X pins σ H s)(hb:s.heap.objs.size<=b)(hn:H' b=none):FpOk X pins H' b:=by
 refine⟨hn,Ue (mJ I.lt hb),I.nofs hb,.inr (cT I.sz hb),fun x c e z=> ?_,fun p hp z=> ?_⟩
 ·obtain⟨v,q⟩:=I.cell x c e;exact absurd (mJ q.lt (by rw[z];exact hb)) (wV _)
 ·exact absurd (mJ (fV (I.pin p hp).1) (by rw[z];exact hb)) (wV _)
structure Turn(P:ξ)(w:τ)(K:W.Frag)(tg:Expr)(J:It)(fp:List Addr)(it:Addr)(tn:Nat->Heap->Prop):Prop where
 mem:it∈fp
 obj:∀i h,tn i h->∀b∈fp,∃o,h.get? b=some o/\∀v,o.data≠.cell v
 keep:∀i h h',tn i h->(∀b∈fp,∀o,h.get? b=some o->h'.get? b=some o)->tn i h'
 item:∀(X:Cx),X.prog=P->X.w=w->X.K=K->X.calm=true->∀(i:Nat) (pins:L3) (s:η) (σ:St) (H:Hp) (E:L4),Inv X pins σ H s->(∀b∈fp,FpOk X pins H b)->tn i s.heap->J.go i H->
  wpAny (model P w) X.A (pyNext (.ref it)) (fun r s1=>∃u,r=some u/\
   wpAny (model P w) X.A (letOwnedTupleGo tg (.ref it) u) (fun _ s2=>∃x H',Inv X pins σ H' s2/\RelV x u/\J.yld i H x H'/\tn (i+1) s2.heap/\∀b∈fp,H' b=none) E s1) E s
 done:∀(X:Cx),X.prog=P->X.w=w->X.K=K->X.calm=true->∀(i:Nat) (pins:L3) (s:η) (σ:St) (H:Hp) (E:L4),Inv X pins σ H s->(∀b∈fp,FpOk X pins H b)->tn i s.heap->J.stop i H->
  wpAny (model P w) X.A (pyNext (.ref it)) (fun r s1=>r=none/\Inv X pins σ H s1) E s
 self:∀(A:Around) (i:Nat) (s:η) (Q:L4) (E:L4),tn i s.heap->Q (.ref it) s->wpAny (model P w) A (pyIter (.ref it)) Q E s
noncomputable abbrev TI:=St->Hp->(It->Hp->Prop)->Prop
noncomputable def PIE(X:Cx)(pins:L3)(σ:St)(tg:Expr)(R:It->Hp->Prop)(itv:ζ)(s2:η):Prop:=
 ∃(it:Addr) (fp:List Addr) (tn:Nat->Heap->Prop) (J:It) (H':Hp),itv= .ref it/\Inv X pins σ H' s2/\Turn X.prog X.w X.K tg J fp it tn/\tn 0 s2.heap/\(∀b∈fp,FpOk X pins H' b)/\R J H'
noncomputable def PI(X:Cx)(tg iter:Expr)(wi:TI):Prop:=
 ∀(pins:L3) (s:η) (σ:St) (H:Hp) (R:It->Hp->Prop),Inv X pins σ H s->wi σ H R->
  wpAny (model X.prog X.w) X.A (eval iter X.env) (fun v s1=>wpAny (model X.prog X.w) X.A (pyIter v) (PIE X pins σ tg R) X.xe s1) X.xe s
theorem go_of{M:Model}{A:Around}{E:L4}{s:η}{tg:Expr}{it:Addr}{u:ζ}{o:Obj}{n:String}{vs:Array ζ}{Q:Unit->η->Prop}(ho:s.heap.get? it=some o)(hc:o.cls= .type n)(hd:o.data= .fields vs)(hn:["enumerate","zip","dict_itemiterator","dict_reverseitemiterator","odict_iterator","itertools.zip_longest","itertools.pairwise"].contains n=false)(hQ:Q () s):wpAny M A (letOwnedTupleGo tg (.ref it) u) Q E s:=by
 unfold letOwnedTupleGo;cases tg<;>first
  |exact gQ hQ
  |(cases u<;>first
    |exact gQ hQ
    |(refine bK (wpAny_load ho ?_)
      rw[hc,hd];show wpAny M A (if(["enumerate","zip","dict_itemiterator","dict_reverseitemiterator","odict_iterator","itertools.zip_longest","itertools.pairwise"].contains n&&vs[0]? ==some (rawInt _))=true then _ else _) Q E s;rw[aA (by intro h;rw[hn,Bool.false_and]at h;cases h)];exact gQ hQ))
noncomputable def Itl(K:W.Frag)(a:Addr):It:=
 ⟨fun i H=>∃xs x,SqL K H a xs/\xs[i]? =some x,fun i H x H'=>H'=H/\∀xs,SqL K H a xs->xs[i]? =some x,fun i H=>∃xs,SqL K H a xs/\xs.length<=i⟩
noncomputable def Itt(K:W.Frag)(a:Addr):It:=
 ⟨fun i H=>∃xs x,SqT K H a xs/\xs[i]? =some x,fun i H x H'=>H'=H/\∀xs,SqT K H a xs->xs[i]? =some x,fun i H=>∃xs,SqT K H a xs/\xs.length<=i⟩
noncomputable def Itr(lo:Int)(n:Nat):It:=⟨fun i _=>i<n,fun i H x H'=>H'=H/\x= .int (lo+i),fun i _=>n<=i⟩
theorem turn_list{P:ξ}{w:τ}{K:W.Frag}{tg:Expr}(a it:Addr):Turn P w K tg (Itl K a) [it] it (fun i h=>h.IsListIter it a i) where
 mem:=by simp
 obj:=fun i h st b hb=>by
  have e:b=it:=by simpa using hb
  subst e;obtain⟨o,e,c,d⟩:=st;exact⟨o,e,fun v z=>by rw[d]at z;cases z⟩
 keep:=fun i h h' st k=>st.at fun o e=>k it (by simp) o e
 item:=by
  intro X hP hw hK hc i pins s σ H E I hf st hg;subst hP hw hK;obtain⟨xs,x,hq,hx⟩:=hg;obtain⟨its,rv,p,hz⟩:=I.list hq;obtain⟨u,hu,ru⟩:=rv.get hx;obtain⟨f0,f1,f2,f3,f4,f5⟩:=hf it (by simp);refine wpAny_pyNext_list_item st p.isList (x:=u) (by simpa using hu) fun h' st' sb=> ?_;have I1:Inv X pins σ H {s with heap:=h'}:=I.turned (t':=s.toks) (fun b o hb e=>(sb.2 b hb).trans e) f0 f1 f3 f4 f5;obtain⟨o,e,c,d⟩:=id st';exact⟨u,rfl,go_of (s:={s with heap:=h'}) e c d (by decide) ⟨x,H,I1,ru,⟨rfl,fun ys hy=>by rw[I.list_inj hy hq];exact hx⟩,st',fun b hb=>(hf b hb).1⟩⟩
 done:=by
  intro X hP hw hK hc i pins s σ H E I hf st hg;subst hP hw hK;obtain⟨xs,hq,hx⟩:=hg;obtain⟨its,rv,p,hz⟩:=I.list hq;obtain⟨f0,f1,f2,f3,f4,f5⟩:=hf it (by simp);have hl:=rv.length;exact wpAny_pyNext_list_end (I.ok.hd hc) st p.isList (by simp;omega) fun h' eb=>⟨rfl,I.turned (t':=s.toks) (fun b o hb e=>eb b o hb e) f0 f1 f3 f4 f5⟩
 self:=fun _ _ _ _ _ st h=>wpAny_pyIter_listiter st h
theorem turn_tuple{P:ξ}{w:τ}{K:W.Frag}{tg:Expr}(a it:Addr):Turn P w K tg (Itt K a) [it] it (fun i h=>h.IsTupleIter it a i) where
 mem:=by simp
 obj:=fun i h st b hb=>by
  have e:b=it:=by simpa using hb
  subst e;obtain⟨o,e,c,d⟩:=st;exact⟨o,e,fun v z=>by rw[d]at z;cases z⟩
 keep:=fun i h h' st k=>st.at fun o e=>k it (by simp) o e
 item:=by
  intro X hP hw hK hc i pins s σ H E I hf st hg;subst hP hw hK;obtain⟨xs,x,hq,hx⟩:=hg;obtain⟨its,rv,p,hz⟩:=I.tuple hq;obtain⟨u,hu,ru⟩:=rv.get hx;obtain⟨f0,f1,f2,f3,f4,f5⟩:=hf it (by simp);refine wpAny_pyNext_tuple_item st (show s.heap.IsTuple a its.toArray from p) (x:=u) (by simpa using hu) fun h' st' sb=> ?_;have I1:Inv X pins σ H {s with heap:=h'}:=I.turned (t':=s.toks) (fun b o hb e=>(sb.2 b hb).trans e) f0 f1 f3 f4 f5;obtain⟨o,e,c,d⟩:=id st';exact⟨u,rfl,go_of (s:={s with heap:=h'}) e c d (by decide) ⟨x,H,I1,ru,⟨rfl,fun ys hy=>by rw[I.tuple_inj hy hq];exact hx⟩,st',fun b hb=>(hf b hb).1⟩⟩
 done:=by
  intro X hP hw hK hc i pins s σ H E I hf st hg;subst hP hw hK;obtain⟨xs,hq,hx⟩:=hg;obtain⟨its,rv,p,hz⟩:=I.tuple hq;obtain⟨f0,f1,f2,f3,f4,f5⟩:=hf it (by simp);have hl:=rv.length;exact wpAny_pyNext_tuple_end (I.ok.hd hc) st (show s.heap.IsTuple a its.toArray from p) (by simp;omega) fun h' eb=>⟨rfl,I.turned (t':=s.toks) (fun b o hb e=>eb b o hb e) f0 f1 f3 f4 f5⟩
 self:=fun _ _ _ _ _ st h=>wpAny_pyIter_tupleiter st h
theorem turn_range{P:ξ}{w:τ}{K:W.Frag}{tg:Expr}(it:Addr)(lo:Int)(n:Nat):Turn P w K tg (Itr lo n) [it] it (fun i h=>IsRangeIter h it (lo+(i:Nat)*1) ((n:Int)-(i:Nat)) 1) where
 mem:=by simp
 obj:=fun i h st b hb=>by
  have e:b=it:=by simpa using hb
  subst e;exact⟨_,st,fun v z=>by
   have z':Data.fields _=Data.cell v:=z;cases z'⟩
 keep:=fun i h h' st k=>k it (by simp) _ st
 item:=by
  intro X hP hw hK hc i pins s σ H E I hf st hg;subst hP hw hK;obtain⟨f0,f1,f2,f3,f4,f5⟩:=hf it (by simp);have W:=Walks.range (prog:=X.prog) (w:=X.w) (I.ok.hd hc) it lo 1 n;refine W.item i s _ _ hg st fun v h' tk hv st' kk=> ?_;obtain⟨t,rfl⟩:=hv;have I1:Inv X pins σ H {s with heap:=h',toks:=tk}:=I.turned (fun b o hb e=>kk b o (by simpa using hb) e) f0 f1 f3 f4 f5;refine⟨_,rfl,go_of (s:={s with heap:=h',toks:=tk}) (n:="range_iterator") st' rfl rfl (by decide) ⟨.int (lo+i),H,I1,⟨t,?_⟩,⟨rfl,rfl⟩,st',fun b hb=>(hf b hb).1⟩⟩;rw[Yo]
 done:=by
  intro X hP hw hK hc i pins s σ H E I hf st hg;subst hP hw hK;obtain⟨f0,f1,f2,f3,f4,f5⟩:=hf it (by simp);exact wpAny_pyNext_range_end (I.ok.hd hc) st (by have:n<=i:=hg;omega) fun h' eb=>⟨rfl,I.turned (t':=s.toks) (fun b o hb e=>eb b o hb e) f0 f1 f3 f4 f5⟩
 self:=fun _ _ _ _ _ st h=>wpAny_pyIter_rangeiter st h
section
variable{X:Cx}{tg:Expr}
theorem range_it{pins:L3}{σ:St}{H:Hp}{s:η}{R:It->Hp->Prop}{E:L4}{lo hi:Int}{t u v:Tok}{tk:Nat}(I:Inv X pins σ H s)(h1: -(2^62)<=lo)(h2:lo<2^62)(h3: -(2^62)<=hi)(h4:hi<2^62)(q:R (Itr lo (hi-lo).toNat) H):wpAny (model X.prog X.w) X.A (pyIter (.ref s.heap.objs.size)) (PIE X pins σ tg R) E {s with heap:=s.heap.push {cls:= .type "range",data:= .fields #[.int lo t,.int hi u,.int 1 v]},toks:=tk}:=by
 refine wpAny_pyIter_range (wez ..) (small_one h1 h2 h3 h4) ?_;have I1:Inv X pins σ H {s with heap:=s.heap.push {cls:= .type "range",data:= .fields #[.int lo t,.int hi u,.int 1 v]},toks:=tk}:=I.kept fun b o e=>kZ _ e;refine⟨(s.heap.push {cls:= .type "range",data:= .fields #[.int lo t,.int hi u,.int 1 v]}).objs.size,[(s.heap.push {cls:= .type "range",data:= .fields #[.int lo t,.int hi u,.int 1 v]}).objs.size],_,_,H,rfl,
  I1.kept (t':=tk) fun b o e=>kZ _ e,turn_range _ lo (hi-lo).toNat,?_,fun b hb=> ?_,q⟩
 ·have e1:lo+((0:Nat):Int)*1=lo:=by simp
  have e2:(((hi-lo).toNat:Nat):Int)-((0:Nat):Int)=Builtin.Range.rangeSize lo hi 1:=by rw[wdy];split<;>omega
  show IsRangeIter _ _ (lo+((0:Nat):Int)*1) ((((hi-lo).toNat:Nat):Int)-((0:Nat):Int)) 1;rw[e1,e2];exact sJ _ rfl
 ·have e:b=(s.heap.push {cls:= .type "range",data:= .fields #[.int lo t,.int hi u,.int 1 v]}).objs.size:=by simpa using hb
  subst e;exact I1.fpOk (aX _) (I1.hok.fresh (aX _))
noncomputable def iRng1(ta:TA):TI:=fun σ H R=>ta σ H fun vs H1=>∃j:Int,vs=[.int j]/\ -(2^62)<=j/\j<2^62/\R (Itr 0 j.toNat) H1
noncomputable def iRng2(ta:TA):TI:=fun σ H R=>ta σ H fun vs H1=>∃i j:Int,vs=[.int i,.int j]/\(-(2^62)<=i/\i<2^62/\ -(2^62)<=j/\j<2^62)/\R (Itr i (j-i).toNat) H1
theorem Io{a:Expr}{ta:TA}{p pos:Pos}(hg:Gl X "range")(hm:X.mg "range"=none)(ha:PA X [a] ta)(hs:starEach [a] X.env=[(false,eval a X.env)]:=by rfl):PI X tg (.Call (.Name "range" p) [a] [] pos) (iRng1 ta):=by
 intro pins s σ H R I h;refine Call_ (ld_blt I hg hm Ym (Py (thn (ha pos pins s σ H _ I h) fun us s1 ⟨vs,H1,I1,r1,q1⟩=> ?_) hs rfl));obtain⟨j,e,q1,q2,q⟩:=q1;subst e;cases r1 with
 |cons r rr=>
  cases rr;obtain⟨t,rfl⟩:=r;exact call_range_1 (range_it I1 (by omega) (by omega) q1 q2 (by simpa using q))
theorem pi_range2{a b:Expr}{ta:TA}{p pos:Pos}(hg:Gl X "range")(hm:X.mg "range"=none)(ha:PA X [a,b] ta)(hs:starEach [a,b] X.env=[(false,eval a X.env),(false,eval b X.env)]:=by rfl)(hs2:starEach [b] X.env=[(false,eval b X.env)]:=by rfl):
  PI X tg (.Call (.Name "range" p) [a,b] [] pos) (iRng2 ta):=by
 intro pins s σ H R I h;refine Call_ (ld_blt I hg hm Ym (Py (thn (ha pos pins s σ H _ I h) fun us s1 ⟨vs,H1,I1,r1,q1⟩=> ?_) (by rw[hs,hs2]) (by rw[hs2];rfl)));obtain⟨i,j,e,⟨q1,q2,q3,q4⟩,q⟩:=q1;subst e;cases r1 with
 |cons r rr=>
  cases rr with
  |cons r' rr=>
   cases rr;obtain⟨t,rfl⟩:=r;obtain⟨t',rfl⟩:=r';exact call_range_2 (range_it I1 q1 q2 q3 q4 q)
noncomputable def tFor(wi:TI)(g:TG)(tb:TS):TS:=fun D σ H=>wi σ H fun J H1=>∃W:Nat->Nat->St->Hp->Prop,(∃m,W 0 m σ H1)/\∀i m σ H,W i m σ H->
 (J.stop i H/\D.nx σ H)\/(J.go i H/\∃N:St->Hp->Prop,(∀σ' H',N σ' H'->∃m',m'<m/\W (i+1) m' σ' H')/\∀x H',J.yld i H x H'->g x σ H' fun σ2 H2=>tb {D with nx:=N,ct:=N,bk:=D.nx} σ2 H2)
noncomputable def pinsAt(fp:List Addr)(h:Heap):L3:=fp.filterMap fun b=>(h.get? b).map fun o=>(b,o)
theorem mem_pinsAt{fp:List Addr}{h:Heap}{b:Addr}{o:Obj}(hb:b∈fp)(e:h.get? b=some o):(b,o)∈pinsAt fp h:=List.mem_filterMap.mpr ⟨b,hb,by rw[e];rfl⟩
theorem of_pinsAt{fp:List Addr}{h:Heap}{p:Addr×Obj}(hp:p∈pinsAt fp h):p.1∈fp/\h.get? p.1=some p.2:=by
 obtain⟨b,hb,e⟩:=List.mem_filterMap.mp hp;cases q:h.get? b with
 |none=>rw[q]at e;cases e
 |some o=>
  rw[q]at e;have e':(b,o)=p:=sU e;subst e';exact⟨hb,q⟩
theorem Inv.pinned{pins:L3}{σ:St}{H:Hp}{s:η}{fp:List Addr}(I:Inv X pins σ H s)(hf:∀b∈fp,FpOk X pins H b)(ho:∀b∈fp,∃o,s.heap.get? b=some o/\∀v,o.data≠.cell v):Inv X (pins++pinsAt fp s.heap) σ H s:=
 I.pins_of fun p hp=>(nA.mp hp).elim (fun z=>I.pin p (Iv _ z)) fun z=>by
  obtain⟨hb,e⟩:=of_pinsAt z;obtain⟨f0,f1,f2,_⟩:=hf p.1 hb;obtain⟨o,e',d⟩:=ho p.1 hb;rw[e]at e';cases e';exact⟨e,f0,f1,f2,d⟩
theorem Inv.unpinned{pins pl:L3}{σ:St}{H:Hp}{s:η}(I:Inv X (pins++pl) σ H s):Inv X pins σ H s:=I.pins_of fun p hp=>I.pin p (Iv _ (yed _ hp))
theorem ps_for{iter:Expr}{body:List Stmt}{wi:TI}{g:TG}{tb:TS}{pos:Pos}(hp:PassesOwn (model X.prog X.w) X.A X.env X.xe)(hc:X.calm=true)(hi:PI X tg iter wi)(hg:PG X tg g)(hb:PSs X body tb)(hs:∀x,foldedSetIterable iter X.env x=pure x:=by intro _;rfl):PS X (.For tg iter body [] pos) (tFor wi g tb):=by
 intro pins s σ H D I h;refine wpAny_For (thn (hi pins s σ H _ I h) fun v s1 h1=>thn h1 fun itv s2 h2=> ?_) hs;obtain⟨it,fp,tn,J,H2,e,I2,T,st2,f2,W,⟨m0,w0⟩,turn⟩:=h2;subst e
 -- what stays true of the iterator's objects through the loop
 have stat:∀{H':Hp},(∀b∈fp,H' b=none)->∀b∈fp,FpOk X pins H' b:=fun hn b hb=>⟨hn b hb,(f2 b hb).2⟩;refine codeAny_forLoop_any (fun n s'=>∃i σ' H',Inv X pins σ' H' s'/\tn i s'.heap/\(∀b∈fp,H' b=none)/\W i n σ' H') ?_ m0 ⟨0,σ,H2,I2,st2,fun b hb=>(f2 b hb).1,w0⟩;rintro n s3 ⟨i,σ3,H3,I3,st3,fr3,w3⟩;rcases turn i n σ3 H3 w3 with⟨stop,qn⟩|⟨go,N,hN,step⟩
 ·refine Uv hp (thn (T.done X rfl rfl rfl hc i pins s3 σ3 H3 X.xe I3 (stat fr3) st3 stop) fun r s4 ⟨hr,I4⟩=> ?_);subst hr;exact wcw ⟨σ3,H3,I4,qn⟩
 ·refine Uv hp (thn (T.item X rfl rfl rfl hc i pins s3 σ3 H3 X.xe I3 (stat fr3) st3 go) fun r s4 ⟨u,hr,h4⟩=> ?_);subst hr;refine Uv hp (thn h4 fun _ s5 ⟨x,H5,I5,r5,y5,st5,fr5⟩=> ?_);have I5':=I5.pinned (stat fr5) (T.obj _ _ st5);refine Uv hp (thn (hg _ s5 σ3 H5 x u _ I5' r5 (step x H5 y5)) fun _ s6 ⟨σ6,H6,I6,q6⟩=> ?_);refine Uv hp (thn (hb _ s6 σ6 H6 _ I6 q6) fun f s7 q7=> ?_);have again:∀{σ7:St} {H7:Hp},Inv X (pins++pinsAt fp s5.heap) σ7 H7 s7->N σ7 H7->∃m,m<n/\∃i σ' H',Inv X pins σ' H' s7/\tn i s7.heap/\(∀b∈fp,H' b=none)/\W i m σ' H':=fun{σ7 H7} I7 n7=>by
   obtain⟨m',hm,w7⟩:=hN σ7 H7 n7;refine⟨m',hm,i+1,σ7,H7,I7.unpinned,T.keep _ _ _ st5 fun b hb o e=>(I7.pin (b,o) (Iv _ (Iv _ (mem_pinsAt hb e)))).1,fun b hb=> ?_,w7⟩;obtain⟨o,e,d⟩:=T.obj _ _ st5 b hb;exact(I7.pin (b,o) (Iv _ (Iv _ (mem_pinsAt hb e)))).2.1
  cases f with
  |next=>obtain⟨σ7,H7,I7,n7⟩:=q7;exact again I7 n7
  |cont=>obtain⟨σ7,H7,I7,n7⟩:=q7;exact again I7 n7
  |brk=>obtain⟨σ7,H7,I7,q7⟩:=q7;exact⟨σ7,H7,I7.unpinned,q7⟩
  |ret v=>obtain⟨x7,σ7,H7,I7,r7,q7⟩:=q7;exact⟨x7,σ7,H7,I7.unpinned,r7,q7⟩
end
theorem for_list{K:W.Frag}{a:Addr}{xs:List V}{g:TG}{tb:TS}{D:Ends}{σ:St}{H:Hp}(Pv:Nat->St->Hp->Prop)(h0:Pv 0 σ H)(hl:∀i σ H,i<=xs.length->Pv i σ H->SqL K H a xs)(hs:∀i x σ H,xs[i]? =some x->Pv i σ H->g x σ H fun σ2 H2=>tb {D with nx:=Pv (i+1),ct:=Pv (i+1),bk:=D.nx} σ2 H2)(hd:∀σ H,Pv xs.length σ H->D.nx σ H):
  ∃W:Nat->Nat->St->Hp->Prop,(∃m,W 0 m σ H)/\∀i m σ H,W i m σ H->
   ((Itl K a).stop i H/\D.nx σ H)\/((Itl K a).go i H/\∃N:St->Hp->Prop,(∀σ' H',N σ' H'->∃m',m'<m/\W (i+1) m' σ' H')/\∀x H',(Itl K a).yld i H x H'->g x σ H' fun σ2 H2=>tb {D with nx:=N,ct:=N,bk:=D.nx} σ2 H2):=by
 refine⟨fun i m σ H=>m=xs.length-i/\i<=xs.length/\Pv i σ H,⟨xs.length,by simp,dX _,h0⟩,?_⟩;rintro i m σ H ⟨rfl,hi,p⟩;have q:=hl i σ H hi p;by_cases hlt:i<xs.length
 ·refine .inr ⟨⟨xs,xs[i],q,by simp[hlt]⟩,Pv (i+1),fun σ' H' p'=>⟨xs.length-(i+1),by omega,rfl,hlt,p'⟩,fun x H' y=> ?_⟩;obtain⟨e,y⟩:=y;subst e;exact hs i x σ _ (y xs q) p
 ·have e:i=xs.length:=by omega
  subst e;exact .inl ⟨⟨xs,q,aX _⟩,hd σ H p⟩
theorem Ph{lo:Int}{n:Nat}{g:TG}{tb:TS}{D:Ends}{σ:St}{H:Hp}(Pv:Nat->St->Hp->Prop)(h0:Pv 0 σ H)(hs:∀i σ H,i<n->Pv i σ H->g (.int (lo+i)) σ H fun σ2 H2=>tb {D with nx:=Pv (i+1),ct:=Pv (i+1),bk:=D.nx} σ2 H2)(hd:∀σ H,Pv n σ H->D.nx σ H):
  ∃W:Nat->Nat->St->Hp->Prop,(∃m,W 0 m σ H)/\∀i m σ H,W i m σ H->
   ((Itr lo n).stop i H/\D.nx σ H)\/((Itr lo n).go i H/\∃N:St->Hp->Prop,(∀σ' H',N σ' H'->∃m',m'<m/\W (i+1) m' σ' H')/\∀x H',(Itr lo n).yld i H x H'->g x σ H' fun σ2 H2=>tb {D with nx:=N,ct:=N,bk:=D.nx} σ2 H2):=by
 refine⟨fun i m σ H=>m=n-i/\i<=n/\Pv i σ H,⟨n,by simp,dX _,h0⟩,?_⟩;rintro i m σ H ⟨rfl,hi,p⟩;by_cases hlt:i<n
 ·refine .inr ⟨hlt,Pv (i+1),fun σ' H' p'=>⟨n-(i+1),by omega,rfl,hlt,p'⟩,fun x H' y=> ?_⟩;obtain⟨e,y⟩:=y;subst e y;exact hs i σ _ hlt p
 ·have e:i=n:=by omega
  subst e;exact .inl ⟨aX _,hd σ H p⟩
noncomputable abbrev R2:=V->V->Hp->VK->Prop
noncomputable def OpR(X:Cx)(f:ζ->ζ->Sem ζ)(r:R2):Prop:=
 ∀(pins:L3) (s:η) (σ:St) (H:Hp) (x y:V) (v u:ζ) (Q:VK),Inv X pins σ H s->RelV x v->RelV y u->r x y H Q->
  wpAny (model X.prog X.w) X.A (f v u) (EP X pins σ Q) X.xe s
noncomputable def UnR(X:Cx)(f:ζ->Sem ζ)(r:V->Hp->VK->Prop):Prop:=
 ∀(pins:L3) (s:η) (σ:St) (H:Hp) (x:V) (v:ζ) (Q:VK),Inv X pins σ H s->RelV x v->r x H Q->
  wpAny (model X.prog X.w) X.A (f v) (EP X pins σ Q) X.xe s
noncomputable def CallR(X:Cx)(f:ζ)(r:List V->Hp->VK->Prop):Prop:=
 ∀(pins:L3) (s:η) (σ:St) (H:Hp) (xs:List V) (us:List ζ) (Q:VK),Inv X pins σ H s->Vals xs us->r xs H Q->
  wpAny (model X.prog X.w) X.A (call f us) (EP X pins σ Q) X.xe s
noncomputable def TruR(X:Cx)(r:V->Hp->(Bool->Hp->Prop)->Prop):Prop:=
 ∀(pins:L3) (s:η) (σ:St) (H:Hp) (x:V) (v:ζ) (Q:Bool->Hp->Prop),Inv X pins σ H s->RelV x v->r x H Q->
  wpAny (model X.prog X.w) X.A (truthy v) (TP X pins σ Q) X.xe s
noncomputable def tOp(r:R2)(ta tb:TE):TE:=fun σ H Q=>ta σ H fun x H1=>tb σ H1 fun y H2=>r x y H2 Q
noncomputable def tUn(r:V->Hp->VK->Prop)(ta:TE):TE:=fun σ H Q=>ta σ H fun x H1=>r x H1 Q
noncomputable def rI(C:Int->Int->Prop)(g:Int->Int->V):R2:=fun x y H Q=>∃i j,x= .int i/\y= .int j/\C i j/\Q (g i j) H
noncomputable def rI0(g:Int->Int->V):R2:=fun x y H Q=>∃i j,x= .int i/\y= .int j/\Q (g i j) H
noncomputable def rU(g:Int->V):V->Hp->VK->Prop:=fun x H Q=>∃i,x= .int i/\Q (g i) H
section
variable{X:Cx}{a b:Expr}{ta tb:TE}{pos:Pos}
theorem binT(ha:PE X a ta)(hb:PE X b tb){pins:L3}{s:η}{σ:St}{H:Hp}{R:V->V->Hp->Prop}(I:Inv X pins σ H s)(h:ta σ H fun x H1=>tb σ H1 fun y H2=>R x y H2){Q:L4}{f:ζ->ζ->Sem ζ}(hf:∀v u s2 x y H2,Inv X pins σ H2 s2->RelV x v->RelV y u->R x y H2->wpAny (model X.prog X.w) X.A (f v u) Q X.xe s2):
  wpAny (model X.prog X.w) X.A (eval a X.env) (fun v s₁=>wpAny (model X.prog X.w) X.A (eval b X.env) (fun u s₂=>wpAny (model X.prog X.w) X.A (f v u) Q X.xe s₂) X.xe s₁) X.xe s:=by
 refine thn (ha pins s σ H _ I h) fun v s1 ⟨x,H1,I1,r1,q1⟩=> ?_;refine thn (hb pins s1 σ H1 _ I1 q1) fun u s2 ⟨y,H2,I2,r2,q2⟩=> ?_;exact hf v u s2 x y H2 I2 r1 r2 q2
theorem bA{op:Operator}{r:R2}(ho:OpR X (binaryOp op) r)(ha:PE X a ta)(hb:PE X b tb):PE X (.BinOp a op b pos) (tOp r ta tb):=by
 intro pins s σ H Q I h;exact wpAny_BinOp (binT ha hb I h fun v u s2 x y H2 I2 rx ry q=>ho pins s2 σ H2 x y v u Q I2 rx ry q)
theorem pe_un{op:UnaryOp}{r:V->Hp->VK->Prop}(ho:UnR X (unaryOp op) r)(ha:PE X a ta):PE X (.UnaryOp op a pos) (tUn r ta):=by
 intro pins s σ H Q I h;exact UnaryOp_ (thn (ha pins s σ H _ I h) fun v s1 ⟨x,H1,I1,r1,q1⟩=>ho pins s1 σ H1 x v Q I1 r1 q1)
theorem opI{f:ζ->ζ->Sem ζ}{C:Int->Int->Prop}{g:Int->Int->Int}(rule:∀(i j:Int) (t u:Tok) (s:η) (Q:L4) (E:L4),C i j->Q (.int (g i j) s.toks) {s with toks:=s.toks+1}->wpAny (model X.prog X.w) X.A (f (.int i t) (.int j u)) Q E s):
  OpR X f (rI C fun i j=> .int (g i j)):=by
 intro pins s σ H x y v u Q I rx ry h;obtain⟨i,j,rfl,rfl,hc,q⟩:=h;obtain⟨t,rfl⟩:=rx;obtain⟨t',rfl⟩:=ry;exact rule i j t t' s _ _ hc ⟨.int (g i j),H,I.tok _,⟨_,rfl⟩,q⟩
theorem opI0{f:ζ->ζ->Sem ζ}{g:Int->Int->Int}(rule:∀(i j:Int) (t u:Tok) (s:η) (Q:L4) (E:L4),Q (.int (g i j) s.toks) {s with toks:=s.toks+1}->wpAny (model X.prog X.w) X.A (f (.int i t) (.int j u)) Q E s):
  OpR X f (rI0 fun i j=> .int (g i j)):=by
 intro pins s σ H x y v u Q I rx ry h;obtain⟨i,j,rfl,rfl,q⟩:=h;obtain⟨t,rfl⟩:=rx;obtain⟨t',rfl⟩:=ry;exact rule i j t t' s _ _ ⟨.int (g i j),H,I.tok _,⟨_,rfl⟩,q⟩
theorem opB0{f:ζ->ζ->Sem ζ}{g:Int->Int->Bool}(rule:∀(i j:Int) (t u:Tok) (s:η) (Q:L4) (E:L4),Q (.bool (g i j)) s->wpAny (model X.prog X.w) X.A (f (.int i t) (.int j u)) Q E s):
  OpR X f (rI0 fun i j=> .bl (g i j)):=by
 intro pins s σ H x y v u Q I rx ry h;obtain⟨i,j,rfl,rfl,q⟩:=h;obtain⟨t,rfl⟩:=rx;obtain⟨t',rfl⟩:=ry;exact rule i j t t' s _ _ ⟨.bl (g i j),H,I,rfl,q⟩
noncomputable def CPow(i j:Int):Prop:=0<=j/\j<=1000000/\i.natAbs<2^64
noncomputable def CMul(i j:Int):Prop:=(-(2^64)<i/\i<2^64)\/(-(2^64)<j/\j<2^64)
theorem CMul.ok{i j:Int}(h:CMul i j):IntMulOk i j:=by
 rcases h with⟨h1,h2⟩|⟨h1,h2⟩
 ·exact .of_left (intBits_le_64 h1 h2)
 ·exact .of_right (intBits_le_64 h1 h2)
theorem nu:OpR X (binaryOp .Add) (rI0 fun i j=> .int (i+j)):=opI0 fun _ _ _ _ _ _ _ q=>add_int q
theorem op_sub:OpR X (binaryOp .Sub) (rI0 fun i j=> .int (i-j)):=opI0 fun _ _ _ _ _ _ _ q=>sub_int q
theorem sE:OpR X (binaryOp .Mult) (rI CMul fun i j=> .int (i*j)):=opI fun _ _ _ _ _ _ _ hc q=>mul_int q hc.ok
theorem op_mod:OpR X (binaryOp .Mod) (rI (fun _ j=>0<j) fun i j=> .int (i %j)):=opI fun i j _ _ _ _ _ hc q=>by
 have h1:(0:Int)<j:=hc;exact mod_int' (by omega) (by rw[Int.fmod_eq_emod_of_nonneg i (by omega)];exact q)
theorem op_pow:OpR X (binaryOp .Pow) (rI CPow fun i j=> .int (i^j.toNat)):=opI fun _ _ _ _ _ _ _ hc q=>pow_int_small hc.1 hc.2.1 hc.2.2 q
theorem unI{f:ζ->Sem ζ}{g:Int->Int}(rule:∀(i:Int) (t:Tok) (s:η) (Q:L4) (E:L4),Q (.int (g i) s.toks) {s with toks:=s.toks+1}->wpAny (model X.prog X.w) X.A (f (.int i t)) Q E s):
  UnR X f (rU fun i=> .int (g i)):=by
 intro pins s σ H x v Q I rx h;obtain⟨i,rfl,q⟩:=h;obtain⟨t,rfl⟩:=rx;exact rule i t s _ _ ⟨.int (g i),H,I.tok _,⟨_,rfl⟩,q⟩
theorem un_neg:UnR X (unaryOp .USub) (rU fun i=> .int (-i)):=unI fun _ _ _ _ _ q=>neg_int q
end
noncomputable def scal:V->V->Bool
 | .non,.non=>true| .non,.int _=>true| .int _,.non=>true| .non,.bl _=>true| .bl _,.non=>true| .non,.str _=>true| .str _,.non=>true
 | .int _,.int _=>true| .bl _,.bl _=>true| .str _,.str _=>true| .byt _,.byt _=>true
 | .int _,.str _=>true| .str _,.int _=>true| .bl _,.str _=>true| .str _,.bl _=>true
 |_,_=>false
noncomputable def rEq:R2:=fun x y H Q=>scal x y=true/\Q (.bl (decide (x=y))) H
noncomputable def rNe:R2:=fun x y H Q=>scal x y=true/\Q (.bl (!decide (x=y))) H
theorem dec_int{i j:Int}:decide (V.int i=V.int j)=(i==j):=by
 rw[v9];simp
theorem dec_bl{i j:Bool}:decide (V.bl i=V.bl j)=(i==j):=by
 rw[v9];simp
theorem dec_str{i j:Str}:decide (V.str i=V.str j)=(i==j):=by
 rw[v9];simp
theorem dec_byt{i j:Array UInt8}:decide (V.byt i=V.byt j)=(i.toList==j.toList):=by
 rw[v9];cases i;cases j;simp
section
variable{X:Cx}{a b c:Expr}{ta tb tc:TE}{pos:Pos}
theorem m8{pins:L3}{σ:St}{H:Hp}{s:η}{Q:VK}{k k':Bool}(I:Inv X pins σ H s)(q:Q (.bl k) H)(e:k=k'):EP X pins σ Q (.bool k') s:=by
 subst e;exact⟨.bl k,H,I,rfl,q⟩
theorem op_eq:OpR X (compareOp .Eq) rEq:=by
 intro pins s σ H x y v u Q I rx ry h;obtain⟨hs,q⟩:=h;cases x with
 |non=>
  cases rx;cases y with
  |non=>cases ry;exact PySem.EqNone.eq_none_none (m8 I q (by simp))
  |bl j=>cases ry;exact PySem.EqNone.eq_none_bool (m8 I q (by simp))
  |int j=>obtain⟨t',rfl⟩:=ry;exact PySem.EqNone.eq_none_int (m8 I q (by simp))
  |str j=>obtain⟨t',rfl⟩:=ry;exact PySem.EqNone.eq_none_str (m8 I q (by simp))
  |_=>exact absurd (show false=true from hs) vG
 |bl i=>
  cases rx;cases y with
  |non=>cases ry;exact PySem.EqNone.eq_bool_none (m8 I q (by simp))
  |bl j=>cases ry;exact eq_bool (m8 I q dec_bl)
  |str j=>obtain⟨t',rfl⟩:=ry;exact PySem.EqMixed.eq_bool_str (m8 I q (by simp))
  |_=>exact absurd (show false=true from hs) vG
 |int i=>
  obtain⟨t,rfl⟩:=rx;cases y with
  |non=>cases ry;exact PySem.EqNone.eq_int_none (m8 I q (by simp))
  |int j=>obtain⟨t',rfl⟩:=ry;exact eq_int (m8 I q dec_int)
  |str j=>obtain⟨t',rfl⟩:=ry;exact PySem.EqMixed.eq_int_str (m8 I q (by simp))
  |_=>exact absurd (show false=true from hs) vG
 |str i=>
  obtain⟨t,rfl⟩:=rx;cases y with
  |non=>cases ry;exact PySem.EqNone.eq_str_none (m8 I q (by simp))
  |bl j=>cases ry;exact PySem.EqMixed.eq_str_bool (m8 I q (by simp))
  |int j=>obtain⟨t',rfl⟩:=ry;exact PySem.EqMixed.eq_str_int (m8 I q (by simp))
  |str j=>obtain⟨t',rfl⟩:=ry;exact eq_str (m8 I q dec_str)
  |_=>exact absurd (show false=true from hs) vG
 |byt i=>
  obtain⟨t,rfl⟩:=rx;cases y with
  |byt j=>obtain⟨t',rfl⟩:=ry;exact PySem.W.eq_bytes (m8 I q dec_byt)
  |_=>exact absurd (show false=true from hs) vG
 |_=>cases y<;>exact absurd (show false=true from hs) vG
theorem op_ne:OpR X (compareOp .NotEq) rNe:=by
 intro pins s σ H x y v u Q I rx ry h;obtain⟨hs,q⟩:=h;cases x with
 |non=>
  cases rx;cases y with
  |non=>cases ry;exact PySem.EqNone.ne_none_none (m8 I q (by simp))
  |bl j=>cases ry;exact PySem.EqNone.ne_none_bool (m8 I q (by simp))
  |int j=>obtain⟨t',rfl⟩:=ry;exact PySem.EqNone.ne_none_int (m8 I q (by simp))
  |str j=>obtain⟨t',rfl⟩:=ry;exact PySem.EqNone.ne_none_str (m8 I q (by simp))
  |_=>exact absurd (show false=true from hs) vG
 |bl i=>
  cases rx;cases y with
  |non=>cases ry;exact PySem.EqNone.ne_bool_none (m8 I q (by simp))
  |bl j=>cases ry;exact ne_bool (m8 I q (lq not dec_bl))
  |str j=>obtain⟨t',rfl⟩:=ry;exact PySem.EqMixed.ne_bool_str (m8 I q (by simp))
  |_=>exact absurd (show false=true from hs) vG
 |int i=>
  obtain⟨t,rfl⟩:=rx;cases y with
  |non=>cases ry;exact PySem.EqNone.ne_int_none (m8 I q (by simp))
  |int j=>obtain⟨t',rfl⟩:=ry;exact ne_int (m8 I q (lq not dec_int))
  |str j=>obtain⟨t',rfl⟩:=ry;exact PySem.EqMixed.ne_int_str (m8 I q (by simp))
  |_=>exact absurd (show false=true from hs) vG
 |str i=>
  obtain⟨t,rfl⟩:=rx;cases y with
  |non=>cases ry;exact PySem.EqNone.ne_str_none (m8 I q (by simp))
  |bl j=>cases ry;exact PySem.EqMixed.ne_str_bool (m8 I q (by simp))
  |int j=>obtain⟨t',rfl⟩:=ry;exact PySem.EqMixed.ne_str_int (m8 I q (by simp))
  |str j=>obtain⟨t',rfl⟩:=ry;exact ne_str (m8 I q (lq not dec_str))
  |_=>exact absurd (show false=true from hs) vG
 |byt i=>
  obtain⟨t,rfl⟩:=rx;cases y with
  |byt j=>obtain⟨t',rfl⟩:=ry;exact PySem.W.ne_bytes (m8 I q (lq not dec_byt))
  |_=>exact absurd (show false=true from hs) vG
 |_=>cases y<;>exact absurd (show false=true from hs) vG
theorem op_lt:OpR X (compareOp .Lt) (rI0 fun i j=> .bl (decide (i<j))):=opB0 fun _ _ _ _ _ _ _ q=>lt_int q
theorem op_le:OpR X (compareOp .LtE) (rI0 fun i j=> .bl (decide (i<=j))):=opB0 fun _ _ _ _ _ _ _ q=>le_int q
theorem op_gt:OpR X (compareOp .Gt) (rI0 fun i j=> .bl (decide (j<i))):=opB0 fun _ _ _ _ _ _ _ q=>gt_int q
theorem op_ge:OpR X (compareOp .GtE) (rI0 fun i j=> .bl (decide (j<=i))):=opB0 fun _ _ _ _ _ _ _ q=>ge_int q
theorem op_isN:OpR X (compareOp .Is) (fun x y H Q=>y= .non/\Q (.bl (decide (x= .non))) H):=by
 intro pins s σ H x y v u Q I rx ry h;obtain⟨rfl,q⟩:=h;cases ry;refine is_none_gen (m8 I q ?_);cases x<;>first
  |(cases rx;rfl)
  |(obtain⟨t,rfl⟩:=rx;rfl)
theorem op_notN:OpR X (compareOp .IsNot) (fun x y H Q=>y= .non/\Q (.bl (!decide (x= .non))) H):=by
 intro pins s σ H x y v u Q I rx ry h;obtain⟨rfl,q⟩:=h;cases ry;refine isnot_none_gen (m8 I q ?_);cases x<;>first
  |(cases rx;rfl)
  |(obtain⟨t,rfl⟩:=rx;rfl)
theorem OpR.or{f:ζ->ζ->Sem ζ}{r r':R2}(h:OpR X f r)(h':OpR X f r'):OpR X f (fun x y H Q=>r x y H Q\/r' x y H Q):=by
 intro pins s σ H x y v u Q I rx ry q;rcases q with q|q
 ·exact h pins s σ H x y v u Q I rx ry q
 ·exact h' pins s σ H x y v u Q I rx ry q
theorem nomark(b:Expr){op:CmpOp}(h:op≠.In:=by decide)(h2:op≠.NotIn:=by decide):behindInMarks op b=false:=by
 have e1:(op==CmpOp.In)=false:=by cases op<;>first |rfl|exact absurd rfl h
 have e2:(op==CmpOp.NotIn)=false:=by cases op<;>first |rfl|exact absurd rfl h2
 cases b<;>simp[behindInMarks,e1,e2]
theorem wQ{op:CmpOp}{r:R2}(ho:OpR X (compareOp op) r)(ha:PE X a ta)(hb:PE X b tb)(hm:behindInMarks op b=false:=by exact nomark _):PE X (.Compare a [op] [b] pos) (tOp r ta tb):=by
 intro pins s σ H Q I h;exact wpAny_Compare1 (binT ha hb I h fun v u s2 x y H2 I2 rx ry q=>ho pins s2 σ H2 x y v u Q I2 rx ry q) hm
noncomputable def tTest(t:TE):TT:=fun σ H Q=>t σ H fun x H'=>∃k,x= .bl k/\Q k H'
theorem cR{op:CmpOp}{r:R2}(ho:OpR X (compareOp op) r)(ha:PE X a ta)(hb:PE X b tb)(hm:behindInMarks op b=false:=by exact nomark _):PT X (.Compare a [op] [b] pos) (tTest (tOp r ta tb)):=by
 intro pins s σ H Q I h;refine wpAny_isTrue_Compare1 (thn (ha pins s σ H _ I h) fun v s1 ⟨x,H1,I1,r1,q1⟩=>thn (hb pins s1 σ H1 _ I1 q1) fun u s2 ⟨y,H2,I2,r2,q2⟩=>
  thn (ho pins s2 σ H2 x y v u _ I2 r1 r2 q2) fun c s3 ⟨z,H3,I3,r3,k,e,q3⟩=> ?_) hm
 subst e;cases r3;exact Qf ⟨H3,I3,q3⟩
noncomputable def tChain(r r':R2)(ta tb tc:TE):TE:=fun σ H Q=>ta σ H fun x H1=>tb σ H1 fun y H2=>r x y H2 fun z H3=>∃k,z= .bl k/\
 (if k=true then tc σ H3 fun w' H4=>r' y w' H4 Q else Q (.bl false) H3)
theorem pe_chain{op op':CmpOp}{r r':R2}(ho:OpR X (compareOp op) r)(ho':OpR X (compareOp op') r')(ha:PE X a ta)(hb:PE X b tb)(hc:PE X c tc)(hm:lastMarks [op,op'] [b,c]=false:=by with_unfolding_all rfl):PE X (.Compare a [op,op'] [b,c] pos) (tChain r r' ta tb tc):=by
 intro pins s σ H Q I h;refine Compare_chain (thn (ha pins s σ H _ I h) fun v s1 ⟨x,H1,I1,r1,q1⟩=>chain_link (thn (hb pins s1 σ H1 _ I1 q1) fun u s2 ⟨y,H2,I2,r2,q2⟩=>
  thn (ho pins s2 σ H2 x y v u _ I2 r1 r2 q2) fun d s3 ⟨z,H3,I3,r3,k,e,q3⟩=> ?_)) hm
 subst e;cases r3;refine Qf ?_;cases k with
 |false=>exact ite_ff ⟨.bl false,H3,I3,rfl,q3⟩
 |true=>exact ite_tt (chain_last (thn (hc pins s3 σ H3 _ I3 q3) fun w' s4 ⟨z',H4,I4,r4,q4⟩=>ho' pins s4 σ H4 y z' u w' Q I4 r2 r4 q4))
noncomputable def TruV(K:W.Frag)(x:V)(H:Hp)(k:Bool):Prop:=
 match x with
 | .non=>k=false
 | .bl b=>k=b
 | .int i=>k=(i !=0)
 | .str y=>y.length<=sizeLine/\k=((y.length:Int) !=0)
 | .byt y=>y.size<=sizeLine/\k=((y.size:Int) !=0)
 | .ref p=>(∃xs,SqL K H p xs/\k= !xs.isEmpty)\/(∃xs,SqT K H p xs/\k= !xs.isEmpty)\/∃kvs,H p=some (.dK kvs)/\k= !kvs.isEmpty
 |_=>False
theorem isEmpty_kv{κ:Type}{kvs:List (κ×V)}{vs:List (κ×ζ)}(r:KV kvs vs):(!vs.isEmpty)= !kvs.isEmpty:=by
 cases r<;>rfl
theorem isEmpty_of{xs:List V}{its:List ζ}(r:Vals xs its):(!its.toArray.isEmpty)= !xs.isEmpty:=by
 cases r<;>simp
theorem line63:(sizeLine:Nat)<2^63:=by rw[gR];decide
theorem tru_ok:TruR X (fun x H Q=>∃k,TruV X.K x H k/\Q k H):=by
 intro pins s σ H x v Q I rx h;obtain⟨k,e,q⟩:=h;have hl:=line63;have hs:sizeLine=16777216:=gR;cases x with
 |non=>
  cases rx;have e':k=false:=e;subst e';exact truthy_none ⟨H,I,q⟩
 |bl b=>
  cases rx;have e':k=b:=e;subst e';exact Qf ⟨H,I,q⟩
 |int i=>
  obtain⟨t,rfl⟩:=rx;have e':k=(i !=0):=e;subst e';exact PySem.P.truthy_int ⟨H,I,q⟩
 |str y=>
  obtain⟨t,rfl⟩:=rx;obtain⟨hy,e'⟩:y.length<=sizeLine/\k=((y.length:Int) !=0):=e;subst e';exact PySem.P.truthy_str (by omega) ⟨H,I.tok _,q⟩
 |byt y=>
  obtain⟨t,rfl⟩:=rx;obtain⟨hy,e'⟩:y.size<=sizeLine/\k=((y.size:Int) !=0):=e;subst e';exact PySem.W.truthy_bytes (by omega) ⟨H,I.tok _,q⟩
 |ref p=>
  cases rx;have e':(∃xs,SqL X.K H p xs/\k= !xs.isEmpty)\/(∃xs,SqT X.K H p xs/\k= !xs.isEmpty)\/∃kvs,H p=some (.dK kvs)/\k= !kvs.isEmpty:=e;rcases e' with⟨xs,hx,e'⟩|⟨xs,hx,e'⟩|⟨kvs,hx,e'⟩
  ·subst e';obtain⟨its,r,pl,hz⟩:=I.list hx;have hlen:=r.length;exact wpAny_truthy_list pl.isList (by simp only[iD];omega) ⟨H,I.tok _,by rw[isEmpty_of r];exact q⟩
  ·subst e';obtain⟨its,r,pl,hz⟩:=I.tuple hx;have hlen:=r.length;exact truthy_tuple pl (by simp only[iD];omega) ⟨H,I.tok _,by rw[isEmpty_of r];exact q⟩
  ·subst e';obtain⟨hz,hS,vs,r,m⟩:kvs.length<=sizeLine/\(p==sysModules)=false/\∃vs,KV kvs vs/\s.heap.DictOf (mixKind X.prog X.w) p vs:=I.hok p _ hx;have hlen:kvs.length=vs.length:=Uu r;exact wpAny_truthy_dict hS m (by omega) ⟨H,I.tok _,by rw[isEmpty_kv r];exact q⟩
 |_=>exact(show False from e).elim
theorem pt_truth(ha:PE X a ta)(he:∀whole,isTrue a X.env whole=(do let v<-whole;standAt a.pos;holding [v] (truthy v))):
  PT X a (fun σ H Q=>ta σ H fun x H'=>∃k,TruV X.K x H' k/\Q k H'):=by
 intro pins s σ H Q I h;exact isTrue_plain (thn (ha pins s σ H _ I h) fun v s1 ⟨x,H1,I1,r1,q1⟩=>tru_ok pins s1 σ H1 x v Q I1 r1 q1) (he _)
theorem vals1{x:V}{us:List ζ}(r:Vals [x] us):∃u,us=[u]/\RelV x u:=by
 cases r with
 |cons r1 r2=>cases r2;exact⟨_,rfl,r1⟩
theorem vals2{x y:V}{us:List ζ}(r:Vals [x,y] us):∃u w',us=[u,w']/\RelV x u/\RelV y w':=by
 cases r with
 |cons r1 r2=>
  cases r2 with
  |cons r3 r4=>cases r4;exact⟨_,_,rfl,r1,r3⟩
theorem call_abs:CallR X (.builtin "abs") (fun xs H Q=>∃i,xs=[.int i]/\Q (.int (if i<0 then -i else i)) H):=by
 intro pins s σ H xs us Q I r h;obtain⟨i,rfl,q⟩:=h;obtain⟨u,rfl,t,rfl⟩:=vals1 r;exact call_abs_int fun u tk=>⟨.int (if i<0 then -i else i),H,I.tok _,⟨_,rfl⟩,q⟩
theorem call_max2(hc:X.calm=true):CallR X (.builtin "max") (fun xs H Q=>∃i j,xs=[.int i,.int j]/\Q (.int (if j>i then j else i)) H):=by
 intro pins s σ H xs us Q I r h;obtain⟨i,j,rfl,q⟩:=h;obtain⟨u,w',rfl,⟨t,rfl⟩,⟨t',rfl⟩⟩:=vals2 r;refine max_two_ints (I.ok.hd hc) fun h' tk k=>⟨_,H,I.kept k,?_,q⟩;by_cases hj:j>i
 ·rw[aF hj,aF hj];exact⟨_,rfl⟩
 ·rw[aA hj,aA hj];exact⟨_,rfl⟩
theorem call_min2(hc:X.calm=true):CallR X (.builtin "min") (fun xs H Q=>∃i j,xs=[.int i,.int j]/\Q (.int (if j<i then j else i)) H):=by
 intro pins s σ H xs us Q I r h;obtain⟨i,j,rfl,q⟩:=h;obtain⟨u,w',rfl,⟨t,rfl⟩,⟨t',rfl⟩⟩:=vals2 r;refine min_two_ints (I.ok.hd hc) fun h' tk k=>⟨_,H,I.kept k,?_,q⟩;by_cases hj:j<i
 ·rw[aF hj,aF hj];exact⟨_,rfl⟩
 ·rw[aA hj,aA hj];exact⟨_,rfl⟩
theorem call_int1:CallR X (.type "int") (fun xs H Q=>(∃i,xs=[.int i]/\Q (.int i) H)\/∃k,xs=[.bl k]/\Q (.int (if k then 1 else 0)) H):=by
 intro pins s σ H xs us Q I r h;rcases h with⟨i,rfl,q⟩|⟨k,rfl,q⟩
 ·obtain⟨u,rfl,t,rfl⟩:=vals1 r;exact call_int_int ⟨.int i,H,I,⟨_,rfl⟩,q⟩
 ·obtain⟨u,rfl,r1⟩:=vals1 r;cases r1;exact call_int_bool ⟨.int (if k then 1 else 0),H,I.tok _,⟨_,rfl⟩,q⟩
end
structure ObjM(h:Heap)(x dx C:Addr)(mA:L5):Prop where
 obj:h.get? x=some (PySem.W.instObj C dx)
 ns:h.Ns1 dx mA
 ne:dx≠x
theorem lookIn_ns{h:Heap}{dx:Addr}{mA:L5}(n:h.Ns1 dx mA):∃od,h.get? dx=some od/\∀name,PySem.W.lookIn name od=some (mA name):=by
 obtain⟨o,es,ep,ho,hd,hk,_,hm⟩:=n;refine⟨o,ho,fun name=> ?_⟩;have e:=hm name;unfold nsFind findBy at e;rw[<-Array.find?_toList]at e;unfold PySem.W.lookIn;rw[hd];dsimp only;split
 ·rename_i y q;rw[q]at e;exact lq some e
 ·rename_i q;rw[q]at e;have a:es.toList.any (·.refKey)=false:=by
   rw[Xh];intro y hy;obtain⟨z,t,hkey⟩:=hk y (Array.mem_toList_iff.mp hy);simp[DictEntry.refKey,hkey]
  have a':¬es.toList.any (·.refKey)=true:=by rw[a];exact vG
  rw[aA a'];exact lq some e
theorem ObjM.look{h:Heap}{x dx C:Addr}{mA:L5}(I:ObjM h x dx C mA):∃od,PySem.W.InstAt h x (PySem.W.instObj C dx) C (some od)/\∀name,PySem.W.lookIn name od=some (mA name):=
 let⟨od,ho,hl⟩:=lookIn_ns I.ns
 ⟨od,⟨I.obj,rfl,rfl,ho⟩,hl⟩
section
variable{prog:ξ}{w:τ}{A:Around}{E:L4}{s:η}{K:W.Frag}{x dx C f:Addr}{mA:L5}{name:Str}{v:ζ}
theorem get_map{expr:Bool}{Q:L4}(X:K.In s.heap)(I:ObjM s.heap x dx C mA)(hg:PySem.W.plainGet K C name=true)(hh:PySem.W.hasDictIn K C=true)(ha:PySem.W.findIn K (.ref C) name=some none)(hv:mA name=some v)(hv':PySem.W.handedIn v=true)(h:Q v {s with toks:=s.toks+1}):
  wpAny (model prog w) A (getAttr (.ref x) name expr) Q E s:=by
 obtain⟨od,J,hl⟩:=I.look;exact PySem.W.get_value X J (wcx hg).1 (PySem.W.findObj_own hh ha rfl (by rw[hl,hv])) hv' h
theorem get_meth{pl:Sem Bool}{Q:ζ×List ζ->η->Prop}(X:K.In s.heap)(I:ObjM s.heap x dx C mA)(hg:PySem.W.plainGet K C name=true)(hf:PySem.W.findIn K (.ref C) name=some (some (.ref f)))(ht:PySem.W.isFn K (.ref f)=true)(hv:mA name=none)(h:Q (.ref f,[.ref x]) s):
  wpAny (model prog w) A (getMethod (.ref x) name pl) Q E s:=by
 obtain⟨od,J,hl⟩:=I.look;exact PySem.W.method_fn X J (wcx hg).1 (wcx hg).2 hf (beq_iff_eq.mp ht) (by show(PySem.W.lookIn name od).map (·.isSome)=some false;rw[hl,hv];rfl) h
theorem set_map{ns:List Str}{Q:Unit->η->Prop}(X:K.In s.heap)(I:ObjM s.heap x dx C mA)(hs:PySem.W.findIn K (.ref C) "__setattr__"=some (some (.builtin "object.__setattr__")))(hp:PySem.W.plainOver K C=true)(ht:PySem.W.takerIn K C name=some none)(hh:PySem.W.hasDictIn K C=true)(hw:PySem.Within mA ns)(hsz:ns.length<=sizeLine)(h:∀h',ObjM h' x dx C (fun y=>if y=name then some v else mA y)->Heap.SameBut dx s.heap h'->Q () {s with heap:=h',toks:=s.toks+2}):
  wpAny (model prog w) A (setAttr (.ref x) name v) Q E s:=by
 obtain⟨od,J,hl⟩:=I.look;refine PySem.W.set_plain X J hs (PySem.W.osa_open (s:={s with toks:=s.toks+1}) (r:=none) X J hp ht fun b=> ?_);obtain⟨cd,hc,hd'⟩:=PySem.W.any_some hh;have hx:s.heap.get? x=some ⟨.ref C,some dx,.plain,#[]⟩:=I.obj;refine bK (gQ (bK (bK (wpAny_loadPart hx (bK (PySem.W.Looks.here (s:={s with toks:=s.toks+1}) (PySem.W.looks_clsIn X hc) ?_))))));rw[hd'];refine gQ (a:=some dx) (bK (gQ (bK ?_)));refine wpAny_nsSet1 (s:={s with toks:=s.toks+1}) I.ns fun h' hn2 hs2=> ?_;obtain⟨oD,esD,epD,hoD,hdD,hcD⟩:=hn2.count (PySem.Within.cons name v hw);refine bK (wpAny_lookBehind hoD (by rw[hdD];exact pastItsLine_dict (cT hcD (by rw[zc];omega))) ?_);exact gQ (h _ ⟨(hs2.2 _ (way I.ne)).trans I.obj,hn2,I.ne⟩ hs2)
theorem make_map{R:Result->η->Prop}{vs:List ζ}{kw:List (Str×ζ)}(X:K.In s.heap)(hm:PySem.W.makesIn K C=true)(hi:PySem.W.findIn K (.ref C) "__init__"=some (some (.ref f)))(hf:PySem.W.typeIn K (.ref f)=some (.type "function"))(h:codeAny (model prog w) (A.under (.builtin "type.__call__" ⟨.ref C::vs,kw⟩)) (.call (.ref f) ⟨.ref (s.heap.objs.size+1)::vs,kw⟩) (PySem.W.InitBack (s.heap.objs.size+1) R)
   {s with heap:=(s.heap.push PySem.W.emptyDict).push (PySem.W.instObj C s.heap.objs.size)}):
  codeAny (model prog w) A (.call (.ref C) ⟨vs,kw⟩) R s:=by
 obtain⟨hh,g,d,t,os⟩:=s;exact PySem.W.make_core (PySem.W.makes_of X hm) (PySem.W.looks_findIn X hi) (fun self=>PySem.W.bind_fn X self hf) (.inl rfl) h
end
noncomputable def putF(f:Str)(v:V):List (Str×V)->List (Str×V)
 |[]=>[(f,v)]
 |(g,x)::r=>if g=f then(g,v)::r else(g,x)::putF f v r
theorem lookup_putF(f g:Str)(v:V):∀fs:List (Str×V),(putF f v fs).lookup g=if g=f then some v else fs.lookup g
 |[]=>by
  show List.lookup g [(f,v)]=_;by_cases h:g=f
  ·have hb:(g==f)=true:=beq_iff_eq.mpr h;simp only[List.lookup,hb,aF h]
  ·have hb:(g==f)=false:=beq_eq_false_iff_ne.mpr h;simp only[List.lookup,hb,aA h]
 |(k,x)::r=>by
  have ih:=lookup_putF f g v r;rw[show putF f v ((k,x)::r)=(if k=f then(k,v)::r else(k,x)::putF f v r)from rfl];by_cases hk:k=f
  ·rw[aF hk];by_cases h:g=k
   ·have hb:(g==k)=true:=beq_iff_eq.mpr h;simp only[List.lookup,hb,aF (h.trans hk)]
   ·have hb:(g==k)=false:=beq_eq_false_iff_ne.mpr h;simp only[List.lookup,hb,aA (fun e:g=f=>h (e.trans hk.symm))]
  ·rw[aA hk];by_cases h:g=k
   ·have hb:(g==k)=true:=beq_iff_eq.mpr h;simp only[List.lookup,hb,aA (fun e:g=f=>hk (h.symm.trans e))]
   ·have hb:(g==k)=false:=beq_eq_false_iff_ne.mpr h;simp only[List.lookup,hb];exact ih
theorem keys_putF(f:Str)(v:V):∀fs:List (Str×V),f∈(putF f v fs).map (·.1)/\∀g,g∈fs.map (·.1)->g∈(putF f v fs).map (·.1)
 |[]=>⟨by simp[putF],fun g h=>by simp at h⟩
 |(k,x)::r=>by
  obtain⟨i1,i2⟩:=keys_putF f v r;rw[show putF f v ((k,x)::r)=(if k=f then(k,v)::r else(k,x)::putF f v r)from rfl];by_cases hk:k=f
  ·rw[aF hk];subst hk;exact⟨by simp,fun g h=>by simpa using h⟩
  ·rw[aA hk];refine⟨?_,fun g h=> ?_⟩
   ·rw[yX];exact iG _ i1
   ·rw[yX]at h⊢;rcases cY.mp h with e|e
    ·exact cY.mpr (.inl e)
    ·exact iG _ (i2 g e)
theorem length_putF(f:Str)(v:V):∀fs:List (Str×V),(putF f v fs).length<=fs.length+1
 |[]=>by simp[putF]
 |(k,x)::r=>by
  have ih:=length_putF f v r;rw[show putF f v ((k,x)::r)=(if k=f then(k,v)::r else(k,x)::putF f v r)from rfl];by_cases hk:k=f
  ·rw[aF hk,zc,zc];omega
  ·rw[aA hk,zc,zc];omega
theorem RelO.some_of{v:V}{o:Option ζ}(r:RelO (some v) o):∃u,o=some u/\RelV v u:=by
 cases o with
 |none=>exact(show False from r).elim
 |some u=>exact⟨u,rfl,r⟩
theorem RelO.none_of{o:Option ζ}(r:RelO none o):o=none:=by
 cases o with
 |none=>rfl
 |some u=>exact(show False from r).elim
theorem handed_of{v:V}{u:ζ}(r:RelV v u):PySem.W.handedIn u=true:=by
 cases v with
 |non=>cases(show u=Value.none from r);rfl
 |bl b=>cases(show u=Value.bool b from r);rfl
 |int i=>obtain⟨t,e⟩:=(show∃t,u=Value.int i t from r);cases e;rfl
 |str x=>obtain⟨t,e⟩:=(show∃t,u=Value.str x t from r);cases e;rfl
 |byt b=>obtain⟨t,e⟩:=(show∃t,u=Value.bytes b t from r);cases e;rfl
 |flt b=>obtain⟨t,e⟩:=(show∃t,u=Value.float b t from r);cases e;rfl
 |ref a=>cases(show u=Value.ref a from r);rfl
 |ty n=>cases(show u=Value.type n from r);rfl
section
variable{P:ξ}{w:τ}{H:Hp}{h:Heap}{a C dx:Addr}{fs:List (Str×V)}
theorem ins_get(hok:HOk P w H h)(e:H a=some (.ins C dx fs)):∃mA,ObjM h a dx C mA/\(∀f,RelO (fs.lookup f) (mA f))/\PySem.Within mA (fs.map (·.1))/\fs.length<=1000/\H dx=some (.own a):=by
 obtain⟨d,z,ne,ob,mA,n,r,q⟩:=(show ObjOk P w H h a (.ins C dx fs)from hok a _ e);exact⟨mA,⟨ob,n,ne⟩,r,q,z,d⟩
end
structure Cls(K:W.Frag)(C:Addr):Prop where
 pg:PySem.W.plainGet K C Str.empty=true
 hd:PySem.W.hasDictIn K C=true
 po:PySem.W.plainOver K C=true
 sa:PySem.W.findIn K (.ref C) "__setattr__"=some (some (.builtin "object.__setattr__"))
theorem Cls.get{K:W.Frag}{C:Addr}(c:Cls K C)(f:Str):PySem.W.plainGet K C f=true:=c.pg
noncomputable def NoAttr(K:W.Frag)(C:Addr)(f:Str):Prop:=PySem.W.findIn K (.ref C) f=some none
theorem NoAttr.taker{K:W.Frag}{C:Addr}{f:Str}(n:NoAttr K C f):PySem.W.takerIn K C f=some none:=by
 unfold PySem.W.takerIn;rw[show PySem.W.findIn K (.ref C) f=some none from n];rfl
structure Meth(K:W.Frag)(C:Addr)(m:Str)(f:Addr):Prop where
 at_:PySem.W.findIn K (.ref C) m=some (some (.ref f))
 fn:PySem.W.isFn K (.ref f)=true
 kp:PySem.W.keepIn K (.ref f)=true
section
variable{X:Cx}{pins:L3}{σ:St}{H:Hp}{s:η}{a C dx:Addr}{fs:List (Str×V)}{f:Str}{v:V}{A:Around}{E:L4}
theorem getattr_ok{b:Bool}{Q:L4}(I:Inv X pins σ H s)(e:H a=some (.ins C dx fs))(c:Cls X.K C)(n:NoAttr X.K C f)(l:fs.lookup f=some v)(h:∀u s',Inv X pins σ H s'->RelV v u->Q u s'):wpAny (model X.prog X.w) A (getAttr (.ref a) f b) Q E s:=by
 obtain⟨mA,O,r,_,_,_⟩:=ins_get I.hok e;obtain⟨u,hu,ru⟩:=RelO.some_of (v:=v) (o:=mA f) (by rw[<-l];exact r f);exact get_map I.kIn O (c.get f) c.hd n hu (handed_of ru) (h u _ (I.tok _) ru)
theorem getmeth_ok{m:Str}{g:Addr}{pl:Sem Bool}{Q:ζ×List ζ->η->Prop}(I:Inv X pins σ H s)(e:H a=some (.ins C dx fs))(c:Cls X.K C)(k:Meth X.K C m g)(l:fs.lookup m=none)(h:Q (.ref g,[.ref a]) s):wpAny (model X.prog X.w) A (getMethod (.ref a) m pl) Q E s:=by
 obtain⟨mA,O,r,_,_,_⟩:=ins_get I.hok e;have hn:mA m=none:=RelO.none_of (by rw[<-l];exact r m);exact get_meth I.kIn O (c.get m) k.at_ k.fn hn h
theorem setattr_ok{y:V}{u:ζ}{Q:Unit->η->Prop}(I:Inv X pins σ H s)(e:H a=some (.ins C dx fs))(c:Cls X.K C)(n:NoAttr X.K C f)(hl:fs.length<1000)(ry:RelV y u)(h:∀s',Inv X pins σ (upd H a (.ins C dx (putF f y fs))) s'->Q () s'):wpAny (model X.prog X.w) A (setAttr (.ref a) f u) Q E s:=by
 obtain⟨mA,O,r,wi,_,ho⟩:=ins_get I.hok e;have hz:(fs.map (·.1)).length<=sizeLine:=by rw[aJ,gR];omega
 refine set_map I.kIn O c.sa c.po n.taker c.hd wi hz fun h' O' sb=>h _ ?_;have hd:∃o,h'.get? dx=some o:=let⟨o,_,_,e',_⟩:=O'.ns;⟨o,e'⟩;refine I.write (x:=a) (e:=dx) (by rw[e];exact True.intro) (.inr ho) (fun b q hb z=>(sb.2 b hb).trans z) hd ?_;refine⟨by rw[cW O.ne];exact ho,?_,O.ne,O'.obj,_,O'.ns,fun g=> ?_,fun g hg=> ?_⟩
 ·have:=length_putF f y fs;omega
 ·show RelO ((putF f y fs).lookup g) (if g=f then some u else mA g);rw[lookup_putF];by_cases q:g=f
  ·rw[aF q,aF q];exact ry
  ·rw[aA q,aA q];exact r g
 ·by_cases q:g=f
  ·rw[q];exact(keys_putF f y fs).1
  ·refine(keys_putF f y fs).2 g (wi g fun z=>hg ?_);show(if g=f then some u else mA g)=none;rw[aA q];exact z
theorem Inv.made(I:Inv X pins σ H s):Inv X pins σ (upd (upd H s.heap.objs.size (.own (s.heap.objs.size+1))) (s.heap.objs.size+1) (.ins C s.heap.objs.size []))
  {s with heap:=(s.heap.push PySem.W.emptyDict).push (PySem.W.instObj C s.heap.objs.size)}:=by
 have e1:(s.heap.push PySem.W.emptyDict).get? s.heap.objs.size=some PySem.W.emptyDict:=sJ s.heap rfl;have e2:((s.heap.push PySem.W.emptyDict).push (PySem.W.instObj C s.heap.objs.size)).get? (s.heap.objs.size+1)=some (PySem.W.instObj C s.heap.objs.size):=by
  have:=sJ (s.heap.push PySem.W.emptyDict) (o:=PySem.W.instObj C s.heap.objs.size) rfl
  rwa [PX]at this
 have e3:(s.heap.push PySem.W.emptyDict).Ns s.heap.objs.size (fun _=>none):=⟨PySem.W.emptyDict,#[],_,e1,rfl,(fun e he=>absurd he (by simp)),fun _=>rfl⟩;have I1:=I.laid (a:=s.heap.objs.size) (o:= .own (s.heap.objs.size+1)) (h':=s.heap.push PySem.W.emptyDict) (t':=s.toks) (fun b u q=>kZ _ q) (aX _) ⟨_,e1⟩;refine I1.laid (a:=s.heap.objs.size+1) (o:= .ins C s.heap.objs.size []) (t':=s.toks) (fun b u q=>kZ _ q) (FQ (PX _ _)) ?_;have ne:s.heap.objs.size≠s.heap.objs.size+1:=iZ (wW _);refine⟨by rw[cW ne,aB],dX _,ne,e2,fun _=>none,(Heap.Ns1.of_empty e3).at fun o q=>kZ _ q,fun _=>True.intro,fun y hy=>absurd rfl hy⟩
theorem attr_of{prog:ξ}{w:τ}{env:Env}{e:Expr}{f:Str}{pos:Pos}{s:η}{Q:L4}(hb:attributeBase e f env (eval e env)=eval e env)(h:wpAny (model prog w) A (eval e env) (fun o s₁=>wpAny (model prog w) A (getAttr o f true) Q E s₁) E s):wpAny (model prog w) A (eval (.Attribute e f pos) env) Q E s:=
 Attribute_any_ h (by rw[arm_eval_Attribute,hb])
end
noncomputable def tFld(K:W.Frag)(ta:TE)(f:Str):TE:=fun σ H Q=>ta σ H fun x H1=>∃a C dx fs v,x= .ref a/\H1 a=some (.ins C dx fs)/\Cls K C/\NoAttr K C f/\fs.lookup f=some v/\Q v H1
noncomputable def sFld(K:W.Frag)(ta tv:TE)(f:Str):TS:=fun D σ H=>tv σ H fun y H1=>ta σ H1 fun x H2=>∃a C dx fs,x= .ref a/\H2 a=some (.ins C dx fs)/\Cls K C/\NoAttr K C f/\fs.length<1000/\
 D.nx σ (upd H2 a (.ins C dx (putF f y fs)))
noncomputable def InOp(X:Cx)(op:Operator)(rd:V->V->Hp->VK->Prop):Prop:=
 ∀(pins:L3) (s:η) (σ:St) (H:Hp) (x y:V) (u v:ζ) (Q:VK),Inv X pins σ H s->RelV x u->RelV y v->rd x y H Q->wpAny (model X.prog X.w) X.A (inplaceOp op u v) (EP X pins σ Q) X.xe s
noncomputable def sFldAug(K:W.Frag)(ta tv:TE)(rd:V->V->Hp->VK->Prop)(f:Str):TS:=fun D σ H=>ta σ H fun x H1=>∃a C dx fs v,x= .ref a/\H1 a=some (.ins C dx fs)/\Cls K C/\NoAttr K C f/\fs.lookup f=some v/\
 tv σ H1 fun y H2=>rd v y H2 fun z H3=>∃dx' fs',H3 a=some (.ins C dx' fs')/\fs'.length<1000/\D.nx σ (upd H3 a (.ins C dx' (putF f z fs')))
section
variable{X:Cx}{o e value:Expr}{f:Str}{pos pos' tpos:Pos}{ta tv:TE}
theorem gP(he:PE X e ta)(hb:attributeBase e f X.env (eval e X.env)=eval e X.env):PE X (.Attribute e f pos) (tFld X.K ta f):=by
 intro pins s σ H Q I h;refine attr_of hb (thn (he pins s σ H _ I h) fun u s1 ⟨x,H1,I1,rx,a,C,dx,fs,v,ex,ea,c,n,l,q⟩=> ?_);subst ex;obtain rfl:u=Value.ref a:=rx;exact getattr_ok I1 ea c n l fun u' s2 I2 ru=>⟨v,H1,I2,ru,q⟩
theorem ps_fld(ha:PE X o ta)(hv:PE X value tv)(hs:swapsWith value (some (.Attribute o f pos')) pos.line X.env=pure false):PS X (.Assign [.Attribute o f pos'] value pos) (sFld X.K ta tv f):=by
 intro pins s σ H D I h;refine plainObj_wpAny_Assign_Attribute (thn (hv pins s σ H _ I h) fun u s1 ⟨y,H1,I1,ry,q⟩=>thn (ha pins s1 σ H1 _ I1 q) fun ov s2 ⟨x,H2,I2,rx,a,C,dx,fs,ex,ea,c,n,l,q2⟩=> ?_) hs;subst ex;obtain rfl:ov=Value.ref a:=rx;exact setattr_ok I2 ea c n l ry fun s3 I3=>⟨σ,_,I3,q2⟩
theorem ps_fldaug{op:Operator}{rd:V->V->Hp->VK->Prop}(ha:PE X o ta)(hv:PE X value tv)(hop:InOp X op rd):PS X (.AugAssign (.Attribute o f tpos) op value pos) (sFldAug X.K ta tv rd f):=by
 intro pins s σ H D I h;refine wpAny_AugAssign_AttributeAny (thn (ha pins s σ H _ I h) fun ov s1 ⟨x,H1,I1,rx,a,C,dx,fs,v,ex,ea,c,n,l,q⟩=> ?_);subst ex;obtain rfl:ov=Value.ref a:=rx;refine getattr_ok I1 ea c n l fun u s2 I2 ru=>thn (hv pins s2 σ H1 _ I2 q) fun w3 s3 ⟨y,H2,I3,ry,q3⟩=>thn (hop pins s3 σ H2 v y u w3 _ I3 ru ry q3) fun w4 s4 ⟨z,H3,I4,rz,dx',fs',ea',l',q4⟩=> ?_;exact setattr_ok I4 ea' c n l' rz fun s5 I5=>⟨σ,_,I5,q4⟩
noncomputable def rAdd:V->V->Hp->VK->Prop:=fun x y H Q=>∃i j,x= .int i/\y= .int j/\Q (.int (i+j)) H
theorem in_add:InOp X .Add rAdd:=by
 rintro pins s σ H x y u v Q I rx ry ⟨i,j,rfl,rfl,q⟩;obtain⟨t,rfl⟩:=(show∃t,u=Value.int i t from rx);obtain⟨t',rfl⟩:=(show∃t',v=Value.int j t' from ry);exact PyProof.Rows.iadd_int ⟨.int (i+j),H,I.tok _,⟨_,rfl⟩,q⟩
end
structure Room(k:Nat)(A:Around):Prop where
 hd:A.handled=none
 dp:A.depth+3*k+5<recursionLimit
 un:A.units+16*k+200<cLine
 gd:A.guards=some []
theorem Room.mono{j k:Nat}{A:Around}(r:Room k A)(h:j<=k):Room j A:=⟨r.hd,by have:=r.dp;omega,by have:=r.un;omega,r.gd⟩
theorem Room.deeper{k:Nat}{A:Around}(r:Room (k+1) A)(env:Env):Room k (A.deeper env):=
 ⟨r.hd,by have:=r.dp;show A.depth+1+3*k+5<_;omega,by have:=r.un;show A.units+3+16*k+200<_;omega,r.gd⟩
theorem make_depth{A:Around}{C:Addr}{us:List ζ}{kw:List (Str×ζ)}:(A.under (.builtin "type.__call__" ⟨.ref C::us,kw⟩)).depth=A.depth+1:=by
 first |rfl|simp[Around.under,Code.weight,Code.isCreation,Code.isGuard,Code.isCaller,Code.frames,Code.isFrame,guardIds]
theorem make_units{A:Around}{C:Addr}{us:List ζ}{kw:List (Str×ζ)}:(A.under (.builtin "type.__call__" ⟨.ref C::us,kw⟩)).units=A.units+1:=by
 first |rfl|simp[Around.under,Code.cUnits,Code.frames,Code.isFrame]
theorem Room.make{k:Nat}{A:Around}(r:Room (k+1) A)(C:Addr)(us:List ζ)(kw:List (Str×ζ)):Room k (A.under (.builtin "type.__call__" ⟨.ref C::us,kw⟩)):=
 ⟨r.hd,by have:=r.dp;rw[make_depth];omega,by have:=r.un;rw[make_units];omega,by
  have q:=r.gd
  first |exact q|(simp[Around.under,Code.isGuard,guardIds];exact q)|(unfold Around.under;simp[Code.isGuard,guardIds,q])⟩
theorem Room.depth{k:Nat}{A:Around}(r:Room k A):A.depth<recursionLimit:=by have:=r.dp;omega
theorem Room.units{k:Nat}{A:Around}(r:Room k A):A.units+64<cLine:=by have:=r.un;omega
theorem Room.units0{k:Nat}{A:Around}(r:Room k A):A.units<cLine:=by have:=r.un;omega
noncomputable def tNil:TA:=fun _ H Q=>Q [] H
noncomputable def tCons(ta:TE)(tr:TA):TA:=fun σ H Q=>ta σ H fun x H1=>tr σ H1 fun xs H2=>Q (x::xs) H2
section
variable{X:Cx}{e:Expr}{es:List Expr}{te:TE}{t:TA}{pos:Pos}
theorem ak:PA X [] tNil:=fun _ _ _ _ H Q I h=>wca ⟨[],H,I,.nil,h⟩
theorem aj(ha:PE X e te)(hr:PA X es t)(hs:starEach (e::es) X.env=(false,eval e X.env)::starEach es X.env:=by rfl):PA X (e::es) (tCons te t):=by
 intro pos pins s σ H Q I h;rw[hs];show wpAny _ _ (spliced ((false,eval e X.env)::backTo pos (starEach es X.env))) _ _ s;refine wbr (thn (ha pins s σ H _ I h) fun u s1 ⟨x,H1,I1,r1,q1⟩=> ?_);exact thn (hr pos pins s1 σ H1 _ I1 q1) fun us s2 ⟨xs,H2,I2,r2,q2⟩=>⟨x::xs,H2,I2,.cons r1 r2,q2⟩
noncomputable def tTup(t:TA):TE:=fun σ H Q=>t σ H fun xs H1=>xs.length<=sizeLine/\∀p,H1 p=none->Q (.ref p) (upd H1 p (.tup xs))
noncomputable def tLst(t:TA):TE:=fun σ H Q=>t σ H fun xs H1=>xs.length<=sizeLine/\∀p,H1 p=none->Q (.ref p) (upd H1 p (.lst xs))
theorem dW{x1}(h:PA X es t):PE X (.Tuple es x1 pos) (tTup t):=by
 intro pins s σ H Q I hq;refine wpAny_Tuple_spliced (thn (h pos pins s σ H _ I hq) fun us s1 ⟨xs,H1,I1,r,z,q⟩=>⟨by rw[<-r.length];exact z,?_⟩);have hf:H1 s1.heap.objs.size=none:=I1.hok.fresh (aX _);refine⟨.ref s1.heap.objs.size,upd H1 s1.heap.objs.size (.tup xs),I1.laid (t':=s1.toks) (fun b u e=>kZ _ e) (aX _) ?_,rfl,q _ hf⟩;exact⟨z,us,r,⟨_,sJ _ rfl,rfl,_,rfl⟩⟩
theorem pe_lst(h:PA X es t):PE X (.List es pos) (tLst t):=by
 intro pins s σ H Q I hq;refine wpAny_List_spliced (thn (h pos pins s σ H _ I hq) fun us s1 ⟨xs,H1,I1,r,z,q⟩=>⟨by rw[<-r.length];exact z,?_⟩);have hf:H1 s1.heap.objs.size=none:=I1.hok.fresh (aX _);refine⟨.ref s1.heap.objs.size,upd H1 s1.heap.objs.size (.lst xs),I1.laid (t':=s1.toks) (fun b u e=>kZ _ e) (aX _) ?_,rfl,q _ hf⟩;exact⟨z,us,0,r,sJ _ rfl⟩
end
noncomputable abbrev Sp:=List V->Hp->VK->XK->Prop
noncomputable abbrev CXT:=List Env->Hp->η->XK->ζ->η->Prop
structure Env0(P:ξ)(w:τ)(K:W.Frag)(mg:L5)(base:Heap)(A:Around)(outer:List Env)(s:η)(H:Hp):Prop where
 frames:A.frames=some outer
 mod:Mod K mg base
 bs:∀b o,base.get? b=some o->s.heap.get? b=some o/\H b=none
 bsz:base.objs.size<=s.heap.objs.size
 funs:s.heap.FunFrames base outer
 frf:∀b∈frs outer,H b=none
 hok:HOk P w H s.heap
 bare:AllBare s.gens
noncomputable def CE(outer:List Env)(P:ξ)(w:τ)(H:Hp)(s:η)(Q:VK)(u:ζ)(s':η):Prop:=
 ∃v H',s'.os=s.os/\AllBare s'.gens/\Un (frs outer) [] H H' s.heap s'.heap/\HOk P w H' s'.heap/\RelV v u/\Q v H'
noncomputable def CR(CX:CXT)(outer:List Env)(P:ξ)(w:τ)(H:Hp)(s:η)(Q:VK)(E:XK)(r:Result)(s':η):Prop:=
 match r with
 | .ok (.ret u)=>CE outer P w H s Q u s'
 | .ok _=>False
 | .error e=>CX outer H s E e s'
structure FnOk(P:ξ)(w:τ)(K:W.Frag)(mg:L5)(base:Heap)(CX:CXT)(k:Nat)(f:Addr)(fd:ρ)(ps:List Str)(sp:Sp):Prop where
 len:∀vs H Q E,sp vs H Q E->vs.length=ps.length
 run:∀(A:Around) (outer:List Env) (s:η) (H:Hp) (args:Args) (us:List ζ) (vs:List V) (Q:VK) (E:XK),Room k A->Env0 P w K mg base A outer s H->BindsTo s fd args (ps.zip us)->Vals vs us->sp vs H Q E->
  codeAny (model P w) A (.call (.ref f) args) (CR CX outer P w H s Q E) s
theorem FnOk.mono{P:ξ}{w:τ}{K:W.Frag}{mg:L5}{base:Heap}{CX:CXT}{j k:Nat}{f:Addr}{fd:ρ}{ps:List Str}{sp:Sp}(F:FnOk P w K mg base CX j f fd ps sp)(h:j<=k):
  FnOk P w K mg base CX k f fd ps sp:=⟨F.len,fun A outer s H args us vs Q E hr=>F.run A outer s H args us vs Q E (hr.mono h)⟩
theorem Env0.make{P:ξ}{w:τ}{K:W.Frag}{mg:L5}{base:Heap}{A:Around}{outer:List Env}{s:η}{H:Hp}(e:Env0 P w K mg base A outer s H)(C:Addr)(us:List ζ)(kw:List (Str×ζ)):
  Env0 P w K mg base (A.under (.builtin "type.__call__" ⟨.ref C::us,kw⟩)) outer s H:=⟨by first |exact e.frames|(simpa[Around.under,Code.envs,Code.isFrame,pushEnvs]using e.frames),e.mod,e.bs,e.bsz,e.funs,e.frf,e.hok,e.bare⟩
section
variable{X:Cx}{pins:L3}{σ:St}{H:Hp}{s s':η}
theorem Inv.env0(I:Inv X pins σ H s):Env0 X.prog X.w X.K X.mg X.base X.A X.stack s H:=
 ⟨I.ok.frames,I.ok.mod,I.bs,cT I.ok.bsz I.sz,I.stack,I.stkFree,I.hok,I.bare⟩
theorem Inv.after{Q:VK}{u:ζ}(I:Inv X pins σ H s)(h:CE X.stack X.prog X.w H s Q u s'):EP X pins σ Q u s':=by
 obtain⟨v,H',os,bare,un,hok,r,q⟩:=h;obtain⟨hh,g,d,t,os'⟩:=s';obtain rfl:os'=s.os:=os;exact⟨v,H',I.call (h':=hh) (g':=g) (d':=d) (t':=t) (ch:=[]) un hok bare (fun b z=>absurd z (by simp)),r,q⟩
end
noncomputable def tCall(sp:Sp)(dvs:List V)(E:XK)(t:TA):TE:=fun σ H Q=>t σ H fun vs H1=>sp (vs++dvs) H1 Q E
noncomputable def tMeth(C:Addr)(m:Str)(sp:Sp)(dvs:List V)(E:XK)(ta:TE)(t:TA):TE:=fun σ H Q=>ta σ H fun x H1=>∃a dx fs,x= .ref a/\H1 a=some (.ins C dx fs)/\fs.lookup m=none/\
 t σ H1 fun vs H2=>sp (x::(vs++dvs)) H2 Q E
noncomputable def tMake(C:Addr)(sp:Sp)(dvs:List V)(E:XK)(t:TA):TE:=fun σ H Q=>t σ H fun vs H1=>∀x dx,H1 x=none->H1 dx=none->dx≠x->
 sp (.ref x::(vs++dvs)) (upd (upd H1 dx (.own x)) x (.ins C dx [])) (fun v H2=>v= .non/\Q (.ref x) H2) E
noncomputable def Binds(K:W.Frag)(fd:ρ)(ps:List Str)(ds:List ζ):Prop:=
 ∀(s:η) (us:List ζ),K.In s.heap->(us++ds).length=ps.length->BindsTo s fd ⟨us,[]⟩ (ps.zip (us++ds))
theorem Binds.all{K:W.Frag}{fd:ρ}{ps:List Str}(h:∀us:List ζ,us.length=ps.length->bindArgs fd ⟨us,[]⟩=pure (ps.zip us)):Binds K fd ps []:=fun s us _ hl=>by
 rw[zx]at hl⊢;exact .of_eq (h us hl)
noncomputable def Passes(CX:CXT)(X:Cx)(E:XK):Prop:=∀(pins:L3) (σ:St) (H:Hp) (s:η) (e:ζ) (s':η),Inv X pins σ H s->CX X.stack H s E e s'->X.xe e s'
section
variable{X:Cx}{CX:CXT}{k:Nat}{f C:Addr}{fd:ρ}{ps:List Str}{sp:Sp}{dvs:List V}{ds:List ζ}{E:XK}{x m:Str}{p pos apos:Pos}{e o:Expr}{es:List Expr}{ta:TE}{t:TA}
theorem run_fn{pins:L3}{σ:St}{H:Hp}{s:η}{Q:VK}{us:List ζ}{vs:List V}(F:FnOk X.prog X.w X.K X.mg X.base CX k f fd ps sp)(hr:Room k X.A)(hb:Binds X.K fd ps ds)(hd:Vals dvs ds)(hx:Passes CX X E)
  (I:Inv X pins σ H s)(r:Vals vs us)(h:sp (vs++dvs) H Q E):wpAny (model X.prog X.w) X.A (call (.ref f) us) (EP X pins σ Q) X.xe s:=by
 have r2:Vals (vs++dvs) (us++ds):=r.append hd;have hl:(us++ds).length=ps.length:=by rw[<-r2.length];exact F.len _ _ _ _ h
 refine wpAny_call (Yt (F.run X.A X.stack s H ⟨us,[]⟩ (us++ds) (vs++dvs) Q E hr I.env0 (hb s us I.kIn hl) r2 h) fun r s' hq=> ?_);cases r with
 |error e=>exact hx pins σ H s e s' I hq
 |ok fl=>
  cases fl with
  |ret u=>exact I.after hq
  |next=>exact False.elim hq
  |brk=>exact False.elim hq
  |cont=>exact False.elim hq
theorem pe_call(F:FnOk X.prog X.w X.K X.mg X.base CX k f fd ps sp)(hr:Room k X.A)(hg:Gl X x)(hm:X.mg x=some (.ref f))(hk:PySem.W.keepIn X.K (.ref f)=true)(hb:Binds X.K fd ps ds)(hd:Vals dvs ds)(hx:Passes CX X E)(ha:PA X (e::es) t)(hdb:(x==("__debug__":Str))=false:=by decide)(he:starEach (e::es) X.env=(false,eval e X.env)::starEach es X.env:=by rfl)(hpl:(backTo pos (starEach es X.env)).any (·.1)=false:=by rfl):
  PE X (.Call (.Name x p) (e::es) [] pos) (tCall sp dvs E t):=by
 intro pins s σ H Q I h;refine Uw (ld_glob I hg hm ?_ hdb);refine wdi (h₀:=X.base) I.ok.mod.kin hk (thn (ha pos pins s σ H _ I h) fun us s1 ⟨vs,H1,I1,r,q⟩=>⟨I1.kIn,?_⟩) he hpl;exact run_fn F hr hb hd hx I1 r q
theorem v7{pl:Sem Bool}(he:PE X o ta)(c:Cls X.K C)(hm:Meth X.K C m f)(F:FnOk X.prog X.w X.K X.mg X.base CX k f fd ps sp)(hr:Room k X.A)(hb:Binds X.K fd ps ds)(hd:Vals dvs ds)(hx:Passes CX X E)(ha:PA X (e::es) t)(hst:starEach (e::es) X.env=(false,eval e X.env)::starEach es X.env:=by rfl)(hpl:(backTo pos (starEach es X.env)).any (·.1)=false:=by rfl)(ht:eval (.Call (.Attribute o m apos) (e::es) [] pos) X.env=(do
   let ov<-eval o X.env
   standAt apos.atName
   let(f,first)<-holding [ov] (getMethod ov m pl)
   callWith pos f first (backTo pos (starEach (e::es) X.env)) (backToKw pos (keywordEach [] X.env))):=by rfl):
  PE X (.Call (.Attribute o m apos) (e::es) [] pos) (tMeth C m sp dvs E ta t):=by
 intro pins s σ H Q I h;refine weo (pl:=pl) (thn (he pins s σ H _ I h) fun u s1 ⟨x,H1,I1,rx,a,dx,fs,ex,ea,l,q⟩=> ?_) ht;subst ex;obtain rfl:u=Value.ref a:=rx;refine getmeth_ok I1 ea c hm l ?_;refine wdi (first:=[.ref a]) (h₀:=X.base) I.ok.mod.kin hm.kp (thn (ha pos pins s1 σ H1 _ I1 q) fun us s2 ⟨vs,H2,I2,r,q2⟩=>⟨I2.kIn,?_⟩) hst hpl;exact run_fn (us:= .ref a::us) (vs:= .ref a::vs) F hr hb hd hx I2 (.cons rfl r) q2
theorem JQ{pl:Sem Bool}(he:PE X o ta)(c:Cls X.K C)(hm:Meth X.K C m f)(F:FnOk X.prog X.w X.K X.mg X.base CX k f fd ps sp)(hr:Room k X.A)(hb:Binds X.K fd ps ds)(hd:Vals dvs ds)(hx:Passes CX X E)(ht:eval (.Call (.Attribute o m apos) [] [] pos) X.env=(do
   let ov<-eval o X.env
   standAt apos.atName
   let(f,first)<-holding [ov] (getMethod ov m pl)
   callWith pos f first (backTo pos (starEach [] X.env)) (backToKw pos (keywordEach [] X.env))):=by rfl):
  PE X (.Call (.Attribute o m apos) [] [] pos) (tMeth C m sp dvs E ta tNil):=by
 intro pins s σ H Q I h;refine weo (pl:=pl) (thn (he pins s σ H _ I h) fun u s1 ⟨x,H1,I1,rx,a,dx,fs,ex,ea,l,q⟩=> ?_) ht;subst ex;obtain rfl:u=Value.ref a:=rx;refine getmeth_ok I1 ea c hm l ?_;exact PySem.W.callWith_K0 (first:=[.ref a]) I1.kIn hm.kp (run_fn (us:=[.ref a]) (vs:=[.ref a]) F hr hb hd hx I1 (.cons rfl .nil) q)
structure Mk(K:W.Frag)(C f:Addr):Prop where
 makes:PySem.W.makesIn K C=true
 init:PySem.W.findIn K (.ref C) "__init__"=some (some (.ref f))
 fn:PySem.W.isFn K (.ref f)=true
 kp:PySem.W.keepIn K (.ref C)=true
theorem run_make{pins:L3}{σ:St}{H:Hp}{s:η}{Q:VK}{us:List ζ}{vs:List V}(M:Mk X.K C f)(F:FnOk X.prog X.w X.K X.mg X.base CX k f fd ps sp)(hr:Room (k+1) X.A)(hb:Binds X.K fd ps ds)(hd:Vals dvs ds)(hx:Passes CX X E)(I:Inv X pins σ H s)(r:Vals vs us)(h:∀x dx,H x=none->H dx=none->dx≠x->sp (.ref x::(vs++dvs)) (upd (upd H dx (.own x)) x (.ins C dx [])) (fun v H2=>v= .non/\Q (.ref x) H2) E):
  wpAny (model X.prog X.w) X.A (call (.ref C) us) (EP X pins σ Q) X.xe s:=by
 have hq:=h (s.heap.objs.size+1) s.heap.objs.size (I.hok.fresh (Pn _)) (I.hok.fresh (aX _)) (iZ (wW _));have I2:=Inv.made (C:=C) I;have r2:Vals (V.ref (s.heap.objs.size+1)::(vs++dvs)) (Value.ref (s.heap.objs.size+1)::(us++ds)):= .cons rfl (r.append hd);have hl:(Value.ref (s.heap.objs.size+1)::us++ds).length=ps.length:=by
  have e:=r2.length;rw[F.len _ _ _ _ hq]at e;exact e.symm
 refine wpAny_call (make_map (f:=f) I.kIn M.makes M.init (beq_iff_eq.mp M.fn) (Yt (F.run _ X.stack _ _ ⟨Value.ref (s.heap.objs.size+1)::us,[]⟩ (Value.ref (s.heap.objs.size+1)::(us++ds)) _ _ E (hr.make C us [])
  (I2.env0.make C us []) (hb _ (Value.ref (s.heap.objs.size+1)::us) I2.kIn hl) r2 hq) fun r s' hq'=> ?_))
 cases r with
 |error e=>exact hx pins σ _ _ e s' I2 hq'
 |ok fl=>
  cases fl with
  |ret u=>
   obtain⟨v,H',I3,rv,ev,q3⟩:=I2.after hq';subst ev;exact⟨rv,⟨V.ref (s.heap.objs.size+1),H',I3,rfl,q3⟩⟩
  |next=>exact False.elim hq'
  |brk=>exact False.elim hq'
  |cont=>exact False.elim hq'
theorem pe_make(M:Mk X.K C f)(F:FnOk X.prog X.w X.K X.mg X.base CX k f fd ps sp)(hr:Room (k+1) X.A)(hg:Gl X x)(hm:X.mg x=some (.ref C))(hb:Binds X.K fd ps ds)(hd:Vals dvs ds)(hx:Passes CX X E)(ha:PA X (e::es) t)(hdb:(x==("__debug__":Str))=false:=by decide)(he:starEach (e::es) X.env=(false,eval e X.env)::starEach es X.env:=by rfl)(hpl:(backTo pos (starEach es X.env)).any (·.1)=false:=by rfl):
  PE X (.Call (.Name x p) (e::es) [] pos) (tMake C sp dvs E t):=by
 intro pins s σ H Q I h;refine Uw (ld_glob I hg hm ?_ hdb);refine wdi (h₀:=X.base) I.ok.mod.kin M.kp (thn (ha pos pins s σ H _ I h) fun us s1 ⟨vs,H1,I1,r,q⟩=>⟨I1.kIn,?_⟩) he hpl;exact run_make M F hr hb hd hx I1 r q
end
structure FnScope(N P:List Str)(sc:Scope):Prop where
 kind:sc.kind= .function
 co:sc.isCoroutine=false
 gen:sc.isGenerator=false
 nd:N.Nodup
 pre:N.take P.length=P
 par:∀x∈P,sc.names.lookup x=some .local\/sc.names.lookup x=some .cell
 nofree:∀y∈sc.names,y.2≠.free
theorem bindL_out{kindOf:Str->Option NameKind}{x:Str}:∀{binds:List (Str×ζ)} {m:L5},(∀v,(x,v)∉binds)->bindL kindOf binds m x=m x
 |[],_,_=>rfl
 |(n,v)::r,m,h=>by
  unfold bindL;rw[bindL_out fun w hw=>h w (iG _ hw)];split
  ·have:x≠n:=by rintro rfl;exact h v iW
   simp[this]
  ·rfl
theorem bindC_out{kindOf:Str->Option NameKind}{x:Str}:∀{binds:List (Str×ζ)} {m:L5},(∀v,(x,v)∉binds)->bindC kindOf binds m x=m x
 |[],_,_=>rfl
 |(n,v)::r,m,h=>by
  unfold bindC;rw[bindC_out fun w hw=>h w (iG _ hw)];split
  ·rfl
  ·have:x≠n:=by rintro rfl;exact h v iW
   simp[this]
theorem bindL_get{kindOf:Str->Option NameKind}{x:Str}{v:ζ}:∀{P:List Str} {vs:List ζ} {i:Nat} {m:L5},P.Nodup->P[i]? =some x->vs[i]? =some v->kindOf x=some .local->
  bindL kindOf (P.zip vs) m x=some v
 |[],_,_,_,_,h,_,_=>by simp at h
 |_::_,[],_,_,_,_,h,_=>by simp at h
 |p::P,w::vs,0,m,nd,h1,h2,hk=>by
  simp at h1 h2;subst h1;subst h2;show bindL kindOf ((p,w)::P.zip vs) m p=_;unfold bindL;rw[bindL_out fun v hv=>(J4.mp nd).1 (wep hv).1,aF hk];simp
 |p::P,w::vs,i+1,m,nd,h1,h2,hk=>by
  show bindL kindOf ((p,w)::P.zip vs) m x=_;unfold bindL;exact bindL_get (i:=i) (J4.mp nd).2 (by simpa using h1) (by simpa using h2) hk
theorem bindC_get{kindOf:Str->Option NameKind}{x:Str}{v:ζ}:∀{P:List Str} {vs:List ζ} {i:Nat} {m:L5},P.Nodup->P[i]? =some x->vs[i]? =some v->kindOf x≠some .local->
  bindC kindOf (P.zip vs) m x=some v
 |[],_,_,_,_,h,_,_=>by simp at h
 |_::_,[],_,_,_,_,h,_=>by simp at h
 |p::P,w::vs,0,m,nd,h1,h2,hk=>by
  simp at h1 h2;subst h1;subst h2;show bindC kindOf ((p,w)::P.zip vs) m p=_;unfold bindC;rw[bindC_out fun v hv=>(J4.mp nd).1 (wep hv).1,aA hk];simp
 |p::P,w::vs,i+1,m,nd,h1,h2,hk=>by
  show bindC kindOf ((p,w)::P.zip vs) m x=_;unfold bindC;exact bindC_get (i:=i) (J4.mp nd).2 (by simpa using h1) (by simpa using h2) hk
noncomputable def start(N:List Str)(vs:List V):St:=vs.map some++List.replicate (N.length-vs.length) none
noncomputable def cxOf(CX:CXT)(P:ξ)(w:τ)(K:W.Frag)(mg:L5)(base:Heap)(N:List Str)(qual:Str)(scope:Scope)(f:Addr)(cd:ζ)(A:Around)(outer:List Env)(s:η)(H:Hp)(E:XK):Cx where
 prog:=P
 w:=w
 K:=K
 mg:=mg
 base:=base
 A:=A.deeper (envOfC qual scope s.heap.objs.size f cd)
 N:=N
 s₀:=s
 H₀:=H
 env:=envOfC qual scope s.heap.objs.size f cd
 outer:=outer
 stack:=envOfC qual scope s.heap.objs.size f cd::outer
 ex:=[]
 calm:=true
 fn:=fun _=>true
 pn:=[]
 xe:=fun e s'=>wpAny (model P w) (A.deeper (envOfC qual scope s.heap.objs.size f cd)) (leaving (envOfC qual scope s.heap.objs.size f cd) e) (fun _ s''=>CX outer H s E e s'') (fun e' s''=>CX outer H s E e' s'') s'
theorem cell_has{sc:Scope}{n:Nat}{x:Str}(h:sc.names.lookup x=some .cell):∃c,(cellsFrom n sc.names []).lookup x=some c:=by
 have q:=wem sc.names n [] (.inl h);exact Option.isSome_iff_exists.mp q
theorem inv_start{CX:CXT}{P:ξ}{w:τ}{K:W.Frag}{mg:L5}{base:Heap}{N ps:List Str}{qual:Str}{scope:Scope}{f:Addr}{cd:ζ}{A:Around}{outer:List Env}{s s1:η}{H:Hp}{E:XK}{us:List ζ}{vs:List V}
  (S:FnScope N ps scope)(hd:A.handled=none)(e0:Env0 P w K mg base A outer s H)(hl:vs.length=ps.length)(r:Vals vs us)(x:InCallC s s.heap.objs.size (bindL (envOfC qual scope s.heap.objs.size f cd).kindOf (ps.zip us) fun _=>none) (cellsFrom (s.heap.objs.size+1) scope.names []) (bindC (envOfC qual scope s.heap.objs.size f cd).kindOf (ps.zip us) fun _=>none) s1):
  Inv (cxOf CX P w K mg base N qual scope f cd A outer s H E) [] (start N vs) H s1:=by
 have hpl:ps.length<=N.length:=by have:=lq List.length S.pre;rw[rK]at this;omega
 obtain⟨h1,tk,rfl,hk⟩:=x.done;have noA:∀b:Addr,b∉(cxOf CX P w K mg base N qual scope f cd A outer s H E).ex:=fun b z=>absurd (show b∈([]:List Addr)from z) (by simp);refine⟨⟨e0.mod,S.kind,rfl,rfl,aX _,fun y z c h1 h2=> ?_,fun y hy=> ?_,fun y c _ h=> ?_,fun _=>hd,Around.frames_deeper e0.frames,.inr ⟨rfl,rfl⟩,fun b z=>absurd z (noA b),e0.bs,e0.bsz,fun b _ _=>noA b,fun b z=>absurd z (noA b),e0.funs,e0.frf⟩,
  rfl,e0.bare,Un.kept hk,⟨_,x.toInCall.ns,fun i y v h1 h2 h3=> ?_⟩,fun y c h=>⟨_,x.cell y c h⟩,e0.hok.fresh (aX _),fun y c h=> ?_,fun p hp=>absurd (show p∈([]:L3)from hp) (by simp),e0.hok.kept hk,?_⟩
 ·exact name_of_addr x.apart (J7 h1) (J7 h2)
 ·have hy:scope.names.lookup y=some .cell\/scope.names.lookup y=some .free:=hy;rcases hy with hy|hy
  ·exact cell_has hy
  ·exact absurd rfl (S.nofree _ (J7 hy))
 ·exact dH (x.above y c (J7 h))
 ·have hi:i<vs.length:=by
   unfold start at h2;by_cases hi:i<vs.length
   ·exact hi
   ·rw[ydh (by simpa using hi)]at h2;rw[wdz]at h2;split at h2<;>cases h2
  have ha:vs[i]? =some v:=by
   unfold start at h2;rw[yef (by simpa using hi),dJ]at h2;cases e:vs[i]? with
   |none=>rw[e]at h2;cases h2
   |some a=>rw[e]at h2;cases h2;rfl
  obtain⟨u,hu,rv⟩:=r.get ha;have hp:ps[i]? =some y:=by
   rw[<-S.pre,List.getElem?_take_of_lt (by omega)];exact h1
  have ndP:ps.Nodup:=by rw[<-S.pre];exact S.nd.sublist (List.take_sublist _ _)
  refine⟨u,rv,?_⟩;rcases S.par y (sO hp)with k|k
  ·exact .inl ⟨k,bindL_get ndP hp hu k⟩
  ·obtain⟨c,e⟩:=cell_has (n:=s.heap.objs.size+1) k;refine .inr ⟨.inl k,c,e,?_⟩;have q:=x.cell y c e;rw[bindC_get ndP hp hu (by show scope.names.lookup y≠_;rw[k];decide)]at q;exact q
 ·exact e0.hok.fresh (dH (x.above y c (J7 h)))
 ·unfold start;show _=N.length;rw[ql,aJ,Uo];omega
theorem fn_of{CX:CXT}{P:ξ}{w:τ}{K:W.Frag}{mg:L5}{base:Heap}{k:Nat}{f:Addr}{name qual:Str}{params:Arguments}{body:List Stmt}{scope:Scope}{dV kV doc pm cdv ct oc:ζ}{an od:Option Addr}{osl:Array (Option ζ)}{N ps:List Str}{sp:Sp}(lk:K.lookup f=some ⟨oc,od,.func (PySem.W.fnOf name qual params body scope dV kV doc pm an cdv ct),osl⟩)(hcd:PySem.W.codeIn K cdv qual=true)(S:FnScope N ps scope)(len:∀vs H Q E,sp vs H Q E->vs.length=ps.length)(hbody:∀(A:Around) (outer:List Env) (s:η) (H:Hp) (vs:List V) (Q:VK) (E:XK),Room k (A.deeper (envOfC qual scope s.heap.objs.size f cdv))->sp vs H Q E->
   ∃t,PSs (cxOf CX P w K mg base N qual scope f cdv A outer s H E) body t/\t {nx:=fun _ H'=>Q .non H',rt:=Q} (start N vs) H):
  FnOk P w K mg base CX (k+1) f (PySem.W.fnOf name qual params body scope dV kV doc pm an cdv ct) ps sp:=by
 refine⟨len,fun A outer s H args us vs Q E hr e0 hb r hsp=> ?_⟩;have hl:=len _ _ _ _ hsp;have KX:K.In s.heap:=e0.mod.kin.keeps fun b o e=>(e0.bs b o e).1;have lim:s.heap.NoLimit:=e0.mod.nolimit.keeps fun b o e=>(e0.bs b o e).1;have hkind:∀y∈ps.zip us,scope.names.lookup y.1=some .local\/(scope.names.lookup y.1=some .cell/\((cellsFrom (s.heap.objs.size+1) scope.names []).lookup y.1).isSome=true):=fun⟨n,v⟩ hy=>by
  rcases S.par n (wep hy).1 with q|q
  ·exact .inl q
  ·exact .inr ⟨q,wem _ _ _ (.inl q)⟩
 refine codeAny_call_function hr.depth (KX _ _ lk) rfl S.co S.gen rfl (PySem.W.codeRec_of KX hcd) (hb _ _ _ _ ?_);refine wpAny_newFunctionEnv_cells S.kind hkind fun env he s1 x=> ?_;subst he;refine⟨lim.keeps x.toInCall.keep,codeAny_func ?_⟩;obtain⟨t,ht,hq⟩:=hbody A outer s H vs Q E (hr.deeper _) hsp;have I:Inv (cxOf CX P w K mg base N qual scope f cdv A outer s H E) [] (start N vs) H s1:=inv_start S hr.hd e0 hl r x;refine Ut (ht [] s1 (start N vs) H _ I hq) (fun fl s' hs=> ?_) fun e s' hs=>hs;have fin:∀{σ':St} {H':Hp} {v:V} {u:ζ},Inv (cxOf CX P w K mg base N qual scope f cdv A outer s H E) [] σ' H' s'->RelV v u->Q v H'->CE outer P w H s Q u s':=
  fun{σ' H' v u} J rv q=>⟨v,H',J.os,J.bare,J.base,J.hok,rv,q⟩
 cases fl with
 |ret u=>
  obtain⟨v,σ',H',J,rv,q⟩:=hs;exact fin J rv q
 |next=>
  obtain⟨σ',H',J,q⟩:=hs;exact fin (v:=V.non) (u:=Value.none) J rfl q
 |brk=>
  obtain⟨_,_,_,q⟩:=hs;exact False.elim q
 |cont=>
  obtain⟨_,_,_,q⟩:=hs;exact False.elim q
section
variable{X:Cx}{x:Str}{p pos:Pos}{e:Expr}{es:List Expr}{t:TA}{id T:String}{r:List V->Hp->VK->Prop}
noncomputable def tCB(r:List V->Hp->VK->Prop)(t:TA):TE:=fun σ H Q=>t σ H fun vs H1=>r vs H1 Q
theorem pe_callB(hc:CallR X (.builtin id) r)(hg:Gl X x)(hm:X.mg x=none)(hv:bootBuiltins x=some (.builtin id))(ha:PA X (e::es) t)(hn:x≠"__name__":=by decide)(hdb:(x==("__debug__":Str))=false:=by decide)(he:starEach (e::es) X.env=(false,eval e X.env)::starEach es X.env:=by rfl)(hpl:(backTo pos (starEach es X.env)).any (·.1)=false:=by rfl):PE X (.Call (.Name x p) (e::es) [] pos) (tCB r t):=by
 intro pins s σ H Q I h;refine Uw (ld_blt I hg hm hv ?_ hn hdb);exact PyProof.Rows.callWith_builtin1 (thn (ha pos pins s σ H _ I h) fun us s1 ⟨vs,H1,I1,r1,q1⟩=>hc pins s1 σ H1 vs us Q I1 r1 q1) he hpl
theorem pB{X:Cx}{x:Str}{id:String}{r:List V->Hp->VK->Prop}{e:Expr}{es:List Expr}{t:TA}{p pos:Pos}(hc:CallR X (.builtin id) r)(hm:X.mg x=none)(ha:PA X (e::es) t)(hg:Gl X x:=by rfl)(hv:bootBuiltins x=some (.builtin id):=by decide+kernel)(hn:x≠"__name__":=by decide)(hdb:(x==("__debug__":Str))=false:=by decide)(he:starEach (e::es) X.env=(false,eval e X.env)::starEach es X.env:=by rfl)(hpl:(backTo pos (starEach es X.env)).any (·.1)=false:=by rfl):PE X (.Call (.Name x p) (e::es) [] pos) (tCB r t):=pe_callB hc hg hm hv ha hn hdb he hpl
theorem pe_callTy(hc:CallR X (.type T) r)(hg:Gl X x)(hm:X.mg x=none)(hv:bootBuiltins x=some (.type T))(ha:PA X (e::es) t)(hn:x≠"__name__":=by decide)(hdb:(x==("__debug__":Str))=false:=by decide)(he:starEach (e::es) X.env=(false,eval e X.env)::starEach es X.env:=by rfl)(hpl:(backTo pos (starEach es X.env)).any (·.1)=false:=by rfl):PE X (.Call (.Name x p) (e::es) [] pos) (tCB r t):=by
 intro pins s σ H Q I h;refine Uw (ld_blt I hg hm hv ?_ hn hdb);exact Py (thn (ha pos pins s σ H _ I h) fun us s1 ⟨vs,H1,I1,r1,q1⟩=>hc pins s1 σ H1 vs us Q I1 r1 q1) he hpl
theorem pT{X:Cx}{x:Str}{T:String}{r:List V->Hp->VK->Prop}{e:Expr}{es:List Expr}{t:TA}{p pos:Pos}(hc:CallR X (.type T) r)(hm:X.mg x=none)(ha:PA X (e::es) t)(hg:Gl X x:=by rfl)(hv:bootBuiltins x=some (.type T):=by decide+kernel)(hn:x≠"__name__":=by decide)(hdb:(x==("__debug__":Str))=false:=by decide)(he:starEach (e::es) X.env=(false,eval e X.env)::starEach es X.env:=by rfl)(hpl:(backTo pos (starEach es X.env)).any (·.1)=false:=by rfl):PE X (.Call (.Name x p) (e::es) [] pos) (tCB r t):=pe_callTy hc hg hm hv ha hn hdb he hpl
end
end L2
namespace HT
open PySem PyProof.Rows
noncomputable def lexLt:List Int->List Int->Bool
 |[],[]=>false
 |[],_::_=>true
 |_::_,[]=>false
 |x::xs,y::ys=>if x=y then lexLt xs ys else decide (x<y)
theorem lexLt_cons(x y:Int)(xs ys:List Int):lexLt (x::xs) (y::ys)=if x=y then lexLt xs ys else decide (x<y):=rfl
theorem lexLt_nil_nil:lexLt [] []=false:=rfl
theorem lexLt_nil_cons(y:Int)(ys:List Int):lexLt [] (y::ys)=true:=rfl
theorem lexLt_cons_nil(x:Int)(xs:List Int):lexLt (x::xs) []=false:=rfl
theorem eqAt_int(A:Around)(s:η)(a:Int)(t:Tok)(c:Int)(u:Tok):∃e,SeqAt.EqAt A s (.int a t) (.int c u) e/\(e=true↔a=c):=
 ⟨(a==c),SeqAt.EqAt.int_int a t c u,by simp⟩
theorem rcLt_int(A:Around)(s:η)(a:Int)(t:Tok)(c:Int)(u:Tok)(prog:ξ)(w:τ)(E:L4)(Q:L4)(h:Q (.bool (decide (a<c))) s):
  wpAny (model prog w) A (richCompare .Lt (.int a t) (.int c u)) Q E s:=
 (PyProof.Rows.lt_int h:wpAny (model prog w) A (compareOp .Lt (.int a t) (.int c u)) Q E s)
section
open PySem.SeqAt
open PySem.AutoSeq1 (wpAny_loadPart')
open PySem.MeetsSeq PySem.MeetsSeq2 PySem.MeetsSeq3
theorem tuple_lt_ints(l b:Addr)(items items2:Array ζ)(n n2:Nat)(dd dd2:Option Addr)(sl sl2:Array (Option ζ))(ns ms:List Int)(hi:IntsAre items.toList ns)(hj:IntsAre items2.toList ms):
  Meets (Builtin.«tuple.__lt__» ⟨[.ref l,.ref b],[]⟩)
   (fun _ R s=>s.heap.get? l=some {cls:= .type "tuple",dict:=dd,data:= .seq items n,slots:=sl}/\s.heap.get? b=some {cls:= .type "tuple",dict:=dd2,data:= .seq items2 n2,slots:=sl2}/\
    R (.ok (.ret (.bool (lexLt ns ms)))) s):=
 .of_wp fun prog w A R s h=>by
  obtain⟨hp,g,d,tk,os⟩:=s;obtain⟨hl,hb,h⟩:=h;have f2:=AutoSeq1.sub_tuple_tuple;have z1:items.size=ns.length:=by rw[<-hi.length];simp
  have z2:items2.size=ms.length:=by rw[<-hj.length];simp
  wp_walk using wpAny_loadPart' hl,wpAny_loadPart' hb,wpAny_forIn_list _ (fun rest b s'=>b.1=none/\s'=⟨hp,g,d,tk,os⟩/\∃(vs ws:List ζ) (ns' ms':List Int),rest=vs.zip ws/\
   IntsAre vs ns'/\IntsAre ws ms'/\ns'.length+items2.size=ms'.length+items.size/\R (.ok (.ret (.bool (lexLt ns' ms')))) ⟨hp,g,d,tk,os⟩) _
  case turn=>
   rintro⟨y,x⟩ rest b s' ⟨hb',rfl,vs,ws,ns',ms',hz,hvi,hwi,hlen,hR⟩;cases hvi with
   |nil=>rw[wds]at hz;cases hz
   |cons a t hvi'=>
    cases hwi with
    |nil=>rw[wdj]at hz;cases hz
    |cons c u hwi'=>
     rw[Yi]at hz;injection hz with hyx hrest
     injection hyx with hy hx
     subst hy hx;rw[lexLt_cons]at hR;simp only[zc]at hlen;obtain⟨e,he,hiff⟩:=eqAt_int A.in1 ⟨hp,g,d,tk,os⟩ a t c u;refine bK (he prog w _ _ ?_);cases e with
     |true=>
      rw[aF (hiff.mp rfl)]at hR
      wp_walk
      exact⟨rfl,rfl,_,_,_,_,hrest,hvi',hwi',by omega,hR⟩
     |false=>
      rw[aA (fun q=>absurd (hiff.mpr q) vG)]at hR;have hri:=rcLt_int A.in1 ⟨hp,g,d,tk,os⟩ a t c u prog w
      wp_walk using hri
      exact⟨_,rfl,by simpa using hR⟩
  case fin=>
   rintro⟨b1,b2⟩ s' ⟨hb',rfl,vs,ws,ns',ms',hz,hvi,hwi,hlen,hR⟩;simp only at hb';subst hb';have hv:lexLt ns' ms'=decide (items.size<items2.size):=by
    cases hvi with
    |nil=>
     cases hwi with
     |nil=>
      simp only[Pq]at hlen;rw[lexLt_nil_nil];exact(fO (by omega)).symm
     |cons c u hw=>
      simp only[Pq,zc]at hlen;rw[lexLt_nil_cons];exact(cL (by omega)).symm
    |cons a t hv=>
     cases hwi with
     |nil=>
      simp only[Pq,zc]at hlen;rw[lexLt_cons_nil];exact(fO (by omega)).symm
     |cons c u hw=>
      rw[Yi]at hz;cases hz
   rw[hv]at hR
   wp_walk
   exact⟨_,rfl,by simpa[Builtin.Tuple.tupleCompareSizes]using hR⟩
  case h=>
   exact⟨rfl,rfl,items.toList,items2.toList,ns,ms,rfl,hi,hj,by omega,h⟩
end
section
variable{prog:ξ}{w:τ}{A:Around}{E:L4}{s:η}
theorem lt_tupInts{l b:Addr}{items items2:Array ζ}{ns ms:List Int}{Q:L4}(hl:IsTup s.heap l items)(hb:IsTup s.heap b items2)(hi:IntsAre items.toList ns)(hj:IntsAre items2.toList ms)(hu:A.units<cLine)(h:Q (.bool (lexLt ns ms)) s):wpAny (model prog w) A (compareOp .Lt (.ref l) (.ref b)) Q E s:=by
 obtain⟨⟨cls,dd,data,sl⟩,ho,hc,n,hd⟩:=id hl;obtain⟨⟨cls2,dd2,data2,sl2⟩,ho2,hc2,n2,hd2⟩:=id hb;simp only at hc hd hc2 hd2;subst hc hd hc2 hd2;exact richCompare_meets_room (op:= .Lt) ⟨_,ho,rfl⟩ ⟨_,ho2,rfl⟩ PySem.F.slot_tuple_lt PySem.F.entry_tuple_lt (PySem.F.args_tuple_lt_2 _ _) (tuple_lt_ints l b items items2 n n2 dd dd2 sl sl2 ns ms hi hj)
  ⟨ho,ho2,show Value.bool (lexLt ns ms)≠Value.notImplemented/\Q (.bool (lexLt ns ms)) s from⟨(fun x=>nomatch x),h⟩⟩ hu
theorem cat_tup{t b:Addr}{vs ws:List ζ}{Q:L4}(ht:IsTup s.heap t vs.toArray)(hb:IsTup s.heap b ws.toArray)(hv:vs≠[])(h1:ws=[]->Q (.ref t) s)(h2:ws≠[]->Q (.ref s.heap.objs.size) {s with heap:=s.heap.push {cls:= .type "tuple",data:= .seq (vs++ws).toArray}})(hsz:vs.length+ws.length<=sizeLine):wpAny (model prog w) A (binaryOp .Add (.ref t) (.ref b)) Q E s:=by
 obtain⟨⟨cls,dd,data,sl⟩,ho,hc,n,hd⟩:=id ht;obtain⟨⟨cls2,dd2,data2,sl2⟩,ho2,hc2,n2,hd2⟩:=id hb;simp only at hc hd hc2 hd2;subst hc hd hc2 hd2;have e:vs.toArray++ws.toArray=(vs++ws).toArray:=by simp
 by_cases hw:ws=[]
 ·exact concat_meets ⟨_,ho,rfl⟩ ⟨_,ho2,rfl⟩ weg seq_tuple_add wbx wbs (wbm _ _)
   (tuple_addW1 t b vs.toArray ws.toArray n n2 dd dd2 sl sl2 (by simpa using hv) (by simp[hw])) ⟨ho,ho2,h1 hw⟩
 ·refine concat_meets ⟨_,ho,rfl⟩ ⟨_,ho2,rfl⟩ weg seq_tuple_add wbx wbs (wbm _ _)
   (tuple_addW2 t b vs.toArray ws.toArray n n2 dd dd2 sl sl2 (by simpa using hv) (by simpa using hw) (by rw[iD,iD];exact hsz)) ⟨ho,ho2,?_⟩
  rw[e];exact h2 hw
noncomputable def sIx(n d:Nat):Option Int->Nat
 |none=>d
 |some v=>if v<0 then(v+(n:Int)).toNat else min v.toNat n
theorem sIx_none(n d:Nat):sIx n d none=d:=rfl
theorem sIx_nat(n d k:Nat):sIx n d (some (k:Int))=min k n:=by
 show(if(k:Int)<0 then((k:Int)+(n:Int)).toNat else min (k:Int).toNat n)=min k n;rw[aA (by omega),Ip]
end
end HT
namespace L2
open PySem PySem.Spec PyProof.Rows
noncomputable abbrev TO:=St->Hp->(Option Int->Hp->Prop)->Prop
noncomputable def PO(X:Cx)(e:Option Expr)(t:TO):Prop:=
 ∀(pins:L3) (s:η) (σ:St) (H:Hp) (Q:Option Int->Hp->Prop),Inv X pins σ H s->t σ H Q->
  wpAny (model X.prog X.w) X.A (evalPart e X.env) (fun u s'=>∃o H',Inv X pins σ H' s'/\IsPart u o/\Q o H') X.xe s
noncomputable def tNoPart:TO:=fun _ H Q=>Q none H
noncomputable def tPart(t:TE):TO:=fun σ H Q=>t σ H fun x H1=>∃i,x= .int i/\Q (some i) H1
theorem T8{ns:List Int}:∀{us:List ζ},Vals (ns.map V.int) us->IntsAre us ns:=by
 induction ns with
 |nil=>intro us r;rw[Yr]at r;cases r;exact .nil
 |cons n ns ih=>
  intro us r;rw[yX]at r;cases r with
  |cons r1 r2=>
   obtain⟨t,e⟩:=r1;subst e;exact .cons n t (ih r2)
section
variable{X:Cx}{e:Expr}{te:TE}{lo hi:Option Expr}{tl th:TO}{pos p2:Pos}
theorem po_none:PO X none tNoPart:=by
 intro pins s σ H Q I h;rw[evalPart_none];exact gQ ⟨none,H,I,.none,h⟩
theorem po_some(h:PE X e te):PO X (some e) (tPart te):=by
 intro pins s σ H Q I hw;rw[evalPart_some];refine thn (h pins s σ H _ I hw) fun u s1 ⟨x,H1,I1,r1,q1⟩=> ?_;obtain⟨i,rfl,q⟩:=q1;obtain⟨t,rfl⟩:=r1;exact⟨some i,H1,I1,.int i t,q⟩
noncomputable def SlR(X:Cx)(r:V->Option Int->Option Int->Hp->VK->Prop):Prop:=
 ∀(pins:L3) (s:η) (σ:St) (H:Hp) (x:V) (v vl vu:ζ) (lo hi:Option Int) (sl:Addr) (Q:VK),Inv X pins σ H s->RelV x v->s.heap.IsSliceOf sl vl vu .none->IsPart vl lo->IsPart vu hi->r x lo hi H Q->
  ∃T id,typeLookup (.type T) "__getitem__"=pure (some (.builtin id))/\s.TypeIs v T/\wpAny (model X.prog X.w) X.A (getItem v (.ref sl)) (EP X pins σ Q) X.xe s
noncomputable def tSl(r:V->Option Int->Option Int->Hp->VK->Prop)(te:TE)(tl th:TO):TE:=fun σ H Q=>te σ H fun x H1=>tl σ H1 fun l H2=>th σ H2 fun u H3=>r x l u H3 Q
theorem pe_slice{r:V->Option Int->Option Int->Hp->VK->Prop}(hr:SlR X r)(he:PE X e te)(hl:PO X lo tl)(hu:PO X hi th):PE X (.Subscript e (.Slice lo hi none p2) pos) (tSl r te tl th):=by
 intro pins s σ H Q I h;refine Subscript_ (thn (he pins s σ H _ I h) fun v s1 ⟨x,H1,I1,r1,q1⟩=> ?_);refine wpAny_Slice (thn (hl pins s1 σ H1 _ I1 q1) fun vl s2 ⟨l,H2,I2,pl,q2⟩=>thn (hu pins s2 σ H2 _ I2 q2) fun vu s3 ⟨u,H3,I3,pu,q3⟩=> ?_);rw[evalPart_none];refine gQ ?_;have I4:Inv X pins σ H3 {s3 with heap:=s3.heap.push {cls:= .type "slice",data:= .fields #[vl,vu,.none]}}:=I3.kept (t':=s3.toks) fun b ob q=>kZ _ q;obtain⟨T,id,hT,ht,hg⟩:=hr pins {s3 with heap:=s3.heap.push {cls:= .type "slice",data:= .fields #[vl,vu,.none]}} σ H3 x v vl vu l u s3.heap.objs.size Q I4 r1 (Heap.IsSliceOf.new ..) pl pu q3;show wpAny (model X.prog X.w) X.A (subscriptTail e (.Slice lo hi none p2) v (.ref s3.heap.objs.size)) (EP X pins σ Q) X.xe {s3 with heap:=s3.heap.push {cls:= .type "slice",data:= .fields #[vl,vu,.none]}};exact tail_any (ops:=[.ref s3.heap.objs.size,v]) ht hT hg (by with_unfolding_all rfl)
noncomputable def cutV(xs:List V)(lo hi:Option Int):List V:=(xs.drop (HT.sIx xs.length 0 lo)).take (HT.sIx xs.length xs.length hi-HT.sIx xs.length 0 lo)
theorem cutV_length(xs:List V)(lo hi:Option Int):(cutV xs lo hi).length<=xs.length:=by
 unfold cutV;rw[rK,List.length_drop];omega
noncomputable def rLtT(K:W.Frag):R2:=fun x y H Q=>∃a b ns ms,x= .ref a/\y= .ref b/\SqT K H a (ns.map V.int)/\SqT K H b (ms.map V.int)/\Q (.bl (HT.lexLt ns ms)) H
theorem op_ltT(hu:X.A.units<cLine):OpR X (compareOp .Lt) (rLtT X.K):=by
 intro pins s σ H x y v u Q I rx ry h;obtain⟨a,b,ns,ms,rfl,rfl,ha,hb,q⟩:=h;cases rx;cases ry;obtain⟨its,r1,p1,_⟩:=I.tuple ha;obtain⟨its2,r2,p2,_⟩:=I.tuple hb;have i1:IntsAre its.toArray.toList ns:=T8 r1;have i2:IntsAre its2.toArray.toList ms:=T8 r2;exact HT.lt_tupInts p1 p2 i1 i2 hu ⟨.bl (HT.lexLt ns ms),H,I,rfl,q⟩
noncomputable def rCatT(K:W.Frag):R2:=fun x y H Q=>∃a b xs ys,x= .ref a/\y= .ref b/\SqT K H a xs/\SqT K H b ys/\xs≠[]/\xs.length+ys.length<=sizeLine/\
 (ys=[]->Q (.ref a) H)/\(ys≠[]->∀p,H p=none->Q (.ref p) (upd H p (.tup (xs++ys))))
theorem Vals.nil_iff{xs:List V}{us:List ζ}(r:Vals xs us):us=[]↔xs=[]:=by
 cases r with
 |nil=>simp
 |cons _ _=>simp
theorem op_catT:OpR X (binaryOp .Add) (rCatT X.K):=by
 intro pins s σ H x y v u Q I rx ry h;obtain⟨a,b,xs,ys,rfl,rfl,ha,hb,hx,hz,q1,q2⟩:=h;cases rx;cases ry;obtain⟨its,r1,p1,_⟩:=I.tuple ha;obtain⟨its2,r2,p2,_⟩:=I.tuple hb;refine HT.cat_tup p1 p2 (fun z=>hx (r1.nil_iff.mp z)) (fun z=>⟨.ref a,H,I,rfl,q1 (r2.nil_iff.mp z)⟩) (fun z=> ?_) (by rw[<-r1.length,<-r2.length];exact hz);refine⟨.ref s.heap.objs.size,_,I.laid (t':=s.toks) (o:= .tup (xs++ys)) (fun b ob q=>kZ _ q) (aX _) ?_,rfl,q2 (fun w=>z (r2.nil_iff.mpr w)) _ (I.hok.fresh (aX _))⟩;exact⟨by rw[ql];exact hz,_,r1.append r2,Ur _ _⟩
end
noncomputable def ixN(n:Nat)(i:Int):Option Nat:=if 0<=i then(if i<n then some i.toNat else none)else if -(n:Int)<=i then some (i+n).toNat else none
noncomputable def atI{α:Type}(xs:List α)(i:Int):Option α:=(ixN xs.length i).bind fun j=>xs[j]?
theorem ixN_seq{n:Nat}{i:Int}{j:Nat}(h:ixN n i=some j):seqIndex? i n=some j/\j<n/\ -(n:Int)<=i/\i<n:=by
 unfold ixN at h;by_cases h0:0<=i
 ·rw[aF h0]at h;by_cases h1:i<n
  ·rw[aF h1]at h;have e:i.toNat=j:=sU h;exact⟨by rw[seqIndex_of h0 h1,e],by omega,by omega,h1⟩
  ·rw[aA h1]at h;cases h
 ·rw[aA h0]at h;by_cases h1: -(n:Int)<=i
  ·rw[aF h1]at h;have e:(i+n).toNat=j:=sU h;exact⟨by rw[seqIndex_neg (by omega) h1,e],by omega,h1,by omega⟩
  ·rw[aA h1]at h;cases h
theorem atI_get{α:Type}{xs:List α}{i:Int}{v:α}(h:atI xs i=some v):∃j,seqIndex? i xs.length=some j/\xs[j]? =some v/\j<xs.length/\ -(xs.length:Int)<=i/\i<xs.length:=by
 unfold atI at h;cases e:ixN xs.length i with
 |none=>rw[e]at h;cases h
 |some j=>
  rw[e]at h;obtain⟨h1,h2,h3,h4⟩:=ixN_seq e;exact⟨j,h1,h,h2,h3,h4⟩
theorem atI_nat{α:Type}{xs:List α}{j:Nat}{v:α}(h:xs[j]? =some v):atI xs (j:Int)=some v:=by
 have hj:j<xs.length:=(nF.mp h).1;have e:ixN xs.length (j:Int)=some j:=by
  unfold ixN;rw[aF (by omega),aF (by omega)];simp
 unfold atI;rw[e];exact h
noncomputable def PlainIx(b:Expr):Prop:=∀o i,subscripted b false o i=operate [o,i] (getItem o i)
noncomputable def IxR(X:Cx)(r:R2):Prop:=
 ∀(value slice:Expr) (pins:L3) (s:η) (σ:St) (H:Hp) (x y:V) (v u:ζ) (Q:VK),Inv X pins σ H s->RelV x v->RelV y u->r x y H Q->
  subscripted slice false v u=operate [v,u] (getItem v u)->wpAny (model X.prog X.w) X.A (subscriptTail value slice v u) (EP X pins σ Q) X.xe s
noncomputable def MtR(X:Cx)(id:String)(r:V->List V->Hp->VK->Prop):Prop:=
 ∀(pins:L3) (s:η) (σ:St) (H:Hp) (x:V) (xs:List V) (v:ζ) (us:List ζ) (Q:VK),Inv X pins σ H s->RelV x v->Vals xs us->r x xs H Q->
  wpAny (model X.prog X.w) X.A (call (.builtin id) (v::us)) (EP X pins σ Q) X.xe s
section
variable{X:Cx}{a b:Expr}{ta tb:TE}{pos:Pos}
theorem aQ{r:R2}(hr:IxR X r)(ha:PE X a ta)(hb:PE X b tb)(hs:PlainIx b:=by exact fun _ _=>rfl):PE X (.Subscript a b pos) (tOp r ta tb):=by
 intro pins s σ H Q I h;exact Subscript_ (binT ha hb I h fun v u s2 x y H2 I2 rx ry q=>hr a b pins s2 σ H2 x y v u Q I2 rx ry q (hs _ _))
noncomputable def rIxL(K:W.Frag):R2:=fun x y H Q=>∃p xs i v,x= .ref p/\y= .int i/\SqL K H p xs/\atI xs i=some v/\Q v H
noncomputable def rIxT(K:W.Frag):R2:=fun x y H Q=>∃p xs i v,x= .ref p/\y= .int i/\SqT K H p xs/\atI xs i=some v/\Q v H
theorem kJ:IxR X (rIxL X.K):=by
 intro value slice pins s σ H x y v u Q I rx ry h hs;obtain⟨p,xs,i,z,rfl,rfl,hq,he,q⟩:=h;cases rx;obtain⟨t,rfl⟩:=ry;obtain⟨its,r,pl,hz⟩:=I.list hq;obtain⟨j,h1,h2,h3,h4,h5⟩:=atI_get he;obtain⟨w,ew,rw'⟩:=r.get h2;have hl:=r.length;have hn:=line63;have fin:EP X pins σ Q w s:=⟨z,H,I,rw',q⟩;by_cases h0:0<=i
 ·have hj:i.toNat=j:=by
   rw[seqIndex_of h0 h5]at h1;exact sU h1
  exact item_listR pl.isList h0 (by omega) (by rw[hj];simpa using ew) fin hs
 ·have hj:(i+(its.toArray.size:Int)).toNat=j:=by
   rw[seqIndex_neg (by omega) h4]at h1;rw[iD,<-hl];exact sU h1
  exact subscriptTail_builtinR (x:=w) pl.isList.typeIs slot_list_getitem.lookup
   (wpAny_getItem_list_neg (Q:=fun r s'=>r=w/\EP X pins σ Q r s') pl.isList (by omega) (by rw[iD]<;>omega) (by omega) (by rw[hj];simpa using ew) ⟨rfl,fin⟩) hs
theorem bD:IxR X (rIxT X.K):=by
 intro value slice pins s σ H x y v u Q I rx ry h hs;obtain⟨p,xs,i,z,rfl,rfl,hq,he,q⟩:=h;cases rx;obtain⟨t,rfl⟩:=ry;obtain⟨its,r,pl,hz⟩:=I.tuple hq;obtain⟨j,h1,h2,h3,h4,h5⟩:=atI_get he;obtain⟨w,ew,rw'⟩:=r.get h2;have hl:=r.length;have hn:=line63;have fin:EP X pins σ Q w s:=⟨z,H,I,rw',q⟩;exact subscriptTail_builtinR (x:=w) pl.typeIs slot_tuple_getitem.lookup
  (getItem_tuple (j:=j) (Q:=fun r s'=>r=w/\EP X pins σ Q r s') pl (by omega) (by omega) (by rw[iD,<-hl];exact h1) (by simpa using ew) ⟨rfl,fin⟩) hs
theorem mapSeq_set(its:List ζ)(n j:Nat)(u:ζ):Obj.mapSeq (·.setIfInBounds j u) {cls:= .type "list",data:= .seq its.toArray n}={cls:= .type "list",data:= .seq (its.set j u).toArray n}:=by
 simp[Obj.mapSeq]
theorem Inv.lst{pins:L3}{σ:St}{H:Hp}{s:η}{p:Addr}{xs:List V}(I:Inv X pins σ H s)(h:H p=some (.lst xs)):
  ∃(its:List ζ) (n:Nat),Vals xs its/\s.heap.get? p=some {cls:= .type "list",data:= .seq its.toArray n}/\xs.length<=sizeLine:=by
 obtain⟨z,its,n,r,e⟩:=I.hok p _ h;exact⟨its,n,r,e,z⟩
theorem Inv.lstUpd{pins:L3}{σ:St}{H:Hp}{s:η}{p:Addr}{xs ys:List V}{its its':List ζ}{n n':Nat}{f:Obj->Obj}(I:Inv X pins σ H s)(h:H p=some (.lst xs))(ho:s.heap.get? p=some {cls:= .type "list",data:= .seq its.toArray n})(hf:f {cls:= .type "list",data:= .seq its.toArray n}={cls:= .type "list",data:= .seq its'.toArray n'})(r:Vals ys its')(hz:ys.length<=sizeLine)(t:Nat):
  Inv X pins σ (upd H p (.lst ys)) {s with heap:=s.heap.update p f,toks:=t}:=by
 have e:(s.heap.update p f).get? p=some {cls:= .type "list",data:= .seq its'.toArray n'}:=by
  rw[Heap.get?_update_self f ho (by rw[hf]<;>rfl),hf]
 refine I.write (x:=p) (e:=p) (by rw[h];trivial) (.inl rfl) (fun b u hb q=>(wby _ _ (way hb)).trans q) ⟨_,e⟩ ?_;exact⟨hz,its',n',r,e⟩
noncomputable def rSetL:V->V->V->Hp->(Hp->Prop)->Prop:=fun o i v H Q=>∃p xs k j,o= .ref p/\i= .int k/\H p=some (.lst xs)/\ixN xs.length k=some j/\Q (upd H p (.lst (xs.set j v)))
theorem set_list:PSet X rSetL:=by
 intro pins s σ H o i v ov iv u Q I ro ri rv h;obtain⟨p,xs,k,j,rfl,rfl,hp,hj,q⟩:=h;cases ro;obtain⟨t,rfl⟩:=ri;obtain⟨its,n,r,ho,hz⟩:=I.lst hp;obtain⟨h1,h2,h3,h4⟩:=ixN_seq hj;have hl:=r.length;have hn:=line63;have I':Inv X pins σ (upd H p (.lst (xs.set j v))) {s with heap:=s.heap.update p (Obj.mapSeq (·.setIfInBounds j u))}:=
  I.lstUpd hp ho (mapSeq_set its n j u) (r.set rv j) (by rw[List.length_set];exact hz) s.toks
 by_cases h0:0<=k
 ·have hk:k.toNat=j:=by
   rw[seqIndex_of h0 h4]at h1;exact sU h1
  exact PySem.W.ki_setAt ho h0 (by omega) (by rw[iD,<-hl];exact h4) (by rw[hk];exact⟨_,I',q⟩)
 ·have hk:(k+(its.toArray.size:Int)).toNat=j:=by
   rw[seqIndex_neg (by omega) h3]at h1;rw[iD,<-hl];exact sU h1
  exact PySem.W.ki_setBack ho (by omega) (by rw[iD,<-hl];exact h3) (by omega) (by rw[hk];exact⟨_,I',q⟩)
theorem slice_bounds(lo hi:Option Int)(n:Nat):(sliceBounds lo hi none n).1=((HT.sIx n 0 lo:Nat):Int)/\(sliceBounds lo hi none n).2.1=((HT.sIx n n hi:Nat):Int)/\(sliceBounds lo hi none n).2.2=1:=by
 refine⟨?_,?_,rfl⟩
 ·cases lo with
  |none=>simp[sliceBounds,HT.sIx]
  |some i=>
   simp only[sliceBounds,HT.sIx,Option.getD_none,show(1:Int)>0 by decide,if_true];by_cases h:i<0
   ·simp only[h,if_true]<;>omega
   ·simp only[h,if_false]<;>omega
 ·cases hi with
  |none=>simp[sliceBounds,HT.sIx]
  |some i=>
   simp only[sliceBounds,HT.sIx,Option.getD_none,show(1:Int)>0 by decide,if_true];by_cases h:i<0
   ·simp only[h,if_true]<;>omega
   ·simp only[h,if_false]<;>omega
theorem slicePick_cut(its:List ζ)(lo hi:Option Int):slicePick its.toArray lo hi none=((its.drop (HT.sIx its.length 0 lo)).take (HT.sIx its.length its.length hi-HT.sIx its.length 0 lo)).toArray:=by
 obtain⟨h1,h2,h3⟩:=slice_bounds lo hi its.toArray.size;unfold slicePick;rw[h1,h2,h3];simp only[sliceRange_one,pick_run,iD]<;>rfl
noncomputable def rSlL(K:W.Frag):V->Option Int->Option Int->Hp->VK->Prop:=fun x lo hi H Q=>∃a xs,x= .ref a/\SqL K H a xs/\∀p,H p=none->Q (.ref p) (upd H p (.lst (cutV xs lo hi)))
theorem sl_list:SlR X (rSlL X.K):=by
 intro pins s σ H x v vl vu lo hi sl Q I rx hs pl pu h;obtain⟨a,xs,rfl,hx,q⟩:=h;cases rx;obtain⟨its,r,ht,hz⟩:=I.list hx;have hlen:=r.length;refine⟨"list",_,slot_list_getitem.lookup,ht.isList.typeIs,?_⟩;refine wpAny_getItem_list_slice ht.isList hs pl pu .none (by simp) ?_ (by rw[iD]<;>omega);rw[slicePick_cut,<-hlen];refine⟨.ref s.heap.objs.size,_,I.laid (t':=s.toks) (o:= .lst (cutV xs lo hi)) (fun b ob q=>kZ _ q) (aX _) ?_,rfl,q _ (I.hok.fresh (aX _))⟩;exact⟨cT (cutV_length xs lo hi) hz,_,0,(r.drop (HT.sIx xs.length 0 lo)).take (HT.sIx xs.length xs.length hi-HT.sIx xs.length 0 lo),sJ _ rfl⟩
theorem call_len_seq:CallR X (.builtin "len") (fun xs H Q=>∃p ys,xs=[.ref p]/\(SqL X.K H p ys\/SqT X.K H p ys)/\Q (.int ys.length) H):=by
 intro pins s σ H xs us Q I r h;obtain⟨p,ys,rfl,hq,q⟩:=h;obtain⟨u,rfl,rx⟩:=vals1 r;cases rx;have hn:=line63;rcases hq with hq|hq
 ·obtain⟨its,r',pl,hz⟩:=I.list hq;have hlen:=r'.length;exact Calls.call_len_list pl.isList (by simp only[iD]<;>omega) ⟨.int ys.length,H,I.tok _,⟨s.toks+1,by rw[iD,hlen]⟩,q⟩
 ·obtain⟨its,r',pl,hz⟩:=I.tuple hq;have hlen:=r'.length;exact len_tuple pl (by simp only[iD]<;>omega) ⟨.int ys.length,H,I.tok _,⟨s.toks+1,by rw[iD,hlen]⟩,q⟩
theorem call_list_of:CallR X (.type "list") (fun xs H Q=>∃p ys,xs=[.ref p]/\(SqL X.K H p ys\/SqT X.K H p ys)/\∀l,H l=none->Q (.ref l) (upd H l (.lst ys))):=by
 intro pins s σ H xs us Q I r h;obtain⟨p,ys,rfl,hq,q⟩:=h;obtain⟨u,rfl,rx⟩:=vals1 r;cases rx;have fin:∀(its:List ζ),Vals ys its->ys.length<=sizeLine->∀(h':Heap) (c':Nat),(∀b o',s.heap.get? b=some o'->h'.get? b=some o')->
   h'.get? s.heap.objs.size=some {cls:= .type "list",dict:=none,data:= .seq its.toArray c',slots:=#[]}->EP X pins σ Q (.ref s.heap.objs.size) {s with heap:=h'}:=fun its r' hz h' c' kp e=>
  ⟨.ref s.heap.objs.size,_,I.laid (t':=s.toks) kp (aX _) (show ObjOk X.prog X.w _ h' _ (.lst ys)from⟨hz,its,c',r',e⟩),rfl,q _ (I.hok.fresh (aX _))⟩
 rcases hq with hq|hq
 ·obtain⟨its,r',pl,hz⟩:=I.list hq;have hlen:=r'.length;obtain⟨o,ho,hc,n,hd⟩:=pl.isList;exact call_list_seq p (.inl rfl) ho hc hd (fun h' c' kp e=>fin its r' hz h' c' kp e) (by simp only[iD]<;>omega)
 ·obtain⟨its,r',pl,hz⟩:=I.tuple hq;have hlen:=r'.length;obtain⟨o,ho,hc,n,hd⟩:=pl;exact call_list_seq p (.inr rfl) ho hc hd (fun h' c' kp e=>fin its r' hz h' c' kp e) (by simp only[iD]<;>omega)
theorem Ci:CallR X (.type "tuple") (fun xs H Q=>∃p ys,xs=[.ref p]/\((SqL X.K H p ys/\∀l,H l=none->Q (.ref l) (upd H l (.tup ys)))\/(SqT X.K H p ys/\Q (.ref p) H))):=by
 intro pins s σ H xs us Q I r h;obtain⟨p,ys,rfl,h⟩:=h;obtain⟨u,rfl,rx⟩:=vals1 r;cases rx;rcases h with⟨hq,q⟩|⟨hq,q⟩
 ·obtain⟨its,r',pl,hz⟩:=I.list hq;have hlen:=r'.length;refine call_tuple_list pl.isList (fun h' kp=> ?_) (by simp only[iD]<;>omega);have I1:Inv X pins σ H {s with heap:=h'}:=I.kept (t':=s.toks) kp;have I2:Inv X pins σ (upd H h'.objs.size (.tup ys)) {s with heap:=h'.push {cls:= .type "tuple",data:= .seq its.toArray}}:=
   I1.laid (t':=s.toks) (fun b o e=>kZ _ e) (aX _) (show ObjOk X.prog X.w _ _ _ (.tup ys)from⟨hz,its,r',Ur _ _⟩)
  exact⟨.ref h'.objs.size,_,I2,rfl,q _ (I1.hok.fresh (aX _))⟩
 ·obtain⟨its,r',pl,hz⟩:=I.tuple hq;exact call_tuple_same pl ⟨.ref p,H,I,rfl,q⟩
noncomputable def tyV(K:W.Frag)(T:String)(x:V)(H:Hp):Prop:=match x with
 | .str _=>T="str"
 | .int _=>T="int"
 | .ref p=>(T="list"/\∃xs,SqL K H p xs)\/(T="tuple"/\∃o,K.lookup p=some o/\o.cls= .type "tuple"/\o.dict=none)\/
   (T="dict"/\((∃kvs,H p=some (.dK kvs))\/∃kvs,H p=some (.dT kvs)))\/(T="set"/\∃S n,H p=some (.set S n))
 |_=>False
theorem tyV_is{pins:L3}{σ:St}{H:Hp}{s:η}{T:String}{x:V}{v:ζ}(I:Inv X pins σ H s)(r:RelV x v)(ty:tyV X.K T x H):
  s.TypeIs v T/\∀a,v= .ref a->∃ob,s.heap.get? a=some ob/\ob.dict=none:=by
 cases x with
 |str z=>
  obtain⟨t,rfl⟩:=r;cases(show T="str" from ty);exact⟨typeIs_str s z t,fun _ e=>nomatch e⟩
 |int i=>
  obtain⟨t,rfl⟩:=r;cases(show T="int" from ty);exact⟨typeIs_int s i t,fun _ e=>nomatch e⟩
 |ref p=>
  cases r;rcases ty with⟨rfl,xs,hq⟩|⟨rfl,o,hk,hc,hd⟩|⟨rfl,hk⟩|⟨rfl,S,n,hk⟩
  ·obtain⟨its,_,pl,_⟩:=I.list hq;refine⟨pl.isList.typeIs,fun a e=> ?_⟩;cases e;obtain⟨o,n,e,c,hd,_⟩:=pl;exact⟨o,e,hd⟩
  ·refine⟨⟨o,I.kIn p o hk,hc⟩,fun a e=> ?_⟩;cases e;exact⟨o,I.kIn _ o hk,hd⟩
  ·have z:∃o,s.heap.get? p=some o/\o.ExactDict:=by
    rcases hk with⟨kvs,hk⟩|⟨kvs,hk⟩
    ·obtain⟨_,_,_,_,o,_,_,e,ex,_⟩:=I.hok p _ hk;exact⟨o,e,ex⟩
    ·obtain⟨_,_,_,_,o,_,_,e,ex,_⟩:=I.hok p _ hk;exact⟨o,e,ex⟩
   obtain⟨o,e,ex⟩:=z;refine⟨⟨o,e,ex.1⟩,fun a e2=> ?_⟩;cases e2;exact⟨o,e,ex.2.1⟩
  ·obtain⟨o,_,_,_,e,ex,_⟩:=I.hok p _ hk;refine⟨⟨o,e,ex.1⟩,fun a e2=> ?_⟩;cases e2;exact⟨o,e,ex.2.1⟩
 |_=>exact False.elim ty
noncomputable def tBM0(K:W.Frag)(T:String)(r:V->List V->Hp->VK->Prop)(to:TE):TE:=fun σ H Q=>to σ H fun x H1=>tyV K T x H1/\r x [] H1 Q
noncomputable def tBM(K:W.Frag)(T:String)(r:V->List V->Hp->VK->Prop)(to:TE)(t:TA):TE:=fun σ H Q=>to σ H fun x H1=>tyV K T x H1/\t σ H1 fun xs H2=>r x xs H2 Q
variable{o e:Expr}{es:List Expr}{to:TE}{t:TA}{name:Str}{apos cpos:Pos}{T id:String}{r:V->List V->Hp->VK->Prop}
theorem pe_bm0(pa:PlainAttrs T)(slot:Slot T name id)(hty:typeOf (.builtin id)=pure (.type "method_descriptor"))(hm:MtR X id r)(ho:PE X o to)(hbase:attributeBase o name X.env (eval o X.env)=eval o X.env:=by rfl)(hline:(apos.endLine==cpos.line)=true:=by rfl):PE X (.Call (.Attribute o name apos) [] [] cpos) (tBM0 X.K T r to):=by
 intro pins s σ H Q I h;refine wpAny_Call_method0_late hbase hline (thn (ho pins s σ H _ I h) fun v s1 ⟨x,H1,I1,r1,ty,q1⟩=> ?_);obtain⟨h1,h2⟩:=tyV_is I1 r1 ty;exact⟨T,id,pa,slot,hty,h1,h2,Calls.callWith_builtin rfl (PySem.evalArgs_none (hm pins s1 σ H1 x [] v [] Q I1 r1 .nil q1))⟩
theorem pe_bm(pa:PlainAttrs T)(slot:Slot T name id)(hty:typeOf (.builtin id)=pure (.type "method_descriptor"))(hm:MtR X id r)(ho:PE X o to)(ha:PA X (e::es) t)(hbase:attributeBase o name X.env (eval o X.env)=eval o X.env:=by rfl)(hfew:((backTo cpos (starEach (e::es) X.env)).all (fun x=> !x.1)&&(backToKw cpos (keywordEach [] X.env)).all (fun x=>x.1.isSome)
   &&decide ((e::es).length+([]:List Keyword).length+(if([]:List Keyword).isEmpty then 0 else 1)<30))=true:=by rfl)(hline:(apos.endLine==cpos.line)=true:=by rfl)(hs:starEach (e::es) X.env=(false,eval e X.env)::starEach es X.env:=by rfl)(hplain:(backTo cpos (starEach es X.env)).any (·.1)=false:=by rfl):
  PE X (.Call (.Attribute o name apos) (e::es) [] cpos) (tBM X.K T r to t):=by
 intro pins s σ H Q I h;refine wpAny_Call_method_late hbase hfew hline rfl (thn (ho pins s σ H _ I h) fun v s1 ⟨x,H1,I1,r1,ty,q1⟩=> ?_);obtain⟨h1,h2⟩:=tyV_is I1 r1 ty;refine⟨T,id,pa,slot,hty,h1,h2,?_⟩;have hA:=ha cpos pins s1 σ H1 _ I1 q1;rw[hs]at hA⊢;refine Calls.callWith_builtin (by show(false||(backTo cpos (starEach es X.env)).any (·.1))=false;rw[hplain]<;>rfl) (Calls.evalArgs_plain ?_);exact thn hA fun us s2 ⟨vs,H2,I2,r2,q2⟩=>hm pins s2 σ H2 x vs v us Q I2 r1 r2 q2
end
noncomputable def MtM(X:Cx)(id:String)(r:V->List V->Hp->VK->Prop):Prop:=
 ∀(pins:L3) (s:η) (σ:St) (H:Hp) (x:V) (xs:List V) (v:ζ) (us:List ζ) (Q:VK),Inv X pins σ H s->RelV x v->Vals xs us->r x xs H Q->
  wpAny (model X.prog X.w) X.A (call (.builtin id) (v::us)) (EP X pins σ Q) X.xe s
theorem Vals.one{x:V}{us:List ζ}(h:Vals [x] us):∃u,us=[u]/\RelV x u:=by
 cases h with
 |cons r h=>cases h;exact⟨_,rfl,r⟩
theorem Vals.two{x y:V}{us:List ζ}(h:Vals [x,y] us):∃u v,us=[u,v]/\RelV x u/\RelV y v:=by
 cases h with
 |cons r h=>obtain⟨v,rfl,q⟩:=Vals.one h;exact⟨_,_,rfl,r,q⟩
theorem Vals.zero:∀{us:List ζ},Vals [] us->us=[]
 |_,.nil=>rfl
theorem foldl_rep(its:List ζ):∀(k:Nat) (acc:List ζ),
  List.foldl (fun x1 x2=>x1++x2) acc.toArray (List.replicate k its.toArray)=(acc++(List.replicate k its).flatten).toArray
 |0,acc=>by simp
 |k+1,acc=>by
  have e:acc.toArray++its.toArray=(acc++its).toArray:=by simp
  have e2:(acc++its)++(List.replicate k its).flatten=acc++(List.replicate (k+1) its).flatten:=by
   rw[Ul,Yg,wcb]
  rw[<-e2,<-foldl_rep its k (acc++its),<-e,Ul,List.foldl_cons]
section
variable{X:Cx}{pins:L3}{σ:St}{H:Hp}{s:η}{l:Addr}{xs ys:List V}
theorem Inv.lset{its its':List ζ}{n:Nat}{f:Array ζ->Array ζ}{t':Nat}(I:Inv X pins σ H s)(hH:H l=some (.lst xs))(e:s.heap.get? l=some {cls:= .type "list",data:= .seq its.toArray n})(hf:f its.toArray=its'.toArray)(hv:Vals ys its')(hz:ys.length<=sizeLine):
  Inv X pins σ (upd H l (.lst ys)) {s with heap:=s.heap.update l (Obj.mapSeq f),toks:=t'}:=by
 have q:=PySem.IsL.update e f;rw[hf]at q;refine I.write (x:=l) (e:=l) (by rw[hH];exact trivial) (.inl rfl) (fun b' u hb hu=>(wby s.heap (Obj.mapSeq f) (way hb)).trans hu) ⟨_,q⟩ ?_;exact⟨hz,its',_,hv,q⟩
theorem Inv.lnew{its:List ζ}{t':Nat}(I:Inv X pins σ H s)(hv:Vals ys its)(hz:ys.length<=sizeLine):
  Inv X pins σ (upd H s.heap.objs.size (.lst ys)) {s with heap:=s.heap.push {cls:= .type "list",data:= .seq its.toArray},toks:=t'}:=
 I.laid (fun _ _ q=>kZ _ q) (aX _) ⟨hz,its,0,hv,sJ _ rfl⟩
theorem Inv.fresh(I:Inv X pins σ H s):H s.heap.objs.size=none:=I.hok.fresh (aX _)
theorem Inv.lstM(I:Inv X pins σ H s)(hH:H l=some (.lst xs)):xs.length<=sizeLine/\∃(its:List ζ) (n:Nat),Vals xs its/\xs.length=its.length/\s.heap.get? l=some {cls:= .type "list",data:= .seq its.toArray n}:=by
 obtain⟨z,its,n,r,e⟩:=I.hok l _ hH;exact⟨z,its,n,r,r.length,e⟩
theorem notLongL{n:Nat}(h:n<=sizeLine):Builtin.List.listTooLong n=false:=by
 unfold Builtin.List.listTooLong;exact fO (by omega)
end
section
variable{X:Cx}
noncomputable def rAppend:V->List V->Hp->VK->Prop:=fun x vs H Q=>∃l xs y,x= .ref l/\vs=[y]/\H l=some (.lst xs)/\xs.length<sizeLine/\Q .non (upd H l (.lst (xs++[y])))
theorem mt_append:MtM X "list.append" rAppend:=by
 intro pins s σ H x vs v us Q I rx rv h;obtain⟨l,xs,y,rfl,rfl,hH,hz,q⟩:=h;cases rx;obtain⟨u,rfl,ru⟩:=rv.one;obtain⟨z,its,n,r,hl,e⟩:=I.lstM hH;refine Us F.slot_list_append ⟨_,e,rfl⟩ F.entry_list_append (F.args_list_append_2 _ _) (PySem.list_append l its.toArray n u (by rw[iD];omega)) ⟨e,?_⟩;refine⟨.non,_,I.lset (its':=its++[u]) hH e (by simp) (r.append (.cons ru .nil)) ?_,rfl,q⟩;rw[ql,List.length_singleton];omega
noncomputable def rExtend:V->List V->Hp->VK->Prop:=fun x vs H Q=>∃l b xs zs,x= .ref l/\vs=[.ref b]/\H l=some (.lst xs)/\H b=some (.lst zs)/\xs.length+zs.length<=sizeLine/\Q .non (upd H l (.lst (xs++zs)))
theorem mt_extend:MtM X "list.extend" rExtend:=by
 intro pins s σ H x vs v us Q I rx rv h;obtain⟨l,b,xs,zs,rfl,rfl,hH,hB,hz,q⟩:=h;cases rx;obtain⟨u,rfl,ru⟩:=rv.one;cases ru;obtain⟨z,its,n,r,hl,e⟩:=I.lstM hH;obtain⟨z2,its2,n2,r2,hl2,e2⟩:=I.lstM hB;have hsz:its.toArray.size+its2.toArray.size<=sizeLine:=by rw[iD,iD];omega
 have hlong:¬(!its.toArray.isEmpty&&Builtin.List.listTooLong (its.toArray.size+its2.toArray.size))=true:=by
  rw[notLongL hsz,Bool.and_false];exact vG
 refine Us F.slot_list_extend ⟨_,e,rfl⟩ F.entry_list_extend (F.args_list_extend_2 _ _)
  (AutoSeq1.list_extend_list_list_0 l its.toArray n b its2.toArray n2 hlong (by rw[iD];omega) (by omega)) ⟨e,e2,?_⟩
 refine⟨.non,_,I.lset (its':=its++its2) hH e (by simp) (r.append r2) ?_,rfl,q⟩;rw[ql];omega
noncomputable def rClear:V->List V->Hp->VK->Prop:=fun x vs H Q=>∃l xs,x= .ref l/\vs=[]/\H l=some (.lst xs)/\Q .non (upd H l (.lst []))
theorem mt_clear:MtM X "list.clear" rClear:=by
 intro pins s σ H x vs v us Q I rx rv h;obtain⟨l,xs,rfl,rfl,hH,q⟩:=h;cases rx;have hus:=rv.zero;subst hus;obtain⟨z,its,n,r,hl,e⟩:=I.lstM hH;refine Us F.slot_list_clear ⟨_,e,rfl⟩ F.entry_list_clear (F.args_list_clear_1 _) (AutoSeq1.list_clear_list_0 l its.toArray n (by rw[iD];omega)) ⟨e,?_⟩;exact⟨.non,_,I.lset (its':=[]) (ys:=[]) hH e rfl .nil (dX _),rfl,q⟩
noncomputable def rCat:R2:=fun x y H Q=>∃l b xs zs,x= .ref l/\y= .ref b/\H l=some (.lst xs)/\H b=some (.lst zs)/\xs.length+zs.length<=sizeLine/\∀p,H p=none->Q (.ref p) (upd H p (.lst (xs++zs)))
theorem op_cat:OpR X (binaryOp .Add) rCat:=by
 intro pins s σ H x y v u Q I rx ry h;obtain⟨l,b,xs,zs,rfl,rfl,hH,hB,hz,q⟩:=h;cases rx;cases ry;obtain⟨z,its,n,r,hl,e⟩:=I.lstM hH;obtain⟨z2,its2,n2,r2,hl2,e2⟩:=I.lstM hB;refine PySem.P.add_list e e2 ?_ (by rw[iD,iD];omega);have ea:its.toArray++its2.toArray=(its++its2).toArray:=by simp
 rw[ea];exact⟨.ref _,_,I.lnew (t':=s.toks) (r.append r2) (by rw[ql];omega),rfl,q _ I.fresh⟩
theorem len_rep{α:Type}(xs:List α)(k:Nat):(List.replicate k xs).flatten.length=k*xs.length:=by
 induction k with
 |zero=>simp
 |succ k ih=>rw[Ul,Yg,ql,ih,Nat.succ_mul,Nat.add_comm]
end
end L2
namespace Att
open PySem PySem.W PySem.Calls PyProof.Rows
theorem ints_of_wellAll{P:Params}{h:Heap}:∀(ns:List Int) (vs:List ζ),WellAll P h vs (ns.map WData.int)->IntsAre vs ns:=by
 intro ns
 induction ns with
 |nil=>
  intro vs w;rw[Yr]at w;cases w;exact .nil
 |cons n ns ih=>
  intro vs w;rw[yX]at w;cases w with
  |cons a b=>
   cases a;exact .cons _ _ (ih _ b)
theorem script_of{l:OpenLaw}{n:Nat}(hn:l.most=some n){P:Params}{h:Heap}{args:List WData}{vals:List ζ}(hpre:l.row.toRowW.claim.pre args=true)(hwl:WellAll P h vals args):
  ∃a vs ns,vals=[Value.ref a]/\args=[WData.list (ns.map WData.int)]/\h.get? a=some {cls:= .type "list",data:= .seq vs.toArray}/\IntsAre vs ns/\ns.length<=n:=by
 have hsh:WShape.hasAll [] args [.list .int]=true:=(pre_splitW hpre).1;have hc:l.pre.holds [] {args:=args}=true:=(pre_splitW hpre).2;obtain⟨d,r,rfl,h1,h2⟩:=hasAllW_cons hsh;obtain rfl:=hasAllW_nil h2;obtain⟨xs,rfl,h3⟩:=hasW_list h1;obtain⟨ns,rfl⟩:=items_int h3;have hlen:ns.length<=n:=by
  unfold OpenLaw.pre at hc;have h4:(WTm.not (.lt (.lit (.int (n:Int))) (.len (.arg 0)))).holds [] {args:=[.list (ns.map .int)]}=true:=by
   have h4:=(holds_andW hc).1;rw[hn]at h4;exact h4
  have h5:=condW_of h4 (w_not (w_lt w_lit (w_len_list (w_arg rfl))));rw[aJ]at h5;refine Nat.le_of_not_lt fun q=> ?_;have q':(n:Int)<((ns.length:Nat):Int):=by omega
  first
   |(rw[cL q']at h5;exact absurd h5 (by decide))
   |(simp at h5;omega)
 cases hwl with
 |cons w1 w2=>
  cases w2;cases w1 with
  |list ho hall=>exact⟨_,_,ns,rfl,rfl,ho,ints_of_wellAll ns _ hall,hlen⟩
theorem post_true(l:OpenLaw)(args:List WData):l.row.toRowW.claim.post args (.bool true) args=true:=
 postW_of (r:=l.row.toRowW) (X:=(true==true))
  (show WShape.has [] (.bool true) .bool=true by first |rfl|decide|simp[WShape.has,WShape.arms,WShape.armsAll])
  (show(WTm.eq .res (.lit (.bool true))).value [] {args:=args,res:=some (.bool true),after:=args}=some (.bool (true==true))from w_eq_bool (w_res rfl) w_lit) rfl
theorem attach_call{l:OpenLaw}{n:Nat}{q:ξ}{loose:List Str}{XP:(L5)->Heap->Prop}{YP:τ->Heap->Prop}{d:DefRec}(hn:l.most=some n)(hdf:d.params.defaults=[])(call:∀(w:τ) (s₀ s₁:η) (mg mb:L5) (fa:Addr) (o:Obj) (pm cd doc:ζ) (a:Addr) (vs:List ζ) (ns:List Int),
   Ground q loose [] XP w s₀ mg mb s₁.heap->YP w s₁.heap->
   s₁.heap.get? fa=some o->o.data= .func (docDef d.name d.params d.body d.scope pm cd doc)->s₁.heap.CodeRec cd d.name->mg d.name=some (.ref fa)->
   s₁.heap.get? a=some {cls:= .type "list",data:= .seq vs.toArray}->IntsAre vs ns->ns.length<=n->s₁.gens=#[]->
   codeAny (model l.prog w) callerA (.call (.ref fa) ⟨[.ref a],[]⟩) (fun r s'=>r= .ok (.ret (.bool true))/\OldK s₁.heap s'.heap/\s'.os=s₁.os/\AllBare s'.gens) s₁):
  WalkO q loose XP YP l.row.toRowW d [] (fun f vs=>PySem.call f vs):=by
 intro w s₀ s₁ mg mb G Y fa o pm cd doc dV kV ho hd hcd hD hmg hg args vals as hpre hlay hrd hwl hlo;obtain rfl:dV= .none:=Dflts.none hD hdf;obtain rfl:kV= .none:=Dflts.noKw hD;obtain⟨a,vs,ns,rfl,rfl,hobj,hints,hlen⟩:=script_of hn hpre hwl;refine enter_call (Yt (call w s₀ s₁ mg mb fa o pm cd doc a vs ns G Y ho (fd_plain hd) hcd hmg hobj hints hlen hg) fun r s' hq=> ?_);obtain⟨rfl,h2,h3,h4⟩:=hq;exact⟨.inl ⟨.bool true,.bool true,[],rfl,fun _=>rfl,.bool true,post_true l _,fun _=>⟨List.Pairwise.nil,fun _ hm=>(nomatch hm)⟩⟩,h2,h3,h4⟩
end Att
namespace L2
open PySem PySem.Spec PyProof.Rows
theorem vals_ints:∀{vs:List ζ} {ns:List Int},IntsAre vs ns->Vals (ns.map V.int) vs
 |_,_,.nil=> .nil
 |_,_,.cons n t h=> .cons ⟨t,rfl⟩ (vals_ints h)
noncomputable def Only(H:Hp):Prop:=∀b,H b=none\/∃o xs,H b=some (.frz o (.lst xs))
theorem law_call{P:ξ}{w:τ}{K:W.Frag}{mg mb:L5}{CX:CXT}{k:Nat}{fa a:Addr}{fd:ρ}{x:Str}{sp:Sp}{s₁:η}{vs:List ζ}{ns:List Int}
  (KX:K.In s₁.heap)(hns:s₁.heap.Ns mainGlobals mg)(hb:s₁.heap.Ns builtinsNs mb)(hbb:∀x:Str,x≠"__name__"->mb x=bootBuiltins x)(hlim:s₁.heap.NoLimit)(hg:s₁.gens=#[])(ha:s₁.heap.get? a=some {cls:= .type "list",data:= .seq vs.toArray})(hi:IntsAre vs ns)(hl:ns.length<=sizeLine)(hr:Room k callerA)
  (F:∀base:Heap,K.In base->base.Ns mainGlobals mg->FnOk P w K mg base CX k fa fd [x] sp)(hbind:∀(s:η) (u:ζ),BindsTo s fd ⟨[u],[]⟩ [(x,u)])(hsp:∀H:Hp,Only H->SqL K H a (ns.map V.int)->sp [.ref a] H (fun v _=>v= .bl true) fun _ _ _=>False)(hCX:∀H e s',CX [] H s₁ (fun _ _ _=>False) e s'->False):
  codeAny (model P w) callerA (.call (.ref fa) ⟨[.ref a],[]⟩) (fun r s'=>r= .ok (.ret (.bool true))/\OldK s₁.heap s'.heap/\s'.os=s₁.os/\AllBare s'.gens) s₁:=by
 have rv:=vals_ints hi;have lenV:=hi.length
 -- from an abstract heap in which nothing but the script may be tracked
 have core:∀H:Hp,Only H->SqL K H a (ns.map V.int)->HOk P w H s₁.heap->(∀b,H b≠none->b=a)->(H a≠none->K.lookup a=none)->
   codeAny (model P w) callerA (.call (.ref fa) ⟨[.ref a],[]⟩) (fun r s'=>r= .ok (.ret (.bool true))/\OldK s₁.heap s'.heap/\s'.os=s₁.os/\AllBare s'.gens) s₁:=by
  intro H hO hS hok hA hK;have base_of:∀{b:Addr} {o:Obj},s₁.heap.get? b=some o->H b=none->(hidT s₁.heap H).get? b=some o:=fun e n=>hidT_get e n;have noA:∀{b:Addr} {o:Obj} {es:Array DictEntry} {ep:Nat},s₁.heap.get? b=some o->o.data= .dict es ep->H b=none:=fun{b o es ep} e d=>by
   cases q:H b with
   |none=>rfl
   |some u=>
    have e':b=a:=hA b (by rw[q];simp);subst e';rw[ha]at e;cases e;have d':Data.seq vs.toArray _=Data.dict es ep:=d;cases d'
  have nsK:∀{b:Addr} {m:L5},s₁.heap.Ns b m->(hidT s₁.heap H).Ns b m:=fun{b m} ⟨o,es,ep,e,d,r⟩=>⟨o,es,ep,base_of e (noA e d),d,r⟩;have hKb:K.In (hidT s₁.heap H):=fun b o e=>base_of (KX b o e) (by
   cases q:H b with
   |none=>rfl
   |some u=>
    have e':b=a:=hA b (by rw[q];simp);subst e';rw[hK (by rw[q];simp)]at e;cases e)
  have hM:Mod K mg (hidT s₁.heap H):=⟨hKb,nsK hns,⟨mb,nsK hb,hbb⟩,let⟨mc,h1,h2⟩:=hlim;⟨mc,nsK h1,h2⟩⟩;have e0:Env0 P w K mg (hidT s₁.heap H) callerA [] s₁ H:=⟨rfl,hM,fun b o e=>of_hidT e,FQ (hidT_size _ _),trivial,fun b hb=>absurd (show b∈([]:List Addr)from hb) (by simp),hok,.of_eq hg⟩;refine Yt ((F _ hKb (nsK hns)).run callerA [] s₁ H ⟨[.ref a],[]⟩ [.ref a] [.ref a] _ _ hr e0 (hbind s₁ (.ref a)) (.cons rfl .nil) (hsp H hO hS)) fun r s' h=> ?_;cases r with
  |error e=>exact(hCX H e s' h).elim
  |ok fl=>
   cases fl with
   |next=>exact False.elim h
   |brk=>exact False.elim h
   |cont=>exact False.elim h
   |ret u=>
    obtain⟨v,H',os,bare,un,hok',r',q⟩:=h;have q':v= .bl true:=q;subst q';obtain rfl:u=Value.bool true:=r';refine⟨rfl,OldK.of_keep fun b o e=> ?_,os,bare⟩;cases q:H b with
    |none=>exact un.keep b o e q (by intro z;exact absurd (show b∈([]:List Addr)from z) (by simp)) (by simp)
    |some u=>
     rcases hO b with z|⟨ob,xs,z⟩
     ·rw[q]at z;cases z
     ·have z2:=un.frzs b ob _ z;obtain⟨e1,_⟩:=hok b _ z;obtain⟨e2,_⟩:=hok' b _ z2;rw[e]at e1;cases e1;exact e2
 cases hk:K.lookup a with
 |some o=>
  -- the script is one of the module's own objects
  have e:=KX a o hk;rw[ha]at e;cases e;refine core (fun _=>none) (fun _=> .inl rfl) (.inr ⟨_,vs.toArray,_,hk,rfl,rfl,rfl,by rw[iD,lenV];exact hl,by simpa using rv⟩) (fun b u z=>by have z':(none:Option HO)=some u:=z;cases z') (fun b z=>absurd rfl z) fun z=>absurd rfl z
 |none=>
  refine core (fun b=>if b=a then some (.frz {cls:= .type "list",data:= .seq vs.toArray} (.lst (ns.map V.int)))else none) (fun b=> ?_) (.inl (.inr ⟨{cls:= .type "list",data:= .seq vs.toArray},aF rfl⟩)) (fun b u z=> ?_) (fun b z=> ?_) fun _=>hk
  ·by_cases hb:b=a
   ·exact .inr ⟨_,_,aF hb⟩
   ·exact .inl (aA hb)
  ·by_cases hb:b=a
   ·have z':=(aF hb).symm.trans z;cases z';subst hb;exact⟨ha,by rw[aJ];exact hl,vs,_,rv,ha⟩
   ·have z':=(aA hb).symm.trans z;cases z'
  ·by_cases hb:b=a
   ·exact hb
   ·exact absurd (aA hb) z
theorem walk_of{l:PySem.W.OpenLaw}{n k:Nat}{q:ξ}{loose:List Str}{XP:(L5)->Heap->Prop}{YP:τ->Heap->Prop}{d:DefRec}{K:Params->PySem.W.Frag}{CX:τ->CXT}{sp:τ->Sp}{x:Str}(hn:l.most=some n)(hn2:n<=sizeLine)(hdf:d.params.defaults=[])(hr:Room k callerA)(hY:∀(w:τ) (h:Heap),YP w h->(K w.params).In h)
  (F:∀(w:τ) (mg:L5) (fa:Addr) (h:Heap),(K w.params).In h->h.Ns mainGlobals mg->mg d.name=some (.ref fa)->
   ∃fd:ρ,(∀(s:η) (u:ζ),BindsTo s fd ⟨[u],[]⟩ [(x,u)])/\
    ∀base:Heap,(K w.params).In base->base.Ns mainGlobals mg->FnOk l.prog w (K w.params) mg base (CX w) k fa fd [x] (sp w))(hsp:∀(w:τ) (H:Hp) (a:Addr) (ns:List Int),ns.length<=n->Only H->SqL (K w.params) H a (ns.map V.int)->sp w [.ref a] H (fun v _=>v= .bl true) fun _ _ _=>False)(hCX:∀(w:τ) (H:Hp) (s:η) (e:ζ) (s':η),CX w [] H s (fun _ _ _=>False) e s'->False):
  PySem.W.WalkO q loose XP YP l.row.toRowW d [] (fun f vs=>PySem.call f vs):=by
 refine Att.attach_call hn hdf fun w s₀ s₁ mg mb fa o pm cd doc a vs ns G Y ho hd hcd hmg hobj hints hlen hg=> ?_;have KX:=hY w _ Y;obtain⟨fd,hb,hF⟩:=F w mg fa _ KX G.T.g hmg;exact law_call KX G.T.g G.T.b G.T.builtins G.T.nolimit hg hobj hints (cT hlen hn2) hr hF hb (fun H hO hS=>hsp w H a ns hlen hO hS) fun H e s'=>hCX w H s₁ e s'
noncomputable def inClass(s:Stmt)(j:Nat):Stmt:=match s with
 | .ClassDef _ _ _ body _ _ _ _ _ _ _=>body.getD j (.Pass ⟨0,0,0,0⟩)
 |_=> .Pass ⟨0,0,0,0⟩
noncomputable def defArgs(s:Stmt):Arguments:=match s with
 | .FunctionDef _ a _ _ _ _ _ _ _ _=>a
 |_=>{posonlyargs:=[],args:=[],vararg:=none,kwonlyargs:=[],kw_defaults:=[],kwarg:=none,defaults:=[]}
noncomputable def defBody(s:Stmt):List Stmt:=match s with
 | .FunctionDef _ _ b _ _ _ _ _ _ _=>b
 |_=>[]
noncomputable def defScope(s:Stmt):Scope:=match s with
 | .FunctionDef _ _ _ _ _ _ sc _ _ _=>sc
 |_=>{kind:= .function,names:=[],isGenerator:=false,isCoroutine:=false}
noncomputable abbrev CX0:CXT:=fun _ _ _ _ _ _=>False
noncomputable abbrev E0:XK:=fun _ _ _=>False
theorem pass0{X:Cx}:Passes CX0 X E0:=fun _ _ _ _ _ _ _ h=>h.elim
structure Fun(K:W.Frag)(x qual:Str)(st:Stmt)(f:Addr)(fd:ρ):Prop where
 ex:∃(oc:ζ) (od:Option Addr) (kV doc pm:ζ) (an:Option Addr) (cdv ct:ζ) (osl:Array (Option ζ)),
  fd=PySem.W.fnOf x qual (defArgs st) (defBody st) (defScope st) .none kV doc pm an cdv ct/\K.lookup f=some ⟨oc,od,.func fd,osl⟩/\PySem.W.codeIn K cdv qual=true
 kp:PySem.W.keepIn K (.ref f)=true
section
variable{P:ξ}{w:τ}{K:W.Frag}{mg:L5}{base:Heap}
theorem Fun.ok{x qual:Str}{st:Stmt}{f:Addr}{fd:ρ}{N ps:List Str}{k:Nat}{sp:Sp}(F:Fun K x qual st f fd)(S:FnScope N ps (defScope st))(len:∀vs H Q E,sp vs H Q E->vs.length=ps.length)(hbody:∀(cdv:ζ) (A:Around) (outer:List Env) (s:η) (H:Hp) (vs:List V) (Q:VK) (E:XK),Room k (A.deeper (envOfC qual (defScope st) s.heap.objs.size f cdv))->sp vs H Q E->
   ∃t,PSs (cxOf CX0 P w K mg base N qual (defScope st) f cdv A outer s H E).nox (defBody st) t/\t {nx:=fun _ H'=>Q .non H',rt:=Q} (start N vs) H):FnOk P w K mg base CX0 (k+1) f fd ps sp:=by
 obtain⟨oc,od,kV,doc,pm,an,cdv,ct,osl,rfl,lk,hcd⟩:=F.ex;refine fn_of lk hcd S len fun A outer s H vs Q E hr hsp=> ?_;obtain⟨t,h,q⟩:=hbody cdv A outer s H vs Q E hr hsp;exact⟨t,h.nox,q⟩
theorem Fun.binds{x qual:Str}{st:Stmt}{f:Addr}{fd:ρ}{ps:List Str}(F:Fun K x qual st f fd)(h:∀(kV doc pm:ζ) (an:Option Addr) (cdv ct:ζ) (us:List ζ),us.length=ps.length->bindArgs (PySem.W.fnOf x qual (defArgs st) (defBody st) (defScope st) .none kV doc pm an cdv ct) ⟨us,[]⟩=pure (ps.zip us)):Binds K fd ps []:=by
 obtain⟨oc,od,kV,doc,pm,an,cdv,ct,osl,rfl,lk,hcd⟩:=F.ex;exact .all (h kV doc pm an cdv ct)
theorem fun_mk{x qual:Str}{st:Stmt}{f:Addr}{oc:ζ}{od an:Option Addr}{osl:Array (Option ζ)}{kV doc pm cdv ct:ζ}(l:K.lookup f=some ⟨oc,od,.func (PySem.W.fnOf x qual (defArgs st) (defBody st) (defScope st) .none kV doc pm an cdv ct),osl⟩)(c:PySem.W.codeIn K cdv qual=true)(k:PySem.W.keepIn K (.ref f)=true):Fun K x qual st f (PySem.W.fnOf x qual (defArgs st) (defBody st) (defScope st) .none kV doc pm an cdv ct):=⟨⟨oc,od,kV,doc,pm,an,cdv,ct,osl,rfl,l,c⟩,k⟩
end
theorem small1000{n:Nat}(h:n<=1000):n<sizeLine:=Ir h (by decide)
section
variable{X:Cx}
theorem pv(i:Nat){x:Str}{pos:Pos}(hN:X.N[i]? =some x:=by rfl)(hv:Vis X.env.scope x:=by first |exact Or.inl rfl|exact Or.inr (Or.inl rfl)|exact Or.inr (Or.inr rfl))(hd:(x==("__debug__":Str))=false:=by decide)(hcd:(x==("__classdict__":Str))=false:=by decide):PE X (.Name x pos) (tVar i):=pe_var hN hv hd hcd
end
theorem iteF{A B:Prop}(h:B):if false=true then A else B:=by
 rw[aA vG];exact h
theorem iteT{A B:Prop}(h:A):if true=true then A else B:=by
 rw[aF rfl];exact h
theorem ite2{c A B:Prop} [Decidable c](h1:c->A)(h2:¬c->B):if c then A else B:=by
 by_cases h:c
 ·rw[aF h];exact h1 h
 ·rw[aA h];exact h2 h
noncomputable def Same(H H':Hp):Prop:=∀b o,H b=some o->H' b=some o
theorem Same.refl(H:Hp):Same H H:=fun _ _ h=>h
theorem Same.trans{H H1 H2:Hp}(a:Same H H1)(b:Same H1 H2):Same H H2:=fun c o h=>b c o (a c o h)
theorem Same.free{H H':Hp}(e:Same H H'){l:Addr}(h:H' l=Option.none):H l=Option.none:=by
 cases q:H l with
 |none=>rfl
 |some o=>
  rw[e l o q]at h;cases h
theorem Same.seq{K:W.Frag}{H H':Hp}{a:Addr}{xs:List V}(e:Same H H')(h:SqL K H a xs):SqL K H' a xs:=by
 rcases h with(h|⟨o,h⟩)|h
 ·exact .inl (.inl (e _ _ h))
 ·exact .inl (.inr ⟨o,e _ _ h⟩)
 ·exact .inr h
end L2
set_option maxHeartbeats 4000000
namespace L2
open PySem PySem.Spec PyProof.Rows
noncomputable def m5(cells:List (Str×Addr)):List (Str×NameKind)->List (Str×Addr)->List (Str×Addr)
 |[],acc=>acc
 |p::r,acc=>m5 cells r (if(p.2==NameKind.free)=true then(p.1,(cells.lookup p.1).getD 0)::acc else acc)
theorem pY{cells:List (Str×Addr)}:∀{names:List (Str×NameKind)} {acc:List (Str×Addr)} {x:Str} {c:Addr},(x,c)∈m5 cells names acc->(x,c)∈acc\/c=(cells.lookup x).getD 0/\(x,NameKind.free)∈names
 |[],_,_,_,h=> .inl h
 |(n,k)::r,acc,x,c,h=>by
  rcases pY (names:=r) h with q|⟨q,m⟩
  ·dsimp only at q;split at q
   ·rename_i hk;rcases cY.mp q with e|e
    ·cases e;have:k=NameKind.free:=by simpa using hk
     subst this;exact .inr ⟨rfl,iW⟩
    ·exact .inl e
   ·exact .inl q
  ·exact .inr ⟨q,iG _ m⟩
theorem Bk{cells:List (Str×Addr)}:∀{names:List (Str×NameKind)} {acc:List (Str×Addr)} {p:Str×Addr},p∈acc->p∈m5 cells names acc
 |[],_,_,h=>h
 |(n,k)::r,acc,p,h=>by
  refine Bk (names:=r) ?_;split
  ·exact iG _ h
  ·exact h
theorem Bj{cells:List (Str×Addr)}:∀{names:List (Str×NameKind)} {acc:List (Str×Addr)} {x:Str},(x,NameKind.free)∈names->∃c,(x,c)∈m5 cells names acc
 |(n,k)::r,acc,x,h=>by
  rcases cY.mp h with e|e
  ·cases e;refine⟨(cells.lookup n).getD 0,Bk (names:=r) ?_⟩;rw[aF (show(NameKind.free==NameKind.free)=true from rfl)];exact iW
  ·exact Bj (names:=r) e
theorem zbw{β:Type}:∀{l:List (Str×β)} {x:Str} {c:β},(x,c)∈l->∃d,l.lookup x=some d/\(x,d)∈l
 |(n,k)::r,x,c,h=>by
  cases hx:x==n with
  |true=>
   have e:x=n:=by simpa using hx
   subst e;exact⟨k,by simp[JT],iW⟩
  |false=>
   rcases cY.mp h with e|e
   ·cases e;simp at hx
   ·obtain⟨d,h1,h2⟩:=zbw e;exact⟨d,by simp only[JT,hx];exact h1,iG _ h2⟩
theorem uT{scope:Scope}{env:Env}(h:∀x,(x,NameKind.free)∈scope.names->∃c,env.cells.lookup x=some c):closureFor scope env=pure (m5 env.cells scope.names []):=by
 have key:∀(names:List (Str×NameKind)) (acc:List (Str×Addr)),(∀x,(x,NameKind.free)∈names->∃c,env.cells.lookup x=some c)->
   (forIn names acc fun(x:Str×NameKind) (cs:List (Str×Addr))=>if(x.2==NameKind.free)=true then(do let y<-cellOf env x.1;pure (ForInStep.yield ((x.1,y)::cs)))else pure (ForInStep.yield cs):Sem (List (Str×Addr)))=pure (m5 env.cells names acc):=by
  intro names
  induction names with
  |nil=>intro acc _;rfl
  |cons p r ih=>
   intro acc hh;obtain⟨n,k⟩:=p;rw[List.forIn_cons];dsimp only;by_cases hk:(k==NameKind.free)=true
   ·have e:k=NameKind.free:=by simpa using hk
    subst e;obtain⟨c,hc⟩:=hh n iW;rw[aF hk];unfold cellOf;rw[hc];simp only[pure_bind];refine Eq.trans (ih _ fun x hx=>hh x (iG _ hx)) ?_;show _=pure (m5 env.cells r (if(NameKind.free==NameKind.free)=true then(n,(env.cells.lookup n).getD 0)::acc else acc));rw[aF hk,hc];rfl
   ·rw[aA hk];simp only[pure_bind];refine Eq.trans (ih _ fun x hx=>hh x (iG _ hx)) ?_;show _=pure (m5 env.cells r (if(k==NameKind.free)=true then(n,(env.cells.lookup n).getD 0)::acc else acc));rw[aA hk]
 have q:=key scope.names [] h;unfold closureFor;simp only[bind_pure];exact q
theorem ou{env:Env}:∀{names:List (Str×NameKind)} {x:Str} {k:NameKind},names.lookup x=some k->
  (names.map fun(n,k)=>if(k==NameKind.free&&env.scope.kind== .function&&env.kindOf n==some .cell)then(n,NameKind.cell)else(n,k)).lookup x=some (if(k==NameKind.free&&env.scope.kind== .function&&env.kindOf x==some .cell)=true then .cell else k)
 |[],_,_,h=>by simp at h
 |(n,k)::r,x,k',h=>by
  have ih:= @ou env r x k';show List.lookup x ((if(k==NameKind.free&&env.scope.kind== .function&&env.kindOf n==some .cell)=true then(n,NameKind.cell)else(n,k))::_)=_;cases hx:x==n with
  |true=>
   have e:x=n:=by simpa using hx
   subst e;simp only[JT,hx]at h;cases h;by_cases hc:(k==NameKind.free&&env.scope.kind== .function&&env.kindOf x==some .cell)=true
   ·rw[aF hc,aF hc];simp[JT]
   ·rw[aA hc,aA hc];simp[JT]
  |false=>
   simp only[JT,hx]at h;by_cases hc:(k==NameKind.free&&env.scope.kind== .function&&env.kindOf n==some .cell)=true
   ·rw[aF hc];simp only[JT,hx];exact ih h
   ·rw[aA hc];simp only[JT,hx];exact ih h
theorem uf{env:Env}:∀{names:List (Str×NameKind)} {x:Str},names.lookup x=none->
  (names.map fun(n,k)=>if(k==NameKind.free&&env.scope.kind== .function&&env.kindOf n==some .cell)then(n,NameKind.cell)else(n,k)).lookup x=none
 |[],_,_=>rfl
 |(n,k)::r,x,h=>by
  have ih:= @uf env r x;show List.lookup x ((if(k==NameKind.free&&env.scope.kind== .function&&env.kindOf n==some .cell)=true then(n,NameKind.cell)else(n,k))::_)=_;cases hx:x==n with
  |true=>simp only[JT,hx]at h;cases h
  |false=>
   simp only[JT,hx]at h;by_cases hc:(k==NameKind.free&&env.scope.kind== .function&&env.kindOf n==some .cell)=true
   ·rw[aF hc];simp only[JT,hx];exact ih h
   ·rw[aA hc];simp only[JT,hx];exact ih h
theorem Dl{scope:Scope}{env:Env}{x:Str}(h:scope.names.lookup x=some .free):(relabel scope env).names.lookup x=some .cell\/(relabel scope env).names.lookup x=some .free:=by
 have q:=ou (env:=env) h;by_cases hc:((NameKind.free==NameKind.free)&&env.scope.kind== .function&&env.kindOf x==some .cell)=true
 ·rw[aF hc]at q;exact .inl q
 ·rw[aA hc]at q;exact .inr q
inductive jX(X:Cx)(scope:Scope):List Str->List Nat->Prop
 |nil:jX X scope [] []
 |cons {x:Str} {j:Nat} {xs:List Str} {js:List Nat} (hN:X.N[j]? =some x) (hf:scope.names.lookup x=some .free) (t:jX X scope xs js):jX X scope (x::xs) (j::js)
theorem jX.get{X:Cx}{scope:Scope}:∀{xs:List Str} {js:List Nat} {k:Nat} {x:Str},jX X scope xs js->xs[k]? =some x->∃j,js[k]? =some j/\X.N[j]? =some x/\scope.names.lookup x=some .free
 |_,_,k,x,.nil,h=>by simp at h
 |_,_,0,x,.cons h1 h2 _,h=>by simp at h;subst h;exact⟨_,rfl,h1,h2⟩
 |_,_,k+1,x,.cons _ _ t,h=>by
  obtain⟨j,a,b⟩:=jX.get (k:=k) t (by simpa using h);exact⟨j,by simpa using a,b⟩
theorem jX.len{X:Cx}{scope:Scope}:∀{xs:List Str} {js:List Nat},jX X scope xs js->xs.length=js.length
 |_,_,.nil=>rfl
 |_,_,.cons _ _ t=>by simp[jX.len t]
noncomputable def Ao(own:List Str)(ix:List Nat)(σ:St):St:=own.map (fun _=>none)++ix.map fun j=>(σ[j]?).join
noncomputable def T6(X:Cx)(ifs:List Expr)(t:TT):Prop:=
 ∀(pins:L3) (s:η) (σ:St) (H:Hp) (Q:Bool->Hp->Prop),Inv X pins σ H s->t σ H Q->
  wpAny (model X.prog X.w) X.A (forIn ifs true fun c r=>if r=true then do let ok<-isTrue c X.env (eval c X.env);pure (ForInStep.yield ok)else pure (ForInStep.yield r)) (TP X pins σ Q) X.xe s
theorem nP{X:Cx}:T6 X [] (fun _ H Q=>Q true H):=fun _ _ _ H _ I h=>wpAny_tests_nil ⟨H,I,h⟩
theorem BX{X:Cx}{c:Expr}{t:TT}(h:PT X c t):T6 X [c] t:=fun pins s σ H Q I hq=>wpAny_tests_one (h pins s σ H Q I hq)
theorem HOk.add{P:ξ}{w:τ}{H:Hp}{h:Heap}{a:Addr}{o:HO}(x:HOk P w H h)(hn:H a=none)(new:ObjOk P w (upd H a o) h a o):HOk P w (upd H a o) h:=fun b u e=>by
 by_cases hb:b=a
 ·subst hb;rw[aB]at e;cases e;exact new
 ·rw[cW hb]at e;exact(x b u e).stay (fun c v _ q=>q) (fun c q=>by rw[cW (sH q hn)];exact q) fun c xs q=>by rw[cW (sH q hn)];exact q
theorem Un.add{fs ex:List Addr}{H H':Hp}{h h':Heap}{a:Addr}{o:HO}(u:Un fs ex H H' h h')(ha:h.objs.size<=a)(hn:H' a=none):Un fs ex H (upd H' a o) h h' where
 keep:=u.keep
 slot:=u.slot
 free:=fun b ob q n hx=>by rw[cW (iZ (mJ (fV q) ha))];exact u.free b ob q n hx
 there:=u.there
 tups:=fun b xs q=>by have:=u.tups b xs q;rw[cW (sH this hn)];exact this
 frzs:=fun b ob xs q=>by have:=u.frzs b ob xs q;rw[cW (sH this hn)];exact this
 tbls:=fun b ps q=>by obtain⟨m,e⟩:=u.tbls b ps q;exact⟨m,by rw[cW (sH e hn)];exact e⟩
noncomputable def BR(J:It)(ini:St)(H:Hp)(g:TG)(tc:TT)(te:TE)(Fin:List V->Hp->Prop):Prop:=
 ∃W:Nat->Nat->List V->St->Hp->Prop,(∃m,W 0 m [] ini H)/\∀i m acc σ H,W i m acc σ H->
  (J.stop i H/\acc.length<=sizeLine/\Fin acc H)\/(J.go i H/\acc.length<sizeLine/\∃N:List V->St->Hp->Prop,(∀acc' σ' H',N acc' σ' H'->∃m',m'<m/\W (i+1) m' acc' σ' H')/\∀x H',J.yld i H x H'->g x σ H' fun σ2 H2=>tc σ2 H2 fun b H3=>
   if b=true then te σ2 H3 fun v H4=>N (acc++[v]) σ2 H4 else N acc σ2 H3)
noncomputable def Gf(wi:TI)(own:List Str)(ix:List Nat)(g:TG)(tc:TT)(te:TE):TE:=fun σ H Q=>wi σ H fun J H1=>
 BR J (Ao own ix σ) H1 g tc te fun acc H'=>∀p,H' p=none->Q (.ref p) (upd H' p (.lst acc))
section
variable{K:W.Frag}{a:Addr}{xs:List V}{g:TG}{tc:TT}{te:TE}{Fin:List V->Hp->Prop}{ini:St}{H:Hp}
theorem wU(Pv:Nat->List V->St->Hp->Prop)(h0:Pv 0 [] ini H)(hl:∀(i:Nat) acc σ H,i<=xs.length->Pv i acc σ H->SqL K H a xs)(hz:∀(i:Nat) acc σ H,i<=xs.length->Pv i acc σ H->acc.length<=i)(hx:xs.length<=sizeLine)(hs:∀(i:Nat) x acc σ H,xs[i]? =some x->Pv i acc σ H->g x σ H fun σ2 H2=>tc σ2 H2 fun b H3=>if b=true then te σ2 H3 fun v H4=>Pv (i+1) (acc++[v]) σ2 H4 else Pv (i+1) acc σ2 H3)(hd:∀acc σ H,Pv xs.length acc σ H->Fin acc H):BR (Itl K a) ini H g tc te Fin:=by
 refine⟨fun i m acc σ H=>m=xs.length-i/\i<=xs.length/\Pv i acc σ H,⟨xs.length,by simp,dX _,h0⟩,?_⟩;rintro i m acc σ H ⟨rfl,hi,p⟩;have q:=hl i acc σ H hi p;have z:=hz i acc σ H hi p;by_cases hlt:i<xs.length
 ·refine .inr ⟨⟨xs,xs[i],q,by simp[hlt]⟩,by omega,fun acc σ H=>Pv (i+1) acc σ H,fun acc' σ' H' r=>⟨_,by omega,rfl,hlt,r⟩,fun x H' y=> ?_⟩;obtain⟨e,y⟩:=y;subst e;exact hs i x acc σ _ (y xs q) p
 ·have e:i=xs.length:=by omega
  subst e;exact .inl ⟨⟨xs,q,aX _⟩,by omega,hd acc σ H p⟩
theorem BZ(Pv:Nat->List V->St->Hp->Prop)(h0:Pv 0 [] ini H)(hl:∀(i:Nat) acc σ H,i<=xs.length->Pv i acc σ H->SqT K H a xs)(hz:∀(i:Nat) acc σ H,i<=xs.length->Pv i acc σ H->acc.length<=i)(hx:xs.length<=sizeLine)(hs:∀(i:Nat) x acc σ H,xs[i]? =some x->Pv i acc σ H->g x σ H fun σ2 H2=>tc σ2 H2 fun b H3=>if b=true then te σ2 H3 fun v H4=>Pv (i+1) (acc++[v]) σ2 H4 else Pv (i+1) acc σ2 H3)(hd:∀acc σ H,Pv xs.length acc σ H->Fin acc H):BR (Itt K a) ini H g tc te Fin:=by
 refine⟨fun i m acc σ H=>m=xs.length-i/\i<=xs.length/\Pv i acc σ H,⟨xs.length,by simp,dX _,h0⟩,?_⟩;rintro i m acc σ H ⟨rfl,hi,p⟩;have q:=hl i acc σ H hi p;have z:=hz i acc σ H hi p;by_cases hlt:i<xs.length
 ·refine .inr ⟨⟨xs,xs[i],q,by simp[hlt]⟩,by omega,fun acc σ H=>Pv (i+1) acc σ H,fun acc' σ' H' r=>⟨_,by omega,rfl,hlt,r⟩,fun x H' y=> ?_⟩;obtain⟨e,y⟩:=y;subst e;exact hs i x acc σ _ (y xs q) p
 ·have e:i=xs.length:=by omega
  subst e;exact .inl ⟨⟨xs,q,aX _⟩,by omega,hd acc σ H p⟩
theorem R6{lo:Int}{n:Nat}(Pv:Nat->List V->St->Hp->Prop)(h0:Pv 0 [] ini H)(hz:∀(i:Nat) acc σ H,i<=n->Pv i acc σ H->acc.length<=i)(hx:n<=sizeLine)(hs:∀(i:Nat) acc σ H,i<n->Pv i acc σ H->g (.int (lo+i)) σ H fun σ2 H2=>tc σ2 H2 fun b H3=>if b=true then te σ2 H3 fun v H4=>Pv (i+1) (acc++[v]) σ2 H4 else Pv (i+1) acc σ2 H3)(hd:∀acc σ H,Pv n acc σ H->Fin acc H):BR (Itr lo n) ini H g tc te Fin:=by
 refine⟨fun i m acc σ H=>m=n-i/\i<=n/\Pv i acc σ H,⟨n,by simp,dX _,h0⟩,?_⟩;rintro i m acc σ H ⟨rfl,hi,p⟩;have z:=hz i acc σ H hi p;by_cases hlt:i<n
 ·refine .inr ⟨hlt,by omega,fun acc σ H=>Pv (i+1) acc σ H,fun acc' σ' H' r=>⟨_,by omega,rfl,hlt,r⟩,fun x H' y=> ?_⟩;obtain⟨e,y⟩:=y;subst e y;exact hs i acc σ _ hlt p
 ·have e:i=n:=by omega
  subst e;exact .inl ⟨aX _,by omega,hd acc σ H p⟩
end
end L2
namespace uW
open PySem PySem.W PyProof.Rows
section
variable{O:KeyOrd}{key:Nat->O.α}{N:Nat}{cmp:Nat->Nat->(Bool->η->Prop)->η->Prop}{s:η}
noncomputable def mF(O:KeyOrd)(key:Nat->O.α)(N:Nat)(cmp:Nat->Nat->(Bool->η->Prop)->η->Prop)(s:η):Prop:=
 ∀i j (C:Bool->η->Prop),i<N->j<N->C (O.blt (key i) (key j)) s->cmp i j C s
noncomputable def KN(key:Nat->O.α)(p:Array Nat)(i:Nat):O.α:=key (p.getD i 0)
noncomputable def So(key:Nat->O.α)(p:Array Nat)(k:Nat):Prop:=∀i j,i<=j->j<k->O.kle (KN key p i) (KN key p j)
noncomputable def Ni(key:Nat->O.α)(p:Array Nat)(k:Nat):Prop:=∀i j,i<=j->j<k->O.kle (KN key p j) (KN key p i)
structure Ord(N:Nat)(p:Array Nat):Prop where
 perm:p.Perm (List.toArray (List.range N))
theorem Ord.size{p:Array Nat}(h:Ord N p):p.size=N:=by have:=h.perm.size_eq;simpa using this
theorem Ord.lt{p:Array Nat}(h:Ord N p){i:Nat}(hi:i<N):p.getD i 0<N:=by
 have hi':i<p.size:=by rw[h.size];exact hi
 have e:p.getD i 0=p[i]:=by simp[Array.getD,hi']
 rw[e];have m:p[i]∈p.toList:=by simp
 have:=(yec.mp h.perm).mem_iff.mp m;simpa using this
theorem Ord.rev{p:Array Nat}(h:Ord N p)(i j:Nat):Ord N (kas_rev p i j):=⟨(mirror_perm _ _ _ _).trans h.perm⟩
theorem Ord.bub{p:Array Nat}(h:Ord N p)(i j:Nat):Ord N (bubble p i j):=⟨(bubble_perm _ _ _).trans h.perm⟩
theorem uM(p:Array Nat)(i:Nat):p.getD i 0=(p[i]?).getD 0:=by simp
theorem Fq{p:Array Nat}{i j:Nat}(hj:j<=p.size)(k:Nat):KN key (kas_rev p i j) k=if i<=k/\k<j then KN key p (i+j-1-k)else KN key p k:=by
 have e:=getElem?_mirror_all (i:=i) hj k;unfold KN kas_rev;rw[uM,e];split
 ·rw[uM]
 ·rw[uM]
theorem X3{p:Array Nat}{i j:Nat}(hj:j<=p.size)(heq:∀k,i<=k->k<j->KN key p k=KN key p (j-1))(k:Nat):KN key (kas_rev p i j) k=KN key p k:=by
 rw[Fq hj];split
 ·rename_i h;rw[heq k h.1 h.2,heq _ (by omega) (by omega)]
 ·rfl
theorem O9{p:Array Nat}{src d:Nat}(hs:src<p.size)(hd:d<=src)(k:Nat):KN key (bubble p src d) k=if k=src-d then KN key p src else if src-d<k/\k<=src then KN key p (k-1)else KN key p k:=by
 have e:=getElem?_bubble hs d hd k;have q:KN key (bubble p src d) k=key (((bubble p src d)[k]?).getD 0):=lq key (uM _ _);have q2:∀i,KN key p i=key ((p[i]?).getD 0):=fun i=>lq key (uM _ _);rw[q,e,q2,q2,q2];by_cases h1:k=src-d
 ·rw[aF h1,aF h1]
 ·rw[aA h1,aA h1];by_cases h2:src-d<k/\k<=src
  ·rw[aF h2,aF h2]
  ·rw[aA h2,aA h2]
theorem Hl{i j:Nat}(h:i<=j)(hn:¬i=j):i<=j-1:=yee (Ss h hn)
theorem Ek{j n:Nat}(h:j<n+1)(hn:¬j<n):j=n:=Ui (Sq h) (Nat.not_lt.mp hn)
theorem lJ{x k:Nat}(h:1<=x)(hk:x<=k):x-1<k:=Yj h hk
theorem DK{x f N:Nat}(h:x+(f+1)<=N):x<N:=mJ (Nat.lt_add_of_pos_right (yW f)) h
theorem w5{x f N:Nat}(h:x+(f+1)<=N):x+1+f<=N:=cT (FQ (ydo x f)) h
theorem S9{x f m:Nat}(h:m<=x+1+f):m<=x+(f+1):=cT h (FQ (ydo x f))
theorem Va{i j n:Nat}(h:i<=j):0+n-1-j<=0+n-1-i:=Nat.sub_le_sub_left h _
theorem U9{i n:Nat}(h:i<n):0+n-1-i<n:=by
 rw[Nat.zero_add];exact Ir (wff _ _) (Yj (Ir (dX _) h) (aX _))
theorem asc(ok:mF O key N cmp s){p:Array Nat}(hp:Ord N p){Q:Nat->η->Prop}:∀(f n:Nat),1<=n->n+f<=N->So key p n->(∀m,n<=m->m<=n+f->So key p m->(m=n+f\/O.klt (KN key p m) (KN key p (m-1)))->Q m s)->(kas_asc p f n).kasWp cmp Q s
 |0,n,_,_,hs,h=>h n (aX _) (aX _) hs (.inl rfl)
 |f+1,n,h1,hn,hs,h=>by
  have Wb:n<N:=DK hn;refine ok _ _ _ (hp.lt Wb) (hp.lt (lJ h1 (dH Wb))) ?_;cases hless:O.blt (key (p.getD n 0)) (key (p.getD (n-1) 0))with
  |true=>
   show Q n s;exact h n (aX _) (weh _ _) hs (.inr hless)
  |false=>
   show(kas_asc p f (n+1)).kasWp cmp Q s;refine asc ok hp f (n+1) (yW _) (w5 hn) (fun i j hij hj=> ?_) fun m a b c d=>h m (wdt a) (S9 b) c (d.imp (fun z=>z.trans (ydo n f)) id);by_cases hjn:j<n
   ·exact hs i j hij hjn
   ·have hj':j=n:=Ek hj hjn;subst hj';by_cases hi':i=j
    ·subst hi';exact Qd _
    ·exact wch (hs i (j-1) (Hl hij hi') (lJ h1 (aX _))) hless
theorem tail3(ok:mF O key N cmp s){p:Array Nat}(hp:Ord N p){n:Nat}{Q:Nat×Array Nat->η->Prop}(h1:1<=n)(hn:n<=N)(hs:Ni key p n)(h:∀m p',Ord N p'->1<=m->m<=N->So key p' m->Q (m,p') s):(kas_tail3 n N p).kasWp cmp Q s:=by
 unfold kas_tail3;rw[Yy];have hsz:n<=p.size:=by rw[hp.size];exact hn
 have hN:n+(N-n)=N:=wcy hn;refine asc ok (hp.rev 0 n) (N-n) n h1 (FQ hN) (fun i j hij hj=> ?_) fun m a b c _=>h m _ (hp.rev 0 n) (cT h1 a) (cT b (FQ hN)) c;rw[Fq hsz,Fq hsz,aF ⟨dX _,Ir hij hj⟩,aF ⟨dX _,hj⟩];exact hs _ _ (Va hij) (U9 (Ir hij hj))
theorem Ot{p p':Array Nat}{x:Nat}(h1:1<=x)(hs:Ni key p x)(hless:O.kle (KN key p x) (KN key p (x-1)))(hk:∀k,KN key p' k=KN key p k):Ni key p' (x+1):=by
 intro i j hij hj;rw[hk,hk];by_cases hjx:j<x
 ·exact hs i j hij hjx
 ·have hj':j=x:=Ek hj hjx;subst hj';by_cases hi':i=j
  ·subst hi';exact Qd _
  ·exact wch hless (hs i (j-1) (Hl hij hi') (lJ h1 (aX _)))
theorem one_eq{p:Array Nat}{x i:Nat}(h1:x+1-(0+1)<=i)(h2:i<x+1):KN key p i=KN key p (x+1-1):=lq _ (Ui (Sq h2) h1)
theorem desc(ok:mF O key N cmp s){Q:Array Nat×Nat×Nat->η->Prop}:∀(f:Nat) (p:Array Nat) (x neq:Nat),Ord N p->1<=x->x+f<=N->Ni key p x->neq+1<=x->(∀i,x-(neq+1)<=i->i<x->KN key p i=KN key p (x-1))->
  (∀p' m q,Ord N p'->x<=m->m<=x+f->Ni key p' m->q+1<=m->(∀i,m-(q+1)<=i->i<m->KN key p' i=KN key p' (m-1))->Q (p',m,q) s)->(kas_desc f p x neq).kasWp cmp Q s
 |0,p,x,neq,hp,_,_,hs,hq,he,h=>h p x neq hp (aX _) (aX _) hs hq he
 |f+1,p,x,neq,hp,h1,hn,hs,hq,he,h=>by
  have hxN:x<N:=DK hn;have hsz:x<=p.size:=by rw[hp.size];exact dH hxN
  have hx1:x-1<N:=lJ h1 (dH hxN);have hh:∀p' m q,Ord N p'->x+1<=m->m<=x+1+f->Ni key p' m->q+1<=m->(∀i,m-(q+1)<=i->i<m->KN key p' i=KN key p' (m-1))->Q (p',m,q) s:=fun p' m q a b c d e g=>h p' m q a (wdt b) (S9 c) d e g;refine ok _ _ _ (hp.lt hxN) (hp.lt hx1) ?_;cases hless:O.blt (key (p.getD x 0)) (key (p.getD (x-1) 0))with
  |true=>
   show(if neq>0 then kas_desc f (kas_rev p (x-(neq+1)) x) (x+1) 0 else kas_desc f p (x+1) 0).kasWp cmp Q s;by_cases hneq:neq>0
   ·rw[aF hneq];exact desc ok f _ (x+1) 0 (hp.rev _ _) (yW _) (w5 hn) (Ot h1 hs (Yz hless) (X3 hsz he)) (yW _) (fun i h1 h2=>one_eq h1 h2) hh
   ·rw[aA hneq];exact desc ok f _ (x+1) 0 hp (yW _) (w5 hn) (Ot h1 hs (Yz hless) fun _=>rfl) (yW _) (fun i h1 h2=>one_eq h1 h2) hh
  |false=>
   show(KasT.ask (p.getD (x-1) 0) (p.getD x 0) fun d=>if d=true then KasT.ret (p,x,neq)else kas_desc f p (x+1) (neq+1)).kasWp cmp Q s;refine ok _ _ _ (hp.lt hx1) (hp.lt hxN) ?_;cases hl:O.blt (key (p.getD (x-1) 0)) (key (p.getD x 0))with
   |true=>exact h p x neq hp (aX _) (weh _ _) hs hq he
   |false=>
    show(kas_desc f p (x+1) (neq+1)).kasWp cmp Q s;have heqx:KN key p x=KN key p (x-1):=KeyOrd.kle_antisymm hl hless;refine desc ok f _ (x+1) (neq+1) hp (yW _) (w5 hn) (Ot h1 hs (by rw[heqx];exact Qd _) fun _=>rfl) (Nat.succ_le_succ hq) (fun i h1 h2=> ?_) hh;show KN key p i=KN key p x;by_cases hix:i=x
    ·subst hix;rfl
    ·rw[heqx];exact he i (cT (FQ (Nat.succ_sub_succ x (neq+1)).symm) h1) (Ss (Sq h2) hix)
theorem descPart(ok:mF O key N cmp s){p:Array Nat}(hp:Ord N p){n:Nat}{Q:Nat×Array Nat->η->Prop}(hn:n+1<=N)(hs:Ni key p (n+1))(h:∀m p',Ord N p'->1<=m->m<=N->So key p' m->Q (m,p') s):(kas_descPart n N p).kasWp cmp Q s:=by
 unfold kas_descPart;rw[Yy];have hN:n+1+(N-(n+1))<=N:=FQ (wcy hn);refine desc ok _ _ _ _ hp (yW _) hN hs (yW _) (fun i h1 h2=>one_eq h1 h2) fun p' m q a b c d e g=> ?_;have hm:m<=N:=cT c hN;have hm1:1<=m:=cT (yW _) b;have hsz:m<=p'.size:=by rw[a.size];exact hm
 dsimp only;by_cases hq:q>0
 ·rw[aF hq];refine tail3 ok (a.rev _ _) hm1 hm (fun i j hij hj=> ?_) h;rw[X3 hsz g,X3 hsz g];exact d i j hij hj
 ·rw[aA hq];exact tail3 ok a hm1 hm d h
theorem count(ok:mF O key N cmp s){p:Array Nat}(hp:Ord N p){Q:Nat×Array Nat->η->Prop}(h1:1<=N)(h:∀m p',Ord N p'->1<=m->m<=N->So key p' m->Q (m,p') s):(kas_count N p).kasWp cmp Q s:=by
 unfold kas_count;rw[Yy];have hN:1+(N-1)=N:=wcy h1;refine asc ok hp (N-1) 1 (aX _) (FQ hN) (fun i j hij hj=>by
  have hj0:j=0:=Nat.lt_one_iff.mp hj;subst hj0;have hi0:i=0:=Nat.le_zero.mp hij;subst hi0;exact Qd _) fun n a b hsn hor=> ?_
 have Wb:n<=N:=cT b (FQ hN);by_cases hnn:n=N
 ·rw[aF (by simpa using hnn)];exact h n p hp a Wb hsn
 ·rw[aA (by simpa using hnn)];have hlt:O.klt (KN key p n) (KN key p (n-1)):=hor.resolve_left fun z=>hnn (z.trans hN);have hln:n<N:=Ss Wb hnn;by_cases hgt:n>1
  ·rw[aF hgt];have hn1:n-1<n:=lJ a (aX _);refine ok _ _ _ (hp.lt h1) (hp.lt (R9 hn1 hln)) ?_;cases hrose:O.blt (key (p.getD 0 0)) (key (p.getD (n-1) 0))with
   |true=>exact h n p hp a Wb hsn
   |false=>
    show(kas_descPart n N (kas_rev p 0 n)).kasWp cmp Q s;have hsz:n<=p.size:=by rw[hp.size];exact Wb
    have hall:∀k,0<=k->k<n->KN key p k=KN key p (n-1):=fun k _ hk=>
     KeyOrd.kle_antisymm (hsn k (n-1) (yee hk) hn1) (wch hrose (hsn 0 k (dX _) hk))
    refine descPart ok (hp.rev 0 n) hln (fun i j hij hj=> ?_) h;rw[X3 hsz hall,X3 hsz hall];by_cases hjn:j<n
    ·rw[hall i (dX _) (Ir hij hjn),hall j (dX _) hjn];exact Qd _
    ·have hj':j=n:=Ek hj hjn;subst hj';by_cases hi':i=j
     ·subst hi';exact Qd _
     ·rw[hall i (dX _) (Ss hij hi')];exact Yz hlt
  ·rw[aA hgt];have hn1':n=1:=Ui (Nat.not_lt.mp hgt) a;subst hn1';refine descPart ok hp hln (fun i j hij hj=> ?_) h;by_cases hi':i=j
   ·subst hi';exact Qd _
   ·have hij':i<j:=Ss hij hi';have hj1:j=1:=Ui (Sq hj) (Ir (dX i) hij');subst hj1;have hi0:i=0:=Nat.lt_one_iff.mp hij';subst hi0;exact Yz hlt
theorem half_lt{l r:Nat}(h:l<r):(l+r)/2<r:=by omega
theorem Rp{l r:Nat}(h:l<r):l<=(l+r)/2:=by omega
theorem place(ok:mF O key N cmp s){p:Array Nat}(hp:Ord N p){k:Nat}{Q:Nat->η->Prop}(hk:k<N)(hs:So key p k):∀(f l r:Nat),l<=r->r<=k->r-l<=f->(∀i,i<l->O.kle (KN key p i) (KN key p k))->(∀i,r<=i->i<k->O.klt (KN key p k) (KN key p i))->
  (∀l,l<=k->(∀i,i<l->O.kle (KN key p i) (KN key p k))->(∀i,l<=i->i<k->O.klt (KN key p k) (KN key p i))->Q l s)->(kas_place p k f l r).kasWp cmp Q s
 |0,l,r,hlr,hrk,hm,hlo,hhi,h=>by
  have e:l=r:=Ui hlr (Nat.sub_eq_zero_iff_le.mp (Nat.le_zero.mp hm));subst e;exact h l hrk hlo hhi
 |f+1,l,r,hlr,hrk,hm,hlo,hhi,h=>by
  show(if l≥r then KasT.ret l else KasT.ask (p.getD k 0) (p.getD ((l+r)/2) 0) fun c=>if c=true then kas_place p k f l ((l+r)/2)else kas_place p k f ((l+r)/2+1) r).kasWp cmp Q s;by_cases hge:l≥r
  ·rw[aF hge];have e:l=r:=Ui hlr hge;subst e;exact h l hrk hlo hhi
  ·rw[aA hge];have hc:(l+r)/2<r:=half_lt (Nat.not_le.mp hge);have hd:l<=(l+r)/2:=Rp (Nat.not_le.mp hge);generalize (l+r)/2=c at hc hd⊢;refine ok _ _ _ (hp.lt hk) (hp.lt (R9 (mJ hc hrk) hk)) ?_;cases hless:O.blt (key (p.getD k 0)) (key (p.getD c 0))with
   |true=>
    refine place ok hp hk hs f l c hd (dH (mJ hc hrk)) (Sq (mJ (Nat.sub_lt_sub_right hd hc) hm)) hlo (fun i h1 h2=> ?_) h;by_cases hi:i=c
    ·subst hi;exact hless
    ·exact KeyOrd.klt_of_klt_of_kle hless (hs c i h1 h2)
   |false=>
    refine place ok hp hk hs f (c+1) r hc hrk (Sq (mJ (Nat.sub_lt_sub_left (Ir hd hc) (Nat.lt_succ_of_le hd)) hm)) (fun i h1=> ?_) hhi h;by_cases hi:i=c
    ·subst hi;exact hless
    ·exact wch (hs i c (Sq h1) (mJ hc hrk)) hless
theorem aal{p:Array Nat}{k l:Nat}(hs:So key p k)(hl:l<=k)(hsz:k<p.size)(hlo:∀i,i<l->O.kle (KN key p i) (KN key p k))(hhi:∀i,l<=i->i<k->O.klt (KN key p k) (KN key p i)):So key (bubble p k (k-l)) (k+1):=by
 intro i j hij hj;have e:k-(k-l)=l:=Nat.sub_sub_self hl;rw[O9 hsz (wff _ _),O9 hsz (wff _ _),e];have hjk:j<=k:=Sq hj;by_cases hi1:i=l
 ·rw[aF hi1];by_cases hj1:j=l
  ·rw[aF hj1];exact Qd _
  ·have lj:l<j:=Ss (hi1▸hij) (way hj1);rw[aA hj1,aF ⟨lj,hjk⟩];exact Yz (hhi (j-1) (yee lj) (Yj (Ir (dX _) lj) hjk))
 ·rw[aA hi1];by_cases hi2:l<i/\i<=k
  ·have lj:l<j:=mJ hi2.1 hij;rw[aF hi2,aA (way (iZ lj)),aF ⟨lj,hjk⟩];exact hs _ _ (Nat.sub_le_sub_right hij 1) (Yj (Ir (dX _) lj) hjk)
  ·rw[aA hi2];have il:i<l:=Ss (Nat.not_lt.mp fun z=>hi2 ⟨z,cT hij hjk⟩) hi1;by_cases hj1:j=l
   ·rw[aF hj1];exact hlo i il
   ·rw[aA hj1];by_cases hj2:l<j/\j<=k
    ·rw[aF hj2];exact hs _ _ (yee (R9 il hj2.1)) (Yj (Ir (dX _) hj2.1) hjk)
    ·rw[aA hj2];exact hs _ _ hij (mJ (Ss (Nat.not_lt.mp fun z=>hj2 ⟨z,hjk⟩) hj1) hl)
theorem bins(ok:mF O key N cmp s){Q:Array Nat->η->Prop}:∀(f:Nat) (p:Array Nat) (k:Nat),Ord N p->1<=k->k+f=N->So key p k->(∀p',Ord N p'->So key p' N->Q p' s)->(kas_bin f p k).kasWp cmp Q s
 |0,p,k,hp,_,hf,hs,h=>h p hp ((show k=N from hf)▸hs)
 |f+1,p,k,hp,h1,hf,hs,h=>by
  show((kas_place p k k 0 k).bind fun l=>kas_bin f (bubble p k (k-l)) (k+1)).kasWp cmp Q s;rw[Yy];have hk:k<N:=DK (FQ hf);have hsz:k<p.size:=by rw[hp.size];exact hk
  refine place ok hp hk hs k 0 k (dX _) (aX _) (wff _ _) (fun i hi=>absurd hi (Uh _)) (fun i h1 h2=>absurd h2 (Nat.not_lt.mpr h1)) fun l hl hlo hhi=> ?_;exact bins ok f _ (k+1) (hp.bub _ _) (yW _) ((ydo k f).trans hf) (aal hs hl hsz hlo hhi) h
theorem sort(ok:mF O key N cmp s){Q:Array Nat->η->Prop}(h1:1<=N)(h:∀p',Ord N p'->So key p' N->Q p' s):(kas_sort N).kasWp cmp Q s:=by
 unfold kas_sort;rw[Yy];refine count ok ⟨Array.Perm.refl _⟩ h1 fun m p' hp hm1 hm2 hs=> ?_;dsimp only;by_cases hlt:m<N
 ·rw[aF hlt];have e:max m 1=m:=by omega
  rw[e];exact bins ok _ _ _ hp hm1 (by omega) hs h
 ·rw[aA hlt];have e:m=N:=by omega
  subst e;exact h p' hp hs
end
end uW
namespace uW
open PySem PySem.W PyProof.Rows PySem.Calls
noncomputable def O1{O:KeyOrd}(key:Nat->O.α)(vs out:List ζ):Prop:=∃p:Array Nat,Ord vs.length p/\So key p vs.length/\out=p.toList.map fun i=>vs.getD i Value.none
section
variable{prog:ξ}{w:τ}{A:Around}{E:L4}{s:η}{O:KeyOrd}{key:Nat->O.α}{κ:SortKind}{vs:List ζ}
theorem Dq(h2:vs.length<2):O1 key vs vs:=by
 refine⟨List.toArray (List.range vs.length),⟨Array.Perm.refl _⟩,fun i j hij hj=> ?_,?_⟩
 ·have e:i=j:=by omega
  subst e;exact Qd _
 ·match vs,h2 with
  |[],_=>rfl
  |[v],_=>rfl
  |_::_::_,h=>simp at h;omega
theorem nJ{a:Addr}{n:Nat}{P:PySem.Fin->η->Prop}(ho:s.heap.get? a=some (seqObj "list" vs.toArray n))(h64:vs.length<64)(hkind:2<=vs.length->∀h',(∀b o,b≠a->s.heap.get? b=some o->h'.get? b=some o)->∀Q:SortKind->η->Prop,Q κ {s with heap:=h'}->wpAny (model prog w) A (keyKind' vs.toArray) Q E {s with heap:=h'})(Nr:2<=vs.length->∀h',(∀b o,b≠a->s.heap.get? b=some o->h'.get? b=some o)->mF O key vs.length (kas_ask prog w A κ vs) {s with heap:=h'})(h:∀h' out c,O1 key vs out->(∀b o,b≠a->s.heap.get? b=some o->h'.get? b=some o)->h'.get? a=some (seqObj "list" (List.toArray out) c)->P (.done (.ret .none)) {s with heap:=h'}):
  wpAny (model prog w) A (Builtin.«list.sort» ⟨[.ref a],[]⟩) P E s:=by
 have ha:a<s.heap.objs.size:=fV ho;have s1:=YB s.heap a (Obj.mapSeq fun _=>(#[]:Array ζ));obtain⟨e1,ho1⟩:∃e1,(s.heap.update a (Obj.mapSeq fun _=>(#[]:Array ζ))).get? a=some (seqObj "list" #[] e1):=⟨_,wcz ho fun _=>#[]⟩;have keep:∀b o,b≠a->s.heap.get? b=some o->(((s.heap.update a (Obj.mapSeq fun _=>(#[]:Array ζ))).push (seqObj "tuple" vs.toArray 0)).push (seqObj "list" #[] 0)).get? b=some o:=fun b o hb e=>
  kZ _ (kZ _ ((s1.2 b hb).trans e))
 have ho6:(((s.heap.update a (Obj.mapSeq fun _=>(#[]:Array ζ))).push (seqObj "tuple" vs.toArray 0)).push (seqObj "list" #[] 0)).get? a=some (seqObj "list" #[] e1):=kZ _ (kZ _ ho1);rw[list_sort_plain];refine bK (listItems_at ho rfl ?_);refine bK (wea ho rfl ?_ (by rw[iD,gR];omega) (dX _));refine bK (seqEpoch_at ho1 rfl ?_);refine bK (wpAny_newTuple ?_ (by show vs.length<=_;rw[gR];omega));refine bK (wec ?_ (dX _));refine Xp ?_;show wpAny (model prog w) A _ P E {s with heap:=((s.heap.update a (Obj.mapSeq fun _=>(#[]:Array ζ))).push (seqObj "tuple" vs.toArray 0)).push (seqObj "list" #[] 0)};dsimp only;by_cases h2:vs.toArray.size<2
 ·have h2':vs.length<2:=by simpa using h2
  rw[aF h2,aF h2];refine bK (gQ ?_);rw[StateT.run_pure];refine bK (gQ ?_);dsimp only;refine bK (seqEpoch_at ho6 rfl ?_);refine bK (wea ho6 rfl ?_ (dX _) (by rw[Array.size_map];show(pairsOf vs).size<=_;rw[pairsOf_size,gR];omega));simp only[bne_self_eq_false,Bool.false_eq_true,if_false];refine gQ ?_;have eo:(vs.toArray.zip vs.toArray).map (·.2)=List.toArray vs:=by
   apply Array.toList_inj.mp;simp[List.map_snd_zip]
  have s2:=YB (((s.heap.update a (Obj.mapSeq fun _=>(#[]:Array ζ))).push (seqObj "tuple" vs.toArray 0)).push (seqObj "list" #[] 0)) a (Obj.mapSeq fun _=>List.toArray vs);obtain⟨c2,hc2⟩:∃c2,((((s.heap.update a (Obj.mapSeq fun _=>(#[]:Array ζ))).push (seqObj "tuple" vs.toArray 0)).push (seqObj "list" #[] 0)).update a (Obj.mapSeq fun _=>List.toArray vs)).get? a=some (seqObj "list" (List.toArray vs) c2):=⟨_,wcz ho6 fun _=>List.toArray vs⟩;have fin:=h _ vs c2 (Dq h2') (fun b o hb e=>(s2.2 b hb).trans (keep b o hb e)) hc2
  first
   |exact fin
   |(rw[<-eo]at fin;exact fin)
   |(show P _ {s with heap:=Heap.update _ a (Obj.mapSeq fun _=>(vs.toArray.zip vs.toArray).map (·.2))};rw[eo];exact fin)
 ·have h2':2<=vs.length:=by rw[iD]at h2;omega
  rw[aA h2,aA h2];refine bK (hkind h2' _ keep _ ?_);refine bK (Ut (kat_run (Q:=fun st' s'=>s'={s with heap:=((s.heap.update a (Obj.mapSeq fun _=>(#[]:Array ζ))).push (seqObj "tuple" vs.toArray 0)).push (seqObj "list" #[] 0)}/\∃p:Array Nat,p.size=vs.length/\arrOf st'=p.map (kas_item (vs.toArray.zip vs.toArray))/\failedOf st'=none/\Ord vs.length p/\So key p vs.length)
   (G:=fun p s'=>s'={s with heap:=((s.heap.update a (Obj.mapSeq fun _=>(#[]:Array ζ))).push (seqObj "tuple" vs.toArray 0)).push (seqObj "list" #[] 0)}/\Ord vs.length p/\So key p vs.length)
   rfl h2' h64 (fun p' st' s' a1 a2 a3 a4=>⟨a4.1,p',a1,a2,a3,a4.2.1,a4.2.2⟩) (sort (Nr h2' _ keep) (by omega) fun p' hp hs=>⟨rfl,hp,hs⟩)) ?_ fun _ _ e=>e)
  rintro⟨⟨⟩,st'⟩ s' ⟨rfl,p,hp,har,hf,hor,hso⟩;dsimp only;have hout:=kat_snds rfl har;have hsz:(List.toArray (p.toList.map fun i=>vs.getD i Value.none)).size=vs.length:=by rw[iD,aJ,Um,hp]
  rw[hout];refine bK (seqEpoch_at ho6 rfl ?_);refine bK (wea ho6 rfl ?_ (dX _) (cT (FQ hsz) (by rw[gR];omega)));rw[hf];simp only[bne_self_eq_false,Bool.false_eq_true,if_false];have s2:=YB (((s.heap.update a (Obj.mapSeq fun _=>(#[]:Array ζ))).push (seqObj "tuple" vs.toArray 0)).push (seqObj "list" #[] 0)) a (Obj.mapSeq fun _=>List.toArray (p.toList.map fun i=>vs.getD i Value.none));obtain⟨c2,hc2⟩:∃c2,((((s.heap.update a (Obj.mapSeq fun _=>(#[]:Array ζ))).push (seqObj "tuple" vs.toArray 0)).push (seqObj "list" #[] 0)).update a (Obj.mapSeq fun _=>List.toArray (p.toList.map fun i=>vs.getD i Value.none))).get? a=some (seqObj "list" (List.toArray (p.toList.map fun i=>vs.getD i Value.none)) c2):=⟨_,wcz ho6 fun _=>_⟩;exact gQ (h _ _ c2 ⟨p,hor,hso,rfl⟩ (fun b o hb e=>(s2.2 b hb).trans (keep b o hb e)) hc2)
theorem tV{l:Addr}{Q:L4}(hl:s.heap.IsList l vs.toArray)(h64:vs.length<64)(hkind:2<=vs.length->∀h',(∀b o,s.heap.get? b=some o->h'.get? b=some o)->∀(E:L4) (Q:SortKind->η->Prop),Q κ {s with heap:=h'}->wpAny (model prog w) A.in1.in1 (keyKind' vs.toArray) Q E {s with heap:=h'})(Nr:2<=vs.length->∀h',(∀b o,s.heap.get? b=some o->h'.get? b=some o)->mF O key vs.length (kas_ask prog w A.in1.in1 κ vs) {s with heap:=h'})(h:∀D h' out c,O1 key vs out->s.heap.objs.size<=D->(∀b o,s.heap.get? b=some o->h'.get? b=some o)->h'.get? D=some (seqObj "list" (List.toArray out) c)->Q (.ref D) {s with heap:=h'}):
  wpAny (model prog w) A (call (.builtin "sorted") [.ref l]) Q E s:=by
 refine Calls.call_function_entry kind_sorted plain_sorted entry_sorted (args_sorted1 _) ?_;unfold Builtin.«sorted»;refine bK (m:=checkCount "sorted" 1 1 _) (gQ ?_);refine bK (collect_list hl ?_ (by rw[gR];omega));refine bK (wec ?_ (by rw[gR];omega));have hsz:((s.heap.push (seqObj "list" #[] 0)).update s.heap.objs.size (Obj.mapSeq (· ++vs.toArray))).objs.size=s.heap.objs.size+1:=by
  rw[Heap.size_update,size_push']
 have hoL:(((s.heap.push (seqObj "list" #[] 0)).update s.heap.objs.size (Obj.mapSeq (· ++vs.toArray))).push (seqObj "list" vs.toArray 0)).get? (s.heap.objs.size+1)=some (seqObj "list" vs.toArray 0):=by
  rw[<-hsz];exact sJ _ rfl
 have keep:∀b o,s.heap.get? b=some o->(((s.heap.push (seqObj "list" #[] 0)).update s.heap.objs.size (Obj.mapSeq (· ++vs.toArray))).push (seqObj "list" vs.toArray 0)).get? b=some o:=fun b o q=>by
  have hlt:b<s.heap.objs.size:=fV q;rw[wcc _ _ _ (by rw[hsz];exact iZ (vB hlt)),Heap.get?_update_ne _ _ _ _ (iZ hlt),wcc _ _ _ (iZ hlt)];exact q
 have ne:∀b o,s.heap.get? b=some o->b≠s.heap.objs.size+1:=fun b o q=>iZ (vB (fV q));show wpAny _ _ _ _ _ {s with heap:=((s.heap.push (seqObj "list" #[] 0)).update s.heap.objs.size (Obj.mapSeq (· ++vs.toArray))).push (seqObj "list" vs.toArray 0)};rw[hsz];refine bK (Xp (wci slot_list_sort ⟨_,hoL,rfl⟩ entry_list_sort ?body (args_list_sort _)))
 case body=>
  refine nJ (key:=key) (κ:=κ) (s:={s with heap:=((s.heap.push (seqObj "list" #[] 0)).update s.heap.objs.size (Obj.mapSeq (· ++vs.toArray))).push (seqObj "list" vs.toArray 0)}) hoL h64
   (fun h2 h' k Q hq=>hkind h2 h' (fun b o q=>k b o (ne b o q) (keep b o q)) _ Q hq) (fun h2 h' k=>Nr h2 h' fun b o q=>k b o (ne b o q) (keep b o q)) fun h' out c ho k hc=> ?_
  exact⟨_,rfl,gQ ⟨_,rfl,h _ h' out c ho (Pn _) (fun b o q=>k b o (ne b o q) (keep b o q)) hc⟩⟩
end
end uW
namespace HT
open PySem PyProof.Rows
theorem bY:∀(a b:List Int),lexLt a b=decide (a<b)
 |[],[]=>by simp[lexLt]
 |[],_::_=>by simp[lexLt]
 |_::_,[]=>by simp[lexLt]
 |x::xs,y::ys=>by
  rw[lexLt_cons,bY xs ys];by_cases e:x=y
  ·subst e;simp
  ·rw[aA e];by_cases l:x<y
   ·simp[l,ydy]
   ·have:¬(x::xs<y::ys):=by rw[ydy];simp[l,e]
    simp[l,this]
end HT
namespace uW
open PySem PySem.W PyProof.Rows PySem.Calls
noncomputable def lexOrd:KeyOrd where
 α:=List Int
 blt a b:=decide (a<b)
 irrefl a:=by simpa using List.lt_irrefl a
 trans a b c h1 h2:=by simp only[Px]at *;exact List.lt_trans h1 h2
 negTrans a b c h:=by
  simp only[Px]at *;by_cases hab:a<b
  ·exact .inl hab
  ·exact .inr (List.lt_of_le_of_lt (List.not_lt.mp hab) h)
 total a b h1 h2:=by simp only[Xu]at *;exact List.le_antisymm (List.not_lt.mp h2) (List.not_lt.mp h1)
section
variable{prog:ξ}{w:τ}{A:Around}{s:η}{Q:Bool->η->Prop}
theorem uI{na nb:Nat}{xs ys:List ζ}{ns ms:List Int}(i:Nat)(hx:IntsAre xs ns)(hy:IntsAre ys ms)(hl:ns.length+nb=ms.length+na)(h:Q (HT.lexLt ns ms) s):KatLex prog w A true (decide (na<nb)) Q (xs.zip ys) i s:=by
 induction hx generalizing ys ms i with
 |nil=>
  rw[wds];refine kat_nil ?_;cases hy with
  |nil=>
   rw[HT.lexLt_nil_nil]at h;rw[fO (by simp only[Pq]at hl;omega)];exact h
  |cons c u hw=>
   rw[HT.lexLt_nil_cons]at h;rw[cL (by simp only[Pq,zc]at hl;omega)];exact h
 |cons a t hv ih=>
  cases hy with
  |nil=>
   rw[wdj];refine kat_nil ?_;rw[HT.lexLt_cons_nil]at h;rw[fO (by simp only[Pq,zc]at hl;omega)];exact h
  |cons c u hw=>
   rw[Yi];rw[HT.lexLt_cons]at h;refine kat_cons (wpAny_eqBool_int ?_);refine kat_go (fun e=> ?_) fun e=> ?_
   ·have e':a=c:=by simpa using e
    rw[aF e']at h;exact kat_yes (ih (i+1) hw (by simp only[zc]at hl;omega) h)
   ·have e':a≠c:=by simpa using e
    rw[aA e']at h;refine kat_no ?_;cases i with
    |zero=>exact oneLt_int h
    |succ i=>exact kat_one _ _ (lt_int (show PySem.W.BoolBack Q (.bool (decide (a<c))) s from h))
end
theorem xP{O:KeyOrd}{key:Nat->O.α}{α:Type}{vs out:List ζ}{its:List α}{d:α}{f:α->O.α}{R:α->ζ->Prop}(hR:Paired R its vs)(hk:∀i (hi:i<its.length),key i=f its[i])(h:O1 key vs out):
  ∃its':List α,its'.Perm its/\Paired R its' out/\its'.Pairwise fun x y=>O.kle (f x) (f y):=by
 obtain⟨p,hp,hs,rfl⟩:=h;have hl:=hR.length;have get:∀{l₁:List α} {l₂:List ζ} {i:Nat},Paired R l₁ l₂->(h:i<l₁.length)->∃v,l₂[i]? =some v/\R l₁[i] v:=by
  intro l₁ l₂ i q
  induction q generalizing i with
  |nil=>intro h;simp at h
  |cons r t ih=>
   intro h;cases i with
   |zero=>exact⟨_,rfl,r⟩
   |succ i=>
    obtain⟨v,e,rv⟩:=ih (i:=i) (by simpa using h);exact⟨v,by simpa using e,by simpa using rv⟩
 have hlt:∀i∈p.toList,i<its.length:=fun i hi=>by
  have:=(yec.mp hp.perm).mem_iff.mp hi;rw[hl];simpa using this
 refine⟨p.toList.map fun i=>its.getD i d,?_,?_,?_⟩
 ·have q:=(yec.mp hp.perm).map (fun i=>its.getD i d);refine q.trans ?_;have e:(List.toArray (List.range vs.length)).toList.map (fun i=>its.getD i d)=its:=by
   rw[<-hl];apply wcd;intro i;simp only[dJ];by_cases hi:i<its.length
   ·simp[hi]
   ·simp[hi]
  rw[e]
 ·have mk:∀l:List Nat,(∀i∈l,i<its.length)->Paired R (l.map fun i=>its.getD i d) (l.map fun i=>vs.getD i Value.none):=by
   intro l
   induction l with
   |nil=>intro _;exact .nil
   |cons i l ih=>
    intro hb;refine .cons ?_ (ih fun j hj=>hb j (iG _ hj));have hi:=hb i iW;obtain⟨v,e,r⟩:=get hR hi;have e1:its.getD i d=its[i]:=by simp[hi]
    have e2:vs.getD i Value.none=v:=by rw[lg,e];rfl
    show R (its.getD i d) (vs.getD i Value.none);rw[e1,e2];exact r
  exact mk _ hlt
 ·rw[Uq];intro i j hi hj hij;simp only[aJ,Um]at hi hj;simp only[List.getElem_map];have hsz:=hp.size;have q:=hs i j (by omega) (by omega);have e:∀k (hk':k<p.size),KN key p k=f (its.getD p.toList[k] d):=fun k hk'=>by
   have e1:p.getD k 0=p.toList[k]:=by simp[Array.getD,hk']
   have hb:=hlt p.toList[k] (Cd _);have e2:its.getD p.toList[k] d=its[p.toList[k]]:=by simp only[lg,dF hb,wei]
   unfold KN;rw[e1,e2];exact hk _ hb
  rw[e i hi,e j hj]at q;exact q
end uW
namespace L2
open PySem PySem.Spec PyProof.Rows PySem.W
section
variable{X:Cx}
theorem jP:CallR X (.builtin "sorted") (fun xs H Q=>∃(a:Addr) (its:List (Addr×List Int)),xs=[.ref a]/\SqL X.K H a (its.map fun p=>V.ref p.1)/\(∀p∈its,SqT X.K H p.1 (p.2.map V.int)/\p.2≠[])/\its.length<64/\
  ∀(l:Addr) (its':List (Addr×List Int)),H l=none->its'.Perm its->its'.Pairwise (fun p q=>HT.lexLt q.2 p.2=false)->Q (.ref l) (upd H l (.lst (its'.map fun p=>V.ref p.1)))):=by
 intro pins s σ H xs us Q I r h;obtain⟨a,its,rfl,hS,hT,h64,q⟩:=h;obtain⟨u,rfl,ru⟩:=r.one;cases ru;obtain⟨vs,rv,pl,hz⟩:=I.list hS;have hlen:its.length=vs.length:=by have:=rv.length;simpa using this
 -- the values beside the tuples
 have pr:Paired (fun(p:Addr×List Int) (v:ζ)=>v= .ref p.1) its vs:=by
  have go:∀(l:List (Addr×List Int)) (us:List ζ),Vals (l.map fun p=>V.ref p.1) us->Paired (fun(p:Addr×List Int) (v:ζ)=>v= .ref p.1) l us:=by
   intro l
   induction l with
   |nil=>intro us h;cases h;exact .nil
   |cons p l ih=>
    intro us h;cases h with
    |cons r t=>exact .cons r (ih _ t)
  exact go its vs rv
 have tup:∀p∈its,∃(items:List ζ),IntsAre items p.2/\IsTup s.heap p.1 items.toArray:=fun p hp=>by
  obtain⟨its',r',t',_⟩:=I.tuple (hT p hp).1;exact⟨its',T8 r',t'⟩
 refine uW.tV (O:=uW.lexOrd) (key:=fun i=>(its.getD i (0,[])).2) (κ:=tuples' true) (s:=s) pl.isList (by omega) (fun h2 h' k E' Q' hq=> ?_) (fun h2 h' k=> ?_) (fun D h' out c ho hD k hc=> ?_)
 ·have kt:∀(l:List (Addr×List Int)) (us:List ζ),Paired (fun(p:Addr×List Int) (v:ζ)=>v= .ref p.1) l us->(∀p∈l,p∈its)->∃fs:List ζ,KatTups h' us fs/\fs.length=us.length/\∀v∈fs,∃i t,v=Value.int i t:=by
   intro l us h
   induction h with
   |nil=>intro _;exact⟨[],trivial,rfl,fun _ hv=>nomatch hv⟩
   | @cons p v l us r t ih=>
    intro hs;obtain⟨fs,k1,k2,k3⟩:=ih fun p hp=>hs p (iG _ hp);obtain⟨items,hi,o,e,hc,n,hd⟩:=tup p (hs p iW);have hne:=(hT p (hs p iW)).2;obtain⟨pa,pn⟩:=p;dsimp only at hi hne e r;cases hi with
    |nil=>exact absurd rfl hne
    |cons i t hi'=>
     rw[r];refine⟨Value.int i t::fs,KatTups.cons (k _ _ e) hc hd (by simp) k1,by simp[k2],fun v hv=> ?_⟩;rcases cY.mp hv with e|e
     ·exact⟨i,t,e⟩
     ·exact k3 v e
  obtain⟨fs,k1,k2,k3⟩:=kt its vs pr fun _ hp=>hp;refine kat_kind (s:={s with heap:=h'}) (T:= .type "int") k1 (by omega) (fun v hv=> ?_) (by rfl) hq;obtain⟨i,t,rfl⟩:=k3 v hv;exact fun A Q E s _ q=>gQ q
 ·intro i j C hi hj hC;rw[<-hlen]at hi hj;have get:∀i (hi:i<its.length),vs.getD i Value.none= .ref its[i].1:=by
   have go:∀(l:List (Addr×List Int)) (us:List ζ),Paired (fun(p:Addr×List Int) (v:ζ)=>v= .ref p.1) l us->∀i (hi:i<l.length),us.getD i Value.none= .ref l[i].1:=by
    intro l us h
    induction h with
    |nil=>intro i hi;simp at hi
    |cons r t ih=>
     intro i hi;cases i with
     |zero=>exact r
     |succ i=>simpa using ih i (by simpa using hi)
   exact go its vs pr
  unfold kas_ask;rw[get i hi,get j hj];obtain⟨xi,hxi,oi,ei,ci,ni,di⟩:=tup its[i] (Cd _);obtain⟨xj,TJ,oj,ej,cj,nj,dj⟩:=tup its[j] (Cd _);refine kat_lt (s:={s with heap:=h'}) (k _ _ ei) di (k _ _ ej) dj ?_;refine uW.uI 0 hxi TJ ?_ ?_
  ·have:=hxi.length;have:=TJ.length;simp only[iD];omega
  ·rw[HT.bY];have e1:its.getD i (0,[])=its[i]:=by simp[hi]
   have e2:its.getD j (0,[])=its[j]:=by simp[hj]
   have hC':C (decide ((its.getD i (0,[])).2<(its.getD j (0,[])).2)) {s with heap:=h'}:=hC;rw[e1,e2]at hC';exact hC'
 ·obtain⟨its',hp,hr,hw⟩:=uW.xP (d:=((0,[]):Addr×List Int)) (f:=fun p=>p.2) pr (fun i hi=>by show(its.getD i (0,[])).2=_;simp[hi]) ho;have hn:H D=none:=I.hok.fresh hD;have rv':Vals (its'.map fun p=>V.ref p.1) out:=by
   have go:∀(l:List (Addr×List Int)) (us:List ζ),Paired (fun(p:Addr×List Int) (v:ζ)=>v= .ref p.1) l us->Vals (l.map fun p=>V.ref p.1) us:=by
    intro l us h
    induction h with
    |nil=>exact .nil
    |cons r t ih=>exact .cons r ih
   exact go its' out hr
  have zl:(its'.map fun p=>V.ref p.1).length<=sizeLine:=by
   have:=hp.length_eq;rw[aJ];exact dH (small1000 (by omega))
  have J:Inv X pins σ (upd H D (.lst (its'.map fun p=>V.ref p.1))) {s with heap:=h',toks:=s.toks}:=I.laid k hD ⟨zl,out,c,rv',hc⟩;refine⟨.ref D,_,J,rfl,q D its' hn hp (hw.imp fun{x y} hxy=> ?_)⟩;rw[HT.bY];exact hxy
end
end L2
namespace L2
open PySem PySem.Spec PyProof.Rows
section
variable{X:Cx}
theorem uU:∀{bs:List Bool} {us:List ζ},Vals (bs.map V.bl) us->us=bs.map Value.bool
 |[],_,h=>by cases h;rfl
 |b::bs,_,h=>by
  cases h with
  |cons r t=>rw[yX,uU t];exact lq (· ::_) r
theorem eY(hc:X.calm=true):CallR X (.builtin "all") (fun xs H Q=>∃(a:Addr) (bs:List Bool),xs=[.ref a]/\SqL X.K H a (bs.map V.bl)/\Q (.bl (bs.all id)) H):=by
 intro pins s σ H xs us Q I r h;obtain⟨a,bs,rfl,hS,q⟩:=h;obtain⟨u,rfl,ru⟩:=r.one;cases ru;obtain⟨vs,rv,pl,hz⟩:=I.list hS;have hv:=uU rv;have hl:=pl.isList;have hlt:a<s.heap.objs.size:=by obtain⟨_,e,_⟩:=hl;exact fV e
 refine call_all_walk (wce hl ?_);refine⟨s.heap.objs.size,[s.heap.objs.size,a],[s.heap.objs.size],vs.toArray.size,_,_,fun i=>(bs[i]?).getD true,rfl,Walks.list (A:=X.A.in1) (I.ok.hd hc) _ a (iZ hlt) vs.toArray,
  ⟨⟨_,sJ _ rfl,rfl,rfl⟩,hl.push _⟩,fun i v s' Q' E' hP hQ=> ?_,fun h' tk hk=> ?_⟩
 ·have hP':vs[i]? =some v:=by simpa using hP
  rw[hv,dJ]at hP';cases e:bs[i]? with
  |none=>rw[e]at hP';cases hP'
  |some b=>
   rw[e]at hP';cases hP';simp only[e,wei]at hQ;exact Qf hQ
 ·have e:((List.range vs.toArray.size).all fun i=>(bs[i]?).getD true)=bs.all id:=by
   rw[iD,hv,aJ];exact LSm.range_all bs
  rw[e];exact⟨.bl _,H,I.kept (LSm.kept_iter hk),rfl,q⟩
theorem Bl(hc:X.calm=true):CallR X (.builtin "any") (fun xs H Q=>∃(a:Addr) (bs:List Bool),xs=[.ref a]/\SqL X.K H a (bs.map V.bl)/\Q (.bl (bs.any id)) H):=by
 intro pins s σ H xs us Q I r h;obtain⟨a,bs,rfl,hS,q⟩:=h;obtain⟨u,rfl,ru⟩:=r.one;cases ru;obtain⟨vs,rv,pl,hz⟩:=I.list hS;have hv:=uU rv;have hl:=pl.isList;have hlt:a<s.heap.objs.size:=by obtain⟨_,e,_⟩:=hl;exact fV e
 refine call_any_walk (wce hl ?_);refine⟨s.heap.objs.size,[s.heap.objs.size,a],[s.heap.objs.size],vs.toArray.size,_,_,fun i=>(bs[i]?).getD false,rfl,Walks.list (A:=X.A.in1) (I.ok.hd hc) _ a (iZ hlt) vs.toArray,
  ⟨⟨_,sJ _ rfl,rfl,rfl⟩,hl.push _⟩,fun i v s' Q' E' hP hQ=> ?_,fun h' tk hk=> ?_⟩
 ·have hP':vs[i]? =some v:=by simpa using hP
  rw[hv,dJ]at hP';cases e:bs[i]? with
  |none=>rw[e]at hP';cases hP'
  |some b=>
   rw[e]at hP';cases hP';simp only[e,wei]at hQ;exact Qf hQ
 ·have e:((List.range vs.toArray.size).any fun i=>(bs[i]?).getD false)=bs.any id:=by
   rw[iD,hv,aJ];exact LSm.range_any bs
  rw[e];exact⟨.bl _,H,I.kept (LSm.kept_iter hk),rfl,q⟩
noncomputable def Ii(K:W.Frag)(H:Hp):V->String->Prop
 | .non,T=>T="NoneType"
 | .bl _,T=>T="bool"
 | .int _,T=>T="int"
 | .str _,T=>T="str"
 | .ref a,T=>(T="tuple"/\∃xs,SqT K H a xs)\/(T="list"/\∃xs,SqL K H a xs)\/(T="dict"/\∃kvs,H a=some (.dK kvs))
 |_,_=>False
noncomputable def oE(T C:String):Bool:=T==C||(T=="bool"&&C=="int")
theorem wR:CallR X (.builtin "isinstance") (fun xs H Q=>∃(x:V) (T C:String),xs=[x,.ty C]/\Ii X.K H x T/\(C="int"\/C="bool"\/C="tuple"\/C="list")/\Q (.bl (oE T C)) H):=by
 intro pins s σ H xs us Q I r h;obtain⟨x,T,C,rfl,hk,hC,q⟩:=h;obtain⟨u,v,rfl,ru,rv⟩:=r.two;cases rv;have Og:∀b,b=oE T C->EP X pins σ Q (.bool b) s:=fun b e=>⟨.bl b,H,I,rfl,by rw[e];exact q⟩;have gD:∀b,b=oE T C->EP X pins σ Q (.bool b) {s with toks:=s.toks+1}:=fun b e=>⟨.bl b,H,I.tok _,rfl,by rw[e];exact q⟩;cases x with
 |non=>
  cases ru;cases hk;rcases hC with rfl|rfl|rfl|rfl
  ·exact IsiPair.NoneType_int (gD _ rfl)
  ·exact IsiPair.NoneType_bool (gD _ rfl)
  ·exact IsiPair.NoneType_tuple (gD _ rfl)
  ·exact IsiPair.NoneType_list (gD _ rfl)
 |bl b=>
  cases ru;cases hk;rcases hC with rfl|rfl|rfl|rfl
  ·exact IsiPair.bool_int (Og _ rfl)
  ·exact IsiPair.bool_bool (Og _ rfl)
  ·exact IsiPair.bool_tuple (gD _ rfl)
  ·exact IsiPair.bool_list (gD _ rfl)
 |int i=>
  obtain⟨t,rfl⟩:=ru;cases hk;rcases hC with rfl|rfl|rfl|rfl
  ·exact IsiPair.int_int (Og _ rfl)
  ·exact IsiPair.int_bool (gD _ rfl)
  ·exact IsiPair.int_tuple (gD _ rfl)
  ·exact IsiPair.int_list (gD _ rfl)
 |str z=>
  obtain⟨t,rfl⟩:=ru;cases hk;rcases hC with rfl|rfl|rfl|rfl
  ·exact IsiPair.str_int (gD _ rfl)
  ·exact IsiPair.str_bool (gD _ rfl)
  ·exact IsiPair.str_tuple (gD _ rfl)
  ·exact IsiPair.str_list (gD _ rfl)
 |ref a=>
  cases ru;rcases hk with⟨rfl,xs,hS⟩|⟨rfl,xs,hS⟩|⟨rfl,kvs,hS⟩
  ·obtain⟨its,_,⟨o,e,c,n,d⟩,_⟩:=I.tuple hS;rcases hC with rfl|rfl|rfl|rfl
   ·exact IsiPair.tuple_int e c (gD _ rfl)
   ·exact IsiPair.tuple_bool e c (gD _ rfl)
   ·exact IsiPair.tuple_tuple e c (Og _ rfl)
   ·exact IsiPair.tuple_list e c (gD _ rfl)
  ·obtain⟨its,_,⟨o,n,e,c,d,_⟩,_⟩:=I.list hS;rcases hC with rfl|rfl|rfl|rfl
   ·exact IsiPair.list_int e c (gD _ rfl)
   ·exact IsiPair.list_bool e c (gD _ rfl)
   ·exact IsiPair.list_tuple e c (gD _ rfl)
   ·exact IsiPair.list_list e c (Og _ rfl)
  ·obtain⟨_,_,vs,_,o,es,ep,e,c,_⟩:=I.hok a _ hS;have c':o.cls= .type "dict":=c.1;rcases hC with rfl|rfl|rfl|rfl
   ·exact IsiPair.dict_int e c' (gD _ rfl)
   ·exact IsiPair.dict_bool e c' (gD _ rfl)
   ·exact IsiPair.dict_tuple e c' (gD _ rfl)
   ·exact IsiPair.dict_list e c' (gD _ rfl)
 |_=>exact hk.elim
end
mutual
inductive DV(K:W.Frag)(H:Hp):V->θ->Prop
 |non:DV K H .non .none
 |bl (b:Bool):DV K H (.bl b) (.bool b)
 |int (i:Int):DV K H (.int i) (.int i)
 |str (x:Str):DV K H (.str x) (.str x)
 |tup {a:Addr} {xs:List V} {ds:List θ} (h:SqT K H a xs) (t:cN K H xs ds):DV K H (.ref a) (.tuple ds)
 |lst {a:Addr} {xs:List V} {ds:List θ} (h:SqL K H a xs) (t:cN K H xs ds):DV K H (.ref a) (.list ds)
 |dc0 {a:Addr} (h:H a=some (.dK [])):DV K H (.ref a) (.dict [])
 |dc1 {a b:Addr} {i:Int} (h:H a=some (.dK [(Sum.inl i,.ref b)])) (t:SqT K H b []):DV K H (.ref a) (.dict [(.int i,.tuple [])])
inductive cN(K:W.Frag)(H:Hp):List V->List θ->Prop
 |nil:cN K H [] []
 |cons {x:V} {d:θ} {xs:List V} {ds:List θ} (h:DV K H x d) (t:cN K H xs ds):cN K H (x::xs) (d::ds)
end
theorem Same.tup{K:W.Frag}{H H':Hp}{a:Addr}{xs:List V}(e:Same H H')(h:SqT K H a xs):SqT K H' a xs:=by
 rcases h with(h|⟨o,h⟩)|h
 ·exact .inl (.inl (e _ _ h))
 ·exact .inl (.inr ⟨o,e _ _ h⟩)
 ·exact .inr h
theorem cN.same{K:W.Frag}{H H':Hp}(e:Same H H'){xs:List V}{ds:List θ}(h:cN K H xs ds):cN K H' xs ds:=
 cN.rec (motive_1:=fun x d _=>DV K H' x d) (motive_2:=fun xs ds _=>cN K H' xs ds) .non (fun b=> .bl b) (fun i=> .int i) (fun x=> .str x) (fun h _ t=> .tup (e.tup h) t) (fun h _ t=> .lst (e.seq h) t) (fun h=> .dc0 (e _ _ h)) (fun h t=> .dc1 (e _ _ h) (e.tup t)) .nil (fun _ _ h t=> .cons h t) h
theorem Jh{P:ξ}{w:τ}{es:List DictEntry}(h:Pairs (mixKind P w) es []):es=[]:=by
 cases h;rfl
theorem Jg{P:ξ}{w:τ}{es:List DictEntry}{k:Key}{u:ζ}(h:Pairs (mixKind P w) es [(k,u)]):∃e,es=[e]/\keyIs k e.key=true/\e.val=u:=by
 cases h with
 |cons h1 h2 h3=>
  cases h3;exact⟨_,rfl,h1,h2⟩
section
variable{X:Cx}{pins:L3}{σ:St}{H:Hp}{s:η}
theorem Jy(I:Inv X pins σ H s){a:Addr}(h:H a=some (.dK [])):Reads s.heap (.ref a) (.dict []) (a::[]++[])/\(a==sysModules)=false:=by
 obtain⟨_,hne,vs,r0,o,es,ep,e,c,d,_,pr,_⟩:=I.hok _ _ h;cases r0;have hes:es.toList=[]:=Jh pr;refine⟨.dict (kvs:=[]) (as:=[]) (bs:=[]) e c.1 d ?_ ?_,hne⟩
 ·rw[hes];exact .nil
 ·rw[hes];exact .nil
theorem Jx(I:Inv X pins σ H s){a b:Addr}{i:Int}(h:H a=some (.dK [(Sum.inl i,.ref b)]))(t:SqT X.K H b []):Reads s.heap (.ref a) (.dict [(.int i,.tuple [])]) (a::([]++[])++([]++[]))/\(a==sysModules)=false:=by
 obtain⟨_,hne,vs,r0,o,es,ep,e,c,d,_,pr,_⟩:=I.hok _ _ h;obtain⟨its,rv,⟨o2,e2,c2,n2,d2⟩,_⟩:=I.tuple t;cases rv;cases r0 with
 | @cons p q ps qs hq tl=>
  cases tl;obtain⟨en,he,hk,hv⟩:=Jg pr;obtain⟨k,u⟩:=q;dsimp only at hq;obtain⟨hk1,hu1⟩:=hq;subst hk1;cases hu1;obtain⟨tk,ek⟩:∃tk,en.key=Value.int i tk:=by
   rcases Pk hk with⟨i',t',e3,e4⟩|⟨x,t',e3,e4⟩
   ·cases e3;exact⟨t',e4⟩
   ·cases e3
  refine⟨.dict (kvs:=[(.int i,.tuple [])]) (as:=[]++[]) (bs:=[]++[]) e c.1 d ?_ ?_,hne⟩
  ·rw[he];show ReadsAll s.heap [en.key] [PyData.int i] _;rw[ek];exact .cons (.int i tk) .nil
  ·rw[he];show ReadsAll s.heap [en.val] [PyData.tuple []] _;rw[hv];exact .cons (.tuple e2 c2 d2 .nil) .nil
theorem Jd(I:Inv X pins σ H s){a:Addr}{xs:List V}{ds:List θ}(h:SqT X.K H a xs)(t:∀{us:List ζ},Vals xs us->∃as,ReadsAll s.heap us ds as){u:ζ}(r:RelV (.ref a) u):∃as,Reads s.heap u (.tuple ds) as:=by
 cases r;obtain⟨its,rv,⟨o,e,c,n,d⟩,_⟩:=I.tuple h;obtain⟨as,ra⟩:=t rv;exact⟨_,.tuple e c d (by simpa using ra)⟩
theorem Je(I:Inv X pins σ H s){a:Addr}{xs:List V}{ds:List θ}(h:SqL X.K H a xs)(t:∀{us:List ζ},Vals xs us->∃as,ReadsAll s.heap us ds as){u:ζ}(r:RelV (.ref a) u):∃as,Reads s.heap u (.list ds) as:=by
 cases r;obtain⟨its,rv,⟨o,n,e,c,_,d⟩,_⟩:=I.list h;obtain⟨as,ra⟩:=t rv;exact⟨_,.list e c d (by simpa using ra)⟩
theorem DV.reads(I:Inv X pins σ H s){x:V}{d:θ}{u:ζ}(h:DV X.K H x d)(r:RelV x u):∃as,Reads s.heap u d as:=
 DV.rec (motive_1:=fun x d _=>∀{u:ζ},RelV x u->∃as,Reads s.heap u d as) (motive_2:=fun xs ds _=>∀{us:List ζ},Vals xs us->∃as,ReadsAll s.heap us ds as)
  (fun r=>by cases r;exact⟨_,.none⟩) (fun b _ r=>by cases r;exact⟨_,.bool b⟩) (fun i _ r=>by obtain⟨t,rfl⟩:=r;exact⟨_,.int i t⟩) (fun x _ r=>by obtain⟨t,rfl⟩:=r;exact⟨_,.str x t⟩)
  (fun h _ t _ r=>Jd I h t r) (fun h _ t _ r=>Je I h t r) (fun h _ r=>by cases r;exact⟨_,(Jy I h).1⟩) (fun h t _ r=>by cases r;exact⟨_,(Jx I h t).1⟩)
  (fun r=>by cases r;exact⟨_,.nil⟩) (fun _ _ h t _ r=>by
   cases r with
   |cons r rr=>
    obtain⟨as,ra⟩:=h r;obtain⟨bs,rb⟩:=t rr;exact⟨_,.cons ra rb⟩) h r
theorem cN.reads(I:Inv X pins σ H s){xs:List V}{ds:List θ}{us:List ζ}(h:cN X.K H xs ds)(r:Vals xs us):∃as,ReadsAll s.heap us ds as:=
 cN.rec (motive_1:=fun _ _ _=>True) (motive_2:=fun xs ds _=>∀{us:List ζ},Vals xs us->∃as,ReadsAll s.heap us ds as) trivial (fun _=>trivial) (fun _=>trivial) (fun _=>trivial) (fun _ _ _=>trivial) (fun _ _ _=>trivial) (fun _=>trivial) (fun _ _=>trivial)
  (fun r=>by cases r;exact⟨_,.nil⟩) (fun h _ _ t _ r=>by
   cases r with
   |cons r rr=>
    obtain⟨as,ra⟩:=DV.reads I h r;obtain⟨bs,rb⟩:=t rr;exact⟨_,.cons ra rb⟩) h r
end
mutual
def noL:θ->Bool
 | .list _=>false
 | .tuple ds=>Zb ds
 |_=>true
def Zb:List θ->Bool
 |[]=>true
 |d::ds=>noL d&&Zb ds
end
theorem cN.ints{K:W.Frag}{H:Hp}:∀(ns:List Int),cN K H (ns.map V.int) (ns.map PyData.int)
 |[]=> .nil
 |n::ns=> .cons (.int n) (cN.ints ns)
theorem cN.len{K:W.Frag}{H:Hp}{xs:List V}{ds:List θ}(h:cN K H xs ds):xs.length=ds.length:=
 cN.rec (motive_1:=fun _ _ _=>True) (motive_2:=fun xs ds _=>xs.length=ds.length) trivial (fun _=>trivial) (fun _=>trivial) (fun _=>trivial) (fun _ _ _=>trivial) (fun _ _ _=>trivial) (fun _=>trivial) (fun _ _=>trivial) rfl (fun _ _ _ t=>lq Nat.succ t) h
section
variable{X:Cx}
theorem xU(hu:X.A.units+64<cLine):OpR X (compareOp .Eq) (fun x y H Q=>∃da db,DV X.K H x da/\DV X.K H y db/\da.canLay0=true/\db.canLay0=true/\min da.depth db.depth<=64/\Q (.bl (PyData.eqv da db)) H):=by
 intro pins s σ H x y v u Q I rx ry h;obtain⟨da,db,hx,hy,ca,cb,hd,q⟩:=h;obtain⟨as,ra⟩:=DV.reads I hx rx;obtain⟨bs,rb⟩:=DV.reads I hy ry;exact SeqAt.rcAt_reads ra rb ca cb (by omega) _ _ _ _ ⟨.bl _,H,I,rfl,q⟩
theorem xR(hu:X.A.units+64<cLine):OpR X (compareOp .NotEq) (fun x y H Q=>∃da db,DV X.K H x da/\DV X.K H y db/\da.canLay0=true/\db.canLay0=true/\min da.depth db.depth<=64/\Q (.bl (!PyData.eqv da db)) H):=by
 intro pins s σ H x y v u Q I rx ry h;obtain⟨da,db,hx,hy,ca,cb,hd,q⟩:=h;obtain⟨as,ra⟩:=DV.reads I hx rx;obtain⟨bs,rb⟩:=DV.reads I hy ry;exact SeqAt.rcNeAt_reads ra rb ca cb (by omega) _ _ _ _ ⟨.bl _,H,I,rfl,q⟩
theorem Fl:∀{ds:List θ},PyData.canLayAll0 ds=true->∀d∈ds,d.canLay0=true
 |[],_,d,h=>nomatch h
 |e::ds,h,d,hd=>by
  have h':(e.canLay0&&PyData.canLayAll0 ds)=true:=h;rw[kO]at h';rcases cY.mp hd with rfl|hd
  ·exact h'.1
  ·exact Fl h'.2 d hd
open Classical in
theorem ur(hu:X.A.units+64<cLine):OpR X (compareOp .In) (fun x y H Q=>∃(p:Addr) (xs:List V) (ds:List θ) (dx:θ),y= .ref p/\(SqL X.K H p xs\/SqT X.K H p xs)/\cN X.K H xs ds/\DV X.K H x dx/\PyData.canLayAll0 ds=true/\dx.canLay0=true/\dx.depth<=60/\
  Q (.bl (ds.any fun d=>PyData.eqv d dx)) H):=by
 intro pins s σ H x y v u Q I rx ry h;obtain⟨p,xs,ds,dx,rfl,hq,hds,hx,ca,cb,hd,q⟩:=h;cases ry;obtain⟨bs,rb⟩:=DV.reads I hx rx;have key:∀{its:List ζ},Vals xs its->(∀y∈its,SeqAt.EqAt X.A.in1 s y v (decide (∃d as,Reads s.heap y d as/\d∈ds/\PyData.eqv d dx=true)))/\(its.any fun y=>decide (∃d as,Reads s.heap y d as/\d∈ds/\PyData.eqv d dx=true))=ds.any fun d=>PyData.eqv d dx:=by
  intro its rv;obtain⟨as,ra⟩:=cN.reads I hds rv;have each:∀{us:List ζ} {es:List θ} {as:List Addr},ReadsAll s.heap us es as->(∀e∈es,e∈ds)->(∀y∈us,SeqAt.EqAt X.A.in1 s y v (decide (∃d as,Reads s.heap y d as/\d∈ds/\PyData.eqv d dx=true)))/\(us.any fun y=>decide (∃d as,Reads s.heap y d as/\d∈ds/\PyData.eqv d dx=true))=es.any fun d=>PyData.eqv d dx:=by
   intro us
   induction us with
   |nil=>intro es as h _;cases h;exact⟨(fun y hy=>(nomatch hy)),rfl⟩
   |cons y us ih=>
    intro es as h hs;cases h with
    | @cons _ _ d ds' as' bs' r rr=>
     obtain⟨i1,i2⟩:=ih rr fun e he=>hs e (iG _ he);have cl:=Fl ca d (hs d iW);have e:decide (∃d as,Reads s.heap y d as/\d∈ds/\PyData.eqv d dx=true)=PyData.eqv d dx:=by
      rw[v9,Px];constructor
      ·rintro⟨d',as'',r',_,q'⟩;obtain⟨rfl,_⟩:=(PySem.Reads.unique r _ _ r');exact q'
      ·intro q';exact⟨d,_,r,hs d iW,q'⟩
     refine⟨fun z hz=> ?_,?_⟩
     ·rcases cY.mp hz with rfl|hz
      ·rw[e];exact SeqAt.eqAt_reads d dx _ s _ _ _ _ r rb cl cb (by show X.A.units+1+min d.depth dx.depth<cLine;omega)
      ·exact i1 z hz
     ·rw[Xg,Xg,i2,e]
  exact each ra fun e he=>he
 rcases hq with hq|hq
 ·obtain⟨its,r,pl,hz⟩:=I.list hq;obtain⟨k1,k2⟩:=key r;refine SeqAt.in_listAt _ pl.isList (fun w hw=>k1 w (by simpa using hw)) ⟨.bl _,H,I,rfl,?_⟩;rw[show∀f:ζ->Bool,its.toArray.any f=its.any f from fun f=>by simp,k2];exact q
 ·obtain⟨its,r,pl,hz⟩:=I.tuple hq;obtain⟨k1,k2⟩:=key r;refine SeqAt.in_tupleAt _ pl (fun w hw=>k1 w (by simpa using hw)) ⟨.bl _,H,I,rfl,?_⟩;rw[show∀f:ζ->Bool,its.toArray.any f=its.any f from fun f=>by simp,k2];exact q
theorem lK:OpR X (binaryOp .FloorDiv) (rI (fun _ j=>0<j/\j<1000000000000000000000000000000) fun i j=> .int (i/j)):=opI fun i j _ _ _ _ _ hc q=>by
 have h1:(0:Int)<j:=hc.1;have h2:j<1000000000000000000000000000000:=hc.2;refine floordiv_int (by omega) ?_ (Or.inl (wdu ?_))
 ·rw[wdf _ (by omega)];exact q
 ·have h3:j.natAbs≠0:=by omega
  have h4:j.natAbs<2^100:=by
   have:(2:Nat)^100=1267650600228229401496703205376:=by decide
   omega
  have:=(Nat.log2_lt h3).mpr h4;omega
noncomputable def Tt(K:W.Frag):R2:=fun x y H Q=>∃a b xs ys,x= .ref a/\y= .ref b/\SqT K H a xs/\SqT K H b ys/\xs.length+ys.length<=sizeLine/\∀r H',Same H H'->SqT K H' r (xs++ys)->Q (.ref r) H'
theorem xV:OpR X (binaryOp .Add) (Tt X.K):=by
 intro pins s σ H x y v u Q I rx ry h;obtain⟨a,b,xs,ys,rfl,rfl,ha,hb,hz,q⟩:=h;by_cases hx:xs=[]
 ·subst hx;cases rx;cases ry;obtain⟨its,r1,p1,_⟩:=I.tuple ha;obtain⟨its2,r2,p2,_⟩:=I.tuple hb;cases r1;obtain⟨⟨cls,dd,data,sl⟩,ho,hc,n,hd⟩:=id p1;obtain⟨⟨cls2,dd2,data2,sl2⟩,ho2,hc2,n2,hd2⟩:=id p2;simp only at hc hd hc2 hd2;subst hc hd hc2 hd2;exact concat_meets ⟨_,ho,rfl⟩ ⟨_,ho2,rfl⟩ weg seq_tuple_add wbx wbs (wbm _ _)
   (tuple_addW0 a b _ _ n n2 dd dd2 sl sl2 (by simp)) ⟨ho,ho2,⟨.ref b,H,I,rfl,q b H (Same.refl _) hb⟩⟩
 ·refine op_catT pins s σ H _ _ v u Q I rx ry ⟨a,b,xs,ys,rfl,rfl,ha,hb,hx,hz,fun e=> ?_,fun e p hp=> ?_⟩
  ·subst e;exact q a H (Same.refl _) (by rw[zx];exact ha)
  ·exact q p _ (fun c o e=>by rw[cW (sH e hp)];exact e) (SqT.of aB)
end
section
variable{X:Cx}{tg:Expr}
noncomputable def Wa(K:W.Frag)(tl:TE):TI:=fun σ H R=>tl σ H fun x H1=>∃a xs,x= .ref a/\SqL K H1 a xs/\(xs.length<=sizeLine->R (Itl K a) H1)
noncomputable def TF(K:W.Frag)(tl:TE):TI:=fun σ H R=>tl σ H fun x H1=>∃a xs,x= .ref a/\SqT K H1 a xs/\(xs.length<=sizeLine->R (Itt K a) H1)
theorem sG{l:Expr}{tl:TE}(hl:PE X l tl):PI X tg l (Wa X.K tl):=by
 intro pins s σ H R I h;refine thn (hl pins s σ H _ I h) fun v s1 ⟨x,H1,I1,r1,q1⟩=> ?_;obtain⟨a,xs,e,hq,q⟩:=q1;subst e;cases r1;obtain⟨its,rv,p,hz⟩:=I1.list hq;refine wce p.isList ?_;refine⟨s1.heap.objs.size,[s1.heap.objs.size],_,_,H1,rfl,I1.kept (t':=s1.toks) fun b o e=>kZ _ e,turn_list a _,⟨_,sJ _ rfl,rfl,rfl⟩,fun b hb=> ?_,q hz⟩;have e:b=s1.heap.objs.size:=by simpa using hb
 subst e;exact I1.fpOk (aX _) (I1.hok.fresh (aX _))
theorem BW{l:Expr}{tl:TE}(hl:PE X l tl):PI X tg l (TF X.K tl):=by
 intro pins s σ H R I h;refine thn (hl pins s σ H _ I h) fun v s1 ⟨x,H1,I1,r1,q1⟩=> ?_;obtain⟨a,xs,e,hq,q⟩:=q1;subst e;cases r1;obtain⟨its,rv,p,hz⟩:=I1.tuple hq;refine wbu (show s1.heap.IsTuple a its.toArray from p) ?_;refine⟨s1.heap.objs.size,[s1.heap.objs.size],_,_,H1,rfl,I1.kept (t':=s1.toks) fun b o e=>kZ _ e,turn_tuple a _,⟨_,sJ _ rfl,rfl,rfl⟩,fun b hb=> ?_,q hz⟩;have e:b=s1.heap.objs.size:=by simpa using hb
 subst e;exact I1.fpOk (aX _) (I1.hok.fresh (aX _))
theorem vm:CallR X (.builtin "len") (fun xs H Q=>∃p ys,xs=[.ref p]/\(SqL X.K H p ys\/SqT X.K H p ys)/\(ys.length<=16777216->Q (.int ys.length) H)):=by
 intro pins s σ H xs us Q I r h;obtain⟨p,ys,rfl,hq,q⟩:=h;have hz:ys.length<=16777216:=by
  rw[<-gR];rcases hq with hq|hq
  ·exact(I.list hq).choose_spec.2.2
  ·exact(I.tuple hq).choose_spec.2.2
 exact call_len_seq pins s σ H _ us Q I r ⟨p,ys,rfl,hq,q hz⟩
end
mutual
inductive DX(K:W.Frag)(H:Hp):V->θ->Prop
 |non:DX K H .non .none
 |bl (b:Bool):DX K H (.bl b) (.bool b)
 |int (i:Int):DX K H (.int i) (.int i)
 |str (x:Str):DX K H (.str x) (.str x)
 |tup {a:Addr} {xs:List V} {ds:List θ} (h:SqT K H a xs) (t:oW K H xs ds):DX K H (.ref a) (.tuple ds)
 |lst {a:Addr} {xs:List V} {ds:List θ} (h:SqL K H a xs) (t:oW K H xs ds):DX K H (.ref a) (.list ds)
 |dct {a:Addr} {kvs:List (Key×V)} (ds:List (θ×θ)) (h:H a=some (.dK kvs)):DX K H (.ref a) (.dict ds)
inductive oW(K:W.Frag)(H:Hp):List V->List θ->Prop
 |nil:oW K H [] []
 |cons {x:V} {d:θ} {xs:List V} {ds:List θ} (h:DX K H x d) (t:oW K H xs ds):oW K H (x::xs) (d::ds)
end
theorem DX.same{K:W.Frag}{H H':Hp}(e:Same H H'){x:V}{d:θ}(h:DX K H x d):DX K H' x d:=
 DX.rec (motive_1:=fun x d _=>DX K H' x d) (motive_2:=fun xs ds _=>oW K H' xs ds) .non (fun b=> .bl b) (fun i=> .int i) (fun x=> .str x) (fun h _ t=> .tup (e.tup h) t) (fun h _ t=> .lst (e.seq h) t) (fun ds h=> .dct ds (e _ _ h)) .nil (fun _ _ h t=> .cons h t) h
theorem oW.same{K:W.Frag}{H H':Hp}(e:Same H H'){xs:List V}{ds:List θ}(h:oW K H xs ds):oW K H' xs ds:=
 oW.rec (motive_1:=fun x d _=>DX K H' x d) (motive_2:=fun xs ds _=>oW K H' xs ds) .non (fun b=> .bl b) (fun i=> .int i) (fun x=> .str x) (fun h _ t=> .tup (e.tup h) t) (fun h _ t=> .lst (e.seq h) t) (fun ds h=> .dct ds (e _ _ h)) .nil (fun _ _ h t=> .cons h t) h
theorem DV.dx{K:W.Frag}{H:Hp}{x:V}{d:θ}(h:DV K H x d):DX K H x d:=
 DV.rec (motive_1:=fun x d _=>DX K H x d) (motive_2:=fun xs ds _=>oW K H xs ds) .non (fun b=> .bl b) (fun i=> .int i) (fun x=> .str x) (fun h _ t=> .tup h t) (fun h _ t=> .lst h t) (fun h=> .dct [] h) (fun h _=> .dct _ h) .nil (fun _ _ h t=> .cons h t) h
theorem cN.dx{K:W.Frag}{H:Hp}{xs:List V}{ds:List θ}(h:cN K H xs ds):oW K H xs ds:=
 cN.rec (motive_1:=fun _ _ _=>True) (motive_2:=fun xs ds _=>oW K H xs ds) trivial (fun _=>trivial) (fun _=>trivial) (fun _=>trivial) (fun _ _ _=>trivial) (fun _ _ _=>trivial) (fun _=>trivial) (fun _ _=>trivial) .nil (fun h _ _ t=> .cons h.dx t) h
noncomputable def lO:θ->String
 | .none=>"NoneType"
 | .bool _=>"bool"
 | .int _=>"int"
 | .str _=>"str"
 | .list _=>"list"
 | .tuple _=>"tuple"
 | .dict _=>"dict"
theorem DX.kind{K:W.Frag}{H:Hp}:∀{x:V} {d:θ},DX K H x d->Ii K H x (lO d)
 |_,_,.non=>rfl
 |_,_,.bl _=>rfl
 |_,_,.int _=>rfl
 |_,_,.str _=>rfl
 |_,_,.tup h _=> .inl ⟨rfl,_,h⟩
 |_,_,.lst h _=> .inr (.inl ⟨rfl,_,h⟩)
 |_,_,.dct _ h=> .inr (.inr ⟨rfl,_,h⟩)
theorem oW.len{K:W.Frag}{H:Hp}{xs:List V}{ds:List θ}(h:oW K H xs ds):xs.length=ds.length:=
 oW.rec (motive_1:=fun _ _ _=>True) (motive_2:=fun xs ds _=>xs.length=ds.length) trivial (fun _=>trivial) (fun _=>trivial) (fun _=>trivial) (fun _ _ _=>trivial) (fun _ _ _=>trivial) (fun _ _=>trivial) rfl (fun _ _ _ t=>lq Nat.succ t) h
theorem oW.get{K:W.Frag}{H:Hp}:∀{xs:List V} {ds:List θ} {i:Nat} {x:V},oW K H xs ds->xs[i]? =some x->∃d,ds[i]? =some d/\DX K H x d
 |_,_,_,_,.nil,e=>by simp at e
 |_,_,0,_,.cons h _,e=>by simp at e;subst e;exact⟨_,rfl,h⟩
 |_,_,i+1,x,.cons _ t,e=>by
  obtain⟨d,h1,h2⟩:=oW.get (i:=i) t (by simpa using e);exact⟨d,by simpa using h1,h2⟩
structure bC(K:W.Frag)(mg:L5)(x:Str)(st:Stmt)(ps:List Str)(f:Addr)(fd:ρ):Prop where
 F:Fun K x x st f fd
 b:Binds K fd ps []
 m:mg x=some (.ref f)
theorem pc{X:Cx}{x:Str}{st:Stmt}{ps:List Str}{f:Addr}{fd:ρ}{j k:Nat}{sp:Sp}{E:XK}{e:Expr}{es:List Expr}{t:TA}{p pos:Pos}(F:FnOk X.prog X.w X.K X.mg X.base CX0 j f fd ps sp)(hr:Room k X.A)(D:bC X.K X.mg x st ps f fd)(ha:PA X (e::es) t)(hj:j<=k:=by first |decide|omega)(hg:Gl X x:=by rfl)(hx:Passes CX0 X E:=by exact pass0)(hdb:(x==("__debug__":Str))=false:=by decide)(he:starEach (e::es) X.env=(false,eval e X.env)::starEach es X.env:=by rfl)(hpl:(backTo pos (starEach es X.env)).any (·.1)=false:=by rfl):PE X (.Call (.Name x p) (e::es) [] pos) (tCall sp [] E t):=pe_call (F.mono hj) hr hg D.m D.F.kp D.b .nil hx ha hdb he hpl
theorem fsc{N P:List Str}{sc:Scope}(a:sc.kind= .function:=by rfl)(b:sc.isCoroutine=false:=by rfl)(c:sc.isGenerator=false:=by rfl)(d:N.Nodup:=by decide+kernel)(e:N.take P.length=P:=by rfl)(f:∀x∈P,sc.names.lookup x=some .local\/sc.names.lookup x=some .cell:=by decide+kernel)(g:∀y∈sc.names,y.2≠.free:=by decide+kernel):FnScope N P sc:=⟨a,b,c,d,e,f,g⟩
theorem Fun.bZ{P:ξ}{w:τ}{K:W.Frag}{mg:L5}{base:Heap}{x qual:Str}{st:Stmt}{f:Addr}{fd:ρ}{ps:List Str}{k:Nat}{sp:Sp}(F:Fun K x qual st f fd)(N:List Str)(hb:∀(cdv:ζ) (A:Around) (outer:List Env) (s:η) (H:Hp) (vs:List V) (Q:VK) (E:XK),Room k (A.deeper (PyProof.Rows.envOfC qual (defScope st) s.heap.objs.size f cdv))->sp vs H Q E->
   ∃t,PSs (cxOf CX0 P w K mg base N qual (defScope st) f cdv A outer s H E).nox (defBody st) t/\t {nx:=fun _ H'=>Q .non H',rt:=Q} (start N vs) H)(S:FnScope N ps (defScope st):=by exact fsc)(len:∀vs H Q E,sp vs H Q E->vs.length=ps.length:=by intro _ _ _ _ h;repeat(first |(obtain⟨rfl,_⟩:=h;rfl)|obtain⟨_,h⟩:=h)):FnOk P w K mg base CX0 (k+1) f fd ps sp:=F.ok S len hb
theorem aM{H:Hp}{p:Addr}(h:H p=none)(o:HO):Same H (upd H p o):=fun b u q=>by rw[cW (sH q h)];exact q
end L2
namespace oJ
open PySem L2
noncomputable def fW:θ->Bool
 | .int _=>true
 |_=>false
noncomputable def bR(n:Int):θ->Bool
 | .int i=>decide (0<=i)&&decide (i<n)
 |_=>false
noncomputable def intD:θ->Int
 | .int i=>i
 |_=>0
noncomputable def kids:θ->List θ
 | .tuple ds=>ds
 |_=>[]
noncomputable def dM(ns:List Int):Bool:=(List.range (ns.length-1)).all fun k=>decide (ns.getD k 0<ns.getD (k+1) 0)
noncomputable def dh(ts:List (List Int)):Bool:=(List.range (ts.length-1)).all fun k=>HT.lexLt (ts.getD k []) (ts.getD (k+1) [])
noncomputable def gW(n:Int):θ->Bool
 | .tuple ds=>ds.all (bR n)&&dM (ds.map intD)
 |_=>false
noncomputable def nQ(n:Int)(d:θ):Bool:=gW n d&&decide ((kids d).length=2)
noncomputable def oX(n:Int):θ->Bool
 | .tuple ds=>ds.all (nQ n)&&dh (ds.map fun t=>(kids t).map intD)
 |_=>false
noncomputable def vD:θ->Bool
 | .tuple [n,t]=>fW n&&(decide (0<=intD n)&&decide (intD n<=10))&&oX (intD n) t
 |_=>false
theorem uq{n:Int}:∀{d:θ},bR n d=true->∃i,d= .int i/\0<=i/\i<n
 | .int i,h=>⟨i,rfl,by simpa[bR]using h⟩
end oJ
namespace L2
open PySem PySem.Spec PyProof.Rows
section
variable{X:Cx}
theorem Cg(K:W.Frag)(h:X.K=K:=by rfl):IxR X (rIxT K):=by subst h;exact bD
theorem gA(K:W.Frag)(h:X.K=K:=by rfl):IxR X (rIxL K):=by subst h;exact kJ
theorem JD(K:W.Frag)(h:X.K=K:=by rfl):CallR X (.builtin "len") (fun xs H Q=>∃p ys,xs=[.ref p]/\(SqL K H p ys\/SqT K H p ys)/\(ys.length<=16777216->Q (.int ys.length) H)):=by subst h;exact vm
theorem GR(K:W.Frag)(hu:X.A.units<cLine)(h:X.K=K:=by rfl):OpR X (compareOp .Lt) (rLtT K):=by subst h;exact op_ltT hu
theorem JF(K:W.Frag)(h:X.K=K:=by rfl):CallR X (.builtin "isinstance") (fun xs H Q=>∃(x:V) (T C:String),xs=[x,.ty C]/\Ii K H x T/\(C="int"\/C="bool"\/C="tuple"\/C="list")/\Q (.bl (oE T C)) H):=by subst h;exact wR
theorem jM(K:W.Frag)(hu:X.A.units+64<cLine)(h:X.K=K:=by rfl):OpR X (compareOp .In) (fun x y H Q=>∃(p:Addr) (xs:List V) (ds:List θ) (dx:θ),y= .ref p/\(SqL K H p xs\/SqT K H p xs)/\cN K H xs ds/\DV K H x dx/\PyData.canLayAll0 ds=true/\dx.canLay0=true/\dx.depth<=60/\
  Q (.bl (ds.any fun d=>PyData.eqv d dx)) H):=by subst h;exact ur hu
theorem JN(K:W.Frag){es:List Expr}{k:Nat}{t:TGs}{n:Nat}{pos:Pos}(hc:X.calm=true)(h:PGs X es t)(hn:(assignEach es X.env).length=n:=by rfl)(hst:(assignEach es X.env).findIdx? (·.1)=none:=by rfl)(hK:X.K=K:=by rfl):PG X (.Tuple es k pos) (gTup K n t):=by subst hK;exact pg_tup hc h hn hst
end
end L2
namespace PySem
open Sem (wp)
open AutoSeq1 (wpAny_loadPart')
section
variable{prog:ξ}{w:τ}{A:Around}{E:L4}{s:η}
theorem mY{Q:List ζ->η->Prop}{r:Addr}{a b c:Int}{t u v:Tok}{n:Nat}(hh:A.handled=none)(hr:IsRange s.heap r a b c t u v)(hsmall:Builtin.Range.small a b c=true)(hn:Builtin.Range.rangeSize a b c=n)(hlen:n<=2^24)(hQ:∀h' tk acc,(∀b o',s.heap.get? b=some o'->h'.get? b=some o')->ItemsOf (fun i v=>∃t,v= .int (a+i*c) t) acc n->Q acc.toList {s with heap:=h',toks:=tk}):
  wpAny (model prog w) A (collect (.ref r)) Q E s:=by
 unfold collect;refine bK (wpAny_runValue (wda F.entry_proto_collect ?_));rw[Around.under_plainId F.plain_proto_collect _];show wpAny _ A.in1 (newList []>>=fun l=>again (.builtin "list.__iadd__" ⟨[l,.ref r],[]⟩)) _ _ s;refine bK (S8 ?_);refine gQ ⟨plainId_quiet F.plain_list_iadd _,wda F.entry_list_iadd ?_⟩;rw[Around.under_plainId F.plain_list_iadd _];show wpAny _ A.in1 (Builtin.List.listExtendWith (.ref s.heap.objs.size) (.ref r) (.ref s.heap.objs.size)) _ _ _;have hS:(s.heap.push {cls:= .type "list",data:= .seq ([]:List ζ).toArray}).get? s.heap.objs.size=some {cls:= .type "list",data:= .seq #[] 0}:=sJ _ rfl;have fin':∀h' tk acc' c',(∀b o,b≠s.heap.objs.size->(s.heap.push {cls:= .type "list",data:= .seq ([]:List ζ).toArray}).get? b=some o->h'.get? b=some o)->
   h'.get? s.heap.objs.size=some {cls:= .type "list",dict:=none,data:= .seq acc' c',slots:=#[]}->ItemsOf (fun i v=>∃t,v= .int (a+i*c) t) acc' n->wpAny (model prog w) A (match Value.ref s.heap.objs.size with
   |Value.ref a=>do
    match(<-load a).data with
     |Data.seq xs _=>pure xs.toList
     |_=>unsupported "internal:collect"
   |_=>unsupported "internal:collect") Q E {s with heap:=h',toks:=tk}:=fun h' tk acc' c' hk hS' hacc=>by
  show wpAny _ A (load s.heap.objs.size>>=_) _ _ _;refine bK (wpAny_load hS' ?_);refine gQ ?_;exact hQ h' tk acc' (fun b o e=>hk b o (iZ (fV e)) (kZ _ e)) hacc
 refine Ut (wpAny_extend_range (A:=A) (R:=fun r s'=>r= .ok (.ret (.ref s.heap.objs.size))/\∃h' tk acc' c',s'={s with heap:=h',toks:=tk}/\(∀b o,b≠s.heap.objs.size->(s.heap.push {cls:= .type "list",data:= .seq ([]:List ζ).toArray}).get? b=some o->h'.get? b=some o)/\
   h'.get? s.heap.objs.size=some {cls:= .type "list",dict:=none,data:= .seq acc' c',slots:=#[]}/\ItemsOf (fun i v=>∃t,v= .int (a+i*c) t) acc' n) (s:={s with heap:=s.heap.push {cls:= .type "list",data:= .seq ([]:List ζ).toArray}}) hh (kZ _ hr) hsmall hn hlen s.heap.objs.size (.ref s.heap.objs.size) 0 hS (fun h' tk acc' c' hk hS' hacc=>⟨rfl,h',tk,acc',c',rfl,hk,hS',hacc⟩)) (fun fin s' h=> ?_) (fun e s' h=> ?_)
 ·cases fin with
  |done f=>
   obtain⟨e,h',tk,acc',c',rfl,h1,h2,h3⟩:=h;cases e;exact fin' h' tk acc' c' h1 h2 h3
  |again c'=>exact⟨h.1,Yt h.2 fun r s'' hr=>by obtain⟨rfl,h',tk,acc',c',rfl,h1,h2,h3⟩:=hr;exact fin' h' tk acc' c' h1 h2 h3⟩
 ·exact absurd h.1 (by simp)
end
theorem j7(r:Addr)(a b c:Int)(t u v:Tok)(n:Nat)(hsmall:Builtin.Range.small a b c=true)(hn:Builtin.Range.rangeSize a b c=n)(hlen:n<=2^24):
  Meets (Builtin.«tuple.__new__» ⟨[.type "tuple",.ref r],[]⟩)
   (fun A R s=>A.handled=none/\IsRange s.heap r a b c t u v/\∀(h':Heap) tk acc,(∀b o',s.heap.get? b=some o'->h'.get? b=some o')->ItemsOf (fun i v=>∃t,v= .int (a+i*c) t) acc n->R (.ok (.ret (.ref h'.objs.size))) {s with heap:=h'.push {cls:= .type "tuple",data:= .seq acc},toks:=tk}):=
 .of_wp fun prog w A R s h=>by
  obtain⟨hp,g,d,tk,os⟩:=s;obtain⟨hh,ht,h⟩:=h;have hsub:=sub_tuple_self;have hinit:=init_tuple_lookup;have hmh:=madeHere_tuple;have hT:Shared.TypeIs ⟨hp,g,d,tk,os⟩ (.ref r) "range":=⟨_,ht,rfl⟩
  wp_walk using wpAny_loadPart' ht,wpAny_typeOf hT,mY (A:=A.in1) hh ht hsmall hn hlen
  intro h' tk' acc hk hacc;show wpAny _ _ (Builtin.Tuple.tupleExact acc.toList.toArray>>=fun v=>ret v) _ _ _;unfold Builtin.Tuple.tupleExact;refine bK (S8 ?_ (by show acc.toList.toArray.size<=sizeLine;rw[gR];simp;rw[hacc.1];omega));refine gQ ⟨_,rfl,?_⟩;have e:acc.toList.toArray=acc:=by simp
  rw[e];exact h h' tk' acc hk hacc
section
variable{prog:ξ}{w:τ}{A:Around}{E:L4}{s:η}
theorem qO{Q:L4}{r:Addr}{a b c:Int}{t u v:Tok}{n:Nat}(hh:A.handled=none)(hr:IsRange s.heap r a b c t u v)(hsmall:Builtin.Range.small a b c=true)(hn:Builtin.Range.rangeSize a b c=n)(hlen:n<=2^24)(h:∀(h':Heap) tk acc,(∀b o',s.heap.get? b=some o'->h'.get? b=some o')->ItemsOf (fun i v=>∃t,v= .int (a+i*c) t) acc n->Q (.ref h'.objs.size) {s with heap:=h'.push {cls:= .type "tuple",data:= .seq acc},toks:=tk}):
  wpAny (model prog w) A (call (.type "tuple") [.ref r]) Q E s:=
 callType_new F.called_tuple (by decide) (F.typeCall_tuple_1 _) (F.newCall_tuple_1 _) (fun obj=>F.args_object_init_2 obj _) F.entry_tuple_new
  (j7 r a b c t u v n hsmall hn hlen) ⟨hh,hr,fun h' tk acc hk hacc=>⟨⟨_,sJ _ rfl,rfl⟩,h h' tk acc hk hacc⟩⟩
end
end PySem
namespace L2
open PySem PySem.Spec PyProof.Rows
section
variable{X:Cx}{p p' pos pos':Pos}{a:Expr}{ta:TA}
noncomputable def cZ(n:Nat):List V:=(List.range n).map fun(k:Nat)=>V.int (k:Int)
noncomputable def YG(ta:TA):TE:=fun σ H Q=>ta σ H fun vs H1=>∃j:Int,vs=[.int j]/\0<=j/\j<=16777216/\∀l,H1 l=none->Q (.ref l) (upd H1 l (.tup (cZ j.toNat)))
theorem tM:∀{n:Nat} {us:List ζ},us.length=n->(∀(j:Nat) (u:ζ),us[j]? =some u->∃t:Tok,u=Value.int (0+((j:Nat):Int)*1) t)->Vals (cZ n) us:=by
 intro n us hl hi;have go:∀(us:List ζ) (k:Nat),(∀(j:Nat) (u:ζ),us[j]? =some u->∃t:Tok,u=Value.int (0+((j+k:Nat):Int)*1) t)->Vals ((List.range' k us.length).map fun(k:Nat)=>V.int (k:Int)) us:=by
  intro us
  induction us with
  |nil=>intro k _;exact .nil
  |cons u us ih=>
   intro k h;obtain⟨t,e⟩:=h 0 u rfl;refine .cons ⟨t,?_⟩ (ih (k+1) fun j u' hj=> ?_)
   ·rw[e];congr 1;omega
   ·obtain⟨t',e'⟩:=h (j+1) u' (by simpa using hj);refine⟨t',?_⟩;rw[e'];congr 1;omega
 have:=go us 0 (fun j u hj=>by obtain⟨t,e⟩:=hi j u hj;exact⟨t,by rw[e];rfl⟩);unfold cZ;rw[List.range_eq_range',<-hl];exact this
theorem zY(hc:X.calm=true)(ZD:Gl X "tuple")(Zu:X.mg "tuple"=none)(hg:Gl X "range")(hm:X.mg "range"=none)(ha:PA X [a] ta)(hs:starEach [a] X.env=[(false,eval a X.env)]:=by rfl)(hs2:starEach [Expr.Call (.Name "range" p') [a] [] pos'] X.env=[(false,eval (Expr.Call (.Name "range" p') [a] [] pos') X.env)]:=by rfl):
  PE X (.Call (.Name "tuple" p) [.Call (.Name "range" p') [a] [] pos'] [] pos) (YG ta):=by
 intro pins s σ H Q I h;refine Uw (ld_blt I ZD Zu (show bootBuiltins "tuple"=some (.type "tuple")from by decide+kernel) ?_ (by decide) (by decide));refine Py ?_ hs2 rfl;rw[hs2];refine wbr ?_;refine Call_ (ld_blt I hg hm Ym (Py (thn (ha pos' pins s σ H _ I h) fun us s1 ⟨vs,H1,I1,r1,q1⟩=> ?_) hs rfl));obtain⟨j,e,q1,q2,q⟩:=q1;subst e;cases r1 with
 |cons r rr=>
  cases rr;obtain⟨t,rfl⟩:=r;refine call_range_1 ?_;refine wca ?_;have hn:Builtin.Range.rangeSize 0 j 1=((j.toNat:Nat):Int):=by rw[wdy];split<;>omega
  refine qO (I.ok.hd hc) (wez ..) (small_one (by decide) (by decide) (by omega) (by omega)) hn (by omega) fun h' tk acc hk hacc=> ?_;have I2:Inv X pins σ H1 {s1 with heap:=h',toks:=tk}:=I1.kept fun b o e=>hk b o (kZ _ e);have hv:Vals (cZ j.toNat) acc.toList:=tM (by rw[Um];exact hacc.1) (fun i u hu=>hacc.2 i u (by simpa using hu));have hz:(cZ j.toNat).length<=sizeLine:=by unfold cZ;rw[gR];simp;omega
  have I3:Inv X pins σ (upd H1 h'.objs.size (.tup (cZ j.toNat))) {s1 with heap:=h'.push {cls:= .type "tuple",data:= .seq acc},toks:=tk}:=
   I2.laid (t':=tk) (fun b o e=>kZ _ e) (aX _) (show ObjOk X.prog X.w _ _ _ (.tup (cZ j.toNat))from⟨hz,acc.toList,hv,by rw[show acc=acc.toList.toArray by simp];exact Ur _ _⟩)
  exact⟨.ref h'.objs.size,_,I3,rfl,q _ (I2.hok.fresh (aX _))⟩
open Classical in
theorem qz(hu:X.A.units+64<cLine):OpR X (compareOp .NotIn) (fun x y H Q=>∃(p:Addr) (xs:List V) (ds:List θ) (dx:θ),y= .ref p/\(SqL X.K H p xs\/SqT X.K H p xs)/\cN X.K H xs ds/\DV X.K H x dx/\PyData.canLayAll0 ds=true/\dx.canLay0=true/\dx.depth<=60/\
  Q (.bl (!(ds.any fun d=>PyData.eqv d dx))) H):=by
 intro pins s σ H x y v u Q I rx ry h;obtain⟨p,xs,ds,dx,rfl,hq,hds,hx,ca,cb,hd,q⟩:=h;cases ry;obtain⟨bs,rb⟩:=DV.reads I hx rx;have key:∀{its:List ζ},Vals xs its->(∀y∈its,SeqAt.EqAt X.A.in1 s y v (decide (∃d as,Reads s.heap y d as/\d∈ds/\PyData.eqv d dx=true)))/\(its.any fun y=>decide (∃d as,Reads s.heap y d as/\d∈ds/\PyData.eqv d dx=true))=ds.any fun d=>PyData.eqv d dx:=by
  intro its rv;obtain⟨as,ra⟩:=cN.reads I hds rv;have each:∀{us:List ζ} {es:List θ} {as:List Addr},ReadsAll s.heap us es as->(∀e∈es,e∈ds)->(∀y∈us,SeqAt.EqAt X.A.in1 s y v (decide (∃d as,Reads s.heap y d as/\d∈ds/\PyData.eqv d dx=true)))/\(us.any fun y=>decide (∃d as,Reads s.heap y d as/\d∈ds/\PyData.eqv d dx=true))=es.any fun d=>PyData.eqv d dx:=by
   intro us
   induction us with
   |nil=>intro es as h _;cases h;exact⟨(fun y hy=>(nomatch hy)),rfl⟩
   |cons y us ih=>
    intro es as h hs;cases h with
    | @cons _ _ d ds' as' bs' r rr=>
     obtain⟨i1,i2⟩:=ih rr fun e he=>hs e (iG _ he);have cl:=Fl ca d (hs d iW);have e:decide (∃d as,Reads s.heap y d as/\d∈ds/\PyData.eqv d dx=true)=PyData.eqv d dx:=by
      rw[v9,Px];constructor
      ·rintro⟨d',as'',r',_,q'⟩;obtain⟨rfl,_⟩:=(PySem.Reads.unique r _ _ r');exact q'
      ·intro q';exact⟨d,_,r,hs d iW,q'⟩
     refine⟨fun z hz=> ?_,?_⟩
     ·rcases cY.mp hz with rfl|hz
      ·rw[e];exact SeqAt.eqAt_reads d dx _ s _ _ _ _ r rb cl cb (by show X.A.units+1+min d.depth dx.depth<cLine;omega)
      ·exact i1 z hz
     ·rw[Xg,Xg,i2,e]
  exact each ra fun e he=>he
 rcases hq with hq|hq
 ·obtain⟨its,r,pl,hz⟩:=I.list hq;obtain⟨k1,k2⟩:=key r;refine SeqAt.notIn_listAt _ pl.isList (fun w hw=>k1 w (by simpa using hw)) ⟨.bl _,H,I,rfl,?_⟩;rw[show∀f:ζ->Bool,its.toArray.any f=its.any f from fun f=>by simp,k2];exact q
 ·obtain⟨its,r,pl,hz⟩:=I.tuple hq;obtain⟨k1,k2⟩:=key r;refine SeqAt.notIn_tupleAt _ pl (fun w hw=>k1 w (by simpa using hw)) ⟨.bl _,H,I,rfl,?_⟩;rw[show∀f:ζ->Bool,its.toArray.any f=its.any f from fun f=>by simp,k2];exact q
end
end L2
namespace PySem
open Sem (wp)
open Builtin
open AutoSeq1 (wpAny_loadPart')
theorem qF:fillsNumberSlot (.type "tuple") "mul"=pure false:=
 fillsNumberSlot_seq (id:="tuple.__mul__") (r:=some (.builtin "tuple.__rmul__")) F.slot_tuple_mul.lookup (by decide+kernel) F.slot_tuple_rmul.lookup (by decide+kernel)
theorem xK:seqRepeat? (.type "tuple")=pure (some (.builtin "tuple.__mul__")):=by
 unfold seqRepeat?;rw[seqSlot_of (T:="tuple") (name:="__mul__") (id:="tuple.__mul__") F.slot_tuple_mul.lookup (by decide+kernel),seqSlot_of (T:="tuple") (name:="__rmul__") (id:="tuple.__rmul__") F.slot_tuple_rmul.lookup (by decide+kernel)];rfl
theorem yq(a:Int)(t:Tok)(l:Addr)(items:Array ζ)(n:Nat)(d:Option Addr)(sl:Array (Option ζ)):
  Meets (Builtin.«int.__rmul__» ⟨[.int a t,.ref l],[]⟩) (fun _ R s=>s.heap.get? l=some {cls:= .type "tuple",dict:=d,data:= .seq items n,slots:=sl}/\R (.ok (.ret Value.notImplemented)) s):=
 .of_wp fun prog w A R s h=>by obtain⟨hp,g,d,tk,os⟩:=s;obtain⟨hl,h⟩:=h;wp_walk;exact⟨_,rfl,h⟩
theorem tup_mul_1(l:Addr)(items:Array ζ)(n:Nat)(d:Option Addr)(sl:Array (Option ζ))(x:Int)(u:Tok)(hx:x=1):
  Meets (Builtin.«tuple.__mul__» ⟨[.ref l,.int x u],[]⟩) (fun _ R s=>s.heap.get? l=some {cls:= .type "tuple",dict:=d,data:= .seq items n,slots:=sl}/\R (.ok (.ret (Value.ref l))) s):=
 .of_wp fun prog w A R s h=>by
  subst hx;obtain⟨hp,g,d,tk,os⟩:=s;obtain⟨hl,h⟩:=h;have f1:=wej
  wp_walk using wpAny_loadPart' hl;exact⟨_,rfl,h⟩
theorem tup_mul_0(l:Addr)(items:Array ζ)(n:Nat)(d:Option Addr)(sl:Array (Option ζ))(x:Int)(u:Tok)(hx:x<=0)(hlo: -(2^63)<=x)(hne:items.isEmpty=false):
  Meets (Builtin.«tuple.__mul__» ⟨[.ref l,.int x u],[]⟩) (fun _ R s=>s.heap.get? l=some {cls:= .type "tuple",dict:=d,data:= .seq items n,slots:=sl}/\R (.ok (.ret (Value.ref s.heap.objs.size))) {s with heap:=s.heap.push {cls:=Value.type "tuple",data:=Data.seq #[]},toks:=s.toks}):=
 .of_wp fun prog w A R s h=>by
  obtain⟨hp,g,d,tk,os⟩:=s;obtain⟨hl,h⟩:=h;have f1:=wej;have c1:¬((decide (x< -(2^63))||decide (x≥2^63))=true):=by simp;omega
  have c2:¬((items.isEmpty||x==1)=true):=by rw[hne];simp;omega
  have c3:(decide (x<=0)||items.isEmpty)=true:=by rw[hne];simp;omega
  wp_walk using wpAny_loadPart' hl;rw[aA c1];wp_walk using wpAny_loadPart' hl;rw[aA c2];wp_walk using wpAny_loadPart' hl;exact⟨_,rfl,h⟩
theorem IV(l:Addr)(items:Array ζ)(n:Nat)(d:Option Addr)(sl:Array (Option ζ))(x:Int)(u:Tok)(hx:1<x)(hhi:x<2^63)(hne:items.isEmpty=false)(hsz:items.size*x.toNat<=1000):
  Meets (Builtin.«tuple.__mul__» ⟨[.ref l,.int x u],[]⟩) (fun _ R s=>s.heap.get? l=some {cls:= .type "tuple",dict:=d,data:= .seq items n,slots:=sl}/\R (.ok (.ret (Value.ref s.heap.objs.size))) {s with heap:=s.heap.push {cls:=Value.type "tuple",data:=Data.seq (List.foldl (fun x1 x2=>x1++x2) #[] (List.replicate x.toNat items))},toks:=s.toks}):=
 .of_wp fun prog w A R s h=>by
  obtain⟨hp,g,d,tk,os⟩:=s;obtain⟨hl,h⟩:=h;have f1:=wej;have c1:¬((decide (x< -(2^63))||decide (x≥2^63))=true):=by simp;omega
  have c2:¬((items.isEmpty||x==1)=true):=by rw[hne];simp;omega
  have c3:¬((decide (x<=0)||items.isEmpty)=true):=by rw[hne];simp;omega
  have hxs:(items.size:Int)*x=((items.size*x.toNat:Nat):Int):=by rw[Ug,yeg (by omega)]
  have c4:¬((items.size:Int)*x>(2^63-1)/8):=by rw[hxs];omega
  have c5:¬(Builtin.Tuple.tupleTooMany ((items.size:Int)*x)=true):=by
   rw[hxs];intro z;have z':((items.size*x.toNat:Nat):Int)>(sizeLine:Int):=fX z;have:=gR;generalize items.size*x.toNat=m at *;omega
  have htake:(List.foldl (fun x1 x2=>x1++x2) #[] (List.replicate x.toNat items)).size<=sizeLine:=by
   have e:List.foldl (fun x1 x2=>x1++x2) #[] (List.replicate x.toNat items)=(List.replicate x.toNat items.toList).flatten.toArray:=by
    have:=PyProof.Rows.listMul_foldl_if items x.toNat;rw[aA (by rw[hne];simp)]at this;exact this
   rw[e,iD];have:(List.replicate x.toNat items.toList).flatten.length=x.toNat*items.size:=by simp
   rw[this,Ud,gR];omega
  wp_walk using wpAny_loadPart' hl;rw[aA c1];wp_walk using wpAny_loadPart' hl;rw[aA c2];wp_walk using wpAny_loadPart' hl;rw[aA c3]
  try dsimp only
  rw[aA c4]
  try dsimp only
  rw[aA c5]
  try dsimp only
  unfold Builtin.Tuple.tupleExact;refine bK (S8 (gQ ?_) htake);exact⟨_,rfl,h⟩
end PySem
namespace L2
open PySem PySem.Spec PyProof.Rows
section
variable{X:Cx}{p p' pos pos':Pos}{a:Expr}{ta:TA}
theorem Vals.YZ{xs:List V}{us:List ζ}(h:Vals xs us):∀k:Nat,Vals (List.replicate k xs).flatten (List.replicate k us).flatten
 |0=> .nil
 |k+1=>by rw[Ul,Ul,Yg,Yg];exact h.append (Vals.YZ h k)
noncomputable def Y4(K:W.Frag):R2:=fun x y H Q=>∃a k xs,x= .ref a/\y= .int k/\SqT K H a xs/\xs≠[]/\ -(2^63)<=k/\k<2^63/\xs.length*k.toNat<=1000/\∀r H',Same H H'->SqT K H' r (List.replicate k.toNat xs).flatten->Q (.ref r) H'
theorem Qz:OpR X (binaryOp .Mult) (Y4 X.K):=by
 intro pins s σ H x y v u Q I rx ry h;obtain⟨a,k,xs,rfl,rfl,ha,hne,h1,h2,hz,q⟩:=h;cases rx;obtain⟨t,rfl⟩:=ry;obtain⟨its,r1,p1,_⟩:=I.tuple ha;obtain⟨⟨cls,dd,data,sl⟩,ho,hc,n,hd⟩:=id p1;simp only at hc hd;subst hc hd;have hlen:=r1.length;have hem:its.toArray.isEmpty=false:=by
  cases its with
  |nil=>cases r1;exact absurd rfl hne
  |cons _ _=>rfl
 have road:∀{S:PySem.Spec},Meets (Builtin.«tuple.__mul__» ⟨[.ref a,.int k t],[]⟩) S->S X.A (wants (EP X pins σ Q) X.xe) s->wpAny (model X.prog X.w) X.A (binaryOp .Mult (.ref a) (.int k t)) (EP X pins σ Q) X.xe s:=fun M hS=>
  wpAny_binaryOp_repeat_ref (T:="tuple") (U:="int") (by decide) ⟨_,ho,rfl⟩ (fun s'=>typeIs_int s' k t) qF F.fills_int_mul F.slot_int_rmul xK F.slot_int_index.lookup
   (Us F.slot_int_rmul (typeIs_int s k t) F.entry_int_rmul (F.args_int_rmul_2 _ _) (yq k t a its.toArray n dd sl)
    ⟨ho,rfl,⟨_,ho,rfl⟩,Us F.slot_tuple_mul ⟨_,ho,rfl⟩ F.entry_tuple_mul (F.args_tuple_mul_2 _ _) M hS⟩)
 by_cases c1:k=1
 ·refine road (tup_mul_1 a its.toArray n dd sl k t c1) ⟨ho,⟨.ref a,H,I,rfl,q a H (Same.refl _) ?_⟩⟩;subst c1;have:(List.replicate (1:Int).toNat xs).flatten=xs:=by simp
  rw[this];exact ha
 by_cases c0:k<=0
 ·refine road (tup_mul_0 a its.toArray n dd sl k t c0 h1 hem) ⟨ho,?_⟩;have e0:k.toNat=0:=by omega
  refine⟨.ref s.heap.objs.size,_,I.laid (t':=s.toks) (o:= .tup []) (fun b ob q=>kZ _ q) (aX _) ⟨dX _,[],.nil,Ur _ _⟩,rfl,q _ _ (fun c o e=>by rw[cW (sH e (I.hok.fresh (aX _)))];exact e) ?_⟩;rw[e0];exact SqT.of aB
 ·have hsz:its.toArray.size*k.toNat<=1000:=by rw[iD,<-hlen];exact hz
  refine road (IV a its.toArray n dd sl k t (by omega) h2 hem hsz) ⟨ho,?_⟩;have hnew:List.foldl (fun x1 x2=>x1++x2) #[] (List.replicate k.toNat its.toArray)=(List.replicate k.toNat its).flatten.toArray:=by
   have:=foldl_rep its k.toNat [];rw[List.nil_append]at this;exact this
  rw[hnew];have hz':(List.replicate k.toNat xs).flatten.length<=sizeLine:=by
   rw[len_rep,Ud];exact cT hz (by rw[gR];decide)
  refine⟨.ref s.heap.objs.size,_,I.laid (t':=s.toks) (o:= .tup (List.replicate k.toNat xs).flatten) (fun b ob q=>kZ _ q) (aX _) ⟨hz',_,Vals.YZ r1 k.toNat,Ur _ _⟩,rfl,q _ _ (fun c o e=>by rw[cW (sH e (I.hok.fresh (aX _)))];exact e) (SqT.of aB)⟩
noncomputable def YJ(ta:TA):TE:=fun σ H Q=>ta σ H fun vs H1=>∃j:Int,vs=[.int j]/\0<=j/\j<=16777216/\∀l,H1 l=none->Q (.ref l) (upd H1 l (.lst (cZ j.toNat)))
theorem g8(hc:X.calm=true)(ZD:Gl X "list")(Zu:X.mg "list"=none)(hg:Gl X "range")(hm:X.mg "range"=none)(ha:PA X [a] ta)(hs:starEach [a] X.env=[(false,eval a X.env)]:=by rfl)(hs2:starEach [Expr.Call (.Name "range" p') [a] [] pos'] X.env=[(false,eval (Expr.Call (.Name "range" p') [a] [] pos') X.env)]:=by rfl):
  PE X (.Call (.Name "list" p) [.Call (.Name "range" p') [a] [] pos'] [] pos) (YJ ta):=by
 intro pins s σ H Q I h;refine Uw (ld_blt I ZD Zu (show bootBuiltins "list"=some (.type "list")from by decide+kernel) ?_ (by decide) (by decide));refine Py ?_ hs2 rfl;rw[hs2];refine wbr ?_;refine Call_ (ld_blt I hg hm Ym (Py (thn (ha pos' pins s σ H _ I h) fun us s1 ⟨vs,H1,I1,r1,q1⟩=> ?_) hs rfl));obtain⟨j,e,q1,q2,q⟩:=q1;subst e;cases r1 with
 |cons r rr=>
  cases rr;obtain⟨t,rfl⟩:=r;refine call_range_1 ?_;refine wca ?_;have hn:Builtin.Range.rangeSize 0 j 1=((j.toNat:Nat):Int):=by rw[wdy];split<;>omega
  refine call_list_range (I.ok.hd hc) (wez ..) (small_one (by decide) (by decide) (by omega) (by omega)) hn (by omega) fun h' tk acc c hk hS hacc=> ?_;have hv:Vals (cZ j.toNat) acc.toList:=tM (by rw[Um];exact hacc.1) (fun i u hu=>hacc.2 i u (by simpa using hu));have hz:(cZ j.toNat).length<=sizeLine:=by unfold cZ;rw[gR];simp;omega
  have I2:Inv X pins σ H1 {s1 with heap:=s1.heap.push {cls:=Value.type "range",data:=Data.fields #[Value.int 0 s1.toks,Value.int j t,Value.int 1 (s1.toks+1)]},toks:=s1.toks+1+1}:=I1.kept fun b o e=>kZ _ e;exact⟨.ref _,_,I2.laid (t':=tk) (o:= .lst (cZ j.toNat)) hk (aX _) ⟨hz,acc.toList,c,hv,by simpa using hS⟩,rfl,q _ (I2.hok.fresh (aX _))⟩
end
end L2
namespace PySem
open Sem (wp)
open AutoSeq1 (wpAny_loadPart')
theorem yx(l:Addr)(items:Array ζ)(n:Nat)(dct:Option Addr)(sl:Array (Option ζ)):
  Meets (Builtin.«enumerate.__new__» ⟨[.type "enumerate",.ref l],[]⟩) (fun _ R s=>s.heap.get? l=some {cls:= .type "tuple",dict:=dct,data:= .seq items n,slots:=sl}/\
   R (.ok (.ret (.ref (s.heap.push {cls:= .type "tuple_iterator",data:= .fields #[.ref l,.int 0 0]}).objs.size)))
    {s with heap:=(s.heap.push {cls:= .type "tuple_iterator",data:= .fields #[.ref l,.int 0 0]}).push {cls:= .type "enumerate",data:= .fields #[.none,.bool false,.ref s.heap.objs.size,rawInt 0,.none,.none]}}):=
 .of_wp fun prog w A R s h=>by
  obtain⟨hp,g,d,tk,os⟩:=s;obtain⟨hl,h⟩:=h;have hsub:=sub_enumerate;have hL:Heap.IsTuple (Shared.heap ⟨hp,g,d,tk,os⟩) l items:=⟨_,hl,rfl,n,rfl⟩
  wp_walk using wpAny_loadPart' hl
  refine wpAny_stack_any fun st=>gQ ?_;split
  ·rename_i c _ _ _ _ _;cases(c==Value.type "enumerate")
   ·wp_walk using wpAny_loadPart' hl,wbu hL;exact⟨_,rfl,h⟩
   ·wp_walk using wpAny_loadPart' hl,wbu hL;exact⟨_,rfl,h⟩
  ·wp_walk using wpAny_loadPart' hl,wbu hL;exact⟨_,rfl,h⟩
section
variable{prog:ξ}{w:τ}{A:Around}{E:L4}{s:η}
theorem Dz{it t:Addr}{i:Nat}{items:Array ζ}{x:ζ}{Q:L4}(hit:s.heap.IsTupleIter it t i)(ht:s.heap.IsTuple t items)(hx:items[i]? =some x)(hQ:∀h',h'.IsTupleIter it t (i+1)->Heap.SameBut it s.heap h'->Q x {s with heap:=h'}):wpAny (model prog w) A (Builtin.SmallTypes.nextOf (.ref it)) Q E s:=by
 obtain⟨o,ho,hc,hd⟩:=id hit;obtain⟨ol,hol,_,nl,hdl⟩:=ht;unfold Builtin.SmallTypes.nextOf;refine bK (wpAny_callSpecial?_slot (name:=Str.ofString "__next__") hit.typeIs wbd (wci wbd hit.typeIs wdb ?_ (wcp _)));show wpAny _ _ (field (.ref it) 0>>=_) _ _ s;refine bK (wfa ho hd (x:= .ref t) rfl ?_);show wpAny _ _ (if(Value.ref t==Value.none)=true then _ else _) _ _ s;rw[aA (show¬((Value.ref t==Value.none)=true)from vG)];show wpAny _ _ (field (.ref it) 1>>=_) _ _ s;refine bK (wfa ho hd (x:= .int i 0) rfl ?_);show wpAny _ _ (seqItems? (.ref t)>>=_) _ _ s;refine bK (wpAny_seqItems hol hdl ?_);simp only[Ip,hx];refine bK (wpAny_setField ho hd (by simp) (gQ ⟨x,rfl,gQ (hQ _ ?_ (YB ..))⟩));exact⟨_,Heap.get?_update_self _ ho (Obj.isFreed_of_fields (Obj.data_mapFields hd _)),(Obj.cls_mapFields ..).trans hc,by rw[Obj.data_mapFields hd];simp[rawInt]⟩
theorem uy{it t:Addr}{i:Nat}{items:Array ζ}{Q:L4}(hh:A.handled=none)(hit:s.heap.IsTupleIter it t i)(ht:s.heap.IsTuple t items)(hx:items[i]? =none)(hE:∀h' e,Heap.ExtBut it s.heap h'->(∃o,h'.get? e=some o/\o.cls= .type "StopIteration")->E (.ref e) {s with heap:=h'}):wpAny (model prog w) A (Builtin.SmallTypes.nextOf (.ref it)) Q E s:=by
 obtain⟨o,ho,hc,hd⟩:=id hit;obtain⟨ol,hol,_,nl,hdl⟩:=ht;unfold Builtin.SmallTypes.nextOf;refine bK (wpAny_callSpecial?_slot (name:=Str.ofString "__next__") hit.typeIs wbd (wci wbd hit.typeIs wdb ?_ (wcp _)));show wpAny _ _ (field (.ref it) 0>>=_) _ _ s;refine bK (wfa ho hd (x:= .ref t) rfl ?_);show wpAny _ _ (if(Value.ref t==Value.none)=true then _ else _) _ _ s;rw[aA (show¬((Value.ref t==Value.none)=true)from vG)];show wpAny _ _ (field (.ref it) 1>>=_) _ _ s;refine bK (wfa ho hd (x:= .int i 0) rfl ?_);show wpAny _ _ (seqItems? (.ref t)>>=_) _ _ s;refine bK (wpAny_seqItems hol hdl ?_);simp only[Ip,hx];refine bK (wpAny_rule (bK (wpAny_setField ho hd (by simp) ?_)));show wpAny _ _ (newExc (.type "StopIteration") []>>=_) _ _ _;refine bK ?_;simp only[newExc,newTuple];refine bK (S8 ?_ (by size_fits));refine bK (m:=firstArgMember _ _) (wpAny_of_eq (a:=Value.none) (by first |rfl|(simp only[firstArgMember];rfl)) ?_);refine S8 ?_ (by size_fits);simp only[raiseNew];refine bK (wpAny_handled ?_);first |rw[show A.in1.handled=none from hh]|rw[hh]
 refine bK (gQ (wpAny_throw ?_));exact hE _ _ (((YB ..).extBut.push _).push _) ⟨_,sJ _ rfl,rfl⟩
end
theorem Draws.tup{prog:ξ}{w:τ}{A:Around}(hh:A.handled=none)(it l:Addr)(hne:l≠it)(items:Array ζ):
  Draws prog w A it [it,l] items.size (fun i v=>items[i]? =some v) (fun i h=>h.IsTupleIter it l i/\h.IsTuple l items) where
 live:=fun i h st=>by obtain⟨⟨o,e,_⟩,_⟩:=st;exact⟨o,e⟩
 frame:=fun i h h' st k=>⟨st.1.at fun o e=>k it (by simp) o e,st.2.at fun o e=>k l (by simp) o e⟩
 item:=fun i s Q E hi st hQ=>by
  have hx:items[i]? =some items[i]:=Array.getElem?_eq_getElem hi;exact Dz st.1 st.2 hx fun h' hit' hs=>hQ _ h' s.toks hx ⟨hit',st.2.at fun o e=>(hs.2 l hne).trans e⟩ hs
 done:=fun s Q E st hE=>uy hh st.1 st.2 (Array.getElem?_eq_none (aX _)) hE
section
variable{prog:ξ}{w:τ}{A:Around}{E:L4}{s:η}
theorem vN{l:Addr}{items:Array ζ}{Q:L4}(hL:s.heap.IsTuple l items)(h:∀h',IsEnum h' (s.heap.objs.size+1) s.heap.objs.size 0 .none->h'.IsTupleIter s.heap.objs.size l 0->h'.objs.size=s.heap.objs.size+2->(∀b o,s.heap.get? b=some o->h'.get? b=some o)->Q (.ref (s.heap.objs.size+1)) {s with heap:=h'}):
  wpAny (model prog w) A (call (.type "enumerate") [.ref l]) Q E s:=by
 obtain⟨⟨c,dct,dt,sl⟩,hl,hc,n,hd⟩:=hL;replace hc:c= .type "tuple":=hc;replace hd:dt= .seq items n:=hd;subst hc hd;refine callType_new F.called_enumerate (by decide) (F.typeCall_enumerate_1 _) (F.newCall_enumerate_1 _) (fun obj=>F.args_object_init_2 obj _) F.entry_enumerate_new (yx l items n dct sl) ⟨hl,?_⟩;have hz:(s.heap.push {cls:= .type "tuple_iterator",data:= .fields #[.ref l,.int 0 0]}).objs.size=s.heap.objs.size+1:=PX ..;show _/\_;rw[hz];have he:IsEnum ((s.heap.push {cls:= .type "tuple_iterator",data:= .fields #[.ref l,.int 0 0]}).push {cls:= .type "enumerate",data:= .fields #[.none,.bool false,.ref s.heap.objs.size,rawInt 0,.none,.none]}) (s.heap.objs.size+1) s.heap.objs.size 0 .none:=by
  have:=sJ (s.heap.push {cls:= .type "tuple_iterator",data:= .fields #[.ref l,.int 0 0]}) (o:={cls:= .type "enumerate",data:= .fields #[.none,.bool false,.ref s.heap.objs.size,rawInt 0,.none,.none]}) rfl;rw[hz]at this;exact this
 exact⟨⟨_,he,rfl⟩,h _ he ⟨_,kZ _ (sJ _ rfl),rfl,rfl⟩ (by rw[PX,hz]) fun b o x=>kZ _ (kZ _ x)⟩
end
end PySem
namespace L2
open PySem PySem.Spec PyProof.Rows
section
variable{X:Cx}{pins:L3}{σ:St}{H:Hp}{s:η}{h':Heap}
theorem Inv.wj{t':Nat}{fp:List Addr}{T:Addr}{o:HO}(I:Inv X pins σ H s)(k:∀b o,b∉fp->s.heap.get? b=some o->h'.get? b=some o)(hf:∀b∈fp,FpOk X pins H b)(hT:s.heap.objs.size<=T)(new:ObjOk X.prog X.w (upd H T o) h' T o):
  Inv X pins σ (upd H T o) {s with heap:=h',toks:=t'}:=by
 have hTn:H T=none:=I.hok.fresh hT;have Zc:∀b u,H b=some u->b∉fp:=fun b u e z=>by rw[(hf b z).1]at e;cases e
 have neT:∀b o,s.heap.get? b=some o->b≠T:=fun b o e=>iZ (mJ (fV e) hT);have Zd:∀b u,H b=some u->b≠T:=fun b u e z=>by rw[z,hTn]at e;cases e
 refine I.step (g':=s.gens) (d':=s.drawn) (ch:=fp) (fun b hb=> ?_) (fun b o _ _ hc e _=>k b o hc e) (fun b o _ _ hc e _=>⟨o.slots,k b o hc e⟩) (fun b o _ e n=>by rw[cW (neT b o e)];exact n)
  (fun b o hc e=>⟨o,k b o hc e⟩) (fun b xs e=>by rw[cW (Zd b _ e)];exact e) (fun b o u e=>by rw[cW (Zd b _ e)];exact e) (fun b ps e=>⟨#[],by rw[cW (Zd b _ e),e];simp⟩) (fun m hm=> ?_) (fun b u e=> ?_) I.bare
 ·obtain⟨f0,f1,f2,f3,f4,f5⟩:=hf b hb;exact⟨f3,f1,f4,f5⟩
 ·obtain⟨o,es,ep,ho,r⟩:=hm;exact⟨o,es,ep,k _ o (fun z=>(hf _ z).2.1 rfl) ho,r⟩
 ·by_cases hb:b=T
  ·subst hb;rw[aB]at e;cases e;exact new
  ·rw[cW hb]at e;refine(I.hok b u e).stay (fun c v hc q=>k c v ?_ q) (fun c q=>by rw[cW (Zd c _ q)];exact q) fun c xs q=>by rw[cW (Zd c _ q)];exact q
   rcases hc with z|z
   ·rw[z];exact Zc b u e
   ·exact Zc c _ z
theorem Inv.turns{t':Nat}{fp:List Addr}(I:Inv X pins σ H s)(k:∀b o,b∉fp->s.heap.get? b=some o->h'.get? b=some o)(hf:∀b∈fp,FpOk X pins H b):Inv X pins σ H {s with heap:=h',toks:=t'}:=by
 have Zc:∀b u,H b=some u->b∉fp:=fun b u e z=>by rw[(hf b z).1]at e;cases e
 refine I.step (g':=s.gens) (d':=s.drawn) (ch:=fp) (fun b hb=> ?_) (fun b o _ _ hc e _=>k b o hc e) (fun b o _ _ hc e _=>⟨o.slots,k b o hc e⟩) (fun b o _ e n=>n)
  (fun b o hc e=>⟨o,k b o hc e⟩) (fun b xs e=>e) (fun b o u e=>e) (fun b ps e=>⟨#[],by rw[e];simp⟩) (fun m hm=> ?_) (fun b u e=> ?_) I.bare
 ·obtain⟨f0,f1,f2,f3,f4,f5⟩:=hf b hb;exact⟨f3,f1,f4,f5⟩
 ·obtain⟨o,es,ep,ho,r⟩:=hm;exact⟨o,es,ep,k _ o (fun z=>(hf _ z).2.1 rfl) ho,r⟩
 ·refine(I.hok b u e).stay (fun c v hc q=>k c v ?_ q) (fun c q=>q) fun c xs q=>q;rcases hc with z|z
  ·rw[z];exact Zc b u e
  ·exact Zc c _ z
end
noncomputable def PJ(K:W.Frag)(b:Bool)(H:Hp)(a:Addr)(xs:List V):Prop:=match b with
 |false=>SqL K H a xs
 |true=>SqT K H a xs
noncomputable def Ite(K:W.Frag)(b:Bool)(a:Addr)(xs:List V):It:=
 ⟨fun i H=>PJ K b H a xs/\i<xs.length,fun i H x H'=>∃t v,x= .ref t/\H t=none/\H'=upd H t (.tup [.int (i:Int),v])/\xs[i]? =some v,fun i H=>PJ K b H a xs/\i=xs.length⟩
theorem Cy{P:ξ}{w:τ}{K:W.Frag}{es:List Expr}{k:Nat}{pos:Pos}(a e it:Addr)(xs:List V)(hne:e≠it):
  Turn P w K (.Tuple es k pos) (Ite K false a xs) [e,it] e (fun i h=>(∃old,IsEnum h e it (i:Int) old)/\h.IsListIter it a i) where
 mem:=by simp
 obj:=fun i h st b hb=>by
  obtain⟨⟨old,he⟩,o,e1,c,d⟩:=st;rcases cY.mp hb with z|hb
  ·subst z;exact⟨_,he,fun v z=>by cases z⟩
  ·have z:b=it:=by simpa using hb
   subst z;exact⟨o,e1,fun v z=>by rw[d]at z;cases z⟩
 keep:=fun i h h' st k=>⟨st.1.imp fun old he=>k e (by simp) _ he,st.2.at fun o e=>k it (by simp) o e⟩
 item:=by
  intro X hP hw hK hc i pins s σ H E I hf st hg;subst hP hw hK;obtain⟨hq0,hi⟩:=hg;have hq:SqL X.K H a xs:=hq0;obtain⟨its,rv,p,hz⟩:=I.list hq;have hx:xs[i]? =some xs[i]:=dF hi;obtain⟨u,hu,ru⟩:=rv.get hx;obtain⟨⟨old,he⟩,hit⟩:=st;refine wpAny_pyNext_enum_item he hit p.isList (x:=u) (by simpa using hu) hne fun h1 ho hit1 hT hsz hk=>⟨_,rfl,?_⟩;refine wpAny_letOwnedTupleGo_enum ho fun h2 he2 hs2=> ?_;have DW:Heap.SameBut e h1 h2:=hs2;have Zg:s.heap.objs.size≠e:=fun z=>absurd (fV he) (by rw[<-z];exact wV _);have keep:∀b o,b∉[e,it]->s.heap.get? b=some o->h2.get? b=some o:=fun b o hb q=>(DW.2 b fun z=>hb (by simp[z])).trans (hk b o (fun z=>hb (by simp[z])) (fun z=>hb (by simp[z])) q);have hT2:h2.get? s.heap.objs.size=some {cls:= .type "tuple",data:= .seq #[.int i s.toks,u]}:=(DW.2 _ Zg).trans hT;have I2:=I.wj (h':=h2) (t':=s.toks+1) (o:= .tup [.int (i:Int),xs[i]]) keep hf (aX _) ⟨(by show 2<=sizeLine;decide),[.int i s.toks,u],.cons ⟨_,rfl⟩ (.cons ru .nil),_,hT2,rfl,_,rfl⟩;exact⟨.ref s.heap.objs.size,_,I2,rfl,⟨_,_,rfl,I.hok.fresh (aX _),rfl,hx⟩,⟨⟨_,by simpa using he2⟩,hit1.at fun o q=>(DW.2 it hne.symm).trans q⟩,fun b hb=>by
   rw[cW (fun z=> ?_)]
   ·exact(hf b hb).1
   ·obtain⟨_,q1,_⟩:=hit;rcases cY.mp hb with y|y
    ·exact Zg (z.symm.trans y)
    ·have y:b=it:=by simpa using y
     rw[<-y,z]at q1;exact absurd (fV q1) (wV _)⟩
 done:=by
  intro X hP hw hK hc i pins s σ H E I hf st hg;subst hP hw hK;obtain⟨hq0,hi⟩:=hg;have hq:SqL X.K H a xs:=hq0;obtain⟨its,rv,p,hz⟩:=I.list hq;have hl:=rv.length;obtain⟨⟨old,he⟩,hit⟩:=st;exact wpAny_pyNext_enum_end (I.ok.hd hc) he hit p.isList (by simp;omega) fun h' eb=>⟨rfl,I.turns (t':=s.toks) (fp:=[e,it]) (fun b o hb q=>eb b o (fun z=>hb (by simp[z])) q) hf⟩
 self:=fun _ _ _ _ _ st h=>by
  obtain⟨⟨old,he⟩,_⟩:=st;exact wcf he h
theorem Cw{P:ξ}{w:τ}{K:W.Frag}{es:List Expr}{k:Nat}{pos:Pos}(a e it:Addr)(xs:List V)(hne:e≠it)(hat:a≠it)(hae:a≠e):
  Turn P w K (.Tuple es k pos) (Ite K true a xs) [e,it] e (fun i h=>(∃old,IsEnum h e it (i:Int) old)/\h.IsTupleIter it a i) where
 mem:=by simp
 obj:=fun i h st b hb=>by
  obtain⟨⟨old,he⟩,o,e1,c,d⟩:=st;rcases cY.mp hb with z|hb
  ·subst z;exact⟨_,he,fun v z=>by cases z⟩
  ·have z:b=it:=by simpa using hb
   subst z;exact⟨o,e1,fun v z=>by rw[d]at z;cases z⟩
 keep:=fun i h h' st k=>⟨st.1.imp fun old he=>k e (by simp) _ he,st.2.at fun o e=>k it (by simp) o e⟩
 item:=by
  intro X hP hw hK hc i pins s σ H E I hf st hg;subst hP hw hK;obtain⟨hq0,hi⟩:=hg;have hq:SqT X.K H a xs:=hq0;obtain⟨its,rv,p,hz⟩:=I.tuple hq;have hx:xs[i]? =some xs[i]:=dF hi;obtain⟨u,hu,ru⟩:=rv.get hx;obtain⟨⟨old,he⟩,hit⟩:=st;have hl:=rv.length;have pt:s.heap.IsTuple a its.toArray:=p;have D:=Draws.tup (prog:=X.prog) (w:=X.w) (A:=X.A.in1) (I.ok.hd hc) it a hat its.toArray;refine wpAny_pyNext_enum_itemD D he ⟨hit,pt⟩ (by simp;omega) hne (by simp;exact⟨hne,fun z=>hae z.symm⟩) fun y h1 tk hy ho aa5 hT hsz hk=>⟨_,rfl,?_⟩;have ey:y=u:=by
   have hu':its.toArray[i]? =some u:=by simpa using hu
   rw[hu']at hy;exact(sU hy).symm
  subst ey;refine wpAny_letOwnedTupleGo_enum ho fun h2 he2 hs2=> ?_;have DW:Heap.SameBut e h1 h2:=hs2;have Zg:s.heap.objs.size≠e:=fun z=>absurd (fV he) (by rw[<-z];exact wV _);have keep:∀b o,b∉[e,it]->s.heap.get? b=some o->h2.get? b=some o:=fun b o hb q=>(DW.2 b fun z=>hb (by simp[z])).trans (hk b o (fun z=>hb (by simp[z])) (fun z=>hb (by simp[z])) q);have hT2:h2.get? s.heap.objs.size=some {cls:= .type "tuple",data:= .seq #[.int i tk,y]}:=(DW.2 _ Zg).trans hT;have I2:=I.wj (h':=h2) (t':=tk+1) (o:= .tup [.int (i:Int),xs[i]]) keep hf (aX _) ⟨(by show 2<=sizeLine;decide),[.int i tk,y],.cons ⟨_,rfl⟩ (.cons ru .nil),_,hT2,rfl,_,rfl⟩;exact⟨.ref s.heap.objs.size,_,I2,rfl,⟨_,_,rfl,I.hok.fresh (aX _),rfl,hx⟩,⟨⟨_,by simpa using he2⟩,aa5.1.at fun o q=>(DW.2 it hne.symm).trans q⟩,fun b hb=>by
   rw[cW (fun z=> ?_)]
   ·exact(hf b hb).1
   ·obtain⟨_,q1,_⟩:=hit;rcases cY.mp hb with y|y
    ·exact Zg (z.symm.trans y)
    ·have y:b=it:=by simpa using y
     rw[<-y,z]at q1;exact absurd (fV q1) (wV _)⟩
 done:=by
  intro X hP hw hK hc i pins s σ H E I hf st hg;subst hP hw hK;obtain⟨hq0,hi⟩:=hg;have hq:SqT X.K H a xs:=hq0;obtain⟨its,rv,p,hz⟩:=I.tuple hq;have hl:=rv.length;obtain⟨⟨old,he⟩,hit⟩:=st;have pt:s.heap.IsTuple a its.toArray:=p;have ei:i=its.toArray.size:=by rw[iD];omega
  subst ei;have D:=Draws.tup (prog:=X.prog) (w:=X.w) (A:=X.A.in1) (I.ok.hd hc) it a hat its.toArray;exact wpAny_pyNext_enum_endD D he ⟨hit,pt⟩ fun h' eb=>⟨rfl,I.turns (t':=s.toks) (fp:=[e,it]) (fun b o hb q=>eb b o (fun z=>hb (by simp[z])) q) hf⟩
 self:=fun _ _ _ _ _ st h=>by
  obtain⟨⟨old,he⟩,_⟩:=st;exact wcf he h
section
variable{X:Cx}{es:List Expr}{k:Nat}{Qw:Pos}
noncomputable def Zn(K:W.Frag)(ta:TA):TI:=fun σ H R=>ta σ H fun vs H1=>∃(b:Bool) (a:Addr) (xs:List V),vs=[.ref a]/\PJ K b H1 a xs/\(xs.length<=sizeLine->R (Ite K b a xs) H1)
theorem pF{a:Expr}{ta:TA}{p pos:Pos}(hg:Gl X "enumerate")(hm:X.mg "enumerate"=none)(ha:PA X [a] ta)(hs:starEach [a] X.env=[(false,eval a X.env)]:=by rfl):
  PI X (.Tuple es k Qw) (.Call (.Name "enumerate" p) [a] [] pos) (Zn X.K ta):=by
 intro pins s σ H R I h;refine Call_ (ld_blt I hg hm (show bootBuiltins "enumerate"=some (.type "enumerate")from by decide+kernel) (Py (thn (ha pos pins s σ H _ I h) fun us s1 ⟨vs,H1,I1,r1,q1⟩=> ?_) hs rfl));obtain⟨b,l,xs,e,hq,q⟩:=q1;subst e;cases r1 with
 |cons r rr=>
  cases rr;cases r;cases b with
  |false=>
   obtain⟨its,rv,pl,hz⟩:=I1.list (show SqL X.K H1 l xs from hq);refine call_enumerate_list pl.isList fun h' he hit hsz hk=> ?_;refine wcf he ?_;have I2:Inv X pins σ H1 {s1 with heap:=h'}:=I1.kept (t':=s1.toks) hk;have hne:s1.heap.objs.size+1≠s1.heap.objs.size:=Nat.succ_ne_self _;refine⟨s1.heap.objs.size+1,[s1.heap.objs.size+1,s1.heap.objs.size],_,_,H1,rfl,I2,Cy l _ _ xs hne,⟨⟨_,he⟩,hit⟩,fun c hc=> ?_,q hz⟩;rcases cY.mp hc with z|z
   ·subst z;exact I1.fpOk (Pn _) (I1.hok.fresh (Pn _))
   ·have z:c=s1.heap.objs.size:=by simpa using z
    subst z;exact I1.fpOk (aX _) (I1.hok.fresh (aX _))
  |true=>
   obtain⟨its,rv,pl,hz⟩:=I1.tuple (show SqT X.K H1 l xs from hq);have pt:s1.heap.IsTuple l its.toArray:=pl;have hlt:l<s1.heap.objs.size:=by obtain⟨_,e,_⟩:=id pt;exact fV e
   refine vN pt fun h' he hit hsz hk=> ?_;refine wcf he ?_;have I2:Inv X pins σ H1 {s1 with heap:=h'}:=I1.kept (t':=s1.toks) hk;have hne:s1.heap.objs.size+1≠s1.heap.objs.size:=Nat.succ_ne_self _;refine⟨s1.heap.objs.size+1,[s1.heap.objs.size+1,s1.heap.objs.size],_,_,H1,rfl,I2,Cw l _ _ xs hne (iZ hlt) (iZ (vB hlt)),⟨⟨_,he⟩,hit⟩,fun c hc=> ?_,q hz⟩;rcases cY.mp hc with z|z
   ·subst z;exact I1.fpOk (Pn _) (I1.hok.fresh (Pn _))
   ·have z:c=s1.heap.objs.size:=by simpa using z
    subst z;exact I1.fpOk (aX _) (I1.hok.fresh (aX _))
end
theorem Oe{K:W.Frag}{b:Bool}{a:Addr}{xs:List V}{g:TG}{tb:TS}{D:Ends}{σ:St}{H:Hp}(Pv:Nat->St->Hp->Prop)(h0:Pv 0 σ H)(hl:∀i σ H,i<=xs.length->Pv i σ H->PJ K b H a xs)(hs:∀i v t σ H,xs[i]? =some v->Pv i σ H->H t=none->g (.ref t) σ (upd H t (.tup [.int (i:Int),v])) fun σ2 H2=>tb {D with nx:=Pv (i+1),ct:=Pv (i+1),bk:=D.nx} σ2 H2)(hd:∀σ H,Pv xs.length σ H->D.nx σ H):
  ∃W:Nat->Nat->St->Hp->Prop,(∃m,W 0 m σ H)/\∀i m σ H,W i m σ H->
   ((Ite K b a xs).stop i H/\D.nx σ H)\/((Ite K b a xs).go i H/\∃N:St->Hp->Prop,(∀σ' H',N σ' H'->∃m',m'<m/\W (i+1) m' σ' H')/\∀x H',(Ite K b a xs).yld i H x H'->g x σ H' fun σ2 H2=>tb {D with nx:=N,ct:=N,bk:=D.nx} σ2 H2):=by
 refine⟨fun i m σ H=>m=xs.length-i/\i<=xs.length/\Pv i σ H,⟨xs.length,by simp,dX _,h0⟩,?_⟩;rintro i m σ H ⟨rfl,hi,p⟩;have q:=hl i σ H hi p;by_cases e:i=xs.length
 ·subst e;exact .inl ⟨⟨q,rfl⟩,hd σ H p⟩
 ·refine .inr ⟨⟨q,by omega⟩,Pv (i+1),fun σ' H' w=>⟨xs.length-(i+1),by omega,rfl,by omega,w⟩,fun x H' y=> ?_⟩;obtain⟨t,v,rfl,ht,rfl,hv⟩:=y;exact hs i v t σ H hv p ht
section
variable{ini:St}{H:Hp}{g:TG}{tc:TT}{te:TE}{Fin:List V->Hp->Prop}{K:W.Frag}{b:Bool}{a:Addr}{xs:List V}
theorem mW(Pv:Nat->List V->St->Hp->Prop)(h0:Pv 0 [] ini H)(hl:∀(i:Nat) acc σ H,i<=xs.length->Pv i acc σ H->PJ K b H a xs)(hz:∀(i:Nat) acc σ H,i<=xs.length->Pv i acc σ H->acc.length<=i)(hx:xs.length<=sizeLine)(hs:∀(i:Nat) v t acc σ H,xs[i]? =some v->Pv i acc σ H->H t=none->g (.ref t) σ (upd H t (.tup [.int (i:Int),v])) fun σ2 H2=>tc σ2 H2 fun b H3=>if b=true then te σ2 H3 fun v H4=>Pv (i+1) (acc++[v]) σ2 H4 else Pv (i+1) acc σ2 H3)(hd:∀acc σ H,Pv xs.length acc σ H->Fin acc H):BR (Ite K b a xs) ini H g tc te Fin:=by
 refine⟨fun i m acc σ H=>m=xs.length-i/\i<=xs.length/\Pv i acc σ H,⟨xs.length,by simp,dX _,h0⟩,?_⟩;rintro i m acc σ H ⟨rfl,hi,p⟩;have q:=hl i acc σ H hi p;have z:=hz i acc σ H hi p;by_cases hlt:i<xs.length
 ·refine .inr ⟨⟨q,hlt⟩,by omega,fun acc σ H=>Pv (i+1) acc σ H,fun acc' σ' H' r=>⟨_,by omega,rfl,hlt,r⟩,fun x H' y=> ?_⟩;obtain⟨t,v,rfl,ht,rfl,hv⟩:=y;exact hs i v t acc σ H hv p ht
 ·have e:i=xs.length:=by omega
  subst e;exact .inl ⟨⟨q,rfl⟩,by omega,hd acc σ H p⟩
end
section
variable{X:Cx}{a:Expr}
theorem JG(K:W.Frag)(hc:X.calm=true)(h:X.K=K:=by rfl):CallR X (.builtin "any") (fun xs H Q=>∃(a:Addr) (bs:List Bool),xs=[.ref a]/\SqL K H a (bs.map V.bl)/\Q (.bl (bs.any id)) H):=by subst h;exact Bl hc
theorem LQ(K:W.Frag){tg l:Expr}{tl:TE}(hl:PE X l tl)(h:X.K=K:=by rfl):PI X tg l (TF K tl):=by subst h;exact BW hl
theorem zZ(K:W.Frag)(h:X.K=K:=by rfl):OpR X (binaryOp .Add) (Tt K):=by subst h;exact xV
theorem xQ(K:W.Frag)(hu:X.A.units+64<cLine)(h:X.K=K:=by rfl):OpR X (compareOp .NotEq) (fun x y H Q=>∃da db,DV K H x da/\DV K H y db/\da.canLay0=true/\db.canLay0=true/\min da.depth db.depth<=64/\Q (.bl (!PyData.eqv da db)) H):=by subst h;exact xR hu
end
theorem PJ.same{K:W.Frag}{b:Bool}{H H':Hp}{a:Addr}{xs:List V}(h:PJ K b H a xs)(e:Same H H'):PJ K b H' a xs:=by
 cases b with
 |false=>exact e.seq (show SqL K H a xs from h)
 |true=>exact e.tup (show SqT K H a xs from h)
theorem rm{s u:TS}{D:Ends}{σ:St}{H:Hp}(I:St->Hp->Prop)(h1:∀N:St->Hp->Prop,(∀σ' H',I σ' H'->N σ' H')->s {D with nx:=N} σ H)(h2:∀σ' H',I σ' H'->u D σ' H'):tSeq s u D σ H:=h1 (u D) h2
theorem En:∀(names:List (Str×NameKind)) (n:Nat) (acc:List (Str×Addr)) {x:Str} {c:Addr},(x,c)∈cellsFrom n names acc->(x,c)∈acc\/((x,NameKind.cell)∈names/\n<=c)
 |[],_,_,_,_,h=> .inl h
 |(nm,k)::r,n,acc,x,c,h=>by
  unfold cellsFrom at h;split at h
  ·rename_i hk;have ek:k=NameKind.cell:=by simpa using hk
   rcases En r _ _ h with q|⟨q,m⟩
   ·rcases cY.mp q with e|e
    ·cases e;subst ek;exact .inr ⟨iW,aX _⟩
    ·exact .inl e
   ·exact .inr ⟨iG _ q,by omega⟩
  ·rcases En r _ _ h with q|⟨q,m⟩
   ·exact .inl q
   ·exact .inr ⟨iG _ q,m⟩
theorem yG:∀(names:List (Str×NameKind)) (n:Nat) (acc:List (Str×Addr)) {p:Str×Addr},p∈acc->p∈cellsFrom n names acc
 |[],_,_,_,h=>h
 |(nm,k)::r,n,acc,p,h=>by
  unfold cellsFrom;split
  ·exact yG r _ _ (iG _ h)
  ·exact yG r _ _ h
theorem Ep:∀(names:List (Str×NameKind)) (n:Nat) (acc:List (Str×Addr)) {x:Str},(x,NameKind.cell)∈names->∃c,(x,c)∈cellsFrom n names acc
 |(nm,k)::r,n,acc,x,h=>by
  unfold cellsFrom;rcases cY.mp h with e|e
  ·cases e;rw[aF (show(NameKind.cell==NameKind.cell)=true from rfl)];exact⟨n,yG r _ _ iW⟩
  ·split
   ·exact Ep r _ _ e
   ·exact Ep r _ _ e
theorem Eo{n0:Nat}:∀(names:List (Str×NameKind)) (n:Nat) (acc:List (Str×Addr)),n0<=n->(∀x y c,(x,c)∈acc->(y,c)∈acc->n0<=c->x=y)->(∀x c,(x,c)∈acc->c<n)->∀x y c,(x,c)∈cellsFrom n names acc->(y,c)∈cellsFrom n names acc->n0<=c->x=y
 |[],_,_,_,h,_=>h
 |(nm,k)::r,n,acc,hn,h,hl=>by
  unfold cellsFrom;split
  ·refine Eo r (n+1) ((nm,n)::acc) (by omega) (fun x y c hx hy hc=> ?_) (fun x c hx=> ?_)
   ·rcases cY.mp hx with e1|e1<;>rcases cY.mp hy with e2|e2
    ·cases e1;cases e2;rfl
    ·cases e1;exact absurd (hl _ _ e2) (wV _)
    ·cases e2;exact absurd (hl _ _ e1) (wV _)
    ·exact h x y c e1 e2 hc
   ·rcases cY.mp hx with e1|e1
    ·cases e1;exact wW _
    ·exact vB (hl _ _ e1)
  ·exact Eo r n acc hn h hl
theorem yF:∀(names:List (Str×NameKind)) (h:Heap) (acc:List (Str×Addr)) {x:Str} {c:Addr},(x,c)∈cellsFrom h.objs.size names acc->(x,c)∈acc\/(pushCells h names).IsCell c none
 |[],_,_,_,_,h=> .inl h
 |(nm,k)::r,h,acc,x,c,hm=>by
  unfold cellsFrom at hm;unfold pushCells;split at hm
  ·rename_i hk;rw[aF hk];have hm':(x,c)∈cellsFrom (h.push {cls:= .type "cell",data:= .cell none}).objs.size r ((nm,h.objs.size)::acc):=by rw[PX];exact hm
   rcases yF r (h.push {cls:= .type "cell",data:= .cell none}) _ hm' with q|q
   ·rcases cY.mp q with e|e
    ·cases e;exact .inr ⟨_,wdc _ _ _ _ (sJ _ rfl),rfl⟩
    ·exact .inl e
   ·exact .inr q
  ·rename_i hk;rw[aA hk];exact yF r h acc hm
theorem Rh{M:Model}{A:Around}{E:L4}{s:η}{scope:Scope}{globals:Addr}{closure:List (Str×Addr)}{qual:Str}{env:Env}{Q:Env->η->Prop}(hQ:Q (newEnv scope s.heap.objs.size globals (cellsFrom (s.heap.objs.size+1) scope.names closure) qual none Value.none (some env) 0) {s with heap:=pushCells (s.heap.push {cls:= .type "dict",data:= .dict #[]}) scope.names}):
  wpAny M A (newFunctionEnv scope globals closure [] qual none .none (some env)) Q E s:=by
 simp only[newFunctionEnv,Option.isSome_some,if_true];refine bK (wpAny_alloc ?_);refine bK (wpAny_layCells _ (fun name kind cells=>by cases hkc:kind==NameKind.cell<;>simp[hkc]) _ _ _ _ ?_);rw[List.forIn_nil];refine bK (gQ (gQ ?_));rw[show({s with heap:=s.heap.push {cls:= .type "dict",data:= .dict #[]}}:η).heap.objs.size=s.heap.objs.size+1 from PX ..];exact hQ
noncomputable def aV(sc scope:Scope):Bool:=scope.names.all fun p=>(p.2 !=NameKind.cell||scope.names.lookup p.1==some NameKind.cell)&&(p.2 !=NameKind.local||scope.names.lookup p.1==some NameKind.local)&&
 (p.2 !=NameKind.free||(scope.names.lookup p.1==some NameKind.free&&(sc.names.lookup p.1==some NameKind.cell||sc.names.lookup p.1==some NameKind.free)))
section
variable{sc scope:Scope}
theorem aV.cell(h:aV sc scope=true){x:Str}(hy:(x,NameKind.cell)∈scope.names):scope.names.lookup x=some .cell:=by
 have q:=j4.mp h _ hy;simpa using q
theorem aV.names(h:aV sc scope=true):∀y∈scope.names,y.2= .local->scope.names.lookup y.1=some .local:=fun y hy e=>by
 have q:=j4.mp h y hy;simpa[e]using q
theorem aV.free(h:aV sc scope=true){x:Str}(hy:(x,NameKind.free)∈scope.names):scope.names.lookup x=some .free/\(sc.names.lookup x=some .cell\/sc.names.lookup x=some .free):=by
 have q:=j4.mp h _ hy;simpa using q
end
theorem zW{scope:Scope}{env:Env}{x:Str}(h:(relabel scope env).names.lookup x=some .cell\/(relabel scope env).names.lookup x=some .free):(x,NameKind.free)∈scope.names\/(x,NameKind.cell)∈scope.names:=by
 cases e:scope.names.lookup x with
 |none=>
  have q:=uf (env:=env) e;rcases h with h|h
  ·rw[show(relabel scope env).names.lookup x=none from q]at h;cases h
  ·rw[show(relabel scope env).names.lookup x=none from q]at h;cases h
 |some k=>
  have q:=ou (env:=env) e;have m:=J7 e;by_cases hk:k= .free
  ·subst hk;exact .inl m
  ·have q':(relabel scope env).names.lookup x=some k:=by
    refine Eq.trans q ?_;have:(k==NameKind.free)=false:=by simpa using hk
    simp[this]
   rw[q']at h;rcases h with h|h
   ·cases h;exact .inr m
   ·cases h;exact absurd rfl hk
noncomputable def bJ(X:Cx)(scope:Scope)(N:List Str)(s:η)(H:Hp)(cl:List (Str×Addr))(C:Addr)(ex:List Addr):Cx:=
 {X with N:=N,s₀:=s,H₀:=H,env:=compEnvC scope cl C X.env,outer:=X.stack,ex:=ex,fn:=fun x=>scope.names.lookup x==some NameKind.cell,pn:=[],xe:=fun _ _=>False}
section
variable{X:Cx}{tg iter elt:Expr}{ifs:List Expr}{scope:Scope}{pos:Pos}{own caps:List Str}{ix:List Nat}{g:TG}{tc:TT}{te:TE}
noncomputable abbrev JZ(X:Cx)(scope:Scope)(C:Addr):List (Str×Addr):=cellsFrom (C+1) scope.names (m5 X.env.cells scope.names [])
theorem yE{pins:L3}{s:η}{σ:St}{H:Hp}{C:Addr}(ck:aV X.env.scope scope=true)(I:Inv X pins σ H s){x:Str}{c:Addr}(e:(JZ X scope C).lookup x=some c):
  (X.env.cells.lookup x=some c/\(x,NameKind.free)∈scope.names)\/((x,NameKind.cell)∈scope.names/\C<c/\(x,c)∉m5 X.env.cells scope.names []):=by
 have old:(x,c)∈m5 X.env.cells scope.names []->X.env.cells.lookup x=some c/\(x,NameKind.free)∈scope.names:=fun q=>by
  rcases pY q with q|⟨q,mm⟩
  ·cases q
  ·obtain⟨d,hd⟩:=I.ok.has x (aV.free ck mm).2;rw[hd]at q;have q:c=d:=q;rw[q];exact⟨hd,mm⟩
 rcases En _ _ _ (J7 e)with q|⟨q,m⟩
 ·exact .inl (old q)
 ·refine .inr ⟨q,m,fun z=> ?_⟩;have h1:=aV.cell ck q;have h2:=(aV.free ck (old z).2).1;rw[h1]at h2;cases h2
theorem Bg{pins:L3}{s s':η}{σ:St}{H:Hp}{fp:List Addr}{C:Addr}{m:L5}(ck:aV X.env.scope scope=true)(hkind:scope.kind= .function)(hcap:jX X scope caps ix)
  (I:Inv X pins σ H s)(f2:∀b∈fp,FpOk X pins H b)(hlt:∀b∈fp,b<s.heap.objs.size)(hC:s.heap.objs.size<=C)(hos:s'.os=s.os)(hg:AllBare s'.gens)(hk:∀b o,s.heap.get? b=some o->s'.heap.get? b=some o)(hn:s'.heap.Ns C m)(hcl:∀x c,(JZ X scope C).lookup x=some c->(x,c)∉m5 X.env.cells scope.names []->s'.heap.IsCell c none):
  Inv (bJ X scope (own++caps) s H (JZ X scope C) C fp) [] (Ao own ix σ) H s':=by
 have cl1:=fun x c e=>yE (C:=C) (x:=x) (c:=c) ck I e;have GX:∀x c,X.env.cells.lookup x=some c->c<s.heap.objs.size:=fun x c e=>by
  obtain⟨v,o,ho,_⟩:=I.cell x c e;exact fV ho
 have cl2:∀x,(x,NameKind.free)∈scope.names\/(x,NameKind.cell)∈scope.names->∃c,(JZ X scope C).lookup x=some c:=fun x mm=>by
  rcases mm with mm|mm
  ·obtain⟨c,hc⟩:=Bj (cells:=X.env.cells) (acc:=[]) mm;obtain⟨d,hd,_⟩:=zbw (yG scope.names (C+1) _ hc);exact⟨d,hd⟩
  ·obtain⟨c,hc⟩:=Ep scope.names (C+1) (m5 X.env.cells scope.names []) mm;obtain⟨d,hd,_⟩:=zbw hc;exact⟨d,hd⟩
 have inj:∀x y c,(JZ X scope C).lookup x=some c->(JZ X scope C).lookup y=some c->x=y:=fun x y c h1 h2=>by
  rcases cl1 x c h1 with⟨q1,_⟩|⟨q1,m1,_⟩<;>rcases cl1 y c h2 with⟨q2,_⟩|⟨q2,m2,_⟩
  ·exact I.ok.inj x y c q1 q2
  ·exact absurd (R9 (mJ (GX x c q1) hC) m2) (wV _)
  ·exact absurd (R9 (mJ (GX y c q2) hC) m1) (wV _)
  ·refine Eo (n0:=C+1) scope.names (C+1) _ (aX _) (fun x y c hx hy hc=> ?_) (fun x c hx=> ?_) x y c (J7 h1) (J7 h2) m1
   ·obtain⟨d,hd,_⟩:=zbw hx;rcases pY hx with q|⟨q,mm⟩
    ·cases q
    ·obtain⟨d,hd⟩:=I.ok.has x (aV.free ck mm).2;rw[hd]at q;have q:c=d:=q;subst q;exact absurd (mJ (mJ (GX x c hd) hC) (dH hc)) (wV _)
   ·rcases pY hx with q|⟨q,mm⟩
    ·cases q
    ·obtain⟨d,hd⟩:=I.ok.has x (aV.free ck mm).2;rw[hd]at q;have q:c=d:=q;subst q;exact vB (mJ (GX x c hd) hC)
 have bsz:X.base.objs.size<=s.heap.objs.size:=cT I.ok.bsz I.sz;refine⟨⟨I.ok.mod,hkind,I.ok.glob,I.ok.blt,hC,inj,fun x hx=>cl2 x (zW hx),fun x c h e=> ?cab,I.ok.hd,I.ok.frames,.inl rfl,fun b hb=>⟨iZ (mJ (hlt b hb) hC),fun x c e=> ?exf⟩,I.bs,bsz,
  fun b o e hb=> ?_,fun b hb hz=> ?_,I.stack,I.stkFree⟩,?_,hg,Un.kept hk,⟨m,hn,fun i x v h1 h2 h3=> ?_⟩,fun x c e=> ?_,I.hok.fresh hC,fun x c e=> ?frc,fun p hp=>absurd (show p∈([]:L3)from hp) (by simp),I.hok.kept hk,?_⟩
 case cab=>
  rcases cl1 x c e with⟨_,q⟩|⟨_,q,_⟩
  ·have y1:=(aV.free ck q).1;have y2:(scope.names.lookup x==some NameKind.cell)=true:=h;rw[y1]at y2;exact absurd y2 (by decide)
  ·exact cT hC (dH q)
 case exf=>
  rcases cl1 x c e with⟨q,_⟩|⟨_,q,_⟩
  ·exact(f2 b hb).2.2.2.2.1 x c q
  ·exact way (iZ (R9 (mJ (hlt b hb) hC) q))
 case frc=>
  rcases cl1 x c e with⟨q,_⟩|⟨_,q,_⟩
  ·exact I.freeC x c q
  ·exact I.hok.fresh (cT hC (dH q))
 ·rcases(f2 b hb).2.2.2.1 with z|z
  ·exact I.ok.noex b o e z
  ·exact absurd (mJ (fV e) (cT I.ok.bsz z)) (wV _)
 ·rcases cY.mp (I.stkSub b hz)with z|z
  ·exact(f2 b hb).2.1 z
  ·exact(f2 b hb).2.2.1 z
 ·exact hos
 ·have h1:(own++caps)[i]? =some x:=h1;have h2:(own.map (fun _=>(none:Option V))++ix.map fun j=>(σ[j]?).join)[i]? =some (some v):=h2;by_cases hi:i<own.length
  ·rw[yef (by simpa using hi),dJ]at h2;cases e:own[i]? <;>rw[e]at h2<;>simp at h2
  ·rw[ydh (by simpa using hi)]at h2;rw[ydh (by omega)]at h1;rw[aJ]at h2;obtain⟨j,e1,e2,e3⟩:=hcap.get h1;rw[dJ,e1]at h2;have h2':(σ[j]?).join=some v:=by simpa using h2
   have h4:σ[j]? =some (some v):=by
    cases q:σ[j]? with
    |none=>rw[q]at h2';cases h2'
    |some w=>rw[q]at h2';exact lq some h2'
   obtain⟨m0,hn0,hl0⟩:=I.loc;have mm:=J7 e3;have vis:=(aV.free ck mm).2;obtain⟨u,r,l⟩:=hl0 j x v e2 h4 (.inr vis);refine⟨u,r,.inr ?_⟩;rcases l with⟨k,_⟩|⟨k,c,e,z⟩
   ·rcases vis with q|q
    ·rw[show X.env.kindOf x=some .cell from q]at k;cases k
    ·rw[show X.env.kindOf x=some .free from q]at k;cases k
   ·obtain⟨d,hd⟩:=cl2 x (.inl mm);rcases cl1 x d hd with⟨this,_⟩|⟨qc,_⟩
    ·rw[e]at this;cases this;exact⟨Dl e3,c,hd,z.keeps hk⟩
    ·have y1:=aV.cell ck qc;rw[e3]at y1;cases y1
 ·rcases cl1 x c e with⟨q,_⟩|⟨_,_,q⟩
  ·obtain⟨v,z⟩:=I.cell x c q;exact⟨v,z.keeps hk⟩
  ·exact⟨none,hcl x c e q⟩
 ·show(own.map (fun _=>(none:Option V))++ix.map fun j=>(σ[j]?).join).length=(own++caps).length;simp[hcap.len]
theorem uR(ck:aV X.env.scope scope=true)(hkind:scope.kind= .function)(hcap:jX X scope caps ix)(hc:X.calm=true)(hg:∀s H cl C ex,PG (bJ X scope (own++caps) s H cl C ex) tg g)(ht:∀s H cl C ex,T6 (bJ X scope (own++caps) s H cl C ex) ifs tc)(he:∀s H cl C ex,PE (bJ X scope (own++caps) s H cl C ex) elt te){pins:L3}{s2:η}{σ:St}{H2:Hp}{E:L4}(I2:Inv X pins σ H2 s2){it:Addr}{fp:List Addr}{tn:Nat->Heap->Prop}{J:It}(T:Turn X.prog X.w X.K tg J fp it tn)(st2:tn 0 s2.heap)(f2:∀b∈fp,FpOk X pins H2 b)
  {W:Nat->Nat->List V->St->Hp->Prop}{m0:Nat}(w0:W 0 m0 [] (Ao own ix σ) H2){Fin:List V->Hp->Prop}(turn:∀i m acc σ H,W i m acc σ H->(J.stop i H/\acc.length<=sizeLine/\Fin acc H)\/(J.go i H/\acc.length<sizeLine/\∃N:List V->St->Hp->Prop,(∀acc' σ' H',N acc' σ' H'->∃m',m'<m/\W (i+1) m' acc' σ' H')/\∀x H',J.yld i H x H'->g x σ H' fun σ2 H2=>tc σ2 H2 fun b H3=>
   if b=true then te σ2 H3 fun v H4=>N (acc++[v]) σ2 H4 else N acc σ2 H3))
  {RR:ζ->Addr->Result->η->Prop}(hRR:∀D C s' acc Hf m,Inv X pins σ (upd Hf D (.lst acc)) s'->Hf D=none->s'.heap.Ns C m->FpOk X pins (upd Hf D (.lst acc)) C->Fin acc Hf->RR (.ref D) C (.ok .next) s'):
  wpAny (model X.prog X.w) X.A (newList []) (fun acc s₃=>wpAny (model X.prog X.w) X.A (newFunctionEnv scope X.env.globals (m5 X.env.cells scope.names []) [] X.env.qual none .none (some X.env)) (fun cenv s₄=>
   codeAny (model X.prog X.w) X.A (.compStart (.ListComp elt [⟨tg,iter,ifs,0⟩] scope pos) 0 (.ref it) acc {cenv with scope:=relabel scope X.env}) (RR acc cenv.locals) s₄) E s₃) E s2:=by
 refine S8 (Rh ?_);generalize hP:s2.heap.push {cls:= .type "list",dict:=none,data:= .seq ([]:List ζ).toArray}=P1;have hC:P1.objs.size=s2.heap.objs.size+1:=by rw[<-hP,PX]
 have hlt:∀b∈fp,b<s2.heap.objs.size:=fun b hb=>by
  obtain⟨o,e,_⟩:=T.obj _ _ st2 b hb;exact fV e
 generalize hh1:pushCells (P1.push {cls:= .type "dict",data:= .dict #[]}) scope.names=h₁;have hns₁:h₁.Ns P1.objs.size (fun _=>none):=by rw[<-hh1];exact(Heap.Ns.new P1 (.type "dict")).keeps (wdc _ _)
 have old:∀b o,s2.heap.get? b=some o->h₁.get? b=some o:=fun b o e=>by
  rw[<-hh1];exact wdc _ _ b o (kZ _ (hP▸kZ _ e))
 have hD1:h₁.get? s2.heap.objs.size=some {cls:= .type "list",data:= .seq ([]:List ζ).toArray 0}:=by
  rw[<-hh1];exact wdc _ _ _ _ (kZ _ (hP▸sJ _ rfl))
 have ZF:∀x c,(JZ X scope P1.objs.size).lookup x=some c->(x,c)∉m5 X.env.cells scope.names []->h₁.IsCell c none:=fun x c e n=>by
  have e':(x,c)∈cellsFrom (P1.objs.size+1) scope.names (m5 X.env.cells scope.names []):=J7 e;rw[show P1.objs.size+1=(P1.push {cls:= .type "dict",data:= .dict #[]}).objs.size from(PX ..).symm]at e';rcases yF _ _ _ e' with q|q
  ·exact absurd q n
  ·rw[<-hh1];exact q
 show codeAny (model X.prog X.w) X.A (.compStart (.ListComp elt [⟨tg,iter,ifs,0⟩] scope pos) 0 (.ref it) (.ref s2.heap.objs.size) {newEnv scope P1.objs.size X.env.globals (JZ X scope P1.objs.size) X.env.qual none Value.none (some X.env) 0 with scope:=relabel scope X.env}) (RR (.ref s2.heap.objs.size) P1.objs.size) {s2 with heap:=h₁};generalize Rq:s2.heap.objs.size=D at *;rw[hC]at hns₁ ZF⊢;have entry:Inv (bJ X scope (own++caps) s2 H2 (JZ X scope (D+1)) (D+1) fp) [] (Ao own ix σ) H2 {s2 with heap:=h₁}:=
  Bg ck hkind hcap I2 f2 (by rw[Rq];exact hlt) (by rw[Rq];exact Pn _) rfl I2.bare old hns₁ ZF
 generalize hX':bJ X scope (own++caps) s2 H2 (JZ X scope (D+1)) (D+1) fp=X' at entry;have eP:X'.prog=X.prog:=by rw[<-hX'];rfl
 have ew:X'.w=X.w:=by rw[<-hX'];rfl
 have eK:X'.K=X.K:=by rw[<-hX'];rfl
 have eA:X'.A=X.A:=by rw[<-hX'];rfl
 have TY:X'.calm=true:=by rw[<-hX'];exact hc
 have efs:X'.fs=frs X.stack:=by rw[<-hX'];rfl
 have eex:X'.ex=fp:=by rw[<-hX'];rfl
 have epn:X'.pn=[]:=by rw[<-hX'];rfl
 have es0:X'.s₀=s2:=by rw[<-hX'];rfl
 have eH0:X'.H₀=H2:=by rw[<-hX'];rfl
 have exe:X'.xe=fun _ _=>False:=by rw[<-hX'];rfl
 have RM:X'.env=compEnvC scope (JZ X scope (D+1)) (D+1) X.env:=by rw[<-hX'];rfl
 have Om:X'.env.locals=D+1:=by rw[RM];rfl
 have hg':PG X' tg g:=by rw[<-hX'];exact hg _ _ _ _ _
 have ht':T6 X' ifs tc:=by rw[<-hX'];exact ht _ _ _ _ _
 have he':PE X' elt te:=by rw[<-hX'];exact he _ _ _ _ _
 have ecl:∀x c,X'.env.cells.lookup x=some c->c≠D:=fun x c e=>by
  rw[RM]at e;rcases yE (C:=D+1) ck I2 e with⟨q,_⟩|⟨_,q,_⟩
  ·obtain⟨v',o',ho',_⟩:=I2.cell x c q;exact iZ (by rw[<-Rq];exact fV ho')
  ·exact way (iZ (R9 (wW D) q))
 have dfs:D∉frs X.stack:=fun hb=>by
  rcases cY.mp (I2.stkSub D hb)with z|z
  ·exact absurd (Nat.lt_of_lt_of_eq I2.lt Rq) (by rw[z];exact wV _)
  ·exact I2.nofs (FQ Rq) z
 have fpn:∀{H':Hp} {o:Obj},(∀b∈fp,H' b=none)->∀b∈fp,FpOk X' [(D,o)] H' b:=fun{H' o} hn b hb=>by
  have hbl:=hlt b hb;refine⟨hn b hb,by rw[Om];exact iZ (vB hbl),?_,.inl (by rw[eex];exact hb),fun x c e=> ?_,fun p hp=> ?_⟩
  ·rw[efs];intro z;rcases cY.mp (I2.stkSub b z)with z|z
   ·exact(f2 b hb).2.1 z
   ·exact(f2 b hb).2.2.1 z
  ·rw[RM]at e;rcases yE (C:=D+1) ck I2 e with⟨q,_⟩|⟨_,q,_⟩
   ·exact(f2 b hb).2.2.2.2.1 x c q
   ·exact way (iZ (R9 (vB hbl) q))
  ·rw[epn]at hp;have:p=(D,o):=by simpa using hp
   rw[this];exact Ue hbl
 have aaI:∀{σ':St} {H':Hp} {s':η} {o:Obj},Inv X' [] σ' H' s'->s'.heap.get? D=some o->H' D=none->(∀v,o.data≠.cell v)->Inv X' [(D,o)] σ' H' s':=fun{σ' H' s' o} I e n d=>
  I.pins_of fun p hp=>by
   have:p=(D,o):=by simpa using hp
   subst this;exact⟨e,n,by rw[Om];exact iZ (wW D),by rw[efs];exact dfs,d⟩
 have loop:∀s₃:η,s₃={s2 with heap:=h₁}->
   codeAny (model X.prog X.w) X.A (.compLoop (.ListComp elt [⟨tg,iter,ifs,0⟩] scope pos) 0 (.ref it) (.ref D) X'.env) (RR (.ref D) (D+1)) s₃:=by
  intro s₃ hs₃;refine codeAny_loop rfl (fun n s'=>∃i acc its k σ' H',Inv X' [] σ' H' s'/\tn i s'.heap/\(∀b∈fp,H' b=none)/\s'.heap.get? D=some {cls:= .type "list",data:= .seq (List.toArray its) k}/\Vals acc its/\H' D=none/\W i n acc σ' H') ?_ m0
   ⟨0,[],[],0,Ao own ix σ,H2,by rw[hs₃];exact entry,by rw[hs₃];exact T.keep _ _ _ st2 fun b _ o e=>old b o e,fun b hb=>(f2 b hb).1,by rw[hs₃];exact hD1,.nil,I2.hok.fresh (FQ Rq),w0⟩
  rintro n s3 ⟨i,acc,its,k,σ3,H3,I3,st3,fr3,eD,rv,nD,w3⟩;show wpAny _ X.A ((compTurn (.ListComp elt [⟨tg,iter,ifs,0⟩] scope pos) 0 (.ref it) (.ref D) X'.env).onRaise (fun x=>do noteFrame x X'.env;theTreesLotGoes x)) _ _ s3;refine wpAny_noted ?_;rw[compTurn_list];have noE:∀{α:Type} {t:Sem α} {Q:α->η->Prop} {E':L4} {s:η},wpAny (model X'.prog X'.w) X'.A t Q X'.xe s->wpAny (model X.prog X.w) X.A t Q E' s:=fun{α t Q E' s} h=>by
   rw[eP,ew,eA,exe]at h;exact Ut h (fun _ _ q=>q) fun _ _ z=>z.elim
  have I3':=aaI (o:={cls:= .type "list",data:= .seq (List.toArray its) k}) I3 eD nD (fun v z=>by
   have z':Data.seq (List.toArray its) k=Data.cell v:=z;cases z')
  refine bK (Yw (bK ?_));rcases turn i n acc σ3 H3 w3 with⟨stop,hz,fin⟩|⟨go,hz,Nn,hN,step⟩
  ·have q:=T.done X' eP ew eK TY i [(D,_)] s3 σ3 H3 (notedBy (model X.prog X.w) X.A X'.env fun e s'=>RR (.ref D) (D+1) (.error e) s') I3' (fpn fr3) st3 stop;rw[eA]at q;refine thn q fun r s4 ⟨hr,I4⟩=> ?_;subst hr;refine gQ ?_;obtain⟨e4,_⟩:=I4.pin (D,_) (Iv _ iW);obtain⟨mC,hnC,_⟩:=I4.loc;have u4:=I4.base;rw[efs,eex,eH0,es0]at u4;have ok4:=I4.hok;rw[eP,ew]at ok4;have nC:H3 (D+1)=none:=by have:=I4.free;rw[Om]at this;exact this
   have hok:HOk X.prog X.w (upd H3 D (.lst acc)) s4.heap:=ok4.add nD ⟨hz,its,k,rv,e4⟩;refine hRR D (D+1) s4 acc H3 mC ?_ nD (by rw[Om]at hnC;exact hnC) ?_ fin
   ·refine I2.call' (s':=s4) (ch:=fp) ?_ (u4.add (by rw[Rq];exact aX _) nD) hok I4.bare fun b hb=> ?_
    ·have:=I4.os;rw[es0]at this;exact this
    ·obtain⟨f0,f1,f3,f4,f5,f6⟩:=f2 b hb;exact⟨f4,f1,f5,f6⟩
   ·refine I2.fpOk (by rw[Rq];exact Pn _) ?_;rw[cW (Ue (wW D))];exact nC
  ·have q:=T.item X' eP ew eK TY i [(D,_)] s3 σ3 H3 (notedBy (model X.prog X.w) X.A X'.env fun e s'=>RR (.ref D) (D+1) (.error e) s') I3' (fpn fr3) st3 go;rw[eA]at q;refine thn q fun r s4 ⟨u,hr,h4⟩=> ?_;subst hr;dsimp only;refine bK (thn h4 fun _ s5 ⟨x,H5,I5,r5,y5,st5,fr5⟩=> ?_);have I5':=I5.pinned (fpn fr5) (T.obj _ _ st5);have again:∀{σ7:St} {H7:Hp} {s7:η},Inv X' ([(D,{cls:= .type "list",data:= .seq (List.toArray its) k})]++pinsAt fp s5.heap) σ7 H7 s7->tn (i+1) s7.heap/\(∀b∈fp,H7 b=none)/\s7.heap.get? D=some {cls:= .type "list",data:= .seq (List.toArray its) k}/\H7 D=none:=fun{σ7 H7 s7} I7=>by
    refine⟨T.keep _ _ _ st5 fun b hb o e=>(I7.pin (b,o) (Iv _ (Iv _ (mem_pinsAt hb e)))).1,fun b hb=> ?_,?_⟩
    ·obtain⟨o,e,d⟩:=T.obj _ _ st5 b hb;exact(I7.pin (b,o) (Iv _ (Iv _ (mem_pinsAt hb e)))).2.1
    ·have:=I7.pin (D,_) (Iv _ (yed _ iW));exact⟨this.1,this.2.1⟩
   refine bK (thn (noE (hg' _ s5 σ3 H5 x u _ I5' r5 (step x H5 y5))) fun _ s6 ⟨σ6,H6,I6,q6⟩=> ?_);refine bK (thn (noE (ht' _ s6 σ6 H6 _ I6 q6)) fun ok s7 ⟨H7,I7,q7⟩=> ?_);cases ok with
   |false=>
    rw[aA vG]at q7;obtain⟨m',hm,w7⟩:=hN _ _ _ q7;obtain⟨a1,a2,a3,a4⟩:=again I7;exact gQ ⟨rfl,m',hm,i+1,acc,its,k,σ6,H7,I7.pins_of (fun p hp=>nomatch hp),a1,a2,a3,rv,a4,w7⟩
   |true=>
    rw[aF rfl]at q7;refine bK (bK (thn (noE (he' _ s7 σ6 H7 _ I7 q7)) fun v s8 ⟨y,H8,I8,r8,q8⟩=> ?_));obtain⟨m',hm,w8⟩:=hN _ _ _ q8;obtain⟨a1,a2,a3,a4⟩:=again I8;have hl:=rv.length;refine bK (Us F.slot_list_append ⟨_,a3,rfl⟩ F.entry_list_append (F.args_list_append_2 _ _) (PySem.list_append D its.toArray k v (by rw[iD];omega)) ⟨a3,?_⟩);refine gQ (gQ ⟨rfl,m',hm,i+1,acc++[y],its++[v],?_⟩);have qD:=PySem.IsL.update a3 (fun a:Array ζ=>a.push v);rw[List.push_toArray]at qD;have kp:∀b o,b≠D->s8.heap.get? b=some o->(s8.heap.update D (Obj.mapSeq fun a=>a.push v)).get? b=some o:=fun b o hb e=>(wby s8.heap _ (way hb)).trans e;have I8':Inv X' [] σ6 H8 {s8 with heap:=s8.heap.update D (Obj.mapSeq fun a=>a.push v)}:=by
     refine(I8.pins_of (pins':=[]) (fun p hp=>nomatch hp)).turned (t':=s8.toks) (it:=D) kp a4 (by rw[Om];exact iZ (wW D)) (.inr (by rw[es0,Rq];exact aX _)) (fun x c e=>ecl x c e) (fun p hp=> ?_);rw[epn]at hp;exact nomatch hp
    exact⟨_,σ6,H8,I8',T.keep _ _ _ a1 fun b hb o e=>kp b o (iZ (hlt b hb)) e,a2,qD,rv.append (.cons r8 .nil),a4,w8⟩
 have aae:({newEnv scope (D+1) X.env.globals (JZ X scope (D+1)) X.env.qual none Value.none (some X.env) 0 with scope:=relabel scope X.env}:Env)=X'.env:=by rw[RM];rfl
 have L:=loop _ rfl;rw[<-aae]at L;exact codeAny_compStart_list L (T.self X.A 0 _ _ _ (T.keep _ _ _ st2 fun b _ o e=>old b o e) L)
end
section
variable{X:Cx}{tg iter elt:Expr}{ifs:List Expr}{scope:Scope}{pos:Pos}{own caps:List Str}{ix:List Nat}{wi:TI}{g:TG}{tc:TT}{te:TE}
theorem LR(hc:X.calm=true)(hi:PI X tg iter wi)(ck:aV X.env.scope scope=true)(hkind:scope.kind= .function)(hcap:jX X scope caps ix)(hg:∀s H cl C ex,PG (bJ X scope (own++caps) s H cl C ex) tg g)(ht:∀s H cl C ex,T6 (bJ X scope (own++caps) s H cl C ex) ifs tc)(he:∀s H cl C ex,PE (bJ X scope (own++caps) s H cl C ex) elt te)(hs:∀x,foldedSetIterable iter X.env x=pure x:=by intro _;rfl):PE X (.ListComp elt [⟨tg,iter,ifs,0⟩] scope pos) (Gf wi own ix g tc te):=by
 intro pins s σ H Q I h;rw[eval_ListComp];refine wpAny_comprehension_free (use:=none) rfl hs (uT fun x hx=>I.ok.has x ((aV.free ck hx).2)) hkind (aV.names ck) (thn (hi pins s σ H _ I h) fun xv s1 h1=>thn h1 fun itv s2 h2=> ?_);obtain⟨it,fp,tn,J,H2,e,I2,T,st2,f2,W,⟨m0,w0⟩,turn⟩:=h2;subst e;refine uR (RR:=fun acc C=>compPost (model X.prog X.w) X.A X.xe none (EP X pins σ Q) acc C) ck hkind hcap hc hg ht he I2 T st2 f2 w0 turn ?_;intro D C s' acc Hf m I' nD hn fC fin;refine⟨m,hn,fun h' sb=> ?_⟩;obtain⟨f0,f1,f3,f4,f5,f6⟩:=fC;exact⟨.ref D,_,I'.turned (t':=s'.toks) (it:=C) (fun b o hb e=>(sb.2 b hb).trans e) f0 f1 f4 f5 f6,rfl,fin D nD⟩
theorem pK{X:Cx}{tg iter elt:Expr}{ifs:List Expr}{scope:Scope}{pos:Pos}{wi:TI}{g:TG}{tc:TT}{te:TE}(own caps:List Str)(ix:List Nat)(hi:PI X tg iter wi)(hg:∀{s H cl C ex},PG (bJ X scope (own++caps) s H cl C ex) tg g)(ht:∀{s H cl C ex},T6 (bJ X scope (own++caps) s H cl C ex) ifs tc)(he:∀{s H cl C ex},PE (bJ X scope (own++caps) s H cl C ex) elt te)(hcap:jX X scope caps ix:=by repeat(first |exact jX.nil|refine jX.cons rfl rfl ?_))(hc:X.calm=true:=by rfl)(ck:aV X.env.scope scope=true:=by rfl)(hkind:scope.kind= .function:=by rfl)(hs:∀x,foldedSetIterable iter X.env x=pure x:=by intro _;rfl):PE X (.ListComp elt [⟨tg,iter,ifs,0⟩] scope pos) (Gf wi own ix g tc te):=LR hc hi ck hkind hcap (fun _ _ _ _ _=>hg) (fun _ _ _ _ _=>ht) (fun _ _ _ _ _=>he) hs
theorem zX{i:Nat}{y:Str}{py spos:Pos}(hN:X.N.Nodup)(hiN:X.N[i]? =some y)(hx:Loc X.env.scope y)(hc:X.calm=true)(hi:PI X tg iter wi)(ck:aV X.env.scope scope=true)(hkind:scope.kind= .function)(hcap:jX X scope caps ix)(hg:∀s H cl C ex,PG (bJ X scope (own++caps) s H cl C ex) tg g)(ht:∀s H cl C ex,T6 (bJ X scope (own++caps) s H cl C ex) ifs tc)(he:∀s H cl C ex,PE (bJ X scope (own++caps) s H cl C ex) elt te)(hsw:swapsWith (.ListComp elt [⟨tg,iter,ifs,0⟩] scope pos) (some (.Name y py)) spos.line X.env=pure true:=by rfl)(hf:X.fn y=true\/X.env.scope.names.lookup y=some .local:=by first |exact .inl rfl|exact .inr rfl|assumption)(hs:∀x,foldedSetIterable iter X.env x=pure x:=by intro _;rfl):PS X (.Assign [.Name y py] (.ListComp elt [⟨tg,iter,ifs,0⟩] scope pos) spos) (tAsg (Gf wi own ix g tc te) (gName i)):=by
 intro pins s σ H Dn I h;rw[exec_Assign_Name_used _ _ _ _ hsw];refine bK (Yw (bK ?_));show wpAny _ X.A (do let _<-comprehension (.ListComp elt [⟨tg,iter,ifs,0⟩] scope pos) scope X.env _ (newList []) false (eval iter X.env) (some (assign (.Name y py) X.env))) _ _ s;refine bK (Ut (wpAny_comprehension_free (use:=some (assign (.Name y py) X.env)) (Q:=fun _ s'=>SP X pins Dn .next s') rfl hs (uT fun x hx=>I.ok.has x ((aV.free ck hx).2)) hkind (aV.names ck)
  (thn (hi pins s σ H _ I h) fun xv s1 h1=>thn h1 fun itv s2 h2=> ?_)) (fun _ s' hq=>gQ (gQ hq)) fun _ _ e=>e)
 obtain⟨it,fp,tn,J,H2,e,I2,T,st2,f2,W,⟨m0,w0⟩,turn⟩:=h2;subst e;refine uR (RR:=fun acc C=>compPost (model X.prog X.w) X.A X.xe (some (assign (.Name y py) X.env)) (fun _ s'=>SP X pins Dn .next s') acc C) ck hkind hcap hc hg ht he I2 T st2 f2 w0 turn ?_;intro D C s' acc Hf m I' nD hn fC fin;obtain⟨f0,f1,f3,f4,f5,f6⟩:=fC;show wpAny _ X.A (assign (.Name y py) X.env (.ref D)) _ _ _;refine wpAny_assign_Name (store_ok2 I' hN hiN hx (show RelV (.ref D) (.ref D)from rfl) (fun s'' I'' ⟨a,sb,ha⟩=> ?_) hf);have hCa:C≠a:=by
  rcases ha with ha|ha
  ·rw[ha];exact f1
  ·exact fun z=>f5 y a ha z.symm
 refine⟨m,hn.sameBut sb hCa,fun h' sb'=> ?_⟩;exact⟨_,_,I''.turned (t':=s''.toks) (it:=C) (fun b o hb e=>(sb'.2 b hb).trans e) f0 f1 f4 f5 f6,fin D nD⟩
theorem pX{X:Cx}{tg iter elt:Expr}{ifs:List Expr}{scope:Scope}{pos:Pos}{wi:TI}{g:TG}{tc:TT}{te:TE}{y:Str}{py spos:Pos}(i:Nat)(own caps:List Str)(ix:List Nat)(hi:PI X tg iter wi)(hg:∀{s H cl C ex},PG (bJ X scope (own++caps) s H cl C ex) tg g)(ht:∀{s H cl C ex},T6 (bJ X scope (own++caps) s H cl C ex) ifs tc)(he:∀{s H cl C ex},PE (bJ X scope (own++caps) s H cl C ex) elt te)(hcap:jX X scope caps ix:=by repeat(first |exact jX.nil|refine jX.cons rfl rfl ?_))(hc:X.calm=true:=by rfl)(ck:aV X.env.scope scope=true:=by rfl)(hkind:scope.kind= .function:=by rfl)(hN:decide X.N.Nodup=true:=by kernel_rfl)(hi_:X.N[i]? =some y:=by rfl)(hx:Loc X.env.scope y:=by first |exact Or.inl rfl|exact Or.inr rfl)(hsw:swapsWith (.ListComp elt [⟨tg,iter,ifs,0⟩] scope pos) (some (.Name y py)) spos.line X.env=pure true:=by rfl)(hf:X.fn y=true\/X.env.scope.names.lookup y=some .local:=by first |exact .inl rfl|exact .inr rfl|assumption)(hs:∀x,foldedSetIterable iter X.env x=pure x:=by intro _;rfl):PS X (.Assign [.Name y py] (.ListComp elt [⟨tg,iter,ifs,0⟩] scope pos) spos) (tAsg (Gf wi own ix g tc te) (gName i)):=zX (fX hN) hi_ hx hc hi ck hkind hcap (fun _ _ _ _ _=>hg) (fun _ _ _ _ _=>ht) (fun _ _ _ _ _=>he) hsw hf hs
end
end L2
namespace uW
open PySem PySem.W PyProof.Rows PySem.Calls
section
variable{prog:ξ}{w:τ}{A:Around}{E:L4}{s:η}{O:KeyOrd}{key:Nat->O.α}{κ:SortKind}{vs:List ζ}
theorem Bh{t:Addr}{Q:List ζ->η->Prop}(ht:s.heap.IsTuple t vs.toArray)(h:Q vs {s with heap:=(s.heap.push (seqObj "list" #[] 0)).update s.heap.objs.size (Obj.mapSeq (· ++vs.toArray))})(hz:vs.length<=sizeLine):
  wpAny (model prog w) A (collect (.ref t)) Q E s:=by
 obtain⟨o,ho,hc,n,hd⟩:=id ht;unfold collect;refine bK (wpAny_runValue (wda entry_proto_collect' ?_));show wpAny _ _ (do again (.builtin "list.__iadd__" ⟨[<-newList [],.ref t],[]⟩)) _ _ s;refine bK (wec (gQ ⟨Code.quiet_builtin _ (by decide+kernel),wda entry_list_iadd' ?_⟩));show wpAny _ _ (Builtin.List.listExtendWith (.ref s.heap.objs.size) (.ref t) (.ref s.heap.objs.size)) _ _ {s with heap:=s.heap.push (seqObj "list" #[] 0)};unfold Builtin.List.listExtendWith;have h1:(s.heap.push (seqObj "list" #[] 0)).get? t=some o:=kZ _ ho;have h2:(Value.type "tuple"==Value.type "tuple")=true:=by rfl
 refine bK (wpAny_typeOf (T:="tuple") ⟨o,h1,hc⟩ ?_);rw[aF (by rw[h2];simp)];refine bK (listItems_at h1 hd (bK (listItems_at (xs:=#[]) (n:=0) (sJ _ rfl) rfl ?_)));rw[aA (by simp)];refine bK (wea (xs:=#[]) (n:=0) (sJ _ rfl) rfl (gQ ?_) (dX _) (by show(#[]++vs.toArray).size<=sizeLine+1;simp only[Array.size_append,iD,Pq];omega));show wpAny (model prog w) A (load s.heap.objs.size>>=_) Q E {s with heap:=(s.heap.push (seqObj "list" #[] 0)).update s.heap.objs.size (Obj.mapSeq (· ++vs.toArray))};refine bK (wpAny_load (wcz (sJ _ rfl) _) ?_);show wpAny _ _ (pure ((#[]:Array ζ)++vs.toArray).toList) Q E _;have e:((#[]:Array ζ)++vs.toArray).toList=vs:=by simp
 rw[e];exact gQ h
theorem Dc{l:Addr}{Q:L4}(hl:s.heap.IsTuple l vs.toArray)(h64:vs.length<64)(hkind:2<=vs.length->∀h',(∀b o,s.heap.get? b=some o->h'.get? b=some o)->∀(E:L4) (Q:SortKind->η->Prop),Q κ {s with heap:=h'}->wpAny (model prog w) A.in1.in1 (keyKind' vs.toArray) Q E {s with heap:=h'})(Nr:2<=vs.length->∀h',(∀b o,s.heap.get? b=some o->h'.get? b=some o)->mF O key vs.length (kas_ask prog w A.in1.in1 κ vs) {s with heap:=h'})(h:∀D h' out c,O1 key vs out->s.heap.objs.size<=D->(∀b o,s.heap.get? b=some o->h'.get? b=some o)->h'.get? D=some (seqObj "list" (List.toArray out) c)->Q (.ref D) {s with heap:=h'}):
  wpAny (model prog w) A (call (.builtin "sorted") [.ref l]) Q E s:=by
 refine Calls.call_function_entry kind_sorted plain_sorted entry_sorted (args_sorted1 _) ?_;unfold Builtin.«sorted»;refine bK (m:=checkCount "sorted" 1 1 _) (gQ (bK (Bh hl (bK (wec ?_ (by rw[gR];omega))) (by rw[gR];omega))));have hsz:((s.heap.push (seqObj "list" #[] 0)).update s.heap.objs.size (Obj.mapSeq (· ++vs.toArray))).objs.size=s.heap.objs.size+1:=by
  rw[Heap.size_update,size_push']
 have hoL:(((s.heap.push (seqObj "list" #[] 0)).update s.heap.objs.size (Obj.mapSeq (· ++vs.toArray))).push (seqObj "list" vs.toArray 0)).get? (s.heap.objs.size+1)=some (seqObj "list" vs.toArray 0):=by
  rw[<-hsz];exact sJ _ rfl
 have keep:∀b o,s.heap.get? b=some o->(((s.heap.push (seqObj "list" #[] 0)).update s.heap.objs.size (Obj.mapSeq (· ++vs.toArray))).push (seqObj "list" vs.toArray 0)).get? b=some o:=fun b o q=>by
  have hlt:b<s.heap.objs.size:=fV q;rw[wcc _ _ _ (by rw[hsz];exact iZ (vB hlt)),Heap.get?_update_ne _ _ _ _ (iZ hlt),wcc _ _ _ (iZ hlt)];exact q
 have ne:∀b o,s.heap.get? b=some o->b≠s.heap.objs.size+1:=fun b o q=>iZ (vB (fV q));show wpAny _ _ _ _ _ {s with heap:=((s.heap.push (seqObj "list" #[] 0)).update s.heap.objs.size (Obj.mapSeq (· ++vs.toArray))).push (seqObj "list" vs.toArray 0)};rw[hsz];refine bK (Xp (wci slot_list_sort ⟨_,hoL,rfl⟩ entry_list_sort ?body (args_list_sort _)))
 case body=>
  refine nJ (key:=key) (κ:=κ) (s:={s with heap:=((s.heap.push (seqObj "list" #[] 0)).update s.heap.objs.size (Obj.mapSeq (· ++vs.toArray))).push (seqObj "list" vs.toArray 0)}) hoL h64
   (fun h2 h' k Q hq=>hkind h2 h' (fun b o q=>k b o (ne b o q) (keep b o q)) _ Q hq) (fun h2 h' k=>Nr h2 h' fun b o q=>k b o (ne b o q) (keep b o q)) fun h' out c ho k hc=> ?_
  exact⟨_,rfl,gQ ⟨_,rfl,h _ h' out c ho (Pn _) (fun b o q=>k b o (ne b o q) (keep b o q)) hc⟩⟩
end
end uW
namespace L2
open PySem PySem.W PySem.Spec PyProof.Rows
section
variable{X:Cx}
theorem yH:CallR X (.builtin "sorted") (fun xs H Q=>∃(a:Addr) (its:List (Addr×List Int)),xs=[.ref a]/\SqL X.K H a (its.map fun p=>V.ref p.1)/\(∀p∈its,SqT X.K H p.1 (p.2.map V.int)/\(2<=its.length->p.2≠[]))/\its.length<64/\
  ∀(l:Addr) (its':List (Addr×List Int)),H l=none->its'.Perm its->its'.Pairwise (fun p q=>HT.lexLt q.2 p.2=false)->Q (.ref l) (upd H l (.lst (its'.map fun p=>V.ref p.1)))):=by
 intro pins s σ H xs us Q I r h;obtain⟨a,its,rfl,hS,hT,h64,q⟩:=h;obtain⟨u,rfl,ru⟩:=r.one;cases ru;obtain⟨vs,rv,pl,hz⟩:=I.list hS;have hlen:its.length=vs.length:=by have:=rv.length;simpa using this
 -- the values beside the tuples
 have pr:Paired (fun(p:Addr×List Int) (v:ζ)=>v= .ref p.1) its vs:=by
  have go:∀(l:List (Addr×List Int)) (us:List ζ),Vals (l.map fun p=>V.ref p.1) us->Paired (fun(p:Addr×List Int) (v:ζ)=>v= .ref p.1) l us:=by
   intro l
   induction l with
   |nil=>intro us h;cases h;exact .nil
   |cons p l ih=>
    intro us h;cases h with
    |cons r t=>exact .cons r (ih _ t)
  exact go its vs rv
 have tup:∀p∈its,∃(items:List ζ),IntsAre items p.2/\IsTup s.heap p.1 items.toArray:=fun p hp=>by
  obtain⟨its',r',t',_⟩:=I.tuple (hT p hp).1;exact⟨its',T8 r',t'⟩
 refine uW.tV (O:=uW.lexOrd) (key:=fun i=>(its.getD i (0,[])).2) (κ:=tuples' true) (s:=s) pl.isList (by omega) (fun h2 h' k E' Q' hq=> ?_) (fun h2 h' k=> ?_) (fun D h' out c ho hD k hc=> ?_)
 ·have kt:∀(l:List (Addr×List Int)) (us:List ζ),Paired (fun(p:Addr×List Int) (v:ζ)=>v= .ref p.1) l us->(∀p∈l,p∈its)->∃fs:List ζ,KatTups h' us fs/\fs.length=us.length/\∀v∈fs,∃i t,v=Value.int i t:=by
   intro l us h
   induction h with
   |nil=>intro _;exact⟨[],trivial,rfl,fun _ hv=>nomatch hv⟩
   | @cons p v l us r t ih=>
    intro hs;obtain⟨fs,k1,k2,k3⟩:=ih fun p hp=>hs p (iG _ hp);obtain⟨items,hi,o,e,hc,n,hd⟩:=tup p (hs p iW);have hne:=(hT p (hs p iW)).2 (by omega);obtain⟨pa,pn⟩:=p;dsimp only at hi hne e r;cases hi with
    |nil=>exact absurd rfl hne
    |cons i t hi'=>
     rw[r];refine⟨Value.int i t::fs,KatTups.cons (k _ _ e) hc hd (by simp) k1,by simp[k2],fun v hv=> ?_⟩;rcases cY.mp hv with e|e
     ·exact⟨i,t,e⟩
     ·exact k3 v e
  obtain⟨fs,k1,k2,k3⟩:=kt its vs pr fun _ hp=>hp;refine kat_kind (s:={s with heap:=h'}) (T:= .type "int") k1 (by omega) (fun v hv=> ?_) (by rfl) hq;obtain⟨i,t,rfl⟩:=k3 v hv;exact fun A Q E s _ q=>gQ q
 ·intro i j C hi hj hC;rw[<-hlen]at hi hj;have get:∀i (hi:i<its.length),vs.getD i Value.none= .ref its[i].1:=by
   have go:∀(l:List (Addr×List Int)) (us:List ζ),Paired (fun(p:Addr×List Int) (v:ζ)=>v= .ref p.1) l us->∀i (hi:i<l.length),us.getD i Value.none= .ref l[i].1:=by
    intro l us h
    induction h with
    |nil=>intro i hi;simp at hi
    |cons r t ih=>
     intro i hi;cases i with
     |zero=>exact r
     |succ i=>simpa using ih i (by simpa using hi)
   exact go its vs pr
  unfold kas_ask;rw[get i hi,get j hj];obtain⟨xi,hxi,oi,ei,ci,ni,di⟩:=tup its[i] (Cd _);obtain⟨xj,TJ,oj,ej,cj,nj,dj⟩:=tup its[j] (Cd _);refine kat_lt (s:={s with heap:=h'}) (k _ _ ei) di (k _ _ ej) dj ?_;refine uW.uI 0 hxi TJ ?_ ?_
  ·have:=hxi.length;have:=TJ.length;simp only[iD];omega
  ·rw[HT.bY];have e1:its.getD i (0,[])=its[i]:=by simp[hi]
   have e2:its.getD j (0,[])=its[j]:=by simp[hj]
   have hC':C (decide ((its.getD i (0,[])).2<(its.getD j (0,[])).2)) {s with heap:=h'}:=hC;rw[e1,e2]at hC';exact hC'
 ·obtain⟨its',hp,hr,hw⟩:=uW.xP (d:=((0,[]):Addr×List Int)) (f:=fun p=>p.2) pr (fun i hi=>by show(its.getD i (0,[])).2=_;simp[hi]) ho;have hn:H D=none:=I.hok.fresh hD;have rv':Vals (its'.map fun p=>V.ref p.1) out:=by
   have go:∀(l:List (Addr×List Int)) (us:List ζ),Paired (fun(p:Addr×List Int) (v:ζ)=>v= .ref p.1) l us->Vals (l.map fun p=>V.ref p.1) us:=by
    intro l us h
    induction h with
    |nil=>exact .nil
    |cons r t ih=>exact .cons r ih
   exact go its' out hr
  have zl:(its'.map fun p=>V.ref p.1).length<=sizeLine:=by
   have:=hp.length_eq;rw[aJ];exact dH (small1000 (by omega))
  have J:Inv X pins σ (upd H D (.lst (its'.map fun p=>V.ref p.1))) {s with heap:=h',toks:=s.toks}:=I.laid k hD ⟨zl,out,c,rv',hc⟩;refine⟨.ref D,_,J,rfl,q D its' hn hp (hw.imp fun{x y} hxy=> ?_)⟩;rw[HT.bY];exact hxy
theorem Jf(K:W.Frag){a:Expr}{ta:TE}(ha:PE X a ta)(he:∀whole,isTrue a X.env whole=(do let v<-whole;standAt a.pos;holding [v] (truthy v)))(h:X.K=K:=by rfl):
  PT X a (fun σ H Q=>ta σ H fun x H'=>∃k,TruV K x H' k/\Q k H'):=by subst h;exact pt_truth ha he
end
end L2
namespace L2
open PySem PySem.Spec PyProof.Rows
mutual
def aaY:Nat->Expr->Option θ
 |0,_=>none
 |n+1,e=>match e with
  | .Constant (.int i) _ _=>some (.int i)
  | .Constant (.bool b) _ _=>some (.bool b)
  | .Constant .none _ _=>some .none
  | .Constant (.str x) _ _=>some (.str x)
  | .UnaryOp .USub (.Constant (.int i) _ _) _=>some (.int (-i))
  | .Tuple es _ _=>(M8 n es).map .tuple
  | .List es _=>(M8 n es).map .list
  | .Dict [] [] _=>some (.dict [])
  |_=>none
def M8:Nat->List Expr->Option (List θ)
 |0,_=>none
 |_+1,[]=>some []
 |n+1,e::es=>match aaY n e,M8 n es with
  |some d,some ds=>some (d::ds)
  |_,_=>none
end
section
variable{X:Cx}
theorem JC(hc:X.calm=true):CallR X (.builtin "min") (fun xs H Q=>∃(a:Addr) (ns:List Int),xs=[.ref a]/\SqL X.K H a (ns.map V.int)/\ns≠[]/\∀m∈ns,(∀n∈ns,m<=n)->Q (.int m) H):=by
 intro pins s σ H xs us Q I r h;obtain⟨a,ns,rfl,hS,hne,q⟩:=h;obtain⟨u,rfl,ru⟩:=r.one;cases ru;obtain⟨vs,rv,pl,hz⟩:=I.list hS;have hl:=pl.isList;have hlt:a<s.heap.objs.size:=by obtain⟨_,e,_⟩:=hl;exact fV e
 have hlen:=rv.length;rw[aJ]at hlen;have hI:∀(i:Nat) (v:ζ),vs.toArray[i]? =some v->∃t,v= .int (ns.getD i 0) t:=fun i v hv=>by
  have hv':vs[i]? =some v:=by simpa using hv
  have hi:i<ns.length:=by have:=(nF.mp hv').1;omega
  have hn:(ns.map V.int)[i]? =some (.int (ns.getD i 0)):=by rw[dJ,dF hi,lg,dF hi];rfl
  obtain⟨u,hu,ru⟩:=rv.get hn;rw[hv']at hu;cases hu;obtain⟨t,rfl⟩:=ru;exact⟨t,rfl⟩
 refine call_min_walk (wce hl ?_);refine⟨s.heap.objs.size,[s.heap.objs.size,a],[s.heap.objs.size],vs.toArray.size,_,_,_,rfl,Walks.list (A:=X.A.in1) (I.ok.hd hc) _ a (iZ hlt) vs.toArray,
  ⟨⟨_,sJ _ rfl,rfl,rfl⟩,hl.push _⟩,?_,?_,CmpOf.ints_lt (fun i=>ns.getD i 0) hI,fun v h' tk hP hk=> ?_⟩
 ·intro b hb;show b<(s.heap.push _).objs.size;rw[PX];rcases cY.mp hb with rfl|hb
  ·exact wW _
  ·rw[gY.mp hb];exact vB hlt
 ·rw[iD,<-hlen];exact List.length_pos_iff.mpr hne
 ·obtain⟨t,rfl⟩:=hI _ v hP;obtain⟨h1,h2⟩:=argBest_lt (fun i=>ns.getD i 0) (vs.toArray.size-1);have hn0:0<ns.length:=List.length_pos_iff.mpr hne;have hb:argBest (fun i j=>decide (ns.getD i 0<ns.getD j 0)) (vs.toArray.size-1)<ns.length:=by
   have:vs.toArray.size=ns.length:=by rw[iD];omega
   omega
  refine⟨.int _,H,I.kept (LSm.kept_iter hk),⟨t,rfl⟩,q _ ?_ fun n hn=> ?_⟩
  ·rw[lg,dF hb];exact Cd hb
  ·obtain⟨j,hj,rfl⟩:=Iu hn;have:=h2 j (by rw[iD];omega);rw[lg (i:=j),dF hj]at this;exact this
end
noncomputable def isK(k:Int):ζ->Bool
 | .int i _=>i==k
 |_=>false
theorem Iw{i:Int}:∀{n:Nat} {us:List ζ},us.length=n->(∀(j:Nat) (u:ζ),us[j]? =some u->∃t:Tok,u=Value.int (i+((j:Nat):Int)*1) t)->Vals (((List.range n).map fun(k:Nat)=>i+(k:Int)).map V.int) us:=by
 intro n us hl hi;have go:∀(us:List ζ) (k:Nat),(∀(j:Nat) (u:ζ),us[j]? =some u->∃t:Tok,u=Value.int (i+((j+k:Nat):Int)*1) t)->Vals (((List.range' k us.length).map fun(k:Nat)=>i+(k:Int)).map V.int) us:=by
  intro us
  induction us with
  |nil=>intro k _;exact .nil
  |cons u us ih=>
   intro k h;obtain⟨t,e⟩:=h 0 u rfl;refine .cons ⟨t,?_⟩ ?_
   ·rw[e];show Value.int (i+((0+k:Nat):Int)*1) t=Value.int (i+(k:Int)) t;congr 1;omega
   ·refine ih (k+1) fun j u hu=> ?_;obtain⟨t,e⟩:=h (j+1) u (by simpa using hu);exact⟨t,by rw[e];congr 1;omega⟩
 have:=go us 0 fun j u hu=>hi j u hu;rw[hl,<-List.range_eq_range']at this;exact this
section
variable{X:Cx}{e:Expr}{ta:TE}{f:Str}{pos:Pos}
theorem Qx(K:W.Frag)(he:PE X e ta)(hb:attributeBase e f X.env (eval e X.env)=eval e X.env)(h:X.K=K:=by rfl):PE X (.Attribute e f pos) (tFld K ta f):=by subst h;exact gP he hb
theorem qG:MtM X "list.index" (fun x vs H Q=>∃(l:Addr) (ns:List Int) (k:Int) (j:Nat),x= .ref l/\vs=[.int k]/\H l=some (.lst (ns.map V.int))/\ns[j]? =some k/\(∀i,i<j->ns[i]? ≠some k)/\ns.length<=1000/\Q (.int (j:Nat)) H):=by
 intro pins s σ H x vs v us Q I rx rv h;obtain⟨l,ns,k,j,rfl,rfl,hH,hj,hno,hb,q⟩:=h;cases rx;obtain⟨u,rfl,ru⟩:=rv.one;obtain⟨t,rfl⟩:=ru;obtain⟨z,its,n,r,hl,e⟩:=I.lstM hH;rw[aJ]at z hl;have hI:∀(i:Nat) (v:ζ),its[i]? =some v->∃t,v= .int (ns.getD i 0) t/\ns[i]? =some (ns.getD i 0):=fun i v hv=>by
  have hi:i<ns.length:=by have:=(nF.mp hv).1;omega
  have e0:ns[i]? =some (ns.getD i 0):=by rw[lg,dF hi];rfl
  obtain⟨u,hu,ru⟩:=r.get (show(ns.map V.int)[i]? =some (.int (ns.getD i 0)) by rw[dJ,e0];rfl);rw[hv]at hu;cases hu;obtain⟨t,rfl⟩:=ru;exact⟨t,rfl,e0⟩
 have hj':j<its.length:=by have:=(nF.mp hj).1;omega
 refine Us F.slot_list_index ⟨_,e,rfl⟩ F.entry_list_index (F.args_list_index_2 _ _)
  (MeetsSeq.list_index l its.toArray n (.int k t) (isK k) (fun y hy=> ?_) j (by simpa using hj') (by omega) ?_ (fun i hi hlt=> ?_)) ⟨e,?_⟩
 ·obtain⟨i,hi,rfl⟩:=Iu (show y∈its by simpa using hy);obtain⟨t',e',_⟩:=hI i its[i] (dF hi);rw[e'];exact MeetsSeq.EqGives.int _ _ _ _
 ·obtain⟨t',e',e0⟩:=hI j its[j] (dF hj');show isK k its[j]=true;rw[e'];rw[hj]at e0;have:k=ns.getD j 0:=sU e0;show(ns.getD j 0==k)=true;rw[<-this];exact beq_self_eq_true _
 ·have hi':i<its.length:=by simpa using hi
  obtain⟨t',e',e0⟩:=hI i its[i] (dF hi');show isK k its[i]=false;rw[e'];show(ns.getD i 0==k)=false;refine beq_eq_false_iff_ne.mpr fun z=>hno i hlt ?_;rw[e0,z]
 ·exact⟨.int (j:Nat),H,I.tok _,⟨s.toks,rfl⟩,q⟩
end
section
variable{X:Cx}{a b:Expr}{ta:TA}{p pos p' pos':Pos}
noncomputable def pD(i:Int)(n:Nat):List Int:=(List.range n).map fun(k:Nat)=>i+(k:Int)
noncomputable def Uz(ta:TA):TE:=fun σ H Q=>ta σ H fun vs H1=>∃i j:Int,vs=[.int i,.int j]/\0<=i/\i<=j/\j<=1000000/\∀l,H1 l=none->Q (.ref l) (upd H1 l (.lst ((pD i (j-i).toNat).map V.int)))
theorem xO(hc:X.calm=true)(ZD:Gl X "list")(Zu:X.mg "list"=none)(hg:Gl X "range")(hm:X.mg "range"=none)(ha:PA X [a,b] ta)(hs:starEach [a,b] X.env=[(false,eval a X.env),(false,eval b X.env)]:=by rfl)(hs':starEach [b] X.env=[(false,eval b X.env)]:=by rfl)(hs2:starEach [Expr.Call (.Name "range" p') [a,b] [] pos'] X.env=[(false,eval (Expr.Call (.Name "range" p') [a,b] [] pos') X.env)]:=by rfl):
  PE X (.Call (.Name "list" p) [.Call (.Name "range" p') [a,b] [] pos'] [] pos) (Uz ta):=by
 intro pins s σ H Q I h;refine Uw (ld_blt I ZD Zu (show bootBuiltins "list"=some (.type "list")from by decide+kernel) ?_ (by decide) (by decide));refine Py ?_ hs2 rfl;rw[hs2];refine wbr ?_;refine Call_ (ld_blt I hg hm Ym (Py (thn (ha pos' pins s σ H _ I h) fun us s1 ⟨vs,H1,I1,r1,q1⟩=> ?_) (by rw[hs,hs']) (by rw[hs'];rfl)));obtain⟨i,j,e,q0,q1,q2,q⟩:=q1;subst e;cases r1 with
 |cons r rr=>
  cases rr with
  |cons r' rr=>
   cases rr;obtain⟨t,rfl⟩:=r;obtain⟨t',rfl⟩:=r';refine call_range_2 ?_;refine wca ?_;have hn:Builtin.Range.rangeSize i j 1=(((j-i).toNat:Nat):Int):=by rw[wdy];split<;>omega
   refine call_list_range (I.ok.hd hc) (wez ..) (small_one (by omega) (by omega) (by omega) (by omega)) hn (by omega) fun h' tk acc c hk hS hacc=> ?_;have hv:Vals ((pD i (j-i).toNat).map V.int) acc.toList:=Iw (by rw[Um];exact hacc.1) (fun k u hu=>hacc.2 k u (by simpa using hu));have hz:((pD i (j-i).toNat).map V.int).length<=sizeLine:=by unfold pD;rw[gR];simp;omega
   have I2:Inv X pins σ H1 {s1 with heap:=s1.heap.push {cls:=Value.type "range",data:=Data.fields #[Value.int i t,Value.int j t',Value.int 1 s1.toks]},toks:=s1.toks+1}:=I1.kept fun b o e=>kZ _ e;exact⟨.ref _,_,I2.laid (t':=tk) (o:= .lst ((pD i (j-i).toNat).map V.int)) hk (aX _) ⟨hz,acc.toList,c,hv,by simpa using hS⟩,rfl,q _ (I2.hok.fresh (aX _))⟩
end
structure oH(K:W.Frag)(C:Addr)(x qual:Str)(st:Stmt)(ps:List Str)(f:Addr)(fd:ρ):Prop where
 F:Fun K x qual st f fd
 b:Binds K fd ps []
 m:Meth K C x f
end L2
namespace Sx
noncomputable abbrev Vec:=Nat->Int
noncomputable abbrev vQ:=Nat->Vec
noncomputable def sm:Nat->(Nat->Int)->Int
 |0,_=>0
 |k+1,f=>sm k f+f k
theorem bw{f g:Nat->Int}:∀k,(∀i,i<k->f i=g i)->sm k f=sm k g
 |0,_=>rfl
 |k+1,h=>by
  show sm k f+f k=sm k g+g k;rw[bw k fun i hi=>h i (vB hi),h k (wW k)]
theorem jx(f g:Nat->Int):∀k,sm k (fun i=>f i+g i)=sm k f+sm k g
 |0=>rfl
 |k+1=>by
  show sm k (fun i=>f i+g i)+(f k+g k)=sm k f+f k+(sm k g+g k);rw[jx f g k];omega
theorem eE(a:Int)(f:Nat->Int):∀k,sm k (fun i=>a*f i)=a*sm k f
 |0=>by show(0:Int)=a*0;rw[zu]
 |k+1=>by
  show sm k (fun i=>a*f i)+a*f k=a*(sm k f+f k);rw[eE a f k,Int.mul_add]
theorem cV{f:Nat->Int}:∀k,(∀i,i<k->f i=0)->sm k f=0
 |0,_=>rfl
 |k+1,h=>by
  show sm k f+f k=0;rw[cV k fun i hi=>h i (vB hi),h k (wW k)];rfl
theorem dg{f:Nat->Int}{j:Nat}:∀k,j<k->(∀i,i<k->i≠j->f i=0)->sm k f=f j
 |k+1,hj,h=>by
  show sm k f+f k=f j;by_cases e:j=k
  ·subst e;rw[cV j fun i hi=>h i (vB hi) (iZ hi),Xf]
  ·rw[dg k (by omega) fun i hi=>h i (vB hi),h k (wW k) (way e),Yq]
theorem K8{f:Nat->Int}{j:Nat}:∀k,j+1<k->(∀i,i<k->i≠j->i≠j+1->f i=0)->f j+f (j+1)=0->sm k f=0
 |k+1,hj,h,z=>by
  show sm k f+f k=0;by_cases e:j+1=k
  ·subst e;rw[dg (j:=j) (j+1) (wW _) fun i hi hn=>h i (vB hi) hn (iZ hi)];exact z
  ·rw[K8 k (by omega) (fun i hi=>h i (vB hi)) z,h k (wW k) (by omega) (way e)];rfl
theorem Gw(f:Nat->Nat->Int)(m:Nat):∀k,sm k (fun i=>sm m (fun j=>f i j))=sm m (fun j=>sm k (fun i=>f i j))
 |0=>by show(0:Int)=sm m fun _=>0;rw[cV m fun _ _=>rfl]
 |k+1=>by
  show sm k (fun i=>sm m (fun j=>f i j))+sm m (fun j=>f k j)=sm m (fun j=>sm k (fun i=>f i j)+f k j);rw[Gw f m k,jx]
theorem wA{f:Nat->Int}:∀k,(∀i,i<k->0<=f i)->0<=sm k f
 |0,_=>tH _
 |k+1,h=>Int.add_nonneg (wA k fun i hi=>h i (vB hi)) (h k (wW k))
theorem K9{f:Nat->Int}:∀k,sm k f<0->∃i,i<k/\f i<0
 |0,h=>absurd h (wfb 0)
 |k+1,h=>by
  by_cases c:f k<0
  ·exact⟨k,wW k,c⟩
  ·have h':sm k f+f k<0:=h;obtain⟨i,hi,hf⟩:=K9 k (f:=f) (by omega);exact⟨i,vB hi,hf⟩
theorem Gx{f:Nat->Int}:∀k,(∀i,i<k->0<=f i)->sm k f<=0->∀i,i<k->f i=0
 |0,_,_,i,hi=>absurd hi (Uh i)
 |k+1,h,z,i,hi=>by
  have h1:=wA k fun i hi=>h i (vB hi);have h2:=h k (wW k);have z':sm k f+f k<=0:=z;by_cases e:i=k
  ·subst e;omega
  ·exact Gx k (fun i hi=>h i (vB hi)) (by omega) i (by omega)
noncomputable def sg(i:Nat):Int:=if i %2=0 then 1 else -1
theorem Qm(i:Nat):sg (i+1)= -sg i:=by
 unfold sg;rcases Nat.mod_two_eq_zero_or_one i with h|h
 ·rw[aF h,aA (by omega)]
 ·rw[aF (by omega),aA (by omega)];rfl
theorem U4(i:Nat):sg i=1\/sg i= -1:=by unfold sg;split;exact .inl rfl;exact .inr rfl
noncomputable def JW(i r:Nat):Nat:=if r<i then r else r+1
noncomputable def Pz(i r:Nat):Nat:=if r<i then r else r-1
theorem Ld(i r:Nat):JW i r≠i:=by unfold JW;split<;>omega
theorem sW{i r j:Nat}(h:j≠i):JW i r=j↔r=Pz i j:=by unfold JW Pz;split<;>split<;>omega
theorem Dd{i r k:Nat}(hi:i<k+1)(hr:r<k):JW i r<k+1:=by unfold JW;split<;>omega
theorem Ux{i j k:Nat}(h:j≠i)(hi:i<k+1)(hj:j<k+1):Pz i j<k:=by unfold Pz;split<;>omega
noncomputable def uE(M:vQ)(i:Nat):vQ:=fun r c=>M (JW i r) (c+1)
noncomputable def det:Nat->vQ->Int
 |0,_=>1
 |k+1,M=>sm (k+1) fun i=>sg i*M i 0*det k (uE M i)
noncomputable def put(M:vQ)(r:Nat)(v:Vec):vQ:=fun i=>if i=r then v else M i
theorem put_same(M:vQ)(r:Nat)(v:Vec):put M r v r=v:=by unfold put;rw[aF rfl]
theorem iT(M:vQ){r i:Nat}(v:Vec)(h:i≠r):put M r v i=M i:=by unfold put;rw[aA h]
theorem ug(M:vQ)(r:Nat):put M r (M r)=M:=by funext i;unfold put;split;rename_i h;rw[h];rfl
theorem je(M:vQ){r t:Nat}(u v:Vec)(h:r≠t):put (put M r u) t v=put (put M t v) r u:=by
 funext i;unfold put;by_cases h1:i=t
 ·by_cases h2:i=r
  ·exact absurd (h2.symm.trans h1) h
  ·rw[aF h1,aA h2,aF h1]
 ·rw[aA h1];by_cases h2:i=r
  ·rw[aF h2,aF h2]
  ·rw[aA h2,aA h2,aA h1]
theorem jN(M:vQ)(i:Nat)(v:Vec):uE (put M i v) i=uE M i:=by
 funext r c;unfold uE;rw[iT _ _ (Ld i r)]
theorem yd(M:vQ){i j:Nat}(v:Vec)(h:j≠i):uE (put M j v) i=put (uE M i) (Pz i j) (fun c=>v (c+1)):=by
 funext r c;unfold uE put;by_cases e:r=Pz i j
 ·rw[aF e,aF ((sW h).mpr e)]
 ·rw[aA e,aA fun z=>e ((sW h).mp z)]
theorem wL:∀k {M N:vQ},(∀i,i<k->∀j,j<k->M i j=N i j)->det k M=det k N
 |0,_,_,_=>rfl
 |k+1,M,N,h=>bw (k+1) fun i hi=>by
  rw[h i hi 0 (yW k),wL k (M:=uE M i) (N:=uE N i) fun r hr c hc=>h _ (Dd hi hr) _ (Nat.succ_lt_succ hc)]
theorem yC:∀k (M:vQ) (r:Nat) (a b:Int) (u v:Vec),r<k->det k (put M r fun c=>a*u c+b*v c)=a*det k (put M r u)+b*det k (put M r v)
 |k+1,M,r,a,b,u,v,hr=>by
  unfold det;rw[<-eE,<-eE,<-jx];refine bw (k+1) fun i hi=> ?_;by_cases e:r=i
  ·subst e;rw[jN,jN,jN,put_same,put_same,put_same]
   grind
  ·rw[yd _ _ e,yd _ _ e,yd _ _ e,iT _ _ (way e),iT _ _ (way e),iT _ _ (way e),yC k (uE M i) (Pz i r) a b (fun c=>u (c+1)) (fun c=>v (c+1)) (Ux e hi hr)]
   grind
theorem tG:∀k (M:vQ) (r:Nat),r+1<k->M r=M (r+1)->det k M=0
 |k+1,M,r,hr,e=>by
  unfold det;refine K8 (j:=r) (k+1) hr (fun i hi h1 h2=> ?_) ?_
  ·have z:det k (uE M i)=0:=by
    by_cases c:i<r
    ·refine tG k (uE M i) (r-1) (by omega) ?_;funext x;unfold uE JW;rw[aA (by omega),aA (by omega),show r-1+1=r by omega,e]
    ·refine tG k (uE M i) r (by omega) ?_;funext x;unfold uE JW;rw[aF (by omega),aF (by omega),e]
   rw[z,zu]
  ·have z:uE M r=uE M (r+1):=by
    funext x c;unfold uE JW;by_cases h1:x<r
    ·rw[aF h1,aF (by omega)]
    ·rw[aA h1];by_cases h2:x=r
     ·subst h2;rw[aF (by omega),e]
     ·rw[aA (by omega)]
   rw[z,e,Qm]
   grind
theorem Oq(k:Nat)(M:vQ)(t:Nat)(u v:Vec)(h:t+1<k):det k (put (put M t u) (t+1) v)= -det k (put (put M t v) (t+1) u):=by
 have n1:t≠t+1:=by omega
 have z:∀w:Vec,det k (put (put M t w) (t+1) w)=0:=fun w=>tG k _ t h (by rw[iT _ _ n1,put_same,put_same]);have V9:∀(N:vQ) (r:Nat) (a b:Vec),r<k->det k (put N r fun c=>a c+b c)=det k (put N r a)+det k (put N r b):=fun N r a b hr=>by
  have:=yC k N r 1 1 a b hr;simp only[Cj]at this;exact this
 have z1:=z fun c=>u c+v c;rw[V9 _ (t+1) u v h,je M _ _ n1,je M _ _ n1,V9 _ t u v (by omega),V9 _ t u v (by omega),<-je M _ _ n1,<-je M _ _ n1,<-je M _ _ n1,<-je M _ _ n1,z u,z v]at z1;omega
theorem qN:∀(d k:Nat) (M:vQ) (r:Nat),r+d+1<k->M r=M (r+d+1)->det k M=0
 |0,k,M,r,h,e=>tG k M r h e
 |d+1,k,M,r,h,e=>by
  have f:=Oq k M (r+d+1) (M (r+d+1)) (M (r+d+1+1)) h;rw[ug,ug]at f;rw[f,qN d k _ r (by omega) (by rw[iT _ _ (by omega),iT _ _ (by omega),iT _ _ (by omega),put_same,e];rfl)];rfl
theorem Oo{k:Nat}{M:vQ}{r t:Nat}(hr:r<k)(ht:t<k)(h:r≠t)(e:M r=M t):det k M=0:=by
 by_cases c:r<t
 ·exact qN (t-r-1) k M r (by omega) (by rw[e];congr 1;omega)
 ·exact qN (r-t-1) k M t (by omega) (by rw[<-e];congr 1;omega)
theorem Bf:∀k (M:vQ),(∀i,i<k->∀j,j<k->M i j=if i=j then 1 else 0)->det k M=1
 |0,_,_=>rfl
 |k+1,M,h=>by
  unfold det;rw[dg (j:=0) (k+1) (yW k) fun i hi hn=>by rw[h i hi 0 (yW k),aA hn];grind];rw[h 0 (yW k) 0 (yW k),aF rfl,Bf k (uE M 0) fun i hi j hj=> ?_]
  ·rfl
  ·unfold uE JW;rw[aA (by omega),h _ (by omega) _ (by omega)];by_cases e:i=j
   ·rw[aF e,aF (by omega)]
   ·rw[aA e,aA (by omega)]
noncomputable def fct:Nat->Int
 |0=>1
 |k+1=>(k+1:Int)*fct k
theorem Lb{f:Nat->Int}{b:Int}:∀k,(∀i,i<k-> -b<=f i/\f i<=b)-> -((k:Int)*b)<=sm k f/\sm k f<=(k:Int)*b
 |0,_=>by
  show -((0:Int)*b)<=0/\(0:Int)<=0*b;omega
 |k+1,h=>by
  have ih:=Lb k fun i hi=>h i (vB hi);have hk:=h k (wW k);show -((k+1:Nat)*b)<=sm k f+f k/\sm k f+f k<=(k+1:Nat)*b;rw[show(((k+1:Nat):Int))*b=(k:Int)*b+b by rw[Int.natCast_succ,wed,Cj]];omega
theorem Hg{x y a b:Int}(hx: -a<=x/\x<=a)(hy: -b<=y/\y<=b): -(a*b)<=x*y/\x*y<=a*b:=by
 have h1:0<=(a-x)*(b-y):=FW (by omega) (by omega);have h2:0<=(a+x)*(b+y):=FW (by omega) (by omega);have h3:0<=(a-x)*(b+y):=FW (by omega) (by omega);have h4:0<=(a+x)*(b-y):=FW (by omega) (by omega);constructor<;>grind
theorem yD:∀k (M:vQ) (c:Nat) (B:Int),1<=B->(∀i,i<k->∀j,j<k->i≠c-> -1<=M i j/\M i j<=1)->(∀j,j<k->c<k-> -B<=M c j/\M c j<=B)-> -(fct k*B)<=det k M/\det k M<=fct k*B
 |0,M,c,B,hB,_,_=>by
  show -(1*B)<=1/\(1:Int)<=1*B;omega
 |k+1,M,c,B,hB,h1,h2=>by
  unfold det;have e:fct (k+1)*B=((k+1:Nat):Int)*(fct k*B):=by show((k:Int)+1)*fct k*B=_;rw[Sg];rfl
  rw[e];refine Lb (k+1) fun i hi=> ?_;have hs:∀x y:Int, -y<=x/\x<=y-> -y<=sg i*x/\sg i*x<=y:=fun x y h=>by
   rcases U4 i with s|s
   ·rw[s,Cj];exact h
   ·rw[s];omega
  rw[Sg];refine hs _ _ ?_;by_cases ci:i=c
  ·subst ci;have a:=yD k (uE M i) k 1 (by decide) (fun r hr x hx _=>h1 _ (Dd hi hr) _ (by omega) (Ld i r)) (fun x hx hk=>absurd hk (wV k));have b:=h2 0 (yW k) hi;rw[Yo]at a;have:=Hg b a;rw[Ck (fct k) B];exact this
  ·have a:=yD k (uE M i) (Pz i c) B hB (fun r hr x hx hn=>h1 _ (Dd hi hr) _ (by omega) fun z=>hn ((sW (way ci)).mp z)) (fun x hx hk=>by
    have hc:JW i (Pz i c)=c:=(sW (way ci)).mpr rfl;have hlt:c<k+1:=by unfold Pz at hk;split at hk<;>omega
    have:=h2 (x+1) (by omega) hlt;unfold uE;rw[hc];exact this)
   have b:=h1 i hi 0 (yW k) ci;have:=Hg b a;rw[Cj]at this;exact this
structure Tab where
 col:Nat->Nat
 row:Nat->Nat
 cell:Nat->Nat->Int
 over:Int
 s:Int
noncomputable def one:Vec:=fun j=>if j=0 then 1 else 0
section
variable(n m:Nat)(S:Nat->Nat->Bool)(w:Nat->Int)
noncomputable def nv(a:Nat):Vec:=fun j=>if a<n then(if j=a+1 then 1 else 0)else(if j=0 then 1 else if S (a-n) (j-1)=true then -1 else 0)
noncomputable def zv:Vec:=fun j=>if j=0 then 0 else w (j-1)
noncomputable def rv(T:Tab)(r:Nat):Vec:=if r<m then nv n S (T.row r)else zv w
noncomputable def vO(T:Tab):vQ:=fun i=>if i=0 then one else nv n S (T.col (i-1))
noncomputable def Fn(T:Tab)(c:Nat)(v:Vec):Int:=T.s*det (n+1) (put (vO n S T) c v)
structure Good(T:Tab):Prop where
 pos:0<T.over
 eq:∀r,r<=m->∀j,j<=n->T.over*rv n m S w T r j=T.cell r n*one j-sm n (fun c=>T.cell r c*nv n S (T.col c) j)
 sg:T.s=1\/T.s= -1
 dt:T.over=T.s*det (n+1) (vO n S T)
 Em:∀c c',c<n->c'<n->T.col c=T.col c'->c=c'
 Lr:∀r r',r<m->r'<m->T.row r=T.row r'->r=r'
 dis:∀c r,c<n->r<m->T.col c≠T.row r
 RT:∀c,c<n->T.col c<n+m
 rlt:∀r,r<m->T.row r<n+m
 all:∀a,a<n+m->(∃c,c<n/\T.col c=a)\/∃r,r<m/\T.row r=a
 XJ:∀r,r<m->0<=T.cell r n
end
section
variable{n m:Nat}{S:Nat->Nat->Bool}{w:Nat->Int}{T:Tab}
theorem fK{r:Nat}(h:r<m):rv n m S w T r=nv n S (T.row r):=aF h
theorem gZ:rv n m S w T m=zv w:=aA (wV m)
theorem Bo:vO n S T 0=one:=rfl
theorem Ib(c:Nat):vO n S T (c+1)=nv n S (T.col c):=by unfold vO;rw[aA (zy c)];rfl
theorem yK{c:Nat}(hc:c<=n)(a b:Int)(u v:Vec):Fn n S T c (fun j=>a*u j+b*v j)=a*Fn n S T c u+b*Fn n S T c v:=by
 unfold Fn;rw[yC (n+1) (vO n S T) c a b u v (by omega)];grind
theorem J2{c:Nat}{u v:Vec}(h:∀j,j<=n->u j=v j):Fn n S T c u=Fn n S T c v:=by
 unfold Fn;rw[wL (n+1) (M:=put (vO n S T) c u) (N:=put (vO n S T) c v) fun i _ j hj=> ?_];unfold put;split
 ·exact h j (by omega)
 ·rfl
theorem jU{c:Nat}(hc:c<=n)(x:Int)(a:Vec)(y:Nat->Int)(W:Nat->Vec):∀k,Fn n S T c (fun j=>x*a j-sm k (fun i=>y i*W i j))=x*Fn n S T c a-sm k (fun i=>y i*Fn n S T c (W i))
 |0=>by
  have h:=yK (T:=T) (S:=S) hc x 0 a a;rw[J2 (v:=fun j=>x*a j+0*a j) fun j _=>by show x*a j-0=_;omega,h];show _=_-0;omega
 |k+1=>by
  have h:=yK (T:=T) (S:=S) hc 1 (-(y k)) (fun j=>x*a j-sm k (fun i=>y i*W i j)) (W k);rw[J2 (v:=fun j=>1*(x*a j-sm k (fun i=>y i*W i j))+ -(y k)*W k j) fun j _=>by show x*a j-(sm k _+y k*W k j)=_;grind,h,jU hc x a y W k];show _=x*Fn n S T c a-(sm k _+y k*Fn n S T c (W k))
  grind
theorem qb{c:Nat}(hc:c<=n)(a:Int)(u:Vec):Fn n S T c (fun j=>a*u j)=a*Fn n S T c u:=by
 have h:=yK (T:=T) (S:=S) hc a 0 u u;rw[J2 (v:=fun j=>a*u j+0*u j) fun j _=>by omega,h];omega
theorem Pb(g:T.over=T.s*det (n+1) (vO n S T)){c i:Nat}(hc:c<=n)(hi:i<=n):Fn n S T c (vO n S T i)=if i=c then T.over else 0:=by
 unfold Fn;by_cases e:i=c
 ·subst e;rw[aF rfl,ug,<-g]
 ·rw[aA e,Oo (r:=c) (t:=i) (by omega) (by omega) (way e) (by rw[put_same,iT _ _ e]),zu]
theorem lY(g:T.over=T.s*det (n+1) (vO n S T)){c:Nat}(hc:c<=n):Fn n S T c one=if c=0 then T.over else 0:=by
 have:=Pb g hc (dX n);rw[Bo]at this;rw[this];by_cases e:c=0
 ·rw[aF e,aF e.symm]
 ·rw[aA e,aA (way e)]
theorem zm(g:T.over=T.s*det (n+1) (vO n S T)){c i:Nat}(hc:c<=n)(hi:i<n):Fn n S T c (nv n S (T.col i))=if i+1=c then T.over else 0:=by
 have:=Pb g hc (show i+1<=n by omega);rw[Ib]at this;exact this
theorem X5{a x y:Int}(h:0<a)(e:a*x=a*y):x=y:=wdn (by omega) e
theorem Good.base(G:Good n m S w T){r:Nat}(hr:r<=m):Fn n S T 0 (rv n m S w T r)=T.cell r n:=by
 have h1:=qb (T:=T) (S:=S) (c:=0) (dX n) T.over (rv n m S w T r);rw[J2 fun j hj=>G.eq r hr j hj,jU (dX n) _ _ (T.cell r) (fun c=>nv n S (T.col c)),lY G.dt (dX n),aF rfl,cV n fun c hc=>by rw[zm G.dt (dX n) hc,aA (zy c),zu]]at h1;refine X5 G.pos ?_;rw[<-h1,Ck];omega
theorem Good.dir(G:Good n m S w T){r c:Nat}(hr:r<=m)(hc:c<n):Fn n S T (c+1) (rv n m S w T r)= -T.cell r c:=by
 have h1:=qb (T:=T) (S:=S) (c:=c+1) hc T.over (rv n m S w T r);rw[J2 fun j hj=>G.eq r hr j hj,jU hc _ _ (T.cell r) (fun c=>nv n S (T.col c)),lY G.dt hc,aA (zy c),dg (j:=c) n hc fun i hi hn=>by rw[zm G.dt hc hi,aA (by omega),zu],zm G.dt hc hc,aF rfl]at h1;refine X5 G.pos ?_;rw[<-h1];grind
noncomputable def turn(T:Tab)(p q:Nat):Tab where
 col:=fun c=>if c=q then T.row p else T.col c
 row:=fun r=>if r=p then T.col q else T.row r
 over:=T.cell p q
 s:= -T.s
 cell:=fun r c=>if r=p then(if c=q then T.over else T.cell p c)else if c=q then -T.cell r q else(T.cell r c*T.cell p q-T.cell r q*T.cell p c)/T.over
theorem Ke{p q:Nat}:vO n S (turn T p q)=put (vO n S T) (q+1) (nv n S (T.row p)):=by
 funext i;unfold vO put turn;dsimp only;by_cases h0:i=0
 ·rw[aF h0,aA (by omega),aF h0]
 ·rw[aA h0];by_cases h1:i=q+1
  ·rw[aF h1,aF (by omega)]
  ·rw[aA h1,aA (by omega),aA h0]
theorem Qj{p q r:Nat}(h:r≠p):rv n m S w (turn T p q) r=rv n m S w T r:=by
 unfold rv turn;dsimp only;rw[aA h]
theorem Good.wk(G:Good n m S w T){p q:Nat}(hp:p<m)(hq:q<n):(turn T p q).over=(turn T p q).s*det (n+1) (vO n S (turn T p q)):=by
 have h:=G.dir (r:=p) (dH hp) hq;rw[fK hp]at h;unfold Fn at h;rw[Ke];show T.cell p q= -T.s*_
 grind
theorem Good.exact(G:Good n m S w T){p q r c:Nat}(hp:p<m)(hq:q<n)(hb:0<T.cell p q)(hr:r<=m)(hrp:r≠p)(hc:c<=n)(Wg:c≠q):
  T.over*(turn T p q).cell r c=T.cell r c*T.cell p q-T.cell r q*T.cell p c:=by
 have g':=G.wk hp hq;have aaL:∀j,j<=n->T.cell p q*T.over*rv n m S w T r j=(T.cell r n*T.cell p q-T.cell r q*T.cell p n)*one j-sm n (fun c=>(T.cell r c*T.cell p q-T.cell r q*T.cell p c)*nv n S (T.col c) j)+T.over*T.cell r q*nv n S (T.row p) j:=fun j hj=>by
  have e1:=G.eq r hr j hj;have e2:=G.eq p (dH hp) j hj;rw[fK hp]at e2;have e3:sm n (fun c=>(T.cell r c*T.cell p q-T.cell r q*T.cell p c)*nv n S (T.col c) j)=T.cell p q*sm n (fun c=>T.cell r c*nv n S (T.col c) j)+ -(T.cell r q)*sm n (fun c=>T.cell p c*nv n S (T.col c) j):=by
   rw[<-eE,<-eE,<-jx];exact bw n fun c _=>by grind
  rw[e3];generalize sm n (fun c=>T.cell r c*nv n S (T.col c) j)=A at *;generalize sm n (fun c=>T.cell p c*nv n S (T.col c) j)=B at *
  grind
 have app:∀d,d<=n->T.cell p q*T.over*Fn n S (turn T p q) d (rv n m S w T r)=(T.cell r n*T.cell p q-T.cell r q*T.cell p n)*Fn n S (turn T p q) d one-sm n (fun c=>(T.cell r c*T.cell p q-T.cell r q*T.cell p c)*Fn n S (turn T p q) d (nv n S (T.col c)))+T.over*T.cell r q*Fn n S (turn T p q) d (nv n S (T.row p)):=fun d hd=>by
  rw[<-qb hd,J2 aaL,<-jU hd _ _ (fun c=>T.cell r c*T.cell p q-T.cell r q*T.cell p c) (fun c=>nv n S (T.col c))];have h:=yK (T:=turn T p q) (S:=S) hd 1 (T.over*T.cell r q) (fun j=>(T.cell r n*T.cell p q-T.cell r q*T.cell p n)*one j-sm n (fun c=>(T.cell r c*T.cell p q-T.cell r q*T.cell p c)*nv n S (T.col c) j)) (nv n S (T.row p));simp only[Cj]at h;exact h
 have aah:nv n S ((turn T p q).col q)=nv n S (T.row p):=by unfold turn;dsimp only;rw[aF rfl]
 have WQ:∀c,c≠q->nv n S ((turn T p q).col c)=nv n S (T.col c):=fun c h=>by unfold turn;dsimp only;rw[aA h]
 have ov:(turn T p q).over=T.cell p q:=rfl;have key:∃x,T.cell r c*T.cell p q-T.cell r q*T.cell p c=T.over*x:=by
  by_cases hl:c=n
  ·subst hl;have h:=app 0 (dX _);have f1:=lY g' (dX c);have f2:=zm g' (dX c) hq;rw[aF rfl,ov]at f1;rw[aah,aA (zy q)]at f2;rw[f1,f2,cV c fun i hi=> ?_]at h
   ·refine⟨Fn c S (turn T p q) 0 (rv c m S w T r),X5 hb ?_⟩
    grind
   ·by_cases Zy:i=q
    ·subst Zy;rw[Int.sub_self,JR]
    ·have f3:=zm g' (dX c) hi;rw[WQ i Zy,aA (zy i)]at f3;rw[f3,zu]
  ·have hc':c<n:=by omega
   have h:=app (c+1) hc';have f1:=lY g' (show c+1<=n from hc');have f2:=zm g' (show c+1<=n from hc') hq;have f3:=zm g' (show c+1<=n from hc') hc';rw[aA (zy c)]at f1;rw[aah,aA (by omega)]at f2;rw[WQ c Wg,aF rfl,ov]at f3;rw[f1,f2,dg (j:=c) n hc' fun i hi hn=> ?_,f3]at h
   ·refine⟨-Fn n S (turn T p q) (c+1) (rv n m S w T r),X5 hb ?_⟩
    grind
   ·by_cases Zy:i=q
    ·subst Zy;rw[Int.sub_self,JR]
    ·have f4:=zm g' (show c+1<=n from hc') hi;rw[WQ i Zy,aA (by omega)]at f4;rw[f4,zu]
 obtain⟨x,hx⟩:=key;show T.over*(if r=p then _ else if c=q then _ else(T.cell r c*T.cell p q-T.cell r q*T.cell p c)/T.over)=_;rw[aA hrp,aA Wg,hx,wbn _ (Int.ne_of_gt G.pos)]
theorem Good.turn(G:Good n m S w T){p q:Nat}(hp:p<m)(hq:q<n)(hb:0<T.cell p q)(ra:∀r,r<m->0<T.cell r q->T.cell p n*T.cell r q<=T.cell r n*T.cell p q):Good n m S w (turn T p q):=by
 have hqn:n≠q:=by omega
 have c1:∀r,r≠p->(Sx.turn T p q).cell r q= -T.cell r q:=fun r h=>by unfold Sx.turn;dsimp only;rw[aA h,aF rfl]
 have c2:(Sx.turn T p q).cell p q=T.over:=by unfold Sx.turn;dsimp only;rw[aF rfl,aF rfl]
 have c3:∀c,c≠q->(Sx.turn T p q).cell p c=T.cell p c:=fun c h=>by unfold Sx.turn;dsimp only;rw[aF rfl,aA h]
 have k1:(Sx.turn T p q).col q=T.row p:=by unfold Sx.turn;dsimp only;rw[aF rfl]
 have k2:∀c,c≠q->(Sx.turn T p q).col c=T.col c:=fun c h=>by unfold Sx.turn;dsimp only;rw[aA h]
 have r1:(Sx.turn T p q).row p=T.col q:=by unfold Sx.turn;dsimp only;rw[aF rfl]
 have r2:∀r,r≠p->(Sx.turn T p q).row r=T.row r:=fun r h=>by unfold Sx.turn;dsimp only;rw[aA h]
 refine⟨hb,fun r hr j hj=> ?_,?_,G.wk hp hq,fun c c' hc hc' e=> ?_,fun r r' hr hr' e=> ?_,fun c r hc hr e=> ?_,fun c hc=> ?_,fun r hr=> ?_,fun a ha=> ?_,fun r hr=> ?_⟩
 ·have e2:=G.eq p (dH hp) j hj;rw[fK hp]at e2;by_cases h:r=p
  ·subst h;rw[fK hp,r1,c3 n hqn];have e3:sm n (fun c=>(Sx.turn T r q).cell r c*nv n S ((Sx.turn T r q).col c) j)=sm n (fun c=>T.cell r c*nv n S (T.col c) j)+(T.over*nv n S (T.row r) j-T.cell r q*nv n S (T.col q) j):=by
    have:sm n (fun c=>if c=q then T.over*nv n S (T.row r) j-T.cell r q*nv n S (T.col q) j else 0)=T.over*nv n S (T.row r) j-T.cell r q*nv n S (T.col q) j:=by
     rw[dg (j:=q) n hq fun i _ hn=>aA hn,aF rfl]
    rw[<-this,<-jx];refine bw n fun c _=> ?_;by_cases hc:c=q
    ·subst hc;rw[c2,k1,aF rfl];omega
    ·rw[c3 c hc,k2 c hc,aA hc];omega
   rw[e3];show T.cell r q*nv n S (T.col q) j=_;omega
  ·rw[Qj h];have e1:=G.eq r hr j hj;have e3:T.over*sm n (fun c=>(Sx.turn T p q).cell r c*nv n S ((Sx.turn T p q).col c) j)=T.cell p q*sm n (fun c=>T.cell r c*nv n S (T.col c) j)+ -(T.cell r q)*sm n (fun c=>T.cell p c*nv n S (T.col c) j)+ -(T.over*T.cell r q*nv n S (T.row p) j):=by
    have:sm n (fun c=>if c=q then -(T.over*T.cell r q*nv n S (T.row p) j)else 0)= -(T.over*T.cell r q*nv n S (T.row p) j):=by
     rw[dg (j:=q) n hq fun i _ hn=>aA hn,aF rfl]
    rw[<-this,<-eE,<-eE,<-eE,<-jx,<-jx];refine bw n fun c hc=> ?_;by_cases Wg:c=q
    ·subst Wg;rw[c1 r h,k1,aF rfl];grind
    ·have:=G.exact hp hq hb hr h (dH hc) Wg;rw[k2 c Wg,aA Wg,<-Sg,this];grind
   have e4:=G.exact hp hq hb hr h (aX n) hqn;refine X5 G.pos ?_;show T.over*(T.cell p q*rv n m S w T r j)=_;rw[Int.mul_sub,e3,<-Sg T.over ((Sx.turn T p q).cell r n),e4];generalize sm n (fun c=>T.cell r c*nv n S (T.col c) j)=A at *;generalize sm n (fun c=>T.cell p c*nv n S (T.col c) j)=B at *
   grind
 ·rcases G.sg with e|e
  ·exact .inr (by show -T.s= -1;rw[e])
  ·exact .inl (by show -T.s=1;rw[e];rfl)
 ·by_cases h1:c=q
  ·by_cases h2:c'=q
   ·rw[h1,h2]
   ·rw[h1,k1,k2 c' h2]at e;exact absurd e.symm (G.dis c' p hc' hp)
  ·by_cases h2:c'=q
   ·rw[h2,k1,k2 c h1]at e;exact absurd e (G.dis c p hc hp)
   ·rw[k2 c h1,k2 c' h2]at e;exact G.Em c c' hc hc' e
 ·by_cases h1:r=p
  ·by_cases h2:r'=p
   ·rw[h1,h2]
   ·rw[h1,r1,r2 r' h2]at e;exact absurd e (G.dis q r' hq hr')
  ·by_cases h2:r'=p
   ·rw[h2,r1,r2 r h1]at e;exact absurd e.symm (G.dis q r hq hr)
   ·rw[r2 r h1,r2 r' h2]at e;exact G.Lr r r' hr hr' e
 ·by_cases h1:c=q
  ·by_cases h2:r=p
   ·rw[h1,h2,k1,r1]at e;exact G.dis q p hq hp e.symm
   ·rw[h1,k1,r2 r h2]at e;exact h2 (G.Lr p r hp hr e).symm
  ·by_cases h2:r=p
   ·rw[h2,k2 c h1,r1]at e;exact h1 (G.Em c q hc hq e)
   ·rw[k2 c h1,r2 r h2]at e;exact G.dis c r hc hr e
 ·by_cases h1:c=q
  ·rw[h1,k1];exact G.rlt p hp
  ·rw[k2 c h1];exact G.RT c hc
 ·by_cases h1:r=p
  ·rw[h1,r1];exact G.RT q hq
  ·rw[r2 r h1];exact G.rlt r hr
 ·rcases G.all a ha with⟨c,hc,e⟩|⟨r,hr,e⟩
  ·by_cases h1:c=q
   ·exact .inr ⟨p,hp,by rw[r1,<-h1,e]⟩
   ·exact .inl ⟨c,hc,by rw[k2 c h1,e]⟩
  ·by_cases h1:r=p
   ·exact .inl ⟨q,hq,by rw[k1,<-h1,e]⟩
   ·exact .inr ⟨r,hr,by rw[r2 r h1,e]⟩
 ·by_cases h1:r=p
  ·rw[h1,c3 n hqn];exact G.XJ p hp
  ·have e:=G.exact hp hq hb (dH hr) h1 (aX n) hqn;have f1:=G.XJ r hr;have f2:=G.XJ p hp;have z:0<=T.cell r n*T.cell p q-T.cell r q*T.cell p n:=by
    by_cases hc:0<T.cell r q
    ·have:=ra r hr hc;rw[Ck (T.cell r q)];omega
    ·have a1:0<=T.cell r n*T.cell p q:=FW f1 (by omega);have a2:0<= -(T.cell r q)*T.cell p n:=FW (by omega) f2
     grind
   rw[<-e]at z;have:=G.pos;refine Int.not_lt.mp fun hn=> ?_;have:T.over*(Sx.turn T p q).cell r n<0:=Int.mul_neg_of_pos_of_neg G.pos hn;omega
end
structure Step(n m:Nat)(T:Tab)(p q:Nat):Prop where
 hp:p<m
 hq:q<n
 neg:T.cell m q<0
 ent:∀c,c<n->T.cell m c<0->T.col q<=T.col c
 by_:0<T.cell p q
 lev:∀r,r<m->0<T.cell r q->T.cell p n*T.cell r q<T.cell r n*T.cell p q\/(T.cell p n*T.cell r q=T.cell r n*T.cell p q/\T.row p<=T.row r)
noncomputable def inC(n:Nat)(T:Tab)(a:Nat):Prop:=∃c,c<n/\T.col c=a
section
variable{n m:Nat}{S:Nat->Nat->Bool}{w:Nat->Int}
theorem Step.good{T:Tab}{p q:Nat}(s:Step n m T p q)(G:Good n m S w T):Good n m S w (turn T p q):=
 G.turn s.hp s.hq s.by_ fun r hr h=>(s.lev r hr h).elim J3 fun e=>Yp e.1
theorem Step.worth{T:Tab}{p q:Nat}(s:Step n m T p q)(G:Good n m S w T):T.over*(turn T p q).cell m n-(turn T p q).over*T.cell m n= -(T.cell m q)*T.cell p n:=by
 have h:=G.exact s.hp s.hq s.by_ (aX m) (Ue s.hp) (aX n) (Ue s.hq);rw[h];show _-T.cell p q*_=_
 grind
theorem Step.le{T:Tab}{p q:Nat}(s:Step n m T p q)(G:Good n m S w T):(turn T p q).over*T.cell m n<=T.over*(turn T p q).cell m n:=by
 have h:=s.worth G;have:=FW (a:= -(T.cell m q)) (b:=T.cell p n) (by have:=s.neg;omega) (G.XJ p s.hp);omega
theorem yu{a b c d e f:Int}(hd:0<d)(hb:0<b)(hf:0<f)(h1:d*a<=b*c)(h2:f*c<=d*e):f*a<=b*e:=by
 have x:=SM h1 (J3 hf);have y:=SM h2 (J3 hb);refine Int.le_of_mul_le_mul_left (a:=d) ?_ hd
 grind
theorem yt{a b c d e f:Int}(hd:0<d)(hb:0<b)(hf:0<f)(h1:d*a<=b*c)(h2:f*c<d*e):f*a<b*e:=by
 have x:=SM h1 (J3 hf);have y:=wdg h2 hb;refine wdo (a:=d) ?_ (J3 hd)
 grind
theorem Bb{a b c d e f:Int}(hd:0<d)(hb:0<b)(hf:0<f)(h1:d*a<b*c)(h2:f*c<=d*e):f*a<b*e:=by
 have x:=wdg h1 hf;have y:=SM h2 (J3 hb);refine wdo (a:=d) ?_ (J3 hd)
 grind
theorem goes{P:Nat->Prop}{s:Nat}:∀d,P s->¬P (s+d)->∃t,s<=t/\t<s+d/\P t/\¬P (t+1)
 |0,h,h'=>absurd h h'
 |d+1,h,h'=>by
  by_cases c:P (s+d)
  ·exact⟨s+d,by omega,by omega,c,h'⟩
  ·obtain⟨t,a,b,x⟩:=goes d h c;exact⟨t,a,by omega,x⟩
theorem Ar{P:Nat->Prop}{s e:Nat}(hse:s<=e)(h:P s)(h':¬P e):∃t,s<=t/\t<e/\P t/\¬P (t+1):=by
 obtain⟨t,a,b,x⟩:=goes (s:=s) (e-s) h (by rw[show s+(e-s)=e by omega];exact h');exact⟨t,a,by omega,x⟩
theorem most{P:Nat->Prop}:∀N,(∃a,P a)->(∀a,P a->a<N)->∃a,P a/\∀b,P b->b<=a
 |0,⟨a,h⟩,hb=>absurd (hb a h) (Uh a)
 |N+1,h,hb=>by
  by_cases c:P N
  ·exact⟨N,c,fun b hP=>by have:=hb b hP;omega⟩
  ·exact most N h fun a hP=>by
    have:=hb a hP;have:a≠N:=fun e=>c (e▸hP);omega
structure Run(n m:Nat)(S:Nat->Nat->Bool)(w:Nat->Int)(T:Nat->Tab)(p q:Nat->Nat)(L:Nat):Prop where
 first:Good n m S w (T 0)
 step:∀t,t<L->Step n m (T t) (p t) (q t)
 next:∀t,t<L->T (t+1)=turn (T t) (p t) (q t)
variable{T:Nat->Tab}{p q:Nat->Nat}{L:Nat}
theorem Run.good(R:Run n m S w T p q L):∀t,t<=L->Good n m S w (T t)
 |0,_=>R.first
 |t+1,h=>by rw[R.next t h];exact(R.step t h).good (R.good t (wdt h))
theorem Run.worth(R:Run n m S w T p q L){i:Nat}:∀d,i+d<=L->(T (i+d)).over*(T i).cell m n<=(T i).over*(T (i+d)).cell m n
 |0,_=>tH _
 |d+1,h=>by
  have ih:=R.worth d (i:=i) (by omega);have g1:=R.good (i+d) (by omega);have st:=(R.step (i+d) (by omega)).le g1;rw[<-R.next (i+d) (by omega)]at st;exact yu g1.pos (R.good i (by omega)).pos (R.good (i+d+1) h).pos ih st
theorem Run.J6(R:Run n m S w T p q L){i j:Nat}(hij:i<=j)(hj:j<=L):(T j).over*(T i).cell m n<=(T i).over*(T j).cell m n:=by
 have:=R.worth (i:=i) (j-i) (by omega)
 rwa [show i+(j-i)=j by omega]at this
theorem Dh{A B:Tab}(GA:Good n m S w A)(GB:Good n m S w B)(h:∀a,inC n B a->inC n A a):B.over*A.cell m n=A.over*B.cell m n:=by
 have h1:=qb (T:=A) (S:=S) (c:=0) (dX n) B.over (zv w);have e:=GB.eq m (aX m);rw[gZ]at e;have b:=GA.base (aX m);rw[gZ]at b;rw[J2 e,jU (dX n) _ _ (B.cell m) (fun c=>nv n S (B.col c)),lY GA.dt (dX n),aF rfl,cV n fun c hc=> ?_,b]at h1
 ·rw[<-h1,Ck];omega
 ·obtain⟨c',hc',e'⟩:=h _ ⟨c,hc,rfl⟩;rw[<-e',zm GA.dt (dX n) hc',aA (zy c'),zu]
theorem Kd{T:Tab}{p q:Nat}(G:Good n m S w T)(hp:p<m)(hq:q<n)(a:Nat):inC n (turn T p q) a↔(inC n T a/\a≠T.col q)\/a=T.row p:=by
 constructor
 ·rintro⟨c,hc,e⟩;have e':(if c=q then T.row p else T.col c)=a:=e;by_cases h:c=q
  ·rw[aF h]at e';exact .inr e'.symm
  ·rw[aA h]at e';exact .inl ⟨⟨c,hc,e'⟩,fun z=>h (G.Em c q hc hq (e'.trans z))⟩
 ·rintro(⟨⟨c,hc,e⟩,hn⟩|e)
  ·have h:c≠q:=fun z=>hn (by rw[<-e,z]);exact⟨c,hc,by show(if c=q then _ else _)=a;rw[aA h];exact e⟩
  ·exact⟨q,hq,by show(if q=q then _ else _)=a;rw[aF rfl];exact e.symm⟩
theorem flat{T:Tab}{p q:Nat}(G:Good n m S w T)(G':Good n m S w (turn T p q))(s:Step n m T p q)(h0:T.cell p n=0){a:Nat}(ha:a<n+m):Fn n S (turn T p q) 0 (nv n S a)=0↔Fn n S T 0 (nv n S a)=0:=by
 have z0:=dX n;rcases G'.all a ha with⟨c,hc,e⟩|⟨r,hr,e⟩
 ·have f1:=zm G'.dt z0 hc;rw[e,aA (zy c)]at f1;refine⟨fun _=> ?_,fun _=>f1⟩;have e':(if c=q then T.row p else T.col c)=a:=e;by_cases h:c=q
  ·rw[aF h]at e';have:=G.base (dH s.hp);rw[fK s.hp,e']at this;rw[this,h0]
  ·rw[aA h]at e';have:=zm G.dt z0 hc;rw[e',aA (zy c)]at this;exact this
 ·have f1:=G'.base (dH hr);rw[fK hr,e]at f1;have e':(if r=p then T.col q else T.row r)=a:=e;rw[f1];by_cases h:r=p
  ·rw[aF h]at e';have f2:=zm G.dt z0 s.hq;rw[e',aA (zy q)]at f2;have f3:(turn T p q).cell r n=T.cell p n:=by
    show(if r=p then(if n=q then _ else _)else _)=_;rw[aF h,aA (Ue s.hq)]
   rw[f3,h0];exact⟨fun _=>f2,fun _=>rfl⟩
  ·rw[aA h]at e';have f2:=G.base (dH hr);rw[fK hr,e']at f2;rw[f2];have x:=G.exact s.hp s.hq s.by_ (dH hr) h (aX n) (Ue s.hq);rw[h0,zu,Int.sub_zero]at x;constructor
   ·intro z;rw[z,zu]at x;rcases Int.mul_eq_zero.mp x.symm with y|y
    ·exact y
    ·have:=s.by_;omega
   ·intro z;rw[z,JR]at x;rcases Int.mul_eq_zero.mp x with y|y
    ·have:=G.pos;omega
    ·exact y
theorem Run.Jo(R:Run n m S w T p q L){i j:Nat}(hij:i<j)(hj:j<=L):¬∀a,inC n (T i) a↔inC n (T j) a:=by
 intro same;have Gt:∀t,i<=t->t<=j->Good n m S w (T t):=fun t _ h=>R.good t (cT h hj);have D:=Dh (Gt i (aX i) (dH hij)) (Gt j (dH hij) (aX j)) fun a=>(same a).mpr;have St:∀t,t<j->Step n m (T t) (p t) (q t):=fun t h=>R.step t (mJ h hj);have nx:∀t,t<j->T (t+1)=turn (T t) (p t) (q t):=fun t h=>R.next t (mJ h hj)
 -- every turn of these is flat
 have fl:∀t,i<=t->t<j->(T t).cell (p t) n=0:=fun t hi ht=>by
  have g:=Gt t hi (dH ht);have W:=(St t ht).worth g;have F:=g.XJ (p t) (St t ht).hp;have N:=(St t ht).neg;by_cases z:(T t).cell (p t) n=0
  ·exact z
  ·exfalso;have B:(turn (T t) (p t) (q t)).over*(T t).cell m n<(T t).over*(turn (T t) (p t) (q t)).cell m n:=by
    have:=Xo (a:= -((T t).cell m (q t))) (b:=(T t).cell (p t) n) (by omega) (by omega);omega
   rw[<-nx t ht]at B;have A:=R.J6 (i:=i) (j:=t) hi (by omega);have C:=R.J6 (i:=t+1) (j:=j) ht hj;have o1:=(Gt i (aX i) (dH hij)).pos;have o2:=g.pos;have o3:=(Gt (t+1) (by omega) ht).pos;have o4:=(Gt j (dH hij) (aX j)).pos;have x:=yt o2 o1 o3 A B;have y:=Bb o3 o1 o4 x C;omega
 have ic:∀t,t<j->i<=t->∀a,inC n (T (t+1)) a↔(inC n (T t) a/\a≠(T t).col (q t))\/a=(T t).row (p t):=fun t ht hi a=>by
  rw[nx t ht];exact Kd (Gt t hi (dH ht)) (St t ht).hp (St t ht).hq a
 have zeros:∀{a:Nat},a<n+m->∀d s,i<=s->s+d<=j->(Fn n S (T (s+d)) 0 (nv n S a)=0↔Fn n S (T s) 0 (nv n S a)=0):=fun{a} ha d=>by
  induction d with
  |zero=>intro s _ _;exact Iff.rfl
  |succ d ih=>
   intro s hs hd;have f:=flat (Gt (s+d) (by omega) (by omega)) (by rw[<-nx (s+d) (by omega)];exact Gt (s+d+1) (by omega) hd) (St (s+d) (by omega)) (fl (s+d) (by omega) (by omega)) ha;rw[<-nx (s+d) (by omega)]at f;exact f.trans (ih s hs (by omega))
 have XS:∀{a s t:Nat},a<n+m->i<=s->s<=j->i<=t->t<=j->Fn n S (T s) 0 (nv n S a)=0->Fn n S (T t) 0 (nv n S a)=0:=fun{a s t} ha h1 h2 h3 h4 z=>by
  by_cases c:s<=t
  ·have:=zeros ha (t-s) s h1 (by omega);rw[show s+(t-s)=t by omega]at this;exact this.mpr z
  ·have:=zeros ha (s-t) t h3 (by omega);rw[show t+(s-t)=s by omega]at this;exact this.mp z
 -- the greatest name that comes and goes
 let Fk:Nat->Prop:=fun a=>∃t,i<=t/\t<j/\((inC n (T t) a/\¬inC n (T (t+1)) a)\/(¬inC n (T t) a/\inC n (T (t+1)) a));have fkc:∀t,i<=t->t<j->Fk ((T t).col (q t)):=fun t hi ht=>by
  have g:=Gt t hi (dH ht);refine⟨t,hi,ht,.inl ⟨⟨q t,(St t ht).hq,rfl⟩,fun z=> ?_⟩⟩;rcases(ic t ht hi _).mp z with⟨_,z⟩|z
  ·exact z rfl
  ·exact g.dis (q t) (p t) (St t ht).hq (St t ht).hp z
 have lt:∀a,Fk a->a<n+m:=fun a h=>by
  obtain⟨t,hi,ht,(⟨⟨c,hc,e⟩,_⟩|⟨_,⟨c,hc,e⟩⟩)⟩:=h
  ·rw[<-e];exact(Gt t hi (dH ht)).RT c hc
  ·rw[<-e];exact(Gt (t+1) (by omega) ht).RT c hc
 obtain⟨tt,hF,hmax⟩:=most (n+m) ⟨_,fkc i (aX i) hij⟩ lt;have diff:∀{a s e:Nat},i<=s->s<=j->i<=e->e<=j->inC n (T s) a->¬inC n (T e) a->Fk a:=fun{a s e} h1 h2 h3 h4 x y=>by
  by_cases c:s<=e
  ·obtain⟨t,a1,a2,a3,a4⟩:=Ar (P:=fun t=>inC n (T t) a) c x y;exact⟨t,by omega,by omega,.inl ⟨a3,a4⟩⟩
  ·obtain⟨t,a1,a2,a3,a4⟩:=Ar (P:=fun t=>¬inC n (T t) a) (s:=e) (e:=s) (by omega) y (fun z=>z x);exact⟨t,by omega,by omega,.inr ⟨a3,Classical.not_not.mp a4⟩⟩
 obtain⟨t1,ZK,XH,h1a,h1b⟩:∃t,i<=t/\t<j/\inC n (T t) tt/\¬inC n (T (t+1)) tt:=by
  obtain⟨t,hi,ht,(⟨x,y⟩|⟨x,y⟩)⟩:=hF
  ·exact⟨t,hi,ht,x,y⟩
  ·by_cases c:inC n (T j) tt
   ·obtain⟨u,a1,a2,a3,a4⟩:=Ar (P:=fun t=>inC n (T t) tt) hi ((same tt).mpr c) x;exact⟨u,a1,by omega,a3,a4⟩
   ·obtain⟨u,a1,a2,a3,a4⟩:=Ar (P:=fun t=>inC n (T t) tt) (s:=t+1) (e:=j) ht y c;exact⟨u,by omega,a2,a3,a4⟩
 obtain⟨t2,XF,Wh,h2a,h2b⟩:∃t,i<=t/\t<j/\¬inC n (T t) tt/\inC n (T (t+1)) tt:=by
  have up:∀s e,i<=s->s<=e->e<=j->¬inC n (T s) tt->inC n (T e) tt->∃t,i<=t/\t<j/\¬inC n (T t) tt/\inC n (T (t+1)) tt:=fun s e a b c x y=>by
   obtain⟨u,a1,a2,a3,a4⟩:=Ar (P:=fun t=>¬inC n (T t) tt) b x (fun z=>z y);exact⟨u,by omega,by omega,a3,Classical.not_not.mp a4⟩
  by_cases c:inC n (T j) tt
  ·exact up (t1+1) j (by omega) XH (aX j) h1b c
  ·exact up i t1 (aX i) ZK (by omega) (fun z=>c ((same tt).mp z)) h1a
 have e1:tt=(T t1).col (q t1):=by
  refine Xv fun hn=>h1b ((ic t1 XH ZK tt).mpr (.inl ⟨h1a,hn⟩))
 have e2:tt=(T t2).row (p t2):=by
  rcases(ic t2 Wh XF tt).mp h2b with⟨z,_⟩|z
  ·exact absurd z h2a
  ·exact z
 have G1:=Gt t1 ZK (dH XH);have G2:=Gt t2 XF (dH Wh);have S1:=St t1 XH;have S2:=St t2 Wh
 -- along the column that enters at t2
 have hq2:q t2+1<=n:=S2.hq;have dz:=G2.dir (aX m) S2.hq;rw[gZ]at dz;have sum:=qb (T:=T t2) (S:=S) hq2 (T t1).over (zv w);have eq1:=G1.eq m (aX m);rw[gZ]at eq1;rw[J2 eq1,jU hq2 _ _ ((T t1).cell m) (fun c=>nv n S ((T t1).col c)),lY G2.dt hq2,aA (zy _),dz]at sum;have neg:sm n (fun c=>(T t1).cell m c*Fn n S (T t2) (q t2+1) (nv n S ((T t1).col c)))<0:=by
  have:=Xo G1.pos (b:= -((T t2).cell m (q t2))) (by have:=S2.neg;omega);omega
 obtain⟨c,hc,hlt⟩:=K9 n neg;have hnm:=G1.RT c hc;rcases G2.all _ hnm with⟨c0,hc0,e0⟩|⟨r0,hr0,e0⟩
 ·have f:=zm G2.dt hq2 hc0;rw[e0]at f;by_cases z:c0=q t2
  ·rw[aF (by omega)]at f;rw[f]at hlt;have cn:(T t1).cell m c<0:=by
    refine Int.not_le.mp fun h=> ?_;have:=FW h (J3 G2.pos);omega
   have a:=S1.ent c hc cn;rw[<-e1,<-e0,z]at a;have b:=hmax _ (fkc t2 XF Wh);have:tt=(T t2).col (q t2):=Ui a b;exact G2.dis (q t2) (p t2) S2.hq S2.hp (this.symm.trans e2)
  ·rw[aA (by omega)]at f;rw[f,zu]at hlt;exact absurd hlt (wfb 0)
 ·have f:=G2.dir (dH hr0) S2.hq;rw[fK hr0,e0]at f;rw[f]at hlt;have fk:Fk ((T t1).col c):=diff ZK (dH XH) XF (dH Wh) ⟨c,hc,rfl⟩ (fun⟨c',hc',e'⟩=>G2.dis c' r0 hc' hr0 (e'.trans e0.symm));have le:=hmax _ fk;by_cases z:(T t1).col c=tt
  ·have cq:c=q t1:=G1.Em c (q t1) hc S1.hq (z.trans e1);have rp:r0=p t2:=G2.Lr r0 (p t2) hr0 S2.hp (e0.trans (z.trans e2));subst cq rp;have a:=S1.neg;have b:=S2.by_;have:=Xo (a:= -((T t1).cell m (q t1))) (b:=(T t2).cell (p t2) (q t2)) (by omega) b
   grind
  ·have cn:¬(T t1).cell m c<0:=fun h=>by
    have:=S1.ent c hc h;omega
   have Qw:0<(T t2).cell r0 (q t2):=by
    refine Int.not_le.mp fun h=> ?_;have:=FW (a:=(T t1).cell m c) (b:= -((T t2).cell r0 (q t2))) (by omega) (by omega);omega
   have v1:Fn n S (T t1) 0 (nv n S ((T t1).col c))=0:=by rw[zm G1.dt (dX n) hc,aA (zy c)]
   have v2:=XS hnm ZK (dH XH) XF (dH Wh) v1;have b:=G2.base (dH hr0);rw[fK hr0,e0,v2]at b;have k:=fl t2 XF Wh;rcases S2.lev r0 hr0 Qw with h|⟨_,h⟩
   ·rw[k,<-b,JR,JR]at h;exact absurd h (wfb 0)
   ·rw[<-e2,e0]at h;omega
noncomputable def enc:List Bool->Nat
 |[]=>0
 |b::l=>(if b=true then 1 else 0)+2*enc l
theorem Ol:∀l:List Bool,enc l<2^l.length
 |[]=>by decide
 |b::l=>by
  have:=Ol l;show(if b=true then 1 else 0)+2*enc l<2^(l.length+1);rw[wfg];split<;>omega
theorem HX:∀{l l':List Bool},l.length=l'.length->enc l=enc l'->l=l'
 |[],[],_,_=>rfl
 |b::l,b'::l',h,e=>by
  have e':(if b=true then 1 else 0)+2*enc l=(if b'=true then 1 else 0)+2*enc l':=e;have hb:b=b':=by cases b<;>cases b'<;>simp at e'⊢<;>omega
  subst hb;rw[HX (l:=l) (l':=l') (by simpa using h) (by omega)]
theorem few:∀(K:Nat) (l:List Nat),l.Nodup->(∀x∈l,x<K)->l.length<=K
 |0,[],_,_=>aX 0
 |0,x::_,_,h=>absurd (h x iW) (Uh x)
 |K+1,l,nd,h=>by
  have a:=few K (l.filter fun x=>decide (x≠K)) (nd.filter _) fun x hx=>by
   obtain⟨h1,h2⟩:=fL.mp hx;have:=h x h1;have:=fX h2;omega
  have b:l.length<=(l.filter fun x=>decide (x≠K)).length+1:=by
   clear a h
   induction l with
   |nil=>exact dX _
   |cons y l ih=>
    have nd':=J4.mp nd;rw[Cp];by_cases c:y=K
    ·subst c;rw[aA (by simp)];have:l.filter (fun x=>decide (x≠y))=l:=List.filter_eq_self.mpr fun x hx=>cL fun e=>nd'.1 (e▸hx);rw[this];exact aX _
    ·rw[aF (cL c)];have:=ih nd'.2;simp only[zc];omega
  omega
open Classical in
noncomputable def code(n m:Nat)(T:Tab):Nat:=enc ((List.range (n+m)).map fun a=>decide (inC n T a))
theorem Run.short(R:Run n m S w T p q L):L<2^(n+m):=by
 have inj:∀i j,i<=L->j<=L->code n m (T i)=code n m (T j)->i=j:=by
  have one:∀i j,i<j->j<=L->code n m (T i)≠code n m (T j):=fun i j hij hj e=>by
   have l:=HX (by simp) e;refine R.Jo hij hj fun a=> ?_;by_cases ha:a<n+m
   ·have:=lq (fun l:List Bool=>l[a]?) l;simp only[dJ,Sw ha,Option.map_some,Option.some.injEq,decide_eq_decide]at this;exact this
   ·exact⟨fun⟨c,hc,e⟩=>absurd ((R.good i (by omega)).RT c hc) (by omega),fun⟨c,hc,e⟩=>absurd ((R.good j hj).RT c hc) (by omega)⟩
  intro i j hi hj e;rcases Nat.lt_trichotomy i j with h|h|h
  ·exact absurd e (one i j h hj)
  ·exact h
  ·exact absurd e.symm (one j i h hi)
 have nd:((List.range (L+1)).map fun t=>code n m (T t)).Nodup:=by
  refine P0.mpr (List.nodup_range.imp_of_mem fun{a b} ha hb hab e=>hab (inj a b ?_ ?_ e))
  ·have:=jZ.mp ha;omega
  ·have:=jZ.mp hb;omega
 have:=few (2^(n+m)) _ nd fun x hx=>by
  obtain⟨t,_,rfl⟩:=jY.mp hx;have:=Ol ((List.range (n+m)).map fun a=> @decide (inC n (T t) a) (Classical.propDecidable _));rw[aJ,vo]at this;exact this
 rw[aJ,vo]at this;omega
end
section
variable{n m:Nat}{S:Nat->Nat->Bool}{w:Nat->Int}{T:Tab}
theorem oA{a j:Nat}(h:a<n):nv n S a j=if j=a+1 then 1 else 0:=aF h
theorem xZ{k j:Nat}:nv n S (n+k) j=if j=0 then 1 else if S k (j-1)=true then -1 else 0:=by
 unfold nv;rw[aA (by omega),show n+k-n=k by omega]
theorem Gv{y:Nat->Int}{j:Nat}(hj:j<=n):sm n (fun c=>y c*nv n S c j)=if j=0 then 0 else y (j-1):=by
 by_cases h:j=0
 ·rw[aF h];exact cV n fun c hc=>by rw[oA hc,aA (by omega),zu]
 ·rw[aA h,dg (j:=j-1) n (by omega) fun c hc hn=>by rw[oA hc,aA (by omega),zu],oA (by omega),aF (by omega),Yo]
theorem Dy{k j:Nat}(hj:j<=n):nv n S (n+k) j=1*one j-sm n (fun c=>(if S k c=true then 1 else 0)*nv n S c j):=by
 rw[xZ,Gv hj];unfold one;by_cases h:j=0
 ·rw[aF h,aF h,aF h];rfl
 ·rw[aA h,aA h,aA h];split<;>rfl
theorem J1{j:Nat}(hj:j<=n):zv w j=0*one j-sm n (fun c=> -(w c)*nv n S c j):=by
 rw[Gv hj];unfold zv;by_cases h:j=0
 ·rw[aF h,aF h];omega
 ·rw[aA h,aA h];omega
noncomputable def start(n m:Nat)(S:Nat->Nat->Bool)(w:Nat->Int):Tab where
 col:=fun c=>c
 row:=fun r=>n+r
 cell:=fun r c=>if r=m then(if c=n then 0 else -(w c))else if c=n then 1 else if S r c=true then 1 else 0
 over:=1
 s:=1
theorem Cz:Good n m S w (start n m S w):=by
 refine⟨Int.one_pos,fun r hr j hj=> ?_,.inl rfl,?_,fun c c' _ _ e=>e,fun r r' _ _ e=>by have:n+r=n+r':=e;omega,fun c r hc _ e=>by have:c=n+r:=e;omega,fun c hc=>by show c<n+m;omega,fun r hr=>by show n+r<n+m;omega,fun a ha=> ?_,fun r hr=> ?_⟩
 ·show 1*rv n m S w (start n m S w) r j=(start n m S w).cell r n*one j-sm n (fun c=>(start n m S w).cell r c*nv n S c j);by_cases h:r<m
  ·rw[fK h];show 1*nv n S (n+r) j=_;rw[Cj,Dy hj];have e1:(start n m S w).cell r n=1:=by show(if r=m then _ else if n=n then(1:Int)else _)=1;rw[aA (by omega),aF rfl]
   rw[e1,bw n fun c hc=> ?_];show _=(if r=m then _ else if c=n then(1:Int)else if S r c=true then 1 else 0)*_;rw[aA (show¬r=m by omega),aA (show¬c=n by omega)]
  ·have e:r=m:=by omega
   subst e;rw[gZ,Cj,J1 (n:=n) (S:=S) hj];have e1:(start n r S w).cell r n=0:=by show(if r=r then(if n=n then(0:Int)else _)else _)=0;rw[aF rfl,aF rfl]
   rw[e1,bw n fun c hc=> ?_];show _=(if r=r then(if c=n then(0:Int)else -(w c))else _)*_;rw[aF rfl,aA (show¬c=n by omega)]
 ·show(1:Int)=1*det (n+1) _;rw[Bf (n+1) _ fun i hi j hj=> ?_]; · rfl
  by_cases h:i=0
  ·subst h;rw[Bo];unfold one;by_cases e:j=0
   ·rw[aF e,aF e.symm]
   ·rw[aA e,aA (way e)]
  ·obtain⟨c,rfl⟩:∃c,i=c+1:=⟨i-1,by omega⟩;rw[Ib];show nv n S c j=_;rw[oA (by omega)];by_cases e:j=c+1
   ·rw[aF e,aF e.symm]
   ·rw[aA e,aA (way e)]
 ·by_cases h:a<n
  ·exact .inl ⟨a,h,rfl⟩
  ·exact .inr ⟨a-n,by omega,by show n+(a-n)=a;omega⟩
 ·show 0<=(if r=m then _ else if n=n then(1:Int)else _);rw[aA (by omega),aF rfl];decide
theorem Good.bounded(G:Good n m S w T)(cov:∀p,p<n->∃k,k<m/\S k p=true){q:Nat}(hq:q<n):∃r,r<m/\0<T.cell r q:=by
 refine Xv fun no=> ?_;have no':∀r,r<m->T.cell r q<=0:=fun r hr=>Int.not_lt.mp fun h=>no ⟨r,hr,h⟩;have hq':q+1<=n:=hq;have nn:∀a,a<n+m->0<=Fn n S T (q+1) (nv n S a):=fun a ha=>by
  rcases G.all a ha with⟨c,hc,e⟩|⟨r,hr,e⟩
  ·rw[<-e,zm G.dt hq' hc];split
   ·exact J3 G.pos
   ·exact tH 0
  ·have:=G.dir (dH hr) hq;rw[fK hr,e]at this;rw[this];have:=no' r hr;omega
 have set:∀k,Fn n S T (q+1) (nv n S (n+k))= -sm n (fun p=>(if S k p=true then 1 else 0)*Fn n S T (q+1) (nv n S p)):=fun k=>by
  rw[J2 fun j hj=>Dy hj,jU hq' _ _ (fun c=>if S k c=true then 1 else 0) (fun c=>nv n S c),lY G.dt hq',aA (zy q)];omega
 have low:∀p,p<n->Fn n S T (q+1) (nv n S p)=0:=fun p hp=>by
  obtain⟨k,hk,hs⟩:=cov p hp;have a:=nn (n+k) (by omega);rw[set k]at a;have:=Gx n (f:=fun p=>(if S k p=true then 1 else 0)*Fn n S T (q+1) (nv n S p)) (fun i hi=> ?_) (by omega) p hp
  ·rw[aF hs,Cj]at this;exact this
  ·have:=nn i (by omega);split<;>omega
 have z:Fn n S T (q+1) (nv n S (T.col q))=0:=by
  have hc:=G.RT q hq;by_cases h:T.col q<n
  ·exact low _ h
  ·have e:T.col q=n+(T.col q-n):=by omega
   rw[e,set,cV n fun p hp=>by rw[low p hp,zu]];rfl
 rw[zm G.dt hq' hq,aF rfl]at z;have:=G.pos;omega
theorem MF(a j:Nat): -1<=nv n S a j/\nv n S a j<=1:=by
 unfold nv;split
 ·split<;>decide
 ·split
  ·decide
  ·split<;>decide
theorem Ie(i j:Nat): -1<=vO n S T i j/\vO n S T i j<=1:=by
 unfold vO;split
 ·unfold one;split<;>decide
 ·exact MF _ _
theorem Ft(G:Good n m S w T){c:Nat}{v:Vec}{B:Int}(hB:1<=B)(h:∀j,j<=n-> -B<=v j/\v j<=B): -(fct (n+1)*B)<=Fn n S T c v/\Fn n S T c v<=fct (n+1)*B:=by
 have d:=yD (n+1) (put (vO n S T) c v) c B hB (fun i _ j _ hn=>by rw[iT _ _ hn];exact Ie i j) (fun j hj _=>by rw[put_same];exact h j (by omega));unfold Fn;rcases G.sg with s|s
 ·rw[s,Cj];exact d
 ·rw[s];omega
theorem Good.Qy(G:Good n m S w T):T.over<=fct (n+1):=by
 have d:=Ft G (c:=0) (v:=vO n S T 0) (B:=1) (by decide) fun j _=>Ie 0 j;rw[Pb G.dt (dX n) (dX n),aF rfl]at d;omega
theorem Good.Ov(G:Good n m S w T)(hw:∀p,p<n->0<=w p/\w p<=99){r c:Nat}(hr:r<=m)(hc:c<=n): -(fct (n+1)*99)<=T.cell r c/\T.cell r c<=fct (n+1)*99:=by
 have hv:∀j,j<=n-> -99<=rv n m S w T r j/\rv n m S w T r j<=99:=fun j hj=>by
  unfold rv;split
  ·have:=MF (n:=n) (S:=S) (T.row r) j;omega
  ·unfold zv;split
   ·decide
   ·have:=hw (j-1) (by omega);omega
 by_cases h:c=n
 ·subst h;have d:=Ft G (c:=0) (B:=99) (by decide) hv;rw[G.base hr]at d;exact d
 ·have d:=Ft G (c:=c+1) (B:=99) (by decide) hv;rw[G.dir hr (by omega)]at d;omega
theorem Oh:∀{k:Nat},k<=11->fct k<=39916800
 |0,_|1,_|2,_|3,_|4,_|5,_|6,_|7,_|8,_|9,_|10,_|11,_=>by decide
noncomputable def Ys(n m:Nat)(T:Tab)(a:Nat):Int:=sm n fun c=>if T.col c=a then T.cell m c else 0
noncomputable def Xs(n m:Nat)(T:Tab)(a:Nat):Int:=sm m fun r=>if T.row r=a then T.cell r n else 0
theorem Good.Yb(G:Good n m S w T){c:Nat}(hc:c<n):Ys n m T (T.col c)=T.cell m c:=by
 unfold Ys;rw[dg (j:=c) n hc fun i hi hn=>aA fun e=>hn (G.Em i c hi hc e),aF rfl]
theorem X8{a:Nat}(h:∀c,c<n->T.col c≠a):Ys n m T a=0:=cV n fun c hc=>aA (h c hc)
theorem Good.SX(G:Good n m S w T){r:Nat}(hr:r<m):Xs n m T (T.row r)=T.cell r n:=by
 unfold Xs;rw[dg (j:=r) m hr fun i hi hn=>aA fun e=>hn (G.Lr i r hi hr e),aF rfl]
theorem SN{a:Nat}(h:∀r,r<m->T.row r≠a):Xs n m T a=0:=cV m fun r hr=>aA (h r hr)
theorem Good.J5(G:Good n m S w T){a:Nat}(ha:a<n+m):Fn n S T 0 (nv n S a)=Xs n m T a:=by
 rcases G.all a ha with⟨c,hc,e⟩|⟨r,hr,e⟩
 ·rw[<-e,zm G.dt (dX n) hc,aA (zy c),SN fun r hr z=>G.dis c r hc hr z.symm]
 ·rw[<-e,G.SX hr];have:=G.base (dH hr);rw[fK hr]at this;exact this
theorem Good.SQ(G:Good n m S w T)(a:Nat):0<=Xs n m T a:=wA m fun r hr=>by
 have:=G.XJ r hr;split
 ·exact this
 ·exact tH 0
theorem R8(h:∀c,c<n->0<=T.cell m c)(a:Nat):0<=Ys n m T a:=wA n fun c hc=>by
 have:=h c hc;split
 ·exact this
 ·exact tH 0
theorem zM(f:Nat->Int)(a:Nat):∀b,sm (a+b) f=sm a f+sm b fun k=>f (a+k)
 |0=>by show sm a f=sm a f+0;omega
 |b+1=>by
  show sm (a+b) f+f (a+b)=_;rw[zM f a b];show _=sm a f+(sm b (fun k=>f (a+k))+f (a+b));omega
theorem Good.Y0(G:Good n m S w T)(g:Nat->Int):sm n (fun c=>T.cell m c*g (T.col c))=sm n (fun a=>Ys n m T a*g a)+sm m (fun k=>Ys n m T (n+k)*g (n+k)):=by
 rw[<-zM (fun a=>Ys n m T a*g a)];have e:∀a,Ys n m T a*g a=sm n fun c=>(if T.col c=a then T.cell m c else 0)*g a:=fun a=>by
  unfold Ys;rw[Ck,<-eE];exact bw n fun c _=>Ck _ _
 rw[bw (n+m) fun a _=>e a,Gw (fun a c=>(if T.col c=a then T.cell m c else 0)*g a)];refine bw n fun c hc=> ?_;rw[dg (j:=T.col c) (n+m) (G.RT c hc) fun a _ hn=>by rw[aA (way hn),JR],aF rfl]
theorem Good.total(G:Good n m S w T):sm m (fun k=>Ys n m T (n+k))=T.cell m n:=by
 have e:=G.eq m (aX m) 0 (dX n);rw[gZ,G.Y0 (fun a=>nv n S a 0),cV n fun a ha=>by rw[oA ha,aA (by omega),zu]]at e;have z:zv w 0=0:=rfl;have o:one 0=1:=rfl;rw[z,o,bw m fun k _=>show Ys n m T (n+k)*nv n S (n+k) 0=Ys n m T (n+k) by rw[xZ,aF rfl,Yo]]at e;omega
theorem Good.enough(G:Good n m S w T){p:Nat}(hp:p<n):sm m (fun k=>if S k p=true then Ys n m T (n+k)else 0)=T.over*w p+Ys n m T p:=by
 have e:=G.eq m (aX m) (p+1) hp;rw[gZ,G.Y0 (fun a=>nv n S a (p+1)),dg (j:=p) n hp fun a ha hn=>by rw[oA ha,aA (by omega),zu],oA hp,aF rfl]at e;have z:zv w (p+1)=w p:=by unfold zv;rw[aA (zy p)];rfl
 have o:one (p+1)=0:=aA (zy p);rw[z,o,bw m fun k _=>show Ys n m T (n+k)*nv n S (n+k) (p+1)= -1*(if S k p=true then Ys n m T (n+k)else 0) by
  rw[xZ,aA (zy p),Nat.add_sub_cancel];split<;>omega,eE]at e
 omega
theorem Good.light(G:Good n m S w T){k:Nat}(hk:k<m):sm n (fun p=>if S k p=true then Xs n m T p else 0)<=T.over:=by
 have h:Fn n S T 0 (nv n S (n+k))=1*Fn n S T 0 one-sm n (fun p=>(if S k p=true then 1 else 0)*Fn n S T 0 (nv n S p)):=by
  rw[J2 fun j hj=>Dy hj,jU (dX n) _ _ (fun c=>if S k c=true then 1 else 0) (fun c=>nv n S c)]
 rw[lY G.dt (dX n),aF rfl,G.J5 (by omega),bw n fun p hp=>show(if S k p=true then(1:Int)else 0)*Fn n S T 0 (nv n S p)=if S k p=true then Xs n m T p else 0 by
  rw[G.J5 (by omega)];split<;>omega]at h
 have:=G.SQ (n+k);omega
theorem Good.prices(G:Good n m S w T):sm n (fun p=>w p*Xs n m T p)=T.cell m n:=by
 have h:=G.base (aX m);rw[gZ,J2 fun j hj=>J1 (n:=n) (S:=S) hj,jU (dX n) _ _ (fun c=> -(w c)) (fun c=>nv n S c),bw n fun p hp=>show -(w p)*Fn n S T 0 (nv n S p)= -1*(w p*Xs n m T p) by rw[G.J5 (by omega)];grind,eE]at h;omega
end
end Sx
namespace HT
open PySem PyProof.Rows
noncomputable def jg:List Int->List Int->Bool
 |_,[]=>true
 |[],_::_=>false
 |x::xs,y::ys=>if x=y then jg xs ys else decide (y<=x)
theorem DP(x y:Int)(xs ys:List Int):jg (x::xs) (y::ys)=if x=y then jg xs ys else decide (y<=x):=rfl
theorem Lz(A:Around)(s:η)(a:Int)(t:Tok)(c:Int)(u:Tok)(prog:ξ)(w:τ)(E:L4)(Q:L4)(h:Q (.bool (decide (c<=a))) s):
  wpAny (model prog w) A (richCompare .GtE (.int a t) (.int c u)) Q E s:=
 (PyProof.Rows.ge_int h:wpAny (model prog w) A (compareOp .GtE (.int a t) (.int c u)) Q E s)
section
open PySem.SeqAt
open PySem.AutoSeq1 (wpAny_loadPart')
open PySem.MeetsSeq PySem.MeetsSeq2 PySem.MeetsSeq3
theorem vJ(l b:Addr)(items items2:Array ζ)(n n2:Nat)(dd dd2:Option Addr)(sl sl2:Array (Option ζ))(ns ms:List Int)(hi:IntsAre items.toList ns)(hj:IntsAre items2.toList ms):
  Meets (Builtin.«tuple.__ge__» ⟨[.ref l,.ref b],[]⟩)
   (fun _ R s=>s.heap.get? l=some {cls:= .type "tuple",dict:=dd,data:= .seq items n,slots:=sl}/\s.heap.get? b=some {cls:= .type "tuple",dict:=dd2,data:= .seq items2 n2,slots:=sl2}/\
    R (.ok (.ret (.bool (jg ns ms)))) s):=
 .of_wp fun prog w A R s h=>by
  obtain⟨hp,g,d,tk,os⟩:=s;obtain⟨hl,hb,h⟩:=h;have f2:=AutoSeq1.sub_tuple_tuple;have z1:items.size=ns.length:=by rw[<-hi.length];simp
  have z2:items2.size=ms.length:=by rw[<-hj.length];simp
  wp_walk using wpAny_loadPart' hl,wpAny_loadPart' hb,wpAny_forIn_list _ (fun rest b s'=>b.1=none/\s'=⟨hp,g,d,tk,os⟩/\∃(vs ws:List ζ) (ns' ms':List Int),rest=vs.zip ws/\
   IntsAre vs ns'/\IntsAre ws ms'/\ns'.length+items2.size=ms'.length+items.size/\R (.ok (.ret (.bool (jg ns' ms')))) ⟨hp,g,d,tk,os⟩) _
  case turn=>
   rintro⟨y,x⟩ rest b s' ⟨hb',rfl,vs,ws,ns',ms',hz,hvi,hwi,hlen,hR⟩;cases hvi with
   |nil=>rw[wds]at hz;cases hz
   |cons a t hvi'=>
    cases hwi with
    |nil=>rw[wdj]at hz;cases hz
    |cons c u hwi'=>
     rw[Yi]at hz;injection hz with hyx hrest
     injection hyx with hy hx
     subst hy hx;rw[DP]at hR;simp only[zc]at hlen;obtain⟨e,he,hiff⟩:=eqAt_int A.in1 ⟨hp,g,d,tk,os⟩ a t c u;refine bK (he prog w _ _ ?_);cases e with
     |true=>
      rw[aF (hiff.mp rfl)]at hR
      wp_walk
      exact⟨rfl,rfl,_,_,_,_,hrest,hvi',hwi',by omega,hR⟩
     |false=>
      rw[aA (fun q=>absurd (hiff.mpr q) vG)]at hR;have hri:=Lz A.in1 ⟨hp,g,d,tk,os⟩ a t c u prog w
      wp_walk using hri
      exact⟨_,rfl,by simpa using hR⟩
  case fin=>
   rintro⟨b1,b2⟩ s' ⟨hb',rfl,vs,ws,ns',ms',hz,hvi,hwi,hlen,hR⟩;simp only at hb';subst hb';have hv:jg ns' ms'=decide (items2.size<=items.size):=by
    cases hvi with
    |nil=>
     cases hwi with
     |nil=>
      simp only[Pq]at hlen;show true=_;exact(cL (by omega)).symm
     |cons c u hw=>
      simp only[Pq,zc]at hlen;show false=_;exact(fO (by omega)).symm
    |cons a t hv=>
     cases hwi with
     |nil=>
      simp only[Pq,zc]at hlen;show true=_;exact(cL (by omega)).symm
     |cons c u hw=>
      rw[Yi]at hz;cases hz
   rw[hv]at hR
   wp_walk
   exact⟨_,rfl,by simpa[Builtin.Tuple.tupleCompareSizes]using hR⟩
  case h=>
   exact⟨rfl,rfl,items.toList,items2.toList,ns,ms,rfl,hi,hj,by omega,h⟩
end
section
variable{prog:ξ}{w:τ}{A:Around}{E:L4}{s:η}
theorem Eb{l b:Addr}{items items2:Array ζ}{ns ms:List Int}{Q:L4}(hl:IsTup s.heap l items)(hb:IsTup s.heap b items2)(hi:IntsAre items.toList ns)(hj:IntsAre items2.toList ms)(hu:A.units<cLine)(h:Q (.bool (jg ns ms)) s):wpAny (model prog w) A (compareOp .GtE (.ref l) (.ref b)) Q E s:=by
 obtain⟨⟨cls,dd,data,sl⟩,ho,hc,n,hd⟩:=id hl;obtain⟨⟨cls2,dd2,data2,sl2⟩,ho2,hc2,n2,hd2⟩:=id hb;simp only at hc hd hc2 hd2;subst hc hd hc2 hd2;exact richCompare_meets_room (op:= .GtE) ⟨_,ho,rfl⟩ ⟨_,ho2,rfl⟩ PySem.F.slot_tuple_ge PySem.F.entry_tuple_ge (PySem.F.args_tuple_ge_2 _ _) (vJ l b items items2 n n2 dd dd2 sl sl2 ns ms hi hj)
  ⟨ho,ho2,show Value.bool (jg ns ms)≠Value.notImplemented/\Q (.bool (jg ns ms)) s from⟨(fun x=>nomatch x),h⟩⟩ hu
end
end HT
namespace L2
open PySem PySem.Spec PyProof.Rows
section
variable{X:Cx}
noncomputable def aaH(K:W.Frag):R2:=fun x y H Q=>∃a b ns ms,x= .ref a/\y= .ref b/\SqT K H a (ns.map V.int)/\SqT K H b (ms.map V.int)/\Q (.bl (HT.jg ns ms)) H
theorem Vd(hu:X.A.units<cLine):OpR X (compareOp .GtE) (aaH X.K):=by
 intro pins s σ H x y v u Q I rx ry h;obtain⟨a,b,ns,ms,rfl,rfl,ha,hb,q⟩:=h;cases rx;cases ry;obtain⟨its,r1,p1,_⟩:=I.tuple ha;obtain⟨its2,r2,p2,_⟩:=I.tuple hb;have i1:IntsAre its.toArray.toList ns:=T8 r1;have i2:IntsAre its2.toArray.toList ms:=T8 r2;exact HT.Eb p1 p2 i1 i2 hu ⟨.bl (HT.jg ns ms),H,I,rfl,q⟩
end
end L2
namespace Hs
open PySem L2 oJ
noncomputable def top(i:Nat):Stmt:=PySem.Challenge.pw_hueshare_k50_shares_kept.main.body.getD i (.Pass ⟨0,0,0,0⟩)
noncomputable abbrev eF:Stmt:=top 9
noncomputable abbrev jJ:Stmt:=top 10
noncomputable abbrev jL:Stmt:=top 11
noncomputable abbrev Xb:Stmt:=top 12
noncomputable abbrev lE:Stmt:=top 13
noncomputable abbrev nZ:Stmt:=top 14
noncomputable abbrev tZ:Stmt:=top 15
noncomputable abbrev T9:Stmt:=top 16
noncomputable abbrev jB:Stmt:=top 17
noncomputable abbrev jA:Stmt:=top 18
noncomputable abbrev nT:Stmt:=top 19
noncomputable abbrev xJ:Stmt:=top 20
noncomputable abbrev fU:Stmt:=top 21
noncomputable abbrev zbs:Stmt:=top 24
noncomputable abbrev jc:Stmt:=top 25
noncomputable abbrev mQ:Stmt:=top 26
noncomputable abbrev iI:Stmt:=top 27
noncomputable abbrev o9:Stmt:=top 28
noncomputable abbrev jC:Stmt:=top 30
noncomputable abbrev nY:Stmt:=top 31
noncomputable abbrev fB:Stmt:=top 33
noncomputable abbrev fu:Stmt:=top 34
noncomputable abbrev qu:Stmt:=top 35
noncomputable abbrev lH:Stmt:=top 36
noncomputable abbrev jK:Stmt:=top 37
noncomputable abbrev gj:Stmt:=inClass (top 40) 0
noncomputable abbrev zbx:Stmt:=inClass (top 40) 1
noncomputable abbrev zce:Stmt:=inClass (top 40) 2
noncomputable abbrev zcv:Stmt:=inClass (top 40) 3
noncomputable abbrev zdi:Stmt:=inClass (top 40) 4
noncomputable abbrev fZ:Stmt:=inClass (top 40) 5
noncomputable abbrev fD:Stmt:=inClass (top 40) 6
noncomputable abbrev X7:Stmt:=inClass (top 40) 7
noncomputable abbrev zcu:Stmt:=inClass (top 40) 8
noncomputable abbrev zct:Stmt:=inClass (top 40) 9
noncomputable abbrev fM:Stmt:=top 41
noncomputable abbrev pq:Stmt:=top 42
noncomputable abbrev nW:Stmt:=top 43
noncomputable abbrev lF:Stmt:=top 44
noncomputable abbrev Di:Stmt:=top 45
noncomputable abbrev lG:Stmt:=top 46
noncomputable abbrev jz:Stmt:=top 48
noncomputable abbrev iJ:Stmt:=top 49
noncomputable abbrev X6:Stmt:=top 50
noncomputable abbrev iK:Stmt:=top 51
noncomputable abbrev pA:Stmt:=top 52
noncomputable abbrev gk:Stmt:=inClass (top 53) 0
noncomputable abbrev zdc:Stmt:=inClass (top 53) 1
noncomputable abbrev Xd:Stmt:=inClass (top 53) 2
noncomputable abbrev zbt:Stmt:=inClass (top 53) 3
noncomputable abbrev iR:Stmt:=inClass (top 53) 4
noncomputable abbrev iQ:Stmt:=inClass (top 53) 5
noncomputable abbrev fH:Stmt:=inClass (top 53) 6
noncomputable abbrev gn:Stmt:=inClass (top 53) 7
noncomputable abbrev iM:Stmt:=inClass (top 53) 8
noncomputable abbrev fG:Stmt:=inClass (top 53) 9
noncomputable abbrev zdk:Stmt:=inClass (top 53) 10
noncomputable abbrev zdj:Stmt:=inClass (top 53) 11
noncomputable abbrev fJ:Stmt:=inClass (top 53) 12
noncomputable abbrev jE:Stmt:=top 55
noncomputable abbrev Ub:Stmt:=top 56
noncomputable abbrev fY:Stmt:=top 57
noncomputable abbrev lD:Stmt:=top 58
noncomputable abbrev jD:Stmt:=top 59
noncomputable abbrev zbr:Stmt:=top 60
noncomputable abbrev Xc:Stmt:=top 61
noncomputable abbrev jG:Stmt:=top 62
noncomputable abbrev X4:Stmt:=top 63
noncomputable abbrev eO:Stmt:=top 64
noncomputable abbrev zca:Stmt:=top 65
noncomputable abbrev zcb:Stmt:=top 66
noncomputable abbrev zcs:Stmt:=top 67
noncomputable abbrev iH:Stmt:=top 68
noncomputable abbrev jF:Stmt:=top 69
noncomputable abbrev nU:Stmt:=top 70
noncomputable abbrev zdh:Stmt:=top 71
noncomputable abbrev jH:Stmt:=top 72
noncomputable abbrev zbp:Stmt:=top 73
noncomputable abbrev rE:Stmt:=top 74
end Hs
namespace Hs
open PySem L2
theorem aW{X:Cx}{b:List Stmt}{R:TS->Prop}(h:let Y:=X;∃t,PSs Y b t/\R t):∃t,PSs X b t/\R t:=h
theorem lR{t1 t2:TS}{D:Ends}{σ:St}{H:Hp}(h:let c2:=t2;tSeq t1 c2 D σ H):(tSeq t1 t2) D σ H:=h
theorem gC{t1 t2 t3:TS}{D:Ends}{σ:St}{H:Hp}(h:let c3:=t3;let c2:=tSeq t2 c3;tSeq t1 c2 D σ H):(tSeq t1 (tSeq t2 t3)) D σ H:=h
theorem wH{t1 t2 t3 t4:TS}{D:Ends}{σ:St}{H:Hp}(h:let c4:=t4;let c3:=tSeq t3 c4;let c2:=tSeq t2 c3;tSeq t1 c2 D σ H):(tSeq t1 (tSeq t2 (tSeq t3 t4))) D σ H:=h
theorem Nq{t1 t2 t3 t4 t5:TS}{D:Ends}{σ:St}{H:Hp}(h:let c5:=t5;let c4:=tSeq t4 c5;let c3:=tSeq t3 c4;let c2:=tSeq t2 c3;tSeq t1 c2 D σ H):(tSeq t1 (tSeq t2 (tSeq t3 (tSeq t4 t5)))) D σ H:=h
theorem Np{t1 t2 t3 t4 t5 t6:TS}{D:Ends}{σ:St}{H:Hp}(h:let c6:=t6;let c5:=tSeq t5 c6;let c4:=tSeq t4 c5;let c3:=tSeq t3 c4;let c2:=tSeq t2 c3;tSeq t1 c2 D σ H):(tSeq t1 (tSeq t2 (tSeq t3 (tSeq t4 (tSeq t5 t6))))) D σ H:=h
theorem ZC{t1 t2 t3 t4 t5 t6 t7 t8:TS}{D:Ends}{σ:St}{H:Hp}(h:let c8:=t8;let c7:=tSeq t7 c8;let c6:=tSeq t6 c7;let c5:=tSeq t5 c6;let c4:=tSeq t4 c5;let c3:=tSeq t3 c4;let c2:=tSeq t2 c3;tSeq t1 c2 D σ H):(tSeq t1 (tSeq t2 (tSeq t3 (tSeq t4 (tSeq t5 (tSeq t6 (tSeq t7 t8))))))) D σ H:=h
theorem Zz{t1 t2 t3 t4 t5 t6 t7 t8 t9:TS}{D:Ends}{σ:St}{H:Hp}(h:let c9:=t9;let c8:=tSeq t8 c9;let c7:=tSeq t7 c8;let c6:=tSeq t6 c7;let c5:=tSeq t5 c6;let c4:=tSeq t4 c5;let c3:=tSeq t3 c4;let c2:=tSeq t2 c3;tSeq t1 c2 D σ H):(tSeq t1 (tSeq t2 (tSeq t3 (tSeq t4 (tSeq t5 (tSeq t6 (tSeq t7 (tSeq t8 t9)))))))) D σ H:=h
theorem Wf{t1 t2 t3 t4 t5 t6 t7 t8 t9 t10:TS}{D:Ends}{σ:St}{H:Hp}(h:let c10:=t10;let c9:=tSeq t9 c10;let c8:=tSeq t8 c9;let c7:=tSeq t7 c8;let c6:=tSeq t6 c7;let c5:=tSeq t5 c6;let c4:=tSeq t4 c5;let c3:=tSeq t3 c4;let c2:=tSeq t2 c3;tSeq t1 c2 D σ H):(tSeq t1 (tSeq t2 (tSeq t3 (tSeq t4 (tSeq t5 (tSeq t6 (tSeq t7 (tSeq t8 (tSeq t9 t10))))))))) D σ H:=h
theorem Wd{t1 t2 t3 t4 t5 t6 t7 t8 t9 t10 t11 t12 UL:TS}{D:Ends}{σ:St}{H:Hp}(h:let c13:=UL;let c12:=tSeq t12 c13;let c11:=tSeq t11 c12;let c10:=tSeq t10 c11;let c9:=tSeq t9 c10;let c8:=tSeq t8 c9;let c7:=tSeq t7 c8;let c6:=tSeq t6 c7;let c5:=tSeq t5 c6;let c4:=tSeq t4 c5;let c3:=tSeq t3 c4;let c2:=tSeq t2 c3;tSeq t1 c2 D σ H):(tSeq t1 (tSeq t2 (tSeq t3 (tSeq t4 (tSeq t5 (tSeq t6 (tSeq t7 (tSeq t8 (tSeq t9 (tSeq t10 (tSeq t11 (tSeq t12 UL)))))))))))) D σ H:=h
end Hs
namespace Hs
open PySem L2 oJ
section
variable{P:ξ}{w:τ}{K:W.Frag}{mg:L5}{base:Heap}
noncomputable def oY(K:W.Frag):Sp:=fun vs H Q _=>∃x d,vs=[x]/\DX K H x d/\Q (.bl (fW d)) H
theorem Mf{f:Addr}{fd:ρ}(F:Fun K "is_whole" "is_whole" eF f fd)(mi:mg "isinstance"=none)(mI:mg "int"=none)(mB:mg "bool"=none):FnOk P w K mg base CX0 1 f fd ["thing"] (oY K):=by
 refine F.bZ ["thing"] fun cdv A outer s H vs Q E hr h=> ?_;obtain⟨x,d,rfl,hx,q⟩:=h;refine⟨_,aR (bB (zp (pB wR mi (aj (pv 0) (aj (pN "int" mI) ak)))
  (pe_one (pe_not (pB wR mi (aj (pv 0) (aj (pN "bool" mB) ak))))))),?_⟩
 refine⟨_,rfl,x,_,_,rfl,hx.kind,.inl rfl,_,rfl,?_⟩;refine ite2 (fun c=> ?_) (fun c=> ?_)
 ·refine⟨_,rfl,x,_,_,rfl,hx.kind,.inr (.inl rfl),_,rfl,?_⟩;cases d<;>first |exact q|(simp[oE,lO]at c;done)
 ·cases d<;>first |exact q|(exfalso;exact c rfl)
noncomputable def xq(K:W.Frag):Sp:=fun vs H Q _=>∃(n:Int) (x:V) (d:θ),vs=[.int n,x]/\DX K H x d/\Q (.bl (bR n d)) H
theorem Mp{f g:Addr}{fd gd:ρ}(F:Fun K "is_place" "is_place" jJ f fd)(D:bC K mg "is_whole" eF ["thing"] g gd)(G:FnOk P w K mg base CX0 1 g gd ["thing"] (oY K)):FnOk P w K mg base CX0 2 f fd ["n","thing"] (xq K):=by
 refine F.bZ ["n","thing"] fun cdv A outer s H vs Q E hr h=> ?_;obtain⟨n,x,d,rfl,hx,q⟩:=h;refine⟨_,aR (bB (zp (pe_call G hr rfl D.m D.F.kp D.b .nil pass0 (aj (pv 1) ak)) (pe_one (pe_chain op_le op_lt ao (pv 1) (pv 0))))),?_⟩;refine⟨_,rfl,x,d,rfl,hx,_,rfl,?_⟩;refine ite2 (fun c=> ?_) (fun c=> ?_)
 ·cases hx with
  |int i=>
   refine⟨_,rfl,_,_,rfl,rfl,_,rfl,?_⟩;refine ite2 (fun c2=> ?_) (fun c2=> ?_)
   ·refine⟨_,rfl,_,_,rfl,rfl,?_⟩;have e:bR n (.int i)=decide (i<n):=by show(decide (0<=i)&&decide (i<n))=_;rw[c2];rfl
    rw[e]at q;exact q
   ·have e:bR n (.int i)=false:=by show(decide (0<=i)&&decide (i<n))=_;rw[Bool.eq_false_iff.mpr c2];rfl
    rw[e]at q;exact q
  |_=>simp[fW]at c
 ·have e:bR n d=false:=by
   cases d<;>first |rfl|(exfalso;exact c rfl)
  rw[e]at q;exact q
noncomputable def zH(K:W.Frag):Sp:=fun vs H Q _=>∃(n:Int) (a:Addr) (xs:List V) (ds:List θ),vs=[.int n,.ref a]/\SqT K H a xs/\oW K H xs ds/\∀H',Same H H'->Q (.bl (ds.all (bR n))) H'
theorem jr{α:Type}(ds:List α)(p:α->Bool):(ds.map p).all id=ds.all p:=by rw[Xe];rfl
theorem Jk{f g:Addr}{fd gd:ρ}(F:Fun K "are_places" "are_places" jL f fd)(D:bC K mg "is_place" jJ ["n","thing"] g gd)(G:FnOk P w K mg base CX0 2 g gd ["n","thing"] (xq K))(mA:mg "all"=none):FnOk P w K mg base CX0 3 f fd ["n","things"] (zH K):=by
 refine F.bZ ["n","things"] fun cdv A outer s H vs Q E hr h=> ?_;obtain⟨n,a,xs,ds,rfl,hS,hd,q⟩:=h;refine⟨_,aR (bB (pB (eY rfl) mA (aj (pK ["thing"] ["n"] [0] (BW (pv 1)) (pG 0) nP (pe_call G hr rfl D.m D.F.kp D.b .nil pass0 (aj (pv 1) (aj (pv 0) ak)))) ak))),?_⟩;refine⟨_,rfl,a,xs,rfl,hS,fun hz=> ?_⟩;have hl:=hd.len;let gF:Nat->List V->St->Hp->Prop:=fun i acc σ H'=>acc=((ds.take i).map (bR n)).map V.bl/\Same H H'/\∃o,σ=[o,some (.int n)];refine BZ (xs:=xs) gF ⟨rfl,Same.refl _,_,rfl⟩ (fun i acc σ H' _ p=>p.2.1.tup hS) (fun i acc σ H' hi p=> ?_) hz (fun i x acc σ H' hx p=> ?_) (fun acc σ H' p=> ?_)
 ·rw[p.1];simp;omega
 ·obtain⟨rfl,sm,o,rfl⟩:=p;obtain⟨d,e1,e2⟩:=hd.get hx;refine⟨_,rfl,_,rfl,n,x,d,rfl,DX.same sm e2,?_,sm,_,rfl⟩;rw[sI,e1];simp
 ·intro p1 hp1;obtain⟨rfl,sm,_⟩:=p;refine⟨p1,(ds.map (bR n)),rfl,SqL.of (by rw[aB,hl,qm]),?_⟩;rw[jr];exact q _ (sm.trans (aM hp1 _))
noncomputable def W6(K:W.Frag)(H:Hp)(x y:V)(b:Bool):Prop:=(∃i j,x= .int i/\y= .int j/\b=decide (i<j))\/(∃p q ns ms,x= .ref p/\y= .ref q/\SqT K H p (ns.map V.int)/\SqT K H q (ms.map V.int)/\b=HT.lexLt ns ms)
noncomputable def tR(K:W.Frag):Sp:=fun vs H Q _=>∃(a:Addr) (xs:List V) (bs:Nat->Bool),vs=[.ref a]/\SqT K H a xs/\(∀k,k+1<xs.length->∃x y,xs[k]? =some x/\xs[k+1]? =some y/\W6 K H x y (bs k))/\
 ∀H',Same H H'->Q (.bl ((List.range (xs.length-1)).all bs)) H'
theorem Jj{f:Addr}{fd:ρ}(F:Fun K "is_rising" "is_rising" Xb f fd)(mA:mg "all"=none)(mR:mg "range"=none)(mL:mg "len"=none):FnOk P w K mg base CX0 1 f fd ["things"] (tR K):=by
 refine F.bZ ["things"] fun cdv A outer s H vs Q E hr h=> ?_;obtain⟨a,xs,bs,rfl,hS,hb,q⟩:=h;refine⟨_,aR (bB (pB (eY rfl) mA (aj (pK ["k"] ["things"] [0] (pi_range2 rfl mR (aj ao (aj (pB vm mL (aj (pv 0) ak)) ak))) (pG 0) nP (wQ (op_lt.or (GR K hr.units0)) (aQ (Cg K) (pv 1) (bA op_sub (pv 0) ao)) (aQ (Cg K) (pv 1) (pv 0)))) ak))),?_⟩;refine⟨_,rfl,a,xs,rfl,.inr hS,fun hz=>⟨1,_,rfl,⟨by omega,by omega,by omega,by omega⟩,?_⟩⟩;have en:((xs.length:Int)-1).toNat=xs.length-1:=by omega
 rw[en];let gF:Nat->List V->St->Hp->Prop:=fun i acc σ H'=>acc=((List.range i).map bs).map V.bl/\Same H H'/\∃o,σ=[o,some (.ref a)];refine R6 gF ⟨rfl,Same.refl _,_,rfl⟩ (fun i acc σ H' hi p=>by rw[p.1];simp) (by rw[gR];omega) (fun i acc σ H' hi p=> ?_) (fun acc σ H' p=> ?_)
 ·obtain⟨rfl,sm,o,rfl⟩:=p;obtain⟨x,y,hx,hy,hxy⟩:=hb i (by omega);have e1:(1+(i:Int))-1=((i:Nat):Int):=by omega
  have e2:(1+(i:Int))=((i+1:Nat):Int):=by omega
  have a1:atI xs (1+(i:Int)-1)=some x:=by rw[e1];exact atI_nat hx
  have a2:atI xs (1+(i:Int))=some y:=by rw[e2];exact atI_nat hy
  refine⟨_,rfl,_,rfl,_,_,rfl,rfl,a,xs,_,x,rfl,rfl,sm.tup hS,a1,_,rfl,_,rfl,a,xs,_,y,rfl,rfl,sm.tup hS,a2,?_⟩;have ea:((List.range i).map bs).map V.bl++[V.bl (bs i)]=((List.range (i+1)).map bs).map V.bl:=by rw[yZ];simp
  rcases hxy with⟨u,v,rfl,rfl,e⟩|⟨p,p',ns,ms,rfl,rfl,h1,h2,e⟩
  ·refine .inl ⟨u,v,rfl,rfl,?_,sm,_,rfl⟩;show _++[V.bl (decide (u<v))]=_;rw[<-e];exact ea
  ·refine .inr ⟨p,p',ns,ms,rfl,rfl,sm.tup h1,sm.tup h2,?_,sm,_,rfl⟩;show _++[V.bl (HT.lexLt ns ms)]=_;rw[<-e];exact ea
 ·intro p1 hp1;obtain⟨rfl,sm,_⟩:=p;refine⟨p1,(List.range (xs.length-1)).map bs,rfl,SqL.of aB,?_⟩;rw[jr];exact q _ (sm.trans (aM hp1 _))
theorem ints_of{H:Hp}{n:Int}{xs:List V}{ds:List θ}(h:oW K H xs ds)(hp:ds.all (bR n)=true):xs=(ds.map intD).map V.int:=by
 induction ds generalizing xs with
 |nil=>cases h;rfl
 |cons d ds ih=>
  rw[wfc,kO]at hp;cases h with
  |cons h t=>
   obtain⟨i,rfl,_⟩:=uq hp.1;cases h;rw[yX,yX,<-ih t hp.2];rfl
theorem Jc{H:Hp}(ns:List Int):∀k,k+1<(ns.map V.int).length->∃x y,(ns.map V.int)[k]? =some x/\(ns.map V.int)[k+1]? =some y/\W6 K H x y (decide (ns.getD k 0<ns.getD (k+1) 0)):=fun k hk=>by
 rw[aJ]at hk;have h1:k<ns.length:=by omega
 refine⟨.int (ns.getD k 0),.int (ns.getD (k+1) 0),by simp[h1],by simp[hk],.inl ⟨_,_,rfl,rfl,rfl⟩⟩
noncomputable def Gh(K:W.Frag):Sp:=fun vs H Q _=>∃(n:Int) (x:V) (d:θ),vs=[.int n,x]/\DX K H x d/\∀H',Same H H'->Q (.bl (gW n d)) H'
theorem Vo{f f1 f2:Addr}{fd d1 d2:ρ}(F:Fun K "is_set" "is_set" lE f fd)(D1:bC K mg "are_places" jL ["n","things"] f1 d1)(G1:FnOk P w K mg base CX0 3 f1 d1 ["n","things"] (zH K))(D2:bC K mg "is_rising" Xb ["things"] f2 d2)(G2:FnOk P w K mg base CX0 1 f2 d2 ["things"] (tR K))(mi:mg "isinstance"=none)(mT:mg "tuple"=none):FnOk P w K mg base CX0 4 f fd ["n","thing"] (Gh K):=by
 refine F.bZ ["n","thing"] fun cdv A outer s H vs Q E hr h=> ?_;obtain⟨n,x,d,rfl,hx,q⟩:=h;refine⟨_,aR (bB (zp (pB wR mi (aj (pv 1) (aj (pN "tuple" mT) ak)))
  (zp (pc G1 hr D1 (aj (pv 0) (aj (pv 1) ak))) (pe_one (pc G2 hr D2 (aj (pv 1) ak)))))),?_⟩
 refine⟨_,rfl,x,_,_,rfl,hx.kind,.inr (.inr (.inl rfl)),_,rfl,?_⟩;refine ite2 (fun c=> ?_) (fun c=> ?_)
 ·cases hx with
  | @tup a xs ds h t=>
   refine⟨_,rfl,_,rfl,n,a,xs,ds,rfl,h,t,fun H1 sm=>⟨_,rfl,?_⟩⟩;refine ite2 (fun c2=> ?_) (fun c2=> ?_)
   ·have ex:=ints_of t c2;refine⟨_,rfl,a,xs,fun k=>decide ((ds.map intD).getD k 0<(ds.map intD).getD (k+1) 0),rfl,sm.tup h,?_,fun H2 sm2=> ?_⟩
    ·rw[ex];exact Jc _
    ·have e:gW n (.tuple ds)=(List.range (xs.length-1)).all fun k=>decide ((ds.map intD).getD k 0<(ds.map intD).getD (k+1) 0):=by
      show(ds.all (bR n)&&dM (ds.map intD))=_;rw[c2,t.len];show dM (ds.map intD)=_;unfold dM;rw[aJ]
     have:=q H2 (sm.trans sm2);rw[e]at this;exact this
   ·have e:gW n (.tuple ds)=false:=by
     show(ds.all (bR n)&&dM (ds.map intD))=_;rw[Bool.eq_false_iff.mpr c2];rfl
    have:=q H1 sm;rw[e]at this;exact this
  |_=>simp[oE,lO]at c
 ·have e:gW n d=false:=by
   cases d<;>first |rfl|(exfalso;exact c rfl)
  have:=q H (Same.refl _);rw[e]at this;exact this
noncomputable def Kr(K:W.Frag):Sp:=fun vs H Q _=>∃(n:Int) (x:V) (d:θ),vs=[.int n,x]/\DX K H x d/\∀H',Same H H'->Q (.bl (oX n d)) H'
theorem Ge{H:Hp}{n:Int}{x:V}{d:θ}(h:DX K H x d)(ht:nQ n d=true):∃p,x= .ref p/\SqT K H p (((kids d).map intD).map V.int):=by
 cases h with
 | @tup a xs ds h t=>
  have q:(ds.all (bR n)&&dM (ds.map intD)&&decide (ds.length=2))=true:=ht;rw[kO,kO]at q;exact⟨a,rfl,by rw[ints_of t q.1.1]at h;exact h⟩
 |_=>simp[nQ,gW]at ht
theorem Jb{H:Hp}{n:Int}{xs:List V}{ds:List θ}(t:oW K H xs ds)(ha:ds.all (nQ n)=true):∀k,k+1<xs.length->∃x y,xs[k]? =some x/\xs[k+1]? =some y/\
  W6 K H x y (HT.lexLt ((ds.map fun t=>(kids t).map intD).getD k []) ((ds.map fun t=>(kids t).map intD).getD (k+1) [])):=fun k hk=>by
 have hl:=t.len;have h1:k<xs.length:=by omega
 obtain⟨d1,e1,x1⟩:=t.get (i:=k) (x:=xs[k]) (by simp[h1]);obtain⟨d2,e2,x2⟩:=t.get (i:=k+1) (x:=xs[k+1]) (by simp[hk]);have m1:=j4.mp ha d1 (sO e1);have m2:=j4.mp ha d2 (sO e2);obtain⟨p1,q1,s1⟩:=Ge x1 m1;obtain⟨p2,q2,s2⟩:=Ge x2 m2;refine⟨xs[k],xs[k+1],by simp[h1],by simp[hk],.inr ⟨p1,p2,_,_,q1,q2,s1,s2,?_⟩⟩;have g1:(ds.map fun t=>(kids t).map intD).getD k []=(kids d1).map intD:=by rw[lg,dJ,e1];rfl
 have g2:(ds.map fun t=>(kids t).map intD).getD (k+1) []=(kids d2).map intD:=by rw[lg,dJ,e2];rfl
 rw[g1,g2]
theorem QD{f f1 f2:Addr}{fd d1 d2:ρ}(F:Fun K "are_ties" "are_ties" nZ f fd)(D1:bC K mg "is_set" lE ["n","thing"] f1 d1)(G1:FnOk P w K mg base CX0 4 f1 d1 ["n","thing"] (Gh K))(D2:bC K mg "is_rising" Xb ["things"] f2 d2)(G2:FnOk P w K mg base CX0 1 f2 d2 ["things"] (tR K))(mi:mg "isinstance"=none)(mT:mg "tuple"=none)(mA:mg "all"=none)(mL:mg "len"=none):FnOk P w K mg base CX0 5 f fd ["n","thing"] (Kr K):=by
 refine F.bZ ["n","thing"] fun cdv A outer s H vs Q E hr h=> ?_;obtain⟨n,x,d,rfl,hx,q⟩:=h;refine aW ?_;intro Y;refine⟨_,aL (dZ (kY (iY (pB wR mi (aj (pv 1) (aj (pN "tuple" mT) ak))))) (aR (bB qZ)) eG) (aR (bB (zp (pB (eY rfl) mA (aj (pK ["tie"] ["n"] [0] (BW (pv 1)) (pG 0) nP (zp (pc G1 hr D1 (aj (pv 1) (aj (pv 0) ak))) (pe_one (wQ op_eq (pB (JD K) mL (aj (pv 0) ak)) ao)))) ak))
  (pe_one (pc G2 hr D2 (aj (pv 1) ak)))))),?_⟩
 refine lR ?_;intro c2;refine⟨_,rfl,x,_,_,rfl,hx.kind,.inr (.inr (.inl rfl)),_,rfl,?_⟩;refine ite2 (fun c=> ?_) (fun c=> ?_)
 ·have e:oX n d=false:=by
   cases d<;>first |rfl|(exfalso;simp[oE,lO]at c;done)
  have:=q H (Same.refl _);rw[e]at this;exact this
 ·cases hx with
  | @tup a xs ds h t=>
   refine⟨_,rfl,a,xs,rfl,h,fun hz=> ?_⟩;have hl:=t.len;let p7:Nat->List V->St->Hp->Prop:=fun i acc σ H'=>acc=((ds.take i).map (nQ n)).map V.bl/\Same H H'/\∃o,σ=[o,some (.int n)];refine BZ (xs:=xs) p7 ⟨rfl,Same.refl _,_,rfl⟩ (fun i acc σ H' _ p=>p.2.1.tup h) (fun i acc σ H' hi p=> ?_) hz (fun i x acc σ H' hx p=> ?_) (fun acc σ H' p=> ?_)
   ·rw[p.1];simp;omega
   ·obtain⟨rfl,sm,o,rfl⟩:=p;obtain⟨d,e1,e2⟩:=t.get hx;refine⟨_,rfl,_,rfl,n,x,d,rfl,DX.same sm e2,fun H1 sm1=>⟨_,rfl,?_⟩⟩;have ea:∀b,b=nQ n d->((ds.take i).map (nQ n)).map V.bl++[V.bl b]=((ds.take (i+1)).map (nQ n)).map V.bl:=fun b hb=>by
     rw[sI,e1,hb];simp
    refine ite2 (fun c2=> ?_) (fun c2=> ?_)
    ·cases e2 with
     | @tup a2 xs2 ds2 h2 t2=>
      refine⟨_,rfl,a2,xs2,rfl,.inr (sm1.tup (sm.tup h2)),fun hz2=>⟨rfl,ea _ ?_,sm.trans sm1,_,rfl⟩⟩;show decide (V.int (xs2.length:Int)=V.int 2)=(gW n (.tuple ds2)&&decide (ds2.length=2));rw[c2,t2.len];by_cases e3:ds2.length=2
      ·rw[e3];rfl
      ·rw[fO e3,fO (by intro z;injection z with z;exact e3 (by omega))];rfl
     |_=>simp[gW]at c2
    ·refine⟨ea _ ?_,sm.trans sm1,_,rfl⟩;show false=(gW n d&&decide ((kids d).length=2));rw[Bool.eq_false_iff.mpr c2];rfl
   ·intro p1 hp1;obtain⟨rfl,sm,_⟩:=p;have sm':Same H (upd H' p1 (.lst (((ds.take xs.length).map (nQ n)).map V.bl))):=sm.trans (aM hp1 _);refine⟨p1,(ds.map (nQ n)),rfl,SqL.of (by rw[aB,hl,qm]),_,rfl,?_⟩;rw[jr];refine ite2 (fun c2=> ?_) (fun c2=> ?_)
    ·refine⟨_,rfl,a,xs,fun k=>HT.lexLt ((ds.map fun t=>(kids t).map intD).getD k []) ((ds.map fun t=>(kids t).map intD).getD (k+1) []),rfl,sm'.tup h,?_,fun H2 sm2=> ?_⟩
     ·exact Jb (oW.same sm' t) c2
     ·have e:oX n (.tuple ds)=(List.range (xs.length-1)).all fun k=>HT.lexLt ((ds.map fun t=>(kids t).map intD).getD k []) ((ds.map fun t=>(kids t).map intD).getD (k+1) []):=by
       show(ds.all (nQ n)&&dh (ds.map fun t=>(kids t).map intD))=_;rw[c2,hl];show dh (ds.map fun t=>(kids t).map intD)=_;unfold dh;rw[aJ]
      have:=q H2 (sm'.trans sm2);rw[e]at this;exact this
    ·have e:oX n (.tuple ds)=false:=by
      show(ds.all (nQ n)&&dh (ds.map fun t=>(kids t).map intD))=_;rw[Bool.eq_false_iff.mpr c2];rfl
     have:=q _ sm';rw[e]at this;exact this
  |_=>exfalso;exact c rfl
end
end Hs
namespace oJ
open PySem L2
noncomputable def pairD(p:Int×Int):θ:= .tuple [.int p.1,.int p.2]
noncomputable def jw(n:Int)(ts:L0):θ:= .tuple [.int n,.tuple (ts.map pairD)]
noncomputable def rQ(K:W.Frag)(H:Hp)(a:Addr)(n:Int)(ts:L0):Prop:=∃t rs,SqT K H a [.int n,.ref t]/\SqT K H t rs/\cN K H rs (ts.map pairD)
theorem rQ.dv{K:W.Frag}{H:Hp}{a:Addr}{n:Int}{ts:L0}(h:rQ K H a n ts):DV K H (.ref a) (jw n ts):=by
 obtain⟨t,rs,h1,h2,h3⟩:=h;exact .tup h1 (.cons (.int n) (.cons (.tup h2 h3) .nil))
theorem rQ.same{K:W.Frag}{H H':Hp}{a:Addr}{n:Int}{ts:L0}(h:rQ K H a n ts)(e:Same H H'):rQ K H' a n ts:=by
 obtain⟨t,rs,h1,h2,h3⟩:=h;exact⟨t,rs,e.tup h1,e.tup h2,cN.same e h3⟩
noncomputable def bU(ts:L0)(i j:Int):Bool:=decide ((if j<i then j else i,if j>i then j else i)∈ts)
theorem jj(p q:Int×Int):PyData.eqv (pairD p) (pairD q)=decide (p=q):=by
 obtain⟨a,b⟩:=p;obtain⟨c,d⟩:=q;show((a==c)&&((b==d)&&true))=_;rw[v9];simp
theorem jh:∀ts:L0,PyData.canLayAll0 (ts.map pairD)=true
 |[]=>rfl
 |p::ts=>by
  show(PyData.canLay0 (pairD p)&&PyData.canLayAll0 (ts.map pairD))=true;rw[jh ts];rfl
theorem uV(ts:L0)(q:Int×Int):((ts.map pairD).any fun d=>PyData.eqv d (pairD q))=decide (q∈ts):=by
 rw[List.any_map,v9,List.any_eq_true];constructor
 ·rintro⟨p,hp,h⟩;have h':PyData.eqv (pairD p) (pairD q)=true:=h;rw[jj]at h';have e:p=q:=fX h';subst e;exact cL hp
 ·intro h;refine⟨q,fX h,?_⟩;show PyData.eqv (pairD q) (pairD q)=true;rw[jj];exact cL rfl
end oJ
namespace Hs
open PySem L2 oJ
section
variable{P:ξ}{w:τ}{K:W.Frag}{mg:L5}{base:Heap}
noncomputable def Tc(K:W.Frag):Sp:=fun vs H Q _=>∃(x:V) (d:θ),vs=[x]/\DX K H x d/\∀H',Same H H'->Q (.bl (vD d)) H'
theorem Ve{f f1 f2:Addr}{fd d1 d2:ρ}{tk:Tok}(F:Fun K "is_web" "is_web" tZ f fd)(D1:bC K mg "is_whole" eF ["thing"] f1 d1)(G1:FnOk P w K mg base CX0 1 f1 d1 ["thing"] (oY K))(D2:bC K mg "are_ties" nZ ["n","thing"] f2 d2)(G2:FnOk P w K mg base CX0 5 f2 d2 ["n","thing"] (Kr K))(mi:mg "isinstance"=none)(mT:mg "tuple"=none)(mL:mg "len"=none)(mM:mg "MOST_PLACES"=some (.int 10 tk)):FnOk P w K mg base CX0 6 f fd ["thing"] (Tc K):=by
 refine F.bZ ["thing","n"] fun cdv A outer s H vs Q E hr h=> ?_;obtain⟨x,d,rfl,hx,q⟩:=h;refine aW ?_;intro Y;refine⟨_,aL (dZ (PW.pt (qg (kY (iY (pB wR mi (aj (pv 0) (aj (pN "tuple" mT) ak)))))
   (yV (cR op_ne (pB vm mL (aj (pv 0) ak)) ao)))) (aR (bB qZ)) eG) (aL (pS 1 (aQ bD (pv 0) ao)) (aR (bB (zp (pc G1 hr D1 (aj (pv 1) ak)) (zp (pe_chain op_le op_le ao (pv 1) (pe_glob rfl mM (v:= .int 10) ⟨_,rfl⟩))
   (pe_one (pc G2 hr D2 (aj (pv 1) (aj (aQ bD (pv 0) ao) ak))))))))),?_⟩
 refine gC ?_;intro c3 c2;refine⟨_,rfl,x,_,_,rfl,hx.kind,.inr (.inr (.inl rfl)),_,rfl,?_⟩;refine ite2 (fun c=> ?_) (fun c=> ?_)
 ·have e:vD d=false:=by
   cases d<;>first |rfl|(exfalso;simp[oE,lO]at c;done)
  have:=q H (Same.refl _);rw[e]at this;exact this
 ·cases hx with
  | @tup a xs ds h t=>
   have hl:=t.len;refine⟨_,rfl,a,xs,rfl,.inr h,fun hz=>⟨rfl,_,rfl,?_⟩⟩;refine ite2 (fun c2=> ?_) (fun c2=> ?_)
   ·have e:vD (.tuple ds)=false:=by
     match ds,hl with
     |[],_=>rfl
     |[_],_=>rfl
     |[_,_],hl=>
      exfalso;have e2:(!decide (V.int (xs.length:Int)=V.int 2))=true:=c2;rw[hl]at e2;simp at e2
     |_::_::_::_,_=>rfl
    have:=q H (Same.refl _);rw[e]at this;exact this
   ·have e2:xs.length=2:=by
     have e2:¬(!decide (V.int (xs.length:Int)=V.int 2))=true:=c2;simp at e2;omega
    cases t with
    |nil=>simp at e2
    |cons h0 t0=>
     cases t0 with
     |nil=>simp at e2
     | @cons x1 XM xs1 ds1 h1 t1=>
      cases t1 with
      |cons _ _=>simp at e2
      |nil=>
       rename_i x0 XQ;refine⟨_,rfl,a,_,_,x0,rfl,rfl,h,by rfl,?_⟩;refine⟨_,rfl,x0,XQ,rfl,h0,_,rfl,?_⟩;refine ite2 (fun c3=> ?_) (fun c3=> ?_)
       ·cases h0 with
        |int n=>
         refine⟨_,rfl,_,_,rfl,rfl,_,rfl,?_⟩;have fin:∀b,b=vD (.tuple [.int n,XM])->∀H',Same H H'->Q (.bl b) H':=fun b hb H' sm=>by rw[hb];exact q H' sm
         have wd:vD (.tuple [.int n,XM])=((decide (0<=n)&&decide (n<=10))&&oX n XM):=rfl;refine ite2 (fun c4=> ?_) (fun c4=> ?_)
         ·refine⟨_,_,rfl,rfl,_,rfl,?_⟩;refine ite2 (fun c5=> ?_) (fun c5=> ?_)
          ·refine⟨_,rfl,_,rfl,a,_,_,x1,rfl,rfl,h,by rfl,n,x1,XM,rfl,h1,fun H' sm=>fin _ ?_ H' sm⟩;rw[wd,c4,c5];rfl
          ·refine fin _ ?_ H (Same.refl _);rw[wd,Bool.eq_false_iff.mpr c5,Bool.and_false];rfl
         ·refine⟨_,rfl,?_⟩;refine iteF (fin _ ?_ H (Same.refl _));rw[wd,Bool.eq_false_iff.mpr c4];rfl
        |_=>simp[fW]at c3
       ·have e:vD (.tuple [XQ,XM])=false:=by
         show(fW XQ&&(decide (0<=intD XQ)&&decide (intD XQ<=10))&&oX (intD XQ) XM)=false;rw[Bool.eq_false_iff.mpr c3];rfl
        have:=q H (Same.refl _);rw[e]at this;exact this
  |_=>exfalso;exact c rfl
noncomputable def fQ(K:W.Frag):Sp:=fun vs H Q _=>∃(x:V) (d:θ),vs=[x]/\DX K H x d/\vD d=true/\∀H',Same H H'->Q .non H'
theorem Ds{f f1:Addr}{fd d1:ρ}(F:Fun K "need_web" "need_web" T9 f fd)(D1:bC K mg "is_web" tZ ["thing"] f1 d1)(G1:FnOk P w K mg base CX0 6 f1 d1 ["thing"] (Tc K)):FnOk P w K mg base CX0 7 f fd ["thing"] (fQ K):=by
 refine F.bZ ["thing"] fun cdv A outer s H vs Q E hr h=> ?_;obtain⟨x,d,rfl,hx,hw,q⟩:=h;refine⟨_,aR (dZ (kY (iY (pc G1 hr D1 (aj (pv 0) ak)))) Pj eG),?_⟩;refine⟨_,rfl,x,d,rfl,hx,fun H' sm=>⟨_,rfl,?_⟩⟩;rw[hw];exact iteF (q H' sm)
noncomputable def rC(K:W.Frag):Sp:=fun vs H Q _=>∃(a:Addr) (n i j:Int) (ts:L0),vs=[.ref a,.int i,.int j]/\rQ K H a n ts/\∀H',Same H H'->Q (.bl (bU ts i j)) H'
theorem Vs{f:Addr}{fd:ρ}(F:Fun K "has_tie" "has_tie" fU f fd)(mi:mg "min"=none)(ma:mg "max"=none):FnOk P w K mg base CX0 1 f fd ["web","one","other"] (rC K):=by
 refine F.bZ ["web","one","other"] fun cdv A outer s H vs Q E hr h=> ?_;obtain⟨a,n,i,j,ts,rfl,hW,q⟩:=h;refine⟨_,aR (bB (wQ (ur hr.units) (dW (aj (pB (call_min2 rfl) mi (aj (pv 1) (aj (pv 2) ak))) (aj (pB (call_max2 rfl) ma (aj (pv 1) (aj (pv 2) ak))) ak)))
  (aQ bD (pv 0) ao) (by with_unfolding_all rfl))),?_⟩
 refine⟨_,rfl,_,rfl,_,_,rfl,_,rfl,_,rfl,_,_,rfl,(by show 2<=sizeLine;decide),fun p hp=> ?_⟩;have sm:=aM hp (.tup [.int (if j<i then j else i),.int (if j>i then j else i)]);obtain⟨t,rs,h1,h2,h3⟩:=hW.same sm;refine⟨_,rfl,a,_,_,.ref t,rfl,rfl,h1,rfl,t,rs,_,pairD (if j<i then j else i,if j>i then j else i),rfl,.inr h2,h3,.tup (SqT.of aB) (.cons (.int _) (.cons (.int _) .nil)),jh ts,rfl,(by show max 0 (max 0 0)+1<=60;decide),?_⟩;rw[uV];exact q _ sm
end
noncomputable def Bs(n:Int)(ts:L0):Prop:=vD (jw n ts)=true
end Hs
namespace L2
open PySem
noncomputable def aD(t:Addr)(H H':Hp):Prop:=∀b o,b≠t->H b=some o->H' b=some o
theorem aD.refl(t:Addr)(H:Hp):aD t H H:=fun _ _ _ h=>h
theorem aD.trans{t:Addr}{H H1 H2:Hp}(a:aD t H H1)(b:aD t H1 H2):aD t H H2:=fun c o n h=>b c o n (a c o n h)
noncomputable def rR(K:W.Frag)(H:Hp)(bh:Addr)(ns:List Int):Prop:=(∃o,H bh=some (.frz o (.lst (ns.map V.int))))\/
 ∃(o:Obj) (its:Array ζ) (n:Nat),K.lookup bh=some o/\o.cls= .type "list"/\o.dict=none/\o.data= .seq its n/\its.size<=sizeLine/\Vals (ns.map V.int) its.toList
theorem rR.same{K:W.Frag}{H H':Hp}{bh:Addr}{ns:List Int}(h:rR K H bh ns)(e:Same H H'):rR K H' bh ns:=by
 rcases h with⟨o,h⟩|h
 ·exact .inl ⟨o,e _ _ h⟩
 ·exact .inr h
theorem Ik:∀ns:List Int,PyData.canLayAll0 (ns.map PyData.int)=true
 |[]=>rfl
 |n::ns=>by
  show(true&&PyData.canLayAll0 (ns.map PyData.int))=true;rw[Ik ns];rfl
theorem aD.free{t:Addr}{H H':Hp}{a:Addr}(e:aD t H H')(n:a≠t)(h:H' a=none):H a=none:=by
 cases q:H a with
 |none=>rfl
 |some o=>rw[e a o n q]at h;cases h
theorem cN.append{K:W.Frag}{H:Hp}{xs ys:List V}{ds es:List θ}(h:cN K H xs ds)(h':cN K H ys es):cN K H (xs++ys) (ds++es):=
 cN.rec (motive_1:=fun _ _ _=>True) (motive_2:=fun xs ds _=>cN K H (xs++ys) (ds++es)) trivial (fun _=>trivial) (fun _=>trivial) (fun _=>trivial) (fun _ _ _=>trivial) (fun _ _ _=>trivial) (fun _=>trivial) (fun _ _=>trivial) h' (fun h _ _ t=> .cons h t) h
theorem aD.tup{K:W.Frag}{t:Addr}{H H':Hp}{a:Addr}{xs zs:List V}(e:aD t H H')(n:H t=some (.lst zs))(h:SqT K H a xs):SqT K H' a xs:=by
 rcases h with(h|⟨o,h⟩)|h
 ·exact .inl (.inl (e _ _ (ne_of h n (by intro z;cases z)) h))
 ·exact .inl (.inr ⟨o,e _ _ (ne_of h n (by intro z;cases z)) h⟩)
 ·exact .inr h
end L2
namespace oJ
open PySem L2
theorem ig{K:W.Frag}{t:Addr}{H H':Hp}{zs:List V}(e:aD t H H')(n:H t=some (.lst zs)){rs:List V}{ps:L0}(h:cN K H rs (ps.map pairD)):cN K H' rs (ps.map pairD):=by
 induction ps generalizing rs with
 |nil=>cases h;exact .nil
 |cons p ps ih=>
  cases h with
  |cons h tl=>
   refine .cons ?_ (ih tl);cases h with
   |tup h hd=>
    cases hd with
    |cons a1 t1=>
     cases a1;cases t1 with
     |cons a2 t2=>
      cases a2;cases t2;exact .tup (e.tup n h) (.cons (.int _) (.cons (.int _) .nil))
structure Sub(j:Nat)(l:List Int):Prop where
 nd:l.Nodup
 lt:∀i∈l,0<=i/\i<(j:Int)
theorem jf{α:Type} [DecidableEq α]:∀{l m:List α},l.Nodup->(∀a∈l,a∈m)->l.length<=m.length
 |[],m,_,_=>dX _
 |a::l,m,nd,h=>by
  have ha:=h a iW;have nd':=J4.mp nd;have q:∀b∈l,b∈m.erase a:=fun b hb=>by
   have hne:b≠a:=fun e=>nd'.1 (e▸hb);exact(List.mem_erase_of_ne hne).mpr (h b (iG _ hb))
  have:=jf nd'.2 q;have e:=List.length_erase_of_mem ha;have:0<m.length:=wbz ha;simp only[zc];omega
theorem Sub.len{j:Nat}{l:List Int}(h:Sub j l):l.length<=j:=by
 have q:=jf (m:=(List.range j).map fun(k:Nat)=>(k:Int)) h.nd fun i hi=>by
  have:=h.lt i hi;exact jY.mpr ⟨i.toNat,jZ.mpr (by omega),by omega⟩
 simpa using q
structure aN(n:Int)(ps:L0):Prop where
 nd:ps.Nodup
 lt:∀p∈ps,0<=p.1/\p.1<p.2/\p.2<n
noncomputable def aan(n:Nat):L0:=((List.range n).map fun(j:Nat)=>(List.range j).map fun(i:Nat)=>((i:Int),(j:Int))).flatten
theorem pairs_len{n:Int}{ps:L0}(h:aN n ps)(hn:n<=10):ps.length<=45:=by
 have q:=jf (m:=aan 10) h.nd fun p hp=>by
  obtain⟨h0,h1,h2⟩:=h.lt p hp;obtain⟨a,b⟩:=p;dsimp only at h0 h1 h2;refine List.mem_flatten.mpr ⟨(List.range b.toNat).map fun(i:Nat)=>((i:Int),((b.toNat:Nat):Int)),jY.mpr ⟨b.toNat,jZ.mpr (by omega),rfl⟩,jY.mpr ⟨a.toNat,jZ.mpr (by omega),?_⟩⟩;have e1:((a.toNat:Nat):Int)=a:=by omega
  have e2:((b.toNat:Nat):Int)=b:=by omega
  rw[e1,e2]
 have e:(aan 10).length=45:=by decide
 omega
noncomputable def pl(p:Int×Int):List Int:=[p.1,p.2]
noncomputable def bW(ts:L0)(i j:Int):Bool:=decide ((i,j)∈ts)||decide ((j,i)∈ts)
theorem tied_eq{n:Int}{ts:L0}(h:aN n ts)(i j:Int):bU ts i j=bW ts i j:=by
 unfold bU bW;have no:∀{a b:Int},b<=a->decide ((a,b)∈ts)=false:=fun{a b} hab=>fO fun hm=>by
  have:=(h.lt _ hm).2.1;dsimp only at this;omega
 rcases Int.lt_trichotomy i j with c|c|c
 ·rw[aA (show¬j<i by omega),aF (show j>i by omega),no (show i<=j by omega),Bool.or_false]
 ·subst c;rw[aA (show¬i<i by omega),Bool.or_self]
  try rw[aA (show¬i>i by omega)]
 ·rw[aF (show j<i by omega),aA (show¬j>i by omega),no (show j<=i by omega),wfd]
end oJ
namespace Hs
open PySem L2 oJ
noncomputable def j5(p q:Int×Int):Prop:=p.1<q.1\/(p.1=q.1/\p.2<q.2)
theorem j5.trans{p q r:Int×Int}(a:j5 p q)(b:j5 q r):j5 p r:=by
 unfold j5 at *;omega
theorem Hr{p q:Int×Int}(h:HT.lexLt (pl p) (pl q)=true):j5 p q:=by
 rw[HT.bY]at h;have:=fX h;unfold pl at this;rw[ydy]at this;rcases this with a|⟨a,b⟩
 ·exact .inl a
 ·rw[ydy]at b;rcases b with b|⟨_,b⟩
  ·exact .inr ⟨a,b⟩
  ·exact absurd b (by simp)
theorem rM{l:L0}(h:∀k,(hk:k+1<l.length)->j5 l[k] l[k+1]):l.Pairwise j5:=by
 rw[Uq];intro i j hi hj hij;have go:∀d:Nat,(hd:i+1+d<l.length)->j5 l[i] l[i+1+d]:=by
  intro d
  induction d with
  |zero=>intro hd;exact h i hd
  |succ d ih=>intro hd;exact(ih (by omega)).trans (h (i+1+d) hd)
 have e:j=i+1+(j-i-1):=by omega
 have:=go (j-i-1) (by omega);simpa[<-e]using this
theorem Cr{n:Int}{ts:L0}(h:Bs n ts):ts.Pairwise j5:=by
 have h1:oX n (.tuple (ts.map pairD))=true:=by
  unfold Bs jw vD at h;rw[kO]at h;exact h.2
 unfold oX at h1;rw[kO]at h1;have h2:=h1.2;unfold dh at h2;rw[j4]at h2;refine rM fun k hk=> ?_;have e:(List.map (fun t=>(kids t).map intD) (ts.map pairD))=ts.map pl:=by
  rw[vA];rfl
 rw[e,aJ]at h2;have h3:=h2 k (by rw[jZ];omega);have g:∀j,(hj:j<ts.length)->(ts.map pl).getD j []=pl ts[j]:=fun j hj=>by
  rw[lg,dJ,dF hj];rfl
 rw[g k (by omega),g (k+1) hk]at h3;exact Hr h3
noncomputable def row(so:Int->Int->Bool)(i:Int)(k:Nat):L0:=((List.range k).map fun(t:Nat)=>(i,i+1+(t:Int))).filter fun p=>so p.1 p.2
noncomputable def rows(so:Int->Int->Bool)(m:Int)(i:Nat):L0:=((List.range i).map fun(t:Nat)=>row so (0+(t:Int)) (m-(0+(t:Int)+1)).toNat).flatten
end Hs
namespace L2
open PySem
theorem cN.get'{K:W.Frag}{H:Hp}:∀{xs:List V} {ds:List θ} {i:Nat},cN K H xs ds->i<ds.length->∃x d,xs[i]? =some x/\ds[i]? =some d/\DV K H x d
 |_,_,i,.nil,h=>by simp at h
 |_,_,0,.cons h _,_=>⟨_,_,rfl,rfl,h⟩
 |_,_,i+1,.cons _ t,h=>by
  obtain⟨x,d,h1,h2,h3⟩:=cN.get' (i:=i) t (by simpa using h);exact⟨x,d,by simpa using h1,by simpa using h2,h3⟩
end L2
namespace Hs
open PySem L2 oJ
structure aO(K:W.Frag)(H:Hp)(a:Addr)(n:Int)(ts:L0):Prop where
 web:rQ K H a n ts
 h0:0<=n
 h1:n<=10
 pk:aN n ts
 ok:Bs n ts
theorem aO.same{K:W.Frag}{H H':Hp}{a:Addr}{n:Int}{ts:L0}(h:aO K H a n ts)(e:Same H H'):aO K H' a n ts:=⟨h.web.same e,h.h0,h.h1,h.pk,h.ok⟩
theorem aO.len{K:W.Frag}{H:Hp}{a:Addr}{n:Int}{ts:L0}(h:aO K H a n ts):ts.length<=45:=pairs_len h.pk h.h1
theorem aO.zF{K:W.Frag}{H:Hp}{a:Addr}{n:Int}{ts:L0}(h:aO K H a n ts):ts.Pairwise j5:=Cr h.ok
theorem GQ{K:W.Frag}{H:Hp}{rs:List V}{ps:L0}{i:Nat}{x:V}(h:cN K H rs (ps.map pairD))(hx:rs[i]? =some x):∃(t:Addr) (hi:i<ps.length),x= .ref t/\SqT K H t [.int (ps[i]).1,.int (ps[i]).2]:=by
 have hlen:=h.len;rw[aJ]at hlen;have hi:i<ps.length:=by rw[<-hlen];exact(nF.mp hx).1
 obtain⟨x',d,e1,e2,e3⟩:=cN.get' (i:=i) h (by rw[aJ];exact hi);rw[hx]at e1;cases e1;rw[dJ,dF hi]at e2;cases e2;cases e3 with
 |tup hp tp=>
  cases tp with
  |cons ta tb=>
   cases tb with
   |cons tc td=>
    cases td;cases ta;cases tc;exact⟨_,hi,rfl,hp⟩
noncomputable def dY(K:W.Frag)(H:Hp)(l:Addr)(R:L0)(P:Int×Int->Prop):Prop:=∃(rs:List V) (ts:L0),H l=some (.lst rs)/\cN K H rs (ts.map pairD)/\ts.Sublist R/\∀p∈ts,P p
theorem dY.nil{K:W.Frag}{H:Hp}{l:Addr}{R:L0}{P:Int×Int->Prop}(h:H l=some (.lst [])):dY K H l R P:=⟨[],[],h,.nil,List.nil_sublist _,fun p hp=>(nomatch hp)⟩
theorem dY.step{K:W.Frag}{H H':Hp}{l c:Addr}{R:L0}{P:Int×Int->Prop}{zs:List V}(h:dY K H l R P)(e:aD c H H')(hc:H c=some (.lst zs))(n:l≠c):dY K H' l R P:=by
 obtain⟨rs,ts,h1,h2,h3⟩:=h;exact⟨rs,ts,e _ _ n h1,ig e hc h2,h3⟩
theorem dY.mono{K:W.Frag}{H:Hp}{l:Addr}{R R':L0}{P:Int×Int->Prop}(h:dY K H l R P)(e:R.Sublist R'):dY K H l R' P:=by
 obtain⟨rs,ts,h1,h2,h3,h4⟩:=h;exact⟨rs,ts,h1,h2,h3.trans e,h4⟩
structure ju(n:Int)(xs:List Int):Prop where
 zF:xs.Pairwise (· < ·)
 lt:∀x∈xs,0<=x/\x<n
theorem ju.len{n:Int}{xs:List Int}(h:ju n xs)(hn:n<=10):xs.length<=10:=by
 have h1:Sub n.toNat xs:=⟨h.zF.imp fun h e=>by omega,fun i hi=>by have:=h.lt i hi;omega⟩;have:=h1.len;omega
end Hs
namespace Hs
open oJ
noncomputable def inB(xs:List Int)(p:Int×Int):Bool:=decide (p.1∈xs)&&decide (p.2∈xs)
end Hs
namespace Hs
noncomputable def ff:Nat->Nat
 |0=>1
 |1=>1
 |2=>2
 |3=>3
 |4=>4
 |5=>6
 |6=>9
 |7=>12
 |8=>18
 |9=>27
 |_=>36
theorem yw:∀m n:Nat,m<=n->n<=10->ff m<=ff n:=by
 have h:∀n:Fin 11,∀m:Fin 11,m.val<=n.val->ff m.val<=ff n.val:=by decide
 intro m n hm hn;exact h ⟨n,by omega⟩ ⟨m,by omega⟩ hm
theorem RK:∀n d:Nat,0<d->d<=n->n<=10->d*ff (n-d)<=ff n:=by
 have h:∀n:Fin 11,∀d:Fin 11,0<d.val->d.val<=n.val->d.val*ff (n.val-d.val)<=ff n.val:=by decide
 intro n d h0 hd hn;exact h ⟨n,by omega⟩ ⟨d,by omega⟩ h0 hd
structure Full(r:Int->Int->Bool)(V:List Int)(s:List Int):Prop where
 up:s.Pairwise (· < ·)
 sub:∀x∈s,x∈V
 ind:∀x∈s,∀y∈s,x≠y->r x y=false
 max:∀v∈V,v∉s->∃x∈s,r x v=true
theorem Am(g:Int->Nat):∀V:List Int,V≠[]->∃v∈V,∀u∈V,g v<=g u
 |[],h=>absurd rfl h
 |[x],_=>⟨x,by simp,fun u hu=>by rw[gY.mp hu];exact aX _⟩
 |x::y::V,_=>by
  obtain⟨v,hv,hm⟩:=Am g (y::V) (by simp);by_cases c:g x<=g v
  ·refine⟨x,by simp,fun u hu=> ?_⟩;rcases cY.mp hu with e|e
   ·rw[e];exact aX _
   ·exact cT c (hm u e)
  ·refine⟨v,iG _ hv,fun u hu=> ?_⟩;rcases cY.mp hu with e|e
   ·rw[e];omega
   ·exact hm u e
theorem oF{α:Type}(p:α->Bool):∀l:List α,(l.filter p).length+(l.filter fun x=> !p x).length=l.length
 |[]=>rfl
 |x::l=>by
  have ih:=oF p l;rw[Cp,Cp];cases p x<;>simp <;>omega
theorem wM{α β:Type}(p:β->α->Bool)(m:Nat):∀(us:List β) (fs:List α),(∀s∈fs,∃u∈us,p u s=true)->(∀u∈us,∀gs:List α,gs.Sublist fs->(∀s∈gs,p u s=true)->gs.length<=m)->fs.length<=us.length*m
 |[],fs,h,_=>by
  cases fs with
  |nil=>simp
  |cons s fs=>obtain⟨u,hu,_⟩:=h s (by simp);cases hu
 |u::us,fs,h,hm=>by
  have e:=oF (p u) fs;have a:=hm u (by simp) (fs.filter (p u)) yeh (fun s hs=>(fL.mp hs).2);have b:=wM p m us (fs.filter fun x=> !p u x) (fun s hs=>by
   obtain⟨h1,h2⟩:=fL.mp hs;obtain⟨w,hw,hp⟩:=h s h1;rcases cY.mp hw with z|z
   ·rw[z]at hp;rw[hp]at h2;cases h2
   ·exact⟨w,z,hp⟩) (fun w hw gs hg hp=>hm w (iG _ hw) gs (hg.trans yeh) hp)
  rw[zc,Nat.succ_mul];omega
theorem Gd:∀{xs ys:List Int},xs.Pairwise (· < ·)->ys.Pairwise (· < ·)->(∀k,k∈xs↔k∈ys)->xs=ys
 |[],[],_,_,_=>rfl
 |[],y::ys,_,_,h=>by have:=(h y).mpr (by simp);simp at this
 |x::xs,[],_,_,h=>by have:=(h x).mp (by simp);simp at this
 |x::xs,y::ys,hx,hy,h=>by
  rw[Qa]at hx hy;have e:x=y:=by
   have a:=(h x).mp (by simp);have b:=(h y).mpr (by simp);rcases cY.mp a with a|a
   ·exact a
   ·rcases cY.mp b with b|b
    ·exact b.symm
    ·have:=hy.1 x a;have:=hx.1 y b;omega
  subst e;rw[Gd hx.2 hy.2 fun k=> ?_];constructor
  ·intro hk;rcases cY.mp ((h k).mp (iG _ hk))with a|a
   ·have:=hx.1 k hk;omega
   ·exact a
  ·intro hk;rcases cY.mp ((h k).mpr (iG _ hk))with a|a
   ·have:=hy.1 k hk;omega
   ·exact a
theorem qI{α β:Type}{g:α->β}:∀{l:List α},l.Nodup->(∀a∈l,∀b∈l,g a=g b->a=b)->(l.map g).Nodup
 |[],_,_=>List.nodup_nil
 |a::l,h,hi=>by
  rw[J4]at h;rw[yX,J4];refine⟨fun hm=> ?_,qI h.2 fun x hx y hy=>hi x (iG _ hx) y (iG _ hy)⟩;obtain⟨b,hb,e⟩:=jY.mp hm;have:=hi b (iG _ hb) a (by simp) e;rw[this]at hb;exact h.1 hb
noncomputable def cu(r:Int->Int->Bool)(v u:Int):Bool:=decide (u=v)||r u v
theorem Ej{r:Int->Int->Bool}(sym:∀i j,r i j=r j i):∀(n:Nat) (V:List Int),V.length=n->n<=10->∀fs:List (List Int),fs.Nodup->(∀s∈fs,Full r V s)->fs.length<=ff n:=by
 intro n
 induction n using Nat.strongRecOn with
 |ind n ih=>
  intro V hV hn fs nd hf;by_cases hz:V=[]
  ·have e:∀s∈fs,s=[]:=fun s hs=>by
    cases s with
    |nil=>rfl
    |cons x s=>have:=(hf _ hs).sub x (by simp);rw[hz]at this;cases this
   have l1:fs.length<=1:=by
    match fs,nd,e with
    |[],_,_=>simp
    |[_],_,_=>simp
    |a::b::fs,nd,e=>
     exfalso;rw[J4]at nd;apply nd.1;rw[e a (by simp),e b (by simp)];simp
   have:1<=ff n:=by
    have:=yw 0 n (dX _) hn;exact this
   omega
  obtain⟨v,hv,hmin⟩:=Am (fun u=>(V.filter (cu r u)).length) V hz;have key:=wM (fun(u:Int) (s:List Int)=>decide (u∈s)) (ff (n-(V.filter (cu r v)).length)) (V.filter (cu r v)) fs (fun s hs=> ?_) (fun u hu gs hg hp=> ?_)
  ·have hle:(V.filter (cu r v)).length<=n:=by rw[<-hV];exact vC _ _
   have hpos:0<(V.filter (cu r v)).length:=wbz (fL.mpr ⟨hv,by unfold cu;simp⟩);exact cT key (RK n _ hpos hle hn)
  ·by_cases c:v∈s
   ·exact⟨v,fL.mpr ⟨hv,by unfold cu;simp⟩,cL c⟩
   ·obtain⟨x,hx,hr⟩:=(hf s hs).max v hv c;exact⟨x,fL.mpr ⟨(hf s hs).sub x hx,by unfold cu;rw[hr];simp⟩,cL hx⟩
  ·have huV:u∈V:=(fL.mp hu).1;have fg:∀s∈gs,Full r V s/\u∈s:=fun s hs=>⟨hf s (hg.subset hs),fX (hp s hs)⟩;have hle:(V.filter (cu r u)).length<=n:=by rw[<-hV];exact vC _ _
   have hge:=hmin u huV;have hpos:0<(V.filter (cu r u)).length:=wbz (fL.mpr ⟨huV,by unfold cu;simp⟩);have hV2:(V.filter fun x=> !cu r u x).length=n-(V.filter (cu r u)).length:=by have:=oF (cu r u) V;omega
   have DG:∀(s:List Int) (x:Int),x∈s.filter (fun x=> !decide (x=u))↔x∈s/\x≠u:=fun s x=>by rw[fL];simp
   have h1:=ih (n-(V.filter (cu r u)).length) (by omega) (V.filter fun x=> !cu r u x) hV2 (by omega) (gs.map fun s=>s.filter fun x=> !decide (x=u)) (qI (nd.sublist hg) fun s hs t ht e=> ?_) (fun t ht=> ?_)
   ·rw[aJ]at h1;exact cT h1 (yw _ _ (by omega) (by omega))
   ·obtain⟨a1,a2⟩:=fg s hs;obtain⟨b1,b2⟩:=fg t ht;refine Gd a1.up b1.up fun k=> ?_;have hk:k∈s.filter (fun x=> !decide (x=u))↔k∈t.filter (fun x=> !decide (x=u)):=by rw[show s.filter (fun x=> !decide (x=u))=t.filter (fun x=> !decide (x=u))from e]
    rw[DG,DG]at hk;by_cases c:k=u
    ·rw[c];exact⟨fun _=>b2,fun _=>a2⟩
    ·exact⟨fun z=>(hk.mp ⟨z,c⟩).1,fun z=>(hk.mpr ⟨z,c⟩).1⟩
   ·obtain⟨s,hs,rfl⟩:=jY.mp ht;obtain⟨a1,a2⟩:=fg s hs;refine⟨a1.up.sublist yeh,fun x hx=> ?_,fun x hx y hy=> ?_,fun w hw hn=> ?_⟩
    ·obtain⟨x1,x2⟩:=(DG s x).mp hx;refine fL.mpr ⟨a1.sub x x1,?_⟩;unfold cu;rw[a1.ind x x1 u a2 x2,fO x2];rfl
    ·exact a1.ind x ((DG s x).mp hx).1 y ((DG s y).mp hy).1
    ·obtain⟨w1,w2⟩:=fL.mp hw;have w3:cu r u w=false:=by simpa using w2
     unfold cu at w3;rw[Bool.or_eq_false_iff]at w3;have wu:w≠u:=JV w3.1;have ws:w∉s:=fun z=>hn ((DG s w).mpr ⟨z,wu⟩);obtain⟨x,hx,hr⟩:=a1.max w w1 ws;have xu:x≠u:=fun z=>by rw[z,sym u w,w3.2]at hr;cases hr
     exact⟨x,(DG s x).mpr ⟨hx,xu⟩,hr⟩
end Hs
namespace Hs
open PySem oJ
noncomputable def rng(n:Nat):List Int:=(List.range n).map fun k=>((k:Nat):Int)
theorem iu{n:Nat}{x:Int}:x∈rng n↔0<=x/\x<(n:Int):=by
 unfold rng;rw[jY];constructor
 ·rintro⟨k,hk,rfl⟩;have:=jZ.mp hk;omega
 ·rintro⟨h0,h1⟩;exact⟨x.toNat,jZ.mpr (by omega),by omega⟩
theorem PL(ts:L0)(i j:Int):bW ts i j=bW ts j i:=by unfold bW;rw[Bool.or_comm]
noncomputable def goB(ts:L0)(w:Bool)(s:List Int)(p:Int):Bool:=s.all fun q=>bW ts p q==w
noncomputable def bV(ts:L0)(w:Bool):Nat->List (List Int)
 |0=>[[]]
 |k+1=>bV ts w k++((bV ts w k).filter fun s=>goB ts w s (k:Int)).map fun s=>s++[(k:Int)]
noncomputable def pU(ts:L0)(w:Bool)(n:Nat)(s:List Int):Bool:= !((rng n).any fun p=> !decide (p∈s)&&goB ts w s p)
noncomputable def lV(ts:L0)(w:Bool)(n:Nat):List (List Int):=(bV ts w n).filter (pU ts w n)
structure kj(ts:L0)(w:Bool)(k:Nat)(s:List Int):Prop where
 up:s.Pairwise (· < ·)
 lt:∀x∈s,0<=x/\x<(k:Int)
 all:∀x∈s,∀y∈s,x≠y->(bW ts x y==w)=true
theorem nR{ts:L0}{w:Bool}:∀(k:Nat) (s:List Int),s∈bV ts w k->kj ts w k s
 |0,s,h=>by
  rw[gY.mp (show s∈[[]]from h)];exact⟨List.Pairwise.nil,fun x hx=>(nomatch hx),fun x hx=>(nomatch hx)⟩
 |k+1,s,h=>by
  rcases nA.mp (show s∈bV ts w k++((bV ts w k).filter fun s=>goB ts w s (k:Int)).map fun s=>s++[(k:Int)]from h)with q|q
  ·have S:=nR k s q;exact⟨S.up,fun x hx=>by have:=S.lt x hx;omega,S.all⟩
  ·obtain⟨t,ht,rfl⟩:=jY.mp q;obtain⟨t1,t2⟩:=fL.mp ht;have S:=nR k t t1;have g:∀y∈t,(bW ts (k:Int) y==w)=true:=fun y hy=>j4.mp t2 y hy;refine⟨?_,fun x hx=> ?_,fun x hx y hy hne=> ?_⟩
   ·rw[Sy];refine⟨S.up,Pu _ _,fun x hx y hy=> ?_⟩;rw[gY.mp hy];exact(S.lt x hx).2
   ·rcases nA.mp hx with z|z
    ·have:=S.lt x z;omega
    ·rw[gY.mp z];omega
   ·rcases nA.mp hx with z|z
    ·rcases nA.mp hy with z'|z'
     ·exact S.all x z y z' hne
     ·rw[gY.mp z',PL];exact g x z
    ·rw[gY.mp z]at hne⊢;rcases nA.mp hy with z'|z'
     ·exact g y z'
     ·exact absurd (gY.mp z').symm hne
theorem jy{ts:L0}{w:Bool}:∀k:Nat,(bV ts w k).Nodup
 |0=>by show([[]]:List (List Int)).Nodup;simp
 |k+1=>by
  show(bV ts w k++((bV ts w k).filter fun s=>goB ts w s (k:Int)).map fun s=>s++[(k:Int)]).Nodup;refine Ye.mpr ⟨jy k,qI ((jy k).filter _) (fun a _ b _ e=>List.append_cancel_right e),fun a ha b hb e=> ?_⟩;obtain⟨t,_,rfl⟩:=jY.mp hb;have:=(nR k a ha).lt (k:Int) (by rw[e];simp);omega
theorem zP{ts:L0}{w:Bool}:∀k:Nat,(bV ts w k).length<=2^k
 |0=>aX _
 |k+1=>by
  show(bV ts w k++((bV ts w k).filter fun s=>goB ts w s (k:Int)).map fun s=>s++[(k:Int)]).length<=2^(k+1);rw[ql,aJ,wfg];have a:=zP (ts:=ts) (w:=w) k;have b:=vC (fun s=>goB ts w s (k:Int)) (bV ts w k);omega
theorem HS{ts:L0}{w:Bool}{n:Nat}{s:List Int}(h:s∈lV ts w n):Full (fun i j=> !(bW ts i j==w)) (rng n) s:=by
 obtain⟨h1,h2⟩:=fL.mp h;have S:=nR n s h1;refine⟨S.up,fun x hx=>iu.mpr (S.lt x hx),fun x hx y hy hne=>by rw[S.all x hx y hy hne];rfl,fun v hv hn=> ?_⟩;unfold pU at h2;apply Xv;intro hc;have h3:((rng n).any fun p=> !decide (p∈s)&&goB ts w s p)=false:=by simpa using h2
 rw[Xh]at h3;apply h3 v hv;rw[fO hn];show goB ts w s v=true;unfold goB;rw[j4];intro q hq;cases e:(bW ts v q==w)with
 |true=>rfl
 |false=>exact absurd ⟨q,hq,by show(!(bW ts q v==w))=true;rw[PL,e];rfl⟩ hc
theorem wJ{ts:L0}{w:Bool}{n:Nat}(hn:n<=10):(lV ts w n).length<=36:=by
 have h:=Ej (r:=fun i j=> !(bW ts i j==w)) (fun i j=>by rw[PL]) n (rng n) (by unfold rng;simp) hn (lV ts w n) ((jy n).filter _) (fun s hs=>HS hs);have:=yw n 10 hn (aX _);exact cT h this
noncomputable def j6(ts:L0)(w:Bool)(n:Nat)(s:List Int):List Int:=(rng n).filter fun p=>s.all fun q=> !decide (p=q)&&(bW ts q p==w)
noncomputable def pW(ts:L0)(w:Bool)(n:Nat)(q:Int):List Int:=(rng n).filter fun p=> !decide (p=q)&&(bW ts q p==w)
theorem Nb(ts:L0)(w:Bool)(n:Nat):j6 ts w n []=rng n:=by unfold j6;exact List.filter_eq_self.mpr fun _ _=>rfl
theorem Jr(ts:L0)(w:Bool)(n:Nat)(s:List Int)(k:Int):j6 ts w n (s++[k])=(j6 ts w n s).filter fun p=>decide (p∈pW ts w n k):=by
 unfold j6;rw[List.filter_filter];refine List.filter_congr fun p hp=> ?_;rw[List.all_append,Bool.and_comm];congr 1;unfold pW;rw[v9,Px,fL];simp[hp]
theorem Ro{ts:L0}{w:Bool}{n k:Nat}{s:List Int}(hs:kj ts w k s)(hk:k<n):decide ((k:Int)∈j6 ts w n s)=goB ts w s (k:Int):=by
 unfold j6 goB;rw[v9,Px,fL,j4,j4];constructor
 ·rintro⟨_,h⟩ q hq;have:=h q hq;rw[kO]at this;rw[PL];exact this.2
 ·intro h;refine⟨iu.mpr ⟨by omega,by omega⟩,fun q hq=> ?_⟩;have:=(hs.lt q hq).2;rw[kO];refine⟨?_,by rw[PL];exact h q hq⟩;rw[fO (by omega)];rfl
theorem Js(ts:L0)(w:Bool)(n:Nat)(s:List Int):decide (j6 ts w n s=[])=pU ts w n s:=by
 unfold j6 pU;rw[v9,Px,Xl,Qe,Xh];constructor
 ·intro h p hp hc;rw[kO]at hc;apply h p hp;rw[j4];intro q hq;have h1:p∉s:=by simpa using hc.1
  have h2:=j4.mp hc.2 q hq;rw[kO];refine⟨?_,by rw[PL];exact h2⟩;have ne:¬p=q:=fun e=>h1 (by rw[e];exact hq);rw[fO ne];rfl
 ·intro h p hp hc;apply h p hp;rw[j4]at hc;rw[kO];refine⟨?_,?_⟩
  ·have:p∉s:=fun z=>by
    have:=hc p z;simp at this
   rw[fO this];rfl
  ·unfold goB;rw[j4];intro q hq;have:=hc q hq;rw[kO]at this;rw[PL];exact this.2
theorem rF:∀{xs ys:List Int},xs.Pairwise (· < ·)->ys.Pairwise (· < ·)->(∀k,k∈xs↔k∈ys)->xs=ys
 |[],[],_,_,_=>rfl
 |[],y::ys,_,_,h=>by have:=(h y).mpr (by simp);simp at this
 |x::xs,[],_,_,h=>by have:=(h x).mp (by simp);simp at this
 |x::xs,y::ys,hx,hy,h=>by
  rw[Qa]at hx hy;have e:x=y:=by
   have a:=(h x).mp (by simp);have b:=(h y).mpr (by simp);rcases cY.mp a with a|a
   ·exact a
   ·rcases cY.mp b with b|b
    ·exact b.symm
    ·have:=hy.1 x a;have:=hx.1 y b;omega
  subst e;rw[rF hx.2 hy.2 fun k=> ?_];constructor
  ·intro hk;rcases cY.mp ((h k).mp (iG _ hk))with a|a
   ·have:=hx.1 k hk;omega
   ·exact a
  ·intro hk;rcases cY.mp ((h k).mpr (iG _ hk))with a|a
   ·have:=hy.1 k hk;omega
   ·exact a
theorem o8{ts:L0}{w:Bool}:∀(k:Nat) (s:List Int),kj ts w k s->s∈bV ts w k
 |0,s,h=>by
  cases s with
  |nil=>show([]:List Int)∈[[]];simp
  |cons x s=>have:=h.lt x (by simp);omega
 |k+1,s,h=>by
  show s∈bV ts w k++((bV ts w k).filter fun s=>goB ts w s (k:Int)).map fun s=>s++[(k:Int)];by_cases c:(k:Int)∈s
  ·have hm:∀x,x∈s.filter (fun x=> !decide (x=(k:Int)))↔x∈s/\x≠(k:Int):=fun x=>by rw[fL];simp
   refine Iv _ (jY.mpr ⟨s.filter (fun x=> !decide (x=(k:Int))),fL.mpr ⟨o8 k _ ⟨h.up.filter _,fun x hx=> ?_,fun x hx y hy hne=> ?_⟩,?_⟩,?_⟩)
   ·have a:=(hm x).mp hx;have b:=h.lt x a.1;have:=a.2;omega
   ·exact h.all x ((hm x).mp hx).1 y ((hm y).mp hy).1 hne
   ·unfold goB;rw[j4];intro q hq;have a:=(hm q).mp hq;exact h.all _ c q a.1 (fun e=>a.2 e.symm)
   ·refine rF ?_ h.up fun x=> ?_
    ·rw[Sy];refine⟨h.up.filter _,Pu _ _,fun x hx y hy=> ?_⟩;rw[gY.mp hy];have a:=(hm x).mp hx;have b:=h.lt x a.1;have:=a.2;omega
    ·rw[nA,hm,gY];constructor
     ·rintro(a|a)
      ·exact a.1
      ·rw[a];exact c
     ·intro a;by_cases e:x=(k:Int)
      ·exact .inr e
      ·exact .inl ⟨a,e⟩
  ·refine yed _ (o8 k s ⟨h.up,fun x hx=> ?_,h.all⟩);have b:=h.lt x hx;have:x≠(k:Int):=fun e=>c (by rw[<-e];exact hx);omega
theorem kj.of{ts:L0}{w:Bool}{n:Nat}{s:List Int}(F:Full (fun i j=> !(bW ts i j==w)) (rng n) s):kj ts w n s:=
 ⟨F.up,fun x hx=>iu.mp (F.sub x hx),fun x hx y hy hne=>by
  have:=F.ind x hx y hy hne
  try dsimp only at this
  cases e:(bW ts x y==w)with
  |true=>rfl
  |false=>rw[e]at this;cases this⟩
theorem RG{ts:L0}{w:Bool}{n:Nat}{s:List Int}(F:Full (fun i j=> !(bW ts i j==w)) (rng n) s):s∈lV ts w n:=by
 refine fL.mpr ⟨o8 n s (kj.of F),?_⟩;unfold pU;rw[Qe,Xh];intro p hp hc;rw[kO]at hc;have hn:p∉s:=by simpa using hc.1
 obtain⟨x,hx,hr⟩:=F.max p hp hn;have:=j4.mp hc.2 x hx
 try dsimp only at hr this
 rw[PL,this]at hr;cases hr
theorem Hh{α:Type}(g:α->Nat):∀V:List α,V≠[]->∃v∈V,∀u∈V,g u<=g v
 |[],h=>absurd rfl h
 |[x],_=>⟨x,by simp,fun u hu=>by rw[gY.mp hu];exact aX _⟩
 |x::y::V,_=>by
  obtain⟨v,hv,hm⟩:=Hh g (y::V) (by simp);by_cases c:g v<=g x
  ·refine⟨x,by simp,fun u hu=> ?_⟩;rcases cY.mp hu with e|e
   ·rw[e];exact aX _
   ·exact cT (hm u e) c
  ·refine⟨v,iG _ hv,fun u hu=> ?_⟩;rcases cY.mp hu with e|e
   ·rw[e];omega
   ·exact hm u e
theorem uN{ts:L0}{w:Bool}{n:Nat}{s:List Int}(hs:kj ts w n s):∃t∈lV ts w n,∀x∈s,x∈t:=by
 let C:=(bV ts w n).filter fun t=>s.all fun x=>decide (x∈t);have mC:∀t,t∈C↔t∈bV ts w n/\∀x∈s,x∈t:=fun t=>by
  show t∈(bV ts w n).filter _↔_;rw[fL,j4];simp
 have hne:C≠[]:=fun e=>by
  have:s∈C:=(mC s).mpr ⟨o8 n s hs,fun x hx=>hx⟩;rw[e]at this;cases this
 obtain⟨t,ht,hm⟩:=Hh List.length C hne;obtain⟨h1,h2⟩:=(mC t).mp ht;have T:=nR n t h1;refine⟨t,RG ⟨T.up,fun x hx=>iu.mpr (T.lt x hx),fun x hx y hy hne=> ?_,fun v hv hn=> ?_⟩,h2⟩
 ·show(!(bW ts x y==w))=false;rw[T.all x hx y hy hne];rfl
 ·apply Xv;intro hc;have go:∀x∈t,(bW ts x v==w)=true:=fun x hx=>by
   cases e:(bW ts x v==w)with
   |true=>rfl
   |false=>exact absurd ⟨x,hx,by show(!(bW ts x v==w))=true;rw[e];rfl⟩ hc
  have mU:∀x,x∈(rng n).filter (fun x=>decide (x∈t)||decide (x=v))↔x∈t\/x=v:=fun x=>by
   rw[fL,weq,Px,Px];constructor
   ·exact fun z=>z.2
   ·rintro(z|z)
    ·exact⟨iu.mpr (T.lt x z),.inl z⟩
    ·exact⟨by rw[z];exact hv,.inr z⟩
  have up:((rng n).filter (fun x=>decide (x∈t)||decide (x=v))).Pairwise (· < ·):=by
   refine List.Pairwise.filter _ ?_;unfold rng;rw[P0];exact Yk.imp fun{a b} h=>by omega
  have U:kj ts w n ((rng n).filter (fun x=>decide (x∈t)||decide (x=v))):=⟨up,fun x hx=>iu.mp (fL.mp hx).1,fun x hx y hy hne=>by
   rcases(mU x).mp hx with a|a
   ·rcases(mU y).mp hy with b|b
    ·exact T.all x a y b hne
    ·rw[b];exact go x a
   ·rcases(mU y).mp hy with b|b
    ·rw[a,PL];exact go y b
    ·exact absurd (a.trans b.symm) hne⟩
  have inC:=(mC _).mpr ⟨o8 n _ U,fun x hx=>(mU x).mpr (.inl (h2 x hx))⟩;have l1:=hm _ inC;have l2:=jf (l:=v::t) (m:=(rng n).filter (fun x=>decide (x∈t)||decide (x=v))) (J4.mpr ⟨hn,T.up.imp fun{a b} h=>by omega⟩) (fun x hx=>by
   rcases cY.mp hx with z|z
   ·exact(mU x).mpr (.inr z)
   ·exact(mU x).mpr (.inl z))
  rw[zc]at l2;omega
end Hs
namespace Hs
open PySem L2 oJ
section
variable{P:ξ}{w:τ}{K:W.Frag}{mg:L5}{base:Heap}
theorem blV_eq(a b:Bool):decide (V.bl a=V.bl b)=(a==b):=by cases a<;>cases b<;>rfl
theorem intV_eq(a b:Int):decide (V.int a=V.int b)=decide (a=b):=by
 by_cases e:a=b
 ·subst e;simp
 ·rw[fO e,fO (by intro z;injection z with z;exact e z)]
theorem Rn{a b:Int}:(!decide (V.int a=V.int b))= !decide (a=b):=by rw[intV_eq]
theorem any_ints(xs:List Int)(k:Int):((xs.map PyData.int).any fun d=>PyData.eqv d (.int k))=decide (k∈xs):=by
 induction xs with
 |nil=>simp
 |cons x xs ih=>
  rw[yX,Xg,ih];have e:PyData.eqv (.int x) (.int k)=decide (k=x):=by
   show(x==k)=_;rw[v9];simp;exact⟨fun h=>h.symm,fun h=>h.symm⟩
  rw[e,v9];simp
theorem zcl{α:Type}{p:α->Bool}{l:List α}{i:Nat}(hi:i<l.length):(l.take (i+1)).filter p=(l.take i).filter p++(if p l[i]=true then[l[i]]else[]):=by
 rw[sI,dF hi,Cq];congr 1;show[l[i]].filter p=_;rw[Cp];rfl
theorem Lp(k:Nat):rng (k+1)=rng k++[(k:Int)]:=by unfold rng;rw[yZ,bL];rfl
theorem Kf(n:Nat):cZ n=(rng n).map V.int:=by unfold cZ rng;rw[vA];rfl
noncomputable def zK(K:W.Frag):Sp:=fun vs H Q _=>∃(l m:Addr) (xs ys:List Int),vs=[.ref l,.ref m]/\SqL K H l (xs.map V.int)/\SqL K H m (ys.map V.int)/\∀r H',Same H H'->H' r=some (.lst ((xs.filter fun p=>decide (p∈ys)).map V.int))->H r=none->Q (.ref r) H'
theorem Jl{f:Addr}{fd:ρ}(F:Fun K "in_both" "in_both" qu f fd):
  FnOk P w K mg base CX0 1 f fd ["ones","others"] (zK K):=by
 refine F.bZ ["ones","others"] fun cdv A outer s H vs Q E hr h=> ?_;obtain⟨l,m,xs,ys,rfl,hL,hM,q⟩:=h;refine⟨_,(aR (bB (pK ["place"] ["others"] [1] (sG (pv 0)) (pG 0) (BX (cR (jM K hr.units) (pv 0) (pv 1) (by with_unfolding_all rfl))) (pv 0)))),?_⟩;refine⟨_,rfl,l,_,rfl,hL,fun hz=> ?_⟩;let gF:Nat->List V->St->Hp->Prop:=fun k acc σ H'=>acc=((xs.take k).filter fun p=>decide (p∈ys)).map V.int/\Same H H'/\∃o,σ=[o,some (.ref m)];refine wU (xs:=xs.map V.int) gF ⟨rfl,Same.refl _,_,rfl⟩ (fun k acc σ H' _ p=>p.2.1.seq hL) (fun k acc σ H' hk p=> ?_) hz (fun k x acc σ H' hx p=> ?_) (fun acc σ H' p=> ?_)
 ·rw[p.1,aJ];exact cT (vC _ _) (by rw[rK];exact Cm _ _)
 ·obtain⟨rfl,sm,o,rfl⟩:=p;rw[dJ]at hx;cases ex:xs[k]? with
  |none=>rw[ex]at hx;cases hx
  |some y=>
   rw[ex]at hx;cases hx;obtain⟨hk,ey⟩:=nF.mp ex;have e:=zcl (p:=fun p=>decide (p∈ys)) hk;rw[ey]at e;refine⟨_,rfl,_,rfl,m,_,_,.int y,rfl,.inl (sm.seq hM),cN.ints ys,.int _,Ik ys,rfl,(by show 0<=60;decide),_,rfl,?_⟩;rw[any_ints];refine ite2 (fun c=> ?_) (fun c=> ?_)
   ·exact⟨_,rfl,by rw[e,aF c,bL];rfl,sm,_,rfl⟩
   ·exact⟨by rw[e,aA c,zx],sm,_,rfl⟩
 ·intro p1 hp1;obtain⟨rfl,sm,_⟩:=p;rw[aJ,qm];exact q p1 _ (sm.trans (aM hp1 _)) aB (sm.free hp1)
noncomputable def Gu(K:W.Frag):Sp:=fun vs H Q _=>∃(a:Addr) (n i:Int) (ts:L0) (w:Bool),vs=[.ref a,.int i,.bl w]/\aO K H a n ts/\∀r H',Same H H'->H' r=some (.lst ((pW ts w n.toNat i).map V.int))->H r=none->Q (.ref r) H'
theorem Mz{f f1:Addr}{fd d1:ρ}(F:Fun K "places_by_tie" "places_by_tie" fu f fd)(D1:bC K mg "has_tie" fU ["web","one","other"] f1 d1)(G1:FnOk P w K mg base CX0 1 f1 d1 ["web","one","other"] (rC K))(aK:mg "range"=none):
  FnOk P w K mg base CX0 2 f fd ["web","place","tied"] (Gu K):=by
 refine F.bZ ["web","place","tied"] fun cdv A outer s H vs Q E hr h=> ?_;obtain⟨a,n,i,ts,w,rfl,hA,q⟩:=h;refine⟨_,(aR (bB (pK ["other"] ["place","web","tied"] [1,0,2] (Io rfl aK (aj (aQ bD (pv 0) ao) ak)) (pG 0) (BX (PW.pt (pw_and (cR op_ne (pv 0) (pv 1)) (pw_and1 (cR op_eq (pc G1 hr D1 (aj (pv 2) (aj (pv 1) (aj (pv 0) ak)))) (pv 3)))))) (pv 0)))),?_⟩;have h0:=hA.h0;have h10:=hA.h1;obtain⟨ta,ra,a1,a2,a3⟩:=id hA.web;refine⟨_,rfl,a,_,_,.int n,rfl,rfl,a1,rfl,n,rfl,by omega,by omega,?_⟩;let p7:Nat->List V->St->Hp->Prop:=fun k acc σ H'=>acc=((rng k).filter fun p=> !decide (p=i)&&(bW ts i p==w)).map V.int/\Same H H'/\∃o,σ=[o,some (.int i),some (.ref a),some (.bl w)];refine R6 (n:=n.toNat) p7 ⟨rfl,Same.refl _,_,rfl⟩ (fun k acc σ H' hk p=> ?_) (by rw[gR];omega) (fun k acc σ H' hk p=> ?_) (fun acc σ H' p=> ?_)
 ·rw[p.1,aJ];exact cT (vC _ _) (by unfold rng;simp)
 ·obtain⟨rfl,sm,o,rfl⟩:=p;have ek:(0+(k:Int))=(k:Int):=by omega
  rw[ek];have e:∀b,b=(!decide ((k:Int)=i)&&(bW ts i (k:Int)==w))->((rng (k+1)).filter fun p=> !decide (p=i)&&(bW ts i p==w))=((rng k).filter fun p=> !decide (p=i)&&(bW ts i p==w))++(if b=true then[(k:Int)]else[]):=fun b hb=>by
   rw[Lp,Cq,Cp,hb];rfl
  refine⟨_,rfl,_,rfl,rfl,_,rfl,?_⟩;rw[Rn];refine ite2 (fun c=> ?_) (fun c=> ?_)
  ·refine⟨_,rfl,_,rfl,_,rfl,a,n,_,_,ts,rfl,(hA.same sm).web,fun H5 s5=>⟨_,rfl,rfl,_,rfl,?_⟩⟩;rw[blV_eq,tied_eq hA.pk];refine ite2 (fun c2=> ?_) (fun c2=> ?_)
   ·exact⟨_,rfl,by rw[e true (by rw[c,c2];rfl),bL];rfl,sm.trans s5,_,rfl⟩
   ·exact⟨by rw[e false (by rw[c,Bool.eq_false_iff.mpr c2];rfl)];simp,sm.trans s5,_,rfl⟩
  ·exact⟨by rw[e false (by rw[Bool.eq_false_iff.mpr c];rfl)];simp,sm,_,rfl⟩
 ·intro p1 hp1;obtain⟨rfl,sm,_⟩:=p;exact q p1 _ (sm.trans (aM hp1 _)) aB (sm.free hp1)
noncomputable def uX(K:W.Frag)(H:Hp)(r:Addr)(ss:List (List Int)):Prop:=∃its:List (Addr×List Int),H r=some (.lst (its.map fun p=>V.ref p.1))/\(∀p∈its,SqT K H p.1 (p.2.map V.int))/\its.map (fun p=>p.2)=ss
noncomputable def bQ(ss:List (List Int))(ts:L0)(w:Bool)(n:Nat):Prop:=ss.Perm (lV ts w n)/\ss.Pairwise fun a b=>HT.lexLt b a=false
theorem RD{ts:L0}{w:Bool}{n:Nat}(h2:2<=(lV ts w n).length):∀s∈lV ts w n,s≠[]:=by
 intro s hs e;subst e;have F:=HS hs;cases n with
 |zero=>
  have:(lV ts w 0).length<=1:=by
   show(([[]]:List (List Int)).filter (pU ts w 0)).length<=1;exact vC _ _
  omega
 |succ n=>
  obtain⟨x,hx,_⟩:=F.max 0 (iu.mpr ⟨by omega,by omega⟩) (by simp);cases hx
structure Fit(K:W.Frag)(H:Hp)(ts:L0)(w:Bool)(n:Nat)(q:Addr×Addr×Addr×List Int):Prop where
 pr:SqT K H q.1 [.ref q.2.1,.ref q.2.2.1]
 so:SqT K H q.2.1 (q.2.2.2.map V.int)
 le:H q.2.2.1=some (.lst ((j6 ts w n q.2.2.2).map V.int))
theorem Fit.same{H H':Hp}{ts:L0}{w:Bool}{n:Nat}{q:Addr×Addr×Addr×List Int}(h:Fit K H ts w n q)(e:Same H H'):Fit K H' ts w n q:=⟨e.tup h.pr,e.tup h.so,e _ _ h.le⟩
noncomputable def Pa(K:W.Frag)(H:Hp)(fd:Addr)(ts:L0)(w:Bool)(n:Nat)(ss:List (List Int)):Prop:=∃its:List (Addr×Addr×Addr×List Int),H fd=some (.lst (its.map fun q=>V.ref q.1))/\(∀q∈its,Fit K H ts w n q)/\its.map (fun q=>q.2.2.2)=ss
noncomputable def tU(K:W.Frag):Sp:=fun vs H Q _=>∃(fl:Addr) (fas:List Addr) (ts:L0) (w:Bool) (n:Nat),vs=[.ref fl]/\H fl=some (.lst (fas.map V.ref))/\fas.length=n/\n<=10/\(∀(i:Nat) f,fas[i]? =some f->H f=some (.lst ((pW ts w n (i:Int)).map V.int)))/\
 ∀r ss H',Same H H'->uX K H' r ss->bQ ss ts w n->H r=none->Q (.ref r) H'
theorem Ac{f f1:Addr}{fd d1:ρ}(F:Fun K "full_sets" "full_sets" lH f fd)(D1:bC K mg "in_both" qu ["ones","others"] f1 d1)(G1:FnOk P w K mg base CX0 1 f1 d1 ["ones","others"] (zK K))(cH:mg "list"=none)(aK:mg "range"=none)(bN:mg "len"=none)(cX:mg "sorted"=none):
  FnOk P w K mg base CX0 2 f fd ["friends"] (tU K):=by
 refine F.bZ ["friends","found","place","wider"] fun cdv A outer s H vs Q E hr h=> ?_;obtain⟨fl,fas,ts,w,n,rfl,hF,hn,h10,hfr,q⟩:=h;refine aW ?_;intro Y;refine⟨_,(aL (pS 1 (pe_lst (aj (dW (aj (dW ak) (aj (g8 rfl rfl cH rfl aK (aj (pB vm bN (aj (pv 0) ak)) ak)) ak))) ak))) (aL (ps_for wZ rfl (Io rfl aK (aj (pB vm bN (aj (pv 0) ak)) ak)) (pG 2) (aL (pX 3 ["some","left"] ["place","friends"] [2,0] (sG (pv 1)) (JN K (n:=2) rfl (mH (pG 0) (mH (pG 1) zq))) (BX (cR (jM K hr.units) (pv 2) (pv 1) (by with_unfolding_all rfl))) (dW (aj (bA (zZ K) (pv 0) (dW (aj (pv 2) ak))) (aj (pc G1 hr D1 (aj (pv 1) (aj (aQ (gA K) (pv 3) (pv 2)) ak))) ak)))) (aR (pS 1 (bA op_cat (pv 1) (pv 3)))))) (aR (bB (pB yH cX (aj (pK ["some","left"] [] [] (sG (pv 1)) (JN K (n:=2) rfl (mH (pG 0) (mH (pG 1) zq))) (BX (kY (Jf K (pv 1) (fun _=>rfl)))) (pv 0)) ak)))))),?_⟩;refine gC ?_;intro c3 c2;have el:((fas.map V.ref).length:Int)=(n:Int):=by rw[aJ,hn]
 refine⟨(by show 0<=sizeLine;decide),fun e1 he1=> ?_⟩;have s1:=aM he1 (.tup []);have t1:SqT K (upd H e1 (.tup [])) e1 []:=SqT.of aB;generalize (upd H e1 (.tup []))=H1 at *;refine⟨_,rfl,fl,_,rfl,.inl (SqL.of (s1 _ _ hF)),fun _=>⟨_,rfl,by omega,by rw[el];omega,fun rl hrl=> ?_⟩⟩;have er:cZ ((fas.map V.ref).length:Int).toNat=(rng n).map V.int:=by rw[el,Ip,Kf]
 rw[er];have s2:=aM hrl (.lst ((rng n).map V.int));have t2:(upd H1 rl (.lst ((rng n).map V.int))) rl=some (.lst ((rng n).map V.int)):=aB;generalize (upd H1 rl (.lst ((rng n).map V.int)))=H2 at *;refine⟨(by show 2<=sizeLine;decide),fun e3 he3=> ?_⟩;have s3:=aM he3 (.tup [.ref e1,.ref rl]);have t3:SqT K (upd H2 e3 (.tup [.ref e1,.ref rl])) e3 [.ref e1,.ref rl]:=SqT.of aB;generalize (upd H2 e3 (.tup [.ref e1,.ref rl]))=H3 at *;refine⟨(by show 1<=sizeLine;decide),fun fd hfd=> ?_⟩;have s4:=aM hfd (.lst [.ref e3]);have F4:Pa K (upd H3 fd (.lst [.ref e3])) fd ts w n (bV ts w 0):=by
  refine⟨[(e3,e1,rl,[])],aB,fun q hq=> ?_,rfl⟩;rw[gY.mp hq];exact⟨s4.tup t3,s4.tup (s3.tup (s2.tup t1)),by rw[Nb];exact s4 _ _ (s3 _ _ t2)⟩
 have s04:=s1.trans (s2.trans (s3.trans s4));generalize (upd H3 fd (.lst [.ref e3]))=H4 at *;refine⟨_,rfl,fl,_,rfl,.inl (SqL.of (s04 _ _ hF)),fun _=>⟨_,rfl,by omega,by rw[el];omega,?_⟩⟩;have en:((fas.map V.ref).length:Int).toNat=n:=by rw[el,Ip]
 rw[en];let gF:Nat->St->Hp->Prop:=fun k σ H'=>Same H H'/\∃fd b2 b3,Pa K H' fd ts w n (bV ts w k)/\σ=[some (.ref fl),some (.ref fd),b2,b3];refine Ph (n:=n) gF ⟨s04,fd,_,_,F4,rfl⟩ (fun k σ H' hk p=> ?_) (fun σ H' p=> ?_)
 ·obtain⟨s5,fd,b2,b3,F5,rfl⟩:=p;have ek:(0+(k:Int))=(k:Int):=by omega
  rw[ek];obtain⟨its,f1,f2,f3⟩:=F5;have hlen:its.length<=1024:=by
   have a:=zP (ts:=ts) (w:=w) k;rw[<-f3,aJ]at a;have b:2^k<=2^10:=Nat.pow_le_pow_right (by decide) (by omega);have c:2^10=1024:=by decide
   omega
  have hkf:k<fas.length:=by omega
  have hfk:(fas.map V.ref)[k]? =some (.ref fas[k]):=by rw[dJ,dF hkf];rfl
  have hgk:=hfr k fas[k] (dF hkf);refine⟨_,rfl,fd,_,rfl,SqL.of f1,fun hzf=> ?_⟩;let p7:Nat->List V->St->Hp->Prop:=fun i acc σ Ij=>(∃its2:List (Addr×Addr×Addr×List Int),acc=its2.map (fun q=>V.ref q.1)/\(∀q∈its2,Fit K Ij ts w n q)/\its2.map (fun q=>q.2.2.2)=(((bV ts w k).take i).filter fun s=>goB ts w s (k:Int)).map fun s=>s++[(k:Int)])/\Same H' Ij/\∃o1 o2,σ=[o1,o2,some (.int (k:Int)),some (.ref fl)];refine wU (xs:=its.map fun q=>V.ref q.1) p7 ⟨⟨[],rfl,fun q hq=>(nomatch hq),rfl⟩,Same.refl _,_,_,rfl⟩ (fun i acc σ Ij _ p=>p.2.1.seq (SqL.of f1)) (fun i acc σ Ij hi p=> ?_) hzf (fun i x acc σ Ij hx p=> ?_) (fun acc σ Ij p=> ?_)
  ·obtain⟨⟨its2,rfl,g2,g3⟩,_⟩:=p;have a:=lq List.length g3;rw[aJ,aJ]at a;rw[aJ,a];exact cT (vC _ _) (by rw[rK];exact Cm _ _)
  ·obtain⟨⟨its2,rfl,g2,g3⟩,sm,o1,o2,rfl⟩:=p;rw[dJ]at hx;cases ex:its[i]? with
   |none=>rw[ex]at hx;cases hx
   |some v=>
    rw[ex]at hx;cases hx;have fv:=(f2 v (sO ex)).same sm;have hsv:(bV ts w k)[i]? =some v.2.2.2:=by rw[<-f3,dJ,ex];rfl
    obtain⟨hi,esv⟩:=nF.mp hsv;have Sv:=nR k v.2.2.2 (sO hsv);have e:=zcl (p:=fun s=>goB ts w s (k:Int)) hi;rw[esv]at e;refine⟨v.1,_,rfl,fv.pr,rfl,_,_,rfl,_,_,rfl,rfl,?_⟩;refine⟨_,rfl,_,rfl,v.2.2.1,_,_,.int (k:Int),rfl,.inl (SqL.of fv.le),cN.ints _,.int _,Ik _,rfl,(by show 0<=60;decide),_,rfl,?_⟩;rw[any_ints,Ro Sv hk];refine ite2 (fun c=> ?_) (fun c=> ?_)
    ·refine⟨_,rfl,_,rfl,(by show 1<=sizeLine;decide),fun e5 he5=> ?_⟩;have s6:=aM he5 (.tup [.int (k:Int)]);have t6:SqT K (upd Ij e5 (.tup [.int (k:Int)])) e5 [.int (k:Int)]:=SqT.of aB;generalize (upd Ij e5 (.tup [.int (k:Int)]))=H6 at *;have hvl:v.2.2.2.length<=10:=by
      have a:=jf (l:=v.2.2.2) (m:=rng n) (Sv.up.imp fun{x y} h=>by omega) (fun x hx=>iu.mpr (by have:=Sv.lt x hx;omega));have b:(rng n).length=n:=by unfold rng;simp
      omega
     refine⟨v.2.1,e5,_,_,rfl,rfl,s6.tup fv.so,t6,(by rw[aJ,gR];show v.2.2.2.length+1<=_;omega),fun r7 H7 s7 h7=> ?_⟩;have s67:=s6.trans s7;refine⟨_,rfl,_,rfl,_,rfl,fl,_,_,.ref fas[k],rfl,rfl,SqL.of ((s5.trans (sm.trans s67)) _ _ hF),atI_nat hfk,v.2.2.1,fas[k],_,_,rfl,SqL.of (s67 _ _ fv.le),SqL.of ((s5.trans (sm.trans s67)) _ _ hgk),fun r8 H8 s8 h8 n8=> ?_⟩;refine⟨(by show 2<=sizeLine;decide),fun e9 he9=> ?_⟩;have s9:=aM he9 (.tup [.ref r7,.ref r8]);have s69:=s67.trans (s8.trans s9);refine⟨⟨its2++[(e9,r7,r8,v.2.2.2++[(k:Int)])],by rw[bL];rfl,fun q hq=> ?_,by rw[bL,g3,e,aF c,bL];rfl⟩,sm.trans s69,_,_,rfl⟩;rcases nA.mp hq with z|z
     ·exact(g2 q z).same s69
     ·rw[gY.mp z];refine⟨SqT.of aB,s9.tup (s8.tup ?_),by rw[Jr];exact s9 _ _ h8⟩;rw[bL];exact h7
    ·exact⟨⟨its2,rfl,g2,by rw[g3,e,aA c,zx]⟩,sm,_,_,rfl⟩
  ·intro p1 hp1;obtain⟨⟨its2,rfl,g2,g3⟩,sm,o1,o2,rfl⟩:=p;have hle:(its.map fun q=>V.ref q.1).length=(bV ts w k).length:=by rw[aJ,<-f3,aJ]
   rw[hle,qm]at g3;have s6:=aM hp1 (.lst (its2.map fun q=>V.ref q.1));have l2:its2.length<=1024:=by
    have a:=lq List.length g3;rw[aJ,aJ]at a;have b:=vC (fun s=>goB ts w s (k:Int)) (bV ts w k);rw[<-f3,aJ]at b;rw[<-f3]at a;omega
   refine⟨_,rfl,_,rfl,fd,p1,_,_,rfl,rfl,(sm.trans s6) _ _ f1,aB,by rw[aJ,aJ,gR];omega,fun p2 hp2=> ?_⟩;have s7:=aM hp2 (.lst ((its.map fun q=>V.ref q.1)++(its2.map fun q=>V.ref q.1)));refine⟨s5.trans (sm.trans (s6.trans s7)),p2,_,_,⟨its++its2,by rw[aB,bL],fun q hq=> ?_,by rw[bL,f3,g3];rfl⟩,rfl⟩;rcases nA.mp hq with z|z
   ·exact(f2 q z).same (sm.trans (s6.trans s7))
   ·exact(g2 q z).same (s6.trans s7)
 ·obtain⟨s5,fd,b2,b3,⟨its,f1,f2,f3⟩,rfl⟩:=p;refine⟨_,rfl,fd,_,rfl,SqL.of f1,fun hzf=> ?_⟩;let Fp:Nat->List V->St->Hp->Prop:=fun i acc σ Ij=>(∃its2:List (Addr×List Int),acc=its2.map (fun q=>V.ref q.1)/\(∀q∈its2,SqT K H' q.1 (q.2.map V.int))/\its2.map (fun q=>q.2)=((bV ts w n).take i).filter (pU ts w n))/\Same H' Ij/\∃o1 o2,σ=[o1,o2];refine wU (xs:=its.map fun q=>V.ref q.1) Fp ⟨⟨[],rfl,fun q hq=>(nomatch hq),rfl⟩,Same.refl _,_,_,rfl⟩ (fun i acc σ Ij _ p=>p.2.1.seq (SqL.of f1)) (fun i acc σ Ij hi p=> ?_) hzf (fun i x acc σ Ij hx p=> ?_) (fun acc σ Ij p=> ?_)
  ·obtain⟨⟨its2,rfl,g2,g3⟩,_⟩:=p;have a:=lq List.length g3;rw[aJ]at a;rw[aJ,a];exact cT (vC _ _) (by rw[rK];exact Cm _ _)
  ·obtain⟨⟨its2,rfl,g2,g3⟩,sm,o1,o2,rfl⟩:=p;rw[dJ]at hx;cases ex:its[i]? with
   |none=>rw[ex]at hx;cases hx
   |some v=>
    rw[ex]at hx;cases hx;have fv:=f2 v (sO ex);have hsv:(bV ts w n)[i]? =some v.2.2.2:=by rw[<-f3,dJ,ex];rfl
    obtain⟨hi,esv⟩:=nF.mp hsv;have e:=zcl (p:=pU ts w n) hi;rw[esv]at e;refine⟨v.1,_,rfl,sm.tup fv.pr,rfl,_,_,rfl,_,_,rfl,rfl,?_⟩;refine⟨_,rfl,_,.inl ⟨_,SqL.of (sm _ _ fv.le),rfl⟩,?_⟩;have eb:(!!((j6 ts w n v.2.2.2).map V.int).isEmpty)=pU ts w n v.2.2.2:=by
     rw[Bool.not_not,<-Js];cases j6 ts w n v.2.2.2<;>rfl
    dsimp only;rw[eb];refine ite2 (fun c=> ?_) (fun c=> ?_)
    ·refine⟨_,rfl,⟨its2++[(v.2.1,v.2.2.2)],by rw[bL];rfl,fun q hq=> ?_,by rw[bL,g3,e,aF c];rfl⟩,sm,_,_,rfl⟩;rcases nA.mp hq with z|z
     ·exact g2 q z
     ·rw[gY.mp z];exact fv.so
    ·exact⟨⟨its2,rfl,g2,by rw[g3,e,aA c,zx]⟩,sm,_,_,rfl⟩
  ·intro p1 hp1;obtain⟨⟨its2,rfl,g2,g3⟩,sm,_⟩:=p;have hle:(its.map fun q=>V.ref q.1).length=(bV ts w n).length:=by rw[aJ,<-f3,aJ]
   rw[hle,qm]at g3;have g4:its2.map (fun q=>q.2)=lV ts w n:=g3;have hl2:its2.length=(lV ts w n).length:=by rw[<-g4,aJ]
   have h36:=wJ (ts:=ts) (w:=w) h10;have s6:=aM hp1 (.lst (its2.map fun q=>V.ref q.1));refine⟨p1,its2,rfl,SqL.of aB,fun p hp=>⟨(sm.trans s6).tup (g2 p hp),fun h2=> ?_⟩,by omega,fun l its' hl hpm hpw=> ?_⟩
   ·exact RD (ts:=ts) (w:=w) (n:=n) (by omega) p.2 (by rw[<-g4];exact jY.mpr ⟨p,hp,rfl⟩)
   ·have s7:=aM hl (.lst (its'.map fun q=>V.ref q.1));have s57:=s5.trans (sm.trans (s6.trans s7));refine q l (its'.map fun q=>q.2) _ s57 ⟨its',aB,fun p hp=>(sm.trans (s6.trans s7)).tup (g2 p (hpm.mem_iff.mp hp)),rfl⟩ ⟨?_,?_⟩ ((s5.trans (sm.trans s6)).free hl)
    ·rw[<-g4];exact hpm.map _
    ·rw[P0];exact hpw
noncomputable def rD(K:W.Frag):Sp:=fun vs H Q _=>∃(a:Addr) (n:Int) (ts:L0),vs=[.ref a]/\aO K H a n ts/\∀r ss H',Same H H'->uX K H' r ss->bQ ss ts false n.toNat->H r=none->Q (.ref r) H'
theorem xY{f f1 f2 f3:Addr}{fd d1 d2 d3:ρ}(F:Fun K "full_apart" "full_apart" jK f fd)(D1:bC K mg "need_web" T9 ["thing"] f1 d1)(G1:FnOk P w K mg base CX0 7 f1 d1 ["thing"] (fQ K))(D2:bC K mg "full_sets" lH ["friends"] f2 d2)(G2:FnOk P w K mg base CX0 2 f2 d2 ["friends"] (tU K))(D3:bC K mg "places_by_tie" fu ["web","place","tied"] f3 d3)(G3:FnOk P w K mg base CX0 2 f3 d3 ["web","place","tied"] (Gu K))(aK:mg "range"=none):
  FnOk P w K mg base CX0 8 f fd ["web"] (rD K):=by
 refine F.bZ ["web"] fun cdv A outer s H vs Q E hr h=> ?_;obtain⟨a,n,ts,rfl,hA,q⟩:=h;refine aW ?_;intro Y;refine⟨_,(aL (qj (pc G1 hr D1 (aj (pv 0) ak))) (aR (bB (pc G2 hr D2 (aj (pK ["place"] ["web"] [0] (Io rfl aK (aj (aQ bD (pv 0) ao) ak)) (pG 0) nP (pc G3 hr D3 (aj (pv 1) (aj (pv 0) (aj qZ ak))))) ak))))),?_⟩;refine lR ?_;intro c2;have h0:=hA.h0;have h10:=hA.h1;refine⟨_,rfl,_,_,rfl,hA.web.dv.dx,hA.ok,fun H1 s1=> ?_⟩;have hA1:=hA.same s1;obtain⟨ta,ra,a1,a2,a3⟩:=id hA1.web;refine⟨_,rfl,a,_,_,.int n,rfl,rfl,a1,rfl,n,rfl,by omega,by omega,?_⟩;let gF:Nat->List V->St->Hp->Prop:=fun k acc σ H'=>(∃fas:List Addr,acc=fas.map V.ref/\fas.length=k/\∀(i:Nat) f,fas[i]? =some f->H' f=some (.lst ((pW ts false n.toNat (i:Int)).map V.int)))/\Same H1 H'/\∃o,σ=[o,some (.ref a)];refine R6 (n:=n.toNat) gF ⟨⟨[],rfl,rfl,fun i f h=>by simp at h⟩,Same.refl _,_,rfl⟩ (fun k acc σ H' hk p=> ?_) (by rw[gR];omega) (fun k acc σ H' hk p=> ?_) (fun acc σ H' p=> ?_)
 ·obtain⟨⟨fas,rfl,hl,_⟩,_⟩:=p;rw[aJ];omega
 ·obtain⟨⟨fas,rfl,hl,hf⟩,sm,o,rfl⟩:=p;have ek:(0+(k:Int))=(k:Int):=by omega
  rw[ek];refine⟨_,rfl,_,rfl,a,n,_,ts,false,rfl,hA1.same sm,fun r H5 s5 h5 n5=>⟨⟨fas++[r],by rw[bL];rfl,by rw[ql,hl];rfl,fun i f hi=> ?_⟩,sm.trans s5,_,rfl⟩⟩;by_cases c:i<fas.length
  ·rw[yef c]at hi;exact s5 _ _ (hf i f hi)
  ·have hb:i<(fas++[r]).length:=(nF.mp hi).1;rw[ql]at hb;have e:i=fas.length:=by have:[r].length=1:=rfl;omega
   rw[e,ydh (aX _),Nat.sub_self]at hi;cases hi;rw[e,hl];exact h5
 ·intro p1 hp1;obtain⟨⟨fas,rfl,hl,hf⟩,sm,_⟩:=p;have s6:=aM hp1 (.lst (fas.map V.ref));exact⟨p1,fas,ts,false,n.toNat,rfl,aB,hl,by omega,fun i f hi=>s6 _ _ (hf i f hi),fun r ss H7 s7 h7 h8 n7=>q r ss H7 (s1.trans (sm.trans (s6.trans s7))) h7 h8 ((s1.trans (sm.trans s6)).free n7)⟩
end
end Hs
namespace L2
open PySem PySem.Spec PyProof.Rows
theorem Ow{n:Nat}(h:n<=10^200):n<2^700:=Ir h (by decide+kernel)
section
variable{X:Cx}
theorem pH:OpR X (binaryOp .FloorDiv) (rI (fun _ j=>0<j/\j.natAbs<=10^200) fun i j=> .int (i/j)):=opI fun i j _ _ _ _ _ hc q=>by
 have h1:(0:Int)<j:=hc.1;refine floordiv_int (by omega) ?_ (Or.inl (wdu ?_))
 ·rw[wdf _ (by omega)];exact q
 ·have h3:j.natAbs≠0:=by omega
  have h4:=(Nat.log2_lt h3).mpr (Ow hc.2);omega
end
end L2
namespace Hs
open PySem L2 oJ
theorem Av(m n:Nat):Nat.gcd n (m %n)=Nat.gcd m n:=by
 rw[Nat.gcd_comm m n,Nat.gcd_rec n m,Nat.gcd_comm]
structure Low(a:Int)(b:Nat)(u:Int)(v:Nat):Prop where
 pos:0<v
 cop:Nat.gcd u.natAbs v=1
 eq:u*(b:Int)=a*(v:Int)
 lu:u.natAbs<=a.natAbs
 lv:v<=b
 nn:0<=a->0<=u
theorem yj(a:Int)(b:Nat)(hb:0<b):Low a b (a/((Nat.gcd a.natAbs b:Nat):Int)) (b/Nat.gcd a.natAbs b):=by
 have hg:0<Nat.gcd a.natAbs b:=wbo _ hb;obtain⟨x,hx⟩:((Nat.gcd a.natAbs b:Nat):Int)∣a:=Int.natAbs_dvd_natAbs.mp (by rw[Xi];exact Nat.gcd_dvd_left _ _);obtain⟨y,hy⟩:=Yd a.natAbs b;generalize hgg:Nat.gcd a.natAbs b=g at *;have e1:a/(g:Int)=x:=by rw[hx];exact wbn _ (by omega)
 have e2:b/g=y:=by rw[hy];exact Pr _ hg
 rw[e1,e2];have hna:a.natAbs=g*x.natAbs:=by rw[hx,Yc];rfl
 have hy0:0<y:=by
  rcases Uj y with h|h
  ·subst h;simp at hy;omega
  ·exact h
 refine⟨hy0,?_,?_,?_,?_,fun h=> ?_⟩
 ·have h2:Nat.gcd (g*x.natAbs) (g*y)=g:=by rw[<-hna,<-hy];exact hgg
  rw[Nat.gcd_mul_left]at h2;have h3:g*Nat.gcd x.natAbs y=g*1:=by omega
  exact wdp hg h3
 ·rw[hx];have:(b:Int)=(g:Int)*(y:Int):=by rw[hy];exact Ug _ _
  rw[this,Ck (g:Int) x,Sg]
 ·rw[hna];exact wen _ hg
 ·rw[hy];exact wen _ hg
 ·rw[<-e1];exact wer h (by omega)
theorem abs_eq(i:Int):(if i<0 then -i else i)=((i.natAbs:Nat):Int):=by split<;>omega
theorem Nx(a:Int)(b:Nat)(hb:0<b):Nat.gcd a.natAbs b<=b:=PN hb (Yd _ _)
section
variable{P:ξ}{w:τ}{K:W.Frag}{mg:L5}{base:Heap}
noncomputable def U0(K:W.Frag):Sp:=fun vs H Q _=>∃(m n:Nat),vs=[.int m,.int n]/\Q (.int ((Nat.gcd m n:Nat):Int)) H
theorem Y9{f:Addr}{fd:ρ}(F:Fun K "greatest_divisor" "greatest_divisor" zbs f fd):FnOk P w K mg base CX0 1 f fd ["one","other"] (U0 K):=by
 refine F.bZ ["one","other","rest"] fun cdv A outer s H vs Q E hr h=> ?_;obtain⟨m,n,rfl,q⟩:=h;refine aW ?_;intro Y;refine⟨_,aL (ps_while wZ (pt_truth (pv 1) (fun _=>rfl)) (aL (pS 2 (bA op_mod (pv 0) (pv 1))) (aL (pS 0 (pv 1)) (aR (pS 1 (pv 2)))))) (aR (bB (pv 0))),?_⟩;refine lR ?_;intro c2;refine⟨fun k σ H'=>H'=H/\∃(m':Nat) (r:Option V),σ=[some (.int (m':Int)),some (.int (k:Int)),r]/\Nat.gcd m' k=Nat.gcd m n,⟨n,rfl,m,_,rfl,rfl⟩,?_⟩;rintro k σ H' ⟨rfl,m',r,rfl,hg⟩;refine⟨_,rfl,_,rfl,?_⟩;refine ite2 (fun c=> ?_) (fun c=> ?_)
 ·have hk:0<k:=by
   rcases Uj k with h|h
   ·subst h;exact absurd c (by decide)
   ·exact h
  refine⟨fun σ' H2=>H2=H'/\∃r',σ'=[some (.int (k:Int)),some (.int ((m' %k:Nat):Int)),r'],fun σ' H2 ⟨e1,r',e2⟩=>⟨m' %k,Nat.mod_lt _ hk,e1,k,r',e2,?_⟩,?_⟩
  ·rw[Av];exact hg
  ·exact⟨_,rfl,_,rfl,_,_,rfl,rfl,Uc.mpr hk,_,rfl,_,rfl,rfl,_,rfl⟩
 ·have hk:k=0:=by
   rcases Uj k with h|h
   ·exact h
   ·exfalso;apply c;show((k:Int) !=0)=true;simp;omega
  subst hk;rw[Nat.gcd_zero_right]at hg;refine⟨_,rfl,?_⟩;rw[hg];exact q
noncomputable def zJ(K:W.Frag):Sp:=fun vs H Q _=>∃(a:Int) (b:Nat),vs=[.int a,.int b]/\0<b/\b<=10^200/\∀p H' u v,Same H H'->H' p=some (.tup [.int u,.int ((v:Nat):Int)])->Low a b u v->Q (.ref p) H'
theorem Hq{H:Hp}{a:Int}{b:Nat}{p:Addr}(hp:H p=none):(upd H p (.tup [.int (a/((Nat.gcd a.natAbs b:Nat):Int)),.int ((b:Int)/((Nat.gcd a.natAbs b:Nat):Int))])) p=some (.tup [.int (a/((Nat.gcd a.natAbs b:Nat):Int)),.int (((b/Nat.gcd a.natAbs b:Nat)):Int)]):=by
 rw[aB,wek]
theorem Vr{f f1:Addr}{fd d1:ρ}(F:Fun K "lowest" "lowest" jc f fd)(D1:bC K mg "greatest_divisor" zbs ["one","other"] f1 d1)(G1:FnOk P w K mg base CX0 1 f1 d1 ["one","other"] (U0 K))(mA:mg "abs"=none):
  FnOk P w K mg base CX0 2 f fd ["a","b"] (zJ K):=by
 refine F.bZ ["a","b","by"] fun cdv A outer s H vs Q E hr h=> ?_;obtain⟨a,b,rfl,hb,hB,q⟩:=h;refine aW ?_;intro Y;refine⟨_,aL (pS 2 (pc G1 hr D1 (aj (pB call_abs mA (aj (pv 0) ak)) (aj (pv 1) ak)))) (aR (bB (dW (aj (bA pH (pv 0) (pv 2)) (aj (bA pH (pv 1) (pv 2)) ak))))),?_⟩;refine lR ?_;intro c2;refine⟨_,rfl,a,rfl,_,rfl,a.natAbs,b,?_,?_⟩
 ·rw[abs_eq];rfl
 have hg:0<Nat.gcd a.natAbs b:=wbo _ hb;have hg2:(((Nat.gcd a.natAbs b:Nat):Int)).natAbs<=10^200:=cT (Nx a b hb) hB;refine⟨_,rfl,_,rfl,_,_,rfl,rfl,⟨Uc.mpr hg,hg2⟩,_,rfl,_,rfl,_,_,rfl,rfl,⟨Uc.mpr hg,hg2⟩,(by show 2<=sizeLine;decide),fun p hp=> ?_⟩;exact q p _ _ _ (aM hp _) (Hq hp) (yj a b hb)
noncomputable def aZ(n:Nat)(X:Nat->Int):List V:=((List.range (n+1)).map X).map V.int
noncomputable def cg(n:Nat)(c:Nat->Nat):List Int:=(List.range n).map fun k=>((c k:Nat):Int)
noncomputable def flds(cl co ro:Addr)(o:Int):List (Str×V):=[("cells",.ref cl),("over",.int o),("columns",.ref co),("rows",.ref ro)]
structure cI(K:W.Frag)(C:Addr)(H0 H:Hp)(o dx cl co ro:Addr)(rws:List Addr)(n m:Nat)(T:Sx.Tab):Prop where
 same:Same H0 H
 o0:H0 o=none
 WR:H0 cl=none
 T5:H0 co=none
 Tr:H0 ro=none
 ne:co≠ro
 nc:co∉rws
 nr:ro∉rws
 at_:H o=some (.ins C dx (flds cl co ro T.over))
 cells:H cl=some (.lst (rws.map V.ref))
 len:rws.length=m+1
 row:∀r a,rws[r]? =some a->H a=some (.lst (aZ n (T.cell r)))
 cols:H co=some (.lst ((cg n T.col).map V.int))
 rows:H ro=some (.lst ((cg m T.row).map V.int))
noncomputable def lX(K:W.Frag)(C:Addr)(H0 H:Hp)(o:Addr)(n m:Nat)(T:Sx.Tab):Prop:=∃dx cl co ro rws,cI K C H0 H o dx cl co ro rws n m T
theorem cI.sm{C:Addr}{H0 H H':Hp}{o dx cl co ro:Addr}{rws:List Addr}{n m:Nat}{T:Sx.Tab}(h:cI K C H0 H o dx cl co ro rws n m T)(s:Same H H'):cI K C H0 H' o dx cl co ro rws n m T:=
 ⟨h.same.trans s,h.o0,h.WR,h.T5,h.Tr,h.ne,h.nc,h.nr,s _ _ h.at_,s _ _ h.cells,h.len,fun r a e=>s _ _ (h.row r a e),s _ _ h.cols,s _ _ h.rows⟩
theorem lX.sm{C:Addr}{H0 H H':Hp}{o:Addr}{n m:Nat}{T:Sx.Tab}(h:lX K C H0 H o n m T)(s:Same H H'):lX K C H0 H' o n m T:=by
 obtain⟨dx,cl,co,ro,rws,h⟩:=h;exact⟨dx,cl,co,ro,rws,h.sm s⟩
structure TG(n m:Nat)(S:Nat->Nat->Bool)(wt:Nat->Int)(T:Sx.Tab):Prop where
 good:Sx.Good n m S wt T
 n10:n<=10
 Zk:m<=40
 wb:∀p,p<n->0<=wt p/\wt p<=99
 cov:∀p,p<n->∃k,k<m/\S k p=true
theorem TG.cell{n m:Nat}{S:Nat->Nat->Bool}{wt:Nat->Int}{T:Sx.Tab}(h:TG n m S wt T){r c:Nat}(hr:r<=m)(hc:c<=n): -4000000000<=T.cell r c/\T.cell r c<=4000000000:=by
 have a:=h.good.Ov h.wb hr hc;have b:=Sx.Oh (k:=n+1) (by have:=h.n10;omega);omega
theorem TG.over{n m:Nat}{S:Nat->Nat->Bool}{wt:Nat->Int}{T:Sx.Tab}(h:TG n m S wt T):0<T.over/\T.over<=39916800:=by
 have a:=h.good.Qy;have b:=Sx.Oh (k:=n+1) (by have:=h.n10;omega);exact⟨h.good.pos,by omega⟩
theorem Il(n:Nat)(X:Nat->Int):(aZ n X).length=n+1:=by unfold aZ;rw[aJ,aJ,vo]
theorem pC{n c:Nat}(X:Nat->Int)(h:c<=n):(aZ n X)[c]? =some (.int (X c)):=by
 unfold aZ;rw[dJ,dJ,Sw (by omega)];rfl
theorem eN{n c:Nat}(X:Nat->Int)(h:c<=n):atI (aZ n X) (c:Int)=some (.int (X c)):=atI_nat (pC X h)
theorem atI_last{xs:List V}{v:V}(h:xs[xs.length-1]? =some v)(h0:0<xs.length):atI xs (-1)=some v:=by
 have e:ixN xs.length (-1)=some (xs.length-1):=by
  unfold ixN;rw[aA (by decide),aF (by omega)];congr 1;omega
 unfold atI;rw[e];exact h
theorem qw(n:Nat)(X:Nat->Int):atI (aZ n X) (-1)=some (.int (X n)):=atI_last (by rw[Il];exact pC X (aX n)) (by rw[Il];omega)
theorem Im(n:Nat)(c:Nat->Nat):(cg n c).length=n:=by unfold cg;rw[aJ,vo]
theorem FN{n k:Nat}(c:Nat->Nat)(h:k<n):(cg n c)[k]? =some ((c k:Nat):Int):=by
 unfold cg;rw[dJ,Sw h];rfl
theorem pI{n k:Nat}(c:Nat->Nat)(h:k<n):atI ((cg n c).map V.int) (k:Int)=some (.int ((c k:Nat):Int)):=atI_nat (by rw[dJ,FN c h];rfl)
theorem wC{n k:Nat}(c:Nat->Nat)(v:Nat)(h:k<n):(cg n c).set k (v:Int)=cg n (fun i=>if i=k then v else c i):=by
 refine wcd fun i=> ?_;rw[wdv];by_cases hi:i<n
 ·rw[FN _ hi,FN _ hi,Im];by_cases e:k=i
  ·rw[aF e,aF h,aF e.symm]
  ·rw[aA e,aA (way e)]
 ·rw[Xj (by rw[Im];omega),Xj (by rw[Im];omega),aA (by omega)]
theorem cI.Ja{C:Addr}{H0 H:Hp}{o dx cl co ro:Addr}{rws:List Addr}{n m:Nat}{T:Sx.Tab}(h:cI K C H0 H o dx cl co ro rws n m T){r:Nat}(hr:r<=m):∃a,rws[r]? =some a/\atI (rws.map V.ref) (r:Int)=some (.ref a)/\H a=some (.lst (aZ n (T.cell r))):=by
 have hl:=h.len;have e:rws[r]? =some rws[r]:=dF (by omega);exact⟨rws[r],e,atI_nat (by rw[dJ,e];rfl),h.row r _ e⟩
theorem cI.YX{C:Addr}{H0 H:Hp}{o dx cl co ro:Addr}{rws:List Addr}{n m:Nat}{T:Sx.Tab}(h:cI K C H0 H o dx cl co ro rws n m T):∃a,rws[m]? =some a/\atI (rws.map V.ref) (-1)=some (.ref a)/\H a=some (.lst (aZ n (T.cell m))):=by
 obtain⟨a,e,_,f⟩:=h.Ja (aX m);exact⟨a,e,atI_last (by rw[aJ,h.len,dJ,Nat.add_sub_cancel,e];rfl) (by rw[aJ,h.len];omega),f⟩
noncomputable def Kw(K:W.Frag)(C:Addr):Sp:=fun vs H Q _=>∃(o:Addr) (H0:Hp) (n m:Nat) (S:Nat->Nat->Bool) (wt:Nat->Int) (T:Sx.Tab),vs=[.ref o]/\lX K C H0 H o n m T/\TG n m S wt T/\
 ((∀c,c<n->0<=T.cell m c)->∀H',Same H H'->Q .non H')/\∀(q:Nat) H',q<n->T.cell m q<0->(∀c,c<n->T.cell m c<0->T.col q<=T.col c)->Same H H'->Q (.int (q:Int)) H'
theorem Vm{f C:Addr}{fd:ρ}(F:Fun K "next_column" "Tableau.next_column" zbx f fd)
  (Cc:Cls K C)(bf:NoAttr K C "cells")(dw:NoAttr K C "over")(aY:NoAttr K C "columns")(cG:NoAttr K C "rows")(bO:mg "enumerate"=none)(pJ:mg "min"=none):
  FnOk P w K mg base CX0 1 f fd ["self"] (Kw K C):=by
 refine F.bZ ["self","worth","names"] fun cdv A outer s H vs Q E hr h=> ?_;obtain⟨o,H0,n,m,S,wt,T,rfl,⟨dx,cl,co,ro,rws,hT⟩,hG,q1,q2⟩:=h;refine aW ?_;intro Y;refine⟨_,(aL (pS 1 (aQ kJ (gP (pv 0) rfl) (pe_un un_neg ao))) (aL (pX 2 ["k","name"] ["worth"] [1] (pF rfl bO (aj (gP (pv 0) rfl) ak)) (JN K (n:=2) rfl (mH (pG 0) (mH (pG 1) zq))) (BX (cR op_lt (aQ (gA K) (pv 2) (pv 0)) ao)) (pv 1)) (aR (bB (pe_ifExp (pt_truth (pv 2) (fun _=>rfl)) (pe_bm Qg wbv wbw qG (gP (pv 0) rfl) (aj (pB (JC rfl) pJ (aj (pv 2) ak)) ak)) pe_non))))),?_⟩;refine gC ?_;intro c3 c2;obtain⟨za,ze,zi,zr⟩:=hT.YX;refine⟨_,rfl,o,C,dx,_,_,rfl,hT.at_,Cc,bf,rfl,_,rfl,cl,_,_,_,rfl,rfl,SqL.of hT.cells,zi,?_⟩;refine⟨_,rfl,o,C,dx,_,_,rfl,hT.at_,Cc,aY,rfl,false,co,_,rfl,SqL.of hT.cols,fun hz=> ?_⟩;let gF:Nat->List V->St->Hp->Prop:=fun i acc σ H'=>acc=(((List.range i).filter fun c=>decide (T.cell m c<0)).map fun c=>((T.col c:Nat):Int)).map V.int/\Same H H'/\∃o1 o2,σ=[o1,o2,some (.ref za)];refine mW (K:=K) (b:=false) (a:=co) (xs:=(cg n T.col).map V.int) gF ⟨rfl,Same.refl _,_,_,rfl⟩ (fun i acc σ H' _ p=>p.2.1.seq (SqL.of hT.cols)) (fun i acc σ H' _ p=> ?_) hz (fun i v t acc σ H' hv p ht=> ?_) (fun acc σ H' p=> ?_)
 ·rw[p.1,aJ,aJ];exact cT (vC _ _) (by rw[vo];exact aX _)
 ·obtain⟨rfl,sm,o1,o2,rfl⟩:=p;have hi:i<n:=by
   have:=(nF.mp hv).1;rw[aJ,Im]at this;exact this
  rw[dJ,FN _ hi]at hv;cases hv;have s1:=aM ht (.tup [.int (i:Int),.int ((T.col i:Nat):Int)]);refine⟨t,_,rfl,SqT.of aB,rfl,_,_,rfl,_,_,rfl,rfl,?_⟩;refine⟨_,rfl,_,rfl,za,_,_,_,rfl,rfl,SqL.of ((sm.trans s1) _ _ zr),eN _ (dH hi),_,_,rfl,rfl,_,rfl,?_⟩;have go:((List.range (i+1)).filter fun c=>decide (T.cell m c<0))=((List.range i).filter fun c=>decide (T.cell m c<0))++(if decide (T.cell m i<0)=true then[i]else[]):=by
   rw[yZ,Cq];congr 1;rw[Cp];split<;>rfl
  refine ite2 (fun c=> ?_) (fun c=> ?_)
  ·exact⟨_,rfl,by rw[go,aF c,bL,bL];rfl,sm.trans s1,_,_,rfl⟩
  ·exact⟨by rw[go,aA c,zx],sm.trans s1,_,_,rfl⟩
 ·intro p1 hp1;obtain⟨rfl,sm,_⟩:=p;rw[aJ,Im];have s1:=aM hp1 (.lst ((((List.range n).filter fun c=>decide (T.cell m c<0)).map fun c=>((T.col c:Nat):Int)).map V.int));have e1:(upd H' p1 (.lst ((((List.range n).filter fun c=>decide (T.cell m c<0)).map fun c=>((T.col c:Nat):Int)).map V.int))) p1=some (.lst ((((List.range n).filter fun c=>decide (T.cell m c<0)).map fun c=>((T.col c:Nat):Int)).map V.int)):=aB;have s2:=sm.trans s1;generalize (upd H' p1 (.lst ((((List.range n).filter fun c=>decide (T.cell m c<0)).map fun c=>((T.col c:Nat):Int)).map V.int)))=H1 at *;have hT1:=hT.sm s2;refine⟨_,rfl,_,.inl ⟨_,SqL.of e1,rfl⟩,?_⟩;cases hl:(List.range n).filter fun c=>decide (T.cell m c<0)with
  |nil=>
   refine iteF ?_;refine q1 (fun c hc=>Int.not_lt.mp fun hn=> ?_) _ s2;have:c∈(List.range n).filter fun c=>decide (T.cell m c<0):=fL.mpr ⟨jZ.mpr hc,cL hn⟩;rw[hl]at this;cases this
  |cons c0 rest=>
   rw[hl]at e1;refine iteT ?_;refine⟨_,rfl,o,C,dx,_,_,rfl,hT1.at_,Cc,aY,rfl,.inl ⟨rfl,_,SqL.of hT1.cols⟩,_,rfl,p1,_,rfl,SqL.of e1,(fun e=>nomatch e),fun mn hmn hle=> ?_⟩;rw[<-hl]at hmn hle;obtain⟨c,hc,rfl⟩:=jY.mp hmn;obtain⟨hc1,hc2⟩:=fL.mp hc;have hcn:=jZ.mp hc1;refine⟨co,cg n T.col,_,c,rfl,rfl,hT1.cols,FN _ hcn,fun i hi e=> ?_,by rw[Im];have:=hG.n10;omega,?_⟩
   ·rw[FN _ (by omega)]at e;have:T.col i=T.col c:=Yv (sU e);have:=hG.good.Em i c (by omega) hcn this;omega
   ·refine q2 c _ hcn (fX hc2) (fun c' hc' hn=> ?_) s2;have:=hle _ (jY.mpr ⟨c',fL.mpr ⟨jZ.mpr hc',cL hn⟩,rfl⟩);omega
noncomputable def Xx(n q:Nat)(T:Sx.Tab)(r t:Nat):Bool:=decide (T.cell r n*T.cell t q<T.cell t n*T.cell r q)||(decide (T.cell r n*T.cell t q=T.cell t n*T.cell r q)&&decide (T.row r<T.row t))
noncomputable def Te(K:W.Frag)(C:Addr):Sp:=fun vs H Q _=>∃(o:Addr) (H0:Hp) (n m q r t:Nat) (S:Nat->Nat->Bool) (wt:Nat->Int) (T:Sx.Tab),vs=[.ref o,.int (q:Int),.int (r:Int),.int (t:Int)]/\lX K C H0 H o n m T/\TG n m S wt T/\q<n/\r<m/\t<m/\Q (.bl (Xx n q T r t)) H
theorem Vg{f C:Addr}{fd:ρ}(F:Fun K "is_tighter" "Tableau.is_tighter" zce f fd)
  (Cc:Cls K C)(bf:NoAttr K C "cells")(dw:NoAttr K C "over")(aY:NoAttr K C "columns")(cG:NoAttr K C "rows"):
  FnOk P w K mg base CX0 1 f fd ["self","column","row","other"] (Te K C):=by
 refine F.bZ ["self","column","row","other","one","two"] fun cdv A outer s H vs Q E hr h=> ?_;obtain⟨o,H0,n,m,q,r,t,S,wt,T,rfl,⟨dx,cl,co,ro,rws,hT⟩,hG,hq,hr0,ht,qq⟩:=h;refine aW ?_;intro Y;refine⟨_,(aL (pS 4 (bA sE (aQ kJ (aQ kJ (gP (pv 0) rfl) (pv 2)) (pe_un un_neg ao)) (aQ kJ (aQ kJ (gP (pv 0) rfl) (pv 3)) (pv 1)))) (aL (pS 5 (bA sE (aQ kJ (aQ kJ (gP (pv 0) rfl) (pv 3)) (pe_un un_neg ao)) (aQ kJ (aQ kJ (gP (pv 0) rfl) (pv 2)) (pv 1)))) (aR (bB (pe_or (wQ op_lt (pv 4) (pv 5)) (pe_one (zp (wQ op_eq (pv 4) (pv 5)) (pe_one (wQ op_lt (aQ kJ (gP (pv 0) rfl) (pv 2)) (aQ kJ (gP (pv 0) rfl) (pv 3))))))))))),?_⟩;refine gC ?_;intro c3 c2;obtain⟨ra,re,ri,rr⟩:=hT.Ja (dH hr0);obtain⟨ta,te,ti,tr⟩:=hT.Ja (dH ht);have b1:=hG.cell (dH hr0) (aX n);have b2:=hG.cell (dH ht) (aX n);refine⟨_,rfl,o,C,dx,_,_,rfl,hT.at_,Cc,bf,rfl,_,rfl,cl,_,_,_,rfl,rfl,SqL.of hT.cells,ri,_,rfl,ra,_,_,_,rfl,rfl,SqL.of rr,qw _ _,?_⟩;refine⟨_,rfl,o,C,dx,_,_,rfl,hT.at_,Cc,bf,rfl,_,rfl,cl,_,_,_,rfl,rfl,SqL.of hT.cells,ti,_,rfl,ta,_,_,_,rfl,rfl,SqL.of tr,eN _ (dH hq),_,_,rfl,rfl,.inl ⟨by omega,by omega⟩,?_⟩;refine⟨_,rfl,o,C,dx,_,_,rfl,hT.at_,Cc,bf,rfl,_,rfl,cl,_,_,_,rfl,rfl,SqL.of hT.cells,ti,_,rfl,ta,_,_,_,rfl,rfl,SqL.of tr,qw _ _,?_⟩;refine⟨_,rfl,o,C,dx,_,_,rfl,hT.at_,Cc,bf,rfl,_,rfl,cl,_,_,_,rfl,rfl,SqL.of hT.cells,ri,_,rfl,ra,_,_,_,rfl,rfl,SqL.of rr,eN _ (dH hq),_,_,rfl,rfl,.inl ⟨by omega,by omega⟩,?_⟩;refine⟨_,rfl,_,rfl,_,_,rfl,rfl,_,rfl,?_⟩;unfold Xx at qq;refine ite2 (fun c=> ?_) (fun c=> ?_)
 ·rw[c,Bool.true_or]at qq;exact qq
 ·rw[eq_false_of_ne_true c,wfd]at qq;refine⟨_,rfl,_,rfl,rfl,_,rfl,?_⟩;refine ite2 (fun c2=> ?_) (fun c2=> ?_)
  ·have c2':decide (T.cell r n*T.cell t q=T.cell t n*T.cell r q)=true:=cL (V.int.inj (fX c2));rw[c2',wfe]at qq;refine⟨_,rfl,o,C,dx,_,_,rfl,hT.at_,Cc,cG,rfl,_,rfl,ro,_,_,_,rfl,rfl,SqL.of hT.rows,pI _ hr0,?_⟩;refine⟨_,rfl,o,C,dx,_,_,rfl,hT.at_,Cc,cG,rfl,_,rfl,ro,_,_,_,rfl,rfl,SqL.of hT.rows,pI _ ht,_,_,rfl,rfl,?_⟩;rw[<-show decide (((T.row r:Nat):Int)<((T.row t:Nat):Int))=decide (T.row r<T.row t)from decide_eq_decide.mpr Uc]at qq;exact qq
  ·have c2':decide (T.cell r n*T.cell t q=T.cell t n*T.cell r q)=false:=fO fun e=>c2 (cL (lq V.int e));rw[c2',Bool.false_and]at qq;exact qq
noncomputable def T7(n q:Nat)(T:Sx.Tab)(p r:Nat):Prop:=T.cell p n*T.cell r q<T.cell r n*T.cell p q\/(T.cell p n*T.cell r q=T.cell r n*T.cell p q/\T.row p<=T.row r)
theorem Jq{n q:Nat}{T:Sx.Tab}{a b c:Nat}(ha:0<T.cell a q)(hb:0<T.cell b q)(hc:0<T.cell c q)(h1:T7 n q T a b)(h2:T7 n q T b c):T7 n q T a c:=by
 have cm:∀x y:Nat,T.cell x n*T.cell y q=T.cell y q*T.cell x n:=fun x y=>Ck _ _;have cn:∀x y:Nat,T.cell y n*T.cell x q=T.cell x q*T.cell y n:=fun x y=>Ck _ _;unfold T7 at *;rw[cm a b,cn a b]at h1;rw[cm b c,cn b c]at h2;rw[cm a c,cn a c];rcases h1 with h1|⟨h1,l1⟩
 ·rcases h2 with h2|⟨h2,_⟩
  ·exact .inl (Sx.yt hb ha hc (J3 h1) h2)
  ·exact .inl (Sx.Bb hb ha hc h1 (Yp h2))
 ·rcases h2 with h2|⟨h2,l2⟩
  ·exact .inl (Sx.yt hb ha hc (Yp h1) h2)
  ·exact .inr ⟨wes (Sx.yu hb ha hc (Yp h1) (Yp h2)) (Sx.yu hb hc ha (by rw[<-h2];exact tH _) (by rw[<-h1];exact tH _)),cT l1 l2⟩
theorem Uy{n q:Nat}{T:Sx.Tab}{r t:Nat}(h:Xx n q T r t=true):T7 n q T r t:=by
 unfold Xx at h;rw[weq,kO]at h;rcases h with h|⟨h1,h2⟩
 ·exact .inl (fX h)
 ·exact .inr ⟨fX h1,dH (fX h2)⟩
theorem YF{n q:Nat}{T:Sx.Tab}{r t:Nat}(h:Xx n q T r t=false):T7 n q T t r:=by
 unfold Xx at h;rw[Bool.or_eq_false_iff,Bool.and_eq_false_iff]at h;have h1:=JV h.1;by_cases c:T.cell r n*T.cell t q=T.cell t n*T.cell r q
 ·refine .inr ⟨c.symm,?_⟩;rcases h.2 with z|z
  ·exact absurd c (JV z)
  ·exact Nat.not_lt.mp (JV z)
 ·exact .inl (by omega)
noncomputable def Tg(K:W.Frag)(C:Addr):Sp:=fun vs H Q _=>∃(o:Addr) (H0:Hp) (n m q:Nat) (S:Nat->Nat->Bool) (wt:Nat->Int) (T:Sx.Tab),vs=[.ref o,.int (q:Int)]/\lX K C H0 H o n m T/\TG n m S wt T/\q<n/\
 ∀p:Nat,p<m->0<T.cell p q->(∀r,r<m->0<T.cell r q->T7 n q T p r)->Q (.int (p:Int)) H
theorem Vl{f f1 C:Addr}{fd d1:ρ}(F:Fun K "next_row" "Tableau.next_row" zcv f fd)
  (Cc:Cls K C)(bf:NoAttr K C "cells")(dw:NoAttr K C "over")(aY:NoAttr K C "columns")(cG:NoAttr K C "rows")(D1:oH K C "is_tighter" "Tableau.is_tighter" zce ["self","column","row","other"] f1 d1)(G1:FnOk P w K mg base CX0 1 f1 d1 ["self","column","row","other"] (Te K C))(aK:mg "range"=none)(bN:mg "len"=none):
  FnOk P w K mg base CX0 2 f fd ["self","column"] (Tg K C):=by
 refine F.bZ ["self","column","tightest","row"] fun cdv A outer s H vs Q E hr h=> ?_;obtain⟨o,H0,n,m,q,S,wt,T,rfl,⟨dx,cl,co,ro,rws,hT⟩,hG,hq,qq⟩:=h;refine⟨_,(aL (pS 2 pe_non) (aL (ps_for wZ rfl (Io rfl aK (aj (pB vm bN (aj (gP (pv 0) rfl) ak)) ak)) (pG 3) (aR (dZ (PW.pt (pw_and (cR op_gt (aQ kJ (aQ kJ (gP (pv 0) rfl) (pv 3)) (pv 1)) ao) (pw_and1 (PW.pt (qg (cR op_isN (pv 2) pe_non) (yV (iY (v7 (pv 0) Cc D1.m G1 hr D1.b .nil pass0 (aj (pv 1) (aj (pv 3) (aj (pv 2) ak))))))))))) (aR (pS 2 (pv 3))) eG))) (aR (bB (pv 2))))),?_⟩;refine⟨_,rfl,o,C,dx,_,_,rfl,hT.at_,Cc,cG,rfl,ro,_,rfl,.inl (SqL.of hT.rows),fun _=> ?_⟩;rw[aJ,Im];refine⟨_,rfl,by have:=hG.Zk;omega,by have:=hG.Zk;omega,?_⟩;refine Ph (n:=m) (fun i σ H'=>H'=H/\∃(x:V) (o3:Option V),σ=[some (.ref o),some (.int (q:Int)),some x,o3]/\((x= .non/\∀r,r<i->T.cell r q<=0)\/∃p:Nat,p<i/\x= .int (p:Int)/\0<T.cell p q/\∀r,r<i->0<T.cell r q->T7 n q T p r)) ⟨rfl,_,_,rfl,.inl ⟨rfl,fun r hr=>absurd hr (Uh r)⟩⟩ (fun i σ H' hi p=> ?_) (fun σ H' p=> ?_)
 ·obtain⟨rfl,x,o3,rfl,hx⟩:=p;rw[Xf];obtain⟨ra,re,ri,rr⟩:=hT.Ja (dH hi);refine⟨_,rfl,o,C,dx,_,_,rfl,hT.at_,Cc,bf,rfl,_,rfl,cl,_,_,_,rfl,rfl,SqL.of hT.cells,ri,_,rfl,ra,_,_,_,rfl,rfl,SqL.of rr,eN _ (dH hq),_,_,rfl,rfl,_,rfl,?_⟩;refine ite2 (fun c=> ?_) (fun c=> ?_)
  ·have c':0<T.cell i q:=fX c;rcases hx with⟨rfl,hx⟩|⟨p,hp,rfl,hp0,hlev⟩
   ·refine⟨_,rfl,rfl,_,rfl,?_⟩;refine iteT ?_;refine iteT ?_;refine⟨_,rfl,rfl,_,_,rfl,.inr ⟨i,wW i,rfl,c',fun r hr h0=> ?_⟩⟩;by_cases e:r=i
    ·subst e;exact .inr ⟨rfl,aX _⟩
    ·have:=hx r (by omega);omega
   ·refine⟨_,rfl,rfl,_,rfl,?_⟩;refine iteF ?_;refine⟨_,rfl,o,dx,_,rfl,hT.at_,rfl,_,rfl,_,rfl,_,rfl,o,H0,n,m,q,i,p,S,wt,T,rfl,⟨dx,cl,co,ro,rws,hT⟩,hG,hq,hi,by omega,_,rfl,?_⟩;refine ite2 (fun z=> ?_) (fun z=> ?_)
    ·refine⟨_,rfl,rfl,_,_,rfl,.inr ⟨i,wW i,rfl,c',fun r hr h0=> ?_⟩⟩;by_cases e:r=i
     ·subst e;exact .inr ⟨rfl,aX _⟩
     ·exact Jq c' hp0 h0 (Uy z) (hlev r (by omega) h0)
    ·refine⟨rfl,_,_,rfl,.inr ⟨p,by omega,rfl,hp0,fun r hr h0=> ?_⟩⟩;by_cases e:r=i
     ·subst e;exact YF (eq_false_of_ne_true z)
     ·exact hlev r (by omega) h0
  ·refine iteF ?_;have c':T.cell i q<=0:=Int.not_lt.mp fun h=>c (cL h);refine⟨rfl,_,_,rfl,?_⟩;rcases hx with⟨rfl,hx⟩|⟨p,hp,rfl,hp0,hlev⟩
   ·refine .inl ⟨rfl,fun r hr=> ?_⟩;by_cases e:r=i
    ·subst e;exact c'
    ·exact hx r (by omega)
   ·refine .inr ⟨p,by omega,rfl,hp0,fun r hr h0=> ?_⟩;by_cases e:r=i
    ·subst e;omega
    ·exact hlev r (by omega) h0
 ·obtain⟨rfl,x,o3,rfl,hx⟩:=p;rcases hx with⟨rfl,hx⟩|⟨p,hp,rfl,hp0,hlev⟩
  ·obtain⟨r,hr0,h0⟩:=hG.good.bounded hG.cov hq;have:=hx r hr0;omega
  ·exact⟨_,rfl,qq p hp hp0 hlev⟩
noncomputable def tdF(ov:Int)(X Y:Nat->Int)(q c:Nat):Int:=if c=q then -X q else(X c*Y q-X q*Y c)/ov
theorem zV{n q:Nat}(X:Nat->Int)(v:Int)(h:q<=n):(aZ n X).set q (.int v)=aZ n fun c=>if c=q then v else X c:=by
 refine wcd fun i=> ?_;rw[wdv];by_cases hi:i<=n
 ·rw[pC _ hi,pC _ hi,Il];by_cases e:q=i
  ·rw[aF e,aF (by omega),aF e.symm]
  ·rw[aA e,aA (way e)]
 ·rw[Xj (by rw[Il];omega),Xj (by rw[Il];omega),aA (by omega)]
theorem oh{n:Nat}{X Y:Nat->Int}(h:∀c,c<=n->X c=Y c):aZ n X=aZ n Y:=by
 unfold aZ;rw[Uk fun c hc=>h c (by have:=jZ.mp hc;omega)]
noncomputable def Tf(K:W.Frag)(C:Addr):Sp:=fun vs H Q _=>∃(o xa ya:Addr) (H0:Hp) (n m q:Nat) (X Y:Nat->Int) (T:Sx.Tab),vs=[.ref o,.ref xa,.ref ya,.int (q:Int)]/\lX K C H0 H o n m T/\n<=10/\(0<T.over/\T.over<=39916800)/\q<=n/\H xa=some (.lst (aZ n X))/\H ya=some (.lst (aZ n Y))/\
 (∀c,c<=n->(-4000000000<=X c/\X c<=4000000000)/\(-4000000000<=Y c/\Y c<=4000000000))/\∀r H',Same H H'->H r=none->H' r=some (.lst (aZ n (tdF T.over X Y q)))->Q (.ref r) H'
theorem Vh{f C:Addr}{fd:ρ}(F:Fun K "turned" "Tableau.turned" zdi f fd)
  (Cc:Cls K C)(bf:NoAttr K C "cells")(dw:NoAttr K C "over")(aY:NoAttr K C "columns")(cG:NoAttr K C "rows")(bO:mg "enumerate"=none):
  FnOk P w K mg base CX0 1 f fd ["self","cells","pivots","column"] (Tf K C):=by
 refine F.bZ ["self","cells","pivots","column","by","fresh"] fun cdv A outer s H vs Q E hr h=> ?_;obtain⟨o,xa,ya,H0,n,m,q,X,Y,T,rfl,⟨dx,cl,co,ro,rws,hT⟩,hn,⟨Zt,ho1⟩,hq,hX,hY,hb,qq⟩:=h;refine⟨_,(aL (pS 4 (aQ kJ (pv 2) (pv 3))) (aL (pX 5 ["k","cell"] ["by","cells","column","pivots","self"] [4,1,3,2,0] (pF rfl bO (aj (pv 1) ak)) (JN K (n:=2) rfl (mH (pG 0) (mH (pG 1) zq))) nP (bA lK (bA op_sub (bA sE (pv 1) (pv 2)) (bA sE (aQ (gA K) (pv 3) (pv 4)) (aQ (gA K) (pv 5) (pv 0)))) (Qx K (pv 6) rfl))) (aL (ps_asg (pe_un un_neg (aQ kJ (pv 1) (pv 3))) (pg_sub (pv 5) (pv 3) set_list)) (aR (bB (pv 5)))))),?_⟩;refine⟨_,rfl,_,rfl,ya,_,_,_,rfl,rfl,SqL.of hY,eN _ hq,?_⟩;refine⟨_,rfl,false,xa,_,rfl,SqL.of hX,fun hz=> ?_⟩;refine mW (K:=K) (b:=false) (a:=xa) (xs:=aZ n X) (fun i acc σ H'=>acc=((List.range i).map fun c=>(X c*Y q-X q*Y c)/T.over).map V.int/\Same H H'/\∃o1 o2,σ=[o1,o2,some (.int (Y q)),some (.ref xa),some (.int (q:Int)),some (.ref ya),some (.ref o)]) ⟨rfl,Same.refl _,_,_,rfl⟩ (fun i acc σ H' _ p=>p.2.1.seq (SqL.of hX)) (fun i acc σ H' _ p=> ?_) hz (fun i v t acc σ H' hv p ht=> ?_) (fun acc σ H' p=> ?_)
 ·rw[p.1,aJ,aJ,vo];exact aX _
 ·obtain⟨rfl,sm,o1,o2,rfl⟩:=p;have hi:i<=n:=by
   have:=(nF.mp hv).1;rw[Il]at this;omega
  rw[pC _ hi]at hv;cases hv;have s1:=aM ht (.tup [.int (i:Int),.int (X i)]);have s2:=sm.trans s1;have bi:=(hb i hi).1;have bq:=(hb q hq).1;refine⟨t,_,rfl,SqT.of aB,rfl,_,_,rfl,_,_,rfl,rfl,?_⟩;refine⟨_,rfl,_,rfl,_,_,rfl,rfl,.inl ⟨by omega,by omega⟩,?_⟩;refine⟨_,rfl,_,rfl,xa,_,_,_,rfl,rfl,SqL.of (s2 _ _ hX),eN _ hq,_,rfl,_,rfl,ya,_,_,_,rfl,rfl,SqL.of (s2 _ _ hY),eN _ hi,_,_,rfl,rfl,.inl ⟨by omega,by omega⟩,_,_,rfl,rfl,?_⟩;refine⟨_,rfl,o,C,dx,_,_,rfl,s2 _ _ hT.at_,Cc,dw,rfl,_,_,rfl,rfl,⟨Zt,by omega⟩,?_⟩;exact⟨by rw[yZ,bL,bL];rfl,s2,_,_,rfl⟩
 ·intro p1 hp1;obtain⟨rfl,sm,_⟩:=p;rw[Il];have s1:=aM hp1 (.lst (aZ n fun c=>(X c*Y q-X q*Y c)/T.over));have s2:=sm.trans s1;have h0:H p1=none:=by
   cases e:H p1 with
   |none=>rfl
   |some u=>rw[sm _ _ e]at hp1;cases hp1
  refine⟨_,rfl,_,rfl,xa,_,_,_,rfl,rfl,SqL.of (s2 _ _ hX),eN _ hq,_,rfl,?_⟩;refine⟨_,rfl,_,rfl,p1,_,_,q,rfl,rfl,aB,?_,?_⟩
  ·have e:ixN (aZ n fun c=>(X c*Y q-X q*Y c)/T.over).length (q:Int)=some q:=by
    rw[Il];unfold ixN;rw[aF (by omega),aF (by omega)];rfl
   exact e
  ·refine⟨_,rfl,qq p1 _ (fun b u hb=> ?_) h0 ?_⟩
   ·have nb:b≠p1:=fun e=>by rw[e,h0]at hb;cases hb
    rw[cW nb];exact s2 _ _ hb
   ·rw[aB];have e:=zV (fun c=>(X c*Y q-X q*Y c)/T.over) (-X q) hq;exact lq (fun l=>some (HO.lst l)) e
theorem RP{xs:List V}{k:Nat}(hk:k<=xs.length):cutV xs none (some (k:Int))=xs.take k:=by
 unfold cutV;rw[HT.sIx_nat,HT.sIx_none,Nat.min_eq_left hk,List.drop_zero,Nat.sub_zero]
theorem Jz{xs:List V}{k:Nat}(hk:k<=xs.length):cutV xs (some (k:Int)) none=xs.drop k:=by
 unfold cutV;rw[HT.sIx_nat,HT.sIx_none,Nat.min_eq_left hk,Xk (by rw[List.length_drop];omega)]
theorem _root_.L2.Same.vI{H0 H:Hp}{a:Addr}{u:HO}(s:Same H0 H)(h:H0 a=none):Same H0 (upd H a u):=fun b o hb=>by
 have nb:b≠a:=fun e=>by rw[e,h]at hb;cases hb
 rw[cW nb];exact s _ _ hb
theorem _root_.L2.Same.none{H0 H:Hp}{a:Addr}(s:Same H0 H)(h:H a=none):H0 a=none:=by
 cases e:H0 a with
 |none=>rfl
 |some u=>rw[s _ _ e]at h;cases h
section
variable{C:Addr}{H0 H:Hp}{o dx cl co ro:Addr}{rws:List Addr}{n m:Nat}{T:Sx.Tab}
theorem cI.ocl(h:cI K C H0 H o dx cl co ro rws n m T):o≠cl:=ne_of h.at_ h.cells fun e=>nomatch e
theorem cI.oco(h:cI K C H0 H o dx cl co ro rws n m T):o≠co:=ne_of h.at_ h.cols fun e=>nomatch e
theorem cI.oro(h:cI K C H0 H o dx cl co ro rws n m T):o≠ro:=ne_of h.at_ h.rows fun e=>nomatch e
theorem mV{rws:List Addr}{xs:List Int}(h:0<rws.length)(e:rws.map V.ref=xs.map V.int):False:=by
 cases rws with
 |nil=>exact absurd h (wV 0)
 |cons a r=>
  cases xs with
  |nil=>cases e
  |cons x xs=>injection e with e1 _;cases e1
theorem cI.aak(h:cI K C H0 H o dx cl co ro rws n m T):cl≠co:=fun e=>by
 have z:=h.cols;rw[<-e,h.cells]at z;exact mV (by rw[h.len];omega) (HO.lst.inj (sU z))
theorem cI.aaj(h:cI K C H0 H o dx cl co ro rws n m T):cl≠ro:=fun e=>by
 have z:=h.rows;rw[<-e,h.cells]at z;exact mV (by rw[h.len];omega) (HO.lst.inj (sU z))
theorem cI.aai(h:cI K C H0 H o dx cl co ro rws n m T){r:Nat}{a:Addr}(e:rws[r]? =some a):a≠cl:=fun z=>by
 have y:=h.row r a e;rw[z,h.cells]at y;exact mV (by rw[h.len];omega) (HO.lst.inj (sU y))
theorem cI.orow(h:cI K C H0 H o dx cl co ro rws n m T){r:Nat}{a:Addr}(e:rws[r]? =some a):a≠o:=fun z=>by
 have y:=h.row r a e;rw[z,h.at_]at y;cases y
theorem cI.Lh(h:cI K C H0 H o dx cl co ro rws n m T){XR:Addr}{Dk:List Addr}{X:Nat->Nat->Int}(h0:H0 XR=none)(hc:H XR=some (.lst (Dk.map V.ref)))(hl:Dk.length=m+1)(hr:∀r a,Dk[r]? =some a->H a=some (.lst (aZ n (X r))))(n1:co∉Dk)(n2:ro∉Dk):
  cI K C H0 (upd H o (.ins C dx (putF "cells" (.ref XR) (flds cl co ro T.over)))) o dx XR co ro Dk n m {T with cell:=X}:=by
 have k:∀b,b≠o->∀u,H b=some u->(upd H o (.ins C dx (putF "cells" (.ref XR) (flds cl co ro T.over)))) b=some u:=fun b hb u e=>by rw[cW hb];exact e
 refine⟨h.same.vI h.o0,h.o0,h0,h.T5,h.Tr,h.ne,n1,n2,aB,k _ (fun e=> ?_) _ hc,hl,fun r a e=>k _ (fun z=> ?_) _ (hr r a e),k _ h.oco.symm _ h.cols,k _ h.oro.symm _ h.rows⟩
 ·rw[e,h.at_]at hc;cases hc
 ·have y:=hr r a e;rw[z,h.at_]at y;cases y
theorem cI.U5(h:cI K C H0 H o dx cl co ro rws n m T){p:Nat}{a:Addr}{X:Nat->Int}(hp:p<=m)(ha:H a=some (.lst (aZ n X)))(n1:co≠a)(n2:ro≠a):
  cI K C H0 (upd H cl (.lst ((rws.map V.ref).set p (.ref a)))) o dx cl co ro (rws.set p a) n m {T with cell:=fun r c=>if r=p then X c else T.cell r c}:=by
 have k:∀b,b≠cl->∀u,H b=some u->(upd H cl (.lst ((rws.map V.ref).set p (.ref a)))) b=some u:=fun b hb u e=>by rw[cW hb];exact e
 have hac:a≠cl:=fun z=>by
  rw[z,h.cells]at ha;exact mV (by rw[h.len];omega) (HO.lst.inj (sU ha))
 refine⟨h.same.vI h.WR,h.o0,h.WR,h.T5,h.Tr,h.ne,fun z=> ?_,fun z=> ?_,k _ h.ocl _ h.at_,by rw[aB,wfh],by rw[List.length_set];exact h.len,fun r b e=> ?_,k _ h.aak.symm _ h.cols,k _ h.aaj.symm _ h.rows⟩
 ·rcases wdq z with z|z
  ·exact h.nc z
  ·exact n1 z
 ·rcases wdq z with z|z
  ·exact h.nr z
  ·exact n2 z
 ·rw[wdv]at e;by_cases c:p=r
  ·rw[aF c,aF (by rw[h.len];omega)]at e;cases e;rw[k _ hac _ ha];exact lq (fun l=>some (HO.lst l)) (oh fun c' _=>by show X c'=if r=p then X c' else T.cell r c';rw[aF c.symm])
  ·rw[aA c]at e;rw[k _ (h.aai e) _ (h.row r b e)];exact lq (fun l=>some (HO.lst l)) (oh fun c' _=>by show T.cell r c'=if r=p then X c' else T.cell r c';rw[aA (way c)])
theorem cI.setOver(h:cI K C H0 H o dx cl co ro rws n m T)(v:Int):cI K C H0 (upd H o (.ins C dx (putF "over" (.int v) (flds cl co ro T.over)))) o dx cl co ro rws n m {T with over:=v}:=by
 have k:∀b,b≠o->∀u,H b=some u->(upd H o (.ins C dx (putF "over" (.int v) (flds cl co ro T.over)))) b=some u:=fun b hb u e=>by rw[cW hb];exact e
 exact⟨h.same.vI h.o0,h.o0,h.WR,h.T5,h.Tr,h.ne,h.nc,h.nr,aB,k _ h.ocl.symm _ h.cells,h.len,fun r a e=>k _ (h.orow e) _ (h.row r a e),k _ h.oco.symm _ h.cols,k _ h.oro.symm _ h.rows⟩
theorem cI.Qo(h:cI K C H0 H o dx cl co ro rws n m T){p:Nat}(v:Nat)(hp:p<m):cI K C H0 (upd H ro (.lst (((cg m T.row).map V.int).set p (.int (v:Int))))) o dx cl co ro rws n m {T with row:=fun r=>if r=p then v else T.row r}:=by
 have k:∀b,b≠ro->∀u,H b=some u->(upd H ro (.lst (((cg m T.row).map V.int).set p (.int (v:Int))))) b=some u:=fun b hb u e=>by rw[cW hb];exact e
 refine⟨h.same.vI h.Tr,h.o0,h.WR,h.T5,h.Tr,h.ne,h.nc,h.nr,k _ h.oro _ h.at_,k _ h.aaj _ h.cells,h.len,fun r a e=>k _ (fun z=>h.nr (z▸sO e)) _ (h.row r a e),k _ h.ne _ h.cols,?_⟩;rw[aB,<-wfh,wC _ _ hp]
theorem cI.Qp(h:cI K C H0 H o dx cl co ro rws n m T){q:Nat}(v:Nat)(hq:q<n):cI K C H0 (upd H co (.lst (((cg n T.col).map V.int).set q (.int (v:Int))))) o dx cl co ro rws n m {T with col:=fun c=>if c=q then v else T.col c}:=by
 have k:∀b,b≠co->∀u,H b=some u->(upd H co (.lst (((cg n T.col).map V.int).set q (.int (v:Int))))) b=some u:=fun b hb u e=>by rw[cW hb];exact e
 refine⟨h.same.vI h.T5,h.o0,h.WR,h.T5,h.Tr,h.ne,h.nc,h.nr,k _ h.oco _ h.at_,k _ h.aak _ h.cells,h.len,fun r a e=>k _ (fun z=>h.nc (z▸sO e)) _ (h.row r a e),?_,k _ h.ne.symm _ h.rows⟩;rw[aB,<-wfh,wC _ _ hq]
end
theorem Ln{n q:Nat}(X:Nat->Int)(v:Int)(h:q<=n):((aZ n X).take q++[.int v])++(aZ n X).drop (q+1)=aZ n fun c=>if c=q then v else X c:=by
 rw[<-zV X v h,List.set_eq_take_append_cons_drop,aF (by rw[Il];omega),wcb];rfl
noncomputable def Td(K:W.Frag)(C:Addr):Sp:=fun vs H Q _=>∃(o:Addr) (H0:Hp) (n m p q:Nat) (S:Nat->Nat->Bool) (wt:Nat->Int) (T:Sx.Tab),vs=[.ref o,.int (p:Int),.int (q:Int)]/\lX K C H0 H o n m T/\TG n m S wt T/\p<m/\q<n/\∀H',lX K C H0 H' o n m (Sx.turn T p q)->Q .non H'
theorem Vf{f f1 C:Addr}{fd d1:ρ}(F:Fun K "turn" "Tableau.turn" fZ f fd)
  (Cc:Cls K C)(bf:NoAttr K C "cells")(dw:NoAttr K C "over")(aY:NoAttr K C "columns")(cG:NoAttr K C "rows")(D1:oH K C "turned" "Tableau.turned" zdi ["self","cells","pivots","column"] f1 d1)(G1:FnOk P w K mg base CX0 1 f1 d1 ["self","cells","pivots","column"] (Tf K C)):
  FnOk P w K mg base CX0 2 f fd ["self","row","column"] (Td K C):=by
 refine F.bZ ["self","row","column","pivots","by","name"] fun cdv A outer s H vs Q E hr h=> ?_;obtain⟨o,H0,n,m,p,q,S,wt,T,rfl,⟨dx,cl,co,ro,rws,hT⟩,hG,hp,hq,qq⟩:=h;refine aW ?_;intro Y;refine⟨_,(aL (pS 3 (aQ kJ (gP (pv 0) rfl) (pv 1))) (aL (pS 4 (aQ kJ (pv 3) (pv 2))) (aL (ps_fld (pv 0) (pK ["cells"] ["self","pivots","column"] [0,3,2] (sG (gP (pv 0) rfl)) (pG 0) nP (v7 (pv 1) Cc D1.m G1 hr D1.b .nil pass0 (aj (pv 0) (aj (pv 2) (aj (pv 3) ak))))) rfl) (aL (ps_asg (bA op_cat (bA op_cat (pe_slice sl_list (pv 3) po_none (po_some (pv 2))) (pe_lst (aj (gP (pv 0) rfl) ak))) (pe_slice sl_list (pv 3) (po_some (bA nu (pv 2) ao)) po_none)) (pg_sub (gP (pv 0) rfl) (pv 1) set_list)) (aL (ps_fld (pv 0) (pv 4) rfl) (aL (pS 5 (aQ kJ (gP (pv 0) rfl) (pv 1))) (aL (ps_asg (aQ kJ (gP (pv 0) rfl) (pv 2)) (pg_sub (gP (pv 0) rfl) (pv 1) set_list)) (aR (ps_asg (pv 5) (pg_sub (gP (pv 0) rfl) (pv 2) set_list)))))))))),?_⟩;refine ZC ?_;intro c8 c7 c6 c5 c4 c3 c2;obtain⟨pa,pe,pi,pr⟩:=hT.Ja (dH hp);refine⟨_,rfl,o,C,dx,_,_,rfl,hT.at_,Cc,bf,rfl,_,rfl,cl,_,_,_,rfl,rfl,SqL.of hT.cells,pi,?_⟩;refine⟨_,rfl,_,rfl,pa,_,_,_,rfl,rfl,SqL.of pr,eN _ (dH hq),?_⟩;refine⟨_,rfl,o,C,dx,_,_,rfl,hT.at_,Cc,bf,rfl,cl,_,rfl,SqL.of hT.cells,fun hz=> ?_⟩;let gF:Nat->List V->St->Hp->Prop:=fun i acc σ H'=>∃as:List Addr,acc=as.map V.ref/\as.length=i/\Same H H'/\(∀r a,as[r]? =some a->H a=none/\H' a=some (.lst (aZ n (tdF T.over (T.cell r) (T.cell p) q))))/\∃o1,σ=[o1,some (.ref o),some (.ref pa),some (.int (q:Int))];refine wU (xs:=rws.map V.ref) gF ⟨[],rfl,rfl,Same.refl _,fun r a e=>(nomatch e),_,rfl⟩ (fun i acc σ H' _ x=> ?_) (fun i acc σ H' _ x=> ?_) hz (fun i v acc σ H' hv x=> ?_) (fun acc σ H' x=> ?_)
 ·obtain⟨_,_,_,sm,_⟩:=x;exact sm.seq (SqL.of hT.cells)
 ·obtain⟨as,rfl,hl,_⟩:=x;rw[aJ,hl];exact aX _
 ·obtain⟨as,rfl,hl,sm,has,o1,rfl⟩:=x;rw[dJ]at hv;cases er:rws[i]? with
  |none=>rw[er]at hv;cases hv
  |some ra=>
   rw[er]at hv;cases hv;have him:i<=m:=by have:=(nF.mp er).1;rw[hT.len]at this;omega
   refine⟨_,rfl,o,dx,_,rfl,sm _ _ hT.at_,rfl,_,rfl,_,rfl,_,rfl,o,ra,pa,H0,n,m,q,T.cell i,T.cell p,T,rfl,⟨dx,cl,co,ro,rws,hT.sm sm⟩,hG.n10,hG.over,dH hq,sm _ _ (hT.row i ra er),sm _ _ pr,fun c hc=>⟨hG.cell him hc,hG.cell (dH hp) hc⟩,fun r1 H1 s1 h1 e1=> ?_⟩;refine⟨as++[r1],by rw[bL];rfl,by rw[ql,hl];rfl,sm.trans s1,fun r a e=> ?_,_,rfl⟩;rw[wcm]at e;by_cases c:r<as.length
   ·rw[aF c]at e;exact⟨(has r a e).1,s1 _ _ (has r a e).2⟩
   ·rw[aA c]at e;have er':r-as.length=0:=by
     have:=(nF.mp e).1;have:r-as.length<1:=this;omega
    rw[er']at e;cases e;have:r=i:=by omega
    subst this;exact⟨sm.none h1,e1⟩
 ·intro p1 hp1;obtain⟨as,rfl,hl,sm,has,_⟩:=x;rw[aJ,hT.len]at hl;have s1:=aM hp1 (.lst (as.map V.ref));have hT1:=hT.sm (sm.trans s1);have h10:H0 p1=none:=hT.same.none (sm.none hp1);have nas:∀b u,H b=some u->b∉as:=fun b u hb hm=>by
   obtain⟨r,hr1,rfl⟩:=Iu hm;have:=(has r _ (dF hr1)).1;rw[hb]at this;cases this
  have hT2:=hT1.Lh (XR:=p1) (Dk:=as) (X:=fun r=>tdF T.over (T.cell r) (T.cell p) q) h10 aB hl (fun r a e=>s1 _ _ (has r a e).2) (nas _ _ hT.cols) (nas _ _ hT.rows);refine⟨_,rfl,o,C,dx,_,rfl,hT1.at_,Cc,bf,(by show 4<1000;decide),?_⟩;have Za:pa≠o:=hT.orow pe;have pr2:=(sm.trans s1) _ _ pr;have pr3:(upd (upd H' p1 (.lst (as.map V.ref))) o (.ins C dx (putF "cells" (.ref p1) (flds cl co ro T.over)))) pa=some (.lst (aZ n (T.cell p))):=by rw[cW Za];exact pr2
  generalize (upd (upd H' p1 (.lst (as.map V.ref))) o (.ins C dx (putF "cells" (.ref p1) (flds cl co ro T.over))))=H2 at *
  -- the row of the turn
  refine⟨_,rfl,_,rfl,_,rfl,pa,_,rfl,SqL.of pr3,fun l1 hl1=> ?_⟩;have t1:=aM hl1 (.lst (cutV (aZ n (T.cell p)) none (some (q:Int))));have f1:(upd H2 l1 (.lst (cutV (aZ n (T.cell p)) none (some (q:Int))))) l1=some (.lst (cutV (aZ n (T.cell p)) none (some (q:Int)))):=aB;generalize (upd H2 l1 (.lst (cutV (aZ n (T.cell p)) none (some (q:Int)))))=H3 at *;refine⟨_,rfl,o,C,dx,_,_,rfl,t1 _ _ hT2.at_,Cc,dw,rfl,(by show 1<=sizeLine;decide),fun l2 hl2=> ?_⟩;have t2:=aM hl2 (.lst [.int T.over]);have f2:(upd H3 l2 (.lst [.int T.over])) l2=some (.lst [.int T.over]):=aB;have f1':=t2 _ _ f1;refine⟨l1,l2,_,_,rfl,rfl,f1',f2,?_,fun l3 hl3=> ?_⟩
  ·have:=cutV_length (aZ n (T.cell p)) none (some (q:Int));rw[Il]at this;have:=hG.n10;rw[gR];show _+1<=_;omega
  have t3:=aM hl3 (.lst (cutV (aZ n (T.cell p)) none (some (q:Int))++[.int T.over]));have f3:(upd (upd H3 l2 (.lst [.int T.over])) l3 (.lst (cutV (aZ n (T.cell p)) none (some (q:Int))++[.int T.over]))) l3=some (.lst (cutV (aZ n (T.cell p)) none (some (q:Int))++[.int T.over])):=aB;have UL:=t1.trans (t2.trans t3);generalize (upd (upd H3 l2 (.lst [.int T.over])) l3 (.lst (cutV (aZ n (T.cell p)) none (some (q:Int))++[.int T.over])))=H5 at *;refine⟨_,rfl,_,rfl,_,_,rfl,rfl,_,rfl,pa,_,rfl,SqL.of (UL _ _ pr3),fun l4 Wc=> ?_⟩;have t4:=aM Wc (.lst (cutV (aZ n (T.cell p)) (some ((q:Int)+1)) none));refine⟨l3,l4,_,_,rfl,rfl,t4 _ _ f3,aB,?_,fun l5 Zx=> ?_⟩
  ·have a1:=cutV_length (aZ n (T.cell p)) none (some (q:Int));have a2:=cutV_length (aZ n (T.cell p)) (some ((q:Int)+1)) none;rw[Il]at a1 a2;have:=hG.n10;rw[ql,gR];show _+1+_<=_;omega
  have t5:=aM Zx (.lst ((cutV (aZ n (T.cell p)) none (some (q:Int))++[.int T.over])++cutV (aZ n (T.cell p)) (some ((q:Int)+1)) none));have abb:(cutV (aZ n (T.cell p)) none (some (q:Int))++[.int T.over])++cutV (aZ n (T.cell p)) (some ((q:Int)+1)) none=aZ n fun c=>if c=q then T.over else T.cell p c:=by
   rw[RP (by rw[Il];omega),show(q:Int)+1=((q+1:Nat):Int)from by omega,Jz (by rw[Il];omega)];exact Ln _ _ (dH hq)
  rw[abb]at t5⊢;have hT3:=hT2.sm (UL.trans (t4.trans t5));have f5:(upd (upd H5 l4 (.lst (cutV (aZ n (T.cell p)) (some ((q:Int)+1)) none))) l5 (.lst (aZ n fun c=>if c=q then T.over else T.cell p c))) l5=some (.lst (aZ n fun c=>if c=q then T.over else T.cell p c)):=aB;have g1:co≠l5:=sH ((UL.trans t4) _ _ hT2.cols) Zx;have g2:ro≠l5:=sH ((UL.trans t4) _ _ hT2.rows) Zx;generalize (upd (upd H5 l4 (.lst (cutV (aZ n (T.cell p)) (some ((q:Int)+1)) none))) l5 (.lst (aZ n fun c=>if c=q then T.over else T.cell p c)))=H6 at *;have XC:=hT3.U5 (p:=p) (dH hp) f5 g1 g2;refine⟨_,rfl,o,C,dx,_,_,rfl,hT3.at_,Cc,bf,rfl,_,rfl,p1,_,_,p,rfl,rfl,hT3.cells,?_,?_⟩
  ·have e:ixN (as.map V.ref).length (p:Int)=some p:=by
    rw[aJ,hl];unfold ixN;rw[aF (by omega),aF (by omega)];rfl
   exact e
  generalize (upd H6 p1 (.lst ((as.map V.ref).set p (.ref l5))))=H7 at *;have hT5:=XC.setOver (T.cell p q);refine⟨_,rfl,_,rfl,o,C,dx,_,rfl,XC.at_,Cc,dw,(by show 4<1000;decide),?_⟩;generalize (upd H7 o (.ins C dx (putF "over" (.int (T.cell p q)) (flds p1 co ro T.over))))=H8 at *;refine⟨_,rfl,o,C,dx,_,_,rfl,hT5.at_,Cc,cG,rfl,_,rfl,ro,_,_,_,rfl,rfl,SqL.of hT5.rows,pI _ hp,?_⟩;refine⟨_,rfl,o,C,dx,_,_,rfl,hT5.at_,Cc,aY,rfl,_,rfl,co,_,_,_,rfl,rfl,SqL.of hT5.cols,pI _ hq,?_⟩;have Xz:=hT5.Qo (p:=p) (T.col q) hp;refine⟨_,rfl,o,C,dx,_,_,rfl,hT5.at_,Cc,cG,rfl,_,rfl,ro,_,_,p,rfl,rfl,hT5.rows,?_,?_⟩
  ·have e:ixN ((cg m T.row).map V.int).length (p:Int)=some p:=by
    rw[aJ,Im];unfold ixN;rw[aF (by omega),aF (by omega)];rfl
   exact e
  generalize (upd H8 ro (.lst (((cg m T.row).map V.int).set p (.int ((T.col q:Nat):Int)))))=H9 at *;have Aq:=Xz.Qp (q:=q) (T.row p) hq;refine⟨_,rfl,_,rfl,o,C,dx,_,_,rfl,Xz.at_,Cc,aY,rfl,_,rfl,co,_,_,q,rfl,rfl,Xz.cols,?_,?_⟩
  ·have e:ixN ((cg n T.col).map V.int).length (q:Int)=some q:=by
    rw[aJ,Im];unfold ixN;rw[aF (by omega),aF (by omega)];rfl
   exact e
  refine qq _ ⟨dx,p1,co,ro,_,Aq.same,Aq.o0,Aq.WR,Aq.T5,Aq.Tr,Aq.ne,Aq.nc,Aq.nr,Aq.at_,Aq.cells,Aq.len,fun r a e=> ?_,Aq.cols,Aq.rows⟩;rw[Aq.row r a e];refine lq (fun l=>some (HO.lst l)) (oh fun c _=> ?_);show(if r=p then(if c=q then T.over else T.cell p c)else tdF T.over (T.cell r) (T.cell p) q c)=_;rfl
theorem Lk{n m:Nat}{S:Nat->Nat->Bool}{wt:Nat->Int}{Ts:Nat->Sx.Tab}{ps qs:Nat->Nat}{L p q:Nat}(R:Sx.Run n m S wt Ts ps qs L)(s:Sx.Step n m (Ts L) p q):
  Sx.Run n m S wt (fun t=>if t<=L then Ts t else Sx.turn (Ts L) p q) (fun t=>if t<L then ps t else p) (fun t=>if t<L then qs t else q) (L+1):=by
 refine⟨by rw[aF (dX L)];exact R.first,fun t ht=> ?_,fun t ht=> ?_⟩
 ·by_cases c:t<L
  ·rw[aF (dH c),aF c,aF c];exact R.step t c
  ·have e:t=L:=by omega
   subst e;rw[aF (aX t),aA c,aA c];exact s
 ·by_cases c:t<L
  ·rw[aF (show t+1<=L from c),aF (dH c),aF c,aF c];exact R.next t c
  ·have e:t=L:=by omega
   subst e;rw[aA (by omega),aF (aX t),aA c,aA c]
structure Sta(n m:Nat)(S:Nat->Nat->Bool)(wt:Nat->Int):Prop where
 n10:n<=10
 Zk:m<=40
 wb:∀p,p<n->0<=wt p/\wt p<=99
 cov:∀p,p<n->∃k,k<m/\S k p=true
theorem Sta.tg{n m:Nat}{S:Nat->Nat->Bool}{wt:Nat->Int}{T:Sx.Tab}(h:Sta n m S wt)(g:Sx.Good n m S wt T):TG n m S wt T:=⟨g,h.n10,h.Zk,h.wb,h.cov⟩
noncomputable def NcV(n m:Nat)(T:Sx.Tab)(x:V):Prop:=(x= .non/\∀c,c<n->0<=T.cell m c)\/∃q:Nat,x= .int (q:Int)/\q<n/\T.cell m q<0/\∀c,c<n->T.cell m c<0->T.col q<=T.col c
noncomputable def OJ(K:W.Frag)(C o:Addr)(H0:Hp)(n m:Nat)(S:Nat->Nat->Bool)(wt:Nat->Int)(k:Nat)(σ:St)(H:Hp):Prop:=
 ∃(Ts:Nat->Sx.Tab) (ps qs:Nat->Nat) (L:Nat) (x:V),Sx.Run n m S wt Ts ps qs L/\L+k=2^(n+m)/\lX K C H0 H o n m (Ts L)/\σ=[some (.ref o),some x]/\NcV n m (Ts L) x
noncomputable def Ks(K:W.Frag)(C:Addr):Sp:=fun vs H Q _=>∃(o:Addr) (H0:Hp) (n m:Nat) (S:Nat->Nat->Bool) (wt:Nat->Int) (T:Sx.Tab),vs=[.ref o]/\lX K C H0 H o n m T/\Sta n m S wt/\Sx.Good n m S wt T/\
 ∀T' H',lX K C H0 H' o n m T'->Sx.Good n m S wt T'->(∀c,c<n->0<=T'.cell m c)->Q .non H'
theorem Vi{f f1 f2 f3 C:Addr}{fd d1 d2 d3:ρ}(F:Fun K "solve" "Tableau.solve" fD f fd)
  (Cc:Cls K C)(bf:NoAttr K C "cells")(dw:NoAttr K C "over")(aY:NoAttr K C "columns")(cG:NoAttr K C "rows")(D1:oH K C "next_column" "Tableau.next_column" zbx ["self"] f1 d1)(R0:FnOk P w K mg base CX0 1 f1 d1 ["self"] (Kw K C))(D2:oH K C "turn" "Tableau.turn" fZ ["self","row","column"] f2 d2)(G2:FnOk P w K mg base CX0 2 f2 d2 ["self","row","column"] (Td K C))(D3:oH K C "next_row" "Tableau.next_row" zcv ["self","column"] f3 d3)(G3:FnOk P w K mg base CX0 2 f3 d3 ["self","column"] (Tg K C)):
  FnOk P w K mg base CX0 3 f fd ["self"] (Ks K C):=by
 have G1:FnOk P w K mg base CX0 2 f1 d1 ["self"] (Kw K C):=R0.mono (by decide);refine F.bZ ["self","column"] fun cdv A outer s H vs Q E hr h=> ?_;obtain⟨o,H0,n,m,S,wt,T,rfl,hT,hS,hg,qq⟩:=h;refine aW ?_;intro Y;refine⟨_,(aL (pS 1 (JQ (pv 0) Cc D1.m G1 hr D1.b .nil pass0)) (aR (ps_while wZ (cR op_notN (pv 1) pe_non) (aL (qj (v7 (pv 0) Cc D2.m G2 hr D2.b .nil pass0 (aj (v7 (pv 0) Cc D3.m G3 hr D3.b .nil pass0 (aj (pv 1) ak)) (aj (pv 1) ak)))) (aR (pS 1 (JQ (pv 0) Cc D1.m G1 hr D1.b .nil pass0))))))),?_⟩;refine lR ?_;intro c2;have key:∀(x:V) (H1:Hp),lX K C H0 H1 o n m T->NcV n m T x->∃k,OJ K C o H0 n m S wt k [some (.ref o),some x] H1:=fun x H1 h1 h2=>
  ⟨2^(n+m),fun _=>T,fun _=>0,fun _=>0,0,x,⟨hg,fun t ht=>absurd ht (Uh t),fun t ht=>absurd ht (Uh t)⟩,Nat.zero_add _,h1,rfl,h2⟩
 obtain⟨dx,cl,co,ro,rws,hA0⟩:=id hT;refine⟨_,rfl,o,dx,_,rfl,hA0.at_,rfl,o,H0,n,m,S,wt,T,rfl,hT,hS.tg hg,?a,?b⟩
 case' a=>
  intro h H1 s1;have w0:=key _ _ (hT.sm s1) (.inl ⟨rfl,h⟩);refine⟨OJ K C o H0 n m S wt,w0,?_⟩;clear w0 s1 h
 case' b=>
  intro q H1 hq hn he s1;have w0:=key _ _ (hT.sm s1) (.inr ⟨q,rfl,hq,hn,he⟩);refine⟨OJ K C o H0 n m S wt,w0,?_⟩;clear w0 s1 he hn hq q
 all_goals
  clear H1;intro k σ H1 h;obtain⟨Ts,ps,qs,L,x,R,hk,⟨dx',cl,co,ro,rws,hA⟩,rfl,hx⟩:=h;have hgL:=R.good L (aX L);have hG:=hS.tg hgL;have hsh:=R.short;rcases hx with⟨rfl,hx⟩|⟨q,rfl,hq,hn,he⟩
  ·refine⟨_,rfl,rfl,_,rfl,?_⟩;refine iteF ?_;exact qq (Ts L) H1 ⟨dx',cl,co,ro,rws,hA⟩ hgL hx
  ·refine⟨_,rfl,rfl,_,rfl,?_⟩;refine iteT ?_;refine⟨OJ K C o H0 n m S wt (k-1),fun σ' H' z=>⟨k-1,by omega,z⟩,?_⟩;refine⟨_,rfl,o,dx',_,rfl,hA.at_,rfl,_,rfl,o,dx',_,rfl,hA.at_,rfl,_,rfl,o,H0,n,m,q,S,wt,Ts L,rfl,⟨dx',cl,co,ro,rws,hA⟩,hG,hq,fun p hp h0 hlev=> ?_⟩;have st:Sx.Step n m (Ts L) p q:=⟨hp,hq,hn,he,h0,hlev⟩;refine⟨_,rfl,o,H0,n,m,p,q,S,wt,Ts L,rfl,⟨dx',cl,co,ro,rws,hA⟩,hG,hp,hq,fun H2 hT2=> ?_⟩;have R2:=Lk R st;have g2:=st.good hgL;obtain⟨dx2,cl2,co2,ro2,abh,hA2⟩:=id hT2;have fin:∀(x:V) (H3:Hp),Same H2 H3->NcV n m (Sx.turn (Ts L) p q) x->OJ K C o H0 n m S wt (k-1) [some (.ref o),some x] H3:=fun x H3 s3 hx=>by
    refine⟨_,_,_,L+1,x,R2,by omega,?_,rfl,?_⟩
    ·rw[aA (by omega)];exact hT2.sm s3
    ·rw[aA (by omega)];exact hx
   exact⟨_,rfl,o,dx2,_,rfl,hA2.at_,rfl,o,H0,n,m,S,wt,_,rfl,hT2,hS.tg g2,fun h H3 s3=>fin _ H3 s3 (.inl ⟨rfl,h⟩),fun q' H3 hq' hn' he' s3=>fin _ H3 s3 (.inr ⟨q',rfl,hq',hn',he'⟩)⟩
noncomputable def aar(k:Nat)(i:Int)(r:Nat):Prop:=(i=(r:Int)/\r<=k)\/(i= -1/\r=k)
noncomputable def zG(K:W.Frag)(C:Addr):Sp:=fun vs H Q _=>∃(o:Addr) (H0:Hp) (n m r c:Nat) (i j:Int) (S:Nat->Nat->Bool) (wt:Nat->Int) (T:Sx.Tab),vs=[.ref o,.int i,.int j]/\lX K C H0 H o n m T/\TG n m S wt T/\aar m i r/\aar n j c/\
 ∀p H' u v,Same H H'->H' p=some (.tup [.int u,.int ((v:Nat):Int)])->Low (T.cell r c) T.over.toNat u v->Q (.ref p) H'
theorem Vn{f f1 C:Addr}{fd d1:ρ}(F:Fun K "fraction_at" "Tableau.fraction_at" X7 f fd)
  (Cc:Cls K C)(bf:NoAttr K C "cells")(dw:NoAttr K C "over")(aY:NoAttr K C "columns")(cG:NoAttr K C "rows")(D1:bC K mg "lowest" jc ["a","b"] f1 d1)(G1:FnOk P w K mg base CX0 2 f1 d1 ["a","b"] (zJ K)):
  FnOk P w K mg base CX0 3 f fd ["self","row","column"] (zG K C):=by
 refine F.bZ ["self","row","column"] fun cdv A outer s H vs Q E hr h=> ?_;obtain⟨o,H0,n,m,r,c,i,j,S,wt,T,rfl,⟨dx,cl,co,ro,rws,hT⟩,hG,hi,hj,qq⟩:=h;refine⟨_,(aR (bB (pc G1 hr D1 (aj (aQ kJ (aQ kJ (gP (pv 0) rfl) (pv 1)) (pv 2)) (aj (gP (pv 0) rfl) ak))))),?_⟩;have hri:∃a,atI (rws.map V.ref) i=some (.ref a)/\H a=some (.lst (aZ n (T.cell r))):=by
  rcases hi with⟨rfl,h⟩|⟨rfl,rfl⟩
  ·obtain⟨a,_,h1,h2⟩:=hT.Ja h;exact⟨a,h1,h2⟩
  ·obtain⟨a,_,h1,h2⟩:=hT.YX;exact⟨a,h1,h2⟩
 have hcj:atI (aZ n (T.cell r)) j=some (.int (T.cell r c)):=by
  rcases hj with⟨rfl,h⟩|⟨rfl,rfl⟩
  ·exact eN _ h
  ·exact qw _ _
 obtain⟨a,h1,h2⟩:=hri;have ho:=hG.over;refine⟨_,rfl,o,C,dx,_,_,rfl,hT.at_,Cc,bf,rfl,_,rfl,cl,_,_,_,rfl,rfl,SqL.of hT.cells,h1,_,rfl,a,_,_,_,rfl,rfl,SqL.of h2,hcj,?_⟩;refine⟨_,rfl,o,C,dx,_,_,rfl,hT.at_,Cc,dw,rfl,T.cell r c,T.over.toNat,?_,by omega,cT (show T.over.toNat<=39916800 by omega) (by decide),fun p H' u v s e l=>qq p H' u v s e l⟩;rw[show((T.over.toNat:Nat):Int)=T.over by omega];rfl
theorem Ai{u:Int}{v b:Nat}(hb:0<b)(h:Low 0 1 u v):Low 0 b u v:=by
 have e:=h.eq;have hu:u=0:=by omega
 subst hu;have c:=h.cop;rw[show(0:Int).natAbs=0 from rfl,Nat.gcd_zero_left]at c;subst c;exact⟨by decide,rfl,by omega,aX _,hb,fun _=>tH _⟩
noncomputable def Kv(K:W.Frag)(C:Addr):Sp:=fun vs H Q _=>∃(o:Addr) (H0:Hp) (n m a:Nat) (S:Nat->Nat->Bool) (wt:Nat->Int) (T:Sx.Tab),vs=[.ref o,.int (a:Int)]/\lX K C H0 H o n m T/\TG n m S wt T/\
 ∀p H' u v,Same H H'->H' p=some (.tup [.int u,.int ((v:Nat):Int)])->Low (Sx.Xs n m T a) T.over.toNat u v->Q (.ref p) H'
theorem Vk{f f1 f2 C:Addr}{fd d1 d2:ρ}(F:Fun K "price_of" "Tableau.price_of" zcu f fd)
  (Cc:Cls K C)(bf:NoAttr K C "cells")(dw:NoAttr K C "over")(aY:NoAttr K C "columns")(cG:NoAttr K C "rows")(D1:bC K mg "lowest" jc ["a","b"] f1 d1)(G1:FnOk P w K mg base CX0 2 f1 d1 ["a","b"] (zJ K))(D2:oH K C "fraction_at" "Tableau.fraction_at" X7 ["self","row","column"] f2 d2)(G2:FnOk P w K mg base CX0 3 f2 d2 ["self","row","column"] (zG K C)):
  FnOk P w K mg base CX0 4 f fd ["self","name"] (Kv K C):=by
 refine F.bZ ["self","name"] fun cdv A outer s H vs Q E hr h=> ?_;obtain⟨o,H0,n,m,a,S,wt,T,rfl,⟨dx,cl,co,ro,rws,hT⟩,hG,qq⟩:=h;refine aW ?_;intro Y;refine⟨_,(aL (dZ (cR (qz hr.units) (pv 1) (gP (pv 0) rfl) (by with_unfolding_all rfl)) (aR (bB (pc G1 hr D1 (aj ao (aj ao ak))))) eG) (aR (bB (v7 (pv 0) Cc D2.m G2 hr D2.b .nil pass0 (aj (pe_bm Qg wbv wbw qG (gP (pv 0) rfl) (aj (pv 1) ak)) (aj (pe_un un_neg ao) ak)))))),?_⟩;refine lR ?_;intro c2;have ho:=hG.over;refine⟨_,rfl,_,rfl,o,C,dx,_,_,rfl,hT.at_,Cc,cG,rfl,ro,_,_,.int (a:Int),rfl,.inl (SqL.of hT.rows),cN.ints _,.int _,Ik _,rfl,(by show 0<=60;decide),_,rfl,?_⟩;rw[any_ints];refine ite2 (fun c=> ?_) (fun c=> ?_)
 ·have c':((a:Nat):Int)∉cg m T.row:=by
   intro hm;rw[cL hm]at c;cases c
  refine⟨0,1,rfl,by decide,by decide,fun p H' u v s e l=>qq p H' u v s e ?_⟩;rw[Sx.SN fun r hr z=>c' (by
   have:=FN T.row hr;rw[z]at this;exact sO this)]
  exact Ai (by omega) l
 ·have c':((a:Nat):Int)∈cg m T.row:=by
   refine Xv fun hm=>c ?_;rw[fO hm];rfl
  obtain⟨r,hr1,er⟩:=Iu c';have hr0:r<m:=by rw[Im]at hr1;exact hr1
  have e0:=dF hr1;rw[er]at e0;have ea:T.row r=a:=by
   rw[FN _ hr0]at e0;exact Yv (sU e0)
  subst ea;refine⟨_,rfl,o,dx,_,rfl,hT.at_,rfl,_,rfl,o,C,dx,_,_,rfl,hT.at_,Cc,cG,rfl,.inl ⟨rfl,_,SqL.of hT.rows⟩,_,rfl,ro,cg m T.row,_,r,rfl,rfl,hT.rows,FN _ hr0,fun i hi e=> ?_,by rw[Im];have:=hG.Zk;omega,?_⟩
  ·rw[FN _ (by omega)]at e;have:=hG.good.Lr i r (by omega) hr0 (Yv (sU e));omega
  ·refine⟨_,rfl,o,H0,n,m,r,n,_,_,S,wt,T,rfl,⟨dx,cl,co,ro,rws,hT⟩,hG,.inl ⟨rfl,dH hr0⟩,.inr ⟨rfl,rfl⟩,fun p H' u v s e l=>qq p H' u v s e ?_⟩;rw[hG.good.SX hr0];exact l
noncomputable def Ku(K:W.Frag)(C:Addr):Sp:=fun vs H Q _=>∃(o:Addr) (H0:Hp) (n m a:Nat) (S:Nat->Nat->Bool) (wt:Nat->Int) (T:Sx.Tab),vs=[.ref o,.int (a:Int)]/\lX K C H0 H o n m T/\TG n m S wt T/\
 ∀p H' u v,Same H H'->H' p=some (.tup [.int u,.int ((v:Nat):Int)])->Low (Sx.Ys n m T a) T.over.toNat u v->Q (.ref p) H'
theorem Vj{f f1 f2 C:Addr}{fd d1 d2:ρ}(F:Fun K "share_of" "Tableau.share_of" zct f fd)
  (Cc:Cls K C)(bf:NoAttr K C "cells")(dw:NoAttr K C "over")(aY:NoAttr K C "columns")(cG:NoAttr K C "rows")(D1:bC K mg "lowest" jc ["a","b"] f1 d1)(G1:FnOk P w K mg base CX0 2 f1 d1 ["a","b"] (zJ K))(D2:oH K C "fraction_at" "Tableau.fraction_at" X7 ["self","row","column"] f2 d2)(G2:FnOk P w K mg base CX0 3 f2 d2 ["self","row","column"] (zG K C)):
  FnOk P w K mg base CX0 4 f fd ["self","name"] (Ku K C):=by
 refine F.bZ ["self","name"] fun cdv A outer s H vs Q E hr h=> ?_;obtain⟨o,H0,n,m,a,S,wt,T,rfl,⟨dx,cl,co,ro,rws,hT⟩,hG,qq⟩:=h;refine aW ?_;intro Y;refine⟨_,(aL (dZ (cR (qz hr.units) (pv 1) (gP (pv 0) rfl) (by with_unfolding_all rfl)) (aR (bB (pc G1 hr D1 (aj ao (aj ao ak))))) eG) (aR (bB (v7 (pv 0) Cc D2.m G2 hr D2.b .nil pass0 (aj (pe_un un_neg ao) (aj (pe_bm Qg wbv wbw qG (gP (pv 0) rfl) (aj (pv 1) ak)) ak)))))),?_⟩;refine lR ?_;intro c2;have ho:=hG.over;refine⟨_,rfl,_,rfl,o,C,dx,_,_,rfl,hT.at_,Cc,aY,rfl,co,_,_,.int (a:Int),rfl,.inl (SqL.of hT.cols),cN.ints _,.int _,Ik _,rfl,(by show 0<=60;decide),_,rfl,?_⟩;rw[any_ints];refine ite2 (fun c=> ?_) (fun c=> ?_)
 ·have c':((a:Nat):Int)∉cg n T.col:=by
   intro hm;rw[cL hm]at c;cases c
  refine⟨0,1,rfl,by decide,by decide,fun p H' u v s e l=>qq p H' u v s e ?_⟩;rw[Sx.X8 fun r hr z=>c' (by
   have:=FN T.col hr;rw[z]at this;exact sO this)]
  exact Ai (by omega) l
 ·have c':((a:Nat):Int)∈cg n T.col:=by
   refine Xv fun hm=>c ?_;rw[fO hm];rfl
  obtain⟨r,hr1,er⟩:=Iu c';have hr0:r<n:=by rw[Im]at hr1;exact hr1
  have e0:=dF hr1;rw[er]at e0;have ea:T.col r=a:=by
   rw[FN _ hr0]at e0;exact Yv (sU e0)
  subst ea;refine⟨_,rfl,o,dx,_,rfl,hT.at_,rfl,_,rfl,_,rfl,o,C,dx,_,_,rfl,hT.at_,Cc,aY,rfl,.inl ⟨rfl,_,SqL.of hT.cols⟩,_,rfl,co,cg n T.col,_,r,rfl,rfl,hT.cols,FN _ hr0,fun i hi e=> ?_,by rw[Im];have:=hG.n10;omega,?_⟩
  ·rw[FN _ (by omega)]at e;have:=hG.good.Em i r (by omega) hr0 (Yv (sU e));omega
  ·refine⟨o,H0,n,m,m,r,_,_,S,wt,T,rfl,⟨dx,cl,co,ro,rws,hT⟩,hG,.inr ⟨rfl,rfl⟩,.inl ⟨rfl,dH hr0⟩,fun p H' u v s e l=>qq p H' u v s e ?_⟩;rw[hG.good.Yb hr0];exact l
noncomputable def gU(L:List (List Int))(k p:Nat):Bool:=decide (((p:Nat):Int)∈L.getD k [])
noncomputable def sS(wl:List Int)(p:Nat):Int:=wl.getD p 0
theorem U8{n m r:Nat}{L:List (List Int)}{wt:Nat->Int}(hr:r<m):((List.range n).map fun(p:Nat)=>if decide (((p:Nat):Int)∈L.getD r [])=true then(1:Int)else 0).map V.int++[.int 1]=aZ n ((Sx.start n m (gU L) wt).cell r):=by
 unfold aZ;rw[yZ,bL,bL];congr 1
 ·refine lq _ (Uk fun c hc=> ?_);have hc':=jZ.mp hc;show _=if r=m then _ else if c=n then(1:Int)else if gU L r c=true then 1 else 0
  rw[aA (show¬r=m by omega),aA (show¬c=n by omega)];rfl
 ·show[V.int 1]=[V.int (if r=m then _ else if n=n then(1:Int)else _)];rw[aA (by omega),aF rfl]
theorem Qs{m:Nat}{L:List (List Int)}{wl:List Int}:(wl.map fun x=> -x).map V.int++[.int 0]=aZ wl.length ((Sx.start wl.length m (gU L) (sS wl)).cell m):=by
 unfold aZ;rw[yZ,bL,bL];congr 1
 ·refine lq _ (wcd fun i=> ?_);rw[dJ,dJ];by_cases hi:i<wl.length
  ·rw[dF hi,Sw hi];show some (-wl[i])=some (if m=m then(if i=wl.length then(0:Int)else -(wl.getD i 0))else _);rw[aF rfl,aA (by omega),lg,dF hi];rfl
  ·rw[Xj (by omega),Xj (by rw[vo];omega)];rfl
 ·show[V.int 0]=[V.int (if m=m then(if wl.length=wl.length then(0:Int)else _)else _)];rw[aF rfl,aF rfl]
theorem _root_.L2.SqT.Iz{H:Hp}{a o C dx:Addr}{fs:List (Str×V)}{u:HO}{xs:List V}(hO:H o=some (.ins C dx fs))(h:SqT K H a xs):SqT K (upd H o u) a xs:=by
 rcases h with(h|⟨ob,h⟩)|h
 ·exact .inl (.inl (by rw[cW (ne_of h hO fun e=>nomatch e)];exact h))
 ·exact .inl (.inr ⟨ob,by rw[cW (ne_of h hO fun e=>nomatch e)];exact h⟩)
 ·exact .inr h
noncomputable def CG(K:W.Frag)(C:Addr):Sp:=fun vs H Q _=>∃(o dx sl wa:Addr) (H0:Hp) (its:List (Addr×List Int)) (wl:List Int),vs=[.ref o,.ref sl,.ref wa]/\H o=some (.ins C dx [])/\Same H0 H/\H0 o=none/\H sl=some (.lst (its.map fun p=>V.ref p.1))/\(∀p∈its,SqT K H p.1 (p.2.map V.int))/\SqT K H wa (wl.map V.int)/\wl.length<=10/\its.length<=40/\
 ∀H',lX K C H0 H' o wl.length its.length (Sx.start wl.length its.length (gU (its.map (·.2))) (sS wl))->Q .non H'
theorem QF{f C:Addr}{fd:ρ}(F:Fun K "__init__" "Tableau.__init__" gj f fd)
  (Cc:Cls K C)(bf:NoAttr K C "cells")(dw:NoAttr K C "over")(aY:NoAttr K C "columns")(cG:NoAttr K C "rows")(bN:mg "len"=none)(aK:mg "range"=none)(cH:mg "list"=none):
  FnOk P w K mg base CX0 1 f fd ["self","sets","wants"] (CG K C):=by
 refine F.bZ ["self","sets","wants","n"] fun cdv A outer s H vs Q E hr h=> ?_;obtain⟨o,dx,sl,wa,H0,its,wl,rfl,hO,hS0,h0,hS,hP,hW,hn,hm,qq⟩:=h;refine aW ?_;intro Y;refine⟨_,(aL (pS 3 (pB vm bN (aj (pv 2) ak))) (aL (ps_fld (pv 0) (pK ["some"] ["n"] [3] (sG (pv 1)) (pG 0) nP (bA op_cat (pK ["place"] ["some"] [0] (Io rfl aK (aj (pv 1) ak)) (pG 0) nP (pe_ifExp (cR (jM K hr.units) (pv 0) (pv 1) (by with_unfolding_all rfl)) ao ao)) (pe_lst (aj ao ak)))) rfl) (aL (qj (pe_bm Qg wbg wbh mt_append (gP (pv 0) rfl) (aj (bA op_cat (pK ["want"] [] [] (BW (pv 2)) (pG 0) nP (pe_un un_neg (pv 0))) (pe_lst (aj ao ak))) ak))) (aL (ps_fld (pv 0) ao rfl) (aL (ps_fld (pv 0) (g8 rfl rfl cH rfl aK (aj (pv 3) ak)) rfl) (aR (ps_fld (pv 0) (xO rfl rfl cH rfl aK (aj (pv 3) (aj (bA nu (pv 3) (pB vm bN (aj (pv 1) ak))) ak))) rfl))))))),?_⟩;refine Np ?_;intro c6 c5 c4 c3 c2;refine⟨_,rfl,wa,_,rfl,.inr hW,fun _=> ?_⟩;rw[aJ];refine⟨_,rfl,sl,_,rfl,SqL.of hS,fun hz=> ?_⟩;let gF:Nat->List V->St->Hp->Prop:=fun i acc σ H'=>∃as:List Addr,acc=as.map V.ref/\as.length=i/\Same H H'/\(∀r a,as[r]? =some a->H' a=some (.lst (aZ wl.length ((Sx.start wl.length its.length (gU (its.map (·.2))) (sS wl)).cell r))))/\∃o1,σ=[o1,some (.int (wl.length:Int))];refine wU (xs:=its.map fun p=>V.ref p.1) gF ⟨[],rfl,rfl,Same.refl _,fun r a e=>(nomatch e),_,rfl⟩ (fun i acc σ H' _ x=> ?_) (fun i acc σ H' _ x=> ?_) hz (fun i v acc σ H1 hv x=> ?_) (fun acc σ H1 x=> ?_)
 ·obtain⟨_,_,_,sm,_⟩:=x;exact sm.seq (SqL.of hS)
 ·obtain⟨as,rfl,hl,_⟩:=x;rw[aJ,hl];exact aX _
 ·obtain⟨as,rfl,hl,sm,has,o1,rfl⟩:=x;rw[dJ]at hv;cases ev:its[i]? with
  |none=>rw[ev]at hv;cases hv
  |some it=>
   rw[ev]at hv;cases hv;have him:i<its.length:=(nF.mp ev).1;have hit:=hP it (sO ev);have eg:(its.map (·.2)).getD i []=it.2:=by rw[lg,dJ,ev];rfl
   refine⟨_,rfl,_,rfl,by omega,by omega,?_⟩;let p7:Nat->List V->St->Hp->Prop:=fun c acc σ H'=>acc=((List.range c).map fun(p:Nat)=>if decide (((p:Nat):Int)∈it.2)=true then(1:Int)else 0).map V.int/\H'=H1/\∃o2,σ=[o2,some (.ref it.1)];refine R6 (n:=wl.length) p7 ⟨rfl,rfl,_,rfl⟩ (fun c acc σ H' hc y=> ?_) (by rw[gR];omega) (fun c acc σ H' hc y=> ?_) (fun acc σ H' y=> ?_)
   ·rw[y.1,aJ,aJ,vo];exact aX _
   ·obtain⟨rfl,rfl,o2,rfl⟩:=y;refine⟨_,rfl,_,rfl,it.1,_,_,.int (0+(c:Int)),rfl,.inr (sm.tup hit),cN.ints _,.int _,Ik _,rfl,(by show 0<=60;decide),_,rfl,?_⟩;rw[any_ints,Xf];refine ite2 (fun z=> ?_) (fun z=> ?_)
    ·exact⟨by rw[yZ,bL,bL];show _=_++[V.int (if _ then _ else _)];rw[aF z],rfl,_,rfl⟩
    ·exact⟨by rw[yZ,bL,bL];show _=_++[V.int (if _ then _ else _)];rw[aA z],rfl,_,rfl⟩
   ·intro p1 hp1;obtain⟨rfl,rfl,_⟩:=y;have s1:=aM hp1 (.lst (((List.range wl.length).map fun(p:Nat)=>if decide (((p:Nat):Int)∈it.2)=true then(1:Int)else 0).map V.int));refine⟨(by show 1<=sizeLine;decide),fun p2 hp2=> ?_⟩;have s2:=aM hp2 (.lst [.int 1]);refine⟨p1,p2,_,_,rfl,rfl,s2 _ _ aB,aB,(by rw[aJ,aJ,vo,gR];show _+1<=_;omega),fun p3 hp3=> ?_⟩;have s3:=aM hp3 (.lst (((List.range wl.length).map fun(p:Nat)=>if decide (((p:Nat):Int)∈it.2)=true then(1:Int)else 0).map V.int++[.int 1]));have oV:=s1.trans (s2.trans s3);refine⟨as++[p3],by rw[bL];rfl,by rw[ql,hl];rfl,sm.trans oV,fun r a e=> ?_,_,rfl⟩;rw[wcm]at e;by_cases c:r<as.length
    ·rw[aF c]at e;exact oV _ _ (has r a e)
    ·rw[aA c]at e;have er':r-as.length=0:=by
      have:=(nF.mp e).1;have:r-as.length<1:=this;omega
     rw[er']at e;cases e;have:r=i:=by omega
     subst this;rw[aB,<-U8 (wt:=sS wl) him,eg]
 ·intro p1 hp1;obtain⟨as,rfl,hl,sm,has,_⟩:=x;rw[aJ]at hl;have s1:=aM hp1 (.lst (as.map V.ref));have hO1:=(sm.trans s1) _ _ hO;refine⟨_,rfl,o,C,dx,_,rfl,hO1,Cc,bf,(by show 0<1000;decide),?_⟩
  -- what lies beside the object
  have np:p1≠o:=(sH (sm _ _ hO) hp1).symm;have h10:H p1=none:=sm.none hp1;have Oz:∀r a,as[r]? =some a->a≠o/\a≠p1:=fun r a e=>⟨fun z=>(by have y:=has r a e;rw[z,sm _ _ hO]at y;cases y),fun z=>(by have y:=has r a e;rw[z,hp1]at y;cases y)⟩;have W2:SqT K (upd (upd H1 p1 (.lst (as.map V.ref))) o (.ins C dx (putF "cells" (.ref p1) []))) wa (wl.map V.int):=((sm.trans s1).tup hW).Iz hO1;have S2:(upd (upd H1 p1 (.lst (as.map V.ref))) o (.ins C dx (putF "cells" (.ref p1) []))) sl=some (.lst (its.map fun p=>V.ref p.1)):=by
   rw[cW (ne_of ((sm.trans s1) _ _ hS) hO1 fun e=>nomatch e)];exact(sm.trans s1) _ _ hS
  have A2:∀r a,as[r]? =some a->(upd (upd H1 p1 (.lst (as.map V.ref))) o (.ins C dx (putF "cells" (.ref p1) []))) a=some (.lst (aZ wl.length ((Sx.start wl.length its.length (gU (its.map (·.2))) (sS wl)).cell r))):=fun r a e=>by
   rw[cW (Oz r a e).1];exact s1 _ _ (has r a e)
  have P2:(upd (upd H1 p1 (.lst (as.map V.ref))) o (.ins C dx (putF "cells" (.ref p1) []))) p1=some (.lst (as.map V.ref)):=by rw[cW np,aB]
  have O2:(upd (upd H1 p1 (.lst (as.map V.ref))) o (.ins C dx (putF "cells" (.ref p1) []))) o=some (.ins C dx [("cells",.ref p1)]):=aB;have Z2:Same H0 (upd (upd H1 p1 (.lst (as.map V.ref))) o (.ins C dx (putF "cells" (.ref p1) []))):=Same.vI (hS0.trans (sm.trans s1)) h0;generalize (upd (upd H1 p1 (.lst (as.map V.ref))) o (.ins C dx (putF "cells" (.ref p1) [])))=H2 at *;refine⟨_,rfl,o,C,dx,_,_,rfl,O2,Cc,bf,rfl,.inl ⟨rfl,_,SqL.of P2⟩,_,rfl,wa,_,rfl,W2,fun hz2=> ?_⟩;let Fp:Nat->List V->St->Hp->Prop:=fun i acc σ H'=>acc=((wl.take i).map fun x=> -x).map V.int/\H'=H2/\∃o2,σ=[o2];refine BZ (xs:=wl.map V.int) Fp ⟨rfl,rfl,_,rfl⟩ (fun i acc σ H' _ y=>by rw[y.2.1];exact W2) (fun i acc σ H' _ y=> ?_) hz2 (fun i v acc σ H' hv y=> ?_) (fun acc σ H' y=> ?_)
  ·rw[y.1,aJ,aJ,rK];exact Cm _ _
  ·obtain⟨rfl,rfl,o2,rfl⟩:=y;rw[dJ]at hv;cases ev:wl[i]? with
   |none=>rw[ev]at hv;cases hv
   |some x=>
    rw[ev]at hv;cases hv;exact⟨_,rfl,_,rfl,by rw[sI,ev,bL,bL];rfl,rfl,_,rfl⟩
  intro p2 hp2;obtain⟨rfl,rfl,_⟩:=y;rw[aJ,qm];have s2:=aM hp2 (.lst ((wl.map fun x=> -x).map V.int));refine⟨(by show 1<=sizeLine;decide),fun p3 hp3=> ?_⟩;have s3:=aM hp3 (.lst [.int 0]);refine⟨p2,p3,_,_,rfl,rfl,s3 _ _ aB,aB,(by rw[aJ,aJ,gR];show _+1<=_;omega),fun p4 hp4=> ?_⟩;have s4:=aM hp4 (.lst ((wl.map fun x=> -x).map V.int++[.int 0]));have zf:=s2.trans (s3.trans s4);rw[Qs (m:=its.length) (L:=its.map (·.2))]at zf s4⊢;have e4:(upd (upd (upd H' p2 (.lst ((wl.map fun x=> -x).map V.int))) p3 (.lst [.int 0])) p4 (.lst (aZ wl.length ((Sx.start wl.length its.length (gU (its.map (·.2))) (sS wl)).cell its.length)))) p4=some (.lst (aZ wl.length ((Sx.start wl.length its.length (gU (its.map (·.2))) (sS wl)).cell its.length))):=aB;have n4:p4≠p1:=(sH (s3 _ _ (s2 _ _ P2)) hp4).symm;have n4o:p4≠o:=(sH (s3 _ _ (s2 _ _ O2)) hp4).symm;have P3:=zf _ _ P2;have O3:=zf _ _ O2;have S3:=zf _ _ S2;have Z3:=Z2.trans zf;have A3:∀r a,as[r]? =some a->_:=fun r a e=>zf _ _ (A2 r a e);generalize (upd (upd (upd H' p2 (.lst ((wl.map fun x=> -x).map V.int))) p3 (.lst [.int 0])) p4 (.lst (aZ wl.length ((Sx.start wl.length its.length (gU (its.map (·.2))) (sS wl)).cell its.length))))=H3 at *;refine⟨p1,_,_,rfl,rfl,P3,(by rw[aJ,gR];omega),?_⟩
  -- all rows
  have h1n:H0 p1=none:=hS0.none h10;have nos:o≠p1:=np.symm;have nsl:sl≠p1:=(sH hS h10);have C4:(upd H3 p1 (.lst (as.map V.ref++[.ref p4]))) p1=some (.lst ((as++[p4]).map V.ref)):=by rw[aB,bL];rfl
  have O4:(upd H3 p1 (.lst (as.map V.ref++[.ref p4]))) o=some (.ins C dx [("cells",.ref p1)]):=by rw[cW nos];exact O3
  have S4:(upd H3 p1 (.lst (as.map V.ref++[.ref p4]))) sl=some (.lst (its.map fun p=>V.ref p.1)):=by rw[cW nsl];exact S3
  have Z4:Same H0 (upd H3 p1 (.lst (as.map V.ref++[.ref p4]))):=Same.vI Z3 h1n;have R4:∀r a,(as++[p4])[r]? =some a->(upd H3 p1 (.lst (as.map V.ref++[.ref p4]))) a=some (.lst (aZ wl.length ((Sx.start wl.length its.length (gU (its.map (·.2))) (sS wl)).cell r)))/\a≠o:=fun r a e=>by
   rw[wcm]at e;by_cases c:r<as.length
   ·rw[aF c]at e;refine⟨?_,(Oz r a e).1⟩;rw[cW (Oz r a e).2];exact A3 r a e
   ·rw[aA c]at e;have er':r-as.length=0:=by
     have:=(nF.mp e).1;have:r-as.length<1:=this;omega
    rw[er']at e;cases e;have:r=its.length:=by omega
    subst this;refine⟨?_,n4o⟩;rw[cW n4];exact e4
  generalize (upd H3 p1 (.lst (as.map V.ref++[.ref p4])))=H4 at *;refine⟨_,rfl,o,C,dx,_,rfl,O4,Cc,dw,(by show 1<1000;decide),?_⟩;have O5:(upd H4 o (.ins C dx (putF "over" (.int 1) [("cells",.ref p1)]))) o=some (.ins C dx [("cells",.ref p1),("over",.int 1)]):=aB;have k5:∀b u,b≠o->H4 b=some u->(upd H4 o (.ins C dx (putF "over" (.int 1) [("cells",.ref p1)]))) b=some u:=fun b u hb e=>by rw[cW hb];exact e
  have nso:sl≠o:=ne_of S4 O4 fun e=>nomatch e
  have C5:=k5 _ _ np C4;have S5:=k5 _ _ nso S4;have Z5:Same H0 (upd H4 o (.ins C dx (putF "over" (.int 1) [("cells",.ref p1)]))):=Same.vI Z4 h0;have R5:∀r a,(as++[p4])[r]? =some a->_:=fun r a e=>k5 _ _ (R4 r a e).2 (R4 r a e).1;generalize (upd H4 o (.ins C dx (putF "over" (.int 1) [("cells",.ref p1)])))=H5 at *;refine⟨_,rfl,(wl.length:Int),rfl,by omega,by omega,fun co hco=> ?_⟩;have s6:=aM hco (.lst (cZ (wl.length:Int).toNat));have O6:=s6 _ _ O5;refine⟨_,rfl,o,C,dx,_,rfl,O6,Cc,aY,(by show 2<1000;decide),?_⟩;have nco:co≠o:=(sH O5 hco).symm;have k7:∀b u,b≠o->(upd H5 co (.lst (cZ (wl.length:Int).toNat))) b=some u->(upd (upd H5 co (.lst (cZ (wl.length:Int).toNat))) o (.ins C dx (putF "columns" (.ref co) [("cells",.ref p1),("over",.int 1)]))) b=some u:=fun b u hb e=>by rw[cW hb];exact e
  have O7:(upd (upd H5 co (.lst (cZ (wl.length:Int).toNat))) o (.ins C dx (putF "columns" (.ref co) [("cells",.ref p1),("over",.int 1)]))) o=some (.ins C dx [("cells",.ref p1),("over",.int 1),("columns",.ref co)]):=aB;have C7:=k7 _ _ np (s6 _ _ C5);have S7:=k7 _ _ nso (s6 _ _ S5);have L7:=k7 _ _ nco aB;have R7:∀r a,(as++[p4])[r]? =some a->_:=fun r a e=>k7 _ _ (R4 r a e).2 (s6 _ _ (R5 r a e));have Z7:Same H0 (upd (upd H5 co (.lst (cZ (wl.length:Int).toNat))) o (.ins C dx (putF "columns" (.ref co) [("cells",.ref p1),("over",.int 1)]))):=Same.vI (Z5.trans s6) h0;have c0:H0 co=none:=Z5.none hco;have ncr:co∉as++[p4]:=fun hm=>by
   obtain⟨r,hr1,e⟩:=Iu hm;have:=R5 r _ (dF hr1);rw[e,hco]at this;cases this
  generalize (upd (upd H5 co (.lst (cZ (wl.length:Int).toNat))) o (.ins C dx (putF "columns" (.ref co) [("cells",.ref p1),("over",.int 1)])))=H7 at *;refine⟨_,rfl,_,rfl,_,rfl,sl,_,rfl,.inl (SqL.of S7),fun _=>⟨_,_,rfl,rfl,_,_,rfl,by omega,?_,?_,fun ro Zq=> ?_⟩⟩
  ·rw[aJ];omega
  ·rw[aJ];omega
  rw[aJ];have s8:=aM Zq (.lst ((pD (wl.length:Int) ((wl.length:Int)+(its.length:Int)-(wl.length:Int)).toNat).map V.int));have O8:=s8 _ _ O7;refine⟨_,rfl,o,C,dx,_,rfl,O8,Cc,cG,(by show 3<1000;decide),?_⟩;have nro:ro≠o:=(sH O7 Zq).symm;have k9:∀b u,b≠o->(upd H7 ro (.lst ((pD (wl.length:Int) ((wl.length:Int)+(its.length:Int)-(wl.length:Int)).toNat).map V.int))) b=some u->(upd (upd H7 ro (.lst ((pD (wl.length:Int) ((wl.length:Int)+(its.length:Int)-(wl.length:Int)).toNat).map V.int))) o (.ins C dx (putF "rows" (.ref ro) [("cells",.ref p1),("over",.int 1),("columns",.ref co)]))) b=some u:=fun b u hb e=>by rw[cW hb];exact e
  refine qq _ ⟨dx,p1,co,ro,as++[p4],Same.vI (Z7.trans s8) h0,h0,h1n,c0,Z7.none Zq,sH L7 Zq,ncr,fun hm=> ?_,aB,k9 _ _ np (s8 _ _ C7),by rw[ql,hl];rfl,fun r a e=>k9 _ _ (R4 r a e).2 (s8 _ _ (R7 r a e)),?_,?_⟩
  ·obtain⟨r,hr1,e⟩:=Iu hm;have:=R7 r _ (dF hr1);rw[e,Zq]at this;cases this
  ·rw[k9 _ _ nco (s8 _ _ L7)];congr 2;unfold cZ cg;rw[vA,show(wl.length:Int).toNat=wl.length by omega];rfl
  ·rw[k9 _ _ nro aB];congr 2;unfold pD cg;rw[show((wl.length:Int)+(its.length:Int)-(wl.length:Int)).toNat=its.length by omega];refine lq _ (Uk fun k _=> ?_);show(wl.length:Int)+(k:Int)=((wl.length+k:Nat):Int);omega
end
noncomputable def aP(a:Int)(b:Nat):Int×Nat:=(a/((Nat.gcd a.natAbs b:Nat):Int),b/Nat.gcd a.natAbs b)
theorem Ca(a:Int){b:Nat}(hb:0<b):Low a b (aP a b).1 (aP a b).2:=yj a b hb
theorem Ah{a:Int}{b:Nat}{u u':Int}{v v':Nat}(hb:0<b)(h:Low a b u v)(h':Low a b u' v'):u=u'/\v=v':=by
 have e1:=h.eq;have e2:=h'.eq;have bi:(0:Int)<(b:Int):=by omega
 have cr:u*(v':Int)=u'*(v:Int):=by
  refine wdn (a:=(b:Int)) (by omega) ?_;have x:(b:Int)*(u*(v':Int))=u*(b:Int)*(v':Int):=by grind
  have y:(b:Int)*(u'*(v:Int))=u'*(b:Int)*(v:Int):=by grind
  rw[x,y,e1,e2];grind
 have cn:u.natAbs*v'=u'.natAbs*v:=by
  have:=lq Int.natAbs cr
  rwa [Yc,Yc,Xi,Xi]at this
 have d1:v∣v':=by
  have:v∣u.natAbs*v':=by rw[cn];exact wcj _ _
  exact(wck h.cop).dvd_of_dvd_mul_left this
 have d2:v'∣v:=by
  have:v'∣u'.natAbs*v:=by rw[<-cn];exact wcj _ _
  exact(wck h'.cop).dvd_of_dvd_mul_left this
 have ev:=Nat.dvd_antisymm d1 d2;subst ev;refine⟨?_,rfl⟩;have hv:=h.pos;exact ydi (a:=(v:Int)) (by omega) cr
theorem DN{a:Int}{b:Nat}{u:Int}{v:Nat}(hb:0<b)(h:Low a b u v):(u,v)=aP a b:=by
 obtain⟨e1,e2⟩:=Ah hb h (Ca a hb);rw[e1,e2]
theorem um{x y:Int}(h:0<x*y)(hy:0<y):0<x:=by
 refine Int.not_le.mp fun hn=> ?_;have:=FW (a:= -x) (b:=y) (by omega) (by omega)
 grind
theorem Aj{a:Int}{b:Nat}(hb:0<b):0<(aP a b).1↔0<a:=by
 have l:=Ca a hb;have e:=l.eq;have hv:(0:Int)<((aP a b).2:Int):=by have:=l.pos;omega
 have bi:(0:Int)<(b:Int):=by omega
 constructor
 ·intro h;have:0<(aP a b).1*(b:Int):=Xo h bi;rw[e]at this;exact um this hv
 ·intro h;have:0<a*((aP a b).2:Int):=Xo h hv;rw[<-e]at this;exact um this bi
structure Sh(n:Nat)(L:List (List Int))(wl:List Int)(ov:Nat)(Z:Int)(Y X:Nat->Int):Prop where
 pos:0<ov
 big:ov<=39916800
 yn:∀k,0<=Y k
 xn:∀p,0<=X p
 tot:Sx.sm L.length Y=Z
 eno:∀p,p<n->(ov:Int)*sS wl p<=Sx.sm L.length fun k=>if gU L k p=true then Y k else 0
 lig:∀k,k<L.length->(Sx.sm n fun p=>if gU L k p=true then X p else 0)<=(ov:Int)
 wor:(Sx.sm n fun p=>sS wl p*X p)=Z
theorem YM{n:Nat}{L:List (List Int)}{wl:List Int}{T:Sx.Tab}(hg:TG n L.length (gU L) (sS wl) T)(hz:∀c,c<n->0<=T.cell L.length c):
  Sh n L wl T.over.toNat (T.cell L.length n) (fun k=>Sx.Ys n L.length T (n+k)) (fun p=>Sx.Xs n L.length T p):=by
 have ho:=hg.over;have eo:((T.over.toNat:Nat):Int)=T.over:=by omega
 refine⟨by omega,by omega,fun k=>Sx.R8 hz _,fun p=>hg.good.SQ _,hg.good.total,fun p hp=> ?_,fun k hk=> ?_,hg.good.prices⟩
 ·rw[eo,hg.good.enough hp];have:=Sx.R8 hz p;omega
 ·rw[eo];exact hg.good.light hk
theorem WM{ts:L0}{n:Nat}{ss:List (List Int)}(h:bQ ss ts false n){p:Nat}(hp:p<n):∃k,k<ss.length/\gU ss k p=true:=by
 have sk:kj ts false n [(p:Int)]:=⟨Pu _ _,fun x hx=>by rw[gY.mp hx];omega,fun x hx y hy hn=>absurd ((gY.mp hx).trans (gY.mp hy).symm) hn⟩;obtain⟨t,ht,hx⟩:=uN sk;have ht':=h.1.mem_iff.mpr ht;obtain⟨k,hk,rfl⟩:=Iu ht';refine⟨k,hk,?_⟩;unfold gU;rw[lg,dF hk];exact cL (hx _ iW)
theorem tW{ts:L0}{n:Nat}{ss:List (List Int)}(h:bQ ss ts false n)(hn:n<=10):ss.length<=36:=by rw[h.1.length_eq];exact wJ hn
noncomputable def iw(ss:List (List Int))(ov:Nat)(Y:Nat->Int):List (List Int×(Int×Nat)):=((List.range ss.length).filter fun k=>decide (0<Y k)).map fun k=>(ss.getD k [],aP (Y k) ov)
noncomputable def gq(n ov:Nat)(X:Nat->Int):List (Int×Nat):=(List.range n).map fun p=>aP (X p) ov
section
variable{K:W.Frag}
noncomputable def p8(K:W.Frag)(H:Hp)(a:Addr)(f:Int×Nat):Prop:=SqT K H a [.int f.1,.int ((f.2:Nat):Int)]
noncomputable def Fo(K:W.Frag)(H:Hp)(v:V)(q:List Int×(Int×Nat)):Prop:=∃t sa fa,v= .ref t/\SqT K H t [.ref sa,.ref fa]/\SqT K H sa (q.1.map V.int)/\p8 K H fa q.2
noncomputable def cP(K:W.Frag)(H:Hp):List V->List (List Int×(Int×Nat))->Prop:=Paired (Fo K H)
noncomputable def dB(K:W.Frag)(H:Hp):List V->List (Int×Nat)->Prop:=Paired fun v f=>∃a,v= .ref a/\p8 K H a f
theorem Fo.same{H H':Hp}{v:V}{q:List Int×(Int×Nat)}(h:Fo K H v q)(s:Same H H'):Fo K H' v q:=by
 obtain⟨t,sa,fa,e,h1,h2,h3⟩:=h;exact⟨t,sa,fa,e,s.tup h1,s.tup h2,s.tup h3⟩
theorem cP.same{H H':Hp}{vs:List V}{l:List (List Int×(Int×Nat))}(h:cP K H vs l)(s:Same H H'):cP K H' vs l:=Paired.mapP h fun _ _ z=>z.same s
theorem dB.same{H H':Hp}{vs:List V}{l:List (Int×Nat)}(h:dB K H vs l)(s:Same H H'):dB K H' vs l:=Paired.mapP h fun _ _ ⟨a,e,z⟩=>⟨a,e,s.tup z⟩
theorem Paired.snoc{α β:Type}{R:α->β->Prop}:∀{l:List α} {m:List β} {a:α} {b:β},Paired R l m->R a b->Paired R (l++[a]) (m++[b])
 |_,_,_,_,.nil,h=> .cons h .nil
 |_,_,_,_,.cons r t,h=> .cons r (Paired.snoc t h)
theorem Paired.at_{α β:Type}{R:α->β->Prop}:∀{l:List α} {m:List β} {i:Nat} {a:α},Paired R l m->l[i]? =some a->∃b,m[i]? =some b/\R a b
 |_,_,_,_,.nil,e=>by simp at e
 |_,_,0,_,.cons r _,e=>by simp at e;subst e;exact⟨_,rfl,r⟩
 |_,_,i+1,a,.cons _ t,e=>by
  obtain⟨b,h1,h2⟩:=Paired.at_ (i:=i) (a:=a) t (by simpa using e);exact⟨b,by simpa using h1,h2⟩
theorem Paired.eX{α β:Type}{R:α->β->Prop}:∀{l:List α} {m:List β},Paired R l m->l.length=m.length
 |_,_,.nil=>rfl
 |_,_,.cons _ t=>by simp[Paired.eX t]
end
section
variable{P:ξ}{w:τ}{K:W.Frag}{mg:L5}{base:Heap}
noncomputable def yJ(n:Int)(wl:List Int):Prop:=(wl.length:Int)=n/\∀x∈wl,0<=x/\x<=99
theorem all_true(k:Nat):(List.replicate k true).all id=true:=by
 rw[j4];intro b hb;rw[(List.mem_replicate.mp hb).2];rfl
noncomputable def lC(K:W.Frag):Sp:=fun vs H Q _=>∃(a wa:Addr) (n:Int) (t:V) (wl:List Int),vs=[.ref a,.ref wa]/\SqT K H a [.int n,t]/\SqT K H wa (wl.map V.int)/\yJ n wl/\∀H',Same H H'->Q .non H'
theorem xW{f f1:Addr}{fd d1:ρ}{tk0:Tok}(F:Fun K "need_wants" "need_wants" fM f fd)(D1:bC K mg "is_whole" eF ["thing"] f1 d1)(G1:FnOk P w K mg base CX0 1 f1 d1 ["thing"] (oY K))(bN:mg "len"=none)(au:mg "isinstance"=none)(aH:mg "tuple"=none)(pL:mg "all"=none)(Ag:mg "MOST_WANT"=some (.int 99 tk0)):
  FnOk P w K mg base CX0 2 f fd ["web","thing"] (lC K):=by
 refine F.bZ ["web","thing"] fun cdv A outer s H vs Q E hr h=> ?_;obtain⟨a,wa,n,t,wl,rfl,hA,hW,⟨hl,hb⟩,qq⟩:=h;refine aW ?_;intro Y;refine⟨_,(aL (dZ (PW.pt (qg (kY (iY (pB wR au (aj (pv 1) (aj (pN "tuple" aH) ak))))) (yV (cR op_ne (pB vm bN (aj (pv 1) ak)) (aQ bD (pv 0) ao))))) Pj eG) (aR (dZ (kY (iY (pB (eY rfl) pL (aj (pK ["want"] [] [] (BW (pv 1)) (pG 0) nP (zp (pc G1 hr D1 (aj (pv 0) ak)) (pe_one (pe_chain op_le op_le ao (pv 0) (pe_glob rfl Ag (v:= .int 99) ⟨_,rfl⟩))))) ak)))) Pj eG))),?_⟩;refine lR ?_;intro c2;refine⟨_,rfl,.ref wa,"tuple",_,rfl,.inl ⟨rfl,_,hW⟩,.inr (.inr (.inl rfl)),_,rfl,?_⟩;refine iteF ?_;refine⟨_,rfl,wa,_,rfl,.inr hW,fun hz=>⟨_,rfl,a,_,_,.int n,rfl,rfl,hA,rfl,rfl,_,rfl,?_⟩⟩;have e1:(!decide (V.int (((wl.map V.int).length:Nat):Int)=V.int n))=false:=by rw[aJ,hl];simp
 rw[e1];refine iteF ?_;refine⟨_,rfl,wa,_,rfl,hW,fun hz=> ?_⟩;let gF:Nat->List V->St->Hp->Prop:=fun i acc σ H'=>acc=(List.replicate i true).map V.bl/\H'=H/\∃o,σ=[o];refine BZ (xs:=wl.map V.int) gF ⟨rfl,rfl,_,rfl⟩ (fun i acc σ H' _ p=>by rw[p.2.1];exact hW) (fun i acc σ H' _ p=>by rw[p.1,aJ,Uo];exact aX _) hz (fun i x acc σ H' hx p=> ?_) (fun acc σ H' p=> ?_)
 ·obtain⟨rfl,rfl,o,rfl⟩:=p;rw[dJ]at hx;cases ex:wl[i]? with
  |none=>rw[ex]at hx;cases hx
  |some y=>
   rw[ex]at hx;cases hx;have hy:=hb y (sO ex);refine⟨_,rfl,.int y,.int y,rfl,.int _,_,rfl,iteT ?_⟩;refine⟨_,rfl,_,_,rfl,rfl,_,rfl,?_⟩;rw[cL hy.1];refine iteT ?_;refine⟨_,_,rfl,rfl,?_,rfl,_,rfl⟩;show _++[V.bl (decide (y<=99))]=_;rw[cL hy.2,wcn,bL];rfl
 ·intro p1 hp1;obtain⟨rfl,rfl,_⟩:=p;refine⟨p1,_,rfl,SqL.of aB,_,rfl,?_⟩;rw[all_true];exact iteF (qq _ (aM hp1 _))
noncomputable def tO(K:W.Frag):Sp:=fun vs H Q _=>∃(a wa:Addr) (n:Int) (ts:L0) (wl:List Int),vs=[.ref a,.ref wa]/\aO K H a n ts/\SqT K H wa (wl.map V.int)/\yJ n wl/\
 ∀(r va la pa:Addr) (lrefs Tw:List V) (ss:List (List Int)) (ov:Nat) (Z:Int) (Y X:Nat->Int) H',Same H H'->H' r=some (.tup [.ref va,.ref la,.ref pa])->p8 K H' va (aP Z ov)->H' la=some (.lst lrefs)->cP K H' lrefs (iw ss ov Y)->H' pa=some (.lst Tw)->dB K H' Tw (gq n.toNat ov X)->
  bQ ss ts false n.toNat->Sh n.toNat ss wl ov Z Y X->H la=none->H pa=none->la≠pa->Q (.ref r) H'
theorem Ji{f f1 f2 f3 f4 f5 f6 f7 f8 C:Addr}{fd d1 d2 d3 d4 d5 d6 d7 d8:ρ}(F:Fun K "shares" "shares" pq f fd)
  (Cc:Cls K C)(bf:NoAttr K C "cells")(dw:NoAttr K C "over")(aY:NoAttr K C "columns")(cG:NoAttr K C "rows")(qJ:mg "Tableau"=some (.ref C))(D1:bC K mg "need_web" T9 ["thing"] f1 d1)(G1:FnOk P w K mg base CX0 7 f1 d1 ["thing"] (fQ K))(D2:bC K mg "need_wants" fM ["web","thing"] f2 d2)(G2:FnOk P w K mg base CX0 2 f2 d2 ["web","thing"] (lC K))(D3:bC K mg "full_apart" jK ["web"] f3 d3)(G3:FnOk P w K mg base CX0 8 f3 d3 ["web"] (rD K))(D4:oH K C "__init__" "Tableau.__init__" gj ["self","sets","wants"] f4 d4)(Mk4:Mk K C f4)(W8:FnOk P w K mg base CX0 1 f4 d4 ["self","sets","wants"] (CG K C))(D5:oH K C "solve" "Tableau.solve" fD ["self"] f5 d5)(G5':FnOk P w K mg base CX0 3 f5 d5 ["self"] (Ks K C))(D6:oH K C "share_of" "Tableau.share_of" zct ["self","name"] f6 d6)(G6':FnOk P w K mg base CX0 4 f6 d6 ["self","name"] (Ku K C))(D7:oH K C "price_of" "Tableau.price_of" zcu ["self","name"] f7 d7)(G7':FnOk P w K mg base CX0 4 f7 d7 ["self","name"] (Kv K C))(D8:oH K C "fraction_at" "Tableau.fraction_at" X7 ["self","row","column"] f8 d8)(G8':FnOk P w K mg base CX0 3 f8 d8 ["self","row","column"] (zG K C))(bO:mg "enumerate"=none)(aK:mg "range"=none):
  FnOk P w K mg base CX0 9 f fd ["web","wants"] (tO K):=by
 have G4m:FnOk P w K mg base CX0 7 f4 d4 ["self","sets","wants"] (CG K C):=W8.mono (by decide);have G5:FnOk P w K mg base CX0 8 f5 d5 ["self"] (Ks K C):=G5'.mono (by decide);have G6:FnOk P w K mg base CX0 8 f6 d6 ["self","name"] (Ku K C):=G6'.mono (by decide);have G7:FnOk P w K mg base CX0 8 f7 d7 ["self","name"] (Kv K C):=G7'.mono (by decide);have G8:FnOk P w K mg base CX0 8 f8 d8 ["self","row","column"] (zG K C):=G8'.mono (by decide);refine F.bZ ["web","wants","n","sets","tableau","given","laying","prices"] fun cdv A outer s H vs Q E hr h=> ?_;obtain⟨a,wa,n,ts,wl,rfl,hA,hW,hwl,qq⟩:=h;refine aW ?_;intro Y;refine⟨_,(aL (qj (pc G1 hr D1 (aj (pv 0) ak))) (aL (qj (pc G2 hr D2 (aj (pv 0) (aj (pv 1) ak)))) (aL (pS 2 (aQ bD (pv 0) ao)) (aL (pS 3 (pc G3 hr D3 (aj (pv 0) ak))) (aL (pS 4 (pe_make Mk4 G4m hr rfl qJ D4.b .nil pass0 (aj (pv 3) (aj (pv 1) ak)))) (aL (qj (JQ (pv 4) Cc D5.m G5 hr D5.b .nil pass0)) (aL (pX 5 ["k","some"] ["tableau","n"] [4,2] (pF rfl bO (aj (pv 3) ak)) (JN K (n:=2) rfl (mH (pG 0) (mH (pG 1) zq))) nP (dW (aj (pv 1) (aj (v7 (pv 2) Cc D6.m G6 hr D6.b .nil pass0 (aj (bA nu (pv 3) (pv 0)) ak)) ak)))) (aL (pX 6 ["share"] [] [] (sG (pv 5)) (pG 0) (BX (cR op_gt (aQ (Cg K) (aQ (Cg K) (pv 0) ao) ao) ao)) (pv 0)) (aL (pX 7 ["place"] ["tableau"] [4] (Io rfl aK (aj (pv 2) ak)) (pG 0) nP (v7 (pv 1) Cc D7.m G7 hr D7.b .nil pass0 (aj (pv 0) ak))) (aR (bB (dW (aj (v7 (pv 4) Cc D8.m G8 hr D8.b .nil pass0 (aj (pe_un un_neg ao) (aj (pe_un un_neg ao) ak))) (aj (pv 6) (aj (pv 7) ak))))))))))))))),?_⟩;refine Wf ?_;intro c10 c9 c8 c7 c6 c5 c4 c3 c2;have h0:=hA.h0;have h10:=hA.h1;refine⟨_,rfl,.ref a,_,rfl,hA.web.dv.dx,hA.ok,fun H1 s1=> ?_⟩;obtain⟨tt1,rr1,w1,w2,w3⟩:=id (hA.same s1).web;refine⟨_,rfl,_,rfl,a,wa,n,_,wl,rfl,w1,s1.tup hW,hwl,fun H2 s2=> ?_⟩;have s12:=s1.trans s2;have hA2:=hA.same s12;obtain⟨tt2,rr2,x1,x2,x3⟩:=id hA2.web;refine⟨_,rfl,a,_,_,.int n,rfl,rfl,x1,rfl,?_⟩;refine⟨_,rfl,a,n,ts,rfl,hA2,fun sl ss H3 s3 aa' Nt hsl=> ?_⟩;obtain⟨its,hS,hP,hss⟩:=aa';have oV:=s12.trans s3;have hm:its.length=ss.length:=by rw[<-hss,aJ]
 have abz:=tW Nt (by omega);have hwn:wl.length=n.toNat:=by have:=hwl.1;omega
 refine⟨_,rfl,_,rfl,fun o dx ho hdx hne=> ?_⟩;have sM:Same H3 (upd (upd H3 dx (.own o)) o (.ins C dx [])):=(aM hdx _).trans (aM (by rw[cW (way hne)];exact ho) _);refine⟨o,dx,sl,wa,H3,its,wl,rfl,aB,sM,ho,sM _ _ hS,fun p hp=>sM.tup (hP p hp),sM.tup (oV.tup hW),by omega,by omega,fun H4 XC=>⟨rfl,?_⟩⟩;rw[hss,hm,hwn]at XC;have ZG:Sta n.toNat ss.length (gU ss) (sS wl):=by
  refine⟨by omega,by omega,fun p hp=> ?_,fun p hp=>WM Nt hp⟩;unfold sS;rw[lg,dF (by omega)];exact hwl.2 _ (Cd _)
 obtain⟨dx4,cl4,co4,ro4,rw4,hA4⟩:=id XC;refine⟨_,rfl,o,dx4,_,rfl,hA4.at_,rfl,o,H3,n.toNat,ss.length,gU ss,sS wl,_,rfl,XC,ZG,Sx.Cz,fun T H5 hT5 hg5 hz5=> ?_⟩;have hG:=ZG.tg hg5;have hSh:=YM hG hz5;obtain⟨dx5,cl5,co5,ro5,rw5,hA5⟩:=id hT5;have Gz:=hA5.same;have Dm:=hSh.pos;generalize hY:(fun k=>Sx.Ys n.toNat ss.length T (n.toNat+k))=Y at *;generalize hX:(fun p=>Sx.Xs n.toNat ss.length T p)=X at *
 -- given
 refine⟨_,rfl,false,sl,_,rfl,SqL.of (Gz _ _ hS),fun hz=> ?_⟩;let p7:Nat->List V->St->Hp->Prop:=fun i acc σ H'=>cP K H' acc ((List.range i).map fun k=>(ss.getD k [],aP (Y k) T.over.toNat))/\Same H5 H'/\∃o1 o2,σ=[o1,o2,some (.ref o),some (.int n)];refine mW (K:=K) (b:=false) (a:=sl) (xs:=its.map fun p=>V.ref p.1) p7 ⟨.nil,Same.refl _,_,_,rfl⟩ (fun i acc σ H' _ p=>p.2.1.seq (SqL.of (Gz _ _ hS))) (fun i acc σ H' _ p=> ?_) hz (fun i v t acc σ H' hv p ht=> ?_) (fun acc σ H' p=> ?_)
 ·rw[Paired.eX p.1,aJ,vo];exact aX _
 ·obtain⟨hl,sm,o1,o2,rfl⟩:=p;rw[dJ]at hv;cases ev:its[i]? with
  |none=>rw[ev]at hv;cases hv
  |some it=>
   rw[ev]at hv;cases hv;have eg:ss.getD i []=it.2:=by rw[<-hss,lg,dJ,ev];rfl
   have t1:=aM ht (.tup [.int (i:Int),.ref it.1]);have Xz:=hT5.sm (sm.trans t1);obtain⟨dx6,cl6,co6,ro6,rw6,hA6⟩:=id Xz;refine⟨t,_,rfl,SqT.of aB,rfl,_,_,rfl,_,_,rfl,rfl,?_⟩;refine⟨_,rfl,_,rfl,o,dx6,_,rfl,hA6.at_,rfl,_,rfl,_,rfl,_,_,rfl,rfl,o,H3,n.toNat,ss.length,n.toNat+i,gU ss,sS wl,T,?_,Xz,hG,fun fa H7 u v' s7 e7 l7=> ?_⟩
   ·rw[show(((n.toNat+i:Nat)):Int)=n+(i:Int) by omega];rfl
   ·refine⟨(by show 2<=sizeLine;decide),fun tp htp=> ?_⟩;have s8:=aM htp (.tup [.ref it.1,.ref fa]);have s68:=t1.trans (s7.trans s8);have hlow:(u,v')=aP (Y i) T.over.toNat:=by rw[<-hY];exact DN Dm l7
    refine⟨?_,sm.trans s68,_,_,rfl⟩;rw[yZ,bL];refine Paired.snoc (cP.same hl s68) ⟨tp,it.1,fa,rfl,SqT.of aB,?_,?_⟩
    ·show SqT K _ it.1 ((ss.getD i []).map V.int);rw[eg];exact(Gz.trans (sm.trans s68)).tup (hP it (sO ev))
    ·show p8 K _ fa (aP (Y i) T.over.toNat);rw[<-hlow];exact s8.tup (SqT.of e7)
 intro gl hgl;obtain⟨hl,sm5,_⟩:=p;rw[aJ,hm]at hl;have g1:=aM hgl (.lst acc);have s6:=sm5.trans g1;have eg1:(upd H' gl (.lst acc)) gl=some (.lst acc):=aB;have Zw:=cP.same hl g1;generalize (upd H' gl (.lst acc))=H6 at *
 -- laying
 refine⟨_,rfl,gl,_,rfl,SqL.of eg1,fun hz=> ?_⟩;let Fp:Nat->List V->St->Hp->Prop:=fun i acc' σ H'=>H'=H6/\cP K H6 acc' (((List.range i).filter fun k=>decide (0<Y k)).map fun k=>(ss.getD k [],aP (Y k) T.over.toNat))/\∃o1,σ=[o1];refine wU (xs:=acc) Fp ⟨rfl,.nil,_,rfl⟩ (fun i acc' σ H' _ p=>by rw[p.1];exact SqL.of eg1) (fun i acc' σ H' _ p=> ?_) hz (fun i v acc' σ H' hv p=> ?_) (fun acc' σ H' p=> ?_)
 ·rw[Paired.eX p.2.1,aJ];exact cT (vC _ _) (by rw[vo];exact aX _)
 ·obtain⟨rfl,hl',o1,rfl⟩:=p;obtain⟨qv,eq1,hv1⟩:=Paired.at_ Zw hv;have hi:i<ss.length:=by
   have:=(nF.mp hv).1;rw[Paired.eX Zw,aJ,vo]at this;exact this
  rw[dJ,Sw hi]at eq1;have eq2:qv=(ss.getD i [],aP (Y i) T.over.toNat):=(sU eq1).symm;obtain⟨t,sa,fa,rfl,h1,h2,h3⟩:=id hv1;have h3':p8 K H' fa (aP (Y i) T.over.toNat):=by rw[eq2]at h3;exact h3
  refine⟨_,rfl,t,_,_,.ref fa,rfl,rfl,h1,rfl,fa,_,_,.int (aP (Y i) T.over.toNat).1,rfl,rfl,h3',rfl,_,_,rfl,rfl,_,rfl,?_⟩;have go:((List.range (i+1)).filter fun k=>decide (0<Y k))=((List.range i).filter fun k=>decide (0<Y k))++(if decide (0<Y i)=true then[i]else[]):=by
   rw[yZ,Cq];congr 1;rw[Cp];split<;>rfl
  have ed:decide (0<(aP (Y i) T.over.toNat).1)=decide (0<Y i):=decide_eq_decide.mpr (Aj Dm);refine ite2 (fun c=> ?_) (fun c=> ?_)
  ·have c':decide (0<Y i)=true:=by rw[<-ed];exact c
   refine⟨_,rfl,rfl,?_,_,rfl⟩;rw[go,aF c',bL];refine Paired.snoc hl' ?_;rw[eq2]at hv1;exact hv1
  ·have c':¬decide (0<Y i)=true:=by rw[<-ed];exact c
   refine⟨rfl,?_,_,rfl⟩;rw[go,aA c',zx];exact hl'
 intro la hla;obtain⟨rfl,hlay,_⟩:=p;rw[Paired.eX Zw,aJ,vo]at hlay;have g2:=aM hla (.lst acc');have s7:=s6.trans g2;have ela:(upd H' la (.lst acc')) la=some (.lst acc'):=aB;have Zv:=cP.same hlay g2;have Aq:=hT5.sm s7;generalize (upd H' la (.lst acc'))=H7 at *
 -- prices
 refine⟨_,rfl,n,rfl,by omega,by omega,?_⟩;let W7:Nat->List V->St->Hp->Prop:=fun i yI σ H2=>dB K H2 yI ((List.range i).map fun p=>aP (X p) T.over.toNat)/\Same H7 H2/\∃o1,σ=[o1,some (.ref o)];refine R6 (n:=n.toNat) W7 ⟨.nil,Same.refl _,_,rfl⟩ (fun i yI σ H2 hi p=> ?_) (by rw[gR];omega) (fun i yI σ H2 hi p=> ?_) (fun yI σ H2 p=> ?_)
 ·rw[Paired.eX p.1,aJ,vo];exact aX _
 ·obtain⟨hf,sm,o1,rfl⟩:=p;have hT8:=Aq.sm sm;obtain⟨dx8,cl8,co8,ro8,rw8,hA8⟩:=id hT8;refine⟨_,rfl,o,dx8,_,rfl,hA8.at_,rfl,_,rfl,o,H3,n.toNat,ss.length,i,gU ss,sS wl,T,by rw[Xf];rfl,hT8,hG,fun fa H9 u v' s9 e9 l9=> ?_⟩;have hlow:(u,v')=aP (X i) T.over.toNat:=by rw[<-hX];exact DN Dm l9
  refine⟨?_,sm.trans s9,_,rfl⟩;rw[yZ,bL];refine Paired.snoc (dB.same hf s9) ⟨fa,rfl,?_⟩;show p8 K H9 fa (aP (X i) T.over.toNat);rw[<-hlow];exact SqT.of e9
 intro pa hpa;obtain⟨hf,sm7,_⟩:=p;have g3:=aM hpa (.lst yI);have s8:=sm7.trans g3;have epa:(upd H2 pa (.lst yI)) pa=some (.lst yI):=aB;have hf8:=dB.same hf g3;have hT8:=Aq.sm s8;have nlp:la≠pa:=sH (sm7 _ _ ela) hpa;generalize (upd H2 pa (.lst yI))=H8 at *;obtain⟨dx8,cl8,co8,ro8,rw8,hA8⟩:=id hT8;refine⟨_,rfl,o,dx8,_,rfl,hA8.at_,rfl,_,rfl,_,rfl,o,H3,n.toNat,ss.length,ss.length,n.toNat,_,_,gU ss,sS wl,T,rfl,hT8,hG,.inr ⟨rfl,rfl⟩,.inr ⟨rfl,rfl⟩,fun va H9 u v' s9 e9 l9=> ?_⟩;refine⟨_,rfl,_,rfl,(by show 3<=sizeLine;decide),fun r hr'=> ?_⟩;have s10:=aM hr' (.tup [.ref va,.ref la,.ref pa]);have Lj:=s9.trans s10;have hlow:(u,v')=aP (T.cell ss.length n.toNat) T.over.toNat:=DN Dm l9;refine qq r va la pa acc' yI ss T.over.toNat (T.cell ss.length n.toNat) Y X _ (oV.trans (Gz.trans (s7.trans (s8.trans Lj)))) aB ?_ ((s8.trans Lj) _ _ ela) (cP.same Zv (s8.trans Lj)) (Lj _ _ epa) (dB.same hf8 Lj) Nt hSh ?_ ?_ nlp
 ·rw[<-hlow];exact s10.tup (SqT.of e9)
 ·exact(oV.trans (Gz.trans s6)).none hla
 ·exact(oV.trans (Gz.trans (s7.trans sm7))).none hpa
theorem UW{b:Bool}{H:Hp}{a:Addr}{xs:List V}(h:PJ K b H a xs):SqL K H a xs\/SqT K H a xs:=by
 cases b with
 |false=>exact .inl h
 |true=>exact .inr h
noncomputable def Gs(K:W.Frag):Sp:=fun vs H Q _=>∃(b:Bool) (a l:Addr) (n:Int) (ts:L0) (xs:List Int),vs=[.ref a,.ref l]/\aO K H a n ts/\PJ K b H l (xs.map V.int)/\∀H',Same H H'->Q (.int ((ts.filter (inB xs)).length:Int)) H'
theorem Mx{f:Addr}{fd:ρ}(F:Fun K "count_ties_in" "count_ties_in" fB f fd)(bN:mg "len"=none):
  FnOk P w K mg base CX0 1 f fd ["web","some"] (Gs K):=by
 refine F.bZ ["web","some"] fun cdv A outer s H vs Q E hr h=> ?_;obtain⟨b,a,l,n,ts,xs,rfl,hA,hL,q⟩:=h;refine⟨_,(aR (bB (pB vm bN (aj (pK ["tie"] ["some"] [1] (BW (aQ bD (pv 0) ao)) (pG 0) (BX (PW.pt (pw_and (cR (jM K hr.units) (aQ (Cg K) (pv 0) ao) (pv 1) (by with_unfolding_all rfl)) (pw_and1 (cR (jM K hr.units) (aQ (Cg K) (pv 0) ao) (pv 1) (by with_unfolding_all rfl)))))) (pv 0)) ak)))),?_⟩;obtain⟨ta,ra,a1,a2,a3⟩:=id hA.web;have hra:=a3.len;rw[aJ]at hra;have XD:=hA.len;refine⟨_,rfl,a,_,_,.ref ta,rfl,rfl,a1,rfl,ta,ra,rfl,a2,fun hz=> ?_⟩;let gF:Nat->List V->St->Hp->Prop:=fun i acc σ H'=>acc.length=((ts.take i).filter (inB xs)).length/\Same H H'/\∃o,σ=[o,some (.ref l)];refine BZ (xs:=ra) gF ⟨rfl,Same.refl _,_,rfl⟩ (fun i acc σ H' _ p=>p.2.1.tup a2) (fun i acc σ H' hi p=> ?_) hz (fun i x acc σ H' hx p=> ?_) (fun acc σ H' p=> ?_)
 ·rw[p.1];exact cT (vC _ _) (by rw[rK];exact Cm _ _)
 ·obtain⟨ea,sm,o,rfl⟩:=p;obtain⟨t,hi,rfl,ht⟩:=GQ a3 hx;have hl:=UW (hL.same sm);have e:∀(acc':List V) (c:Bool),c=inB xs ts[i]->acc'.length=acc.length+(if c=true then 1 else 0)->acc'.length=((ts.take (i+1)).filter (inB xs)).length:=fun acc' c hc hl=>by
   rw[zcl hi,ql,<-ea,hl,<-hc];cases c<;>rfl
  refine⟨_,rfl,t,_,_,.int (ts[i]).1,rfl,rfl,sm.tup ht,rfl,_,rfl,l,_,_,.int (ts[i]).1,rfl,hl,cN.ints xs,.int _,Ik xs,rfl,(by show 0<=60;decide),_,rfl,?_⟩;rw[any_ints];refine ite2 (fun c=> ?_) (fun c=> ?_)
  ·refine⟨_,rfl,t,_,_,.int (ts[i]).2,rfl,rfl,sm.tup ht,rfl,_,rfl,l,_,_,.int (ts[i]).2,rfl,hl,cN.ints xs,.int _,Ik xs,rfl,(by show 0<=60;decide),_,rfl,?_⟩;rw[any_ints];refine ite2 (fun c2=> ?_) (fun c2=> ?_)
   ·exact⟨_,rfl,e _ true (by unfold inB;rw[c,c2];rfl) (by rw[ql];rfl),sm,_,rfl⟩
   ·exact⟨e _ false (by unfold inB;rw[c,Bool.eq_false_iff.mpr c2];rfl) rfl,sm,_,rfl⟩
  ·exact⟨e _ false (by unfold inB;rw[Bool.eq_false_iff.mpr c];rfl) rfl,sm,_,rfl⟩
 ·intro p1 hp1;obtain⟨ea,sm,_⟩:=p;refine⟨p1,acc,rfl,.inl (SqL.of aB),fun _=> ?_⟩;rw[ea,hra,qm];exact q _ (sm.trans (aM hp1 (.lst acc)))
theorem uw{b:Bool}(h:(!b)=true):b=false:=by cases b<;>first |rfl|cases h
theorem ux{b:Bool}(h:¬(!b)=true):b=true:=by cases b<;>first |rfl|exact absurd rfl h
noncomputable def frB:θ->Bool
 | .tuple [x,y]=>fW x&&(fW y&&(decide (0<=intD x)&&(decide (1<=intD y)&&decide (intD y<=1000000000))))
 |_=>false
theorem mK:∀{d:θ},fW d=true->∃i,d= .int i
 | .int i,_=>⟨i,rfl⟩
theorem Oc{d:θ}(h:frB d=true):∃(u:Int) (v:Nat),d= .tuple [.int u,.int ((v:Nat):Int)]/\0<=u/\0<v/\v<=1000000000:=by
 unfold frB at h;split at h
 ·rename_i x y;simp only[kO,Px]at h;obtain⟨h1,h2,h3,h4,h5⟩:=h;obtain⟨u,rfl⟩:=mK h1;obtain⟨v,rfl⟩:=mK h2;have h4':1<=v:=h4;have h5':v<=1000000000:=h5;refine⟨u,v.toNat,?_,h3,by omega,by omega⟩;rw[show((v.toNat:Nat):Int)=v by omega]
 ·cases h
theorem _root_.L2.DX.ints{H:Hp}{x:V}{i:Int}(h:DX K H x (.int i)):x= .int i:=by cases h;rfl
theorem Ka{H:Hp}{x:V}{d:θ}(hx:DX K H x d):(∃a x0 x1 d0 d1,x= .ref a/\d= .tuple [d0,d1]/\SqT K H a [x0,x1]/\DX K H x0 d0/\DX K H x1 d1)\/(∃a xs ds,x= .ref a/\d= .tuple ds/\SqT K H a xs/\xs.length=ds.length/\ds.length≠2)\/lO d≠"tuple":=by
 cases hx with
 | @tup a xs ds h t=>
  have hl:=t.len;by_cases e:ds.length=2
  ·cases t with
   |nil=>simp at e
   |cons h0 t0=>
    cases t0 with
    |nil=>simp at e
    |cons h1 t1=>
     cases t1 with
     |cons _ _=>simp at e
     |nil=>exact .inl ⟨a,_,_,_,_,rfl,rfl,h,h0,h1⟩
  ·exact .inr (.inl ⟨a,xs,ds,rfl,rfl,h,by omega,e⟩)
 |_=>exact .inr (.inr (by simp[lO]))
theorem RJ{ds:List θ}(h:ds.length≠2):frB (.tuple ds)=false:=by
 match ds,h with
 |[],_=>rfl
 |[_],_=>rfl
 |[_,_],h=>exact absurd rfl h
 |_::_::_::_,_=>rfl
theorem Od{d:θ}(h:lO d≠"tuple"):frB d=false:=by
 cases d<;>first |rfl|exact absurd rfl h
noncomputable def Tj(K:W.Frag):Sp:=fun vs H Q _=>∃(x:V) (d:θ),vs=[x]/\DX K H x d/\Q (.bl (frB d)) H
theorem QZ{f f1:Addr}{fd d1:ρ}{tk0:Tok}(F:Fun K "is_fraction" "is_fraction" iI f fd)(D1:bC K mg "is_whole" eF ["thing"] f1 d1)(G1:FnOk P w K mg base CX0 1 f1 d1 ["thing"] (oY K))(bN:mg "len"=none)(au:mg "isinstance"=none)(aH:mg "tuple"=none)(vM:mg "MOST_BOTTOM"=some (.int 1000000000 tk0)):
  FnOk P w K mg base CX0 2 f fd ["thing"] (Tj K):=by
 refine F.bZ ["thing"] fun cdv A outer s H vs Q E hr h=> ?_;obtain⟨x,d,rfl,hx,q⟩:=h;refine aW ?_;intro Y;refine⟨_,(aL (dZ (PW.pt (qg (kY (iY (pB wR au (aj (pv 0) (aj (pN "tuple" aH) ak))))) (qg (cR op_ne (pB vm bN (aj (pv 0) ak)) ao) (qg (kY (iY (pc G1 hr D1 (aj (aQ bD (pv 0) ao) ak)))) (yV (kY (iY (pc G1 hr D1 (aj (aQ bD (pv 0) ao) ak))))))))) (aR (bB qZ)) eG) (aR (bB (zp (wQ op_ge (aQ bD (pv 0) ao) ao) (pe_one (pe_chain op_le op_le ao (aQ bD (pv 0) ao) (pe_glob rfl vM (v:= .int 1000000000) ⟨_,rfl⟩))))))),?_⟩;refine lR ?_;intro c2;have no:frB d=false->Q (.bl false) H:=fun e=>by rw[e]at q;exact q
 refine⟨_,rfl,x,_,_,rfl,hx.kind,.inr (.inr (.inl rfl)),_,rfl,?_⟩;rcases Ka hx with⟨a,x0,x1,d0,d1,rfl,rfl,h,h0,h1⟩|⟨a,xs,ds,rfl,rfl,h,el,hn⟩|hk
 ·refine iteF ?_;refine⟨_,rfl,a,_,rfl,.inr h,fun hz=>⟨rfl,_,rfl,?_⟩⟩;refine iteF ?_;refine⟨_,rfl,a,_,_,x0,rfl,rfl,h,rfl,x0,d0,rfl,h0,_,rfl,?_⟩;refine ite2 (fun c=> ?_) (fun c=> ?_)
  ·exact no (by show(fW d0&&_)=false;rw[uw c];rfl)
  have c:=ux c;refine⟨_,rfl,a,_,_,x1,rfl,rfl,h,rfl,x1,d1,rfl,h1,_,rfl,?_⟩;refine ite2 (fun c2=> ?_) (fun c2=> ?_)
  ·exact no (by show(fW d0&&(fW d1&&_))=false;rw[c,uw c2];rfl)
  have c2:=ux c2;obtain⟨u,rfl⟩:=mK c;obtain⟨v,rfl⟩:=mK c2;obtain rfl:=h0.ints;obtain rfl:=h1.ints;have e:frB (.tuple [.int u,.int v])=(decide (0<=u)&&(decide (1<=v)&&decide (v<=1000000000))):=rfl;rw[e]at q no;refine⟨_,rfl,a,_,_,.int u,rfl,rfl,h,rfl,_,_,rfl,rfl,_,rfl,?_⟩;refine ite2 (fun c3=> ?_) (fun c3=> ?_)
  ·have c3:0<=u:=fX c3;rw[cL c3]at q no;refine⟨_,rfl,a,_,_,.int v,rfl,rfl,h,rfl,_,_,rfl,rfl,_,rfl,?_⟩;refine ite2 (fun c4=> ?_) (fun c4=> ?_)
   ·have c4:1<=v:=fX c4;rw[cL c4]at q;exact⟨_,_,rfl,rfl,q⟩
   ·exact no (by rw[Bool.eq_false_iff.mpr c4];rfl)
  ·exact no (by rw[fO (fun z=>c3 (cL z))];rfl)
 ·refine iteF ?_;refine⟨_,rfl,a,_,rfl,.inr h,fun hz=>⟨rfl,_,rfl,?_⟩⟩;refine ite2 (fun c=>no (RJ hn)) (fun c=> ?_);exfalso;have c:¬(!decide (V.int (xs.length:Int)=V.int 2))=true:=c;simp at c;omega
 ·refine ite2 (fun c=>no (Od hk)) (fun c=> ?_);exfalso;cases d<;>first |exact hk rfl|(simp[oE,lO]at c;done)
noncomputable def KJ(K:W.Frag):Sp:=fun vs H Q _=>∃(a:Addr) (xs:List V) (ls:List (List Int)),vs=[.ref a]/\SqL K H a xs/\Paired (fun v l=>∃p,v= .ref p/\SqT K H p (l.map V.int)) xs ls/\∀H',Same H H'->Q (.bl (dh ls)) H'
theorem Dr{f:Addr}{fd:ρ}(F:Fun K "is_rising" "is_rising" Xb f fd)(pL:mg "all"=none)(aK:mg "range"=none)(bN:mg "len"=none):
  FnOk P w K mg base CX0 1 f fd ["things"] (KJ K):=by
 refine F.bZ ["things"] fun cdv A outer s H vs Q E hr h=> ?_;obtain⟨a,xs,ls,rfl,hS,hP,q⟩:=h;refine⟨_,(aR (bB (pB (eY rfl) pL (aj (pK ["k"] ["things"] [0] (pi_range2 rfl aK (aj ao (aj (pB vm bN (aj (pv 0) ak)) ak))) (pG 0) nP (wQ (GR K hr.units0) (aQ (gA K) (pv 1) (bA op_sub (pv 0) ao)) (aQ (gA K) (pv 1) (pv 0)))) ak)))),?_⟩;have hl:=Paired.eX hP;refine⟨_,rfl,a,xs,rfl,.inl hS,fun hz=>⟨1,_,rfl,⟨by omega,by omega,by omega,by omega⟩,?_⟩⟩;have en:((xs.length:Int)-1).toNat=ls.length-1:=by omega
 rw[en];let gF:Nat->List V->St->Hp->Prop:=fun i acc σ H'=>acc=((List.range i).map fun k=>HT.lexLt (ls.getD k []) (ls.getD (k+1) [])).map V.bl/\Same H H'/\∃o,σ=[o,some (.ref a)];refine R6 gF ⟨rfl,Same.refl _,_,rfl⟩ (fun i acc σ H' hi p=>by rw[p.1];simp) (by rw[gR];omega) (fun i acc σ H' hi p=> ?_) (fun acc σ H' p=> ?_)
 ·obtain⟨rfl,sm,o,rfl⟩:=p;have e1:(1+(i:Int))-1=((i:Nat):Int):=by omega
  have e2:(1+(i:Int))=((i+1:Nat):Int):=by omega
  have x1:xs[i]? =some xs[i]:=dF (by omega);have x2:xs[i+1]? =some xs[i+1]:=dF (by omega);obtain⟨l1,m1,p1,q1,t1⟩:=Paired.at_ hP x1;obtain⟨l2,m2,p2,q2,t2⟩:=Paired.at_ hP x2;have a1:atI xs (1+(i:Int)-1)=some (.ref p1):=by rw[e1,<-q1];exact atI_nat x1
  have a2:atI xs (1+(i:Int))=some (.ref p2):=by rw[e2,<-q2];exact atI_nat x2
  refine⟨_,rfl,_,rfl,_,_,rfl,rfl,a,xs,_,_,rfl,rfl,sm.seq hS,a1,_,rfl,_,rfl,a,xs,_,_,rfl,rfl,sm.seq hS,a2,?_⟩;refine⟨p1,p2,l1,l2,rfl,rfl,sm.tup t1,sm.tup t2,?_,sm,_,rfl⟩;show _++[V.bl (HT.lexLt l1 l2)]=_;rw[yZ,bL,bL,yem,yem,show ls.getD i []=l1 by rw[lg,m1];rfl,show ls.getD (i+1) []=l2 by rw[lg,m2];rfl]
 ·intro p1 hp1;obtain⟨rfl,sm,_⟩:=p;refine⟨p1,_,rfl,SqL.of aB,?_⟩;rw[jr];exact q _ (sm.trans (aM hp1 _))
noncomputable def Dg(n:Int)(ts:L0):θ->Bool
 | .tuple [s,f]=>gW n s&&(frB f&&(decide (ts.filter (inB ((kids s).map intD))=[])&&decide (0<intD ((kids f).headD .none))))
 |_=>false
theorem Ql{n:Int}{ts:L0}{ds:List θ}(h:ds.length≠2):Dg n ts (.tuple ds)=false:=by
 match ds,h with
 |[],_=>rfl
 |[_],_=>rfl
 |[_,_],h=>exact absurd rfl h
 |_::_::_::_,_=>rfl
theorem Lf{n:Int}{ts:L0}{d:θ}(h:lO d≠"tuple"):Dg n ts d=false:=by
 cases d<;>first |rfl|exact absurd rfl h
theorem uo{n:Int}:∀{ds:List θ},ds.all (bR n)=true->ds=(ds.map intD).map PyData.int/\∀x∈ds.map intD,0<=x/\x<n
 |[],_=>⟨rfl,fun x hx=>(nomatch hx)⟩
 |d::ds,h=>by
  rw[wfc,kO]at h;obtain⟨i,rfl,h0,h1⟩:=uq h.1;obtain⟨e,f⟩:=uo h.2;refine⟨by rw[yX,yX,<-e];rfl,fun x hx=> ?_⟩;rcases cY.mp hx with rfl|hx
  ·exact⟨h0,h1⟩
  ·exact f x hx
theorem Lg{n:Int}{s:θ}(h:gW n s=true):∃xs:List Int,s= .tuple (xs.map PyData.int)/\(∀x∈xs,0<=x/\x<n)/\dM xs=true/\(kids s).map intD=xs:=by
 cases s with
 |tuple ds=>
  have h:(ds.all (bR n)&&dM (ds.map intD))=true:=h;rw[kO]at h;obtain⟨e,f⟩:=uo h.1;exact⟨ds.map intD,by rw[<-e],f,h.2,rfl⟩
 |_=>cases h
theorem Bd{H:Hp}:∀{xs:List Int} {vs:List V},oW K H vs (xs.map PyData.int)->vs=xs.map V.int
 |[],_,h=>by cases h;rfl
 |x::xs,_,h=>by
  cases h with
  |cons h t=>rw[DX.ints h,Bd t];rfl
theorem _root_.L2.DX.tupI{H:Hp}{x:V}{xs:List Int}(h:DX K H x (.tuple (xs.map PyData.int))):∃a,x= .ref a/\SqT K H a (xs.map V.int):=by
 cases h with
 |tup h t=>exact⟨_,rfl,by rw[<-Bd t];exact h⟩
theorem _root_.L2.DX.fr{H:Hp}{x:V}{u:Int}{v:Nat}(h:DX K H x (.tuple [.int u,.int ((v:Nat):Int)])):∃a,x= .ref a/\p8 K H a (u,v):=DX.tupI (xs:=[u,((v:Nat):Int)]) h
noncomputable def Ti(K:W.Frag):Sp:=fun vs H Q _=>∃(a:Addr) (n:Int) (ts:L0) (x:V) (d:θ),vs=[.ref a,x]/\aO K H a n ts/\DX K H x d/\∀H',Same H H'->Q (.bl (Dg n ts d)) H'
theorem Dw{f f1 f2 f3:Addr}{fd d1 d2 d3:ρ}(F:Fun K "is_share" "is_share" nW f fd)(D1:bC K mg "is_fraction" iI ["thing"] f1 d1)(G1:FnOk P w K mg base CX0 2 f1 d1 ["thing"] (Tj K))(D2:bC K mg "is_set" lE ["n","thing"] f2 d2)(G2:FnOk P w K mg base CX0 4 f2 d2 ["n","thing"] (Gh K))(D3:bC K mg "count_ties_in" fB ["web","some"] f3 d3)(G3:FnOk P w K mg base CX0 1 f3 d3 ["web","some"] (Gs K))(bN:mg "len"=none)(au:mg "isinstance"=none)(aH:mg "tuple"=none):
  FnOk P w K mg base CX0 5 f fd ["web","thing"] (Ti K):=by
 refine F.bZ ["web","thing"] fun cdv A outer s H vs Q E hr h=> ?_;obtain⟨a,n,ts,x,d,rfl,hA,hx,q⟩:=h;refine aW ?_;intro Y;refine⟨_,(aL (dZ (PW.pt (qg (kY (iY (pB wR au (aj (pv 1) (aj (pN "tuple" aH) ak))))) (yV (cR op_ne (pB vm bN (aj (pv 1) ak)) ao)))) (aR (bB qZ)) eG) (aL (dZ (PW.pt (qg (kY (iY (pc G2 hr D2 (aj (aQ bD (pv 0) ao) (aj (aQ bD (pv 1) ao) ak))))) (yV (kY (iY (pc G1 hr D1 (aj (aQ bD (pv 1) ao) ak))))))) (aR (bB qZ)) eG) (aR (bB (zp (wQ op_eq (pc G3 hr D3 (aj (pv 0) (aj (aQ bD (pv 1) ao) ak))) ao) (pe_one (wQ op_gt (aQ bD (aQ bD (pv 1) ao) ao) ao))))))),?_⟩;refine gC ?_;intro c3 c2;have no:Dg n ts d=false->∀H',Same H H'->Q (.bl false) H':=fun e H' sm=>by have:=q H' sm;rw[e]at this;exact this
 obtain⟨tt1,rr1,w1,w2,w3⟩:=id hA.web;refine⟨_,rfl,x,_,_,rfl,hx.kind,.inr (.inr (.inl rfl)),_,rfl,?_⟩;rcases Ka hx with⟨t,x0,x1,d0,d1,rfl,rfl,h,h0,h1⟩|⟨t,xs,ds,rfl,rfl,h,el,hn⟩|hk
 ·refine iteF ?_;refine⟨_,rfl,t,_,rfl,.inr h,fun hz=>⟨rfl,_,rfl,?_⟩⟩;refine iteF ?_;refine⟨_,rfl,a,_,_,.int n,rfl,rfl,w1,rfl,_,rfl,t,_,_,x0,rfl,rfl,h,rfl,n,x0,d0,rfl,h0,fun H1 s1=>⟨_,rfl,?_⟩⟩;refine ite2 (fun c=> ?_) (fun c=> ?_)
  ·exact no (by show(gW n d0&&_)=false;rw[uw c];rfl) _ s1
  have c:=ux c;refine⟨_,rfl,t,_,_,x1,rfl,rfl,s1.tup h,rfl,x1,d1,rfl,h1.same s1,_,rfl,?_⟩;refine ite2 (fun c2=> ?_) (fun c2=> ?_)
  ·exact no (by show(gW n d0&&(frB d1&&_))=false;rw[c,uw c2];rfl) _ s1
  have c2:=ux c2;have e:Dg n ts (.tuple [d0,d1])=(decide (ts.filter (inB ((kids d0).map intD))=[])&&decide (0<intD ((kids d1).headD .none))):=by
   show(gW n d0&&(frB d1&&_))=_;rw[c,c2];rfl
  rw[e]at no;rw[e]at q;obtain⟨xs,rfl,hlt,hri,ek⟩:=Lg c;obtain⟨u,v,rfl,hu,hv,hvb⟩:=Oc c2;rw[ek]at no q;obtain⟨sa,rfl,h2⟩:=h0.tupI;obtain⟨fa,rfl,h3⟩:=h1.fr;refine⟨_,rfl,_,rfl,t,_,_,.ref sa,rfl,rfl,s1.tup h,rfl,true,a,sa,n,ts,xs,rfl,hA.same s1,s1.tup h2,fun H2 s2=> ?_⟩;have s12:=s1.trans s2;refine⟨rfl,_,rfl,?_⟩;by_cases hc:ts.filter (inB xs)=[]
  ·rw[hc];refine iteT ?_;rw[cL hc]at q;refine⟨_,rfl,t,_,_,.ref fa,rfl,rfl,s12.tup h,rfl,fa,_,_,.int u,rfl,rfl,s12.tup h3,rfl,_,_,rfl,rfl,?_⟩;exact q _ s12
  ·refine ite2 (fun c3=> ?_) (fun c3=> ?_)
   ·exfalso;have c3:decide (V.int ((ts.filter (inB xs)).length:Int)=V.int 0)=true:=c3;simp at c3;exact hc (Xl.mpr fun p hp=>by have:=c3 p.1 p.2 hp;simpa using this)
   ·have:=no (by rw[fO hc];rfl) _ s12;exact this
 ·refine iteF ?_;refine⟨_,rfl,t,_,rfl,.inr h,fun hz=>⟨rfl,_,rfl,?_⟩⟩;refine ite2 (fun c=>no (Ql hn) _ (Same.refl _)) (fun c=> ?_);exfalso;have c:¬(!decide (V.int (xs.length:Int)=V.int 2))=true:=c;simp at c;omega
 ·refine ite2 (fun c=>no (Lf hk) _ (Same.refl _)) (fun c=> ?_);exfalso;cases d<;>first |exact hk rfl|(simp[oE,lO]at c;done)
structure ShG(n:Int)(ts:L0)(q:List Int×(Int×Nat)):Prop where
 rise:dM q.1=true
 lt:∀x∈q.1,0<=x/\x<n
 no:ts.filter (inB q.1)=[]
 pos:0<q.2.1
 bot:0<q.2.2
 big:q.2.2<=1000000000
noncomputable def fj(q:List Int×(Int×Nat)):θ:= .tuple [.tuple (q.1.map PyData.int),.tuple [.int q.2.1,.int ((q.2.2:Nat):Int)]]
noncomputable def setOf(d:θ):List Int:=(kids ((kids d).headD .none)).map intD
theorem wB(q:List Int×(Int×Nat)):setOf (fj q)=q.1:=by
 show((q.1.map PyData.int).map intD)=q.1;rw[vA];exact wfi q.1
theorem Df{n:Int}{ts:L0}{d:θ}(h:Dg n ts d=true):∃q,d=fj q/\ShG n ts q:=by
 unfold Dg at h;split at h
 ·rename_i s f;simp only[kO]at h;obtain⟨h1,h2,h3,h4⟩:=h;obtain⟨xs,rfl,hlt,hri,ek⟩:=Lg h1;obtain⟨u,v,rfl,hu,hv,hvb⟩:=Oc h2;rw[ek]at h3;exact⟨(xs,(u,v)),rfl,hri,hlt,fX h3,fX h4,hv,hvb⟩
 ·cases h
theorem _root_.L2.DX.sh{H:Hp}{x:V}{q:List Int×(Int×Nat)}(h:DX K H x (fj q)):Fo K H x q:=by
 unfold fj at h;cases h with
 |tup h t=>
  cases t with
  |cons h0 t0=>
   cases t0 with
   |cons h1 t1=>
    cases t1 with
    |nil=>
     obtain⟨sa,rfl,h2⟩:=h0.tupI;obtain⟨fa,rfl,h3⟩:=h1.fr;exact⟨_,sa,fa,rfl,h,h2,h3⟩
theorem lay_of{n:Int}{ts:L0}{H:Hp}:∀{rs:List V} {ds:List θ},oW K H rs ds->ds.all (Dg n ts)=true->∃l,ds=l.map fj/\cP K H rs l/\∀q∈l,ShG n ts q
 |[],_,h,_=>by cases h;exact⟨[],rfl,.nil,fun q hq=>(nomatch hq)⟩
 |_::_,_,h,ha=>by
  cases h with
  |cons h t=>
   rw[wfc,kO]at ha;obtain⟨q,rfl,hq⟩:=Df ha.1;obtain⟨l,rfl,hl,hg⟩:=lay_of t ha.2;refine⟨q::l,rfl,.cons h.sh hl,fun p hp=> ?_⟩;rcases cY.mp hp with rfl|hp
   ·exact hq
   ·exact hg p hp
noncomputable def layB(n:Int)(ts:L0)(ds:List θ):Bool:=ds.all (Dg n ts)&&dh (ds.map setOf)
theorem tX(l:List (List Int×(Int×Nat))):(l.map fj).map setOf=l.map (·.1):=by
 rw[vA];exact Uk fun q _=>wB q
noncomputable def KR(K:W.Frag):Sp:=fun vs H Q _=>∃(a la:Addr) (n:Int) (ts:L0) (rs:List V) (ds:List θ),vs=[.ref a,.ref la]/\aO K H a n ts/\SqL K H la rs/\oW K H rs ds/\∀H',Same H H'->Q (.bl (layB n ts ds)) H'
theorem Aa{f f1 f2:Addr}{fd d1 d2:ρ}(F:Fun K "is_laying" "is_laying" lF f fd)(D1:bC K mg "is_share" nW ["web","thing"] f1 d1)(G1:FnOk P w K mg base CX0 5 f1 d1 ["web","thing"] (Ti K))(D2:bC K mg "is_rising" Xb ["things"] f2 d2)(G2:FnOk P w K mg base CX0 1 f2 d2 ["things"] (KJ K))(pL:mg "all"=none)(au:mg "isinstance"=none)(cH:mg "list"=none):
  FnOk P w K mg base CX0 6 f fd ["web","thing"] (KR K):=by
 refine F.bZ ["web","thing"] fun cdv A outer s H vs Q E hr h=> ?_;obtain⟨a,la,n,ts,rs,ds,rfl,hA,hL,hd,q⟩:=h;refine aW ?_;intro Y;refine⟨_,(aL (dZ (PW.pt (qg (kY (iY (pB wR au (aj (pv 1) (aj (pN "list" cH) ak))))) (yV (kY (iY (pB (eY rfl) pL (aj (pK ["share"] ["web"] [0] (sG (pv 1)) (pG 0) nP (pc G1 hr D1 (aj (pv 1) (aj (pv 0) ak)))) ak))))))) (aR (bB qZ)) eG) (aR (bB (pc G2 hr D2 (aj (pK ["share"] [] [] (sG (pv 1)) (pG 0) nP (aQ (Cg K) (pv 0) ao)) ak))))),?_⟩;refine lR ?_;intro c2;have hlen:=hd.len;refine⟨_,rfl,.ref la,"list",_,rfl,.inr (.inl ⟨rfl,_,hL⟩),.inr (.inr (.inr rfl)),_,rfl,?_⟩;refine iteF ?_;refine⟨_,rfl,la,rs,rfl,hL,fun hz=> ?_⟩;let p7:Nat->List V->St->Hp->Prop:=fun i acc σ H'=>acc=((ds.take i).map (Dg n ts)).map V.bl/\Same H H'/\∃o,σ=[o,some (.ref a)];refine wU (xs:=rs) p7 ⟨rfl,Same.refl _,_,rfl⟩ (fun i acc σ H' _ p=>p.2.1.seq hL) (fun i acc σ H' hi p=> ?_) hz (fun i x acc σ H' hx p=> ?_) (fun acc σ H' p=> ?_)
 ·rw[p.1];simp;omega
 ·obtain⟨rfl,sm,o,rfl⟩:=p;obtain⟨d,e1,e2⟩:=hd.get hx;refine⟨_,rfl,_,rfl,a,n,ts,x,d,rfl,hA.same sm,DX.same sm e2,fun H2 s2=>⟨?_,sm.trans s2,_,rfl⟩⟩;rw[sI,e1];simp
 intro p1 hp1;obtain⟨rfl,sm,_⟩:=p;have s1:=sm.trans (aM hp1 (.lst (((ds.take rs.length).map (Dg n ts)).map V.bl)));refine⟨p1,ds.map (Dg n ts),rfl,SqL.of (by rw[aB,hlen,qm]),_,rfl,?_⟩;rw[jr];refine ite2 (fun c=> ?_) (fun c=> ?_)
 ·have:=q _ s1;unfold layB at this;rw[uw c]at this;exact this
 have c:=ux c;generalize upd H' p1 (.lst (((ds.take rs.length).map (Dg n ts)).map V.bl))=H1 at *;obtain⟨l,rfl,hv,hg⟩:=lay_of hd c;have hv1:=cP.same hv s1;have hll:=Paired.eX hv;refine⟨_,rfl,la,rs,rfl,s1.seq hL,fun hz=> ?_⟩;let Fp:Nat->List V->St->Hp->Prop:=fun i acc σ H'=>H'=H1/\Paired (fun v l=>∃p,v= .ref p/\SqT K H1 p (l.map V.int)) acc ((l.take i).map (·.1))/\∃o,σ=[o];refine wU (xs:=rs) Fp ⟨rfl,.nil,_,rfl⟩ (fun i acc σ H' _ p=>by rw[p.1];exact s1.seq hL) (fun i acc σ H' _ p=> ?_) hz (fun i x acc σ H' hx p=> ?_) (fun acc σ H' p=> ?_)
 ·rw[Paired.eX p.2.1,aJ,rK];exact Cm _ _
 ·obtain⟨rfl,hp,o,rfl⟩:=p;obtain⟨q,hq,t,sa,fa,rfl,h1,h2,h3⟩:=Paired.at_ hv1 hx;refine⟨_,rfl,t,_,_,.ref sa,rfl,rfl,h1,rfl,rfl,?_,_,rfl⟩;obtain⟨hi,rfl⟩:=nF.mp hq;rw[yct hi,bL];exact Paired.snoc hp ⟨sa,rfl,h2⟩
 intro p2 hp2;obtain⟨rfl,hp,_⟩:=p;have s2:=aM hp2 (.lst acc);rw[Xk (by omega)]at hp;refine⟨p2,acc,l.map (·.1),rfl,SqL.of aB,Paired.mapP hp fun _ _ ⟨p,e,z⟩=>⟨p,e,s2.tup z⟩,fun H3 s3=> ?_⟩;have:=q _ (s1.trans (s2.trans s3));unfold layB at this;rw[c,tX]at this;exact this
noncomputable def dI(D:Nat):List (Int×Nat)->Int
 |[]=>0
 |f::fs=>f.1*((D/f.2:Nat):Int)+dI D fs
theorem jO(D:Nat):∀(l m:List (Int×Nat)),dI D (l++m)=dI D l+dI D m
 |[],m=>by simp[dI]
 |f::l,m=>by simp[dI,jO D l m,Int.add_assoc]
theorem tD(D:Nat)(f:Int×Nat):dI D [f]=f.1*((D/f.2:Nat):Int):=by simp[dI]
structure Ce(D:Nat)(fs:List (Int×Nat)):Prop where
 pos:0<D
 le:D<=1000000000000000000
 all:∀f∈fs,0<=f.1/\0<f.2/\f.2∣D
structure nO(D:Nat)(S:Int)(a:Int)(b:Nat):Prop where
 pos:0<b
 dvd:b∣D
 eq:a*((D/b:Nat):Int)=S
theorem nO.le{D b:Nat}{S a:Int}(h:nO D S a b)(hD:0<D):b<=D:=PN hD h.dvd
theorem Km{D b v:Nat}{S a u:Int}(hD:0<D)(h:nO D S a b)(hv:0<v)(dv:v∣D):
  nO D (S+u*((D/v:Nat):Int)) (a*((v/Nat.gcd b v:Nat):Int)+u*((b*(v/Nat.gcd b v)/v:Nat):Int)) (b*(v/Nat.gcd b v)):=by
 obtain⟨hb,db,he⟩:=h;have hg:0<Nat.gcd b v:=wee _ hb;obtain⟨b1,eb⟩:=Nat.gcd_dvd_left b v;obtain⟨v1,ev⟩:=Yd b v;have dl:Nat.lcm b v∣D:=Nat.lcm_dvd db dv;have e1:v/Nat.gcd b v=v1:=by
  conv=>lhs;arg 1;rw[ev]
  exact Pr _ hg
 have el:Nat.lcm b v=b*v1:=by
  unfold Nat.lcm;rw[Nat.mul_div_assoc _ (Yd b v),e1]
 rw[el]at dl;rw[e1];obtain⟨e,eD⟩:=dl;have hv1:0<v1:=Nat.pos_of_ne_zero fun z=>by rw[z,wfj]at ev;omega
 have hbv:0<b*v1:=Yn hb hv1;have c1:b*v1=v*b1:=by
  have:b*v1*Nat.gcd b v=v*b1*Nat.gcd b v:=by
   have h1:b*v1*Nat.gcd b v=b*(Nat.gcd b v*v1):=by rw[Yu,Ud v1]
   have h2:v*b1*Nat.gcd b v=v*(Nat.gcd b v*b1):=by rw[Yu,Ud b1]
   rw[h1,h2,<-ev,<-eb,Ud]
  exact Nat.eq_of_mul_eq_mul_right hg this
 have c2:b*v1/v=b1:=by rw[c1];exact Pr _ hv
 have c3:D/(b*v1)=e:=by rw[eD];exact Pr _ hbv
 have c4:D/b=v1*e:=by rw[eD,Yu];exact Pr _ hb
 have c5:D/v=b1*e:=by rw[eD,c1,Yu];exact Pr _ hv
 refine⟨hbv,⟨e,eD⟩,?_⟩;rw[c2,c3,c5,<-he,c4]
 push_cast
 grind
noncomputable def CV(K:W.Frag):Sp:=fun vs H Q _=>∃(p p':Addr) (u u':Int) (v v':Nat),vs=[.ref p,.ref p']/\SqT K H p [.int u,.int ((v:Nat):Int)]/\SqT K H p' [.int u',.int ((v':Nat):Int)]/\v<=1000000000000000000/\v'<=1000000000000000000/\Q (.bl (decide (u*(v':Int)<u'*(v:Int)))) H
theorem QX{f:Addr}{fd:ρ}(F:Fun K "is_less" "is_less" mQ f fd):
  FnOk P w K mg base CX0 1 f fd ["one","other"] (CV K):=by
 refine F.bZ ["one","other"] fun cdv A outer s H vs Q E hr h=> ?_;obtain⟨p,p1,u,u1,v,v1,rfl,h1,h2,b1,b2,q⟩:=h;refine⟨_,(aR (bB (wQ op_lt (bA sE (aQ bD (pv 0) ao) (aQ bD (pv 1) ao)) (bA sE (aQ bD (pv 1) ao) (aQ bD (pv 0) ao))))),?_⟩;exact⟨_,rfl,p,_,_,.int u,rfl,rfl,h1,rfl,_,rfl,p1,_,_,.int v1,rfl,rfl,h2,rfl,_,_,rfl,rfl,.inr ⟨by omega,by omega⟩,_,rfl,p1,_,_,.int u1,rfl,rfl,h2,rfl,_,rfl,p,_,_,.int v,rfl,rfl,h1,rfl,_,_,rfl,rfl,.inr ⟨by omega,by omega⟩,_,_,rfl,rfl,q⟩
theorem MJ{k:Nat}(h:k<=1000000000000000000)(x:Int):CMul x ((k:Nat):Int):= .inr ⟨by omega,by omega⟩
noncomputable def xg(K:W.Frag):Sp:=fun vs H Q _=>∃(la:Addr) (rs:List V) (fs:List (Int×Nat)) (D:Nat),vs=[.ref la]/\SqL K H la rs/\dB K H rs fs/\Ce D fs/\rs.length<=1000/\
 ∀(p:Addr) (a:Int) (b:Nat) H',Same H H'->H' p=some (.tup [.int a,.int ((b:Nat):Int)])->nO D (dI D fs) a b->Q (.ref p) H'
theorem Mh{f f1:Addr}{fd d1:ρ}(F:Fun K "sum_of" "sum_of" o9 f fd)(D1:bC K mg "greatest_divisor" zbs ["one","other"] f1 d1)(G1:FnOk P w K mg base CX0 1 f1 d1 ["one","other"] (U0 K)):
  FnOk P w K mg base CX0 2 f fd ["fractions"] (xg K):=by
 refine F.bZ ["fractions","a","b","top","bottom","by"] fun cdv A outer s H vs Q E hr h=> ?_;obtain⟨la,rs,fs,D,rfl,hL,hF,hD,hlen,q⟩:=h;refine aW ?_;intro Y;refine⟨_,(aL (pS 1 ao) (aL (pS 2 ao) (aL (ps_for wZ rfl (sG (pv 0)) (pg_tup rfl (mH (pG 3) (mH (pG 4) zq))) (aL (pS 5 (bA lK (pv 4) (pc G1 hr D1 (aj (pv 2) (aj (pv 4) ak))))) (aL (pS 1 (bA nu (bA sE (pv 1) (pv 5)) (bA sE (pv 3) (bA lK (bA sE (pv 2) (pv 5)) (pv 4))))) (aR (pS 2 (bA sE (pv 2) (pv 5))))))) (aR (bB (dW (aj (pv 1) (aj (pv 2) ak)))))))),?_⟩;refine wH ?_;intro c4 c3 c2;have hl:=Paired.eX hF;have hD0:=hD.pos;have hD1:=hD.le;refine⟨_,rfl,la,rs,rfl,hL,fun hz=> ?_⟩;let gF:Nat->St->Hp->Prop:=fun i σ H'=>H'=H/\∃(a:Int) (b:Nat) (o1 o2 o3:Option V),nO D (dI D (fs.take i)) a b/\σ=[some (.ref la),some (.int a),some (.int ((b:Nat):Int)),o1,o2,o3];refine for_list (xs:=rs) gF ⟨rfl,0,1,_,_,_,⟨by omega,Nat.one_dvd _,by simp[dI]⟩,rfl⟩ (fun i σ H' _ p=>by rw[p.1];exact hL) (fun i x σ H' hx p=> ?_) (fun σ H' p=> ?_)
 ·obtain⟨rfl,a,b,o1,o2,o3,hs,rfl⟩:=p;obtain⟨f,hf,t,rfl,ht⟩:=Paired.at_ hF hx;obtain⟨f0,f1,f2⟩:=hD.all f (sO hf);have hb:=hs.pos;have hbD:=hs.le hD0;have hfD:=PN hD0 f2;have st:=Km (u:=f.1) hD0 hs f1 f2;have hg:0<Nat.gcd b f.2:=wee _ hb;have hg2:Nat.gcd b f.2<=b:=Nat.gcd_le_left _ hb;have hby:f.2/Nat.gcd b f.2<=f.2:=wet _ _;have hbb:=st.le hD0;refine⟨t,_,rfl,ht,rfl,_,_,rfl,_,_,rfl,rfl,?_⟩;refine⟨_,rfl,_,rfl,_,rfl,b,f.2,rfl,_,_,rfl,rfl,⟨by omega,by omega⟩,?_⟩;have eby:((f.2:Nat):Int)/((Nat.gcd b f.2:Nat):Int)=((f.2/Nat.gcd b f.2:Nat):Int):=(wek _ _).symm;have eb2:((b:Nat):Int)*((f.2/Nat.gcd b f.2:Nat):Int)=((b*(f.2/Nat.gcd b f.2):Nat):Int):=(Ug _ _).symm;have eb3:((b*(f.2/Nat.gcd b f.2):Nat):Int)/((f.2:Nat):Int)=((b*(f.2/Nat.gcd b f.2)/f.2:Nat):Int):=(wek _ _).symm;have hq:b*(f.2/Nat.gcd b f.2)/f.2<=b*(f.2/Nat.gcd b f.2):=wet _ _;have c1:∀x:Int,CMul x (((f.2:Nat):Int)/((Nat.gcd b f.2:Nat):Int)):=fun x=>by rw[eby];exact MJ (cT hby (cT hfD hD1)) x
  have c2:∀x:Int,CMul x (((b:Nat):Int)*(((f.2:Nat):Int)/((Nat.gcd b f.2:Nat):Int))/((f.2:Nat):Int)):=fun x=>by rw[eby,eb2,eb3];exact MJ (cT hq (cT hbb hD1)) x
  refine⟨_,rfl,_,rfl,_,_,rfl,rfl,c1 _,_,rfl,_,rfl,_,rfl,_,_,rfl,rfl,c1 _,_,rfl,_,_,rfl,rfl,⟨by omega,by omega⟩,_,_,rfl,rfl,c2 _,_,_,rfl,rfl,?_⟩;refine⟨_,rfl,_,rfl,_,_,rfl,rfl,c1 _,?_⟩;refine⟨rfl,a*((f.2/Nat.gcd b f.2:Nat):Int)+f.1*((b*(f.2/Nat.gcd b f.2)/f.2:Nat):Int),b*(f.2/Nat.gcd b f.2),some (.int f.1),some (.int ((f.2:Nat):Int)),some (.int ((f.2/Nat.gcd b f.2:Nat):Int)),?_,?_⟩
  rotate_left
  ·show[some (V.ref la),some (.int (a*(((f.2:Nat):Int)/((Nat.gcd b f.2:Nat):Int))+f.1*(((b:Nat):Int)*(((f.2:Nat):Int)/((Nat.gcd b f.2:Nat):Int))/((f.2:Nat):Int)))),some (.int (((b:Nat):Int)*(((f.2:Nat):Int)/((Nat.gcd b f.2:Nat):Int)))),some (.int f.1),some (.int ((f.2:Nat):Int)),some (.int (((f.2:Nat):Int)/((Nat.gcd b f.2:Nat):Int)))]=_;rw[eby,eb2,eb3]
  obtain⟨hi,rfl⟩:=nF.mp hf;rw[yct hi,jO,tD];exact st
 ·obtain⟨rfl,a,b,o1,o2,o3,hs,rfl⟩:=p;refine⟨_,rfl,_,rfl,(by show 2<=sizeLine;decide),fun r hr'=> ?_⟩;refine q r a b _ (aM hr' _) aB ?_;rw[Xk (by omega)]at hs;exact hs
theorem wK{α:Type}{l:List α}{i:Nat}(h:i<l.length)(g:α->Bool):(l.take (i+1)).filter g=(l.take i).filter g++(if g l[i]=true then[l[i]]else[]):=by
 rw[yct h,Cq,Cp];split<;>rfl
theorem zN{H:Hp}{rs:List V}{l:List (List Int×(Int×Nat))}(hv:cP K H rs l){i:Nat}{x:V}(hx:rs[i]? =some x):∃(hi:i<l.length) (t sa fa:Addr),x= .ref t/\SqT K H t [.ref sa,.ref fa]/\SqT K H sa (l[i].1.map V.int)/\p8 K H fa l[i].2:=by
 obtain⟨q,hq,t,sa,fa,e,h1,h2,h3⟩:=Paired.at_ hv hx;obtain⟨hi,rfl⟩:=nF.mp hq;exact⟨hi,t,sa,fa,e,h1,h2,h3⟩
theorem nO.cmp{D b:Nat}{S a u:Int}{v:Nat}(h:nO D S a b)(hD:0<D):a*(v:Int)<=u*(b:Int)↔S*(v:Int)<=u*(D:Int):=by
 obtain⟨hb,⟨k,rfl⟩,rfl⟩:=h;have hk:0<k:=by
  rcases Uj k with z|z
  ·rw[z,wfj]at hD;cases hD
  ·exact z
 rw[Pr _ hb,Int.mul_right_comm a (k:Int) (v:Int),Ug,<-Sg];exact⟨fun h=>Xm h (by omega),fun h=>Yl h (by omega)⟩
theorem nO.abd{D b:Nat}{S a x:Int}(h:nO D S a b)(hD:0<D):x*(b:Int)<=a↔x*(D:Int)<=S:=by
 obtain⟨hb,⟨k,rfl⟩,rfl⟩:=h;have hk:0<k:=by
  rcases Uj k with z|z
  ·rw[z,wfj]at hD;cases hD
  ·exact z
 rw[Pr _ hb,Ug,<-Sg];exact⟨fun h=>Xm h (by omega),fun h=>Yl h (by omega)⟩
theorem dec_not{a b:Int}:(!decide (a<b))=decide (b<=a):=by
 by_cases h:a<b
 ·rw[cL h,fO (by omega)];rfl
 ·rw[fO h,cL (by omega)];rfl
theorem Ce.sub{D:Nat}{fs gs:List (Int×Nat)}(h:Ce D fs)(s:∀f∈gs,f∈fs):Ce D gs:=⟨h.pos,h.le,fun f hf=>h.all f (s f hf)⟩
noncomputable def Ea(D:Nat)(l:List (List Int×(Int×Nat)))(p w:Int):Bool:=decide (w*(D:Int)<=dI D ((l.filter fun q=>decide (p∈q.1)).map (·.2)))
noncomputable def Gm(K:W.Frag):Sp:=fun vs H Q _=>∃(la:Addr) (p w:Int) (rs:List V) (l:List (List Int×(Int×Nat))) (D:Nat),vs=[.ref la,.int p,.int w]/\SqL K H la rs/\cP K H rs l/\l.length<=1000/\Ce D (l.map (·.2))/\∀H',Same H H'->Q (.bl (Ea D l p w)) H'
theorem Q0{f f1 f2:Addr}{fd d1 d2:ρ}(F:Fun K "gets" "gets" Di f fd)(D1:bC K mg "is_less" mQ ["one","other"] f1 d1)(G1:FnOk P w K mg base CX0 1 f1 d1 ["one","other"] (CV K))(D2:bC K mg "sum_of" o9 ["fractions"] f2 d2)(G2:FnOk P w K mg base CX0 2 f2 d2 ["fractions"] (xg K)):
  FnOk P w K mg base CX0 3 f fd ["laying","place","want"] (Gm K):=by
 refine F.bZ ["laying","place","want"] fun cdv A outer s H vs Q E hr h=> ?_;obtain⟨la,p,w,rs,l,D,rfl,hL,hv,h1k,hD,qq⟩:=h;refine⟨_,(aR (bB (pe_not (pc G1 hr D1 (aj (pc G2 hr D2 (aj (pK ["share"] ["place"] [1] (sG (pv 0)) (pG 0) (BX (cR (jM K hr.units) (pv 1) (aQ (Cg K) (pv 0) ao) (by with_unfolding_all rfl))) (aQ (Cg K) (pv 0) ao)) ak)) (aj (dW (aj (pv 2) (aj ao ak))) ak)))))),?_⟩;have hlen:=Paired.eX hv;refine⟨_,rfl,la,rs,rfl,hL,fun hz=> ?_⟩;let p7:Nat->List V->St->Hp->Prop:=fun i acc σ H'=>H'=H/\dB K H acc (((l.take i).filter fun q=>decide (p∈q.1)).map (·.2))/\∃o,σ=[o,some (.int p)];refine wU (xs:=rs) p7 ⟨rfl,.nil,_,rfl⟩ (fun i acc σ H' _ p=>by rw[p.1];exact hL) (fun i acc σ H' _ p=> ?_) hz (fun i x acc σ H' hx p'=> ?_) (fun acc σ H' p'=> ?_)
 ·rw[Paired.eX p.2.1,aJ];exact cT (vC _ _) (by rw[rK];exact Cm _ _)
 ·obtain⟨rfl,hf,o,rfl⟩:=p';obtain⟨hi,t,sa,fa,rfl,h1,h2,h3⟩:=zN hv hx;refine⟨_,rfl,_,rfl,t,_,_,.ref sa,rfl,rfl,h1,rfl,sa,_,_,.int p,rfl,.inr h2,cN.ints _,.int _,Ik _,rfl,(by show 0<=60;decide),_,rfl,?_⟩;rw[any_ints];refine ite2 (fun c=> ?_) (fun c=> ?_)
  ·refine⟨_,rfl,t,_,_,.ref fa,rfl,rfl,h1,rfl,rfl,?_,_,rfl⟩;rw[wK hi,aF c,bL];exact Paired.snoc hf ⟨fa,rfl,h3⟩
  ·refine⟨rfl,?_,_,rfl⟩;rw[wK hi,aA c,zx];exact hf
 intro p1 hp1;obtain⟨rfl,hf,_⟩:=p';rw[Xk (by omega)]at hf;have s1:=aM hp1 (.lst acc);have hal:acc.length<=1000:=by
  rw[Paired.eX hf,aJ];exact cT (vC _ _) h1k
 have hDf:Ce D ((l.filter fun q=>decide (p∈q.1)).map (·.2)):=hD.sub fun f hf=>by
  obtain⟨q,hq,rfl⟩:=jY.mp hf;exact List.mem_map_of_mem (fL.mp hq).1
 refine⟨p1,acc,_,D,rfl,SqL.of aB,dB.same hf s1,hDf,by omega,fun r a b H2 s2 hr2 hs=> ?_⟩;refine⟨_,rfl,(by show 2<=sizeLine;decide),fun r2 Xy=> ?_⟩;have s3:=aM Xy (.tup [.int w,.int 1]);have hbD:=hs.le hD.pos;have hD1:=hD.le;refine⟨r,r2,a,w,b,1,rfl,s3.tup (SqT.of hr2),SqT.of aB,by omega,by omega,_,rfl,?_⟩;have e:=hs.abd hD.pos (x:=w);show Q (.bl (!decide (a*((1:Nat):Int)<w*(b:Int)))) _;rw[dec_not,show a*((1:Nat):Int)=a by rw[show((1:Nat):Int)=1 from rfl,Yo],decide_eq_decide.mpr e];exact qq _ (s1.trans (s2.trans s3))
noncomputable def IK(d:θ):List Int×(Int×Nat):=(setOf d,(intD ((kids ((kids d).getD 1 .none)).getD 0 .none),(intD ((kids ((kids d).getD 1 .none)).getD 1 .none)).toNat))
theorem lA(q:List Int×(Int×Nat)):IK (fj q)=q:=by
 show(setOf (fj q),(q.2.1,(((q.2.2:Nat):Int)).toNat))=q;rw[wB,Ip]
theorem lB(l:List (List Int×(Int×Nat))):(l.map fj).map IK=l:=by
 rw[vA];exact(Uk fun q _=>lA q).trans (wfi l)
noncomputable def hasB(D:Nat)(wl:List Int)(l:List (List Int×(Int×Nat))):Bool:=(List.range wl.length).all fun i=>Ea D l ((i:Nat):Int) (wl.getD i 0)
noncomputable def j8(n:Int)(ts:L0)(wl:List Int)(D:Nat)(ds:List θ)(u:Int)(v:Nat):Bool:=layB n ts ds&&(hasB D wl (ds.map IK)&&decide (dI D ((ds.map IK).map (·.2))*(v:Int)<=u*(D:Int)))
noncomputable def KZ(K:W.Frag):Sp:=fun vs H Q _=>∃(a wa la na:Addr) (n:Int) (ts:L0) (wl:List Int) (rs:List V) (ds:List θ) (D:Nat) (u:Int) (v:Nat),vs=[.ref a,.ref wa,.ref la,.ref na]/\aO K H a n ts/\SqT K H wa (wl.map V.int)/\yJ n wl/\SqL K H la rs/\oW K H rs ds/\rs.length<=1000/\p8 K H na (u,v)/\v<=1000000000000000000/\(layB n ts ds=true->Ce D ((ds.map IK).map (·.2)))/\∀H',Same H H'->Q (.bl (j8 n ts wl D ds u v)) H'
theorem Ab{f f1 f2 f3 f4 f5 f6:Addr}{fd d1 d2 d3 d4 d5 d6:ρ}(F:Fun K "is_enough" "is_enough" lG f fd)(D1:bC K mg "need_web" T9 ["thing"] f1 d1)(G1:FnOk P w K mg base CX0 7 f1 d1 ["thing"] (fQ K))(D2:bC K mg "need_wants" fM ["web","thing"] f2 d2)(G2:FnOk P w K mg base CX0 2 f2 d2 ["web","thing"] (lC K))(D3:bC K mg "is_laying" lF ["web","thing"] f3 d3)(G3:FnOk P w K mg base CX0 6 f3 d3 ["web","thing"] (KR K))(D4:bC K mg "gets" Di ["laying","place","want"] f4 d4)(G4:FnOk P w K mg base CX0 3 f4 d4 ["laying","place","want"] (Gm K))(D5:bC K mg "is_less" mQ ["one","other"] f5 d5)(G5:FnOk P w K mg base CX0 1 f5 d5 ["one","other"] (CV K))(D6:bC K mg "sum_of" o9 ["fractions"] f6 d6)(G6:FnOk P w K mg base CX0 2 f6 d6 ["fractions"] (xg K))(pL:mg "all"=none)(bO:mg "enumerate"=none):
  FnOk P w K mg base CX0 8 f fd ["web","wants","laying","number"] (KZ K):=by
 refine F.bZ ["web","wants","laying","number"] fun cdv A outer s H vs Q E hr h=> ?_;obtain⟨a,wa,la,na,n,ts,wl,rs,ds,D,u,v,rfl,hA,hW,hwl,hL,hd,hrs,hN,aa2,hD,q⟩:=h;refine aW ?_;intro Y;refine⟨_,(aL (qj (pc G1 hr D1 (aj (pv 0) ak))) (aL (qj (pc G2 hr D2 (aj (pv 0) (aj (pv 1) ak)))) (aL (dZ (kY (iY (pc G3 hr D3 (aj (pv 0) (aj (pv 2) ak))))) (aR (bB qZ)) eG) (aL (dZ (kY (iY (pB (eY rfl) pL (aj (pK ["place","want"] ["laying"] [2] (pF rfl bO (aj (pv 1) ak)) (JN K (n:=2) rfl (mH (pG 0) (mH (pG 1) zq))) nP (pc G4 hr D4 (aj (pv 2) (aj (pv 0) (aj (pv 1) ak))))) ak)))) (aR (bB qZ)) eG) (aR (bB (pe_not (pc G5 hr D5 (aj (pv 3) (aj (pc G6 hr D6 (aj (pK ["share"] [] [] (sG (pv 2)) (pG 0) nP (aQ (Cg K) (pv 0) ao)) ak)) ak)))))))))),?_⟩;refine Nq ?_;intro c5 c4 c3 c2;have no:(layB n ts ds&&hasB D wl (ds.map IK))=false->∀H',Same H H'->Q (.bl false) H':=fun e H' sm=>by
  have:=q H' sm;unfold j8 at this;rw[<-Bool.and_assoc,e]at this;exact this
 have h0:=hA.h0;have h10:=hA.h1;have hwn:wl.length=n.toNat:=by have:=hwl.1;omega
 refine⟨_,rfl,.ref a,_,rfl,hA.web.dv.dx,hA.ok,fun H1 s1=> ?_⟩;obtain⟨tt1,rr1,w1,w2,w3⟩:=id (hA.same s1).web;refine⟨_,rfl,_,rfl,a,wa,n,_,wl,rfl,w1,s1.tup hW,hwl,fun H2 s2=> ?_⟩;have s12:=s1.trans s2;refine⟨_,rfl,_,rfl,a,la,n,ts,rs,ds,rfl,hA.same s12,s12.seq hL,oW.same s12 hd,fun H3 s3=>⟨_,rfl,?_⟩⟩;have oV:=s12.trans s3;refine ite2 (fun c=>no (by rw[uw c];rfl) _ oV) (fun c=> ?_);have c:=ux c;have hD:=hD c;have ca:ds.all (Dg n ts)=true:=by
  have c':=c;unfold layB at c';exact(Bool.and_eq_true_iff.mp c').1
 obtain⟨l,rfl,hv,hg⟩:=lay_of hd ca;unfold j8 at q;rw[c]at no q;rw[lB]at no q hD;have hlen:=Paired.eX hv;refine⟨_,rfl,true,wa,_,rfl,oV.tup hW,fun hz=> ?_⟩;let Fp:Nat->List V->St->Hp->Prop:=fun i acc σ H'=>acc=((List.range i).map fun i=>Ea D l ((i:Nat):Int) (wl.getD i 0)).map V.bl/\Same H3 H'/\∃o1 o2,σ=[o1,o2,some (.ref la)];refine mW (K:=K) (b:=true) (a:=wa) (xs:=wl.map V.int) Fp ⟨rfl,Same.refl _,_,_,rfl⟩ (fun i acc σ H' _ p=>(oV.trans p.2.1).tup hW) (fun i acc σ H' _ p=>by rw[p.1,aJ,aJ,vo];exact aX _) hz (fun i v' t acc σ H' hv' p ht=> ?_) (fun acc σ H' p=> ?_)
 ·obtain⟨rfl,sm,o1,o2,rfl⟩:=p;rw[dJ]at hv';cases ev:wl[i]? with
  |none=>rw[ev]at hv';cases hv'
  |some y=>
   rw[ev]at hv';cases hv';have t1:=aM ht (.tup [.int (i:Int),.int y]);have st:=oV.trans (sm.trans t1);have hwy:wl.getD i 0=y:=by rw[lg,ev];rfl
   refine⟨t,_,rfl,SqT.of aB,rfl,_,_,rfl,_,_,rfl,rfl,?_⟩;refine⟨_,rfl,_,rfl,_,rfl,la,(i:Int),y,rs,l,D,rfl,st.seq hL,cP.same hv st,by omega,hD,fun H5 s5=>⟨?_,sm.trans (t1.trans s5),_,_,rfl⟩⟩;rw[yZ,bL,bL,yem,yem,hwy]
 intro p1 hp1;obtain⟨rfl,sm,_⟩:=p;rw[aJ]at *;have Dj:=oV.trans (sm.trans (aM hp1 (.lst (((List.range wl.length).map fun i=>Ea D l ((i:Nat):Int) (wl.getD i 0)).map V.bl))));refine⟨p1,_,rfl,SqL.of aB,_,rfl,?_⟩;rw[jr];refine ite2 (fun c2=>no (by show hasB D wl l=false;exact uw c2) _ Dj) (fun c2=> ?_);have c2:hasB D wl l=true:=ux c2;rw[c2]at q;generalize upd H' p1 (.lst (((List.range wl.length).map fun i=>Ea D l ((i:Nat):Int) (wl.getD i 0)).map V.bl))=H4 at *;have hv4:=cP.same hv Dj;refine⟨_,rfl,_,rfl,la,rs,rfl,Dj.seq hL,fun hz=> ?_⟩;let W7:Nat->List V->St->Hp->Prop:=fun i acc σ H'=>H'=H4/\dB K H4 acc ((l.take i).map (·.2))/\∃o,σ=[o];refine wU (xs:=rs) W7 ⟨rfl,.nil,_,rfl⟩ (fun i acc σ H' _ p=>by rw[p.1];exact Dj.seq hL) (fun i acc σ H' _ p=> ?_) hz (fun i x acc σ H' hx p=> ?_) (fun acc σ H' p=> ?_)
 ·rw[Paired.eX p.2.1,aJ,rK];exact Cm _ _
 ·obtain⟨rfl,hp,o,rfl⟩:=p;obtain⟨hi,t,sa,fa,rfl,h1,h2,h3⟩:=zN hv4 hx;refine⟨_,rfl,t,_,_,.ref fa,rfl,rfl,h1,rfl,rfl,?_,_,rfl⟩;rw[yct hi,bL];exact Paired.snoc hp ⟨fa,rfl,h3⟩
 intro p2 hp2;obtain⟨rfl,hp,_⟩:=p;rw[Xk (by omega)]at hp;have s2':=aM hp2 (.lst acc);have hal:acc.length<=1000:=by rw[Paired.eX hp,aJ];omega
 refine⟨p2,acc,_,D,rfl,SqL.of aB,dB.same hp s2',hD,hal,fun r a' b' H5 s5 Zr hs=> ?_⟩;have hbD:=hs.le hD.pos;have hD1:=hD.le;refine⟨na,r,u,a',v,b',rfl,(Dj.trans (s2'.trans s5)).tup hN,SqT.of Zr,aa2,by omega,_,rfl,?_⟩;have e:=hs.cmp hD.pos (u:=u) (v:=v);show Q (.bl (!decide (u*((b':Nat):Int)<a'*((v:Nat):Int)))) _;rw[dec_not,decide_eq_decide.mpr e];exact q _ (Dj.trans (s2'.trans s5))
end
theorem Qn{n:Nat}{ts:L0}{ss:List (List Int)}(hS:bQ ss ts false n){s:List Int}(h:s∈ss):kj ts false n s:=nR n s (fL.mp (hS.1.mem_iff.mp h)).1
section
variable{P:ξ}{w:τ}{K:W.Frag}{mg:L5}{base:Heap}
noncomputable def mO(K:W.Frag):Sp:=fun vs H Q _=>∃(a:Addr) (n:Int) (t x:V) (d:θ),vs=[.ref a,x]/\SqT K H a [.int n,t]/\DX K H x d/\gW n d=true/\∀H',Same H H'->Q .non H'
theorem Dt{f f1:Addr}{fd d1:ρ}(F:Fun K "need_set" "need_set" jA f fd)(D1:bC K mg "is_set" lE ["n","thing"] f1 d1)(G1:FnOk P w K mg base CX0 4 f1 d1 ["n","thing"] (Gh K)):FnOk P w K mg base CX0 5 f fd ["web","thing"] (mO K):=by
 refine F.bZ ["web","thing"] fun cdv A outer s H vs Q E hr h=> ?_;obtain⟨a,n,t,x,d,rfl,ha,hx,hd,q⟩:=h;refine⟨_,aR (dZ (kY (iY (pc G1 hr D1 (aj (aQ bD (pv 0) ao) (aj (pv 1) ak))))) Pj eG),?_⟩;refine⟨_,rfl,a,_,_,.int n,rfl,rfl,ha,rfl,_,rfl,n,x,d,rfl,hx,fun H' sm=>⟨_,rfl,?_⟩⟩;rw[hd];exact iteF (q H' sm)
end
end Hs
namespace L2
open PySem
theorem Same.x{H H':Hp}(h:Same H H')(t:Addr):aD t H H':=fun b o _ e=>h b o e
theorem aD.upd{t:Addr}{H H':Hp}{o:HO}(h:aD t H H'):aD t H (upd H' t o):=fun b u n e=>by rw[cW n];exact h b u n e
theorem rR.sq{K:W.Frag}{H:Hp}{bh:Addr}{ns:List Int}(h:rR K H bh ns):SqL K H bh (ns.map V.int):=by
 rcases h with⟨o,h⟩|h
 ·exact .inl (.inr ⟨o,h⟩)
 ·exact .inr h
theorem rR.nH{K:W.Frag}{H H':Hp}{bh t:Addr}{ns:List Int}{zs:List V}(h:rR K H bh ns)(e:aD t H H')(n:H t=some (.lst zs)):rR K H' bh ns:=by
 rcases h with⟨o,h⟩|h
 ·exact .inl ⟨o,e _ _ (ne_of h n (by intro z;cases z)) h⟩
 ·exact .inr h
structure pZ(K:W.Frag)(H:Hp)(tp bh:Addr)(ns:List Int):Prop where
 at_:∃(i r:Int),H tp=some (.lst [.ref bh,.int i,.int r])/\0<=i/\0<=r
 abg:rR K H bh ns
 len:ns.length<=63
theorem pZ.same{K:W.Frag}{H H':Hp}{tp bh:Addr}{ns:List Int}(h:pZ K H tp bh ns)(e:Same H H'):pZ K H' tp bh ns:=by
 obtain⟨⟨i,r,h1,h2,h3⟩,h4,h5⟩:=h;exact⟨⟨i,r,e _ _ h1,h2,h3⟩,h4.same e,h5⟩
theorem pZ.other{K:W.Frag}{H H':Hp}{tp bh c:Addr}{ns:List Int}{zs:List V}(h:pZ K H tp bh ns)(e:aD c H H')(hc:H c=some (.lst zs))(n:tp≠c):pZ K H' tp bh ns:=by
 obtain⟨⟨i,r,h1,h2,h3⟩,h4,h5⟩:=h;exact⟨⟨i,r,e _ _ n h1,h2,h3⟩,h4.nH e hc,h5⟩
structure cQ(K:W.Frag)(H:Hp)(tp bh:Addr)(ns:List Int)(b:Int):Prop where
 tv:pZ K H tp bh ns
 le:∃(i r:Int),H tp=some (.lst [.ref bh,.int i,.int r])/\i<=b
theorem cQ.same{K:W.Frag}{H H':Hp}{tp bh:Addr}{ns:List Int}{b:Int}(h:cQ K H tp bh ns b)(e:Same H H'):cQ K H' tp bh ns b:=by
 obtain⟨i,r,h1,h2⟩:=h.le;exact⟨h.tv.same e,i,r,e _ _ h1,h2⟩
theorem cQ.mono{K:W.Frag}{H:Hp}{tp bh:Addr}{ns:List Int}{b c:Int}(h:cQ K H tp bh ns b)(e:b<=c):cQ K H tp bh ns c:=by
 obtain⟨i,r,h1,h2⟩:=h.le;exact⟨h.tv,i,r,h1,by omega⟩
theorem cQ.other{K:W.Frag}{H H':Hp}{tp bh c:Addr}{ns:List Int}{b:Int}{zs:List V}(h:cQ K H tp bh ns b)(e:aD c H H')(hc:H c=some (.lst zs))(n:tp≠c):cQ K H' tp bh ns b:=by
 obtain⟨i,r,h1,h2⟩:=h.le;exact⟨h.tv.other e hc n,i,r,e _ _ n h1,h2⟩
theorem cQ.lst{K:W.Frag}{H:Hp}{tp bh:Addr}{ns:List Int}{b:Int}(h:cQ K H tp bh ns b):∃zs,H tp=some (.lst zs):=by
 obtain⟨i,r,h1,_⟩:=h.le;exact⟨_,h1⟩
theorem cF{H:Hp}{a b:Addr}{o:HO}(h:H a=some o)(n:H b=none):b≠a:=fun e=>by rw[e,h]at n;cases n
end L2
namespace Hs
open PySem L2 oJ
section
variable{P:ξ}{w:τ}{K:W.Frag}{mg:L5}{base:Heap}
theorem qH(a:Int){b:Int}(h:0<b):0<=a %b:=Int.emod_nonneg _ (by omega)
theorem mod_lt(a:Int){b:Int}(h:0<b):a %b<b:=Int.emod_lt_of_pos _ h
theorem Ig{ns:List Int}{k:Int}(h0:0<=k)(h1:k<(ns.length:Int)):∃v:Int,atI (ns.map V.int) k=some (.int v)/\ns[k.toNat]? =some v:=by
 have hk:k.toNat<ns.length:=by omega
 have ek:((k.toNat:Nat):Int)=k:=by omega
 have q:atI (ns.map V.int) ((k.toNat:Nat):Int)=some (.int ns[k.toNat]):=atI_nat (by rw[dJ,dF hk];rfl);rw[ek]at q;exact⟨_,q,dF hk⟩
noncomputable def Gn(K:W.Frag):Sp:=fun vs H Q _=>∃(c i:Int),vs=[.int c,.int i]/\0<=i/\i<=1000000000/\∀r,0<=r->Q (.int r) H
theorem Mt{f:Addr}{fd:ρ}(F:Fun K "_law_e_stir" "_law_e_stir" jE f fd):
  FnOk P w K mg base CX0 1 f fd ["cell","at"] (Gn K):=by
 refine F.bZ ["cell","at","one","two","three"] fun cdv A outer s H vs Q E hr h=> ?_;obtain⟨c,i,rfl,hi0,hi1,q⟩:=h;refine aW ?_;intro Y;refine⟨_,(aL (dZ (cR op_ge (pv 0) (bA op_pow ao ao)) (aR (bB (pv 0))) eG) (aL (pS 2 (bA op_mod (bA nu (bA nu (bA sE (bA op_mod (pv 0) ao) ao) (bA sE (pv 1) ao)) ao) ao)) (aL (pS 3 (bA op_mod (bA nu (bA nu (bA nu (bA sE (pv 2) (pv 2)) (bA sE (bA sE ao (pv 1)) (pv 1))) (bA sE ao (pv 2))) ao) ao)) (aL (pS 4 (bA op_mod (bA nu (bA nu (bA nu (bA sE (pv 3) (pv 3)) (bA sE ao (pv 3))) (pv 2)) (pv 1)) ao)) (aR (bB (bA nu (bA sE (pv 3) ao) (pv 4)))))))),?_⟩;refine Nq ?_;intro c5 c4 c3 c2;refine⟨_,rfl,_,_,rfl,rfl,⟨by decide,by decide,by decide⟩,_,_,rfl,rfl,_,rfl,?_⟩;refine ite2 (fun c1=> ?_) (fun c1=> ?_)
 ·have c2:(10:Int)^(18:Int).toNat<=c:=fX c1;have c3:(0:Int)<=10^(18:Int).toNat:=by decide
  exact⟨_,rfl,q c (by omega)⟩
 ·refine⟨_,rfl,_,_,rfl,rfl,(by show(0:Int)<2147483549;decide),_,_,rfl,rfl,.inr ⟨by decide,by decide⟩,_,rfl,_,_,rfl,rfl,.inr ⟨by decide,by decide⟩,_,_,rfl,rfl,_,_,rfl,rfl,_,_,rfl,rfl,(by show(0:Int)<2147483543;decide),?_⟩;generalize hfirst:((fun i j=>V.int (i %j)) _ _:V)=vf;obtain⟨a1,e1,a2,a3⟩:∃a:Int,vf= .int a/\0<=a/\a<2147483543:=⟨_,hfirst.symm,qH _ (by decide),mod_lt _ (by decide)⟩;rw[e1];refine⟨_,rfl,_,rfl,_,_,rfl,rfl,.inl ⟨by omega,by omega⟩,_,rfl,_,_,rfl,rfl,.inl ⟨by decide,by decide⟩,_,rfl,_,_,rfl,rfl,.inr ⟨by omega,by omega⟩,_,_,rfl,rfl,_,rfl,_,_,rfl,rfl,.inl ⟨by decide,by decide⟩,_,_,rfl,rfl,_,_,rfl,rfl,_,_,rfl,rfl,(by show(0:Int)<2147483497;decide),?_⟩;generalize aa6:((fun i j=>V.int (i %j)) _ _:V)=vs;obtain⟨b1,f1,b2,b3⟩:∃a:Int,vs= .int a/\0<=a/\a<2147483497:=⟨_,aa6.symm,qH _ (by decide),mod_lt _ (by decide)⟩;rw[f1];refine⟨_,rfl,_,rfl,_,_,rfl,rfl,.inl ⟨by omega,by omega⟩,_,rfl,_,_,rfl,rfl,.inl ⟨by decide,by decide⟩,_,_,rfl,rfl,_,rfl,_,_,rfl,rfl,_,rfl,_,_,rfl,rfl,_,_,rfl,rfl,(by show(0:Int)<2147483489;decide),?_⟩;generalize aa3:((fun i j=>V.int (i %j)) _ _:V)=vt;obtain⟨c1',g1,c2,c3⟩:∃a:Int,vt= .int a/\0<=a/\a<2147483489:=⟨_,aa3.symm,qH _ (by decide),mod_lt _ (by decide)⟩;rw[g1];refine⟨_,rfl,_,_,rfl,rfl,.inr ⟨by decide,by decide⟩,_,rfl,_,_,rfl,rfl,q _ ?_⟩;have:=FW b2 (show(0:Int)<=2147483489 by decide);omega
noncomputable def wz(K:W.Frag):Sp:=fun vs H Q _=>∃(tp bh:Addr) (ns:List Int) (m b:Int),vs=[.ref tp,.int m]/\cQ K H tp bh ns b/\b<=1000000000/\0<m/\m<1000000000000000000000000000000/\
 ∀r H',0<=r->r<m->aD tp H H'->cQ K H' tp bh ns (b+1)->Q (.int r) H'
theorem Vt{f f1:Addr}{fd d1:ρ}(F:Fun K "_law_e_dip" "_law_e_dip" Ub f fd)(D1:bC K mg "_law_e_stir" jE ["cell","at"] f1 d1)(G1:FnOk P w K mg base CX0 1 f1 d1 ["cell","at"] (Gn K))(bN:mg "len"=none):
  FnOk P w K mg base CX0 2 f fd ["cup","many"] (wz K):=by
 refine F.bZ ["cup","many","at","cell","found"] fun cdv A outer s H vs Q E hr h=> ?_;obtain⟨tp,bh,ns,m,b,rfl,hC,hb,hm0,hm1,q⟩:=h;refine aW ?_;intro Y;refine⟨_,(aL (dZ (cR op_lt (aQ kJ (pv 0) ao) (pv 1)) (aL (pS 2 (aQ kJ (pv 0) ao)) (aL (pS 3 (bA nu (bA sE ao (pv 2)) ao)) (aL (dZ (cR op_lt (pv 2) (pB vm bN (aj (aQ kJ (pv 0) ao) ak))) (aR (pS 3 (aQ kJ (aQ kJ (pv 0) ao) (pv 2)))) (aR (dZ (cR op_gt (pB vm bN (aj (aQ kJ (pv 0) ao) ak)) ao) (aR (pS 3 (bA nu (bA op_mod (aQ kJ (aQ kJ (pv 0) ao) (bA op_mod (bA nu (bA sE ao (pv 2)) ao) (pB vm bN (aj (aQ kJ (pv 0) ao) ak)))) ao) (bA sE (pv 2) ao)))) eG))) (aL (ps_asg (bA nu (pv 2) ao) (pg_sub (pv 0) ao set_list)) (aR (ps_asg (pc G1 hr D1 (aj (pv 3) (aj (pv 2) ak))) (pg_sub (pv 0) ao set_list))))))) eG) (aL (pS 4 (bA op_mod (aQ kJ (pv 0) ao) (pv 1))) (aL (ps_asg (bA lK (aQ kJ (pv 0) ao) (pv 1)) (pg_sub (pv 0) ao set_list)) (aR (bB (pv 4)))))),?_⟩;refine wH ?_;intro c4 c3 c2;obtain⟨⟨⟨i,r,hH,hi,hr0⟩,hS0,h63⟩,i',r',hH',hle⟩:=hC;have ei:i'=i/\r'=r:=by
  rw[hH]at hH';injection hH' with e1
  injection e1 with e2
  injection e2 with _ e3
  injection e3 with e4 e5
  injection e5 with e6 _
  injection e4 with e4
  injection e6 with e6
  exact⟨e4.symm,e6.symm⟩
 obtain⟨rfl,rfl⟩:=ei;have hS:=hS0.sq;refine⟨_,rfl,tp,_,_,.int r',rfl,rfl,SqL.of hH,rfl,_,rfl,_,_,rfl,rfl,_,rfl,?_⟩;refine ite2 (fun c=> ?_) (fun c=> ?_)
 ·refine⟨_,rfl,tp,_,_,.int i',rfl,rfl,SqL.of hH,rfl,?_⟩;refine⟨_,rfl,_,_,rfl,rfl,.inl ⟨by decide,by decide⟩,_,_,rfl,rfl,?_⟩;refine⟨_,rfl,_,rfl,tp,_,_,.ref bh,rfl,rfl,SqL.of hH,rfl,bh,_,rfl,.inl hS,fun hz=>⟨_,_,rfl,rfl,_,rfl,?_⟩⟩;have go:∀r2,0<=r2->∀q',q'=r2/m->
    ((0:Int)<=r2 %m/\r2 %m<m)/\aD tp H (upd (upd (upd H tp (.lst [.ref bh,.int (i'+1),.int r'])) tp (.lst [.ref bh,.int (i'+1),.int r2])) tp (.lst [.ref bh,.int (i'+1),.int q']))/\
    cQ K (upd (upd (upd H tp (.lst [.ref bh,.int (i'+1),.int r'])) tp (.lst [.ref bh,.int (i'+1),.int r2])) tp (.lst [.ref bh,.int (i'+1),.int q'])) tp bh ns (b+1):=fun r2 h0 q' hq=>by
   have sx:aD tp H (upd (upd (upd H tp (.lst [.ref bh,.int (i'+1),.int r'])) tp (.lst [.ref bh,.int (i'+1),.int r2])) tp (.lst [.ref bh,.int (i'+1),.int q'])):=(aD.refl _ _).upd.upd.upd;have hq0:0<=q':=by rw[hq];exact wer h0 (by omega)
   exact⟨⟨qH _ hm0,mod_lt _ hm0⟩,sx,⟨⟨i'+1,q',aB,by omega,hq0⟩,hS0.nH sx hH,h63⟩,i'+1,q',aB,by omega⟩
  refine ite2 (fun c2=> ?_) (fun c2=> ?_)
  ·have c3:i'<((ns.map V.int).length:Int):=fX c2;rw[aJ]at c3;obtain⟨v,hx,_⟩:=Ig hi c3;refine⟨_,rfl,tp,_,_,.ref bh,rfl,rfl,SqL.of hH,rfl,_,rfl,bh,_,_,_,rfl,rfl,hS,hx,?_⟩;refine⟨_,rfl,_,_,rfl,rfl,_,rfl,tp,_,_,1,rfl,rfl,hH,rfl,?_⟩;refine⟨_,rfl,_,rfl,_,_,rfl,hi,by omega,fun r2 h0=>⟨_,rfl,tp,_,_,2,rfl,rfl,aB,rfl,?_⟩⟩;obtain⟨⟨g1,g2⟩,g3,g4⟩:=go r2 h0 _ rfl;refine⟨_,rfl,tp,_,_,.int r2,rfl,rfl,SqL.of aB,rfl,_,rfl,_,_,rfl,rfl,hm0,?_⟩;refine⟨_,rfl,tp,_,_,.int r2,rfl,rfl,SqL.of aB,rfl,_,rfl,_,_,rfl,rfl,⟨hm0,hm1⟩,_,rfl,tp,_,_,2,rfl,rfl,aB,rfl,?_⟩;exact⟨_,rfl,q _ _ g1 g2 g3 g4⟩
  ·refine⟨_,rfl,tp,_,_,.ref bh,rfl,rfl,SqL.of hH,rfl,bh,_,rfl,.inl hS,fun hz2=>⟨_,_,rfl,rfl,_,rfl,?_⟩⟩;refine ite2 (fun c4=> ?_) (fun c4=> ?_)
   ·have e3:(0:Int)<((ns.map V.int).length:Int):=fX c4;have hk1:=qH (5*i'+2) e3;have hk2:=mod_lt (5*i'+2) e3;rw[aJ]at hk1 hk2;obtain⟨v,hx,_⟩:=Ig hk1 hk2;rw[<-aJ (f:=V.int)]at hx;refine⟨_,rfl,tp,_,_,.ref bh,rfl,rfl,SqL.of hH,rfl,_,rfl,_,_,rfl,rfl,.inl ⟨by decide,by decide⟩,_,_,rfl,rfl,_,rfl,tp,_,_,.ref bh,rfl,rfl,SqL.of hH,rfl,bh,_,rfl,.inl hS,fun hz2=>⟨_,_,rfl,rfl,e3,bh,_,_,_,rfl,rfl,hS,hx,?_⟩⟩;refine⟨_,_,rfl,rfl,(by show(0:Int)<777777769;decide),_,rfl,_,_,rfl,rfl,.inr ⟨by decide,by decide⟩,_,_,rfl,rfl,?_⟩;refine⟨_,rfl,_,_,rfl,rfl,_,rfl,tp,_,_,1,rfl,rfl,hH,rfl,?_⟩;refine⟨_,rfl,_,rfl,_,_,rfl,hi,by omega,fun r2 h0=>⟨_,rfl,tp,_,_,2,rfl,rfl,aB,rfl,?_⟩⟩;obtain⟨⟨g1,g2⟩,g3,g4⟩:=go r2 h0 _ rfl;refine⟨_,rfl,tp,_,_,.int r2,rfl,rfl,SqL.of aB,rfl,_,rfl,_,_,rfl,rfl,hm0,?_⟩;refine⟨_,rfl,tp,_,_,.int r2,rfl,rfl,SqL.of aB,rfl,_,rfl,_,_,rfl,rfl,⟨hm0,hm1⟩,_,rfl,tp,_,_,2,rfl,rfl,aB,rfl,?_⟩;exact⟨_,rfl,q _ _ g1 g2 g3 g4⟩
   ·refine⟨_,rfl,_,_,rfl,rfl,_,rfl,tp,_,_,1,rfl,rfl,hH,rfl,?_⟩;refine⟨_,rfl,_,rfl,_,_,rfl,hi,by omega,fun r2 h0=>⟨_,rfl,tp,_,_,2,rfl,rfl,aB,rfl,?_⟩⟩;obtain⟨⟨g1,g2⟩,g3,g4⟩:=go r2 h0 _ rfl;refine⟨_,rfl,tp,_,_,.int r2,rfl,rfl,SqL.of aB,rfl,_,rfl,_,_,rfl,rfl,hm0,?_⟩;refine⟨_,rfl,tp,_,_,.int r2,rfl,rfl,SqL.of aB,rfl,_,rfl,_,_,rfl,rfl,⟨hm0,hm1⟩,_,rfl,tp,_,_,2,rfl,rfl,aB,rfl,?_⟩;exact⟨_,rfl,q _ _ g1 g2 g3 g4⟩
 ·refine⟨_,rfl,tp,_,_,.int r',rfl,rfl,SqL.of hH,rfl,_,rfl,_,_,rfl,rfl,hm0,?_⟩;refine⟨_,rfl,tp,_,_,.int r',rfl,rfl,SqL.of hH,rfl,_,rfl,_,_,rfl,rfl,⟨hm0,hm1⟩,_,rfl,tp,_,_,2,rfl,rfl,hH,rfl,?_⟩;have sx:aD tp H (upd H tp (.lst [.ref bh,.int i',.int (r'/m)])):=(aD.refl _ _).upd;have hq0:0<=r'/m:=wer hr0 (by omega);exact⟨_,rfl,q _ _ (qH _ hm0) (mod_lt _ hm0) sx ⟨⟨⟨i',r'/m,aB,hi,hq0⟩,hS0.nH sx hH,h63⟩,i',r'/m,aB,by omega⟩⟩
end
end Hs
namespace oJ
open PySem L2
theorem rQ.nH{K:W.Frag}{t:Addr}{H H':Hp}{zs:List V}{a:Addr}{n:Int}{ts:L0}(h:rQ K H a n ts)(e:aD t H H')(hn:H t=some (.lst zs)):rQ K H' a n ts:=by
 obtain⟨u,rs,h1,h2,h3⟩:=h;exact⟨u,rs,e.tup hn h1,e.tup hn h2,ig e hn h3⟩
theorem Vc{p q:Int×Int}(h:pl p=pl q):p=q:=by
 obtain⟨a,b⟩:=p;obtain⟨c,d⟩:=q;unfold pl at h;simp at h;rw[h.1,h.2]
theorem M9{a b:List Int}(h:HT.lexLt b a=false)(ne:a≠b):HT.lexLt a b=true:=by
 rw[HT.bY]at h⊢;have h1:¬b<a:=JV h;have h2:a<=b:=List.not_lt.mp h1;refine cL ?_;rcases Classical.em (a<b)with h3|h3
 ·exact h3
 ·exact absurd (List.le_antisymm h2 (List.not_lt.mp h3)) ne
theorem Kg{n:Int}{p:Int×Int}(h0:0<=p.1)(h1:p.1<p.2)(h2:p.2<n):nQ n (pairD p)=true:=by
 show((bR n (.int p.1)&&(bR n (.int p.2)&&true))&&dM [p.1,p.2]&&decide (([PyData.int p.1,PyData.int p.2]).length=2))=true;have e1:bR n (.int p.1)=true:=by
  show(decide (0<=p.1)&&decide (p.1<n))=true;rw[cL h0,cL (by omega)];rfl
 have e2:bR n (.int p.2)=true:=by
  show(decide (0<=p.2)&&decide (p.2<n))=true;rw[cL (by omega),cL h2];rfl
 have e3:dM [p.1,p.2]=true:=by
  show(decide (p.1<p.2)&&true)=true;rw[cL h1];rfl
 rw[e1,e2,e3];rfl
theorem Cu{n:Int}{ts:L0}(hn0:0<=n)(hn1:n<=10)(h:aN n ts)(hs:ts.Pairwise fun p q=>HT.lexLt (pl q) (pl p)=false):vD (jw n ts)=true:=by
 show(true&&(decide (0<=n)&&decide (n<=10))&&((ts.map pairD).all (nQ n)&&dh ((ts.map pairD).map fun t=>(kids t).map intD)))=true;have e1:(ts.map pairD).all (nQ n)=true:=by
  rw[Xe,j4];intro p hp;obtain⟨h0,h1,h2⟩:=h.lt p hp;exact Kg h0 h1 h2
 have e2:(ts.map pairD).map (fun t=>(kids t).map intD)=ts.map pl:=by rw[vA];rfl
 have e3:dh (ts.map pl)=true:=by
  unfold dh;rw[j4];intro k hk;have hk':k<ts.length-1:=by simpa using hk
  have g1:(ts.map pl).getD k []=pl ts[k]:=by rw[lg,dJ,dF (by omega)];rfl
  have g2:(ts.map pl).getD (k+1) []=pl ts[k+1]:=by rw[lg,dJ,dF (by omega)];rfl
  rw[g1,g2];refine M9 (Uq.mp hs k (k+1) (by omega) (by omega) (by omega)) fun e=> ?_;have:=(List.getElem_inj h.nd).mp (Vc e);omega
 rw[cL hn0,cL hn1,e1,e2,e3];rfl
end oJ
namespace Hs
open PySem L2 oJ
theorem j5.Rm{p:Int×Int}(a:j5 p p):False:=by
 unfold j5 at a;omega
theorem eq_of_sorted:∀{l m:L0},l.Pairwise j5->m.Pairwise j5->(∀p,p∈l↔p∈m)->l=m
 |[],[],_,_,_=>rfl
 |[],q::m,_,_,h=>absurd ((h q).mpr (iW ..)) (by simp)
 |p::l,[],_,_,h=>absurd ((h p).mp (iW ..)) (by simp)
 |p::l,q::m,hl,hm,h=>by
  rw[Qa]at hl hm;have e:p=q:=by
   rcases cY.mp ((h p).mp (iW ..))with e|e
   ·exact e
   rcases cY.mp ((h q).mpr (iW ..))with e'|e'
   ·exact e'.symm
   exact(j5.Rm ((hl.1 _ e').trans (hm.1 _ e))).elim
  subst e;have:l=m:=eq_of_sorted hl.2 hm.2 (fun r=>by
   have hr:=h r;rw[cY,cY]at hr;constructor
   ·intro hi;rcases hr.mp (.inr hi)with e|e
    ·subst e;exact(j5.Rm (hl.1 _ hi)).elim
    ·exact e
   ·intro hi;rcases hr.mpr (.inr hi)with e|e
    ·subst e;exact(j5.Rm (hm.1 _ hi)).elim
    ·exact e)
  rw[this]
theorem uc(so:Int->Int->Bool)(i:Int)(k:Nat):row so i (k+1)=row so i k++(if so i (i+1+(k:Int))=true then[(i,i+1+(k:Int))]else[]):=by
 unfold row;rw[yZ,bL,Cq];congr 1;show List.filter _ [(i,i+1+(k:Int))]=_;rw[Cp];rfl
theorem jd(so:Int->Int->Bool)(m:Int)(i:Nat):rows so m (i+1)=rows so m i++row so (0+(i:Int)) (m-(0+(i:Int)+1)).toNat:=by
 unfold rows;rw[yZ,bL,List.flatten_append];simp
theorem sX{so:Int->Int->Bool}{i:Int}{k:Nat}{p:Int×Int}:p∈row so i k↔p.1=i/\i<p.2/\p.2<i+1+(k:Int)/\so p.1 p.2=true:=by
 unfold row;rw[fL,jY];constructor
 ·rintro⟨⟨t,ht,rfl⟩,h⟩;rw[jZ]at ht;exact⟨rfl,by show i<i+1+(t:Int);omega,by show i+1+(t:Int)<_;omega,h⟩
 ·rintro⟨h1,h2,h3,h4⟩;refine⟨⟨(p.2-i-1).toNat,by rw[jZ];omega,?_⟩,h4⟩;apply Prod.ext
  ·exact h1.symm
  ·show i+1+(((p.2-i-1).toNat:Nat):Int)=p.2;omega
theorem dR{so:Int->Int->Bool}{m:Int}:∀{i:Nat} {p:Int×Int},p∈rows so m i↔0<=p.1/\p.1<(i:Int)/\p.1<p.2/\p.2<m/\so p.1 p.2=true
 |0,p=>by
  constructor
  ·intro h;simp[rows]at h
  ·intro h;omega
 |i+1,p=>by
  rw[jd,nA,dR (i:=i),sX];constructor
  ·rintro(h|h)
   ·exact⟨h.1,by omega,h.2.2⟩
   ·exact⟨by omega,by omega,by omega,by omega,h.2.2.2⟩
  ·rintro⟨h1,h2,h3,h4,h5⟩;by_cases e:p.1<(i:Int)
   ·exact .inl ⟨h1,e,h3,h4,h5⟩
   ·exact .inr ⟨by omega,by omega,by omega,h5⟩
theorem ud(so:Int->Int->Bool)(i:Int)(k:Nat):(row so i k).Pairwise j5:=by
 unfold row;refine List.Pairwise.filter _ ?_;rw[P0];exact Yk.imp fun h=> .inr ⟨rfl,by show i+1+_<i+1+_;omega⟩
theorem Ua(so:Int->Int->Bool)(m:Int):∀i:Nat,(rows so m i).Pairwise j5
 |0=>by unfold rows;exact List.Pairwise.nil
 |i+1=>by
  rw[jd,Sy];refine⟨Ua so m i,ud so _ _,fun p hp q hq=> ?_⟩;rw[dR]at hp;rw[sX]at hq;exact .inl (by omega)
theorem GF{so:Int->Int->Bool}{m:Int}{i:Nat}:aN m (rows so m i):=
 ⟨(Ua so m i).imp fun h e=>by subst e;exact j5.Rm h,fun p hp=>by rw[dR]at hp;exact⟨hp.1,hp.2.2.1,hp.2.2.2.1⟩⟩
theorem qC{l:L0}(h:l.Pairwise j5):l.Nodup:=h.imp fun h e=>by subst e;exact j5.Rm h
theorem aO.nH{K:W.Frag}{H H':Hp}{t a:Addr}{zs:List V}{n:Int}{ts:L0}(h:aO K H a n ts)(e:aD t H H')(hn:H t=some (.lst zs)):aO K H' a n ts:=⟨h.web.nH e hn,h.h0,h.h1,h.pk,h.ok⟩
noncomputable def tt(_ _:Int):Bool:=true
theorem Ho{p q:Int×Int}(h:j5 p q):HT.lexLt (pl q) (pl p)=false:=by
 rw[HT.bY];refine fO fun z=> ?_;have:j5 q p:=Hr (by rw[HT.bY];exact cL z);exact j5.Rm (h.trans this)
theorem tL{n:Int}{ts:L0}{i:Nat}(h0:0<=n)(h1:n<=10)(h:ts.Sublist (rows tt n i)):aN n ts/\Bs n ts:=by
 have hs:ts.Pairwise j5:=(Ua tt n i).sublist h;have ho:aN n ts:=⟨qC hs,fun p hp=>(GF (so:=tt) (m:=n) (i:=i)).lt p (h.subset hp)⟩;exact⟨ho,Cu h0 h1 ho (hs.imp Ho)⟩
theorem Ox{xs:List Int}{i:Int}(h0:0<=i)(h1:i<(xs.length:Int)):atI (xs.map V.int) i=some (.int (xs.getD i.toNat 0)):=by
 have hk:i.toNat<xs.length:=by omega
 have ek:((i.toNat:Nat):Int)=i:=by omega
 have q:atI (xs.map V.int) ((i.toNat:Nat):Int)=some (.int (xs.getD i.toNat 0)):=atI_nat (by rw[dJ,dF hk,lg,dF hk];rfl);rw[ek]at q;exact q
theorem dY.push{K:W.Frag}{H:Hp}{l p:Addr}{R:L0}{P:Int×Int->Prop}{i j:Int}{rs:List V}{ts:L0}(h1:H l=some (.lst rs))(h2:cN K H rs (ts.map pairD))(h3:ts.Sublist R)(h4:∀p∈ts,P p)(hp:SqT K H p [.int i,.int j])(hP:P (i,j)):dY K (upd H l (.lst (rs++[.ref p]))) l (R++[(i,j)]) P:=by
 have x:aD l H (upd H l (.lst (rs++[.ref p]))):=(aD.refl _ _).upd;refine⟨_,ts++[(i,j)],aB,?_,h3.append (wdw _),fun q hq=> ?_⟩
 ·rw[bL];exact(ig x h1 h2).append (.cons (.tup (x.tup h1 hp) (.cons (.int _) (.cons (.int _) .nil))) .nil)
 ·rcases nA.mp hq with q'|q'
  ·exact h4 q q'
  ·rw[gY.mp q'];exact hP
theorem sub_len{n:Int}{ts:L0}{i k:Nat}(h1:n<=10)(hk:0+(i:Int)+1+(k:Int)<=n)(h:ts.Sublist (rows tt n i++row tt (0+(i:Int)) k)):ts.length<=45:=by
 refine pairs_len (n:=n) ⟨?_,fun p hp=> ?_⟩ h1
 ·refine qC (List.Pairwise.sublist h ?_);rw[Sy];refine⟨Ua _ _ _,ud _ _ _,fun p hp q hq=> ?_⟩;rw[dR]at hp;rw[sX]at hq;exact .inl (by omega)
 ·rcases nA.mp (h.subset hp)with q|q
  ·rw[dR]at q;exact⟨q.1,q.2.2.1,q.2.2.2.1⟩
  ·rw[sX]at q;exact⟨by omega,by omega,by omega⟩
section
variable{P:ξ}{w:τ}{K:W.Frag}{mg:L5}{base:Heap}
noncomputable def Gg(K:W.Frag):Sp:=fun vs H Q _=>∃(cp bh:Addr) (ns:List Int) (n b:Int),vs=[.ref cp,.int n]/\cQ K H cp bh ns b/\b<=900000000/\0<=n/\n<=10/\
 ∀r ts H',aD cp H H'->cQ K H' cp bh ns (b+120)->aO K H' r n ts->Q (.ref r) H'
theorem Mg{f f1:Addr}{fd d1:ρ}(F:Fun K "_law_e_web_of" "_law_e_web_of" fY f fd)(D1:bC K mg "_law_e_dip" Ub ["cup","many"] f1 d1)(G1:FnOk P w K mg base CX0 2 f1 d1 ["cup","many"] (wz K))(aK:mg "range"=none)(aH:mg "tuple"=none):
  FnOk P w K mg base CX0 3 f fd ["cup","n"] (Gg K):=by
 refine F.bZ ["cup","n","often","ties","i","j"] fun cdv A outer s H vs Q E hr h=> ?_;obtain⟨cp,bh,ns,n,b,rfl,hC,hb,hn0,hn1,q⟩:=h;refine⟨_,(aL (pS 2 (pc G1 hr D1 (aj (pv 0) (aj ao ak)))) (aL (pS 3 (pe_lst ak)) (aL (ps_for wZ rfl (Io rfl aK (aj (pv 1) ak)) (pG 4) (aR (ps_for wZ rfl (pi_range2 rfl aK (aj (bA nu (pv 4) ao) (aj (pv 1) ak))) (pG 5) (aR (dZ (cR op_lt (pc G1 hr D1 (aj (pv 0) (aj ao ak))) (pv 2)) (aR (qj (pe_bm Qg wbg wbh mt_append (pv 3) (aj (dW (aj (pv 4) (aj (pv 5) ak))) ak)))) eG))))) (aR (bB (dW (aj (pv 1) (aj (pT Ci aH (aj (pv 3) ak)) ak)))))))),?_⟩;refine⟨_,rfl,cp,bh,ns,7,b,rfl,hC,by omega,by decide,by decide,fun o H1 Zt ho1 x1 c1=> ?_⟩;refine⟨(by show 0<=sizeLine;decide),fun tl htl=> ?_⟩;obtain⟨zs,hz⟩:=c1.lst;have s2:=aM htl (.lst []);have VB:tl≠cp:=cF hz htl;have tl0:H tl=none:=x1.free VB htl;refine⟨_,rfl,n,rfl,by omega,by omega,?_⟩;refine Ph (n:=n.toNat) (fun i σ H'=>aD cp H H'/\cQ K H' cp bh ns (b+1+10*(i:Int))/\dY K H' tl (rows tt n i) (fun _=>True)/\∃a4 a5,σ=[some (.ref cp),some (.int n),some (.int o),some (.ref tl),a4,a5])
  ⟨x1.trans (s2.x _),(c1.same s2).mono (by omega),dY.nil aB,_,_,rfl⟩ (fun i σ H' hi p=> ?_) (fun σ H' p=> ?_)
 ·obtain⟨x,c,tl1,a4,a5,rfl⟩:=p;refine⟨_,rfl,_,_,rfl,rfl,_,rfl,_,_,rfl,⟨by omega,by omega,by omega,by omega⟩,?_⟩;refine Ph (n:=(n-(0+(i:Int)+1)).toNat) (fun k σ H'=>aD cp H H'/\cQ K H' cp bh ns (b+1+10*(i:Int)+(k:Int))/\dY K H' tl (rows tt n i++row tt (0+(i:Int)) k) (fun _=>True)/\∃a5,σ=[some (.ref cp),some (.int n),some (.int o),some (.ref tl),some (.int (0+(i:Int))),a5])
   ⟨x,c.mono (by omega),by rw[show row tt (0+(i:Int)) 0=[]from rfl,zx];exact tl1,_,rfl⟩ (fun k σ H' hk p=> ?_) (fun σ H' p=> ?_)
  ·obtain⟨x,c,tl1,a5,rfl⟩:=p;refine⟨_,rfl,cp,bh,ns,6,_,rfl,c,by omega,by decide,by decide,fun d H2 hd0 hd1 x2 c2=>⟨_,rfl,_,_,rfl,rfl,_,rfl,?_⟩⟩;obtain⟨zs,hz⟩:=c.lst;have YD:=tl1.step x2 hz VB;have er:rows tt n i++row tt (0+(i:Int)) (k+1)=(rows tt n i++row tt (0+(i:Int)) k)++[(0+(i:Int),0+(i:Int)+1+(k:Int))]:=by rw[uc,aF (show tt _ _=true from rfl),wcb]
   have ec:b+1+10*(i:Int)+((k+1:Nat):Int)=b+1+10*(i:Int)+(k:Int)+1:=by omega
   rw[er,ec];refine ite2 (fun cc=> ?_) (fun cc=> ?_)
   ·obtain⟨rs,ts,h1,h2,h3,h4⟩:=YD;have hl:=sub_len hn1 (by omega) h3;have hrl:=h2.len;rw[aJ]at hrl;refine⟨_,rfl,.inl ⟨rfl,_,SqL.of h1⟩,_,rfl,_,rfl,(by show 2<=sizeLine;decide),fun p hp=> ?_⟩;have s3:=aM hp (.tup [.int (0+(i:Int)),.int (0+(i:Int)+1+(k:Int))]);refine⟨tl,rs,_,rfl,rfl,s3 _ _ h1,(by rw[gR];omega),?_⟩;have xw:aD tl (upd H2 p (.tup [.int (0+(i:Int)),.int (0+(i:Int)+1+(k:Int))])) (upd (upd H2 p (.tup [.int (0+(i:Int)),.int (0+(i:Int)+1+(k:Int))])) tl (.lst (rs++[.ref p]))):=(aD.refl _ _).upd;refine⟨fun q o hq e=> ?_,(c2.same s3).other xw (s3 _ _ h1) VB.symm,dY.push (s3 _ _ h1) (h2.same s3) h3 h4 (SqT.of aB) trivial,_,rfl⟩;have nq:q≠tl:=fun z=>by rw[z,tl0]at e;cases e
    exact xw _ _ nq (s3 _ _ (x2 _ _ hq (x _ _ hq e)))
   ·exact⟨x.trans x2,c2,YD.mono (wbp _ _),_,rfl⟩
  ·obtain⟨x,c,tl1,a5,rfl⟩:=p;rw[<-jd]at tl1;exact⟨x,c.mono (by omega),tl1,_,_,rfl⟩
 ·obtain⟨x,c,⟨rs,ts,h1,h2,h3,h4⟩,a4,a5,rfl⟩:=p;refine⟨_,rfl,_,rfl,tl,rs,rfl,.inl ⟨SqL.of h1,fun t ht=>⟨(by show 2<=sizeLine;decide),fun wb uK=> ?_⟩⟩⟩;have s3:=aM ht (.tup rs);have s4:=aM uK (.tup [.int n,.ref t]);have U6:=s3.trans s4;obtain⟨g1,g2⟩:=tL hn0 hn1 h3;exact q wb ts _ (x.trans (U6.x _)) ((c.same U6).mono (by omega)) ⟨⟨t,rs,SqT.of aB,SqT.of (s4 _ _ aB),h2.same U6⟩,hn0,hn1,g1,g2⟩
noncomputable def K3(K:W.Frag):Sp:=fun vs H Q _=>∃(cp bh:Addr) (ns:List Int) (m b:Int),vs=[.ref cp,.int m]/\cQ K H cp bh ns b/\b<=800000000/\0<=m/\m<=10/\
 ∀r n ts H',aD cp H H'->cQ K H' cp bh ns (b+121)->aO K H' r n ts->Q (.ref r) H'
theorem Q5{f f1 f2:Addr}{fd d1 d2:ρ}(F:Fun K "_law_e_web" "_law_e_web" lD f fd)(D1:bC K mg "_law_e_dip" Ub ["cup","many"] f1 d1)(G1:FnOk P w K mg base CX0 2 f1 d1 ["cup","many"] (wz K))(D2:bC K mg "_law_e_web_of" fY ["cup","n"] f2 d2)(G2:FnOk P w K mg base CX0 3 f2 d2 ["cup","n"] (Gg K)):
  FnOk P w K mg base CX0 4 f fd ["cup","most"] (K3 K):=by
 refine F.bZ ["cup","most","n"] fun cdv A outer s H vs Q E hr h=> ?_;obtain⟨cp,bh,ns,m,b,rfl,hC,hb,hm0,hm1,q⟩:=h;refine⟨_,(aL (pS 2 (pc G1 hr D1 (aj (pv 0) (aj (bA nu (pv 1) ao) ak)))) (aR (bB (pc G2 hr D2 (aj (pv 0) (aj (pv 2) ak)))))),?_⟩;refine⟨_,rfl,_,rfl,_,_,rfl,rfl,cp,bh,ns,_,b,rfl,hC,by omega,by omega,by omega,fun o H1 Zt ho1 x1 c1=> ?_⟩;refine⟨_,rfl,_,rfl,cp,bh,ns,o,b+1,rfl,c1,by omega,Zt,by omega,fun r ts H2 x2 c2 W=>q r o ts H2 (x1.trans x2) (c2.mono (by omega)) W⟩
end
theorem zU{so:Int->Int->Bool}{m:Int}{i:Nat}:(rows tt m i).filter (fun p=>so p.1 p.2)=rows so m i:=by
 refine eq_of_sorted ((Ua _ _ _).filter _) (Ua _ _ _) fun p=> ?_;rw[fL,dR,dR];constructor
 ·rintro⟨⟨a,b,c,d,_⟩,e⟩;exact⟨a,b,c,d,e⟩
 ·rintro⟨a,b,c,d,e⟩;exact⟨⟨a,b,c,d,rfl⟩,e⟩
section
variable{P:ξ}{w:τ}{K:W.Frag}{mg:L5}{base:Heap}
structure aap(K:W.Frag)(H:Hp)(l:Addr)(ps:L0):Prop where
 ex:∃rs,H l=some (.lst rs)/\cN K H rs (ps.map pairD)
noncomputable def K7(K:W.Frag):Sp:=fun vs H Q _=>∃(n:Int),vs=[.int n]/\0<=n/\n<=10/\∀l H',Same H H'->aap K H' l (rows tt n n.toNat)->Q (.ref l) H'
theorem Rf{f:Addr}{fd:ρ}(F:Fun K "pairs" "pairs" xJ f fd)(mR:mg "range"=none):FnOk P w K mg base CX0 1 f fd ["n"] (K7 K):=by
 refine F.bZ ["n","found","one"] fun cdv A outer s H vs Q E hr h=> ?_;obtain⟨n,rfl,hn0,hn1,q⟩:=h;refine aW ?_;intro Y;refine⟨_,aL (pS 1 (pe_lst ak)) (aL (ps_for wZ rfl (Io rfl mR (aj (pv 0) ak)) (pG 2) (aR (qj (pe_bm Qg PySem.F.slot_list_extend PySem.F.type_list_extend mt_extend (pv 1) (aj
    (pK ["other"] ["one"] [2] (pi_range2 rfl mR (aj (bA nu (pv 2) ao) (aj (pv 0) ak))) (pG 0) nP (dW (aj (pv 1) (aj (pv 0) ak)))) ak))))) (aR (bB (pv 1)))),?_⟩
 refine gC ?_;intro c3 c2;refine⟨(by show 0<=sizeLine;decide),fun l hl=> ?_⟩;refine⟨_,rfl,n,rfl,by omega,by omega,?_⟩;let gF:Nat->St->Hp->Prop:=fun i σ H'=>Same H H'/\(∃rs,H' l=some (.lst rs)/\cN K H' rs ((rows tt n i).map pairD))/\∃o,σ=[some (.int n),some (.ref l),o];refine Ph (n:=n.toNat) gF ⟨aM hl _,⟨[],aB,.nil⟩,_,rfl⟩ (fun i σ H' hi p=> ?_) (fun σ H' p=> ?_)
 ·obtain⟨sm,⟨rs,hr1,hr2⟩,o,rfl⟩:=p;have hlen:=hr2.len;rw[aJ]at hlen;have XD:=pairs_len (GF (so:=tt) (m:=n) (i:=i)) hn1;refine⟨_,rfl,.inl ⟨rfl,_,SqL.of hr1⟩,_,rfl,_,_,rfl,rfl,_,rfl,_,_,rfl,⟨by omega,by omega,by omega,by omega⟩,?_⟩;let p7:Nat->List V->St->Hp->Prop:=fun k acc σ H2=>Same H' H2/\acc.length=k/\cN K H2 acc ((row tt (0+(i:Int)) k).map pairD)/\∃o1,σ=[o1,some (.int (0+(i:Int)))];refine R6 (n:=(n-(0+(i:Int)+1)).toNat) p7 ⟨Same.refl _,rfl,.nil,_,rfl⟩ (fun k acc σ H2 hk p=>by rw[p.2.1];exact aX _) (by rw[gR];omega) (fun k acc σ H2 hk p=> ?_) (fun acc σ H2 p=> ?_)
  ·obtain⟨s2,hl2,hd,o1,rfl⟩:=p;refine⟨_,rfl,_,rfl,(by show 2<=sizeLine;decide),fun p hp=> ?_⟩;have s3:=aM hp (.tup [.int (0+(i:Int)),.int (0+(i:Int)+1+(k:Int))]);refine⟨s2.trans s3,by rw[ql,hl2];rfl,?_,_,rfl⟩;rw[uc,bL,aF (show tt (0+(i:Int)) (0+(i:Int)+1+(k:Int))=true from rfl)];exact(hd.same s3).append (.cons (.tup (SqT.of aB) (.cons (.int _) (.cons (.int _) .nil))) .nil)
  ·intro p1 hp1;obtain⟨s2,hl2,hd,_⟩:=p;have s3:=aM hp1 (.lst acc);have Xy:=s3 _ _ (s2 _ _ hr1);refine⟨l,p1,rs,acc,rfl,rfl,Xy,aB,?_,?_⟩
   ·rw[gR];omega
   ·have x4:aD l (upd H2 p1 (.lst acc)) (upd (upd H2 p1 (.lst acc)) l (.lst (rs++acc))):=(aD.refl _ _).upd;refine⟨?_,⟨_,aB,?_⟩,_,rfl⟩
    ·intro b o hb;have nb:b≠l:=fun e=>by rw[e,hl]at hb;cases hb
     exact x4 _ _ nb (s3 _ _ (s2 _ _ (sm _ _ hb)))
    ·rw[jd];exact ig x4 Xy (by rw[bL];exact((hr2.same s2).same s3).append (hd.same s3))
 ·obtain⟨sm,⟨rs,hr1,hr2⟩,o,rfl⟩:=p;exact⟨_,rfl,q l _ sm ⟨rs,hr1,hr2⟩⟩
theorem Bc{so:Int×Int->Bool}{ps:L0}{i:Nat}(hi:i<ps.length):(ps.take (i+1)).filter so=(ps.take i).filter so++(if so ps[i]=true then[ps[i]]else[]):=by
 rw[sI,dF hi,Cq];congr 1;show List.filter so [ps[i]]=_;rw[Cp];rfl
end
theorem ju.gW{n:Int}{xs:List Int}(h:ju n xs):oJ.gW n (.tuple (xs.map PyData.int))=true:=by
 unfold oJ.gW;rw[kO];refine⟨?_,?_⟩
 ·rw[Xe,j4];intro x hx;have:=h.lt x hx;show(decide (0<=x)&&decide (x<n))=true;rw[cL this.1,cL this.2];rfl
 ·rw[vA];have e:xs.map (intD∘PyData.int)=xs:=(Uk fun x _=>rfl).trans (List.map_id xs);rw[e];unfold dM;rw[j4];intro k hk;rw[jZ]at hk;have h2:=Uq.mp h.zF k (k+1) (by omega) (by omega) (by omega);have g:∀j,(hj:j<xs.length)->xs.getD j 0=xs[j]:=fun j hj=>by rw[lg,dF hj];rfl
  rw[g k (by omega),g (k+1) (by omega)];exact cL h2
noncomputable def U3(xs:List Int)(ts:L0)(i j:Int):Bool:=bU ts (xs.getD i.toNat 0) (xs.getD j.toNat 0)
section
variable{P:ξ}{w:τ}{K:W.Frag}{mg:L5}{base:Heap}
noncomputable def Tn(K:W.Frag):Sp:=fun vs H Q _=>∃(a sm:Addr) (n:Int) (ts:L0) (xs:List Int),vs=[.ref a,.ref sm]/\aO K H a n ts/\SqT K H sm (xs.map V.int)/\ju n xs/\
 ∀r H',Same H H'->rQ K H' r (xs.length:Int) (rows (U3 xs ts) (xs.length:Int) (xs.length:Int).toNat)->Q (.ref r) H'
theorem Vu{f f1 f2 f3 f4:Addr}{fd d1 d2 d3 d4:ρ}(F:Fun K "cut_down" "cut_down" nY f fd)(D1:bC K mg "need_web" T9 ["thing"] f1 d1)(G1:FnOk P w K mg base CX0 7 f1 d1 ["thing"] (fQ K))(D2:bC K mg "need_set" jA ["web","thing"] f2 d2)(G2:FnOk P w K mg base CX0 5 f2 d2 ["web","thing"] (mO K))(D3:bC K mg "pairs" xJ ["n"] f3 d3)(G3:FnOk P w K mg base CX0 1 f3 d3 ["n"] (K7 K))(D4:bC K mg "has_tie" fU ["web","one","other"] f4 d4)(G4:FnOk P w K mg base CX0 1 f4 d4 ["web","one","other"] (rC K))(mT:mg "tuple"=none)(mL:mg "len"=none):
  FnOk P w K mg base CX0 8 f fd ["web","some"] (Tn K):=by
 refine F.bZ ["web","some","kept"] fun cdv A outer s H vs Q E hr h=> ?_;obtain⟨a,sm,n,ts,xs,rfl,hA,hX,hok,q⟩:=h;refine⟨_,aL (qj (pc G1 hr D1 (aj (pv 0) ak))) (aL (qj (pc G2 hr D2 (aj (pv 0) (aj (pv 1) ak)))) (aL (pX 2 ["i","j"] ["web","some"] [0,1] (sG (pc G3 hr D3 (aj (pB vm mL (aj (pv 1) ak)) ak))) (JN K (n:=2) rfl (mH (pG 0) (mH (pG 1) zq))) (BX (iY (pc G4 hr D4 (aj (pv 2) (aj (aQ (Cg K) (pv 3) (pv 0)) (aj (aQ (Cg K) (pv 3) (pv 1)) ak)))))) (dW (aj (pv 0) (aj (pv 1) ak)))) (aR (bB (dW (aj (pB vm mL (aj (pv 1) ak)) (aj (pT Ci mT (aj (pv 2) ak)) ak))))))),?_⟩;have hA1:=hA.h1;have h10:=hok.len hA1;refine⟨_,rfl,_,_,rfl,hA.web.dv.dx,hA.ok,fun H1 s1=> ?_⟩;obtain⟨ta,ra,a1,a2,a3⟩:=id (hA.same s1).web;have hDX:DX K H1 (.ref sm) (.tuple (xs.map PyData.int)):=(DV.tup (s1.tup hX) (cN.ints xs)).dx;refine⟨_,rfl,_,rfl,a,n,_,_,_,rfl,a1,hDX,hok.gW,fun H2 s2=> ?_⟩;have s12:=s1.trans s2;refine⟨_,rfl,sm,_,rfl,.inr (s12.tup hX),fun _=>⟨_,rfl,by omega,by rw[aJ];omega,fun l H3 s3 p1=> ?_⟩⟩;rw[aJ]at p1;obtain⟨rs,e1,v1⟩:=p1.ex;refine⟨l,rs,rfl,SqL.of e1,fun hz=> ?_⟩;have hlen:=v1.len;rw[aJ]at hlen;have oV:=s12.trans s3;generalize hR:rows tt (xs.length:Int) (xs.length:Int).toNat=R at *;have hR':∀p∈R,0<=p.1/\p.1<p.2/\p.2<(xs.length:Int):=fun p hp=>by rw[<-hR,dR]at hp;exact⟨hp.1,hp.2.2.1,hp.2.2.2.1⟩
 refine wU (xs:=rs) (fun i acc σ H'=>Same H3 H'/\acc.length<=i/\cN K H' acc ((R.take i).filter (fun p=>U3 xs ts p.1 p.2)|>.map pairD)/\∃o1 o2,σ=[o1,o2,some (.ref a),some (.ref sm)]) ⟨Same.refl _,aX _,.nil,_,_,rfl⟩ (fun i acc σ H' _ p=>p.1.seq (SqL.of e1)) (fun i acc σ H' hi p=>p.2.1) hz (fun i x acc σ H' hx p=> ?_) (fun acc σ H' p=> ?_)
 ·obtain⟨sm',hl,hd,o1,o2,rfl⟩:=p;obtain⟨t,hi,rfl,ht⟩:=GQ v1 hx;have sA:=oV.trans sm';have hb:=hR' _ (Cd hi);refine⟨t,_,rfl,sm'.tup ht,rfl,_,_,rfl,_,_,rfl,rfl,?_⟩;refine⟨_,rfl,_,rfl,_,rfl,sm,_,_,_,rfl,rfl,sA.tup hX,Ox hb.1 (by omega),_,rfl,_,rfl,sm,_,_,_,rfl,rfl,sA.tup hX,Ox (by omega) hb.2.2,?_⟩;refine⟨a,n,_,_,ts,rfl,(hA.same sA).web,fun H5 s5=>⟨_,rfl,?_⟩⟩;rw[Bc hi];refine ite2 (fun c=> ?_) (fun c=> ?_)
  ·refine⟨_,rfl,_,rfl,(by show 2<=sizeLine;decide),fun p hp=> ?_⟩;have s6:=aM hp (.tup [.int (R[i]).1,.int (R[i]).2]);refine⟨sm'.trans (s5.trans s6),by rw[ql];show acc.length+1<=i+1;omega,?_,_,_,rfl⟩;rw[aF (show U3 xs ts _ _=true from c),bL];exact(hd.same (s5.trans s6)).append (.cons (.tup (SqT.of aB) (.cons (.int _) (.cons (.int _) .nil))) .nil)
  ·refine⟨sm'.trans s5,by omega,?_,_,_,rfl⟩;rw[aA (show¬U3 xs ts _ _=true from c),zx];exact hd.same s5
 ·intro p1 hp1;obtain⟨sm',hl,hd,_⟩:=p;rw[hlen,qm,<-hR,zU]at hd;have s5:=aM hp1 (.lst acc);have sA:=oV.trans (sm'.trans s5);refine⟨_,rfl,sm,_,rfl,.inr (sA.tup hX),fun _=>⟨_,rfl,p1,_,rfl,.inl ⟨SqL.of aB,fun t ht=> ?_⟩⟩⟩;have s6:=aM ht (.tup acc);refine⟨(by show 2<=sizeLine;decide),fun r hr'=> ?_⟩;rw[aJ];have s7:=aM hr' (.tup [.int (xs.length:Int),.ref t]);exact q r _ (sA.trans (s6.trans s7)) ⟨t,acc,SqT.of aB,SqT.of (s7 _ _ aB),hd.same (s5.trans (s6.trans s7))⟩
end
noncomputable def vp(n:Nat):List Int:=(List.range n).map fun(t:Nat)=>(t:Int)
theorem Hj{n:Nat}{x:Int}:x∈vp n↔0<=x/\x<(n:Int):=by
 unfold vp;rw[jY];constructor
 ·rintro⟨t,ht,rfl⟩;have:=jZ.mp ht;omega
 ·intro h;exact⟨x.toNat,jZ.mpr (by omega),by omega⟩
noncomputable def cD(n:Nat):List Int:=List.replicate n 1
section
variable{P:ξ}{w:τ}{K:W.Frag}{mg:L5}{base:Heap}
noncomputable def qt(K:W.Frag):Sp:=fun vs H Q _=>∃(n:Int),vs=[.int n]/\n<=10/\Q .non H
theorem Du{f:Addr}{fd:ρ}{tk:Tok}(F:Fun K "need_few" "need_few" nT f fd)(mM:mg "MOST_PLACES"=some (.int 10 tk)):FnOk P w K mg base CX0 1 f fd ["n"] (qt K):=by
 refine F.bZ ["n"] fun cdv A outer s H vs Q E hr h=> ?_;obtain⟨n,rfl,hn,q⟩:=h;refine⟨_,aR (dZ (cR op_gt (pv 0) (pe_glob rfl mM (v:= .int 10) ⟨_,rfl⟩)) Pj eG),?_⟩;refine⟨_,rfl,_,_,rfl,rfl,_,rfl,?_⟩;rw[fO (show¬(10:Int)<n by omega)];exact iteF q
end
noncomputable def sh(b:Int)(p:Int×Int):Int×Int:=(p.1+b,p.2+b)
section
variable{P:ξ}{w:τ}{K:W.Frag}{mg:L5}{base:Heap}
noncomputable def Gj(K:W.Frag):Sp:=fun vs H Q _=>∃(a:Addr) (n b:Int) (ts:L0),vs=[.ref a,.int b]/\rQ K H a n ts/\∀l H',Same H H'->aap K H' l (ts.map (sh b))->H l=none->Q (.ref l) H'
theorem Mq{f:Addr}{fd:ρ}(F:Fun K "moved_ties" "moved_ties" jC f fd):FnOk P w K mg base CX0 1 f fd ["web","by"] (Gj K):=by
 refine F.bZ ["web","by"] fun cdv A outer s H vs Q E hr h=> ?_;obtain⟨a,n,b,ts,rfl,hW,q⟩:=h;refine⟨_,aR (bB (pK ["one","other"] ["by"] [1] (BW (aQ bD (pv 0) ao)) (JN K (n:=2) rfl (mH (pG 0) (mH (pG 1) zq))) nP (dW (aj (bA nu (pv 0) (pv 2)) (aj (bA nu (pv 1) (pv 2)) ak))))),?_⟩;obtain⟨t,rs,h1,h2,h3⟩:=hW;refine⟨_,rfl,a,_,_,.ref t,rfl,rfl,h1,rfl,t,rs,rfl,h2,fun hz=> ?_⟩;have hlen:=h3.len;rw[aJ]at hlen;let gF:Nat->List V->St->Hp->Prop:=fun i acc σ H'=>Same H H'/\acc.length=i/\cN K H' acc (((ts.take i).map (sh b)).map pairD)/\∃o1 o2,σ=[o1,o2,some (.int b)];refine BZ (xs:=rs) gF ⟨Same.refl _,rfl,.nil,_,_,rfl⟩ (fun i acc σ H' _ p=>p.1.tup h2) (fun i acc σ H' hi p=>by rw[p.2.1];exact aX _) hz (fun i x acc σ H' hx p=> ?_) (fun acc σ H' p=> ?_)
 ·obtain⟨sm,hl,hd,o1,o2,rfl⟩:=p;have hi:i<ts.length:=by rw[<-hlen];exact(nF.mp hx).1
  obtain⟨x',d,e1,e2,e3⟩:=cN.get' (i:=i) h3 (by rw[aJ];exact hi);rw[hx]at e1;cases e1;rw[dJ,dF hi]at e2;cases e2;cases e3 with
  |tup hp tp=>
   cases tp with
   |cons ta tb=>
    cases tb with
    |cons tc td=>
     cases td;cases ta;cases tc;refine⟨_,_,rfl,sm.tup hp,rfl,_,_,rfl,_,_,rfl,rfl,?_⟩;refine⟨_,rfl,_,rfl,_,_,rfl,rfl,_,rfl,_,rfl,_,_,rfl,rfl,(by show 2<=sizeLine;decide),fun p hp'=> ?_⟩;have s2:=aM hp' (.tup [.int (ts[i].1+b),.int (ts[i].2+b)]);refine⟨sm.trans s2,by rw[ql,hl];rfl,?_,_,_,rfl⟩;rw[sI,dF hi];simp only[Option.toList_some,bL];refine(hd.same s2).append (.cons (.tup (SqT.of aB) (.cons (.int _) (.cons (.int _) .nil))) .nil)
 ·intro p1 hp1;obtain⟨sm,hl,hd,_⟩:=p;rw[hlen,qm]at hd;have s2:=aM hp1 (.lst acc);exact q p1 _ (sm.trans s2) ⟨acc,aB,hd.same s2⟩ (sm.free hp1)
noncomputable def rB(K:W.Frag):Sp:=fun vs H Q _=>∃(a:Addr) (n i:Int) (t:V),vs=[.ref a,.int i]/\SqT K H a [.int n,t]/\0<=i/\i<n/\Q .non H
theorem xX{f f1:Addr}{fd d1:ρ}(F:Fun K "need_place" "need_place" jB f fd)(D1:bC K mg "is_place" jJ ["n","thing"] f1 d1)(G1:FnOk P w K mg base CX0 2 f1 d1 ["n","thing"] (xq K)):FnOk P w K mg base CX0 3 f fd ["web","thing"] (rB K):=by
 refine F.bZ ["web","thing"] fun cdv A outer s H vs Q E hr h=> ?_;obtain⟨a,n,i,t,rfl,hS,h0,h1,q⟩:=h;refine⟨_,aR (dZ (kY (iY (pc G1 hr D1 (aj (aQ bD (pv 0) ao) (aj (pv 1) ak))))) Pj eG),?_⟩;refine⟨_,rfl,a,_,_,.int n,rfl,rfl,hS,rfl,_,rfl,n,.int i,.int i,rfl,.int i,_,rfl,?_⟩;have e:bR n (.int i)=true:=by show(decide (0<=i)&&decide (i<n))=true;rw[cL h0,cL h1];rfl
 rw[e];exact iteF q
end
theorem Ak{a:Int}{D:Nat}(hD:0<D):(aP a D).2∣D:=⟨Nat.gcd a.natAbs D,(Nat.div_mul_cancel (Yd _ _)).symm⟩
theorem uH{a:Int}{D:Nat}(hD:0<D):(aP a D).1*((D/(aP a D).2:Nat):Int)=a:=by
 have l:=Ca a hD;have e:=l.eq;have hv:=l.pos;obtain⟨c,hc⟩:=Ak (a:=a) hD;generalize (aP a D).1=u at *;generalize (aP a D).2=v at *;have:D/v=c:=by rw[hc];exact Pr _ hv
 rw[this];rw[hc]at e
 push_cast at e
 refine ydi (a:=(v:Int)) (by omega) ?_
 grind
theorem Rj{a:Int}{D:Nat}(hD:0<D)(ha:0<=a):0<=(aP a D).1:=(Ca a hD).nn ha
theorem pO{a:Int}{D:Nat}(hD:0<D)(ha:0<=a):0<=(aP a D).1/\0<(aP a D).2/\(aP a D).2∣D:=⟨Rj hD ha,(Ca a hD).pos,Ak hD⟩
theorem yp{ss:List (List Int)}{D:Nat}{Y:Nat->Int}(hD:0<D)(hY:∀k,0<=Y k)(g:List Int->Bool):∀m,dI D (((((List.range m).filter fun k=>decide (0<Y k)).map fun k=>(ss.getD k [],aP (Y k) D)).filter fun q=>g q.1).map (·.2))=Sx.sm m fun k=>if g (ss.getD k [])=true then Y k else 0
 |0=>rfl
 |m+1=>by
  have ih:=yp (ss:=ss) hD hY g m;rw[yZ,Cq,bL,Cq,bL,jO,ih];show _=Sx.sm m _+(if g (ss.getD m [])=true then Y m else 0);congr 1;by_cases hy:0<Y m
  ·rw[ydt (by simpa using hy)];by_cases hg:g (ss.getD m [])=true
   ·rw[List.filter_nil,yX,Yr,ydt (by exact hg),aF hg];exact(tD D _).trans (uH hD)
   ·rw[List.filter_nil,yX,Yr,ydu (by exact hg),aA hg];rfl
  ·rw[ydu (by simpa using hy)];have:Y m=0:=by have:=hY m;omega
   rw[this];show(0:Int)=_;split<;>rfl
theorem xM{D:Nat}{X:Nat->Int}(hD:0<D):∀xs:List Int,dI D (xs.map fun x=>aP (X x.toNat) D)=(xs.map fun x=>X x.toNat).sum
 |[]=>rfl
 |x::xs=>by
  show _*_+dI D (xs.map _)=_;rw[xM hD xs,uH hD];rfl
theorem Hi{n:Nat}{X:Nat->Int}:∀{xs:List Int},xs.Nodup->(∀x∈xs,0<=x/\x<(n:Int))->(xs.map fun x=>X x.toNat).sum=Sx.sm n fun p=>if decide (((p:Nat):Int)∈xs)=true then X p else 0
 |[],_,_=>(Sx.cV n fun i _=>by simp).symm
 |x::xs,nd,hb=>by
  obtain⟨nx,nd'⟩:=J4.mp nd;have hx:=hb x iW;have ih:=Hi (X:=X) nd' fun y hy=>hb y (iG _ hy);show X x.toNat+(xs.map fun x=>X x.toNat).sum=_;rw[ih];have e1:Sx.sm n (fun p=>if p=x.toNat then X p else 0)=X x.toNat:=by
   rw[Sx.dg (j:=x.toNat) n (by omega) fun i _ hi=>aA hi,aF rfl]
  rw[<-e1,<-Sx.jx];refine Sx.bw n fun p hp=> ?_;by_cases h:p=x.toNat
  ·have h1:((p:Nat):Int)=x:=by omega
   rw[aF h,aA (by rw[h1];simpa using nx),aF (by rw[h1];simp)];omega
  ·have h1:((p:Nat):Int)≠x:=by omega
   rw[aA h];have:decide (((p:Nat):Int)∈x::xs)=decide (((p:Nat):Int)∈xs):=by
    refine decide_eq_decide.mpr ⟨fun z=> ?_,iG _⟩;rcases cY.mp z with z|z
    ·exact absurd z h1
    ·exact z
   rw[this];omega
theorem Gy{f g:Nat->Int}:∀k,(∀i,i<k->f i<=g i)->Sx.sm k f<=Sx.sm k g
 |0,_=>tH _
 |k+1,h=>wex (Gy k fun i hi=>h i (by omega)) (h k (by omega))
theorem FZ{wl:List Int}{D:Nat}{X:Nat->Int}(hD:0<D):∀n,dI D ((List.range n).map fun p=>(sS wl p*(aP (X p) D).1,(aP (X p) D).2))=Sx.sm n fun p=>sS wl p*X p
 |0=>rfl
 |n+1=>by
  rw[yZ,bL,jO,FZ hD n];show _=Sx.sm n _+_;congr 1;rw[yX,Yr,tD];show sS wl n*(aP (X n) D).1*_=_;rw[Sg,uH hD]
theorem Bq{n:Nat}{ts:L0}{ss:List (List Int)}{wl:List Int}{ov:Nat}{Z:Int}{Y X:Nat->Int}(hS:bQ ss ts false n)(h:Sh n ss wl ov Z Y X){xs:List Int}(hk:kj ts false n xs):
  dI ov (xs.map fun x=>aP (X x.toNat) ov)<=1*(ov:Int):=by
 have nd:xs.Nodup:=hk.up.imp fun h e=>by omega
 rw[xM h.pos,Hi nd hk.lt,Cj];obtain⟨t,ht,hx⟩:=uN hk;obtain⟨k,hk',rfl⟩:=Iu (hS.1.mem_iff.mpr ht);refine weu (Gy n fun p hp=> ?_) (h.lig k hk');have hxn:=h.xn p;by_cases c:decide (((p:Nat):Int)∈xs)=true
 ·rw[aF c,aF]
  ·exact tH _
  ·unfold gU;rw[lg,dF hk'];exact cL (hx _ (fX c))
 ·rw[aA c];split
  ·exact hxn
  ·exact tH _
structure aao(n:Int)(ts:L0)(q:List Int×(Int×Nat)):Prop where
 up:q.1.Pairwise (· < ·)
 lt:∀x∈q.1,0<=x/\x<n
 no:ts.filter (inB q.1)=[]
 pos:0<q.2.1
 bot:0<q.2.2
 big:q.2.2<=39916800
 low:Nat.gcd q.2.1.natAbs q.2.2=1
structure aaq(n:Int)(ts:L0)(l:List (List Int×(Int×Nat))):Prop where
 all:∀q∈l,aao n ts q
 rise:(l.map (·.1)).Pairwise fun p q=>HT.lexLt p q=true
 len:l.length<=36
theorem Rg{n:Int}{k:Nat}{ts:L0}(hp:aN n ts){s:List Int}(h:kj ts false k s):ts.filter (inB s)=[]:=by
 refine Xl.mpr fun p hp1 hc=> ?_;unfold inB at hc;rw[kO]at hc;have m1:=fX hc.1;have m2:=fX hc.2;have hlt:=hp.2 p hp1;have hz:=h.all p.1 m1 p.2 m2 (by omega);unfold bW at hz;rw[cL (show(p.1,p.2)∈ts from hp1)]at hz;cases hz
theorem DQ{n:Nat}{ts:L0}{ss:List (List Int)}{wl:List Int}{ov:Nat}{Z:Int}{Y X:Nat->Int}(hp:aN (n:Int) ts)(hn:n<=10)(hS:bQ ss ts false n)(h:Sh n ss wl ov Z Y X):aaq (n:Int) ts (iw ss ov Y):=by
 have nd:ss.Nodup:=hS.1.nodup_iff.mpr ((jy n).filter _);have up:ss.Pairwise fun p q=>HT.lexLt p q=true:=(hS.2.and nd).imp fun⟨a,b⟩=>M9 a b;have m36:=tW hS hn;refine⟨fun q hq=> ?_,?_,?_⟩
 ·obtain⟨k,hk,rfl⟩:=jY.mp hq;obtain⟨hk1,hk2⟩:=fL.mp hk;have hk3:=jZ.mp hk1;have e:ss.getD k []=ss[k]:=by rw[lg,dF hk3];rfl
  have K1:=Qn hS (Cd hk3);have hy:=fX hk2;have l:=Ca (Y k) h.pos;refine⟨by rw[e];exact K1.up,by rw[e];exact K1.lt,by rw[e];exact Rg hp K1,(Aj h.pos).mpr hy,l.pos,cT l.lv h.big,l.cop⟩
 ·unfold iw;rw[vA];have:((List.range ss.length).filter fun k=>decide (0<Y k)).Pairwise (· < ·):=Yk.filter _;refine P0.mpr (this.imp_of_mem fun{a b} ha hb hab=> ?_);have hb3:=jZ.mp (fL.mp hb).1;have e:∀k,(hk:k<ss.length)->ss.getD k []=ss[k]:=fun k hk=>by rw[lg,dF hk];rfl
  show HT.lexLt (ss.getD a []) (ss.getD b [])=true;rw[e a (by omega),e b hb3];exact Uq.mp up a b (by omega) hb3 hab
 ·unfold iw;rw[aJ];exact cT (vC _ _) (by rw[vo];exact m36)
noncomputable def upto(n:Nat):List Int:=(List.range n).map fun(k:Nat)=>(k:Int)
theorem Qi(n:Int):ju n (upto n.toNat):=by
 unfold upto;refine⟨?_,fun x hx=> ?_⟩
 ·rw[P0];exact Yk.imp fun h=>by omega
 ·obtain⟨k,hk,rfl⟩:=jY.mp hx;rw[jZ]at hk;omega
theorem qR{n:Nat}{ts:L0}{ss:List (List Int)}{wl:List Int}{ov:Nat}{Z:Int}{Y X:Nat->Int}(hS:bQ ss ts false n)(h:Sh n ss wl ov Z Y X){xs:List Int}(hk:kj ts false n xs):
  (Sx.sm n fun p=>if decide (((p:Nat):Int)∈xs)=true then X p else 0)<=(ov:Int):=by
 obtain⟨t,ht,hx⟩:=uN hk;obtain⟨k,hk',rfl⟩:=Iu (hS.1.mem_iff.mpr ht);refine weu (Gy n fun p hp=> ?_) (h.lig k hk');have hxn:=h.xn p;by_cases c:decide (((p:Nat):Int)∈xs)=true
 ·rw[aF c,aF]
  ·exact tH _
  ·unfold gU;rw[lg,dF hk'];exact cL (hx _ (fX c))
 ·rw[aA c];split
  ·exact hxn
  ·exact tH _
theorem wX{n p:Nat}(hp:p<n):sS (cD n) p=1:=by
 unfold sS cD;rw[lg,List.getElem?_replicate_of_lt hp];rfl
noncomputable def wN(n:Int)(ts:L0)(f:Int×Nat):Prop:=∃(ss:List (List Int)) (ov:Nat) (Z:Int) (Y X:Nat->Int),bQ ss ts false n.toNat/\Sh n.toNat ss (cD n.toNat) ov Z Y X/\f=aP Z ov
end Hs
namespace oJ
open PySem L2
theorem aN.perm{n:Int}{ps qs:L0}(h:aN n ps)(e:qs.Perm ps):aN n qs:=⟨e.nodup_iff.mpr h.nd,fun p hp=>h.lt p (e.mem_iff.mp hp)⟩
theorem gB{K:W.Frag}{H:Hp}{rs:List V}{ps:L0}(h:cN K H rs (ps.map pairD)):∃its:List (Addr×(Int×Int)),rs=its.map (fun p=>V.ref p.1)/\its.map (·.2)=ps/\∀p∈its,SqT K H p.1 ((pl p.2).map V.int):=by
 induction ps generalizing rs with
 |nil=>cases h;exact⟨[],rfl,rfl,fun p h=>(nomatch h)⟩
 |cons p ps ih=>
  cases h with
  |cons h tl=>
   obtain⟨its,e1,e2,e3⟩:=ih tl;cases h with
   | @tup a _ _ h hd=>
    cases hd with
    |cons a1 t1=>
     cases a1;cases t1 with
     |cons a2 t2=>
      cases a2;cases t2;refine⟨(a,p)::its,by rw[e1];rfl,by rw[<-e2];rfl,fun q hq=> ?_⟩;rcases cY.mp hq with e|e
      ·rw[e];exact h
      ·exact e3 q e
theorem gw{K:W.Frag}{H:Hp}:∀(its:List (Addr×(Int×Int))),(∀p∈its,SqT K H p.1 ((pl p.2).map V.int))->cN K H (its.map fun p=>V.ref p.1) ((its.map (·.2)).map pairD)
 |[],_=> .nil
 |p::its,h=> .cons (.tup (h p iW) (.cons (.int _) (.cons (.int _) .nil))) (gw its fun q hq=>h q (iG _ hq))
end oJ
namespace Hs
open PySem L2 oJ
section
variable{P:ξ}{w:τ}{K:W.Frag}{mg:L5}{base:Heap}
noncomputable def TK(K:W.Frag)(H H':Hp):Prop:=∀a xs,SqT K H a xs->SqT K H' a xs
theorem _root_.L2.Same.tk{H H':Hp}(e:Same H H'):TK K H H':=fun _ _ h=>e.tup h
theorem _root_.L2.aD.tk{H H':Hp}{c:Addr}{zs:List V}(e:aD c H H')(hc:H c=some (.lst zs)):TK K H H':=fun _ _ h=>e.tup hc h
theorem _root_.L2.aD.Xw{H H':Hp}{o C dx:Addr}{fs:List (Str×V)}(e:aD o H H')(hO:H o=some (.ins C dx fs)):TK K H H':=fun a xs h=>by
 rcases h with(h|⟨ob,h⟩)|h
 ·exact .inl (.inl (e _ _ (fun z=>by rw[z,hO]at h;cases h) h))
 ·exact .inl (.inr ⟨ob,e _ _ (fun z=>by rw[z,hO]at h;cases h) h⟩)
 ·exact .inr h
theorem Ma{H H':Hp}(e:TK K H H'){rs:List V}{ps:L0}(h:cN K H rs (ps.map pairD)):cN K H' rs (ps.map pairD):=by
 induction ps generalizing rs with
 |nil=>cases h;exact .nil
 |cons p ps ih=>
  cases h with
  |cons h tl=>
   refine .cons ?_ (ih tl);cases h with
   |tup h hd=>
    cases hd with
    |cons a1 t1=>
     cases a1;cases t1 with
     |cons a2 t2=>
      cases a2;cases t2;exact .tup (e _ _ h) (.cons (.int _) (.cons (.int _) .nil))
theorem aO.tk{H H':Hp}{a:Addr}{n:Int}{ts:L0}(h:aO K H a n ts)(e:TK K H H'):aO K H' a n ts:=by
 obtain⟨⟨t,rs,h1,h2,h3⟩,h4,h5,h6,h7⟩:=h;exact⟨⟨t,rs,e _ _ h1,e _ _ h2,Ma e h3⟩,h4,h5,h6,h7⟩
theorem cP.tk{H H':Hp}{vs:List V}{l:List (List Int×(Int×Nat))}(h:cP K H vs l)(e:TK K H H'):cP K H' vs l:=Paired.mapP h fun _ _ ⟨t,sa,fa,e0,h1,h2,h3⟩=>⟨t,sa,fa,e0,e _ _ h1,e _ _ h2,e _ _ h3⟩
theorem dB.tk{H H':Hp}{vs:List V}{l:List (Int×Nat)}(h:dB K H vs l)(e:TK K H H'):dB K H' vs l:=Paired.mapP h fun _ _ ⟨a,e0,z⟩=>⟨a,e0,e _ _ z⟩
noncomputable def Lw(f:Int×Nat):Prop:=0<f.2/\f.2<=39916800/\Nat.gcd f.1.natAbs f.2=1
structure Sd where
 n:Int
 ts:L0
 t:Int
 l:List (List Int×(Int×Nat))
 D:Nat
 f:Int×Nat
 ps:List (Int×Nat)
 la:Addr
 pa:Addr
noncomputable def zO(la t wb va pa:V):List (Str×V):=[("kept_laying",la),("times_anew",t),("kept_web",wb),("kept_value",va),("kept_prices",pa)]
structure RW(K:W.Frag)(C:Addr)(H:Hp)(o dx wb va:Addr)(lr pr:List V)(S:Sd):Prop where
 at_:H o=some (.ins C dx (zO (.ref S.la) (.int S.t) (.ref wb) (.ref va) (.ref S.pa)))
 web:aO K H wb S.n S.ts
 val:p8 K H va S.f
 lay:H S.la=some (.lst lr)
 lv:cP K H lr S.l
 Y7:H S.pa=some (.lst pr)
 pv:dB K H pr S.ps
noncomputable def dG(K:W.Frag)(C:Addr)(H:Hp)(o:Addr)(S:Sd):Prop:=∃(dx wb va:Addr) (lr pr:List V),RW K C H o dx wb va lr pr S
theorem dG.same{C o:Addr}{H H':Hp}{S:Sd}(h:dG K C H o S)(e:Same H H'):dG K C H' o S:=by
 obtain⟨dx,wb,va,lr,pr,h1,h2,h3,h4,h5,h6,h7⟩:=h;exact⟨dx,wb,va,lr,pr,e _ _ h1,h2.same e,e.tup h3,e _ _ h4,h5.same e,e _ _ h6,h7.same e⟩
theorem dG.nH{C o c:Addr}{H H':Hp}{S:Sd}{zs:List V}(h:dG K C H o S)(e:aD c H H')(hc:H c=some (.lst zs))(n1:S.la≠c)(n2:S.pa≠c):dG K C H' o S:=by
 obtain⟨dx,wb,va,lr,pr,h1,h2,h3,h4,h5,h6,h7⟩:=h;have k:TK K H H':=e.tk hc;exact⟨dx,wb,va,lr,pr,e _ _ (fun z=>by rw[z,hc]at h1;cases h1) h1,h2.tk k,k _ _ h3,e _ _ n1 h4,h5.tk k,e _ _ n2 h6,h7.tk k⟩
theorem dG.ins{C o:Addr}{H:Hp}{S:Sd}(h:dG K C H o S):∃dx fs,H o=some (.ins C dx fs):=let⟨dx,_,_,_,_,h⟩:=h;⟨dx,_,h.at_⟩
structure Bt(K:W.Frag)(C:Addr):Prop where
 c:Cls K C
 la:NoAttr K C "kept_laying"
 ti:NoAttr K C "times_anew"
 wb:NoAttr K C "kept_web"
 va:NoAttr K C "kept_value"
 pr:NoAttr K C "kept_prices"
structure cO(S:Sd):Prop where
 HY:Ce S.D (S.l.map (·.2))
 low:∀q∈S.l,Lw q.2
 len:S.l.length<=36
 val:wN S.n S.ts S.f
 Y7:∃(ss:List (List Int)) (ov:Nat) (Z:Int) (Y X:Nat->Int),bQ ss S.ts false S.n.toNat/\Sh S.n.toNat ss (cD S.n.toNat) ov Z Y X/\S.f=aP Z ov/\S.ps=gq S.n.toNat ov X
 eno:j8 S.n S.ts (cD S.n.toNat) S.D (S.l.map fj) S.f.1 S.f.2=true
theorem qp{n:Int}(h:0<=n):yJ n (cD n.toNat):=⟨by unfold cD;rw[Uo];omega,fun x hx=>by unfold cD at hx;rw[(List.mem_replicate.mp hx).2];decide⟩
theorem YQ{H:Hp}{x:V}{q:List Int×(Int×Nat)}(h:Fo K H x q):DX K H x (fj q):=by
 obtain⟨t,sa,fa,rfl,h1,h2,h3⟩:=h;exact .tup h1 (.cons (.tup h2 (cN.ints _).dx) (.cons (.tup h3 (.cons (.int _) (.cons (.int _) .nil))) .nil))
theorem Ng{H:Hp}:∀{vs:List V} {l:List (List Int×(Int×Nat))},cP K H vs l->oW K H vs (l.map fj)
 |_,_,.nil=> .nil
 |_,_,.cons h t=> .cons (YQ h) (Ng t)
noncomputable def CT(K:W.Frag):Sp:=fun vs H Q _=>∃(a:Addr) (n:Int) (t:V),vs=[.ref a]/\SqT K H a [.int n,t]/\0<=n/\n<=10/\∀wa H',Same H H'->SqT K H' wa ((cD n.toNat).map V.int)->Q (.ref wa) H'
theorem QW{f:Addr}{fd:ρ}(F:Fun K "ones_for" "ones_for" jz f fd):
  FnOk P w K mg base CX0 1 f fd ["web"] (CT K):=by
 refine F.bZ ["web"] fun cdv A outer s H vs Q E hr h=> ?_;obtain⟨a,n,t,rfl,w1,h0,h10,qq⟩:=h;refine⟨_,(aR (bB (bA Qz (dW (aj ao ak)) (aQ bD (pv 0) ao)))),?_⟩;refine⟨(by show 1<=sizeLine;decide),fun p1 hp1=> ?_⟩;have s2:=aM hp1 (.tup [.int 1]);refine⟨_,rfl,a,_,_,.int n,rfl,rfl,s2.tup w1,rfl,p1,n,_,rfl,rfl,SqT.of aB,(fun e=>nomatch e),by omega,by omega,?_,fun wa H3 s3 h3=> ?_⟩
 ·show 1*n.toNat<=1000;omega
 have ew:(List.replicate n.toNat [V.int 1]).flatten=(cD n.toNat).map V.int:=by
  unfold cD;generalize n.toNat=k
  induction k with
  |zero=>rfl
  |succ k ih=>rw[Ul,Yg,ih,Ul];rfl
 rw[ew]at h3;exact qq wa H3 (s2.trans s3) h3
theorem Qk(ts:L0):ts.map (sh 0)=ts:=by
 rw[show sh 0=id from funext fun p=>by unfold sh;rw[Yq,Yq];rfl,List.map_id]
noncomputable def Tp(K:W.Frag):Sp:=fun vs H Q _=>∃(a:Addr) (n:Int) (ts:L0),vs=[.ref a]/\aO K H a n ts/\∀r H',Same H H'->aO K H' r n ts->Q (.ref r) H'
theorem Vv{f f1:Addr}{fd d1:ρ}(F:Fun K "copy_of_web" "copy_of_web" iJ f fd)(D1:bC K mg "moved_ties" jC ["web","by"] f1 d1)(G1:FnOk P w K mg base CX0 1 f1 d1 ["web","by"] (Gj K))(aH:mg "tuple"=none):
  FnOk P w K mg base CX0 2 f fd ["web"] (Tp K):=by
 refine F.bZ ["web"] fun cdv A outer s H vs Q E hr h=> ?_;obtain⟨a,n,ts,rfl,hW,qq⟩:=h;refine⟨_,(aR (bB (dW (aj (aQ bD (pv 0) ao) (aj (pT Ci aH (aj (pc G1 hr D1 (aj (pv 0) (aj ao ak))) ak)) ak))))),?_⟩;obtain⟨t0,YW,w1,_,_⟩:=id hW.web;refine⟨_,rfl,a,_,_,.int n,rfl,rfl,w1,rfl,_,rfl,a,n,0,ts,rfl,hW.web,fun l H1 s1 hl _=> ?_⟩;rw[Qk]at hl;obtain⟨rs,hl1,hl2⟩:=hl.ex;refine⟨l,rs,rfl,.inl ⟨SqL.of hl1,fun t ht=> ?_⟩⟩;have s2:=aM ht (.tup rs);refine⟨(by show 2<=sizeLine;decide),fun r hr=> ?_⟩;have s3:=aM hr (.tup [.int n,.ref t]);exact qq r _ (s1.trans (s2.trans s3)) ⟨⟨t,rs,SqT.of aB,s3.tup (SqT.of aB),hl2.same (s2.trans s3)⟩,hW.h0,hW.h1,hW.pk,hW.ok⟩
theorem Lw.one{f:Int×Nat}(h:Lw f){u:Int}{v:Nat}(l:Low f.1 f.2 u v):(u,v)=f:=by
 obtain⟨a,b⟩:=Ah h.1 l ⟨h.1,h.2.2,rfl,aX _,aX _,id⟩;exact Prod.ext a b
noncomputable def Gq(K:W.Frag):Sp:=fun vs H Q _=>∃(a:Addr) (f:Int×Nat),vs=[.ref a]/\p8 K H a f/\Lw f/\∀r H',Same H H'->p8 K H' r f->Q (.ref r) H'
theorem Vx{f f1:Addr}{fd d1:ρ}(F:Fun K "copy_of_fraction" "copy_of_fraction" X6 f fd)(D1:bC K mg "lowest" jc ["a","b"] f1 d1)(G1:FnOk P w K mg base CX0 2 f1 d1 ["a","b"] (zJ K)):
  FnOk P w K mg base CX0 3 f fd ["fraction"] (Gq K):=by
 refine F.bZ ["fraction"] fun cdv A outer s H vs Q E hr h=> ?_;obtain⟨a,f,rfl,hF,hL,qq⟩:=h;refine⟨_,(aR (bB (pc G1 hr D1 (aj (aQ bD (pv 0) ao) (aj (aQ bD (pv 0) ao) ak))))),?_⟩;refine⟨_,rfl,a,_,_,.int f.1,rfl,rfl,hF,rfl,_,rfl,a,_,_,.int ((f.2:Nat):Int),rfl,rfl,hF,rfl,f.1,f.2,rfl,hL.1,cT hL.2.1 (by decide),fun p H' u v s e l=>qq p H' s ?_⟩;have:=hL.one l;unfold p8;rw[<-this];exact SqT.of e
noncomputable def Tq(K:W.Frag):Sp:=fun vs H Q _=>∃(a:Addr) (ys:List V),vs=[.ref a]/\SqT K H a ys/\∀r H',Same H H'->SqT K H' r ys->Q (.ref r) H'
theorem Vw{f:Addr}{fd:ρ}(F:Fun K "copy_of_set" "copy_of_set" iK f fd)(aH:mg "tuple"=none):
  FnOk P w K mg base CX0 1 f fd ["some"] (Tq K):=by
 refine F.bZ ["some"] fun cdv A outer s H vs Q E hr h=> ?_;obtain⟨a,ys,rfl,hT,qq⟩:=h;refine⟨_,(aR (bB (pT Ci aH (aj (pK ["place"] [] [] (BW (pv 0)) (pG 0) nP (pv 0)) ak)))),?_⟩;refine⟨_,rfl,a,_,rfl,hT,fun hz=> ?_⟩;let gF:Nat->List V->St->Hp->Prop:=fun i acc σ H'=>acc=ys.take i/\H'=H/\∃o,σ=[o];refine BZ (xs:=ys) gF ⟨rfl,rfl,_,rfl⟩ (fun i acc σ H' _ p=>by rw[p.2.1];exact hT) (fun i acc σ H' hi p=>by rw[p.1,rK];omega) hz (fun i x acc σ H' hx p=> ?_) (fun acc σ H' p=> ?_)
 ·obtain⟨rfl,rfl,o,rfl⟩:=p;exact⟨_,rfl,by rw[sI,hx];rfl,rfl,_,rfl⟩
 ·obtain⟨rfl,rfl,o,rfl⟩:=p;intro l hl;rw[qm];have s1:=aM hl (.lst ys);refine⟨l,_,rfl,.inl ⟨SqL.of aB,fun t ht=> ?_⟩⟩;exact qq t _ (s1.trans (aM ht (.tup ys))) (SqT.of aB)
noncomputable def lo2(i j:Int):Int:=if j<i then j else i
noncomputable def hi2(i j:Int):Int:=if j>i then j else i
noncomputable def K6(K:W.Frag):Sp:=fun vs H Q _=>∃(i j:Int),vs=[.int i,.int j]/\∀r H',Same H H'->SqT K H' r [.int (lo2 i j),.int (hi2 i j)]->Q (.ref r) H'
theorem Vy{f:Addr}{fd:ρ}(F:Fun K "as_tie" "as_tie" pA f fd)(pJ:mg "min"=none)(uF:mg "max"=none):
  FnOk P w K mg base CX0 1 f fd ["one","other"] (K6 K):=by
 refine F.bZ ["one","other"] fun cdv A outer s H vs Q E hr h=> ?_;obtain⟨i,j,rfl,qq⟩:=h;refine⟨_,(aR (bB (dW (aj (pB (call_min2 rfl) pJ (aj (pv 0) (aj (pv 1) ak))) (aj (pB (call_max2 rfl) uF (aj (pv 0) (aj (pv 1) ak))) ak))))),?_⟩;refine⟨_,rfl,_,rfl,i,j,rfl,_,rfl,_,rfl,i,j,rfl,(by show 2<=sizeLine;decide),fun r hr=> ?_⟩;exact qq r _ (aM hr _) (SqT.of aB)
end
theorem yg(a:Int){b:Nat}(h:0<b)(hb:b<=39916800):Lw (aP a b):=⟨(Ca a h).pos,cT (Ca a h).lv hb,(Ca a h).cop⟩
theorem RN{n:Nat}{ss:List (List Int)}{wl:List Int}{ov:Nat}{Z:Int}{Y X:Nat->Int}(h:Sh n ss wl ov Z Y X):Ce ov ((iw ss ov Y).map (·.2)):=⟨h.pos,cT h.big (by decide),fun f hf=>by
 obtain⟨q,hq,rfl⟩:=jY.mp hf;obtain⟨k,hk,rfl⟩:=jY.mp hq;exact pO h.pos (h.yn k)⟩
theorem Le{n:Int}{ts:L0}{q:List Int×(Int×Nat)}(h:aao n ts q):Dg n ts (fj q)=true:=by
 show(gW n (.tuple (q.1.map PyData.int))&&((true&&(true&&(decide (0<=q.2.1)&&(decide (1<=((q.2.2:Nat):Int))&&decide (((q.2.2:Nat):Int)<=1000000000)))))&&(decide (ts.filter (inB ((q.1.map PyData.int).map intD))=[])&&decide (0<q.2.1))))=true;have e:(q.1.map PyData.int).map intD=q.1:=by rw[vA];exact wfi q.1
 have a:=h.pos;have b:=h.bot;have c:=h.big;rw[ju.gW ⟨h.up,h.lt⟩,e,cL h.no,cL (show(0:Int)<=q.2.1 by omega),cL (show(1:Int)<=((q.2.2:Nat):Int) by omega),cL (show((q.2.2:Nat):Int)<=1000000000 by omega),cL a];rfl
theorem Lq{l:List (List Int)}(h:l.Pairwise fun p q=>HT.lexLt p q=true):dh l=true:=by
 unfold dh;refine j4.mpr fun k hk=> ?_;have hk':=jZ.mp hk;have e:∀k,(hk:k<l.length)->l.getD k []=l[k]:=fun k hk=>by rw[lg,dF hk];rfl
 rw[e k (by omega),e (k+1) (by omega)];exact Uq.mp h k (k+1) (by omega) (by omega) (by omega)
theorem QB{n p:Nat}(h:p<n):(cD n).getD p 0=1:=by
 unfold cD;rw[lg,wdz,aF h];rfl
theorem Oi{n:Nat}{ts:L0}{ss:List (List Int)}{ov:Nat}{Z:Int}{Y X:Nat->Int}(hp:aN (n:Int) ts)(hn:n<=10)(hS:bQ ss ts false n)(h:Sh n ss (cD n) ov Z Y X):j8 (n:Int) ts (cD n) ov ((iw ss ov Y).map fj) (aP Z ov).1 (aP Z ov).2=true:=by
 have L:=DQ hp hn hS h;unfold j8;rw[lB,kO,kO];refine⟨?_,?_,?_⟩
 ·unfold layB;rw[tX,kO];refine⟨?_,Lq L.rise⟩;rw[Xe,j4];exact fun q hq=>Le (L.all q hq)
 ·unfold hasB;refine j4.mpr fun p hp'=> ?_;have hp2:=jZ.mp hp';rw[show(cD n).length=n from Uo]at hp2;unfold Ea;have a:=h.eno p hp2;have b:=yp (ss:=ss) h.pos h.yn (fun s=>decide (((p:Nat):Int)∈s)) ss.length;refine cL ?_;show(cD n).getD p 0*(ov:Int)<=dI ov (((iw ss ov Y).filter fun q=>decide (((p:Nat):Int)∈q.1)).map (·.2));unfold iw;rw[b];unfold sS at a;rw[Ck];exact a
 ·have b:=yp (ss:=ss) h.pos h.yn (fun _=>true) ss.length;rw[List.filter_eq_self.mpr (fun _ _=>rfl)]at b;have b':dI ov ((iw ss ov Y).map (·.2))=Z:=by
   unfold iw;rw[b,<-h.tot];exact Sx.bw _ fun k _=>aF rfl
  rw[b',(Ca Z h.pos).eq];exact cL (tH _)
theorem cO.told{n:Nat}{ts:L0}{ss:List (List Int)}{ov:Nat}{Z:Int}{Y X:Nat->Int}{t:Int}{la pa:Addr}(hp:aN (n:Int) ts)(hn:n<=10)(hS:bQ ss ts false n)(h:Sh n ss (cD n) ov Z Y X):cO ⟨n,ts,t,iw ss ov Y,ov,aP Z ov,gq n ov X,la,pa⟩:=
 ⟨RN h,fun q hq=>by
  obtain⟨k,hk,rfl⟩:=jY.mp (show q∈iw ss ov Y from hq);exact yg _ h.pos h.big,(DQ hp hn hS h).len,⟨ss,ov,Z,Y,X,hS,h,rfl⟩,⟨ss,ov,Z,Y,X,hS,h,rfl,rfl⟩,Oi hp hn hS h⟩
theorem wY:∀{l m:L0},l.Pairwise j5->m.Pairwise j5->(∀p,p∈l↔p∈m)->l=m
 |[],[],_,_,_=>rfl
 |[],b::m,_,_,h=>nomatch (h b).mpr iW
 |a::l,[],_,_,h=>nomatch (h a).mp iW
 |a::l,b::m,hl,hm,h=>by
  obtain⟨l1,l2⟩:=Qa.mp hl;obtain⟨m1,m2⟩:=Qa.mp hm;have e:a=b:=by
   rcases cY.mp ((h a).mp iW)with e|e
   ·exact e
   ·rcases cY.mp ((h b).mpr iW)with e2|e2
    ·exact e2.symm
    ·exact absurd (j5.trans (m1 a e) (l1 b e2)) j5.Rm
  subst e;congr 1;refine wY l2 m2 fun p=>⟨fun hp=> ?_,fun hp=> ?_⟩
  ·rcases cY.mp ((h p).mp (iG _ hp))with e|e
   ·exact absurd (e▸l1 p hp) j5.Rm
   ·exact e
  ·rcases cY.mp ((h p).mpr (iG _ hp))with e|e
   ·exact absurd (e▸m1 p hp) j5.Rm
   ·exact e
theorem zE{K:W.Frag}{H:Hp}{its:List (Addr×(Int×Int))}{its':List (Addr×List Int)}{n:Int}{t1 wb:Addr}(h0:0<=n)(h1:n<=10)(hq:aN n (its.map (·.2)))(hperm:its'.Perm (its.map fun p=>(p.1,pl p.2)))(lQ:its'.Pairwise fun p q=>HT.lexLt q.2 p.2=false)(e3:∀p∈its,SqT K H p.1 ((pl p.2).map V.int))(uK:SqT K H wb [.int n,.ref t1])(ht1:SqT K H t1 (its'.map fun p=>V.ref p.1)):∃us,aO K H wb n us/\us.Perm (its.map (·.2)):=by
 let un:List Int->Int×Int:=fun l=>(l.getD 0 0,l.getD 1 0);have back:∀p∈its',∃q∈its,p=(q.1,pl q.2):=fun p hp=>by
  obtain⟨q,hq,e⟩:=jY.mp (hperm.mem_iff.mp hp);exact⟨q,hq,e.symm⟩
 have pts:(its'.map fun p=>un p.2).Perm (its.map (·.2)):=by
  have h1:=hperm.map (fun p:Addr×List Int=>un p.2);rw[vA]at h1;have h2:its.map ((fun p:Addr×List Int=>un p.2)∘fun p=>(p.1,pl p.2))=its.map (·.2):=rfl;rw[h2]at h1;exact h1
 have pok:=hq.perm pts;have Y6:(its'.map fun p=>un p.2).Pairwise fun p q=>HT.lexLt (pl q) (pl p)=false:=by
  rw[P0];refine lQ.imp_of_mem fun{x y} hx hy hxy=> ?_;obtain⟨qx,_,rfl⟩:=back x hx;obtain⟨qy,_,rfl⟩:=back y hy;exact hxy
 refine⟨its'.map fun p=>un p.2,⟨⟨t1,its'.map (fun p=>V.ref p.1),uK,ht1,?_⟩,h0,h1,pok,Cu h0 h1 pok Y6⟩,pts⟩;have h1:=gw (K:=K) (H:=H) (its'.map fun p=>(p.1,un p.2)) (fun p hp=>by
  obtain⟨p',hp',rfl⟩:=jY.mp hp;obtain⟨q',hq',rfl⟩:=back p' hp';exact e3 q' hq')
 have h2:(its'.map fun p=>(p.1,un p.2)).map (fun p=>V.ref p.1)=its'.map fun p=>V.ref p.1:=by rw[vA];rfl
 have h3:(its'.map fun p=>(p.1,un p.2)).map (·.2)=its'.map fun p=>un p.2:=by rw[vA];rfl
 rw[h2,h3]at h1;exact h1
section
variable{P:ξ}{w:τ}{K:W.Frag}{mg:L5}{base:Heap}
theorem uh(f:Str)(v:V):∀fs:List (Str×V),(putF f v fs).length<=fs.length+1
 |[]=>aX _
 |(g,x)::r=>by
  unfold putF;split
  ·exact Pn _
  ·exact Nat.succ_le_succ (uh f v r)
theorem RW.same{C o dx wb va:Addr}{lr pr:List V}{H H':Hp}{S:Sd}(h:RW K C H o dx wb va lr pr S)(e:Same H H'):RW K C H' o dx wb va lr pr S:=by
 obtain⟨h1,h2,h3,h4,h5,h6,h7⟩:=h;exact⟨e _ _ h1,h2.same e,e.tup h3,e _ _ h4,h5.same e,e _ _ h6,h7.same e⟩
noncomputable def o7(K:W.Frag)(C:Addr):Sp:=fun vs H Q _=>∃(o dx wb tp va la pa:Addr) (fs:List (Str×V)),vs=[.ref o,.ref wb,.ref tp]/\H o=some (.ins C dx fs)/\fs.length<=5/\SqT K H tp [.ref va,.ref la,.ref pa]/\
 Q .non (upd H o (.ins C dx (putF "kept_prices" (.ref pa) (putF "kept_value" (.ref va) (putF "kept_web" (.ref wb) fs)))))
theorem Mj{f C:Addr}{fd:ρ}(F:Fun K "keep" "Sharing.keep" zdc f fd)
  (Na:Bt K C):
  FnOk P w K mg base CX0 1 f fd ["self","web","told"] (o7 K C):=by
 refine F.bZ ["self","web","told"] fun cdv A outer s H vs Q E hr h=> ?_;obtain⟨o,dx,wb,tp,va,la,pa,fs,rfl,hO,h5,hT,qq⟩:=h;refine aW ?_;intro Y;refine⟨_,(aL (ps_fld (pv 0) (pv 1) rfl) (aL (ps_fld (pv 0) (aQ bD (pv 2) ao) rfl) (aR (ps_fld (pv 0) (aQ bD (pv 2) ao) rfl)))),?_⟩;refine gC ?_;intro c3 c2;have l1:=uh "kept_web" (.ref wb) fs;have l2:=uh "kept_value" (.ref va) (putF "kept_web" (.ref wb) fs);refine⟨_,rfl,_,rfl,o,C,dx,fs,rfl,hO,Na.c,Na.wb,by omega,?_⟩;refine⟨_,rfl,tp,_,_,.ref va,rfl,rfl,SqT.Iz hO hT,rfl,_,rfl,o,C,dx,_,rfl,aB,Na.c,Na.va,by omega,?_⟩;refine⟨_,rfl,tp,_,_,.ref pa,rfl,rfl,SqT.Iz aB (SqT.Iz hO hT),rfl,_,rfl,o,C,dx,_,rfl,aB,Na.c,Na.pr,by omega,?_⟩;rw[upd_upd,upd_upd];exact qq
noncomputable def vP(S S':Sd)(H:Hp):Prop:=(S'.la=S.la\/H S'.la=none)/\H S'.pa=none/\((S'.t=S.t/\S'.l=S.l/\S'.D=S.D/\j8 S'.n S'.ts (cD S'.n.toNat) S.D (S.l.map fj) S'.f.1 S'.f.2=true)\/(S'.t=S.t+1/\j8 S'.n S'.ts (cD S'.n.toNat) S.D (S.l.map fj) S'.f.1 S'.f.2=false))
noncomputable def oZ(K:W.Frag)(C:Addr):Sp:=fun vs H Q _=>∃(o wb:Addr) (S:Sd) (n:Int) (ts:L0),vs=[.ref o,.ref wb]/\dG K C H o S/\cO S/\aO K H wb n ts/\
 ∀S' H',aD o H H'->dG K C H' o S'->cO S'->S'.n=n->S'.ts=ts->vP S S' H->Q .non H'
theorem Mi{f f1 f2 f3 f4 C:Addr}{fd d1 d2 d3 d4:ρ}(F:Fun K "move_to" "Sharing.move_to" Xd f fd)
  (Na:Bt K C)(D1:bC K mg "shares" pq ["web","wants"] f1 d1)(G1:FnOk P w K mg base CX0 9 f1 d1 ["web","wants"] (tO K))(D2:bC K mg "ones_for" jz ["web"] f2 d2)(G2:FnOk P w K mg base CX0 1 f2 d2 ["web"] (CT K))(D3:bC K mg "is_enough" lG ["web","wants","laying","number"] f3 d3)(G3:FnOk P w K mg base CX0 9 f3 d3 ["web","wants","laying","number"] (KZ K))(D4:oH K C "keep" "Sharing.keep" zdc ["self","web","told"] f4 d4)(G4':FnOk P w K mg base CX0 1 f4 d4 ["self","web","told"] (o7 K C)):
  FnOk P w K mg base CX0 11 f fd ["self","web"] (oZ K C):=by
 have G4:FnOk P w K mg base CX0 10 f4 d4 ["self","web","told"] (o7 K C):=G4'.mono (by decide);refine F.bZ ["self","web","told"] fun cdv A outer s H vs Q E hr h=> ?_;obtain⟨o,wb,S,n,ts,rfl,hS,hok,hW,qq⟩:=h;refine aW ?_;intro Y;refine⟨_,(aL (pS 2 (pc G1 hr D1 (aj (pv 1) (aj (pc G2 hr D2 (aj (pv 1) ak)) ak)))) (aL (dZ (kY (iY (pc G3 hr D3 (aj (pv 1) (aj (pc G2 hr D2 (aj (pv 1) ak)) (aj (gP (pv 0) rfl) (aj (aQ bD (pv 2) ao) ak))))))) (aL (ps_fld (pv 0) (aQ bD (pv 2) ao) rfl) (aR (ps_fldaug (pv 0) ao in_add))) eG) (aR (qj (v7 (pv 0) Na.c D4.m G4 hr D4.b .nil pass0 (aj (pv 1) (aj (pv 2) ak))))))),?_⟩;refine gC ?_;intro c3 c2;obtain⟨m,rfl⟩:=SJ hW.h0;have h0:=hW.h0;have h1:=hW.h1;have hp:aN ((m:Nat):Int) ts:=hW.pk;obtain⟨t0,YW,w1,_,_⟩:=id hW.web;obtain⟨dx,wb0,va0,lr0,pr0,A⟩:=id hS;refine⟨_,rfl,_,rfl,wb,_,_,rfl,w1,h0,h1,fun wa H1 s1 hwa=> ?_⟩;have A1:=A.same s1;refine⟨wb,wa,_,ts,cD m,rfl,hW.same s1,hwa,qp h0,fun tp va la pa lr pr ss ov Z Y X H2 s2 e1 e2 e3 e4 e5 e6 ZJ hSh nl np nlp=> ?_⟩;have nlo:la≠o:=cF A1.at_ nl;have Za:pa≠o:=cF A1.at_ np;have nl0:=s1.free nl;have np0:=s1.free np;have Nu:bQ ss ts false m:=ZJ;have DY:Sh m ss (cD m) ov Z Y X:=hSh;have s12:=s1.trans s2;refine⟨_,rfl,_,rfl,wb,_,_,rfl,s12.tup w1,h0,h1,fun wa2 H3 s3 aa1=> ?_⟩;have A3:=(A.same s12).same s3;have oV:=s12.trans s3;have lf:=Ca Z DY.pos;have big:=DY.big;refine⟨_,rfl,o,C,dx,_,_,rfl,A3.at_,Na.c,Na.la,rfl,_,rfl,tp,_,_,.ref va,rfl,rfl,SqT.of (s3 _ _ e1),rfl,?_⟩;refine⟨wb,wa2,S.la,va,_,ts,cD m,lr0,S.l.map fj,S.D,(aP Z ov).1,(aP Z ov).2,rfl,hW.same oV,aa1,qp h0,SqL.of A3.lay,Ng A3.lv,?_,s3.tup e2,?_,(fun _=>by rw[lB];exact hok.HY),fun H4 s4=>⟨_,rfl,?_⟩⟩
 ·have:=Uu A3.lv;have:=hok.len;omega
 ·have:=lf.lv;omega
 have A4:=A3.same s4;have Dj:=oV.trans s4;have W4:=hW.same Dj;have zf:=s3.trans s4;have T4:SqT K H4 tp [.ref va,.ref la,.ref pa]:=SqT.of (zf _ _ e1);have x5:∀u,aD o H4 (upd H4 o u):=fun u=>(aD.refl _ _).upd;have pan:∀u,(upd H4 o u) pa=some (.lst pr):=fun u=>by rw[cW Za];exact zf _ _ e5
 have lao:S.la≠o:=fun z=>by have a:=A4.lay;rw[z,A4.at_]at a;cases a
 cases hb:j8 ((m:Nat):Int) ts (cD m) S.D (S.l.map fj) (aP Z ov).1 (aP Z ov).2 with
 |true=>
  refine iteF ?_;refine⟨_,rfl,o,dx,_,rfl,A4.at_,rfl,_,rfl,_,rfl,o,dx,wb,tp,va,la,pa,_,rfl,A4.at_,(by show 5<=5;decide),T4,?_⟩;have k:TK K H4 (upd H4 o (.ins C dx (zO (.ref S.la) (.int S.t) (.ref wb) (.ref va) (.ref pa)))):=(x5 _).Xw A4.at_;refine qq ⟨m,ts,S.t,S.l,S.D,aP Z ov,gq m ov X,S.la,pa⟩ _ ((Dj.x o).trans (x5 _)) ⟨dx,wb,va,lr0,pr,aB,W4.tk k,k _ _ (zf.tup e2),?_,A4.lv.tk k,pan _,(e6.same zf).tk k⟩ ⟨hok.HY,hok.low,hok.len,⟨ss,ov,Z,Y,X,Nu,DY,rfl⟩,⟨ss,ov,Z,Y,X,Nu,DY,rfl,rfl⟩,hb⟩ rfl rfl ⟨.inl rfl,np0,.inl ⟨rfl,rfl,rfl,hb⟩⟩;show(upd H4 o _) S.la=_;rw[cW lao];exact A4.lay
 |false=>
  refine iteT ?_;refine⟨_,rfl,tp,_,_,.ref la,rfl,rfl,T4,rfl,_,rfl,o,C,dx,_,rfl,A4.at_,Na.c,Na.la,(by show 5<1000;decide),?_⟩;refine⟨_,rfl,o,C,dx,_,_,rfl,aB,Na.c,Na.ti,rfl,_,_,rfl,rfl,dx,_,aB,(by show 5<1000;decide),?_⟩;rw[upd_upd];refine⟨_,rfl,o,dx,_,rfl,aB,rfl,_,rfl,_,rfl,o,dx,wb,tp,va,la,pa,_,rfl,aB,(by show 5<=5;decide),SqT.Iz A4.at_ T4,?_⟩;rw[upd_upd];have k:TK K H4 (upd H4 o (.ins C dx (zO (.ref la) (.int (S.t+1)) (.ref wb) (.ref va) (.ref pa)))):=(x5 _).Xw A4.at_;refine qq ⟨m,ts,S.t+1,iw ss ov Y,ov,aP Z ov,gq m ov X,la,pa⟩ _ ((Dj.x o).trans (x5 _)) ⟨dx,wb,va,lr,pr,aB,W4.tk k,k _ _ (zf.tup e2),?_,(e4.same zf).tk k,pan _,(e6.same zf).tk k⟩ (cO.told hp (by omega) Nu DY) rfl rfl ⟨.inr nl0,np0,.inr ⟨rfl,hb⟩⟩;show(upd H4 o _) la=_;rw[cW nlo];exact zf _ _ e3
noncomputable def CQ(K:W.Frag)(C:Addr):Sp:=fun vs H Q _=>∃(o dx wb:Addr) (n:Int) (ts:L0),vs=[.ref o,.ref wb]/\H o=some (.ins C dx [])/\aO K H wb n ts/\
 ∀S H',aD o H H'->dG K C H' o S->cO S->S.n=n->S.ts=ts->S.t=0->H S.la=none->H S.pa=none->Q .non H'
theorem QV{f f1 f2 f3 f4 C:Addr}{fd d1 d2 d3 d4:ρ}(F:Fun K "__init__" "Sharing.__init__" gk f fd)
  (Na:Bt K C)(D1:bC K mg "need_web" T9 ["thing"] f1 d1)(G1:FnOk P w K mg base CX0 7 f1 d1 ["thing"] (fQ K))(D2:bC K mg "shares" pq ["web","wants"] f2 d2)(G2:FnOk P w K mg base CX0 9 f2 d2 ["web","wants"] (tO K))(D3:bC K mg "ones_for" jz ["web"] f3 d3)(G3:FnOk P w K mg base CX0 1 f3 d3 ["web"] (CT K))(D4:oH K C "keep" "Sharing.keep" zdc ["self","web","told"] f4 d4)(G4':FnOk P w K mg base CX0 1 f4 d4 ["self","web","told"] (o7 K C)):
  FnOk P w K mg base CX0 12 f fd ["self","web"] (CQ K C):=by
 have G4:FnOk P w K mg base CX0 11 f4 d4 ["self","web","told"] (o7 K C):=G4'.mono (by decide);refine F.bZ ["self","web","told"] fun cdv A outer s H vs Q E hr h=> ?_;obtain⟨o,dx,wb,n,ts,rfl,hO,hW,qq⟩:=h;refine aW ?_;intro Y;refine⟨_,(aL (qj (pc G1 hr D1 (aj (pv 1) ak))) (aL (pS 2 (pc G2 hr D2 (aj (pv 1) (aj (pc G3 hr D3 (aj (pv 1) ak)) ak)))) (aL (ps_fld (pv 0) (aQ bD (pv 2) ao) rfl) (aL (ps_fld (pv 0) ao rfl) (aR (qj (v7 (pv 0) Na.c D4.m G4 hr D4.b .nil pass0 (aj (pv 1) (aj (pv 2) ak))))))))),?_⟩;refine Nq ?_;intro c5 c4 c3 c2;obtain⟨m,rfl⟩:=SJ hW.h0;have h0:=hW.h0;have h1:=hW.h1;have hp:aN ((m:Nat):Int) ts:=hW.pk;obtain⟨t0,YW,w1,_,_⟩:=id hW.web;refine⟨_,rfl,.ref wb,_,rfl,hW.web.dv.dx,hW.ok,fun H0 s0=> ?_⟩;refine⟨_,rfl,_,rfl,wb,_,_,rfl,s0.tup w1,h0,h1,fun wa H1 s1' hwa=> ?_⟩;have s1:=s0.trans s1';refine⟨wb,wa,_,ts,cD m,rfl,hW.same s1,hwa,qp h0,fun tp va la pa lr pr ss ov Z Y X H2 s2 e1 e2 e3 e4 e5 e6 ZJ hSh nl np nlp=> ?_⟩;have nlo:la≠o:=cF (s1 _ _ hO) nl;have Za:pa≠o:=cF (s1 _ _ hO) np;have Nu:bQ ss ts false m:=ZJ;have DY:Sh m ss (cD m) ov Z Y X:=hSh;have s12:=s1.trans s2;have hO2:=s12 _ _ hO;have T2:SqT K H2 tp [.ref va,.ref la,.ref pa]:=SqT.of e1;refine⟨_,rfl,tp,_,_,.ref la,rfl,rfl,T2,rfl,_,rfl,o,C,dx,_,rfl,hO2,Na.c,Na.la,(by show 0<1000;decide),?_⟩;refine⟨_,rfl,o,C,dx,_,rfl,aB,Na.c,Na.ti,(by show 1<1000;decide),?_⟩;rw[upd_upd];refine⟨_,rfl,o,dx,_,rfl,aB,rfl,_,rfl,_,rfl,o,dx,wb,tp,va,la,pa,_,rfl,aB,(by show 2<=5;decide),SqT.Iz hO2 T2,?_⟩;rw[upd_upd];have x5:aD o H2 (upd H2 o (.ins C dx (zO (.ref la) (.int 0) (.ref wb) (.ref va) (.ref pa)))):=(aD.refl _ _).upd;have k:TK K H2 (upd H2 o (.ins C dx (zO (.ref la) (.int 0) (.ref wb) (.ref va) (.ref pa)))):=x5.Xw hO2;refine qq ⟨m,ts,0,iw ss ov Y,ov,aP Z ov,gq m ov X,la,pa⟩ _ ((s12.x o).trans x5) ⟨dx,wb,va,lr,pr,aB,(hW.same s12).tk k,k _ _ e2,?_,e4.tk k,?_,e6.tk k⟩ (cO.told hp (by omega) Nu DY) rfl rfl rfl (s1.free nl) (s1.free np)
 ·show(upd H2 o _) la=_;rw[cW nlo];exact e3
 ·show(upd H2 o _) pa=_;rw[cW Za];exact e5
theorem vP.back{S S':Sd}{H H1:Hp}(e:Same H H1)(h:vP S S' H1):vP S S' H:=⟨h.1.imp id e.free,e.free h.2.1,h.2.2⟩
theorem tK{n:Int}{ts:L0}(h0:0<=n)(h1:n<=10)(hs:ts.Pairwise j5)(hl:∀p∈ts,0<=p.1/\p.1<p.2/\p.2<n):aN n ts/\Bs n ts:=by
 have ho:aN n ts:=⟨qC hs,hl⟩;exact⟨ho,Cu h0 h1 ho (hs.imp Ho)⟩
theorem zB{n i:Nat}(h:i<n):(upto n).getD i 0=(i:Int):=by
 unfold upto;rw[lg,dJ,Sw h];rfl
theorem J8(n:Nat):(upto n).length=n:=by unfold upto;rw[aJ,vo]
theorem IW(n:Nat):cZ n=(upto n).map V.int:=by unfold cZ upto;rw[vA];rfl
theorem Ou{n:Int}{ts:L0}(hp:aN n ts)(hs:ts.Pairwise j5)(k:Nat):rows (U3 (upto k) ts) (k:Int) k=ts.filter fun p=>decide (p.2<(k:Int)):=by
 refine wY (Ua _ _ _) (hs.filter _) fun p=> ?_;rw[dR,fL,was];have key:0<=p.1->p.1<p.2->p.2<(k:Int)->(U3 (upto k) ts p.1 p.2=true↔p∈ts):=fun a b c=>by
  unfold U3 bU;rw[zB (show p.1.toNat<k by omega),zB (show p.2.toNat<k by omega),yeg a,yeg (by omega),aA (by omega),aF (by omega),was]
 refine⟨fun⟨a,b,c,d,e⟩=>⟨(key a c d).mp e,d⟩,fun⟨a,b⟩=> ?_⟩;obtain⟨c,d,e⟩:=hp.lt p a;exact⟨c,by omega,d,b,(key c d b).mpr a⟩
noncomputable def tQ(K:W.Frag)(C:Addr):Sp:=fun vs H Q _=>∃(o:Addr) (i j:Int) (S:Sd),vs=[.ref o,.int i,.int j]/\dG K C H o S/\0<=i/\i<S.n/\0<=j/\j<S.n/\i≠j/\Q .non H
theorem QK{f f1 C:Addr}{fd d1:ρ}(F:Fun K "need_two" "Sharing.need_two" zbt f fd)
  (Na:Bt K C)(D1:bC K mg "need_place" jB ["web","thing"] f1 d1)(G1:FnOk P w K mg base CX0 3 f1 d1 ["web","thing"] (rB K)):
  FnOk P w K mg base CX0 4 f fd ["self","one","other"] (tQ K C):=by
 refine F.bZ ["self","one","other"] fun cdv A outer s H vs Q E hr h=> ?_;obtain⟨o,i,j,S,rfl,hS,i0,i1,j0,j1,ne,qq⟩:=h;refine aW ?_;intro Y;refine⟨_,(aL (qj (pc G1 hr D1 (aj (gP (pv 0) rfl) (aj (pv 1) ak)))) (aL (qj (pc G1 hr D1 (aj (gP (pv 0) rfl) (aj (pv 2) ak)))) (aR (dZ (cR op_eq (pv 1) (pv 2)) Pj eG)))),?_⟩;refine gC ?_;intro c3 c2;obtain⟨dx,wb,va,lr,pr,A⟩:=id hS;obtain⟨t0,YW,w1,_,_⟩:=id A.web.web;refine⟨_,rfl,o,C,dx,_,_,rfl,A.at_,Na.c,Na.wb,rfl,_,rfl,wb,S.n,i,_,rfl,w1,i0,i1,?_⟩;refine⟨_,rfl,o,C,dx,_,_,rfl,A.at_,Na.c,Na.wb,rfl,_,rfl,wb,S.n,j,_,rfl,w1,j0,j1,?_⟩;refine⟨_,rfl,_,rfl,rfl,_,rfl,?_⟩;rw[fO (show¬V.int i=V.int j from fun e=>ne (V.int.inj e))];exact iteF qq
noncomputable def putL(n:Int)(xs:List Int):L0:=xs.map fun x=>(x,n)
theorem LK{n:Int}{ts:L0}{xs:List Int}(h:aN n ts)(hx:ju n xs):aN (n+1) (ts++putL n xs):=by
 have lt:∀p∈putL n xs,0<=p.1/\p.1<n/\p.2=n:=fun p hp=>by
  obtain⟨x,hx',rfl⟩:=jY.mp hp;have:=hx.lt x hx';exact⟨this.1,this.2,rfl⟩
 refine⟨Ye.mpr ⟨h.nd,?_,fun x hx y hy e=> ?_⟩,fun p hp=> ?_⟩
 ·refine P0.mpr (hx.zF.imp fun{a b} hab e=> ?_);have:=(Prod.mk.inj e).1;omega
 ·have a1:=h.lt x hx;have a2:=lt y hy;rw[e]at a1;omega
 ·rcases nA.mp hp with z|z
  ·have:=h.lt p z;omega
  ·have:=lt p z;omega
noncomputable def KD(K:W.Frag)(C:Addr):Sp:=fun vs H Q _=>∃(o sa:Addr) (S:Sd) (xs:List Int),vs=[.ref o,.ref sa]/\dG K C H o S/\cO S/\SqT K H sa (xs.map V.int)/\ju S.n xs/\S.n<10/\
 ∀S' H',aD o H H'->dG K C H' o S'->cO S'->S'.n=S.n+1->S'.ts.Perm (S.ts++putL S.n xs)->vP S S' H->Q (.int S.n) H'
theorem QM{f f1 f2 f3 C:Addr}{fd d1 d2 d3:ρ}(F:Fun K "put" "Sharing.put" iR f fd)
  (Na:Bt K C)(D1:bC K mg "need_set" jA ["web","thing"] f1 d1)(R0:FnOk P w K mg base CX0 5 f1 d1 ["web","thing"] (mO K))(D2:bC K mg "need_few" nT ["n"] f2 d2)(G2':FnOk P w K mg base CX0 1 f2 d2 ["n"] (qt K))(D3:oH K C "move_to" "Sharing.move_to" Xd ["self","web"] f3 d3)(G3:FnOk P w K mg base CX0 11 f3 d3 ["self","web"] (oZ K C))(aH:mg "tuple"=none)(cX:mg "sorted"=none)(cH:mg "list"=none):
  FnOk P w K mg base CX0 12 f fd ["self","ties"] (KD K C):=by
 have G1:FnOk P w K mg base CX0 11 f1 d1 ["web","thing"] (mO K):=R0.mono (by decide);have G2:FnOk P w K mg base CX0 11 f2 d2 ["n"] (qt K):=G2'.mono (by decide);refine F.bZ ["self","ties","n","added"] fun cdv A outer s H vs Q E hr h=> ?_;obtain⟨o,sa,S,xs,rfl,hS,hok,hX,hx,h9,qq⟩:=h;refine aW ?_;intro Y;refine⟨_,(aL (qj (pc G1 hr D1 (aj (gP (pv 0) rfl) (aj (pv 1) ak)))) (aL (pS 2 (aQ bD (gP (pv 0) rfl) ao)) (aL (qj (pc G2 hr D2 (aj (bA nu (pv 2) ao) ak))) (aL (pX 3 ["place"] ["n"] [2] (BW (pv 1)) (pG 0) nP (dW (aj (pv 0) (aj (pv 1) ak)))) (aL (qj (v7 (pv 0) Na.c D3.m G3 hr D3.b .nil pass0 (aj (dW (aj (bA nu (pv 2) ao) (aj (pT Ci aH (aj (pB jP cX (aj (bA op_cat (pT call_list_of cH (aj (aQ bD (gP (pv 0) rfl) ao) ak)) (pv 3)) ak)) ak)) ak))) ak))) (aR (bB (pv 2)))))))),?_⟩;refine Np ?_;intro c6 c5 c4 c3 c2;obtain⟨dx,wb,va,lr,pr,A⟩:=id hS;have h0:=A.web.h0;have h10:=A.web.h1;have XD:=A.web.len;have hxl:=hx.len h10;obtain⟨t0,YW,w1,_,_⟩:=id A.web.web;refine⟨_,rfl,o,C,dx,_,_,rfl,A.at_,Na.c,Na.wb,rfl,_,rfl,wb,S.n,_,_,_,rfl,w1,(DV.tup hX (cN.ints xs)).dx,hx.gW,fun H1 s1=> ?_⟩;have A1:=A.same s1;refine⟨_,rfl,o,C,dx,_,_,rfl,A1.at_,Na.c,Na.wb,rfl,wb,_,_,.int S.n,rfl,rfl,s1.tup w1,rfl,?_⟩;refine⟨_,rfl,_,_,rfl,rfl,_,rfl,by omega,?_⟩;have hX1:=s1.tup hX;refine⟨_,rfl,sa,_,rfl,hX1,fun hz=> ?_⟩;let gF:Nat->List V->St->Hp->Prop:=fun i acc σ H'=>Same H1 H'/\cN K H' acc ((putL S.n (xs.take i)).map pairD)/\∃o,σ=[o,some (.int S.n)];refine BZ (xs:=xs.map V.int) gF ⟨Same.refl _,.nil,_,rfl⟩ (fun i acc σ H' _ p=>p.1.tup hX1) (fun i acc σ H' hi p=> ?_) hz (fun i x acc σ H' hx' p=> ?_) (fun acc σ H' p=> ?_)
 ·have:=p.2.1.len;unfold putL at this;rw[aJ,aJ,rK]at this;omega
 ·obtain⟨sm,hd,o',rfl⟩:=p;rw[dJ]at hx';cases ex:xs[i]? with
  |none=>rw[ex]at hx';cases hx'
  |some x0=>
   rw[ex]at hx';cases hx';refine⟨_,rfl,_,rfl,(by show 2<=sizeLine;decide),fun q2 hq2=> ?_⟩;have n2:=aM hq2 (.tup [.int x0,.int S.n]);refine⟨sm.trans n2,?_,_,rfl⟩;have e:putL S.n (xs.take (i+1))=putL S.n (xs.take i)++[(x0,S.n)]:=by unfold putL;rw[sI,ex,bL];rfl
   rw[e,bL];exact(hd.same n2).append (.cons (.tup (SqT.of aB) (.cons (.int _) (.cons (.int _) .nil))) .nil)
 ·intro p1 hp1;obtain⟨sm,hd,_⟩:=p;rw[aJ,qm]at hd;have n1:=aM hp1 (.lst acc);have hacc:(upd H' p1 (.lst acc)) p1=some (.lst acc):=aB;have hd1:=hd.same n1;have s2:=s1.trans (sm.trans n1);generalize (upd H' p1 (.lst acc))=G1 at *;have A2:=A.same s2;obtain⟨tt,rr,w1,w2,w3⟩:=id A2.web.web;obtain⟨its,rfl,iU,w4⟩:=gB w3;obtain⟨jq,ejq,ejs,jqT⟩:=gB hd1;have lits:its.length=S.ts.length:=by rw[<-iU,aJ]
  have ljq:jq.length=xs.length:=by
   have:=lq List.length ejs;unfold putL at this;rw[aJ,aJ]at this;exact this
  refine⟨_,rfl,o,dx,_,rfl,A2.at_,rfl,_,rfl,_,_,rfl,rfl,?_⟩;refine⟨_,rfl,o,C,dx,_,_,rfl,A2.at_,Na.c,Na.wb,rfl,wb,_,_,.ref tt,rfl,rfl,w1,rfl,tt,_,rfl,.inr w2,fun l2 hl2=> ?_⟩;have n2:=aM hl2 (.lst (its.map fun p=>V.ref p.1));refine⟨_,rfl,l2,p1,_,_,rfl,rfl,aB,n2 _ _ hacc,by rw[ejq,aJ,aJ,gR];omega,fun l3 hl3=> ?_⟩;have n3:=aM hl3 (.lst ((its.map fun p=>V.ref p.1)++acc));have Nm:(upd (upd G1 l2 (.lst (its.map fun p=>V.ref p.1))) l3 (.lst ((its.map fun p=>V.ref p.1)++acc))) l3=some (.lst ((its++jq).map fun p=>V.ref p.1)):=by rw[aB,ejq,bL]
  have n23:=n2.trans n3;generalize (upd (upd G1 l2 (.lst (its.map fun p=>V.ref p.1))) l3 (.lst ((its.map fun p=>V.ref p.1)++acc)))=G2 at *;have jT:∀p∈its++jq,SqT K G2 p.1 ((pl p.2).map V.int):=fun p hp'=>by
   rcases nA.mp hp' with z|z
   ·exact n23.tup (w4 p z)
   ·exact n23.tup (jqT p z)
  have JX:((its++jq).map (·.2))=S.ts++putL S.n xs:=by rw[bL,iU,ejs]
  have hq2:aN (S.n+1) ((its++jq).map (·.2)):=by
   rw[JX];exact LK A.web.pk hx
  have ejl:(its++jq).length<=55:=by rw[ql];omega
  generalize its++jq=jts at *;refine⟨l3,jts.map (fun p=>(p.1,pl p.2)),rfl,by rw[vA];exact SqL.of Nm,fun p hp'=> ?_,by rw[aJ];omega,fun l4 its' Wc hperm lQ=> ?_⟩
  ·obtain⟨p',hp'',rfl⟩:=jY.mp hp';exact⟨jT p' hp'',by unfold pl;simp⟩
  have n4:=aM Wc (.lst (its'.map fun p=>V.ref p.1));refine⟨l4,_,rfl,.inl ⟨SqL.of aB,fun t1 ht1=>⟨(by show 2<=sizeLine;decide),fun rA uK=> ?_⟩⟩⟩;have n5:=aM ht1 (.tup (its'.map fun p=>V.ref p.1));have n6:=aM uK (.tup [.int (S.n+1),.ref t1]);have n46:=n4.trans (n5.trans n6);obtain⟨us,W,GJ⟩:=zE (K:=K) (n:=S.n+1) (by omega) (by omega) hq2 hperm lQ (fun p hp'=>n46.tup (jT p hp')) (SqT.of aB) (SqT.of (n6 _ _ aB));rw[JX]at GJ;have n26:=s2.trans (n23.trans n46);refine⟨o,rA,S,S.n+1,us,rfl,hS.same n26,hok,W,fun S' H' x' hS' hok' en et hw=>⟨_,rfl,?_⟩⟩;exact qq S' H' ((n26.x o).trans x') hS' hok' en (by rw[et];exact GJ) (hw.back n26)
noncomputable def KC(K:W.Frag)(C:Addr):Sp:=fun vs H Q _=>∃(o:Addr) (i j:Int) (S:Sd),vs=[.ref o,.int i,.int j]/\dG K C H o S/\cO S/\0<=i/\i<S.n/\0<=j/\j<S.n/\i≠j/\(lo2 i j,hi2 i j)∉S.ts/\
 ∀S' H',aD o H H'->dG K C H' o S'->cO S'->S'.n=S.n->S'.ts.Perm (S.ts++[(lo2 i j,hi2 i j)])->vP S S' H->Q .non H'
theorem V8{i j n:Int}(i0:0<=i)(i1:i<n)(j0:0<=j)(j1:j<n)(ne:i≠j):0<=lo2 i j/\lo2 i j<hi2 i j/\hi2 i j<n:=by
 unfold lo2 hi2;split<;>split<;>omega
theorem QL{f f1 f2 f3 f4 C:Addr}{fd d1 d2 d3 d4:ρ}(F:Fun K "tie" "Sharing.tie" iQ f fd)
  (Na:Bt K C)(D1:oH K C "need_two" "Sharing.need_two" zbt ["self","one","other"] f1 d1)(R0:FnOk P w K mg base CX0 4 f1 d1 ["self","one","other"] (tQ K C))(D2:bC K mg "has_tie" fU ["web","one","other"] f2 d2)(G2':FnOk P w K mg base CX0 1 f2 d2 ["web","one","other"] (rC K))(D3:bC K mg "as_tie" pA ["one","other"] f3 d3)(G3:FnOk P w K mg base CX0 1 f3 d3 ["one","other"] (K6 K))(D4:oH K C "move_to" "Sharing.move_to" Xd ["self","web"] f4 d4)(G4:FnOk P w K mg base CX0 11 f4 d4 ["self","web"] (oZ K C))(cH:mg "list"=none)(aH:mg "tuple"=none)(cX:mg "sorted"=none):
  FnOk P w K mg base CX0 12 f fd ["self","one","other"] (KC K C):=by
 have G1:FnOk P w K mg base CX0 11 f1 d1 ["self","one","other"] (tQ K C):=R0.mono (by decide);have G2:FnOk P w K mg base CX0 11 f2 d2 ["web","one","other"] (rC K):=G2'.mono (by decide);refine F.bZ ["self","one","other","ties"] fun cdv A outer s H vs Q E hr h=> ?_;obtain⟨o,i,j,S,rfl,hS,hok,i0,i1,j0,j1,ne,ht,qq⟩:=h;refine aW ?_;intro Y;refine⟨_,(aL (qj (v7 (pv 0) Na.c D1.m G1 hr D1.b .nil pass0 (aj (pv 1) (aj (pv 2) ak)))) (aL (dZ (iY (pc G2 hr D2 (aj (gP (pv 0) rfl) (aj (pv 1) (aj (pv 2) ak))))) Pj eG) (aL (pS 3 (bA op_cat (pT call_list_of cH (aj (aQ bD (gP (pv 0) rfl) ao) ak)) (pe_lst (aj (pc G3 hr D3 (aj (pv 1) (aj (pv 2) ak))) ak)))) (aR (qj (v7 (pv 0) Na.c D4.m G4 hr D4.b .nil pass0 (aj (dW (aj (aQ bD (gP (pv 0) rfl) ao) (aj (pT Ci aH (aj (pB jP cX (aj (pv 3) ak)) ak)) ak))) ak))))))),?_⟩;refine wH ?_;intro c4 c3 c2;obtain⟨dx,wb,va,lr,pr,A⟩:=id hS;have h0:=A.web.h0;have h10:=A.web.h1;have XD:=A.web.len;refine⟨_,rfl,o,dx,_,rfl,A.at_,rfl,_,rfl,_,rfl,o,i,j,S,rfl,hS,i0,i1,j0,j1,ne,?_⟩;refine⟨_,rfl,o,C,dx,_,_,rfl,A.at_,Na.c,Na.wb,rfl,_,rfl,_,rfl,wb,S.n,i,j,S.ts,rfl,A.web.web,fun H1 s1=>⟨_,rfl,?_⟩⟩;rw[show bU S.ts i j=false from fO ht];refine iteF ?_;have A1:=A.same s1;obtain⟨tt,rr,w1,w2,w3⟩:=id A1.web.web;obtain⟨its,rfl,iU,w4⟩:=gB w3;have lits:its.length=S.ts.length:=by rw[<-iU,aJ]
 refine⟨_,rfl,o,C,dx,_,_,rfl,A1.at_,Na.c,Na.wb,rfl,wb,_,_,.ref tt,rfl,rfl,w1,rfl,tt,_,rfl,.inr w2,fun l2 hl2=> ?_⟩;have n2:=aM hl2 (.lst (its.map fun p=>V.ref p.1));refine⟨_,rfl,_,rfl,i,j,rfl,fun r H2 s2 hr2=>⟨(by show 1<=sizeLine;decide),fun l5 Zx=> ?_⟩⟩;have n5:=aM Zx (.lst [.ref r]);have Zr:=n5.tup hr2;have n25:=s2.trans n5;refine⟨l2,l5,_,_,rfl,rfl,n25 _ _ aB,aB,by rw[aJ,gR];show _+1<=_;omega,fun l3 hl3=> ?_⟩;have n3:=aM hl3 (.lst ((its.map fun p=>V.ref p.1)++[.ref r]));have Nm:(upd (upd H2 l5 (.lst [.ref r])) l3 (.lst ((its.map fun p=>V.ref p.1)++[.ref r]))) l3=some (.lst ((its++[(r,(lo2 i j,hi2 i j))]).map fun p=>V.ref p.1)):=by rw[aB,bL];rfl
 have n23:=n2.trans (n25.trans n3);have Xy:=n3.tup Zr;generalize (upd (upd H2 l5 (.lst [.ref r])) l3 (.lst ((its.map fun p=>V.ref p.1)++[.ref r])))=G2 at *;have jT:∀p∈its++[(r,(lo2 i j,hi2 i j))],SqT K G2 p.1 ((pl p.2).map V.int):=fun p hp'=>by
  rcases nA.mp hp' with z|z
  ·exact n23.tup (w4 p z)
  ·rw[gY.mp z];exact Xy
 have JX:((its++[(r,(lo2 i j,hi2 i j))]).map (·.2))=S.ts++[(lo2 i j,hi2 i j)]:=by rw[bL,iU];rfl
 have hq2:aN S.n ((its++[(r,(lo2 i j,hi2 i j))]).map (·.2)):=by
  rw[JX];refine⟨Ye.mpr ⟨A.web.pk.nd,Pu _ _,fun x hx y hy e=> ?_⟩,fun p hp=> ?_⟩
  ·rw[e,gY.mp hy]at hx;exact ht hx
  ·rcases nA.mp hp with z|z
   ·exact A.web.pk.lt p z
   ·rw[gY.mp z];exact V8 i0 i1 j0 j1 ne
 have ejl:(its++[(r,(lo2 i j,hi2 i j))]).length<=55:=by rw[ql];show _+1<=_;omega
 generalize its++[(r,(lo2 i j,hi2 i j))]=jts at *;have A3:=A1.same n23;obtain⟨t3,r3,x1,x2,x3⟩:=id A3.web.web;refine⟨_,rfl,o,dx,_,rfl,A3.at_,rfl,_,rfl,o,C,dx,_,_,rfl,A3.at_,Na.c,Na.wb,rfl,wb,_,_,.int S.n,rfl,rfl,x1,rfl,?_⟩;refine⟨_,rfl,l3,jts.map (fun p=>(p.1,pl p.2)),rfl,by rw[vA];exact SqL.of Nm,fun p hp'=> ?_,by rw[aJ];omega,fun l4 its' Wc hperm lQ=> ?_⟩
 ·obtain⟨p',hp'',rfl⟩:=jY.mp hp';exact⟨jT p' hp'',by unfold pl;simp⟩
 have n4:=aM Wc (.lst (its'.map fun p=>V.ref p.1));refine⟨l4,_,rfl,.inl ⟨SqL.of aB,fun t1 ht1=>⟨(by show 2<=sizeLine;decide),fun rA uK=> ?_⟩⟩⟩;have n5:=aM ht1 (.tup (its'.map fun p=>V.ref p.1));have n6:=aM uK (.tup [.int S.n,.ref t1]);have n46:=n4.trans (n5.trans n6);obtain⟨us,W,GJ⟩:=zE (K:=K) (n:=S.n) h0 h10 hq2 hperm lQ (fun p hp'=>n46.tup (jT p hp')) (SqT.of aB) (SqT.of (n6 _ _ aB));rw[JX]at GJ;have n26:=s1.trans (n23.trans n46);refine⟨o,rA,S,S.n,us,rfl,hS.same n26,hok,W,fun S' H' x' hS' hok' en et hw=> ?_⟩;exact qq S' H' ((n26.x o).trans x') hS' hok' en (by rw[et];exact GJ) (hw.back n26)
noncomputable def Kz(K:W.Frag)(C:Addr):Sp:=fun vs H Q _=>∃(o:Addr) (i j:Int) (S:Sd),vs=[.ref o,.int i,.int j]/\dG K C H o S/\cO S/\0<=i/\i<S.n/\0<=j/\j<S.n/\i≠j/\(lo2 i j,hi2 i j)∈S.ts/\
 ∀S' H',aD o H H'->dG K C H' o S'->cO S'->S'.n=S.n->S'.ts=(S.ts.filter fun p=> !decide (p=(lo2 i j,hi2 i j)))->vP S S' H->Q .non H'
theorem QJ{f f1 f2 f3 f4 C:Addr}{fd d1 d2 d3 d4:ρ}(F:Fun K "untie" "Sharing.untie" fH f fd)
  (Na:Bt K C)(D1:oH K C "need_two" "Sharing.need_two" zbt ["self","one","other"] f1 d1)(R0:FnOk P w K mg base CX0 4 f1 d1 ["self","one","other"] (tQ K C))(D2:bC K mg "has_tie" fU ["web","one","other"] f2 d2)(G2:FnOk P w K mg base CX0 1 f2 d2 ["web","one","other"] (rC K))(D3:bC K mg "as_tie" pA ["one","other"] f3 d3)(G3:FnOk P w K mg base CX0 1 f3 d3 ["one","other"] (K6 K))(D4:oH K C "move_to" "Sharing.move_to" Xd ["self","web"] f4 d4)(G4:FnOk P w K mg base CX0 11 f4 d4 ["self","web"] (oZ K C))(aH:mg "tuple"=none):
  FnOk P w K mg base CX0 12 f fd ["self","one","other"] (Kz K C):=by
 have G1:FnOk P w K mg base CX0 11 f1 d1 ["self","one","other"] (tQ K C):=R0.mono (by decide);refine F.bZ ["self","one","other","ties"] fun cdv A outer s H vs Q E hr h=> ?_;obtain⟨o,i,j,S,rfl,hS,hok,i0,i1,j0,j1,ne,ht,qq⟩:=h;refine aW ?_;intro Y;refine⟨_,(aL (qj (v7 (pv 0) Na.c D1.m G1 hr D1.b .nil pass0 (aj (pv 1) (aj (pv 2) ak)))) (aL (dZ (kY (iY (pc G2 hr D2 (aj (gP (pv 0) rfl) (aj (pv 1) (aj (pv 2) ak)))))) Pj eG) (aL (pX 3 ["tie"] ["one","other"] [1,2] (BW (aQ bD (gP (pv 0) rfl) ao)) (pG 0) (BX (cR (xQ K hr.units) (pv 0) (pc G3 hr D3 (aj (pv 1) (aj (pv 2) ak))))) (pv 0)) (aR (qj (v7 (pv 0) Na.c D4.m G4 hr D4.b .nil pass0 (aj (dW (aj (aQ bD (gP (pv 0) rfl) ao) (aj (pT Ci aH (aj (pv 3) ak)) ak))) ak))))))),?_⟩;refine wH ?_;intro c4 c3 c2;obtain⟨dx,wb,va,lr,pr,A⟩:=id hS;have h0:=A.web.h0;have h10:=A.web.h1;have XD:=A.web.len;refine⟨_,rfl,o,dx,_,rfl,A.at_,rfl,_,rfl,_,rfl,o,i,j,S,rfl,hS,i0,i1,j0,j1,ne,?_⟩;refine⟨_,rfl,o,C,dx,_,_,rfl,A.at_,Na.c,Na.wb,rfl,_,rfl,_,rfl,wb,S.n,i,j,S.ts,rfl,A.web.web,fun H1 s1=>⟨_,rfl,?_⟩⟩;rw[show bU S.ts i j=true from cL ht];refine iteF ?_;have A1:=A.same s1;obtain⟨tt,rr,w1,w2,w3⟩:=id A1.web.web;obtain⟨its,rfl,iU,w4⟩:=gB w3;have lits:its.length=S.ts.length:=by rw[<-iU,aJ]
 generalize hP:(lo2 i j,hi2 i j)=pp at *;refine⟨_,rfl,o,C,dx,_,_,rfl,A1.at_,Na.c,Na.wb,rfl,wb,_,_,.ref tt,rfl,rfl,w1,rfl,tt,_,rfl,w2,fun hz=> ?_⟩;let p7:Nat->List V->St->Hp->Prop:=fun k acc σ H'=>acc=((its.take k).filter fun p=> !decide (p.2=pp)).map (fun p=>V.ref p.1)/\Same H1 H'/\∃o,σ=[o,some (.int i),some (.int j)];refine BZ (xs:=its.map fun p=>V.ref p.1) p7 ⟨rfl,Same.refl _,_,rfl⟩ (fun i acc σ H' _ p=>by exact p.2.1.tup w2) (fun i acc σ H' hi p=> ?_) hz (fun k x acc σ H' hx p=> ?_) (fun acc σ H' p=> ?_)
 ·rw[p.1,aJ];exact cT (vC _ _) (by rw[rK];exact Cm _ _)
 ·obtain⟨rfl,sm,o',rfl⟩:=p;rw[dJ]at hx;cases ex:its[k]? with
  |none=>rw[ex]at hx;cases hx
  |some it=>
   rw[ex]at hx;cases hx;have hit:=w4 it (sO ex);have go:(its.take (k+1)).filter (fun p=> !decide (p.2=pp))=(its.take k).filter (fun p=> !decide (p.2=pp))++(if(!decide (it.2=pp))=true then[it]else[]):=by
    rw[sI,ex,Cq];congr 1;show List.filter _ [it]=_;rw[Cp];rfl
   refine⟨_,rfl,_,rfl,_,rfl,i,j,rfl,fun r H5 s5 h5=> ?_⟩;refine⟨pairD it.2,pairD (lo2 i j,hi2 i j),.tup ((sm.trans s5).tup hit) (.cons (.int _) (.cons (.int _) .nil)),.tup h5 (.cons (.int _) (.cons (.int _) .nil)),rfl,rfl,(by show min (max 0 (max 0 0)+1) (max 0 (max 0 0)+1)<=64;decide),_,rfl,?_⟩;rw[jj,hP];refine ite2 (fun c=> ?_) (fun c=> ?_)
   ·exact⟨_,rfl,by rw[go,aF c,bL];rfl,sm.trans s5,_,rfl⟩
   ·exact⟨by rw[go,aA c,zx],sm.trans s5,_,rfl⟩
 intro p1 hp1;obtain⟨rfl,sm,_⟩:=p;rw[aJ,qm];generalize uL:its.filter (fun p=> !decide (p.2=pp))=jts at *;have jm:jts.map (·.2)=S.ts.filter fun p=> !decide (p=pp):=by
  rw[<-uL,<-iU,wde];rfl
 have n1:=aM hp1 (.lst (jts.map fun p=>V.ref p.1));have sA:=sm.trans n1;have A2:=A1.same sA;obtain⟨t3,r3,x1,x2,x3⟩:=id A2.web.web;refine⟨_,rfl,o,dx,_,rfl,A2.at_,rfl,_,rfl,o,C,dx,_,_,rfl,A2.at_,Na.c,Na.wb,rfl,wb,_,_,.int S.n,rfl,rfl,x1,rfl,?_⟩;refine⟨_,rfl,p1,_,rfl,.inl ⟨SqL.of aB,fun t1 ht1=>⟨(by show 2<=sizeLine;decide),fun rA uK=> ?_⟩⟩⟩;have n2:=aM ht1 (.tup (jts.map fun p=>V.ref p.1));have n3:=aM uK (.tup [.int S.n,.ref t1]);have n13:=sA.trans (n2.trans n3);have Dv:=gw (K:=K) jts (fun p hp=>n13.tup (w4 p (by rw[<-uL]at hp;exact(fL.mp hp).1)));rw[jm]at Dv;have ok:=tK (n:=S.n) h0 h10 (A.web.zF.filter _) fun p (hp:p∈S.ts.filter fun p=> !decide (p=pp))=>A.web.pk.lt p (fL.mp hp).1;have oV:=s1.trans n13;refine⟨o,rA,S,S.n,_,rfl,hS.same oV,hok,⟨⟨t1,_,SqT.of aB,SqT.of (n3 _ _ aB),Dv⟩,h0,h10,ok.1,ok.2⟩,fun S' H' x' hS' hok' en et hw=> ?_⟩;exact qq S' H' ((oV.x o).trans x') hS' hok' en et (hw.back oV)
noncomputable def Gi(K:W.Frag)(C:Addr):Sp:=fun vs H Q _=>∃(o:Addr) (S:Sd),vs=[.ref o]/\dG K C H o S/\cO S/\0<S.n/\
 ∀S' H',aD o H H'->dG K C H' o S'->cO S'->S'.n=S.n-1->S'.ts=(S.ts.filter fun p=>decide (p.2<S.n-1))->vP S S' H->Q .non H'
theorem Ml{f f1 f2 C:Addr}{fd d1 d2:ρ}(F:Fun K "drop" "Sharing.drop" gn f fd)
  (Na:Bt K C)(D1:oH K C "move_to" "Sharing.move_to" Xd ["self","web"] f1 d1)(G1:FnOk P w K mg base CX0 11 f1 d1 ["self","web"] (oZ K C))(D2:bC K mg "cut_down" nY ["web","some"] f2 d2)(G2:FnOk P w K mg base CX0 8 f2 d2 ["web","some"] (Tn K))(aH:mg "tuple"=none)(aK:mg "range"=none):
  FnOk P w K mg base CX0 12 f fd ["self"] (Gi K C):=by
 refine F.bZ ["self","n"] fun cdv A outer s H vs Q E hr h=> ?_;obtain⟨o,S,rfl,hS,hok,n0,qq⟩:=h;refine aW ?_;intro Y;refine⟨_,(aL (pS 1 (aQ bD (gP (pv 0) rfl) ao)) (aL (dZ (cR op_eq (pv 1) ao) Pj eG) (aR (qj (v7 (pv 0) Na.c D1.m G1 hr D1.b .nil pass0 (aj (pc G2 hr D2 (aj (gP (pv 0) rfl) (aj (zY rfl rfl aH rfl aK (aj (bA op_sub (pv 1) ao) ak)) ak))) ak)))))),?_⟩;refine gC ?_;intro c3 c2;obtain⟨dx,wb,va,lr,pr,A⟩:=id hS;have h10:=A.web.h1;obtain⟨t0,YW,w1,_,_⟩:=id A.web.web;refine⟨_,rfl,o,C,dx,_,_,rfl,A.at_,Na.c,Na.wb,rfl,wb,_,_,.int S.n,rfl,rfl,w1,rfl,?_⟩;refine⟨_,rfl,rfl,_,rfl,?_⟩;rw[fO (show¬V.int S.n=V.int 0 from fun e=>by have:=V.int.inj e;omega)];refine iteF ?_;refine⟨_,rfl,o,dx,_,rfl,A.at_,rfl,?_⟩;refine⟨_,rfl,o,C,dx,_,_,rfl,A.at_,Na.c,Na.wb,rfl,_,rfl,_,_,rfl,rfl,_,rfl,by omega,by omega,fun l hl=> ?_⟩;rw[IW];obtain⟨k,ek⟩:=SJ (show 0<=S.n-1 by omega);have ek':(S.n-1).toNat=k:=by omega
 rw[ek'];have s1:=aM hl (.tup ((upto k).map V.int));have so:ju S.n (upto k):=by
  have a:=Qi ((k:Nat):Int);rw[Ip]at a;exact⟨a.zF,fun x hx=>by have:=a.lt x hx;omega⟩
 refine⟨wb,l,S.n,S.ts,upto k,rfl,(A.same s1).web,SqT.of aB,so,fun r H2 s2 hW=> ?_⟩;rw[J8,Ip,Ou A.web.pk A.web.zF]at hW;have ok:=tK (n:=(k:Int)) (by omega) (by omega) (A.web.zF.filter _) fun p (hp:p∈S.ts.filter fun p=>decide (p.2<(k:Int)))=>by
  obtain⟨m1,m2⟩:=fL.mp hp;have:=A.web.pk.lt p m1;have:=fX m2;omega
 have s12:=s1.trans s2;refine⟨o,r,S,k,_,rfl,hS.same s12,hok,⟨hW,by omega,by omega,ok.1,ok.2⟩,fun S' H' x' hS' hok' en et hw=> ?_⟩;exact qq S' H' ((s12.x o).trans x') hS' hok' (by omega) (by rw[et,<-ek]) (hw.back s12)
theorem cO.lw{S:Sd}(h:cO S):Lw S.f:=by
 obtain⟨ss,ov,Z,Y,X,a,b,e⟩:=h.val;rw[e];exact yg Z b.pos b.big
theorem cO.pl{S:Sd}(h:cO S):∀q∈S.ps,Lw q:=fun q hq=>by
 obtain⟨ss,ov,Z,Y,X,a,b,e,e2⟩:=h.Y7;rw[e2]at hq;obtain⟨k,hk,rfl⟩:=jY.mp hq;exact yg _ b.pos b.big
noncomputable def CJ(K:W.Frag)(C:Addr):Sp:=fun vs H Q _=>∃(o:Addr) (S:Sd),vs=[.ref o]/\dG K C H o S/\∀r H',Same H H'->aO K H' r S.n S.ts->Q (.ref r) H'
theorem QG{f f1 C:Addr}{fd d1:ρ}(F:Fun K "web" "Sharing.web" iM f fd)
  (Na:Bt K C)(D1:bC K mg "copy_of_web" iJ ["web"] f1 d1)(G1:FnOk P w K mg base CX0 2 f1 d1 ["web"] (Tp K)):
  FnOk P w K mg base CX0 3 f fd ["self"] (CJ K C):=by
 refine F.bZ ["self"] fun cdv A outer s H vs Q E hr h=> ?_;obtain⟨o,S,rfl,hS,qq⟩:=h;refine⟨_,(aR (bB (pc G1 hr D1 (aj (gP (pv 0) rfl) ak)))),?_⟩;obtain⟨dx,wb,va,lr,pr,A⟩:=id hS;exact⟨_,rfl,o,C,dx,_,_,rfl,A.at_,Na.c,Na.wb,rfl,wb,S.n,S.ts,rfl,A.web,fun r H' s h=>qq r H' s h⟩
noncomputable def CK(K:W.Frag)(C:Addr):Sp:=fun vs H Q _=>∃(o:Addr) (S:Sd),vs=[.ref o]/\dG K C H o S/\cO S/\∀r H',Same H H'->p8 K H' r S.f->Q (.ref r) H'
theorem QH{f f1 C:Addr}{fd d1:ρ}(F:Fun K "value" "Sharing.value" fG f fd)
  (Na:Bt K C)(D1:bC K mg "copy_of_fraction" X6 ["fraction"] f1 d1)(G1:FnOk P w K mg base CX0 3 f1 d1 ["fraction"] (Gq K)):
  FnOk P w K mg base CX0 4 f fd ["self"] (CK K C):=by
 refine F.bZ ["self"] fun cdv A outer s H vs Q E hr h=> ?_;obtain⟨o,S,rfl,hS,hok,qq⟩:=h;refine⟨_,(aR (bB (pc G1 hr D1 (aj (gP (pv 0) rfl) ak)))),?_⟩;obtain⟨dx,wb,va,lr,pr,A⟩:=id hS;exact⟨_,rfl,o,C,dx,_,_,rfl,A.at_,Na.c,Na.va,rfl,va,S.f,rfl,A.val,hok.lw,fun r H' s h=>qq r H' s h⟩
noncomputable def CP(K:W.Frag)(C:Addr):Sp:=fun vs H Q _=>∃(o:Addr) (S:Sd),vs=[.ref o]/\dG K C H o S/\cO S/\∀r vs' H',Same H H'->H' r=some (.lst vs')->cP K H' vs' S.l->H r=none->Q (.ref r) H'
theorem QT{f f1 f2 C:Addr}{fd d1 d2:ρ}(F:Fun K "laying" "Sharing.laying" zdk f fd)
  (Na:Bt K C)(D1:bC K mg "copy_of_set" iK ["some"] f1 d1)(G1:FnOk P w K mg base CX0 1 f1 d1 ["some"] (Tq K))(D2:bC K mg "copy_of_fraction" X6 ["fraction"] f2 d2)(G2:FnOk P w K mg base CX0 3 f2 d2 ["fraction"] (Gq K)):
  FnOk P w K mg base CX0 4 f fd ["self"] (CP K C):=by
 refine F.bZ ["self"] fun cdv A outer s H vs Q E hr h=> ?_;obtain⟨o,S,rfl,hS,hok,qq⟩:=h;refine⟨_,(aR (bB (pK ["some","share"] [] [] (sG (gP (pv 0) rfl)) (JN K (n:=2) rfl (mH (pG 0) (mH (pG 1) zq))) nP (dW (aj (pc G1 hr D1 (aj (pv 0) ak)) (aj (pc G2 hr D2 (aj (pv 1) ak)) ak)))))),?_⟩;obtain⟨dx,wb,va,lr,pr,A⟩:=id hS;have hll:=Uu A.lv;have h36:=hok.len;refine⟨_,rfl,o,C,dx,_,_,rfl,A.at_,Na.c,Na.la,rfl,S.la,_,rfl,SqL.of A.lay,fun hz=> ?_⟩;let gF:Nat->List V->St->Hp->Prop:=fun i acc σ H'=>cP K H' acc (S.l.take i)/\Same H H'/\∃o1 o2,σ=[o1,o2];refine wU (xs:=lr) gF ⟨.nil,Same.refl _,_,_,rfl⟩ (fun i acc σ H' _ p=>p.2.1.seq (SqL.of A.lay)) (fun i acc σ H' hi p=> ?_) hz (fun i x acc σ H' hx p=> ?_) (fun acc σ H' p=> ?_)
 ·have:=Uu p.1;rw[rK]at this;omega
 ·obtain⟨hd,sm,o1,o2,rfl⟩:=p;have hi:i<S.l.length:=by rw[<-hll];exact(nF.mp hx).1
  obtain⟨q0,hq0,hR⟩:=Paired.at_ A.lv hx;rw[dF hi]at hq0;cases hq0;obtain⟨t,sa,fa,rfl,h1,h2,h3⟩:=hR;refine⟨t,_,rfl,sm.tup h1,rfl,_,_,rfl,_,_,rfl,rfl,?_⟩;refine⟨_,rfl,sa,_,rfl,sm.tup h2,fun r1 H1 s1 k1=> ?_⟩;refine⟨_,rfl,fa,S.l[i].2,rfl,(sm.trans s1).tup h3,hok.low _ (Cd hi),fun r2 H2 s2 k2=>⟨(by show 2<=sizeLine;decide),fun q hq=> ?_⟩⟩;have n1:=aM hq (.tup [.ref r1,.ref r2]);refine⟨?_,sm.trans (s1.trans (s2.trans n1)),_,_,rfl⟩;rw[sI,dF hi];exact Paired.snoc (hd.same (s1.trans (s2.trans n1))) ⟨q,r1,r2,rfl,SqT.of aB,(s2.trans n1).tup k1,n1.tup k2⟩
 ·intro p1 hp1;obtain⟨hd,sm,_⟩:=p;rw[hll,qm]at hd;have n1:=aM hp1 (.lst acc);exact qq p1 acc _ (sm.trans n1) aB (hd.same n1) (sm.free hp1)
noncomputable def CN(K:W.Frag)(C:Addr):Sp:=fun vs H Q _=>∃(o:Addr) (S:Sd),vs=[.ref o]/\dG K C H o S/\cO S/\∀r vs' H',Same H H'->H' r=some (.lst vs')->dB K H' vs' S.ps->H r=none->Q (.ref r) H'
theorem QS{f f1 C:Addr}{fd d1:ρ}(F:Fun K "prices" "Sharing.prices" zdj f fd)
  (Na:Bt K C)(D1:bC K mg "copy_of_fraction" X6 ["fraction"] f1 d1)(G1:FnOk P w K mg base CX0 3 f1 d1 ["fraction"] (Gq K)):
  FnOk P w K mg base CX0 4 f fd ["self"] (CN K C):=by
 refine F.bZ ["self"] fun cdv A outer s H vs Q E hr h=> ?_;obtain⟨o,S,rfl,hS,hok,qq⟩:=h;refine⟨_,(aR (bB (pK ["price"] [] [] (sG (gP (pv 0) rfl)) (pG 0) nP (pc G1 hr D1 (aj (pv 0) ak))))),?_⟩;obtain⟨dx,wb,va,lr,pr,A⟩:=id hS;have hll:=Uu A.pv;refine⟨_,rfl,o,C,dx,_,_,rfl,A.at_,Na.c,Na.pr,rfl,S.pa,_,rfl,SqL.of A.Y7,fun hz=> ?_⟩;let p7:Nat->List V->St->Hp->Prop:=fun i acc σ H'=>dB K H' acc (S.ps.take i)/\Same H H'/\∃o1,σ=[o1];refine wU (xs:=pr) p7 ⟨.nil,Same.refl _,_,rfl⟩ (fun i acc σ H' _ p=>p.2.1.seq (SqL.of A.Y7)) (fun i acc σ H' hi p=> ?_) hz (fun i x acc σ H' hx p=> ?_) (fun acc σ H' p=> ?_)
 ·have:=Uu p.1;rw[rK]at this;omega
 ·obtain⟨hd,sm,o1,rfl⟩:=p;have hi:i<S.ps.length:=by rw[<-hll];exact(nF.mp hx).1
  obtain⟨q0,hq0,hR⟩:=Paired.at_ A.pv hx;rw[dF hi]at hq0;cases hq0;obtain⟨fa,rfl,h3⟩:=hR;refine⟨_,rfl,fa,S.ps[i],rfl,sm.tup h3,hok.pl _ (Cd hi),fun r2 H2 s2 k2=> ?_⟩;refine⟨?_,sm.trans s2,_,rfl⟩;rw[sI,dF hi];exact Paired.snoc (hd.same s2) ⟨r2,rfl,k2⟩
 ·intro p1 hp1;obtain⟨hd,sm,_⟩:=p;rw[hll,qm]at hd;have n1:=aM hp1 (.lst acc);exact qq p1 acc _ (sm.trans n1) aB (hd.same n1) (sm.free hp1)
noncomputable def KH(K:W.Frag)(C:Addr):Sp:=fun vs H Q _=>∃(o:Addr) (S:Sd),vs=[.ref o]/\dG K C H o S/\Q (.int S.t) H
theorem Vp{f C:Addr}{fd:ρ}(F:Fun K "again" "Sharing.again" fJ f fd)
  (Na:Bt K C):
  FnOk P w K mg base CX0 1 f fd ["self"] (KH K C):=by
 refine F.bZ ["self"] fun cdv A outer s H vs Q E hr h=> ?_;obtain⟨o,S,rfl,hS,qq⟩:=h;refine⟨_,(aR (bB (gP (pv 0) rfl))),?_⟩;obtain⟨dx,wb,va,lr,pr,A⟩:=id hS;exact⟨_,rfl,o,C,dx,_,_,rfl,A.at_,Na.c,Na.ti,rfl,qq⟩
end
inductive gO where
 |put (xs:List Int)
 |drop
 |tie (i j:Int)
 |wg (i j:Int)
noncomputable def dU(K:W.Frag)(H:Hp)(a:Addr):gO->Prop
 | .put xs=>∃t,SqT K H a [.str "put",.ref t]/\SqT K H t (xs.map V.int)
 | .drop=>SqT K H a [.str "drop"]
 | .tie i j=>SqT K H a [.str "tie",.int i,.int j]
 | .wg i j=>SqT K H a [.str "untie",.int i,.int j]
theorem dU.tk{K:W.Frag}{H H':Hp}{a:Addr}(e:TK K H H'):∀{d:gO},dU K H a d->dU K H' a d
 | .put _,⟨t,h1,h2⟩=>⟨t,e _ _ h1,e _ _ h2⟩
 | .drop,h=>e _ _ h
 | .tie _ _,h=>e _ _ h
 | .wg _ _,h=>e _ _ h
noncomputable def dName:gO->Str
 | .put _=>"put"
 | .drop=>"drop"
 | .tie _ _=>"tie"
 | .wg _ _=>"untie"
theorem dU.name{K:W.Frag}{H:Hp}{a:Addr}:∀{d:gO},dU K H a d->∃r,SqT K H a (.str (dName d)::r)
 | .put _,⟨_,h1,_⟩=>⟨_,h1⟩
 | .drop,h=>⟨_,h⟩
 | .tie _ _,h=>⟨_,h⟩
 | .wg _ _,h=>⟨_,h⟩
noncomputable def Two(n i j:Int):Prop:=0<=i/\i<n/\0<=j/\j<n/\i≠j
noncomputable def JL(n:Int)(ts:L0):gO->Prop
 | .put xs=>ju n xs/\n<10
 | .drop=>0<n
 | .tie i j=>Two n i j/\(lo2 i j,hi2 i j)∉ts
 | .wg i j=>Two n i j/\(lo2 i j,hi2 i j)∈ts
noncomputable def OD(n n':Int)(ts ts':L0):gO->Prop
 | .put xs=>n'=n+1/\∀p,p∈ts'↔p∈ts\/p∈putL n xs
 | .drop=>n'=n-1/\∀p,p∈ts'↔p∈ts/\p.2<n-1
 | .tie i j=>n'=n/\∀p,p∈ts'↔p∈ts\/p=(lo2 i j,hi2 i j)
 | .wg i j=>n'=n/\∀p,p∈ts'↔p∈ts/\p≠(lo2 i j,hi2 i j)
theorem OD.uniq{n n1 n2:Int}{ts ts1 ts2:L0}{d:gO}(h:OD n n1 ts ts1 d)(h':OD n n2 ts ts2 d)(s1:ts1.Pairwise j5)(s2:ts2.Pairwise j5):n1=n2/\ts1=ts2:=by
 cases d<;>exact⟨h.1.trans h'.1.symm,wY s1 s2 fun p=>(h.2 p).trans (h'.2 p).symm⟩
theorem pQ(i j:Int):lo2 j i=lo2 i j:=by unfold lo2;split<;>split<;>omega
theorem pR(i j:Int):hi2 j i=hi2 i j:=by unfold hi2;split<;>split<;>omega
theorem uO:∀ts:L0,PyData.eqvAll (ts.map pairD) (ts.map pairD)=true
 |[]=>by simp[PyData.eqvAll]
 |p::ts=>by
  show(PyData.eqv (pairD p) (pairD p)&&PyData.eqvAll (ts.map pairD) (ts.map pairD))=true;rw[uO ts,jj,cL rfl];rfl
theorem RL(n:Int)(ts:L0):PyData.eqv (jw n ts) (jw n ts)=true:=by
 show(PyData.eqv (.int n) (.int n)&&(PyData.eqvAll (ts.map pairD) (ts.map pairD)&&PyData.eqvAll [] []))=true;rw[uO ts];have e:PyData.eqv (.int n) (.int n)=true:=by show(n==n)=true;simp
 rw[e];simp[PyData.eqvAll]
theorem Ht(n:Int)(ts:L0):(jw n ts).canLay0=true:=by
 show(true&&(PyData.canLayAll0 (ts.map pairD)&&true))=true;rw[jh ts];rfl
theorem rG:∀ts:L0,PyData.depthAll (ts.map pairD)<=1
 |[]=>dX _
 |p::ts=>by
  show max (max 0 (max 0 0)+1) (PyData.depthAll (ts.map pairD))<=1;have:=rG ts;omega
theorem Qc(n:Int)(ts:L0):min (jw n ts).depth (jw n ts).depth<=64:=by
 have h:=rG ts;show min (max 0 (max (PyData.depthAll (ts.map pairD)+1) 0)+1) _<=64;omega
section
variable{P:ξ}{w:τ}{K:W.Frag}{mg:L5}{base:Heap}
noncomputable def zj(f:Int×Nat):θ:= .tuple ([f.1,((f.2:Nat):Int)].map PyData.int)
theorem p8.dv{H:Hp}{a:Addr}{f:Int×Nat}(h:p8 K H a f):DV K H (.ref a) (zj f):= .tup (xs:=[f.1,((f.2:Nat):Int)].map V.int) h (cN.ints _)
theorem TX(i:Int):PyData.eqv (.int i) (.int i)=true:=by show(i==i)=true;simp
theorem frD_eq(f:Int×Nat):PyData.eqv (zj f) (zj f)=true:=by
 show(PyData.eqv (.int f.1) (.int f.1)&&(PyData.eqv (.int ((f.2:Nat):Int)) (.int ((f.2:Nat):Int))&&PyData.eqvAll [] []))=true;rw[TX,TX];simp[PyData.eqvAll]
theorem tE(f g:Int×Nat):min (zj f).depth (zj g).depth<=64:=by
 show min (max 0 (max 0 0)+1) (max 0 (max 0 0)+1)<=64;decide
theorem iy(f:Int×Nat):(zj f).canLay0=true:=rfl
noncomputable def uQ(n:Int):gO->V
 | .put _=> .int n
 |_=> .non
noncomputable def YK(K:W.Frag)(C:Addr):Sp:=fun vs H Q _=>∃(o da:Addr) (S:Sd) (d:gO),vs=[.ref o,.ref da]/\dG K C H o S/\cO S/\dU K H da d/\JL S.n S.ts d/\
 ∀S' H',aD o H H'->dG K C H' o S'->cO S'->OD S.n S'.n S.ts S'.ts d->vP S S' H->Q (uQ S.n d) H'
theorem Vz{f f1 f2 f3 f4 C:Addr}{fd d1 d2 d3 d4:ρ}(F:Fun K "_law_e_do" "_law_e_do" nU f fd)
  (Na:Bt K C)(D1:oH K C "put" "Sharing.put" iR ["self","ties"] f1 d1)(G1:FnOk P w K mg base CX0 12 f1 d1 ["self","ties"] (KD K C))(D2:oH K C "drop" "Sharing.drop" gn ["self"] f2 d2)(G2:FnOk P w K mg base CX0 12 f2 d2 ["self"] (Gi K C))(D3:oH K C "tie" "Sharing.tie" iQ ["self","one","other"] f3 d3)(G3:FnOk P w K mg base CX0 12 f3 d3 ["self","one","other"] (KC K C))(D4:oH K C "untie" "Sharing.untie" fH ["self","one","other"] f4 d4)(G4:FnOk P w K mg base CX0 12 f4 d4 ["self","one","other"] (Kz K C)):
  FnOk P w K mg base CX0 13 f fd ["sharing","deed"] (YK K C):=by
 refine F.bZ ["sharing","deed"] fun cdv A outer s H vs Q E hr h=> ?_;obtain⟨o,da,S,d,rfl,hS,hok,hD,hF,qq⟩:=h;refine aW ?_;intro Y;refine⟨_,(aL (dZ (cR op_eq (aQ bD (pv 1) ao) pe_str) (aR (bB (v7 (pv 0) Na.c D1.m G1 hr D1.b .nil pass0 (aj (aQ bD (pv 1) ao) ak)))) eG) (aL (dZ (cR op_eq (aQ bD (pv 1) ao) pe_str) (aR (bB (JQ (pv 0) Na.c D2.m G2 hr D2.b .nil pass0))) eG) (aL (dZ (cR op_eq (aQ bD (pv 1) ao) pe_str) (aR (bB (v7 (pv 0) Na.c D3.m G3 hr D3.b .nil pass0 (aj (aQ bD (pv 1) ao) (aj (aQ bD (pv 1) ao) ak))))) eG) (aR (bB (v7 (pv 0) Na.c D4.m G4 hr D4.b .nil pass0 (aj (aQ bD (pv 1) ao) (aj (aQ bD (pv 1) ao) ak)))))))),?_⟩;refine wH ?_;intro c4 c3 c2;obtain⟨dx,wb,va,lr,pr,A⟩:=id hS;cases d with
 |put xs=>
  obtain⟨t,h1,h2⟩:=hD;refine⟨_,rfl,da,_,_,.str "put",rfl,rfl,h1,rfl,rfl,_,rfl,?_⟩;refine ite2 (fun _=> ?_) (fun c=>absurd rfl (JV (Xq _▸c)));refine⟨_,rfl,o,dx,_,rfl,A.at_,rfl,_,rfl,da,_,_,.ref t,rfl,rfl,h1,rfl,?_⟩;exact⟨o,t,S,xs,rfl,hS,hok,h2,hF.1,hF.2,fun S' H' x hS' hok' en et hw=>qq S' H' x hS' hok' ⟨en,fun p=>et.mem_iff.trans nA⟩ hw⟩
 |drop=>
  refine⟨_,rfl,da,_,_,.str "drop",rfl,rfl,hD,rfl,rfl,_,rfl,?_⟩;refine ite2 (fun c=>absurd (fX c) (by decide+kernel)) (fun _=> ?_);refine⟨_,rfl,da,_,_,.str "drop",rfl,rfl,hD,rfl,rfl,_,rfl,?_⟩;refine ite2 (fun _=> ?_) (fun c=>absurd rfl (JV (Xq _▸c)));refine⟨_,rfl,o,dx,_,rfl,A.at_,rfl,?_⟩;exact⟨o,S,rfl,hS,hok,hF,fun S' H' x hS' hok' en et hw=>qq S' H' x hS' hok' ⟨en,fun p=>by rw[et,fL,was]⟩ hw⟩
 |tie i j=>
  obtain⟨⟨a,b,c,e,f⟩,g⟩:=hF;refine⟨_,rfl,da,_,_,.str "tie",rfl,rfl,hD,rfl,rfl,_,rfl,?_⟩;refine ite2 (fun c=>absurd (fX c) (by decide+kernel)) (fun _=> ?_);refine⟨_,rfl,da,_,_,.str "tie",rfl,rfl,hD,rfl,rfl,_,rfl,?_⟩;refine ite2 (fun c=>absurd (fX c) (by decide+kernel)) (fun _=> ?_);refine⟨_,rfl,da,_,_,.str "tie",rfl,rfl,hD,rfl,rfl,_,rfl,?_⟩;refine ite2 (fun _=> ?_) (fun c=>absurd rfl (JV (Xq _▸c)));refine⟨_,rfl,o,dx,_,rfl,A.at_,rfl,_,rfl,da,_,_,.int i,rfl,rfl,hD,rfl,_,rfl,da,_,_,.int j,rfl,rfl,hD,rfl,?_⟩;exact⟨o,i,j,S,rfl,hS,hok,a,b,c,e,f,g,fun S' H' x hS' hok' en et hw=>qq S' H' x hS' hok' ⟨en,fun p=>et.mem_iff.trans (nA.trans (or_congr_right gY))⟩ hw⟩
 |wg i j=>
  obtain⟨⟨a,b,c,e,f⟩,g⟩:=hF;refine⟨_,rfl,da,_,_,.str "untie",rfl,rfl,hD,rfl,rfl,_,rfl,?_⟩;refine ite2 (fun c=>absurd (fX c) (by decide+kernel)) (fun _=> ?_);refine⟨_,rfl,da,_,_,.str "untie",rfl,rfl,hD,rfl,rfl,_,rfl,?_⟩;refine ite2 (fun c=>absurd (fX c) (by decide+kernel)) (fun _=> ?_);refine⟨_,rfl,da,_,_,.str "untie",rfl,rfl,hD,rfl,rfl,_,rfl,?_⟩;refine ite2 (fun c=>absurd (fX c) (by decide+kernel)) (fun _=> ?_);refine⟨_,rfl,o,dx,_,rfl,A.at_,rfl,_,rfl,da,_,_,.int i,rfl,rfl,hD,rfl,_,rfl,da,_,_,.int j,rfl,rfl,hD,rfl,?_⟩;exact⟨o,i,j,S,rfl,hS,hok,a,b,c,e,f,g,fun S' H' x hS' hok' en et hw=>qq S' H' x hS' hok' ⟨en,fun p=>by rw[et,fL,Qe,Xu]⟩ hw⟩
end
theorem at0(v:V)(r:List V):atI (v::r) 0=some v:=atI_nat (xs:=v::r) (j:=0) rfl
theorem GK{n ov:Nat}{X:Nat->Int}{p:Nat}(h:p<n):(gq n ov X)[p]? =some (aP (X p) ov):=by
 unfold gq;rw[dJ,Sw h];rfl
theorem Qu(n ov:Nat)(X:Nat->Int):(gq n ov X).length=n:=by unfold gq;rw[aJ,vo]
end Hs
namespace L2
open PySem PySem.Spec PyProof.Rows PySem.W
section
variable{X:Cx}
theorem nM:CallR X (.builtin "sorted") (fun xs H Q=>∃(a:Addr) (its:List (Addr×List Int)),xs=[.ref a]/\SqT X.K H a (its.map fun p=>V.ref p.1)/\(∀p∈its,SqT X.K H p.1 (p.2.map V.int)/\p.2≠[])/\its.length<64/\
  ∀(l:Addr) (its':List (Addr×List Int)),H l=none->its'.Perm its->its'.Pairwise (fun p q=>HT.lexLt q.2 p.2=false)->Q (.ref l) (upd H l (.lst (its'.map fun p=>V.ref p.1)))):=by
 intro pins s σ H xs us Q I r h;obtain⟨a,its,rfl,hS,hT,h64,q⟩:=h;obtain⟨u,rfl,ru⟩:=r.one;cases ru;obtain⟨vs,rv,pl,hz⟩:=I.tuple hS;have hlen:its.length=vs.length:=by have:=rv.length;simpa using this
 -- the values beside the tuples
 have pr:Paired (fun(p:Addr×List Int) (v:ζ)=>v= .ref p.1) its vs:=by
  have go:∀(l:List (Addr×List Int)) (us:List ζ),Vals (l.map fun p=>V.ref p.1) us->Paired (fun(p:Addr×List Int) (v:ζ)=>v= .ref p.1) l us:=by
   intro l
   induction l with
   |nil=>intro us h;cases h;exact .nil
   |cons p l ih=>
    intro us h;cases h with
    |cons r t=>exact .cons r (ih _ t)
  exact go its vs rv
 have tup:∀p∈its,∃(items:List ζ),IntsAre items p.2/\IsTup s.heap p.1 items.toArray:=fun p hp=>by
  obtain⟨its',r',t',_⟩:=I.tuple (hT p hp).1;exact⟨its',T8 r',t'⟩
 refine uW.Dc (O:=uW.lexOrd) (key:=fun i=>(its.getD i (0,[])).2) (κ:=tuples' true) (s:=s) pl (by omega) (fun h2 h' k E' Q' hq=> ?_) (fun h2 h' k=> ?_) (fun D h' out c ho hD k hc=> ?_)
 ·have kt:∀(l:List (Addr×List Int)) (us:List ζ),Paired (fun(p:Addr×List Int) (v:ζ)=>v= .ref p.1) l us->(∀p∈l,p∈its)->∃fs:List ζ,KatTups h' us fs/\fs.length=us.length/\∀v∈fs,∃i t,v=Value.int i t:=by
   intro l us h
   induction h with
   |nil=>intro _;exact⟨[],trivial,rfl,fun _ hv=>nomatch hv⟩
   | @cons p v l us r t ih=>
    intro hs;obtain⟨fs,k1,k2,k3⟩:=ih fun p hp=>hs p (iG _ hp);obtain⟨items,hi,o,e,hc,n,hd⟩:=tup p (hs p iW);have hne:=(hT p (hs p iW)).2;obtain⟨pa,pn⟩:=p;dsimp only at hi hne e r;cases hi with
    |nil=>exact absurd rfl hne
    |cons i t hi'=>
     rw[r];refine⟨Value.int i t::fs,KatTups.cons (k _ _ e) hc hd (by simp) k1,by simp[k2],fun v hv=> ?_⟩;rcases cY.mp hv with e|e
     ·exact⟨i,t,e⟩
     ·exact k3 v e
  obtain⟨fs,k1,k2,k3⟩:=kt its vs pr fun _ hp=>hp;refine kat_kind (s:={s with heap:=h'}) (T:= .type "int") k1 (by omega) (fun v hv=> ?_) (by rfl) hq;obtain⟨i,t,rfl⟩:=k3 v hv;exact fun A Q E s _ q=>gQ q
 ·intro i j C hi hj hC;rw[<-hlen]at hi hj;have get:∀i (hi:i<its.length),vs.getD i Value.none= .ref its[i].1:=by
   have go:∀(l:List (Addr×List Int)) (us:List ζ),Paired (fun(p:Addr×List Int) (v:ζ)=>v= .ref p.1) l us->∀i (hi:i<l.length),us.getD i Value.none= .ref l[i].1:=by
    intro l us h
    induction h with
    |nil=>intro i hi;simp at hi
    |cons r t ih=>
     intro i hi;cases i with
     |zero=>exact r
     |succ i=>simpa using ih i (by simpa using hi)
   exact go its vs pr
  unfold kas_ask;rw[get i hi,get j hj];obtain⟨xi,hxi,oi,ei,ci,ni,di⟩:=tup its[i] (Cd _);obtain⟨xj,TJ,oj,ej,cj,nj,dj⟩:=tup its[j] (Cd _);refine kat_lt (s:={s with heap:=h'}) (k _ _ ei) di (k _ _ ej) dj ?_;refine uW.uI 0 hxi TJ ?_ ?_
  ·have:=hxi.length;have:=TJ.length;simp only[iD];omega
  ·rw[HT.bY];have e1:its.getD i (0,[])=its[i]:=by simp[hi]
   have e2:its.getD j (0,[])=its[j]:=by simp[hj]
   have hC':C (decide ((its.getD i (0,[])).2<(its.getD j (0,[])).2)) {s with heap:=h'}:=hC;rw[e1,e2]at hC';exact hC'
 ·obtain⟨its',hp,hr,hw⟩:=uW.xP (d:=((0,[]):Addr×List Int)) (f:=fun p=>p.2) pr (fun i hi=>by show(its.getD i (0,[])).2=_;simp[hi]) ho;have hn:H D=none:=I.hok.fresh hD;have rv':Vals (its'.map fun p=>V.ref p.1) out:=by
   have go:∀(l:List (Addr×List Int)) (us:List ζ),Paired (fun(p:Addr×List Int) (v:ζ)=>v= .ref p.1) l us->Vals (l.map fun p=>V.ref p.1) us:=by
    intro l us h
    induction h with
    |nil=>exact .nil
    |cons r t ih=>exact .cons r ih
   exact go its' out hr
  have zl:(its'.map fun p=>V.ref p.1).length<=sizeLine:=by
   have:=hp.length_eq;rw[aJ];exact dH (small1000 (by omega))
  have J:Inv X pins σ (upd H D (.lst (its'.map fun p=>V.ref p.1))) {s with heap:=h',toks:=s.toks}:=I.laid k hD ⟨zl,out,c,rv',hc⟩;refine⟨.ref D,_,J,rfl,q D its' hn hp (hw.imp fun{x y} hxy=> ?_)⟩;rw[HT.bY];exact hxy
end
end L2
namespace Hs
open PySem L2 oJ
section
variable{P:ξ}{w:τ}{K:W.Frag}{mg:L5}{base:Heap}
theorem Hx{t:TT}{s u w:TS}{D:Ends}{σ:St}{H:Hp}(I:Bool->Hp->Prop)(h1:∀N:Bool->Hp->Prop,(∀b H',I b H'->N b H')->t σ H N)(h2:∀b H',I b H'->if b=true then s {D with nx:=w D} σ H' else u {D with nx:=w D} σ H'):tSeq (tIfS t s u) w D σ H:=h1 _ h2
noncomputable def KQ(K:W.Frag):Sp:=fun vs H Q _=>∃(cp bh wb:Addr) (ns:List Int) (b n mo:Int) (ts:L0),vs=[.ref cp,.ref wb,.int mo]/\mo<=10/\cQ K H cp bh ns b/\b<=900000000/\aO K H wb n ts/\
 ∀r da wa d n' ts' H',aD cp H H'->cQ K H' cp bh ns (b+20)->SqT K H' r [.ref da,.ref wa]->dU K H' da d->JL n ts d->aO K H' wa n' ts'->OD n n' ts ts' d->Q (.ref r) H'
theorem Vq{f f1:Addr}{fd d1:ρ}(F:Fun K "_law_e_next" "_law_e_next" jF f fd)(D1:bC K mg "_law_e_dip" Ub ["cup","many"] f1 d1)(G1:FnOk P w K mg base CX0 2 f1 d1 ["cup","many"] (wz K))(aH:mg "tuple"=none)(aK:mg "range"=none)(cX:mg "sorted"=none)(cH:mg "list"=none)(pJ:mg "min"=none)(uF:mg "max"=none):
  FnOk P w K mg base CX0 3 f fd ["cup","web","most"] (KQ K):=by
 refine F.bZ ["cup","web","most","n","ties","sort","some","i","j","pair"] fun cdv A outer s H vs Q E hr h=> ?_;obtain⟨cp,bh,wb,ns,b,n,mo,ts,rfl,hmo,hC,hb,hW,qq⟩:=h;refine aW ?_;intro Y;refine⟨_,(aL (ps_asg (pv 1) (pg_tup rfl (mH (pG 3) (mH (pG 4) zq)))) (aL (pS 5 (pc G1 hr D1 (aj (pv 0) (aj ao ak)))) (aL (dZ (PW.pt (qg (cR op_eq (pv 3) ao) (yV (PW.pt (pw_and (cR op_lt (pv 5) ao) (pw_and1 (cR op_lt (pv 3) (pv 2)))))))) (aL (pS 6 (pT Ci aH (aj (pK ["place"] ["cup"] [0] (Io rfl aK (aj (pv 3) ak)) (pG 0) (BX (cR op_eq (pc G1 hr D1 (aj (pv 1) (aj ao ak))) ao)) (pv 0)) ak))) (aR (bB (dW (aj (dW (aj pe_str (aj (pv 6) ak))) (aj (dW (aj (bA nu (pv 3) ao) (aj (pT Ci aH (aj (pB jP cX (aj (bA op_cat (pT call_list_of cH (aj (pv 4) ak)) (pK ["place"] ["n"] [3] (BW (pv 6)) (pG 0) nP (dW (aj (pv 0) (aj (pv 1) ak))))) ak)) ak)) ak))) ak)))))) eG) (aL (dZ (PW.pt (qg (cR op_lt (pv 3) ao) (yV (PW.pt (pw_and (cR op_eq (pv 5) ao) (pw_and1 (cR op_gt (pv 3) ao))))))) (aR (bB (dW (aj (dW (aj pe_str ak)) (aj (dW (aj (bA op_sub (pv 3) ao) (aj (pT Ci aH (aj (pK ["tie"] ["n"] [3] (BW (pv 4)) (pG 0) (BX (cR op_lt (aQ (Cg K) (pv 0) ao) (bA op_sub (pv 1) ao))) (pv 0)) ak)) ak))) ak))))) eG) (aL (pS 7 (pc G1 hr D1 (aj (pv 0) (aj (pv 3) ak)))) (aL (pS 8 (bA op_mod (bA nu (bA nu (pv 7) ao) (pc G1 hr D1 (aj (pv 0) (aj (bA op_sub (pv 3) ao) ak)))) (pv 3))) (aL (pS 9 (dW (aj (pB (call_min2 rfl) pJ (aj (pv 7) (aj (pv 8) ak))) (aj (pB (call_max2 rfl) uF (aj (pv 7) (aj (pv 8) ak))) ak)))) (aL (dZ (cR (ur hr.units) (pv 9) (pv 4) (by with_unfolding_all rfl)) (aR (bB (dW (aj (dW (aj pe_str (aj (pv 7) (aj (pv 8) ak)))) (aj (dW (aj (pv 3) (aj (pT Ci aH (aj (pK ["tie"] ["pair"] [9] (BW (pv 4)) (pG 0) (BX (cR (xQ K hr.units) (pv 0) (pv 1))) (pv 0)) ak)) ak))) ak))))) eG) (aR (bB (dW (aj (dW (aj pe_str (aj (pv 7) (aj (pv 8) ak)))) (aj (dW (aj (pv 3) (aj (pT Ci aH (aj (pB nM cX (aj (bA xV (pv 4) (dW (aj (pv 9) ak))) ak)) ak)) ak))) ak))))))))))))),?_⟩;refine Zz ?_;intro c9 c8 c7 c6 c5 c4 c3 c2;have h0:=hW.h0;have h10:=hW.h1;have XD:=hW.len;obtain⟨z0,hz0⟩:=hC.lst;obtain⟨tt,rr,w1,w2,w3⟩:=id hW.web;refine⟨_,rfl,wb,_,rfl,w1,rfl,_,_,rfl,_,_,rfl,rfl,?_⟩;refine⟨_,rfl,cp,bh,ns,8,b,rfl,hC,by omega,by decide,by decide,fun so H1 so0 so1 x1 c1=> ?_⟩;have k1:TK K H H1:=x1.tk hz0;obtain⟨z1,hz1⟩:=c1.lst;have W1:=hW.nH x1 hz0;have w21:=k1 _ _ w2;obtain⟨its,rfl,iU,w4⟩:=gB w3;have w41:∀p∈its,SqT K H1 p.1 ((pl p.2).map V.int):=fun p hp=>k1 _ _ (w4 p hp);have lits:its.length=ts.length:=by rw[<-iU,aJ]
 dsimp only[gName];refine Hx (fun b H'=>H'=H1/\(b=true->n<10)/\(b=false->n≠0)) (fun N hN=> ?_) ?_
 ·refine⟨_,rfl,rfl,_,rfl,?_⟩;refine ite2 (fun c=> ?_) (fun c=> ?_)
  ·have:n=0:=V.int.inj (fX c);exact hN _ _ ⟨rfl,fun _=>by omega,fun z=>nomatch z⟩
  ·have n0:n≠0:=fun z=>c (cL (lq V.int z));refine⟨_,rfl,_,_,rfl,rfl,_,rfl,?_⟩;refine ite2 (fun c2=> ?_) (fun c2=>hN _ _ ⟨rfl,fun z=>absurd z (by decide),fun _=>n0⟩);refine⟨_,rfl,_,rfl,_,_,rfl,rfl,_,rfl,hN _ _ ⟨rfl,fun z=> ?_,fun _=>n0⟩⟩;have:=fX z;omega
 rintro b1 RZ ⟨rfl,hlt,hne⟩;cases b1 with
 |true=>
  refine iteT ?_;have n9:=hlt rfl;refine⟨_,rfl,n,rfl,by omega,by omega,?_⟩;let gF:Nat->List V->St->Hp->Prop:=fun i acc σ H'=>(∃xs:List Int,acc=xs.map V.int/\xs.Pairwise (· < ·)/\(∀x∈xs,0<=x/\x<(i:Int))/\xs.length<=i)/\aD cp RZ H'/\cQ K H' cp bh ns (b+1+(i:Int))/\∃o,σ=[o,some (.ref cp)];refine R6 (n:=n.toNat) gF ⟨⟨[],rfl,.nil,fun x hx=>(nomatch hx),aX _⟩,aD.refl _ _,c1.mono (by omega),_,rfl⟩ (fun i acc σ H' hi p=> ?_) (by rw[gR];omega) (fun i acc σ H' hi p=> ?_) (fun acc σ H' p=> ?_)
  ·obtain⟨⟨xs,rfl,_,_,hl⟩,_⟩:=p;rw[aJ];exact hl
  ·obtain⟨⟨xs,rfl,hxs,Zo,hl⟩,x2,c2,o,rfl⟩:=p;refine⟨_,rfl,cp,bh,ns,2,_,rfl,c2,by omega,by decide,by decide,fun r H3 r0 r1 x3 c3=>⟨rfl,_,rfl,?_⟩⟩;refine ite2 (fun c=> ?_) (fun c=> ?_)
   ·refine⟨_,rfl,⟨xs++[0+(i:Int)],by rw[bL];rfl,?_,fun x hx=> ?_,by rw[ql];show _+1<=_;omega⟩,x2.trans x3,c3.mono (by omega),_,rfl⟩
    ·refine Sy.mpr ⟨hxs,Pu _ _,fun x hx y hy=> ?_⟩;rw[gY.mp hy];have:=Zo x hx;omega
    ·rcases nA.mp hx with z|z
     ·have:=Zo x z;omega
     ·rw[gY.mp z];omega
   ·exact⟨⟨xs,rfl,hxs,fun x hx=>by have:=Zo x hx;omega,by omega⟩,x2.trans x3,c3.mono (by omega),_,rfl⟩
  intro p1 hp1;obtain⟨⟨xs,rfl,hxs,Zo,hl⟩,x2,c2,_⟩:=p;have hx:ju n xs:=⟨hxs,fun x hx=>by have:=Zo x hx;omega⟩;have n1:=aM hp1 (.lst (xs.map V.int));refine⟨p1,_,rfl,.inl ⟨SqL.of aB,fun t ht=> ?_⟩⟩;have n2:=aM ht (.tup (xs.map V.int));have hX:SqT K (upd (upd H' p1 (.lst (xs.map V.int))) t (.tup (xs.map V.int))) t (xs.map V.int):=SqT.of aB;have n12:=n1.trans n2;have xA:aD cp RZ (upd (upd H' p1 (.lst (xs.map V.int))) t (.tup (xs.map V.int))):=x2.trans (n12.x cp);have cA:=c2.same n12;generalize (upd (upd H' p1 (.lst (xs.map V.int))) t (.tup (xs.map V.int)))=G0 at *;have kA:TK K RZ G0:=xA.tk hz1;refine⟨_,rfl,(by show 2<=sizeLine;decide),fun q1 hq1=> ?_⟩;have m1:=aM hq1 (.tup [.str "put",.ref t]);have hD:dU K (upd G0 q1 (.tup [.str "put",.ref t])) q1 (.put xs):=⟨t,SqT.of aB,m1.tup hX⟩;have w22:=m1.tup (kA _ _ w21);have w42:∀p∈its,SqT K (upd G0 q1 (.tup [.str "put",.ref t])) p.1 ((pl p.2).map V.int):=fun p hp=>m1.tup (kA _ _ (w41 p hp));have hX2:=m1.tup hX;have cB:=cA.same m1;have xB:aD cp RZ (upd G0 q1 (.tup [.str "put",.ref t])):=xA.trans (m1.x cp);generalize (upd G0 q1 (.tup [.str "put",.ref t]))=G1 at *;refine⟨_,rfl,_,_,rfl,rfl,_,rfl,tt,_,rfl,.inr w22,fun l2 hl2=> ?_⟩;have n2:=aM hl2 (.lst (its.map fun p=>V.ref p.1));have hX3:=n2.tup hX2;refine⟨_,rfl,t,_,rfl,hX3,fun hz=> ?_⟩;let p7:Nat->List V->St->Hp->Prop:=fun i acc σ H'=>Same (upd G1 l2 (.lst (its.map fun p=>V.ref p.1))) H'/\cN K H' acc ((putL n (xs.take i)).map pairD)/\∃o,σ=[o,some (.int n)];refine BZ (xs:=xs.map V.int) p7 ⟨Same.refl _,.nil,_,rfl⟩ (fun i acc σ H' _ p=>by exact p.1.tup hX3) (fun i acc σ H' hi p=> ?_) hz (fun i x acc σ H' hx' p=> ?_) (fun acc σ H' p=> ?_)
  ·have:=p.2.1.len;unfold putL at this;rw[aJ,aJ,rK]at this;omega
  ·obtain⟨sm,hd,o',rfl⟩:=p;rw[dJ]at hx';cases ex:xs[i]? with
   |none=>rw[ex]at hx';cases hx'
   |some x0=>
    rw[ex]at hx';cases hx';refine⟨_,rfl,_,rfl,(by show 2<=sizeLine;decide),fun q2 hq2=> ?_⟩;have n2:=aM hq2 (.tup [.int x0,.int n]);refine⟨sm.trans n2,?_,_,rfl⟩;have e:putL n (xs.take (i+1))=putL n (xs.take i)++[(x0,n)]:=by unfold putL;rw[sI,ex,bL];rfl
    rw[e,bL];exact(hd.same n2).append (.cons (.tup (SqT.of aB) (.cons (.int _) (.cons (.int _) .nil))) .nil)
  intro p1 hp1;obtain⟨sm,hd,_⟩:=p;rw[aJ,qm]at hd;have n1:=aM hp1 (.lst acc);have hacc:(upd H' p1 (.lst acc)) p1=some (.lst acc):=aB;have hd1:=hd.same n1;have s2:=sm.trans n1;have aa9:=s2 _ _ (aB (H:=G1) (a:=l2) (o:= .lst (its.map fun p=>V.ref p.1)));have s12:=n2.trans s2;generalize (upd H' p1 (.lst acc))=G2 at *;obtain⟨jq,ejq,ejs,jqT⟩:=gB hd1;have ljq:jq.length=xs.length:=by
   have:=lq List.length ejs;unfold putL at this;rw[aJ,aJ]at this;exact this
  refine⟨l2,p1,_,_,rfl,rfl,aa9,hacc,by rw[ejq,aJ,aJ,gR];omega,fun l3 hl3=> ?_⟩;have n3:=aM hl3 (.lst ((its.map fun p=>V.ref p.1)++acc));have Nm:(upd G2 l3 (.lst ((its.map fun p=>V.ref p.1)++acc))) l3=some (.lst ((its++jq).map fun p=>V.ref p.1)):=by rw[aB,ejq,bL]
  have n23:=s12.trans n3;have jq3:∀p∈jq,SqT K (upd G2 l3 (.lst ((its.map fun p=>V.ref p.1)++acc))) p.1 ((pl p.2).map V.int):=fun p hp=>n3.tup (jqT p hp);generalize (upd G2 l3 (.lst ((its.map fun p=>V.ref p.1)++acc)))=G3 at *;have jT:∀p∈its++jq,SqT K G3 p.1 ((pl p.2).map V.int):=fun p hp'=>by
   rcases nA.mp hp' with z|z
   ·exact n23.tup (w42 p z)
   ·exact jq3 p z
  have JX:((its++jq).map (·.2))=ts++putL n xs:=by rw[bL,iU,ejs]
  have hq2:aN (n+1) ((its++jq).map (·.2)):=by
   rw[JX];exact LK hW.pk hx
  have ejl:(its++jq).length<=55:=by rw[ql];omega
  generalize its++jq=jts at *;refine⟨l3,jts.map (fun p=>(p.1,pl p.2)),rfl,by rw[vA];exact SqL.of Nm,fun p hp'=> ?_,by rw[aJ];omega,fun l4 its' Wc hperm lQ=> ?_⟩
  ·obtain⟨p',hp'',rfl⟩:=jY.mp hp';exact⟨jT p' hp'',by unfold pl;simp⟩
  have n4:=aM Wc (.lst (its'.map fun p=>V.ref p.1));refine⟨l4,_,rfl,.inl ⟨SqL.of aB,fun t1 ht1=>⟨(by show 2<=sizeLine;decide),fun rA uK=>⟨(by show 2<=sizeLine;decide),fun r hr=> ?_⟩⟩⟩⟩;have n5:=aM ht1 (.tup (its'.map fun p=>V.ref p.1));have n6:=aM uK (.tup [.int (n+1),.ref t1]);have n7:=aM hr (.tup [.ref q1,.ref rA]);have n46:=n4.trans (n5.trans n6);obtain⟨us,W,GJ⟩:=zE (K:=K) (n:=n+1) (by omega) (by omega) hq2 hperm lQ (fun p hp'=>n46.tup (jT p hp')) (SqT.of aB) (SqT.of (n6 _ _ aB));rw[JX]at GJ;have n27:=n23.trans (n46.trans n7);exact qq r q1 rA (.put xs) (n+1) us _ (x1.trans (xB.trans (n27.x cp))) ((cB.same n27).mono (by omega)) (SqT.of aB) (hD.tk n27.tk) ⟨hx,n9⟩ (W.same n7) ⟨rfl,fun p=>GJ.mem_iff.trans nA⟩
 |false=>
  refine iteF ?_;have n0:n≠0:=hne rfl
  try dsimp only[tNext]
  refine Hx (fun b H'=>H'=RZ/\(b=false->2<=n)) (fun N hN=> ?_) ?_
  ·refine⟨_,rfl,_,_,rfl,rfl,_,rfl,?_⟩;refine ite2 (fun c=>hN _ _ ⟨rfl,fun z=>nomatch z⟩) (fun c=> ?_);have n2:2<=n:=by
    have:¬n<2:=fun z=>c (cL z);omega
   refine⟨_,rfl,rfl,_,rfl,?_⟩;refine ite2 (fun c2=> ?_) (fun c2=>hN _ _ ⟨rfl,fun _=>n2⟩);exact⟨_,rfl,_,_,rfl,rfl,_,rfl,hN _ _ ⟨rfl,fun _=>n2⟩⟩
  rintro b2 RX ⟨rfl,hge⟩;cases b2 with
  |true=>
   refine iteT ?_;refine⟨(by show 1<=sizeLine;decide),fun q1 hq1=> ?_⟩;have m1:=aM hq1 (.tup [.str "drop"]);have hD:dU K (upd RX q1 (.tup [.str "drop"])) q1 .drop:=SqT.of aB;have cB:=c1.same m1;have w22:=m1.tup w21;have w42:∀p∈its,SqT K (upd RX q1 (.tup [.str "drop"])) p.1 ((pl p.2).map V.int):=fun p hp=>m1.tup (w41 p hp);generalize (upd RX q1 (.tup [.str "drop"]))=G1 at *;refine⟨_,rfl,_,_,rfl,rfl,_,rfl,tt,_,rfl,w22,fun hz=> ?_⟩;let Fp:Nat->List V->St->Hp->Prop:=fun i acc σ H'=>acc=((its.take i).filter fun p=>decide (p.2.2<n-1)).map (fun p=>V.ref p.1)/\H'=G1/\∃o,σ=[o,some (.int n)];refine BZ (xs:=its.map fun p=>V.ref p.1) Fp ⟨rfl,rfl,_,rfl⟩ (fun i acc σ H' _ p=>by rw[p.2.1];exact w22) (fun i acc σ H' hi p=> ?_) hz (fun i x acc σ H' hx p=> ?_) (fun acc σ H' p=> ?_)
   ·rw[p.1,aJ];exact cT (vC _ _) (by rw[rK];exact Cm _ _)
   ·obtain⟨rfl,rfl,o,rfl⟩:=p;rw[dJ]at hx;cases ex:its[i]? with
    |none=>rw[ex]at hx;cases hx
    |some it=>
     rw[ex]at hx;cases hx;have hit:=w42 it (sO ex);have go:(its.take (i+1)).filter (fun p=>decide (p.2.2<n-1))=(its.take i).filter (fun p=>decide (p.2.2<n-1))++(if decide (it.2.2<n-1)=true then[it]else[]):=by
      rw[sI,ex,Cq];congr 1;show List.filter _ [it]=_;rw[Cp];rfl
     refine⟨_,rfl,it.1,_,_,.int it.2.2,rfl,rfl,hit,rfl,_,rfl,_,_,rfl,rfl,_,_,rfl,rfl,_,rfl,?_⟩;refine ite2 (fun c=> ?_) (fun c=> ?_)
     ·exact⟨_,rfl,by rw[go,aF c,bL];rfl,rfl,_,rfl⟩
     ·exact⟨by rw[go,aA c,zx],rfl,_,rfl⟩
   intro p1 hp1;obtain⟨rfl,rfl,_⟩:=p;rw[aJ,qm];generalize uL:its.filter (fun p=>decide (p.2.2<n-1))=jts at *;have jm:jts.map (·.2)=ts.filter fun p=>decide (p.2<n-1):=by
    rw[<-uL,<-iU,wde];rfl
   have n1:=aM hp1 (.lst (jts.map fun p=>V.ref p.1));refine⟨p1,_,rfl,.inl ⟨SqL.of aB,fun t1 ht1=>⟨(by show 2<=sizeLine;decide),fun rA uK=>⟨(by show 2<=sizeLine;decide),fun r hr=> ?_⟩⟩⟩⟩;have n2:=aM ht1 (.tup (jts.map fun p=>V.ref p.1));have n3:=aM uK (.tup [.int (n-1),.ref t1]);have n4:=aM hr (.tup [.ref q1,.ref rA]);have n13:=n1.trans (n2.trans n3);have Dv:=gw (K:=K) jts (fun p hp=>n13.tup (w42 p (by rw[<-uL]at hp;exact(fL.mp hp).1)));rw[jm]at Dv;have ok:=tK (n:=n-1) (by omega) (by omega) (hW.zF.filter _) fun p (hp:p∈ts.filter fun p=>decide (p.2<n-1))=>by
    obtain⟨m1,m2⟩:=fL.mp hp;have:=hW.pk.lt p m1;have:=fX m2;omega
   have n14:=n13.trans n4;have W:aO K _ rA (n-1) _:=⟨⟨t1,_,SqT.of aB,SqT.of (n3 _ _ aB),Dv⟩,by omega,by omega,ok.1,ok.2⟩;exact qq r q1 rA .drop (n-1) _ _ (x1.trans ((m1.x cp).trans (n14.x cp))) ((cB.same n14).mono (by omega)) (SqT.of aB) (hD.tk n14.tk) (show 0<n by omega) (W.same n4) ⟨rfl,fun p=>by rw[fL,was]⟩
  |false=>
   refine iteF ?_;have n2:=hge rfl;refine⟨_,rfl,_,rfl,cp,bh,ns,n,_,rfl,c1,by omega,by omega,by omega,fun i H2 i0 i1 x2 c2=> ?_⟩;refine⟨_,rfl,_,_,rfl,rfl,_,rfl,_,rfl,_,_,rfl,rfl,cp,bh,ns,n-1,_,rfl,c2,by omega,by omega,by omega,fun j0 H3 j00 j01 x3 c3=>⟨_,_,rfl,rfl,_,rfl,_,_,rfl,rfl,by omega,?_⟩⟩;have hj0:0<=(i+1+j0) %n:=Int.emod_nonneg _ (by omega);have hj1:(i+1+j0) %n<n:=Int.emod_lt_of_pos _ (by omega);have hij:i≠(i+1+j0) %n:=fun e=>by
    by_cases c:i+1+j0<n
    ·rw[Int.emod_eq_of_lt (by omega) c]at e;omega
    ·have:(i+1+j0) %n=i+1+j0-n:=by
      rw[<-Int.sub_emod_right,Int.emod_eq_of_lt (by omega) (by omega)]
     omega
   show gName _ _ _ _ _
   try dsimp only
   generalize (i+1+j0) %n=j at *;have x13:=x2.trans x3;have k3:TK K RX H3:=x13.tk hz1;have w23:=k3 _ _ w21;have w43:∀p∈its,SqT K H3 p.1 ((pl p.2).map V.int):=fun p hp=>k3 _ _ (w41 p hp);have W3:=W1.nH x13 hz1;have two:Two n i j:=⟨i0,i1,hj0,hj1,hij⟩;have lh:=V8 i0 i1 hj0 hj1 hij;refine⟨_,rfl,_,rfl,i,j,rfl,_,rfl,_,rfl,i,j,rfl,(by show 2<=sizeLine;decide),fun pp hpp=> ?_⟩;have m1:=aM hpp (.tup [.int (lo2 i j),.int (hi2 i j)]);have hP:SqT K (upd H3 pp (.tup [.int (lo2 i j),.int (hi2 i j)])) pp [.int (lo2 i j),.int (hi2 i j)]:=SqT.of aB;have cB:=c3.same m1;have w24:=m1.tup w23;have w44:∀p∈its,SqT K (upd H3 pp (.tup [.int (lo2 i j),.int (hi2 i j)])) p.1 ((pl p.2).map V.int):=fun p hp=>m1.tup (w43 p hp);have xB:aD cp H (upd H3 pp (.tup [.int (lo2 i j),.int (hi2 i j)])):=x1.trans (x13.trans (m1.x cp));show gName _ _ _ (upd H3 pp (.tup [.int (lo2 i j),.int (hi2 i j)])) _;generalize (upd H3 pp (.tup [.int (lo2 i j),.int (hi2 i j)]))=G1 at *;have Dv1:=gw (K:=K) its w44;rw[iU]at Dv1;refine⟨_,rfl,_,rfl,tt,_,_,pairD (lo2 i j,hi2 i j),rfl,.inr w24,Dv1,.tup hP (.cons (.int _) (.cons (.int _) .nil)),jh ts,rfl,(by show max 0 (max 0 0)+1<=60;decide),_,rfl,?_⟩;rw[uV];refine ite2 (fun c=> ?_) (fun c=> ?_)
   ·have hin:=fX c;refine⟨_,rfl,_,rfl,(by show 3<=sizeLine;decide),fun q1 hq1=> ?_⟩;have m2:=aM hq1 (.tup [.str "untie",.int i,.int j]);have hD:dU K (upd G1 q1 (.tup [.str "untie",.int i,.int j])) q1 (.wg i j):=SqT.of aB;have w25:=m2.tup w24;have Qh:∀p∈its,SqT K (upd G1 q1 (.tup [.str "untie",.int i,.int j])) p.1 ((pl p.2).map V.int):=fun p hp=>m2.tup (w44 p hp);have hP2:=m2.tup hP;have cC:=cB.same m2;have xC:=xB.trans (m2.x cp);generalize (upd G1 q1 (.tup [.str "untie",.int i,.int j]))=G2 at *;refine⟨_,rfl,_,rfl,tt,_,rfl,w25,fun hz=> ?_⟩;let W7:Nat->List V->St->Hp->Prop:=fun k acc σ H'=>acc=((its.take k).filter fun p=> !decide (p.2=(lo2 i j,hi2 i j))).map (fun p=>V.ref p.1)/\H'=G2/\∃o,σ=[o,some (.ref pp)];refine BZ (xs:=its.map fun p=>V.ref p.1) W7 ⟨rfl,rfl,_,rfl⟩ (fun i acc σ H' _ p=>by rw[p.2.1];exact w25) (fun i acc σ H' hi p=> ?_) hz (fun k x acc σ H' hx p=> ?_) (fun acc σ H' p=> ?_)
    ·rw[p.1,aJ];exact cT (vC _ _) (by rw[rK];exact Cm _ _)
    ·obtain⟨rfl,rfl,o',rfl⟩:=p;rw[dJ]at hx;cases ex:its[k]? with
     |none=>rw[ex]at hx;cases hx
     |some it=>
      rw[ex]at hx;cases hx;have hit:=Qh it (sO ex);have go:(its.take (k+1)).filter (fun p=> !decide (p.2=(lo2 i j,hi2 i j)))=(its.take k).filter (fun p=> !decide (p.2=(lo2 i j,hi2 i j)))++(if(!decide (it.2=(lo2 i j,hi2 i j)))=true then[it]else[]):=by
       rw[sI,ex,Cq];congr 1;show List.filter _ [it]=_;rw[Cp];rfl
      refine⟨_,rfl,_,rfl,pairD it.2,pairD (lo2 i j,hi2 i j),.tup hit (.cons (.int _) (.cons (.int _) .nil)),.tup hP2 (.cons (.int _) (.cons (.int _) .nil)),rfl,rfl,(by show min (max 0 (max 0 0)+1) (max 0 (max 0 0)+1)<=64;decide),_,rfl,?_⟩;rw[jj];refine ite2 (fun c=> ?_) (fun c=> ?_)
      ·exact⟨_,rfl,by rw[go,aF c,bL];rfl,rfl,_,rfl⟩
      ·exact⟨by rw[go,aA c,zx],rfl,_,rfl⟩
    intro p1 hp1;obtain⟨rfl,rfl,_⟩:=p;rw[aJ,qm];generalize uL:its.filter (fun p=> !decide (p.2=(lo2 i j,hi2 i j)))=jts at *;have jm:jts.map (·.2)=ts.filter fun p=> !decide (p=(lo2 i j,hi2 i j)):=by
     rw[<-uL,<-iU,wde];rfl
    have n1:=aM hp1 (.lst (jts.map fun p=>V.ref p.1));refine⟨p1,_,rfl,.inl ⟨SqL.of aB,fun t1 ht1=>⟨(by show 2<=sizeLine;decide),fun rA uK=>⟨(by show 2<=sizeLine;decide),fun r hr=> ?_⟩⟩⟩⟩;have n2:=aM ht1 (.tup (jts.map fun p=>V.ref p.1));have n3:=aM uK (.tup [.int n,.ref t1]);have n4:=aM hr (.tup [.ref q1,.ref rA]);have n13:=n1.trans (n2.trans n3);have Dv:=gw (K:=K) jts (fun p hp=>n13.tup (Qh p (by rw[<-uL]at hp;exact(fL.mp hp).1)));rw[jm]at Dv;have ok:=tK (n:=n) h0 h10 (hW.zF.filter _) fun p (hp:p∈ts.filter fun p=> !decide (p=(lo2 i j,hi2 i j)))=>hW.pk.lt p (fL.mp hp).1;have n14:=n13.trans n4;have W:aO K _ rA n _:=⟨⟨t1,_,SqT.of aB,SqT.of (n3 _ _ aB),Dv⟩,h0,h10,ok.1,ok.2⟩;exact qq r q1 rA (.wg i j) n _ _ (xC.trans (n14.x cp)) ((cC.same n14).mono (by omega)) (SqT.of aB) (hD.tk n14.tk) ⟨two,hin⟩ (W.same n4) ⟨rfl,fun p=>by rw[fL,Qe,Xu]⟩
   ·have hin:(lo2 i j,hi2 i j)∉ts:=fun z=>c (cL z);refine⟨_,rfl,_,rfl,(by show 3<=sizeLine;decide),fun q1 hq1=> ?_⟩;have m2:=aM hq1 (.tup [.str "tie",.int i,.int j]);have hD:dU K (upd G1 q1 (.tup [.str "tie",.int i,.int j])) q1 (.tie i j):=SqT.of aB;have w25:=m2.tup w24;have Qh:∀p∈its,SqT K (upd G1 q1 (.tup [.str "tie",.int i,.int j])) p.1 ((pl p.2).map V.int):=fun p hp=>m2.tup (w44 p hp);have hP2:=m2.tup hP;have cC:=cB.same m2;have xC:=xB.trans (m2.x cp);generalize (upd G1 q1 (.tup [.str "tie",.int i,.int j]))=G2 at *;refine⟨_,rfl,_,rfl,_,rfl,(by show 1<=sizeLine;decide),fun q3 hq3=> ?_⟩;have n2:=aM hq3 (.tup [.ref pp]);refine⟨tt,q3,_,_,rfl,rfl,n2.tup w25,SqT.of aB,by rw[aJ,gR];show its.length+1<=_;omega,fun ca G4 n3 ec1=> ?_⟩;have n23:=n2.trans n3;have jT:∀p∈its++[(pp,(lo2 i j,hi2 i j))],SqT K G4 p.1 ((pl p.2).map V.int):=fun p hp'=>by
     rcases nA.mp hp' with z|z
     ·exact n23.tup (Qh p z)
     ·rw[gY.mp z];exact n23.tup hP2
    have hq:aN n ((its++[(pp,(lo2 i j,hi2 i j))]).map (·.2)):=by
     rw[bL,iU];refine⟨Ye.mpr ⟨hW.pk.nd,(Pu _ _),fun x hx y hy e=> ?_⟩,fun p hp'=> ?_⟩
     ·have:y=(lo2 i j,hi2 i j):=gY.mp hy;rw[e,this]at hx;exact hin hx
     ·rcases nA.mp hp' with z|z
      ·exact hW.pk.lt p z
      ·have:p=(lo2 i j,hi2 i j):=gY.mp z;rw[this];exact lh
    have ejl:(its++[(pp,(lo2 i j,hi2 i j))]).length<=46:=by rw[ql];show _+1<=_;omega
    have ej:(its.map (fun p=>V.ref p.1))++[V.ref pp]=(its++[(pp,(lo2 i j,hi2 i j))]).map fun p=>V.ref p.1:=by rw[bL];rfl
    rw[ej]at ec1;have JX:((its++[(pp,(lo2 i j,hi2 i j))]).map (·.2))=ts++[(lo2 i j,hi2 i j)]:=by rw[bL,iU];rfl
    generalize its++[(pp,(lo2 i j,hi2 i j))]=jts at *;refine⟨ca,jts.map (fun p=>(p.1,pl p.2)),rfl,by rw[vA];exact ec1,fun p hp'=> ?_,by rw[aJ];omega,fun l1 its' hl1 hperm lQ=> ?_⟩
    ·obtain⟨p',hp'',rfl⟩:=jY.mp hp';exact⟨jT p' hp'',by unfold pl;simp⟩
    have n4:=aM hl1 (.lst (its'.map fun p=>V.ref p.1));refine⟨l1,_,rfl,.inl ⟨SqL.of aB,fun t1 ht1=>⟨(by show 2<=sizeLine;decide),fun rA uK=>⟨(by show 2<=sizeLine;decide),fun r hr=> ?_⟩⟩⟩⟩;have n5:=aM ht1 (.tup (its'.map fun p=>V.ref p.1));have n6:=aM uK (.tup [.int n,.ref t1]);have n7:=aM hr (.tup [.ref q1,.ref rA]);have n46:=n4.trans (n5.trans n6);obtain⟨us,W,GJ⟩:=zE (K:=K) (n:=n) h0 h10 hq hperm lQ (fun p hp'=>n46.tup (jT p hp')) (SqT.of aB) (SqT.of (n6 _ _ aB));rw[JX]at GJ;have n27:=n23.trans (n46.trans n7);exact qq r q1 rA (.tie i j) n us _ (xC.trans (n27.x cp)) ((cC.same n27).mono (by omega)) (SqT.of aB) (hD.tk n27.tk) ⟨two,hin⟩ (W.same n7) ⟨rfl,fun p=>GJ.mem_iff.trans (nA.trans (or_congr_right gY))⟩
noncomputable def spLaw(K:W.Frag):Sp:=fun vs H Q _=>∃(a:Addr) (ns:List Int),vs=[.ref a]/\rR K H a ns/\ns.length<=63/\∀H',Q (.bl true) H'
theorem KY{H:Hp}{a:Addr}{ns:List Int}(hl:ns.length<=63)(hO:Only H)(hS:SqL K H a (ns.map V.int)):spLaw K [.ref a] H (fun v _=>v= .bl true) fun _ _ _=>False:=by
 refine⟨a,ns,rfl,?_,hl,fun _=>rfl⟩;rcases hS with(h|⟨o,h⟩)|h
 ·rcases hO a with q|⟨o,xs,q⟩
  ·rw[q]at h;cases h
  ·rw[q]at h;cases h
 ·exact .inl ⟨o,h⟩
 ·exact .inr h
theorem Kl{H:Hp}{a p:Addr}{ns:List Int}(hS:rR K H a ns)(h63:ns.length<=63)(hp:H p=none):pZ K (upd H p (.lst [.ref a,.int 0,.int 0])) p a ns:=
 ⟨⟨0,0,aB,tH _,tH _⟩,hS.same (aM hp _),h63⟩
noncomputable def aaG(K:W.Frag):List V->Hp->VK->Prop:=fun xs H Q=>∃p ys,xs=[.ref p]/\(SqL K H p ys\/SqT K H p ys)/\(ys.length<=16777216->Q (.int ys.length) H)
theorem RQ{H:Hp}{a p:Addr}{ns:List Int}(hS:rR K H a ns)(h63:ns.length<=63)(hp:H p=none):cQ K (upd H p (.lst [.ref a,.int 0,.int 0])) p a ns 0:=
 ⟨Kl hS h63 hp,0,0,aB,tH _⟩
theorem _root_.L2.cQ.ins{H H':Hp}{tp bh o C dx:Addr}{ns:List Int}{b:Int}{fs:List (Str×V)}(h:cQ K H tp bh ns b)(e:aD o H H')(hO:H o=some (.ins C dx fs)):cQ K H' tp bh ns b:=by
 obtain⟨⟨⟨i,r,h1,h2,h3⟩,h4,h5⟩,i',r',h6,h7⟩:=h;have ne:tp≠o:=fun z=>by rw[z,hO]at h1;cases h1
 refine⟨⟨⟨i,r,e _ _ ne h1,h2,h3⟩,?_,h5⟩,i',r',e _ _ ne h6,h7⟩;rcases h4 with⟨ob,h⟩|h
 ·exact .inl ⟨ob,e _ _ (fun z=>by rw[z,hO]at h;cases h) h⟩
 ·exact .inr h
structure uY(K:W.Frag)(C cp bh o:Addr)(ns:List Int)(H:Hp)(b:Int)(S:Sd):Prop where
 cup:cQ K H cp bh ns b
 PB:dG K C H o S
 ok:cO S
 nl:S.la≠cp
 np:S.pa≠cp
theorem uY.same{C cp bh o:Addr}{ns:List Int}{H H':Hp}{b:Int}{S:Sd}(h:uY K C cp bh o ns H b S)(e:Same H H'):uY K C cp bh o ns H' b S:=⟨h.cup.same e,h.PB.same e,h.ok,h.nl,h.np⟩
theorem uY.mono{C cp bh o:Addr}{ns:List Int}{H:Hp}{b c:Int}{S:Sd}(h:uY K C cp bh o ns H b S)(e:b<=c):uY K C cp bh o ns H c S:=⟨h.cup.mono e,h.PB,h.ok,h.nl,h.np⟩
theorem uY.T3{C cp bh o:Addr}{ns:List Int}{H H':Hp}{b c:Int}{S:Sd}(h:uY K C cp bh o ns H b S)(x:aD cp H H')(hc:cQ K H' cp bh ns c):uY K C cp bh o ns H' c S:=by
 obtain⟨z,hz⟩:=h.cup.lst;exact⟨hc,h.PB.nH x hz h.nl h.np,h.ok,h.nl,h.np⟩
theorem uY.deed{C cp bh o:Addr}{ns:List Int}{H H':Hp}{b:Int}{S S':Sd}(h:uY K C cp bh o ns H b S)(x:aD o H H')(hS:dG K C H' o S')(ok:cO S')(w:vP S S' H):uY K C cp bh o ns H' b S':=by
 obtain⟨dx,fs,hO⟩:=h.PB.ins;obtain⟨z,hz⟩:=h.cup.lst;refine⟨h.cup.ins x hO,hS,ok,?_,cF hz w.2.1⟩;rcases w.1 with e|e
 ·rw[e];exact h.nl
 ·exact cF hz e
theorem uY.tkD{C cp bh o:Addr}{ns:List Int}{H H':Hp}{b:Int}{S:Sd}(h:uY K C cp bh o ns H b S)(x:aD cp H H'):TK K H H':=by
 obtain⟨z,hz⟩:=h.cup.lst;exact x.tk hz
theorem uY.tkS{C cp bh o:Addr}{ns:List Int}{H H':Hp}{b:Int}{S:Sd}(h:uY K C cp bh o ns H b S)(x:aD o H H'):TK K H H':=by
 obtain⟨dx,fs,hO⟩:=h.PB.ins;exact x.Xw hO
theorem La{f:Nat->Int}{c:Int}:∀k,(∀i,i<k->f i<=c)->Sx.sm k f<=(k:Int)*c
 |0,_=>by rw[show((0:Nat):Int)=0 from rfl,JR];exact tH _
 |k+1,h=>by
  have a:=La k fun i hi=>h i (by omega);have b:=h k (by omega);have e:((k+1:Nat):Int)*c=(k:Int)*c+c:=by rw[Int.natCast_add,wed];simp
  rw[e];exact wex a b
theorem wN.num{n:Int}{ts:L0}{f:Int×Nat}(h:wN n ts f)(hn:n<=10):f.1.natAbs<=399168000:=by
 obtain⟨ss,ov,Z,Y,X,hS,h,rfl⟩:=h;have z0:0<=Z:=by rw[<-h.tot];exact Sx.wA _ fun k _=>h.yn k
 have z1:Z<=(n.toNat:Int)*(ov:Int):=by
  rw[<-h.wor];refine La _ fun p hp=> ?_;rw[wX hp,Cj];have sk:kj ts false n.toNat [(p:Int)]:=⟨Pu _ _,fun x hx=>by rw[gY.mp hx];omega,fun x hx y hy hn=>absurd ((gY.mp hx).trans (gY.mp hy).symm) hn⟩;have:=qR hS h sk;rw[Sx.dg (j:=p) _ hp fun i _ hi=>aA (by simp;omega),aF (by simp)]at this;exact this
 have big:=h.big;have z2:(n.toNat:Int)*(ov:Int)<=10*39916800:=wey (by omega) (by omega) (by omega) (by decide);have l:=(Ca Z h.pos).lu;omega
theorem Ms{f:Addr}{fd:ρ}(F:Fun K "_law_e_tied" "_law_e_tied" jD f fd)(pJ:mg "min"=none)(uF:mg "max"=none):
  FnOk P w K mg base CX0 1 f fd ["web","one","other"] (rC K):=by
 refine F.bZ ["web","one","other"] fun cdv A outer s H vs Q E hr h=> ?_;obtain⟨a,n,i,j,ts,rfl,hW,q⟩:=h;refine⟨_,(aR (bB (wQ (ur hr.units) (dW (aj (pB (call_min2 rfl) pJ (aj (pv 1) (aj (pv 2) ak))) (aj (pB (call_max2 rfl) uF (aj (pv 1) (aj (pv 2) ak))) ak))) (aQ bD (pv 0) ao) (by with_unfolding_all rfl)))),?_⟩;refine⟨_,rfl,_,rfl,_,_,rfl,_,rfl,_,rfl,_,_,rfl,(by show 2<=sizeLine;decide),fun p hp=> ?_⟩;have sm:=aM hp (.tup [.int (if j<i then j else i),.int (if j>i then j else i)]);obtain⟨t,rs,h1,h2,h3⟩:=hW.same sm;refine⟨_,rfl,a,_,_,.ref t,rfl,rfl,h1,rfl,t,rs,_,pairD (if j<i then j else i,if j>i then j else i),rfl,.inr h2,h3,.tup (SqT.of aB) (.cons (.int _) (.cons (.int _) .nil)),jh ts,rfl,(by show max 0 (max 0 0)+1<=60;decide),?_⟩;rw[uV];exact q _ sm
end
noncomputable def iV(ts:L0)(xs:List Int):List (List Int):=xs.foldl (fun found p=>found++(found.filter fun s=> !s.any fun o=>bU ts o p).map fun s=>s++[p]) [[]]
theorem qQ(ts:L0)(xs:List Int)(p:Int):iV ts (xs++[p])=iV ts xs++((iV ts xs).filter fun s=> !s.any fun o=>bU ts o p).map fun s=>s++[p]:=by
 unfold iV;rw[List.foldl_append];rfl
theorem sub_one{v:List Int}{p:Int}(h:v.Sublist [p]):v=[]\/v=[p]:=by
 cases h with
 |cons _ h=>exact .inl (List.sublist_nil.mp h)
 |cons_cons _ h=>exact .inr (by rw[List.sublist_nil.mp h])
structure ApS(ts:L0)(xs s:List Int):Prop where
 sub:s.Sublist xs
 ap:s.Pairwise fun a b=>bU ts a b=false
theorem Af{ts:L0}{s:List Int}:∀{k:Nat} {xs:List Int},xs.length=k->(s∈iV ts xs↔ApS ts xs s):=by
 intro k
 induction k generalizing s with
 |zero=>
  intro xs hl;have:xs=[]:=wcl hl;subst this;constructor
  ·intro h;rw[gY.mp (show s∈[[]]from h)];exact⟨wdw _,List.Pairwise.nil⟩
  ·intro h;rw[List.sublist_nil.mp h.sub];exact gY.mpr rfl
 |succ k ih=>
  intro xs hl;have hne:xs≠[]:=fun e=>by rw[e]at hl;cases hl
  obtain⟨ys,p,rfl⟩:∃ys p,xs=ys++[p]:=⟨xs.dropLast,xs.getLast hne,(wcs hne).symm⟩;have hk:ys.length=k:=by rw[ql]at hl;exact Nat.succ.inj hl
  rw[qQ,nA];constructor
  ·rintro(h|h)
   ·have S:=(ih hk).mp h;exact⟨S.sub.trans (wbp _ _),S.ap⟩
   ·obtain⟨u,hu,rfl⟩:=jY.mp h;obtain⟨u1,u2⟩:=fL.mp hu;have S:=(ih hk).mp u1;refine⟨S.sub.append (wdw _),?_⟩;rw[Sy];refine⟨S.ap,Pu _ _,fun a ha b hb=> ?_⟩;rw[gY.mp hb];rw[Qe,Xh]at u2;exact Bool.eq_false_iff.mpr (u2 a ha)
  ·intro S;obtain⟨u,v,rfl,hu,hv⟩:=List.sublist_append_iff.mp S.sub;rcases sub_one hv with rfl|rfl
   ·refine .inl ((ih hk).mpr ⟨by rw[zx];exact hu,S.ap⟩)
   ·refine .inr (jY.mpr ⟨u,fL.mpr ⟨(ih hk).mpr ⟨hu,(Sy.mp S.ap).1⟩,?_⟩,rfl⟩);rw[Qe,Xh];intro a ha;rw[(Sy.mp S.ap).2.2 a ha p (gY.mpr rfl)];decide
theorem Bp(ts:L0):∀(k:Nat) (xs:List Int),xs.length=k->(iV ts xs).length<=2^k
 |0,xs,h=>by rw[wcl h];exact aX _
 |k+1,xs,h=>by
  have hne:xs≠[]:=fun e=>by rw[e]at h;cases h
  obtain⟨ys,p,rfl⟩:∃ys p,xs=ys++[p]:=⟨xs.dropLast,xs.getLast hne,(wcs hne).symm⟩;have hk:ys.length=k:=by rw[ql]at h;exact Nat.succ.inj h
  rw[qQ,ql,aJ,wfg];have h1:=Bp ts k ys hk;have h2:=vC (fun s:List Int=> !s.any fun o=>bU ts o p) (iV ts ys);omega
section
variable{P:ξ}{w:τ}{K:W.Frag}{mg:L5}{base:Heap}
noncomputable def xG(K:W.Frag):Sp:=fun vs H Q _=>∃(a l:Addr) (n:Int) (ts:L0) (xs:List Int),vs=[.ref a,.ref l]/\aO K H a n ts/\SqL K H l (xs.map V.int)/\xs.length<=10/\∀r H',Same H H'->uX K H' r (iV ts xs)->Q (.ref r) H'
theorem Fi(ts:L0){xs:List Int}(h:xs.length<=10):(iV ts xs).length<=1024:=cT (Bp ts _ xs rfl) (Nat.pow_le_pow_right (by decide) h)
theorem JH{ts:L0}{xs s:List Int}(h:xs.length<=10)(hs:s∈iV ts xs):s.length<=10:=cT ((Af rfl).mp hs).sub.length_le h
theorem Mu{f f1:Addr}{fd d1:ρ}(F:Fun K "_law_e_apart_sets" "_law_e_apart_sets" zbr f fd)(D1:bC K mg "_law_e_tied" jD ["web","one","other"] f1 d1)(G1:FnOk P w K mg base CX0 1 f1 d1 ["web","one","other"] (rC K))(M5:mg "any"=none):
  FnOk P w K mg base CX0 2 f fd ["web","left"] (xG K):=by
 refine F.bZ ["web","left","found","place","more"] fun cdv A outer s H vs Q E hr h=> ?_;obtain⟨a,l,n,ts,xs,rfl,hA,hL,aby,q⟩:=h;refine⟨_,(aL (pS 2 (pe_lst (aj (dW ak) ak))) (aL (ps_for wZ rfl (sG (pv 1)) (pG 3) (aL (pX 4 ["some"] ["web","place"] [0,3] (sG (pv 2)) (pG 0) (BX (kY (iY (pB (JG K rfl) M5 (aj (pK ["one"] ["web","place"] [1,2] (LQ K (pv 0)) (pG 0) nP (pc G1 hr D1 (aj (pv 1) (aj (pv 0) (aj (pv 2) ak))))) ak))))) (bA (zZ K) (pv 0) (dW (aj (pv 2) ak)))) (aR (pS 2 (bA op_cat (pv 2) (pv 4)))))) (aR (bB (pv 2))))),?_⟩;refine⟨(by show 0<=sizeLine;decide),fun e0 he0=>⟨(by show 1<=sizeLine;decide),fun fo hfo=> ?_⟩⟩;have s1:=(aM he0 (.tup [])).trans (aM hfo (.lst [.ref e0]));have f0:uX K (upd (upd H e0 (.tup [])) fo (.lst [.ref e0])) fo (iV ts []):=⟨[(e0,[])],aB,fun p hp=>by rw[gY.mp hp];exact(aM hfo (.lst [.ref e0])).tup (SqT.of aB),rfl⟩;generalize upd (upd H e0 (.tup [])) fo (.lst [.ref e0])=H1 at *;refine⟨_,rfl,l,_,rfl,s1.seq hL,fun _=> ?_⟩;refine for_list (K:=K) (a:=l) (xs:=xs.map V.int) (fun i σ H'=>Same H H'/\∃fo o3 o4,uX K H' fo (iV ts (xs.take i))/\σ=[some (.ref a),some (.ref l),some (.ref fo),o3,o4]) ⟨s1,fo,_,_,f0,rfl⟩ (fun i σ H' _ p=>p.1.seq hL) (fun i x σ H' hx p=> ?_) (fun σ H' p=> ?_)
 ·obtain⟨sm,fo,o3,o4,⟨its,i1,i2,i3⟩,rfl⟩:=p;rw[dJ]at hx;cases ex:xs[i]? with
  |none=>rw[ex]at hx;cases hx
  |some p=>
   rw[ex]at hx;cases hx;have tl:(xs.take i).length<=10:=by rw[rK];omega
   have il:its.length<=1024:=by
    have e1:its.length=(iV ts (xs.take i)).length:=by rw[<-i3,aJ]
    have:=Fi ts tl;omega
   refine⟨_,rfl,fo,_,rfl,SqL.of i1,fun hz=> ?_⟩;refine wU (xs:=its.map fun q=>V.ref q.1) (fun k acc σ H2=>Same H' H2/\acc.length<=k/\(∃jt:List (Addr×List Int),acc=jt.map (fun q=>V.ref q.1)/\(∀q∈jt,SqT K H2 q.1 (q.2.map V.int))/\jt.map (fun q=>q.2)=(((its.take k).map fun q=>q.2).filter fun s=> !s.any fun o=>bU ts o p).map fun s=>s++[p])/\∃o,σ=[o,some (.ref a),some (.int p)])
    ⟨Same.refl _,aX _,⟨[],rfl,fun q hq=>(nomatch hq),rfl⟩,_,rfl⟩ (fun k acc σ H2 _ p=>p.1.seq (SqL.of i1)) (fun k acc σ H2 _ p=>p.2.1) hz (fun k x acc σ H2 hx pp=> ?_) (fun acc σ H2 pp=> ?_)
   ·obtain⟨s2,hk,⟨jt,rfl,j2,j3⟩,o,rfl⟩:=pp;rw[dJ]at hx;cases ek:its[k]? with
    |none=>rw[ek]at hx;cases hx
    |some v=>
     rw[ek]at hx;cases hx;have hv:=i2 v (sO ek);have vl:v.2.length<=10:=JH tl (by rw[<-i3];exact jY.mpr ⟨v,sO ek,rfl⟩);have et:((its.take (k+1)).map fun q=>q.2)=((its.take k).map fun q=>q.2)++[v.2]:=by rw[sI,ek,bL];rfl
     refine⟨_,rfl,v.1,_,rfl,s2.tup hv,fun hz2=> ?_⟩;refine BZ (xs:=v.2.map V.int) (fun m acc σ H3=>acc=((v.2.take m).map fun o=>bU ts o p).map V.bl/\Same H2 H3/\∃o,σ=[o,some (.ref a),some (.int p)]) ⟨rfl,Same.refl _,_,rfl⟩ (fun m acc σ H3 _ p=>p.2.1.tup (s2.tup hv)) (fun m acc σ H3 hm p=> ?_) hz2 (fun m x acc σ H3 hx p3=> ?_) (fun acc σ H3 p3=> ?_)
     ·rw[p.1,aJ,aJ,rK];exact Cm _ _
     ·obtain⟨rfl,s3,o,rfl⟩:=p3;rw[dJ]at hx;cases em:v.2[m]? with
      |none=>rw[em]at hx;cases hx
      |some y=>
       rw[em]at hx;cases hx;refine⟨_,rfl,_,rfl,_,rfl,a,n,y,p,ts,rfl,(hA.same (sm.trans (s2.trans s3))).web,fun H4 s4=>⟨?_,s3.trans s4,_,rfl⟩⟩;rw[sI,em,bL,bL];rfl
     ·intro p1 hp1;obtain⟨rfl,s3,_⟩:=p3;rw[aJ,qm];refine⟨p1,v.2.map (fun o=>bU ts o p),rfl,SqL.of aB,_,rfl,?_⟩;have s4:=s3.trans (aM hp1 (.lst ((v.2.map fun o=>bU ts o p).map V.bl)));generalize upd H3 p1 (.lst ((v.2.map fun o=>bU ts o p).map V.bl))=H4 at *;have eb:(v.2.map fun o=>bU ts o p).any id=v.2.any fun o=>bU ts o p:=by rw[List.any_map];rfl
      rw[eb,et,Cq,bL];cases hb:v.2.any fun o=>bU ts o p with
      |true=>
       refine iteF ⟨s2.trans s4,by omega,⟨jt,rfl,fun q hq=>s4.tup (j2 q hq),?_⟩,_,rfl⟩;rw[j3,ydu (by rw[hb];decide)];simp
      |false=>
       refine iteT ?_;refine⟨_,rfl,_,rfl,(by show 1<=sizeLine;decide),fun t ht=>⟨v.1,t,_,_,rfl,rfl,(aM ht _).tup ((s2.trans s4).tup hv),SqT.of aB,by rw[aJ,gR];show v.2.length+1<=_;omega,fun r H6 s6 hr6=> ?_⟩⟩;have s7:=s4.trans ((aM ht (.tup [.int p])).trans s6);refine⟨s2.trans s7,by rw[ql];show _+1<=k+1;omega,⟨jt++[(r,v.2++[p])],by rw[bL];rfl,fun q hq=> ?_,?_⟩,_,rfl⟩
       ·rcases nA.mp hq with z|z
        ·exact s7.tup (j2 q z)
        ·rw[gY.mp z,bL];exact hr6
       ·rw[bL,j3,ydt (by rw[hb];decide)];rfl
   ·intro p1 hp1;obtain⟨s2,hk,⟨jt,rfl,j2,j3⟩,o,rfl⟩:=pp;have s3:=aM hp1 (.lst (jt.map fun q=>V.ref q.1));have i1':=(s2.trans s3) _ _ i1;have jl:jt.length<=1024:=by rw[aJ]at hk;rw[aJ]at hk;omega
    refine⟨_,rfl,_,rfl,fo,p1,_,_,rfl,rfl,i1',aB,by rw[aJ,aJ,gR];omega,fun r hr'=> ?_⟩;have s4:=(s2.trans s3).trans (aM hr' (.lst ((its.map fun q=>V.ref q.1)++jt.map fun q=>V.ref q.1)));refine⟨sm.trans s4,r,_,_,⟨its++jt,by rw[aB,bL],fun q hq=> ?_,?_⟩,rfl⟩
    ·rcases nA.mp hq with z|z
     ·exact s4.tup (i2 q z)
     ·exact(s3.trans (aM hr' _)).tup (j2 q z)
    ·rw[aJ,qm]at j3;rw[sI,ex,bL,j3,i3];exact(qQ ts (xs.take i) p).symm
 ·obtain⟨sm,fo,o3,o4,hS,rfl⟩:=p;rw[aJ,qm]at hS;exact⟨_,rfl,q fo H' sm hS⟩
end
end Hs
namespace L2
open PySem PySem.Spec PyProof.Rows
theorem Bm{i:Int}(h:i.natAbs<=10^200):Builtin.Int.intBits i<=2^20:=by
 refine cT (intBits_le_iff.mpr (Ow h)) (by decide+kernel)
section
variable{X:Cx}
theorem xT:OpR X (binaryOp .Mult) (rI (fun i j=>i.natAbs<=10^200/\j.natAbs<=10^200) fun i j=> .int (i*j)):=
 opI fun i j _ _ _ _ _ hc q=>mul_int q (IntMulOk.of_bits (Bm hc.1) (Bm hc.2))
end
end L2
namespace Hs
open PySem L2 oJ
section
variable{P:ξ}{w:τ}{K:W.Frag}{mg:L5}{base:Heap}
theorem WY{a:Nat}(h:a<=10^100):(a:Int).natAbs<=10^200:=cT (show a<=10^100 from h) (by decide+kernel)
noncomputable def sV(K:W.Frag):Sp:=fun vs H Q _=>∃(a b:Nat),vs=[.int (a:Int),.int (b:Int)]/\0<b/\b<=10^200/\∀p H' u v,Same H H'->SqT K H' p [.int u,.int ((v:Nat):Int)]->Low (a:Int) b u v->Q (.ref p) H'
theorem zT:FnScope ["top","bottom","one","other"] ["top","bottom"] (defScope Xc):=fsc
theorem Mv{f:Addr}{fd:ρ}(F:Fun K "_law_e_part" "_law_e_part" Xc f fd):
  FnOk P w K mg base CX0 1 f fd ["top","bottom"] (sV K):=by
 refine F.bZ ["top","bottom","one","other"] fun cdv A outer s H vs Q E hr h=> ?_;obtain⟨a,b,rfl,hb,hB,q⟩:=h;refine aW ?_;intro Y;refine⟨_,(aL (ps_par (i:=2) (j:=3) rfl zT.nd rfl rfl (by decide) rfl rfl (aj (pv 0) (aj (pv 1) ak)) rfl) (aL (ps_while wZ (cR op_ne (pv 3) ao) (aR (ps_par (i:=2) (j:=3) rfl zT.nd rfl rfl (by decide) rfl rfl (aj (pv 3) (aj (bA op_mod (pv 2) (pv 3)) ak)) rfl))) (aR (bB (dW (aj (bA pH (pv 0) (pv 2)) (aj (bA pH (pv 1) (pv 2)) ak))))))),?_⟩;refine gC ?_;intro c3 c2;refine⟨_,rfl,_,rfl,_,_,rfl,?_⟩;refine⟨fun k σ H'=>H'=H/\∃(m':Nat),σ=[some (.int (a:Int)),some (.int (b:Int)),some (.int (m':Int)),some (.int (k:Int))]/\Nat.gcd m' k=Nat.gcd a b,⟨b,rfl,a,rfl,rfl⟩,?_⟩;rintro k σ H' ⟨rfl,m',rfl,hg⟩;refine⟨_,rfl,rfl,_,rfl,?_⟩;refine ite2 (fun c=> ?_) (fun c=> ?_)
 ·have hk:0<k:=by
   rcases Uj k with h|h
   ·subst h;exact absurd c (by decide)
   ·exact h
  refine⟨fun σ' H2=>H2=H'/\σ'=[some (.int (a:Int)),some (.int (b:Int)),some (.int (k:Int)),some (.int ((m' %k:Nat):Int))],fun σ' H2 ⟨e1,e2⟩=>⟨m' %k,Nat.mod_lt _ hk,e1,k,e2,?_⟩,?_⟩
  ·rw[Av];exact hg
  ·exact⟨_,rfl,_,rfl,_,rfl,_,_,rfl,rfl,Uc.mpr hk,_,_,rfl,rfl,rfl⟩
 ·have hk:k=0:=by
   rcases Uj k with h|h
   ·exact h
   ·exfalso;apply c;show(!decide (V.int (k:Int)=V.int 0))=true;rw[fO (fun e=>by injection e with e;omega)];rfl
  subst hk;rw[Nat.gcd_zero_right]at hg;have hg1:0<Nat.gcd a b:=wbo _ hb;have hg2:(((Nat.gcd a b:Nat):Int)).natAbs<=10^200:=cT (Nx (a:Int) b hb) hB;rw[hg];refine⟨_,rfl,_,rfl,_,_,rfl,rfl,⟨Uc.mpr hg1,hg2⟩,_,rfl,_,rfl,_,_,rfl,rfl,⟨Uc.mpr hg1,hg2⟩,(by show 2<=sizeLine;decide),fun p hp=> ?_⟩;exact q p _ _ _ (aM hp _) (SqT.of (Hq (a:=(a:Int)) hp)) (yj (a:Int) b hb)
noncomputable def Gp(K:W.Frag):Sp:=fun vs H Q _=>∃(x y:Addr) (a b c d:Nat),vs=[.ref x,.ref y]/\SqT K H x [.int (a:Int),.int (b:Int)]/\SqT K H y [.int (c:Int),.int (d:Int)]/\0<b/\0<d/\a<=10^100/\b<=10^100/\c<=10^90/\d<=10^90/\
 ∀p H' u v,Same H H'->SqT K H' p [.int u,.int ((v:Nat):Int)]->Low ((a*d+c*b:Nat):Int) (b*d) u v->Q (.ref p) H'
theorem WX{a:Nat}(h:a<=10^90):(a:Int).natAbs<=10^200:=cT (show a<=10^90 from h) (by decide+kernel)
theorem Mw{f f1:Addr}{fd d1:ρ}(F:Fun K "_law_e_more" "_law_e_more" jG f fd)(D1:bC K mg "_law_e_part" Xc ["top","bottom"] f1 d1)(G1:FnOk P w K mg base CX0 1 f1 d1 ["top","bottom"] (sV K)):
  FnOk P w K mg base CX0 2 f fd ["one","other"] (Gp K):=by
 refine F.bZ ["one","other"] fun cdv A outer s H vs Q E hr h=> ?_;obtain⟨x,y,a,b,c,d,rfl,hx,hy,hb,hd,la,lb,lc,ld,q⟩:=h;refine⟨_,(aR (bB (pc G1 hr D1 (aj (bA nu (bA xT (aQ bD (pv 0) ao) (aQ bD (pv 1) ao)) (bA xT (aQ bD (pv 1) ao) (aQ bD (pv 0) ao))) (aj (bA xT (aQ bD (pv 0) ao) (aQ bD (pv 1) ao)) ak))))),?_⟩;refine⟨_,rfl,x,_,_,.int (a:Int),rfl,rfl,hx,rfl,_,rfl,y,_,_,.int (d:Int),rfl,rfl,hy,rfl,_,_,rfl,rfl,⟨WY la,WX ld⟩,?_⟩;refine⟨_,rfl,y,_,_,.int (c:Int),rfl,rfl,hy,rfl,_,rfl,x,_,_,.int (b:Int),rfl,rfl,hx,rfl,_,_,rfl,rfl,⟨WX lc,WY lb⟩,_,_,rfl,rfl,?_⟩;refine⟨_,rfl,x,_,_,.int (b:Int),rfl,rfl,hx,rfl,_,rfl,y,_,_,.int (d:Int),rfl,rfl,hy,rfl,_,_,rfl,rfl,⟨WY lb,WX ld⟩,?_⟩;refine⟨a*d+c*b,b*d,?_,Yn hb hd,cT (Nat.mul_le_mul lb ld) (by decide+kernel),fun p H' u v s1 h1 L=>q p H' u v s1 h1 L⟩;simp only[Int.natCast_add,Ug];rfl
end
end Hs
namespace L2
open PySem PySem.Spec PyProof.Rows
theorem wG:∀{ns:List Int} {vs:List ζ},Vals (ns.map V.int) vs->IntsAre vs ns
 |[],_,r=>by cases r;exact .nil
 |n::ns,_,r=>by
  cases r with
  |cons h t=>
   obtain⟨t0,rfl⟩:=h;exact .cons _ _ (wG t)
theorem JB{X:Cx}(hc:X.calm=true):CallR X (.builtin "sum") (fun xs H Q=>∃(a:Addr) (ns:List Int),xs=[.ref a]/\SqL X.K H a (ns.map V.int)/\Q (.int ns.sum) H):=by
 intro pins s σ H xs us Q I r h;obtain⟨a,ns,rfl,hS,q⟩:=h;obtain⟨u,rfl,ru⟩:=r.one;cases ru;obtain⟨vs,rv,pl,hz⟩:=I.list hS;have hl:=pl.isList;have hi:=wG rv;obtain⟨xs,e⟩:=hi.allInts.items;have hn:=hi.numsOf;rw[e]at hl;refine sum_intListG (I.ok.hd hc) hl fun h' tk t' hk=> ?_;refine⟨.int _,H,I.kept hk,⟨t',rfl⟩,?_⟩;have e2:preSum (numAt xs) xs.size=ns.sum:=by
  rw[preSum_eq,Xk (by simp),<-nums_intItems,<-e];rw[show vs.toArray.toList=vs from rfl,hn]
 rw[e2];exact q
end L2
namespace Hs
open PySem L2 oJ
section
variable{P:ξ}{w:τ}{K:W.Frag}{mg:L5}{base:Heap}
theorem Jp{u u':Int}{v v':Nat}(hv:0<v)(c1:Nat.gcd u.natAbs v=1)(c2:Nat.gcd u'.natAbs v'=1)(cr:u*(v':Int)=u'*(v:Int)):u=u'/\v=v':=by
 have cn:u.natAbs*v'=u'.natAbs*v:=by
  have:=lq Int.natAbs cr
  rwa [Yc,Yc,Xi,Xi]at this
 have d1:v∣v':=(wck c1).dvd_of_dvd_mul_left (by rw[cn];exact wcj _ _);have d2:v'∣v:=(wck c2).dvd_of_dvd_mul_left (by rw[<-cn];exact wcj _ _);have ev:=Nat.dvd_antisymm d1 d2;subst ev;exact⟨ydi (a:=(v:Int)) (by omega) cr,rfl⟩
theorem DR:oE "tuple" "tuple"=true:=by decide+kernel
theorem Nh:oE "list" "list"=true:=by decide+kernel
theorem Nj:oE "int" "int"=true:=by decide+kernel
theorem Nk:oE "int" "bool"=false:=by decide+kernel
theorem Low.cross{a a':Int}{b b':Nat}{u:Int}{v:Nat}(l:Low a b u v)(h:0<b)(h':0<b')(e:a*(b':Int)=a'*(b:Int)):Low a' b' u v:=by
 have l2:=yj a' b' h';obtain⟨e1,e2⟩:=Jp l.pos l.cop l2.cop (by
  refine ydi (a:=(b:Int)*(b':Int)) (Int.ne_of_gt (Xo (by omega) (by omega))) ?_;have p1:=l.eq;have p2:=l2.eq;have q1:u*((b'/Nat.gcd a'.natAbs b':Nat):Int)*((b:Int)*(b':Int))=(u*(b:Int))*(((b'/Nat.gcd a'.natAbs b':Nat):Int)*(b':Int)):=by grind
  have q2:a'/((Nat.gcd a'.natAbs b':Nat):Int)*(v:Int)*((b:Int)*(b':Int))=(a'/((Nat.gcd a'.natAbs b':Nat):Int)*(b':Int))*((v:Int)*(b:Int)):=by grind
  rw[q1,q2,p1,p2];have q3:a*(v:Int)*(((b'/Nat.gcd a'.natAbs b':Nat):Int)*(b':Int))=(a*(b':Int))*((v:Int)*((b'/Nat.gcd a'.natAbs b':Nat):Int)):=by grind
  rw[q3,e];grind)
 rw[e1,e2];exact l2
theorem M6{S:Int}{D:Nat}{u:Int}{v:Nat}{c:Int}{d:Nat}(l:Low S D u v)(hD:0<D)(h0:0<d)(hd:d∣D){x:Int}{y:Nat}(l2:Low (u*(d:Int)+c*(v:Int)) (v*d) x y):Low (S+c*((D/d:Nat):Int)) D x y:=by
 obtain⟨k,rfl⟩:=hd;rw[Pr _ h0];refine l2.cross (Yn l.pos h0) hD ?_;have e:=l.eq
 push_cast at e⊢
 have q1:(u*(d:Int)+c*(v:Int))*((d:Int)*(k:Int))=(u*((d:Int)*(k:Int)))*(d:Int)+c*(k:Int)*((v:Int)*(d:Int)):=by grind
 rw[q1,e];grind
noncomputable def xH(K:W.Frag):Sp:=fun vs H Q _=>∃(p:Addr) (f:Int×Nat),vs=[.ref p]/\p8 K H p f/\Lw f/\0<=f.1/\∀H',Same H H'->Q (.bl true) H'
theorem Q7{f f1:Addr}{fd d1:ρ}(F:Fun K "_law_e_lowest" "_law_e_lowest" X4 f fd)(D1:bC K mg "_law_e_part" Xc ["top","bottom"] f1 d1)(G1:FnOk P w K mg base CX0 1 f1 d1 ["top","bottom"] (sV K))(M5:mg "any"=none)(au:mg "isinstance"=none)(uG:mg "bool"=none)(bN:mg "len"=none)(aH:mg "tuple"=none)(wF:mg "int"=none):
  FnOk P w K mg base CX0 2 f fd ["part"] (xH K):=by
 refine F.bZ ["part"] fun cdv A outer s H vs Q E hr h=> ?_;obtain⟨p,f,rfl,hF,hL,h0,qq⟩:=h;refine aW ?_;intro Y;refine⟨_,(aL (dZ (PW.pt (qg (kY (iY (pB wR au (aj (pv 0) (aj (pN "tuple" aH) ak))))) (qg (cR op_ne (pB vm bN (aj (pv 0) ak)) ao) (yV (iY (pB (Bl rfl) M5 (aj (pK ["number"] [] [] (BW (pv 0)) (pG 0) nP (pB (JF K) au (aj (pv 0) (aj (pN "bool" uG) ak)))) ak))))))) (aR (bB qZ)) eG) (aL (dZ (PW.pt (qg (kY (iY (pB wR au (aj (aQ bD (pv 0) ao) (aj (pN "int" wF) ak))))) (qg (kY (iY (pB wR au (aj (aQ bD (pv 0) ao) (aj (pN "int" wF) ak))))) (qg (cR op_lt (aQ bD (pv 0) ao) ao) (yV (cR op_lt (aQ bD (pv 0) ao) ao)))))) (aR (bB qZ)) eG) (aR (bB (wQ (xU hr.units) (pc G1 hr D1 (aj (aQ bD (pv 0) ao) (aj (aQ bD (pv 0) ao) ak))) (pv 0)))))),?_⟩;refine gC ?_;intro c3 c2;obtain⟨f1,d⟩:=f;obtain⟨m,rfl⟩:=SJ h0;have hT:SqT K H p [.int ((m:Nat):Int),.int ((d:Nat):Int)]:=hF;have d0:0<d:=hL.1;refine⟨_,rfl,.ref p,"tuple","tuple",rfl,.inl ⟨rfl,_,hT⟩,.inr (.inr (.inl rfl)),_,rfl,?_⟩;rw[DR];refine iteF ?_;refine⟨_,rfl,p,_,rfl,.inr hT,fun _=>⟨rfl,_,rfl,?_⟩⟩;have e1:(!decide (V.int ((([V.int ((m:Nat):Int),V.int ((d:Nat):Int)].length:Nat)):Int)=V.int 2))=false:=by simp
 rw[e1];refine iteF ?_;refine⟨_,rfl,p,_,rfl,hT,fun hz=> ?_⟩;let gF:Nat->List V->St->Hp->Prop:=fun i acc σ H'=>acc=(List.replicate i false).map V.bl/\H'=H/\∃o,σ=[o];refine BZ (xs:=[V.int ((m:Nat):Int),V.int ((d:Nat):Int)]) gF ⟨rfl,rfl,_,rfl⟩ (fun i acc σ H' _ p=>by rw[p.2.1];exact hT) (fun i acc σ H' _ p=>by rw[p.1,aJ,Uo];exact aX _) hz (fun i x acc σ H' hx p=> ?_) (fun acc σ H' p=> ?_)
 ·obtain⟨rfl,rfl,o,rfl⟩:=p;obtain⟨y,rfl⟩:∃y:Int,x= .int y:=by
   rcases i with _|_|i
   ·exact⟨_,(sU hx).symm⟩
   ·exact⟨_,(sU hx).symm⟩
   ·simp at hx
  refine⟨_,rfl,.int y,"int","bool",rfl,rfl,.inr (.inl rfl),?_⟩;rw[Nk];exact⟨by rw[wcn,bL];rfl,rfl,_,rfl⟩
 intro p1 hp1;obtain⟨rfl,rfl,_⟩:=p;have n1:=aM hp1 (.lst ((List.replicate 2 false).map V.bl));refine⟨p1,List.replicate 2 false,rfl,SqL.of aB,_,rfl,?_⟩;rw[show(List.replicate 2 false).any id=false from rfl];refine iteF ?_;have hT2:=n1.tup hT;refine⟨_,rfl,p,_,_,.int ((m:Nat):Int),rfl,rfl,hT2,rfl,.int ((m:Nat):Int),"int","int",rfl,rfl,.inl rfl,_,rfl,?_⟩;rw[Nj];refine iteF ?_;refine⟨_,rfl,p,_,_,.int ((d:Nat):Int),rfl,rfl,hT2,rfl,.int ((d:Nat):Int),"int","int",rfl,rfl,.inl rfl,_,rfl,?_⟩;rw[Nj];refine iteF ?_;refine⟨_,rfl,p,_,_,.int ((m:Nat):Int),rfl,rfl,hT2,rfl,_,_,rfl,rfl,_,rfl,?_⟩;rw[fO (by omega)];refine iteF ?_;refine⟨_,rfl,p,_,_,.int ((d:Nat):Int),rfl,rfl,hT2,rfl,_,_,rfl,rfl,_,rfl,?_⟩;rw[fO (by omega)];refine iteF ?_;refine⟨_,rfl,p,_,_,.int ((m:Nat):Int),rfl,rfl,hT2,rfl,_,rfl,p,_,_,.int ((d:Nat):Int),rfl,rfl,hT2,rfl,m,d,rfl,d0,cT hL.2.1 (by decide+kernel),fun q H' u v s hq l=> ?_⟩;obtain⟨e2,e3⟩:=Prod.mk.inj (hL.one l);have hq':p8 K H' q ((m:Int),d):=by rw[<-e2,<-e3];exact hq
 refine⟨_,rfl,zj ((m:Int),d),zj ((m:Int),d),p8.dv hq',p8.dv (s.tup hT2),iy _,iy _,tE _ _,?_⟩;rw[frD_eq];exact qq H' (n1.trans s)
theorem qL{D:Nat}:∀{fs:List (Int×Nat)},(∀f∈fs,0<=f.1)->0<=dI D fs
 |[],_=>tH _
 |f::fs,h=>Int.add_nonneg (FW (h f iW) (Yh _)) (qL fun g hg=>h g (iG _ hg))
theorem Oa{D:Nat}{fs:List (Int×Nat)}(h:∀f∈fs,0<=f.1)(i:Nat):dI D (fs.take i)<=dI D fs:=by
 have e:dI D (fs.take i++fs.drop i)=dI D fs:=by rw[wev]
 rw[jO]at e;have:=qL (D:=D) (fs:=fs.drop i) fun f hf=>h f (List.mem_of_mem_drop hf);omega
theorem WK{D:Nat}{fs:List (Int×Nat)}(hD:Ce D fs){f:Int×Nat}(hf:f∈fs):f.1<=dI D fs:=by
 obtain⟨h0,hp,hd⟩:=hD.all f hf;obtain⟨i,hi,rfl⟩:=Iu hf;have e:dI D (fs.take i++fs.drop i)=dI D fs:=by rw[wev]
 rw[jO,List.drop_eq_getElem_cons hi]at e;have a:=qL (D:=D) (fs:=fs.take i) fun f hf=>(hD.all f (List.mem_of_mem_take hf)).1;have b:=qL (D:=D) (fs:=fs.drop (i+1)) fun f hf=>(hD.all f (List.mem_of_mem_drop hf)).1;have c:fs[i].1<=fs[i].1*((D/fs[i].2:Nat):Int):=by
  have k:1<=D/fs[i].2:=Nat.div_pos (PN hD.pos hd) hp;have:=SM (show(1:Int)<=((D/fs[i].2:Nat):Int) by omega) h0;omega
 have e2:dI D (fs[i]::fs.drop (i+1))=fs[i].1*((D/fs[i].2:Nat):Int)+dI D (fs.drop (i+1)):=rfl;omega
noncomputable def xr(K:W.Frag):Sp:=fun vs H Q _=>∃(la:Addr) (rs:List V) (fs:List (Int×Nat)) (D:Nat),vs=[.ref la]/\SqL K H la rs/\dB K H rs fs/\Ce D fs/\dI D fs<=1000000000000000000000000000000/\
 ∀r H' u v,Same H H'->p8 K H' r (u,v)->Low (dI D fs) D u v->Q (.ref r) H'
theorem Q6{f f1:Addr}{fd d1:ρ}(F:Fun K "_law_e_sum" "_law_e_sum" eO f fd)(D1:bC K mg "_law_e_more" jG ["one","other"] f1 d1)(G1:FnOk P w K mg base CX0 2 f1 d1 ["one","other"] (Gp K)):
  FnOk P w K mg base CX0 3 f fd ["parts"] (xr K):=by
 refine F.bZ ["parts","found","part"] fun cdv A outer s H vs Q E hr h=> ?_;obtain⟨la,rs,fs,D,rfl,hS,hF,hD,hb,qq⟩:=h;refine aW ?_;intro Y;refine⟨_,(aL (pS 1 (dW (aj ao (aj ao ak)))) (aL (ps_for wZ rfl (sG (pv 0)) (pG 2) (aR (pS 1 (pc G1 hr D1 (aj (pv 1) (aj (pv 2) ak)))))) (aR (bB (pv 1))))),?_⟩;refine gC ?_;intro c3 c2;have hn:∀f∈fs,0<=f.1:=fun f hf=>(hD.all f hf).1;have hlen:=Paired.eX hF;refine⟨(by show 2<=sizeLine;decide),fun p0 hp0=> ?_⟩;have s0:=aM hp0 (.tup [.int 0,.int 1]);have e0:SqT K (upd H p0 (.tup [.int 0,.int 1])) p0 [.int 0,.int 1]:=SqT.of aB;generalize (upd H p0 (.tup [.int 0,.int 1]))=H0 at *;refine⟨_,rfl,la,_,rfl,s0.seq hS,fun hz=> ?_⟩;let p7:Nat->St->Hp->Prop:=fun i σ H'=>Same H H'/\∃(r:Addr) (u v:Nat) (o2:Option V),σ=[some (.ref la),some (.ref r),o2]/\SqT K H' r [.int (u:Int),.int ((v:Nat):Int)]/\Low (dI D (fs.take i)) D u v;refine for_list (K:=K) (a:=la) (xs:=rs) p7 ⟨s0,p0,0,1,_,rfl,e0,Nat.one_pos,rfl,by rw[show((0:Nat):Int)=0 from rfl,JR];exact(JR _).symm,dX _,hD.pos,fun _=>tH _⟩ (fun i σ H' _ p=>p.1.seq hS) (fun i x σ H' hx p=> ?_) (fun σ H' p=> ?_)
 ·obtain⟨sm,r,u,v,o2,rfl,hr,l⟩:=p;obtain⟨f,ef,hR⟩:=Paired.at_ hF hx;obtain⟨fa,rfl,hfa⟩:=hR;obtain⟨c,d⟩:=f;have hm:=sO ef;obtain⟨c0,d0,dd⟩:=hD.all _ hm;have c1:=WK hD hm;obtain⟨c,rfl⟩:=SJ c0;have t1:=Oa hn i (D:=D);have t0:=qL (D:=D) (fs:=fs.take i) fun f hf=>hn f (List.mem_of_mem_take hf);have lu:=l.lu;have lv:=l.lv;have dl:=PN hD.pos dd;have hDl:=hD.le;dsimp only at c1 d0 dd dl;have b1:u<=1000000000000000000000000000000:=by omega
  have b2:c<=1000000000000000000000000000000:=by omega
  have b3:v<=1000000000000000000:=by omega
  have b4:d<=1000000000000000000:=by omega
  refine⟨_,rfl,_,rfl,r,fa,u,v,c,d,rfl,hr,sm.tup hfa,l.pos,d0,cT b1 (by decide+kernel),cT b3 (by decide+kernel),cT b2 (by decide+kernel),cT b4 (by decide+kernel),fun q H2 x y s2 hq l2=> ?_⟩;have x0:0<=x:=l2.nn (Yh _);obtain⟨x,rfl⟩:=SJ x0;refine⟨sm.trans s2,q,x,y,_,rfl,hq,?_⟩;rw[sI,ef,jO];show Low (_+dI D [((c:Int),d)]) D _ _;rw[tD]
  push_cast at l2
  exact M6 l hD.pos d0 dd l2
 ·obtain⟨sm,r,u,v,o2,rfl,hr,l⟩:=p;rw[hlen,qm]at l;exact⟨_,rfl,qq r H' u v sm hr l⟩
theorem JK(xs:List Int)(y:Int):((xs.map PyData.int).any fun d=>PyData.eqv d (.int y))=decide (y∈xs):=by
 rw[v9,List.any_eq_true,was];constructor
 ·rintro⟨d,hd,e⟩;obtain⟨x,hx,rfl⟩:=jY.mp hd;have:x=y:=by simpa[PyData.eqv]using e
  rw[<-this];exact hx
 ·intro h;exact⟨.int y,List.mem_map_of_mem h,by simp[PyData.eqv]⟩
theorem qM(xs ys:List Int):PyData.eqv (.tuple (xs.map PyData.int)) (.tuple (ys.map PyData.int))=decide (xs=ys):=by
 have:∀(xs ys:List Int),PyData.eqvAll (xs.map PyData.int) (ys.map PyData.int)=decide (xs=ys):=by
  intro xs
  induction xs with
  |nil=>intro ys;cases ys<;>simp[PyData.eqvAll]
  |cons x xs ih=>intro ys;cases ys with
   |nil=>simp[PyData.eqvAll]
   |cons y ys=>
    have e:(x==y)=decide (x=y):=by rw[v9];simp
    simp[PyData.eqvAll,PyData.eqv,ih,e]
 simp[PyData.eqv,this]
theorem uP(l:List Int):PyData.depthAll (l.map PyData.int)<=0:=by
 induction l with
 |nil=>exact aX _
 |cons x l ih=>show max 0 (PyData.depthAll (l.map PyData.int))<=0;omega
noncomputable def tI(s:List Int):θ:= .tuple (s.map PyData.int)
theorem UJ(s:List Int):(tI s).depth<=60:=by
 have:=uP s;show PyData.depthAll (s.map PyData.int)+1<=60;omega
theorem zR{H:Hp}:∀(its:List (Addr×List Int)),(∀p∈its,SqT K H p.1 (p.2.map V.int))->cN K H (its.map fun p=>V.ref p.1) ((its.map (·.2)).map tI)
 |[],_=> .nil
 |p::its,h=> .cons (.tup (h p iW) (cN.ints _)) (zR its fun q hq=>h q (iG _ hq))
theorem Br(s:List Int):∀ss:List (List Int),((ss.map tI).any fun d=>PyData.eqv d (tI s))=decide (s∈ss)
 |[]=>rfl
 |t::ss=>by
  rw[yX,Xg,Br s ss,show PyData.eqv (tI t) (tI s)=decide (t=s)from qM t s,v9,weq,was,was,was,cY];exact or_congr_left ⟨Eq.symm,Eq.symm⟩
theorem zQ:∀ss:List (List Int),PyData.canLayAll0 (ss.map tI)=true
 |[]=>rfl
 |t::ss=>by
  show((tI t).canLay0&&PyData.canLayAll0 (ss.map tI))=true;rw[zQ ss];show(PyData.canLayAll0 (t.map PyData.int)&&true)=true;rw[Ik];rfl
theorem UG(s:List Int):(tI s).canLay0=true:=Ik s
theorem Al:∀a b:List Int,HT.jg a b= !HT.lexLt a b
 |[],[]=>rfl
 |[],_::_=>rfl
 |_::_,[]=>rfl
 |x::xs,y::ys=>by
  show(if x=y then HT.jg xs ys else decide (y<=x))= !(if x=y then HT.lexLt xs ys else decide (x<y));by_cases c:x=y
  ·rw[aF c,aF c];exact Al xs ys
  ·rw[aA c,aA c,v9,Qe,was,Xu];omega
noncomputable def lW(ss:List (List Int))(l:List (List Int))(i:Nat):Bool:=decide (l.getD i []∈ss)&&(decide (i=0)||HT.lexLt (l.getD (i-1) []) (l.getD i []))
noncomputable def jk(n:Int)(ts:L0)(l:List (List Int)):Bool:=(List.range l.length).all (lW (iV ts (vp n.toNat)) l)
noncomputable def CW(K:W.Frag):Sp:=fun vs H Q _=>∃(a la:Addr) (n:Int) (ts:L0) (rs:List V) (l:List (List Int×(Int×Nat))),vs=[.ref a,.ref la]/\aO K H a n ts/\SqL K H la rs/\cP K H rs l/\(∀q∈l,Lw q.2/\0<q.2.1)/\∀H',Same H H'->Q (.bl (jk n ts (l.map (·.1)))) H'
theorem Q8{f f1 f2:Addr}{fd d1 d2:ρ}(F:Fun K "_law_e_is_laying" "_law_e_is_laying" zca f fd)(D1:bC K mg "_law_e_apart_sets" zbr ["web","left"] f1 d1)(G1:FnOk P w K mg base CX0 2 f1 d1 ["web","left"] (xG K))(D2:bC K mg "_law_e_lowest" X4 ["part"] f2 d2)(G2:FnOk P w K mg base CX0 2 f2 d2 ["part"] (xH K))(au:mg "isinstance"=none)(cH:mg "list"=none)(aK:mg "range"=none)(bO:mg "enumerate"=none)(bN:mg "len"=none)(aH:mg "tuple"=none):
  FnOk P w K mg base CX0 3 f fd ["web","laying"] (CW K):=by
 refine F.bZ ["web","laying","sets","at","row"] fun cdv A outer s H vs Q E hr h=> ?_;obtain⟨a,la,n,ts,rs,l,rfl,hW,hS,hL,hq,qq⟩:=h;refine aW ?_;intro Y;refine⟨_,(aL (dZ (kY (iY (pB wR au (aj (pv 1) (aj (pN "list" cH) ak))))) (aR (bB qZ)) eG) (aL (pS 2 (pc G1 hr D1 (aj (pv 0) (aj (g8 rfl rfl cH rfl aK (aj (aQ bD (pv 0) ao) ak)) ak)))) (aL (ps_for wZ rfl (pF rfl bO (aj (pv 1) ak)) (pg_tup rfl (mH (pG 3) (mH (pG 4) zq))) (aL (dZ (PW.pt (qg (kY (iY (pB wR au (aj (pv 4) (aj (pN "tuple" aH) ak))))) (qg (cR op_ne (pB vm bN (aj (pv 4) ak)) ao) (qg (cR (qz hr.units) (aQ bD (pv 4) ao) (pv 2) (by with_unfolding_all rfl)) (yV (kY (iY (pc G2 hr D2 (aj (aQ bD (pv 4) ao) ak))))))))) (aR (bB qZ)) eG) (aR (dZ (PW.pt (qg (cR op_eq (aQ bD (aQ bD (pv 4) ao) ao) ao) (yV (PW.pt (pw_and (cR op_gt (pv 3) ao) (pw_and1 (cR (Vd (Ir (weh _ 64) hr.units)) (aQ bD (aQ kJ (pv 1) (bA op_sub (pv 3) ao)) ao) (aQ bD (pv 4) ao)))))))) (aR (bB qZ)) eG)))) (aR (bB qZ))))),?_⟩;refine wH ?_;intro c4 c3 c2;have h0:=hW.h0;have h10:=hW.h1;obtain⟨tt,rr,w1,w2,w3⟩:=id hW.web;have hlen:=Paired.eX hL;have gl:∀i,(hi:i<l.length)->(l.map (·.1)).getD i []=l[i].1:=fun i hi=>by rw[lg,dJ,dF hi];rfl
 refine⟨_,rfl,.ref la,"list","list",rfl,.inr (.inl ⟨rfl,_,hS⟩),.inr (.inr (.inr rfl)),_,rfl,?_⟩;rw[Nh];refine iteF ?_;refine⟨_,rfl,_,rfl,a,_,_,.int n,rfl,rfl,w1,rfl,n,rfl,by omega,by omega,fun lr hlr=> ?_⟩;have n1:=aM hlr (.lst (cZ n.toNat));have er:cZ n.toNat=(vp n.toNat).map V.int:=by unfold cZ vp;rw[vA];rfl
 have V6:(vp n.toNat).length<=10:=by unfold vp;rw[aJ,vo];omega
 refine⟨a,lr,n,ts,vp n.toNat,rfl,hW.same n1,by rw[<-er];exact SqL.of aB,V6,fun r H1 s1 Nv=> ?_⟩;obtain⟨its,e1,e2,e3⟩:=Nv;have s01:=n1.trans s1;refine⟨_,rfl,false,la,_,rfl,s01.seq hS,fun hz=> ?_⟩;let gF:Nat->St->Hp->Prop:=fun i σ H'=>Same H1 H'/\(∀j,j<i->lW (iV ts (vp n.toNat)) (l.map (·.1)) j=true)/\∃o3 o4,σ=[some (.ref a),some (.ref la),some (.ref r),o3,o4];refine Oe (K:=K) (b:=false) (a:=la) (xs:=rs) gF ⟨Same.refl _,fun j hj=>(nomatch hj),_,_,rfl⟩ (fun i σ H' _ p=>(s01.trans p.1).seq hS) (fun i v t σ H' hv p ht=> ?_) (fun σ H' p=> ?_)
 ·obtain⟨sm,hg,o3,o4,rfl⟩:=p;have m1:=aM ht (.tup [.int (i:Int),v]);have hi:i<l.length:=by rw[<-hlen];exact(nF.mp hv).1
  obtain⟨q0,hq0,hR⟩:=Paired.at_ hL hv;rw[dF hi]at hq0;cases hq0;obtain⟨tr,sa,fa,rfl,k1,k2,k3⟩:=hR;have sA:=s01.trans (sm.trans m1);have k1':=sA.tup k1;have k2':=sA.tup k2;have k3':=sA.tup k3;have hqi:=hq _ (Cd hi);have bad:lW (iV ts (vp n.toNat)) (l.map (·.1)) i=false->jk n ts (l.map (·.1))=false:=fun z=>by
   unfold jk;exact List.all_eq_false.mpr ⟨i,jZ.mpr (by rw[aJ];exact hi),by rw[z];decide⟩
  refine⟨t,_,rfl,SqT.of aB,rfl,_,_,rfl,_,_,rfl,rfl,?_⟩;refine⟨_,rfl,.ref tr,"tuple","tuple",rfl,.inl ⟨rfl,_,k1'⟩,.inr (.inr (.inl rfl)),_,rfl,?_⟩;rw[DR];refine iteF ?_;refine⟨_,rfl,tr,_,rfl,.inr k1',fun _=>⟨rfl,_,rfl,?_⟩⟩;have e1':(!decide (V.int ((([V.ref sa,V.ref fa].length:Nat)):Int)=V.int 2))=false:=by simp
  rw[e1'];refine iteF ?_;refine⟨_,rfl,tr,_,_,.ref sa,rfl,rfl,k1',rfl,_,rfl,r,_,_,tI l[i].1,rfl,.inl (SqL.of ((sm.trans m1) _ _ e1)),zR its (fun p hp=>(sm.trans m1).tup (e2 p hp)),.tup k2' (cN.ints _),zQ _,UG _,UJ _,_,rfl,?_⟩;rw[Br,e3];refine ite2 (fun c=>iteT ?_) (fun c=> ?_)
  ·have c':l[i].1∉iV ts (vp n.toNat):=JV (by simpa using c);have z:=bad (by unfold lW;rw[gl i hi,fO c'];rfl);rw[z]at qq;exact qq _ sA
  have c':l[i].1∈iV ts (vp n.toNat):=by simpa using c
  refine⟨_,rfl,tr,_,_,.ref fa,rfl,rfl,k1',rfl,fa,l[i].2,rfl,k3',hqi.1,J3 hqi.2,fun H2 s2=>⟨_,rfl,iteF ?_⟩⟩;have sB:=sA.trans s2;have k1'':=sB.tup k1;have k2'':=sB.tup k2;have aaZ:SqT K H2 fa [.int l[i].2.1,.int ((l[i].2.2:Nat):Int)]:=sB.tup k3;refine⟨_,rfl,tr,_,_,.ref fa,rfl,rfl,k1'',rfl,fa,_,_,.int l[i].2.1,rfl,rfl,aaZ,rfl,rfl,_,rfl,?_⟩;rw[fO (show¬V.int l[i].2.1=V.int 0 from fun e=>by have:=V.int.inj e;have:=hqi.2;omega)];refine iteF ?_;refine⟨_,rfl,_,_,rfl,rfl,_,rfl,?_⟩;refine ite2 (fun c2=> ?_) (fun c2=> ?_)
  ·have i0:0<i:=by have:=fX c2;omega
   have hi1:i-1<l.length:=by omega
   obtain⟨q1,hq1,hR1⟩:=Paired.at_ hL (show rs[i-1]? =some rs[i-1]from dF (by omega));rw[dF hi1]at hq1;cases hq1;obtain⟨tr1,sa1,fa1,er1,j1,j2,j3⟩:=hR1;have j1':=sB.tup j1;have j2':=sB.tup j2;have hat:atI rs ((i:Int)-1)=some (.ref tr1):=by
    have:=atI_nat (xs:=rs) (j:=i-1) (v:=V.ref tr1) (by rw[dF (by omega),er1])
    rwa [show(((i-1:Nat)):Int)=(i:Int)-1 by omega]at this
   refine⟨_,rfl,_,rfl,_,_,rfl,rfl,la,_,_,.ref tr1,rfl,rfl,sB.seq hS,hat,tr1,_,_,.ref sa1,rfl,rfl,j1',rfl,_,rfl,tr,_,_,.ref sa,rfl,rfl,k1'',rfl,sa1,sa,l[i-1].1,l[i].1,rfl,rfl,j2',k2'',_,rfl,?_⟩;rw[Al];refine ite2 (fun c3=> ?_) (fun c3=> ?_)
   ·have c4:HT.lexLt l[i-1].1 l[i].1=false:=by simpa using c3
    have z:=bad (by unfold lW;rw[gl i hi,gl (i-1) hi1,cL c',c4,fO (by omega)];rfl);rw[z]at qq;exact qq _ sB
   ·have c4:HT.lexLt l[i-1].1 l[i].1=true:=by simpa using c3
    refine⟨sm.trans (m1.trans s2),fun j hj=> ?_,_,_,rfl⟩;rcases Nat.lt_succ_iff_lt_or_eq.mp hj with z|rfl
    ·exact hg j z
    ·unfold lW;rw[gl j hi,gl (j-1) hi1,cL c',c4,Bool.or_true];rfl
  ·have i0:i=0:=by
    have:¬(0:Int)<(i:Int):=fun z=>c2 (cL z);omega
   refine⟨sm.trans (m1.trans s2),fun j hj=> ?_,_,_,rfl⟩;have j0:j=i:=by omega
   subst j0;unfold lW;rw[gl j hi,cL c',cL i0];rfl
 ·obtain⟨sm,hg,o3,o4,rfl⟩:=p;have z:jk n ts (l.map (·.1))=true:=by
   unfold jk;refine j4.mpr fun j hj=>hg j ?_;rw[hlen];have:=jZ.mp hj
   rwa [aJ]at this
  rw[z]at qq;exact qq _ (s01.trans sm)
theorem Ob{D:Nat}{fs gs:List (Int×Nat)}(h:fs.Sublist gs)(hn:∀f∈gs,0<=f.1):dI D fs<=dI D gs:=by
 induction h with
 |slnil=>exact tH _
 | @cons l1 l2 a _ ih=>
  have a0:=hn a iW;have:=FW a0 (Yh (D/a.2));have i:=ih fun f hf=>hn f (iG _ hf);show _<=a.1*((D/a.2:Nat):Int)+dI D l2;omega
 | @cons_cons l1 l2 a _ ih=>
  have i:=ih fun f hf=>hn f (iG _ hf);show a.1*((D/a.2:Nat):Int)+dI D l1<=a.1*((D/a.2:Nat):Int)+dI D l2;omega
noncomputable def lU(p:Int)(l:List (List Int×(Int×Nat))):List (Int×Nat):=(l.filter fun q=>decide (p∈q.1)).map (·.2)
noncomputable def jo(n:Int)(D:Nat)(l:List (List Int×(Int×Nat))):Bool:=(List.range n.toNat).all fun p=>decide ((D:Int)<=dI D (lU ((p:Nat):Int) l))
theorem V7{S:Int}{D:Nat}{u:Int}{v:Nat}(l:Low S D u v)(hD:0<D):decide (u<(v:Int))= !decide ((D:Int)<=S):=by
 have e:=l.eq;have p:=l.pos;rw[v9,Qe,was,Xu];refine⟨fun h z=> ?_,fun h=> ?_⟩
 ·have a:=Int.mul_lt_mul_of_pos_right h (show(0:Int)<(D:Int) by omega);have b:=Xm z (show(0:Int)<=(v:Int) by omega);rw[e,Ck (v:Int)]at a;omega
 ·refine Int.not_le.mp fun z=>h ?_;refine Yl (a:=(v:Int)) ?_ (by omega);rw[<-e,Ck (D:Int)];exact Xm z (by omega)
noncomputable def CZ(K:W.Frag):Sp:=fun vs H Q _=>∃(a la:Addr) (n:Int) (ts:L0) (rs:List V) (l:List (List Int×(Int×Nat))) (D:Nat),vs=[.ref a,.ref la]/\aO K H a n ts/\SqL K H la rs/\cP K H rs l/\Ce D (l.map (·.2))/\dI D (l.map (·.2))<=1000000000000000000000000000000/\∀H',Same H H'->Q (.bl (jo n D l)) H'
theorem Q9{f f1:Addr}{fd d1:ρ}(F:Fun K "_law_e_is_enough" "_law_e_is_enough" zcb f fd)(D1:bC K mg "_law_e_sum" eO ["parts"] f1 d1)(G1:FnOk P w K mg base CX0 3 f1 d1 ["parts"] (xr K))(aK:mg "range"=none):
  FnOk P w K mg base CX0 4 f fd ["web","laying"] (CZ K):=by
 refine F.bZ ["web","laying","place","have"] fun cdv A outer s H vs Q E hr h=> ?_;obtain⟨a,la,n,ts,rs,l,D,rfl,hW,hS,hL,hD,hb,qq⟩:=h;refine aW ?_;intro Y;refine⟨_,(aL (ps_for wZ rfl (Io rfl aK (aj (aQ bD (pv 0) ao) ak)) (pG 2) (aL (pS 3 (pc G1 hr D1 (aj (pK ["some","part"] ["place"] [2] (sG (pv 1)) (JN K (n:=2) rfl (mH (pG 0) (mH (pG 1) zq))) (BX (cR (jM K hr.units) (pv 2) (pv 0) (by with_unfolding_all rfl))) (pv 1)) ak))) (aR (dZ (cR op_lt (aQ bD (pv 3) ao) (aQ bD (pv 3) ao)) (aR (bB qZ)) eG)))) (aR (bB qZ))),?_⟩;refine lR ?_;intro c2;have h0:=hW.h0;have h10:=hW.h1;obtain⟨tt,rr,w1,w2,w3⟩:=id hW.web;have hlen:=Paired.eX hL;have hn:∀f∈l.map (·.2),0<=f.1:=fun f hf=>(hD.all f hf).1;refine⟨_,rfl,a,_,_,.int n,rfl,rfl,w1,rfl,n,rfl,by omega,by omega,?_⟩;let p7:Nat->St->Hp->Prop:=fun i σ H'=>Same H H'/\(∀j,j<i->(D:Int)<=dI D (lU ((j:Nat):Int) l))/\∃o2 o3,σ=[some (.ref a),some (.ref la),o2,o3];refine Ph (n:=n.toNat) p7 ⟨Same.refl _,fun j hj=>(nomatch hj),_,_,rfl⟩ (fun i σ H' hi p=> ?_) (fun σ H' p=> ?_)
 ·obtain⟨sm,hg,o2,o3,rfl⟩:=p;have hS':=sm.seq hS;refine⟨_,rfl,la,_,rfl,hS',fun hz=> ?_⟩;let Fp:Nat->List V->St->Hp->Prop:=fun k acc σ H2=>dB K H' acc (lU (0+(i:Int)) (l.take k))/\H2=H'/\∃o1 o2,σ=[o1,o2,some (.int (0+(i:Int)))];refine wU (xs:=rs) Fp ⟨.nil,rfl,_,_,rfl⟩ (fun k acc σ H2 _ p=>by rw[p.2.1];exact hS') (fun k acc σ H2 hk p=> ?_) hz (fun k x acc σ H2 hx p=> ?_) (fun acc σ H2 p=> ?_)
  ·have:=Paired.eX p.1;unfold lU at this;rw[aJ]at this;rw[this];exact cT (vC _ _) (by rw[rK];exact Cm _ _)
  ·obtain⟨hd,rfl,o1,o2',rfl⟩:=p;have hk:k<l.length:=by rw[<-hlen];exact(nF.mp hx).1
   obtain⟨q0,hq0,hR⟩:=Paired.at_ hL hx;rw[dF hk]at hq0;cases hq0;obtain⟨tr,sa,fa,rfl,k1,k2,k3⟩:=hR;have go:lU (0+(i:Int)) (l.take (k+1))=lU (0+(i:Int)) (l.take k)++(if decide (0+(i:Int)∈l[k].1)=true then[l[k].2]else[]):=by
    unfold lU;rw[sI,dF hk,Cq,bL];congr 1;show List.map _ (List.filter _ [l[k]])=_;rw[Cp];split<;>rfl
   refine⟨tr,_,rfl,sm.tup k1,rfl,_,_,rfl,_,_,rfl,rfl,?_⟩;refine⟨_,rfl,_,rfl,sa,_,_,.int (0+(i:Int)),rfl,.inr (sm.tup k2),cN.ints _,.int _,Ik _,rfl,(by show 0<=60;decide),_,rfl,?_⟩;rw[JK];refine ite2 (fun c=> ?_) (fun c=> ?_)
   ·refine⟨_,rfl,?_,rfl,_,_,rfl⟩;rw[go,aF c];exact Paired.snoc hd ⟨fa,rfl,sm.tup k3⟩
   ·refine⟨?_,rfl,_,_,rfl⟩;rw[go,aA c,zx];exact hd
  ·intro p1 hp1;obtain⟨hd,rfl,_⟩:=p;rw[hlen,qm]at hd;have n1:=aM hp1 (.lst acc);have sub:(lU (0+(i:Int)) l).Sublist (l.map (·.2)):=List.Sublist.map _ yeh;have hD2:Ce D (lU (0+(i:Int)) l):=hD.sub fun f hf=>sub.subset hf;have b2:=weu (Ob sub hn) hb;refine⟨p1,acc,_,D,rfl,SqL.of aB,dB.same hd n1,hD2,b2,fun r H3 u v s3 hf l2=> ?_⟩;have hf':SqT K H3 r [.int u,.int ((v:Nat):Int)]:=hf;have sA:=sm.trans (n1.trans s3);refine⟨_,rfl,r,_,_,.int u,rfl,rfl,hf',rfl,_,rfl,r,_,_,.int ((v:Nat):Int),rfl,rfl,hf',rfl,_,_,rfl,rfl,_,rfl,?_⟩;rw[V7 l2 hD.pos];refine ite2 (fun c=> ?_) (fun c=> ?_)
   ·have c':¬(D:Int)<=dI D (lU (0+(i:Int)) l):=JV (by simpa using c);have z:jo n D l=false:=by
     unfold jo;refine List.all_eq_false.mpr ⟨i,jZ.mpr hi,?_⟩;rw[Xf]at c';simpa using c'
    rw[z]at qq;exact qq _ sA
   ·have c':(D:Int)<=dI D (lU (0+(i:Int)) l):=by simpa using c
    refine⟨sA,fun j hj=> ?_,_,_,rfl⟩;rcases Nat.lt_succ_iff_lt_or_eq.mp hj with z|rfl
    ·exact hg j z
    ·rw[Xf]at c';exact c'
 ·obtain⟨sm,hg,o2,o3,rfl⟩:=p;have z:jo n D l=true:=by
   unfold jo;exact j4.mpr fun j hj=>cL (hg j (jZ.mp hj))
  rw[z]at qq;exact qq _ sm
end
theorem LC{xs:List Int}(h:dM xs=true):xs.Pairwise (· < ·):=by
 unfold dM at h;rw[j4]at h;have st:∀k,(hk:k+1<xs.length)->xs[k]<xs[k+1]:=fun k hk=>by
  have:=fX (h k (jZ.mpr (by omega)));rw[lg,lg,dF (by omega),dF hk]at this;exact this
 refine Uq.mpr fun i j hi hj hij=> ?_;obtain⟨d,rfl⟩:∃d,j=i+1+d:=⟨j-i-1,by omega⟩
 induction d with
 |zero=>exact st i hj
 |succ d ih=>exact Int.lt_trans (ih (by omega) (by omega)) (st (i+1+d) hj)
theorem w6:∀{t s:List Int},s.Pairwise (· < ·)->t.Pairwise (· < ·)->(∀x∈s,x∈t)->s.Sublist t
 |[],[],_,_,_=> .slnil
 |[],x::_,_,_,h=>(nomatch h x iW)
 |_::_,[],_,_,_=>List.nil_sublist _
 |y::t,x::s,hs,ht,h=>by
  obtain⟨hs1,hs2⟩:=Qa.mp hs;obtain⟨ht1,ht2⟩:=Qa.mp ht;by_cases e:x=y
  ·subst e;refine .cons_cons _ (w6 hs2 ht2 fun z hz=> ?_);rcases cY.mp (h z (iG _ hz))with e|e
   ·have:=hs1 z hz;omega
   ·exact e
  ·have hx:x∈t:=(cY.mp (h x iW)).resolve_left e;have hxy:=ht1 x hx;refine .cons _ (w6 hs ht2 fun z hz=> ?_);rcases cY.mp (h z hz)with e'|e'
   ·rcases cY.mp hz with e2|e2
    ·omega
    ·have:=hs1 z e2;omega
   ·exact e'
theorem Tv{R:Int->Int->Prop}:∀{s:List Int},s.Pairwise (· < ·)->s.Pairwise R->∀{x y:Int},x∈s->y∈s->x<y->R x y
 |[],_,_,_,_,hx,_,_=>nomatch hx
 |a::s,hs,hr,x,y,hx,hy,hlt=>by
  obtain⟨h1,h2⟩:=Qa.mp hs;obtain⟨r1,r2⟩:=Qa.mp hr;rcases cY.mp hx with rfl|hx'
  ·rcases cY.mp hy with rfl|hy'
   ·omega
   ·exact r1 y hy'
  ·rcases cY.mp hy with rfl|hy'
   ·have:=h1 x hx';omega
   ·exact Tv h2 r2 hx' hy' hlt
theorem Ls(n:Nat):(vp n).Pairwise (· < ·):=by
 unfold vp;rw[P0];exact Yk.imp fun h=>by omega
theorem Kh{ts:L0}{a b:Int}(h:a<b):bU ts a b=decide ((a,b)∈ts):=by
 unfold bU;rw[aA (by omega),aF (by omega)]
theorem Fj{n:Int}{ts:L0}(hp:aN n ts)(h0:0<=n)(s:List Int):s∈iV ts (vp n.toNat)↔ju n s/\ts.filter (inB s)=[]:=by
 rw[Af rfl];constructor
 ·rintro⟨sub,ap⟩;have hs:s.Pairwise (· < ·):=(Ls _).sublist sub;refine⟨⟨hs,fun x hx=> ?_⟩,Xl.mpr fun p hq hc=> ?_⟩
  ·have:=Hj.mp (sub.subset hx);omega
  ·unfold inB at hc;rw[kO]at hc;have lt:=(hp.lt p hq).2.1;have:=Tv hs ap (fX hc.1) (fX hc.2) lt;rw[Kh lt]at this;exact JV this hq
 ·rintro⟨hs,hf⟩;refine⟨w6 hs.zF (Ls _) fun x hx=>Hj.mpr (by have:=hs.lt x hx;omega),hs.zF.imp_of_mem fun{a b} ha hb hab=> ?_⟩;rw[Kh hab];refine fO fun z=> ?_;have:=Xl.mp hf _ z;unfold inB at this;rw[kO]at this;exact this ⟨cL ha,cL hb⟩
theorem Ih{n:Nat}{ts:L0}(hp:aN (n:Int) ts){s:List Int}(h:s∈iV ts (vp n)):kj ts false n s:=by
 have k:=(Fj hp (by omega) s).mp (by rw[Ip];exact h);refine⟨k.1.zF,k.1.lt,fun x hx y hy hne=> ?_⟩;have key:∀{a b:Int},a∈s->b∈s->a<b->(a,b)∉ts:=fun{a b} ha hb hab z=>by
  have:=Xl.mp k.2 _ z;unfold inB at this;rw[kO]at this;exact this ⟨cL ha,cL hb⟩
 have no:∀{a b:Int},b<a->(a,b)∉ts:=fun{a b} hab z=>by have:=(hp.lt _ z).2.1;omega
 unfold bW;rcases Int.lt_or_gt_of_ne hne with c|c
 ·rw[fO (key hx hy c),fO (no c)];rfl
 ·rw[fO (no c),fO (key hy hx c)];rfl
theorem elay_eq{n:Int}{ts:L0}{l:List (List Int×(Int×Nat))}(hp:aN n ts)(h0:0<=n)(hq:∀q∈l,Lw q.2/\0<q.2.1):jk n ts (l.map (·.1))=layB n ts (l.map fj):=by
 rw[v9];unfold jk layB;rw[tX,kO,j4,Xe,j4];have gl:∀i,(hi:i<l.length)->(l.map (·.1)).getD i []=l[i].1:=fun i hi=>by rw[lg,dJ,dF hi];rfl
 constructor
 ·intro h;refine⟨fun q hq'=> ?_,?_⟩
  ·obtain⟨i,hi,rfl⟩:=Iu hq';have e:=h i (jZ.mpr (by rw[aJ];exact hi));unfold lW at e;rw[kO,gl i hi]at e;obtain⟨k1,k2⟩:=(Fj hp h0 _).mp (fX e.1);obtain⟨⟨b1,b2,b3⟩,c⟩:=hq _ hq';exact Le ⟨k1.zF,k1.lt,k2,c,b1,b2,b3⟩
  ·unfold dh;refine j4.mpr fun k hk=> ?_;have hk':=jZ.mp hk;have e:=h (k+1) (jZ.mpr (by omega));unfold lW at e;rw[kO,fO (show¬k+1=0 by omega),wfd]at e;exact e.2
 ·rintro⟨h1,h2⟩ i hi;have hi':=jZ.mp hi;rw[aJ]at hi';unfold lW;rw[kO,gl i hi'];obtain⟨q',e,G⟩:=Df (h1 _ (Cd hi'));have e':l[i]=q':=by rw[<-lA l[i],<-lA q',e]
  refine⟨cL ((Fj hp h0 _).mpr ?_),?_⟩
  ·rw[e'];exact⟨⟨LC G.rise,G.lt⟩,G.no⟩
  ·by_cases c:i=0
   ·rw[cL c];rfl
   ·unfold dh at h2;have:=j4.mp h2 (i-1) (jZ.mpr (by rw[aJ];omega));rw[show i-1+1=i by omega,gl i hi']at this;rw[this,Bool.or_true]
theorem eeno_eq{n:Int}{D:Nat}{l:List (List Int×(Int×Nat))}:jo n D l=hasB D (cD n.toNat) l:=by
 unfold jo hasB;rw[show(cD n.toNat).length=n.toNat from Uo,v9,j4,j4];refine forall_congr' fun p=>forall_congr' fun hp=> ?_;unfold Ea lU;rw[QB (jZ.mp hp),Cj]
theorem Hy{n D:Nat}{ts:L0}{ss:List (List Int)}{wl:List Int}{ov:Nat}{Z:Int}{Y X:Nat->Int}(hS:bQ ss ts false n)(h:Sh n ss wl ov Z Y X):∀{l:List (List Int×(Int×Nat))},(∀q∈l,kj ts false n q.1/\0<=q.2.1)->(Sx.sm n fun p=>X p*dI D (lU ((p:Nat):Int) l))<=dI D (l.map (·.2))*(ov:Int)
 |[],_=>by
  rw[Sx.cV n fun i _=>by show X i*0=0;rw[zu]];show(0:Int)<=0*(ov:Int);rw[JR];exact tH _
 |q::l,hq=>by
  have ih:=Hy (D:=D) hS h (l:=l) fun q' h'=>hq q' (iG _ h');obtain⟨k,q0⟩:=hq q iW;have a:=qR hS h k;have w0:0<=q.2.1*((D/q.2.2:Nat):Int):=FW q0 (Yh _);have e:(Sx.sm n fun p=>X p*dI D (lU ((p:Nat):Int) (q::l)))=(Sx.sm n fun p=>(q.2.1*((D/q.2.2:Nat):Int))*(if decide (((p:Nat):Int)∈q.1)=true then X p else 0))+Sx.sm n fun p=>X p*dI D (lU ((p:Nat):Int) l):=by
   rw[<-Sx.jx];refine Sx.bw n fun p _=> ?_;unfold lU;by_cases c:decide (((p:Nat):Int)∈q.1)=true
   ·rw[ydt (by exact c),aF c,yX];show X p*(q.2.1*((D/q.2.2:Nat):Int)+_)=_
    grind
   ·rw[ydu (by exact c),aA c]
    grind
  rw[e,Sx.eE];have m:=SM a w0;show _<=(q.2.1*((D/q.2.2:Nat):Int)+dI D (l.map (·.2)))*(ov:Int);rw[wed];exact wex m ih
theorem cO.lay{S:Sd}(h:cO S):layB S.n S.ts (S.l.map fj)=true/\hasB S.D (cD S.n.toNat) S.l=true/\dI S.D (S.l.map (·.2))*(S.f.2:Int)<=S.f.1*(S.D:Int):=by
 have e:=h.eno;unfold j8 at e;rw[lB,kO,kO]at e;exact⟨e.1,e.2.1,fX e.2.2⟩
theorem cO.pos{S:Sd}(h:cO S):∀q∈S.l,Lw q.2/\0<q.2.1:=fun q hq=>by
 refine⟨h.low q hq,?_⟩;have e:=h.lay.1;unfold layB at e;rw[kO,Xe,j4]at e;obtain⟨q',e1,G⟩:=Df (e.1 q hq);have e':q=q':=by rw[<-lA q,<-lA q',e1]
 rw[e'];exact G.pos
theorem Ko{n:Int}{ts:L0}{l:List (List Int×(Int×Nat))}{D:Nat}{f:Int×Nat}(hp:aN n ts)(h0:0<=n)(hv:wN n ts f)(hD:Ce D (l.map (·.2)))(h1:jk n ts (l.map (·.1))=true)(h2:jo n D l=true):f.1*(D:Int)<=dI D (l.map (·.2))*(f.2:Int):=by
 obtain⟨m,rfl⟩:=SJ h0;obtain⟨ss,ov,Z,Y,X,hS,h,rfl⟩:=hv;rw[Ip]at hS h;have hp':aN ((m:Nat):Int) ts:=hp;have ap:∀q∈l,kj ts false m q.1/\0<=q.2.1:=fun q hq=>by
  obtain⟨i,hi,rfl⟩:=Iu hq;unfold jk at h1;have e:=j4.mp h1 i (jZ.mpr (by rw[aJ];exact hi));unfold lW at e;rw[kO,lg,dJ,dF hi,Ip]at e;exact⟨Ih hp' (fX e.1),(hD.all _ (jY.mpr ⟨_,Cd hi,rfl⟩)).1⟩
 have g:=Hy (D:=D) hS h ap;have zd:Z*(D:Int)<=Sx.sm m fun p=>X p*dI D (lU ((p:Nat):Int) l):=by
  rw[<-h.wor,Ck,<-Sx.eE];refine Gy m fun p hp=> ?_;rw[wX hp,Cj,Ck (D:Int)];refine SM ?_ (h.xn p);unfold jo at h2;exact fX (j4.mp h2 p (jZ.mpr (by rw[Ip];exact hp)))
 have zz:=weu zd g;have lf:=Ca Z h.pos;have e:=lf.eq;have p1:=h.pos;have p2:=lf.pos;refine Yl (a:=(ov:Int)) ?_ (by omega);have e1:(aP Z ov).1*(D:Int)*(ov:Int)=((aP Z ov).1*(ov:Int))*(D:Int):=by grind
 have e2:dI D (l.map (·.2))*((aP Z ov).2:Int)*(ov:Int)=(dI D (l.map (·.2))*(ov:Int))*((aP Z ov).2:Int):=by grind
 rw[e1,e2,e];have e3:Z*((aP Z ov).2:Int)*(D:Int)=(Z*(D:Int))*((aP Z ov).2:Int):=by grind
 rw[e3];exact Xm zz (by omega)
theorem yh{S:Int}{D:Nat}{f:Int×Nat}{u:Int}{v:Nat}(hl:Lw f)(hD:0<D)(l:Low S D u v)(e:S*(f.2:Int)=f.1*(D:Int)):(u,v)=f:=by
 have l2:=l.cross hD hl.1 e;exact hl.one l2
section
variable{P:ξ}{w:τ}{K:W.Frag}{mg:L5}{base:Heap}
theorem Nf{b d:Nat}{u:Int}{v:Nat}(hb:0<b)(hd:0<d)(l:Low (d:Int) b u v):∃k:Nat,(b:Int)*u=(k:Int)/\0<k/\b∣k/\d∣k/\∀m,b∣m->d∣m->k∣m:=by
 have u0:=l.nn (Yh _);obtain⟨u,rfl⟩:=SJ u0;have e:u*b=d*v:=by have:=l.eq;exact Int.ofNat_inj.mp (by push_cast;exact this)
 have cop:Nat.gcd u v=1:=by have:=l.cop;rwa [Xi]at this
 refine⟨b*u,by push_cast;rfl,?_,Nat.dvd_mul_right _ _,⟨v,by rw[Ud b u,e]⟩,fun m ⟨k1,h1⟩ ⟨k2,h2⟩=> ?_⟩
 ·rw[Ud,e];exact Yn hd l.pos
 ·have x:u*k2=v*k1:=by
   refine wdp (Yn hb hd) ?_;have y:d*k2=b*k1:=h2.symm.trans h1
   calc b*d*(u*k2)=(u*b)*(d*k2):=by grind
    _=(d*v)*(b*k1):=by rw[e,y]
    _=b*d*(v*k1):=by grind
  have dv:u∣k1:=(show Nat.Coprime u v from cop).dvd_of_dvd_mul_left ⟨k2,x.symm⟩;obtain⟨c,rfl⟩:=dv;exact⟨c,by rw[h1,Yu]⟩
noncomputable def Gb(ov b:Nat)(X:Nat->Int)(p:Nat):Int:=(aP (X p) ov).1*(b:Int)/((aP (X p) ov).2:Int)
theorem wgt_eq{ov b:Nat}{X:Nat->Int}{p:Nat}(h:0<ov)(hd:(aP (X p) ov).2∣b):Gb ov b X p*(ov:Int)=X p*(b:Int):=by
 have l:=Ca (X p) h;obtain⟨m,rfl⟩:=hd;unfold Gb;have p0:=l.pos;have e:(aP (X p) ov).1*(((aP (X p) ov).2*m:Nat):Int)/((aP (X p) ov).2:Int)=(aP (X p) ov).1*(m:Int):=by
  rw[Ug,show(aP (X p) ov).1*(((aP (X p) ov).2:Int)*(m:Int))=((aP (X p) ov).2:Int)*((aP (X p) ov).1*(m:Int)) by grind];exact wbn _ (by omega)
 rw[e];have q:=l.eq
 push_cast
 have z:(aP (X p) ov).1*(m:Int)*(ov:Int)=((aP (X p) ov).1*(ov:Int))*(m:Int):=by grind
 rw[z,q];grind
theorem Ga{ov b:Nat}{X:Nat->Int}(h:0<ov):∀{s:List Int},(∀x∈s,(aP (X x.toNat) ov).2∣b)->(s.map fun x=>Gb ov b X x.toNat).sum*(ov:Int)=(s.map fun x=>X x.toNat).sum*(b:Int)
 |[],_=>by show(0:Int)*_=0*_;rw[JR,JR]
 |x::s,hs=>by
  have ih:=Ga h (s:=s) fun y hy=>hs y (iG _ hy);have e:=wgt_eq h (hs x iW);rw[yX,yX,List.sum_cons,List.sum_cons,wed,wed,ih,e]
noncomputable def K4(K:W.Frag):Sp:=fun vs H Q _=>∃(a ca:Addr) (n:Nat) (ts:L0) (rs:List V) (ss:List (List Int)) (ov:Nat) (Z:Int) (Y X:Nat->Int),vs=[.ref a,.ref ca]/\aO K H a (n:Int) ts/\SqL K H ca rs/\dB K H rs (gq n ov X)/\bQ ss ts false n/\Sh n ss (cD n) ov Z Y X/\∀H',Same H H'->Q (.bl true) H'
theorem Ra{f f1 f2 f3:Addr}{fd d1 d2 d3:ρ}(F:Fun K "_law_e_are_prices" "_law_e_are_prices" zcs f fd)(D1:bC K mg "_law_e_lowest" X4 ["part"] f1 d1)(G1:FnOk P w K mg base CX0 2 f1 d1 ["part"] (xH K))(D2:bC K mg "_law_e_part" Xc ["top","bottom"] f2 d2)(G2:FnOk P w K mg base CX0 1 f2 d2 ["top","bottom"] (sV K))(D3:bC K mg "_law_e_apart_sets" zbr ["web","left"] f3 d3)(G3:FnOk P w K mg base CX0 2 f3 d3 ["web","left"] (xG K))(pL:mg "all"=none)(bN:mg "len"=none)(au:mg "isinstance"=none)(cH:mg "list"=none)(aK:mg "range"=none)(Zj:mg "sum"=none):
  FnOk P w K mg base CX0 3 f fd ["web","costs"] (K4 K):=by
 refine F.bZ ["web","costs","bottom","cost","weights","some"] fun cdv A outer s H vs Q E hr h=> ?_;obtain⟨a,ca,n,ts,rs,ss,ov,Z,Y,X,rfl,hW,hS,hF,ZJ,hSh,qq⟩:=h;refine aW ?_;intro Y;refine⟨_,(aL (dZ (PW.pt (qg (kY (iY (pB wR au (aj (pv 1) (aj (pN "list" cH) ak))))) (qg (cR op_ne (pB vm bN (aj (pv 1) ak)) (aQ bD (pv 0) ao)) (yV (kY (iY (pB (eY rfl) pL (aj (pK ["cost"] [] [] (sG (pv 1)) (pG 0) nP (pc G1 hr D1 (aj (pv 0) ak))) ak)))))))) (aR (bB qZ)) eG) (aL (pS 2 ao) (aL (ps_for wZ rfl (sG (pv 1)) (pG 3) (aR (pS 2 (bA sE (pv 2) (aQ bD (pc G2 hr D2 (aj (aQ bD (pv 3) ao) (aj (pv 2) ak))) ao))))) (aL (pS 4 (pK ["cost"] ["bottom"] [2] (sG (pv 1)) (pG 0) nP (bA lK (bA sE (aQ (Cg K) (pv 0) ao) (pv 1)) (aQ (Cg K) (pv 0) ao)))) (aL (ps_for wZ rfl (sG (pc G3 hr D3 (aj (pv 0) (aj (g8 rfl rfl cH rfl aK (aj (aQ bD (pv 0) ao) ak)) ak)))) (pG 5) (aR (dZ (cR op_gt (pB (JB rfl) Zj (aj (pK ["place"] ["weights"] [4] (BW (pv 5)) (pG 0) nP (aQ (gA K) (pv 1) (pv 0))) ak)) (pv 2)) (aR (bB qZ)) eG))) (aR (bB qZ))))))),?_⟩;refine Np ?_;intro c6 c5 c4 c3 c2;have h10:=hW.h1;obtain⟨tt,rr,w1,w2,w3⟩:=id hW.web;have hlen:rs.length=n:=(Paired.eX hF).trans (Qu n ov X);have Dm:=hSh.pos;have ovb:=hSh.big;refine⟨_,rfl,.ref ca,"list","list",rfl,.inr (.inl ⟨rfl,_,hS⟩),.inr (.inr (.inr rfl)),_,rfl,?_⟩;rw[Nh];refine iteF ?_;refine⟨_,rfl,ca,_,rfl,.inl hS,fun _=>⟨_,rfl,a,_,_,.int (n:Int),rfl,rfl,w1,rfl,rfl,_,rfl,?_⟩⟩;rw[hlen,cL rfl];refine iteF ?_;refine⟨_,rfl,ca,_,rfl,hS,fun hz=> ?_⟩;let gF:Nat->List V->St->Hp->Prop:=fun i acc σ H'=>acc=(List.replicate i true).map V.bl/\Same H H'/\∃o,σ=[o];refine wU (xs:=rs) gF ⟨rfl,Same.refl _,_,rfl⟩ (fun i acc σ H' _ p=>by exact p.2.1.seq hS) (fun i acc σ H' _ p=>by rw[p.1,aJ,Uo];exact aX _) hz (fun i x acc σ H' hx p=> ?_) (fun acc σ H' p=> ?_)
 ·obtain⟨rfl,sm,o,rfl⟩:=p;obtain⟨f,ef,hR⟩:=Paired.at_ hF hx;obtain⟨fa,rfl,hfa⟩:=hR;obtain⟨k,hk,rfl⟩:=jY.mp (show f∈(List.range n).map fun p=>aP (X p) ov from sO ef);refine⟨_,rfl,fa,_,rfl,sm.tup hfa,yg _ Dm ovb,(pO Dm (hSh.xn k)).1,fun H2 s2=> ?_⟩;exact⟨by rw[wcn,bL];rfl,sm.trans s2,_,rfl⟩
 intro p1 hp1;obtain⟨rfl,sm,_⟩:=p;have n1:=aM hp1 (.lst ((List.replicate rs.length true).map V.bl));refine⟨p1,_,rfl,SqL.of aB,_,rfl,?_⟩;rw[show(List.replicate rs.length true).all id=true from j4.mpr fun b hb=>by rw[(List.mem_replicate.mp hb).2];rfl];refine iteF ?_;have s1:=sm.trans n1;have hS1:=s1.seq hS;generalize (upd H' p1 (.lst ((List.replicate rs.length true).map V.bl)))=H1 at *;clear n1 sm hp1
 -- the common number
 refine⟨_,rfl,ca,_,rfl,hS1,fun hz=> ?_⟩;let p7:Nat->St->Hp->Prop:=fun i σ H'=>Same H1 H'/\∃(b:Nat) (o3:Option V),σ=[some (.ref a),some (.ref ca),some (.int (b:Int)),o3,none,none]/\0<b/\b∣ov/\∀j,j<i->(aP (X j) ov).2∣b;refine for_list (K:=K) (a:=ca) (xs:=rs) p7 ⟨Same.refl _,1,_,rfl,Nat.one_pos,Nat.one_dvd _,fun j hj=>(nomatch hj)⟩ (fun i σ H' _ p=>p.1.seq hS1) (fun i x σ H' hx p=> ?_) (fun σ H' p=> ?_)
 ·obtain⟨sm,b,o3,rfl,b0,bd,hj⟩:=p;have hi:i<n:=by rw[<-hlen];exact(nF.mp hx).1
  obtain⟨f,ef,hR⟩:=Paired.at_ hF hx;obtain⟨fa,rfl,hfa⟩:=hR;rw[GK hi]at ef;cases ef;have hfa':SqT K H' fa [.int (aP (X i) ov).1,.int (((aP (X i) ov).2:Nat):Int)]:=(s1.trans sm).tup hfa;have ld:=pO Dm (hSh.xn i);have bl:=PN Dm bd;have dl:=PN Dm ld.2.2;refine⟨_,rfl,_,rfl,fa,_,_,.int (((aP (X i) ov).2:Nat):Int),rfl,rfl,hfa',rfl,_,rfl,(aP (X i) ov).2,b,rfl,b0,cT (cT bl ovb) (by decide+kernel),fun q H3 u v s3 hq l=>⟨q,_,_,.int u,rfl,rfl,hq,rfl,_,_,rfl,rfl,.inl ⟨by omega,by omega⟩,?_⟩⟩;obtain⟨k,ek,k0,kb,kd,kl⟩:=Nf b0 ld.2.1 l;refine⟨sm.trans s3,k,_,by rw[<-ek];rfl,k0,kl ov bd ld.2.2,fun j hj'=> ?_⟩;rcases Nat.lt_succ_iff_lt_or_eq.mp hj' with z|rfl
  ·exact Nat.dvd_trans (hj j z) kb
  ·exact kd
 obtain⟨sm,b,o3,rfl,b0,bd,hj⟩:=p;have hS2:=sm.seq hS1;have bl:=PN Dm bd;rw[hlen]at hj
 -- the weights
 refine⟨_,rfl,ca,_,rfl,hS2,fun hz=> ?_⟩;let Fp:Nat->List V->St->Hp->Prop:=fun i acc σ H2=>acc=((List.range i).map (Gb ov b X)).map V.int/\H2=H'/\∃o,σ=[o,some (.int (b:Int))];refine wU (xs:=rs) Fp ⟨rfl,rfl,_,rfl⟩ (fun i acc σ H2 _ p=>by rw[p.2.1];exact hS2) (fun i acc σ H2 _ p=>by rw[p.1,aJ,aJ,vo];exact aX _) hz (fun i x acc σ H2 hx p=> ?_) (fun acc σ H2 p=> ?_)
 ·obtain⟨rfl,rfl,o,rfl⟩:=p;have hi:i<n:=by rw[<-hlen];exact(nF.mp hx).1
  obtain⟨f,ef,hR⟩:=Paired.at_ hF hx;obtain⟨fa,rfl,hfa⟩:=hR;rw[GK hi]at ef;cases ef;have hfa':SqT K H2 fa [.int (aP (X i) ov).1,.int (((aP (X i) ov).2:Nat):Int)]:=(s1.trans sm).tup hfa;have ld:=pO Dm (hSh.xn i);have dl:=PN Dm ld.2.2;refine⟨_,rfl,fa,_,_,.int (aP (X i) ov).1,rfl,rfl,hfa',rfl,_,rfl,_,_,rfl,rfl,.inr ⟨by omega,by omega⟩,_,rfl,fa,_,_,.int (((aP (X i) ov).2:Nat):Int),rfl,rfl,hfa',rfl,_,_,rfl,rfl,⟨by omega,by omega⟩,?_⟩;refine⟨?_,rfl,_,rfl⟩;rw[yZ,bL,bL];rfl
 intro wl hwl;obtain⟨rfl,rfl,_⟩:=p;rw[hlen];have n2:=aM hwl (.lst (((List.range n).map (Gb ov b X)).map V.int));have aa0:(upd H2 wl (.lst (((List.range n).map (Gb ov b X)).map V.int))) wl=some (.lst (((List.range n).map (Gb ov b X)).map V.int)):=aB;have s2:=s1.trans (sm.trans n2);generalize (upd H2 wl (.lst (((List.range n).map (Gb ov b X)).map V.int)))=G at *;have w1':=s2.tup w1;refine⟨_,rfl,_,rfl,a,_,_,.int (n:Int),rfl,rfl,w1',rfl,(n:Int),rfl,by omega,by omega,fun lr hlr=> ?_⟩;have n3:=aM hlr (.lst (cZ ((n:Int)).toNat));have er:cZ ((n:Int)).toNat=(vp n).map V.int:=by rw[Ip];unfold cZ vp;rw[vA];rfl
 have V6:(vp n).length<=10:=by unfold vp;rw[aJ,vo];omega
 refine⟨a,lr,(n:Int),ts,vp n,rfl,(hW.same s2).same n3,by rw[<-er];exact SqL.of aB,V6,fun r H3 s3 Nv=> ?_⟩;obtain⟨its,e1,e2,e3⟩:=Nv;have s3':=n3.trans s3;refine⟨r,_,rfl,SqL.of e1,fun hz=> ?_⟩;let W7:Nat->St->Hp->Prop:=fun i σ H'=>Same H3 H'/\∃(o3 o5:Option V),σ=[some (.ref a),some (.ref ca),some (.int (b:Int)),o3,some (.ref wl),o5];refine for_list (K:=K) (a:=r) (xs:=its.map fun p=>V.ref p.1) W7 ⟨Same.refl _,_,_,rfl⟩ (fun i σ H' _ p=>SqL.of (p.1 _ _ e1)) (fun i x σ H4 hx p=> ?_) (fun σ H4 p=> ?_)
 ·obtain⟨YL,o3',o5,rfl⟩:=p;rw[dJ]at hx;cases ex:its[i]? with
  |none=>rw[ex]at hx;cases hx
  |some it=>
   rw[ex]at hx;cases hx;have hm:=sO ex;have hit:=YL.tup (e2 it hm);have ap:it.2∈iV ts (vp n):=by rw[<-e3];exact jY.mpr ⟨it,hm,rfl⟩
   have sk:=Ih hW.pk ap;have hw4:=(s3'.trans YL) _ _ aa0;refine⟨_,rfl,it.1,_,rfl,hit,fun hz=> ?_⟩;let Pv5:Nat->List V->St->Hp->Prop:=fun k acc σ H5=>acc=((it.2.take k).map fun x=>Gb ov b X x.toNat).map V.int/\H5=H4/\∃o,σ=[o,some (.ref wl)];refine BZ (xs:=it.2.map V.int) Pv5 ⟨rfl,rfl,_,rfl⟩ (fun i acc σ H' _ p=>by rw[p.2.1];exact hit) (fun k acc σ H' hk p=>by rw[p.1,aJ,aJ,rK];exact Cm _ _) hz (fun k x acc σ H5 hx p=> ?_) (fun acc σ H5 p=> ?_)
   ·obtain⟨rfl,rfl,o,rfl⟩:=p;rw[dJ]at hx;cases ey:it.2[k]? with
    |none=>rw[ey]at hx;cases hx
    |some y=>
     rw[ey]at hx;cases hx;have hy:=sk.lt y (sO ey);have hat:atI (((List.range n).map (Gb ov b X)).map V.int) y=some (.int (Gb ov b X y.toNat)):=by
      have:=Ox (xs:=(List.range n).map (Gb ov b X)) hy.1 (by rw[aJ,vo];exact hy.2);rw[this,lg,dJ,Sw (by omega)];rfl
     refine⟨_,rfl,_,rfl,wl,_,_,_,rfl,rfl,SqL.of hw4,hat,?_⟩;exact⟨by rw[sI,ey,bL,bL];rfl,rfl,_,rfl⟩
   ·intro p1 hp1;obtain⟨rfl,rfl,_⟩:=p;rw[aJ,qm];have n5:=aM hp1 (.lst ((it.2.map fun x=>Gb ov b X x.toNat).map V.int));refine⟨p1,_,rfl,SqL.of aB,_,rfl,_,_,rfl,rfl,_,rfl,?_⟩;have le:(it.2.map fun x=>Gb ov b X x.toNat).sum<=(b:Int):=by
     have e:=Ga (b:=b) (X:=X) Dm (s:=it.2) fun x hx=>by
      have:=sk.lt x hx;exact hj x.toNat (by omega)
     have a1:=Bq ZJ hSh sk;rw[xM Dm]at a1;refine Yl (a:=(ov:Int)) ?_ (by omega);rw[e,Ck (b:Int)];exact Xm (by omega) (by omega)
    rw[fO (by omega)];exact iteF ⟨YL.trans n5,_,_,rfl⟩
 ·obtain⟨YL,o3',o5,rfl⟩:=p;exact qq _ (s2.trans (s3'.trans YL))
theorem wN.frc{n:Int}{ts:L0}{f:Int×Nat}(h:wN n ts f):0<=f.1/\0<f.2/\f.2<=39916800:=by
 obtain⟨ss,ov,Z,Y,X,a,b,rfl⟩:=h;have l:=Ca Z b.pos;refine⟨l.nn ?_,l.pos,cT (wet _ _) b.big⟩;rw[<-b.tot];exact Sx.wA _ fun k _=>b.yn k
theorem Qv{n ov:Nat}{X:Nat->Int}(h0:0<ov)(hb:ov<=39916800)(hx:∀p,0<=X p):Ce ov (gq n ov X):=⟨h0,cT hb (by decide),fun f hf=>by
 obtain⟨k,_,rfl⟩:=jY.mp hf;exact pO h0 (hx k)⟩
theorem cO.frs{S:Sd}(h:cO S)(h10:S.n<=10):dI S.D (S.l.map (·.2))<=1000000000000000000000000000000:=by
 obtain⟨_,_,c⟩:=h.lay;have l:=h.lw;have f1:=h.val.num h10;have f0:=h.val.frc.1;have d:=h.HY.le;have v:=l.1;have nn:=qL (D:=S.D) (fs:=S.l.map (·.2)) fun f hf=>(h.HY.all f hf).1;have a:dI S.D (S.l.map (·.2))*1<=dI S.D (S.l.map (·.2))*(S.f.2:Int):=SM (by omega) nn;have b:S.f.1*(S.D:Int)<=399168000*1000000000000000000:=wey (by omega) (by omega) (by omega) (by decide);omega
noncomputable def zL(K:W.Frag):Sp:=fun vs H Q _=>∃(a va la ca:Addr) (S:Sd) (lr pr:List V),vs=[.ref a,.ref va,.ref la,.ref ca]/\aO K H a S.n S.ts/\p8 K H va S.f/\SqL K H la lr/\cP K H lr S.l/\SqL K H ca pr/\dB K H pr S.ps/\cO S/\∀H',Same H H'->Q (.bl true) H'
theorem Jm{f f1 f2 f3 f4 f5:Addr}{fd d1 d2 d3 d4 d5:ρ}(F:Fun K "_law_e_shows" "_law_e_shows" iH f fd)(D1:bC K mg "_law_e_are_prices" zcs ["web","costs"] f1 d1)(G1:FnOk P w K mg base CX0 3 f1 d1 ["web","costs"] (K4 K))(D2:bC K mg "_law_e_is_laying" zca ["web","laying"] f2 d2)(G2:FnOk P w K mg base CX0 3 f2 d2 ["web","laying"] (CW K))(D3:bC K mg "_law_e_lowest" X4 ["part"] f3 d3)(G3:FnOk P w K mg base CX0 2 f3 d3 ["part"] (xH K))(D4:bC K mg "_law_e_is_enough" zcb ["web","laying"] f4 d4)(G4:FnOk P w K mg base CX0 4 f4 d4 ["web","laying"] (CZ K))(D5:bC K mg "_law_e_sum" eO ["parts"] f5 d5)(G5:FnOk P w K mg base CX0 3 f5 d5 ["parts"] (xr K)):
  FnOk P w K mg base CX0 5 f fd ["web","worth","laying","costs"] (zL K):=by
 refine F.bZ ["web","worth","laying","costs"] fun cdv A outer s H vs Q E hr h=> ?_;obtain⟨a,va,la,ca,S,lr,pr,rfl,hW,hV,hS,hL,hC,hP,hok,qq⟩:=h;refine aW ?_;intro Y;refine⟨_,(aL (dZ (PW.pt (qg (kY (iY (pc G3 hr D3 (aj (pv 1) ak)))) (qg (kY (iY (pc G2 hr D2 (aj (pv 0) (aj (pv 2) ak))))) (yV (kY (iY (pc G1 hr D1 (aj (pv 0) (aj (pv 3) ak))))))))) (aR (bB qZ)) eG) (aL (dZ (kY (iY (pc G4 hr D4 (aj (pv 0) (aj (pv 2) ak))))) (aR (bB qZ)) eG) (aR (bB (zp (wQ (xU hr.units) (pc G5 hr D5 (aj (pK ["some","part"] [] [] (sG (pv 2)) (JN K (n:=2) rfl (mH (pG 0) (mH (pG 1) zq))) nP (pv 1)) ak)) (pv 1)) (pe_one (wQ (xU hr.units) (pc G5 hr D5 (aj (pv 3) ak)) (pv 1)))))))),?_⟩;refine gC ?_;intro c3 c2;have h0:=hW.h0;have h10:=hW.h1;obtain⟨ss,ov,Z,Y,X,So,hSh,ef,ep⟩:=hok.Y7;have hpos:=hok.pos;have e1:jk S.n S.ts (S.l.map (·.1))=true:=by rw[elay_eq hW.pk h0 hpos];exact hok.lay.1
 have e2:jo S.n S.D S.l=true:=by rw[eeno_eq];exact hok.lay.2.1
 have lw:=hok.lw;have hlen:=Paired.eX hL;refine⟨_,rfl,va,S.f,rfl,hV,lw,hok.val.frc.1,fun H1 s1=>⟨_,rfl,iteF ?_⟩⟩;refine⟨_,rfl,_,rfl,a,la,S.n,S.ts,lr,S.l,rfl,hW.same s1,s1.seq hS,cP.same hL s1,hpos,fun H2 s2=>⟨_,rfl,?_⟩⟩;rw[e1];refine iteF ?_;have s12:=s1.trans s2;have W2:=hW.same s12;refine⟨_,rfl,_,rfl,a,ca,S.n.toNat,S.ts,pr,ss,ov,Z,Y,X,rfl,by rw[yeg h0];exact W2,s12.seq hC,by rw[<-ep];exact dB.same hP s12,So,hSh,fun H3 s3=>⟨_,rfl,iteF ?_⟩⟩;have oV:=s12.trans s3;have hb:=hok.frs h10;refine⟨_,rfl,_,rfl,a,la,S.n,S.ts,lr,S.l,S.D,rfl,hW.same oV,oV.seq hS,cP.same hL oV,hok.HY,hb,fun H4 s4=>⟨_,rfl,?_⟩⟩;rw[e2];refine iteF ?_;have Dj:=oV.trans s4;have TQ:=Dj.seq hS;refine⟨_,rfl,la,_,rfl,TQ,fun hz=> ?_⟩;let gF:Nat->List V->St->Hp->Prop:=fun k acc σ H2=>dB K H4 acc ((S.l.take k).map (·.2))/\H2=H4/\∃o1 o2,σ=[o1,o2];refine wU (xs:=lr) gF ⟨.nil,rfl,_,_,rfl⟩ (fun k acc σ H2 _ p=>by rw[p.2.1];exact TQ) (fun k acc σ H2 hk p=> ?_) hz (fun k x acc σ H2 hx p=> ?_) (fun acc σ H2 p=> ?_)
 ·have:=Paired.eX p.1;rw[aJ,rK]at this;omega
 ·obtain⟨hd,rfl,o1,o2,rfl⟩:=p;have hk:k<S.l.length:=by rw[<-hlen];exact(nF.mp hx).1
  obtain⟨q0,hq0,hR⟩:=Paired.at_ hL hx;rw[dF hk]at hq0;cases hq0;obtain⟨tr,sa,fa,rfl,k1,k2,k3⟩:=hR;refine⟨tr,_,rfl,Dj.tup k1,rfl,_,_,rfl,_,_,rfl,rfl,?_⟩;refine⟨_,rfl,?_,rfl,_,_,rfl⟩;rw[sI,dF hk,bL];exact Paired.snoc hd ⟨fa,rfl,Dj.tup k3⟩
 intro p1 hp1;obtain⟨hd,rfl,_⟩:=p;rw[hlen,qm]at hd;have n1:=aM hp1 (.lst acc);refine⟨p1,acc,_,S.D,rfl,SqL.of aB,dB.same hd n1,hok.HY,hb,fun r H5 u v s5 hf l2=> ?_⟩;have lo:=Ko hW.pk h0 hok.val hok.HY e1 e2;have up:=hok.lay.2.2;have ev:=yh lw hok.HY.pos l2 (wes up lo);rw[ev]at hf;have s15:=Dj.trans (n1.trans s5);have hV5:=s15.tup hV;refine⟨_,rfl,zj S.f,zj S.f,p8.dv hf,p8.dv hV5,iy _,iy _,tE _ _,?_⟩;rw[frD_eq];refine⟨_,rfl,iteT ?_⟩;have so:dI ov (gq S.n.toNat ov X)=Z:=by
  have e:=FZ (wl:=cD S.n.toNat) (X:=X) hSh.pos S.n.toNat;rw[hSh.wor]at e;rw[<-e];unfold gq;congr 1;refine Uk fun p hp=> ?_;rw[wX (jZ.mp hp),Cj]
 have zb:Z<=1000000000000000000000000000000:=by
  have a1:Z<=(S.n.toNat:Int)*(ov:Int):=by
   rw[<-hSh.wor];refine La _ fun p hp=> ?_;rw[wX hp,Cj];have sk:kj S.ts false S.n.toNat [(p:Int)]:=⟨Pu _ _,fun x hx=>by rw[gY.mp hx];omega,fun x hx y hy hn=>absurd ((gY.mp hx).trans (gY.mp hy).symm) hn⟩;have:=qR So hSh sk;rw[Sx.dg (j:=p) _ hp fun i _ hi=>aA (by simp;omega),aF (by simp)]at this;exact this
  have big:=hSh.big;have z2:(S.n.toNat:Int)*(ov:Int)<=10*39916800:=wey (by omega) (by omega) (by omega) (by decide);omega
 refine⟨_,rfl,ca,pr,gq S.n.toNat ov X,ov,rfl,s15.seq hC,by rw[<-ep];exact dB.same hP s15,Qv hSh.pos hSh.big hSh.xn,by rw[so];exact zb,fun r2 H6 u2 v2 s6 hf2 l3=> ?_⟩;rw[so]at l3;have ev2:(u2,v2)=S.f:=by
  have lf:=Ca Z hSh.pos;refine yh lw hSh.pos l3 ?_;rw[ef,lf.eq]
 rw[ev2]at hf2;refine⟨_,rfl,zj S.f,zj S.f,p8.dv hf2,p8.dv (s6.tup hV5),iy _,iy _,tE _ _,?_⟩;rw[frD_eq];exact qq H6 (s15.trans s6)
end
section
variable{K:W.Frag}{H:Hp}{t:Bool->L0}
theorem YS{x:V}{q:List Int×(Int×Nat)}(h:Fo K H x q):DV K H x (fj q):=by
 obtain⟨t,sa,fa,rfl,h1,h2,h3⟩:=h;exact .tup h1 (.cons (.tup h2 (cN.ints _)) (.cons (.tup h3 (.cons (.int _) (.cons (.int _) .nil))) .nil))
theorem uJ:∀{vs:List V} {l:List (List Int×(Int×Nat))},cP K H vs l->cN K H vs (l.map fj)
 |_,_,.nil=> .nil
 |_,_,.cons h t=> .cons (YS h) (uJ t)
end
theorem WL(q:List Int×(Int×Nat)):PyData.eqv (fj q) (fj q)=true:=by
 show(PyData.eqv (tI q.1) (tI q.1)&&(PyData.eqv (zj q.2) (zj q.2)&&PyData.eqvAll [] []))=true;rw[show PyData.eqv (tI q.1) (tI q.1)=decide (q.1=q.1)from qM q.1 q.1,cL rfl,frD_eq];simp[PyData.eqvAll]
theorem HW:∀l:List (List Int×(Int×Nat)),PyData.eqvAll (l.map fj) (l.map fj)=true
 |[]=>by simp[PyData.eqvAll]
 |q::l=>by
  show(PyData.eqv (fj q) (fj q)&&PyData.eqvAll (l.map fj) (l.map fj))=true;rw[WL,HW l];rfl
theorem Hu:∀l:List (List Int×(Int×Nat)),PyData.canLayAll0 (l.map fj)=true
 |[]=>rfl
 |q::l=>by
  show((fj q).canLay0&&PyData.canLayAll0 (l.map fj))=true;rw[Hu l];show((PyData.canLayAll0 (q.1.map PyData.int)&&true)&&true)=true;rw[Ik];rfl
theorem Ia:∀l:List (List Int×(Int×Nat)),PyData.depthAll (l.map fj)<=2
 |[]=>dX _
 |q::l=>by
  have:=Ia l;have d:=uP q.1;show max (max (PyData.depthAll (q.1.map PyData.int)+1) (max (max 0 (max 0 0)+1) 0)+1) (PyData.depthAll (l.map fj))<=2;omega
theorem tY{H H1:Hp}{r:Addr}{o:HO}(s:Same H H1)(n:H r=none):Same H (upd H1 r o):=fun b u e=>by
 rw[cW (fun z=>by rw[z,n]at e;cases e)];exact s _ _ e
end Hs
namespace L2
open PySem PySem.Spec PyProof.Rows
section
variable{X:Cx}
noncomputable def YH(i j l:Nat)(ta:TA):TS:=fun D σ H=>ta σ H fun vs H1=>∃v w u,vs=[v,w,u]/\D.nx (((σ.set l (some u)).set j (some w)).set i (some v)) H1
theorem Qt{i j l:Nat}{x y z:Str}{a b c:Expr}{ta:TA}{px py pz pt:Pos}{kt k2 pt2}{pos:Pos}(hc:X.calm=true)(hN:X.N.Nodup)(hi:X.N[i]? =some x)(hj:X.N[j]? =some y)(hl:X.N[l]? =some z)(hx:X.env.scope.names.lookup x=some .local)(hy:X.env.scope.names.lookup y=some .local)(hz:X.env.scope.names.lookup z=some .local)(ha:PA X [a,b,c] ta)(hw:swappedStores [.Tuple [.Name x px,.Name y py,.Name z pz] kt pt] (.Tuple [a,b,c] k2 pt2) X.env=pure (some [x,y,z]))(hs:swapsWithSole [.Tuple [.Name x px,.Name y py,.Name z pz] kt pt] (.Tuple [a,b,c] k2 pt2) pos.line X.env=pure false:=by rfl):
  PS X (.Assign [.Tuple [.Name x px,.Name y py,.Name z pz] kt pt] (.Tuple [a,b,c] k2 pt2) pos) (YH i j l ta):=by
 intro pins s σ H D I h;rw[exec_Assign_arm];refine bK (Yw ?_);rw[hs];refine bK (gQ ?_);rw[aA (by decide)];refine bK (Tuple_ (thn (ha _ pins s σ H _ I h) fun us s1 ⟨vs,H1,I1,r1,q1⟩=> ?_));obtain⟨v,w,u,e1,q1⟩:=q1;subst e1;obtain⟨u1,u2,u3,rfl,rv,rw',ru⟩:∃u1 u2 u3,us=[u1,u2,u3]/\RelV v u1/\RelV w u2/\RelV u u3:=by
  cases r1 with
  |cons p q=>
   cases q with
   |cons p' q'=>
    cases q' with
    |cons p'' q''=>
     cases q'';exact⟨_,_,_,rfl,p,p',p''⟩
 refine S8 ?_ (by show 3<=sizeLine;decide);have I2:Inv X pins σ H1 {s1 with heap:=s1.heap.push {cls:= .type "tuple",data:= .seq [u1,u2,u3].toArray}}:=I1.kept (t':=s1.toks) fun b o e=>kZ _ e;rw[hw];refine bK (gQ ?_);show wpAny (model X.prog X.w) X.A (do rule "assign.swapped-stores";let items<-unpackItems (.ref s1.heap.objs.size) 3 none;assignInOrder [fun v=>bindName X.env z v,fun v=>bindName X.env y v,fun v=>bindName X.env x v] items.reverse;pure Flow.next) _ _ _;refine bK (wpAny_rule (bK (unpackItems_tuple (items:=#[u1,u2,u3]) (I.ok.hd hc) (Ur s1.heap _) fun h' hx'=> ?_)));have I3:=I2.kept (h':=h') (t':=s1.toks) fun b o e=>hx' b o (iZ (fV e)) e;show wpAny _ _ (assignInOrder [fun v=>bindName X.env z v,fun v=>bindName X.env y v,fun v=>bindName X.env x v] [u3,u2,u1]>>=fun _=>pure Flow.next) _ _ _;refine bK (Xr (Yx (store_ok I3 hN hl (.inl hz) ru (fun s2 I4=> ?_) (.inr hz))));refine Xr (Yx (store_ok I4 hN hj (.inl hy) rw' (fun s3 I5=> ?_) (.inr hy)));exact Xr (Yx (store_ok I5 hN hi (.inl hx) rv (fun s4 I6=>assignInOrder_nil (gQ ⟨_,H1,I6,q1⟩)) (.inr hx)))
end
end L2
namespace Hs
open PySem L2 oJ
section
variable{P:ξ}{w:τ}{K:W.Frag}{mg:L5}{base:Heap}
noncomputable def Kq(K:W.Frag):Sp:=fun vs H Q _=>∃(cp bh:Addr) (ns:List Int) (b:Int),vs=[.ref cp]/\cQ K H cp bh ns b/\b<=800000000/\
 ∀r ts H',aD cp H H'->cQ K H' cp bh ns (b+120)->aO K H' r 9 ts->Q (.ref r) H'
theorem QC{f f1:Addr}{fd d1:ρ}(F:Fun K "_law_e_wide_web" "_law_e_wide_web" zdh f fd)(D1:bC K mg "_law_e_dip" Ub ["cup","many"] f1 d1)(G1:FnOk P w K mg base CX0 2 f1 d1 ["cup","many"] (wz K))(aK:mg "range"=none)(aH:mg "tuple"=none):
  FnOk P w K mg base CX0 3 f fd ["cup"] (Kq K):=by
 refine F.bZ ["cup","often","ties","i","j"] fun cdv A outer s H vs Q E hr h=> ?_;obtain⟨cp,bh,ns,b,rfl,hC,hb,q⟩:=h;refine⟨_,(aL (pS 1 (bA nu ao (pc G1 hr D1 (aj (pv 0) (aj ao ak))))) (aL (pS 2 (pe_lst ak)) (aL (ps_for wZ rfl (Io rfl aK (aj ao ak)) (pG 3) (aR (ps_for wZ rfl (pi_range2 rfl aK (aj (bA nu (pv 3) ao) (aj ao ak))) (pG 4) (aR (dZ (cR op_lt (pc G1 hr D1 (aj (pv 0) (aj ao ak))) (pv 1)) (aR (qj (pe_bm Qg wbg wbh mt_append (pv 2) (aj (dW (aj (pv 3) (aj (pv 4) ak))) ak)))) eG))))) (aR (bB (dW (aj ao (aj (pT Ci aH (aj (pv 2) ak)) ak)))))))),?_⟩;have hn0:(0:Int)<=9:=by decide
 have hn1:(9:Int)<=10:=by decide
 refine⟨_,rfl,cp,bh,ns,2,b,rfl,hC,by omega,by decide,by decide,fun o H1 Zt ho1 x1 c1=>⟨_,_,rfl,rfl,?_⟩⟩;refine⟨(by show 0<=sizeLine;decide),fun tl htl=> ?_⟩;obtain⟨zs,hz⟩:=c1.lst;have s2:=aM htl (.lst []);have VB:tl≠cp:=cF hz htl;have tl0:H tl=none:=x1.free VB htl;refine⟨9,rfl,by decide,by decide,?_⟩;refine Ph (n:=9) (fun i σ H'=>aD cp H H'/\cQ K H' cp bh ns (b+1+10*(i:Int))/\dY K H' tl (rows tt 9 i) (fun _=>True)/\∃a4 a5,σ=[some (.ref cp),some (.int (4+o)),some (.ref tl),a4,a5])
  ⟨x1.trans (s2.x _),(c1.same s2).mono (by omega),dY.nil aB,_,_,rfl⟩ (fun i σ H' hi p=> ?_) (fun σ H' p=> ?_)
 ·obtain⟨x,c,tl1,a4,a5,rfl⟩:=p;refine⟨_,rfl,_,_,rfl,rfl,_,_,rfl,⟨by omega,by omega,by omega,by omega⟩,?_⟩;refine Ph (n:=(9-(0+(i:Int)+1)).toNat) (fun k σ H'=>aD cp H H'/\cQ K H' cp bh ns (b+1+10*(i:Int)+(k:Int))/\dY K H' tl (rows tt 9 i++row tt (0+(i:Int)) k) (fun _=>True)/\∃a5,σ=[some (.ref cp),some (.int (4+o)),some (.ref tl),some (.int (0+(i:Int))),a5])
   ⟨x,c.mono (by omega),by rw[show row tt (0+(i:Int)) 0=[]from rfl,zx];exact tl1,_,rfl⟩ (fun k σ H' hk p=> ?_) (fun σ H' p=> ?_)
  ·obtain⟨x,c,tl1,a5,rfl⟩:=p;refine⟨_,rfl,cp,bh,ns,6,_,rfl,c,by omega,by decide,by decide,fun d H2 hd0 hd1 x2 c2=>⟨_,rfl,_,_,rfl,rfl,_,rfl,?_⟩⟩;obtain⟨zs,hz⟩:=c.lst;have YD:=tl1.step x2 hz VB;have er:rows tt 9 i++row tt (0+(i:Int)) (k+1)=(rows tt 9 i++row tt (0+(i:Int)) k)++[(0+(i:Int),0+(i:Int)+1+(k:Int))]:=by rw[uc,aF (show tt _ _=true from rfl),wcb]
   have ec:b+1+10*(i:Int)+((k+1:Nat):Int)=b+1+10*(i:Int)+(k:Int)+1:=by omega
   rw[er,ec];refine ite2 (fun cc=> ?_) (fun cc=> ?_)
   ·obtain⟨rs,ts,h1,h2,h3,h4⟩:=YD;have hl:=sub_len hn1 (by omega) h3;have hrl:=h2.len;rw[aJ]at hrl;refine⟨_,rfl,.inl ⟨rfl,_,SqL.of h1⟩,_,rfl,_,rfl,(by show 2<=sizeLine;decide),fun p hp=> ?_⟩;have s3:=aM hp (.tup [.int (0+(i:Int)),.int (0+(i:Int)+1+(k:Int))]);refine⟨tl,rs,_,rfl,rfl,s3 _ _ h1,(by rw[gR];omega),?_⟩;have xw:aD tl (upd H2 p (.tup [.int (0+(i:Int)),.int (0+(i:Int)+1+(k:Int))])) (upd (upd H2 p (.tup [.int (0+(i:Int)),.int (0+(i:Int)+1+(k:Int))])) tl (.lst (rs++[.ref p]))):=(aD.refl _ _).upd;refine⟨fun q o hq e=> ?_,(c2.same s3).other xw (s3 _ _ h1) VB.symm,dY.push (s3 _ _ h1) (h2.same s3) h3 h4 (SqT.of aB) trivial,_,rfl⟩;have nq:q≠tl:=fun z=>by rw[z,tl0]at e;cases e
    exact xw _ _ nq (s3 _ _ (x2 _ _ hq (x _ _ hq e)))
   ·exact⟨x.trans x2,c2,YD.mono (wbp _ _),_,rfl⟩
  ·obtain⟨x,c,tl1,a5,rfl⟩:=p;rw[<-jd]at tl1;exact⟨x,c.mono (by omega),tl1,_,_,rfl⟩
 ·obtain⟨x,c,⟨rs,ts,h1,h2,h3,h4⟩,a4,a5,rfl⟩:=p;refine⟨_,rfl,tl,rs,rfl,.inl ⟨SqL.of h1,fun t ht=>⟨(by show 2<=sizeLine;decide),fun wb uK=> ?_⟩⟩⟩;have s3:=aM ht (.tup rs);have s4:=aM uK (.tup [.int 9,.ref t]);have U6:=s3.trans s4;obtain⟨g1,g2⟩:=tL hn0 hn1 h3;exact q wb ts _ (x.trans (U6.x _)) ((c.same U6).mono (by omega)) ⟨⟨t,rs,SqT.of aB,SqT.of (s4 _ _ aB),h2.same U6⟩,hn0,hn1,g1,g2⟩
noncomputable def FJ(n:Int)(ts:L0):gO->Prop
 | .tie i j=>Two n i j/\(lo2 i j,hi2 i j)∈ts
 | .wg i j=>Two n i j/\(lo2 i j,hi2 i j)∉ts
 |_=>False
noncomputable def K5(K:W.Frag):Sp:=fun vs H Q _=>∃(da wb:Addr) (n:Int) (ts:L0) (d:gO),vs=[.ref da,.ref wb]/\aO K H wb n ts/\dU K H da d/\FJ n ts d/\
 ∀r ea wa e n' ts' H',Same H H'->SqT K H' r [.ref ea,.ref wa]->dU K H' ea e->JL n ts e->aO K H' wa n' ts'->OD n n' ts ts' e->Q (.ref r) H'
theorem Rb{f:Addr}{fd:ρ}(F:Fun K "_law_e_back" "_law_e_back" jH f fd)(pJ:mg "min"=none)(uF:mg "max"=none)(aH:mg "tuple"=none)(cX:mg "sorted"=none):
  FnOk P w K mg base CX0 1 f fd ["deed","web"] (K5 K):=by
 refine F.bZ ["deed","web","pair"] fun cdv A outer s H vs Q E hr h=> ?_;obtain⟨da,wb,n,ts,d,rfl,hW,hD,hB,qq⟩:=h;refine⟨_,(aL (pS 2 (dW (aj (pB (call_min2 rfl) pJ (aj (aQ bD (pv 0) ao) (aj (aQ bD (pv 0) ao) ak))) (aj (pB (call_max2 rfl) uF (aj (aQ bD (pv 0) ao) (aj (aQ bD (pv 0) ao) ak))) ak)))) (aL (dZ (cR op_eq (aQ bD (pv 0) ao) pe_str) (aR (bB (dW (aj (dW (aj pe_str (aj (aQ bD (pv 0) ao) (aj (aQ bD (pv 0) ao) ak)))) (aj (dW (aj (aQ bD (pv 1) ao) (aj (pT Ci aH (aj (pK ["tie"] ["pair"] [2] (BW (aQ bD (pv 1) ao)) (pG 0) (BX (cR (xQ K hr.units) (pv 0) (pv 1))) (pv 0)) ak)) ak))) ak))))) eG) (aR (bB (dW (aj (dW (aj pe_str (aj (aQ bD (pv 0) ao) (aj (aQ bD (pv 0) ao) ak)))) (aj (dW (aj (aQ bD (pv 1) ao) (aj (pT Ci aH (aj (pB nM cX (aj (bA xV (aQ bD (pv 1) ao) (dW (aj (pv 2) ak))) ak)) ak)) ak))) ak))))))),?_⟩;have h0:=hW.h0;have h10:=hW.h1;have XD:=hW.len;obtain⟨tt,rr,w1,w2,w3⟩:=id hW.web;obtain⟨its,rfl,iU,w4⟩:=gB w3;have lits:its.length=ts.length:=by rw[<-iU,aJ]
 have YC:∀{i j:Int},Two n i j->Two n j i:=fun⟨a,b,c,e,f⟩=>⟨c,e,a,b,fun z=>f z.symm⟩;cases d with
 |put xs=>exact hB.elim
 |drop=>exact hB.elim
 |tie i j=>
  obtain⟨two,hin⟩:=hB;refine⟨_,rfl,da,_,_,.int i,rfl,rfl,hD,rfl,_,rfl,da,_,_,.int j,rfl,rfl,hD,rfl,i,j,rfl,_,rfl,da,_,_,.int i,rfl,rfl,hD,rfl,_,rfl,da,_,_,.int j,rfl,rfl,hD,rfl,i,j,rfl,(by show 2<=sizeLine;decide),fun pp hpp=> ?_⟩;have m1:=aM hpp (.tup [.int (lo2 i j),.int (hi2 i j)]);have hP:SqT K (upd H pp (.tup [.int (lo2 i j),.int (hi2 i j)])) pp [.int (lo2 i j),.int (hi2 i j)]:=SqT.of aB;have hD1:=m1.tup hD;show gName _ _ _ (upd H pp (.tup [.int (lo2 i j),.int (hi2 i j)])) _;generalize (upd H pp (.tup [.int (lo2 i j),.int (hi2 i j)]))=G1 at *;refine⟨_,rfl,da,_,_,.str "tie",rfl,rfl,hD1,rfl,rfl,_,rfl,?_⟩;refine ite2 (fun _=> ?_) (fun c=>absurd rfl (JV (Xq _▸c)));refine⟨_,rfl,da,_,_,.int j,rfl,rfl,hD1,rfl,_,rfl,da,_,_,.int i,rfl,rfl,hD1,rfl,(by show 3<=sizeLine;decide),fun q1 hq1=> ?_⟩;have m2:=aM hq1 (.tup [.str "untie",.int j,.int i]);have hE:dU K (upd G1 q1 (.tup [.str "untie",.int j,.int i])) q1 (.wg j i):=SqT.of aB;have Ri:=m1.trans m2;have hP2:=m2.tup hP;generalize (upd G1 q1 (.tup [.str "untie",.int j,.int i]))=G2 at *;have w15:=Ri.tup w1;have w25:=Ri.tup w2;have Qh:∀p∈its,SqT K G2 p.1 ((pl p.2).map V.int):=fun p hp=>Ri.tup (w4 p hp);refine⟨_,rfl,wb,_,_,.int n,rfl,rfl,w15,rfl,_,rfl,wb,_,_,.ref tt,rfl,rfl,w15,rfl,tt,_,rfl,w25,fun hz=> ?_⟩;refine BZ (xs:=its.map fun p=>V.ref p.1) (fun k acc σ H'=>acc=((its.take k).filter fun p=> !decide (p.2=(lo2 i j,hi2 i j))).map (fun p=>V.ref p.1)/\H'=G2/\∃o,σ=[o,some (.ref pp)]) ⟨rfl,rfl,_,rfl⟩ (fun i acc σ H' _ p=>by rw[p.2.1];exact w25) (fun i acc σ H' hi p=> ?_) hz (fun k x acc σ H' hx p=> ?_) (fun acc σ H' p=> ?_)
  ·rw[p.1,aJ];exact cT (vC _ _) (by rw[rK];exact Cm _ _)
  ·obtain⟨rfl,rfl,o',rfl⟩:=p;rw[dJ]at hx;cases ex:its[k]? with
   |none=>rw[ex]at hx;cases hx
   |some it=>
    rw[ex]at hx;cases hx;have hit:=Qh it (sO ex);have go:(its.take (k+1)).filter (fun p=> !decide (p.2=(lo2 i j,hi2 i j)))=(its.take k).filter (fun p=> !decide (p.2=(lo2 i j,hi2 i j)))++(if(!decide (it.2=(lo2 i j,hi2 i j)))=true then[it]else[]):=by
     rw[sI,ex,Cq];congr 1;show List.filter _ [it]=_;rw[Cp];rfl
    refine⟨_,rfl,_,rfl,pairD it.2,pairD (lo2 i j,hi2 i j),.tup hit (.cons (.int _) (.cons (.int _) .nil)),.tup hP2 (.cons (.int _) (.cons (.int _) .nil)),rfl,rfl,(by show min (max 0 (max 0 0)+1) (max 0 (max 0 0)+1)<=64;decide),_,rfl,?_⟩;rw[jj];refine ite2 (fun c=> ?_) (fun c=> ?_)
    ·exact⟨_,rfl,by rw[go,aF c,bL];rfl,rfl,_,rfl⟩
    ·exact⟨by rw[go,aA c,zx],rfl,_,rfl⟩
  intro p1 hp1;obtain⟨rfl,rfl,_⟩:=p;rw[aJ,qm];generalize uL:its.filter (fun p=> !decide (p.2=(lo2 i j,hi2 i j)))=jts at *;have jm:jts.map (·.2)=ts.filter fun p=> !decide (p=(lo2 i j,hi2 i j)):=by
   rw[<-uL,<-iU,wde];rfl
  have n1:=aM hp1 (.lst (jts.map fun p=>V.ref p.1));refine⟨p1,_,rfl,.inl ⟨SqL.of aB,fun t1 ht1=>⟨(by show 2<=sizeLine;decide),fun rA uK=>⟨(by show 2<=sizeLine;decide),fun r hr=> ?_⟩⟩⟩⟩;have n2:=aM ht1 (.tup (jts.map fun p=>V.ref p.1));have n3:=aM uK (.tup [.int n,.ref t1]);have n4:=aM hr (.tup [.ref q1,.ref rA]);have n13:=n1.trans (n2.trans n3);have Dv:=gw (K:=K) jts (fun p hp=>n13.tup (Qh p (by rw[<-uL]at hp;exact(fL.mp hp).1)));rw[jm]at Dv;have ok:=tK (n:=n) h0 h10 (hW.zF.filter _) fun p (hp:p∈ts.filter fun p=> !decide (p=(lo2 i j,hi2 i j)))=>hW.pk.lt p (fL.mp hp).1;have n14:=n13.trans n4;have W:aO K _ rA n _:=⟨⟨t1,_,SqT.of aB,SqT.of (n3 _ _ aB),Dv⟩,h0,h10,ok.1,ok.2⟩;exact qq r q1 rA (.wg j i) n _ _ (Ri.trans n14) (SqT.of aB) (hE.tk n14.tk) ⟨YC two,by rw[pQ,pR];exact hin⟩ (W.same n4) ⟨rfl,fun p=>by rw[fL,Qe,Xu,pQ,pR]⟩
 |wg i j=>
  obtain⟨two,hin⟩:=hB;have lh:=V8 two.1 two.2.1 two.2.2.1 two.2.2.2.1 two.2.2.2.2;refine⟨_,rfl,da,_,_,.int i,rfl,rfl,hD,rfl,_,rfl,da,_,_,.int j,rfl,rfl,hD,rfl,i,j,rfl,_,rfl,da,_,_,.int i,rfl,rfl,hD,rfl,_,rfl,da,_,_,.int j,rfl,rfl,hD,rfl,i,j,rfl,(by show 2<=sizeLine;decide),fun pp hpp=> ?_⟩;have m1:=aM hpp (.tup [.int (lo2 i j),.int (hi2 i j)]);have hP:SqT K (upd H pp (.tup [.int (lo2 i j),.int (hi2 i j)])) pp [.int (lo2 i j),.int (hi2 i j)]:=SqT.of aB;have hD1:=m1.tup hD;show gName _ _ _ (upd H pp (.tup [.int (lo2 i j),.int (hi2 i j)])) _;generalize (upd H pp (.tup [.int (lo2 i j),.int (hi2 i j)]))=G1 at *;refine⟨_,rfl,da,_,_,.str "untie",rfl,rfl,hD1,rfl,rfl,_,rfl,?_⟩;refine ite2 (fun c=>absurd (fX c) (by decide+kernel)) (fun _=> ?_);refine⟨_,rfl,da,_,_,.int j,rfl,rfl,hD1,rfl,_,rfl,da,_,_,.int i,rfl,rfl,hD1,rfl,(by show 3<=sizeLine;decide),fun q1 hq1=> ?_⟩;have m2:=aM hq1 (.tup [.str "tie",.int j,.int i]);have hE:dU K (upd G1 q1 (.tup [.str "tie",.int j,.int i])) q1 (.tie j i):=SqT.of aB;have Ri:=m1.trans m2;have hP2:=m2.tup hP;generalize (upd G1 q1 (.tup [.str "tie",.int j,.int i]))=G2 at *;have w15:=Ri.tup w1;have w25:=Ri.tup w2;have Qh:∀p∈its,SqT K G2 p.1 ((pl p.2).map V.int):=fun p hp=>Ri.tup (w4 p hp);refine⟨_,rfl,wb,_,_,.int n,rfl,rfl,w15,rfl,_,rfl,wb,_,_,.ref tt,rfl,rfl,w15,rfl,_,rfl,(by show 1<=sizeLine;decide),fun q3 hq3=> ?_⟩;have n2:=aM hq3 (.tup [.ref pp]);refine⟨tt,q3,_,_,rfl,rfl,n2.tup w25,SqT.of aB,by rw[aJ,gR];show its.length+1<=_;omega,fun ca G4 n3 ec1=> ?_⟩;have n23:=n2.trans n3;have jT:∀p∈its++[(pp,(lo2 i j,hi2 i j))],SqT K G4 p.1 ((pl p.2).map V.int):=fun p hp'=>by
   rcases nA.mp hp' with z|z
   ·exact n23.tup (Qh p z)
   ·rw[gY.mp z];exact n23.tup hP2
  have hq:aN n ((its++[(pp,(lo2 i j,hi2 i j))]).map (·.2)):=by
   rw[bL,iU];refine⟨Ye.mpr ⟨hW.pk.nd,(Pu _ _),fun x hx y hy e=> ?_⟩,fun p hp'=> ?_⟩
   ·have:y=(lo2 i j,hi2 i j):=gY.mp hy;rw[e,this]at hx;exact hin hx
   ·rcases nA.mp hp' with z|z
    ·exact hW.pk.lt p z
    ·have:p=(lo2 i j,hi2 i j):=gY.mp z;rw[this];exact lh
  have ejl:(its++[(pp,(lo2 i j,hi2 i j))]).length<=46:=by rw[ql];show _+1<=_;omega
  have ej:(its.map (fun p=>V.ref p.1))++[V.ref pp]=(its++[(pp,(lo2 i j,hi2 i j))]).map fun p=>V.ref p.1:=by rw[bL];rfl
  rw[ej]at ec1;have JX:((its++[(pp,(lo2 i j,hi2 i j))]).map (·.2))=ts++[(lo2 i j,hi2 i j)]:=by rw[bL,iU];rfl
  generalize its++[(pp,(lo2 i j,hi2 i j))]=jts at *;refine⟨ca,jts.map (fun p=>(p.1,pl p.2)),rfl,by rw[vA];exact ec1,fun p hp'=> ?_,by rw[aJ];omega,fun l1 its' hl1 hperm lQ=> ?_⟩
  ·obtain⟨p',hp'',rfl⟩:=jY.mp hp';exact⟨jT p' hp'',by unfold pl;simp⟩
  have n4:=aM hl1 (.lst (its'.map fun p=>V.ref p.1));refine⟨l1,_,rfl,.inl ⟨SqL.of aB,fun t1 ht1=>⟨(by show 2<=sizeLine;decide),fun rA uK=>⟨(by show 2<=sizeLine;decide),fun r hr=> ?_⟩⟩⟩⟩;have n5:=aM ht1 (.tup (its'.map fun p=>V.ref p.1));have n6:=aM uK (.tup [.int n,.ref t1]);have n7:=aM hr (.tup [.ref q1,.ref rA]);have n46:=n4.trans (n5.trans n6);obtain⟨us,W,GJ⟩:=zE (K:=K) (n:=n) h0 h10 hq hperm lQ (fun p hp'=>n46.tup (jT p hp')) (SqT.of aB) (SqT.of (n6 _ _ aB));rw[JX]at GJ;have n27:=n23.trans (n46.trans n7);exact qq r q1 rA (.tie j i) n us _ (Ri.trans n27) (SqT.of aB) (hE.tk n27.tk) ⟨YC two,by rw[pQ,pR];exact hin⟩ (W.same n7) ⟨rfl,fun p=>by rw[GJ.mem_iff,nA,gY,pQ,pR]⟩
structure W9(l:List (List Int×(Int×Nat)))(D:Nat):Prop where
 HY:Ce D (l.map (·.2))
 pos:∀q∈l,Lw q.2/\0<q.2.1
 big:dI D (l.map (·.2))<=1000000000000000000000000000000
theorem Oj{n:Int}{ts:L0}{l:List (List Int×(Int×Nat))}{D:Nat}{f:Int×Nat}(hp:aN n ts)(h0:0<=n)(hq:∀q∈l,Lw q.2/\0<q.2.1):j8 n ts (cD n.toNat) D (l.map fj) f.1 f.2=(jk n ts (l.map (·.1))&&(jo n D l&&decide (dI D (l.map (·.2))*(f.2:Int)<=f.1*(D:Int)))):=by
 unfold j8;rw[lB,elay_eq hp h0 hq,eeno_eq]
theorem Kp{S:Int}{D:Nat}{f:Int×Nat}{u:Int}{v:Nat}(hl:Lw f)(hD:0<D)(l:Low S D u v)(lo:f.1*(D:Int)<=S*(f.2:Int)):PyData.eqv (zj (u,v)) (zj f)=decide (S*(f.2:Int)<=f.1*(D:Int)):=by
 by_cases c:S*(f.2:Int)<=f.1*(D:Int)
 ·rw[yh hl hD l (wes c lo),frD_eq,cL c]
 ·rw[fO c,show PyData.eqv (zj (u,v)) (zj f)=decide ([u,(v:Int)]=[f.1,(f.2:Int)])from qM _ _];refine fO fun z=>c ?_;injection z with z1 z2
  injection z2 with z2 _
  have e:=l.eq;rw[z1,z2]at e;rw[e];exact tH _
theorem sY(l:List (List Int×(Int×Nat))):(PyData.list (l.map fj)).canLay0=true:=Hu l
theorem Hw(l m:List (List Int×(Int×Nat))):min (PyData.list (l.map fj)).depth (PyData.list (m.map fj)).depth<=64:=by
 have h:=Ia l;show min (PyData.depthAll (l.map fj)+1) _<=64;omega
theorem Hv(l:List (List Int×(Int×Nat))):PyData.eqv (.list (l.map fj)) (.list (l.map fj))=true:=HW l
noncomputable def Eld(K:W.Frag)(H:Hp)(ev:V)(ot:Int)(S:Sd):Prop:=(ev= .non/\S.t=ot)\/∃el rs l D,ev= .ref el/\H el=some (.lst rs)/\cP K H rs l/\W9 l D/\((S.t=ot/\S.l=l/\j8 S.n S.ts (cD S.n.toNat) D (l.map fj) S.f.1 S.f.2=true)\/(S.t=ot+1/\j8 S.n S.ts (cD S.n.toNat) D (l.map fj) S.f.1 S.f.2=false))
theorem Eld.same{H H':Hp}{ev:V}{ot:Int}{S:Sd}(h:Eld K H ev ot S)(s:Same H H'):Eld K H' ev ot S:=by
 rcases h with h|⟨el,rs,l,D,h1,h2,h3,h4,h5⟩
 ·exact .inl h
 ·exact .inr ⟨el,rs,l,D,h1,s _ _ h2,h3.same s,h4,h5⟩
theorem same_none{H H':Hp}{a:Addr}(s:Same H H')(h:H' a=none):H a=none:=by
 cases e:H a with
 |none=>rfl
 |some u=>have:=s _ _ e;rw[h]at this;cases this
noncomputable def Gk(K:W.Frag)(C:Addr):Sp:=fun vs H Q _=>∃(o wb:Addr) (ev:V) (ot:Int) (S:Sd),vs=[.ref o,.ref wb,ev,.int ot]/\dG K C H o S/\cO S/\aO K H wb S.n S.ts/\Eld K H ev ot S/\
 ∀r lr rs H',Same H H'->SqT K H' r [.ref lr,.int S.t]->H' lr=some (.lst rs)->cP K H' rs S.l->H lr=none->Q (.ref r) H'
theorem Li:FnScope ["sharing","web","elder","often","told","worth","laying","costs","good","due","again"] ["sharing","web","elder","often"] (defScope zbp):=fsc
theorem Mr{f f1 f2 f3 f4 f5 f6 f7 f8 f9 C:Addr}{fd d1 d2 d3 d4 d5 d6 d7 d8 d9:ρ}(F:Fun K "_law_e_looks_right" "_law_e_looks_right" zbp f fd)
  (Na:Bt K C)(D1:oH K C "web" "Sharing.web" iM ["self"] f1 d1)(R0:FnOk P w K mg base CX0 3 f1 d1 ["self"] (CJ K C))(D2:oH K C "value" "Sharing.value" fG ["self"] f2 d2)(G2':FnOk P w K mg base CX0 4 f2 d2 ["self"] (CK K C))(D3:oH K C "laying" "Sharing.laying" zdk ["self"] f3 d3)(G3':FnOk P w K mg base CX0 4 f3 d3 ["self"] (CP K C))(D4:oH K C "prices" "Sharing.prices" zdj ["self"] f4 d4)(G4':FnOk P w K mg base CX0 4 f4 d4 ["self"] (CN K C))(D5:bC K mg "_law_e_shows" iH ["web","worth","laying","costs"] f5 d5)(G5:FnOk P w K mg base CX0 5 f5 d5 ["web","worth","laying","costs"] (zL K))(D6:bC K mg "_law_e_is_enough" zcb ["web","laying"] f6 d6)(G6:FnOk P w K mg base CX0 4 f6 d6 ["web","laying"] (CZ K))(D7:bC K mg "_law_e_is_laying" zca ["web","laying"] f7 d7)(G7:FnOk P w K mg base CX0 3 f7 d7 ["web","laying"] (CW K))(D8:bC K mg "_law_e_sum" eO ["parts"] f8 d8)(G8:FnOk P w K mg base CX0 3 f8 d8 ["parts"] (xr K))(D9:oH K C "again" "Sharing.again" fJ ["self"] f9 d9)(G9':FnOk P w K mg base CX0 1 f9 d9 ["self"] (KH K C))(au:mg "isinstance"=none)(aH:mg "tuple"=none)(wF:mg "int"=none)(uG:mg "bool"=none):
  FnOk P w K mg base CX0 6 f fd ["sharing","web","elder","often"] (Gk K C):=by
 have G1:FnOk P w K mg base CX0 5 f1 d1 ["self"] (CJ K C):=R0.mono (by decide);have G2:FnOk P w K mg base CX0 5 f2 d2 ["self"] (CK K C):=G2'.mono (by decide);have G3:FnOk P w K mg base CX0 5 f3 d3 ["self"] (CP K C):=G3'.mono (by decide);have G4:FnOk P w K mg base CX0 5 f4 d4 ["self"] (CN K C):=G4'.mono (by decide);have G9:FnOk P w K mg base CX0 5 f9 d9 ["self"] (KH K C):=G9'.mono (by decide);refine F.bZ ["sharing","web","elder","often","told","worth","laying","costs","good","due","again"] fun cdv A outer s H vs Q E hr h=> ?_;obtain⟨o,wb,ev,ot,S,rfl,hS,hok,hW,hE,qq⟩:=h;refine aW ?_;intro Y;refine⟨_,(aL (pS 4 (JQ (pv 0) Na.c D1.m G1 hr D1.b .nil pass0)) (aL (dZ (PW.pt (qg (kY (iY (pB wR au (aj (pv 4) (aj (pN "tuple" aH) ak))))) (yV (cR (xR hr.units) (pv 4) (pv 1))))) (aR (bB pe_non)) eG) (aL (Qt (i:=5) (j:=6) (l:=7) rfl Li.nd rfl rfl rfl rfl rfl rfl (aj (JQ (pv 0) Na.c D2.m G2 hr D2.b .nil pass0) (aj (JQ (pv 0) Na.c D3.m G3 hr D3.b .nil pass0) (aj (JQ (pv 0) Na.c D4.m G4 hr D4.b .nil pass0) ak))) rfl) (aL (dZ (kY (iY (pc G5 hr D5 (aj (pv 1) (aj (pv 5) (aj (pv 6) (aj (pv 7) ak))))))) (aR (bB pe_non)) eG) (aL (pS 8 (zp (wQ op_notN (pv 2) pe_non) (zp (pc G7 hr D7 (aj (pv 1) (aj (pv 2) ak))) (pe_one (pc G6 hr D6 (aj (pv 1) (aj (pv 2) ak))))))) (aL (pS 8 (zp (pv 8) (pe_one (wQ (xU hr.units) (pc G8 hr D8 (aj (pK ["some","part"] [] [] (sG (pv 2)) (JN K (n:=2) rfl (mH (pG 0) (mH (pG 1) zq))) nP (pv 1)) ak)) (pv 5))))) (aL (pS 9 (bA nu (pv 3) (pT call_int1 wF (aj (zp (wQ op_notN (pv 2) pe_non) (pe_one (pe_not (pv 8)))) ak)))) (aL (pS 10 (JQ (pv 0) Na.c D9.m G9 hr D9.b .nil pass0)) (aL (dZ (PW.pt (qg (cR op_ne (pv 10) (pv 9)) (qg (iY (pB wR au (aj (pv 10) (aj (pN "bool" uG) ak)))) (yV (PW.pt (pw_and (iY (pv 8)) (pw_and1 (cR (xR hr.units) (pv 6) (pv 2))))))))) (aR (bB pe_non)) eG) (aL (qj (pe_bm Qg wbg wbh mt_append (JQ (pv 0) Na.c D3.m G3 hr D3.b .nil pass0) (aj (dW (aj (dW (aj ao ak)) (aj (dW (aj ao (aj ao ak))) ak))) ak))) (aL (qj (pe_bm0 Qg PySem.F.slot_list_clear PySem.F.type_list_clear mt_clear (JQ (pv 0) Na.c D4.m G4 hr D4.b .nil pass0))) (aL (dZ (cR (xR hr.units) (JQ (pv 0) Na.c D3.m G3 hr D3.b .nil pass0) (pv 6)) (aR (bB pe_non)) eG) (aR (bB (dW (aj (pv 6) (aj (pv 9) ak))))))))))))))))),?_⟩;refine Wd ?_;intro c13 c12 c11 c10 c9 c8 c7 c6 c5 c4 c3 c2;have h0:=hW.h0;have h10:=hW.h1;have lw:=hok.lw;obtain⟨dx,wb0,va,lr,pr,A⟩:=id hS;refine rm (fun σ' H'=>∃r5,σ'=[some (.ref o),some (.ref wb),some ev,some (.int ot),some (.ref r5),none,none,none,none,none,none]/\Same H H'/\aO K H' r5 S.n S.ts) (fun N hN=> ?_) ?_
 ·exact⟨_,rfl,o,dx,_,rfl,A.at_,rfl,o,S,rfl,hS,fun r5 H1 s1 W5=>hN _ _ ⟨r5,rfl,s1,W5⟩⟩
 rintro σ' H1 ⟨r5,rfl,s1,W5⟩;have W1:=hW.same s1;have S1:=hS.same s1;have A1:=A.same s1
 try dsimp only
 refine rm (fun σ' H'=>σ'=[some (.ref o),some (.ref wb),some ev,some (.int ot),some (.ref r5),none,none,none,none,none,none]/\H'=H1) (fun N hN=> ?_) ?_
 ·obtain⟨tt,rr,w1,w2,w3⟩:=id W5.web;refine⟨_,rfl,.ref r5,"tuple","tuple",rfl,.inl ⟨rfl,_,w1⟩,.inr (.inr (.inl rfl)),_,rfl,?_⟩;rw[DR];refine iteF ?_;refine⟨_,rfl,_,rfl,_,_,W5.web.dv,W1.web.dv,Ht _ _,Ht _ _,Qc _ _,?_⟩;rw[RL];exact⟨_,rfl,iteF (hN _ _ ⟨rfl,rfl⟩)⟩
 rintro σ' RZ ⟨rfl,rfl⟩
 try dsimp only
 refine rm (fun σ' H'=>∃r2 r3 r4 v3 v4,σ'=[some (.ref o),some (.ref wb),some ev,some (.int ot),some (.ref r5),some (.ref r2),some (.ref r3),some (.ref r4),none,none,none]/\Same RZ H'/\p8 K H' r2 S.f/\H' r3=some (.lst v3)/\cP K H' v3 S.l/\RZ r3=none/\H' r4=some (.lst v4)/\dB K H' v4 S.ps) (fun N hN=> ?_) ?_
 ·refine⟨_,rfl,o,dx,_,rfl,A1.at_,rfl,o,S,rfl,S1,hok,fun r2 H2 s2 F2=> ?_⟩;have S2:=S1.same s2;have A2:=A1.same s2;refine⟨_,rfl,o,dx,_,rfl,A2.at_,rfl,o,S,rfl,S2,hok,fun r3 v3 H3 s3 e3 l3 n3=> ?_⟩;have S3:=S2.same s3;have A3:=A2.same s3;refine⟨_,rfl,o,dx,_,rfl,A3.at_,rfl,o,S,rfl,S3,hok,fun r4 v4 H4 s4 e4 l4 _=>⟨_,_,_,rfl,?_⟩⟩;have zf:=s3.trans s4;exact hN _ _ ⟨r2,r3,r4,v3,v4,rfl,s2.trans zf,zf.tup F2,s4 _ _ e3,cP.same l3 s4,same_none s2 n3,e4,l4⟩
 rintro σ' H2 ⟨r2,r3,r4,v3,v4,rfl,s2,F2,e3,l3,n3,e4,l4⟩
 try dsimp only
 refine rm (fun σ' H'=>σ'=[some (.ref o),some (.ref wb),some ev,some (.int ot),some (.ref r5),some (.ref r2),some (.ref r3),some (.ref r4),none,none,none]/\Same H2 H') (fun N hN=> ?_) ?_
 ·exact⟨_,rfl,_,rfl,_,rfl,_,rfl,wb,r2,r3,r4,S,v3,v4,rfl,W1.same s2,F2,SqL.of e3,l3,SqL.of e4,l4,hok,fun H5 s5=>⟨_,rfl,iteF (hN _ _ ⟨rfl,s5⟩)⟩⟩
 rintro σ' H3 ⟨rfl,s3⟩;have oV:=s2.trans s3;have YT:=s1.trans oV;have E3:=hE.same YT;have W3:=hW.same YT;have F3:=s3.tup F2;have y3:=l3.same s3;have x3:=s3 _ _ e3;have S3:=hS.same YT;clear hE S1 W1 A1 W5 F2 l3 e4 l4 s2 hS hW A s3
 try dsimp only
 refine rm (fun σ' H'=>∃g1:Bool,σ'=[some (.ref o),some (.ref wb),some ev,some (.int ot),some (.ref r5),some (.ref r2),some (.ref r3),some (.ref r4),some (.bl g1),none,none]/\Same H3 H'/\((ev= .non/\g1=false/\S.t=ot)\/∃el rs l D,ev= .ref el/\H3 el=some (.lst rs)/\cP K H3 rs l/\W9 l D/\((S.t=ot/\S.l=l/\j8 S.n S.ts (cD S.n.toNat) D (l.map fj) S.f.1 S.f.2=true)\/(S.t=ot+1/\j8 S.n S.ts (cD S.n.toNat) D (l.map fj) S.f.1 S.f.2=false))/\g1=(jk S.n S.ts (l.map (·.1))&&jo S.n D l))) (fun N hN=> ?_) ?_
 ·rcases E3 with⟨rfl,et⟩|⟨el,rs,l,D,rfl,k2,k3,k4,k5⟩
  ·refine⟨_,rfl,rfl,_,rfl,?_⟩;exact iteF (hN _ _ ⟨false,rfl,Same.refl _,.inl ⟨rfl,rfl,et⟩⟩)
  ·refine⟨_,rfl,rfl,_,rfl,iteT ?_⟩;refine⟨_,rfl,_,rfl,wb,el,S.n,S.ts,rs,l,rfl,W3,SqL.of k2,k3,k4.pos,fun H4 s4=>⟨_,rfl,?_⟩⟩;refine ite2 (fun c=> ?_) (fun c=> ?_)
   ·refine⟨_,rfl,_,rfl,wb,el,S.n,S.ts,rs,l,D,rfl,W3.same s4,SqL.of (s4 _ _ k2),k3.same s4,k4.HY,k4.big,fun H5 s5=> ?_⟩;exact hN _ _ ⟨jo S.n D l,rfl,s4.trans s5,.inr ⟨el,rs,l,D,rfl,k2,k3,k4,k5,by rw[c];rfl⟩⟩
   ·exact hN _ _ ⟨false,rfl,s4,.inr ⟨el,rs,l,D,rfl,k2,k3,k4,k5,by rw[(show jk S.n S.ts (l.map (·.1))=false from Xq _▸c)];rfl⟩⟩
 rintro σ' H4 ⟨g1,rfl,s4,hg⟩
 try dsimp only
 refine rm (fun σ' H'=>∃g:Bool,σ'=[some (.ref o),some (.ref wb),some ev,some (.int ot),some (.ref r5),some (.ref r2),some (.ref r3),some (.ref r4),some (.bl g),none,none]/\Same H4 H'/\((ev= .non/\g=false/\S.t=ot)\/∃el rs l,ev= .ref el/\H3 el=some (.lst rs)/\cP K H3 rs l/\((S.t=ot/\S.l=l/\g=true)\/(S.t=ot+1/\g=false)))) (fun N hN=> ?_) ?_
 ·rcases hg with⟨rfl,rfl,et⟩|⟨el,rs,l,D,rfl,k2,k3,k4,k5,k6⟩
  ·refine⟨_,rfl,_,rfl,?_⟩;exact iteF (hN _ _ ⟨false,rfl,Same.refl _,.inl ⟨rfl,rfl,et⟩⟩)
  ·rw[Oj W3.pk h0 k4.pos]at k5;refine⟨_,rfl,_,rfl,?_⟩;refine ite2 (fun c=> ?_) (fun c=> ?_)
   ·rw[c]at k6;have k6':=k6.symm;rw[kO]at k6';obtain⟨m1,m2⟩:=k6';rw[m1,m2]at k5;have lo:=Ko W3.pk h0 hok.val k4.HY m1 m2;have TQ:SqL K H4 el rs:=SqL.of (s4 _ _ k2);have hL4:=k3.same s4;have hlen:=Paired.eX k3;refine⟨_,rfl,el,_,rfl,TQ,fun hz=> ?_⟩;let gF:Nat->List V->St->Hp->Prop:=fun k acc σ H2=>dB K H4 acc ((l.take k).map (·.2))/\H2=H4/\∃o1 o2,σ=[o1,o2];refine wU (xs:=rs) gF ⟨.nil,rfl,_,_,rfl⟩ (fun k acc σ H2 _ p=>by rw[p.2.1];exact TQ) (fun k acc σ H2 hk p=> ?_) hz (fun k x acc σ H2 hx p=> ?_) (fun acc σ H2 p=> ?_)
    ·have:=Paired.eX p.1;rw[aJ,rK]at this;omega
    ·obtain⟨hd,rfl,o1,o2,rfl⟩:=p;have hk:k<l.length:=by rw[<-hlen];exact(nF.mp hx).1
     obtain⟨q0,hq0,hR⟩:=Paired.at_ hL4 hx;rw[dF hk]at hq0;cases hq0;obtain⟨tr,sa,fa,rfl,j1,j2,j3⟩:=hR;refine⟨tr,_,rfl,j1,rfl,_,_,rfl,_,_,rfl,rfl,?_⟩;refine⟨_,rfl,?_,rfl,_,_,rfl⟩;rw[sI,dF hk,bL];exact Paired.snoc hd ⟨fa,rfl,j3⟩
    intro p1 hp1;obtain⟨hd,rfl,_⟩:=p;rw[hlen,qm]at hd;have n1:=aM hp1 (.lst acc);refine⟨p1,acc,_,D,rfl,SqL.of aB,dB.same hd n1,k4.HY,k4.big,fun r H5 u v s5 hf l2=> ?_⟩;have s45:=n1.trans s5;refine⟨_,rfl,_,_,p8.dv hf,p8.dv ((s4.trans s45).tup F3),iy _,iy _,tE _ _,?_⟩;rw[Kp lw k4.HY.pos l2 lo];refine hN _ _ ⟨_,rfl,s45,.inr ⟨el,rs,l,rfl,k2,k3,?_⟩⟩;rw[wfe,wfe]at k5;rcases k5 with⟨z1,z2,z3⟩|⟨z1,z2⟩
    ·exact .inl ⟨z1,z2,z3⟩
    ·exact .inr ⟨z1,z2⟩
   ·have c':g1=false:=Xq _▸c;rw[c']at k6;refine hN _ _ ⟨false,rfl,Same.refl _,.inr ⟨el,rs,l,rfl,k2,k3,?_⟩⟩;rcases k5 with⟨z1,z2,z3⟩|⟨z1,z2⟩
    ·rw[<-Bool.and_assoc,<-k6]at z3;cases z3
    ·exact .inr ⟨z1,rfl⟩
 rintro σ' H5 ⟨g,rfl,s5,hg'⟩;clear hg
 try dsimp only
 refine rm (fun σ' H'=>σ'=[some (.ref o),some (.ref wb),some ev,some (.int ot),some (.ref r5),some (.ref r2),some (.ref r3),some (.ref r4),some (.bl g),some (.int S.t),none]/\H'=H5) (fun N hN=> ?_) ?_
 ·rcases hg' with⟨rfl,rfl,et⟩|⟨el,rs,l,rfl,k2,k3,k4⟩
  ·refine⟨_,rfl,_,rfl,rfl,_,rfl,?_⟩;have e:ot+(if false=true then(1:Int)else 0)=S.t:=by rw[aA (by decide),Yq,et]
   refine iteF (.inr ⟨false,rfl,_,_,rfl,rfl,hN _ _ ⟨?_,rfl⟩⟩);rw[<-e];rfl
  ·refine⟨_,rfl,_,rfl,rfl,_,rfl,?_⟩;have e:ot+(if(!g)=true then(1:Int)else 0)=S.t:=by
    rcases k4 with⟨z1,_,rfl⟩|⟨z1,rfl⟩
    ·rw[aA (by decide),Yq,z1]
    ·rw[aF (show(!false)=true from rfl),z1]
   refine iteT ⟨_,rfl,_,rfl,.inr ⟨!g,rfl,_,_,rfl,rfl,hN _ _ ⟨?_,rfl⟩⟩⟩;rw[<-e];rfl
 rintro σ' H5' ⟨rfl,rfl⟩;have Gz:=s4.trans s5;have s05:=YT.trans Gz;have S5:=S3.same Gz;obtain⟨dx5,wb5,va5,lr5,pr5,A5⟩:=id S5
 try dsimp only
 refine rm (fun σ' H'=>σ'=[some (.ref o),some (.ref wb),some ev,some (.int ot),some (.ref r5),some (.ref r2),some (.ref r3),some (.ref r4),some (.bl g),some (.int S.t),some (.int S.t)]/\H'=H5') (fun N hN=> ?_) ?_
 ·exact⟨_,rfl,o,dx5,_,rfl,A5.at_,rfl,o,S,rfl,S5,hN _ _ ⟨rfl,rfl⟩⟩
 rintro σ' H5s ⟨rfl,rfl⟩
 try dsimp only
 refine rm (fun σ' H'=>σ'=[some (.ref o),some (.ref wb),some ev,some (.int ot),some (.ref r5),some (.ref r2),some (.ref r3),some (.ref r4),some (.bl g),some (.int S.t),some (.int S.t)]/\H'=H5s) (fun N hN=> ?_) ?_
 ·refine⟨_,rfl,_,rfl,rfl,_,rfl,?_⟩;rw[cL (show V.int S.t=V.int S.t from rfl)];refine iteF ?_;refine⟨_,rfl,.int S.t,"int","bool",rfl,rfl,.inr (.inl rfl),_,rfl,?_⟩;rw[Nk];refine iteF ?_;refine⟨_,rfl,_,rfl,?_⟩;rcases hg' with⟨rfl,rfl,et⟩|⟨el,rs,l,rfl,k2,k3,k4⟩
  ·exact iteF (iteF (hN _ _ ⟨rfl,rfl⟩))
  ·rcases k4 with⟨z1,z2,rfl⟩|⟨z1,rfl⟩
   ·refine iteT ?_;refine⟨_,rfl,_,rfl,.list (S.l.map fj),.list (S.l.map fj),.lst (SqL.of (Gz _ _ x3)) (uJ (y3.same Gz)),.lst (SqL.of (Gz _ _ k2)) (uJ (by rw[z2];exact k3.same Gz)),sY _,sY _,Hw _ _,?_⟩;rw[Hv];exact⟨_,rfl,iteF (hN _ _ ⟨rfl,rfl⟩)⟩
   ·exact iteF (iteF (hN _ _ ⟨rfl,rfl⟩))
 rintro σ' H5t ⟨rfl,rfl⟩
 try dsimp only
 refine rm (fun σ' H'=>σ'=[some (.ref o),some (.ref wb),some ev,some (.int ot),some (.ref r5),some (.ref r2),some (.ref r3),some (.ref r4),some (.bl g),some (.int S.t),some (.int S.t)]/\Same H5t H') (fun N hN=> ?_) ?_
 ·refine⟨_,rfl,o,dx5,_,rfl,A5.at_,rfl,o,S,rfl,S5,hok,fun r8 v8 H8 s8 e8 l8 n8=>⟨.inl ⟨rfl,_,SqL.of e8⟩,(by show 1<=sizeLine;decide),fun q9 hq9=>⟨(by show 2<=sizeLine;decide),fun q10 aa8=>⟨(by show 2<=sizeLine;decide),fun q11 aa7=> ?_⟩⟩⟩⟩;have m9:=(aM hq9 (.tup [.int 0])).trans ((aM aa8 (.tup [.int 1,.int 1])).trans (aM aa7 (.tup [.ref q9,.ref q10])));have l9:=Paired.eX l8;have l36:=hok.len;refine⟨r8,_,_,rfl,rfl,m9 _ _ e8,by rw[gR];omega,?_⟩;exact hN _ _ ⟨rfl,tY (s8.trans m9) n8⟩
 rintro σ' H6 ⟨rfl,s6⟩;have S6:=S5.same s6;have A6:=A5.same s6
 try dsimp only
 refine rm (fun σ' H'=>σ'=[some (.ref o),some (.ref wb),some ev,some (.int ot),some (.ref r5),some (.ref r2),some (.ref r3),some (.ref r4),some (.bl g),some (.int S.t),some (.int S.t)]/\Same H6 H') (fun N hN=> ?_) ?_
 ·refine⟨_,rfl,o,dx5,_,rfl,A6.at_,rfl,o,S,rfl,S6,hok,fun r8 v8 H8 s8 e8 l8 n8=>⟨.inl ⟨rfl,_,SqL.of e8⟩,r8,_,rfl,rfl,e8,?_⟩⟩;exact hN _ _ ⟨rfl,tY s8 n8⟩
 rintro σ' H7 ⟨rfl,s7⟩;have S7:=S6.same s7;have A7:=A6.same s7;have s37:=Gz.trans (s6.trans s7)
 try dsimp only
 refine rm (fun σ' H'=>σ'=[some (.ref o),some (.ref wb),some ev,some (.int ot),some (.ref r5),some (.ref r2),some (.ref r3),some (.ref r4),some (.bl g),some (.int S.t),some (.int S.t)]/\Same H7 H') (fun N hN=> ?_) ?_
 ·refine⟨_,rfl,o,dx5,_,rfl,A7.at_,rfl,o,S,rfl,S7,hok,fun r8 v8 H8 s8 e8 l8 n8=> ?_⟩;refine⟨_,rfl,.list (S.l.map fj),.list (S.l.map fj),.lst (SqL.of e8) (uJ l8),.lst (SqL.of ((s37.trans s8) _ _ x3)) (uJ (y3.same (s37.trans s8))),sY _,sY _,Hw _ _,?_⟩;rw[Hv];exact⟨_,rfl,iteF (hN _ _ ⟨rfl,s8⟩)⟩
 rintro σ' H8 ⟨rfl,s8⟩;have s38:=s37.trans s8;refine⟨_,rfl,_,rfl,(by show 2<=sizeLine;decide),fun p hp=> ?_⟩;have m:=aM hp (.tup [.ref r3,.int S.t]);exact qq p r3 v3 _ (YT.trans (s38.trans m)) (SqT.of aB) ((s38.trans m) _ _ x3) (y3.same (s38.trans m)) (same_none s1 n3)
theorem MP(d:gO):(PyData.str (dName d)).canLay0=true:=by
 cases d with
 |put xs=>show(PyData.str "put").canLay0=true;decide+kernel
 |drop=>show(PyData.str "drop").canLay0=true;decide+kernel
 |tie i j=>show(PyData.str "tie").canLay0=true;decide+kernel
 |wg i j=>show(PyData.str "untie").canLay0=true;decide+kernel
noncomputable def WW:gO->Bool
 | .tie _ _=>true
 | .wg _ _=>true
 |_=>false
theorem MK(d:gO):([PyData.str "tie",.str "untie"].any fun e=>PyData.eqv e (.str (dName d)))=WW d:=by
 cases d with
 |put xs=>show([PyData.str "tie",.str "untie"].any fun e=>PyData.eqv e (.str "put"))=false;decide+kernel
 |drop=>show([PyData.str "tie",.str "untie"].any fun e=>PyData.eqv e (.str "drop"))=false;decide+kernel
 |tie i j=>show([PyData.str "tie",.str "untie"].any fun e=>PyData.eqv e (.str "tie"))=true;decide+kernel
 |wg i j=>show([PyData.str "tie",.str "untie"].any fun e=>PyData.eqv e (.str "untie"))=true;decide+kernel
theorem Kc:PyData.canLayAll0 [PyData.str "tie",PyData.str "untie"]=true:=by decide+kernel
noncomputable def Y5:gO->Bool
 | .put _=>true
 |_=>false
theorem MN(d:gO):decide (V.str (dName d)=V.str "put")=Y5 d:=by
 cases d with
 |put xs=>exact cL rfl
 |drop=>show decide (V.str "drop"=V.str "put")=false;decide+kernel
 |tie i j=>show decide (V.str "tie"=V.str "put")=false;decide+kernel
 |wg i j=>show decide (V.str "untie"=V.str "put")=false;decide+kernel
theorem Vb{n n':Int}{ts ts':L0}{d:gO}(h:OD n n' ts ts' d):atI [V.non,.int (n'-1)] (if Y5 d=true then 1 else 0)=some (uQ n d):=by
 cases d with
 |put xs=>
  have e:n'-1=n:=by have:=h.1;omega
  rw[e];rfl
 |drop=>rfl
 |tie i j=>rfl
 |wg i j=>rfl
theorem Lx(n:Int)(d:gO):scal (uQ n d) (uQ n d)=true/\(!decide (uQ n d=uQ n d))=false:=by
 refine⟨?_,by rw[cL rfl];rfl⟩;cases d<;>rfl
theorem Ly{H:Hp}(n:Int)(d:gO):∃T,Ii K H (uQ n d) T/\oE T "bool"=false:=by
 cases d with
 |put xs=>exact⟨"int",rfl,by decide+kernel⟩
 |drop=>exact⟨"NoneType",rfl,by decide+kernel⟩
 |tie i j=>exact⟨"NoneType",rfl,by decide+kernel⟩
 |wg i j=>exact⟨"NoneType",rfl,by decide+kernel⟩
theorem RV{n n':Int}{ts ts':L0}{d:gO}(hf:JL n ts d)(h:OD n n' ts ts' d)(b:WW d=true):FJ n' ts' d:=by
 cases d with
 |put xs=>cases b
 |drop=>cases b
 |tie i j=>
  obtain⟨rfl,h2⟩:=h;exact⟨hf.1,(h2 _).mpr (.inr rfl)⟩
 |wg i j=>
  obtain⟨rfl,h2⟩:=h;exact⟨hf.1,fun z=>((h2 _).mp z).2 rfl⟩
theorem I9{H:Hp}{tp bh:Addr}{ns:List Int}{k:Int}{r:St}{Q:Bool->Hp->Prop}(tv:pZ K H tp bh ns)(hQ:∀b,Q b H):
  tAnd (tTest (tOp (rI0 fun i j=> .bl (decide (j<i))) (tVar 2) (tC (.int 0)))) (tTest (tOp (rI0 fun i j=> .bl (decide (j<=i))) (tOp (rIxL K) (tVar 1) (tC (.int 1))) (tCB (aaG K) (tCons (tVar 0) tNil)))) (some (.ref bh)::some (.ref tp)::some (.int k)::r) H Q:=by
 obtain⟨⟨i,rr,hH,_,_⟩,hS,_⟩:=tv;refine⟨_,rfl,_,_,rfl,rfl,_,rfl,?_⟩;refine ite2 (fun c=> ?_) (fun c=>hQ _);exact⟨_,rfl,tp,_,_,.int i,rfl,rfl,SqL.of hH,rfl,_,rfl,bh,_,rfl,.inl hS.sq,fun _=>⟨_,_,rfl,rfl,_,rfl,hQ _⟩⟩
theorem cO.eld{S:Sd}(h:cO S)(h10:S.n<=10):W9 S.l S.D:=⟨h.HY,h.pos,h.frs h10⟩
noncomputable def iz(K:W.Frag)(H:Hp)(r cp:Addr)(S:Sd):Prop:=∃lr rs,SqT K H r [.ref lr,.int S.t]/\H lr=some (.lst rs)/\cP K H rs S.l/\lr≠cp
theorem iz.same{H H':Hp}{r cp:Addr}{S:Sd}(h:iz K H r cp S)(s:Same H H'):iz K H' r cp S:=by
 obtain⟨lr,rs,h1,h2,h3,h4⟩:=h;exact⟨lr,rs,s.tup h1,s _ _ h2,h3.same s,h4⟩
theorem iz.T3{H H':Hp}{r cp:Addr}{S:Sd}(h:iz K H r cp S)(x:aD cp H H')(k:TK K H H'):iz K H' r cp S:=by
 obtain⟨lr,rs,h1,h2,h3,h4⟩:=h;exact⟨lr,rs,k _ _ h1,x _ _ h4 h2,h3.tk k,h4⟩
theorem iz.deed{H H':Hp}{r cp o C dx:Addr}{fs:List (Str×V)}{S:Sd}(h:iz K H r cp S)(x:aD o H H')(hO:H o=some (.ins C dx fs)):iz K H' r cp S:=by
 obtain⟨lr,rs,h1,h2,h3,h4⟩:=h;have k:TK K H H':=x.Xw hO;exact⟨lr,rs,k _ _ h1,x _ _ (fun z=>by rw[z,hO]at h2;cases h2) h2,h3.tk k,h4⟩
noncomputable def Bu(K:W.Frag)(H:Hp)(v:V)(n:Int)(ts:L0):Prop:=v= .non\/∃da d,v= .ref da/\dU K H da d/\(WW d=true->FJ n ts d)
theorem Bu.tk{H H':Hp}{v:V}{n:Int}{ts:L0}(h:Bu K H v n ts)(k:TK K H H'):Bu K H' v n ts:=by
 rcases h with h|⟨da,d,h1,h2,h3⟩
 ·exact .inl h
 ·exact .inr ⟨da,d,h1,h2.tk k,h3⟩
theorem ok_law{f f1 f2 f3 f4 f5 f6 f7 f8 C:Addr}{fd d1 d2 d3 d4 d5 d6 d7 d8:ρ}(F:Fun K "law" "law" rE f fd)
  (Na:Bt K C)(qK:mg "Sharing"=some (.ref C))(D1:bC K mg "_law_e_web" lD ["cup","most"] f1 d1)(G1:FnOk P w K mg base CX0 4 f1 d1 ["cup","most"] (K3 K))(D2:bC K mg "_law_e_dip" Ub ["cup","many"] f2 d2)(G2:FnOk P w K mg base CX0 2 f2 d2 ["cup","many"] (wz K))(D3:bC K mg "_law_e_wide_web" zdh ["cup"] f3 d3)(G3:FnOk P w K mg base CX0 3 f3 d3 ["cup"] (Kq K))(D4:oH K C "__init__" "Sharing.__init__" gk ["self","web"] f4 d4)(Mk4:Mk K C f4)(W8:FnOk P w K mg base CX0 12 f4 d4 ["self","web"] (CQ K C))(D5:bC K mg "_law_e_looks_right" zbp ["sharing","web","elder","often"] f5 d5)(G5:FnOk P w K mg base CX0 6 f5 d5 ["sharing","web","elder","often"] (Gk K C))(D6:bC K mg "_law_e_next" jF ["cup","web","most"] f6 d6)(G6:FnOk P w K mg base CX0 3 f6 d6 ["cup","web","most"] (KQ K))(D7:bC K mg "_law_e_back" jH ["deed","web"] f7 d7)(G7:FnOk P w K mg base CX0 1 f7 d7 ["deed","web"] (K5 K))(D8:bC K mg "_law_e_do" nU ["sharing","deed"] f8 d8)(G8:FnOk P w K mg base CX0 13 f8 d8 ["sharing","deed"] (YK K C))(aK:mg "range"=none)(bN:mg "len"=none)(au:mg "isinstance"=none)(uG:mg "bool"=none)(wF:mg "int"=none):
  FnOk P w K mg base CX0 14 f fd ["script"] (spLaw K):=by
 have G4m:FnOk P w K mg base CX0 12 f4 d4 ["self","web"] (CQ K C):=W8.mono (by decide);refine F.bZ ["script","cup","k","most","web","sharing","seen","last","turn","ahead","deed","told"] fun cdv A outer s H vs Q E hr h=> ?_;obtain⟨a,ns,rfl,hS,h63,q⟩:=h;refine aW ?_;intro Y;refine⟨_,(aL (pS 1 (pe_lst (aj (pv 0) (aj ao (aj ao ak))))) (aL (ps_for wZ rfl (Io rfl aK (aj ao ak)) (pG 2) (aL (dZ (PW.pt (pw_and (cR op_gt (pv 2) ao) (pw_and1 (cR op_ge (aQ kJ (pv 1) ao) (pB vm bN (aj (pv 0) ak)))))) (aR ps_break) eG) (aL (pS 3 ao) (aL (pS 4 (pc G1 hr D1 (aj (pv 1) (aj ao ak)))) (aL (dZ (PW.pt (pw_and (cR op_eq (pv 2) ao) (pw_and1 (cR op_eq (pc G2 hr D2 (aj (pv 1) (aj ao ak))) ao)))) (aL (pS 3 ao) (aR (pS 4 (pc G3 hr D3 (aj (pv 1) ak))))) eG) (aL (pS 5 (pe_make Mk4 G4m hr rfl qK D4.b .nil pass0 (aj (pv 4) ak))) (aL (pS 6 (pc G5 hr D5 (aj (pv 5) (aj (pv 4) (aj pe_non (aj ao ak)))))) (aL (pS 7 pe_non) (aL (ps_for wZ rfl (Io rfl aK (aj (bA nu ao (pc G2 hr D2 (aj (pv 1) (aj ao ak)))) ak)) (pG 8) (aL (dZ (cR op_isN (pv 6) pe_non) (aR (bB qZ)) eG) (aL (pS 9 (pv 4)) (aL (ps_asg (pc G6 hr D6 (aj (pv 1) (aj (pv 4) (aj (pv 3) ak)))) (pg_tup rfl (mH (pG 10) (mH (pG 4) zq)))) (aL (dZ (PW.pt (pw_and (cR op_notN (pv 7) pe_non) (pw_and (cR (ur hr.units) (aQ bD (pv 7) ao) (pe_lst (aj pe_str (aj pe_str ak))) (by with_unfolding_all rfl)) (pw_and1 (cR op_eq (pc G2 hr D2 (aj (pv 1) (aj ao ak))) ao))))) (aR (ps_asg (pc G7 hr D7 (aj (pv 7) (aj (pv 9) ak))) (pg_tup rfl (mH (pG 10) (mH (pG 4) zq))))) eG) (aL (pS 7 (pv 10)) (aL (pS 11 (pc G8 hr D8 (aj (pv 5) (aj (pv 10) ak)))) (aL (dZ (PW.pt (qg (cR op_ne (pv 11) (aQ kJ (pe_lst (aj pe_non (aj (bA op_sub (aQ bD (pv 4) ao) ao) ak))) (pT call_int1 wF (aj (wQ op_eq (aQ bD (pv 10) ao) pe_str) ak)))) (yV (iY (pB wR au (aj (pv 11) (aj (pN "bool" uG) ak))))))) (aR (bB qZ)) eG) (aR (pS 6 (pc G5 hr D5 (aj (pv 5) (aj (pv 4) (aj (aQ bD (pv 6) ao) (aj (aQ bD (pv 6) ao) ak))))))))))))))) (aR (dZ (cR op_isN (pv 6) pe_non) (aR (bB qZ)) eG))))))))))) (aR (bB qZ)))),?_⟩;refine gC ?_;intro c3 c2;refine⟨_,rfl,(by show 3<=sizeLine;decide),fun cp hcp=> ?_⟩;have c0:=RQ hS h63 hcp;dsimp only;refine⟨2,rfl,by decide,by decide,?_⟩;let gF:Nat->St->Hp->Prop:=fun k σ H'=>cQ K H' cp a ns (1000*(k:Int))/\∃b2 b3 b4 b5 b6 b7 b8 b9 b10 vq,σ=[some (.ref a),some (.ref cp),b2,b3,b4,b5,b6,b7,b8,b9,b10,vq];refine Ph (n:=2) gF ⟨c0.mono (by omega),_,_,_,_,_,_,_,_,_,_,rfl⟩ (fun k σ H' hk p=> ?_) (fun σ H' p=>q H');obtain⟨c,b2,b3,b4,b5,b6,b7,b8,b9,b10,vq,rfl⟩:=p;refine I9 (K:=K) (r:=[b3,b4,b5,b6,b7,b8,b9,b10,vq]) c.tv (fun b=> ?_);cases b with
 |true=>exact q H'
 |false=>
  refine iteF ?_;dsimp only[tNext];refine rm (fun σ' H1=>σ'=[some (.ref a),some (.ref cp),some (.int (0+(k:Int))),some (.int 6),b4,b5,b6,b7,b8,b9,b10,vq]/\H1=H') (fun N hN=>hN _ _ ⟨rfl,rfl⟩) ?_;rintro σ' H1 ⟨rfl,rfl⟩
  try dsimp only
  refine rm (fun σ' H2=>∃(wb:Addr) (n:Int) (ts:L0),σ'=[some (.ref a),some (.ref cp),some (.int (0+(k:Int))),some (.int 6),some (.ref wb),b5,b6,b7,b8,b9,b10,vq]/\cQ K H2 cp a ns (1000*(k:Int)+121)/\aO K H2 wb n ts) (fun N hN=> ?_) ?_
  ·exact⟨_,rfl,cp,a,ns,5,_,rfl,c,by omega,by decide,by decide,fun wb n ts H3 x3 c3 W=>hN _ _ ⟨wb,n,ts,rfl,c3,W⟩⟩
  clear c;rintro σ' H2 ⟨wb,n,ts,rfl,c,W⟩
  try dsimp only
  refine rm (fun σ' H2=>∃(mo:Int) (wb:Addr) (n:Int) (ts:L0),mo<=10/\σ'=[some (.ref a),some (.ref cp),some (.int (0+(k:Int))),some (.int mo),some (.ref wb),b5,b6,b7,b8,b9,b10,vq]/\cQ K H2 cp a ns (1000*(k:Int)+242)/\aO K H2 wb n ts) (fun N hN=> ?_) ?_
  ·refine⟨_,rfl,rfl,_,rfl,?_⟩;refine ite2 (fun z=> ?_) (fun z=> ?_)
   ·refine⟨_,rfl,cp,a,ns,8,_,rfl,c,by omega,by decide,by decide,fun m H3 m0 m1 x3 c3=>⟨rfl,_,rfl,?_⟩⟩;have W3:aO K H3 wb n ts:=by
     obtain⟨z0,hz0⟩:=c.lst;exact W.tk (x3.tk hz0)
    refine ite2 (fun z2=> ?_) (fun z2=> ?_)
    ·dsimp only;exact⟨_,rfl,cp,a,ns,_,rfl,c3,by omega,fun r ts' H4 x4 c4 W4=>hN _ _ ⟨10,r,9,ts',by decide,rfl,c4.mono (by omega),W4⟩⟩
    ·exact hN _ _ ⟨6,wb,n,ts,by decide,rfl,c3.mono (by omega),W3⟩
   ·exact iteF (hN _ _ ⟨6,wb,n,ts,by decide,rfl,c.mono (by omega),W⟩)
  clear c W;rintro σ' H3 ⟨mo,wb,n,ts,hmo,rfl,c,W⟩
  try dsimp only
  refine rm (fun σ' H'=>∃(o:Addr) (S:Sd),σ'=[some (.ref a),some (.ref cp),some (.int (0+(k:Int))),some (.int mo),some (.ref wb),some (.ref o),b6,b7,b8,b9,b10,vq]/\uY K C cp a o ns H' (1000*(k:Int)+242) S/\aO K H' wb S.n S.ts/\S.t=0) (fun N hN=> ?_) ?_
  ·refine⟨_,rfl,fun o dx ho hdx hne=> ?_⟩;have sM:Same H3 (upd (upd H3 dx (.own o)) o (.ins C dx [])):=(aM hdx _).trans (aM (by rw[cW (way hne)];exact ho) _);have c4:=c.same sM;have W4:=W.same sM;obtain⟨z4,hz4⟩:=c4.lst;refine⟨o,dx,wb,n,ts,rfl,aB,W4,fun S H6 x6 hS6 ok6 en et e0 nl np=>⟨rfl,?_⟩⟩;exact hN _ _ ⟨o,S,rfl,⟨c4.ins x6 aB,hS6,ok6,cF hz4 nl,cF hz4 np⟩,by rw[en,et];exact W4.tk (x6.Xw aB),e0⟩
  clear c W;rintro σ' H4 ⟨o,S0,rfl,I0,W0,e0⟩
  try dsimp only
  refine rm (fun σ' H'=>∃(r:Addr),σ'=[some (.ref a),some (.ref cp),some (.int (0+(k:Int))),some (.int mo),some (.ref wb),some (.ref o),some (.ref r),b7,b8,b9,b10,vq]/\uY K C cp a o ns H' (1000*(k:Int)+242) S0/\aO K H' wb S0.n S0.ts/\iz K H' r cp S0) (fun N hN=> ?_) ?_
  ·refine⟨_,rfl,_,rfl,o,wb,.non,0,S0,rfl,I0.PB,I0.ok,W0,.inl ⟨rfl,e0⟩,fun r lr rs H' s hp hl hv hn=> ?_⟩;obtain⟨z4,hz4⟩:=I0.cup.lst;exact hN _ _ ⟨r,rfl,I0.same s,W0.same s,lr,rs,hp,hl,hv,cF hz4 hn⟩
  clear I0 W0;rintro σ' H5 ⟨r0,rfl,I0,W0,V0⟩
  try dsimp only
  refine rm (fun σ' H'=>σ'=[some (.ref a),some (.ref cp),some (.int (0+(k:Int))),some (.int mo),some (.ref wb),some (.ref o),some (.ref r0),some .non,b8,b9,b10,vq]/\H'=H5) (fun N hN=>hN _ _ ⟨rfl,rfl⟩) ?_;rintro σ' H5' ⟨rfl,rfl⟩
  try dsimp only
  refine rm (fun σ' H'=>∃(r:Addr) (S:Sd) (b4 b7 b8 b9 b10 vq:Option V),σ'=[some (.ref a),some (.ref cp),some (.int (0+(k:Int))),some (.int mo),b4,some (.ref o),some (.ref r),b7,b8,b9,b10,vq]/\uY K C cp a o ns H' (1000*(k:Int)+1000) S) (fun N hN=> ?_) ?_
  ·refine⟨_,rfl,cp,a,ns,10,_,rfl,I0.cup,by omega,by decide,by decide,fun m H7 m0 m1 x7 c7=>⟨_,_,rfl,rfl,_,rfl,by omega,by omega,?_⟩⟩;have k7:=I0.tkD x7;let p7:Nat->St->Hp->Prop:=fun i σ H'=>∃(wb r:Addr) (S:Sd) (lv:V) (b8 b9 b10 vq:Option V),σ=[some (.ref a),some (.ref cp),some (.int (0+(k:Int))),some (.int mo),some (.ref wb),some (.ref o),some (.ref r),some lv,b8,b9,b10,vq]/\uY K C cp a o ns H' (1000*(k:Int)+243+30*(i:Int)) S/\aO K H' wb S.n S.ts/\iz K H' r cp S/\Bu K H' lv S.n S.ts;refine Ph (n:=(5+m).toNat) p7 ⟨wb,r0,S0,.non,b8,b9,b10,vq,rfl,(I0.T3 x7 c7).mono (by omega),W0.tk k7,V0.T3 x7 k7,.inl rfl⟩ (fun i σ H' hi p=> ?_) (fun σ H' p=> ?_)
   ·clear I0 W0 V0 c7 x7 k7 b8 b9 b10 vq;obtain⟨wb,r,S,lv,b8,b9,b10,vq,rfl,I,W,V1,L1⟩:=p;dsimp only[gName,List.set];refine rm (fun σ' H1=>σ'=[some (.ref a),some (.ref cp),some (.int (0+(k:Int))),some (.int mo),some (.ref wb),some (.ref o),some (.ref r),some lv,some (.int (0+(i:Int))),b9,b10,vq]/\H1=H') (fun N hN=> ?_) ?_
    ·exact⟨_,rfl,rfl,_,rfl,iteF (hN _ _ ⟨rfl,rfl⟩)⟩
    rintro σ' H1 ⟨rfl,rfl⟩
    try dsimp only
    refine rm (fun σ' H2=>σ'=[some (.ref a),some (.ref cp),some (.int (0+(k:Int))),some (.int mo),some (.ref wb),some (.ref o),some (.ref r),some lv,some (.int (0+(i:Int))),some (.ref wb),b10,vq]/\H2=H1) (fun N hN=>⟨_,rfl,hN _ _ ⟨rfl,rfl⟩⟩) ?_;rintro σ' RZ ⟨rfl,rfl⟩
    try dsimp only
    -- the deed
    refine rm (fun σ' H'=>∃(da wa:Addr) (d:gO) (n':Int) (ts':L0),σ'=[some (.ref a),some (.ref cp),some (.int (0+(k:Int))),some (.int mo),some (.ref wa),some (.ref o),some (.ref r),some lv,some (.int (0+(i:Int))),some (.ref wb),some (.ref da),vq]/\uY K C cp a o ns H' (1000*(k:Int)+263+30*(i:Int)) S/\aO K H' wb S.n S.ts/\iz K H' r cp S/\Bu K H' lv S.n S.ts/\dU K H' da d/\JL S.n S.ts d/\aO K H' wa n' ts'/\OD S.n n' S.ts ts' d) (fun N hN=> ?_) ?_
    ·refine⟨_,rfl,_,rfl,_,rfl,cp,a,wb,ns,_,S.n,mo,S.ts,rfl,hmo,I.cup,by omega,W,fun r2 da wa d n' ts' H2 x2 c2 hr Jt hF W2 hst=> ?_⟩;have k2:=I.tkD x2;refine⟨r2,_,rfl,hr,rfl,_,_,rfl,_,_,rfl,rfl,?_⟩;exact hN _ _ ⟨da,wa,d,n',ts',rfl,(I.T3 x2 c2).mono (by omega),W.tk k2,V1.T3 x2 k2,L1.tk k2,Jt,hF,W2,hst⟩
    clear I W V1 L1;rintro σ' H2 ⟨da,wa,d,n',ts',rfl,I,W,V1,L1,Jt,hF,W2,hst⟩
    try dsimp only
    refine rm (fun σ' H'=>∃(da wa:Addr) (d:gO) (n':Int) (ts':L0),σ'=[some (.ref a),some (.ref cp),some (.int (0+(k:Int))),some (.int mo),some (.ref wa),some (.ref o),some (.ref r),some lv,some (.int (0+(i:Int))),some (.ref wb),some (.ref da),vq]/\uY K C cp a o ns H' (1000*(k:Int)+264+30*(i:Int)) S/\iz K H' r cp S/\dU K H' da d/\JL S.n S.ts d/\aO K H' wa n' ts'/\OD S.n n' S.ts ts' d) (fun N hN=> ?_) ?_
    ·rcases L1 with rfl|⟨la,e,rfl,hE,hB⟩
     ·exact⟨_,rfl,rfl,_,rfl,iteF (iteF (hN _ _ ⟨da,wa,d,n',ts',rfl,I.mono (by omega),V1,Jt,hF,W2,hst⟩))⟩
     ·obtain⟨e0,hNm⟩:=hE.name;refine⟨_,rfl,rfl,_,rfl,iteT ?_⟩;refine⟨_,rfl,la,_,_,.str (dName e),rfl,rfl,hNm,at0 _ _,(by show 2<=sizeLine;decide),fun l hl=> ?_⟩;have n1:=aM hl (.lst [.str "tie",.str "untie"]);have hL1:SqL K (upd H2 l (.lst [.str "tie",.str "untie"])) l [.str "tie",.str "untie"]:=SqL.of aB;generalize (upd H2 l (.lst [.str "tie",.str "untie"]))=H3 at *;have I3:=I.same n1;have W3:=W.same n1;have V3:=V1.same n1;have hE3:=hE.tk n1.tk;have hD3:=Jt.tk n1.tk;have W23:=W2.same n1;refine⟨l,_,[.str "tie",.str "untie"],.str (dName e),rfl,.inl hL1,.cons (.str _) (.cons (.str _) .nil),.str _,Kc,MP e,(by show 0<=60;decide),_,rfl,?_⟩;rw[MK];refine ite2 (fun z=> ?_) (fun z=> ?_)
      ·refine⟨_,rfl,cp,a,ns,3,_,rfl,I3.cup,by omega,by decide,by decide,fun m H4 m0 m1 x4 c4=>⟨rfl,_,rfl,?_⟩⟩;have k4:=I3.tkD x4;have I4:=(I3.T3 x4 c4).mono (show 1000*(k:Int)+263+30*(i:Int)+1<=1000*(k:Int)+264+30*(i:Int) by omega);refine ite2 (fun z2=> ?_) (fun z2=> ?_)
       ·refine⟨_,rfl,_,rfl,la,wb,S.n,S.ts,e,rfl,W3.tk k4,hE3.tk k4,hB z,fun r5 ea wa5 e5 n5 ts5 H5 s5 Zr hE5 hF5 W5 aa4=> ?_⟩;refine⟨r5,_,rfl,Zr,rfl,_,_,rfl,_,_,rfl,rfl,?_⟩;exact hN _ _ ⟨ea,wa5,e5,n5,ts5,rfl,I4.same s5,(V3.T3 x4 k4).same s5,hE5,hF5,W5,aa4⟩
       ·exact hN _ _ ⟨da,wa,d,n',ts',rfl,I4,V3.T3 x4 k4,hD3.tk k4,hF,W23.tk k4,hst⟩
      ·exact iteF (hN _ _ ⟨da,wa,d,n',ts',rfl,I3.mono (by omega),V3,hD3,hF,W23,hst⟩)
    clear I W V1 L1 Jt hF W2 hst da wa d n' ts';rintro σ' H3 ⟨da,wa,d,n',ts',rfl,I,V1,Jt,hF,W2,hst⟩
    try dsimp only
    refine rm (fun σ' H'=>σ'=[some (.ref a),some (.ref cp),some (.int (0+(k:Int))),some (.int mo),some (.ref wa),some (.ref o),some (.ref r),some (.ref da),some (.int (0+(i:Int))),some (.ref wb),some (.ref da),vq]/\H'=H3) (fun N hN=>⟨_,rfl,hN _ _ ⟨rfl,rfl⟩⟩) ?_;rintro σ' H3' ⟨rfl,rfl⟩
    try dsimp only
    refine rm (fun σ' H'=>∃(S':Sd),σ'=[some (.ref a),some (.ref cp),some (.int (0+(k:Int))),some (.int mo),some (.ref wa),some (.ref o),some (.ref r),some (.ref da),some (.int (0+(i:Int))),some (.ref wb),some (.ref da),some (uQ S.n d)]/\uY K C cp a o ns H' (1000*(k:Int)+264+30*(i:Int)) S'/\aO K H' wa S'.n S'.ts/\iz K H' r cp S/\dU K H' da d/\OD S.n S'.n S.ts S'.ts d/\((S'.t=S.t/\S'.l=S.l/\j8 S'.n S'.ts (cD S'.n.toNat) S.D (S.l.map fj) S'.f.1 S'.f.2=true)\/(S'.t=S.t+1/\j8 S'.n S'.ts (cD S'.n.toNat) S.D (S.l.map fj) S'.f.1 S'.f.2=false))) (fun N hN=> ?_) ?_
    ·refine⟨_,rfl,_,rfl,o,da,S,d,rfl,I.PB,I.ok,Jt,hF,fun S' H4 x4 TQ ok4 st4 w4=> ?_⟩;have k4:=I.tkS x4;obtain⟨dxO,fsO,hO⟩:=I.PB.ins;obtain⟨dx4,wb4,va4,lr4,pr4,A4⟩:=id TQ;obtain⟨q1,q2⟩:=st4.uniq hst A4.web.zF W2.zF;refine hN _ _ ⟨S',rfl,I.deed x4 TQ ok4 w4,by rw[q1,q2];exact W2.tk k4,V1.deed x4 hO,Jt.tk k4,st4,?_⟩;rcases w4.2.2 with⟨z1,z2,_,z3⟩|z
     ·exact .inl ⟨z1,z2,z3⟩
     ·exact .inr z
    have okS:=I.ok;have nS:S.n<=10:=by
     obtain⟨dxA,wbA,vaA,lrA,prA,A⟩:=id I.PB;exact A.web.h1
    clear I V1 Jt W2 hst;rintro σ' H4 ⟨S',rfl,I,W,V1,Jt,hst,hw⟩
    try dsimp only
    refine rm (fun σ' H'=>σ'=[some (.ref a),some (.ref cp),some (.int (0+(k:Int))),some (.int mo),some (.ref wa),some (.ref o),some (.ref r),some (.ref da),some (.int (0+(i:Int))),some (.ref wb),some (.ref da),some (uQ S.n d)]/\Same H4 H') (fun N hN=> ?_) ?_
    ·obtain⟨tt,rr,w1,w2,w3⟩:=id W.web;refine⟨_,rfl,_,rfl,wa,_,_,.int S'.n,rfl,rfl,w1,rfl,_,_,rfl,rfl,(by show 2<=sizeLine;decide),fun l hl=> ?_⟩;have n1:=aM hl (.lst [.non,.int (S'.n-1)]);obtain⟨d0,hNm⟩:=(Jt.tk n1.tk).name;refine⟨_,rfl,da,_,_,.str (dName d),rfl,rfl,hNm,at0 _ _,rfl,?_⟩;rw[MN];refine .inr ⟨_,rfl,l,_,_,uQ S.n d,rfl,rfl,SqL.of aB,Vb hst,(Lx S.n d).1,_,rfl,?_⟩;rw[(Lx S.n d).2];refine iteF ?_;obtain⟨T,hT,hi⟩:=Ly (K:=K) (H:=upd H4 l (.lst [.non,.int (S'.n-1)])) S.n d;refine⟨_,rfl,uQ S.n d,T,"bool",rfl,hT,.inr (.inl rfl),_,rfl,?_⟩;rw[hi];exact iteF (hN _ _ ⟨rfl,n1⟩)
    rintro σ' H5 ⟨rfl,s5⟩;have I5:=I.same s5;have W5:=W.same s5;have hD5:=Jt.tk s5.tk;obtain⟨lr,rs,v1,v2,v3,v4⟩:=V1.same s5;clear I W V1 Jt s5
    try dsimp only
    refine⟨_,rfl,_,rfl,_,rfl,r,_,_,.ref lr,rfl,rfl,v1,rfl,_,rfl,r,_,_,.int S.t,rfl,rfl,v1,rfl,o,wa,.ref lr,S.t,S',rfl,I5.PB,I5.ok,W5,.inr ⟨lr,rs,S.l,S.D,rfl,v2,v3,okS.eld nS,hw⟩,fun r6 lr6 rs6 H6 s6 hp6 Zw hv6 hn6=> ?_⟩;obtain⟨z5,hz5⟩:=I5.cup.lst;exact⟨wa,r6,S',.ref da,_,_,_,_,rfl,(I5.same s6).mono (by omega),W5.same s6,⟨lr6,rs6,hp6,Zw,hv6,cF hz5 hn6⟩,.inr ⟨da,d,rfl,hD5.tk s6.tk,fun z=>RV hF hst z⟩⟩
   ·obtain⟨wb,r,S,lv,b8,b9,b10,vq,rfl,I,_,_,_⟩:=p;exact hN _ _ ⟨r,S,_,_,_,_,_,_,rfl,I.mono (by omega)⟩
  rintro σ' H7 ⟨r,S,d4,d7,d8,d9,d10,d11,rfl,I7⟩;refine⟨_,rfl,rfl,_,rfl,iteF ?_⟩;exact⟨I7.cup.mono (by omega),_,_,_,_,_,_,_,_,_,_,rfl⟩
end
end Hs
namespace L2
open PySem
section
variable{K:W.Frag}{x y:Str}{st:Stmt}{f C:Addr}{fd:ρ}{oc:ζ}{od an:Option Addr}{osl:Array (Option ζ)}{kV doc pm cdv ct:ζ}{mg:L5}{h:Heap}
noncomputable def DA(K:W.Frag)(x:Str)(st:Stmt)(f:Addr):Prop:=∃fd,Fun K x x st f fd/\PySem.W.nsIn K mainGlobals x=some (some (.ref f))
theorem DA.of(a:PySem.W.nsIn K mainGlobals x=some (some (.ref f)):=by k_is)(l:K.lookup f=some ⟨oc,od,.func (PySem.W.fnOf x x (defArgs st) (defBody st) (defScope st) .none kV doc pm an cdv ct),osl⟩:=by k_is)(c:PySem.W.codeIn K cdv x=true:=by k_is)(k:PySem.W.keepIn K (.ref f)=true:=by k_is):DA K x st f:=⟨_,fun_mk l c k,a⟩
noncomputable def MA(K:W.Frag)(C:Addr)(x y:Str)(st:Stmt)(f:Addr):Prop:=∃fd,Fun K x y st f fd/\PySem.W.findIn K (.ref C) x=some (some (.ref f))/\PySem.W.isFn K (.ref f)=true/\PySem.W.keepIn K (.ref f)=true
theorem MA.of(a:PySem.W.findIn K (.ref C) x=some (some (.ref f)):=by k_is)(l:K.lookup f=some ⟨oc,od,.func (PySem.W.fnOf x y (defArgs st) (defBody st) (defScope st) .none kV doc pm an cdv ct),osl⟩:=by k_is)(c:PySem.W.codeIn K cdv y=true:=by k_is)(k:PySem.W.keepIn K (.ref f)=true:=by k_is)(i:PySem.W.isFn K (.ref f)=true:=by k_is):MA K C x y st f:=⟨_,fun_mk l c k,a,i,k⟩
theorem DA.d{ps:List Str}(X:K.In h)(G:h.Ns mainGlobals mg)(F:Fun K x x st f fd)(a:PySem.W.nsIn K mainGlobals x=some (some (.ref f)))(b:∀(kV doc pm:ζ) (an:Option Addr) (cdv ct:ζ) (us:List ζ),us.length=ps.length->bindArgs (PySem.W.fnOf x x (defArgs st) (defBody st) (defScope st) .none kV doc pm an cdv ct) ⟨us,[]⟩=pure (ps.zip us)):bC K mg x st ps f fd:=⟨F,F.binds b,PySem.W.mg_of X G a⟩
theorem MA.d{ps:List Str}(F:Fun K x y st f fd)(a:PySem.W.findIn K (.ref C) x=some (some (.ref f))/\PySem.W.isFn K (.ref f)=true/\PySem.W.keepIn K (.ref f)=true)(b:∀(kV doc pm:ζ) (an:Option Addr) (cdv ct:ζ) (us:List ζ),us.length=ps.length->bindArgs (PySem.W.fnOf x y (defArgs st) (defBody st) (defScope st) .none kV doc pm an cdv ct) ⟨us,[]⟩=pure (ps.zip us)):oH K C x y st ps f fd:=⟨F,F.binds b,⟨a.1,a.2.1,a.2.2⟩⟩
theorem rP{p1:Str}{P:List ζ->Prop}(h:∀a,P [a])(us:List ζ)(hl:us.length=[p1].length):P us:=by
 match us,hl with
 |[a],_=>exact h a
theorem kW{p1 p2:Str}{P:List ζ->Prop}(h:∀a b,P [a,b])(us:List ζ)(hl:us.length=[p1,p2].length):P us:=by
 match us,hl with
 |[a,b],_=>exact h a b
theorem J0{p1 p2 p3:Str}{P:List ζ->Prop}(h:∀a b c,P [a,b,c])(us:List ζ)(hl:us.length=[p1,p2,p3].length):P us:=by
 match us,hl with
 |[a,b,c],_=>exact h a b c
theorem bn4{p1 p2 p3 p4:Str}{P:List ζ->Prop}(h:∀a b c d,P [a,b,c,d])(us:List ζ)(hl:us.length=[p1,p2,p3,p4].length):P us:=by
 match us,hl with
 |[a,b,c,d],_=>exact h a b c d
end
end L2
namespace Hs
open PySem L2 oJ
theorem all_mk{l:W.OpenLaw}{w:τ}{K:W.Frag}{h:Heap}{mg:L5}{fa:Addr}(X:K.In h)(G:h.Ns mainGlobals mg)(hfa:mg "law"=some (.ref fa))
  {f0 f1 f2 f3 f4 f5 f6 f7 f8 f9 f10 f11 f12 f13 f14 f15 f16 f17 f18 f19 f20 f21 f22 f23 f24 f25 f26 f27 f28 f29 f30 f31 f32 f33 f34 f35 f36 f37 f38 f39 f40 f41 f42 f43 f44 f45 f46 f47 f48 f49 f50 f51 f52 f53 f54 mf0 mf1 mf2 mf3 mf4 mf5 mf6 mf7 mf8 mf9 Zh aaX aaW aaV aaU aaT aaS aaR aaQ aaP aaO aaN aaM:Addr}{f55:Addr}{aaJ aam:Option Addr}{aaF:Array (Option ζ)}{aaK Zm aaf Y8 WT aag:ζ}{tk0:Tok}{tk1:Tok}{tk2:Tok}{aG:Addr}{aq:Addr}(a0:DA K "is_whole" eF f0)(a1:DA K "is_place" jJ f1)(a2:DA K "are_places" jL f2)(a3:DA K "is_rising" Xb f3)(a4:DA K "is_set" lE f4)(a5:DA K "are_ties" nZ f5)(a6:DA K "is_web" tZ f6)(a7:DA K "need_web" T9 f7)(a8:DA K "need_place" jB f8)(a9:DA K "need_set" jA f9)(a10:DA K "need_few" nT f10)(a11:DA K "pairs" xJ f11)(a12:DA K "has_tie" fU f12)(a13:DA K "greatest_divisor" zbs f13)(a14:DA K "lowest" jc f14)(a15:DA K "is_less" mQ f15)(a16:DA K "is_fraction" iI f16)(a17:DA K "sum_of" o9 f17)(a18:DA K "moved_ties" jC f18)(a19:DA K "cut_down" nY f19)(a20:DA K "count_ties_in" fB f20)(a21:DA K "places_by_tie" fu f21)(a22:DA K "in_both" qu f22)(a23:DA K "full_sets" lH f23)(a24:DA K "full_apart" jK f24)(a25:DA K "need_wants" fM f25)(a26:DA K "shares" pq f26)(a27:DA K "is_share" nW f27)(a28:DA K "is_laying" lF f28)(a29:DA K "gets" Di f29)(a30:DA K "is_enough" lG f30)(a31:DA K "ones_for" jz f31)(a32:DA K "copy_of_web" iJ f32)(a33:DA K "copy_of_fraction" X6 f33)(a34:DA K "copy_of_set" iK f34)(a35:DA K "as_tie" pA f35)(a36:DA K "_law_e_stir" jE f36)(a37:DA K "_law_e_dip" Ub f37)(a38:DA K "_law_e_web_of" fY f38)(a39:DA K "_law_e_web" lD f39)(a40:DA K "_law_e_tied" jD f40)(a41:DA K "_law_e_apart_sets" zbr f41)(a42:DA K "_law_e_part" Xc f42)(a43:DA K "_law_e_more" jG f43)(a44:DA K "_law_e_lowest" X4 f44)(a45:DA K "_law_e_sum" eO f45)(a46:DA K "_law_e_is_laying" zca f46)(a47:DA K "_law_e_is_enough" zcb f47)(a48:DA K "_law_e_are_prices" zcs f48)(a49:DA K "_law_e_shows" iH f49)(a50:DA K "_law_e_next" jF f50)(a51:DA K "_law_e_do" nU f51)(a52:DA K "_law_e_wide_web" zdh f52)(a53:DA K "_law_e_back" jH f53)(a54:DA K "_law_e_looks_right" zbp f54)(a55:W.nsIn K mainGlobals "law"=some (some (.ref f55)))(l55:K.lookup f55=some ⟨aaK,aaJ,.func (W.fnOf "law" "law" (defArgs rE) (defBody rE) (defScope rE) .none Zm aaf Y8 aam WT aag),aaF⟩)(c55:W.codeIn K WT "law"=true)(k55:W.keepIn K (.ref f55)=true)(x0:W.nsIn K mainGlobals "MOST_PLACES"=some (some (.int 10 tk0)))(x1:W.nsIn K mainGlobals "MOST_BOTTOM"=some (some (.int 1000000000 tk1)))(x2:W.nsIn K mainGlobals "MOST_WANT"=some (some (.int 99 tk2)))(z0:W.nsIn K mainGlobals "abs"=some none)(z1:W.nsIn K mainGlobals "all"=some none)(z2:W.nsIn K mainGlobals "any"=some none)(z3:W.nsIn K mainGlobals "bool"=some none)(z4:W.nsIn K mainGlobals "enumerate"=some none)(z5:W.nsIn K mainGlobals "int"=some none)(z6:W.nsIn K mainGlobals "isinstance"=some none)(z7:W.nsIn K mainGlobals "len"=some none)(z8:W.nsIn K mainGlobals "list"=some none)(z9:W.nsIn K mainGlobals "max"=some none)(z10:W.nsIn K mainGlobals "min"=some none)(z11:W.nsIn K mainGlobals "range"=some none)(z12:W.nsIn K mainGlobals "sorted"=some none)(z13:W.nsIn K mainGlobals "sum"=some none)(z14:W.nsIn K mainGlobals "tuple"=some none)(y0:W.nsIn K mainGlobals "Tableau"=some (some (.ref aG)))(y1:W.nsIn K mainGlobals "Sharing"=some (some (.ref aq)))(Zi:MA K aG "__init__" "Tableau.__init__" gj mf0)(ma1:MA K aG "next_column" "Tableau.next_column" zbx mf1)(ma2:MA K aG "is_tighter" "Tableau.is_tighter" zce mf2)(ma3:MA K aG "next_row" "Tableau.next_row" zcv mf3)(ma4:MA K aG "turned" "Tableau.turned" zdi mf4)(ma5:MA K aG "turn" "Tableau.turn" fZ mf5)(ma6:MA K aG "solve" "Tableau.solve" fD mf6)(ma7:MA K aG "fraction_at" "Tableau.fraction_at" X7 mf7)(ma8:MA K aG "price_of" "Tableau.price_of" zcu mf8)(ma9:MA K aG "share_of" "Tableau.share_of" zct mf9)(M4:MA K aq "__init__" "Sharing.__init__" gk Zh)(V5:MA K aq "keep" "Sharing.keep" zdc aaX)(V4:MA K aq "move_to" "Sharing.move_to" Xd aaW)(V2:MA K aq "need_two" "Sharing.need_two" zbt aaV)(VR:MA K aq "put" "Sharing.put" iR aaU)(VP:MA K aq "tie" "Sharing.tie" iQ aaT)(VN:MA K aq "untie" "Sharing.untie" fH aaS)(VL:MA K aq "drop" "Sharing.drop" gn aaR)(VJ:MA K aq "web" "Sharing.web" iM aaQ)(VH:MA K aq "value" "Sharing.value" fG aaP)(VG:MA K aq "laying" "Sharing.laying" zdk aaO)(VF:MA K aq "prices" "Sharing.prices" zdj aaN)(VD:MA K aq "again" "Sharing.again" fJ aaM)(Fe:W.plainGet K aG Str.empty=true)(Fb:W.hasDictIn K aG=true)(Ez:W.plainOver K aG=true)(Ew:W.findIn K (.ref aG) "__setattr__"=some (some (.builtin "object.__setattr__")))(Et:W.makesIn K aG=true)(Er:W.keepIn K (.ref aG)=true)(qP:W.findIn K (.ref aG) "cells"=some none)(rO:W.findIn K (.ref aG) "over"=some none)(oG:W.findIn K (.ref aG) "columns"=some none)(rN:W.findIn K (.ref aG) "rows"=some none)(Fg:W.plainGet K aq Str.empty=true)(Fd:W.hasDictIn K aq=true)(EY:W.plainOver K aq=true)(Ey:W.findIn K (.ref aq) "__setattr__"=some (some (.builtin "object.__setattr__")))(Eu:W.makesIn K aq=true)(Es:W.keepIn K (.ref aq)=true)(jR:W.findIn K (.ref aq) "kept_laying"=some none)(j9:W.findIn K (.ref aq) "times_anew"=some none)(m6:W.findIn K (.ref aq) "kept_web"=some none)(kh:W.findIn K (.ref aq) "kept_value"=some none)(jQ:W.findIn K (.ref aq) "kept_prices"=some none):
  ∃fd:ρ,(∀(s:η) (v:ζ),BindsTo s fd ⟨[v],[]⟩ [("script",v)])/\∀base:Heap,K.In base->base.Ns mainGlobals mg->FnOk l.prog w K mg base CX0 14 fa fd ["script"] (spLaw K):=by
 have e:=hfa.symm.trans (Xn X G a55);cases e;obtain⟨d0,F0,a0⟩:=a0;have jW:=DA.d (ps:=["thing"]) X G F0 a0 (fun _ _ _ _ _ _=>rP fun _=>rfl);obtain⟨d1,F1,a1⟩:=a1;have vd:=DA.d (ps:=["n","thing"]) X G F1 a1 (fun _ _ _ _ _ _=>kW fun _ _=>rfl);obtain⟨d2,F2,a2⟩:=a2;have yU:=DA.d (ps:=["n","things"]) X G F2 a2 (fun _ _ _ _ _ _=>kW fun _ _=>rfl);obtain⟨d3,F3,a3⟩:=a3;have mj:=DA.d (ps:=["things"]) X G F3 a3 (fun _ _ _ _ _ _=>rP fun _=>rfl);obtain⟨d4,F4,a4⟩:=a4;have u9:=DA.d (ps:=["n","thing"]) X G F4 a4 (fun _ _ _ _ _ _=>kW fun _ _=>rfl);obtain⟨d5,F5,a5⟩:=a5;have Fz:=DA.d (ps:=["n","thing"]) X G F5 a5 (fun _ _ _ _ _ _=>kW fun _ _=>rfl);obtain⟨d6,F6,a6⟩:=a6;have Pg:=DA.d (ps:=["thing"]) X G F6 a6 (fun _ _ _ _ _ _=>rP fun _=>rfl);obtain⟨d7,F7,a7⟩:=a7;have gG:=DA.d (ps:=["thing"]) X G F7 a7 (fun _ _ _ _ _ _=>rP fun _=>rfl);obtain⟨d8,F8,a8⟩:=a8;have yL:=DA.d (ps:=["web","thing"]) X G F8 a8 (fun _ _ _ _ _ _=>kW fun _ _=>rfl);obtain⟨d9,F9,a9⟩:=a9;have u5:=DA.d (ps:=["web","thing"]) X G F9 a9 (fun _ _ _ _ _ _=>kW fun _ _=>rfl);obtain⟨d10,F10,a10⟩:=a10;have Fv:=DA.d (ps:=["n"]) X G F10 a10 (fun _ _ _ _ _ _=>rP fun _=>rfl);obtain⟨d11,F11,a11⟩:=a11;have R3:=DA.d (ps:=["n"]) X G F11 a11 (fun _ _ _ _ _ _=>rP fun _=>rfl);obtain⟨d12,F12,a12⟩:=a12;have mX:=DA.d (ps:=["web","one","other"]) X G F12 a12 (fun _ _ _ _ _ _=>J0 fun _ _ _=>rfl);obtain⟨d13,F13,a13⟩:=a13;have gK:=DA.d (ps:=["one","other"]) X G F13 a13 (fun _ _ _ _ _ _=>kW fun _ _=>rfl);obtain⟨d14,F14,a14⟩:=a14;have qe:=DA.d (ps:=["a","b"]) X G F14 a14 (fun _ _ _ _ _ _=>kW fun _ _=>rfl);obtain⟨d15,F15,a15⟩:=a15;have wO:=DA.d (ps:=["one","other"]) X G F15 a15 (fun _ _ _ _ _ _=>kW fun _ _=>rfl);obtain⟨d16,F16,a16⟩:=a16;have vU:=DA.d (ps:=["thing"]) X G F16 a16 (fun _ _ _ _ _ _=>rP fun _=>rfl);obtain⟨d17,F17,a17⟩:=a17;have Bv:=DA.d (ps:=["fractions"]) X G F17 a17 (fun _ _ _ _ _ _=>rP fun _=>rfl);obtain⟨d18,F18,a18⟩:=a18;have yM:=DA.d (ps:=["web","by"]) X G F18 a18 (fun _ _ _ _ _ _=>kW fun _ _=>rfl);obtain⟨d19,F19,a19⟩:=a19;have Fy:=DA.d (ps:=["web","some"]) X G F19 a19 (fun _ _ _ _ _ _=>kW fun _ _=>rfl);obtain⟨d20,F20,a20⟩:=a20;have rW:=DA.d (ps:=["web","some"]) X G F20 a20 (fun _ _ _ _ _ _=>kW fun _ _=>rfl);obtain⟨d21,F21,a21⟩:=a21;have rT:=DA.d (ps:=["web","place","tied"]) X G F21 a21 (fun _ _ _ _ _ _=>J0 fun _ _ _=>rfl);obtain⟨d22,F22,a22⟩:=a22;have JM:=DA.d (ps:=["ones","others"]) X G F22 a22 (fun _ _ _ _ _ _=>kW fun _ _=>rfl);obtain⟨d23,F23,a23⟩:=a23;have BL:=DA.d (ps:=["friends"]) X G F23 a23 (fun _ _ _ _ _ _=>rP fun _=>rfl);obtain⟨d24,F24,a24⟩:=a24;have yS:=DA.d (ps:=["web"]) X G F24 a24 (fun _ _ _ _ _ _=>rP fun _=>rfl);obtain⟨d25,F25,a25⟩:=a25;have qd:=DA.d (ps:=["web","thing"]) X G F25 a25 (fun _ _ _ _ _ _=>kW fun _ _=>rfl);obtain⟨d26,F26,a26⟩:=a26;have Bw:=DA.d (ps:=["web","wants"]) X G F26 a26 (fun _ _ _ _ _ _=>kW fun _ _=>rfl);obtain⟨d27,F27,a27⟩:=a27;have Fx:=DA.d (ps:=["web","thing"]) X G F27 a27 (fun _ _ _ _ _ _=>kW fun _ _=>rfl);obtain⟨d28,F28,a28⟩:=a28;have BJ:=DA.d (ps:=["web","thing"]) X G F28 a28 (fun _ _ _ _ _ _=>kW fun _ _=>rfl);obtain⟨d29,F29,a29⟩:=a29;have Xa:=DA.d (ps:=["laying","place","want"]) X G F29 a29 (fun _ _ _ _ _ _=>J0 fun _ _ _=>rfl);obtain⟨d30,F30,a30⟩:=a30;have BK:=DA.d (ps:=["web","wants","laying","number"]) X G F30 a30 (fun _ _ _ _ _ _=>bn4 fun _ _ _ _=>rfl);obtain⟨d31,F31,a31⟩:=a31;have uZ:=DA.d (ps:=["web"]) X G F31 a31 (fun _ _ _ _ _ _=>rP fun _=>rfl);obtain⟨d32,F32,a32⟩:=a32;have vV:=DA.d (ps:=["web"]) X G F32 a32 (fun _ _ _ _ _ _=>rP fun _=>rfl);obtain⟨d33,F33,a33⟩:=a33;have dD:=DA.d (ps:=["fraction"]) X G F33 a33 (fun _ _ _ _ _ _=>rP fun _=>rfl);obtain⟨d34,F34,a34⟩:=a34;have vW:=DA.d (ps:=["some"]) X G F34 a34 (fun _ _ _ _ _ _=>rP fun _=>rfl);obtain⟨d35,F35,a35⟩:=a35;have BP:=DA.d (ps:=["one","other"]) X G F35 a35 (fun _ _ _ _ _ _=>kW fun _ _=>rfl);obtain⟨d36,F36,a36⟩:=a36;have yO:=DA.d (ps:=["cell","at"]) X G F36 a36 (fun _ _ _ _ _ _=>kW fun _ _=>rfl);obtain⟨d37,F37,a37⟩:=a37;have eZ:=DA.d (ps:=["cup","many"]) X G F37 a37 (fun _ _ _ _ _ _=>kW fun _ _=>rfl);obtain⟨d38,F38,a38⟩:=a38;have u6:=DA.d (ps:=["cup","n"]) X G F38 a38 (fun _ _ _ _ _ _=>kW fun _ _=>rfl);obtain⟨d39,F39,a39⟩:=a39;have Bx:=DA.d (ps:=["cup","most"]) X G F39 a39 (fun _ _ _ _ _ _=>kW fun _ _=>rfl);obtain⟨d40,F40,a40⟩:=a40;have yN:=DA.d (ps:=["web","one","other"]) X G F40 a40 (fun _ _ _ _ _ _=>J0 fun _ _ _=>rfl);obtain⟨d41,F41,a41⟩:=a41;have gJ:=DA.d (ps:=["web","left"]) X G F41 a41 (fun _ _ _ _ _ _=>kW fun _ _=>rfl);obtain⟨d42,F42,a42⟩:=a42;have jV:=DA.d (ps:=["top","bottom"]) X G F42 a42 (fun _ _ _ _ _ _=>kW fun _ _=>rfl);obtain⟨d43,F43,a43⟩:=a43;have yQ:=DA.d (ps:=["one","other"]) X G F43 a43 (fun _ _ _ _ _ _=>kW fun _ _=>rfl);obtain⟨d44,F44,a44⟩:=a44;have gH:=DA.d (ps:=["part"]) X G F44 a44 (fun _ _ _ _ _ _=>rP fun _=>rfl);obtain⟨d45,F45,a45⟩:=a45;have lZ:=DA.d (ps:=["parts"]) X G F45 a45 (fun _ _ _ _ _ _=>rP fun _=>rfl);obtain⟨d46,F46,a46⟩:=a46;have iB:=DA.d (ps:=["web","laying"]) X G F46 a46 (fun _ _ _ _ _ _=>kW fun _ _=>rfl);obtain⟨d47,F47,a47⟩:=a47;have iC:=DA.d (ps:=["web","laying"]) X G F47 a47 (fun _ _ _ _ _ _=>kW fun _ _=>rfl);obtain⟨d48,F48,a48⟩:=a48;have oK:=DA.d (ps:=["web","costs"]) X G F48 a48 (fun _ _ _ _ _ _=>kW fun _ _=>rfl);obtain⟨d49,F49,a49⟩:=a49;have vR:=DA.d (ps:=["web","worth","laying","costs"]) X G F49 a49 (fun _ _ _ _ _ _=>bn4 fun _ _ _ _=>rfl);obtain⟨d50,F50,a50⟩:=a50;have yP:=DA.d (ps:=["cup","web","most"]) X G F50 a50 (fun _ _ _ _ _ _=>J0 fun _ _ _=>rfl);obtain⟨d51,F51,a51⟩:=a51;have Fw:=DA.d (ps:=["sharing","deed"]) X G F51 a51 (fun _ _ _ _ _ _=>kW fun _ _=>rfl);obtain⟨d52,F52,a52⟩:=a52;have qU:=DA.d (ps:=["cup"]) X G F52 a52 (fun _ _ _ _ _ _=>rP fun _=>rfl);obtain⟨d53,F53,a53⟩:=a53;have yR:=DA.d (ps:=["deed","web"]) X G F53 a53 (fun _ _ _ _ _ _=>kW fun _ _=>rfl);obtain⟨d54,F54,a54⟩:=a54;have m7:=DA.d (ps:=["sharing","web","elder","often"]) X G F54 a54 (fun _ _ _ _ _ _=>bn4 fun _ _ _ _=>rfl);have F55:=fun_mk (st:=rE) l55 c55 k55;have nG:=Xn X G x0;have vH:=Xn X G x1;have zA:=Xn X G x2;have Zf:=Cv X G z0;have rH:=Cv X G z1;have Tz:=Cv X G z2;have yc:=Cv X G z3;have eV:=Cv X G z4;have GZ:=Cv X G z5;have aU:=Cv X G z6;have eU:=Cv X G z7;have lN:=Cv X G z8;have Ae:=Cv X G z9;have wD:=Cv X G z10;have bM:=Cv X G z11;have lM:=Cv X G z12;have Ze:=Cv X G z13;have bx:=Cv X G z14;have qJ:=Xn X G y0;have qK:=Xn X G y1;obtain⟨md0,FM0,Zi⟩:=Zi;have oR:=MA.d (ps:=["self","sets","wants"]) FM0 Zi (fun _ _ _ _ _ _=>J0 fun _ _ _=>rfl);obtain⟨md1,FM1,ma1⟩:=ma1;have kI:=MA.d (ps:=["self"]) FM1 ma1 (fun _ _ _ _ _ _=>rP fun _=>rfl);obtain⟨md2,FM2,ma2⟩:=ma2;have mq:=MA.d (ps:=["self","column","row","other"]) FM2 ma2 (fun _ _ _ _ _ _=>bn4 fun _ _ _ _=>rfl);obtain⟨md3,FM3,ma3⟩:=ma3;have oO:=MA.d (ps:=["self","column"]) FM3 ma3 (fun _ _ _ _ _ _=>kW fun _ _=>rfl);obtain⟨md4,FM4,ma4⟩:=ma4;have qW:=MA.d (ps:=["self","cells","pivots","column"]) FM4 ma4 (fun _ _ _ _ _ _=>bn4 fun _ _ _ _=>rfl);obtain⟨md5,FM5,ma5⟩:=ma5;have vg:=MA.d (ps:=["self","row","column"]) FM5 ma5 (fun _ _ _ _ _ _=>J0 fun _ _ _=>rfl);obtain⟨md6,FM6,ma6⟩:=ma6;have rY:=MA.d (ps:=["self"]) FM6 ma6 (fun _ _ _ _ _ _=>rP fun _=>rfl);obtain⟨md7,FM7,ma7⟩:=ma7;have cJ:=MA.d (ps:=["self","row","column"]) FM7 ma7 (fun _ _ _ _ _ _=>J0 fun _ _ _=>rfl);obtain⟨md8,FM8,ma8⟩:=ma8;have oN:=MA.d (ps:=["self","name"]) FM8 ma8 (fun _ _ _ _ _ _=>kW fun _ _=>rfl);obtain⟨md9,FM9,ma9⟩:=ma9;have oM:=MA.d (ps:=["self","name"]) FM9 ma9 (fun _ _ _ _ _ _=>kW fun _ _=>rfl);obtain⟨abw,aaE,M4⟩:=M4;have oU:=MA.d (ps:=["self","web"]) aaE M4 (fun _ _ _ _ _ _=>kW fun _ _=>rfl);obtain⟨abv,aaD,V5⟩:=V5;have mD:=MA.d (ps:=["self","web","told"]) aaD V5 (fun _ _ _ _ _ _=>J0 fun _ _ _=>rfl);obtain⟨abu,aaC,V4⟩:=V4;have cM:=MA.d (ps:=["self","web"]) aaC V4 (fun _ _ _ _ _ _=>kW fun _ _=>rfl);obtain⟨abt,aaB,V2⟩:=V2;have gM:=MA.d (ps:=["self","one","other"]) aaB V2 (fun _ _ _ _ _ _=>J0 fun _ _ _=>rfl);obtain⟨abr,aaA,VR⟩:=VR;have vZ:=MA.d (ps:=["self","ties"]) aaA VR (fun _ _ _ _ _ _=>kW fun _ _=>rfl);obtain⟨abq,aaz,VP⟩:=VP;have vY:=MA.d (ps:=["self","one","other"]) aaz VP (fun _ _ _ _ _ _=>J0 fun _ _ _=>rfl);obtain⟨abp,aay,VN⟩:=VN;have su:=MA.d (ps:=["self","one","other"]) aay VN (fun _ _ _ _ _ _=>J0 fun _ _ _=>rfl);obtain⟨abo,aax,VL⟩:=VL;have vh:=MA.d (ps:=["self"]) aax VL (fun _ _ _ _ _ _=>rP fun _=>rfl);obtain⟨abn,aaw,VJ⟩:=VJ;have vX:=MA.d (ps:=["self"]) aaw VJ (fun _ _ _ _ _ _=>rP fun _=>rfl);obtain⟨abm,aav,VH⟩:=VH;have rZ:=MA.d (ps:=["self"]) aav VH (fun _ _ _ _ _ _=>rP fun _=>rfl);obtain⟨abl,aau,VG⟩:=VG;have qY:=MA.d (ps:=["self"]) aau VG (fun _ _ _ _ _ _=>rP fun _=>rfl);obtain⟨abk,aat,VF⟩:=VF;have qX:=MA.d (ps:=["self"]) aat VF (fun _ _ _ _ _ _=>rP fun _=>rfl);obtain⟨abj,aas,VD⟩:=VD;have sy:=MA.d (ps:=["self"]) aas VD (fun _ _ _ _ _ _=>rP fun _=>rfl);have bH:Cls K aG:=⟨Fe,Fb,Ez,Ew⟩;have cU:NoAttr K aG "cells":=qP;have dO:NoAttr K aG "over":=rO;have bF:NoAttr K aG "columns":=oG;have dN:NoAttr K aG "rows":=rN;have mk_Tableau:Mk K aG mf0:=⟨Et,Zi.1,Zi.2.1,Er⟩;have El:Cls K aq:=⟨Fg,Fd,EY,Ey⟩;have uD:NoAttr K aq "kept_laying":=jR;have vK:NoAttr K aq "times_anew":=j9;have Ad:NoAttr K aq "kept_web":=m6;have vL:NoAttr K aq "kept_value":=kh;have uz:NoAttr K aq "kept_prices":=jQ;have mk_Sharing:Mk K aq Zh:=⟨Eu,M4.1,M4.2.1,Es⟩;refine⟨W.fnOf "law" "law" (defArgs rE) (defBody rE) (defScope rE) .none Zm aaf Y8 aam WT aag,fun s v=> .of_eq rfl,fun base _ _=> ?_⟩;have mZ:=Bt.mk El uD vK Ad vL uz;have Rx:=Mt (P:=l.prog) (w:=w) (mg:=mg) (base:=base) F36;have Ba:=Vt F37 yO Rx eU;have Rr:=Mg F38 eZ Ba bM bx;have Wx:=Q5 F39 eZ Ba u6 Rr;have Wi:=QC F52 eZ Ba bM bx;have sZ:=Mf (P:=l.prog) (w:=w) (base:=base) F0 aU GZ yc;have HD:=Mp (P:=l.prog) (w:=w) (base:=base) F1 jW sZ;have NP:=Jk (P:=l.prog) (w:=w) (base:=base) F2 vd HD rH;have Ax:=Jj (P:=l.prog) (w:=w) (mg:=mg) (base:=base) F3 rH bM eU;have Nz:=Vo (P:=l.prog) (w:=w) (base:=base) F4 yU NP mj Ax aU bx;have Wj:=QD (P:=l.prog) (w:=w) (base:=base) F5 u9 Nz mj Ax aU bx rH eU;have ZL:=Ve (P:=l.prog) (w:=w) (base:=base) F6 jW sZ Fz Wj aU bx eU nG;have ji:=Ds (P:=l.prog) (w:=w) (base:=base) F7 Pg ZL;have rJ:=xW F25 jW sZ eU aU bx rH zA;have NZ:=Jl (P:=l.prog) (w:=w) (mg:=mg) (base:=base) F22;have Ef:=Ac F23 JM NZ lN bM eU lM;have HJ:=Vs (P:=l.prog) (w:=w) (mg:=mg) (base:=base) F12 wD Ae;have RB:=Mz F21 mX HJ bM;have Az:=xY F24 gG ji BL Ef rT RB bM;have Wk:=QF (P:=l.prog) (w:=w) (mg:=mg) (base:=base) FM0 bH cU dO bF dN eU bM lN;have ZX:=Vm (P:=l.prog) (w:=w) (mg:=mg) (base:=base) FM1 bH cU dO bF dN eV wD;have ZQ:=Vh (P:=l.prog) (w:=w) (mg:=mg) (base:=base) FM4 bH cU dO bF dN eV;have ZM:=Vf FM5 bH cU dO bF dN qW ZQ;have ZP:=Vg (P:=l.prog) (w:=w) (mg:=mg) (base:=base) FM2 bH cU dO bF dN;have ZW:=Vl FM3 bH cU dO bF dN mq ZP bM eU;have ZR:=Vi FM6 bH cU dO bF dN kI ZX vg ZM oO ZW;have Z6:=Y9 (P:=l.prog) (w:=w) (mg:=mg) (base:=base) F13;have HF:=Vr (P:=l.prog) (w:=w) (base:=base) F14 gK Z6 Zf;have Ny:=Vn FM7 bH cU dO bF dN qe HF;have ZS:=Vj FM9 bH cU dO bF dN qe HF cJ Ny;have ZV:=Vk FM8 bH cU dO bF dN qe HF cJ Ny;have Aw:=Ji F26 bH cU dO bF dN qJ gG ji qd rJ yS Az oR mk_Tableau Wk rY ZR oM ZS oN ZV cJ Ny eV bM;have NQ:=QW (P:=l.prog) (w:=w) (mg:=mg) (base:=base) F31;have HB:=Mj (P:=l.prog) (w:=w) (mg:=mg) (base:=base) aaD mZ;have Wu:=QV aaE mZ gG ji Bw Aw uZ NQ mD HB;have Ru:=Mq (P:=l.prog) (w:=w) (mg:=mg) (base:=base) F18;have Z9:=Vv F32 yM Ru bx;have Wm:=QG aaw mZ vV Z9;have N8:=Vx F33 qe HF;have Wn:=QH aav mZ dD N8;have aac:=Vw (P:=l.prog) (w:=w) (mg:=mg) (base:=base) F34 bx;have Wt:=QT aau mZ vW aac dD N8;have Ws:=QS aat mZ dD N8;have yr:=Mv (P:=l.prog) (w:=w) (mg:=mg) (base:=base) F42;have Ei:=Q7 F44 jV yr Tz aU yc eU bx GZ;have Rw:=Ms (P:=l.prog) (w:=w) (mg:=mg) (base:=base) F40 wD Ae;have HN:=Mu F41 yN Rw Tz;have Wy:=Ra F48 gH Ei jV yr gJ HN rH eU aU lN bM Ze;have N6:=Q8 F46 gJ HN gH Ei aU lN bM eV eU bx;have Ry:=Mw F43 jV yr;have Eh:=Q6 F45 yQ Ry;have N7:=Q9 F47 lZ Eh bM;have N5:=Jm F49 oK Wy iB N6 gH Ei iC N7 lZ Eh;have Z0:=Vp (P:=l.prog) (w:=w) (mg:=mg) (base:=base) aas mZ;have Rv:=Mr F54 mZ vX Wm rZ Wn qY Wt qX Ws vR N5 iC N7 iB N6 lZ Eh sy Z0 aU bx GZ yc;have Z1:=Vq F50 eZ Ba bx bM lM lN wD Ae;have Wz:=Rb (P:=l.prog) (w:=w) (mg:=mg) (base:=base) F53 wD Ae bx lM;have wI:=Dt (P:=l.prog) (w:=w) (base:=base) F9 u9 Nz;have Jv:=Du (P:=l.prog) (w:=w) (base:=base) F10 nG;have Wv:=QZ F16 jW sZ eU aU bx vH;have Rz:=Mx (P:=l.prog) (w:=w) (mg:=mg) (base:=base) F20 eU;have Jw:=Dw F27 vU Wv u9 Nz rW Rz eU aU bx;have Ju:=Dr (P:=l.prog) (w:=w) (mg:=mg) (base:=base) F3 rH bM eU;have Ec:=Aa F28 Fx Jw mj Ju rH aU lN;have NT:=QX (P:=l.prog) (w:=w) (mg:=mg) (base:=base) F15;have Hz:=Mh F17 gK Z6;have Ww:=Q0 F29 wO NT Bv Hz;have Ed:=Ab F30 gG ji qd rJ BJ Ec Xa Ww wO NT Bv Hz rH eV;have tu:=Mi aaC mZ Bw Aw uZ NQ BK (Ed.mono (by decide)) mD HB;have Wr:=QM aaA mZ u5 wI Fv Jv cM tu bx lM lN;have WD:=Rf (P:=l.prog) (w:=w) (base:=base) F11 bM;have Z8:=Vu (P:=l.prog) (w:=w) (base:=base) F19 gG ji u5 wI R3 WD mX HJ bx eU;have Rt:=Ml aax mZ cM tu Fy Z8 bx bM;have Ay:=xX (P:=l.prog) (w:=w) (base:=base) F8 vd HD;have NK:=QK aaB mZ yL Ay;have TV:=Vy (P:=l.prog) (w:=w) (mg:=mg) (base:=base) F35 wD Ae;have Wq:=QL aaz mZ gM NK mX HJ BP TV cM tu lN bx lM;have Wo:=QJ aay mZ gM NK mX HJ BP TV cM tu bx;have aad:=Vz F51 mZ vZ Wr vh Rt vY Wq su Wo;exact ok_law F55 mZ qK Bx Wx eZ Ba qU Wi oU mk_Sharing Wu m7 Rv yP Z1 yR Wz Fw aad bM eU aU yc GZ
theorem walk{l:PySem.W.OpenLaw}{q:ξ}{loose:List Str}{XP:(L5)->Heap->Prop}{YP:τ->Heap->Prop}{d:DefRec}{K:Params->PySem.W.Frag}(hn:l.most=some 63)(hdf:d.params.defaults=[])(hY:∀(w:τ) (h:Heap),YP w h->(K w.params).In h)
  (F:∀(w:τ) (mg:L5) (fa:Addr) (h:Heap),(K w.params).In h->h.Ns mainGlobals mg->mg d.name=some (.ref fa)->
   ∃fd:ρ,(∀(s:η) (u:ζ),BindsTo s fd ⟨[u],[]⟩ [("script",u)])/\∀base:Heap,(K w.params).In base->base.Ns mainGlobals mg->FnOk l.prog w (K w.params) mg base CX0 14 fa fd ["script"] (spLaw (K w.params))):
  PySem.W.WalkO q loose XP YP l.row.toRowW d [] (fun f vs=>PySem.call f vs):=
 L2.walk_of (n:=63) (k:=14) (x:="script") (CX:=fun _=>CX0) (sp:=fun w=>spLaw (K w.params)) hn (by decide) hdf ⟨rfl,by decide,by decide,rfl⟩ hY F (fun _ _ a ns hl hO hS=>KY hl hO hS) fun _ _ _ _ _ z=>z
end Hs
open PySem PySem.W PyProof.Rows
set_option maxRecDepth 100000 in
set_option maxHeartbeats 0 in
theorem PySem.Challenge.cw_hueshare_k50_shares_kept_holds : PySem.Challenge.rw_hueshare_k50_shares_kept.Holds := by
 refine Hd.early.2 ?_;unfold Hd.early;dsimp only
 k_fill
 refine Hs.walk (l:=PySem.Challenge.rw_hueshare_k50_shares_kept) rfl rfl (fun w h Y=>PySem.W.kIn_of Y) ?F
 case F=>
  intro w mg fa h KX G hmg
  refine' Hs.all_mk KX G hmg .of .of .of .of .of .of .of .of .of .of .of .of .of .of .of .of .of .of .of .of .of .of .of .of .of .of .of .of .of .of .of .of .of .of .of .of .of .of .of .of .of .of .of .of .of .of .of .of .of .of .of .of .of .of .of (by k_is) (by k_is) (by k_is) (by k_is) (by k_is) (by k_is) (by k_is) (by k_is) (by k_is) (by k_is) (by k_is) (by k_is) (by k_is) (by k_is) (by k_is) (by k_is) (by k_is) (by k_is) (by k_is) (by k_is) (by k_is) (by k_is) (by k_is) (by k_is) .of .of .of .of .of .of .of .of .of .of .of .of .of .of .of .of .of .of .of .of .of .of .of (by k_is) (by k_is) (by k_is) (by k_is) (by k_is) (by k_is) (by k_is) (by k_is) (by k_is) (by k_is) (by k_is) (by k_is) (by k_is) (by k_is) (by k_is) (by k_is) (by k_is) (by k_is) (by k_is) (by k_is) (by k_is)
