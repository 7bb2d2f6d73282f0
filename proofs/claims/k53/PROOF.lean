import PyProof.Rows.All
import Wide.All
import OpenK.AllK
import Wide.FinOn
import Lean
import PyProof.EqAt
import PyProof.EqKinds
import PyProof.TupleCall
import PyProof.ListRange
import PyProof.TupleOfSeq
import PyProof.Draws
import PyProof.EnumMake
import PyProof.TupleIter
import PyProof.Rows.SetFrom
import PyProof.SetRoads
import PyProof.WalksMore
import PyProof.Rows.SortShell
import KE.KMinBuiltin
import PyProof.Rows.CallKwBuiltin
import KE.KRevIter
import PyProof.Rows.Tup
import PyProof.Rows.Range3
import PyProof.DictWalks
import PyProof.DictTruth
import PyProof.TupleKey
import PyProof.Rows.SeqMore2
import PyProof.FString
import PyProof.StrWalks
import PyProof.StrBlockH
import PyProof.StrCalls2
import PyProof.SliceStr2
import KE.KIntText
import PyProof.StrLawsTight
import KE.KDictList
import PyProof.DictRoadsH
import KE.KLam
import KE.KNestM
import PyProof.DictItems
import PyProof.IsiHeapPairs
import KE.KPairComp
import PyProof.MinMaxWalk
import PyProof.MeetsSeq
import PyProof.Rows.ZipGen
import PySem.Challenge.RW_hueshare_k53_whole_comes_and_goes
set_option compiler.extract_closed false
set_option Elab.async false
set_option linter.all false
set_option maxRecDepth 100000

noncomputable abbrev ζ:=PySem.Value
noncomputable abbrev η:=PySem.Shared
noncomputable abbrev θ:=PySem.PyData
noncomputable abbrev ξ:=PySem.Program
noncomputable abbrev ρ:=PySem.FuncData
noncomputable abbrev τ:=PySem.World
noncomputable abbrev L4:=PySem.Str->Option ζ
noncomputable abbrev L3:=ζ->η->Prop
noncomputable abbrev L1:=List (PySem.Addr×PySem.Obj)
noncomputable abbrev L0:=List (Int×Int)
def cR:=@of_decide_eq_true
def aY:=@PySem.wpAny_bind
def cI:=@decide_eq_true
def aq:=@if_neg
def au:=@if_pos
def jK:=@decide_eq_false
def lZ:=@Bool.and_eq_true
def eU:=@PySem.wpAny_pure
def iz:=@PySem.sizeLine_eq
def vq:=@Bool.false_ne_true
def uI:=@Option.some.inj
def IV:=@PyProof.Rows.callWith_type1
def Gj:=@of_decide_eq_false
def jz:=@congrArg
def IK:=@PySem.mem_of_lookup
def DG:=@Bool.eq_iff_iff
def Iz:=@PySem.wpAny_truthy_bool
def M6:=@decide_eq_true_eq
def was:=@PySem.W.mg_none_of
def VN:=@Classical.byContradiction
def Iw:=@PySem.PassesOwn.never
def lQ:=@Ne.symm
def VL:=@PySem.F.plainAttrs_list
def QS:=@decide_eq_true_iff
def way:=@PyProof.Rows.KeyOrd.kle_refl
def RZ:=@PySem.wpAny_Call_Name_kw
def QM:=@Bool.not_eq_true
def Ib:=@PySem.wpAny_field
def wbc:=@PySem.F.slot_tuple_iterator_next
def RX:=@PySem.wpAny_passesOwn
def VJ:=@PySem.wpAny_newObj_type
def WM:=@PySem.Heap.SameBut.update
def wbg:=@PySem.wpAny_callSpecial?_slot
def VH:=@PySem.wpAny_call_entry
def RW:=@PySem.wpAny_seqItems
def WL:=@PySem.wpAny_pyIter_tuple
def WK:=@PySem.wpAny_setField_rec
def RV:=@PySem.Paired.length
def M5:=@PySem.wpAny_mono
def WD:=@PyProof.Rows.KeyOrd.kle_of_klt
def Wz:=@PySem.wpAny_pyIter_list
def wbp:=@PySem.F.args_tuple_add_2
def VG:=@PySem.wpAny_holding
def wbr:=@PySem.Calls.spliced_cons
def wbs:=@PySem.F.entry_tuple_add
def Wy:=@PySem.W.KasT.kasWp_bind
def wbu:=@decide_eq_false_iff_not
def wbv:=@PySem.F.slot_list_index
def wbw:=@PySem.F.type_list_index
def wbx:=@Int.eq_ofNat_of_zero_le
def wby:=@PySem.F.slot_tuple_add
def wbz:=@PySem.Heap.get?_update_other
def wca:=@List.length_pos_of_mem
def wcb:=@List.any_eq_false
def wcc:=@PySem.Calls.spliced_nil
def wcd:=@PySem.Heap.get?_push_ne
def wce:=@List.ext_getElem?
def wcf:=@PySem.wpAny_pyIter_enum
def wcg:=@Bool.not_eq_true'
def wch:=@PyProof.Rows.KeyOrd.kle_trans
def wci:=@Nat.dvd_mul_left
def Z9:=@Nat.Coprime.symm
def wck:=@List.getElem?_append
def wcl:=@PySem.F.args_tuple_iterator_next_1
def Wx:=@Int.ofNat.inj
def wcn:=@List.filterMap_cons
def Z8:=@PySem.wpAny_execs_nil
def VF:=@Int.mul_one
def wcq:=@PySem.W.plainGet_of
def wcr:=@Nat.add_sub_cancel'
def Z6:=@PyProof.Rows.get?_update_seq
def Z1:=@PySem.codeAny_builtin
def wcu:=@PySem.F.entry_tuple_iterator_next
def Z0:=@PySem.pushCells_keeps
def VD:=@Int.mul_pos
def ZX:=@PySem.F.slot_zip_next
def wcy:=@List.filter_sublist
def ZW:=@Bool.or_eq_true
def wda:=@Int.fdiv_eq_ediv_of_nonneg
def wdb:=@Int.mul_lt_mul_of_pos_left
def Ww:=@PySem.codeAny_mono
def wdd:=@PySem.W.callWith_K
def wde:=@List.zip_cons_cons
def Wv:=@Nat.mul_comm
def wdg:=@Int.eq_of_mul_eq_mul_left
def wdh:=@Int.lt_of_mul_lt_mul_left
def wdi:=@List.mem_or_eq_of_mem_set
def wdj:=@List.append_assoc
def VB:=@PySem.call_meets
def wdl:=@Nat.le_of_succ_le
def wdm:=@PyProof.noPylong_of_log2
def wdn:=@Int.mul_ediv_cancel_left
def wdo:=@Nat.gcd_pos_of_pos_right
def wdp:=@List.getElem?_set
def wdq:=@PySem.F.slot_list_append
def wdr:=@PySem.F.type_list_append
def ZV:=@PySem.rangeSize_one
def wdt:=@List.getElem?_replicate
def ZS:=@PyProof.Rows.listUpdate_at
def ZR:=@PySem.wpAny_newList
def ZQ:=@List.all_cons
def wdx:=@Nat.gcd_pos_of_pos_left
def ZP:=@Nat.mul_assoc
def wdz:=@List.filter_cons_of_pos
def wea:=@List.filter_cons_of_neg
def wec:=@PySem.noFill_tuple_add
def wed:=@Option.getD_some
def wee:=@PySem.AutoSeq1.idx_int
def wef:=@List.not_mem_nil
def weg:=@Int.natCast_ediv
def weh:=@List.getElem?_set_self
def wei:=@PySem.W.cellsFrom_some
def wej:=@Nat.le_mul_of_pos_left
def wek:=@PySem.W.methodCall_KW
def wel:=@List.of_mem_zip
def wem:=@List.forIn_cons
def ZM:=@Int.zero_add
def weo:=@Int.ediv_nonneg
def wep:=@Int.le_antisymm
def ZL:=@List.map_id'
def ZK:=@Nat.mul_zero
def wes:=@List.filter_map
def Wu:=@PyProof.Rows.boot_range
def weu:=@Bool.false_and
def wev:=@Bool.and_false
def wew:=@List.forIn_nil
def wex:=@Int.add_le_add
def ZJ:=@PySem.IsRange.new
def wez:=@Int.lt_irrefl
def wfa:=@Nat.le_of_dvd
def wfb:=@Bool.true_and
def RQ:=@if_true
def ZG:=@Nat.sub_le
def wfe:=@List.map_set
def Vz:=@PySem.W.mg_of
def aH:=@List.length_map
def eO:=@List.getElem?_eq_getElem
def aR:=@Nat.le_refl
def eV:=@PySem.Heap.get?_push_of_some
def cg:=@List.map_append
def iR:=@List.getD_eq_getElem?_getD
def dY:=@List.getElem?_map
def jy:=@List.mem_cons_of_mem
def cW:=@List.mem_cons
def eN:=@List.mem_filter
def cQ:=@Nat.le_trans
def pO:=@List.getElem?_eq_some_iff
def iw:=@List.size_toArray
def jx:=@List.mem_cons_self
def dD:=@Nat.le_of_lt
def kW:=@Nat.lt_of_lt_of_le
def kO:=@List.mem_singleton
def nG:=@PySem.Heap.get?_push_size
def fD:=@PySem.Heap.lt_size
def dX:=@Nat.zero_le
def qQ:=@List.mem_of_getElem?
def pH:=@List.all_eq_true
def iM:=@Nat.ne_of_lt
def rE:=@List.length_append
def iK:=@List.mem_map
def vo:=@List.length_filter_le
def pL:=@List.mem_append
def rW:=@List.take_length
def pJ:=@List.mem_range
def uK:=@Nat.lt_succ_of_lt
def uH:=@List.length_take
def vm:=@List.length_range
def vX:=@List.take_add_one
def vW:=@Nat.lt_succ_self
def rD:=@Nat.lt_irrefl
def Gi:=@List.mem_append_right
def yj:=@List.length_cons
def pF:=@Int.le_refl
def yr:=@Nat.succ_ne_zero
def yh:=@List.range_succ
def Dy:=@List.filter_append
def M4:=@Nat.mul_div_cancel_left
def Gh:=@Nat.lt_of_le_of_lt
def Ay:=@List.getElem_mem
def Ax:=@List.filter_cons
def RP:=@Int.mul_le_mul_of_nonneg_left
def yg:=@List.map_cons
def Aw:=@List.append_nil
def vh:=@List.map_map
def Av:=@Nat.min_le_left
def Ir:=@List.replicate_succ
def Ar:=@PySem.Heap.size_push
def Aq:=@Int.mul_nonneg
def yd:=@Nat.succ_pos
def yc:=@Int.mul_zero
def MP:=@List.getElem_of_mem
def QG:=@List.pairwise_singleton
def Ia:=@List.lookup_cons
def Ws:=@List.take_succ_eq_append_getElem
def Nu:=@List.map_congr_left
def Wr:=@Int.mul_le_mul_of_nonneg_right
def Ip:=@List.nodup_cons
def Vy:=@List.pairwise_iff_getElem
def QF:=@Int.toNat_of_nonneg
def Dw:=@Nat.le_of_eq
def RN:=@List.length_replicate
def Nt:=@Int.toNat_natCast
def Nr:=@List.pairwise_map
def QD:=@Nat.lt_of_le_of_ne
def Ao:=@Int.one_mul
def QC:=@List.pairwise_cons
def Wq:=@Int.le_of_mul_le_mul_right
def RM:=@Array.length_toList
def QB:=@Nat.le_of_lt_succ
def RL:=@List.getElem?_range
def Nq:=@List.length_nil
def HY:=@Int.mul_comm
def HX:=@Int.zero_mul
def Vx:=@List.getElem?_eq_none
def RK:=@Int.natAbs_natCast
def RJ:=@List.flatten_cons
def Wo:=@List.take_of_length_le
def ZF:=@List.getElem?_append_right
def Np:=@Int.mul_assoc
def MN:=@Int.le_of_lt
def Vw:=@Nat.eq_zero_or_pos
def Wn:=@Nat.sub_one_lt_of_le
def Wm:=@List.pairwise_append
def RG:=@Nat.le_antisymm
def ZD:=@Nat.succ_add_eq_add_succ
def RD:=@Nat.not_lt_zero
def Nm:=@Nat.ne_of_gt
def Nk:=@Nat.lt_trans
def MK:=@Nat.le_succ
def Vv:=@Nat.le_add_right
def RB:=@Int.natAbs_mul
def ZC:=@List.filter_eq_nil_iff
def Zz:=@List.pairwise_lt_range
def Zy:=@List.cons_lt_cons_iff
def Vu:=@Int.natCast_mul
def Vt:=@List.find?_cons
def Rz:=@List.any_cons
def Wk:=@Nat.gcd_dvd_right
def ydz:=@Array.perm_iff_toList_perm
def yea:=@Int.eq_of_mul_eq_mul_right
def Zx:=@List.mem_append_left
def Zw:=@Nat.le_sub_one_of_lt
def yed:=@List.getElem?_append_left
def Zv:=@List.mem_map_of_mem
def Ry:=@List.map_nil
def Rx:=@Int.add_zero
def Zu:=@List.map_singleton
def Vs:=@Int.le_of_eq
def Vr:=@List.all_map
def Vq:=@Int.le_trans
namespace Hd
open PySem PySem.W PySem.Calls PyProof.Rows
-- a run of the text's top over the heap as a tree, as one fold
noncomputable def SN(tb:String->Option Builtin)(p:ξ)(w:τ)(m:Nat)(ann:Option ζ)(n:Nat):SharedT->Thread->Option SharedT:=
 @Nat.rec (fun _=>SharedT->Thread->Option SharedT) (fun _ _=>none)
  (fun _ ih s t=> @Bool.rec (fun _=>Option SharedT)
   (@Bool.rec (fun _=>Option SharedT) none
    (@Option.rec (SharedT×Thread) (fun _=>Option SharedT) none (fun r=>ih r.1 r.2) (stepT (denote tb) p w s t)) (stepOk m ann t))
   (some s) (through t)) n
theorem N6{tb:String->Option Builtin}{p:ξ}{w:τ}{m:Nat}{ann:Option ζ}:∀(n:Nat) (s s':SharedT) (t:Thread),
  SN tb p w m ann n s t=some s'->topRun tb p w m ann n s.abs t=some s'.abs:=by
 intro n
 induction n with
 |zero=>intro s s' t h;exact absurd h (by intro h;cases h)
 |succ n ih=>
  intro s s' t h;have h1: @Bool.rec (fun _=>Option SharedT) (@Bool.rec (fun _=>Option SharedT) none
    (@Option.rec (SharedT×Thread) (fun _=>Option SharedT) none (fun r=>SN tb p w m ann n r.1 r.2) (stepT (denote tb) p w s t)) (stepOk m ann t))
    (some s) (through t)=some s':=h
  unfold topRun;cases e1:through t with
  |true=>rw[e1]at h1;injection h1 with h1;rw[h1]
  |false=>
   rw[e1]at h1;cases e2:stepOk m ann t with
   |false=>rw[e2]at h1;cases h1
   |true=>
    rw[e2]at h1;cases e3:stepT (denote tb) p w s t with
    |none=>rw[e3]at h1;cases h1
    |some r=>
     rw[e3]at h1;have e4:=stepT_spec (s':=r.1) (t':=r.2) e3;show(match step (denote tb) p w s.abs t with | .go a b=>topRun tb p w m ann n a b| .halt _ _=>none)=_;rw[e4];exact ih _ _ _ h1
noncomputable def treeOf(l:List Obj):BT:=(l.foldl (fun x o=>(x.1.ins x.2 o,x.2+1)) ((BT.nil,0):BT×Nat)).1
-- the run from the start that the kit has laid
noncomputable def ran(p:ξ)(N:Nat)(w:τ)(os:OsState):Option SharedT:=
 SN treeTable p w 11 (some (.ref 6)) N ⟨treeOf (boot_heap w.params).objs.toList,11,{},Array.mk [],boot_drawn,boot_toks,os⟩ (topStub p)
-- what is looked at behind the run
noncomputable def looked(p q:ξ)(loose:List Str)(Xt:η->Bool)(g0:Bool)(h:Heap)(s:η):=
 ((staticsOk (importedModules p.main.body) h s.heap&&namesBound p s.heap&&gensDone s&&laidKept h s.heap),openSeen q loose (importedModules p.main.body) Xt g0 s)
noncomputable def qw(p q:ξ)(loose:List Str)(Xt:η->Bool)(g0:Bool)(N:Nat):Prop:=
 ∀(w:τ) (os:OsState),(ran p N w os).map (fun s=>looked p q loose Xt g0 (boot_heap w.params) s.abs)=some (true,openGood q loose)
theorem Pr{p q:ξ}{loose:List Str}{Xt:η->Bool}{α:Type}{Yf:η->α}{Ya:τ->α}{N:Nat}{g0:Bool}(r:qw p q loose Xt g0 N)(e:opening p=plainProg p.main.scope.names)(hN:Nat.ble 600 N=true)(f:∀s,fenceModules? p s=some s)(y:∀(w:τ) (os:OsState),(ran p N w os).map (fun s=>Yf s.abs)=some (Ya w)):
  LeftO p q loose Xt Yf Ya N g0:=fun w=>by
 have b:((boot_heap w.params).isNs mainGlobals&&(Array.mk []:Array GenState).size==0,(boot_heap w.params).objs.size,(boot_heap w.params).nsMap mainGlobals "__annotations__")=(true,11,some (.ref 6)):=by kernel_rfl
 have c:absHeap (treeOf (boot_heap w.params).objs.toList) 11 {}=boot_heap w.params:=by kernel_rfl
 obtain⟨⟨h,gs',d',k',os⟩,e1,e'⟩:=Option.map_eq_some_iff.mp (boot_open e hN f w);obtain⟨rfl,rfl,rfl,rfl⟩:h=boot_heap w.params/\gs'=Array.mk []/\d'=boot_drawn/\k'=boot_toks:=by simpa using e'
 obtain⟨b1,b2,b3⟩:_/\_/\_:=by simpa only[Prod.mk.injEq]using b
 obtain⟨s,r1,r2⟩:=Option.map_eq_some_iff.mp (r w os);obtain⟨s',y1,y2⟩:=Option.map_eq_some_iff.mp (y w os);have es:s'=s:=by rw[r1]at y1;injection y1 with y1;exact y1.symm
 subst es;obtain⟨l1,l2⟩:_/\_:=by simpa only[looked,Prod.mk.injEq]using r2
 have t1:=N6 N _ _ _ r1;have ab:SharedT.abs ⟨treeOf (boot_heap w.params).objs.toList,11,{},Array.mk [],boot_drawn,boot_toks,os⟩=⟨boot_heap w.params,Array.mk [],boot_drawn,boot_toks,os⟩:=by unfold SharedT.abs;rw[c]
 rw[ab]at t1;have t:topFrom treeTable p w N ⟨boot_heap w.params,Array.mk [],boot_drawn,boot_toks,os⟩=some s'.abs:=by
  unfold topFrom;dsimp only;rw[b1,b2,b3,t1];show(match staticsOk (importedModules p.main.body) (boot_heap w.params) s'.abs.heap&&namesBound p s'.abs.heap&&gensDone s'.abs&&laidKept (boot_heap w.params) s'.abs.heap with |true=>_|false=>_)=_;rw[l1]
 unfold openEnds;rw[e1];show(topFrom treeTable p w N _).map _=_;rw[t];show some (_,_)=_;rw[l2,y2]
-- what is looked at behind the run, in five groups: a run for each, so that none needs the memory of all
theorem two{α β γ:Type}{o:Option α}{f:α->β}{g:α->γ}{a:β}{b:γ}(h:o.map f=some a)(h':o.map g=some b):o.map (fun s=>(f s,g s))=some (a,b):=by
 cases o with
 |none=>cases h
 |some s=>
  injection h with h
  injection h' with h'
  show some (f s,g s)=_;rw[h,h']
theorem Jc{α β γ:Type}{o:Option α}{f:α->β}{g:α->γ}{a:β}{b:γ}(h:o.map (fun s=>(f s,g s))=some (a,b)):o.map f=some a/\o.map g=some b:=by
 cases o with
 |none=>cases h
 |some s=>
  injection h with h
  injection h with h h'
  exact⟨jz some h,jz some h'⟩
theorem both{α:Type}{o:Option α}{f g:α->Bool}(h:o.map f=some true)(h':o.map g=some true):o.map (fun s=>f s&&g s)=some true:=by
 cases o with
 |none=>cases h
 |some s=>
  injection h with h
  injection h' with h'
  show some (f s&&g s)=_;rw[h,h'];rfl
section
variable(p q:ξ)(Xt:η->Bool)(N:Nat)
noncomputable abbrev GA:Prop:=∀(w:τ) (os:OsState),(ran p N w os).map (fun s=>(seen ((recsOf q).map (·.name)) (ownsOf q) [] {s.abs with gens:=#[]},s.abs.heap.bltView,s.abs.heap.isNs mainGlobals,s.abs.heap.isNs builtinsNs,tablesOk q s.abs.heap,s.abs.gens.size==0))=some (expectedOf q,bltViewBooted,true,true,true,true)
noncomputable abbrev GB:Prop:=∀(w:τ) (os:OsState),(ran p N w os).map (fun s=>(s.abs.heap.keysOk (looseW q []) ((recsOf q).map (·.name)) ((litsOf q).map (·.1)) ((clssOf q (looseW q [])).map (·.name)),(staticsOk (importedModules p.main.body) (boot_heap w.params) s.abs.heap&&namesBound p s.abs.heap&&gensDone s.abs&&laidKept (boot_heap w.params) s.abs.heap),s.abs.heap.accountedOkI (importedModules p.main.body),Xt s.abs,plainSeenD q [] s.abs))=some (true,true,true,true,plainGoodD q [])
noncomputable abbrev GC:Prop:=∀(w:τ) (os:OsState),(ran p N w os).map (fun s=>(tabsOk q s.abs,pinSeenD q (drecsOf q) s.abs))=some (true,pinGoodD (drecsOf q))
noncomputable abbrev GD:Prop:=∀(w:τ) (os:OsState),(ran p N w os).map (fun s=>plainSeenE q (looseW q []) s.abs)=some (plainGoodE q (looseW q []))
noncomputable abbrev GE:Prop:=∀(w:τ) (os:OsState),(ran p N w os).map (fun s=>(wideSeen q s.abs,clsSeenW q [] s.abs))=some (wideGood q,clsGoodW q [])
end
theorem KQ{p q:ξ}{Xt:η->Bool}{N:Nat}(ga:GA p q N)(gb:GB p q Xt N)(gc:GC p q N)(gd:GD p q N)(ge:GE p q N):qw p q [] Xt true N:=fun w os=>by
 obtain⟨h1,a2⟩:=Jc (ga w os);obtain⟨h2,a3⟩:=Jc a2;obtain⟨h5,a4⟩:=Jc a3;obtain⟨h6,a5⟩:=Jc a4;obtain⟨h7,h9⟩:=Jc a5;obtain⟨h3,b2⟩:=Jc (gb w os);obtain⟨h0,b3⟩:=Jc b2;obtain⟨h4,b4⟩:=Jc b3;obtain⟨h8,k4⟩:=Jc b4;obtain⟨k1,k2⟩:=Jc (gc w os);obtain⟨k5,k6⟩:=Jc (ge w os);exact two h0 (two h1 (two h2 (two (both (both (both (both (both (both h3 h4) h5) h6) h7) h8) h9) (two k1 (two k2 (two (gd w os) (two k4 (two k5 k6))))))))
end Hd
section
open PySem PySem.W PyProof.Rows
namespace Hd
noncomputable abbrev L:=PySem.Challenge.rw_hueshare_k53_whole_comes_and_goes
noncomputable def Q:ξ:=view L.row.toRowW.prog [1,2,3,4,5,6,8,9,10,11,12,13,14,15,16,17,18,19,20,21,23,24,25,26,27,28,29,31,32,34,35,36,37,38,40,41,42,43,44,45,46,47,48,49,50,52,53,54,55,56,57,59,60,61,62,63,64,65,66,67,68]
noncomputable abbrev X:η->Bool:=fun s=>xlAt Q [] s&&recOk (RowW.records L.row.toRowW) s
set_option maxRecDepth 100000 in
theorem g0:GA L.row.toRowW.prog Q 7878:=fun w os=>by kernel_rfl
set_option maxRecDepth 100000 in
theorem g1:GB L.row.toRowW.prog Q X 7878:=fun w os=>by kernel_rfl
set_option maxRecDepth 100000 in
theorem g2:GC L.row.toRowW.prog Q 7878:=fun w os=>by kernel_rfl
set_option maxRecDepth 100000 in
theorem g3:GD L.row.toRowW.prog Q 7878:=fun w os=>by kernel_rfl
set_option maxRecDepth 100000 in
theorem g4:GE L.row.toRowW.prog Q 7878:=fun w os=>by kernel_rfl
theorem looks:qw L.row.toRowW.prog Q [] X true 7878:=KQ g0 g1 g2 g3 g4
end Hd
local macro_rules
 |`(tactic|o_head $H)=>`(tactic|
  refine holds_open (q:=Hd.Q) (loose:=[]) (N:=7878) (Xt:=Hd.X) (XP:=XL Hd.Q [])
   (Yf:=Hook.obs $H) (Ya:=Hook.val $H) (YP:=Hook.says $H)
   (Hd.Pr Hd.looks (by kernel_rfl) rfl (fun _=>by kernel_rfl) (fun _ _=>by kernel_rfl))
   (Hook.of $H) (Hook.keeps $H) (fun s e=>xl_of s (Bool.and_eq_true_iff.mp e).1) XL.keeps
   (by rfl) (by rfl) (by rfl) (fun s e=>recFacts_of (Bool.and_eq_true_iff.mp e).2) (by rfl)
   (by first |assumption|decide+kernel) (by decide+kernel) ⟨rfl,rfl,rfl,rfl,rfl,by decide+kernel⟩ ?hw ?hc)
set_option maxRecDepth 100000 in
set_option maxHeartbeats 0 in
noncomputable def Hd.early:PSigma fun P:Prop=>P->PySem.Challenge.rw_hueshare_k53_whole_comes_and_goes.Holds:=by
 refine⟨?P,fun W=> ?_⟩
 rotate_left
 w_on;o_law;k_head;(case hw=>w_witness2)
 exact W
end
namespace L2
open PySem PySem.Spec PyProof.Rows
noncomputable abbrev Key:=Sum Int Str
noncomputable def keyIs:Key->ζ->Bool
 | .inl k,v=>Value.isInt k v
 | .inr x,v=>Value.isStrOf x v
noncomputable def keyH(w:τ):Key->Int
 | .inl k=>hashInt k
 | .inr x=>hashStr w x
theorem MJ:∀{k:Key} {v:ζ},keyIs k v=true->(∃i t,k=Sum.inl i/\v=Value.int i t)\/(∃x t,k=Sum.inr x/\v=Value.str x t)
 | .inl i,v,h=>by
  obtain⟨t,e⟩:=Value.isInt_shape (k:=i) (v:=v) h;exact .inl ⟨i,t,rfl,e⟩
 | .inr x,v,h=>by
  obtain⟨t,e⟩:=Value.isStrOf_shape (x:=x) (v:=v) h;exact .inr ⟨x,t,rfl,e⟩
theorem keyIs_int(i:Int)(t:Tok):keyIs (.inl i) (.int i t)=true:=by simp[keyIs,Value.isInt]
theorem keyIs_str(x:Str)(t:Tok):keyIs (.inr x) (.str x t)=true:=by simp[keyIs,Value.isStrOf]
theorem key_ll(a b:Int):decide ((Sum.inl a:Key)=Sum.inl b)=(a==b):=by
 by_cases e:a=b
 ·subst e;simp
 ·have h:¬(Sum.inl a:Key)=Sum.inl b:=fun q=>e (Sum.inl.inj q);rw[jK h];exact(beq_eq_false_iff_ne.mpr e).symm
theorem key_rr(a b:Str):decide ((Sum.inr a:Key)=Sum.inr b)=decide (a=b):=by
 by_cases e:a=b
 ·subst e;simp
 ·have h:¬(Sum.inr a:Key)=Sum.inr b:=fun q=>e (Sum.inr.inj q);rw[jK h,jK e]
theorem key_lr(a:Int)(b:Str):decide ((Sum.inl a:Key)=Sum.inr b)=false:=jK (fun q=>nomatch q)
theorem key_rl(a:Str)(b:Int):decide ((Sum.inr a:Key)=Sum.inl b)=false:=jK (fun q=>nomatch q)
noncomputable def mixKind(prog:ξ)(w:τ):PySem.KeyKind prog w Key where
 is:=keyIs
 hash:=keyH w
 inj:=fun v a b ha hb=>by
  rcases MJ ha with⟨i,t,rfl,rfl⟩|⟨x,t,rfl,rfl⟩
  ·rcases MJ hb with⟨j,u,rfl,e⟩|⟨y,u,rfl,e⟩
   ·injection e with e1 _;rw[e1]
   ·exact nomatch e
  ·rcases MJ hb with⟨j,u,rfl,e⟩|⟨y,u,rfl,e⟩
   ·exact nomatch e
   ·injection e with e1 _;rw[e1]
 byValue:=fun k v h=>by
  rcases MJ h with⟨i,t,rfl,rfl⟩|⟨x,t,rfl,rfl⟩<;>rfl
 pyHash:=fun hv h=>by
  rcases MJ hv with⟨i,t,rfl,rfl⟩|⟨x,t,rfl,rfl⟩
  ·exact wpAny_pyHash_int h
  ·exact wpAny_pyHash_str h
 eqBool:=fun hu hv h=>by
  rcases MJ hu with⟨i,t,rfl,rfl⟩|⟨x,t,rfl,rfl⟩
  ·rcases MJ hv with⟨j,u,rfl,rfl⟩|⟨y,u,rfl,rfl⟩
   ·rw[key_ll]at h;exact wpAny_eqBool_int h
   ·rw[key_lr]at h;exact SeqAt.EqAt.int_str i t y u _ _ _ _ h
  ·rcases MJ hv with⟨j,u,rfl,rfl⟩|⟨y,u,rfl,rfl⟩
   ·rw[key_rl]at h;exact SeqAt.EqAt.str_int x t j u _ _ _ _ h
   ·rw[key_rr]at h;exact wpAny_eqBool_str h
 «strs»:=fun k x t v h=>by
  rcases MJ h with⟨i,u,rfl,e⟩|⟨y,u,rfl,e⟩
  ·exact nomatch e
  ·injection e with e1 _
   subst e1;cases v<;>rfl
theorem mixKind_int(prog:ξ)(w:τ)(i:Int)(t:Tok):(mixKind prog w).is (.inl i) (.int i t)=true:=keyIs_int i t
theorem mixKind_str(prog:ξ)(w:τ)(x:Str)(t:Tok):(mixKind prog w).is (.inr x) (.str x t)=true:=keyIs_str x t
inductive V where
 |non|bl (b:Bool)|int (i:Int)|str (x:Str)|byt (b:Array UInt8)|flt (b:UInt64)|ref (a:Addr)|ty (n:String)
 deriving DecidableEq
noncomputable def RelV:V->ζ->Prop
 | .non,u=>u=Value.none
 | .bl b,u=>u=Value.bool b
 | .int i,u=>∃t,u=Value.int i t
 | .str x,u=>∃t,u=Value.str x t
 | .byt b,u=>∃t,u=Value.bytes b t
 | .flt b,u=>∃t,u=Value.float b t
 | .ref a,u=>u=Value.ref a
 | .ty n,u=>u=Value.type n
noncomputable abbrev Vals:List V->List ζ->Prop:=Paired RelV
theorem Vals.length{xs:List V}{us:List ζ}(r:Vals xs us):xs.length=us.length:=RV r
theorem Vals.get:∀{xs:List V} {us:List ζ} {i:Nat} {x:V},Vals xs us->xs[i]? =some x->∃u,us[i]? =some u/\RelV x u
 |_,_,_,_,.nil,e=>by simp at e
 |_,_,0,_,.cons r _,e=>by simp at e;subst e;exact⟨_,rfl,r⟩
 |_,_,i+1,x,.cons _ t,e=>by
  obtain⟨u,h1,h2⟩:=Vals.get (i:=i) (x:=x) t (by simpa using e);exact⟨u,by simpa using h1,h2⟩
theorem Vals.set{x:V}{u:ζ}(r:RelV x u):∀{xs:List V} {us:List ζ} (i:Nat),Vals xs us->Vals (xs.set i x) (us.set i u)
 |_,_,_,.nil=> .nil
 |_,_,0,.cons _ t=> .cons r t
 |_,_,i+1,.cons q t=> .cons q (Vals.set r i t)
theorem Vals.append:∀{xs ys:List V} {us ws:List ζ},Vals xs us->Vals ys ws->Vals (xs++ys) (us++ws)
 |_,_,_,_,.nil,s=>s
 |_,_,_,_,.cons r t,s=> .cons r (Vals.append t s)
theorem Vals.take:∀{xs:List V} {us:List ζ} (n:Nat),Vals xs us->Vals (xs.take n) (us.take n)
 |_,_,0,_=> .nil
 |_,_,_+1,.nil=> .nil
 |_,_,n+1,.cons r t=> .cons r (Vals.take n t)
theorem Vals.drop:∀{xs:List V} {us:List ζ} (n:Nat),Vals xs us->Vals (xs.drop n) (us.drop n)
 |_,_,0,r=>r
 |_,_,_+1,.nil=> .nil
 |_,_,n+1,.cons _ t=>Vals.drop n t
noncomputable def RelO:Option V->Option ζ->Prop
 |some v,some u=>RelV v u
 |none,none=>True
 |_,_=>False
noncomputable def KV{κ:Type}:List (κ×V)->List (κ×ζ)->Prop:=Paired fun(p:κ×V) (q:κ×ζ)=>p.1=q.1/\RelV p.2 q.2
noncomputable def kV:Key->V
 | .inl i=> .int i
 | .inr x=> .str x
inductive HO where
 /-- a list -/
 |lst (xs:List V)
 /-- a tuple (never changes) -/
 |tup (xs:List V)
 /-- a dict whose keys are ints and texts; one whose keys are tuples of ints and texts (the empty one is both) -/
 |dK (kvs:List (Key×V))|dT (kvs:List (List Key×V))
 /-- a set of ints: its members, its size -/
 |set (S:Int->Bool) (n:Nat)
 /-- an instance of the class at C, its dict at dx, its attributes -/
 |ins (C dx:Addr) (fs:List (Str×V))
 /-- the dict of the instance at x -/
 |own (x:Addr)
 /-- the dict of an exception -/
 |xd (fs:List (Str×V))
 /-- a bound method, f of x -/
 |met (f x:Addr)
 /-- a range object lo, lo + 1, .. below hi -/
 |rng (lo hi:Int)
 /-- a thing that is known to the object (the script; a dict while a loop walks it): read, never written while it is so -/
 |frz (o:Obj) (u:HO)
 /-- a code object's table -/
 |tbl (ps:Array ζ)
 /-- any other thing, by what is true of its one object (a def of one's own: SetO a S n := HO.ext fun h => ..) -/
 |ext (φ:Heap->Prop)
noncomputable abbrev Hp:=Addr->Option HO
noncomputable def upd(H:Hp)(a:Addr)(o:HO):Hp:=fun b=>if b=a then some o else H b
theorem aA{H:Hp}{a:Addr}{o:HO}:upd H a o a=some o:=by unfold upd;rw[au rfl]
theorem cP{H:Hp}{a b:Addr}{o:HO}(h:b≠a):upd H a o b=H b:=by unfold upd;rw[aq h]
theorem upd_upd{H:Hp}{a:Addr}{o u:HO}:upd (upd H a o) a u=upd H a u:=by
 funext b;unfold upd;split<;>rfl
theorem ne_of{H:Hp}{a b:Addr}{o u:HO}(h:H a=some o)(h':H b=some u)(d:o≠u):a≠b:=by
 intro e;subst e;rw[h]at h';exact d (uI h')
theorem rC{H:Hp}{a b:Addr}{o:HO}(h:H a=some o)(h':H b=none):a≠b:=by
 intro e;subst e;rw[h]at h';cases h'
section
variable(P:ξ)(w:τ)
noncomputable def ObjOk(H:Hp)(h:Heap)(a:Addr):HO->Prop
 | .lst xs=>xs.length<=sizeLine/\∃(its:List ζ) (n:Nat),Vals xs its/\h.get? a=some {cls:= .type "list",data:= .seq its.toArray n}
 | .tup xs=>xs.length<=sizeLine/\∃its:List ζ,Vals xs its/\IsTup h a its.toArray
 | .dK kvs=>kvs.length<=sizeLine/\(a==sysModules)=false/\∃vs,KV kvs vs/\h.DictOf (mixKind P w) a vs
 | .dT kvs=>kvs.length<=sizeLine/\(a==sysModules)=false/\∃xs:List (List Key×Addr×ζ),
   Paired (fun(p:List Key×V) (q:List Key×Addr×ζ)=>p.1=q.1/\H q.2.1=some (.tup (p.1.map kV))/\RelV p.2 q.2.2) kvs xs/\
   ∃o es ep,h.get? a=some o/\o.ExactDict/\o.data= .dict es ep/\es.toList=xs.map (entryOfKey (tupleKind (mixKind P w)))/\(xs.map (·.1)).Nodup
 | .set S n=>h.SetOf (intKind P w) a S n
 | .ins C dx fs=>H dx=some (.own a)/\fs.length<=1000/\dx≠a/\h.get? a=some (PySem.W.instObj C dx)/\
   ∃mA,h.Ns1 dx mA/\(∀f,RelO (fs.lookup f) (mA f))/\PySem.Within mA (fs.map (·.1))
 | .own _=>∃o,h.get? a=some o
 | .xd fs=>∃mA,h.Ns1 a mA/\∀f,RelO (fs.lookup f) (mA f)
 | .rng lo hi=>∃t u v,h.get? a=some {cls:= .type "range",data:= .fields #[.int lo t,.int hi u,.int 1 v]}
 | .frz o u=>h.get? a=some o/\ObjOk H h a u
 | .tbl ps=>h.get? a=some {cls:= .none,data:= .fields ps}
 | .met f x=>h.get? a=some (PySem.W.methodObj (.ref f) (.ref x))
 | .ext φ=>φ h/\(∃o,h.get? a=some o)/\∀h1 h2:Heap,φ h1->(∀o,h1.get? a=some o->h2.get? a=some o)->φ h2
noncomputable def HOk(H:Hp)(h:Heap):Prop:=∀a o,H a=some o->ObjOk P w H h a o
end
section
variable{P:ξ}{w:τ}{H H':Hp}{h h':Heap}{a:Addr}{o:HO}
theorem ObjOk.lt(x:ObjOk P w H h a o):a<h.objs.size:=by
 cases o with
 |lst xs=>obtain⟨_,_,_,_,e⟩:=x;exact fD e
 |tup xs=>obtain⟨_,_,_,p⟩:=x;exact p.lt
 |dK kvs=>obtain⟨_,_,_,_,o,_,_,e,_⟩:=x;exact fD e
 |dT kvs=>obtain⟨_,_,_,_,o,_,_,e,_⟩:=x;exact fD e
 |set S n=>obtain⟨o,_,_,_,e,_⟩:=x;exact fD e
 |ins C dx fs=>obtain⟨_,_,_,e,_⟩:=x;exact fD e
 |own y=>obtain⟨_,e⟩:=x;exact fD e
 |xd fs=>obtain⟨_,⟨_,_,_,e,_⟩,_⟩:=x;exact fD e
 |rng lo hi=>obtain⟨_,_,_,e⟩:=x;exact fD e
 |frz ob u=>obtain⟨e,_⟩:=x;exact fD e
 |tbl ps=>exact fD (show h.get? a=some _ from x)
 |met f y=>exact fD (show h.get? a=some _ from x)
 |ext φ=>obtain⟨_,⟨_,e⟩,_⟩:=x;exact fD e
theorem Paired.mapP{α β:Type}{F G:α->β->Prop}:∀{l₁:List α} {l₂:List β},Paired F l₁ l₂->(∀a b,F a b->G a b)->Paired G l₁ l₂
 |_,_,.nil,_=> .nil
 |_,_,.cons r t,f=> .cons (f _ _ r) (Paired.mapP t f)
theorem ObjOk.stay(x:ObjOk P w H h a o)(k:∀b u,(b=a\/H b=some (.own a))->h.get? b=some u->h'.get? b=some u)(ho:∀b,H b=some (.own a)->H' b=some (.own a))(ht:∀b xs,H b=some (.tup xs)->H' b=some (.tup xs)):ObjOk P w H' h' a o:=by
 induction o with
 |lst xs=>obtain⟨z,its,n,r,e⟩:=x;exact⟨z,its,n,r,k _ _ (.inl rfl) e⟩
 |tup xs=>obtain⟨z,its,r,ob,e,c⟩:=x;exact⟨z,its,r,ob,k _ _ (.inl rfl) e,c⟩
 |dK kvs=>obtain⟨z,y,vs,r,ob,es,ep,e,c⟩:=x;exact⟨z,y,vs,r,ob,es,ep,k _ _ (.inl rfl) e,c⟩
 |dT kvs=>
  obtain⟨z,y,xs,r,ob,es,ep,e,c⟩:=x;exact⟨z,y,xs,Paired.mapP r fun p q z=>⟨z.1,ht _ _ z.2.1,z.2.2⟩,ob,es,ep,k _ _ (.inl rfl) e,c⟩
 |set S n=>obtain⟨ob,es,ep,t,e,c⟩:=x;exact⟨ob,es,ep,t,k _ _ (.inl rfl) e,c⟩
 |ins C dx fs=>
  obtain⟨d,z,ne,e,mA,⟨od,es,ep,e2,c⟩,r⟩:=x;exact⟨ho _ d,z,ne,k _ _ (.inl rfl) e,mA,⟨od,es,ep,k _ _ (.inr d) e2,c⟩,r⟩
 |own y=>obtain⟨ob,e⟩:=x;exact⟨ob,k _ _ (.inl rfl) e⟩
 |xd fs=>obtain⟨mA,⟨od,es,ep,e,c⟩,r⟩:=x;exact⟨mA,⟨od,es,ep,k _ _ (.inl rfl) e,c⟩,r⟩
 |rng lo hi=>obtain⟨t,u,v,e⟩:=x;exact⟨t,u,v,k _ _ (.inl rfl) e⟩
 |frz ob u ih=>obtain⟨e,q⟩:=x;exact⟨k _ _ (.inl rfl) e,ih q⟩
 |tbl ps=>
  have e:h.get? a=some {cls:= .none,data:= .fields ps}:=x;show h'.get? a=some {cls:= .none,data:= .fields ps};exact k a _ (.inl rfl) e
 |met f y=>
  have e:h.get? a=some (PySem.W.methodObj (.ref f) (.ref y)):=x;show h'.get? a=some (PySem.W.methodObj (.ref f) (.ref y));exact k a _ (.inl rfl) e
 |ext φ=>obtain⟨p,⟨o,e⟩,st⟩:=x;exact⟨st _ _ p fun o q=>k _ _ (.inl rfl) q,⟨o,k _ _ (.inl rfl) e⟩,st⟩
theorem HOk.lt(x:HOk P w H h)(e:H a=some o):a<h.objs.size:=(x a o e).lt
theorem HOk.fresh(x:HOk P w H h)(e:h.objs.size<=a):H a=none:=by
 cases q:H a with
 |none=>rfl
 |some u=>exact absurd (kW (x.lt q) e) (rD _)
theorem HOk.kept(x:HOk P w H h)(k:∀b u,h.get? b=some u->h'.get? b=some u):HOk P w H h':=fun a o e=>
 (x a o e).stay (fun b u _ q=>k b u q) (fun _ q=>q) fun _ _ q=>q
theorem HOk.laid(x:HOk P w H h)(k:∀b u,h.get? b=some u->h'.get? b=some u)(hp:h.objs.size<=a)(new:ObjOk P w (upd H a o) h' a o):HOk P w (upd H a o) h':=fun b u e=>by
 have hn:=x.fresh hp;by_cases hb:b=a
 ·subst hb;rw[aA]at e;cases e;exact new
 ·rw[cP hb]at e;exact(x b u e).stay (fun c v _ q=>k c v q) (fun c q=>by rw[cP (rC q hn)];exact q) fun c xs q=>by rw[cP (rC q hn)];exact q
end
noncomputable def Rd(H:Hp)(a:Addr)(u:HO):Prop:=H a=some u\/∃o,H a=some (.frz o u)
theorem Rd.ok{P:ξ}{w:τ}{H:Hp}{h:Heap}{a:Addr}{u:HO}(r:Rd H a u)(x:HOk P w H h):ObjOk P w H h a u:=by
 rcases r with r|⟨o,r⟩
 ·exact x a u r
 ·obtain⟨_,q⟩:=x a _ r;exact q
noncomputable def Mut:Option HO->Prop
 |some (.lst _)=>True
 |some (.dK _)=>True
 |some (.dT _)=>True
 |some (.set _ _)=>True
 |some (.ins _ _ _)=>True
 |some (.ext _)=>True
 |_=>False
section
variable{P:ξ}{w:τ}{H:Hp}{h h':Heap}{x e:Addr}{o':HO}
theorem HOk.write(ok:HOk P w H h)(mu:Mut (H x))(he:e=x\/H e=some (.own x))(k:∀b u,b≠e->h.get? b=some u->h'.get? b=some u)(heo:∃u,h'.get? e=some u)(new:ObjOk P w (upd H x o') h' x o'):HOk P w (upd H x o') h':=fun b u q=>by
 have nown:∀c y,H c=some (.own y)->c≠x:=fun c y r z=>by subst z;rw[r]at mu;exact mu
 have ntup:∀c xs,H c=some (.tup xs)->c≠x:=fun c xs r z=>by subst z;rw[r]at mu;exact mu
 by_cases hb:b=x
 ·subst hb;rw[aA]at q;cases q;exact new
 ·rw[cP hb]at q;by_cases hbe:b=e
  ·have q':H b=some (.own x):=by
    rcases he with z|z
    ·exact absurd (hbe.trans z) hb
    ·rw[hbe];exact z
   rw[q]at q';cases q';obtain⟨v,hv⟩:=heo;exact⟨v,by rw[hbe];exact hv⟩
  ·refine(ok b u q).stay (fun c v hc r=>k c v ?_ r) (fun c r=>by rw[cP (nown c b r)];exact r) fun c xs r=>by rw[cP (ntup c xs r)];exact r
   rcases hc with rfl|hc
   ·exact hbe
   ·rintro rfl;rcases he with z|z
    ·exact nown c b hc z
    ·rw[hc]at z;cases z;exact hb rfl
end
structure Un(fs ex:List Addr)(H H':Hp)(h h':Heap):Prop where
 keep:∀b o,h.get? b=some o->H b=none->b∉fs->b∉ex->h'.get? b=some o
 slot:∀b o,h.get? b=some o->H b=none->b∈fs->b∉ex->∃sl,h'.get? b=some {o with slots:=sl}
 free:∀b o,h.get? b=some o->H b=none->b∉ex->H' b=none
 there:∀b o,h.get? b=some o->b∉ex->∃o',h'.get? b=some o'
 tups:∀b xs,H b=some (.tup xs)->H' b=some (.tup xs)
 frzs:∀b o u,H b=some (.frz o u)->H' b=some (.frz o u)
 tbls:∀b ps,H b=some (.tbl ps)->∃more,H' b=some (.tbl (ps++more))
section
variable{fs ex:List Addr}{H H1:Hp}{h h1 h':Heap}{a x e:Addr}{o:HO}
theorem Un.any(u:Un fs ex H H1 h h1){b:Addr}{ob:Obj}(q:h.get? b=some ob)(n:H b=none)(hx:b∉ex):∃sl,h1.get? b=some {ob with slots:=sl}:=by
 by_cases hb:b∈fs
 ·exact u.slot b ob q n hb hx
 ·exact⟨ob.slots,u.keep b ob q n hb hx⟩
theorem Un.kept(k:∀b u,h.get? b=some u->h'.get? b=some u):Un fs ex H H h h':=
 ⟨fun b ob q _ _ _=>k b ob q,fun b ob q _ _ _=>⟨ob.slots,k b ob q⟩,fun _ _ _ n _=>n,fun b ob q _=>⟨ob,k b ob q⟩,fun _ _ q=>q,fun _ _ _ q=>q,fun _ ps q=>⟨#[],by rw[q];simp⟩⟩
theorem Un.refl:Un fs ex H H h h:=Un.kept fun _ _ q=>q
theorem Un.laid(k:∀b u,h.get? b=some u->h'.get? b=some u)(hp:h.objs.size<=a)(hn:H a=none):Un fs ex H (upd H a o) h h' where
 keep:=fun b u q _ _ _=>k b u q
 slot:=fun b u q _ _ _=>⟨u.slots,k b u q⟩
 free:=fun b u q n _=>by rw[cP (iM (kW (fD q) hp))];exact n
 there:=fun b u q _=>⟨u,k b u q⟩
 tups:=fun b xs q=>by rw[cP (rC q hn)];exact q
 frzs:=fun b u xs q=>by rw[cP (rC q hn)];exact q
 tbls:=fun b ps q=>⟨#[],by rw[cP (rC q hn),q];simp⟩
theorem Un.write(mu:Mut (H x))(he:e=x\/H e=some (.own x))(k:∀b u,b≠e->h.get? b=some u->h'.get? b=some u)(heo:∃u,h'.get? e=some u):Un fs ex H (upd H x o) h h':=by
 have hx:∀b,H b=none->b≠x:=fun b n z=>by subst z;rw[n]at mu;exact mu
 have hb:∀b,H b=none->b≠e:=fun b n z=>by
  subst z;rcases he with r|r
  ·exact hx b n r
  ·rw[n]at r;cases r
 have hm:∀b u,H b=some u->¬Mut (some u)->b≠x:=fun b u q nm z=>by subst z;rw[q]at mu;exact nm mu
 refine⟨fun b u q n _ _=>k b u (hb b n) q,fun b u q n _ _=>⟨u.slots,k b u (hb b n) q⟩,fun b u q n _=>by rw[cP (hx b n)];exact n,fun b u q _=> ?_,
  fun b xs q=>by rw[cP (hm b _ q fun z=>z)];exact q,fun b u xs q=>by rw[cP (hm b _ q fun z=>z)];exact q,fun b ps q=>⟨#[],by rw[cP (hm b _ q fun z=>z),q];simp⟩⟩
 by_cases hbe:b=e
 ·subst hbe;exact heo
 ·exact⟨u,k b u hbe q⟩
end
noncomputable def trk(h:Heap)(H:Hp):List Addr:=(List.range h.objs.size).filter fun a=>(H a).isSome
noncomputable def hidT(h:Heap)(H:Hp):Heap:=PySem.W.hideAll h (trk h H)
theorem hidT_size(h:Heap)(H:Hp):(hidT h H).objs.size=h.objs.size:=PySem.W.hideAll_size _ _
theorem hidT_get{h:Heap}{H:Hp}{b:Addr}{o:Obj}(e:h.get? b=some o)(n:H b=none):(hidT h H).get? b=some o:=
 PySem.W.hideAll_get _ e fun hm=>by
  have q:(H b).isSome=true:=(eN.mp hm).2;rw[n]at q;simp at q
theorem of_hidT{h:Heap}{H:Hp}{b:Addr}{o:Obj}(e:(hidT h H).get? b=some o):h.get? b=some o/\H b=none:=by
 have e':h.get? b=some o:=PySem.W.of_hideAll (trk h H) e;refine⟨e',?_⟩;cases q:H b with
 |none=>rfl
 |some x=>
  have hm:b∈trk h H:=eN.mpr ⟨pJ.mpr (fD e'),by simp[q]⟩;have z:(hidT h H).get? b=none:=PySem.W.hideAll_none (trk h H) hm;rw[z]at e;cases e
structure Mod(K:W.Frag)(mg:L4)(base:Heap):Prop where
 kin:K.In base
 glob:base.Ns mainGlobals mg
 blt:∃mb,base.Ns builtinsNs mb/\∀x:Str,x≠"__name__"->mb x=bootBuiltins x
 nolimit:base.NoLimit
structure Cx where
 prog:ξ
 w:τ
 K:W.Frag
 mg:Str->Option ζ
 base:Heap
 A:Around
 N:List Str
 s₀:η
 H₀:Hp
 env:Env
 outer:List Env
 stack:List Env
 ex:List Addr
 fn:Str->Bool
 calm:Bool
 pn:L1
 xe:ζ->η->Prop
noncomputable def frs(l:List Env):List Addr:=l.filterMap (·.frame)
noncomputable abbrev Cx.fs(X:Cx):List Addr:=frs X.outer
noncomputable def Vis(sc:Scope)(x:Str):Prop:=sc.names.lookup x=some .local\/sc.names.lookup x=some .cell\/sc.names.lookup x=some .free
noncomputable def Loc(sc:Scope)(x:Str):Prop:=sc.names.lookup x=some .local\/sc.names.lookup x=some .cell
noncomputable def Look(env:Env)(h:Heap)(m:L4)(x:Str)(u:ζ):Prop:=
 (env.kindOf x=some .local/\m x=some u)\/((env.kindOf x=some .cell\/env.kindOf x=some .free)/\∃c,env.cells.lookup x=some c/\h.IsCell c (some u))
structure Cx.Ok(X:Cx):Prop where
 mod:Mod X.K X.mg X.base
 kind:X.env.scope.kind= .function
 glob:X.env.globals=mainGlobals
 blt:X.env.builtins=builtinsNs
 above:X.s₀.heap.objs.size<=X.env.locals
 inj:∀x y c,X.env.cells.lookup x=some c->X.env.cells.lookup y=some c->x=y
 has:∀x,(X.env.kindOf x=some .cell\/X.env.kindOf x=some .free)->∃c,X.env.cells.lookup x=some c
 cab:∀x c,X.fn x=true->X.env.cells.lookup x=some c->X.s₀.heap.objs.size<=c
 hd:X.calm=true->X.A.handled=none
 frames:X.A.frames=some X.stack
 stk:X.stack=X.outer\/(X.stack=X.env::X.outer/\X.env.frame=some X.env.locals)
 exf:∀b∈X.ex,b≠X.env.locals/\∀x c,X.env.cells.lookup x=some c->c≠b
 bs:∀b o,X.base.get? b=some o->X.s₀.heap.get? b=some o/\X.H₀ b=none
 bsz:X.base.objs.size<=X.s₀.heap.objs.size
 noex:∀b o,X.base.get? b=some o->b∉X.ex
 exfs:∀b∈X.ex,b∉X.fs
 funs:X.s₀.heap.FunFrames X.base X.outer
 frf:∀b∈X.fs,X.H₀ b=none
structure Inv(X:Cx)(pins:L1)(σ:List (Option V))(H:Hp)(s:η):Prop where
 ok:X.Ok
 os:s.os=X.s₀.os
 bare:AllBare s.gens
 base:Un X.fs X.ex X.H₀ H X.s₀.heap s.heap
 loc:∃m,s.heap.Ns X.env.locals m/\∀(i:Nat) (x:Str) (v:V),X.N[i]? =some x->σ[i]? =some (some v)->Vis X.env.scope x->∃u,RelV v u/\Look X.env s.heap m x u
 cell:∀x c,X.env.cells.lookup x=some c->∃v,s.heap.IsCell c v
 free:H X.env.locals=none
 freeC:∀x c,X.env.cells.lookup x=some c->H c=none
 pin:∀p∈X.pn++pins,s.heap.get? p.1=some p.2/\H p.1=none/\p.1≠X.env.locals/\p.1∉X.fs/\∀v,p.2.data≠.cell v
 hok:HOk X.prog X.w H s.heap
 len:σ.length=X.N.length
section
variable{X:Cx}{pins:L1}{σ:List (Option V)}{H H':Hp}{s:η}{h':Heap}
theorem Cx.Ok.nofr(ok:X.Ok){b:Addr}{o:Obj}(e:X.base.get? b=some o):b∉X.fs:=fun hb=>by
 have:=(ok.funs.mem hb).1;rw[e]at this;cases this
theorem Inv.bs(I:Inv X pins σ H s):∀b o,X.base.get? b=some o->s.heap.get? b=some o/\H b=none:=fun b o e=>
 ⟨I.base.keep b o (I.ok.bs b o e).1 (I.ok.bs b o e).2 (I.ok.nofr e) (I.ok.noex b o e),I.base.free b o (I.ok.bs b o e).1 (I.ok.bs b o e).2 (I.ok.noex b o e)⟩
theorem Inv.bk(I:Inv X pins σ H s):∀b o,X.base.get? b=some o->s.heap.get? b=some o:=fun b o e=>(I.bs b o e).1
theorem Inv.mod(I:Inv X pins σ H s):Mod X.K X.mg X.base:=I.ok.mod
theorem Inv.kIn(I:Inv X pins σ H s):X.K.In s.heap:=I.ok.mod.kin.keeps I.bk
theorem Inv.lt(I:Inv X pins σ H s):X.env.locals<s.heap.objs.size:=let⟨_,hn,_⟩:=I.loc;hn.lt
theorem Inv.sz(I:Inv X pins σ H s):X.s₀.heap.objs.size<=s.heap.objs.size:=cQ I.ok.above (dD I.lt)
theorem Inv.nofs(I:Inv X pins σ H s){a:Addr}(h:s.heap.objs.size<=a):a∉X.fs:=fun hb=>by
 obtain⟨_,o,ho,_⟩:=I.ok.funs.mem hb;exact absurd (kW (fD ho) (cQ I.sz h)) (rD _)
theorem Inv.cne(I:Inv X pins σ H s):∀x c,X.env.cells.lookup x=some c->c≠X.env.locals:=fun x c e z=>by
 obtain⟨v,o,ho,hd⟩:=I.cell x c e;obtain⟨m,⟨o',es,ep,ho',hd',_⟩,_⟩:=I.loc;rw[z,ho']at ho;cases ho;rw[hd']at hd;cases hd
theorem Inv.funs(I:Inv X pins σ H s):s.heap.FunFrames X.base X.outer:=by
 have all:∀(l:List Env),(∀b∈frs l,b∈X.fs)->X.s₀.heap.FunFrames X.base l->s.heap.FunFrames X.base l:=by
  intro l
  induction l with
  |nil=>intro _ _;trivial
  |cons env r ih=>
   intro hs hl;obtain⟨hk,⟨L,o,hf,hn,ho,hd⟩,hr⟩:=hl;have hL:L∈X.fs:=hs L (by unfold frs;rw[wcn,hf];exact jx);obtain⟨sl,e⟩:=I.base.slot L o ho (I.ok.frf L hL) hL fun z=>I.ok.exfs L z hL;exact⟨hk,⟨L,_,hf,hn,e,hd⟩,ih (fun b hb=>hs b (by unfold frs;rw[wcn,hf];exact jy _ hb)) hr⟩
 exact all X.outer (fun _ hb=>hb) I.ok.funs
theorem Inv.stack(I:Inv X pins σ H s):s.heap.FunFrames X.base X.stack:=by
 rcases I.ok.stk with e|⟨e,hf⟩
 ·rw[e];exact I.funs
 ·rw[e];obtain⟨m,hn,_⟩:=I.loc;refine .cons (by rw[I.ok.kind];decide) hf hn ?_ I.funs;exact Heap.get?_none_of_le (cQ I.ok.bsz I.ok.above)
theorem Inv.stkSub(I:Inv X pins σ H s):∀b∈frs X.stack,b∈X.env.locals::X.fs:=fun b hb=>by
 rcases I.ok.stk with e|⟨e,hf⟩
 ·rw[e]at hb;exact jy _ hb
 ·rw[e]at hb;unfold frs at hb;rw[wcn,hf]at hb;exact hb
theorem Inv.stkFree(I:Inv X pins σ H s):∀b∈frs X.stack,H b=none:=fun b hb=>by
 rcases cW.mp (I.stkSub b hb)with e|hb
 ·rw[e];exact I.free
 ·obtain⟨_,o,ho,_⟩:=I.ok.funs.mem hb;exact I.base.free b o ho (I.ok.frf b hb) fun z=>I.ok.exfs b z hb
theorem Inv.step{g':Array GenState}{t':Nat}{d':Drawn}{ch:List Addr}(I:Inv X pins σ H s)(hch:∀b∈ch,(b∈X.ex\/X.s₀.heap.objs.size<=b)/\b≠X.env.locals/\(∀x c,X.env.cells.lookup x=some c->c≠b)/\∀p∈X.pn++pins,p.1≠b)(keep:∀b o,b≠X.env.locals->b∉X.fs->b∉ch->s.heap.get? b=some o->H b=none->h'.get? b=some o)(slot:∀b o,b≠X.env.locals->b∈X.fs->b∉ch->s.heap.get? b=some o->H b=none->∃sl,h'.get? b=some {o with slots:=sl})(free:∀b o,b∉ch->s.heap.get? b=some o->H b=none->H' b=none)(there:∀b o,b∉ch->s.heap.get? b=some o->∃o',h'.get? b=some o')(tups:∀b xs,H b=some (.tup xs)->H' b=some (.tup xs))(frzs:∀b o u,H b=some (.frz o u)->H' b=some (.frz o u))(tbls:∀b ps,H b=some (.tbl ps)->∃more,H' b=some (.tbl (ps++more)))(ns:∀m,s.heap.Ns X.env.locals m->h'.Ns X.env.locals m)(hok:HOk X.prog X.w H' h')(hg:AllBare g'):
  Inv X pins σ H' {s with heap:=h',gens:=g',drawn:=d',toks:=t'}:=by
 have neL:∀b o,X.s₀.heap.get? b=some o->b≠X.env.locals:=fun b o e=>iM (kW (fD e) I.ok.above);have neC:∀b o,X.s₀.heap.get? b=some o->b∉X.ex->b∉ch:=fun b o e hx hb=>by
  rcases(hch b hb).1 with z|z
  ·exact hx z
  ·exact absurd (kW (fD e) z) (rD _)
 have cellK:∀x c,X.env.cells.lookup x=some c->∀v,s.heap.IsCell c v->h'.IsCell c v:=fun x c e v ⟨o,ho,hd⟩=>by
  have nch:c∉ch:=fun z=>(hch c z).2.2.1 x c e rfl;by_cases hc:c∈X.fs
  ·obtain⟨sl,q⟩:=slot c o (I.cne x c e) hc nch ho (I.freeC x c e);exact⟨_,q,hd⟩
  ·exact⟨o,keep c o (I.cne x c e) hc nch ho (I.freeC x c e),hd⟩
 refine⟨I.ok,I.os,hg,⟨fun b o e n hb hx=> ?_,fun b o e n hb hx=> ?_,fun b o e n hx=> ?_,fun b o e hx=> ?_,fun b xs e=>tups b xs (I.base.tups b xs e),fun b o xs e=>frzs b o xs (I.base.frzs b o xs e),fun b ps e=> ?_⟩,?_,fun x c e=> ?_,?_,fun x c e=> ?_,fun p hp=> ?_,hok,I.len⟩
 ·exact keep b o (neL b o e) hb (neC b o e hx) (I.base.keep b o e n hb hx) (I.base.free b o e n hx)
 ·obtain⟨sl,e1⟩:=I.base.slot b o e n hb hx;obtain⟨sl',e2⟩:=slot b _ (neL b o e) hb (neC b o e hx) e1 (I.base.free b o e n hx);exact⟨sl',e2⟩
 ·obtain⟨o',e1⟩:=I.base.there b o e hx;exact free b o' (neC b o e hx) e1 (I.base.free b o e n hx)
 ·obtain⟨o',e1⟩:=I.base.there b o e hx;exact there b o' (neC b o e hx) e1
 ·obtain⟨m1,e1⟩:=I.base.tbls b ps e;obtain⟨m2,e2⟩:=tbls b _ e1;exact⟨m1++m2,by rw[e2,Array.append_assoc]⟩
 ·obtain⟨m,hn,hl⟩:=I.loc;refine⟨m,ns m hn,fun i x v e1 e2 e3=> ?_⟩;obtain⟨u,r,l⟩:=hl i x v e1 e2 e3;refine⟨u,r,?_⟩;rcases l with l|⟨k,c,e,z⟩
  ·exact .inl l
  ·exact .inr ⟨k,c,e,cellK x c e _ z⟩
 ·obtain⟨v,z⟩:=I.cell x c e;exact⟨v,cellK x c e v z⟩
 ·obtain⟨m,⟨o,_,_,ho,_⟩,_⟩:=I.loc;exact free _ o (fun z=>(hch _ z).2.1 rfl) ho I.free
 ·obtain⟨v,o,ho,hd⟩:=I.cell x c e;exact free c o (fun z=>(hch c z).2.2.1 x c e rfl) ho (I.freeC x c e)
 ·obtain⟨e,n,ne,nf,d⟩:=I.pin p hp;have nch:p.1∉ch:=fun z=>(hch p.1 z).2.2.2 p hp rfl;exact⟨keep p.1 p.2 ne nf nch e n,free p.1 p.2 nch e n,ne,nf,d⟩
theorem Inv.un{t':Nat}(I:Inv X pins σ H s)(u:Un X.fs [] H H' s.heap h')(hok:HOk X.prog X.w H' h'):Inv X pins σ H' {s with heap:=h',toks:=t'}:=by
 obtain⟨m,⟨o,es,ep,ho,r⟩,_⟩:=id I.loc;obtain⟨sl,hL⟩:=u.any ho I.free (by simp);exact I.step (g':=s.gens) (d':=s.drawn) (ch:=[]) (fun _ z=>nomatch z) (fun b o _ hb _ e n=>u.keep b o e n hb (by simp)) (fun b o _ hb _ e n=>u.slot b o e n hb (by simp)) (fun b o _ e n=>u.free b o e n (by simp)) (fun b o _ e=>u.there b o e (by simp)) u.tups u.frzs u.tbls (fun m' hm=>by
  obtain⟨o',es',ep',ho',r'⟩:=hm;rw[ho]at ho';cases ho';exact⟨_,es',ep',hL,r'⟩) hok I.bare
theorem Inv.call{g':Array GenState}{t':Nat}{d':Drawn}{ch:List Addr}(I:Inv X pins σ H s)(u:Un (frs X.stack) ch H H' s.heap h')(hok:HOk X.prog X.w H' h')(hg:AllBare g')(hch:∀b∈ch,(b∈X.ex\/X.s₀.heap.objs.size<=b)/\b≠X.env.locals/\(∀x c,X.env.cells.lookup x=some c->c≠b)/\∀p∈X.pn++pins,p.1≠b):
  Inv X pins σ H' {s with heap:=h',gens:=g',drawn:=d',toks:=t'}:=by
 obtain⟨m,⟨o,es,ep,ho,r⟩,_⟩:=id I.loc;obtain⟨sl,hL⟩:=u.any ho I.free fun z=>(hch _ z).2.1 rfl;exact I.step (ch:=ch) hch (fun b o hL hb hc e n=>u.keep b o e n (fun z=>(cW.mp (I.stkSub b z)).elim hL hb) hc) (fun b o _ _ hc e n=>u.any e n hc) (fun b o hc e n=>u.free b o e n hc) (fun b o hc e=>u.there b o e hc) u.tups u.frzs u.tbls (fun m' hm=>by
  obtain⟨o',es',ep',ho',r'⟩:=hm;rw[ho]at ho';cases ho';exact⟨_,es',ep',hL,r'⟩) hok hg
theorem Inv.turned{t':Nat}{it:Addr}(I:Inv X pins σ H s)(k:∀b o,b≠it->s.heap.get? b=some o->h'.get? b=some o)(hn:H it=none)(hL:it≠X.env.locals)(h1:it∈X.ex\/X.s₀.heap.objs.size<=it)(h2:∀x c,X.env.cells.lookup x=some c->c≠it)(h3:∀p∈X.pn++pins,p.1≠it):Inv X pins σ H {s with heap:=h',toks:=t'}:=by
 have nit:∀b u,H b=some u->b≠it:=fun b u e z=>by rw[z,hn]at e;cases e
 refine I.step (g':=s.gens) (d':=s.drawn) (ch:=[it]) (fun b hb=> ?_) (fun b o _ _ hc e _=>k b o (fun z=>hc (by simp[z])) e) (fun b o _ _ hc e _=>⟨o.slots,k b o (fun z=>hc (by simp[z])) e⟩) (fun _ _ _ _ n=>n)
  (fun b o hc e=>⟨o,k b o (fun z=>hc (by simp[z])) e⟩) (fun _ _ e=>e) (fun _ _ _ e=>e) (fun b ps e=>⟨#[],by rw[e];simp⟩) (fun m hm=> ?_) (fun b u e=> ?_) I.bare
 ·have e:b=it:=by simpa using hb
  subst e;exact⟨h1,hL,h2,h3⟩
 ·obtain⟨o,es,ep,ho,r⟩:=hm;exact⟨o,es,ep,k _ o (lQ hL) ho,r⟩
 ·refine(I.hok b u e).stay (fun c v hc q=>k c v ?_ q) (fun _ q=>q) fun _ _ q=>q;rcases hc with z|z
  ·rw[z];exact nit b u e
  ·exact nit c _ z
theorem Inv.tok(I:Inv X pins σ H s)(t:Nat):Inv X pins σ H {s with toks:=t}:=I.un (h':=s.heap) (t':=t) Un.refl I.hok
theorem Inv.kept{t':Nat}(I:Inv X pins σ H s)(k:∀b u,s.heap.get? b=some u->h'.get? b=some u):Inv X pins σ H {s with heap:=h',toks:=t'}:=I.un (Un.kept k) (I.hok.kept k)
theorem Inv.laid{a:Addr}{o:HO}{t':Nat}(I:Inv X pins σ H s)(k:∀b u,s.heap.get? b=some u->h'.get? b=some u)(hp:s.heap.objs.size<=a)(new:ObjOk X.prog X.w (upd H a o) h' a o):
  Inv X pins σ (upd H a o) {s with heap:=h',toks:=t'}:=I.un (Un.laid k hp (I.hok.fresh hp)) (I.hok.laid k hp new)
theorem Inv.write{x e:Addr}{o:HO}{t':Nat}(I:Inv X pins σ H s)(mu:Mut (H x))(he:e=x\/H e=some (.own x))(k:∀b u,b≠e->s.heap.get? b=some u->h'.get? b=some u)(heo:∃u,h'.get? e=some u)(new:ObjOk X.prog X.w (upd H x o) h' x o):Inv X pins σ (upd H x o) {s with heap:=h',toks:=t'}:=I.un (Un.write mu he k heo) (I.hok.write mu he k heo new)
theorem Inv.pins_of{pins':L1}(I:Inv X pins σ H s)(h:∀p∈pins',s.heap.get? p.1=some p.2/\H p.1=none/\p.1≠X.env.locals/\p.1∉X.fs/\∀v,p.2.data≠.cell v):Inv X pins' σ H s:=
 ⟨I.ok,I.os,I.bare,I.base,I.loc,I.cell,I.free,I.freeC,fun p hp=>(pL.mp hp).elim (fun z=>I.pin p (Zx _ z)) (h p),I.hok,I.len⟩
theorem nodup_ix{N:List Str}(hN:N.Nodup){i j:Nat}{x:Str}(a:N[i]? =some x)(b:N[j]? =some x):i=j:=by
 obtain⟨h1,e1⟩:=pO.mp a;obtain⟨h2,e2⟩:=pO.mp b;exact(List.getElem_inj hN).mp (e1.trans e2.symm)
theorem store_ok2{M:Model}{A:Around}{E:L3}{i:Nat}{x:Str}{v:V}{u:ζ}{Q:Unit->η->Prop}(I:Inv X pins σ H s)(hN:X.N.Nodup)(hi:X.N[i]? =some x)(hx:Loc X.env.scope x)(r:RelV v u)(h:∀s',Inv X pins (σ.set i (some v)) H s'->(∃a,Heap.SameBut a s.heap s'.heap/\(a=X.env.locals\/X.env.cells.lookup x=some a))->Q () s')(hf:X.fn x=true\/X.env.scope.names.lookup x=some .local:=by first |exact .inl rfl|exact .inr rfl|assumption):wpAny M A (storeName X.env x u) Q E s:=by
 obtain⟨m,hn,hl⟩:=id I.loc;have hcls:(X.env.scope.kind== .class||(X.env.scope.kind== .module&&X.env.locals !=X.env.globals))=false:=by rw[I.ok.kind];rfl
 have hiσ:i<σ.length:=by rw[I.len];exact(pO.mp hi).1
 have cne:=I.cne;have tracked:∀{a:Addr} {h':Heap},(∃o,s.heap.get? a=some o/\H a=none)->Heap.SameBut a s.heap h'->HOk X.prog X.w H h':=fun{a h'} ha hs b ob e=>by
  obtain⟨_,_,hfree⟩:=ha;refine(I.hok b ob e).stay (fun c w' hc q=>(hs.2 c ?_).trans q) (fun _ q=>q) fun _ _ q=>q;rintro rfl;rcases hc with rfl|hc
  ·rw[hfree]at e;cases e
  ·rw[hfree]at hc;cases hc
 rcases hx with hk|hk
 ·refine wpAny_storeName_local hk hn (fun h' hn' hs=> ?_) hcls;obtain⟨oL,_,_,hoL,_⟩:=id hn;refine h _ ⟨I.ok,I.os,I.bare,⟨fun b o e n hb hx=> ?_,fun b o e n hb hx=> ?_,I.base.free,fun b o e hx=> ?_,I.base.tups,I.base.frzs,I.base.tbls⟩,⟨_,hn',fun j y v' e1 e2 e3=> ?_⟩,fun y c e=> ?_,I.free,I.freeC,fun p hp=> ?_,tracked ⟨oL,hoL,I.free⟩ hs,by simpa using I.len⟩ ⟨_,hs,.inl rfl⟩
  ·exact(hs.2 b (iM (kW (fD e) I.ok.above))).trans (I.base.keep b o e n hb hx)
  ·obtain⟨sl,e1⟩:=I.base.slot b o e n hb hx;exact⟨sl,(hs.2 b (iM (kW (fD e) I.ok.above))).trans e1⟩
  ·obtain⟨o',e1⟩:=I.base.there b o e hx;exact⟨o',(hs.2 b (iM (kW (fD e) I.ok.above))).trans e1⟩
  ·by_cases hj:j=i
   ·subst hj;rw[hi]at e1;cases e1;rw[weh hiσ]at e2;cases e2;exact⟨u,r,.inl ⟨hk,by simp⟩⟩
   ·rw[List.getElem?_set_ne (lQ hj)]at e2;obtain⟨u',r',q⟩:=hl j y v' e1 e2 e3;refine⟨u',r',?_⟩;rcases q with⟨k,e⟩|⟨k,c,e,z⟩
    ·refine .inl ⟨k,?_⟩;have:y≠x:=fun e=>hj (nodup_ix hN e1 (e▸hi));simp[this,e]
    ·exact .inr ⟨k,c,e,z.sameBut hs (cne y c e)⟩
  ·obtain⟨w',z⟩:=I.cell y c e;exact⟨w',z.sameBut hs (cne y c e)⟩
  ·obtain⟨e,n,ne,nf,d⟩:=I.pin p hp;exact⟨(hs.2 p.1 ne).trans e,n,ne,nf,d⟩
 ·have hfn:X.fn x=true:=by
   rcases hf with z|z
   ·exact z
   ·rw[z]at hk;cases hk
  obtain⟨c,hc⟩:=I.ok.has x (.inl hk);obtain⟨w',z⟩:=I.cell x c hc;refine wpAny_storeName_cell I.ok.kind hk hc z (fun h' hc' hs=> ?_);obtain⟨oc,hoc,hocd⟩:=id z;refine h {s with heap:=h'} ⟨I.ok,I.os,I.bare,⟨fun b o e n hb hx=> ?_,fun b o e n hb hx=> ?_,I.base.free,fun b o e hx=> ?_,I.base.tups,I.base.frzs,I.base.tbls⟩,⟨m,hn.sameBut hs (lQ (cne x c hc)),fun j y v' e1 e2 e3=> ?_⟩,fun y c' e=> ?_,I.free,I.freeC,fun p hp=> ?_,tracked ⟨oc,hoc,I.freeC x c hc⟩ hs,by simpa using I.len⟩ ⟨c,hs,.inr hc⟩
  ·exact(hs.2 b (iM (kW (fD e) (I.ok.cab x c hfn hc)))).trans (I.base.keep b o e n hb hx)
  ·obtain⟨sl,e1⟩:=I.base.slot b o e n hb hx;exact⟨sl,(hs.2 b (iM (kW (fD e) (I.ok.cab x c hfn hc)))).trans e1⟩
  ·obtain⟨o',e1⟩:=I.base.there b o e hx;exact⟨o',(hs.2 b (iM (kW (fD e) (I.ok.cab x c hfn hc)))).trans e1⟩
  ·by_cases hj:j=i
   ·subst hj;rw[hi]at e1;cases e1;rw[weh hiσ]at e2;cases e2;exact⟨u,r,.inr ⟨.inl hk,c,hc,hc'⟩⟩
   ·rw[List.getElem?_set_ne (lQ hj)]at e2;obtain⟨u',r',q⟩:=hl j y v' e1 e2 e3;refine⟨u',r',?_⟩;rcases q with q|⟨k,c',e,z'⟩
    ·exact .inl q
    ·refine .inr ⟨k,c',e,z'.sameBut hs ?_⟩;rintro rfl;exact hj (nodup_ix hN e1 (I.ok.inj _ _ _ e hc▸hi))
  ·by_cases hcc:c'=c
   ·subst hcc;exact⟨_,hc'⟩
   ·obtain⟨w2,z2⟩:=I.cell y c' e;exact⟨w2,z2.sameBut hs hcc⟩
  ·obtain⟨e,n,ne,nf,d⟩:=I.pin p hp;refine⟨(hs.2 p.1 ?_).trans e,n,ne,nf,d⟩;intro q;rw[q,hoc]at e;have q':oc=p.2:=uI e;exact d w' (by rw[<-q'];exact hocd)
theorem store_ok{M:Model}{A:Around}{E:L3}{i:Nat}{x:Str}{v:V}{u:ζ}{Q:Unit->η->Prop}(I:Inv X pins σ H s)(hN:X.N.Nodup)(hi:X.N[i]? =some x)(hx:Loc X.env.scope x)(r:RelV v u)(h:∀s',Inv X pins (σ.set i (some v)) H s'->Q () s')(hf:X.fn x=true\/X.env.scope.names.lookup x=some .local:=by first |exact .inl rfl|exact .inr rfl|assumption):wpAny M A (storeName X.env x u) Q E s:=
 store_ok2 I hN hi hx r (fun s' I' _=>h s' I') hf
theorem Inv.call'{s':η}{ch:List Addr}(I:Inv X pins σ H s)(ho:s'.os=s.os)(u:Un (frs X.stack) ch H H' s.heap s'.heap)(hok:HOk X.prog X.w H' s'.heap)(hg:AllBare s'.gens)(hch:∀b∈ch,(b∈X.ex\/X.s₀.heap.objs.size<=b)/\b≠X.env.locals/\(∀x c,X.env.cells.lookup x=some c->c≠b)/\∀p∈X.pn++pins,p.1≠b):Inv X pins σ H' s':=by
 obtain⟨h',g',d',t',o'⟩:=s';have e:o'=s.os:=ho;subst e;exact I.call (g':=g') (t':=t') (d':=d') u hok hg hch
end
noncomputable abbrev XK:=ζ->Option Addr->Hp->Prop
noncomputable abbrev St:=List (Option V)
noncomputable abbrev VK:=V->Hp->Prop
noncomputable abbrev TE:=St->Hp->VK->Prop
noncomputable abbrev TT:=St->Hp->(Bool->Hp->Prop)->Prop
noncomputable abbrev TA:=St->Hp->(List V->Hp->Prop)->Prop
structure Ends where
 nx:St->Hp->Prop
 rt:VK
 bk:St->Hp->Prop:=fun _ _=>False
 ct:St->Hp->Prop:=fun _ _=>False
noncomputable abbrev TS:=Ends->St->Hp->Prop
noncomputable def EP(X:Cx)(pins:L1)(σ:St)(Q:VK)(u:ζ)(s':η):Prop:=∃v H',Inv X pins σ H' s'/\RelV v u/\Q v H'
noncomputable def TP(X:Cx)(pins:L1)(σ:St)(Q:Bool->Hp->Prop)(b:Bool)(s':η):Prop:=∃H',Inv X pins σ H' s'/\Q b H'
noncomputable def AP(X:Cx)(pins:L1)(σ:St)(Q:List V->Hp->Prop)(us:List ζ)(s':η):Prop:=∃vs H',Inv X pins σ H' s'/\Vals vs us/\Q vs H'
noncomputable def SP(X:Cx)(pins:L1)(D:Ends)(f:Flow)(s':η):Prop:=
 match f with
 | .next=>∃σ' H',Inv X pins σ' H' s'/\D.nx σ' H'
 | .brk=>∃σ' H',Inv X pins σ' H' s'/\D.bk σ' H'
 | .cont=>∃σ' H',Inv X pins σ' H' s'/\D.ct σ' H'
 | .ret u=>∃v σ' H',Inv X pins σ' H' s'/\RelV v u/\D.rt v H'
noncomputable def PE(X:Cx)(e:Expr)(t:TE):Prop:=
 ∀(pins:L1) (s:η) (σ:St) (H:Hp) (Q:VK),Inv X pins σ H s->t σ H Q->wpAny (model X.prog X.w) X.A (eval e X.env) (EP X pins σ Q) X.xe s
noncomputable def PT(X:Cx)(e:Expr)(t:TT):Prop:=
 ∀(pins:L1) (s:η) (σ:St) (H:Hp) (Q:Bool->Hp->Prop),Inv X pins σ H s->t σ H Q->wpAny (model X.prog X.w) X.A (isTrue e X.env (eval e X.env)) (TP X pins σ Q) X.xe s
noncomputable def PW(X:Cx)(e:Expr)(t:TT):Prop:=
 ∀(whole:Sem ζ) (pins:L1) (s:η) (σ:St) (H:Hp) (Q:Bool->Hp->Prop),Inv X pins σ H s->t σ H Q->wpAny (model X.prog X.w) X.A (isTrue e X.env whole) (TP X pins σ Q) X.xe s
theorem PW.pt{X:Cx}{e:Expr}{t:TT}(h:PW X e t):PT X e t:=h _
noncomputable def PA(X:Cx)(es:List Expr)(t:TA):Prop:=
 ∀(pos:Pos) (pins:L1) (s:η) (σ:St) (H:Hp) (Q:List V->Hp->Prop),Inv X pins σ H s->t σ H Q->wpAny (model X.prog X.w) X.A (spliced (backTo pos (starEach es X.env))) (AP X pins σ Q) X.xe s
noncomputable def PS(X:Cx)(st:Stmt)(t:TS):Prop:=
 ∀(pins:L1) (s:η) (σ:St) (H:Hp) (D:Ends),Inv X pins σ H s->t D σ H->wpAny (model X.prog X.w) X.A (exec st X.env) (SP X pins D) X.xe s
noncomputable def PSs(X:Cx)(st:List Stmt)(t:TS):Prop:=
 ∀(pins:L1) (s:η) (σ:St) (H:Hp) (D:Ends),Inv X pins σ H s->t D σ H->wpAny (model X.prog X.w) X.A (execs st X.env) (SP X pins D) X.xe s
theorem thn{α:Type}{t:Sem α}{Q Q':α->η->Prop}{M:Model}{A:Around}{E:L3}{s:η}(h:wpAny M A t Q E s)(hQ:∀a s,Q a s->Q' a s):wpAny M A t Q' E s:=M5 h hQ fun _ _ x=>x
section
variable{X:Cx}
noncomputable def tVar(i:Nat):TE:=fun σ H Q=>∃v,σ[i]? =some (some v)/\Q v H
noncomputable def tC(v:V):TE:=fun _ H Q=>Q v H
theorem pe_var{i:Nat}{x:Str}{pos:Pos}(hN:X.N[i]? =some x)(hv:Vis X.env.scope x)(hd:(x==("__debug__":Str))=false:=by decide)(hcd:(x==("__classdict__":Str))=false:=by decide):PE X (.Name x pos) (tVar i):=by
 intro pins s σ H Q I h;obtain⟨v,e,h⟩:=h;obtain⟨m,hn,hl⟩:=I.loc;obtain⟨u,r,l⟩:=hl i x v hN e hv;have fin:EP X pins σ Q u s:=⟨v,H,I,r,h⟩;rcases l with⟨hk,hm⟩|⟨hk,c,hc,hcell⟩
 ·exact wpAny_Name (wpAny_loadName_local I.ok.kind hk hn hm fin) hd
 ·rcases hk with hk|hk
  ·exact wpAny_Name (wpAny_loadName_cell I.ok.kind hk hc hcell fin) hd
  ·exact wpAny_Name (wpAny_loadName_free I.ok.kind hk hc hcell fin hcd) hd
theorem aB{i j pos}:PE X (.Constant (.int i) j pos) (tC (.int i)):=fun _ _ _ H _ I h=>wpAny_Constant_int ⟨.int i,H,I.tok _,⟨_,rfl⟩,h⟩
theorem pe_bl{b j pos}:PE X (.Constant (.bool b) j pos) (tC (.bl b)):=fun _ _ _ H _ I h=>Constant_bool ⟨.bl b,H,I,rfl,h⟩
theorem pe_non{j pos}:PE X (.Constant .none j pos) (tC .non):=fun _ _ _ H _ I h=>Constant_none ⟨.non,H,I,rfl,h⟩
theorem vd{x j pos}:PE X (.Constant (.str x) j pos) (tC (.str x)):=fun _ _ _ H _ I h=>Calls.Constant_str ⟨.str x,H,I.tok _,⟨_,rfl⟩,h⟩
noncomputable def Gl(X:Cx)(x:Str):Prop:=X.env.kindOf x=some .globalImplicit
theorem ld_glob{E:L3}{pins:L1}{s:η}{σ:St}{H:Hp}{x:Str}{u:ζ}{pos:Pos}{Q:L3}(I:Inv X pins σ H s)(hg:Gl X x)(hm:X.mg x=some u)(h:Q u s)(hd:(x==("__debug__":Str))=false:=by decide):wpAny (model X.prog X.w) X.A (eval (.Name x pos) X.env) Q E s:=
 Calls.Name_function_global I.ok.kind hg (Calls.loadGlobal_global (by rw[I.ok.glob];exact I.mod.glob.keeps I.bk) hm h) hd
theorem ld_blt{E:L3}{pins:L1}{s:η}{σ:St}{H:Hp}{x:Str}{u:ζ}{pos:Pos}{Q:L3}(I:Inv X pins σ H s)(hg:Gl X x)(hm:X.mg x=none)(hv:bootBuiltins x=some u)(h:Q u s)(hn:x≠"__name__":=by decide)(hd:(x==("__debug__":Str))=false:=by decide):wpAny (model X.prog X.w) X.A (eval (.Name x pos) X.env) Q E s:=by
 obtain⟨mb,h1,h2⟩:=I.mod.blt;exact Calls.Name_function_global I.ok.kind hg (Calls.loadGlobal_builtin (by rw[I.ok.glob];exact I.mod.glob.keeps I.bk) hm (by rw[I.ok.blt];exact h1.keeps I.bk) ((h2 x hn).trans hv) h) hd
theorem pe_glob{x:Str}{v:V}{u:ζ}{pos:Pos}(hg:Gl X x)(hm:X.mg x=some u)(r:RelV v u)(hd:(x==("__debug__":Str))=false:=by decide):PE X (.Name x pos) (tC v):=
 fun _ _ _ H _ I h=>ld_glob I hg hm ⟨v,H,I,r,h⟩ hd
theorem pe_bltn{x:Str}{v:V}{u:ζ}{pos:Pos}(hg:Gl X x)(hm:X.mg x=none)(hv:bootBuiltins x=some u)(r:RelV v u)(hn:x≠"__name__":=by decide)(hd:(x==("__debug__":Str))=false:=by decide):PE X (.Name x pos) (tC v):=
 fun _ _ _ H _ I h=>ld_blt I hg hm hv ⟨v,H,I,r,h⟩ hn hd
theorem pN{x:Str}{pos:Pos}(T:String)(hm:X.mg x=none)(hv:bootBuiltins x=some (.type T):=by decide+kernel)(hg:Gl X x:=by rfl)(hn:x≠"__name__":=by decide)(hd:(x==("__debug__":Str))=false:=by decide):PE X (.Name x pos) (tC (.ty T)):=pe_bltn hg hm hv rfl hn hd
variable{a b:Expr}{ta tb:TE}{pos:Pos}
noncomputable def tB(t:TE):TT:=fun σ H Q=>t σ H fun x H1=>∃c,x= .bl c/\Q c H1
theorem nJ{e:Expr}{t:TE}(h:PE X e t)(he:∀whole,isTrue e X.env whole=(do let v<-whole;standAt e.pos;holding [v] (truthy v)):=by intro _;rfl):PT X e (tB t):=by
 intro pins s σ H Q I hw;refine isTrue_plain (thn (h pins s σ H _ I hw) fun v s1 ⟨x,H1,I1,r1,q1⟩=> ?_) (he _);obtain⟨d,rfl,q⟩:=q1;cases r1;exact Iz ⟨H1,I1,q⟩
variable{tA tB':TT}{rest:List Expr}
noncomputable def tAnd(t u:TT):TT:=fun σ H Q=>t σ H fun c H1=>if c=true then u σ H1 Q else Q false H1
noncomputable def tOr(t u:TT):TT:=fun σ H Q=>t σ H fun c H1=>if c=true then Q true H1 else u σ H1 Q
noncomputable def tNot(t:TT):TT:=fun σ H Q=>t σ H fun c H1=>Q (!c) H1
theorem pw_and1(ha:PT X a tA):PW X (.BoolOp .And [a] pos) tA:=by
 intro wh pins s σ H Q I h;refine isTrue_and (thn (ha pins s σ H Q I h) fun c s1 e=> ?_);cases c with
 |true=>exact isTrue_and_nil e
 |false=>exact e
theorem pw_or1(ha:PT X a tA):PW X (.BoolOp .Or [a] pos) tA:=by
 intro wh pins s σ H Q I h;refine isTrue_or (thn (ha pins s σ H Q I h) fun c s1 e=> ?_);cases c with
 |false=>exact isTrue_or_nil e
 |true=>exact e
theorem pw_and(ha:PT X a tA)(hb:PW X (.BoolOp .And (b::rest) pos) tB'):PW X (.BoolOp .And (a::b::rest) pos) (tAnd tA tB'):=by
 intro wh pins s σ H Q I h;refine isTrue_and (thn (ha pins s σ H _ I h) fun c s1 ⟨H1,I1,q1⟩=> ?_);cases c with
 |true=>exact hb wh pins s1 σ H1 Q I1 q1
 |false=>exact⟨H1,I1,q1⟩
theorem pw_or(ha:PT X a tA)(hb:PW X (.BoolOp .Or (b::rest) pos) tB'):PW X (.BoolOp .Or (a::b::rest) pos) (tOr tA tB'):=by
 intro wh pins s σ H Q I h;refine isTrue_or (thn (ha pins s σ H _ I h) fun c s1 ⟨H1,I1,q1⟩=> ?_);cases c with
 |true=>exact⟨H1,I1,q1⟩
 |false=>exact hb wh pins s1 σ H1 Q I1 q1
theorem pI(ha:PT X a tA):PT X (.UnaryOp .Not a pos) (tNot tA):=by
 intro pins s σ H Q I h;exact isTrue_not (ha pins s σ H (fun c H1=>Q (!c) H1) I h)
noncomputable def tAndV(ta tb:TE):TE:=fun σ H Q=>ta σ H fun x H1=>∃c,x= .bl c/\if c=true then tb σ H1 Q else Q (.bl false) H1
noncomputable def tOrV(ta tb:TE):TE:=fun σ H Q=>ta σ H fun x H1=>∃c,x= .bl c/\if c=true then Q (.bl true) H1 else tb σ H1 Q
noncomputable def tNotV(ta:TE):TE:=fun σ H Q=>ta σ H fun x H1=>∃c,x= .bl c/\Q (.bl (!c)) H1
theorem pe_one{op}{t:TE}(h:PE X a t):PE X (.BoolOp op [a] pos) t:=fun pins s σ H Q I hw=>BoolOp_one (h pins s σ H Q I hw)
theorem pe_and(ha:PE X a ta)(hb:PE X (.BoolOp .And (b::rest) pos) tb):PE X (.BoolOp .And (a::b::rest) pos) (tAndV ta tb):=by
 intro pins s σ H Q I h;refine BoolOp_and (thn (ha pins s σ H _ I h) fun v s1 ⟨x,H1,I1,r1,q1⟩=> ?_);obtain⟨c,rfl,q1⟩:=q1;cases r1;refine Iz ?_;cases c with
 |true=>exact hb pins s1 σ H1 Q I1 q1
 |false=>exact⟨.bl false,H1,I1,rfl,q1⟩
theorem pe_or(ha:PE X a ta)(hb:PE X (.BoolOp .Or (b::rest) pos) tb):PE X (.BoolOp .Or (a::b::rest) pos) (tOrV ta tb):=by
 intro pins s σ H Q I h;refine BoolOp_or (thn (ha pins s σ H _ I h) fun v s1 ⟨x,H1,I1,r1,q1⟩=> ?_);obtain⟨c,rfl,q1⟩:=q1;cases r1;refine Iz ?_;cases c with
 |false=>exact hb pins s1 σ H1 Q I1 q1
 |true=>exact⟨.bl true,H1,I1,rfl,q1⟩
theorem pe_not(ha:PE X a ta):PE X (.UnaryOp .Not a pos) (tNotV ta):=by
 intro pins s σ H Q I h;refine UnaryOp_ (thn (ha pins s σ H _ I h) fun v s1 ⟨x,H1,I1,r1,q1⟩=> ?_);obtain⟨c,rfl,q1⟩:=q1;cases r1;exact not_of (Iz ⟨.bl (!c),H1,I1,rfl,q1⟩)
noncomputable def tIf(t:TT)(ta tb:TE):TE:=fun σ H Q=>t σ H fun c H1=>if c=true then ta σ H1 Q else tb σ H1 Q
theorem pe_ifExp{c:Expr}(hc:PT X c tA)(ha:PE X a ta)(hb:PE X b tb):PE X (.IfExp c a b pos) (tIf tA ta tb):=by
 intro pins s σ H Q I h;refine wpAny_IfExp (thn (hc pins s σ H _ I h) fun d s1 ⟨H1,I1,q1⟩=> ?_);cases d with
 |true=>exact ha pins s1 σ H1 Q I1 q1
 |false=>exact hb pins s1 σ H1 Q I1 q1
end
noncomputable def SqL(K:W.Frag)(H:Hp)(a:Addr)(xs:List V):Prop:=
 Rd H a (.lst xs)\/
  ∃(o:Obj) (its:Array ζ) (n:Nat),K.lookup a=some o/\o.cls= .type "list"/\o.dict=none/\o.data= .seq its n/\its.size<=sizeLine/\Vals xs its.toList
noncomputable def SqT(K:W.Frag)(H:Hp)(a:Addr)(xs:List V):Prop:=
 Rd H a (.tup xs)\/
  ∃(o:Obj) (its:Array ζ) (n:Nat),K.lookup a=some o/\o.cls= .type "tuple"/\o.data= .seq its n/\its.size<=sizeLine/\Vals xs its.toList
noncomputable def absV:ζ->Option V
 | .none=>some .non
 | .bool b=>some (.bl b)
 | .int i _=>some (.int i)
 | .str x _=>some (.str x)
 | .bytes b _=>some (.byt b)
 | .float b _=>some (.flt b)
 | .ref a=>some (.ref a)
 | .type n=>some (.ty n)
 |_=>none
theorem RelV.abs{x:V}{u:ζ}(r:RelV x u):absV u=some x:=by
 cases x with
 |non=>cases r;rfl
 |bl _=>cases r;rfl
 |int _=>obtain⟨t,rfl⟩:=r;rfl
 |str _=>obtain⟨t,rfl⟩:=r;rfl
 |byt _=>obtain⟨t,rfl⟩:=r;rfl
 |flt _=>obtain⟨t,rfl⟩:=r;rfl
 |ref _=>cases r;rfl
 |ty _=>cases r;rfl
theorem RelV.inj{x y:V}{u:ζ}(r:RelV x u)(q:RelV y u):x=y:=uI (r.abs.symm.trans q.abs)
theorem Vals.inj{xs ys:List V}{us:List ζ}(h:Vals xs us)(h':Vals ys us):xs=ys:=by
 induction h generalizing ys with
 |nil=>cases h';rfl
 |cons r _ ih=>cases h' with |cons r' t'=>rw[r.inj r',ih t']
section
variable{X:Cx}{pins:L1}{σ:St}{H:Hp}{s:η}{a:Addr}{xs ys:List V}
theorem SqL.of{K:W.Frag}(h:H a=some (.lst xs)):SqL K H a xs:= .inl (.inl h)
theorem SqT.of{K:W.Frag}(h:H a=some (.tup xs)):SqT K H a xs:= .inl (.inl h)
theorem Inv.list(I:Inv X pins σ H s)(h:SqL X.K H a xs):∃its:List ζ,Vals xs its/\PlainL s.heap a its.toArray/\xs.length<=sizeLine:=by
 rcases h with h|⟨o,its,n,hk,hc,hd,hs,hz,r⟩
 ·obtain⟨z,its,n,r,e⟩:=h.ok I.hok;exact⟨its,r,⟨_,n,e,rfl,rfl,rfl⟩,z⟩
 ·refine⟨its.toList,r,⟨o,n,I.kIn a o hk,hc,hd,by simpa using hs⟩,?_⟩;have e:=r.length;simp only[RM]at e;omega
theorem Inv.tuple(I:Inv X pins σ H s)(h:SqT X.K H a xs):∃its:List ζ,Vals xs its/\IsTup s.heap a its.toArray/\xs.length<=sizeLine:=by
 rcases h with h|⟨o,its,n,hk,hc,hs,hz,r⟩
 ·obtain⟨z,its,r,p⟩:=h.ok I.hok;exact⟨its,r,p,z⟩
 ·refine⟨its.toList,r,⟨o,I.kIn a o hk,hc,n,by simpa using hs⟩,?_⟩;have e:=r.length;simp only[RM]at e;omega
theorem Inv.list_inj(I:Inv X pins σ H s)(h:SqL X.K H a xs)(h':SqL X.K H a ys):xs=ys:=by
 obtain⟨its,r,⟨o,n,e,_,_,d⟩,_⟩:=I.list h;obtain⟨its',r',⟨o',n',e',_,_,d'⟩,_⟩:=I.list h';rw[e]at e';cases e';rw[d]at d';injection d' with d1 _
 have:its=its':=by simpa using jz Array.toList d1
 subst this;exact r.inj r'
theorem Inv.tuple_inj(I:Inv X pins σ H s)(h:SqT X.K H a xs)(h':SqT X.K H a ys):xs=ys:=by
 obtain⟨its,r,⟨o,e,_,n,d⟩,_⟩:=I.tuple h;obtain⟨its',r',⟨o',e',_,n',d'⟩,_⟩:=I.tuple h';rw[e]at e';cases e';rw[d]at d';injection d' with d1 _
 have:its=its':=by simpa using jz Array.toList d1
 subst this;exact r.inj r'
end
noncomputable abbrev Cx.wish(X:Cx)(E:L3):Cx:={X with xe:=E}
noncomputable abbrev Cx.nox(X:Cx):Cx:=X.wish fun _ _=>False
theorem Cx.Ok.wish{X:Cx}(ok:X.Ok)(E:L3):(X.wish E).Ok:=
 ⟨ok.mod,ok.kind,ok.glob,ok.blt,ok.above,ok.inj,ok.has,ok.cab,ok.hd,ok.frames,ok.stk,ok.exf,ok.bs,ok.bsz,ok.noex,ok.exfs,ok.funs,ok.frf⟩
theorem Cx.Ok.unwish{X:Cx}{E:L3}(ok:(X.wish E).Ok):X.Ok:=
 ⟨ok.mod,ok.kind,ok.glob,ok.blt,ok.above,ok.inj,ok.has,ok.cab,ok.hd,ok.frames,ok.stk,ok.exf,ok.bs,ok.bsz,ok.noex,ok.exfs,ok.funs,ok.frf⟩
section
variable{X:Cx}{pins:L1}{σ:St}{H:Hp}{s:η}{E:L3}
theorem Inv.wish(I:Inv X pins σ H s)(E:L3):Inv (X.wish E) pins σ H s:=⟨I.ok.wish E,I.os,I.bare,I.base,I.loc,I.cell,I.free,I.freeC,I.pin,I.hok,I.len⟩
theorem Inv.unwish(I:Inv (X.wish E) pins σ H s):Inv X pins σ H s:=⟨I.ok.unwish,I.os,I.bare,I.base,I.loc,I.cell,I.free,I.freeC,I.pin,I.hok,I.len⟩
theorem SP.unwish{D:Ends}{f:Flow}{s':η}(h:SP (X.wish E) pins D f s'):SP X pins D f s':=by
 cases f with
 |next=>obtain⟨σ',H',I,q⟩:=h;exact⟨σ',H',I.unwish,q⟩
 |brk=>obtain⟨σ',H',I,q⟩:=h;exact⟨σ',H',I.unwish,q⟩
 |cont=>obtain⟨σ',H',I,q⟩:=h;exact⟨σ',H',I.unwish,q⟩
 |ret u=>obtain⟨v,σ',H',I,r,q⟩:=h;exact⟨v,σ',H',I.unwish,r,q⟩
theorem PSs.nox{st:List Stmt}{t:TS}(h:PSs X.nox st t):PSs X st t:=fun pins s σ H D I hw=>
 M5 (h pins s σ H D (I.wish _) hw) (fun _ _ q=>q.unwish) fun _ _ z=>False.elim z
end
section
variable{X:Cx}{st:Stmt}{rest:List Stmt}{t u:TS}{e:Expr}{te:TE}{pos:Pos}
noncomputable def tNext:TS:=fun D σ H=>D.nx σ H
noncomputable def tSeq(t u:TS):TS:=fun D σ H=>t {D with nx:=u D} σ H
theorem gC:PSs X [] tNext:=fun _ _ σ H _ I h=>Z8 ⟨σ,H,I,h⟩
theorem aM(h1:PS X st t)(h2:PSs X rest u):PSs X (st::rest) (tSeq t u):=by
 intro pins s σ H D I h;refine wpAny_execs_cons (thn (h1 pins s σ H {D with nx:=u D} I h) fun f s1 q=> ?_);cases f with
 |next=>
  obtain⟨σ',H',I',q⟩:=q;exact h2 pins s1 σ' H' D I' q
 |ret v=>exact q
 |brk=>exact q
 |cont=>exact q
theorem aX(h1:PS X st t):PSs X [st] t:=by
 intro pins s σ H D I h;refine wpAny_execs_cons (thn (h1 pins s σ H D I h) fun f s1 q=> ?_);cases f with
 |next=>exact Z8 q
 |ret v=>exact q
 |brk=>exact q
 |cont=>exact q
noncomputable def tBreak:TS:=fun D σ H=>D.bk σ H
theorem ps_break:PS X (.Break pos) tBreak:=fun _ _ σ H _ I h=>wpAny_Break ⟨σ,H,I,h⟩
theorem Inv.quiet{pins:L1}{σ:St}{H:Hp}{s:η}(I:Inv X pins σ H s):interactive X.env=false:=by simp[interactive,I.ok.kind]
noncomputable def tDrop(te:TE):TS:=fun D σ H=>te σ H fun _ H1=>D.nx σ H1
theorem lY(he:PE X e te)(hs:swapsWith e none pos.line X.env=pure false:=by rfl):PS X (.Expr e pos) (tDrop te):=by
 intro pins s σ H D I h;exact wpAny_Expr_any (thn (he pins s σ H _ I h) fun v s1 ⟨x,H1,I1,r1,q1⟩=>⟨σ,H1,I1,q1⟩) I.quiet hs
noncomputable def tRet(te:TE):TS:=fun D σ H=>te σ H D.rt
theorem bM(he:PE X e te):PS X (.Return (some e) pos) (tRet te):=by
 intro pins s σ H D I h;exact wpAny_Return_some (thn (he pins s σ H _ I h) fun v s1 ⟨x,H1,I1,r1,q1⟩=>⟨x,σ,H1,I1,r1,q1⟩)
noncomputable def tIfS(c:TT)(t u:TS):TS:=fun D σ H=>c σ H fun b H1=>if b=true then t D σ H1 else u D σ H1
theorem fJ{c:Expr}{a b:List Stmt}{tc:TT}(hc:PT X c tc)(ha:PSs X a t)(hb:PSs X b u):PS X (.If c a b pos) (tIfS tc t u):=by
 intro pins s σ H D I h;refine wpAny_If (thn (hc pins s σ H _ I h) fun d s1 ⟨H1,I1,q1⟩=> ?_);cases d with
 |true=>exact ha pins s1 σ H1 D I1 q1
 |false=>exact hb pins s1 σ H1 D I1 q1
noncomputable def tNever:TS:=fun _ _ _=>False
theorem MF{sts:List Stmt}:PSs X sts tNever:=fun _ _ _ _ _ _ h=>h.elim
end
noncomputable abbrev TG:=V->St->Hp->(St->Hp->Prop)->Prop
noncomputable abbrev TGs:=List V->St->Hp->(St->Hp->Prop)->Prop
noncomputable def PG(X:Cx)(target:Expr)(t:TG):Prop:=
 ∀(pins:L1) (s:η) (σ:St) (H:Hp) (v:V) (u:ζ) (Q:St->Hp->Prop),Inv X pins σ H s->RelV v u->t v σ H Q->
  wpAny (model X.prog X.w) X.A (assign target X.env u) (fun _ s'=>∃σ' H',Inv X pins σ' H' s'/\Q σ' H') X.xe s
noncomputable def PGs(X:Cx)(ts:List Expr)(t:TGs):Prop:=
 ∀(pins:L1) (s:η) (σ:St) (H:Hp) (vs:List V) (us:List ζ) (Q:St->Hp->Prop),Inv X pins σ H s->Vals vs us->t vs σ H Q->
  wpAny (model X.prog X.w) X.A (assignInOrder ((assignEach ts X.env).map (·.2)) us) (fun _ s'=>∃σ' H',Inv X pins σ' H' s'/\Q σ' H') X.xe s
noncomputable abbrev TSet:=V->V->V->Hp->(Hp->Prop)->Prop
noncomputable def PSet(X:Cx)(t:TSet):Prop:=
 ∀(pins:L1) (s:η) (σ:St) (H:Hp) (o i v:V) (ov iv u:ζ) (Q:Hp->Prop),Inv X pins σ H s->RelV o ov->RelV i iv->RelV v u->t o i v H Q->
  wpAny (model X.prog X.w) X.A (setItem ov iv u) (fun _ s'=>∃H',Inv X pins σ H' s'/\Q H') X.xe s
section
variable{X:Cx}{pos:Pos}
noncomputable def gName(i:Nat):TG:=fun v σ H Q=>Q (σ.set i (some v)) H
theorem pg_name{i:Nat}{x:Str}(hN:X.N.Nodup)(hi:X.N[i]? =some x)(hx:Loc X.env.scope x)(hf:X.fn x=true\/X.env.scope.names.lookup x=some .local:=by first |exact .inl rfl|exact .inr rfl|assumption):PG X (.Name x pos) (gName i):=by
 intro pins s σ H v u Q I r h;exact wpAny_assign_Name (store_ok I hN hi hx r (fun s' I'=>⟨_,H,I',h⟩) hf)
theorem pG{X:Cx}{x:Str}{pos:Pos}(i:Nat)(hN:decide X.N.Nodup=true:=by kernel_rfl)(hi:X.N[i]? =some x:=by rfl)(hx:Loc X.env.scope x:=by first |exact Or.inl rfl|exact Or.inr rfl)(hf:X.fn x=true\/X.env.scope.names.lookup x=some .local:=by first |exact .inl rfl|exact .inr rfl|assumption):PG X (.Name x pos) (gName i):=pg_name (cR hN) hi hx hf
noncomputable def gNil:TGs:=fun vs σ H Q=>vs=[]/\Q σ H
noncomputable def gCons(t:TG)(u:TGs):TGs:=fun vs σ H Q=>∃v r,vs=v::r/\t v σ H fun σ' H'=>u r σ' H' Q
theorem Ai:PGs X [] gNil:=by
 intro pins s σ H vs us Q I r h;obtain⟨e,h⟩:=h;subst e;cases r;exact assignInOrder_nil ⟨σ,H,I,h⟩
theorem nF{e:Expr}{es:List Expr}{t:TG}{u:TGs}(h1:PG X e t)(h2:PGs X es u)(hs:(assignEach (e::es) X.env).map (·.2)=assign e X.env::(assignEach es X.env).map (·.2):=by rfl):PGs X (e::es) (gCons t u):=by
 intro pins s σ H vs us Q I r h;obtain⟨v,vr,e1,h⟩:=h;subst e1;cases r with
 |cons r rr=>
  rw[hs];refine assignInOrder_cons (thn (h1 pins s σ H _ _ _ I r h) fun _ s1 ⟨σ1,H1,I1,q1⟩=> ?_);exact h2 pins s1 σ1 H1 _ _ Q I1 rr q1
noncomputable def gTup(K:W.Frag)(n:Nat)(t:TGs):TG:=fun v σ H Q=>∃a xs,v= .ref a/\SqT K H a xs/\xs.length=n/\t xs σ H Q
theorem pg_tup{es:List Expr}{k:Nat}{t:TGs}{n:Nat}(hc:X.calm=true)(h:PGs X es t)(hn:(assignEach es X.env).length=n:=by rfl)(hst:(assignEach es X.env).findIdx? (·.1)=none:=by rfl):PG X (.Tuple es k pos) (gTup X.K n t):=by
 intro pins s σ H v u Q I r hw;obtain⟨a,xs,e1,hq,hl,hw⟩:=hw;subst e1;cases r;obtain⟨its,rv,ht,hz⟩:=I.tuple hq;refine assign_Tuple_tuple (I.ok.hd hc) ht (by simp[hn,<-hl,rv.length]) hst fun h' hx=> ?_;have I1:Inv X pins σ H {s with heap:=h'}:=I.kept (t':=s.toks) fun b o e=>hx b o (iM (fD e)) e;exact h pins _ σ H xs _ Q I1 (by simpa using rv) hw
noncomputable def gSub(to ti:TE)(t:TSet):TG:=fun v σ H Q=>to σ H fun o H1=>ti σ H1 fun i H2=>t o i v H2 fun H3=>Q σ H3
theorem pg_sub{o i:Expr}{to ti:TE}{t:TSet}(ho:PE X o to)(hi:PE X i ti)(hs:PSet X t)(ha:∀v,assign (.Subscript o i pos) X.env v=(do
   let ov<-holding [v] (eval o X.env);let iv<-holding [v,ov] (eval i X.env)
   standAt pos
   holding [v,ov,iv] (setItem ov iv v)
   release [v,ov,iv] []):=by intro _;rfl):PG X (.Subscript o i pos) (gSub to ti t):=by
 intro pins s σ H v u Q I r h;rw[ha];refine aY (VG (thn (ho pins s σ H _ I h) fun ov s1 ⟨x,H1,I1,r1,q1⟩=> ?_));refine aY (VG (thn (hi pins s1 σ H1 _ I1 q1) fun iv s2 ⟨y,H2,I2,r2,q2⟩=> ?_));refine aY (wpAny_standAt (aY (VG (thn (hs pins s2 σ H2 x y v ov iv u _ I2 r1 r2 r q2) fun _ s3 ⟨H3,I3,q3⟩=> ?_))));exact wpAny_release ⟨σ,H3,I3,q3⟩
noncomputable def tAsg(te:TE)(g:TG):TS:=fun D σ H=>te σ H fun x H1=>g x σ H1 D.nx
theorem ps_asg{tg e:Expr}{te:TE}{g:TG}(he:PE X e te)(hg:PG X tg g)(hs:swapsWithSole [tg] e pos.line X.env=pure false:=by rfl)(hw:swappedStores [tg] e X.env=pure none:=by rfl)(h1:(assignEach [tg] X.env).map (·.2)=[assign tg X.env]:=by rfl):PS X (.Assign [tg] e pos) (tAsg te g):=by
 intro pins s σ H D I h;refine wpAny_Assign_stores (thn (he pins s σ H _ I h) fun v s1 ⟨x,H1,I1,r1,q1⟩=> ?_) hs hw;rw[h1];exact thn (hg pins s1 σ H1 x v _ I1 r1 q1) fun _ s2 q=>q
theorem ps_set{i:Nat}{x:Str}{e:Expr}{te:TE}{pos':Pos}(hN:X.N.Nodup)(hi:X.N[i]? =some x)(hx:Loc X.env.scope x)(he:PE X e te)(hs:swapsWith e (some (.Name x pos')) pos.line X.env=pure false:=by rfl)(hf:X.fn x=true\/X.env.scope.names.lookup x=some .local:=by first |exact .inl rfl|exact .inr rfl|assumption):
  PS X (.Assign [.Name x pos'] e pos) (tAsg te (gName i)):=by
 intro pins s σ H D I h;refine wpAny_Assign_Name (thn (he pins s σ H _ I h) fun v s1 ⟨y,H1,I1,r1,q1⟩=> ?_) hs;exact store_ok I1 hN hi hx r1 (fun s2 I2=>⟨_,H1,I2,q1⟩) hf
theorem pS{X:Cx}{x:Str}{e:Expr}{te:TE}{pos pos':Pos}(i:Nat)(he:PE X e te)(hN:decide X.N.Nodup=true:=by kernel_rfl)(hi:X.N[i]? =some x:=by rfl)(hx:Loc X.env.scope x:=by first |exact Or.inl rfl|exact Or.inr rfl)(hs:swapsWith e (some (.Name x pos')) pos.line X.env=pure false:=by rfl)(hf:X.fn x=true\/X.env.scope.names.lookup x=some .local:=by first |exact .inl rfl|exact .inr rfl|assumption):PS X (.Assign [.Name x pos'] e pos) (tAsg te (gName i)):=ps_set (cR hN) hi hx he hs hf
noncomputable def tWhile(c:TT)(tb:TS):TS:=fun D σ H=>∃W:Nat->St->Hp->Prop,(∃m,W m σ H)/\∀m σ H,W m σ H->
 c σ H fun b H1=>if b=true then∃N:St->Hp->Prop,(∀σ' H',N σ' H'->∃m',m'<m/\W m' σ' H')/\tb {D with nx:=N,ct:=N,bk:=D.nx} σ H1 else D.nx σ H1
theorem ps_while{c:Expr}{body:List Stmt}{tc:TT}{tb:TS}(hp:PassesOwn (model X.prog X.w) X.A X.env X.xe)(hc:PT X c tc)(hb:PSs X body tb):PS X (.While c body [] pos) (tWhile tc tb):=by
 intro pins s σ H D I h;obtain⟨W,⟨m0,w0⟩,turn⟩:=h;refine wpAny_While (codeAny_whileLoop (fun n s'=>∃σ' H',Inv X pins σ' H' s'/\W n σ' H') ?_ m0 ⟨σ,H,I,w0⟩);rintro n s1 ⟨σ1,H1,I1,w1⟩;refine RX hp (thn (hc pins s1 σ1 H1 _ I1 (turn n σ1 H1 w1)) fun b s2 ⟨H2,I2,q2⟩=> ?_);cases b with
 |true=>
  obtain⟨N,hN,q2⟩:=q2;rw[au rfl];refine RX hp (thn (hb pins s2 σ1 H2 _ I2 q2) fun f s3 q3=> ?_);cases f with
  |next=>
   obtain⟨σ3,H3,I3,n3⟩:=q3;obtain⟨m',hm,w3⟩:=hN σ3 H3 n3;exact⟨m',hm,σ3,H3,I3,w3⟩
  |cont=>
   obtain⟨σ3,H3,I3,n3⟩:=q3;obtain⟨m',hm,w3⟩:=hN σ3 H3 n3;exact⟨m',hm,σ3,H3,I3,w3⟩
  |brk=>exact q3
  |ret v=>exact q3
 |false=>
  rw[aq vq];exact Z8 ⟨σ1,H2,I2,q2⟩
end
structure It where
 go:Nat->Hp->Prop
 yld:Nat->Hp->V->Hp->Prop
 stop:Nat->Hp->Prop
noncomputable def FpOk(X:Cx)(pins:L1)(H:Hp)(b:Addr):Prop:=
 H b=none/\b≠X.env.locals/\b∉X.fs/\(b∈X.ex\/X.s₀.heap.objs.size<=b)/\(∀x c,X.env.cells.lookup x=some c->c≠b)/\∀p∈X.pn++pins,p.1≠b
theorem Inv.fpOk{X:Cx}{pins:L1}{σ:St}{H H':Hp}{s:η}{b:Addr}(I:Inv X pins σ H s)(hb:s.heap.objs.size<=b)(hn:H' b=none):FpOk X pins H' b:=by
 refine⟨hn,Nm (kW I.lt hb),I.nofs hb,.inr (cQ I.sz hb),fun x c e z=> ?_,fun p hp z=> ?_⟩
 ·obtain⟨v,q⟩:=I.cell x c e;exact absurd (kW q.lt (by rw[z];exact hb)) (rD _)
 ·exact absurd (kW (fD (I.pin p hp).1) (by rw[z];exact hb)) (rD _)
structure Turn(P:ξ)(w:τ)(K:W.Frag)(tg:Expr)(J:It)(fp:List Addr)(it:Addr)(tn:Nat->Heap->Prop):Prop where
 mem:it∈fp
 obj:∀i h,tn i h->∀b∈fp,∃o,h.get? b=some o/\∀v,o.data≠.cell v
 keep:∀i h h',tn i h->(∀b∈fp,∀o,h.get? b=some o->h'.get? b=some o)->tn i h'
 item:∀(X:Cx),X.prog=P->X.w=w->X.K=K->X.calm=true->∀(i:Nat) (pins:L1) (s:η) (σ:St) (H:Hp) (E:L3),Inv X pins σ H s->(∀b∈fp,FpOk X pins H b)->tn i s.heap->J.go i H->
  wpAny (model P w) X.A (pyNext (.ref it)) (fun r s1=>∃u,r=some u/\
   wpAny (model P w) X.A (letOwnedTupleGo tg (.ref it) u) (fun _ s2=>∃x H',Inv X pins σ H' s2/\RelV x u/\J.yld i H x H'/\tn (i+1) s2.heap/\∀b∈fp,H' b=none) E s1) E s
 done:∀(X:Cx),X.prog=P->X.w=w->X.K=K->X.calm=true->∀(i:Nat) (pins:L1) (s:η) (σ:St) (H:Hp) (E:L3),Inv X pins σ H s->(∀b∈fp,FpOk X pins H b)->tn i s.heap->J.stop i H->
  wpAny (model P w) X.A (pyNext (.ref it)) (fun r s1=>r=none/\Inv X pins σ H s1) E s
 self:∀(A:Around) (i:Nat) (s:η) (Q:L3) (E:L3),tn i s.heap->Q (.ref it) s->wpAny (model P w) A (pyIter (.ref it)) Q E s
noncomputable abbrev TI:=St->Hp->(It->Hp->Prop)->Prop
noncomputable def PIE(X:Cx)(pins:L1)(σ:St)(tg:Expr)(R:It->Hp->Prop)(itv:ζ)(s2:η):Prop:=
 ∃(it:Addr) (fp:List Addr) (tn:Nat->Heap->Prop) (J:It) (H':Hp),itv= .ref it/\Inv X pins σ H' s2/\Turn X.prog X.w X.K tg J fp it tn/\tn 0 s2.heap/\(∀b∈fp,FpOk X pins H' b)/\R J H'
noncomputable def PI(X:Cx)(tg iter:Expr)(wi:TI):Prop:=
 ∀(pins:L1) (s:η) (σ:St) (H:Hp) (R:It->Hp->Prop),Inv X pins σ H s->wi σ H R->
  wpAny (model X.prog X.w) X.A (eval iter X.env) (fun v s1=>wpAny (model X.prog X.w) X.A (pyIter v) (PIE X pins σ tg R) X.xe s1) X.xe s
theorem go_of{M:Model}{A:Around}{E:L3}{s:η}{tg:Expr}{it:Addr}{u:ζ}{o:Obj}{n:String}{vs:Array ζ}{Q:Unit->η->Prop}(ho:s.heap.get? it=some o)(hc:o.cls= .type n)(hd:o.data= .fields vs)(hn:["enumerate","zip","dict_itemiterator","dict_reverseitemiterator","odict_iterator","itertools.zip_longest","itertools.pairwise"].contains n=false)(hQ:Q () s):wpAny M A (letOwnedTupleGo tg (.ref it) u) Q E s:=by
 unfold letOwnedTupleGo;cases tg<;>first
  |exact eU hQ
  |(cases u<;>first
    |exact eU hQ
    |(refine aY (wpAny_load ho ?_)
      rw[hc,hd];show wpAny M A (if(["enumerate","zip","dict_itemiterator","dict_reverseitemiterator","odict_iterator","itertools.zip_longest","itertools.pairwise"].contains n&&vs[0]? ==some (rawInt _))=true then _ else _) Q E s;rw[aq (by intro h;rw[hn,weu]at h;cases h)];exact eU hQ))
noncomputable def Itl(K:W.Frag)(a:Addr):It:=
 ⟨fun i H=>∃xs x,SqL K H a xs/\xs[i]? =some x,fun i H x H'=>H'=H/\∀xs,SqL K H a xs->xs[i]? =some x,fun i H=>∃xs,SqL K H a xs/\xs.length<=i⟩
noncomputable def Itt(K:W.Frag)(a:Addr):It:=
 ⟨fun i H=>∃xs x,SqT K H a xs/\xs[i]? =some x,fun i H x H'=>H'=H/\∀xs,SqT K H a xs->xs[i]? =some x,fun i H=>∃xs,SqT K H a xs/\xs.length<=i⟩
noncomputable def Itr(lo:Int)(n:Nat):It:=⟨fun i _=>i<n,fun i H x H'=>H'=H/\x= .int (lo+i),fun i _=>n<=i⟩
theorem turn_list{P:ξ}{w:τ}{K:W.Frag}{tg:Expr}(a it:Addr):Turn P w K tg (Itl K a) [it] it (fun i h=>h.IsListIter it a i) where
 mem:=by simp
 obj:=fun i h st b hb=>by
  have e:b=it:=by simpa using hb
  subst e;obtain⟨o,e,c,d⟩:=st;exact⟨o,e,fun v z=>by rw[d]at z;cases z⟩
 keep:=fun i h h' st k=>st.at fun o e=>k it (by simp) o e
 item:=by
  intro X hP hw hK hc i pins s σ H E I hf st hg;subst hP hw hK;obtain⟨xs,x,hq,hx⟩:=hg;obtain⟨its,rv,p,hz⟩:=I.list hq;obtain⟨u,hu,ru⟩:=rv.get hx;obtain⟨f0,f1,f2,f3,f4,f5⟩:=hf it (by simp);refine wpAny_pyNext_list_item st p.isList (x:=u) (by simpa using hu) fun h' st' sb=> ?_;have I1:Inv X pins σ H {s with heap:=h'}:=I.turned (t':=s.toks) (fun b o hb e=>(sb.2 b hb).trans e) f0 f1 f3 f4 f5;obtain⟨o,e,c,d⟩:=id st';exact⟨u,rfl,go_of (s:={s with heap:=h'}) e c d (by decide) ⟨x,H,I1,ru,⟨rfl,fun ys hy=>by rw[I.list_inj hy hq];exact hx⟩,st',fun b hb=>(hf b hb).1⟩⟩
 done:=by
  intro X hP hw hK hc i pins s σ H E I hf st hg;subst hP hw hK;obtain⟨xs,hq,hx⟩:=hg;obtain⟨its,rv,p,hz⟩:=I.list hq;obtain⟨f0,f1,f2,f3,f4,f5⟩:=hf it (by simp);have hl:=rv.length;exact wpAny_pyNext_list_end (I.ok.hd hc) st p.isList (by simp;omega) fun h' eb=>⟨rfl,I.turned (t':=s.toks) (fun b o hb e=>eb b o hb e) f0 f1 f3 f4 f5⟩
 self:=fun _ _ _ _ _ st h=>wpAny_pyIter_listiter st h
theorem turn_tuple{P:ξ}{w:τ}{K:W.Frag}{tg:Expr}(a it:Addr):Turn P w K tg (Itt K a) [it] it (fun i h=>h.IsTupleIter it a i) where
 mem:=by simp
 obj:=fun i h st b hb=>by
  have e:b=it:=by simpa using hb
  subst e;obtain⟨o,e,c,d⟩:=st;exact⟨o,e,fun v z=>by rw[d]at z;cases z⟩
 keep:=fun i h h' st k=>st.at fun o e=>k it (by simp) o e
 item:=by
  intro X hP hw hK hc i pins s σ H E I hf st hg;subst hP hw hK;obtain⟨xs,x,hq,hx⟩:=hg;obtain⟨its,rv,p,hz⟩:=I.tuple hq;obtain⟨u,hu,ru⟩:=rv.get hx;obtain⟨f0,f1,f2,f3,f4,f5⟩:=hf it (by simp);refine wpAny_pyNext_tuple_item st (show s.heap.IsTuple a its.toArray from p) (x:=u) (by simpa using hu) fun h' st' sb=> ?_;have I1:Inv X pins σ H {s with heap:=h'}:=I.turned (t':=s.toks) (fun b o hb e=>(sb.2 b hb).trans e) f0 f1 f3 f4 f5;obtain⟨o,e,c,d⟩:=id st';exact⟨u,rfl,go_of (s:={s with heap:=h'}) e c d (by decide) ⟨x,H,I1,ru,⟨rfl,fun ys hy=>by rw[I.tuple_inj hy hq];exact hx⟩,st',fun b hb=>(hf b hb).1⟩⟩
 done:=by
  intro X hP hw hK hc i pins s σ H E I hf st hg;subst hP hw hK;obtain⟨xs,hq,hx⟩:=hg;obtain⟨its,rv,p,hz⟩:=I.tuple hq;obtain⟨f0,f1,f2,f3,f4,f5⟩:=hf it (by simp);have hl:=rv.length;exact wpAny_pyNext_tuple_end (I.ok.hd hc) st (show s.heap.IsTuple a its.toArray from p) (by simp;omega) fun h' eb=>⟨rfl,I.turned (t':=s.toks) (fun b o hb e=>eb b o hb e) f0 f1 f3 f4 f5⟩
 self:=fun _ _ _ _ _ st h=>wpAny_pyIter_tupleiter st h
theorem turn_range{P:ξ}{w:τ}{K:W.Frag}{tg:Expr}(it:Addr)(lo:Int)(n:Nat):Turn P w K tg (Itr lo n) [it] it (fun i h=>IsRangeIter h it (lo+(i:Nat)*1) ((n:Int)-(i:Nat)) 1) where
 mem:=by simp
 obj:=fun i h st b hb=>by
  have e:b=it:=by simpa using hb
  subst e;exact⟨_,st,fun v z=>by
   have z':Data.fields _=Data.cell v:=z;cases z'⟩
 keep:=fun i h h' st k=>k it (by simp) _ st
 item:=by
  intro X hP hw hK hc i pins s σ H E I hf st hg;subst hP hw hK;obtain⟨f0,f1,f2,f3,f4,f5⟩:=hf it (by simp);have W:=Walks.range (prog:=X.prog) (w:=X.w) (I.ok.hd hc) it lo 1 n;refine W.item i s _ _ hg st fun v h' tk hv st' kk=> ?_;obtain⟨t,rfl⟩:=hv;have I1:Inv X pins σ H {s with heap:=h',toks:=tk}:=I.turned (fun b o hb e=>kk b o (by simpa using hb) e) f0 f1 f3 f4 f5;refine⟨_,rfl,go_of (s:={s with heap:=h',toks:=tk}) (n:="range_iterator") st' rfl rfl (by decide) ⟨.int (lo+i),H,I1,⟨t,?_⟩,⟨rfl,rfl⟩,st',fun b hb=>(hf b hb).1⟩⟩;rw[VF]
 done:=by
  intro X hP hw hK hc i pins s σ H E I hf st hg;subst hP hw hK;obtain⟨f0,f1,f2,f3,f4,f5⟩:=hf it (by simp);exact wpAny_pyNext_range_end (I.ok.hd hc) st (by have:n<=i:=hg;omega) fun h' eb=>⟨rfl,I.turned (t':=s.toks) (fun b o hb e=>eb b o hb e) f0 f1 f3 f4 f5⟩
 self:=fun _ _ _ _ _ st h=>wpAny_pyIter_rangeiter st h
section
variable{X:Cx}{tg:Expr}
theorem range_it{pins:L1}{σ:St}{H:Hp}{s:η}{R:It->Hp->Prop}{E:L3}{lo hi:Int}{t u v:Tok}{tk:Nat}(I:Inv X pins σ H s)(h1: -(2^62)<=lo)(h2:lo<2^62)(h3: -(2^62)<=hi)(h4:hi<2^62)(q:R (Itr lo (hi-lo).toNat) H):wpAny (model X.prog X.w) X.A (pyIter (.ref s.heap.objs.size)) (PIE X pins σ tg R) E {s with heap:=s.heap.push {cls:= .type "range",data:= .fields #[.int lo t,.int hi u,.int 1 v]},toks:=tk}:=by
 refine wpAny_pyIter_range (ZJ ..) (small_one h1 h2 h3 h4) ?_;have I1:Inv X pins σ H {s with heap:=s.heap.push {cls:= .type "range",data:= .fields #[.int lo t,.int hi u,.int 1 v]},toks:=tk}:=I.kept fun b o e=>eV _ e;refine⟨(s.heap.push {cls:= .type "range",data:= .fields #[.int lo t,.int hi u,.int 1 v]}).objs.size,[(s.heap.push {cls:= .type "range",data:= .fields #[.int lo t,.int hi u,.int 1 v]}).objs.size],_,_,H,rfl,
  I1.kept (t':=tk) fun b o e=>eV _ e,turn_range _ lo (hi-lo).toNat,?_,fun b hb=> ?_,q⟩
 ·have e1:lo+((0:Nat):Int)*1=lo:=by simp
  have e2:(((hi-lo).toNat:Nat):Int)-((0:Nat):Int)=Builtin.Range.rangeSize lo hi 1:=by rw[ZV];split<;>omega
  show IsRangeIter _ _ (lo+((0:Nat):Int)*1) ((((hi-lo).toNat:Nat):Int)-((0:Nat):Int)) 1;rw[e1,e2];exact nG _ rfl
 ·have e:b=(s.heap.push {cls:= .type "range",data:= .fields #[.int lo t,.int hi u,.int 1 v]}).objs.size:=by simpa using hb
  subst e;exact I1.fpOk (aR _) (I1.hok.fresh (aR _))
noncomputable def iRng1(ta:TA):TI:=fun σ H R=>ta σ H fun vs H1=>∃j:Int,vs=[.int j]/\ -(2^62)<=j/\j<2^62/\R (Itr 0 j.toNat) H1
noncomputable def iRng2(ta:TA):TI:=fun σ H R=>ta σ H fun vs H1=>∃i j:Int,vs=[.int i,.int j]/\(-(2^62)<=i/\i<2^62/\ -(2^62)<=j/\j<2^62)/\R (Itr i (j-i).toNat) H1
theorem HW{a:Expr}{ta:TA}{p pos:Pos}(hg:Gl X "range")(hm:X.mg "range"=none)(ha:PA X [a] ta)(hs:starEach [a] X.env=[(false,eval a X.env)]:=by rfl):PI X tg (.Call (.Name "range" p) [a] [] pos) (iRng1 ta):=by
 intro pins s σ H R I h;refine Call_ (ld_blt I hg hm Wu (IV (thn (ha pos pins s σ H _ I h) fun us s1 ⟨vs,H1,I1,r1,q1⟩=> ?_) hs rfl));obtain⟨j,e,q1,q2,q⟩:=q1;subst e;cases r1 with
 |cons r rr=>
  cases rr;obtain⟨t,rfl⟩:=r;exact call_range_1 (range_it I1 (by omega) (by omega) q1 q2 (by simpa using q))
theorem pi_range2{a b:Expr}{ta:TA}{p pos:Pos}(hg:Gl X "range")(hm:X.mg "range"=none)(ha:PA X [a,b] ta)(hs:starEach [a,b] X.env=[(false,eval a X.env),(false,eval b X.env)]:=by rfl)(hs2:starEach [b] X.env=[(false,eval b X.env)]:=by rfl):
  PI X tg (.Call (.Name "range" p) [a,b] [] pos) (iRng2 ta):=by
 intro pins s σ H R I h;refine Call_ (ld_blt I hg hm Wu (IV (thn (ha pos pins s σ H _ I h) fun us s1 ⟨vs,H1,I1,r1,q1⟩=> ?_) (by rw[hs,hs2]) (by rw[hs2];rfl)));obtain⟨i,j,e,⟨q1,q2,q3,q4⟩,q⟩:=q1;subst e;cases r1 with
 |cons r rr=>
  cases rr with
  |cons r' rr=>
   cases rr;obtain⟨t,rfl⟩:=r;obtain⟨t',rfl⟩:=r';exact call_range_2 (range_it I1 q1 q2 q3 q4 q)
noncomputable def tFor(wi:TI)(g:TG)(tb:TS):TS:=fun D σ H=>wi σ H fun J H1=>∃W:Nat->Nat->St->Hp->Prop,(∃m,W 0 m σ H1)/\∀i m σ H,W i m σ H->
 (J.stop i H/\D.nx σ H)\/(J.go i H/\∃N:St->Hp->Prop,(∀σ' H',N σ' H'->∃m',m'<m/\W (i+1) m' σ' H')/\∀x H',J.yld i H x H'->g x σ H' fun σ2 H2=>tb {D with nx:=N,ct:=N,bk:=D.nx} σ2 H2)
noncomputable def pinsAt(fp:List Addr)(h:Heap):L1:=fp.filterMap fun b=>(h.get? b).map fun o=>(b,o)
theorem mem_pinsAt{fp:List Addr}{h:Heap}{b:Addr}{o:Obj}(hb:b∈fp)(e:h.get? b=some o):(b,o)∈pinsAt fp h:=List.mem_filterMap.mpr ⟨b,hb,by rw[e];rfl⟩
theorem of_pinsAt{fp:List Addr}{h:Heap}{p:Addr×Obj}(hp:p∈pinsAt fp h):p.1∈fp/\h.get? p.1=some p.2:=by
 obtain⟨b,hb,e⟩:=List.mem_filterMap.mp hp;cases q:h.get? b with
 |none=>rw[q]at e;cases e
 |some o=>
  rw[q]at e;have e':(b,o)=p:=uI e;subst e';exact⟨hb,q⟩
theorem Inv.pinned{pins:L1}{σ:St}{H:Hp}{s:η}{fp:List Addr}(I:Inv X pins σ H s)(hf:∀b∈fp,FpOk X pins H b)(ho:∀b∈fp,∃o,s.heap.get? b=some o/\∀v,o.data≠.cell v):Inv X (pins++pinsAt fp s.heap) σ H s:=
 I.pins_of fun p hp=>(pL.mp hp).elim (fun z=>I.pin p (Gi _ z)) fun z=>by
  obtain⟨hb,e⟩:=of_pinsAt z;obtain⟨f0,f1,f2,_⟩:=hf p.1 hb;obtain⟨o,e',d⟩:=ho p.1 hb;rw[e]at e';cases e';exact⟨e,f0,f1,f2,d⟩
theorem Inv.unpinned{pins pl:L1}{σ:St}{H:Hp}{s:η}(I:Inv X (pins++pl) σ H s):Inv X pins σ H s:=I.pins_of fun p hp=>I.pin p (Gi _ (Zx _ hp))
theorem ps_for{iter:Expr}{body:List Stmt}{wi:TI}{g:TG}{tb:TS}{pos:Pos}(hp:PassesOwn (model X.prog X.w) X.A X.env X.xe)(hc:X.calm=true)(hi:PI X tg iter wi)(hg:PG X tg g)(hb:PSs X body tb)(hs:∀x,foldedSetIterable iter X.env x=pure x:=by intro _;rfl):PS X (.For tg iter body [] pos) (tFor wi g tb):=by
 intro pins s σ H D I h;refine wpAny_For (thn (hi pins s σ H _ I h) fun v s1 h1=>thn h1 fun itv s2 h2=> ?_) hs;obtain⟨it,fp,tn,J,H2,e,I2,T,st2,f2,W,⟨m0,w0⟩,turn⟩:=h2;subst e
 -- what stays true of the iterator's objects through the loop
 have stat:∀{H':Hp},(∀b∈fp,H' b=none)->∀b∈fp,FpOk X pins H' b:=fun hn b hb=>⟨hn b hb,(f2 b hb).2⟩;refine codeAny_forLoop_any (fun n s'=>∃i σ' H',Inv X pins σ' H' s'/\tn i s'.heap/\(∀b∈fp,H' b=none)/\W i n σ' H') ?_ m0 ⟨0,σ,H2,I2,st2,fun b hb=>(f2 b hb).1,w0⟩;rintro n s3 ⟨i,σ3,H3,I3,st3,fr3,w3⟩;rcases turn i n σ3 H3 w3 with⟨stop,qn⟩|⟨go,N,hN,step⟩
 ·refine RX hp (thn (T.done X rfl rfl rfl hc i pins s3 σ3 H3 X.xe I3 (stat fr3) st3 stop) fun r s4 ⟨hr,I4⟩=> ?_);subst hr;exact Z8 ⟨σ3,H3,I4,qn⟩
 ·refine RX hp (thn (T.item X rfl rfl rfl hc i pins s3 σ3 H3 X.xe I3 (stat fr3) st3 go) fun r s4 ⟨u,hr,h4⟩=> ?_);subst hr;refine RX hp (thn h4 fun _ s5 ⟨x,H5,I5,r5,y5,st5,fr5⟩=> ?_);have I5':=I5.pinned (stat fr5) (T.obj _ _ st5);refine RX hp (thn (hg _ s5 σ3 H5 x u _ I5' r5 (step x H5 y5)) fun _ s6 ⟨σ6,H6,I6,q6⟩=> ?_);refine RX hp (thn (hb _ s6 σ6 H6 _ I6 q6) fun f s7 q7=> ?_);have again:∀{σ7:St} {H7:Hp},Inv X (pins++pinsAt fp s5.heap) σ7 H7 s7->N σ7 H7->∃m,m<n/\∃i σ' H',Inv X pins σ' H' s7/\tn i s7.heap/\(∀b∈fp,H' b=none)/\W i m σ' H':=fun{σ7 H7} I7 n7=>by
   obtain⟨m',hm,w7⟩:=hN σ7 H7 n7;refine⟨m',hm,i+1,σ7,H7,I7.unpinned,T.keep _ _ _ st5 fun b hb o e=>(I7.pin (b,o) (Gi _ (Gi _ (mem_pinsAt hb e)))).1,fun b hb=> ?_,w7⟩;obtain⟨o,e,d⟩:=T.obj _ _ st5 b hb;exact(I7.pin (b,o) (Gi _ (Gi _ (mem_pinsAt hb e)))).2.1
  cases f with
  |next=>obtain⟨σ7,H7,I7,n7⟩:=q7;exact again I7 n7
  |cont=>obtain⟨σ7,H7,I7,n7⟩:=q7;exact again I7 n7
  |brk=>obtain⟨σ7,H7,I7,q7⟩:=q7;exact⟨σ7,H7,I7.unpinned,q7⟩
  |ret v=>obtain⟨x7,σ7,H7,I7,r7,q7⟩:=q7;exact⟨x7,σ7,H7,I7.unpinned,r7,q7⟩
end
theorem for_list{K:W.Frag}{a:Addr}{xs:List V}{g:TG}{tb:TS}{D:Ends}{σ:St}{H:Hp}(Pv:Nat->St->Hp->Prop)(h0:Pv 0 σ H)(hl:∀i σ H,i<=xs.length->Pv i σ H->SqL K H a xs)(hs:∀i x σ H,xs[i]? =some x->Pv i σ H->g x σ H fun σ2 H2=>tb {D with nx:=Pv (i+1),ct:=Pv (i+1),bk:=D.nx} σ2 H2)(hd:∀σ H,Pv xs.length σ H->D.nx σ H):
  ∃W:Nat->Nat->St->Hp->Prop,(∃m,W 0 m σ H)/\∀i m σ H,W i m σ H->
   ((Itl K a).stop i H/\D.nx σ H)\/((Itl K a).go i H/\∃N:St->Hp->Prop,(∀σ' H',N σ' H'->∃m',m'<m/\W (i+1) m' σ' H')/\∀x H',(Itl K a).yld i H x H'->g x σ H' fun σ2 H2=>tb {D with nx:=N,ct:=N,bk:=D.nx} σ2 H2):=by
 refine⟨fun i m σ H=>m=xs.length-i/\i<=xs.length/\Pv i σ H,⟨xs.length,by simp,dX _,h0⟩,?_⟩;rintro i m σ H ⟨rfl,hi,p⟩;have q:=hl i σ H hi p;by_cases hlt:i<xs.length
 ·refine .inr ⟨⟨xs,xs[i],q,by simp[hlt]⟩,Pv (i+1),fun σ' H' p'=>⟨xs.length-(i+1),by omega,rfl,hlt,p'⟩,fun x H' y=> ?_⟩;obtain⟨e,y⟩:=y;subst e;exact hs i x σ _ (y xs q) p
 ·have e:i=xs.length:=by omega
  subst e;exact .inl ⟨⟨xs,q,aR _⟩,hd σ H p⟩
theorem Qx{lo:Int}{n:Nat}{g:TG}{tb:TS}{D:Ends}{σ:St}{H:Hp}(Pv:Nat->St->Hp->Prop)(h0:Pv 0 σ H)(hs:∀i σ H,i<n->Pv i σ H->g (.int (lo+i)) σ H fun σ2 H2=>tb {D with nx:=Pv (i+1),ct:=Pv (i+1),bk:=D.nx} σ2 H2)(hd:∀σ H,Pv n σ H->D.nx σ H):
  ∃W:Nat->Nat->St->Hp->Prop,(∃m,W 0 m σ H)/\∀i m σ H,W i m σ H->
   ((Itr lo n).stop i H/\D.nx σ H)\/((Itr lo n).go i H/\∃N:St->Hp->Prop,(∀σ' H',N σ' H'->∃m',m'<m/\W (i+1) m' σ' H')/\∀x H',(Itr lo n).yld i H x H'->g x σ H' fun σ2 H2=>tb {D with nx:=N,ct:=N,bk:=D.nx} σ2 H2):=by
 refine⟨fun i m σ H=>m=n-i/\i<=n/\Pv i σ H,⟨n,by simp,dX _,h0⟩,?_⟩;rintro i m σ H ⟨rfl,hi,p⟩;by_cases hlt:i<n
 ·refine .inr ⟨hlt,Pv (i+1),fun σ' H' p'=>⟨n-(i+1),by omega,rfl,hlt,p'⟩,fun x H' y=> ?_⟩;obtain⟨e,y⟩:=y;subst e y;exact hs i σ _ hlt p
 ·have e:i=n:=by omega
  subst e;exact .inl ⟨aR _,hd σ H p⟩
noncomputable abbrev R2:=V->V->Hp->VK->Prop
noncomputable def OpR(X:Cx)(f:ζ->ζ->Sem ζ)(r:R2):Prop:=
 ∀(pins:L1) (s:η) (σ:St) (H:Hp) (x y:V) (v u:ζ) (Q:VK),Inv X pins σ H s->RelV x v->RelV y u->r x y H Q->
  wpAny (model X.prog X.w) X.A (f v u) (EP X pins σ Q) X.xe s
noncomputable def UnR(X:Cx)(f:ζ->Sem ζ)(r:V->Hp->VK->Prop):Prop:=
 ∀(pins:L1) (s:η) (σ:St) (H:Hp) (x:V) (v:ζ) (Q:VK),Inv X pins σ H s->RelV x v->r x H Q->
  wpAny (model X.prog X.w) X.A (f v) (EP X pins σ Q) X.xe s
noncomputable def CallR(X:Cx)(f:ζ)(r:List V->Hp->VK->Prop):Prop:=
 ∀(pins:L1) (s:η) (σ:St) (H:Hp) (xs:List V) (us:List ζ) (Q:VK),Inv X pins σ H s->Vals xs us->r xs H Q->
  wpAny (model X.prog X.w) X.A (call f us) (EP X pins σ Q) X.xe s
noncomputable def TruR(X:Cx)(r:V->Hp->(Bool->Hp->Prop)->Prop):Prop:=
 ∀(pins:L1) (s:η) (σ:St) (H:Hp) (x:V) (v:ζ) (Q:Bool->Hp->Prop),Inv X pins σ H s->RelV x v->r x H Q->
  wpAny (model X.prog X.w) X.A (truthy v) (TP X pins σ Q) X.xe s
noncomputable def tOp(r:R2)(ta tb:TE):TE:=fun σ H Q=>ta σ H fun x H1=>tb σ H1 fun y H2=>r x y H2 Q
noncomputable def tUn(r:V->Hp->VK->Prop)(ta:TE):TE:=fun σ H Q=>ta σ H fun x H1=>r x H1 Q
noncomputable def rI(C:Int->Int->Prop)(g:Int->Int->V):R2:=fun x y H Q=>∃i j,x= .int i/\y= .int j/\C i j/\Q (g i j) H
noncomputable def rI0(g:Int->Int->V):R2:=fun x y H Q=>∃i j,x= .int i/\y= .int j/\Q (g i j) H
noncomputable def rU(g:Int->V):V->Hp->VK->Prop:=fun x H Q=>∃i,x= .int i/\Q (g i) H
section
variable{X:Cx}{a b:Expr}{ta tb:TE}{pos:Pos}
theorem binT(ha:PE X a ta)(hb:PE X b tb){pins:L1}{s:η}{σ:St}{H:Hp}{R:V->V->Hp->Prop}(I:Inv X pins σ H s)(h:ta σ H fun x H1=>tb σ H1 fun y H2=>R x y H2){Q:L3}{f:ζ->ζ->Sem ζ}(hf:∀v u s2 x y H2,Inv X pins σ H2 s2->RelV x v->RelV y u->R x y H2->wpAny (model X.prog X.w) X.A (f v u) Q X.xe s2):
  wpAny (model X.prog X.w) X.A (eval a X.env) (fun v s₁=>wpAny (model X.prog X.w) X.A (eval b X.env) (fun u s₂=>wpAny (model X.prog X.w) X.A (f v u) Q X.xe s₂) X.xe s₁) X.xe s:=by
 refine thn (ha pins s σ H _ I h) fun v s1 ⟨x,H1,I1,r1,q1⟩=> ?_;refine thn (hb pins s1 σ H1 _ I1 q1) fun u s2 ⟨y,H2,I2,r2,q2⟩=> ?_;exact hf v u s2 x y H2 I2 r1 r2 q2
theorem bK{op:Operator}{r:R2}(ho:OpR X (binaryOp op) r)(ha:PE X a ta)(hb:PE X b tb):PE X (.BinOp a op b pos) (tOp r ta tb):=by
 intro pins s σ H Q I h;exact wpAny_BinOp (binT ha hb I h fun v u s2 x y H2 I2 rx ry q=>ho pins s2 σ H2 x y v u Q I2 rx ry q)
theorem pe_un{op:UnaryOp}{r:V->Hp->VK->Prop}(ho:UnR X (unaryOp op) r)(ha:PE X a ta):PE X (.UnaryOp op a pos) (tUn r ta):=by
 intro pins s σ H Q I h;exact UnaryOp_ (thn (ha pins s σ H _ I h) fun v s1 ⟨x,H1,I1,r1,q1⟩=>ho pins s1 σ H1 x v Q I1 r1 q1)
theorem opI{f:ζ->ζ->Sem ζ}{C:Int->Int->Prop}{g:Int->Int->Int}(rule:∀(i j:Int) (t u:Tok) (s:η) (Q:L3) (E:L3),C i j->Q (.int (g i j) s.toks) {s with toks:=s.toks+1}->wpAny (model X.prog X.w) X.A (f (.int i t) (.int j u)) Q E s):
  OpR X f (rI C fun i j=> .int (g i j)):=by
 intro pins s σ H x y v u Q I rx ry h;obtain⟨i,j,rfl,rfl,hc,q⟩:=h;obtain⟨t,rfl⟩:=rx;obtain⟨t',rfl⟩:=ry;exact rule i j t t' s _ _ hc ⟨.int (g i j),H,I.tok _,⟨_,rfl⟩,q⟩
theorem opI0{f:ζ->ζ->Sem ζ}{g:Int->Int->Int}(rule:∀(i j:Int) (t u:Tok) (s:η) (Q:L3) (E:L3),Q (.int (g i j) s.toks) {s with toks:=s.toks+1}->wpAny (model X.prog X.w) X.A (f (.int i t) (.int j u)) Q E s):
  OpR X f (rI0 fun i j=> .int (g i j)):=by
 intro pins s σ H x y v u Q I rx ry h;obtain⟨i,j,rfl,rfl,q⟩:=h;obtain⟨t,rfl⟩:=rx;obtain⟨t',rfl⟩:=ry;exact rule i j t t' s _ _ ⟨.int (g i j),H,I.tok _,⟨_,rfl⟩,q⟩
theorem opB0{f:ζ->ζ->Sem ζ}{g:Int->Int->Bool}(rule:∀(i j:Int) (t u:Tok) (s:η) (Q:L3) (E:L3),Q (.bool (g i j)) s->wpAny (model X.prog X.w) X.A (f (.int i t) (.int j u)) Q E s):
  OpR X f (rI0 fun i j=> .bl (g i j)):=by
 intro pins s σ H x y v u Q I rx ry h;obtain⟨i,j,rfl,rfl,q⟩:=h;obtain⟨t,rfl⟩:=rx;obtain⟨t',rfl⟩:=ry;exact rule i j t t' s _ _ ⟨.bl (g i j),H,I,rfl,q⟩
noncomputable def CPow(i j:Int):Prop:=0<=j/\j<=1000000/\i.natAbs<2^64
noncomputable def CMul(i j:Int):Prop:=(-(2^64)<i/\i<2^64)\/(-(2^64)<j/\j<2^64)
theorem CMul.ok{i j:Int}(h:CMul i j):IntMulOk i j:=by
 rcases h with⟨h1,h2⟩|⟨h1,h2⟩
 ·exact .of_left (intBits_le_64 h1 h2)
 ·exact .of_right (intBits_le_64 h1 h2)
theorem nA:OpR X (binaryOp .Add) (rI0 fun i j=> .int (i+j)):=opI0 fun _ _ _ _ _ _ _ q=>add_int q
theorem op_sub:OpR X (binaryOp .Sub) (rI0 fun i j=> .int (i-j)):=opI0 fun _ _ _ _ _ _ _ q=>sub_int q
theorem rB:OpR X (binaryOp .Mult) (rI CMul fun i j=> .int (i*j)):=opI fun _ _ _ _ _ _ _ hc q=>mul_int q hc.ok
theorem op_mod:OpR X (binaryOp .Mod) (rI (fun _ j=>0<j) fun i j=> .int (i %j)):=opI fun i j _ _ _ _ _ hc q=>by
 have h1:(0:Int)<j:=hc;exact mod_int' (by omega) (by rw[Int.fmod_eq_emod_of_nonneg i (by omega)];exact q)
theorem op_pow:OpR X (binaryOp .Pow) (rI CPow fun i j=> .int (i^j.toNat)):=opI fun _ _ _ _ _ _ _ hc q=>pow_int_small hc.1 hc.2.1 hc.2.2 q
theorem unI{f:ζ->Sem ζ}{g:Int->Int}(rule:∀(i:Int) (t:Tok) (s:η) (Q:L3) (E:L3),Q (.int (g i) s.toks) {s with toks:=s.toks+1}->wpAny (model X.prog X.w) X.A (f (.int i t)) Q E s):
  UnR X f (rU fun i=> .int (g i)):=by
 intro pins s σ H x v Q I rx h;obtain⟨i,rfl,q⟩:=h;obtain⟨t,rfl⟩:=rx;exact rule i t s _ _ ⟨.int (g i),H,I.tok _,⟨_,rfl⟩,q⟩
theorem un_neg:UnR X (unaryOp .USub) (rU fun i=> .int (-i)):=unI fun _ _ _ _ _ q=>neg_int q
end
noncomputable def scal:V->V->Bool
 | .non,.non=>true| .non,.int _=>true| .int _,.non=>true| .non,.bl _=>true| .bl _,.non=>true| .non,.str _=>true| .str _,.non=>true
 | .int _,.int _=>true| .bl _,.bl _=>true| .str _,.str _=>true| .byt _,.byt _=>true
 | .int _,.str _=>true| .str _,.int _=>true| .bl _,.str _=>true| .str _,.bl _=>true
 |_,_=>false
noncomputable def rEq:R2:=fun x y H Q=>scal x y=true/\Q (.bl (decide (x=y))) H
noncomputable def rNe:R2:=fun x y H Q=>scal x y=true/\Q (.bl (!decide (x=y))) H
theorem dec_int{i j:Int}:decide (V.int i=V.int j)=(i==j):=by
 rw[DG];simp
theorem dec_bl{i j:Bool}:decide (V.bl i=V.bl j)=(i==j):=by
 rw[DG];simp
theorem dec_str{i j:Str}:decide (V.str i=V.str j)=(i==j):=by
 rw[DG];simp
theorem dec_byt{i j:Array UInt8}:decide (V.byt i=V.byt j)=(i.toList==j.toList):=by
 rw[DG];cases i;cases j;simp
section
variable{X:Cx}{a b c:Expr}{ta tb tc:TE}{pos:Pos}
theorem lO{pins:L1}{σ:St}{H:Hp}{s:η}{Q:VK}{k k':Bool}(I:Inv X pins σ H s)(q:Q (.bl k) H)(e:k=k'):EP X pins σ Q (.bool k') s:=by
 subst e;exact⟨.bl k,H,I,rfl,q⟩
theorem op_eq:OpR X (compareOp .Eq) rEq:=by
 intro pins s σ H x y v u Q I rx ry h;obtain⟨hs,q⟩:=h;cases x with
 |non=>
  cases rx;cases y with
  |non=>cases ry;exact PySem.EqNone.eq_none_none (lO I q (by simp))
  |bl j=>cases ry;exact PySem.EqNone.eq_none_bool (lO I q (by simp))
  |int j=>obtain⟨t',rfl⟩:=ry;exact PySem.EqNone.eq_none_int (lO I q (by simp))
  |str j=>obtain⟨t',rfl⟩:=ry;exact PySem.EqNone.eq_none_str (lO I q (by simp))
  |_=>exact absurd (show false=true from hs) vq
 |bl i=>
  cases rx;cases y with
  |non=>cases ry;exact PySem.EqNone.eq_bool_none (lO I q (by simp))
  |bl j=>cases ry;exact eq_bool (lO I q dec_bl)
  |str j=>obtain⟨t',rfl⟩:=ry;exact PySem.EqMixed.eq_bool_str (lO I q (by simp))
  |_=>exact absurd (show false=true from hs) vq
 |int i=>
  obtain⟨t,rfl⟩:=rx;cases y with
  |non=>cases ry;exact PySem.EqNone.eq_int_none (lO I q (by simp))
  |int j=>obtain⟨t',rfl⟩:=ry;exact eq_int (lO I q dec_int)
  |str j=>obtain⟨t',rfl⟩:=ry;exact PySem.EqMixed.eq_int_str (lO I q (by simp))
  |_=>exact absurd (show false=true from hs) vq
 |str i=>
  obtain⟨t,rfl⟩:=rx;cases y with
  |non=>cases ry;exact PySem.EqNone.eq_str_none (lO I q (by simp))
  |bl j=>cases ry;exact PySem.EqMixed.eq_str_bool (lO I q (by simp))
  |int j=>obtain⟨t',rfl⟩:=ry;exact PySem.EqMixed.eq_str_int (lO I q (by simp))
  |str j=>obtain⟨t',rfl⟩:=ry;exact eq_str (lO I q dec_str)
  |_=>exact absurd (show false=true from hs) vq
 |byt i=>
  obtain⟨t,rfl⟩:=rx;cases y with
  |byt j=>obtain⟨t',rfl⟩:=ry;exact PySem.W.eq_bytes (lO I q dec_byt)
  |_=>exact absurd (show false=true from hs) vq
 |_=>cases y<;>exact absurd (show false=true from hs) vq
theorem op_ne:OpR X (compareOp .NotEq) rNe:=by
 intro pins s σ H x y v u Q I rx ry h;obtain⟨hs,q⟩:=h;cases x with
 |non=>
  cases rx;cases y with
  |non=>cases ry;exact PySem.EqNone.ne_none_none (lO I q (by simp))
  |bl j=>cases ry;exact PySem.EqNone.ne_none_bool (lO I q (by simp))
  |int j=>obtain⟨t',rfl⟩:=ry;exact PySem.EqNone.ne_none_int (lO I q (by simp))
  |str j=>obtain⟨t',rfl⟩:=ry;exact PySem.EqNone.ne_none_str (lO I q (by simp))
  |_=>exact absurd (show false=true from hs) vq
 |bl i=>
  cases rx;cases y with
  |non=>cases ry;exact PySem.EqNone.ne_bool_none (lO I q (by simp))
  |bl j=>cases ry;exact ne_bool (lO I q (jz not dec_bl))
  |str j=>obtain⟨t',rfl⟩:=ry;exact PySem.EqMixed.ne_bool_str (lO I q (by simp))
  |_=>exact absurd (show false=true from hs) vq
 |int i=>
  obtain⟨t,rfl⟩:=rx;cases y with
  |non=>cases ry;exact PySem.EqNone.ne_int_none (lO I q (by simp))
  |int j=>obtain⟨t',rfl⟩:=ry;exact ne_int (lO I q (jz not dec_int))
  |str j=>obtain⟨t',rfl⟩:=ry;exact PySem.EqMixed.ne_int_str (lO I q (by simp))
  |_=>exact absurd (show false=true from hs) vq
 |str i=>
  obtain⟨t,rfl⟩:=rx;cases y with
  |non=>cases ry;exact PySem.EqNone.ne_str_none (lO I q (by simp))
  |bl j=>cases ry;exact PySem.EqMixed.ne_str_bool (lO I q (by simp))
  |int j=>obtain⟨t',rfl⟩:=ry;exact PySem.EqMixed.ne_str_int (lO I q (by simp))
  |str j=>obtain⟨t',rfl⟩:=ry;exact ne_str (lO I q (jz not dec_str))
  |_=>exact absurd (show false=true from hs) vq
 |byt i=>
  obtain⟨t,rfl⟩:=rx;cases y with
  |byt j=>obtain⟨t',rfl⟩:=ry;exact PySem.W.ne_bytes (lO I q (jz not dec_byt))
  |_=>exact absurd (show false=true from hs) vq
 |_=>cases y<;>exact absurd (show false=true from hs) vq
theorem op_lt:OpR X (compareOp .Lt) (rI0 fun i j=> .bl (decide (i<j))):=opB0 fun _ _ _ _ _ _ _ q=>lt_int q
theorem op_le:OpR X (compareOp .LtE) (rI0 fun i j=> .bl (decide (i<=j))):=opB0 fun _ _ _ _ _ _ _ q=>le_int q
theorem op_gt:OpR X (compareOp .Gt) (rI0 fun i j=> .bl (decide (j<i))):=opB0 fun _ _ _ _ _ _ _ q=>gt_int q
theorem op_ge:OpR X (compareOp .GtE) (rI0 fun i j=> .bl (decide (j<=i))):=opB0 fun _ _ _ _ _ _ _ q=>ge_int q
theorem op_isN:OpR X (compareOp .Is) (fun x y H Q=>y= .non/\Q (.bl (decide (x= .non))) H):=by
 intro pins s σ H x y v u Q I rx ry h;obtain⟨rfl,q⟩:=h;cases ry;refine is_none_gen (lO I q ?_);cases x<;>first
  |(cases rx;rfl)
  |(obtain⟨t,rfl⟩:=rx;rfl)
theorem op_notN:OpR X (compareOp .IsNot) (fun x y H Q=>y= .non/\Q (.bl (!decide (x= .non))) H):=by
 intro pins s σ H x y v u Q I rx ry h;obtain⟨rfl,q⟩:=h;cases ry;refine isnot_none_gen (lO I q ?_);cases x<;>first
  |(cases rx;rfl)
  |(obtain⟨t,rfl⟩:=rx;rfl)
theorem OpR.or{f:ζ->ζ->Sem ζ}{r r':R2}(h:OpR X f r)(h':OpR X f r'):OpR X f (fun x y H Q=>r x y H Q\/r' x y H Q):=by
 intro pins s σ H x y v u Q I rx ry q;rcases q with q|q
 ·exact h pins s σ H x y v u Q I rx ry q
 ·exact h' pins s σ H x y v u Q I rx ry q
theorem nomark(b:Expr){op:CmpOp}(h:op≠.In:=by decide)(h2:op≠.NotIn:=by decide):behindInMarks op b=false:=by
 have e1:(op==CmpOp.In)=false:=by cases op<;>first |rfl|exact absurd rfl h
 have e2:(op==CmpOp.NotIn)=false:=by cases op<;>first |rfl|exact absurd rfl h2
 cases b<;>simp[behindInMarks,e1,e2]
theorem Gb{op:CmpOp}{r:R2}(ho:OpR X (compareOp op) r)(ha:PE X a ta)(hb:PE X b tb)(hm:behindInMarks op b=false:=by exact nomark _):PE X (.Compare a [op] [b] pos) (tOp r ta tb):=by
 intro pins s σ H Q I h;exact wpAny_Compare1 (binT ha hb I h fun v u s2 x y H2 I2 rx ry q=>ho pins s2 σ H2 x y v u Q I2 rx ry q) hm
noncomputable def tTest(t:TE):TT:=fun σ H Q=>t σ H fun x H'=>∃k,x= .bl k/\Q k H'
theorem dO{op:CmpOp}{r:R2}(ho:OpR X (compareOp op) r)(ha:PE X a ta)(hb:PE X b tb)(hm:behindInMarks op b=false:=by exact nomark _):PT X (.Compare a [op] [b] pos) (tTest (tOp r ta tb)):=by
 intro pins s σ H Q I h;refine wpAny_isTrue_Compare1 (thn (ha pins s σ H _ I h) fun v s1 ⟨x,H1,I1,r1,q1⟩=>thn (hb pins s1 σ H1 _ I1 q1) fun u s2 ⟨y,H2,I2,r2,q2⟩=>
  thn (ho pins s2 σ H2 x y v u _ I2 r1 r2 q2) fun c s3 ⟨z,H3,I3,r3,k,e,q3⟩=> ?_) hm
 subst e;cases r3;exact Iz ⟨H3,I3,q3⟩
noncomputable def tChain(r r':R2)(ta tb tc:TE):TE:=fun σ H Q=>ta σ H fun x H1=>tb σ H1 fun y H2=>r x y H2 fun z H3=>∃k,z= .bl k/\
 (if k=true then tc σ H3 fun w' H4=>r' y w' H4 Q else Q (.bl false) H3)
theorem pe_chain{op op':CmpOp}{r r':R2}(ho:OpR X (compareOp op) r)(ho':OpR X (compareOp op') r')(ha:PE X a ta)(hb:PE X b tb)(hc:PE X c tc)(hm:lastMarks [op,op'] [b,c]=false:=by with_unfolding_all rfl):PE X (.Compare a [op,op'] [b,c] pos) (tChain r r' ta tb tc):=by
 intro pins s σ H Q I h;refine Compare_chain (thn (ha pins s σ H _ I h) fun v s1 ⟨x,H1,I1,r1,q1⟩=>chain_link (thn (hb pins s1 σ H1 _ I1 q1) fun u s2 ⟨y,H2,I2,r2,q2⟩=>
  thn (ho pins s2 σ H2 x y v u _ I2 r1 r2 q2) fun d s3 ⟨z,H3,I3,r3,k,e,q3⟩=> ?_)) hm
 subst e;cases r3;refine Iz ?_;cases k with
 |false=>exact ite_ff ⟨.bl false,H3,I3,rfl,q3⟩
 |true=>exact ite_tt (chain_last (thn (hc pins s3 σ H3 _ I3 q3) fun w' s4 ⟨z',H4,I4,r4,q4⟩=>ho' pins s4 σ H4 y z' u w' Q I4 r2 r4 q4))
theorem pt_chain{op op':CmpOp}{r r':R2}(ho:OpR X (compareOp op) r)(ho':OpR X (compareOp op') r')(ha:PE X a ta)(hb:PE X b tb)(hc:PE X c tc)(hm:lastMarks [op,op'] [b,c]=false:=by with_unfolding_all rfl):PT X (.Compare a [op,op'] [b,c] pos) (tTest (tChain r r' ta tb tc)):=by
 intro pins s σ H Q I h;refine isTrue_chain (thn (ha pins s σ H _ I h) fun v s1 ⟨x,H1,I1,r1,q1⟩=>test_link (thn (hb pins s1 σ H1 _ I1 q1) fun u s2 ⟨y,H2,I2,r2,q2⟩=>
  thn (ho pins s2 σ H2 x y v u _ I2 r1 r2 q2) fun d s3 ⟨z,H3,I3,r3,k,e,q3⟩=> ?_)) hm
 subst e;cases r3;refine Iz ?_;cases k with
 |false=>
  obtain⟨k',e',q'⟩:=q3;cases e';exact ite_ff ⟨H3,I3,q'⟩
 |true=>
  refine ite_tt (test_last (thn (hc pins s3 σ H3 _ I3 q3) fun w' s4 ⟨z',H4,I4,r4,q4⟩=>thn (ho' pins s4 σ H4 y z' u w' _ I4 r2 r4 q4) fun d' s5 ⟨z2,H5,I5,r5,k2,e2,q5⟩=> ?_));subst e2;cases r5;exact Iz ⟨H5,I5,q5⟩
noncomputable def TruV(K:W.Frag)(x:V)(H:Hp)(k:Bool):Prop:=
 match x with
 | .non=>k=false
 | .bl b=>k=b
 | .int i=>k=(i !=0)
 | .str y=>y.length<=sizeLine/\k=((y.length:Int) !=0)
 | .byt y=>y.size<=sizeLine/\k=((y.size:Int) !=0)
 | .ref p=>(∃xs,SqL K H p xs/\k= !xs.isEmpty)\/(∃xs,SqT K H p xs/\k= !xs.isEmpty)\/∃kvs,H p=some (.dK kvs)/\k= !kvs.isEmpty
 |_=>False
theorem isEmpty_kv{κ:Type}{kvs:List (κ×V)}{vs:List (κ×ζ)}(r:KV kvs vs):(!vs.isEmpty)= !kvs.isEmpty:=by
 cases r<;>rfl
theorem isEmpty_of{xs:List V}{its:List ζ}(r:Vals xs its):(!its.toArray.isEmpty)= !xs.isEmpty:=by
 cases r<;>simp
theorem line63:(sizeLine:Nat)<2^63:=by rw[iz];decide
theorem tru_ok:TruR X (fun x H Q=>∃k,TruV X.K x H k/\Q k H):=by
 intro pins s σ H x v Q I rx h;obtain⟨k,e,q⟩:=h;have hl:=line63;have hs:sizeLine=16777216:=iz;cases x with
 |non=>
  cases rx;have e':k=false:=e;subst e';exact truthy_none ⟨H,I,q⟩
 |bl b=>
  cases rx;have e':k=b:=e;subst e';exact Iz ⟨H,I,q⟩
 |int i=>
  obtain⟨t,rfl⟩:=rx;have e':k=(i !=0):=e;subst e';exact PySem.P.truthy_int ⟨H,I,q⟩
 |str y=>
  obtain⟨t,rfl⟩:=rx;obtain⟨hy,e'⟩:y.length<=sizeLine/\k=((y.length:Int) !=0):=e;subst e';exact PySem.P.truthy_str (by omega) ⟨H,I.tok _,q⟩
 |byt y=>
  obtain⟨t,rfl⟩:=rx;obtain⟨hy,e'⟩:y.size<=sizeLine/\k=((y.size:Int) !=0):=e;subst e';exact PySem.W.truthy_bytes (by omega) ⟨H,I.tok _,q⟩
 |ref p=>
  cases rx;have e':(∃xs,SqL X.K H p xs/\k= !xs.isEmpty)\/(∃xs,SqT X.K H p xs/\k= !xs.isEmpty)\/∃kvs,H p=some (.dK kvs)/\k= !kvs.isEmpty:=e;rcases e' with⟨xs,hx,e'⟩|⟨xs,hx,e'⟩|⟨kvs,hx,e'⟩
  ·subst e';obtain⟨its,r,pl,hz⟩:=I.list hx;have hlen:=r.length;exact wpAny_truthy_list pl.isList (by simp only[iw];omega) ⟨H,I.tok _,by rw[isEmpty_of r];exact q⟩
  ·subst e';obtain⟨its,r,pl,hz⟩:=I.tuple hx;have hlen:=r.length;exact truthy_tuple pl (by simp only[iw];omega) ⟨H,I.tok _,by rw[isEmpty_of r];exact q⟩
  ·subst e';obtain⟨hz,hS,vs,r,m⟩:kvs.length<=sizeLine/\(p==sysModules)=false/\∃vs,KV kvs vs/\s.heap.DictOf (mixKind X.prog X.w) p vs:=I.hok p _ hx;have hlen:kvs.length=vs.length:=RV r;exact wpAny_truthy_dict hS m (by omega) ⟨H,I.tok _,by rw[isEmpty_kv r];exact q⟩
 |_=>exact(show False from e).elim
theorem pt_truth(ha:PE X a ta)(he:∀whole,isTrue a X.env whole=(do let v<-whole;standAt a.pos;holding [v] (truthy v))):
  PT X a (fun σ H Q=>ta σ H fun x H'=>∃k,TruV X.K x H' k/\Q k H'):=by
 intro pins s σ H Q I h;exact isTrue_plain (thn (ha pins s σ H _ I h) fun v s1 ⟨x,H1,I1,r1,q1⟩=>tru_ok pins s1 σ H1 x v Q I1 r1 q1) (he _)
theorem vals1{x:V}{us:List ζ}(r:Vals [x] us):∃u,us=[u]/\RelV x u:=by
 cases r with
 |cons r1 r2=>cases r2;exact⟨_,rfl,r1⟩
theorem vals2{x y:V}{us:List ζ}(r:Vals [x,y] us):∃u w',us=[u,w']/\RelV x u/\RelV y w':=by
 cases r with
 |cons r1 r2=>
  cases r2 with
  |cons r3 r4=>cases r4;exact⟨_,_,rfl,r1,r3⟩
theorem call_abs:CallR X (.builtin "abs") (fun xs H Q=>∃i,xs=[.int i]/\Q (.int (if i<0 then -i else i)) H):=by
 intro pins s σ H xs us Q I r h;obtain⟨i,rfl,q⟩:=h;obtain⟨u,rfl,t,rfl⟩:=vals1 r;exact call_abs_int fun u tk=>⟨.int (if i<0 then -i else i),H,I.tok _,⟨_,rfl⟩,q⟩
theorem call_max2(hc:X.calm=true):CallR X (.builtin "max") (fun xs H Q=>∃i j,xs=[.int i,.int j]/\Q (.int (if j>i then j else i)) H):=by
 intro pins s σ H xs us Q I r h;obtain⟨i,j,rfl,q⟩:=h;obtain⟨u,w',rfl,⟨t,rfl⟩,⟨t',rfl⟩⟩:=vals2 r;refine max_two_ints (I.ok.hd hc) fun h' tk k=>⟨_,H,I.kept k,?_,q⟩;by_cases hj:j>i
 ·rw[au hj,au hj];exact⟨_,rfl⟩
 ·rw[aq hj,aq hj];exact⟨_,rfl⟩
theorem call_min2(hc:X.calm=true):CallR X (.builtin "min") (fun xs H Q=>∃i j,xs=[.int i,.int j]/\Q (.int (if j<i then j else i)) H):=by
 intro pins s σ H xs us Q I r h;obtain⟨i,j,rfl,q⟩:=h;obtain⟨u,w',rfl,⟨t,rfl⟩,⟨t',rfl⟩⟩:=vals2 r;refine min_two_ints (I.ok.hd hc) fun h' tk k=>⟨_,H,I.kept k,?_,q⟩;by_cases hj:j<i
 ·rw[au hj,au hj];exact⟨_,rfl⟩
 ·rw[aq hj,aq hj];exact⟨_,rfl⟩
theorem call_int1:CallR X (.type "int") (fun xs H Q=>(∃i,xs=[.int i]/\Q (.int i) H)\/∃k,xs=[.bl k]/\Q (.int (if k then 1 else 0)) H):=by
 intro pins s σ H xs us Q I r h;rcases h with⟨i,rfl,q⟩|⟨k,rfl,q⟩
 ·obtain⟨u,rfl,t,rfl⟩:=vals1 r;exact call_int_int ⟨.int i,H,I,⟨_,rfl⟩,q⟩
 ·obtain⟨u,rfl,r1⟩:=vals1 r;cases r1;exact call_int_bool ⟨.int (if k then 1 else 0),H,I.tok _,⟨_,rfl⟩,q⟩
end
structure ObjM(h:Heap)(x dx C:Addr)(mA:L4):Prop where
 obj:h.get? x=some (PySem.W.instObj C dx)
 ns:h.Ns1 dx mA
 ne:dx≠x
theorem lookIn_ns{h:Heap}{dx:Addr}{mA:L4}(n:h.Ns1 dx mA):∃od,h.get? dx=some od/\∀name,PySem.W.lookIn name od=some (mA name):=by
 obtain⟨o,es,ep,ho,hd,hk,_,hm⟩:=n;refine⟨o,ho,fun name=> ?_⟩;have e:=hm name;unfold nsFind findBy at e;rw[<-Array.find?_toList]at e;unfold PySem.W.lookIn;rw[hd];dsimp only;split
 ·rename_i y q;rw[q]at e;exact jz some e
 ·rename_i q;rw[q]at e;have a:es.toList.any (·.refKey)=false:=by
   rw[wcb];intro y hy;obtain⟨z,t,hkey⟩:=hk y (Array.mem_toList_iff.mp hy);simp[DictEntry.refKey,hkey]
  have a':¬es.toList.any (·.refKey)=true:=by rw[a];exact vq
  rw[aq a'];exact jz some e
theorem ObjM.look{h:Heap}{x dx C:Addr}{mA:L4}(I:ObjM h x dx C mA):∃od,PySem.W.InstAt h x (PySem.W.instObj C dx) C (some od)/\∀name,PySem.W.lookIn name od=some (mA name):=
 let⟨od,ho,hl⟩:=lookIn_ns I.ns
 ⟨od,⟨I.obj,rfl,rfl,ho⟩,hl⟩
section
variable{prog:ξ}{w:τ}{A:Around}{E:L3}{s:η}{K:W.Frag}{x dx C f:Addr}{mA:L4}{name:Str}{v:ζ}
theorem get_map{expr:Bool}{Q:L3}(X:K.In s.heap)(I:ObjM s.heap x dx C mA)(hg:PySem.W.plainGet K C name=true)(hh:PySem.W.hasDictIn K C=true)(ha:PySem.W.findIn K (.ref C) name=some none)(hv:mA name=some v)(hv':PySem.W.handedIn v=true)(h:Q v {s with toks:=s.toks+1}):
  wpAny (model prog w) A (getAttr (.ref x) name expr) Q E s:=by
 obtain⟨od,J,hl⟩:=I.look;exact PySem.W.get_value X J (wcq hg).1 (PySem.W.findObj_own hh ha rfl (by rw[hl,hv])) hv' h
theorem get_meth{pl:Sem Bool}{Q:ζ×List ζ->η->Prop}(X:K.In s.heap)(I:ObjM s.heap x dx C mA)(hg:PySem.W.plainGet K C name=true)(hf:PySem.W.findIn K (.ref C) name=some (some (.ref f)))(ht:PySem.W.isFn K (.ref f)=true)(hv:mA name=none)(h:Q (.ref f,[.ref x]) s):
  wpAny (model prog w) A (getMethod (.ref x) name pl) Q E s:=by
 obtain⟨od,J,hl⟩:=I.look;exact PySem.W.method_fn X J (wcq hg).1 (wcq hg).2 hf (beq_iff_eq.mp ht) (by show(PySem.W.lookIn name od).map (·.isSome)=some false;rw[hl,hv];rfl) h
theorem set_map{ns:List Str}{Q:Unit->η->Prop}(X:K.In s.heap)(I:ObjM s.heap x dx C mA)(hs:PySem.W.findIn K (.ref C) "__setattr__"=some (some (.builtin "object.__setattr__")))(hp:PySem.W.plainOver K C=true)(ht:PySem.W.takerIn K C name=some none)(hh:PySem.W.hasDictIn K C=true)(hw:PySem.Within mA ns)(hsz:ns.length<=sizeLine)(h:∀h',ObjM h' x dx C (fun y=>if y=name then some v else mA y)->Heap.SameBut dx s.heap h'->Q () {s with heap:=h',toks:=s.toks+2}):
  wpAny (model prog w) A (setAttr (.ref x) name v) Q E s:=by
 obtain⟨od,J,hl⟩:=I.look;refine PySem.W.set_plain X J hs (PySem.W.osa_open (s:={s with toks:=s.toks+1}) (r:=none) X J hp ht fun b=> ?_);obtain⟨cd,hc,hd'⟩:=PySem.W.any_some hh;have hx:s.heap.get? x=some ⟨.ref C,some dx,.plain,#[]⟩:=I.obj;refine aY (eU (aY (aY (wpAny_loadPart hx (aY (PySem.W.Looks.here (s:={s with toks:=s.toks+1}) (PySem.W.looks_clsIn X hc) ?_))))));rw[hd'];refine eU (a:=some dx) (aY (eU (aY ?_)));refine wpAny_nsSet1 (s:={s with toks:=s.toks+1}) I.ns fun h' hn2 hs2=> ?_;obtain⟨oD,esD,epD,hoD,hdD,hcD⟩:=hn2.count (PySem.Within.cons name v hw);refine aY (wpAny_lookBehind hoD (by rw[hdD];exact pastItsLine_dict (cQ hcD (by rw[yj];omega))) ?_);exact eU (h _ ⟨(hs2.2 _ (lQ I.ne)).trans I.obj,hn2,I.ne⟩ hs2)
theorem make_map{R:Result->η->Prop}{vs:List ζ}{kw:List (Str×ζ)}(X:K.In s.heap)(hm:PySem.W.makesIn K C=true)(hi:PySem.W.findIn K (.ref C) "__init__"=some (some (.ref f)))(hf:PySem.W.typeIn K (.ref f)=some (.type "function"))(h:codeAny (model prog w) (A.under (.builtin "type.__call__" ⟨.ref C::vs,kw⟩)) (.call (.ref f) ⟨.ref (s.heap.objs.size+1)::vs,kw⟩) (PySem.W.InitBack (s.heap.objs.size+1) R)
   {s with heap:=(s.heap.push PySem.W.emptyDict).push (PySem.W.instObj C s.heap.objs.size)}):
  codeAny (model prog w) A (.call (.ref C) ⟨vs,kw⟩) R s:=by
 obtain⟨hh,g,d,t,os⟩:=s;exact PySem.W.make_core (PySem.W.makes_of X hm) (PySem.W.looks_findIn X hi) (fun self=>PySem.W.bind_fn X self hf) (.inl rfl) h
end
noncomputable def putF(f:Str)(v:V):List (Str×V)->List (Str×V)
 |[]=>[(f,v)]
 |(g,x)::r=>if g=f then(g,v)::r else(g,x)::putF f v r
theorem lookup_putF(f g:Str)(v:V):∀fs:List (Str×V),(putF f v fs).lookup g=if g=f then some v else fs.lookup g
 |[]=>by
  show List.lookup g [(f,v)]=_;by_cases h:g=f
  ·have hb:(g==f)=true:=beq_iff_eq.mpr h;simp only[List.lookup,hb,au h]
  ·have hb:(g==f)=false:=beq_eq_false_iff_ne.mpr h;simp only[List.lookup,hb,aq h]
 |(k,x)::r=>by
  have ih:=lookup_putF f g v r;rw[show putF f v ((k,x)::r)=(if k=f then(k,v)::r else(k,x)::putF f v r)from rfl];by_cases hk:k=f
  ·rw[au hk];by_cases h:g=k
   ·have hb:(g==k)=true:=beq_iff_eq.mpr h;simp only[List.lookup,hb,au (h.trans hk)]
   ·have hb:(g==k)=false:=beq_eq_false_iff_ne.mpr h;simp only[List.lookup,hb,aq (fun e:g=f=>h (e.trans hk.symm))]
  ·rw[aq hk];by_cases h:g=k
   ·have hb:(g==k)=true:=beq_iff_eq.mpr h;simp only[List.lookup,hb,aq (fun e:g=f=>hk (h.symm.trans e))]
   ·have hb:(g==k)=false:=beq_eq_false_iff_ne.mpr h;simp only[List.lookup,hb];exact ih
theorem keys_putF(f:Str)(v:V):∀fs:List (Str×V),f∈(putF f v fs).map (·.1)/\∀g,g∈fs.map (·.1)->g∈(putF f v fs).map (·.1)
 |[]=>⟨by simp[putF],fun g h=>by simp at h⟩
 |(k,x)::r=>by
  obtain⟨i1,i2⟩:=keys_putF f v r;rw[show putF f v ((k,x)::r)=(if k=f then(k,v)::r else(k,x)::putF f v r)from rfl];by_cases hk:k=f
  ·rw[au hk];subst hk;exact⟨by simp,fun g h=>by simpa using h⟩
  ·rw[aq hk];refine⟨?_,fun g h=> ?_⟩
   ·rw[yg];exact jy _ i1
   ·rw[yg]at h⊢;rcases cW.mp h with e|e
    ·exact cW.mpr (.inl e)
    ·exact jy _ (i2 g e)
theorem length_putF(f:Str)(v:V):∀fs:List (Str×V),(putF f v fs).length<=fs.length+1
 |[]=>by simp[putF]
 |(k,x)::r=>by
  have ih:=length_putF f v r;rw[show putF f v ((k,x)::r)=(if k=f then(k,v)::r else(k,x)::putF f v r)from rfl];by_cases hk:k=f
  ·rw[au hk,yj,yj];omega
  ·rw[aq hk,yj,yj];omega
theorem RelO.some_of{v:V}{o:Option ζ}(r:RelO (some v) o):∃u,o=some u/\RelV v u:=by
 cases o with
 |none=>exact(show False from r).elim
 |some u=>exact⟨u,rfl,r⟩
theorem RelO.none_of{o:Option ζ}(r:RelO none o):o=none:=by
 cases o with
 |none=>rfl
 |some u=>exact(show False from r).elim
theorem handed_of{v:V}{u:ζ}(r:RelV v u):PySem.W.handedIn u=true:=by
 cases v with
 |non=>cases(show u=Value.none from r);rfl
 |bl b=>cases(show u=Value.bool b from r);rfl
 |int i=>obtain⟨t,e⟩:=(show∃t,u=Value.int i t from r);cases e;rfl
 |str x=>obtain⟨t,e⟩:=(show∃t,u=Value.str x t from r);cases e;rfl
 |byt b=>obtain⟨t,e⟩:=(show∃t,u=Value.bytes b t from r);cases e;rfl
 |flt b=>obtain⟨t,e⟩:=(show∃t,u=Value.float b t from r);cases e;rfl
 |ref a=>cases(show u=Value.ref a from r);rfl
 |ty n=>cases(show u=Value.type n from r);rfl
section
variable{P:ξ}{w:τ}{H:Hp}{h:Heap}{a C dx:Addr}{fs:List (Str×V)}
theorem ins_get(hok:HOk P w H h)(e:H a=some (.ins C dx fs)):∃mA,ObjM h a dx C mA/\(∀f,RelO (fs.lookup f) (mA f))/\PySem.Within mA (fs.map (·.1))/\fs.length<=1000/\H dx=some (.own a):=by
 obtain⟨d,z,ne,ob,mA,n,r,q⟩:=(show ObjOk P w H h a (.ins C dx fs)from hok a _ e);exact⟨mA,⟨ob,n,ne⟩,r,q,z,d⟩
end
structure Cls(K:W.Frag)(C:Addr):Prop where
 pg:PySem.W.plainGet K C Str.empty=true
 hd:PySem.W.hasDictIn K C=true
 po:PySem.W.plainOver K C=true
 sa:PySem.W.findIn K (.ref C) "__setattr__"=some (some (.builtin "object.__setattr__"))
theorem Cls.get{K:W.Frag}{C:Addr}(c:Cls K C)(f:Str):PySem.W.plainGet K C f=true:=c.pg
noncomputable def NoAttr(K:W.Frag)(C:Addr)(f:Str):Prop:=PySem.W.findIn K (.ref C) f=some none
theorem NoAttr.taker{K:W.Frag}{C:Addr}{f:Str}(n:NoAttr K C f):PySem.W.takerIn K C f=some none:=by
 unfold PySem.W.takerIn;rw[show PySem.W.findIn K (.ref C) f=some none from n];rfl
structure Meth(K:W.Frag)(C:Addr)(m:Str)(f:Addr):Prop where
 at_:PySem.W.findIn K (.ref C) m=some (some (.ref f))
 fn:PySem.W.isFn K (.ref f)=true
 kp:PySem.W.keepIn K (.ref f)=true
section
variable{X:Cx}{pins:L1}{σ:St}{H:Hp}{s:η}{a C dx:Addr}{fs:List (Str×V)}{f:Str}{v:V}{A:Around}{E:L3}
theorem getattr_ok{b:Bool}{Q:L3}(I:Inv X pins σ H s)(e:H a=some (.ins C dx fs))(c:Cls X.K C)(n:NoAttr X.K C f)(l:fs.lookup f=some v)(h:∀u s',Inv X pins σ H s'->RelV v u->Q u s'):wpAny (model X.prog X.w) A (getAttr (.ref a) f b) Q E s:=by
 obtain⟨mA,O,r,_,_,_⟩:=ins_get I.hok e;obtain⟨u,hu,ru⟩:=RelO.some_of (v:=v) (o:=mA f) (by rw[<-l];exact r f);exact get_map I.kIn O (c.get f) c.hd n hu (handed_of ru) (h u _ (I.tok _) ru)
theorem getmeth_ok{m:Str}{g:Addr}{pl:Sem Bool}{Q:ζ×List ζ->η->Prop}(I:Inv X pins σ H s)(e:H a=some (.ins C dx fs))(c:Cls X.K C)(k:Meth X.K C m g)(l:fs.lookup m=none)(h:Q (.ref g,[.ref a]) s):wpAny (model X.prog X.w) A (getMethod (.ref a) m pl) Q E s:=by
 obtain⟨mA,O,r,_,_,_⟩:=ins_get I.hok e;have hn:mA m=none:=RelO.none_of (by rw[<-l];exact r m);exact get_meth I.kIn O (c.get m) k.at_ k.fn hn h
theorem setattr_ok{y:V}{u:ζ}{Q:Unit->η->Prop}(I:Inv X pins σ H s)(e:H a=some (.ins C dx fs))(c:Cls X.K C)(n:NoAttr X.K C f)(hl:fs.length<1000)(ry:RelV y u)(h:∀s',Inv X pins σ (upd H a (.ins C dx (putF f y fs))) s'->Q () s'):wpAny (model X.prog X.w) A (setAttr (.ref a) f u) Q E s:=by
 obtain⟨mA,O,r,wi,_,ho⟩:=ins_get I.hok e;have hz:(fs.map (·.1)).length<=sizeLine:=by rw[aH,iz];omega
 refine set_map I.kIn O c.sa c.po n.taker c.hd wi hz fun h' O' sb=>h _ ?_;have hd:∃o,h'.get? dx=some o:=let⟨o,_,_,e',_⟩:=O'.ns;⟨o,e'⟩;refine I.write (x:=a) (e:=dx) (by rw[e];exact True.intro) (.inr ho) (fun b q hb z=>(sb.2 b hb).trans z) hd ?_;refine⟨by rw[cP O.ne];exact ho,?_,O.ne,O'.obj,_,O'.ns,fun g=> ?_,fun g hg=> ?_⟩
 ·have:=length_putF f y fs;omega
 ·show RelO ((putF f y fs).lookup g) (if g=f then some u else mA g);rw[lookup_putF];by_cases q:g=f
  ·rw[au q,au q];exact ry
  ·rw[aq q,aq q];exact r g
 ·by_cases q:g=f
  ·rw[q];exact(keys_putF f y fs).1
  ·refine(keys_putF f y fs).2 g (wi g fun z=>hg ?_);show(if g=f then some u else mA g)=none;rw[aq q];exact z
theorem Inv.made(I:Inv X pins σ H s):Inv X pins σ (upd (upd H s.heap.objs.size (.own (s.heap.objs.size+1))) (s.heap.objs.size+1) (.ins C s.heap.objs.size []))
  {s with heap:=(s.heap.push PySem.W.emptyDict).push (PySem.W.instObj C s.heap.objs.size)}:=by
 have e1:(s.heap.push PySem.W.emptyDict).get? s.heap.objs.size=some PySem.W.emptyDict:=nG s.heap rfl;have e2:((s.heap.push PySem.W.emptyDict).push (PySem.W.instObj C s.heap.objs.size)).get? (s.heap.objs.size+1)=some (PySem.W.instObj C s.heap.objs.size):=by
  have:=nG (s.heap.push PySem.W.emptyDict) (o:=PySem.W.instObj C s.heap.objs.size) rfl
  rwa [Ar]at this
 have e3:(s.heap.push PySem.W.emptyDict).Ns s.heap.objs.size (fun _=>none):=⟨PySem.W.emptyDict,#[],_,e1,rfl,(fun e he=>absurd he (by simp)),fun _=>rfl⟩;have I1:=I.laid (a:=s.heap.objs.size) (o:= .own (s.heap.objs.size+1)) (h':=s.heap.push PySem.W.emptyDict) (t':=s.toks) (fun b u q=>eV _ q) (aR _) ⟨_,e1⟩;refine I1.laid (a:=s.heap.objs.size+1) (o:= .ins C s.heap.objs.size []) (t':=s.toks) (fun b u q=>eV _ q) (Dw (Ar _ _)) ?_;have ne:s.heap.objs.size≠s.heap.objs.size+1:=iM (vW _);refine⟨by rw[cP ne,aA],dX _,ne,e2,fun _=>none,(Heap.Ns1.of_empty e3).at fun o q=>eV _ q,fun _=>True.intro,fun y hy=>absurd rfl hy⟩
theorem attr_of{prog:ξ}{w:τ}{env:Env}{e:Expr}{f:Str}{pos:Pos}{s:η}{Q:L3}(hb:attributeBase e f env (eval e env)=eval e env)(h:wpAny (model prog w) A (eval e env) (fun o s₁=>wpAny (model prog w) A (getAttr o f true) Q E s₁) E s):wpAny (model prog w) A (eval (.Attribute e f pos) env) Q E s:=
 Attribute_any_ h (by rw[arm_eval_Attribute,hb])
end
noncomputable def tFld(K:W.Frag)(ta:TE)(f:Str):TE:=fun σ H Q=>ta σ H fun x H1=>∃a C dx fs v,x= .ref a/\H1 a=some (.ins C dx fs)/\Cls K C/\NoAttr K C f/\fs.lookup f=some v/\Q v H1
noncomputable def sFld(K:W.Frag)(ta tv:TE)(f:Str):TS:=fun D σ H=>tv σ H fun y H1=>ta σ H1 fun x H2=>∃a C dx fs,x= .ref a/\H2 a=some (.ins C dx fs)/\Cls K C/\NoAttr K C f/\fs.length<1000/\
 D.nx σ (upd H2 a (.ins C dx (putF f y fs)))
noncomputable def InOp(X:Cx)(op:Operator)(rd:V->V->Hp->VK->Prop):Prop:=
 ∀(pins:L1) (s:η) (σ:St) (H:Hp) (x y:V) (u v:ζ) (Q:VK),Inv X pins σ H s->RelV x u->RelV y v->rd x y H Q->wpAny (model X.prog X.w) X.A (inplaceOp op u v) (EP X pins σ Q) X.xe s
noncomputable def sFldAug(K:W.Frag)(ta tv:TE)(rd:V->V->Hp->VK->Prop)(f:Str):TS:=fun D σ H=>ta σ H fun x H1=>∃a C dx fs v,x= .ref a/\H1 a=some (.ins C dx fs)/\Cls K C/\NoAttr K C f/\fs.lookup f=some v/\
 tv σ H1 fun y H2=>rd v y H2 fun z H3=>∃dx' fs',H3 a=some (.ins C dx' fs')/\fs'.length<1000/\D.nx σ (upd H3 a (.ins C dx' (putF f z fs')))
section
variable{X:Cx}{o e value:Expr}{f:Str}{pos pos' tpos:Pos}{ta tv:TE}
theorem gB(he:PE X e ta)(hb:attributeBase e f X.env (eval e X.env)=eval e X.env):PE X (.Attribute e f pos) (tFld X.K ta f):=by
 intro pins s σ H Q I h;refine attr_of hb (thn (he pins s σ H _ I h) fun u s1 ⟨x,H1,I1,rx,a,C,dx,fs,v,ex,ea,c,n,l,q⟩=> ?_);subst ex;obtain rfl:u=Value.ref a:=rx;exact getattr_ok I1 ea c n l fun u' s2 I2 ru=>⟨v,H1,I2,ru,q⟩
theorem ps_fld(ha:PE X o ta)(hv:PE X value tv)(hs:swapsWith value (some (.Attribute o f pos')) pos.line X.env=pure false):PS X (.Assign [.Attribute o f pos'] value pos) (sFld X.K ta tv f):=by
 intro pins s σ H D I h;refine plainObj_wpAny_Assign_Attribute (thn (hv pins s σ H _ I h) fun u s1 ⟨y,H1,I1,ry,q⟩=>thn (ha pins s1 σ H1 _ I1 q) fun ov s2 ⟨x,H2,I2,rx,a,C,dx,fs,ex,ea,c,n,l,q2⟩=> ?_) hs;subst ex;obtain rfl:ov=Value.ref a:=rx;exact setattr_ok I2 ea c n l ry fun s3 I3=>⟨σ,_,I3,q2⟩
theorem ps_fldaug{op:Operator}{rd:V->V->Hp->VK->Prop}(ha:PE X o ta)(hv:PE X value tv)(hop:InOp X op rd):PS X (.AugAssign (.Attribute o f tpos) op value pos) (sFldAug X.K ta tv rd f):=by
 intro pins s σ H D I h;refine wpAny_AugAssign_AttributeAny (thn (ha pins s σ H _ I h) fun ov s1 ⟨x,H1,I1,rx,a,C,dx,fs,v,ex,ea,c,n,l,q⟩=> ?_);subst ex;obtain rfl:ov=Value.ref a:=rx;refine getattr_ok I1 ea c n l fun u s2 I2 ru=>thn (hv pins s2 σ H1 _ I2 q) fun w3 s3 ⟨y,H2,I3,ry,q3⟩=>thn (hop pins s3 σ H2 v y u w3 _ I3 ru ry q3) fun w4 s4 ⟨z,H3,I4,rz,dx',fs',ea',l',q4⟩=> ?_;exact setattr_ok I4 ea' c n l' rz fun s5 I5=>⟨σ,_,I5,q4⟩
noncomputable def rAdd:V->V->Hp->VK->Prop:=fun x y H Q=>∃i j,x= .int i/\y= .int j/\Q (.int (i+j)) H
theorem in_add:InOp X .Add rAdd:=by
 rintro pins s σ H x y u v Q I rx ry ⟨i,j,rfl,rfl,q⟩;obtain⟨t,rfl⟩:=(show∃t,u=Value.int i t from rx);obtain⟨t',rfl⟩:=(show∃t',v=Value.int j t' from ry);exact PyProof.Rows.iadd_int ⟨.int (i+j),H,I.tok _,⟨_,rfl⟩,q⟩
end
structure Room(k:Nat)(A:Around):Prop where
 hd:A.handled=none
 dp:A.depth+3*k+5<recursionLimit
 un:A.units+16*k+200<cLine
 gd:A.guards=some []
theorem Room.mono{j k:Nat}{A:Around}(r:Room k A)(h:j<=k):Room j A:=⟨r.hd,by have:=r.dp;omega,by have:=r.un;omega,r.gd⟩
theorem Room.deeper{k:Nat}{A:Around}(r:Room (k+1) A)(env:Env):Room k (A.deeper env):=
 ⟨r.hd,by have:=r.dp;show A.depth+1+3*k+5<_;omega,by have:=r.un;show A.units+3+16*k+200<_;omega,r.gd⟩
theorem make_depth{A:Around}{C:Addr}{us:List ζ}{kw:List (Str×ζ)}:(A.under (.builtin "type.__call__" ⟨.ref C::us,kw⟩)).depth=A.depth+1:=by
 first |rfl|simp[Around.under,Code.weight,Code.isCreation,Code.isGuard,Code.isCaller,Code.frames,Code.isFrame,guardIds]
theorem make_units{A:Around}{C:Addr}{us:List ζ}{kw:List (Str×ζ)}:(A.under (.builtin "type.__call__" ⟨.ref C::us,kw⟩)).units=A.units+1:=by
 first |rfl|simp[Around.under,Code.cUnits,Code.frames,Code.isFrame]
theorem Room.make{k:Nat}{A:Around}(r:Room (k+1) A)(C:Addr)(us:List ζ)(kw:List (Str×ζ)):Room k (A.under (.builtin "type.__call__" ⟨.ref C::us,kw⟩)):=
 ⟨r.hd,by have:=r.dp;rw[make_depth];omega,by have:=r.un;rw[make_units];omega,by
  have q:=r.gd
  first |exact q|(simp[Around.under,Code.isGuard,guardIds];exact q)|(unfold Around.under;simp[Code.isGuard,guardIds,q])⟩
theorem Room.depth{k:Nat}{A:Around}(r:Room k A):A.depth<recursionLimit:=by have:=r.dp;omega
theorem Room.units{k:Nat}{A:Around}(r:Room k A):A.units+64<cLine:=by have:=r.un;omega
theorem Room.units0{k:Nat}{A:Around}(r:Room k A):A.units<cLine:=by have:=r.un;omega
noncomputable def tNil:TA:=fun _ H Q=>Q [] H
noncomputable def tCons(ta:TE)(tr:TA):TA:=fun σ H Q=>ta σ H fun x H1=>tr σ H1 fun xs H2=>Q (x::xs) H2
section
variable{X:Cx}{e:Expr}{es:List Expr}{te:TE}{t:TA}{pos:Pos}
theorem ak:PA X [] tNil:=fun _ _ _ _ H Q I h=>wcc ⟨[],H,I,.nil,h⟩
theorem aj(ha:PE X e te)(hr:PA X es t)(hs:starEach (e::es) X.env=(false,eval e X.env)::starEach es X.env:=by rfl):PA X (e::es) (tCons te t):=by
 intro pos pins s σ H Q I h;rw[hs];show wpAny _ _ (spliced ((false,eval e X.env)::backTo pos (starEach es X.env))) _ _ s;refine wbr (thn (ha pins s σ H _ I h) fun u s1 ⟨x,H1,I1,r1,q1⟩=> ?_);exact thn (hr pos pins s1 σ H1 _ I1 q1) fun us s2 ⟨xs,H2,I2,r2,q2⟩=>⟨x::xs,H2,I2,.cons r1 r2,q2⟩
noncomputable def tTup(t:TA):TE:=fun σ H Q=>t σ H fun xs H1=>xs.length<=sizeLine/\∀p,H1 p=none->Q (.ref p) (upd H1 p (.tup xs))
noncomputable def tLst(t:TA):TE:=fun σ H Q=>t σ H fun xs H1=>xs.length<=sizeLine/\∀p,H1 p=none->Q (.ref p) (upd H1 p (.lst xs))
theorem fu{x1}(h:PA X es t):PE X (.Tuple es x1 pos) (tTup t):=by
 intro pins s σ H Q I hq;refine wpAny_Tuple_spliced (thn (h pos pins s σ H _ I hq) fun us s1 ⟨xs,H1,I1,r,z,q⟩=>⟨by rw[<-r.length];exact z,?_⟩);have hf:H1 s1.heap.objs.size=none:=I1.hok.fresh (aR _);refine⟨.ref s1.heap.objs.size,upd H1 s1.heap.objs.size (.tup xs),I1.laid (t':=s1.toks) (fun b u e=>eV _ e) (aR _) ?_,rfl,q _ hf⟩;exact⟨z,us,r,⟨_,nG _ rfl,rfl,_,rfl⟩⟩
theorem pe_lst(h:PA X es t):PE X (.List es pos) (tLst t):=by
 intro pins s σ H Q I hq;refine wpAny_List_spliced (thn (h pos pins s σ H _ I hq) fun us s1 ⟨xs,H1,I1,r,z,q⟩=>⟨by rw[<-r.length];exact z,?_⟩);have hf:H1 s1.heap.objs.size=none:=I1.hok.fresh (aR _);refine⟨.ref s1.heap.objs.size,upd H1 s1.heap.objs.size (.lst xs),I1.laid (t':=s1.toks) (fun b u e=>eV _ e) (aR _) ?_,rfl,q _ hf⟩;exact⟨z,us,0,r,nG _ rfl⟩
end
noncomputable abbrev Sp:=List V->Hp->VK->XK->Prop
noncomputable abbrev CXT:=List Env->Hp->η->XK->ζ->η->Prop
structure Env0(P:ξ)(w:τ)(K:W.Frag)(mg:L4)(base:Heap)(A:Around)(outer:List Env)(s:η)(H:Hp):Prop where
 frames:A.frames=some outer
 mod:Mod K mg base
 bs:∀b o,base.get? b=some o->s.heap.get? b=some o/\H b=none
 bsz:base.objs.size<=s.heap.objs.size
 funs:s.heap.FunFrames base outer
 frf:∀b∈frs outer,H b=none
 hok:HOk P w H s.heap
 bare:AllBare s.gens
noncomputable def CE(outer:List Env)(P:ξ)(w:τ)(H:Hp)(s:η)(Q:VK)(u:ζ)(s':η):Prop:=
 ∃v H',s'.os=s.os/\AllBare s'.gens/\Un (frs outer) [] H H' s.heap s'.heap/\HOk P w H' s'.heap/\RelV v u/\Q v H'
noncomputable def CR(CX:CXT)(outer:List Env)(P:ξ)(w:τ)(H:Hp)(s:η)(Q:VK)(E:XK)(r:Result)(s':η):Prop:=
 match r with
 | .ok (.ret u)=>CE outer P w H s Q u s'
 | .ok _=>False
 | .error e=>CX outer H s E e s'
structure FnOk(P:ξ)(w:τ)(K:W.Frag)(mg:L4)(base:Heap)(CX:CXT)(k:Nat)(f:Addr)(fd:ρ)(ps:List Str)(sp:Sp):Prop where
 len:∀vs H Q E,sp vs H Q E->vs.length=ps.length
 run:∀(A:Around) (outer:List Env) (s:η) (H:Hp) (args:Args) (us:List ζ) (vs:List V) (Q:VK) (E:XK),Room k A->Env0 P w K mg base A outer s H->BindsTo s fd args (ps.zip us)->Vals vs us->sp vs H Q E->
  codeAny (model P w) A (.call (.ref f) args) (CR CX outer P w H s Q E) s
theorem FnOk.mono{P:ξ}{w:τ}{K:W.Frag}{mg:L4}{base:Heap}{CX:CXT}{j k:Nat}{f:Addr}{fd:ρ}{ps:List Str}{sp:Sp}(F:FnOk P w K mg base CX j f fd ps sp)(h:j<=k):
  FnOk P w K mg base CX k f fd ps sp:=⟨F.len,fun A outer s H args us vs Q E hr=>F.run A outer s H args us vs Q E (hr.mono h)⟩
theorem Env0.make{P:ξ}{w:τ}{K:W.Frag}{mg:L4}{base:Heap}{A:Around}{outer:List Env}{s:η}{H:Hp}(e:Env0 P w K mg base A outer s H)(C:Addr)(us:List ζ)(kw:List (Str×ζ)):
  Env0 P w K mg base (A.under (.builtin "type.__call__" ⟨.ref C::us,kw⟩)) outer s H:=⟨by first |exact e.frames|(simpa[Around.under,Code.envs,Code.isFrame,pushEnvs]using e.frames),e.mod,e.bs,e.bsz,e.funs,e.frf,e.hok,e.bare⟩
section
variable{X:Cx}{pins:L1}{σ:St}{H:Hp}{s s':η}
theorem Inv.env0(I:Inv X pins σ H s):Env0 X.prog X.w X.K X.mg X.base X.A X.stack s H:=
 ⟨I.ok.frames,I.ok.mod,I.bs,cQ I.ok.bsz I.sz,I.stack,I.stkFree,I.hok,I.bare⟩
theorem Inv.after{Q:VK}{u:ζ}(I:Inv X pins σ H s)(h:CE X.stack X.prog X.w H s Q u s'):EP X pins σ Q u s':=by
 obtain⟨v,H',os,bare,un,hok,r,q⟩:=h;obtain⟨hh,g,d,t,os'⟩:=s';obtain rfl:os'=s.os:=os;exact⟨v,H',I.call (h':=hh) (g':=g) (d':=d) (t':=t) (ch:=[]) un hok bare (fun b z=>absurd z (by simp)),r,q⟩
end
noncomputable def tCall(sp:Sp)(dvs:List V)(E:XK)(t:TA):TE:=fun σ H Q=>t σ H fun vs H1=>sp (vs++dvs) H1 Q E
noncomputable def tMeth(C:Addr)(m:Str)(sp:Sp)(dvs:List V)(E:XK)(ta:TE)(t:TA):TE:=fun σ H Q=>ta σ H fun x H1=>∃a dx fs,x= .ref a/\H1 a=some (.ins C dx fs)/\fs.lookup m=none/\
 t σ H1 fun vs H2=>sp (x::(vs++dvs)) H2 Q E
noncomputable def tMake(C:Addr)(sp:Sp)(dvs:List V)(E:XK)(t:TA):TE:=fun σ H Q=>t σ H fun vs H1=>∀x dx,H1 x=none->H1 dx=none->dx≠x->
 sp (.ref x::(vs++dvs)) (upd (upd H1 dx (.own x)) x (.ins C dx [])) (fun v H2=>v= .non/\Q (.ref x) H2) E
noncomputable def Binds(K:W.Frag)(fd:ρ)(ps:List Str)(ds:List ζ):Prop:=
 ∀(s:η) (us:List ζ),K.In s.heap->(us++ds).length=ps.length->BindsTo s fd ⟨us,[]⟩ (ps.zip (us++ds))
theorem Binds.all{K:W.Frag}{fd:ρ}{ps:List Str}(h:∀us:List ζ,us.length=ps.length->bindArgs fd ⟨us,[]⟩=pure (ps.zip us)):Binds K fd ps []:=fun s us _ hl=>by
 rw[Aw]at hl⊢;exact .of_eq (h us hl)
noncomputable def Passes(CX:CXT)(X:Cx)(E:XK):Prop:=∀(pins:L1) (σ:St) (H:Hp) (s:η) (e:ζ) (s':η),Inv X pins σ H s->CX X.stack H s E e s'->X.xe e s'
section
variable{X:Cx}{CX:CXT}{k:Nat}{f C:Addr}{fd:ρ}{ps:List Str}{sp:Sp}{dvs:List V}{ds:List ζ}{E:XK}{x m:Str}{p pos apos:Pos}{e o:Expr}{es:List Expr}{ta:TE}{t:TA}
theorem run_fn{pins:L1}{σ:St}{H:Hp}{s:η}{Q:VK}{us:List ζ}{vs:List V}(F:FnOk X.prog X.w X.K X.mg X.base CX k f fd ps sp)(hr:Room k X.A)(hb:Binds X.K fd ps ds)(hd:Vals dvs ds)(hx:Passes CX X E)
  (I:Inv X pins σ H s)(r:Vals vs us)(h:sp (vs++dvs) H Q E):wpAny (model X.prog X.w) X.A (call (.ref f) us) (EP X pins σ Q) X.xe s:=by
 have r2:Vals (vs++dvs) (us++ds):=r.append hd;have hl:(us++ds).length=ps.length:=by rw[<-r2.length];exact F.len _ _ _ _ h
 refine wpAny_call (Ww (F.run X.A X.stack s H ⟨us,[]⟩ (us++ds) (vs++dvs) Q E hr I.env0 (hb s us I.kIn hl) r2 h) fun r s' hq=> ?_);cases r with
 |error e=>exact hx pins σ H s e s' I hq
 |ok fl=>
  cases fl with
  |ret u=>exact I.after hq
  |next=>exact False.elim hq
  |brk=>exact False.elim hq
  |cont=>exact False.elim hq
theorem pe_call(F:FnOk X.prog X.w X.K X.mg X.base CX k f fd ps sp)(hr:Room k X.A)(hg:Gl X x)(hm:X.mg x=some (.ref f))(hk:PySem.W.keepIn X.K (.ref f)=true)(hb:Binds X.K fd ps ds)(hd:Vals dvs ds)(hx:Passes CX X E)(ha:PA X (e::es) t)(hdb:(x==("__debug__":Str))=false:=by decide)(he:starEach (e::es) X.env=(false,eval e X.env)::starEach es X.env:=by rfl)(hpl:(backTo pos (starEach es X.env)).any (·.1)=false:=by rfl):
  PE X (.Call (.Name x p) (e::es) [] pos) (tCall sp dvs E t):=by
 intro pins s σ H Q I h;refine RZ (ld_glob I hg hm ?_ hdb);refine wdd (h₀:=X.base) I.ok.mod.kin hk (thn (ha pos pins s σ H _ I h) fun us s1 ⟨vs,H1,I1,r,q⟩=>⟨I1.kIn,?_⟩) he hpl;exact run_fn F hr hb hd hx I1 r q
theorem uJ{pl:Sem Bool}(he:PE X o ta)(c:Cls X.K C)(hm:Meth X.K C m f)(F:FnOk X.prog X.w X.K X.mg X.base CX k f fd ps sp)(hr:Room k X.A)(hb:Binds X.K fd ps ds)(hd:Vals dvs ds)(hx:Passes CX X E)(ha:PA X (e::es) t)(hst:starEach (e::es) X.env=(false,eval e X.env)::starEach es X.env:=by rfl)(hpl:(backTo pos (starEach es X.env)).any (·.1)=false:=by rfl)(ht:eval (.Call (.Attribute o m apos) (e::es) [] pos) X.env=(do
   let ov<-eval o X.env
   standAt apos.atName
   let(f,first)<-holding [ov] (getMethod ov m pl)
   callWith pos f first (backTo pos (starEach (e::es) X.env)) (backToKw pos (keywordEach [] X.env))):=by rfl):
  PE X (.Call (.Attribute o m apos) (e::es) [] pos) (tMeth C m sp dvs E ta t):=by
 intro pins s σ H Q I h;refine wek (pl:=pl) (thn (he pins s σ H _ I h) fun u s1 ⟨x,H1,I1,rx,a,dx,fs,ex,ea,l,q⟩=> ?_) ht;subst ex;obtain rfl:u=Value.ref a:=rx;refine getmeth_ok I1 ea c hm l ?_;refine wdd (first:=[.ref a]) (h₀:=X.base) I.ok.mod.kin hm.kp (thn (ha pos pins s1 σ H1 _ I1 q) fun us s2 ⟨vs,H2,I2,r,q2⟩=>⟨I2.kIn,?_⟩) hst hpl;exact run_fn (us:= .ref a::us) (vs:= .ref a::vs) F hr hb hd hx I2 (.cons rfl r) q2
theorem Ge{pl:Sem Bool}(he:PE X o ta)(c:Cls X.K C)(hm:Meth X.K C m f)(F:FnOk X.prog X.w X.K X.mg X.base CX k f fd ps sp)(hr:Room k X.A)(hb:Binds X.K fd ps ds)(hd:Vals dvs ds)(hx:Passes CX X E)(ht:eval (.Call (.Attribute o m apos) [] [] pos) X.env=(do
   let ov<-eval o X.env
   standAt apos.atName
   let(f,first)<-holding [ov] (getMethod ov m pl)
   callWith pos f first (backTo pos (starEach [] X.env)) (backToKw pos (keywordEach [] X.env))):=by rfl):
  PE X (.Call (.Attribute o m apos) [] [] pos) (tMeth C m sp dvs E ta tNil):=by
 intro pins s σ H Q I h;refine wek (pl:=pl) (thn (he pins s σ H _ I h) fun u s1 ⟨x,H1,I1,rx,a,dx,fs,ex,ea,l,q⟩=> ?_) ht;subst ex;obtain rfl:u=Value.ref a:=rx;refine getmeth_ok I1 ea c hm l ?_;exact PySem.W.callWith_K0 (first:=[.ref a]) I1.kIn hm.kp (run_fn (us:=[.ref a]) (vs:=[.ref a]) F hr hb hd hx I1 (.cons rfl .nil) q)
structure Mk(K:W.Frag)(C f:Addr):Prop where
 makes:PySem.W.makesIn K C=true
 init:PySem.W.findIn K (.ref C) "__init__"=some (some (.ref f))
 fn:PySem.W.isFn K (.ref f)=true
 kp:PySem.W.keepIn K (.ref C)=true
theorem run_make{pins:L1}{σ:St}{H:Hp}{s:η}{Q:VK}{us:List ζ}{vs:List V}(M:Mk X.K C f)(F:FnOk X.prog X.w X.K X.mg X.base CX k f fd ps sp)(hr:Room (k+1) X.A)(hb:Binds X.K fd ps ds)(hd:Vals dvs ds)(hx:Passes CX X E)(I:Inv X pins σ H s)(r:Vals vs us)(h:∀x dx,H x=none->H dx=none->dx≠x->sp (.ref x::(vs++dvs)) (upd (upd H dx (.own x)) x (.ins C dx [])) (fun v H2=>v= .non/\Q (.ref x) H2) E):
  wpAny (model X.prog X.w) X.A (call (.ref C) us) (EP X pins σ Q) X.xe s:=by
 have hq:=h (s.heap.objs.size+1) s.heap.objs.size (I.hok.fresh (MK _)) (I.hok.fresh (aR _)) (iM (vW _));have I2:=Inv.made (C:=C) I;have r2:Vals (V.ref (s.heap.objs.size+1)::(vs++dvs)) (Value.ref (s.heap.objs.size+1)::(us++ds)):= .cons rfl (r.append hd);have hl:(Value.ref (s.heap.objs.size+1)::us++ds).length=ps.length:=by
  have e:=r2.length;rw[F.len _ _ _ _ hq]at e;exact e.symm
 refine wpAny_call (make_map (f:=f) I.kIn M.makes M.init (beq_iff_eq.mp M.fn) (Ww (F.run _ X.stack _ _ ⟨Value.ref (s.heap.objs.size+1)::us,[]⟩ (Value.ref (s.heap.objs.size+1)::(us++ds)) _ _ E (hr.make C us [])
  (I2.env0.make C us []) (hb _ (Value.ref (s.heap.objs.size+1)::us) I2.kIn hl) r2 hq) fun r s' hq'=> ?_))
 cases r with
 |error e=>exact hx pins σ _ _ e s' I2 hq'
 |ok fl=>
  cases fl with
  |ret u=>
   obtain⟨v,H',I3,rv,ev,q3⟩:=I2.after hq';subst ev;exact⟨rv,⟨V.ref (s.heap.objs.size+1),H',I3,rfl,q3⟩⟩
  |next=>exact False.elim hq'
  |brk=>exact False.elim hq'
  |cont=>exact False.elim hq'
theorem pe_make(M:Mk X.K C f)(F:FnOk X.prog X.w X.K X.mg X.base CX k f fd ps sp)(hr:Room (k+1) X.A)(hg:Gl X x)(hm:X.mg x=some (.ref C))(hb:Binds X.K fd ps ds)(hd:Vals dvs ds)(hx:Passes CX X E)(ha:PA X (e::es) t)(hdb:(x==("__debug__":Str))=false:=by decide)(he:starEach (e::es) X.env=(false,eval e X.env)::starEach es X.env:=by rfl)(hpl:(backTo pos (starEach es X.env)).any (·.1)=false:=by rfl):
  PE X (.Call (.Name x p) (e::es) [] pos) (tMake C sp dvs E t):=by
 intro pins s σ H Q I h;refine RZ (ld_glob I hg hm ?_ hdb);refine wdd (h₀:=X.base) I.ok.mod.kin M.kp (thn (ha pos pins s σ H _ I h) fun us s1 ⟨vs,H1,I1,r,q⟩=>⟨I1.kIn,?_⟩) he hpl;exact run_make M F hr hb hd hx I1 r q
end
structure FnScope(N P:List Str)(sc:Scope):Prop where
 kind:sc.kind= .function
 co:sc.isCoroutine=false
 gen:sc.isGenerator=false
 nd:N.Nodup
 pre:N.take P.length=P
 par:∀x∈P,sc.names.lookup x=some .local\/sc.names.lookup x=some .cell
 nofree:∀y∈sc.names,y.2≠.free
theorem bindL_out{kindOf:Str->Option NameKind}{x:Str}:∀{binds:List (Str×ζ)} {m:L4},(∀v,(x,v)∉binds)->bindL kindOf binds m x=m x
 |[],_,_=>rfl
 |(n,v)::r,m,h=>by
  unfold bindL;rw[bindL_out fun w hw=>h w (jy _ hw)];split
  ·have:x≠n:=by rintro rfl;exact h v jx
   simp[this]
  ·rfl
theorem bindC_out{kindOf:Str->Option NameKind}{x:Str}:∀{binds:List (Str×ζ)} {m:L4},(∀v,(x,v)∉binds)->bindC kindOf binds m x=m x
 |[],_,_=>rfl
 |(n,v)::r,m,h=>by
  unfold bindC;rw[bindC_out fun w hw=>h w (jy _ hw)];split
  ·rfl
  ·have:x≠n:=by rintro rfl;exact h v jx
   simp[this]
theorem bindL_get{kindOf:Str->Option NameKind}{x:Str}{v:ζ}:∀{P:List Str} {vs:List ζ} {i:Nat} {m:L4},P.Nodup->P[i]? =some x->vs[i]? =some v->kindOf x=some .local->
  bindL kindOf (P.zip vs) m x=some v
 |[],_,_,_,_,h,_,_=>by simp at h
 |_::_,[],_,_,_,_,h,_=>by simp at h
 |p::P,w::vs,0,m,nd,h1,h2,hk=>by
  simp at h1 h2;subst h1;subst h2;show bindL kindOf ((p,w)::P.zip vs) m p=_;unfold bindL;rw[bindL_out fun v hv=>(Ip.mp nd).1 (wel hv).1,au hk];simp
 |p::P,w::vs,i+1,m,nd,h1,h2,hk=>by
  show bindL kindOf ((p,w)::P.zip vs) m x=_;unfold bindL;exact bindL_get (i:=i) (Ip.mp nd).2 (by simpa using h1) (by simpa using h2) hk
theorem bindC_get{kindOf:Str->Option NameKind}{x:Str}{v:ζ}:∀{P:List Str} {vs:List ζ} {i:Nat} {m:L4},P.Nodup->P[i]? =some x->vs[i]? =some v->kindOf x≠some .local->
  bindC kindOf (P.zip vs) m x=some v
 |[],_,_,_,_,h,_,_=>by simp at h
 |_::_,[],_,_,_,_,h,_=>by simp at h
 |p::P,w::vs,0,m,nd,h1,h2,hk=>by
  simp at h1 h2;subst h1;subst h2;show bindC kindOf ((p,w)::P.zip vs) m p=_;unfold bindC;rw[bindC_out fun v hv=>(Ip.mp nd).1 (wel hv).1,aq hk];simp
 |p::P,w::vs,i+1,m,nd,h1,h2,hk=>by
  show bindC kindOf ((p,w)::P.zip vs) m x=_;unfold bindC;exact bindC_get (i:=i) (Ip.mp nd).2 (by simpa using h1) (by simpa using h2) hk
noncomputable def start(N:List Str)(vs:List V):St:=vs.map some++List.replicate (N.length-vs.length) none
noncomputable def cxOf(CX:CXT)(P:ξ)(w:τ)(K:W.Frag)(mg:L4)(base:Heap)(N:List Str)(qual:Str)(scope:Scope)(f:Addr)(cd:ζ)(A:Around)(outer:List Env)(s:η)(H:Hp)(E:XK):Cx where
 prog:=P
 w:=w
 K:=K
 mg:=mg
 base:=base
 A:=A.deeper (envOfC qual scope s.heap.objs.size f cd)
 N:=N
 s₀:=s
 H₀:=H
 env:=envOfC qual scope s.heap.objs.size f cd
 outer:=outer
 stack:=envOfC qual scope s.heap.objs.size f cd::outer
 ex:=[]
 calm:=true
 fn:=fun _=>true
 pn:=[]
 xe:=fun e s'=>wpAny (model P w) (A.deeper (envOfC qual scope s.heap.objs.size f cd)) (leaving (envOfC qual scope s.heap.objs.size f cd) e) (fun _ s''=>CX outer H s E e s'') (fun e' s''=>CX outer H s E e' s'') s'
theorem cell_has{sc:Scope}{n:Nat}{x:Str}(h:sc.names.lookup x=some .cell):∃c,(cellsFrom n sc.names []).lookup x=some c:=by
 have q:=wei sc.names n [] (.inl h);exact Option.isSome_iff_exists.mp q
theorem inv_start{CX:CXT}{P:ξ}{w:τ}{K:W.Frag}{mg:L4}{base:Heap}{N ps:List Str}{qual:Str}{scope:Scope}{f:Addr}{cd:ζ}{A:Around}{outer:List Env}{s s1:η}{H:Hp}{E:XK}{us:List ζ}{vs:List V}
  (S:FnScope N ps scope)(hd:A.handled=none)(e0:Env0 P w K mg base A outer s H)(hl:vs.length=ps.length)(r:Vals vs us)(x:InCallC s s.heap.objs.size (bindL (envOfC qual scope s.heap.objs.size f cd).kindOf (ps.zip us) fun _=>none) (cellsFrom (s.heap.objs.size+1) scope.names []) (bindC (envOfC qual scope s.heap.objs.size f cd).kindOf (ps.zip us) fun _=>none) s1):
  Inv (cxOf CX P w K mg base N qual scope f cd A outer s H E) [] (start N vs) H s1:=by
 have hpl:ps.length<=N.length:=by have:=jz List.length S.pre;rw[uH]at this;omega
 obtain⟨h1,tk,rfl,hk⟩:=x.done;have noA:∀b:Addr,b∉(cxOf CX P w K mg base N qual scope f cd A outer s H E).ex:=fun b z=>absurd (show b∈([]:List Addr)from z) (by simp);refine⟨⟨e0.mod,S.kind,rfl,rfl,aR _,fun y z c h1 h2=> ?_,fun y hy=> ?_,fun y c _ h=> ?_,fun _=>hd,Around.frames_deeper e0.frames,.inr ⟨rfl,rfl⟩,fun b z=>absurd z (noA b),e0.bs,e0.bsz,fun b _ _=>noA b,fun b z=>absurd z (noA b),e0.funs,e0.frf⟩,
  rfl,e0.bare,Un.kept hk,⟨_,x.toInCall.ns,fun i y v h1 h2 h3=> ?_⟩,fun y c h=>⟨_,x.cell y c h⟩,e0.hok.fresh (aR _),fun y c h=> ?_,fun p hp=>absurd (show p∈([]:L1)from hp) (by simp),e0.hok.kept hk,?_⟩
 ·exact name_of_addr x.apart (IK h1) (IK h2)
 ·have hy:scope.names.lookup y=some .cell\/scope.names.lookup y=some .free:=hy;rcases hy with hy|hy
  ·exact cell_has hy
  ·exact absurd rfl (S.nofree _ (IK hy))
 ·exact dD (x.above y c (IK h))
 ·have hi:i<vs.length:=by
   unfold start at h2;by_cases hi:i<vs.length
   ·exact hi
   ·rw[ZF (by simpa using hi)]at h2;rw[wdt]at h2;split at h2<;>cases h2
  have ha:vs[i]? =some v:=by
   unfold start at h2;rw[yed (by simpa using hi),dY]at h2;cases e:vs[i]? with
   |none=>rw[e]at h2;cases h2
   |some a=>rw[e]at h2;cases h2;rfl
  obtain⟨u,hu,rv⟩:=r.get ha;have hp:ps[i]? =some y:=by
   rw[<-S.pre,List.getElem?_take_of_lt (by omega)];exact h1
  have ndP:ps.Nodup:=by rw[<-S.pre];exact S.nd.sublist (List.take_sublist _ _)
  refine⟨u,rv,?_⟩;rcases S.par y (qQ hp)with k|k
  ·exact .inl ⟨k,bindL_get ndP hp hu k⟩
  ·obtain⟨c,e⟩:=cell_has (n:=s.heap.objs.size+1) k;refine .inr ⟨.inl k,c,e,?_⟩;have q:=x.cell y c e;rw[bindC_get ndP hp hu (by show scope.names.lookup y≠_;rw[k];decide)]at q;exact q
 ·exact e0.hok.fresh (dD (x.above y c (IK h)))
 ·unfold start;show _=N.length;rw[rE,aH,RN];omega
theorem fn_of{CX:CXT}{P:ξ}{w:τ}{K:W.Frag}{mg:L4}{base:Heap}{k:Nat}{f:Addr}{name qual:Str}{params:Arguments}{body:List Stmt}{scope:Scope}{dV kV doc pm cdv ct oc:ζ}{an od:Option Addr}{osl:Array (Option ζ)}{N ps:List Str}{sp:Sp}(lk:K.lookup f=some ⟨oc,od,.func (PySem.W.fnOf name qual params body scope dV kV doc pm an cdv ct),osl⟩)(hcd:PySem.W.codeIn K cdv qual=true)(S:FnScope N ps scope)(len:∀vs H Q E,sp vs H Q E->vs.length=ps.length)(hbody:∀(A:Around) (outer:List Env) (s:η) (H:Hp) (vs:List V) (Q:VK) (E:XK),Room k (A.deeper (envOfC qual scope s.heap.objs.size f cdv))->sp vs H Q E->
   ∃t,PSs (cxOf CX P w K mg base N qual scope f cdv A outer s H E) body t/\t {nx:=fun _ H'=>Q .non H',rt:=Q} (start N vs) H):
  FnOk P w K mg base CX (k+1) f (PySem.W.fnOf name qual params body scope dV kV doc pm an cdv ct) ps sp:=by
 refine⟨len,fun A outer s H args us vs Q E hr e0 hb r hsp=> ?_⟩;have hl:=len _ _ _ _ hsp;have KX:K.In s.heap:=e0.mod.kin.keeps fun b o e=>(e0.bs b o e).1;have lim:s.heap.NoLimit:=e0.mod.nolimit.keeps fun b o e=>(e0.bs b o e).1;have hkind:∀y∈ps.zip us,scope.names.lookup y.1=some .local\/(scope.names.lookup y.1=some .cell/\((cellsFrom (s.heap.objs.size+1) scope.names []).lookup y.1).isSome=true):=fun⟨n,v⟩ hy=>by
  rcases S.par n (wel hy).1 with q|q
  ·exact .inl q
  ·exact .inr ⟨q,wei _ _ _ (.inl q)⟩
 refine codeAny_call_function hr.depth (KX _ _ lk) rfl S.co S.gen rfl (PySem.W.codeRec_of KX hcd) (hb _ _ _ _ ?_);refine wpAny_newFunctionEnv_cells S.kind hkind fun env he s1 x=> ?_;subst he;refine⟨lim.keeps x.toInCall.keep,codeAny_func ?_⟩;obtain⟨t,ht,hq⟩:=hbody A outer s H vs Q E (hr.deeper _) hsp;have I:Inv (cxOf CX P w K mg base N qual scope f cdv A outer s H E) [] (start N vs) H s1:=inv_start S hr.hd e0 hl r x;refine M5 (ht [] s1 (start N vs) H _ I hq) (fun fl s' hs=> ?_) fun e s' hs=>hs;have fin:∀{σ':St} {H':Hp} {v:V} {u:ζ},Inv (cxOf CX P w K mg base N qual scope f cdv A outer s H E) [] σ' H' s'->RelV v u->Q v H'->CE outer P w H s Q u s':=
  fun{σ' H' v u} J rv q=>⟨v,H',J.os,J.bare,J.base,J.hok,rv,q⟩
 cases fl with
 |ret u=>
  obtain⟨v,σ',H',J,rv,q⟩:=hs;exact fin J rv q
 |next=>
  obtain⟨σ',H',J,q⟩:=hs;exact fin (v:=V.non) (u:=Value.none) J rfl q
 |brk=>
  obtain⟨_,_,_,q⟩:=hs;exact False.elim q
 |cont=>
  obtain⟨_,_,_,q⟩:=hs;exact False.elim q
section
variable{X:Cx}{x:Str}{p pos:Pos}{e:Expr}{es:List Expr}{t:TA}{id T:String}{r:List V->Hp->VK->Prop}
noncomputable def tCB(r:List V->Hp->VK->Prop)(t:TA):TE:=fun σ H Q=>t σ H fun vs H1=>r vs H1 Q
theorem pe_callB(hc:CallR X (.builtin id) r)(hg:Gl X x)(hm:X.mg x=none)(hv:bootBuiltins x=some (.builtin id))(ha:PA X (e::es) t)(hn:x≠"__name__":=by decide)(hdb:(x==("__debug__":Str))=false:=by decide)(he:starEach (e::es) X.env=(false,eval e X.env)::starEach es X.env:=by rfl)(hpl:(backTo pos (starEach es X.env)).any (·.1)=false:=by rfl):PE X (.Call (.Name x p) (e::es) [] pos) (tCB r t):=by
 intro pins s σ H Q I h;refine RZ (ld_blt I hg hm hv ?_ hn hdb);exact PyProof.Rows.callWith_builtin1 (thn (ha pos pins s σ H _ I h) fun us s1 ⟨vs,H1,I1,r1,q1⟩=>hc pins s1 σ H1 vs us Q I1 r1 q1) he hpl
theorem pB{X:Cx}{x:Str}{id:String}{r:List V->Hp->VK->Prop}{e:Expr}{es:List Expr}{t:TA}{p pos:Pos}(hc:CallR X (.builtin id) r)(hm:X.mg x=none)(ha:PA X (e::es) t)(hg:Gl X x:=by rfl)(hv:bootBuiltins x=some (.builtin id):=by decide+kernel)(hn:x≠"__name__":=by decide)(hdb:(x==("__debug__":Str))=false:=by decide)(he:starEach (e::es) X.env=(false,eval e X.env)::starEach es X.env:=by rfl)(hpl:(backTo pos (starEach es X.env)).any (·.1)=false:=by rfl):PE X (.Call (.Name x p) (e::es) [] pos) (tCB r t):=pe_callB hc hg hm hv ha hn hdb he hpl
theorem pe_callTy(hc:CallR X (.type T) r)(hg:Gl X x)(hm:X.mg x=none)(hv:bootBuiltins x=some (.type T))(ha:PA X (e::es) t)(hn:x≠"__name__":=by decide)(hdb:(x==("__debug__":Str))=false:=by decide)(he:starEach (e::es) X.env=(false,eval e X.env)::starEach es X.env:=by rfl)(hpl:(backTo pos (starEach es X.env)).any (·.1)=false:=by rfl):PE X (.Call (.Name x p) (e::es) [] pos) (tCB r t):=by
 intro pins s σ H Q I h;refine RZ (ld_blt I hg hm hv ?_ hn hdb);exact IV (thn (ha pos pins s σ H _ I h) fun us s1 ⟨vs,H1,I1,r1,q1⟩=>hc pins s1 σ H1 vs us Q I1 r1 q1) he hpl
theorem pT{X:Cx}{x:Str}{T:String}{r:List V->Hp->VK->Prop}{e:Expr}{es:List Expr}{t:TA}{p pos:Pos}(hc:CallR X (.type T) r)(hm:X.mg x=none)(ha:PA X (e::es) t)(hg:Gl X x:=by rfl)(hv:bootBuiltins x=some (.type T):=by decide+kernel)(hn:x≠"__name__":=by decide)(hdb:(x==("__debug__":Str))=false:=by decide)(he:starEach (e::es) X.env=(false,eval e X.env)::starEach es X.env:=by rfl)(hpl:(backTo pos (starEach es X.env)).any (·.1)=false:=by rfl):PE X (.Call (.Name x p) (e::es) [] pos) (tCB r t):=pe_callTy hc hg hm hv ha hn hdb he hpl
end
end L2
namespace HT
open PySem PyProof.Rows
noncomputable def lexLt:List Int->List Int->Bool
 |[],[]=>false
 |[],_::_=>true
 |_::_,[]=>false
 |x::xs,y::ys=>if x=y then lexLt xs ys else decide (x<y)
theorem lexLt_cons(x y:Int)(xs ys:List Int):lexLt (x::xs) (y::ys)=if x=y then lexLt xs ys else decide (x<y):=rfl
theorem lexLt_nil_nil:lexLt [] []=false:=rfl
theorem lexLt_nil_cons(y:Int)(ys:List Int):lexLt [] (y::ys)=true:=rfl
theorem lexLt_cons_nil(x:Int)(xs:List Int):lexLt (x::xs) []=false:=rfl
theorem eqAt_int(A:Around)(s:η)(a:Int)(t:Tok)(c:Int)(u:Tok):∃e,SeqAt.EqAt A s (.int a t) (.int c u) e/\(e=true↔a=c):=
 ⟨(a==c),SeqAt.EqAt.int_int a t c u,by simp⟩
theorem rcLt_int(A:Around)(s:η)(a:Int)(t:Tok)(c:Int)(u:Tok)(prog:ξ)(w:τ)(E:L3)(Q:L3)(h:Q (.bool (decide (a<c))) s):
  wpAny (model prog w) A (richCompare .Lt (.int a t) (.int c u)) Q E s:=
 (PyProof.Rows.lt_int h:wpAny (model prog w) A (compareOp .Lt (.int a t) (.int c u)) Q E s)
section
open PySem.SeqAt
open PySem.AutoSeq1 (wpAny_loadPart')
open PySem.MeetsSeq PySem.MeetsSeq2 PySem.MeetsSeq3
theorem tuple_lt_ints(l b:Addr)(items items2:Array ζ)(n n2:Nat)(dd dd2:Option Addr)(sl sl2:Array (Option ζ))(ns ms:List Int)(hi:IntsAre items.toList ns)(hj:IntsAre items2.toList ms):
  Meets (Builtin.«tuple.__lt__» ⟨[.ref l,.ref b],[]⟩)
   (fun _ R s=>s.heap.get? l=some {cls:= .type "tuple",dict:=dd,data:= .seq items n,slots:=sl}/\s.heap.get? b=some {cls:= .type "tuple",dict:=dd2,data:= .seq items2 n2,slots:=sl2}/\
    R (.ok (.ret (.bool (lexLt ns ms)))) s):=
 .of_wp fun prog w A R s h=>by
  obtain⟨hp,g,d,tk,os⟩:=s;obtain⟨hl,hb,h⟩:=h;have f2:=AutoSeq1.sub_tuple_tuple;have z1:items.size=ns.length:=by rw[<-hi.length];simp
  have z2:items2.size=ms.length:=by rw[<-hj.length];simp
  wp_walk using wpAny_loadPart' hl,wpAny_loadPart' hb,wpAny_forIn_list _ (fun rest b s'=>b.1=none/\s'=⟨hp,g,d,tk,os⟩/\∃(vs ws:List ζ) (ns' ms':List Int),rest=vs.zip ws/\
   IntsAre vs ns'/\IntsAre ws ms'/\ns'.length+items2.size=ms'.length+items.size/\R (.ok (.ret (.bool (lexLt ns' ms')))) ⟨hp,g,d,tk,os⟩) _
  case turn=>
   rintro⟨y,x⟩ rest b s' ⟨hb',rfl,vs,ws,ns',ms',hz,hvi,hwi,hlen,hR⟩;cases hvi with
   |nil=>rw[List.zip_nil_left]at hz;cases hz
   |cons a t hvi'=>
    cases hwi with
    |nil=>rw[List.zip_nil_right]at hz;cases hz
    |cons c u hwi'=>
     rw[wde]at hz;injection hz with hyx hrest
     injection hyx with hy hx
     subst hy hx;rw[lexLt_cons]at hR;simp only[yj]at hlen;obtain⟨e,he,hiff⟩:=eqAt_int A.in1 ⟨hp,g,d,tk,os⟩ a t c u;refine aY (he prog w _ _ ?_);cases e with
     |true=>
      rw[au (hiff.mp rfl)]at hR
      wp_walk
      exact⟨rfl,rfl,_,_,_,_,hrest,hvi',hwi',by omega,hR⟩
     |false=>
      rw[aq (fun q=>absurd (hiff.mpr q) vq)]at hR;have hri:=rcLt_int A.in1 ⟨hp,g,d,tk,os⟩ a t c u prog w
      wp_walk using hri
      exact⟨_,rfl,by simpa using hR⟩
  case fin=>
   rintro⟨b1,b2⟩ s' ⟨hb',rfl,vs,ws,ns',ms',hz,hvi,hwi,hlen,hR⟩;simp only at hb';subst hb';have hv:lexLt ns' ms'=decide (items.size<items2.size):=by
    cases hvi with
    |nil=>
     cases hwi with
     |nil=>
      simp only[Nq]at hlen;rw[lexLt_nil_nil];exact(jK (by omega)).symm
     |cons c u hw=>
      simp only[Nq,yj]at hlen;rw[lexLt_nil_cons];exact(cI (by omega)).symm
    |cons a t hv=>
     cases hwi with
     |nil=>
      simp only[Nq,yj]at hlen;rw[lexLt_cons_nil];exact(jK (by omega)).symm
     |cons c u hw=>
      rw[wde]at hz;cases hz
   rw[hv]at hR
   wp_walk
   exact⟨_,rfl,by simpa[Builtin.Tuple.tupleCompareSizes]using hR⟩
  case h=>
   exact⟨rfl,rfl,items.toList,items2.toList,ns,ms,rfl,hi,hj,by omega,h⟩
end
section
variable{prog:ξ}{w:τ}{A:Around}{E:L3}{s:η}
theorem lt_tupInts{l b:Addr}{items items2:Array ζ}{ns ms:List Int}{Q:L3}(hl:IsTup s.heap l items)(hb:IsTup s.heap b items2)(hi:IntsAre items.toList ns)(hj:IntsAre items2.toList ms)(hu:A.units<cLine)(h:Q (.bool (lexLt ns ms)) s):wpAny (model prog w) A (compareOp .Lt (.ref l) (.ref b)) Q E s:=by
 obtain⟨⟨cls,dd,data,sl⟩,ho,hc,n,hd⟩:=id hl;obtain⟨⟨cls2,dd2,data2,sl2⟩,ho2,hc2,n2,hd2⟩:=id hb;simp only at hc hd hc2 hd2;subst hc hd hc2 hd2;exact richCompare_meets_room (op:= .Lt) ⟨_,ho,rfl⟩ ⟨_,ho2,rfl⟩ PySem.F.slot_tuple_lt PySem.F.entry_tuple_lt (PySem.F.args_tuple_lt_2 _ _) (tuple_lt_ints l b items items2 n n2 dd dd2 sl sl2 ns ms hi hj)
  ⟨ho,ho2,show Value.bool (lexLt ns ms)≠Value.notImplemented/\Q (.bool (lexLt ns ms)) s from⟨(fun x=>nomatch x),h⟩⟩ hu
theorem cat_tup{t b:Addr}{vs ws:List ζ}{Q:L3}(ht:IsTup s.heap t vs.toArray)(hb:IsTup s.heap b ws.toArray)(hv:vs≠[])(h1:ws=[]->Q (.ref t) s)(h2:ws≠[]->Q (.ref s.heap.objs.size) {s with heap:=s.heap.push {cls:= .type "tuple",data:= .seq (vs++ws).toArray}})(hsz:vs.length+ws.length<=sizeLine):wpAny (model prog w) A (binaryOp .Add (.ref t) (.ref b)) Q E s:=by
 obtain⟨⟨cls,dd,data,sl⟩,ho,hc,n,hd⟩:=id ht;obtain⟨⟨cls2,dd2,data2,sl2⟩,ho2,hc2,n2,hd2⟩:=id hb;simp only at hc hd hc2 hd2;subst hc hd hc2 hd2;have e:vs.toArray++ws.toArray=(vs++ws).toArray:=by simp
 by_cases hw:ws=[]
 ·exact concat_meets ⟨_,ho,rfl⟩ ⟨_,ho2,rfl⟩ wec seq_tuple_add wby wbs (wbp _ _)
   (tuple_addW1 t b vs.toArray ws.toArray n n2 dd dd2 sl sl2 (by simpa using hv) (by simp[hw])) ⟨ho,ho2,h1 hw⟩
 ·refine concat_meets ⟨_,ho,rfl⟩ ⟨_,ho2,rfl⟩ wec seq_tuple_add wby wbs (wbp _ _)
   (tuple_addW2 t b vs.toArray ws.toArray n n2 dd dd2 sl sl2 (by simpa using hv) (by simpa using hw) (by rw[iw,iw];exact hsz)) ⟨ho,ho2,?_⟩
  rw[e];exact h2 hw
noncomputable def sIx(n d:Nat):Option Int->Nat
 |none=>d
 |some v=>if v<0 then(v+(n:Int)).toNat else min v.toNat n
theorem sIx_none(n d:Nat):sIx n d none=d:=rfl
theorem sIx_nat(n d k:Nat):sIx n d (some (k:Int))=min k n:=by
 show(if(k:Int)<0 then((k:Int)+(n:Int)).toNat else min (k:Int).toNat n)=min k n;rw[aq (by omega),Nt]
end
end HT
namespace L2
open PySem PySem.Spec PyProof.Rows
noncomputable abbrev TO:=St->Hp->(Option Int->Hp->Prop)->Prop
noncomputable def PO(X:Cx)(e:Option Expr)(t:TO):Prop:=
 ∀(pins:L1) (s:η) (σ:St) (H:Hp) (Q:Option Int->Hp->Prop),Inv X pins σ H s->t σ H Q->
  wpAny (model X.prog X.w) X.A (evalPart e X.env) (fun u s'=>∃o H',Inv X pins σ H' s'/\IsPart u o/\Q o H') X.xe s
noncomputable def tNoPart:TO:=fun _ H Q=>Q none H
noncomputable def tPart(t:TE):TO:=fun σ H Q=>t σ H fun x H1=>∃i,x= .int i/\Q (some i) H1
theorem intsAre_of{ns:List Int}:∀{us:List ζ},Vals (ns.map V.int) us->IntsAre us ns:=by
 induction ns with
 |nil=>intro us r;rw[Ry]at r;cases r;exact .nil
 |cons n ns ih=>
  intro us r;rw[yg]at r;cases r with
  |cons r1 r2=>
   obtain⟨t,e⟩:=r1;subst e;exact .cons n t (ih r2)
section
variable{X:Cx}{e:Expr}{te:TE}{lo hi:Option Expr}{tl th:TO}{pos p2:Pos}
theorem po_none:PO X none tNoPart:=by
 intro pins s σ H Q I h;rw[evalPart_none];exact eU ⟨none,H,I,.none,h⟩
theorem po_some(h:PE X e te):PO X (some e) (tPart te):=by
 intro pins s σ H Q I hw;rw[evalPart_some];refine thn (h pins s σ H _ I hw) fun u s1 ⟨x,H1,I1,r1,q1⟩=> ?_;obtain⟨i,rfl,q⟩:=q1;obtain⟨t,rfl⟩:=r1;exact⟨some i,H1,I1,.int i t,q⟩
noncomputable def SlR(X:Cx)(r:V->Option Int->Option Int->Hp->VK->Prop):Prop:=
 ∀(pins:L1) (s:η) (σ:St) (H:Hp) (x:V) (v vl vu:ζ) (lo hi:Option Int) (sl:Addr) (Q:VK),Inv X pins σ H s->RelV x v->s.heap.IsSliceOf sl vl vu .none->IsPart vl lo->IsPart vu hi->r x lo hi H Q->
  ∃T id,typeLookup (.type T) "__getitem__"=pure (some (.builtin id))/\s.TypeIs v T/\wpAny (model X.prog X.w) X.A (getItem v (.ref sl)) (EP X pins σ Q) X.xe s
noncomputable def tSl(r:V->Option Int->Option Int->Hp->VK->Prop)(te:TE)(tl th:TO):TE:=fun σ H Q=>te σ H fun x H1=>tl σ H1 fun l H2=>th σ H2 fun u H3=>r x l u H3 Q
theorem pe_slice{r:V->Option Int->Option Int->Hp->VK->Prop}(hr:SlR X r)(he:PE X e te)(hl:PO X lo tl)(hu:PO X hi th):PE X (.Subscript e (.Slice lo hi none p2) pos) (tSl r te tl th):=by
 intro pins s σ H Q I h;refine Subscript_ (thn (he pins s σ H _ I h) fun v s1 ⟨x,H1,I1,r1,q1⟩=> ?_);refine wpAny_Slice (thn (hl pins s1 σ H1 _ I1 q1) fun vl s2 ⟨l,H2,I2,pl,q2⟩=>thn (hu pins s2 σ H2 _ I2 q2) fun vu s3 ⟨u,H3,I3,pu,q3⟩=> ?_);rw[evalPart_none];refine eU ?_;have I4:Inv X pins σ H3 {s3 with heap:=s3.heap.push {cls:= .type "slice",data:= .fields #[vl,vu,.none]}}:=I3.kept (t':=s3.toks) fun b ob q=>eV _ q;obtain⟨T,id,hT,ht,hg⟩:=hr pins {s3 with heap:=s3.heap.push {cls:= .type "slice",data:= .fields #[vl,vu,.none]}} σ H3 x v vl vu l u s3.heap.objs.size Q I4 r1 (Heap.IsSliceOf.new ..) pl pu q3;show wpAny (model X.prog X.w) X.A (subscriptTail e (.Slice lo hi none p2) v (.ref s3.heap.objs.size)) (EP X pins σ Q) X.xe {s3 with heap:=s3.heap.push {cls:= .type "slice",data:= .fields #[vl,vu,.none]}};exact tail_any (ops:=[.ref s3.heap.objs.size,v]) ht hT hg (by with_unfolding_all rfl)
noncomputable def cutV(xs:List V)(lo hi:Option Int):List V:=(xs.drop (HT.sIx xs.length 0 lo)).take (HT.sIx xs.length xs.length hi-HT.sIx xs.length 0 lo)
theorem cutV_length(xs:List V)(lo hi:Option Int):(cutV xs lo hi).length<=xs.length:=by
 unfold cutV;rw[uH,List.length_drop];omega
noncomputable def rLtT(K:W.Frag):R2:=fun x y H Q=>∃a b ns ms,x= .ref a/\y= .ref b/\SqT K H a (ns.map V.int)/\SqT K H b (ms.map V.int)/\Q (.bl (HT.lexLt ns ms)) H
theorem op_ltT(hu:X.A.units<cLine):OpR X (compareOp .Lt) (rLtT X.K):=by
 intro pins s σ H x y v u Q I rx ry h;obtain⟨a,b,ns,ms,rfl,rfl,ha,hb,q⟩:=h;cases rx;cases ry;obtain⟨its,r1,p1,_⟩:=I.tuple ha;obtain⟨its2,r2,p2,_⟩:=I.tuple hb;have i1:IntsAre its.toArray.toList ns:=intsAre_of r1;have i2:IntsAre its2.toArray.toList ms:=intsAre_of r2;exact HT.lt_tupInts p1 p2 i1 i2 hu ⟨.bl (HT.lexLt ns ms),H,I,rfl,q⟩
noncomputable def rCatT(K:W.Frag):R2:=fun x y H Q=>∃a b xs ys,x= .ref a/\y= .ref b/\SqT K H a xs/\SqT K H b ys/\xs≠[]/\xs.length+ys.length<=sizeLine/\
 (ys=[]->Q (.ref a) H)/\(ys≠[]->∀p,H p=none->Q (.ref p) (upd H p (.tup (xs++ys))))
theorem Vals.nil_iff{xs:List V}{us:List ζ}(r:Vals xs us):us=[]↔xs=[]:=by
 cases r with
 |nil=>simp
 |cons _ _=>simp
theorem op_catT:OpR X (binaryOp .Add) (rCatT X.K):=by
 intro pins s σ H x y v u Q I rx ry h;obtain⟨a,b,xs,ys,rfl,rfl,ha,hb,hx,hz,q1,q2⟩:=h;cases rx;cases ry;obtain⟨its,r1,p1,_⟩:=I.tuple ha;obtain⟨its2,r2,p2,_⟩:=I.tuple hb;refine HT.cat_tup p1 p2 (fun z=>hx (r1.nil_iff.mp z)) (fun z=>⟨.ref a,H,I,rfl,q1 (r2.nil_iff.mp z)⟩) (fun z=> ?_) (by rw[<-r1.length,<-r2.length];exact hz);refine⟨.ref s.heap.objs.size,_,I.laid (t':=s.toks) (o:= .tup (xs++ys)) (fun b ob q=>eV _ q) (aR _) ?_,rfl,q2 (fun w=>z (r2.nil_iff.mpr w)) _ (I.hok.fresh (aR _))⟩;exact⟨by rw[rE];exact hz,_,r1.append r2,IsTup.new _ _⟩
end
noncomputable def ixN(n:Nat)(i:Int):Option Nat:=if 0<=i then(if i<n then some i.toNat else none)else if -(n:Int)<=i then some (i+n).toNat else none
noncomputable def atI{α:Type}(xs:List α)(i:Int):Option α:=(ixN xs.length i).bind fun j=>xs[j]?
theorem ixN_seq{n:Nat}{i:Int}{j:Nat}(h:ixN n i=some j):seqIndex? i n=some j/\j<n/\ -(n:Int)<=i/\i<n:=by
 unfold ixN at h;by_cases h0:0<=i
 ·rw[au h0]at h;by_cases h1:i<n
  ·rw[au h1]at h;have e:i.toNat=j:=uI h;exact⟨by rw[seqIndex_of h0 h1,e],by omega,by omega,h1⟩
  ·rw[aq h1]at h;cases h
 ·rw[aq h0]at h;by_cases h1: -(n:Int)<=i
  ·rw[au h1]at h;have e:(i+n).toNat=j:=uI h;exact⟨by rw[seqIndex_neg (by omega) h1,e],by omega,h1,by omega⟩
  ·rw[aq h1]at h;cases h
theorem atI_get{α:Type}{xs:List α}{i:Int}{v:α}(h:atI xs i=some v):∃j,seqIndex? i xs.length=some j/\xs[j]? =some v/\j<xs.length/\ -(xs.length:Int)<=i/\i<xs.length:=by
 unfold atI at h;cases e:ixN xs.length i with
 |none=>rw[e]at h;cases h
 |some j=>
  rw[e]at h;obtain⟨h1,h2,h3,h4⟩:=ixN_seq e;exact⟨j,h1,h,h2,h3,h4⟩
theorem HN{α:Type}{xs:List α}{j:Nat}{v:α}(h:xs[j]? =some v):atI xs (j:Int)=some v:=by
 have hj:j<xs.length:=(pO.mp h).1;have e:ixN xs.length (j:Int)=some j:=by
  unfold ixN;rw[au (by omega),au (by omega)];simp
 unfold atI;rw[e];exact h
noncomputable def PlainIx(b:Expr):Prop:=∀o i,subscripted b false o i=operate [o,i] (getItem o i)
noncomputable def IxR(X:Cx)(r:R2):Prop:=
 ∀(value slice:Expr) (pins:L1) (s:η) (σ:St) (H:Hp) (x y:V) (v u:ζ) (Q:VK),Inv X pins σ H s->RelV x v->RelV y u->r x y H Q->
  subscripted slice false v u=operate [v,u] (getItem v u)->wpAny (model X.prog X.w) X.A (subscriptTail value slice v u) (EP X pins σ Q) X.xe s
noncomputable def MtR(X:Cx)(id:String)(r:V->List V->Hp->VK->Prop):Prop:=
 ∀(pins:L1) (s:η) (σ:St) (H:Hp) (x:V) (xs:List V) (v:ζ) (us:List ζ) (Q:VK),Inv X pins σ H s->RelV x v->Vals xs us->r x xs H Q->
  wpAny (model X.prog X.w) X.A (call (.builtin id) (v::us)) (EP X pins σ Q) X.xe s
section
variable{X:Cx}{a b:Expr}{ta tb:TE}{pos:Pos}
theorem aP{r:R2}(hr:IxR X r)(ha:PE X a ta)(hb:PE X b tb)(hs:PlainIx b:=by exact fun _ _=>rfl):PE X (.Subscript a b pos) (tOp r ta tb):=by
 intro pins s σ H Q I h;exact Subscript_ (binT ha hb I h fun v u s2 x y H2 I2 rx ry q=>hr a b pins s2 σ H2 x y v u Q I2 rx ry q (hs _ _))
noncomputable def rIxL(K:W.Frag):R2:=fun x y H Q=>∃p xs i v,x= .ref p/\y= .int i/\SqL K H p xs/\atI xs i=some v/\Q v H
noncomputable def rIxT(K:W.Frag):R2:=fun x y H Q=>∃p xs i v,x= .ref p/\y= .int i/\SqT K H p xs/\atI xs i=some v/\Q v H
theorem kJ:IxR X (rIxL X.K):=by
 intro value slice pins s σ H x y v u Q I rx ry h hs;obtain⟨p,xs,i,z,rfl,rfl,hq,he,q⟩:=h;cases rx;obtain⟨t,rfl⟩:=ry;obtain⟨its,r,pl,hz⟩:=I.list hq;obtain⟨j,h1,h2,h3,h4,h5⟩:=atI_get he;obtain⟨w,ew,rw'⟩:=r.get h2;have hl:=r.length;have hn:=line63;have fin:EP X pins σ Q w s:=⟨z,H,I,rw',q⟩;by_cases h0:0<=i
 ·have hj:i.toNat=j:=by
   rw[seqIndex_of h0 h5]at h1;exact uI h1
  exact item_listR pl.isList h0 (by omega) (by rw[hj];simpa using ew) fin hs
 ·have hj:(i+(its.toArray.size:Int)).toNat=j:=by
   rw[seqIndex_neg (by omega) h4]at h1;rw[iw,<-hl];exact uI h1
  exact subscriptTail_builtinR (x:=w) pl.isList.typeIs slot_list_getitem.lookup
   (wpAny_getItem_list_neg (Q:=fun r s'=>r=w/\EP X pins σ Q r s') pl.isList (by omega) (by rw[iw]<;>omega) (by omega) (by rw[hj];simpa using ew) ⟨rfl,fin⟩) hs
theorem bZ:IxR X (rIxT X.K):=by
 intro value slice pins s σ H x y v u Q I rx ry h hs;obtain⟨p,xs,i,z,rfl,rfl,hq,he,q⟩:=h;cases rx;obtain⟨t,rfl⟩:=ry;obtain⟨its,r,pl,hz⟩:=I.tuple hq;obtain⟨j,h1,h2,h3,h4,h5⟩:=atI_get he;obtain⟨w,ew,rw'⟩:=r.get h2;have hl:=r.length;have hn:=line63;have fin:EP X pins σ Q w s:=⟨z,H,I,rw',q⟩;exact subscriptTail_builtinR (x:=w) pl.typeIs slot_tuple_getitem.lookup
  (getItem_tuple (j:=j) (Q:=fun r s'=>r=w/\EP X pins σ Q r s') pl (by omega) (by omega) (by rw[iw,<-hl];exact h1) (by simpa using ew) ⟨rfl,fin⟩) hs
theorem mapSeq_set(its:List ζ)(n j:Nat)(u:ζ):Obj.mapSeq (·.setIfInBounds j u) {cls:= .type "list",data:= .seq its.toArray n}={cls:= .type "list",data:= .seq (its.set j u).toArray n}:=by
 simp[Obj.mapSeq]
theorem Inv.lst{pins:L1}{σ:St}{H:Hp}{s:η}{p:Addr}{xs:List V}(I:Inv X pins σ H s)(h:H p=some (.lst xs)):
  ∃(its:List ζ) (n:Nat),Vals xs its/\s.heap.get? p=some {cls:= .type "list",data:= .seq its.toArray n}/\xs.length<=sizeLine:=by
 obtain⟨z,its,n,r,e⟩:=I.hok p _ h;exact⟨its,n,r,e,z⟩
theorem Inv.lstUpd{pins:L1}{σ:St}{H:Hp}{s:η}{p:Addr}{xs ys:List V}{its its':List ζ}{n n':Nat}{f:Obj->Obj}(I:Inv X pins σ H s)(h:H p=some (.lst xs))(ho:s.heap.get? p=some {cls:= .type "list",data:= .seq its.toArray n})(hf:f {cls:= .type "list",data:= .seq its.toArray n}={cls:= .type "list",data:= .seq its'.toArray n'})(r:Vals ys its')(hz:ys.length<=sizeLine)(t:Nat):
  Inv X pins σ (upd H p (.lst ys)) {s with heap:=s.heap.update p f,toks:=t}:=by
 have e:(s.heap.update p f).get? p=some {cls:= .type "list",data:= .seq its'.toArray n'}:=by
  rw[Heap.get?_update_self f ho (by rw[hf]<;>rfl),hf]
 refine I.write (x:=p) (e:=p) (by rw[h];trivial) (.inl rfl) (fun b u hb q=>(wbz _ _ (lQ hb)).trans q) ⟨_,e⟩ ?_;exact⟨hz,its',n',r,e⟩
noncomputable def rSetL:V->V->V->Hp->(Hp->Prop)->Prop:=fun o i v H Q=>∃p xs k j,o= .ref p/\i= .int k/\H p=some (.lst xs)/\ixN xs.length k=some j/\Q (upd H p (.lst (xs.set j v)))
theorem set_list:PSet X rSetL:=by
 intro pins s σ H o i v ov iv u Q I ro ri rv h;obtain⟨p,xs,k,j,rfl,rfl,hp,hj,q⟩:=h;cases ro;obtain⟨t,rfl⟩:=ri;obtain⟨its,n,r,ho,hz⟩:=I.lst hp;obtain⟨h1,h2,h3,h4⟩:=ixN_seq hj;have hl:=r.length;have hn:=line63;have I':Inv X pins σ (upd H p (.lst (xs.set j v))) {s with heap:=s.heap.update p (Obj.mapSeq (·.setIfInBounds j u))}:=
  I.lstUpd hp ho (mapSeq_set its n j u) (r.set rv j) (by rw[List.length_set];exact hz) s.toks
 by_cases h0:0<=k
 ·have hk:k.toNat=j:=by
   rw[seqIndex_of h0 h4]at h1;exact uI h1
  exact PySem.W.ki_setAt ho h0 (by omega) (by rw[iw,<-hl];exact h4) (by rw[hk];exact⟨_,I',q⟩)
 ·have hk:(k+(its.toArray.size:Int)).toNat=j:=by
   rw[seqIndex_neg (by omega) h3]at h1;rw[iw,<-hl];exact uI h1
  exact PySem.W.ki_setBack ho (by omega) (by rw[iw,<-hl];exact h3) (by omega) (by rw[hk];exact⟨_,I',q⟩)
theorem slice_bounds(lo hi:Option Int)(n:Nat):(sliceBounds lo hi none n).1=((HT.sIx n 0 lo:Nat):Int)/\(sliceBounds lo hi none n).2.1=((HT.sIx n n hi:Nat):Int)/\(sliceBounds lo hi none n).2.2=1:=by
 refine⟨?_,?_,rfl⟩
 ·cases lo with
  |none=>simp[sliceBounds,HT.sIx]
  |some i=>
   simp only[sliceBounds,HT.sIx,Option.getD_none,show(1:Int)>0 by decide,RQ];by_cases h:i<0
   ·simp only[h,RQ]<;>omega
   ·simp only[h,if_false]<;>omega
 ·cases hi with
  |none=>simp[sliceBounds,HT.sIx]
  |some i=>
   simp only[sliceBounds,HT.sIx,Option.getD_none,show(1:Int)>0 by decide,RQ];by_cases h:i<0
   ·simp only[h,RQ]<;>omega
   ·simp only[h,if_false]<;>omega
theorem slicePick_cut(its:List ζ)(lo hi:Option Int):slicePick its.toArray lo hi none=((its.drop (HT.sIx its.length 0 lo)).take (HT.sIx its.length its.length hi-HT.sIx its.length 0 lo)).toArray:=by
 obtain⟨h1,h2,h3⟩:=slice_bounds lo hi its.toArray.size;unfold slicePick;rw[h1,h2,h3];simp only[sliceRange_one,pick_run,iw]<;>rfl
noncomputable def rSlL(K:W.Frag):V->Option Int->Option Int->Hp->VK->Prop:=fun x lo hi H Q=>∃a xs,x= .ref a/\SqL K H a xs/\∀p,H p=none->Q (.ref p) (upd H p (.lst (cutV xs lo hi)))
theorem sl_list:SlR X (rSlL X.K):=by
 intro pins s σ H x v vl vu lo hi sl Q I rx hs pl pu h;obtain⟨a,xs,rfl,hx,q⟩:=h;cases rx;obtain⟨its,r,ht,hz⟩:=I.list hx;have hlen:=r.length;refine⟨"list",_,slot_list_getitem.lookup,ht.isList.typeIs,?_⟩;refine wpAny_getItem_list_slice ht.isList hs pl pu .none (by simp) ?_ (by rw[iw]<;>omega);rw[slicePick_cut,<-hlen];refine⟨.ref s.heap.objs.size,_,I.laid (t':=s.toks) (o:= .lst (cutV xs lo hi)) (fun b ob q=>eV _ q) (aR _) ?_,rfl,q _ (I.hok.fresh (aR _))⟩;exact⟨cQ (cutV_length xs lo hi) hz,_,0,(r.drop (HT.sIx xs.length 0 lo)).take (HT.sIx xs.length xs.length hi-HT.sIx xs.length 0 lo),nG _ rfl⟩
theorem call_len_seq:CallR X (.builtin "len") (fun xs H Q=>∃p ys,xs=[.ref p]/\(SqL X.K H p ys\/SqT X.K H p ys)/\Q (.int ys.length) H):=by
 intro pins s σ H xs us Q I r h;obtain⟨p,ys,rfl,hq,q⟩:=h;obtain⟨u,rfl,rx⟩:=vals1 r;cases rx;have hn:=line63;rcases hq with hq|hq
 ·obtain⟨its,r',pl,hz⟩:=I.list hq;have hlen:=r'.length;exact Calls.call_len_list pl.isList (by simp only[iw]<;>omega) ⟨.int ys.length,H,I.tok _,⟨s.toks+1,by rw[iw,hlen]⟩,q⟩
 ·obtain⟨its,r',pl,hz⟩:=I.tuple hq;have hlen:=r'.length;exact len_tuple pl (by simp only[iw]<;>omega) ⟨.int ys.length,H,I.tok _,⟨s.toks+1,by rw[iw,hlen]⟩,q⟩
theorem call_list_of:CallR X (.type "list") (fun xs H Q=>∃p ys,xs=[.ref p]/\(SqL X.K H p ys\/SqT X.K H p ys)/\∀l,H l=none->Q (.ref l) (upd H l (.lst ys))):=by
 intro pins s σ H xs us Q I r h;obtain⟨p,ys,rfl,hq,q⟩:=h;obtain⟨u,rfl,rx⟩:=vals1 r;cases rx;have fin:∀(its:List ζ),Vals ys its->ys.length<=sizeLine->∀(h':Heap) (c':Nat),(∀b o',s.heap.get? b=some o'->h'.get? b=some o')->
   h'.get? s.heap.objs.size=some {cls:= .type "list",dict:=none,data:= .seq its.toArray c',slots:=#[]}->EP X pins σ Q (.ref s.heap.objs.size) {s with heap:=h'}:=fun its r' hz h' c' kp e=>
  ⟨.ref s.heap.objs.size,_,I.laid (t':=s.toks) kp (aR _) (show ObjOk X.prog X.w _ h' _ (.lst ys)from⟨hz,its,c',r',e⟩),rfl,q _ (I.hok.fresh (aR _))⟩
 rcases hq with hq|hq
 ·obtain⟨its,r',pl,hz⟩:=I.list hq;have hlen:=r'.length;obtain⟨o,ho,hc,n,hd⟩:=pl.isList;exact call_list_seq p (.inl rfl) ho hc hd (fun h' c' kp e=>fin its r' hz h' c' kp e) (by simp only[iw]<;>omega)
 ·obtain⟨its,r',pl,hz⟩:=I.tuple hq;have hlen:=r'.length;obtain⟨o,ho,hc,n,hd⟩:=pl;exact call_list_seq p (.inr rfl) ho hc hd (fun h' c' kp e=>fin its r' hz h' c' kp e) (by simp only[iw]<;>omega)
theorem Du:CallR X (.type "tuple") (fun xs H Q=>∃p ys,xs=[.ref p]/\((SqL X.K H p ys/\∀l,H l=none->Q (.ref l) (upd H l (.tup ys)))\/(SqT X.K H p ys/\Q (.ref p) H))):=by
 intro pins s σ H xs us Q I r h;obtain⟨p,ys,rfl,h⟩:=h;obtain⟨u,rfl,rx⟩:=vals1 r;cases rx;rcases h with⟨hq,q⟩|⟨hq,q⟩
 ·obtain⟨its,r',pl,hz⟩:=I.list hq;have hlen:=r'.length;refine call_tuple_list pl.isList (fun h' kp=> ?_) (by simp only[iw]<;>omega);have I1:Inv X pins σ H {s with heap:=h'}:=I.kept (t':=s.toks) kp;have I2:Inv X pins σ (upd H h'.objs.size (.tup ys)) {s with heap:=h'.push {cls:= .type "tuple",data:= .seq its.toArray}}:=
   I1.laid (t':=s.toks) (fun b o e=>eV _ e) (aR _) (show ObjOk X.prog X.w _ _ _ (.tup ys)from⟨hz,its,r',IsTup.new _ _⟩)
  exact⟨.ref h'.objs.size,_,I2,rfl,q _ (I1.hok.fresh (aR _))⟩
 ·obtain⟨its,r',pl,hz⟩:=I.tuple hq;exact call_tuple_same pl ⟨.ref p,H,I,rfl,q⟩
noncomputable def tyV(K:W.Frag)(T:String)(x:V)(H:Hp):Prop:=match x with
 | .str _=>T="str"
 | .int _=>T="int"
 | .ref p=>(T="list"/\∃xs,SqL K H p xs)\/(T="tuple"/\∃o,K.lookup p=some o/\o.cls= .type "tuple"/\o.dict=none)\/
   (T="dict"/\((∃kvs,H p=some (.dK kvs))\/∃kvs,H p=some (.dT kvs)))\/(T="set"/\∃S n,H p=some (.set S n))
 |_=>False
theorem tyV_is{pins:L1}{σ:St}{H:Hp}{s:η}{T:String}{x:V}{v:ζ}(I:Inv X pins σ H s)(r:RelV x v)(ty:tyV X.K T x H):
  s.TypeIs v T/\∀a,v= .ref a->∃ob,s.heap.get? a=some ob/\ob.dict=none:=by
 cases x with
 |str z=>
  obtain⟨t,rfl⟩:=r;cases(show T="str" from ty);exact⟨typeIs_str s z t,fun _ e=>nomatch e⟩
 |int i=>
  obtain⟨t,rfl⟩:=r;cases(show T="int" from ty);exact⟨typeIs_int s i t,fun _ e=>nomatch e⟩
 |ref p=>
  cases r;rcases ty with⟨rfl,xs,hq⟩|⟨rfl,o,hk,hc,hd⟩|⟨rfl,hk⟩|⟨rfl,S,n,hk⟩
  ·obtain⟨its,_,pl,_⟩:=I.list hq;refine⟨pl.isList.typeIs,fun a e=> ?_⟩;cases e;obtain⟨o,n,e,c,hd,_⟩:=pl;exact⟨o,e,hd⟩
  ·refine⟨⟨o,I.kIn p o hk,hc⟩,fun a e=> ?_⟩;cases e;exact⟨o,I.kIn _ o hk,hd⟩
  ·have z:∃o,s.heap.get? p=some o/\o.ExactDict:=by
    rcases hk with⟨kvs,hk⟩|⟨kvs,hk⟩
    ·obtain⟨_,_,_,_,o,_,_,e,ex,_⟩:=I.hok p _ hk;exact⟨o,e,ex⟩
    ·obtain⟨_,_,_,_,o,_,_,e,ex,_⟩:=I.hok p _ hk;exact⟨o,e,ex⟩
   obtain⟨o,e,ex⟩:=z;refine⟨⟨o,e,ex.1⟩,fun a e2=> ?_⟩;cases e2;exact⟨o,e,ex.2.1⟩
  ·obtain⟨o,_,_,_,e,ex,_⟩:=I.hok p _ hk;refine⟨⟨o,e,ex.1⟩,fun a e2=> ?_⟩;cases e2;exact⟨o,e,ex.2.1⟩
 |_=>exact False.elim ty
noncomputable def tBM(K:W.Frag)(T:String)(r:V->List V->Hp->VK->Prop)(to:TE)(t:TA):TE:=fun σ H Q=>to σ H fun x H1=>tyV K T x H1/\t σ H1 fun xs H2=>r x xs H2 Q
variable{o e:Expr}{es:List Expr}{to:TE}{t:TA}{name:Str}{apos cpos:Pos}{T id:String}{r:V->List V->Hp->VK->Prop}
theorem pe_bm(pa:PlainAttrs T)(slot:Slot T name id)(hty:typeOf (.builtin id)=pure (.type "method_descriptor"))(hm:MtR X id r)(ho:PE X o to)(ha:PA X (e::es) t)(hbase:attributeBase o name X.env (eval o X.env)=eval o X.env:=by rfl)(hfew:((backTo cpos (starEach (e::es) X.env)).all (fun x=> !x.1)&&(backToKw cpos (keywordEach [] X.env)).all (fun x=>x.1.isSome)
   &&decide ((e::es).length+([]:List Keyword).length+(if([]:List Keyword).isEmpty then 0 else 1)<30))=true:=by rfl)(hline:(apos.endLine==cpos.line)=true:=by rfl)(hs:starEach (e::es) X.env=(false,eval e X.env)::starEach es X.env:=by rfl)(hplain:(backTo cpos (starEach es X.env)).any (·.1)=false:=by rfl):
  PE X (.Call (.Attribute o name apos) (e::es) [] cpos) (tBM X.K T r to t):=by
 intro pins s σ H Q I h;refine wpAny_Call_method_late hbase hfew hline rfl (thn (ho pins s σ H _ I h) fun v s1 ⟨x,H1,I1,r1,ty,q1⟩=> ?_);obtain⟨h1,h2⟩:=tyV_is I1 r1 ty;refine⟨T,id,pa,slot,hty,h1,h2,?_⟩;have hA:=ha cpos pins s1 σ H1 _ I1 q1;rw[hs]at hA⊢;refine Calls.callWith_builtin (by show(false||(backTo cpos (starEach es X.env)).any (·.1))=false;rw[hplain]<;>rfl) (Calls.evalArgs_plain ?_);exact thn hA fun us s2 ⟨vs,H2,I2,r2,q2⟩=>hm pins s2 σ H2 x vs v us Q I2 r1 r2 q2
end
noncomputable def MtM(X:Cx)(id:String)(r:V->List V->Hp->VK->Prop):Prop:=
 ∀(pins:L1) (s:η) (σ:St) (H:Hp) (x:V) (xs:List V) (v:ζ) (us:List ζ) (Q:VK),Inv X pins σ H s->RelV x v->Vals xs us->r x xs H Q->
  wpAny (model X.prog X.w) X.A (call (.builtin id) (v::us)) (EP X pins σ Q) X.xe s
theorem Vals.one{x:V}{us:List ζ}(h:Vals [x] us):∃u,us=[u]/\RelV x u:=by
 cases h with
 |cons r h=>cases h;exact⟨_,rfl,r⟩
theorem Vals.two{x y:V}{us:List ζ}(h:Vals [x,y] us):∃u v,us=[u,v]/\RelV x u/\RelV y v:=by
 cases h with
 |cons r h=>obtain⟨v,rfl,q⟩:=Vals.one h;exact⟨_,_,rfl,r,q⟩
theorem foldl_rep(its:List ζ):∀(k:Nat) (acc:List ζ),
  List.foldl (fun x1 x2=>x1++x2) acc.toArray (List.replicate k its.toArray)=(acc++(List.replicate k its).flatten).toArray
 |0,acc=>by simp
 |k+1,acc=>by
  have e:acc.toArray++its.toArray=(acc++its).toArray:=by simp
  have e2:(acc++its)++(List.replicate k its).flatten=acc++(List.replicate (k+1) its).flatten:=by
   rw[Ir,RJ,wdj]
  rw[<-e2,<-foldl_rep its k (acc++its),<-e,Ir,List.foldl_cons]
section
variable{X:Cx}{pins:L1}{σ:St}{H:Hp}{s:η}{l:Addr}{xs ys:List V}
theorem Inv.lset{its its':List ζ}{n:Nat}{f:Array ζ->Array ζ}{t':Nat}(I:Inv X pins σ H s)(hH:H l=some (.lst xs))(e:s.heap.get? l=some {cls:= .type "list",data:= .seq its.toArray n})(hf:f its.toArray=its'.toArray)(hv:Vals ys its')(hz:ys.length<=sizeLine):
  Inv X pins σ (upd H l (.lst ys)) {s with heap:=s.heap.update l (Obj.mapSeq f),toks:=t'}:=by
 have q:=PySem.IsL.update e f;rw[hf]at q;refine I.write (x:=l) (e:=l) (by rw[hH];exact trivial) (.inl rfl) (fun b' u hb hu=>(wbz s.heap (Obj.mapSeq f) (lQ hb)).trans hu) ⟨_,q⟩ ?_;exact⟨hz,its',_,hv,q⟩
theorem Inv.lnew{its:List ζ}{t':Nat}(I:Inv X pins σ H s)(hv:Vals ys its)(hz:ys.length<=sizeLine):
  Inv X pins σ (upd H s.heap.objs.size (.lst ys)) {s with heap:=s.heap.push {cls:= .type "list",data:= .seq its.toArray},toks:=t'}:=
 I.laid (fun _ _ q=>eV _ q) (aR _) ⟨hz,its,0,hv,nG _ rfl⟩
theorem Inv.fresh(I:Inv X pins σ H s):H s.heap.objs.size=none:=I.hok.fresh (aR _)
theorem Inv.lstM(I:Inv X pins σ H s)(hH:H l=some (.lst xs)):xs.length<=sizeLine/\∃(its:List ζ) (n:Nat),Vals xs its/\xs.length=its.length/\s.heap.get? l=some {cls:= .type "list",data:= .seq its.toArray n}:=by
 obtain⟨z,its,n,r,e⟩:=I.hok l _ hH;exact⟨z,its,n,r,r.length,e⟩
theorem notLongL{n:Nat}(h:n<=sizeLine):Builtin.List.listTooLong n=false:=by
 unfold Builtin.List.listTooLong;exact jK (by omega)
end
section
variable{X:Cx}
noncomputable def rAppend:V->List V->Hp->VK->Prop:=fun x vs H Q=>∃l xs y,x= .ref l/\vs=[y]/\H l=some (.lst xs)/\xs.length<sizeLine/\Q .non (upd H l (.lst (xs++[y])))
theorem mt_append:MtM X "list.append" rAppend:=by
 intro pins s σ H x vs v us Q I rx rv h;obtain⟨l,xs,y,rfl,rfl,hH,hz,q⟩:=h;cases rx;obtain⟨u,rfl,ru⟩:=rv.one;obtain⟨z,its,n,r,hl,e⟩:=I.lstM hH;refine VB F.slot_list_append ⟨_,e,rfl⟩ F.entry_list_append (F.args_list_append_2 _ _) (PySem.list_append l its.toArray n u (by rw[iw];omega)) ⟨e,?_⟩;refine⟨.non,_,I.lset (its':=its++[u]) hH e (by simp) (r.append (.cons ru .nil)) ?_,rfl,q⟩;rw[rE,List.length_singleton];omega
noncomputable def rExtend:V->List V->Hp->VK->Prop:=fun x vs H Q=>∃l b xs zs,x= .ref l/\vs=[.ref b]/\H l=some (.lst xs)/\H b=some (.lst zs)/\xs.length+zs.length<=sizeLine/\Q .non (upd H l (.lst (xs++zs)))
theorem mt_extend:MtM X "list.extend" rExtend:=by
 intro pins s σ H x vs v us Q I rx rv h;obtain⟨l,b,xs,zs,rfl,rfl,hH,hB,hz,q⟩:=h;cases rx;obtain⟨u,rfl,ru⟩:=rv.one;cases ru;obtain⟨z,its,n,r,hl,e⟩:=I.lstM hH;obtain⟨z2,its2,n2,r2,hl2,e2⟩:=I.lstM hB;have hsz:its.toArray.size+its2.toArray.size<=sizeLine:=by rw[iw,iw];omega
 have hlong:¬(!its.toArray.isEmpty&&Builtin.List.listTooLong (its.toArray.size+its2.toArray.size))=true:=by
  rw[notLongL hsz,wev];exact vq
 refine VB F.slot_list_extend ⟨_,e,rfl⟩ F.entry_list_extend (F.args_list_extend_2 _ _)
  (AutoSeq1.list_extend_list_list_0 l its.toArray n b its2.toArray n2 hlong (by rw[iw];omega) (by omega)) ⟨e,e2,?_⟩
 refine⟨.non,_,I.lset (its':=its++its2) hH e (by simp) (r.append r2) ?_,rfl,q⟩;rw[rE];omega
noncomputable def rCat:R2:=fun x y H Q=>∃l b xs zs,x= .ref l/\y= .ref b/\H l=some (.lst xs)/\H b=some (.lst zs)/\xs.length+zs.length<=sizeLine/\∀p,H p=none->Q (.ref p) (upd H p (.lst (xs++zs)))
theorem op_cat:OpR X (binaryOp .Add) rCat:=by
 intro pins s σ H x y v u Q I rx ry h;obtain⟨l,b,xs,zs,rfl,rfl,hH,hB,hz,q⟩:=h;cases rx;cases ry;obtain⟨z,its,n,r,hl,e⟩:=I.lstM hH;obtain⟨z2,its2,n2,r2,hl2,e2⟩:=I.lstM hB;refine PySem.P.add_list e e2 ?_ (by rw[iw,iw];omega);have ea:its.toArray++its2.toArray=(its++its2).toArray:=by simp
 rw[ea];exact⟨.ref _,_,I.lnew (t':=s.toks) (r.append r2) (by rw[rE];omega),rfl,q _ I.fresh⟩
theorem len_rep{α:Type}(xs:List α)(k:Nat):(List.replicate k xs).flatten.length=k*xs.length:=by
 induction k with
 |zero=>simp
 |succ k ih=>rw[Ir,RJ,rE,ih,Nat.succ_mul,Nat.add_comm]
end
end L2
namespace Att
open PySem PySem.W PySem.Calls PyProof.Rows
theorem ints_of_wellAll{P:Params}{h:Heap}:∀(ns:List Int) (vs:List ζ),WellAll P h vs (ns.map WData.int)->IntsAre vs ns:=by
 intro ns
 induction ns with
 |nil=>
  intro vs w;rw[Ry]at w;cases w;exact .nil
 |cons n ns ih=>
  intro vs w;rw[yg]at w;cases w with
  |cons a b=>
   cases a;exact .cons _ _ (ih _ b)
theorem script_of{l:OpenLaw}{n:Nat}(hn:l.most=some n){P:Params}{h:Heap}{args:List WData}{vals:List ζ}(hpre:l.row.toRowW.claim.pre args=true)(hwl:WellAll P h vals args):
  ∃a vs ns,vals=[Value.ref a]/\args=[WData.list (ns.map WData.int)]/\h.get? a=some {cls:= .type "list",data:= .seq vs.toArray}/\IntsAre vs ns/\ns.length<=n:=by
 have hsh:WShape.hasAll [] args [.list .int]=true:=(pre_splitW hpre).1;have hc:l.pre.holds [] {args:=args}=true:=(pre_splitW hpre).2;obtain⟨d,r,rfl,h1,h2⟩:=hasAllW_cons hsh;obtain rfl:=hasAllW_nil h2;obtain⟨xs,rfl,h3⟩:=hasW_list h1;obtain⟨ns,rfl⟩:=items_int h3;have hlen:ns.length<=n:=by
  unfold OpenLaw.pre at hc;have h4:(WTm.not (.lt (.lit (.int (n:Int))) (.len (.arg 0)))).holds [] {args:=[.list (ns.map .int)]}=true:=by
   have h4:=(holds_andW hc).1;rw[hn]at h4;exact h4
  have h5:=condW_of h4 (w_not (w_lt w_lit (w_len_list (w_arg rfl))));rw[aH]at h5;refine Nat.le_of_not_lt fun q=> ?_;have q':(n:Int)<((ns.length:Nat):Int):=by omega
  first
   |(rw[cI q']at h5;exact absurd h5 (by decide))
   |(simp at h5;omega)
 cases hwl with
 |cons w1 w2=>
  cases w2;cases w1 with
  |list ho hall=>exact⟨_,_,ns,rfl,rfl,ho,ints_of_wellAll ns _ hall,hlen⟩
theorem post_true(l:OpenLaw)(args:List WData):l.row.toRowW.claim.post args (.bool true) args=true:=
 postW_of (r:=l.row.toRowW) (X:=(true==true))
  (show WShape.has [] (.bool true) .bool=true by first |rfl|decide|simp[WShape.has,WShape.arms,WShape.armsAll])
  (show(WTm.eq .res (.lit (.bool true))).value [] {args:=args,res:=some (.bool true),after:=args}=some (.bool (true==true))from w_eq_bool (w_res rfl) w_lit) rfl
theorem attach_call{l:OpenLaw}{n:Nat}{q:ξ}{loose:List Str}{XP:(L4)->Heap->Prop}{YP:τ->Heap->Prop}{d:DefRec}(hn:l.most=some n)(hdf:d.params.defaults=[])(call:∀(w:τ) (s₀ s₁:η) (mg mb:L4) (fa:Addr) (o:Obj) (pm cd doc:ζ) (a:Addr) (vs:List ζ) (ns:List Int),
   Ground q loose [] XP w s₀ mg mb s₁.heap->YP w s₁.heap->
   s₁.heap.get? fa=some o->o.data= .func (docDef d.name d.params d.body d.scope pm cd doc)->s₁.heap.CodeRec cd d.name->mg d.name=some (.ref fa)->
   s₁.heap.get? a=some {cls:= .type "list",data:= .seq vs.toArray}->IntsAre vs ns->ns.length<=n->s₁.gens=#[]->
   codeAny (model l.prog w) callerA (.call (.ref fa) ⟨[.ref a],[]⟩) (fun r s'=>r= .ok (.ret (.bool true))/\OldK s₁.heap s'.heap/\s'.os=s₁.os/\AllBare s'.gens) s₁):
  WalkO q loose XP YP l.row.toRowW d [] (fun f vs=>PySem.call f vs):=by
 intro w s₀ s₁ mg mb G Y fa o pm cd doc dV kV ho hd hcd hD hmg hg args vals as hpre hlay hrd hwl hlo;obtain rfl:dV= .none:=Dflts.none hD hdf;obtain rfl:kV= .none:=Dflts.noKw hD;obtain⟨a,vs,ns,rfl,rfl,hobj,hints,hlen⟩:=script_of hn hpre hwl;refine enter_call (Ww (call w s₀ s₁ mg mb fa o pm cd doc a vs ns G Y ho (fd_plain hd) hcd hmg hobj hints hlen hg) fun r s' hq=> ?_);obtain⟨rfl,h2,h3,h4⟩:=hq;exact⟨.inl ⟨.bool true,.bool true,[],rfl,fun _=>rfl,.bool true,post_true l _,fun _=>⟨List.Pairwise.nil,fun _ hm=>(nomatch hm)⟩⟩,h2,h3,h4⟩
end Att
namespace L2
open PySem PySem.Spec PyProof.Rows
theorem vals_ints:∀{vs:List ζ} {ns:List Int},IntsAre vs ns->Vals (ns.map V.int) vs
 |_,_,.nil=> .nil
 |_,_,.cons n t h=> .cons ⟨t,rfl⟩ (vals_ints h)
noncomputable def Only(H:Hp):Prop:=∀b,H b=none\/∃o xs,H b=some (.frz o (.lst xs))
theorem law_call{P:ξ}{w:τ}{K:W.Frag}{mg mb:L4}{CX:CXT}{k:Nat}{fa a:Addr}{fd:ρ}{x:Str}{sp:Sp}{s₁:η}{vs:List ζ}{ns:List Int}
  (KX:K.In s₁.heap)(hns:s₁.heap.Ns mainGlobals mg)(hb:s₁.heap.Ns builtinsNs mb)(hbb:∀x:Str,x≠"__name__"->mb x=bootBuiltins x)(hlim:s₁.heap.NoLimit)(hg:s₁.gens=#[])(ha:s₁.heap.get? a=some {cls:= .type "list",data:= .seq vs.toArray})(hi:IntsAre vs ns)(hl:ns.length<=sizeLine)(hr:Room k callerA)
  (F:∀base:Heap,K.In base->base.Ns mainGlobals mg->FnOk P w K mg base CX k fa fd [x] sp)(hbind:∀(s:η) (u:ζ),BindsTo s fd ⟨[u],[]⟩ [(x,u)])(hsp:∀H:Hp,Only H->SqL K H a (ns.map V.int)->sp [.ref a] H (fun v _=>v= .bl true) fun _ _ _=>False)(hCX:∀H e s',CX [] H s₁ (fun _ _ _=>False) e s'->False):
  codeAny (model P w) callerA (.call (.ref fa) ⟨[.ref a],[]⟩) (fun r s'=>r= .ok (.ret (.bool true))/\OldK s₁.heap s'.heap/\s'.os=s₁.os/\AllBare s'.gens) s₁:=by
 have rv:=vals_ints hi;have lenV:=hi.length
 -- from an abstract heap in which nothing but the script may be tracked
 have core:∀H:Hp,Only H->SqL K H a (ns.map V.int)->HOk P w H s₁.heap->(∀b,H b≠none->b=a)->(H a≠none->K.lookup a=none)->
   codeAny (model P w) callerA (.call (.ref fa) ⟨[.ref a],[]⟩) (fun r s'=>r= .ok (.ret (.bool true))/\OldK s₁.heap s'.heap/\s'.os=s₁.os/\AllBare s'.gens) s₁:=by
  intro H hO hS hok hA hK;have base_of:∀{b:Addr} {o:Obj},s₁.heap.get? b=some o->H b=none->(hidT s₁.heap H).get? b=some o:=fun e n=>hidT_get e n;have noA:∀{b:Addr} {o:Obj} {es:Array DictEntry} {ep:Nat},s₁.heap.get? b=some o->o.data= .dict es ep->H b=none:=fun{b o es ep} e d=>by
   cases q:H b with
   |none=>rfl
   |some u=>
    have e':b=a:=hA b (by rw[q];simp);subst e';rw[ha]at e;cases e;have d':Data.seq vs.toArray _=Data.dict es ep:=d;cases d'
  have nsK:∀{b:Addr} {m:L4},s₁.heap.Ns b m->(hidT s₁.heap H).Ns b m:=fun{b m} ⟨o,es,ep,e,d,r⟩=>⟨o,es,ep,base_of e (noA e d),d,r⟩;have hKb:K.In (hidT s₁.heap H):=fun b o e=>base_of (KX b o e) (by
   cases q:H b with
   |none=>rfl
   |some u=>
    have e':b=a:=hA b (by rw[q];simp);subst e';rw[hK (by rw[q];simp)]at e;cases e)
  have hM:Mod K mg (hidT s₁.heap H):=⟨hKb,nsK hns,⟨mb,nsK hb,hbb⟩,let⟨mc,h1,h2⟩:=hlim;⟨mc,nsK h1,h2⟩⟩;have e0:Env0 P w K mg (hidT s₁.heap H) callerA [] s₁ H:=⟨rfl,hM,fun b o e=>of_hidT e,Dw (hidT_size _ _),trivial,fun b hb=>absurd (show b∈([]:List Addr)from hb) (by simp),hok,.of_eq hg⟩;refine Ww ((F _ hKb (nsK hns)).run callerA [] s₁ H ⟨[.ref a],[]⟩ [.ref a] [.ref a] _ _ hr e0 (hbind s₁ (.ref a)) (.cons rfl .nil) (hsp H hO hS)) fun r s' h=> ?_;cases r with
  |error e=>exact(hCX H e s' h).elim
  |ok fl=>
   cases fl with
   |next=>exact False.elim h
   |brk=>exact False.elim h
   |cont=>exact False.elim h
   |ret u=>
    obtain⟨v,H',os,bare,un,hok',r',q⟩:=h;have q':v= .bl true:=q;subst q';obtain rfl:u=Value.bool true:=r';refine⟨rfl,OldK.of_keep fun b o e=> ?_,os,bare⟩;cases q:H b with
    |none=>exact un.keep b o e q (by intro z;exact absurd (show b∈([]:List Addr)from z) (by simp)) (by simp)
    |some u=>
     rcases hO b with z|⟨ob,xs,z⟩
     ·rw[q]at z;cases z
     ·have z2:=un.frzs b ob _ z;obtain⟨e1,_⟩:=hok b _ z;obtain⟨e2,_⟩:=hok' b _ z2;rw[e]at e1;cases e1;exact e2
 cases hk:K.lookup a with
 |some o=>
  -- the script is one of the module's own objects
  have e:=KX a o hk;rw[ha]at e;cases e;refine core (fun _=>none) (fun _=> .inl rfl) (.inr ⟨_,vs.toArray,_,hk,rfl,rfl,rfl,by rw[iw,lenV];exact hl,by simpa using rv⟩) (fun b u z=>by have z':(none:Option HO)=some u:=z;cases z') (fun b z=>absurd rfl z) fun z=>absurd rfl z
 |none=>
  refine core (fun b=>if b=a then some (.frz {cls:= .type "list",data:= .seq vs.toArray} (.lst (ns.map V.int)))else none) (fun b=> ?_) (.inl (.inr ⟨{cls:= .type "list",data:= .seq vs.toArray},au rfl⟩)) (fun b u z=> ?_) (fun b z=> ?_) fun _=>hk
  ·by_cases hb:b=a
   ·exact .inr ⟨_,_,au hb⟩
   ·exact .inl (aq hb)
  ·by_cases hb:b=a
   ·have z':=(au hb).symm.trans z;cases z';subst hb;exact⟨ha,by rw[aH];exact hl,vs,_,rv,ha⟩
   ·have z':=(aq hb).symm.trans z;cases z'
  ·by_cases hb:b=a
   ·exact hb
   ·exact absurd (aq hb) z
theorem walk_of{l:PySem.W.OpenLaw}{n k:Nat}{q:ξ}{loose:List Str}{XP:(L4)->Heap->Prop}{YP:τ->Heap->Prop}{d:DefRec}{K:Params->PySem.W.Frag}{CX:τ->CXT}{sp:τ->Sp}{x:Str}(hn:l.most=some n)(hn2:n<=sizeLine)(hdf:d.params.defaults=[])(hr:Room k callerA)(hY:∀(w:τ) (h:Heap),YP w h->(K w.params).In h)
  (F:∀(w:τ) (mg:L4) (fa:Addr) (h:Heap),(K w.params).In h->h.Ns mainGlobals mg->mg d.name=some (.ref fa)->
   ∃fd:ρ,(∀(s:η) (u:ζ),BindsTo s fd ⟨[u],[]⟩ [(x,u)])/\
    ∀base:Heap,(K w.params).In base->base.Ns mainGlobals mg->FnOk l.prog w (K w.params) mg base (CX w) k fa fd [x] (sp w))(hsp:∀(w:τ) (H:Hp) (a:Addr) (ns:List Int),ns.length<=n->Only H->SqL (K w.params) H a (ns.map V.int)->sp w [.ref a] H (fun v _=>v= .bl true) fun _ _ _=>False)(hCX:∀(w:τ) (H:Hp) (s:η) (e:ζ) (s':η),CX w [] H s (fun _ _ _=>False) e s'->False):
  PySem.W.WalkO q loose XP YP l.row.toRowW d [] (fun f vs=>PySem.call f vs):=by
 refine Att.attach_call hn hdf fun w s₀ s₁ mg mb fa o pm cd doc a vs ns G Y ho hd hcd hmg hobj hints hlen hg=> ?_;have KX:=hY w _ Y;obtain⟨fd,hb,hF⟩:=F w mg fa _ KX G.T.g hmg;exact law_call KX G.T.g G.T.b G.T.builtins G.T.nolimit hg hobj hints (cQ hlen hn2) hr hF hb (fun H hO hS=>hsp w H a ns hlen hO hS) fun H e s'=>hCX w H s₁ e s'
noncomputable def inClass(s:Stmt)(j:Nat):Stmt:=match s with
 | .ClassDef _ _ _ body _ _ _ _ _ _ _=>body.getD j (.Pass ⟨0,0,0,0⟩)
 |_=> .Pass ⟨0,0,0,0⟩
noncomputable def defArgs(s:Stmt):Arguments:=match s with
 | .FunctionDef _ a _ _ _ _ _ _ _ _=>a
 |_=>{posonlyargs:=[],args:=[],vararg:=none,kwonlyargs:=[],kw_defaults:=[],kwarg:=none,defaults:=[]}
noncomputable def defBody(s:Stmt):List Stmt:=match s with
 | .FunctionDef _ _ b _ _ _ _ _ _ _=>b
 |_=>[]
noncomputable def defScope(s:Stmt):Scope:=match s with
 | .FunctionDef _ _ _ _ _ _ sc _ _ _=>sc
 |_=>{kind:= .function,names:=[],isGenerator:=false,isCoroutine:=false}
noncomputable abbrev CX0:CXT:=fun _ _ _ _ _ _=>False
noncomputable abbrev E0:XK:=fun _ _ _=>False
theorem pass0{X:Cx}:Passes CX0 X E0:=fun _ _ _ _ _ _ _ h=>h.elim
structure Fun(K:W.Frag)(x qual:Str)(st:Stmt)(f:Addr)(fd:ρ):Prop where
 ex:∃(oc:ζ) (od:Option Addr) (kV doc pm:ζ) (an:Option Addr) (cdv ct:ζ) (osl:Array (Option ζ)),
  fd=PySem.W.fnOf x qual (defArgs st) (defBody st) (defScope st) .none kV doc pm an cdv ct/\K.lookup f=some ⟨oc,od,.func fd,osl⟩/\PySem.W.codeIn K cdv qual=true
 kp:PySem.W.keepIn K (.ref f)=true
section
variable{P:ξ}{w:τ}{K:W.Frag}{mg:L4}{base:Heap}
theorem Fun.ok{x qual:Str}{st:Stmt}{f:Addr}{fd:ρ}{N ps:List Str}{k:Nat}{sp:Sp}(F:Fun K x qual st f fd)(S:FnScope N ps (defScope st))(len:∀vs H Q E,sp vs H Q E->vs.length=ps.length)(hbody:∀(cdv:ζ) (A:Around) (outer:List Env) (s:η) (H:Hp) (vs:List V) (Q:VK) (E:XK),Room k (A.deeper (envOfC qual (defScope st) s.heap.objs.size f cdv))->sp vs H Q E->
   ∃t,PSs (cxOf CX0 P w K mg base N qual (defScope st) f cdv A outer s H E).nox (defBody st) t/\t {nx:=fun _ H'=>Q .non H',rt:=Q} (start N vs) H):FnOk P w K mg base CX0 (k+1) f fd ps sp:=by
 obtain⟨oc,od,kV,doc,pm,an,cdv,ct,osl,rfl,lk,hcd⟩:=F.ex;refine fn_of lk hcd S len fun A outer s H vs Q E hr hsp=> ?_;obtain⟨t,h,q⟩:=hbody cdv A outer s H vs Q E hr hsp;exact⟨t,h.nox,q⟩
theorem Fun.binds{x qual:Str}{st:Stmt}{f:Addr}{fd:ρ}{ps:List Str}(F:Fun K x qual st f fd)(h:∀(kV doc pm:ζ) (an:Option Addr) (cdv ct:ζ) (us:List ζ),us.length=ps.length->bindArgs (PySem.W.fnOf x qual (defArgs st) (defBody st) (defScope st) .none kV doc pm an cdv ct) ⟨us,[]⟩=pure (ps.zip us)):Binds K fd ps []:=by
 obtain⟨oc,od,kV,doc,pm,an,cdv,ct,osl,rfl,lk,hcd⟩:=F.ex;exact .all (h kV doc pm an cdv ct)
theorem fun_mk{x qual:Str}{st:Stmt}{f:Addr}{oc:ζ}{od an:Option Addr}{osl:Array (Option ζ)}{kV doc pm cdv ct:ζ}(l:K.lookup f=some ⟨oc,od,.func (PySem.W.fnOf x qual (defArgs st) (defBody st) (defScope st) .none kV doc pm an cdv ct),osl⟩)(c:PySem.W.codeIn K cdv qual=true)(k:PySem.W.keepIn K (.ref f)=true):Fun K x qual st f (PySem.W.fnOf x qual (defArgs st) (defBody st) (defScope st) .none kV doc pm an cdv ct):=⟨⟨oc,od,kV,doc,pm,an,cdv,ct,osl,rfl,l,c⟩,k⟩
end
theorem hu_of{A:Around}{k:Nat}(hr:Room k A):A.units+1<cLine:=Gh (Nat.add_le_add_left (by decide:1<=64) _) hr.units
theorem small1000{n:Nat}(h:n<=1000):n<sizeLine:=Gh h (by decide)
section
variable{X:Cx}
theorem pv(i:Nat){x:Str}{pos:Pos}(hN:X.N[i]? =some x:=by rfl)(hv:Vis X.env.scope x:=by first |exact Or.inl rfl|exact Or.inr (Or.inl rfl)|exact Or.inr (Or.inr rfl))(hd:(x==("__debug__":Str))=false:=by decide)(hcd:(x==("__classdict__":Str))=false:=by decide):PE X (.Name x pos) (tVar i):=pe_var hN hv hd hcd
end
theorem iteF{A B:Prop}(h:B):if false=true then A else B:=by
 rw[aq vq];exact h
theorem iteT{A B:Prop}(h:A):if true=true then A else B:=by
 rw[au rfl];exact h
theorem ite2{c A B:Prop} [Decidable c](h1:c->A)(h2:¬c->B):if c then A else B:=by
 by_cases h:c
 ·rw[au h];exact h1 h
 ·rw[aq h];exact h2 h
noncomputable def Same(H H':Hp):Prop:=∀b o,H b=some o->H' b=some o
theorem Same.refl(H:Hp):Same H H:=fun _ _ h=>h
theorem Same.trans{H H1 H2:Hp}(a:Same H H1)(b:Same H1 H2):Same H H2:=fun c o h=>b c o (a c o h)
theorem Same.free{H H':Hp}(e:Same H H'){l:Addr}(h:H' l=Option.none):H l=Option.none:=by
 cases q:H l with
 |none=>rfl
 |some o=>
  rw[e l o q]at h;cases h
theorem Same.seq{K:W.Frag}{H H':Hp}{a:Addr}{xs:List V}(e:Same H H')(h:SqL K H a xs):SqL K H' a xs:=by
 rcases h with(h|⟨o,h⟩)|h
 ·exact .inl (.inl (e _ _ h))
 ·exact .inl (.inr ⟨o,e _ _ h⟩)
 ·exact .inr h
end L2
set_option maxHeartbeats 4000000
namespace L2
open PySem PySem.Spec PyProof.Rows
noncomputable def lH(cells:List (Str×Addr)):List (Str×NameKind)->List (Str×Addr)->List (Str×Addr)
 |[],acc=>acc
 |p::r,acc=>lH cells r (if(p.2==NameKind.free)=true then(p.1,(cells.lookup p.1).getD 0)::acc else acc)
theorem oZ{cells:List (Str×Addr)}:∀{names:List (Str×NameKind)} {acc:List (Str×Addr)} {x:Str} {c:Addr},(x,c)∈lH cells names acc->(x,c)∈acc\/c=(cells.lookup x).getD 0/\(x,NameKind.free)∈names
 |[],_,_,_,h=> .inl h
 |(n,k)::r,acc,x,c,h=>by
  rcases oZ (names:=r) h with q|⟨q,m⟩
  ·dsimp only at q;split at q
   ·rename_i hk;rcases cW.mp q with e|e
    ·cases e;have:k=NameKind.free:=by simpa using hk
     subst this;exact .inr ⟨rfl,jx⟩
    ·exact .inl e
   ·exact .inl q
  ·exact .inr ⟨q,jy _ m⟩
theorem zR{cells:List (Str×Addr)}:∀{names:List (Str×NameKind)} {acc:List (Str×Addr)} {p:Str×Addr},p∈acc->p∈lH cells names acc
 |[],_,_,h=>h
 |(n,k)::r,acc,p,h=>by
  refine zR (names:=r) ?_;split
  ·exact jy _ h
  ·exact h
theorem zQ{cells:List (Str×Addr)}:∀{names:List (Str×NameKind)} {acc:List (Str×Addr)} {x:Str},(x,NameKind.free)∈names->∃c,(x,c)∈lH cells names acc
 |(n,k)::r,acc,x,h=>by
  rcases cW.mp h with e|e
  ·cases e;refine⟨(cells.lookup n).getD 0,zR (names:=r) ?_⟩;rw[au (show(NameKind.free==NameKind.free)=true from rfl)];exact jx
  ·exact zQ (names:=r) e
theorem Zq{β:Type}:∀{l:List (Str×β)} {x:Str} {c:β},(x,c)∈l->∃d,l.lookup x=some d/\(x,d)∈l
 |(n,k)::r,x,c,h=>by
  cases hx:x==n with
  |true=>
   have e:x=n:=by simpa using hx
   subst e;exact⟨k,by simp[Ia],jx⟩
  |false=>
   rcases cW.mp h with e|e
   ·cases e;simp at hx
   ·obtain⟨d,h1,h2⟩:=Zq e;exact⟨d,by simp only[Ia,hx];exact h1,jy _ h2⟩
theorem ug{scope:Scope}{env:Env}(h:∀x,(x,NameKind.free)∈scope.names->∃c,env.cells.lookup x=some c):closureFor scope env=pure (lH env.cells scope.names []):=by
 have key:∀(names:List (Str×NameKind)) (acc:List (Str×Addr)),(∀x,(x,NameKind.free)∈names->∃c,env.cells.lookup x=some c)->
   (forIn names acc fun(x:Str×NameKind) (cs:List (Str×Addr))=>if(x.2==NameKind.free)=true then(do let y<-cellOf env x.1;pure (ForInStep.yield ((x.1,y)::cs)))else pure (ForInStep.yield cs):Sem (List (Str×Addr)))=pure (lH env.cells names acc):=by
  intro names
  induction names with
  |nil=>intro acc _;rfl
  |cons p r ih=>
   intro acc hh;obtain⟨n,k⟩:=p;rw[wem];dsimp only;by_cases hk:(k==NameKind.free)=true
   ·have e:k=NameKind.free:=by simpa using hk
    subst e;obtain⟨c,hc⟩:=hh n jx;rw[au hk];unfold cellOf;rw[hc];simp only[pure_bind];refine Eq.trans (ih _ fun x hx=>hh x (jy _ hx)) ?_;show _=pure (lH env.cells r (if(NameKind.free==NameKind.free)=true then(n,(env.cells.lookup n).getD 0)::acc else acc));rw[au hk,hc];rfl
   ·rw[aq hk];simp only[pure_bind];refine Eq.trans (ih _ fun x hx=>hh x (jy _ hx)) ?_;show _=pure (lH env.cells r (if(k==NameKind.free)=true then(n,(env.cells.lookup n).getD 0)::acc else acc));rw[aq hk]
 have q:=key scope.names [] h;unfold closureFor;simp only[bind_pure];exact q
theorem mO{env:Env}:∀{names:List (Str×NameKind)} {x:Str} {k:NameKind},names.lookup x=some k->
  (names.map fun(n,k)=>if(k==NameKind.free&&env.scope.kind== .function&&env.kindOf n==some .cell)then(n,NameKind.cell)else(n,k)).lookup x=some (if(k==NameKind.free&&env.scope.kind== .function&&env.kindOf x==some .cell)=true then .cell else k)
 |[],_,_,h=>by simp at h
 |(n,k)::r,x,k',h=>by
  have ih:= @mO env r x k';show List.lookup x ((if(k==NameKind.free&&env.scope.kind== .function&&env.kindOf n==some .cell)=true then(n,NameKind.cell)else(n,k))::_)=_;cases hx:x==n with
  |true=>
   have e:x=n:=by simpa using hx
   subst e;simp only[Ia,hx]at h;cases h;by_cases hc:(k==NameKind.free&&env.scope.kind== .function&&env.kindOf x==some .cell)=true
   ·rw[au hc,au hc];simp[Ia]
   ·rw[aq hc,aq hc];simp[Ia]
  |false=>
   simp only[Ia,hx]at h;by_cases hc:(k==NameKind.free&&env.scope.kind== .function&&env.kindOf n==some .cell)=true
   ·rw[au hc];simp only[Ia,hx];exact ih h
   ·rw[aq hc];simp only[Ia,hx];exact ih h
theorem sY{env:Env}:∀{names:List (Str×NameKind)} {x:Str},names.lookup x=none->
  (names.map fun(n,k)=>if(k==NameKind.free&&env.scope.kind== .function&&env.kindOf n==some .cell)then(n,NameKind.cell)else(n,k)).lookup x=none
 |[],_,_=>rfl
 |(n,k)::r,x,h=>by
  have ih:= @sY env r x;show List.lookup x ((if(k==NameKind.free&&env.scope.kind== .function&&env.kindOf n==some .cell)=true then(n,NameKind.cell)else(n,k))::_)=_;cases hx:x==n with
  |true=>simp only[Ia,hx]at h;cases h
  |false=>
   simp only[Ia,hx]at h;by_cases hc:(k==NameKind.free&&env.scope.kind== .function&&env.kindOf n==some .cell)=true
   ·rw[au hc];simp only[Ia,hx];exact ih h
   ·rw[aq hc];simp only[Ia,hx];exact ih h
theorem BJ{scope:Scope}{env:Env}{x:Str}(h:scope.names.lookup x=some .free):(relabel scope env).names.lookup x=some .cell\/(relabel scope env).names.lookup x=some .free:=by
 have q:=mO (env:=env) h;by_cases hc:((NameKind.free==NameKind.free)&&env.scope.kind== .function&&env.kindOf x==some .cell)=true
 ·rw[au hc]at q;exact .inl q
 ·rw[aq hc]at q;exact .inr q
inductive jw(X:Cx)(scope:Scope):List Str->List Nat->Prop
 |nil:jw X scope [] []
 |cons {x:Str} {j:Nat} {xs:List Str} {js:List Nat} (hN:X.N[j]? =some x) (hf:scope.names.lookup x=some .free) (t:jw X scope xs js):jw X scope (x::xs) (j::js)
theorem jw.get{X:Cx}{scope:Scope}:∀{xs:List Str} {js:List Nat} {k:Nat} {x:Str},jw X scope xs js->xs[k]? =some x->∃j,js[k]? =some j/\X.N[j]? =some x/\scope.names.lookup x=some .free
 |_,_,k,x,.nil,h=>by simp at h
 |_,_,0,x,.cons h1 h2 _,h=>by simp at h;subst h;exact⟨_,rfl,h1,h2⟩
 |_,_,k+1,x,.cons _ _ t,h=>by
  obtain⟨j,a,b⟩:=jw.get (k:=k) t (by simpa using h);exact⟨j,by simpa using a,b⟩
theorem jw.len{X:Cx}{scope:Scope}:∀{xs:List Str} {js:List Nat},jw X scope xs js->xs.length=js.length
 |_,_,.nil=>rfl
 |_,_,.cons _ _ t=>by simp[jw.len t]
noncomputable def zu(own:List Str)(ix:List Nat)(σ:St):St:=own.map (fun _=>none)++ix.map fun j=>(σ[j]?).join
noncomputable def Rr(X:Cx)(ifs:List Expr)(t:TT):Prop:=
 ∀(pins:L1) (s:η) (σ:St) (H:Hp) (Q:Bool->Hp->Prop),Inv X pins σ H s->t σ H Q->
  wpAny (model X.prog X.w) X.A (forIn ifs true fun c r=>if r=true then do let ok<-isTrue c X.env (eval c X.env);pure (ForInStep.yield ok)else pure (ForInStep.yield r)) (TP X pins σ Q) X.xe s
theorem pD{X:Cx}:Rr X [] (fun _ H Q=>Q true H):=fun _ _ _ H _ I h=>wpAny_tests_nil ⟨H,I,h⟩
theorem Ak{X:Cx}{c:Expr}{t:TT}(h:PT X c t):Rr X [c] t:=fun pins s σ H Q I hq=>wpAny_tests_one (h pins s σ H Q I hq)
theorem HOk.add{P:ξ}{w:τ}{H:Hp}{h:Heap}{a:Addr}{o:HO}(x:HOk P w H h)(hn:H a=none)(new:ObjOk P w (upd H a o) h a o):HOk P w (upd H a o) h:=fun b u e=>by
 by_cases hb:b=a
 ·subst hb;rw[aA]at e;cases e;exact new
 ·rw[cP hb]at e;exact(x b u e).stay (fun c v _ q=>q) (fun c q=>by rw[cP (rC q hn)];exact q) fun c xs q=>by rw[cP (rC q hn)];exact q
theorem Un.add{fs ex:List Addr}{H H':Hp}{h h':Heap}{a:Addr}{o:HO}(u:Un fs ex H H' h h')(ha:h.objs.size<=a)(hn:H' a=none):Un fs ex H (upd H' a o) h h' where
 keep:=u.keep
 slot:=u.slot
 free:=fun b ob q n hx=>by rw[cP (iM (kW (fD q) ha))];exact u.free b ob q n hx
 there:=u.there
 tups:=fun b xs q=>by have:=u.tups b xs q;rw[cP (rC this hn)];exact this
 frzs:=fun b ob xs q=>by have:=u.frzs b ob xs q;rw[cP (rC this hn)];exact this
 tbls:=fun b ps q=>by obtain⟨m,e⟩:=u.tbls b ps q;exact⟨m,by rw[cP (rC e hn)];exact e⟩
noncomputable def vU(J:It)(ini:St)(H:Hp)(g:TG)(tc:TT)(te:TE)(Fin:List V->Hp->Prop):Prop:=
 ∃W:Nat->Nat->List V->St->Hp->Prop,(∃m,W 0 m [] ini H)/\∀i m acc σ H,W i m acc σ H->
  (J.stop i H/\acc.length<=sizeLine/\Fin acc H)\/(J.go i H/\acc.length<sizeLine/\∃N:List V->St->Hp->Prop,(∀acc' σ' H',N acc' σ' H'->∃m',m'<m/\W (i+1) m' acc' σ' H')/\∀x H',J.yld i H x H'->g x σ H' fun σ2 H2=>tc σ2 H2 fun b H3=>
   if b=true then te σ2 H3 fun v H4=>N (acc++[v]) σ2 H4 else N acc σ2 H3)
noncomputable def DP(wi:TI)(own:List Str)(ix:List Nat)(g:TG)(tc:TT)(te:TE):TE:=fun σ H Q=>wi σ H fun J H1=>
 vU J (zu own ix σ) H1 g tc te fun acc H'=>∀p,H' p=none->Q (.ref p) (upd H' p (.lst acc))
section
variable{K:W.Frag}{a:Addr}{xs:List V}{g:TG}{tc:TT}{te:TE}{Fin:List V->Hp->Prop}{ini:St}{H:Hp}
theorem Am(Pv:Nat->List V->St->Hp->Prop)(h0:Pv 0 [] ini H)(hl:∀(i:Nat) acc σ H,i<=xs.length->Pv i acc σ H->SqL K H a xs)(hz:∀(i:Nat) acc σ H,i<=xs.length->Pv i acc σ H->acc.length<=i)(hx:xs.length<=sizeLine)(hs:∀(i:Nat) x acc σ H,xs[i]? =some x->Pv i acc σ H->g x σ H fun σ2 H2=>tc σ2 H2 fun b H3=>if b=true then te σ2 H3 fun v H4=>Pv (i+1) (acc++[v]) σ2 H4 else Pv (i+1) acc σ2 H3)(hd:∀acc σ H,Pv xs.length acc σ H->Fin acc H):vU (Itl K a) ini H g tc te Fin:=by
 refine⟨fun i m acc σ H=>m=xs.length-i/\i<=xs.length/\Pv i acc σ H,⟨xs.length,by simp,dX _,h0⟩,?_⟩;rintro i m acc σ H ⟨rfl,hi,p⟩;have q:=hl i acc σ H hi p;have z:=hz i acc σ H hi p;by_cases hlt:i<xs.length
 ·refine .inr ⟨⟨xs,xs[i],q,by simp[hlt]⟩,by omega,fun acc σ H=>Pv (i+1) acc σ H,fun acc' σ' H' r=>⟨_,by omega,rfl,hlt,r⟩,fun x H' y=> ?_⟩;obtain⟨e,y⟩:=y;subst e;exact hs i x acc σ _ (y xs q) p
 ·have e:i=xs.length:=by omega
  subst e;exact .inl ⟨⟨xs,q,aR _⟩,by omega,hd acc σ H p⟩
theorem Al(Pv:Nat->List V->St->Hp->Prop)(h0:Pv 0 [] ini H)(hl:∀(i:Nat) acc σ H,i<=xs.length->Pv i acc σ H->SqT K H a xs)(hz:∀(i:Nat) acc σ H,i<=xs.length->Pv i acc σ H->acc.length<=i)(hx:xs.length<=sizeLine)(hs:∀(i:Nat) x acc σ H,xs[i]? =some x->Pv i acc σ H->g x σ H fun σ2 H2=>tc σ2 H2 fun b H3=>if b=true then te σ2 H3 fun v H4=>Pv (i+1) (acc++[v]) σ2 H4 else Pv (i+1) acc σ2 H3)(hd:∀acc σ H,Pv xs.length acc σ H->Fin acc H):vU (Itt K a) ini H g tc te Fin:=by
 refine⟨fun i m acc σ H=>m=xs.length-i/\i<=xs.length/\Pv i acc σ H,⟨xs.length,by simp,dX _,h0⟩,?_⟩;rintro i m acc σ H ⟨rfl,hi,p⟩;have q:=hl i acc σ H hi p;have z:=hz i acc σ H hi p;by_cases hlt:i<xs.length
 ·refine .inr ⟨⟨xs,xs[i],q,by simp[hlt]⟩,by omega,fun acc σ H=>Pv (i+1) acc σ H,fun acc' σ' H' r=>⟨_,by omega,rfl,hlt,r⟩,fun x H' y=> ?_⟩;obtain⟨e,y⟩:=y;subst e;exact hs i x acc σ _ (y xs q) p
 ·have e:i=xs.length:=by omega
  subst e;exact .inl ⟨⟨xs,q,aR _⟩,by omega,hd acc σ H p⟩
theorem Qy{lo:Int}{n:Nat}(Pv:Nat->List V->St->Hp->Prop)(h0:Pv 0 [] ini H)(hz:∀(i:Nat) acc σ H,i<=n->Pv i acc σ H->acc.length<=i)(hx:n<=sizeLine)(hs:∀(i:Nat) acc σ H,i<n->Pv i acc σ H->g (.int (lo+i)) σ H fun σ2 H2=>tc σ2 H2 fun b H3=>if b=true then te σ2 H3 fun v H4=>Pv (i+1) (acc++[v]) σ2 H4 else Pv (i+1) acc σ2 H3)(hd:∀acc σ H,Pv n acc σ H->Fin acc H):vU (Itr lo n) ini H g tc te Fin:=by
 refine⟨fun i m acc σ H=>m=n-i/\i<=n/\Pv i acc σ H,⟨n,by simp,dX _,h0⟩,?_⟩;rintro i m acc σ H ⟨rfl,hi,p⟩;have z:=hz i acc σ H hi p;by_cases hlt:i<n
 ·refine .inr ⟨hlt,by omega,fun acc σ H=>Pv (i+1) acc σ H,fun acc' σ' H' r=>⟨_,by omega,rfl,hlt,r⟩,fun x H' y=> ?_⟩;obtain⟨e,y⟩:=y;subst e y;exact hs i acc σ _ hlt p
 ·have e:i=n:=by omega
  subst e;exact .inl ⟨aR _,by omega,hd acc σ H p⟩
end
end L2
namespace uo
open PySem PySem.W PyProof.Rows
section
variable{O:KeyOrd}{key:Nat->O.α}{N:Nat}{cmp:Nat->Nat->(Bool->η->Prop)->η->Prop}{s:η}
noncomputable def kI(O:KeyOrd)(key:Nat->O.α)(N:Nat)(cmp:Nat->Nat->(Bool->η->Prop)->η->Prop)(s:η):Prop:=
 ∀i j (C:Bool->η->Prop),i<N->j<N->C (O.blt (key i) (key j)) s->cmp i j C s
noncomputable def KN(key:Nat->O.α)(p:Array Nat)(i:Nat):O.α:=key (p.getD i 0)
noncomputable def So(key:Nat->O.α)(p:Array Nat)(k:Nat):Prop:=∀i j,i<=j->j<k->O.kle (KN key p i) (KN key p j)
noncomputable def Ni(key:Nat->O.α)(p:Array Nat)(k:Nat):Prop:=∀i j,i<=j->j<k->O.kle (KN key p j) (KN key p i)
structure Ord(N:Nat)(p:Array Nat):Prop where
 perm:p.Perm (List.toArray (List.range N))
theorem Ord.size{p:Array Nat}(h:Ord N p):p.size=N:=by have:=h.perm.size_eq;simpa using this
theorem Ord.lt{p:Array Nat}(h:Ord N p){i:Nat}(hi:i<N):p.getD i 0<N:=by
 have hi':i<p.size:=by rw[h.size];exact hi
 have e:p.getD i 0=p[i]:=by simp[Array.getD,hi']
 rw[e];have m:p[i]∈p.toList:=by simp
 have:=(ydz.mp h.perm).mem_iff.mp m;simpa using this
theorem Ord.rev{p:Array Nat}(h:Ord N p)(i j:Nat):Ord N (kas_rev p i j):=⟨(mirror_perm _ _ _ _).trans h.perm⟩
theorem Ord.bub{p:Array Nat}(h:Ord N p)(i j:Nat):Ord N (bubble p i j):=⟨(bubble_perm _ _ _).trans h.perm⟩
theorem tW(p:Array Nat)(i:Nat):p.getD i 0=(p[i]?).getD 0:=by simp
theorem Dj{p:Array Nat}{i j:Nat}(hj:j<=p.size)(k:Nat):KN key (kas_rev p i j) k=if i<=k/\k<j then KN key p (i+j-1-k)else KN key p k:=by
 have e:=getElem?_mirror_all (i:=i) hj k;unfold KN kas_rev;rw[tW,e];split
 ·rw[tW]
 ·rw[tW]
theorem Wc{p:Array Nat}{i j:Nat}(hj:j<=p.size)(heq:∀k,i<=k->k<j->KN key p k=KN key p (j-1))(k:Nat):KN key (kas_rev p i j) k=KN key p k:=by
 rw[Dj hj];split
 ·rename_i h;rw[heq k h.1 h.2,heq _ (by omega) (by omega)]
 ·rfl
theorem Mu{p:Array Nat}{src d:Nat}(hs:src<p.size)(hd:d<=src)(k:Nat):KN key (bubble p src d) k=if k=src-d then KN key p src else if src-d<k/\k<=src then KN key p (k-1)else KN key p k:=by
 have e:=getElem?_bubble hs d hd k;have q:KN key (bubble p src d) k=key (((bubble p src d)[k]?).getD 0):=jz key (tW _ _);have q2:∀i,KN key p i=key ((p[i]?).getD 0):=fun i=>jz key (tW _ _);rw[q,e,q2,q2,q2];by_cases h1:k=src-d
 ·rw[au h1,au h1]
 ·rw[aq h1,aq h1];by_cases h2:src-d<k/\k<=src
  ·rw[au h2,au h2]
  ·rw[aq h2,aq h2]
theorem Fe{i j:Nat}(h:i<=j)(hn:¬i=j):i<=j-1:=Zw (QD h hn)
theorem Cw{j n:Nat}(h:j<n+1)(hn:¬j<n):j=n:=RG (QB h) (Nat.not_lt.mp hn)
theorem jV{x k:Nat}(h:1<=x)(hk:x<=k):x-1<k:=Wn h hk
theorem Cd{x f N:Nat}(h:x+(f+1)<=N):x<N:=kW (Nat.lt_add_of_pos_right (yd f)) h
theorem v7{x f N:Nat}(h:x+(f+1)<=N):x+1+f<=N:=cQ (Dw (ZD x f)) h
theorem QT{x f m:Nat}(h:m<=x+1+f):m<=x+(f+1):=cQ h (Dw (ZD x f))
theorem S9{i j n:Nat}(h:i<=j):0+n-1-j<=0+n-1-i:=Nat.sub_le_sub_left h _
theorem SX{i n:Nat}(h:i<n):0+n-1-i<n:=by
 rw[Nat.zero_add];exact Gh (ZG _ _) (Wn (Gh (dX _) h) (aR _))
theorem asc(ok:kI O key N cmp s){p:Array Nat}(hp:Ord N p){Q:Nat->η->Prop}:∀(f n:Nat),1<=n->n+f<=N->So key p n->(∀m,n<=m->m<=n+f->So key p m->(m=n+f\/O.klt (KN key p m) (KN key p (m-1)))->Q m s)->(kas_asc p f n).kasWp cmp Q s
 |0,n,_,_,hs,h=>h n (aR _) (aR _) hs (.inl rfl)
 |f+1,n,h1,hn,hs,h=>by
  have Uu:n<N:=Cd hn;refine ok _ _ _ (hp.lt Uu) (hp.lt (jV h1 (dD Uu))) ?_;cases hless:O.blt (key (p.getD n 0)) (key (p.getD (n-1) 0))with
  |true=>
   show Q n s;exact h n (aR _) (Vv _ _) hs (.inr hless)
  |false=>
   show(kas_asc p f (n+1)).kasWp cmp Q s;refine asc ok hp f (n+1) (yd _) (v7 hn) (fun i j hij hj=> ?_) fun m a b c d=>h m (wdl a) (QT b) c (d.imp (fun z=>z.trans (ZD n f)) id);by_cases hjn:j<n
   ·exact hs i j hij hjn
   ·have hj':j=n:=Cw hj hjn;subst hj';by_cases hi':i=j
    ·subst hi';exact way _
    ·exact wch (hs i (j-1) (Fe hij hi') (jV h1 (aR _))) hless
theorem tail3(ok:kI O key N cmp s){p:Array Nat}(hp:Ord N p){n:Nat}{Q:Nat×Array Nat->η->Prop}(h1:1<=n)(hn:n<=N)(hs:Ni key p n)(h:∀m p',Ord N p'->1<=m->m<=N->So key p' m->Q (m,p') s):(kas_tail3 n N p).kasWp cmp Q s:=by
 unfold kas_tail3;rw[Wy];have hsz:n<=p.size:=by rw[hp.size];exact hn
 have hN:n+(N-n)=N:=wcr hn;refine asc ok (hp.rev 0 n) (N-n) n h1 (Dw hN) (fun i j hij hj=> ?_) fun m a b c _=>h m _ (hp.rev 0 n) (cQ h1 a) (cQ b (Dw hN)) c;rw[Dj hsz,Dj hsz,au ⟨dX _,Gh hij hj⟩,au ⟨dX _,hj⟩];exact hs _ _ (S9 hij) (SX (Gh hij hj))
theorem Ma{p p':Array Nat}{x:Nat}(h1:1<=x)(hs:Ni key p x)(hless:O.kle (KN key p x) (KN key p (x-1)))(hk:∀k,KN key p' k=KN key p k):Ni key p' (x+1):=by
 intro i j hij hj;rw[hk,hk];by_cases hjx:j<x
 ·exact hs i j hij hjx
 ·have hj':j=x:=Cw hj hjx;subst hj';by_cases hi':i=j
  ·subst hi';exact way _
  ·exact wch hless (hs i (j-1) (Fe hij hi') (jV h1 (aR _)))
theorem one_eq{p:Array Nat}{x i:Nat}(h1:x+1-(0+1)<=i)(h2:i<x+1):KN key p i=KN key p (x+1-1):=jz _ (RG (QB h2) h1)
theorem desc(ok:kI O key N cmp s){Q:Array Nat×Nat×Nat->η->Prop}:∀(f:Nat) (p:Array Nat) (x neq:Nat),Ord N p->1<=x->x+f<=N->Ni key p x->neq+1<=x->(∀i,x-(neq+1)<=i->i<x->KN key p i=KN key p (x-1))->
  (∀p' m q,Ord N p'->x<=m->m<=x+f->Ni key p' m->q+1<=m->(∀i,m-(q+1)<=i->i<m->KN key p' i=KN key p' (m-1))->Q (p',m,q) s)->(kas_desc f p x neq).kasWp cmp Q s
 |0,p,x,neq,hp,_,_,hs,hq,he,h=>h p x neq hp (aR _) (aR _) hs hq he
 |f+1,p,x,neq,hp,h1,hn,hs,hq,he,h=>by
  have hxN:x<N:=Cd hn;have hsz:x<=p.size:=by rw[hp.size];exact dD hxN
  have hx1:x-1<N:=jV h1 (dD hxN);have hh:∀p' m q,Ord N p'->x+1<=m->m<=x+1+f->Ni key p' m->q+1<=m->(∀i,m-(q+1)<=i->i<m->KN key p' i=KN key p' (m-1))->Q (p',m,q) s:=fun p' m q a b c d e g=>h p' m q a (wdl b) (QT c) d e g;refine ok _ _ _ (hp.lt hxN) (hp.lt hx1) ?_;cases hless:O.blt (key (p.getD x 0)) (key (p.getD (x-1) 0))with
  |true=>
   show(if neq>0 then kas_desc f (kas_rev p (x-(neq+1)) x) (x+1) 0 else kas_desc f p (x+1) 0).kasWp cmp Q s;by_cases hneq:neq>0
   ·rw[au hneq];exact desc ok f _ (x+1) 0 (hp.rev _ _) (yd _) (v7 hn) (Ma h1 hs (WD hless) (Wc hsz he)) (yd _) (fun i h1 h2=>one_eq h1 h2) hh
   ·rw[aq hneq];exact desc ok f _ (x+1) 0 hp (yd _) (v7 hn) (Ma h1 hs (WD hless) fun _=>rfl) (yd _) (fun i h1 h2=>one_eq h1 h2) hh
  |false=>
   show(KasT.ask (p.getD (x-1) 0) (p.getD x 0) fun d=>if d=true then KasT.ret (p,x,neq)else kas_desc f p (x+1) (neq+1)).kasWp cmp Q s;refine ok _ _ _ (hp.lt hx1) (hp.lt hxN) ?_;cases hl:O.blt (key (p.getD (x-1) 0)) (key (p.getD x 0))with
   |true=>exact h p x neq hp (aR _) (Vv _ _) hs hq he
   |false=>
    show(kas_desc f p (x+1) (neq+1)).kasWp cmp Q s;have heqx:KN key p x=KN key p (x-1):=KeyOrd.kle_antisymm hl hless;refine desc ok f _ (x+1) (neq+1) hp (yd _) (v7 hn) (Ma h1 hs (by rw[heqx];exact way _) fun _=>rfl) (Nat.succ_le_succ hq) (fun i h1 h2=> ?_) hh;show KN key p i=KN key p x;by_cases hix:i=x
    ·subst hix;rfl
    ·rw[heqx];exact he i (cQ (Dw (Nat.succ_sub_succ x (neq+1)).symm) h1) (QD (QB h2) hix)
theorem descPart(ok:kI O key N cmp s){p:Array Nat}(hp:Ord N p){n:Nat}{Q:Nat×Array Nat->η->Prop}(hn:n+1<=N)(hs:Ni key p (n+1))(h:∀m p',Ord N p'->1<=m->m<=N->So key p' m->Q (m,p') s):(kas_descPart n N p).kasWp cmp Q s:=by
 unfold kas_descPart;rw[Wy];have hN:n+1+(N-(n+1))<=N:=Dw (wcr hn);refine desc ok _ _ _ _ hp (yd _) hN hs (yd _) (fun i h1 h2=>one_eq h1 h2) fun p' m q a b c d e g=> ?_;have hm:m<=N:=cQ c hN;have hm1:1<=m:=cQ (yd _) b;have hsz:m<=p'.size:=by rw[a.size];exact hm
 dsimp only;by_cases hq:q>0
 ·rw[au hq];refine tail3 ok (a.rev _ _) hm1 hm (fun i j hij hj=> ?_) h;rw[Wc hsz g,Wc hsz g];exact d i j hij hj
 ·rw[aq hq];exact tail3 ok a hm1 hm d h
theorem count(ok:kI O key N cmp s){p:Array Nat}(hp:Ord N p){Q:Nat×Array Nat->η->Prop}(h1:1<=N)(h:∀m p',Ord N p'->1<=m->m<=N->So key p' m->Q (m,p') s):(kas_count N p).kasWp cmp Q s:=by
 unfold kas_count;rw[Wy];have hN:1+(N-1)=N:=wcr h1;refine asc ok hp (N-1) 1 (aR _) (Dw hN) (fun i j hij hj=>by
  have hj0:j=0:=Nat.lt_one_iff.mp hj;subst hj0;have hi0:i=0:=Nat.le_zero.mp hij;subst hi0;exact way _) fun n a b hsn hor=> ?_
 have Uu:n<=N:=cQ b (Dw hN);by_cases hnn:n=N
 ·rw[au (by simpa using hnn)];exact h n p hp a Uu hsn
 ·rw[aq (by simpa using hnn)];have hlt:O.klt (KN key p n) (KN key p (n-1)):=hor.resolve_left fun z=>hnn (z.trans hN);have hln:n<N:=QD Uu hnn;by_cases hgt:n>1
  ·rw[au hgt];have hn1:n-1<n:=jV a (aR _);refine ok _ _ _ (hp.lt h1) (hp.lt (Nk hn1 hln)) ?_;cases hrose:O.blt (key (p.getD 0 0)) (key (p.getD (n-1) 0))with
   |true=>exact h n p hp a Uu hsn
   |false=>
    show(kas_descPart n N (kas_rev p 0 n)).kasWp cmp Q s;have hsz:n<=p.size:=by rw[hp.size];exact Uu
    have hall:∀k,0<=k->k<n->KN key p k=KN key p (n-1):=fun k _ hk=>
     KeyOrd.kle_antisymm (hsn k (n-1) (Zw hk) hn1) (wch hrose (hsn 0 k (dX _) hk))
    refine descPart ok (hp.rev 0 n) hln (fun i j hij hj=> ?_) h;rw[Wc hsz hall,Wc hsz hall];by_cases hjn:j<n
    ·rw[hall i (dX _) (Gh hij hjn),hall j (dX _) hjn];exact way _
    ·have hj':j=n:=Cw hj hjn;subst hj';by_cases hi':i=j
     ·subst hi';exact way _
     ·rw[hall i (dX _) (QD hij hi')];exact WD hlt
  ·rw[aq hgt];have hn1':n=1:=RG (Nat.not_lt.mp hgt) a;subst hn1';refine descPart ok hp hln (fun i j hij hj=> ?_) h;by_cases hi':i=j
   ·subst hi';exact way _
   ·have hij':i<j:=QD hij hi';have hj1:j=1:=RG (QB hj) (Gh (dX i) hij');subst hj1;have hi0:i=0:=Nat.lt_one_iff.mp hij';subst hi0;exact WD hlt
theorem half_lt{l r:Nat}(h:l<r):(l+r)/2<r:=by omega
theorem Pz{l r:Nat}(h:l<r):l<=(l+r)/2:=by omega
theorem place(ok:kI O key N cmp s){p:Array Nat}(hp:Ord N p){k:Nat}{Q:Nat->η->Prop}(hk:k<N)(hs:So key p k):∀(f l r:Nat),l<=r->r<=k->r-l<=f->(∀i,i<l->O.kle (KN key p i) (KN key p k))->(∀i,r<=i->i<k->O.klt (KN key p k) (KN key p i))->
  (∀l,l<=k->(∀i,i<l->O.kle (KN key p i) (KN key p k))->(∀i,l<=i->i<k->O.klt (KN key p k) (KN key p i))->Q l s)->(kas_place p k f l r).kasWp cmp Q s
 |0,l,r,hlr,hrk,hm,hlo,hhi,h=>by
  have e:l=r:=RG hlr (Nat.sub_eq_zero_iff_le.mp (Nat.le_zero.mp hm));subst e;exact h l hrk hlo hhi
 |f+1,l,r,hlr,hrk,hm,hlo,hhi,h=>by
  show(if l≥r then KasT.ret l else KasT.ask (p.getD k 0) (p.getD ((l+r)/2) 0) fun c=>if c=true then kas_place p k f l ((l+r)/2)else kas_place p k f ((l+r)/2+1) r).kasWp cmp Q s;by_cases hge:l≥r
  ·rw[au hge];have e:l=r:=RG hlr hge;subst e;exact h l hrk hlo hhi
  ·rw[aq hge];have hc:(l+r)/2<r:=half_lt (Nat.not_le.mp hge);have hd:l<=(l+r)/2:=Pz (Nat.not_le.mp hge);generalize (l+r)/2=c at hc hd⊢;refine ok _ _ _ (hp.lt hk) (hp.lt (Nk (kW hc hrk) hk)) ?_;cases hless:O.blt (key (p.getD k 0)) (key (p.getD c 0))with
   |true=>
    refine place ok hp hk hs f l c hd (dD (kW hc hrk)) (QB (kW (Nat.sub_lt_sub_right hd hc) hm)) hlo (fun i h1 h2=> ?_) h;by_cases hi:i=c
    ·subst hi;exact hless
    ·exact KeyOrd.klt_of_klt_of_kle hless (hs c i h1 h2)
   |false=>
    refine place ok hp hk hs f (c+1) r hc hrk (QB (kW (Nat.sub_lt_sub_left (Gh hd hc) (Nat.lt_succ_of_le hd)) hm)) (fun i h1=> ?_) hhi h;by_cases hi:i=c
    ·subst hi;exact hless
    ·exact wch (hs i c (QB h1) (kW hc hrk)) hless
theorem YM{p:Array Nat}{k l:Nat}(hs:So key p k)(hl:l<=k)(hsz:k<p.size)(hlo:∀i,i<l->O.kle (KN key p i) (KN key p k))(hhi:∀i,l<=i->i<k->O.klt (KN key p k) (KN key p i)):So key (bubble p k (k-l)) (k+1):=by
 intro i j hij hj;have e:k-(k-l)=l:=Nat.sub_sub_self hl;rw[Mu hsz (ZG _ _),Mu hsz (ZG _ _),e];have hjk:j<=k:=QB hj;by_cases hi1:i=l
 ·rw[au hi1];by_cases hj1:j=l
  ·rw[au hj1];exact way _
  ·have lj:l<j:=QD (hi1▸hij) (lQ hj1);rw[aq hj1,au ⟨lj,hjk⟩];exact WD (hhi (j-1) (Zw lj) (Wn (Gh (dX _) lj) hjk))
 ·rw[aq hi1];by_cases hi2:l<i/\i<=k
  ·have lj:l<j:=kW hi2.1 hij;rw[au hi2,aq (lQ (iM lj)),au ⟨lj,hjk⟩];exact hs _ _ (Nat.sub_le_sub_right hij 1) (Wn (Gh (dX _) lj) hjk)
  ·rw[aq hi2];have il:i<l:=QD (Nat.not_lt.mp fun z=>hi2 ⟨z,cQ hij hjk⟩) hi1;by_cases hj1:j=l
   ·rw[au hj1];exact hlo i il
   ·rw[aq hj1];by_cases hj2:l<j/\j<=k
    ·rw[au hj2];exact hs _ _ (Zw (Nk il hj2.1)) (Wn (Gh (dX _) hj2.1) hjk)
    ·rw[aq hj2];exact hs _ _ hij (kW (QD (Nat.not_lt.mp fun z=>hj2 ⟨z,hjk⟩) hj1) hl)
theorem bins(ok:kI O key N cmp s){Q:Array Nat->η->Prop}:∀(f:Nat) (p:Array Nat) (k:Nat),Ord N p->1<=k->k+f=N->So key p k->(∀p',Ord N p'->So key p' N->Q p' s)->(kas_bin f p k).kasWp cmp Q s
 |0,p,k,hp,_,hf,hs,h=>h p hp ((show k=N from hf)▸hs)
 |f+1,p,k,hp,h1,hf,hs,h=>by
  show((kas_place p k k 0 k).bind fun l=>kas_bin f (bubble p k (k-l)) (k+1)).kasWp cmp Q s;rw[Wy];have hk:k<N:=Cd (Dw hf);have hsz:k<p.size:=by rw[hp.size];exact hk
  refine place ok hp hk hs k 0 k (dX _) (aR _) (ZG _ _) (fun i hi=>absurd hi (RD _)) (fun i h1 h2=>absurd h2 (Nat.not_lt.mpr h1)) fun l hl hlo hhi=> ?_;exact bins ok f _ (k+1) (hp.bub _ _) (yd _) ((ZD k f).trans hf) (YM hs hl hsz hlo hhi) h
theorem sort(ok:kI O key N cmp s){Q:Array Nat->η->Prop}(h1:1<=N)(h:∀p',Ord N p'->So key p' N->Q p' s):(kas_sort N).kasWp cmp Q s:=by
 unfold kas_sort;rw[Wy];refine count ok ⟨Array.Perm.refl _⟩ h1 fun m p' hp hm1 hm2 hs=> ?_;dsimp only;by_cases hlt:m<N
 ·rw[au hlt];have e:max m 1=m:=by omega
  rw[e];exact bins ok _ _ _ hp hm1 (by omega) hs h
 ·rw[aq hlt];have e:m=N:=by omega
  subst e;exact h p' hp hs
end
end uo
namespace uo
open PySem PySem.W PyProof.Rows PySem.Calls
noncomputable def Mt{O:KeyOrd}(key:Nat->O.α)(vs out:List ζ):Prop:=∃p:Array Nat,Ord vs.length p/\So key p vs.length/\out=p.toList.map fun i=>vs.getD i Value.none
section
variable{prog:ξ}{w:τ}{A:Around}{E:L3}{s:η}{O:KeyOrd}{key:Nat->O.α}{κ:SortKind}{vs:List ζ}
theorem BK(h2:vs.length<2):Mt key vs vs:=by
 refine⟨List.toArray (List.range vs.length),⟨Array.Perm.refl _⟩,fun i j hij hj=> ?_,?_⟩
 ·have e:i=j:=by omega
  subst e;exact way _
 ·match vs,h2 with
  |[],_=>rfl
  |[v],_=>rfl
  |_::_::_,h=>simp at h;omega
theorem lV{a:Addr}{n:Nat}{P:PySem.Fin->η->Prop}(ho:s.heap.get? a=some (seqObj "list" vs.toArray n))(h64:vs.length<64)(hkind:2<=vs.length->∀h',(∀b o,b≠a->s.heap.get? b=some o->h'.get? b=some o)->∀Q:SortKind->η->Prop,Q κ {s with heap:=h'}->wpAny (model prog w) A (keyKind' vs.toArray) Q E {s with heap:=h'})(K6:2<=vs.length->∀h',(∀b o,b≠a->s.heap.get? b=some o->h'.get? b=some o)->kI O key vs.length (kas_ask prog w A κ vs) {s with heap:=h'})(h:∀h' out c,Mt key vs out->(∀b o,b≠a->s.heap.get? b=some o->h'.get? b=some o)->h'.get? a=some (seqObj "list" (List.toArray out) c)->P (.done (.ret .none)) {s with heap:=h'}):
  wpAny (model prog w) A (Builtin.«list.sort» ⟨[.ref a],[]⟩) P E s:=by
 have ha:a<s.heap.objs.size:=fD ho;have s1:=WM s.heap a (Obj.mapSeq fun _=>(#[]:Array ζ));obtain⟨e1,ho1⟩:∃e1,(s.heap.update a (Obj.mapSeq fun _=>(#[]:Array ζ))).get? a=some (seqObj "list" #[] e1):=⟨_,Z6 ho fun _=>#[]⟩;have keep:∀b o,b≠a->s.heap.get? b=some o->(((s.heap.update a (Obj.mapSeq fun _=>(#[]:Array ζ))).push (seqObj "tuple" vs.toArray 0)).push (seqObj "list" #[] 0)).get? b=some o:=fun b o hb e=>
  eV _ (eV _ ((s1.2 b hb).trans e))
 have ho6:(((s.heap.update a (Obj.mapSeq fun _=>(#[]:Array ζ))).push (seqObj "tuple" vs.toArray 0)).push (seqObj "list" #[] 0)).get? a=some (seqObj "list" #[] e1):=eV _ (eV _ ho1);rw[list_sort_plain];refine aY (listItems_at ho rfl ?_);refine aY (ZS ho rfl ?_ (by rw[iw,iz];omega) (dX _));refine aY (seqEpoch_at ho1 rfl ?_);refine aY (wpAny_newTuple ?_ (by show vs.length<=_;rw[iz];omega));refine aY (ZR ?_ (dX _));refine VG ?_;show wpAny (model prog w) A _ P E {s with heap:=((s.heap.update a (Obj.mapSeq fun _=>(#[]:Array ζ))).push (seqObj "tuple" vs.toArray 0)).push (seqObj "list" #[] 0)};dsimp only;by_cases h2:vs.toArray.size<2
 ·have h2':vs.length<2:=by simpa using h2
  rw[au h2,au h2];refine aY (eU ?_);rw[StateT.run_pure];refine aY (eU ?_);dsimp only;refine aY (seqEpoch_at ho6 rfl ?_);refine aY (ZS ho6 rfl ?_ (dX _) (by rw[Array.size_map];show(pairsOf vs).size<=_;rw[pairsOf_size,iz];omega));simp only[bne_self_eq_false,Bool.false_eq_true,if_false];refine eU ?_;have eo:(vs.toArray.zip vs.toArray).map (·.2)=List.toArray vs:=by
   apply Array.toList_inj.mp;simp[List.map_snd_zip]
  have s2:=WM (((s.heap.update a (Obj.mapSeq fun _=>(#[]:Array ζ))).push (seqObj "tuple" vs.toArray 0)).push (seqObj "list" #[] 0)) a (Obj.mapSeq fun _=>List.toArray vs);obtain⟨c2,hc2⟩:∃c2,((((s.heap.update a (Obj.mapSeq fun _=>(#[]:Array ζ))).push (seqObj "tuple" vs.toArray 0)).push (seqObj "list" #[] 0)).update a (Obj.mapSeq fun _=>List.toArray vs)).get? a=some (seqObj "list" (List.toArray vs) c2):=⟨_,Z6 ho6 fun _=>List.toArray vs⟩;have fin:=h _ vs c2 (BK h2') (fun b o hb e=>(s2.2 b hb).trans (keep b o hb e)) hc2
  first
   |exact fin
   |(rw[<-eo]at fin;exact fin)
   |(show P _ {s with heap:=Heap.update _ a (Obj.mapSeq fun _=>(vs.toArray.zip vs.toArray).map (·.2))};rw[eo];exact fin)
 ·have h2':2<=vs.length:=by rw[iw]at h2;omega
  rw[aq h2,aq h2];refine aY (hkind h2' _ keep _ ?_);refine aY (M5 (kat_run (Q:=fun st' s'=>s'={s with heap:=((s.heap.update a (Obj.mapSeq fun _=>(#[]:Array ζ))).push (seqObj "tuple" vs.toArray 0)).push (seqObj "list" #[] 0)}/\∃p:Array Nat,p.size=vs.length/\arrOf st'=p.map (kas_item (vs.toArray.zip vs.toArray))/\failedOf st'=none/\Ord vs.length p/\So key p vs.length)
   (G:=fun p s'=>s'={s with heap:=((s.heap.update a (Obj.mapSeq fun _=>(#[]:Array ζ))).push (seqObj "tuple" vs.toArray 0)).push (seqObj "list" #[] 0)}/\Ord vs.length p/\So key p vs.length)
   rfl h2' h64 (fun p' st' s' a1 a2 a3 a4=>⟨a4.1,p',a1,a2,a3,a4.2.1,a4.2.2⟩) (sort (K6 h2' _ keep) (by omega) fun p' hp hs=>⟨rfl,hp,hs⟩)) ?_ fun _ _ e=>e)
  rintro⟨⟨⟩,st'⟩ s' ⟨rfl,p,hp,har,hf,hor,hso⟩;dsimp only;have hout:=kat_snds rfl har;have hsz:(List.toArray (p.toList.map fun i=>vs.getD i Value.none)).size=vs.length:=by rw[iw,aH,RM,hp]
  rw[hout];refine aY (seqEpoch_at ho6 rfl ?_);refine aY (ZS ho6 rfl ?_ (dX _) (cQ (Dw hsz) (by rw[iz];omega)));rw[hf];simp only[bne_self_eq_false,Bool.false_eq_true,if_false];have s2:=WM (((s.heap.update a (Obj.mapSeq fun _=>(#[]:Array ζ))).push (seqObj "tuple" vs.toArray 0)).push (seqObj "list" #[] 0)) a (Obj.mapSeq fun _=>List.toArray (p.toList.map fun i=>vs.getD i Value.none));obtain⟨c2,hc2⟩:∃c2,((((s.heap.update a (Obj.mapSeq fun _=>(#[]:Array ζ))).push (seqObj "tuple" vs.toArray 0)).push (seqObj "list" #[] 0)).update a (Obj.mapSeq fun _=>List.toArray (p.toList.map fun i=>vs.getD i Value.none))).get? a=some (seqObj "list" (List.toArray (p.toList.map fun i=>vs.getD i Value.none)) c2):=⟨_,Z6 ho6 fun _=>_⟩;exact eU (h _ _ c2 ⟨p,hor,hso,rfl⟩ (fun b o hb e=>(s2.2 b hb).trans (keep b o hb e)) hc2)
theorem sS{l:Addr}{Q:L3}(hl:s.heap.IsList l vs.toArray)(h64:vs.length<64)(hkind:2<=vs.length->∀h',(∀b o,s.heap.get? b=some o->h'.get? b=some o)->∀(E:L3) (Q:SortKind->η->Prop),Q κ {s with heap:=h'}->wpAny (model prog w) A.in1.in1 (keyKind' vs.toArray) Q E {s with heap:=h'})(K6:2<=vs.length->∀h',(∀b o,s.heap.get? b=some o->h'.get? b=some o)->kI O key vs.length (kas_ask prog w A.in1.in1 κ vs) {s with heap:=h'})(h:∀D h' out c,Mt key vs out->s.heap.objs.size<=D->(∀b o,s.heap.get? b=some o->h'.get? b=some o)->h'.get? D=some (seqObj "list" (List.toArray out) c)->Q (.ref D) {s with heap:=h'}):
  wpAny (model prog w) A (call (.builtin "sorted") [.ref l]) Q E s:=by
 refine Calls.call_function_entry kind_sorted plain_sorted entry_sorted (args_sorted1 _) ?_;unfold Builtin.«sorted»;refine aY (m:=checkCount "sorted" 1 1 _) (eU ?_);refine aY (collect_list hl ?_ (by rw[iz];omega));refine aY (ZR ?_ (by rw[iz];omega));have hsz:((s.heap.push (seqObj "list" #[] 0)).update s.heap.objs.size (Obj.mapSeq (· ++vs.toArray))).objs.size=s.heap.objs.size+1:=by
  rw[Heap.size_update,size_push']
 have hoL:(((s.heap.push (seqObj "list" #[] 0)).update s.heap.objs.size (Obj.mapSeq (· ++vs.toArray))).push (seqObj "list" vs.toArray 0)).get? (s.heap.objs.size+1)=some (seqObj "list" vs.toArray 0):=by
  rw[<-hsz];exact nG _ rfl
 have keep:∀b o,s.heap.get? b=some o->(((s.heap.push (seqObj "list" #[] 0)).update s.heap.objs.size (Obj.mapSeq (· ++vs.toArray))).push (seqObj "list" vs.toArray 0)).get? b=some o:=fun b o q=>by
  have hlt:b<s.heap.objs.size:=fD q;rw[wcd _ _ _ (by rw[hsz];exact iM (uK hlt)),Heap.get?_update_ne _ _ _ _ (iM hlt),wcd _ _ _ (iM hlt)];exact q
 have ne:∀b o,s.heap.get? b=some o->b≠s.heap.objs.size+1:=fun b o q=>iM (uK (fD q));show wpAny _ _ _ _ _ {s with heap:=((s.heap.push (seqObj "list" #[] 0)).update s.heap.objs.size (Obj.mapSeq (· ++vs.toArray))).push (seqObj "list" vs.toArray 0)};rw[hsz];refine aY (VG (VH slot_list_sort ⟨_,hoL,rfl⟩ entry_list_sort ?body (args_list_sort _)))
 case body=>
  refine lV (key:=key) (κ:=κ) (s:={s with heap:=((s.heap.push (seqObj "list" #[] 0)).update s.heap.objs.size (Obj.mapSeq (· ++vs.toArray))).push (seqObj "list" vs.toArray 0)}) hoL h64
   (fun h2 h' k Q hq=>hkind h2 h' (fun b o q=>k b o (ne b o q) (keep b o q)) _ Q hq) (fun h2 h' k=>K6 h2 h' fun b o q=>k b o (ne b o q) (keep b o q)) fun h' out c ho k hc=> ?_
  exact⟨_,rfl,eU ⟨_,rfl,h _ h' out c ho (MK _) (fun b o q=>k b o (ne b o q) (keep b o q)) hc⟩⟩
end
end uo
namespace HT
open PySem PyProof.Rows
theorem bR:∀(a b:List Int),lexLt a b=decide (a<b)
 |[],[]=>by simp[lexLt]
 |[],_::_=>by simp[lexLt]
 |_::_,[]=>by simp[lexLt]
 |x::xs,y::ys=>by
  rw[lexLt_cons,bR xs ys];by_cases e:x=y
  ·subst e;simp
  ·rw[aq e];by_cases l:x<y
   ·simp[l,Zy]
   ·have:¬(x::xs<y::ys):=by rw[Zy];simp[l,e]
    simp[l,this]
end HT
namespace uo
open PySem PySem.W PyProof.Rows PySem.Calls
noncomputable def lexOrd:KeyOrd where
 α:=List Int
 blt a b:=decide (a<b)
 irrefl a:=by simpa using List.lt_irrefl a
 trans a b c h1 h2:=by simp only[M6]at *;exact List.lt_trans h1 h2
 negTrans a b c h:=by
  simp only[M6]at *;by_cases hab:a<b
  ·exact .inl hab
  ·exact .inr (List.lt_of_le_of_lt (List.not_lt.mp hab) h)
 total a b h1 h2:=by simp only[wbu]at *;exact List.le_antisymm (List.not_lt.mp h2) (List.not_lt.mp h1)
section
variable{prog:ξ}{w:τ}{A:Around}{s:η}{Q:Bool->η->Prop}
theorem tU{na nb:Nat}{xs ys:List ζ}{ns ms:List Int}(i:Nat)(hx:IntsAre xs ns)(hy:IntsAre ys ms)(hl:ns.length+nb=ms.length+na)(h:Q (HT.lexLt ns ms) s):KatLex prog w A true (decide (na<nb)) Q (xs.zip ys) i s:=by
 induction hx generalizing ys ms i with
 |nil=>
  rw[List.zip_nil_left];refine kat_nil ?_;cases hy with
  |nil=>
   rw[HT.lexLt_nil_nil]at h;rw[jK (by simp only[Nq]at hl;omega)];exact h
  |cons c u hw=>
   rw[HT.lexLt_nil_cons]at h;rw[cI (by simp only[Nq,yj]at hl;omega)];exact h
 |cons a t hv ih=>
  cases hy with
  |nil=>
   rw[List.zip_nil_right];refine kat_nil ?_;rw[HT.lexLt_cons_nil]at h;rw[jK (by simp only[Nq,yj]at hl;omega)];exact h
  |cons c u hw=>
   rw[wde];rw[HT.lexLt_cons]at h;refine kat_cons (wpAny_eqBool_int ?_);refine kat_go (fun e=> ?_) fun e=> ?_
   ·have e':a=c:=by simpa using e
    rw[au e']at h;exact kat_yes (ih (i+1) hw (by simp only[yj]at hl;omega) h)
   ·have e':a≠c:=by simpa using e
    rw[aq e']at h;refine kat_no ?_;cases i with
    |zero=>exact oneLt_int h
    |succ i=>exact kat_one _ _ (lt_int (show PySem.W.BoolBack Q (.bool (decide (a<c))) s from h))
end
theorem wD{O:KeyOrd}{key:Nat->O.α}{α:Type}{vs out:List ζ}{its:List α}{d:α}{f:α->O.α}{R:α->ζ->Prop}(hR:Paired R its vs)(hk:∀i (hi:i<its.length),key i=f its[i])(h:Mt key vs out):
  ∃its':List α,its'.Perm its/\Paired R its' out/\its'.Pairwise fun x y=>O.kle (f x) (f y):=by
 obtain⟨p,hp,hs,rfl⟩:=h;have hl:=hR.length;have get:∀{l₁:List α} {l₂:List ζ} {i:Nat},Paired R l₁ l₂->(h:i<l₁.length)->∃v,l₂[i]? =some v/\R l₁[i] v:=by
  intro l₁ l₂ i q
  induction q generalizing i with
  |nil=>intro h;simp at h
  |cons r t ih=>
   intro h;cases i with
   |zero=>exact⟨_,rfl,r⟩
   |succ i=>
    obtain⟨v,e,rv⟩:=ih (i:=i) (by simpa using h);exact⟨v,by simpa using e,by simpa using rv⟩
 have hlt:∀i∈p.toList,i<its.length:=fun i hi=>by
  have:=(ydz.mp hp.perm).mem_iff.mp hi;rw[hl];simpa using this
 refine⟨p.toList.map fun i=>its.getD i d,?_,?_,?_⟩
 ·have q:=(ydz.mp hp.perm).map (fun i=>its.getD i d);refine q.trans ?_;have e:(List.toArray (List.range vs.length)).toList.map (fun i=>its.getD i d)=its:=by
   rw[<-hl];apply wce;intro i;simp only[dY];by_cases hi:i<its.length
   ·simp[hi]
   ·simp[hi]
  rw[e]
 ·have mk:∀l:List Nat,(∀i∈l,i<its.length)->Paired R (l.map fun i=>its.getD i d) (l.map fun i=>vs.getD i Value.none):=by
   intro l
   induction l with
   |nil=>intro _;exact .nil
   |cons i l ih=>
    intro hb;refine .cons ?_ (ih fun j hj=>hb j (jy _ hj));have hi:=hb i jx;obtain⟨v,e,r⟩:=get hR hi;have e1:its.getD i d=its[i]:=by simp[hi]
    have e2:vs.getD i Value.none=v:=by rw[iR,e];rfl
    show R (its.getD i d) (vs.getD i Value.none);rw[e1,e2];exact r
  exact mk _ hlt
 ·rw[Vy];intro i j hi hj hij;simp only[aH,RM]at hi hj;simp only[List.getElem_map];have hsz:=hp.size;have q:=hs i j (by omega) (by omega);have e:∀k (hk':k<p.size),KN key p k=f (its.getD p.toList[k] d):=fun k hk'=>by
   have e1:p.getD k 0=p.toList[k]:=by simp[Array.getD,hk']
   have hb:=hlt p.toList[k] (Ay _);have e2:its.getD p.toList[k] d=its[p.toList[k]]:=by simp only[iR,eO hb,wed]
   unfold KN;rw[e1,e2];exact hk _ hb
  rw[e i hi,e j hj]at q;exact q
end uo
namespace L2
open PySem PySem.Spec PyProof.Rows PySem.W
section
variable{X:Cx}
theorem jk:CallR X (.builtin "sorted") (fun xs H Q=>∃(a:Addr) (its:List (Addr×List Int)),xs=[.ref a]/\SqL X.K H a (its.map fun p=>V.ref p.1)/\(∀p∈its,SqT X.K H p.1 (p.2.map V.int)/\p.2≠[])/\its.length<64/\
  ∀(l:Addr) (its':List (Addr×List Int)),H l=none->its'.Perm its->its'.Pairwise (fun p q=>HT.lexLt q.2 p.2=false)->Q (.ref l) (upd H l (.lst (its'.map fun p=>V.ref p.1)))):=by
 intro pins s σ H xs us Q I r h;obtain⟨a,its,rfl,hS,hT,h64,q⟩:=h;obtain⟨u,rfl,ru⟩:=r.one;cases ru;obtain⟨vs,rv,pl,hz⟩:=I.list hS;have hlen:its.length=vs.length:=by have:=rv.length;simpa using this
 -- the values beside the tuples
 have pr:Paired (fun(p:Addr×List Int) (v:ζ)=>v= .ref p.1) its vs:=by
  have go:∀(l:List (Addr×List Int)) (us:List ζ),Vals (l.map fun p=>V.ref p.1) us->Paired (fun(p:Addr×List Int) (v:ζ)=>v= .ref p.1) l us:=by
   intro l
   induction l with
   |nil=>intro us h;cases h;exact .nil
   |cons p l ih=>
    intro us h;cases h with
    |cons r t=>exact .cons r (ih _ t)
  exact go its vs rv
 have tup:∀p∈its,∃(items:List ζ),IntsAre items p.2/\IsTup s.heap p.1 items.toArray:=fun p hp=>by
  obtain⟨its',r',t',_⟩:=I.tuple (hT p hp).1;exact⟨its',intsAre_of r',t'⟩
 refine uo.sS (O:=uo.lexOrd) (key:=fun i=>(its.getD i (0,[])).2) (κ:=tuples' true) (s:=s) pl.isList (by omega) (fun h2 h' k E' Q' hq=> ?_) (fun h2 h' k=> ?_) (fun D h' out c ho hD k hc=> ?_)
 ·have kt:∀(l:List (Addr×List Int)) (us:List ζ),Paired (fun(p:Addr×List Int) (v:ζ)=>v= .ref p.1) l us->(∀p∈l,p∈its)->∃fs:List ζ,KatTups h' us fs/\fs.length=us.length/\∀v∈fs,∃i t,v=Value.int i t:=by
   intro l us h
   induction h with
   |nil=>intro _;exact⟨[],trivial,rfl,fun _ hv=>nomatch hv⟩
   | @cons p v l us r t ih=>
    intro hs;obtain⟨fs,k1,k2,k3⟩:=ih fun p hp=>hs p (jy _ hp);obtain⟨items,hi,o,e,hc,n,hd⟩:=tup p (hs p jx);have hne:=(hT p (hs p jx)).2;obtain⟨pa,pn⟩:=p;dsimp only at hi hne e r;cases hi with
    |nil=>exact absurd rfl hne
    |cons i t hi'=>
     rw[r];refine⟨Value.int i t::fs,KatTups.cons (k _ _ e) hc hd (by simp) k1,by simp[k2],fun v hv=> ?_⟩;rcases cW.mp hv with e|e
     ·exact⟨i,t,e⟩
     ·exact k3 v e
  obtain⟨fs,k1,k2,k3⟩:=kt its vs pr fun _ hp=>hp;refine kat_kind (s:={s with heap:=h'}) (T:= .type "int") k1 (by omega) (fun v hv=> ?_) (by rfl) hq;obtain⟨i,t,rfl⟩:=k3 v hv;exact fun A Q E s _ q=>eU q
 ·intro i j C hi hj hC;rw[<-hlen]at hi hj;have get:∀i (hi:i<its.length),vs.getD i Value.none= .ref its[i].1:=by
   have go:∀(l:List (Addr×List Int)) (us:List ζ),Paired (fun(p:Addr×List Int) (v:ζ)=>v= .ref p.1) l us->∀i (hi:i<l.length),us.getD i Value.none= .ref l[i].1:=by
    intro l us h
    induction h with
    |nil=>intro i hi;simp at hi
    |cons r t ih=>
     intro i hi;cases i with
     |zero=>exact r
     |succ i=>simpa using ih i (by simpa using hi)
   exact go its vs pr
  unfold kas_ask;rw[get i hi,get j hj];obtain⟨xi,hxi,oi,ei,ci,ni,di⟩:=tup its[i] (Ay _);obtain⟨xj,Rj,oj,ej,cj,nj,dj⟩:=tup its[j] (Ay _);refine kat_lt (s:={s with heap:=h'}) (k _ _ ei) di (k _ _ ej) dj ?_;refine uo.tU 0 hxi Rj ?_ ?_
  ·have:=hxi.length;have:=Rj.length;simp only[iw];omega
  ·rw[HT.bR];have e1:its.getD i (0,[])=its[i]:=by simp[hi]
   have e2:its.getD j (0,[])=its[j]:=by simp[hj]
   have hC':C (decide ((its.getD i (0,[])).2<(its.getD j (0,[])).2)) {s with heap:=h'}:=hC;rw[e1,e2]at hC';exact hC'
 ·obtain⟨its',hp,hr,hw⟩:=uo.wD (d:=((0,[]):Addr×List Int)) (f:=fun p=>p.2) pr (fun i hi=>by show(its.getD i (0,[])).2=_;simp[hi]) ho;have hn:H D=none:=I.hok.fresh hD;have rv':Vals (its'.map fun p=>V.ref p.1) out:=by
   have go:∀(l:List (Addr×List Int)) (us:List ζ),Paired (fun(p:Addr×List Int) (v:ζ)=>v= .ref p.1) l us->Vals (l.map fun p=>V.ref p.1) us:=by
    intro l us h
    induction h with
    |nil=>exact .nil
    |cons r t ih=>exact .cons r ih
   exact go its' out hr
  have zl:(its'.map fun p=>V.ref p.1).length<=sizeLine:=by
   have:=hp.length_eq;rw[aH];exact dD (small1000 (by omega))
  have J:Inv X pins σ (upd H D (.lst (its'.map fun p=>V.ref p.1))) {s with heap:=h',toks:=s.toks}:=I.laid k hD ⟨zl,out,c,rv',hc⟩;refine⟨.ref D,_,J,rfl,q D its' hn hp (hw.imp fun{x y} hxy=> ?_)⟩;rw[HT.bR];exact hxy
end
end L2
namespace L2
open PySem PySem.Spec PyProof.Rows
section
variable{X:Cx}
theorem uh:∀{bs:List Bool} {us:List ζ},Vals (bs.map V.bl) us->us=bs.map Value.bool
 |[],_,h=>by cases h;rfl
 |b::bs,_,h=>by
  cases h with
  |cons r t=>rw[yg,uh t];exact jz (· ::_) r
theorem eG(hc:X.calm=true):CallR X (.builtin "all") (fun xs H Q=>∃(a:Addr) (bs:List Bool),xs=[.ref a]/\SqL X.K H a (bs.map V.bl)/\Q (.bl (bs.all id)) H):=by
 intro pins s σ H xs us Q I r h;obtain⟨a,bs,rfl,hS,q⟩:=h;obtain⟨u,rfl,ru⟩:=r.one;cases ru;obtain⟨vs,rv,pl,hz⟩:=I.list hS;have hv:=uh rv;have hl:=pl.isList;have hlt:a<s.heap.objs.size:=by obtain⟨_,e,_⟩:=hl;exact fD e
 refine call_all_walk (Wz hl ?_);refine⟨s.heap.objs.size,[s.heap.objs.size,a],[s.heap.objs.size],vs.toArray.size,_,_,fun i=>(bs[i]?).getD true,rfl,Walks.list (A:=X.A.in1) (I.ok.hd hc) _ a (iM hlt) vs.toArray,
  ⟨⟨_,nG _ rfl,rfl,rfl⟩,hl.push _⟩,fun i v s' Q' E' hP hQ=> ?_,fun h' tk hk=> ?_⟩
 ·have hP':vs[i]? =some v:=by simpa using hP
  rw[hv,dY]at hP';cases e:bs[i]? with
  |none=>rw[e]at hP';cases hP'
  |some b=>
   rw[e]at hP';cases hP';simp only[e,wed]at hQ;exact Iz hQ
 ·have e:((List.range vs.toArray.size).all fun i=>(bs[i]?).getD true)=bs.all id:=by
   rw[iw,hv,aH];exact LSm.range_all bs
  rw[e];exact⟨.bl _,H,I.kept (LSm.kept_iter hk),rfl,q⟩
theorem Mj(hc:X.calm=true):CallR X (.builtin "any") (fun xs H Q=>∃(a:Addr) (bs:List Bool),xs=[.ref a]/\SqL X.K H a (bs.map V.bl)/\Q (.bl (bs.any id)) H):=by
 intro pins s σ H xs us Q I r h;obtain⟨a,bs,rfl,hS,q⟩:=h;obtain⟨u,rfl,ru⟩:=r.one;cases ru;obtain⟨vs,rv,pl,hz⟩:=I.list hS;have hv:=uh rv;have hl:=pl.isList;have hlt:a<s.heap.objs.size:=by obtain⟨_,e,_⟩:=hl;exact fD e
 refine call_any_walk (Wz hl ?_);refine⟨s.heap.objs.size,[s.heap.objs.size,a],[s.heap.objs.size],vs.toArray.size,_,_,fun i=>(bs[i]?).getD false,rfl,Walks.list (A:=X.A.in1) (I.ok.hd hc) _ a (iM hlt) vs.toArray,
  ⟨⟨_,nG _ rfl,rfl,rfl⟩,hl.push _⟩,fun i v s' Q' E' hP hQ=> ?_,fun h' tk hk=> ?_⟩
 ·have hP':vs[i]? =some v:=by simpa using hP
  rw[hv,dY]at hP';cases e:bs[i]? with
  |none=>rw[e]at hP';cases hP'
  |some b=>
   rw[e]at hP';cases hP';simp only[e,wed]at hQ;exact Iz hQ
 ·have e:((List.range vs.toArray.size).any fun i=>(bs[i]?).getD false)=bs.any id:=by
   rw[iw,hv,aH];exact LSm.range_any bs
  rw[e];exact⟨.bl _,H,I.kept (LSm.kept_iter hk),rfl,q⟩
noncomputable def Ru(K:W.Frag)(H:Hp):V->String->Prop
 | .non,T=>T="NoneType"
 | .bl _,T=>T="bool"
 | .int _,T=>T="int"
 | .str _,T=>T="str"
 | .ref a,T=>(T="tuple"/\∃xs,SqT K H a xs)\/(T="list"/\∃xs,SqL K H a xs)\/(T="dict"/\∃kvs,H a=some (.dK kvs))
 |_,_=>False
noncomputable def wV(T C:String):Bool:=T==C||(T=="bool"&&C=="int")
theorem Mz:CallR X (.builtin "isinstance") (fun xs H Q=>∃(x:V) (T C:String),xs=[x,.ty C]/\Ru X.K H x T/\(C="int"\/C="bool"\/C="tuple"\/C="list")/\Q (.bl (wV T C)) H):=by
 intro pins s σ H xs us Q I r h;obtain⟨x,T,C,rfl,hk,hC,q⟩:=h;obtain⟨u,v,rfl,ru,rv⟩:=r.two;cases rv;have Lx:∀b,b=wV T C->EP X pins σ Q (.bool b) s:=fun b e=>⟨.bl b,H,I,rfl,by rw[e];exact q⟩;have gk:∀b,b=wV T C->EP X pins σ Q (.bool b) {s with toks:=s.toks+1}:=fun b e=>⟨.bl b,H,I.tok _,rfl,by rw[e];exact q⟩;cases x with
 |non=>
  cases ru;cases hk;rcases hC with rfl|rfl|rfl|rfl
  ·exact IsiPair.NoneType_int (gk _ rfl)
  ·exact IsiPair.NoneType_bool (gk _ rfl)
  ·exact IsiPair.NoneType_tuple (gk _ rfl)
  ·exact IsiPair.NoneType_list (gk _ rfl)
 |bl b=>
  cases ru;cases hk;rcases hC with rfl|rfl|rfl|rfl
  ·exact IsiPair.bool_int (Lx _ rfl)
  ·exact IsiPair.bool_bool (Lx _ rfl)
  ·exact IsiPair.bool_tuple (gk _ rfl)
  ·exact IsiPair.bool_list (gk _ rfl)
 |int i=>
  obtain⟨t,rfl⟩:=ru;cases hk;rcases hC with rfl|rfl|rfl|rfl
  ·exact IsiPair.int_int (Lx _ rfl)
  ·exact IsiPair.int_bool (gk _ rfl)
  ·exact IsiPair.int_tuple (gk _ rfl)
  ·exact IsiPair.int_list (gk _ rfl)
 |str z=>
  obtain⟨t,rfl⟩:=ru;cases hk;rcases hC with rfl|rfl|rfl|rfl
  ·exact IsiPair.str_int (gk _ rfl)
  ·exact IsiPair.str_bool (gk _ rfl)
  ·exact IsiPair.str_tuple (gk _ rfl)
  ·exact IsiPair.str_list (gk _ rfl)
 |ref a=>
  cases ru;rcases hk with⟨rfl,xs,hS⟩|⟨rfl,xs,hS⟩|⟨rfl,kvs,hS⟩
  ·obtain⟨its,_,⟨o,e,c,n,d⟩,_⟩:=I.tuple hS;rcases hC with rfl|rfl|rfl|rfl
   ·exact IsiPair.tuple_int e c (gk _ rfl)
   ·exact IsiPair.tuple_bool e c (gk _ rfl)
   ·exact IsiPair.tuple_tuple e c (Lx _ rfl)
   ·exact IsiPair.tuple_list e c (gk _ rfl)
  ·obtain⟨its,_,⟨o,n,e,c,d,_⟩,_⟩:=I.list hS;rcases hC with rfl|rfl|rfl|rfl
   ·exact IsiPair.list_int e c (gk _ rfl)
   ·exact IsiPair.list_bool e c (gk _ rfl)
   ·exact IsiPair.list_tuple e c (gk _ rfl)
   ·exact IsiPair.list_list e c (Lx _ rfl)
  ·obtain⟨_,_,vs,_,o,es,ep,e,c,_⟩:=I.hok a _ hS;have c':o.cls= .type "dict":=c.1;rcases hC with rfl|rfl|rfl|rfl
   ·exact IsiPair.dict_int e c' (gk _ rfl)
   ·exact IsiPair.dict_bool e c' (gk _ rfl)
   ·exact IsiPair.dict_tuple e c' (gk _ rfl)
   ·exact IsiPair.dict_list e c' (gk _ rfl)
 |_=>exact hk.elim
end
mutual
inductive DV(K:W.Frag)(H:Hp):V->θ->Prop
 |non:DV K H .non .none
 |bl (b:Bool):DV K H (.bl b) (.bool b)
 |int (i:Int):DV K H (.int i) (.int i)
 |str (x:Str):DV K H (.str x) (.str x)
 |tup {a:Addr} {xs:List V} {ds:List θ} (h:SqT K H a xs) (t:cO K H xs ds):DV K H (.ref a) (.tuple ds)
 |lst {a:Addr} {xs:List V} {ds:List θ} (h:SqL K H a xs) (t:cO K H xs ds):DV K H (.ref a) (.list ds)
 |dc0 {a:Addr} (h:H a=some (.dK [])):DV K H (.ref a) (.dict [])
 |dc1 {a b:Addr} {i:Int} (h:H a=some (.dK [(Sum.inl i,.ref b)])) (t:SqT K H b []):DV K H (.ref a) (.dict [(.int i,.tuple [])])
inductive cO(K:W.Frag)(H:Hp):List V->List θ->Prop
 |nil:cO K H [] []
 |cons {x:V} {d:θ} {xs:List V} {ds:List θ} (h:DV K H x d) (t:cO K H xs ds):cO K H (x::xs) (d::ds)
end
theorem Same.tup{K:W.Frag}{H H':Hp}{a:Addr}{xs:List V}(e:Same H H')(h:SqT K H a xs):SqT K H' a xs:=by
 rcases h with(h|⟨o,h⟩)|h
 ·exact .inl (.inl (e _ _ h))
 ·exact .inl (.inr ⟨o,e _ _ h⟩)
 ·exact .inr h
theorem cO.same{K:W.Frag}{H H':Hp}(e:Same H H'){xs:List V}{ds:List θ}(h:cO K H xs ds):cO K H' xs ds:=
 cO.rec (motive_1:=fun x d _=>DV K H' x d) (motive_2:=fun xs ds _=>cO K H' xs ds) .non (fun b=> .bl b) (fun i=> .int i) (fun x=> .str x) (fun h _ t=> .tup (e.tup h) t) (fun h _ t=> .lst (e.seq h) t) (fun h=> .dc0 (e _ _ h)) (fun h t=> .dc1 (e _ _ h) (e.tup t)) .nil (fun _ _ h t=> .cons h t) h
theorem GK{P:ξ}{w:τ}{es:List DictEntry}(h:Pairs (mixKind P w) es []):es=[]:=by
 cases h;rfl
theorem GJ{P:ξ}{w:τ}{es:List DictEntry}{k:Key}{u:ζ}(h:Pairs (mixKind P w) es [(k,u)]):∃e,es=[e]/\keyIs k e.key=true/\e.val=u:=by
 cases h with
 |cons h1 h2 h3=>
  cases h3;exact⟨_,rfl,h1,h2⟩
section
variable{X:Cx}{pins:L1}{σ:St}{H:Hp}{s:η}
theorem Hw(I:Inv X pins σ H s){a:Addr}(h:H a=some (.dK [])):Reads s.heap (.ref a) (.dict []) (a::[]++[])/\(a==sysModules)=false:=by
 obtain⟨_,hne,vs,r0,o,es,ep,e,c,d,_,pr,_⟩:=I.hok _ _ h;cases r0;have hes:es.toList=[]:=GK pr;refine⟨.dict (kvs:=[]) (as:=[]) (bs:=[]) e c.1 d ?_ ?_,hne⟩
 ·rw[hes];exact .nil
 ·rw[hes];exact .nil
theorem Hv(I:Inv X pins σ H s){a b:Addr}{i:Int}(h:H a=some (.dK [(Sum.inl i,.ref b)]))(t:SqT X.K H b []):Reads s.heap (.ref a) (.dict [(.int i,.tuple [])]) (a::([]++[])++([]++[]))/\(a==sysModules)=false:=by
 obtain⟨_,hne,vs,r0,o,es,ep,e,c,d,_,pr,_⟩:=I.hok _ _ h;obtain⟨its,rv,⟨o2,e2,c2,n2,d2⟩,_⟩:=I.tuple t;cases rv;cases r0 with
 | @cons p q ps qs hq tl=>
  cases tl;obtain⟨en,he,hk,hv⟩:=GJ pr;obtain⟨k,u⟩:=q;dsimp only at hq;obtain⟨hk1,hu1⟩:=hq;subst hk1;cases hu1;obtain⟨tk,ek⟩:∃tk,en.key=Value.int i tk:=by
   rcases MJ hk with⟨i',t',e3,e4⟩|⟨x,t',e3,e4⟩
   ·cases e3;exact⟨t',e4⟩
   ·cases e3
  refine⟨.dict (kvs:=[(.int i,.tuple [])]) (as:=[]++[]) (bs:=[]++[]) e c.1 d ?_ ?_,hne⟩
  ·rw[he];show ReadsAll s.heap [en.key] [PyData.int i] _;rw[ek];exact .cons (.int i tk) .nil
  ·rw[he];show ReadsAll s.heap [en.val] [PyData.tuple []] _;rw[hv];exact .cons (.tuple e2 c2 d2 .nil) .nil
theorem Gx(I:Inv X pins σ H s){a:Addr}{xs:List V}{ds:List θ}(h:SqT X.K H a xs)(t:∀{us:List ζ},Vals xs us->∃as,ReadsAll s.heap us ds as){u:ζ}(r:RelV (.ref a) u):∃as,Reads s.heap u (.tuple ds) as:=by
 cases r;obtain⟨its,rv,⟨o,e,c,n,d⟩,_⟩:=I.tuple h;obtain⟨as,ra⟩:=t rv;exact⟨_,.tuple e c d (by simpa using ra)⟩
theorem Gy(I:Inv X pins σ H s){a:Addr}{xs:List V}{ds:List θ}(h:SqL X.K H a xs)(t:∀{us:List ζ},Vals xs us->∃as,ReadsAll s.heap us ds as){u:ζ}(r:RelV (.ref a) u):∃as,Reads s.heap u (.list ds) as:=by
 cases r;obtain⟨its,rv,⟨o,n,e,c,_,d⟩,_⟩:=I.list h;obtain⟨as,ra⟩:=t rv;exact⟨_,.list e c d (by simpa using ra)⟩
theorem DV.reads(I:Inv X pins σ H s){x:V}{d:θ}{u:ζ}(h:DV X.K H x d)(r:RelV x u):∃as,Reads s.heap u d as:=
 DV.rec (motive_1:=fun x d _=>∀{u:ζ},RelV x u->∃as,Reads s.heap u d as) (motive_2:=fun xs ds _=>∀{us:List ζ},Vals xs us->∃as,ReadsAll s.heap us ds as)
  (fun r=>by cases r;exact⟨_,.none⟩) (fun b _ r=>by cases r;exact⟨_,.bool b⟩) (fun i _ r=>by obtain⟨t,rfl⟩:=r;exact⟨_,.int i t⟩) (fun x _ r=>by obtain⟨t,rfl⟩:=r;exact⟨_,.str x t⟩)
  (fun h _ t _ r=>Gx I h t r) (fun h _ t _ r=>Gy I h t r) (fun h _ r=>by cases r;exact⟨_,(Hw I h).1⟩) (fun h t _ r=>by cases r;exact⟨_,(Hv I h t).1⟩)
  (fun r=>by cases r;exact⟨_,.nil⟩) (fun _ _ h t _ r=>by
   cases r with
   |cons r rr=>
    obtain⟨as,ra⟩:=h r;obtain⟨bs,rb⟩:=t rr;exact⟨_,.cons ra rb⟩) h r
theorem cO.reads(I:Inv X pins σ H s){xs:List V}{ds:List θ}{us:List ζ}(h:cO X.K H xs ds)(r:Vals xs us):∃as,ReadsAll s.heap us ds as:=
 cO.rec (motive_1:=fun _ _ _=>True) (motive_2:=fun xs ds _=>∀{us:List ζ},Vals xs us->∃as,ReadsAll s.heap us ds as) trivial (fun _=>trivial) (fun _=>trivial) (fun _=>trivial) (fun _ _ _=>trivial) (fun _ _ _=>trivial) (fun _=>trivial) (fun _ _=>trivial)
  (fun r=>by cases r;exact⟨_,.nil⟩) (fun h _ _ t _ r=>by
   cases r with
   |cons r rr=>
    obtain⟨as,ra⟩:=DV.reads I h r;obtain⟨bs,rb⟩:=t rr;exact⟨_,.cons ra rb⟩) h r
end
mutual
def noL:θ->Bool
 | .list _=>false
 | .tuple ds=>Xl ds
 |_=>true
def Xl:List θ->Bool
 |[]=>true
 |d::ds=>noL d&&Xl ds
end
theorem cO.ints{K:W.Frag}{H:Hp}:∀(ns:List Int),cO K H (ns.map V.int) (ns.map PyData.int)
 |[]=> .nil
 |n::ns=> .cons (.int n) (cO.ints ns)
theorem cO.len{K:W.Frag}{H:Hp}{xs:List V}{ds:List θ}(h:cO K H xs ds):xs.length=ds.length:=
 cO.rec (motive_1:=fun _ _ _=>True) (motive_2:=fun xs ds _=>xs.length=ds.length) trivial (fun _=>trivial) (fun _=>trivial) (fun _=>trivial) (fun _ _ _=>trivial) (fun _ _ _=>trivial) (fun _=>trivial) (fun _ _=>trivial) rfl (fun _ _ _ t=>jz Nat.succ t) h
section
variable{X:Cx}
theorem wG(hu:X.A.units+64<cLine):OpR X (compareOp .NotEq) (fun x y H Q=>∃da db,DV X.K H x da/\DV X.K H y db/\da.canLay0=true/\db.canLay0=true/\min da.depth db.depth<=64/\Q (.bl (!PyData.eqv da db)) H):=by
 intro pins s σ H x y v u Q I rx ry h;obtain⟨da,db,hx,hy,ca,cb,hd,q⟩:=h;obtain⟨as,ra⟩:=DV.reads I hx rx;obtain⟨bs,rb⟩:=DV.reads I hy ry;exact SeqAt.rcNeAt_reads ra rb ca cb (by omega) _ _ _ _ ⟨.bl _,H,I,rfl,q⟩
theorem Di:∀{ds:List θ},PyData.canLayAll0 ds=true->∀d∈ds,d.canLay0=true
 |[],_,d,h=>nomatch h
 |e::ds,h,d,hd=>by
  have h':(e.canLay0&&PyData.canLayAll0 ds)=true:=h;rw[lZ]at h';rcases cW.mp hd with rfl|hd
  ·exact h'.1
  ·exact Di h'.2 d hd
open Classical in
theorem wI(hu:X.A.units+64<cLine):OpR X (compareOp .In) (fun x y H Q=>∃(p:Addr) (xs:List V) (ds:List θ) (dx:θ),y= .ref p/\(SqL X.K H p xs\/SqT X.K H p xs)/\cO X.K H xs ds/\DV X.K H x dx/\PyData.canLayAll0 ds=true/\dx.canLay0=true/\dx.depth<=60/\
  Q (.bl (ds.any fun d=>PyData.eqv d dx)) H):=by
 intro pins s σ H x y v u Q I rx ry h;obtain⟨p,xs,ds,dx,rfl,hq,hds,hx,ca,cb,hd,q⟩:=h;cases ry;obtain⟨bs,rb⟩:=DV.reads I hx rx;have key:∀{its:List ζ},Vals xs its->(∀y∈its,SeqAt.EqAt X.A.in1 s y v (decide (∃d as,Reads s.heap y d as/\d∈ds/\PyData.eqv d dx=true)))/\(its.any fun y=>decide (∃d as,Reads s.heap y d as/\d∈ds/\PyData.eqv d dx=true))=ds.any fun d=>PyData.eqv d dx:=by
  intro its rv;obtain⟨as,ra⟩:=cO.reads I hds rv;have each:∀{us:List ζ} {es:List θ} {as:List Addr},ReadsAll s.heap us es as->(∀e∈es,e∈ds)->(∀y∈us,SeqAt.EqAt X.A.in1 s y v (decide (∃d as,Reads s.heap y d as/\d∈ds/\PyData.eqv d dx=true)))/\(us.any fun y=>decide (∃d as,Reads s.heap y d as/\d∈ds/\PyData.eqv d dx=true))=es.any fun d=>PyData.eqv d dx:=by
   intro us
   induction us with
   |nil=>intro es as h _;cases h;exact⟨(fun y hy=>(nomatch hy)),rfl⟩
   |cons y us ih=>
    intro es as h hs;cases h with
    | @cons _ _ d ds' as' bs' r rr=>
     obtain⟨i1,i2⟩:=ih rr fun e he=>hs e (jy _ he);have cl:=Di ca d (hs d jx);have e:decide (∃d as,Reads s.heap y d as/\d∈ds/\PyData.eqv d dx=true)=PyData.eqv d dx:=by
      rw[DG,M6];constructor
      ·rintro⟨d',as'',r',_,q'⟩;obtain⟨rfl,_⟩:=(PySem.Reads.unique r _ _ r');exact q'
      ·intro q';exact⟨d,_,r,hs d jx,q'⟩
     refine⟨fun z hz=> ?_,?_⟩
     ·rcases cW.mp hz with rfl|hz
      ·rw[e];exact SeqAt.eqAt_reads d dx _ s _ _ _ _ r rb cl cb (by show X.A.units+1+min d.depth dx.depth<cLine;omega)
      ·exact i1 z hz
     ·rw[Rz,Rz,i2,e]
  exact each ra fun e he=>he
 rcases hq with hq|hq
 ·obtain⟨its,r,pl,hz⟩:=I.list hq;obtain⟨k1,k2⟩:=key r;refine SeqAt.in_listAt _ pl.isList (fun w hw=>k1 w (by simpa using hw)) ⟨.bl _,H,I,rfl,?_⟩;rw[show∀f:ζ->Bool,its.toArray.any f=its.any f from fun f=>by simp,k2];exact q
 ·obtain⟨its,r,pl,hz⟩:=I.tuple hq;obtain⟨k1,k2⟩:=key r;refine SeqAt.in_tupleAt _ pl (fun w hw=>k1 w (by simpa using hw)) ⟨.bl _,H,I,rfl,?_⟩;rw[show∀f:ζ->Bool,its.toArray.any f=its.any f from fun f=>by simp,k2];exact q
theorem Tf:OpR X (compareOp .Is) (fun x y H Q=>∃a b,x= .bl a/\y= .bl b/\Q (.bl (a==b)) H):=by
 intro pins s σ H x y v u Q I rx ry h;obtain⟨a,b,rfl,rfl,q⟩:=h;cases rx;cases ry;exact is_bool ⟨.bl _,H,I,rfl,q⟩
theorem GQ:OpR X (compareOp .IsNot) (fun x y H Q=>∃a b,x= .bl a/\y= .bl b/\Q (.bl (a !=b)) H):=by
 intro pins s σ H x y v u Q I rx ry h;obtain⟨a,b,rfl,rfl,q⟩:=h;cases rx;cases ry;exact isnot_bool ⟨.bl _,H,I,rfl,q⟩
theorem oE:OpR X (binaryOp .FloorDiv) (rI (fun _ j=>0<j/\j<1000000000000000000000000000000) fun i j=> .int (i/j)):=opI fun i j _ _ _ _ _ hc q=>by
 have h1:(0:Int)<j:=hc.1;have h2:j<1000000000000000000000000000000:=hc.2;refine floordiv_int (by omega) ?_ (Or.inl (wdm ?_))
 ·rw[wda _ (by omega)];exact q
 ·have h3:j.natAbs≠0:=by omega
  have h4:j.natAbs<2^100:=by
   have:(2:Nat)^100=1267650600228229401496703205376:=by decide
   omega
  have:=(Nat.log2_lt h3).mpr h4;omega
noncomputable def Rg(K:W.Frag):R2:=fun x y H Q=>∃a b xs ys,x= .ref a/\y= .ref b/\SqT K H a xs/\SqT K H b ys/\xs.length+ys.length<=sizeLine/\∀r H',Same H H'->SqT K H' r (xs++ys)->Q (.ref r) H'
theorem Ew:OpR X (binaryOp .Add) (Rg X.K):=by
 intro pins s σ H x y v u Q I rx ry h;obtain⟨a,b,xs,ys,rfl,rfl,ha,hb,hz,q⟩:=h;by_cases hx:xs=[]
 ·subst hx;cases rx;cases ry;obtain⟨its,r1,p1,_⟩:=I.tuple ha;obtain⟨its2,r2,p2,_⟩:=I.tuple hb;cases r1;obtain⟨⟨cls,dd,data,sl⟩,ho,hc,n,hd⟩:=id p1;obtain⟨⟨cls2,dd2,data2,sl2⟩,ho2,hc2,n2,hd2⟩:=id p2;simp only at hc hd hc2 hd2;subst hc hd hc2 hd2;exact concat_meets ⟨_,ho,rfl⟩ ⟨_,ho2,rfl⟩ wec seq_tuple_add wby wbs (wbp _ _)
   (tuple_addW0 a b _ _ n n2 dd dd2 sl sl2 (by simp)) ⟨ho,ho2,⟨.ref b,H,I,rfl,q b H (Same.refl _) hb⟩⟩
 ·refine op_catT pins s σ H _ _ v u Q I rx ry ⟨a,b,xs,ys,rfl,rfl,ha,hb,hx,hz,fun e=> ?_,fun e p hp=> ?_⟩
  ·subst e;exact q a H (Same.refl _) (by rw[Aw];exact ha)
  ·exact q p _ (fun c o e=>by rw[cP (rC e hp)];exact e) (SqT.of aA)
end
section
variable{X:Cx}{tg:Expr}
noncomputable def Us(K:W.Frag)(tl:TE):TI:=fun σ H R=>tl σ H fun x H1=>∃a xs,x= .ref a/\SqL K H1 a xs/\(xs.length<=sizeLine->R (Itl K a) H1)
noncomputable def XF(K:W.Frag)(tl:TE):TI:=fun σ H R=>tl σ H fun x H1=>∃a xs,x= .ref a/\SqT K H1 a xs/\(xs.length<=sizeLine->R (Itt K a) H1)
theorem Ag{l:Expr}{tl:TE}(hl:PE X l tl):PI X tg l (Us X.K tl):=by
 intro pins s σ H R I h;refine thn (hl pins s σ H _ I h) fun v s1 ⟨x,H1,I1,r1,q1⟩=> ?_;obtain⟨a,xs,e,hq,q⟩:=q1;subst e;cases r1;obtain⟨its,rv,p,hz⟩:=I1.list hq;refine Wz p.isList ?_;refine⟨s1.heap.objs.size,[s1.heap.objs.size],_,_,H1,rfl,I1.kept (t':=s1.toks) fun b o e=>eV _ e,turn_list a _,⟨_,nG _ rfl,rfl,rfl⟩,fun b hb=> ?_,q hz⟩;have e:b=s1.heap.objs.size:=by simpa using hb
 subst e;exact I1.fpOk (aR _) (I1.hok.fresh (aR _))
theorem Aj{l:Expr}{tl:TE}(hl:PE X l tl):PI X tg l (XF X.K tl):=by
 intro pins s σ H R I h;refine thn (hl pins s σ H _ I h) fun v s1 ⟨x,H1,I1,r1,q1⟩=> ?_;obtain⟨a,xs,e,hq,q⟩:=q1;subst e;cases r1;obtain⟨its,rv,p,hz⟩:=I1.tuple hq;refine WL (show s1.heap.IsTuple a its.toArray from p) ?_;refine⟨s1.heap.objs.size,[s1.heap.objs.size],_,_,H1,rfl,I1.kept (t':=s1.toks) fun b o e=>eV _ e,turn_tuple a _,⟨_,nG _ rfl,rfl,rfl⟩,fun b hb=> ?_,q hz⟩;have e:b=s1.heap.objs.size:=by simpa using hb
 subst e;exact I1.fpOk (aR _) (I1.hok.fresh (aR _))
theorem vg:CallR X (.builtin "len") (fun xs H Q=>∃p ys,xs=[.ref p]/\(SqL X.K H p ys\/SqT X.K H p ys)/\(ys.length<=16777216->Q (.int ys.length) H)):=by
 intro pins s σ H xs us Q I r h;obtain⟨p,ys,rfl,hq,q⟩:=h;have hz:ys.length<=16777216:=by
  rw[<-iz];rcases hq with hq|hq
  ·exact(I.list hq).choose_spec.2.2
  ·exact(I.tuple hq).choose_spec.2.2
 exact call_len_seq pins s σ H _ us Q I r ⟨p,ys,rfl,hq,q hz⟩
end
mutual
inductive DX(K:W.Frag)(H:Hp):V->θ->Prop
 |non:DX K H .non .none
 |bl (b:Bool):DX K H (.bl b) (.bool b)
 |int (i:Int):DX K H (.int i) (.int i)
 |str (x:Str):DX K H (.str x) (.str x)
 |tup {a:Addr} {xs:List V} {ds:List θ} (h:SqT K H a xs) (t:lN K H xs ds):DX K H (.ref a) (.tuple ds)
 |lst {a:Addr} {xs:List V} {ds:List θ} (h:SqL K H a xs) (t:lN K H xs ds):DX K H (.ref a) (.list ds)
 |dct {a:Addr} {kvs:List (Key×V)} (ds:List (θ×θ)) (h:H a=some (.dK kvs)):DX K H (.ref a) (.dict ds)
inductive lN(K:W.Frag)(H:Hp):List V->List θ->Prop
 |nil:lN K H [] []
 |cons {x:V} {d:θ} {xs:List V} {ds:List θ} (h:DX K H x d) (t:lN K H xs ds):lN K H (x::xs) (d::ds)
end
theorem DX.same{K:W.Frag}{H H':Hp}(e:Same H H'){x:V}{d:θ}(h:DX K H x d):DX K H' x d:=
 DX.rec (motive_1:=fun x d _=>DX K H' x d) (motive_2:=fun xs ds _=>lN K H' xs ds) .non (fun b=> .bl b) (fun i=> .int i) (fun x=> .str x) (fun h _ t=> .tup (e.tup h) t) (fun h _ t=> .lst (e.seq h) t) (fun ds h=> .dct ds (e _ _ h)) .nil (fun _ _ h t=> .cons h t) h
theorem lN.same{K:W.Frag}{H H':Hp}(e:Same H H'){xs:List V}{ds:List θ}(h:lN K H xs ds):lN K H' xs ds:=
 lN.rec (motive_1:=fun x d _=>DX K H' x d) (motive_2:=fun xs ds _=>lN K H' xs ds) .non (fun b=> .bl b) (fun i=> .int i) (fun x=> .str x) (fun h _ t=> .tup (e.tup h) t) (fun h _ t=> .lst (e.seq h) t) (fun ds h=> .dct ds (e _ _ h)) .nil (fun _ _ h t=> .cons h t) h
theorem DV.dx{K:W.Frag}{H:Hp}{x:V}{d:θ}(h:DV K H x d):DX K H x d:=
 DV.rec (motive_1:=fun x d _=>DX K H x d) (motive_2:=fun xs ds _=>lN K H xs ds) .non (fun b=> .bl b) (fun i=> .int i) (fun x=> .str x) (fun h _ t=> .tup h t) (fun h _ t=> .lst h t) (fun h=> .dct [] h) (fun h _=> .dct _ h) .nil (fun _ _ h t=> .cons h t) h
theorem cO.dx{K:W.Frag}{H:Hp}{xs:List V}{ds:List θ}(h:cO K H xs ds):lN K H xs ds:=
 cO.rec (motive_1:=fun _ _ _=>True) (motive_2:=fun xs ds _=>lN K H xs ds) trivial (fun _=>trivial) (fun _=>trivial) (fun _=>trivial) (fun _ _ _=>trivial) (fun _ _ _=>trivial) (fun _=>trivial) (fun _ _=>trivial) .nil (fun h _ _ t=> .cons h.dx t) h
noncomputable def jX:θ->String
 | .none=>"NoneType"
 | .bool _=>"bool"
 | .int _=>"int"
 | .str _=>"str"
 | .list _=>"list"
 | .tuple _=>"tuple"
 | .dict _=>"dict"
theorem DX.kind{K:W.Frag}{H:Hp}:∀{x:V} {d:θ},DX K H x d->Ru K H x (jX d)
 |_,_,.non=>rfl
 |_,_,.bl _=>rfl
 |_,_,.int _=>rfl
 |_,_,.str _=>rfl
 |_,_,.tup h _=> .inl ⟨rfl,_,h⟩
 |_,_,.lst h _=> .inr (.inl ⟨rfl,_,h⟩)
 |_,_,.dct _ h=> .inr (.inr ⟨rfl,_,h⟩)
theorem lN.len{K:W.Frag}{H:Hp}{xs:List V}{ds:List θ}(h:lN K H xs ds):xs.length=ds.length:=
 lN.rec (motive_1:=fun _ _ _=>True) (motive_2:=fun xs ds _=>xs.length=ds.length) trivial (fun _=>trivial) (fun _=>trivial) (fun _=>trivial) (fun _ _ _=>trivial) (fun _ _ _=>trivial) (fun _ _=>trivial) rfl (fun _ _ _ t=>jz Nat.succ t) h
theorem lN.get{K:W.Frag}{H:Hp}:∀{xs:List V} {ds:List θ} {i:Nat} {x:V},lN K H xs ds->xs[i]? =some x->∃d,ds[i]? =some d/\DX K H x d
 |_,_,_,_,.nil,e=>by simp at e
 |_,_,0,_,.cons h _,e=>by simp at e;subst e;exact⟨_,rfl,h⟩
 |_,_,i+1,x,.cons _ t,e=>by
  obtain⟨d,h1,h2⟩:=lN.get (i:=i) t (by simpa using e);exact⟨d,by simpa using h1,h2⟩
structure bJ(K:W.Frag)(mg:L4)(x:Str)(st:Stmt)(ps:List Str)(f:Addr)(fd:ρ):Prop where
 F:Fun K x x st f fd
 b:Binds K fd ps []
 m:mg x=some (.ref f)
theorem pc{X:Cx}{x:Str}{st:Stmt}{ps:List Str}{f:Addr}{fd:ρ}{j k:Nat}{sp:Sp}{E:XK}{e:Expr}{es:List Expr}{t:TA}{p pos:Pos}(F:FnOk X.prog X.w X.K X.mg X.base CX0 j f fd ps sp)(hr:Room k X.A)(D:bJ X.K X.mg x st ps f fd)(ha:PA X (e::es) t)(hj:j<=k:=by first |decide|omega)(hg:Gl X x:=by rfl)(hx:Passes CX0 X E:=by exact pass0)(hdb:(x==("__debug__":Str))=false:=by decide)(he:starEach (e::es) X.env=(false,eval e X.env)::starEach es X.env:=by rfl)(hpl:(backTo pos (starEach es X.env)).any (·.1)=false:=by rfl):PE X (.Call (.Name x p) (e::es) [] pos) (tCall sp [] E t):=pe_call (F.mono hj) hr hg D.m D.F.kp D.b .nil hx ha hdb he hpl
theorem fsc{N P:List Str}{sc:Scope}(a:sc.kind= .function:=by rfl)(b:sc.isCoroutine=false:=by rfl)(c:sc.isGenerator=false:=by rfl)(d:N.Nodup:=by decide+kernel)(e:N.take P.length=P:=by rfl)(f:∀x∈P,sc.names.lookup x=some .local\/sc.names.lookup x=some .cell:=by decide+kernel)(g:∀y∈sc.names,y.2≠.free:=by decide+kernel):FnScope N P sc:=⟨a,b,c,d,e,f,g⟩
theorem Fun.cG{P:ξ}{w:τ}{K:W.Frag}{mg:L4}{base:Heap}{x qual:Str}{st:Stmt}{f:Addr}{fd:ρ}{ps:List Str}{k:Nat}{sp:Sp}(F:Fun K x qual st f fd)(N:List Str)(hb:∀(cdv:ζ) (A:Around) (outer:List Env) (s:η) (H:Hp) (vs:List V) (Q:VK) (E:XK),Room k (A.deeper (PyProof.Rows.envOfC qual (defScope st) s.heap.objs.size f cdv))->sp vs H Q E->
   ∃t,PSs (cxOf CX0 P w K mg base N qual (defScope st) f cdv A outer s H E).nox (defBody st) t/\t {nx:=fun _ H'=>Q .non H',rt:=Q} (start N vs) H)(S:FnScope N ps (defScope st):=by exact fsc)(len:∀vs H Q E,sp vs H Q E->vs.length=ps.length:=by intro _ _ _ _ h;repeat(first |(obtain⟨rfl,_⟩:=h;rfl)|obtain⟨_,h⟩:=h)):FnOk P w K mg base CX0 (k+1) f fd ps sp:=F.ok S len hb
theorem aK{H:Hp}{p:Addr}(h:H p=none)(o:HO):Same H (upd H p o):=fun b u q=>by rw[cP (rC q h)];exact q
end L2
namespace o9
open PySem L2
noncomputable def fK:θ->Bool
 | .int _=>true
 |_=>false
noncomputable def bQ(n:Int):θ->Bool
 | .int i=>decide (0<=i)&&decide (i<n)
 |_=>false
noncomputable def intD:θ->Int
 | .int i=>i
 |_=>0
noncomputable def kids:θ->List θ
 | .tuple ds=>ds
 |_=>[]
noncomputable def fj(ns:List Int):Bool:=(List.range (ns.length-1)).all fun k=>decide (ns.getD k 0<ns.getD (k+1) 0)
noncomputable def dU(ts:List (List Int)):Bool:=(List.range (ts.length-1)).all fun k=>HT.lexLt (ts.getD k []) (ts.getD (k+1) [])
noncomputable def gD(n:Int):θ->Bool
 | .tuple ds=>ds.all (bQ n)&&fj (ds.map intD)
 |_=>false
noncomputable def mj(n:Int)(d:θ):Bool:=gD n d&&decide ((kids d).length=2)
noncomputable def nP(n:Int):θ->Bool
 | .tuple ds=>ds.all (mj n)&&dU (ds.map fun t=>(kids t).map intD)
 |_=>false
noncomputable def uL:θ->Bool
 | .tuple [n,t]=>fK n&&(decide (0<=intD n)&&decide (intD n<=10))&&nP (intD n) t
 |_=>false
theorem tH{n:Int}:∀{d:θ},bQ n d=true->∃i,d= .int i/\0<=i/\i<n
 | .int i,h=>⟨i,rfl,by simpa[bQ]using h⟩
end o9
namespace L2
open PySem PySem.Spec PyProof.Rows
section
variable{X:Cx}
theorem Ah(K:W.Frag)(h:X.K=K:=by rfl):IxR X (rIxT K):=by subst h;exact bZ
theorem gj(K:W.Frag)(h:X.K=K:=by rfl):IxR X (rIxL K):=by subst h;exact kJ
theorem Hz(K:W.Frag)(h:X.K=K:=by rfl):CallR X (.builtin "len") (fun xs H Q=>∃p ys,xs=[.ref p]/\(SqL K H p ys\/SqT K H p ys)/\(ys.length<=16777216->Q (.int ys.length) H)):=by subst h;exact vg
theorem Eu(K:W.Frag)(hu:X.A.units<cLine)(h:X.K=K:=by rfl):OpR X (compareOp .Lt) (rLtT K):=by subst h;exact op_ltT hu
theorem lA(K:W.Frag)(hu:X.A.units+64<cLine)(h:X.K=K:=by rfl):OpR X (compareOp .In) (fun x y H Q=>∃(p:Addr) (xs:List V) (ds:List θ) (dx:θ),y= .ref p/\(SqL K H p xs\/SqT K H p xs)/\cO K H xs ds/\DV K H x dx/\PyData.canLayAll0 ds=true/\dx.canLay0=true/\dx.depth<=60/\
  Q (.bl (ds.any fun d=>PyData.eqv d dx)) H):=by subst h;exact wI hu
theorem HS(K:W.Frag){es:List Expr}{k:Nat}{t:TGs}{n:Nat}{pos:Pos}(hc:X.calm=true)(h:PGs X es t)(hn:(assignEach es X.env).length=n:=by rfl)(hst:(assignEach es X.env).findIdx? (·.1)=none:=by rfl)(hK:X.K=K:=by rfl):PG X (.Tuple es k pos) (gTup K n t):=by subst hK;exact pg_tup hc h hn hst
end
end L2
namespace PySem
open Sem (wp)
open AutoSeq1 (wpAny_loadPart')
section
variable{prog:ξ}{w:τ}{A:Around}{E:L3}{s:η}
theorem lF{Q:List ζ->η->Prop}{r:Addr}{a b c:Int}{t u v:Tok}{n:Nat}(hh:A.handled=none)(hr:IsRange s.heap r a b c t u v)(hsmall:Builtin.Range.small a b c=true)(hn:Builtin.Range.rangeSize a b c=n)(hlen:n<=2^24)(hQ:∀h' tk acc,(∀b o',s.heap.get? b=some o'->h'.get? b=some o')->ItemsOf (fun i v=>∃t,v= .int (a+i*c) t) acc n->Q acc.toList {s with heap:=h',toks:=tk}):
  wpAny (model prog w) A (collect (.ref r)) Q E s:=by
 unfold collect;refine aY (wpAny_runValue (Z1 F.entry_proto_collect ?_));rw[Around.under_plainId F.plain_proto_collect _];show wpAny _ A.in1 (newList []>>=fun l=>again (.builtin "list.__iadd__" ⟨[l,.ref r],[]⟩)) _ _ s;refine aY (VJ ?_);refine eU ⟨plainId_quiet F.plain_list_iadd _,Z1 F.entry_list_iadd ?_⟩;rw[Around.under_plainId F.plain_list_iadd _];show wpAny _ A.in1 (Builtin.List.listExtendWith (.ref s.heap.objs.size) (.ref r) (.ref s.heap.objs.size)) _ _ _;have hS:(s.heap.push {cls:= .type "list",data:= .seq ([]:List ζ).toArray}).get? s.heap.objs.size=some {cls:= .type "list",data:= .seq #[] 0}:=nG _ rfl;have fin':∀h' tk acc' c',(∀b o,b≠s.heap.objs.size->(s.heap.push {cls:= .type "list",data:= .seq ([]:List ζ).toArray}).get? b=some o->h'.get? b=some o)->
   h'.get? s.heap.objs.size=some {cls:= .type "list",dict:=none,data:= .seq acc' c',slots:=#[]}->ItemsOf (fun i v=>∃t,v= .int (a+i*c) t) acc' n->wpAny (model prog w) A (match Value.ref s.heap.objs.size with
   |Value.ref a=>do
    match(<-load a).data with
     |Data.seq xs _=>pure xs.toList
     |_=>unsupported "internal:collect"
   |_=>unsupported "internal:collect") Q E {s with heap:=h',toks:=tk}:=fun h' tk acc' c' hk hS' hacc=>by
  show wpAny _ A (load s.heap.objs.size>>=_) _ _ _;refine aY (wpAny_load hS' ?_);refine eU ?_;exact hQ h' tk acc' (fun b o e=>hk b o (iM (fD e)) (eV _ e)) hacc
 refine M5 (wpAny_extend_range (A:=A) (R:=fun r s'=>r= .ok (.ret (.ref s.heap.objs.size))/\∃h' tk acc' c',s'={s with heap:=h',toks:=tk}/\(∀b o,b≠s.heap.objs.size->(s.heap.push {cls:= .type "list",data:= .seq ([]:List ζ).toArray}).get? b=some o->h'.get? b=some o)/\
   h'.get? s.heap.objs.size=some {cls:= .type "list",dict:=none,data:= .seq acc' c',slots:=#[]}/\ItemsOf (fun i v=>∃t,v= .int (a+i*c) t) acc' n) (s:={s with heap:=s.heap.push {cls:= .type "list",data:= .seq ([]:List ζ).toArray}}) hh (eV _ hr) hsmall hn hlen s.heap.objs.size (.ref s.heap.objs.size) 0 hS (fun h' tk acc' c' hk hS' hacc=>⟨rfl,h',tk,acc',c',rfl,hk,hS',hacc⟩)) (fun fin s' h=> ?_) (fun e s' h=> ?_)
 ·cases fin with
  |done f=>
   obtain⟨e,h',tk,acc',c',rfl,h1,h2,h3⟩:=h;cases e;exact fin' h' tk acc' c' h1 h2 h3
  |again c'=>exact⟨h.1,Ww h.2 fun r s'' hr=>by obtain⟨rfl,h',tk,acc',c',rfl,h1,h2,h3⟩:=hr;exact fin' h' tk acc' c' h1 h2 h3⟩
 ·exact absurd h.1 (by simp)
end
theorem jD(r:Addr)(a b c:Int)(t u v:Tok)(n:Nat)(hsmall:Builtin.Range.small a b c=true)(hn:Builtin.Range.rangeSize a b c=n)(hlen:n<=2^24):
  Meets (Builtin.«tuple.__new__» ⟨[.type "tuple",.ref r],[]⟩)
   (fun A R s=>A.handled=none/\IsRange s.heap r a b c t u v/\∀(h':Heap) tk acc,(∀b o',s.heap.get? b=some o'->h'.get? b=some o')->ItemsOf (fun i v=>∃t,v= .int (a+i*c) t) acc n->R (.ok (.ret (.ref h'.objs.size))) {s with heap:=h'.push {cls:= .type "tuple",data:= .seq acc},toks:=tk}):=
 .of_wp fun prog w A R s h=>by
  obtain⟨hp,g,d,tk,os⟩:=s;obtain⟨hh,ht,h⟩:=h;have hsub:=sub_tuple_self;have hinit:=init_tuple_lookup;have hmh:=madeHere_tuple;have hT:Shared.TypeIs ⟨hp,g,d,tk,os⟩ (.ref r) "range":=⟨_,ht,rfl⟩
  wp_walk using wpAny_loadPart' ht,wpAny_typeOf hT,lF (A:=A.in1) hh ht hsmall hn hlen
  intro h' tk' acc hk hacc;show wpAny _ _ (Builtin.Tuple.tupleExact acc.toList.toArray>>=fun v=>ret v) _ _ _;unfold Builtin.Tuple.tupleExact;refine aY (VJ ?_ (by show acc.toList.toArray.size<=sizeLine;rw[iz];simp;rw[hacc.1];omega));refine eU ⟨_,rfl,?_⟩;have e:acc.toList.toArray=acc:=by simp
  rw[e];exact h h' tk' acc hk hacc
section
variable{prog:ξ}{w:τ}{A:Around}{E:L3}{s:η}
theorem qj{Q:L3}{r:Addr}{a b c:Int}{t u v:Tok}{n:Nat}(hh:A.handled=none)(hr:IsRange s.heap r a b c t u v)(hsmall:Builtin.Range.small a b c=true)(hn:Builtin.Range.rangeSize a b c=n)(hlen:n<=2^24)(h:∀(h':Heap) tk acc,(∀b o',s.heap.get? b=some o'->h'.get? b=some o')->ItemsOf (fun i v=>∃t,v= .int (a+i*c) t) acc n->Q (.ref h'.objs.size) {s with heap:=h'.push {cls:= .type "tuple",data:= .seq acc},toks:=tk}):
  wpAny (model prog w) A (call (.type "tuple") [.ref r]) Q E s:=
 callType_new F.called_tuple (by decide) (F.typeCall_tuple_1 _) (F.newCall_tuple_1 _) (fun obj=>F.args_object_init_2 obj _) F.entry_tuple_new
  (jD r a b c t u v n hsmall hn hlen) ⟨hh,hr,fun h' tk acc hk hacc=>⟨⟨_,nG _ rfl,rfl⟩,h h' tk acc hk hacc⟩⟩
end
end PySem
namespace L2
open PySem PySem.Spec PyProof.Rows
section
variable{X:Cx}{p p' pos pos':Pos}{a:Expr}{ta:TA}
noncomputable def eX(n:Nat):List V:=(List.range n).map fun(k:Nat)=>V.int (k:Int)
noncomputable def WT(ta:TA):TE:=fun σ H Q=>ta σ H fun vs H1=>∃j:Int,vs=[.int j]/\0<=j/\j<=16777216/\∀l,H1 l=none->Q (.ref l) (upd H1 l (.tup (eX j.toNat)))
theorem su:∀{n:Nat} {us:List ζ},us.length=n->(∀(j:Nat) (u:ζ),us[j]? =some u->∃t:Tok,u=Value.int (0+((j:Nat):Int)*1) t)->Vals (eX n) us:=by
 intro n us hl hi;have go:∀(us:List ζ) (k:Nat),(∀(j:Nat) (u:ζ),us[j]? =some u->∃t:Tok,u=Value.int (0+((j+k:Nat):Int)*1) t)->Vals ((List.range' k us.length).map fun(k:Nat)=>V.int (k:Int)) us:=by
  intro us
  induction us with
  |nil=>intro k _;exact .nil
  |cons u us ih=>
   intro k h;obtain⟨t,e⟩:=h 0 u rfl;refine .cons ⟨t,?_⟩ (ih (k+1) fun j u' hj=> ?_)
   ·rw[e];congr 1;omega
   ·obtain⟨t',e'⟩:=h (j+1) u' (by simpa using hj);refine⟨t',?_⟩;rw[e'];congr 1;omega
 have:=go us 0 (fun j u hj=>by obtain⟨t,e⟩:=hi j u hj;exact⟨t,by rw[e];rfl⟩);unfold eX;rw[List.range_eq_range',<-hl];exact this
theorem yR(hc:X.calm=true)(X6:Gl X "tuple")(XQ:X.mg "tuple"=none)(hg:Gl X "range")(hm:X.mg "range"=none)(ha:PA X [a] ta)(hs:starEach [a] X.env=[(false,eval a X.env)]:=by rfl)(hs2:starEach [Expr.Call (.Name "range" p') [a] [] pos'] X.env=[(false,eval (Expr.Call (.Name "range" p') [a] [] pos') X.env)]:=by rfl):
  PE X (.Call (.Name "tuple" p) [.Call (.Name "range" p') [a] [] pos'] [] pos) (WT ta):=by
 intro pins s σ H Q I h;refine RZ (ld_blt I X6 XQ (show bootBuiltins "tuple"=some (.type "tuple")from by decide+kernel) ?_ (by decide) (by decide));refine IV ?_ hs2 rfl;rw[hs2];refine wbr ?_;refine Call_ (ld_blt I hg hm Wu (IV (thn (ha pos' pins s σ H _ I h) fun us s1 ⟨vs,H1,I1,r1,q1⟩=> ?_) hs rfl));obtain⟨j,e,q1,q2,q⟩:=q1;subst e;cases r1 with
 |cons r rr=>
  cases rr;obtain⟨t,rfl⟩:=r;refine call_range_1 ?_;refine wcc ?_;have hn:Builtin.Range.rangeSize 0 j 1=((j.toNat:Nat):Int):=by rw[ZV];split<;>omega
  refine qj (I.ok.hd hc) (ZJ ..) (small_one (by decide) (by decide) (by omega) (by omega)) hn (by omega) fun h' tk acc hk hacc=> ?_;have I2:Inv X pins σ H1 {s1 with heap:=h',toks:=tk}:=I1.kept fun b o e=>hk b o (eV _ e);have hv:Vals (eX j.toNat) acc.toList:=su (by rw[RM];exact hacc.1) (fun i u hu=>hacc.2 i u (by simpa using hu));have hz:(eX j.toNat).length<=sizeLine:=by unfold eX;rw[iz];simp;omega
  have I3:Inv X pins σ (upd H1 h'.objs.size (.tup (eX j.toNat))) {s1 with heap:=h'.push {cls:= .type "tuple",data:= .seq acc},toks:=tk}:=
   I2.laid (t':=tk) (fun b o e=>eV _ e) (aR _) (show ObjOk X.prog X.w _ _ _ (.tup (eX j.toNat))from⟨hz,acc.toList,hv,by rw[show acc=acc.toList.toArray by simp];exact IsTup.new _ _⟩)
  exact⟨.ref h'.objs.size,_,I3,rfl,q _ (I2.hok.fresh (aR _))⟩
open Classical in
theorem vK(hu:X.A.units+64<cLine):OpR X (compareOp .NotIn) (fun x y H Q=>∃(p:Addr) (xs:List V) (ds:List θ) (dx:θ),y= .ref p/\(SqL X.K H p xs\/SqT X.K H p xs)/\cO X.K H xs ds/\DV X.K H x dx/\PyData.canLayAll0 ds=true/\dx.canLay0=true/\dx.depth<=60/\
  Q (.bl (!(ds.any fun d=>PyData.eqv d dx))) H):=by
 intro pins s σ H x y v u Q I rx ry h;obtain⟨p,xs,ds,dx,rfl,hq,hds,hx,ca,cb,hd,q⟩:=h;cases ry;obtain⟨bs,rb⟩:=DV.reads I hx rx;have key:∀{its:List ζ},Vals xs its->(∀y∈its,SeqAt.EqAt X.A.in1 s y v (decide (∃d as,Reads s.heap y d as/\d∈ds/\PyData.eqv d dx=true)))/\(its.any fun y=>decide (∃d as,Reads s.heap y d as/\d∈ds/\PyData.eqv d dx=true))=ds.any fun d=>PyData.eqv d dx:=by
  intro its rv;obtain⟨as,ra⟩:=cO.reads I hds rv;have each:∀{us:List ζ} {es:List θ} {as:List Addr},ReadsAll s.heap us es as->(∀e∈es,e∈ds)->(∀y∈us,SeqAt.EqAt X.A.in1 s y v (decide (∃d as,Reads s.heap y d as/\d∈ds/\PyData.eqv d dx=true)))/\(us.any fun y=>decide (∃d as,Reads s.heap y d as/\d∈ds/\PyData.eqv d dx=true))=es.any fun d=>PyData.eqv d dx:=by
   intro us
   induction us with
   |nil=>intro es as h _;cases h;exact⟨(fun y hy=>(nomatch hy)),rfl⟩
   |cons y us ih=>
    intro es as h hs;cases h with
    | @cons _ _ d ds' as' bs' r rr=>
     obtain⟨i1,i2⟩:=ih rr fun e he=>hs e (jy _ he);have cl:=Di ca d (hs d jx);have e:decide (∃d as,Reads s.heap y d as/\d∈ds/\PyData.eqv d dx=true)=PyData.eqv d dx:=by
      rw[DG,M6];constructor
      ·rintro⟨d',as'',r',_,q'⟩;obtain⟨rfl,_⟩:=(PySem.Reads.unique r _ _ r');exact q'
      ·intro q';exact⟨d,_,r,hs d jx,q'⟩
     refine⟨fun z hz=> ?_,?_⟩
     ·rcases cW.mp hz with rfl|hz
      ·rw[e];exact SeqAt.eqAt_reads d dx _ s _ _ _ _ r rb cl cb (by show X.A.units+1+min d.depth dx.depth<cLine;omega)
      ·exact i1 z hz
     ·rw[Rz,Rz,i2,e]
  exact each ra fun e he=>he
 rcases hq with hq|hq
 ·obtain⟨its,r,pl,hz⟩:=I.list hq;obtain⟨k1,k2⟩:=key r;refine SeqAt.notIn_listAt _ pl.isList (fun w hw=>k1 w (by simpa using hw)) ⟨.bl _,H,I,rfl,?_⟩;rw[show∀f:ζ->Bool,its.toArray.any f=its.any f from fun f=>by simp,k2];exact q
 ·obtain⟨its,r,pl,hz⟩:=I.tuple hq;obtain⟨k1,k2⟩:=key r;refine SeqAt.notIn_tupleAt _ pl (fun w hw=>k1 w (by simpa using hw)) ⟨.bl _,H,I,rfl,?_⟩;rw[show∀f:ζ->Bool,its.toArray.any f=its.any f from fun f=>by simp,k2];exact q
end
end L2
namespace PySem
open Sem (wp)
open Builtin
open AutoSeq1 (wpAny_loadPart')
theorem p7:fillsNumberSlot (.type "tuple") "mul"=pure false:=
 fillsNumberSlot_seq (id:="tuple.__mul__") (r:=some (.builtin "tuple.__rmul__")) F.slot_tuple_mul.lookup (by decide+kernel) F.slot_tuple_rmul.lookup (by decide+kernel)
theorem wB:seqRepeat? (.type "tuple")=pure (some (.builtin "tuple.__mul__")):=by
 unfold seqRepeat?;rw[seqSlot_of (T:="tuple") (name:="__mul__") (id:="tuple.__mul__") F.slot_tuple_mul.lookup (by decide+kernel),seqSlot_of (T:="tuple") (name:="__rmul__") (id:="tuple.__rmul__") F.slot_tuple_rmul.lookup (by decide+kernel)];rfl
theorem wW(a:Int)(t:Tok)(l:Addr)(items:Array ζ)(n:Nat)(d:Option Addr)(sl:Array (Option ζ)):
  Meets (Builtin.«int.__rmul__» ⟨[.int a t,.ref l],[]⟩) (fun _ R s=>s.heap.get? l=some {cls:= .type "tuple",dict:=d,data:= .seq items n,slots:=sl}/\R (.ok (.ret Value.notImplemented)) s):=
 .of_wp fun prog w A R s h=>by obtain⟨hp,g,d,tk,os⟩:=s;obtain⟨hl,h⟩:=h;wp_walk;exact⟨_,rfl,h⟩
theorem tup_mul_1(l:Addr)(items:Array ζ)(n:Nat)(d:Option Addr)(sl:Array (Option ζ))(x:Int)(u:Tok)(hx:x=1):
  Meets (Builtin.«tuple.__mul__» ⟨[.ref l,.int x u],[]⟩) (fun _ R s=>s.heap.get? l=some {cls:= .type "tuple",dict:=d,data:= .seq items n,slots:=sl}/\R (.ok (.ret (Value.ref l))) s):=
 .of_wp fun prog w A R s h=>by
  subst hx;obtain⟨hp,g,d,tk,os⟩:=s;obtain⟨hl,h⟩:=h;have f1:=wee
  wp_walk using wpAny_loadPart' hl;exact⟨_,rfl,h⟩
theorem tup_mul_0(l:Addr)(items:Array ζ)(n:Nat)(d:Option Addr)(sl:Array (Option ζ))(x:Int)(u:Tok)(hx:x<=0)(hlo: -(2^63)<=x)(hne:items.isEmpty=false):
  Meets (Builtin.«tuple.__mul__» ⟨[.ref l,.int x u],[]⟩) (fun _ R s=>s.heap.get? l=some {cls:= .type "tuple",dict:=d,data:= .seq items n,slots:=sl}/\R (.ok (.ret (Value.ref s.heap.objs.size))) {s with heap:=s.heap.push {cls:=Value.type "tuple",data:=Data.seq #[]},toks:=s.toks}):=
 .of_wp fun prog w A R s h=>by
  obtain⟨hp,g,d,tk,os⟩:=s;obtain⟨hl,h⟩:=h;have f1:=wee;have c1:¬((decide (x< -(2^63))||decide (x≥2^63))=true):=by simp;omega
  have c2:¬((items.isEmpty||x==1)=true):=by rw[hne];simp;omega
  have c3:(decide (x<=0)||items.isEmpty)=true:=by rw[hne];simp;omega
  wp_walk using wpAny_loadPart' hl;rw[aq c1];wp_walk using wpAny_loadPart' hl;rw[aq c2];wp_walk using wpAny_loadPart' hl;exact⟨_,rfl,h⟩
theorem Gp(l:Addr)(items:Array ζ)(n:Nat)(d:Option Addr)(sl:Array (Option ζ))(x:Int)(u:Tok)(hx:1<x)(hhi:x<2^63)(hne:items.isEmpty=false)(hsz:items.size*x.toNat<=1000):
  Meets (Builtin.«tuple.__mul__» ⟨[.ref l,.int x u],[]⟩) (fun _ R s=>s.heap.get? l=some {cls:= .type "tuple",dict:=d,data:= .seq items n,slots:=sl}/\R (.ok (.ret (Value.ref s.heap.objs.size))) {s with heap:=s.heap.push {cls:=Value.type "tuple",data:=Data.seq (List.foldl (fun x1 x2=>x1++x2) #[] (List.replicate x.toNat items))},toks:=s.toks}):=
 .of_wp fun prog w A R s h=>by
  obtain⟨hp,g,d,tk,os⟩:=s;obtain⟨hl,h⟩:=h;have f1:=wee;have c1:¬((decide (x< -(2^63))||decide (x≥2^63))=true):=by simp;omega
  have c2:¬((items.isEmpty||x==1)=true):=by rw[hne];simp;omega
  have c3:¬((decide (x<=0)||items.isEmpty)=true):=by rw[hne];simp;omega
  have hxs:(items.size:Int)*x=((items.size*x.toNat:Nat):Int):=by rw[Vu,QF (by omega)]
  have c4:¬((items.size:Int)*x>(2^63-1)/8):=by rw[hxs];omega
  have c5:¬(Builtin.Tuple.tupleTooMany ((items.size:Int)*x)=true):=by
   rw[hxs];intro z;have z':((items.size*x.toNat:Nat):Int)>(sizeLine:Int):=cR z;have:=iz;generalize items.size*x.toNat=m at *;omega
  have htake:(List.foldl (fun x1 x2=>x1++x2) #[] (List.replicate x.toNat items)).size<=sizeLine:=by
   have e:List.foldl (fun x1 x2=>x1++x2) #[] (List.replicate x.toNat items)=(List.replicate x.toNat items.toList).flatten.toArray:=by
    have:=PyProof.Rows.listMul_foldl_if items x.toNat;rw[aq (by rw[hne];simp)]at this;exact this
   rw[e,iw];have:(List.replicate x.toNat items.toList).flatten.length=x.toNat*items.size:=by simp
   rw[this,Wv,iz];omega
  wp_walk using wpAny_loadPart' hl;rw[aq c1];wp_walk using wpAny_loadPart' hl;rw[aq c2];wp_walk using wpAny_loadPart' hl;rw[aq c3]
  try dsimp only
  rw[aq c4]
  try dsimp only
  rw[aq c5]
  try dsimp only
  unfold Builtin.Tuple.tupleExact;refine aY (VJ (eU ?_) htake);exact⟨_,rfl,h⟩
end PySem
namespace L2
open PySem PySem.Spec PyProof.Rows
section
variable{X:Cx}{p p' pos pos':Pos}{a:Expr}{ta:TA}
theorem Vals.Xd{xs:List V}{us:List ζ}(h:Vals xs us):∀k:Nat,Vals (List.replicate k xs).flatten (List.replicate k us).flatten
 |0=> .nil
 |k+1=>by rw[Ir,Ir,RJ,RJ];exact h.append (Vals.Xd h k)
noncomputable def Xf(K:W.Frag):R2:=fun x y H Q=>∃a k xs,x= .ref a/\y= .int k/\SqT K H a xs/\xs≠[]/\ -(2^63)<=k/\k<2^63/\xs.length*k.toNat<=1000/\∀r H',Same H H'->SqT K H' r (List.replicate k.toNat xs).flatten->Q (.ref r) H'
theorem wF:OpR X (binaryOp .Mult) (Xf X.K):=by
 intro pins s σ H x y v u Q I rx ry h;obtain⟨a,k,xs,rfl,rfl,ha,hne,h1,h2,hz,q⟩:=h;cases rx;obtain⟨t,rfl⟩:=ry;obtain⟨its,r1,p1,_⟩:=I.tuple ha;obtain⟨⟨cls,dd,data,sl⟩,ho,hc,n,hd⟩:=id p1;simp only at hc hd;subst hc hd;have hlen:=r1.length;have hem:its.toArray.isEmpty=false:=by
  cases its with
  |nil=>cases r1;exact absurd rfl hne
  |cons _ _=>rfl
 have road:∀{S:PySem.Spec},Meets (Builtin.«tuple.__mul__» ⟨[.ref a,.int k t],[]⟩) S->S X.A (wants (EP X pins σ Q) X.xe) s->wpAny (model X.prog X.w) X.A (binaryOp .Mult (.ref a) (.int k t)) (EP X pins σ Q) X.xe s:=fun M hS=>
  wpAny_binaryOp_repeat_ref (T:="tuple") (U:="int") (by decide) ⟨_,ho,rfl⟩ (fun s'=>typeIs_int s' k t) p7 F.fills_int_mul F.slot_int_rmul wB F.slot_int_index.lookup
   (VB F.slot_int_rmul (typeIs_int s k t) F.entry_int_rmul (F.args_int_rmul_2 _ _) (wW k t a its.toArray n dd sl)
    ⟨ho,rfl,⟨_,ho,rfl⟩,VB F.slot_tuple_mul ⟨_,ho,rfl⟩ F.entry_tuple_mul (F.args_tuple_mul_2 _ _) M hS⟩)
 by_cases c1:k=1
 ·refine road (tup_mul_1 a its.toArray n dd sl k t c1) ⟨ho,⟨.ref a,H,I,rfl,q a H (Same.refl _) ?_⟩⟩;subst c1;have:(List.replicate (1:Int).toNat xs).flatten=xs:=by simp
  rw[this];exact ha
 by_cases c0:k<=0
 ·refine road (tup_mul_0 a its.toArray n dd sl k t c0 h1 hem) ⟨ho,?_⟩;have e0:k.toNat=0:=by omega
  refine⟨.ref s.heap.objs.size,_,I.laid (t':=s.toks) (o:= .tup []) (fun b ob q=>eV _ q) (aR _) ⟨dX _,[],.nil,IsTup.new _ _⟩,rfl,q _ _ (fun c o e=>by rw[cP (rC e (I.hok.fresh (aR _)))];exact e) ?_⟩;rw[e0];exact SqT.of aA
 ·have hsz:its.toArray.size*k.toNat<=1000:=by rw[iw,<-hlen];exact hz
  refine road (Gp a its.toArray n dd sl k t (by omega) h2 hem hsz) ⟨ho,?_⟩;have hnew:List.foldl (fun x1 x2=>x1++x2) #[] (List.replicate k.toNat its.toArray)=(List.replicate k.toNat its).flatten.toArray:=by
   have:=foldl_rep its k.toNat [];rw[List.nil_append]at this;exact this
  rw[hnew];have hz':(List.replicate k.toNat xs).flatten.length<=sizeLine:=by
   rw[len_rep,Wv];exact cQ hz (by rw[iz];decide)
  refine⟨.ref s.heap.objs.size,_,I.laid (t':=s.toks) (o:= .tup (List.replicate k.toNat xs).flatten) (fun b ob q=>eV _ q) (aR _) ⟨hz',_,Vals.Xd r1 k.toNat,IsTup.new _ _⟩,rfl,q _ _ (fun c o e=>by rw[cP (rC e (I.hok.fresh (aR _)))];exact e) (SqT.of aA)⟩
noncomputable def WW(ta:TA):TE:=fun σ H Q=>ta σ H fun vs H1=>∃j:Int,vs=[.int j]/\0<=j/\j<=16777216/\∀l,H1 l=none->Q (.ref l) (upd H1 l (.lst (eX j.toNat)))
theorem qJ(hc:X.calm=true)(X6:Gl X "list")(XQ:X.mg "list"=none)(hg:Gl X "range")(hm:X.mg "range"=none)(ha:PA X [a] ta)(hs:starEach [a] X.env=[(false,eval a X.env)]:=by rfl)(hs2:starEach [Expr.Call (.Name "range" p') [a] [] pos'] X.env=[(false,eval (Expr.Call (.Name "range" p') [a] [] pos') X.env)]:=by rfl):
  PE X (.Call (.Name "list" p) [.Call (.Name "range" p') [a] [] pos'] [] pos) (WW ta):=by
 intro pins s σ H Q I h;refine RZ (ld_blt I X6 XQ (show bootBuiltins "list"=some (.type "list")from by decide+kernel) ?_ (by decide) (by decide));refine IV ?_ hs2 rfl;rw[hs2];refine wbr ?_;refine Call_ (ld_blt I hg hm Wu (IV (thn (ha pos' pins s σ H _ I h) fun us s1 ⟨vs,H1,I1,r1,q1⟩=> ?_) hs rfl));obtain⟨j,e,q1,q2,q⟩:=q1;subst e;cases r1 with
 |cons r rr=>
  cases rr;obtain⟨t,rfl⟩:=r;refine call_range_1 ?_;refine wcc ?_;have hn:Builtin.Range.rangeSize 0 j 1=((j.toNat:Nat):Int):=by rw[ZV];split<;>omega
  refine call_list_range (I.ok.hd hc) (ZJ ..) (small_one (by decide) (by decide) (by omega) (by omega)) hn (by omega) fun h' tk acc c hk hS hacc=> ?_;have hv:Vals (eX j.toNat) acc.toList:=su (by rw[RM];exact hacc.1) (fun i u hu=>hacc.2 i u (by simpa using hu));have hz:(eX j.toNat).length<=sizeLine:=by unfold eX;rw[iz];simp;omega
  have I2:Inv X pins σ H1 {s1 with heap:=s1.heap.push {cls:=Value.type "range",data:=Data.fields #[Value.int 0 s1.toks,Value.int j t,Value.int 1 (s1.toks+1)]},toks:=s1.toks+1+1}:=I1.kept fun b o e=>eV _ e;exact⟨.ref _,_,I2.laid (t':=tk) (o:= .lst (eX j.toNat)) hk (aR _) ⟨hz,acc.toList,c,hv,by simpa using hS⟩,rfl,q _ (I2.hok.fresh (aR _))⟩
end
end L2
namespace PySem
open Sem (wp)
open AutoSeq1 (wpAny_loadPart')
theorem xq(l:Addr)(items:Array ζ)(n:Nat)(dct:Option Addr)(sl:Array (Option ζ)):
  Meets (Builtin.«enumerate.__new__» ⟨[.type "enumerate",.ref l],[]⟩) (fun _ R s=>s.heap.get? l=some {cls:= .type "tuple",dict:=dct,data:= .seq items n,slots:=sl}/\
   R (.ok (.ret (.ref (s.heap.push {cls:= .type "tuple_iterator",data:= .fields #[.ref l,.int 0 0]}).objs.size)))
    {s with heap:=(s.heap.push {cls:= .type "tuple_iterator",data:= .fields #[.ref l,.int 0 0]}).push {cls:= .type "enumerate",data:= .fields #[.none,.bool false,.ref s.heap.objs.size,rawInt 0,.none,.none]}}):=
 .of_wp fun prog w A R s h=>by
  obtain⟨hp,g,d,tk,os⟩:=s;obtain⟨hl,h⟩:=h;have hsub:=sub_enumerate;have hL:Heap.IsTuple (Shared.heap ⟨hp,g,d,tk,os⟩) l items:=⟨_,hl,rfl,n,rfl⟩
  wp_walk using wpAny_loadPart' hl
  refine wpAny_stack_any fun st=>eU ?_;split
  ·rename_i c _ _ _ _ _;cases(c==Value.type "enumerate")
   ·wp_walk using wpAny_loadPart' hl,WL hL;exact⟨_,rfl,h⟩
   ·wp_walk using wpAny_loadPart' hl,WL hL;exact⟨_,rfl,h⟩
  ·wp_walk using wpAny_loadPart' hl,WL hL;exact⟨_,rfl,h⟩
section
variable{prog:ξ}{w:τ}{A:Around}{E:L3}{s:η}
theorem tK{it t:Addr}{i:Nat}{items:Array ζ}{x:ζ}{Q:L3}(hit:s.heap.IsTupleIter it t i)(ht:s.heap.IsTuple t items)(hx:items[i]? =some x)(hQ:∀h',h'.IsTupleIter it t (i+1)->Heap.SameBut it s.heap h'->Q x {s with heap:=h'}):wpAny (model prog w) A (Builtin.SmallTypes.nextOf (.ref it)) Q E s:=by
 obtain⟨o,ho,hc,hd⟩:=id hit;obtain⟨ol,hol,_,nl,hdl⟩:=ht;unfold Builtin.SmallTypes.nextOf;refine aY (wbg (name:=Str.ofString "__next__") hit.typeIs wbc (VH wbc hit.typeIs wcu ?_ (wcl _)));show wpAny _ _ (field (.ref it) 0>>=_) _ _ s;refine aY (Ib ho hd (x:= .ref t) rfl ?_);show wpAny _ _ (if(Value.ref t==Value.none)=true then _ else _) _ _ s;rw[aq (show¬((Value.ref t==Value.none)=true)from vq)];show wpAny _ _ (field (.ref it) 1>>=_) _ _ s;refine aY (Ib ho hd (x:= .int i 0) rfl ?_);show wpAny _ _ (seqItems? (.ref t)>>=_) _ _ s;refine aY (RW hol hdl ?_);simp only[Nt,hx];refine aY (wpAny_setField ho hd (by simp) (eU ⟨x,rfl,eU (hQ _ ?_ (WM ..))⟩));exact⟨_,Heap.get?_update_self _ ho (Obj.isFreed_of_fields (Obj.data_mapFields hd _)),(Obj.cls_mapFields ..).trans hc,by rw[Obj.data_mapFields hd];simp[rawInt]⟩
theorem jW{it t:Addr}{i:Nat}{items:Array ζ}{Q:L3}(hh:A.handled=none)(hit:s.heap.IsTupleIter it t i)(ht:s.heap.IsTuple t items)(hx:items[i]? =none)(hE:∀h' e,Heap.ExtBut it s.heap h'->(∃o,h'.get? e=some o/\o.cls= .type "StopIteration")->E (.ref e) {s with heap:=h'}):wpAny (model prog w) A (Builtin.SmallTypes.nextOf (.ref it)) Q E s:=by
 obtain⟨o,ho,hc,hd⟩:=id hit;obtain⟨ol,hol,_,nl,hdl⟩:=ht;unfold Builtin.SmallTypes.nextOf;refine aY (wbg (name:=Str.ofString "__next__") hit.typeIs wbc (VH wbc hit.typeIs wcu ?_ (wcl _)));show wpAny _ _ (field (.ref it) 0>>=_) _ _ s;refine aY (Ib ho hd (x:= .ref t) rfl ?_);show wpAny _ _ (if(Value.ref t==Value.none)=true then _ else _) _ _ s;rw[aq (show¬((Value.ref t==Value.none)=true)from vq)];show wpAny _ _ (field (.ref it) 1>>=_) _ _ s;refine aY (Ib ho hd (x:= .int i 0) rfl ?_);show wpAny _ _ (seqItems? (.ref t)>>=_) _ _ s;refine aY (RW hol hdl ?_);simp only[Nt,hx];refine aY (wpAny_rule (aY (wpAny_setField ho hd (by simp) ?_)));show wpAny _ _ (newExc (.type "StopIteration") []>>=_) _ _ _;refine aY ?_;simp only[newExc,newTuple];refine aY (VJ ?_ (by size_fits));refine aY (m:=firstArgMember _ _) (wpAny_of_eq (a:=Value.none) (by first |rfl|(simp only[firstArgMember];rfl)) ?_);refine VJ ?_ (by size_fits);simp only[raiseNew];refine aY (wpAny_handled ?_);first |rw[show A.in1.handled=none from hh]|rw[hh]
 refine aY (eU (wpAny_throw ?_));exact hE _ _ (((WM ..).extBut.push _).push _) ⟨_,nG _ rfl,rfl⟩
end
theorem Draws.tup{prog:ξ}{w:τ}{A:Around}(hh:A.handled=none)(it l:Addr)(hne:l≠it)(items:Array ζ):
  Draws prog w A it [it,l] items.size (fun i v=>items[i]? =some v) (fun i h=>h.IsTupleIter it l i/\h.IsTuple l items) where
 live:=fun i h st=>by obtain⟨⟨o,e,_⟩,_⟩:=st;exact⟨o,e⟩
 frame:=fun i h h' st k=>⟨st.1.at fun o e=>k it (by simp) o e,st.2.at fun o e=>k l (by simp) o e⟩
 item:=fun i s Q E hi st hQ=>by
  have hx:items[i]? =some items[i]:=Array.getElem?_eq_getElem hi;exact tK st.1 st.2 hx fun h' hit' hs=>hQ _ h' s.toks hx ⟨hit',st.2.at fun o e=>(hs.2 l hne).trans e⟩ hs
 done:=fun s Q E st hE=>jW hh st.1 st.2 (Array.getElem?_eq_none (aR _)) hE
section
variable{prog:ξ}{w:τ}{A:Around}{E:L3}{s:η}
theorem uV{l:Addr}{items:Array ζ}{Q:L3}(hL:s.heap.IsTuple l items)(h:∀h',IsEnum h' (s.heap.objs.size+1) s.heap.objs.size 0 .none->h'.IsTupleIter s.heap.objs.size l 0->h'.objs.size=s.heap.objs.size+2->(∀b o,s.heap.get? b=some o->h'.get? b=some o)->Q (.ref (s.heap.objs.size+1)) {s with heap:=h'}):
  wpAny (model prog w) A (call (.type "enumerate") [.ref l]) Q E s:=by
 obtain⟨⟨c,dct,dt,sl⟩,hl,hc,n,hd⟩:=hL;replace hc:c= .type "tuple":=hc;replace hd:dt= .seq items n:=hd;subst hc hd;refine callType_new F.called_enumerate (by decide) (F.typeCall_enumerate_1 _) (F.newCall_enumerate_1 _) (fun obj=>F.args_object_init_2 obj _) F.entry_enumerate_new (xq l items n dct sl) ⟨hl,?_⟩;have hz:(s.heap.push {cls:= .type "tuple_iterator",data:= .fields #[.ref l,.int 0 0]}).objs.size=s.heap.objs.size+1:=Ar ..;show _/\_;rw[hz];have he:IsEnum ((s.heap.push {cls:= .type "tuple_iterator",data:= .fields #[.ref l,.int 0 0]}).push {cls:= .type "enumerate",data:= .fields #[.none,.bool false,.ref s.heap.objs.size,rawInt 0,.none,.none]}) (s.heap.objs.size+1) s.heap.objs.size 0 .none:=by
  have:=nG (s.heap.push {cls:= .type "tuple_iterator",data:= .fields #[.ref l,.int 0 0]}) (o:={cls:= .type "enumerate",data:= .fields #[.none,.bool false,.ref s.heap.objs.size,rawInt 0,.none,.none]}) rfl;rw[hz]at this;exact this
 exact⟨⟨_,he,rfl⟩,h _ he ⟨_,eV _ (nG _ rfl),rfl,rfl⟩ (by rw[Ar,hz]) fun b o x=>eV _ (eV _ x)⟩
end
end PySem
namespace L2
open PySem PySem.Spec PyProof.Rows
section
variable{X:Cx}{pins:L1}{σ:St}{H:Hp}{s:η}{h':Heap}
theorem Inv.pQ{t':Nat}{fp:List Addr}{T:Addr}{o:HO}(I:Inv X pins σ H s)(k:∀b o,b∉fp->s.heap.get? b=some o->h'.get? b=some o)(hf:∀b∈fp,FpOk X pins H b)(hT:s.heap.objs.size<=T)(new:ObjOk X.prog X.w (upd H T o) h' T o):
  Inv X pins σ (upd H T o) {s with heap:=h',toks:=t'}:=by
 have hTn:H T=none:=I.hok.fresh hT;have Xm:∀b u,H b=some u->b∉fp:=fun b u e z=>by rw[(hf b z).1]at e;cases e
 have neT:∀b o,s.heap.get? b=some o->b≠T:=fun b o e=>iM (kW (fD e) hT);have Xn:∀b u,H b=some u->b≠T:=fun b u e z=>by rw[z,hTn]at e;cases e
 refine I.step (g':=s.gens) (d':=s.drawn) (ch:=fp) (fun b hb=> ?_) (fun b o _ _ hc e _=>k b o hc e) (fun b o _ _ hc e _=>⟨o.slots,k b o hc e⟩) (fun b o _ e n=>by rw[cP (neT b o e)];exact n)
  (fun b o hc e=>⟨o,k b o hc e⟩) (fun b xs e=>by rw[cP (Xn b _ e)];exact e) (fun b o u e=>by rw[cP (Xn b _ e)];exact e) (fun b ps e=>⟨#[],by rw[cP (Xn b _ e),e];simp⟩) (fun m hm=> ?_) (fun b u e=> ?_) I.bare
 ·obtain⟨f0,f1,f2,f3,f4,f5⟩:=hf b hb;exact⟨f3,f1,f4,f5⟩
 ·obtain⟨o,es,ep,ho,r⟩:=hm;exact⟨o,es,ep,k _ o (fun z=>(hf _ z).2.1 rfl) ho,r⟩
 ·by_cases hb:b=T
  ·subst hb;rw[aA]at e;cases e;exact new
  ·rw[cP hb]at e;refine(I.hok b u e).stay (fun c v hc q=>k c v ?_ q) (fun c q=>by rw[cP (Xn c _ q)];exact q) fun c xs q=>by rw[cP (Xn c _ q)];exact q
   rcases hc with z|z
   ·rw[z];exact Xm b u e
   ·exact Xm c _ z
theorem Inv.turns{t':Nat}{fp:List Addr}(I:Inv X pins σ H s)(k:∀b o,b∉fp->s.heap.get? b=some o->h'.get? b=some o)(hf:∀b∈fp,FpOk X pins H b):Inv X pins σ H {s with heap:=h',toks:=t'}:=by
 have Xm:∀b u,H b=some u->b∉fp:=fun b u e z=>by rw[(hf b z).1]at e;cases e
 refine I.step (g':=s.gens) (d':=s.drawn) (ch:=fp) (fun b hb=> ?_) (fun b o _ _ hc e _=>k b o hc e) (fun b o _ _ hc e _=>⟨o.slots,k b o hc e⟩) (fun b o _ e n=>n)
  (fun b o hc e=>⟨o,k b o hc e⟩) (fun b xs e=>e) (fun b o u e=>e) (fun b ps e=>⟨#[],by rw[e];simp⟩) (fun m hm=> ?_) (fun b u e=> ?_) I.bare
 ·obtain⟨f0,f1,f2,f3,f4,f5⟩:=hf b hb;exact⟨f3,f1,f4,f5⟩
 ·obtain⟨o,es,ep,ho,r⟩:=hm;exact⟨o,es,ep,k _ o (fun z=>(hf _ z).2.1 rfl) ho,r⟩
 ·refine(I.hok b u e).stay (fun c v hc q=>k c v ?_ q) (fun c q=>q) fun c xs q=>q;rcases hc with z|z
  ·rw[z];exact Xm b u e
  ·exact Xm c _ z
end
noncomputable def Qq(K:W.Frag)(b:Bool)(H:Hp)(a:Addr)(xs:List V):Prop:=match b with
 |false=>SqL K H a xs
 |true=>SqT K H a xs
noncomputable def Ite(K:W.Frag)(b:Bool)(a:Addr)(xs:List V):It:=
 ⟨fun i H=>Qq K b H a xs/\i<xs.length,fun i H x H'=>∃t v,x= .ref t/\H t=none/\H'=upd H t (.tup [.int (i:Int),v])/\xs[i]? =some v,fun i H=>Qq K b H a xs/\i=xs.length⟩
theorem Bf{P:ξ}{w:τ}{K:W.Frag}{es:List Expr}{k:Nat}{pos:Pos}(a e it:Addr)(xs:List V)(hne:e≠it):
  Turn P w K (.Tuple es k pos) (Ite K false a xs) [e,it] e (fun i h=>(∃old,IsEnum h e it (i:Int) old)/\h.IsListIter it a i) where
 mem:=by simp
 obj:=fun i h st b hb=>by
  obtain⟨⟨old,he⟩,o,e1,c,d⟩:=st;rcases cW.mp hb with z|hb
  ·subst z;exact⟨_,he,fun v z=>by cases z⟩
  ·have z:b=it:=by simpa using hb
   subst z;exact⟨o,e1,fun v z=>by rw[d]at z;cases z⟩
 keep:=fun i h h' st k=>⟨st.1.imp fun old he=>k e (by simp) _ he,st.2.at fun o e=>k it (by simp) o e⟩
 item:=by
  intro X hP hw hK hc i pins s σ H E I hf st hg;subst hP hw hK;obtain⟨hq0,hi⟩:=hg;have hq:SqL X.K H a xs:=hq0;obtain⟨its,rv,p,hz⟩:=I.list hq;have hx:xs[i]? =some xs[i]:=eO hi;obtain⟨u,hu,ru⟩:=rv.get hx;obtain⟨⟨old,he⟩,hit⟩:=st;refine wpAny_pyNext_enum_item he hit p.isList (x:=u) (by simpa using hu) hne fun h1 ho hit1 hT hsz hk=>⟨_,rfl,?_⟩;refine wpAny_letOwnedTupleGo_enum ho fun h2 he2 hs2=> ?_;have oM:Heap.SameBut e h1 h2:=hs2;have Xr:s.heap.objs.size≠e:=fun z=>absurd (fD he) (by rw[<-z];exact rD _);have keep:∀b o,b∉[e,it]->s.heap.get? b=some o->h2.get? b=some o:=fun b o hb q=>(oM.2 b fun z=>hb (by simp[z])).trans (hk b o (fun z=>hb (by simp[z])) (fun z=>hb (by simp[z])) q);have hT2:h2.get? s.heap.objs.size=some {cls:= .type "tuple",data:= .seq #[.int i s.toks,u]}:=(oM.2 _ Xr).trans hT;have I2:=I.pQ (h':=h2) (t':=s.toks+1) (o:= .tup [.int (i:Int),xs[i]]) keep hf (aR _) ⟨(by show 2<=sizeLine;decide),[.int i s.toks,u],.cons ⟨_,rfl⟩ (.cons ru .nil),_,hT2,rfl,_,rfl⟩;exact⟨.ref s.heap.objs.size,_,I2,rfl,⟨_,_,rfl,I.hok.fresh (aR _),rfl,hx⟩,⟨⟨_,by simpa using he2⟩,hit1.at fun o q=>(oM.2 it hne.symm).trans q⟩,fun b hb=>by
   rw[cP (fun z=> ?_)]
   ·exact(hf b hb).1
   ·obtain⟨_,q1,_⟩:=hit;rcases cW.mp hb with y|y
    ·exact Xr (z.symm.trans y)
    ·have y:b=it:=by simpa using y
     rw[<-y,z]at q1;exact absurd (fD q1) (rD _)⟩
 done:=by
  intro X hP hw hK hc i pins s σ H E I hf st hg;subst hP hw hK;obtain⟨hq0,hi⟩:=hg;have hq:SqL X.K H a xs:=hq0;obtain⟨its,rv,p,hz⟩:=I.list hq;have hl:=rv.length;obtain⟨⟨old,he⟩,hit⟩:=st;exact wpAny_pyNext_enum_end (I.ok.hd hc) he hit p.isList (by simp;omega) fun h' eb=>⟨rfl,I.turns (t':=s.toks) (fp:=[e,it]) (fun b o hb q=>eb b o (fun z=>hb (by simp[z])) q) hf⟩
 self:=fun _ _ _ _ _ st h=>by
  obtain⟨⟨old,he⟩,_⟩:=st;exact wcf he h
theorem Bd{P:ξ}{w:τ}{K:W.Frag}{es:List Expr}{k:Nat}{pos:Pos}(a e it:Addr)(xs:List V)(hne:e≠it)(hat:a≠it)(hae:a≠e):
  Turn P w K (.Tuple es k pos) (Ite K true a xs) [e,it] e (fun i h=>(∃old,IsEnum h e it (i:Int) old)/\h.IsTupleIter it a i) where
 mem:=by simp
 obj:=fun i h st b hb=>by
  obtain⟨⟨old,he⟩,o,e1,c,d⟩:=st;rcases cW.mp hb with z|hb
  ·subst z;exact⟨_,he,fun v z=>by cases z⟩
  ·have z:b=it:=by simpa using hb
   subst z;exact⟨o,e1,fun v z=>by rw[d]at z;cases z⟩
 keep:=fun i h h' st k=>⟨st.1.imp fun old he=>k e (by simp) _ he,st.2.at fun o e=>k it (by simp) o e⟩
 item:=by
  intro X hP hw hK hc i pins s σ H E I hf st hg;subst hP hw hK;obtain⟨hq0,hi⟩:=hg;have hq:SqT X.K H a xs:=hq0;obtain⟨its,rv,p,hz⟩:=I.tuple hq;have hx:xs[i]? =some xs[i]:=eO hi;obtain⟨u,hu,ru⟩:=rv.get hx;obtain⟨⟨old,he⟩,hit⟩:=st;have hl:=rv.length;have pt:s.heap.IsTuple a its.toArray:=p;have D:=Draws.tup (prog:=X.prog) (w:=X.w) (A:=X.A.in1) (I.ok.hd hc) it a hat its.toArray;refine wpAny_pyNext_enum_itemD D he ⟨hit,pt⟩ (by simp;omega) hne (by simp;exact⟨hne,fun z=>hae z.symm⟩) fun y h1 tk hy ho aaB hT hsz hk=>⟨_,rfl,?_⟩;have ey:y=u:=by
   have hu':its.toArray[i]? =some u:=by simpa using hu
   rw[hu']at hy;exact(uI hy).symm
  subst ey;refine wpAny_letOwnedTupleGo_enum ho fun h2 he2 hs2=> ?_;have oM:Heap.SameBut e h1 h2:=hs2;have Xr:s.heap.objs.size≠e:=fun z=>absurd (fD he) (by rw[<-z];exact rD _);have keep:∀b o,b∉[e,it]->s.heap.get? b=some o->h2.get? b=some o:=fun b o hb q=>(oM.2 b fun z=>hb (by simp[z])).trans (hk b o (fun z=>hb (by simp[z])) (fun z=>hb (by simp[z])) q);have hT2:h2.get? s.heap.objs.size=some {cls:= .type "tuple",data:= .seq #[.int i tk,y]}:=(oM.2 _ Xr).trans hT;have I2:=I.pQ (h':=h2) (t':=tk+1) (o:= .tup [.int (i:Int),xs[i]]) keep hf (aR _) ⟨(by show 2<=sizeLine;decide),[.int i tk,y],.cons ⟨_,rfl⟩ (.cons ru .nil),_,hT2,rfl,_,rfl⟩;exact⟨.ref s.heap.objs.size,_,I2,rfl,⟨_,_,rfl,I.hok.fresh (aR _),rfl,hx⟩,⟨⟨_,by simpa using he2⟩,aaB.1.at fun o q=>(oM.2 it hne.symm).trans q⟩,fun b hb=>by
   rw[cP (fun z=> ?_)]
   ·exact(hf b hb).1
   ·obtain⟨_,q1,_⟩:=hit;rcases cW.mp hb with y|y
    ·exact Xr (z.symm.trans y)
    ·have y:b=it:=by simpa using y
     rw[<-y,z]at q1;exact absurd (fD q1) (rD _)⟩
 done:=by
  intro X hP hw hK hc i pins s σ H E I hf st hg;subst hP hw hK;obtain⟨hq0,hi⟩:=hg;have hq:SqT X.K H a xs:=hq0;obtain⟨its,rv,p,hz⟩:=I.tuple hq;have hl:=rv.length;obtain⟨⟨old,he⟩,hit⟩:=st;have pt:s.heap.IsTuple a its.toArray:=p;have ei:i=its.toArray.size:=by rw[iw];omega
  subst ei;have D:=Draws.tup (prog:=X.prog) (w:=X.w) (A:=X.A.in1) (I.ok.hd hc) it a hat its.toArray;exact wpAny_pyNext_enum_endD D he ⟨hit,pt⟩ fun h' eb=>⟨rfl,I.turns (t':=s.toks) (fp:=[e,it]) (fun b o hb q=>eb b o (fun z=>hb (by simp[z])) q) hf⟩
 self:=fun _ _ _ _ _ st h=>by
  obtain⟨⟨old,he⟩,_⟩:=st;exact wcf he h
section
variable{X:Cx}{es:List Expr}{k:Nat}{J6:Pos}
noncomputable def XH(K:W.Frag)(ta:TA):TI:=fun σ H R=>ta σ H fun vs H1=>∃(b:Bool) (a:Addr) (xs:List V),vs=[.ref a]/\Qq K b H1 a xs/\(xs.length<=sizeLine->R (Ite K b a xs) H1)
theorem rK{a:Expr}{ta:TA}{p pos:Pos}(hg:Gl X "enumerate")(hm:X.mg "enumerate"=none)(ha:PA X [a] ta)(hs:starEach [a] X.env=[(false,eval a X.env)]:=by rfl):
  PI X (.Tuple es k J6) (.Call (.Name "enumerate" p) [a] [] pos) (XH X.K ta):=by
 intro pins s σ H R I h;refine Call_ (ld_blt I hg hm (show bootBuiltins "enumerate"=some (.type "enumerate")from by decide+kernel) (IV (thn (ha pos pins s σ H _ I h) fun us s1 ⟨vs,H1,I1,r1,q1⟩=> ?_) hs rfl));obtain⟨b,l,xs,e,hq,q⟩:=q1;subst e;cases r1 with
 |cons r rr=>
  cases rr;cases r;cases b with
  |false=>
   obtain⟨its,rv,pl,hz⟩:=I1.list (show SqL X.K H1 l xs from hq);refine call_enumerate_list pl.isList fun h' he hit hsz hk=> ?_;refine wcf he ?_;have I2:Inv X pins σ H1 {s1 with heap:=h'}:=I1.kept (t':=s1.toks) hk;have hne:s1.heap.objs.size+1≠s1.heap.objs.size:=Nat.succ_ne_self _;refine⟨s1.heap.objs.size+1,[s1.heap.objs.size+1,s1.heap.objs.size],_,_,H1,rfl,I2,Bf l _ _ xs hne,⟨⟨_,he⟩,hit⟩,fun c hc=> ?_,q hz⟩;rcases cW.mp hc with z|z
   ·subst z;exact I1.fpOk (MK _) (I1.hok.fresh (MK _))
   ·have z:c=s1.heap.objs.size:=by simpa using z
    subst z;exact I1.fpOk (aR _) (I1.hok.fresh (aR _))
  |true=>
   obtain⟨its,rv,pl,hz⟩:=I1.tuple (show SqT X.K H1 l xs from hq);have pt:s1.heap.IsTuple l its.toArray:=pl;have hlt:l<s1.heap.objs.size:=by obtain⟨_,e,_⟩:=id pt;exact fD e
   refine uV pt fun h' he hit hsz hk=> ?_;refine wcf he ?_;have I2:Inv X pins σ H1 {s1 with heap:=h'}:=I1.kept (t':=s1.toks) hk;have hne:s1.heap.objs.size+1≠s1.heap.objs.size:=Nat.succ_ne_self _;refine⟨s1.heap.objs.size+1,[s1.heap.objs.size+1,s1.heap.objs.size],_,_,H1,rfl,I2,Bd l _ _ xs hne (iM hlt) (iM (uK hlt)),⟨⟨_,he⟩,hit⟩,fun c hc=> ?_,q hz⟩;rcases cW.mp hc with z|z
   ·subst z;exact I1.fpOk (MK _) (I1.hok.fresh (MK _))
   ·have z:c=s1.heap.objs.size:=by simpa using z
    subst z;exact I1.fpOk (aR _) (I1.hok.fresh (aR _))
end
section
variable{ini:St}{H:Hp}{g:TG}{tc:TT}{te:TE}{Fin:List V->Hp->Prop}{K:W.Frag}{b:Bool}{a:Addr}{xs:List V}
theorem lD(Pv:Nat->List V->St->Hp->Prop)(h0:Pv 0 [] ini H)(hl:∀(i:Nat) acc σ H,i<=xs.length->Pv i acc σ H->Qq K b H a xs)(hz:∀(i:Nat) acc σ H,i<=xs.length->Pv i acc σ H->acc.length<=i)(hx:xs.length<=sizeLine)(hs:∀(i:Nat) v t acc σ H,xs[i]? =some v->Pv i acc σ H->H t=none->g (.ref t) σ (upd H t (.tup [.int (i:Int),v])) fun σ2 H2=>tc σ2 H2 fun b H3=>if b=true then te σ2 H3 fun v H4=>Pv (i+1) (acc++[v]) σ2 H4 else Pv (i+1) acc σ2 H3)(hd:∀acc σ H,Pv xs.length acc σ H->Fin acc H):vU (Ite K b a xs) ini H g tc te Fin:=by
 refine⟨fun i m acc σ H=>m=xs.length-i/\i<=xs.length/\Pv i acc σ H,⟨xs.length,by simp,dX _,h0⟩,?_⟩;rintro i m acc σ H ⟨rfl,hi,p⟩;have q:=hl i acc σ H hi p;have z:=hz i acc σ H hi p;by_cases hlt:i<xs.length
 ·refine .inr ⟨⟨q,hlt⟩,by omega,fun acc σ H=>Pv (i+1) acc σ H,fun acc' σ' H' r=>⟨_,by omega,rfl,hlt,r⟩,fun x H' y=> ?_⟩;obtain⟨t,v,rfl,ht,rfl,hv⟩:=y;exact hs i v t acc σ H hv p ht
 ·have e:i=xs.length:=by omega
  subst e;exact .inl ⟨⟨q,rfl⟩,by omega,hd acc σ H p⟩
end
section
variable{X:Cx}
theorem Ka(K:W.Frag)(h:X.K=K:=by rfl):OpR X (binaryOp .Add) (Rg K):=by subst h;exact Ew
theorem Et(K:W.Frag)(hu:X.A.units+64<cLine)(h:X.K=K:=by rfl):OpR X (compareOp .NotEq) (fun x y H Q=>∃da db,DV K H x da/\DV K H y db/\da.canLay0=true/\db.canLay0=true/\min da.depth db.depth<=64/\Q (.bl (!PyData.eqv da db)) H):=by subst h;exact wG hu
end
theorem Qq.same{K:W.Frag}{b:Bool}{H H':Hp}{a:Addr}{xs:List V}(h:Qq K b H a xs)(e:Same H H'):Qq K b H' a xs:=by
 cases b with
 |false=>exact e.seq (show SqL K H a xs from h)
 |true=>exact e.tup (show SqT K H a xs from h)
theorem Gd{s u:TS}{D:Ends}{σ:St}{H:Hp}(I:St->Hp->Prop)(h1:∀N:St->Hp->Prop,(∀σ' H',I σ' H'->N σ' H')->s {D with nx:=N} σ H)(h2:∀σ' H',I σ' H'->u D σ' H'):tSeq s u D σ H:=h1 (u D) h2
theorem CG:∀(names:List (Str×NameKind)) (n:Nat) (acc:List (Str×Addr)) {x:Str} {c:Addr},(x,c)∈cellsFrom n names acc->(x,c)∈acc\/((x,NameKind.cell)∈names/\n<=c)
 |[],_,_,_,_,h=> .inl h
 |(nm,k)::r,n,acc,x,c,h=>by
  unfold cellsFrom at h;split at h
  ·rename_i hk;have ek:k=NameKind.cell:=by simpa using hk
   rcases CG r _ _ h with q|⟨q,m⟩
   ·rcases cW.mp q with e|e
    ·cases e;subst ek;exact .inr ⟨jx,aR _⟩
    ·exact .inl e
   ·exact .inr ⟨jy _ q,by omega⟩
  ·rcases CG r _ _ h with q|⟨q,m⟩
   ·exact .inl q
   ·exact .inr ⟨jy _ q,m⟩
theorem xK:∀(names:List (Str×NameKind)) (n:Nat) (acc:List (Str×Addr)) {p:Str×Addr},p∈acc->p∈cellsFrom n names acc
 |[],_,_,_,h=>h
 |(nm,k)::r,n,acc,p,h=>by
  unfold cellsFrom;split
  ·exact xK r _ _ (jy _ h)
  ·exact xK r _ _ h
theorem CK:∀(names:List (Str×NameKind)) (n:Nat) (acc:List (Str×Addr)) {x:Str},(x,NameKind.cell)∈names->∃c,(x,c)∈cellsFrom n names acc
 |(nm,k)::r,n,acc,x,h=>by
  unfold cellsFrom;rcases cW.mp h with e|e
  ·cases e;rw[au (show(NameKind.cell==NameKind.cell)=true from rfl)];exact⟨n,xK r _ _ jx⟩
  ·split
   ·exact CK r _ _ e
   ·exact CK r _ _ e
theorem CJ{n0:Nat}:∀(names:List (Str×NameKind)) (n:Nat) (acc:List (Str×Addr)),n0<=n->(∀x y c,(x,c)∈acc->(y,c)∈acc->n0<=c->x=y)->(∀x c,(x,c)∈acc->c<n)->∀x y c,(x,c)∈cellsFrom n names acc->(y,c)∈cellsFrom n names acc->n0<=c->x=y
 |[],_,_,_,h,_=>h
 |(nm,k)::r,n,acc,hn,h,hl=>by
  unfold cellsFrom;split
  ·refine CJ r (n+1) ((nm,n)::acc) (by omega) (fun x y c hx hy hc=> ?_) (fun x c hx=> ?_)
   ·rcases cW.mp hx with e1|e1<;>rcases cW.mp hy with e2|e2
    ·cases e1;cases e2;rfl
    ·cases e1;exact absurd (hl _ _ e2) (rD _)
    ·cases e2;exact absurd (hl _ _ e1) (rD _)
    ·exact h x y c e1 e2 hc
   ·rcases cW.mp hx with e1|e1
    ·cases e1;exact vW _
    ·exact uK (hl _ _ e1)
  ·exact CJ r n acc hn h hl
theorem xJ:∀(names:List (Str×NameKind)) (h:Heap) (acc:List (Str×Addr)) {x:Str} {c:Addr},(x,c)∈cellsFrom h.objs.size names acc->(x,c)∈acc\/(pushCells h names).IsCell c none
 |[],_,_,_,_,h=> .inl h
 |(nm,k)::r,h,acc,x,c,hm=>by
  unfold cellsFrom at hm;unfold pushCells;split at hm
  ·rename_i hk;rw[au hk];have hm':(x,c)∈cellsFrom (h.push {cls:= .type "cell",data:= .cell none}).objs.size r ((nm,h.objs.size)::acc):=by rw[Ar];exact hm
   rcases xJ r (h.push {cls:= .type "cell",data:= .cell none}) _ hm' with q|q
   ·rcases cW.mp q with e|e
    ·cases e;exact .inr ⟨_,Z0 _ _ _ _ (nG _ rfl),rfl⟩
    ·exact .inl e
   ·exact .inr q
  ·rename_i hk;rw[aq hk];exact xJ r h acc hm
theorem Pj{M:Model}{A:Around}{E:L3}{s:η}{scope:Scope}{globals:Addr}{closure:List (Str×Addr)}{qual:Str}{env:Env}{Q:Env->η->Prop}(hQ:Q (newEnv scope s.heap.objs.size globals (cellsFrom (s.heap.objs.size+1) scope.names closure) qual none Value.none (some env) 0) {s with heap:=pushCells (s.heap.push {cls:= .type "dict",data:= .dict #[]}) scope.names}):
  wpAny M A (newFunctionEnv scope globals closure [] qual none .none (some env)) Q E s:=by
 simp only[newFunctionEnv,Option.isSome_some,RQ];refine aY (wpAny_alloc ?_);refine aY (wpAny_layCells _ (fun name kind cells=>by cases hkc:kind==NameKind.cell<;>simp[hkc]) _ _ _ _ ?_);rw[wew];refine aY (eU (eU ?_));rw[show({s with heap:=s.heap.push {cls:= .type "dict",data:= .dict #[]}}:η).heap.objs.size=s.heap.objs.size+1 from Ar ..];exact hQ
noncomputable def aQ(sc scope:Scope):Bool:=scope.names.all fun p=>(p.2 !=NameKind.cell||scope.names.lookup p.1==some NameKind.cell)&&(p.2 !=NameKind.local||scope.names.lookup p.1==some NameKind.local)&&
 (p.2 !=NameKind.free||(scope.names.lookup p.1==some NameKind.free&&(sc.names.lookup p.1==some NameKind.cell||sc.names.lookup p.1==some NameKind.free)))
section
variable{sc scope:Scope}
theorem aQ.cell(h:aQ sc scope=true){x:Str}(hy:(x,NameKind.cell)∈scope.names):scope.names.lookup x=some .cell:=by
 have q:=pH.mp h _ hy;simpa using q
theorem aQ.names(h:aQ sc scope=true):∀y∈scope.names,y.2= .local->scope.names.lookup y.1=some .local:=fun y hy e=>by
 have q:=pH.mp h y hy;simpa[e]using q
theorem aQ.free(h:aQ sc scope=true){x:Str}(hy:(x,NameKind.free)∈scope.names):scope.names.lookup x=some .free/\(sc.names.lookup x=some .cell\/sc.names.lookup x=some .free):=by
 have q:=pH.mp h _ hy;simpa using q
end
theorem yP{scope:Scope}{env:Env}{x:Str}(h:(relabel scope env).names.lookup x=some .cell\/(relabel scope env).names.lookup x=some .free):(x,NameKind.free)∈scope.names\/(x,NameKind.cell)∈scope.names:=by
 cases e:scope.names.lookup x with
 |none=>
  have q:=sY (env:=env) e;rcases h with h|h
  ·rw[show(relabel scope env).names.lookup x=none from q]at h;cases h
  ·rw[show(relabel scope env).names.lookup x=none from q]at h;cases h
 |some k=>
  have q:=mO (env:=env) e;have m:=IK e;by_cases hk:k= .free
  ·subst hk;exact .inl m
  ·have q':(relabel scope env).names.lookup x=some k:=by
    refine Eq.trans q ?_;have:(k==NameKind.free)=false:=by simpa using hk
    simp[this]
   rw[q']at h;rcases h with h|h
   ·cases h;exact .inr m
   ·cases h;exact absurd rfl hk
noncomputable def bL(X:Cx)(scope:Scope)(N:List Str)(s:η)(H:Hp)(cl:List (Str×Addr))(C:Addr)(ex:List Addr):Cx:=
 {X with N:=N,s₀:=s,H₀:=H,env:=compEnvC scope cl C X.env,outer:=X.stack,ex:=ex,fn:=fun x=>scope.names.lookup x==some NameKind.cell,pn:=[],xe:=fun _ _=>False}
section
variable{X:Cx}{tg iter elt:Expr}{ifs:List Expr}{scope:Scope}{pos:Pos}{own caps:List Str}{ix:List Nat}{g:TG}{tc:TT}{te:TE}
noncomputable abbrev Ii(X:Cx)(scope:Scope)(C:Addr):List (Str×Addr):=cellsFrom (C+1) scope.names (lH X.env.cells scope.names [])
theorem xH{pins:L1}{s:η}{σ:St}{H:Hp}{C:Addr}(ck:aQ X.env.scope scope=true)(I:Inv X pins σ H s){x:Str}{c:Addr}(e:(Ii X scope C).lookup x=some c):
  (X.env.cells.lookup x=some c/\(x,NameKind.free)∈scope.names)\/((x,NameKind.cell)∈scope.names/\C<c/\(x,c)∉lH X.env.cells scope.names []):=by
 have old:(x,c)∈lH X.env.cells scope.names []->X.env.cells.lookup x=some c/\(x,NameKind.free)∈scope.names:=fun q=>by
  rcases oZ q with q|⟨q,mm⟩
  ·cases q
  ·obtain⟨d,hd⟩:=I.ok.has x (aQ.free ck mm).2;rw[hd]at q;have q:c=d:=q;rw[q];exact⟨hd,mm⟩
 rcases CG _ _ _ (IK e)with q|⟨q,m⟩
 ·exact .inl (old q)
 ·refine .inr ⟨q,m,fun z=> ?_⟩;have h1:=aQ.cell ck q;have h2:=(aQ.free ck (old z).2).1;rw[h1]at h2;cases h2
theorem zO{pins:L1}{s s':η}{σ:St}{H:Hp}{fp:List Addr}{C:Addr}{m:L4}(ck:aQ X.env.scope scope=true)(hkind:scope.kind= .function)(hcap:jw X scope caps ix)
  (I:Inv X pins σ H s)(f2:∀b∈fp,FpOk X pins H b)(hlt:∀b∈fp,b<s.heap.objs.size)(hC:s.heap.objs.size<=C)(hos:s'.os=s.os)(hg:AllBare s'.gens)(hk:∀b o,s.heap.get? b=some o->s'.heap.get? b=some o)(hn:s'.heap.Ns C m)(hcl:∀x c,(Ii X scope C).lookup x=some c->(x,c)∉lH X.env.cells scope.names []->s'.heap.IsCell c none):
  Inv (bL X scope (own++caps) s H (Ii X scope C) C fp) [] (zu own ix σ) H s':=by
 have cl1:=fun x c e=>xH (C:=C) (x:=x) (c:=c) ck I e;have Ey:∀x c,X.env.cells.lookup x=some c->c<s.heap.objs.size:=fun x c e=>by
  obtain⟨v,o,ho,_⟩:=I.cell x c e;exact fD ho
 have cl2:∀x,(x,NameKind.free)∈scope.names\/(x,NameKind.cell)∈scope.names->∃c,(Ii X scope C).lookup x=some c:=fun x mm=>by
  rcases mm with mm|mm
  ·obtain⟨c,hc⟩:=zQ (cells:=X.env.cells) (acc:=[]) mm;obtain⟨d,hd,_⟩:=Zq (xK scope.names (C+1) _ hc);exact⟨d,hd⟩
  ·obtain⟨c,hc⟩:=CK scope.names (C+1) (lH X.env.cells scope.names []) mm;obtain⟨d,hd,_⟩:=Zq hc;exact⟨d,hd⟩
 have inj:∀x y c,(Ii X scope C).lookup x=some c->(Ii X scope C).lookup y=some c->x=y:=fun x y c h1 h2=>by
  rcases cl1 x c h1 with⟨q1,_⟩|⟨q1,m1,_⟩<;>rcases cl1 y c h2 with⟨q2,_⟩|⟨q2,m2,_⟩
  ·exact I.ok.inj x y c q1 q2
  ·exact absurd (Nk (kW (Ey x c q1) hC) m2) (rD _)
  ·exact absurd (Nk (kW (Ey y c q2) hC) m1) (rD _)
  ·refine CJ (n0:=C+1) scope.names (C+1) _ (aR _) (fun x y c hx hy hc=> ?_) (fun x c hx=> ?_) x y c (IK h1) (IK h2) m1
   ·obtain⟨d,hd,_⟩:=Zq hx;rcases oZ hx with q|⟨q,mm⟩
    ·cases q
    ·obtain⟨d,hd⟩:=I.ok.has x (aQ.free ck mm).2;rw[hd]at q;have q:c=d:=q;subst q;exact absurd (kW (kW (Ey x c hd) hC) (dD hc)) (rD _)
   ·rcases oZ hx with q|⟨q,mm⟩
    ·cases q
    ·obtain⟨d,hd⟩:=I.ok.has x (aQ.free ck mm).2;rw[hd]at q;have q:c=d:=q;subst q;exact uK (kW (Ey x c hd) hC)
 have bsz:X.base.objs.size<=s.heap.objs.size:=cQ I.ok.bsz I.sz;refine⟨⟨I.ok.mod,hkind,I.ok.glob,I.ok.blt,hC,inj,fun x hx=>cl2 x (yP hx),fun x c h e=> ?cab,I.ok.hd,I.ok.frames,.inl rfl,fun b hb=>⟨iM (kW (hlt b hb) hC),fun x c e=> ?exf⟩,I.bs,bsz,
  fun b o e hb=> ?_,fun b hb hz=> ?_,I.stack,I.stkFree⟩,?_,hg,Un.kept hk,⟨m,hn,fun i x v h1 h2 h3=> ?_⟩,fun x c e=> ?_,I.hok.fresh hC,fun x c e=> ?frc,fun p hp=>absurd (show p∈([]:L1)from hp) (by simp),I.hok.kept hk,?_⟩
 case cab=>
  rcases cl1 x c e with⟨_,q⟩|⟨_,q,_⟩
  ·have y1:=(aQ.free ck q).1;have y2:(scope.names.lookup x==some NameKind.cell)=true:=h;rw[y1]at y2;exact absurd y2 (by decide)
  ·exact cQ hC (dD q)
 case exf=>
  rcases cl1 x c e with⟨q,_⟩|⟨_,q,_⟩
  ·exact(f2 b hb).2.2.2.2.1 x c q
  ·exact lQ (iM (Nk (kW (hlt b hb) hC) q))
 case frc=>
  rcases cl1 x c e with⟨q,_⟩|⟨_,q,_⟩
  ·exact I.freeC x c q
  ·exact I.hok.fresh (cQ hC (dD q))
 ·rcases(f2 b hb).2.2.2.1 with z|z
  ·exact I.ok.noex b o e z
  ·exact absurd (kW (fD e) (cQ I.ok.bsz z)) (rD _)
 ·rcases cW.mp (I.stkSub b hz)with z|z
  ·exact(f2 b hb).2.1 z
  ·exact(f2 b hb).2.2.1 z
 ·exact hos
 ·have h1:(own++caps)[i]? =some x:=h1;have h2:(own.map (fun _=>(none:Option V))++ix.map fun j=>(σ[j]?).join)[i]? =some (some v):=h2;by_cases hi:i<own.length
  ·rw[yed (by simpa using hi),dY]at h2;cases e:own[i]? <;>rw[e]at h2<;>simp at h2
  ·rw[ZF (by simpa using hi)]at h2;rw[ZF (by omega)]at h1;rw[aH]at h2;obtain⟨j,e1,e2,e3⟩:=hcap.get h1;rw[dY,e1]at h2;have h2':(σ[j]?).join=some v:=by simpa using h2
   have h4:σ[j]? =some (some v):=by
    cases q:σ[j]? with
    |none=>rw[q]at h2';cases h2'
    |some w=>rw[q]at h2';exact jz some h2'
   obtain⟨m0,hn0,hl0⟩:=I.loc;have mm:=IK e3;have vis:=(aQ.free ck mm).2;obtain⟨u,r,l⟩:=hl0 j x v e2 h4 (.inr vis);refine⟨u,r,.inr ?_⟩;rcases l with⟨k,_⟩|⟨k,c,e,z⟩
   ·rcases vis with q|q
    ·rw[show X.env.kindOf x=some .cell from q]at k;cases k
    ·rw[show X.env.kindOf x=some .free from q]at k;cases k
   ·obtain⟨d,hd⟩:=cl2 x (.inl mm);rcases cl1 x d hd with⟨this,_⟩|⟨qc,_⟩
    ·rw[e]at this;cases this;exact⟨BJ e3,c,hd,z.keeps hk⟩
    ·have y1:=aQ.cell ck qc;rw[e3]at y1;cases y1
 ·rcases cl1 x c e with⟨q,_⟩|⟨_,_,q⟩
  ·obtain⟨v,z⟩:=I.cell x c q;exact⟨v,z.keeps hk⟩
  ·exact⟨none,hcl x c e q⟩
 ·show(own.map (fun _=>(none:Option V))++ix.map fun j=>(σ[j]?).join).length=(own++caps).length;simp[hcap.len]
theorem ud(ck:aQ X.env.scope scope=true)(hkind:scope.kind= .function)(hcap:jw X scope caps ix)(hc:X.calm=true)(hg:∀s H cl C ex,PG (bL X scope (own++caps) s H cl C ex) tg g)(ht:∀s H cl C ex,Rr (bL X scope (own++caps) s H cl C ex) ifs tc)(he:∀s H cl C ex,PE (bL X scope (own++caps) s H cl C ex) elt te){pins:L1}{s2:η}{σ:St}{H2:Hp}{E:L3}(I2:Inv X pins σ H2 s2){it:Addr}{fp:List Addr}{tn:Nat->Heap->Prop}{J:It}(T:Turn X.prog X.w X.K tg J fp it tn)(st2:tn 0 s2.heap)(f2:∀b∈fp,FpOk X pins H2 b)
  {W:Nat->Nat->List V->St->Hp->Prop}{m0:Nat}(w0:W 0 m0 [] (zu own ix σ) H2){Fin:List V->Hp->Prop}(turn:∀i m acc σ H,W i m acc σ H->(J.stop i H/\acc.length<=sizeLine/\Fin acc H)\/(J.go i H/\acc.length<sizeLine/\∃N:List V->St->Hp->Prop,(∀acc' σ' H',N acc' σ' H'->∃m',m'<m/\W (i+1) m' acc' σ' H')/\∀x H',J.yld i H x H'->g x σ H' fun σ2 H2=>tc σ2 H2 fun b H3=>
   if b=true then te σ2 H3 fun v H4=>N (acc++[v]) σ2 H4 else N acc σ2 H3))
  {RR:ζ->Addr->Result->η->Prop}(hRR:∀D C s' acc Hf m,Inv X pins σ (upd Hf D (.lst acc)) s'->Hf D=none->s'.heap.Ns C m->FpOk X pins (upd Hf D (.lst acc)) C->Fin acc Hf->RR (.ref D) C (.ok .next) s'):
  wpAny (model X.prog X.w) X.A (newList []) (fun acc s₃=>wpAny (model X.prog X.w) X.A (newFunctionEnv scope X.env.globals (lH X.env.cells scope.names []) [] X.env.qual none .none (some X.env)) (fun cenv s₄=>
   codeAny (model X.prog X.w) X.A (.compStart (.ListComp elt [⟨tg,iter,ifs,0⟩] scope pos) 0 (.ref it) acc {cenv with scope:=relabel scope X.env}) (RR acc cenv.locals) s₄) E s₃) E s2:=by
 refine VJ (Pj ?_);generalize hP:s2.heap.push {cls:= .type "list",dict:=none,data:= .seq ([]:List ζ).toArray}=P1;have hC:P1.objs.size=s2.heap.objs.size+1:=by rw[<-hP,Ar]
 have hlt:∀b∈fp,b<s2.heap.objs.size:=fun b hb=>by
  obtain⟨o,e,_⟩:=T.obj _ _ st2 b hb;exact fD e
 generalize hh1:pushCells (P1.push {cls:= .type "dict",data:= .dict #[]}) scope.names=h₁;have hns₁:h₁.Ns P1.objs.size (fun _=>none):=by rw[<-hh1];exact(Heap.Ns.new P1 (.type "dict")).keeps (Z0 _ _)
 have old:∀b o,s2.heap.get? b=some o->h₁.get? b=some o:=fun b o e=>by
  rw[<-hh1];exact Z0 _ _ b o (eV _ (hP▸eV _ e))
 have hD1:h₁.get? s2.heap.objs.size=some {cls:= .type "list",data:= .seq ([]:List ζ).toArray 0}:=by
  rw[<-hh1];exact Z0 _ _ _ _ (eV _ (hP▸nG _ rfl))
 have X7:∀x c,(Ii X scope P1.objs.size).lookup x=some c->(x,c)∉lH X.env.cells scope.names []->h₁.IsCell c none:=fun x c e n=>by
  have e':(x,c)∈cellsFrom (P1.objs.size+1) scope.names (lH X.env.cells scope.names []):=IK e;rw[show P1.objs.size+1=(P1.push {cls:= .type "dict",data:= .dict #[]}).objs.size from(Ar ..).symm]at e';rcases xJ _ _ _ e' with q|q
  ·exact absurd q n
  ·rw[<-hh1];exact q
 show codeAny (model X.prog X.w) X.A (.compStart (.ListComp elt [⟨tg,iter,ifs,0⟩] scope pos) 0 (.ref it) (.ref s2.heap.objs.size) {newEnv scope P1.objs.size X.env.globals (Ii X scope P1.objs.size) X.env.qual none Value.none (some X.env) 0 with scope:=relabel scope X.env}) (RR (.ref s2.heap.objs.size) P1.objs.size) {s2 with heap:=h₁};generalize PB:s2.heap.objs.size=D at *;rw[hC]at hns₁ X7⊢;have entry:Inv (bL X scope (own++caps) s2 H2 (Ii X scope (D+1)) (D+1) fp) [] (zu own ix σ) H2 {s2 with heap:=h₁}:=
  zO ck hkind hcap I2 f2 (by rw[PB];exact hlt) (by rw[PB];exact MK _) rfl I2.bare old hns₁ X7
 generalize hX':bL X scope (own++caps) s2 H2 (Ii X scope (D+1)) (D+1) fp=X' at entry;have eP:X'.prog=X.prog:=by rw[<-hX'];rfl
 have ew:X'.w=X.w:=by rw[<-hX'];rfl
 have eK:X'.K=X.K:=by rw[<-hX'];rfl
 have eA:X'.A=X.A:=by rw[<-hX'];rfl
 have Rn:X'.calm=true:=by rw[<-hX'];exact hc
 have efs:X'.fs=frs X.stack:=by rw[<-hX'];rfl
 have eex:X'.ex=fp:=by rw[<-hX'];rfl
 have epn:X'.pn=[]:=by rw[<-hX'];rfl
 have es0:X'.s₀=s2:=by rw[<-hX'];rfl
 have eH0:X'.H₀=H2:=by rw[<-hX'];rfl
 have exe:X'.xe=fun _ _=>False:=by rw[<-hX'];rfl
 have Ql:X'.env=compEnvC scope (Ii X scope (D+1)) (D+1) X.env:=by rw[<-hX'];rfl
 have LK:X'.env.locals=D+1:=by rw[Ql];rfl
 have hg':PG X' tg g:=by rw[<-hX'];exact hg _ _ _ _ _
 have ht':Rr X' ifs tc:=by rw[<-hX'];exact ht _ _ _ _ _
 have he':PE X' elt te:=by rw[<-hX'];exact he _ _ _ _ _
 have ecl:∀x c,X'.env.cells.lookup x=some c->c≠D:=fun x c e=>by
  rw[Ql]at e;rcases xH (C:=D+1) ck I2 e with⟨q,_⟩|⟨_,q,_⟩
  ·obtain⟨v',o',ho',_⟩:=I2.cell x c q;exact iM (by rw[<-PB];exact fD ho')
  ·exact lQ (iM (Nk (vW D) q))
 have dfs:D∉frs X.stack:=fun hb=>by
  rcases cW.mp (I2.stkSub D hb)with z|z
  ·exact absurd (Nat.lt_of_lt_of_eq I2.lt PB) (by rw[z];exact rD _)
  ·exact I2.nofs (Dw PB) z
 have fpn:∀{H':Hp} {o:Obj},(∀b∈fp,H' b=none)->∀b∈fp,FpOk X' [(D,o)] H' b:=fun{H' o} hn b hb=>by
  have hbl:=hlt b hb;refine⟨hn b hb,by rw[LK];exact iM (uK hbl),?_,.inl (by rw[eex];exact hb),fun x c e=> ?_,fun p hp=> ?_⟩
  ·rw[efs];intro z;rcases cW.mp (I2.stkSub b z)with z|z
   ·exact(f2 b hb).2.1 z
   ·exact(f2 b hb).2.2.1 z
  ·rw[Ql]at e;rcases xH (C:=D+1) ck I2 e with⟨q,_⟩|⟨_,q,_⟩
   ·exact(f2 b hb).2.2.2.2.1 x c q
   ·exact lQ (iM (Nk (uK hbl) q))
  ·rw[epn]at hp;have:p=(D,o):=by simpa using hp
   rw[this];exact Nm hbl
 have aaf:∀{σ':St} {H':Hp} {s':η} {o:Obj},Inv X' [] σ' H' s'->s'.heap.get? D=some o->H' D=none->(∀v,o.data≠.cell v)->Inv X' [(D,o)] σ' H' s':=fun{σ' H' s' o} I e n d=>
  I.pins_of fun p hp=>by
   have:p=(D,o):=by simpa using hp
   subst this;exact⟨e,n,by rw[LK];exact iM (vW D),by rw[efs];exact dfs,d⟩
 have loop:∀s₃:η,s₃={s2 with heap:=h₁}->
   codeAny (model X.prog X.w) X.A (.compLoop (.ListComp elt [⟨tg,iter,ifs,0⟩] scope pos) 0 (.ref it) (.ref D) X'.env) (RR (.ref D) (D+1)) s₃:=by
  intro s₃ hs₃;refine codeAny_loop rfl (fun n s'=>∃i acc its k σ' H',Inv X' [] σ' H' s'/\tn i s'.heap/\(∀b∈fp,H' b=none)/\s'.heap.get? D=some {cls:= .type "list",data:= .seq (List.toArray its) k}/\Vals acc its/\H' D=none/\W i n acc σ' H') ?_ m0
   ⟨0,[],[],0,zu own ix σ,H2,by rw[hs₃];exact entry,by rw[hs₃];exact T.keep _ _ _ st2 fun b _ o e=>old b o e,fun b hb=>(f2 b hb).1,by rw[hs₃];exact hD1,.nil,I2.hok.fresh (Dw PB),w0⟩
  rintro n s3 ⟨i,acc,its,k,σ3,H3,I3,st3,fr3,eD,rv,nD,w3⟩;show wpAny _ X.A ((compTurn (.ListComp elt [⟨tg,iter,ifs,0⟩] scope pos) 0 (.ref it) (.ref D) X'.env).onRaise (fun x=>do noteFrame x X'.env;theTreesLotGoes x)) _ _ s3;refine wpAny_noted ?_;rw[compTurn_list];have noE:∀{α:Type} {t:Sem α} {Q:α->η->Prop} {E':L3} {s:η},wpAny (model X'.prog X'.w) X'.A t Q X'.xe s->wpAny (model X.prog X.w) X.A t Q E' s:=fun{α t Q E' s} h=>by
   rw[eP,ew,eA,exe]at h;exact M5 h (fun _ _ q=>q) fun _ _ z=>z.elim
  have I3':=aaf (o:={cls:= .type "list",data:= .seq (List.toArray its) k}) I3 eD nD (fun v z=>by
   have z':Data.seq (List.toArray its) k=Data.cell v:=z;cases z')
  refine aY (wpAny_standAt (aY ?_));rcases turn i n acc σ3 H3 w3 with⟨stop,hz,fin⟩|⟨go,hz,Nn,hN,step⟩
  ·have q:=T.done X' eP ew eK Rn i [(D,_)] s3 σ3 H3 (notedBy (model X.prog X.w) X.A X'.env fun e s'=>RR (.ref D) (D+1) (.error e) s') I3' (fpn fr3) st3 stop;rw[eA]at q;refine thn q fun r s4 ⟨hr,I4⟩=> ?_;subst hr;refine eU ?_;obtain⟨e4,_⟩:=I4.pin (D,_) (Gi _ jx);obtain⟨mC,hnC,_⟩:=I4.loc;have u4:=I4.base;rw[efs,eex,eH0,es0]at u4;have ok4:=I4.hok;rw[eP,ew]at ok4;have nC:H3 (D+1)=none:=by have:=I4.free;rw[LK]at this;exact this
   have hok:HOk X.prog X.w (upd H3 D (.lst acc)) s4.heap:=ok4.add nD ⟨hz,its,k,rv,e4⟩;refine hRR D (D+1) s4 acc H3 mC ?_ nD (by rw[LK]at hnC;exact hnC) ?_ fin
   ·refine I2.call' (s':=s4) (ch:=fp) ?_ (u4.add (by rw[PB];exact aR _) nD) hok I4.bare fun b hb=> ?_
    ·have:=I4.os;rw[es0]at this;exact this
    ·obtain⟨f0,f1,f3,f4,f5,f6⟩:=f2 b hb;exact⟨f4,f1,f5,f6⟩
   ·refine I2.fpOk (by rw[PB];exact MK _) ?_;rw[cP (Nm (vW D))];exact nC
  ·have q:=T.item X' eP ew eK Rn i [(D,_)] s3 σ3 H3 (notedBy (model X.prog X.w) X.A X'.env fun e s'=>RR (.ref D) (D+1) (.error e) s') I3' (fpn fr3) st3 go;rw[eA]at q;refine thn q fun r s4 ⟨u,hr,h4⟩=> ?_;subst hr;dsimp only;refine aY (thn h4 fun _ s5 ⟨x,H5,I5,r5,y5,st5,fr5⟩=> ?_);have I5':=I5.pinned (fpn fr5) (T.obj _ _ st5);have again:∀{σ7:St} {H7:Hp} {s7:η},Inv X' ([(D,{cls:= .type "list",data:= .seq (List.toArray its) k})]++pinsAt fp s5.heap) σ7 H7 s7->tn (i+1) s7.heap/\(∀b∈fp,H7 b=none)/\s7.heap.get? D=some {cls:= .type "list",data:= .seq (List.toArray its) k}/\H7 D=none:=fun{σ7 H7 s7} I7=>by
    refine⟨T.keep _ _ _ st5 fun b hb o e=>(I7.pin (b,o) (Gi _ (Gi _ (mem_pinsAt hb e)))).1,fun b hb=> ?_,?_⟩
    ·obtain⟨o,e,d⟩:=T.obj _ _ st5 b hb;exact(I7.pin (b,o) (Gi _ (Gi _ (mem_pinsAt hb e)))).2.1
    ·have:=I7.pin (D,_) (Gi _ (Zx _ jx));exact⟨this.1,this.2.1⟩
   refine aY (thn (noE (hg' _ s5 σ3 H5 x u _ I5' r5 (step x H5 y5))) fun _ s6 ⟨σ6,H6,I6,q6⟩=> ?_);refine aY (thn (noE (ht' _ s6 σ6 H6 _ I6 q6)) fun ok s7 ⟨H7,I7,q7⟩=> ?_);cases ok with
   |false=>
    rw[aq vq]at q7;obtain⟨m',hm,w7⟩:=hN _ _ _ q7;obtain⟨a1,a2,a3,a4⟩:=again I7;exact eU ⟨rfl,m',hm,i+1,acc,its,k,σ6,H7,I7.pins_of (fun p hp=>nomatch hp),a1,a2,a3,rv,a4,w7⟩
   |true=>
    rw[au rfl]at q7;refine aY (aY (thn (noE (he' _ s7 σ6 H7 _ I7 q7)) fun v s8 ⟨y,H8,I8,r8,q8⟩=> ?_));obtain⟨m',hm,w8⟩:=hN _ _ _ q8;obtain⟨a1,a2,a3,a4⟩:=again I8;have hl:=rv.length;refine aY (VB F.slot_list_append ⟨_,a3,rfl⟩ F.entry_list_append (F.args_list_append_2 _ _) (PySem.list_append D its.toArray k v (by rw[iw];omega)) ⟨a3,?_⟩);refine eU (eU ⟨rfl,m',hm,i+1,acc++[y],its++[v],?_⟩);have qD:=PySem.IsL.update a3 (fun a:Array ζ=>a.push v);rw[List.push_toArray]at qD;have kp:∀b o,b≠D->s8.heap.get? b=some o->(s8.heap.update D (Obj.mapSeq fun a=>a.push v)).get? b=some o:=fun b o hb e=>(wbz s8.heap _ (lQ hb)).trans e;have I8':Inv X' [] σ6 H8 {s8 with heap:=s8.heap.update D (Obj.mapSeq fun a=>a.push v)}:=by
     refine(I8.pins_of (pins':=[]) (fun p hp=>nomatch hp)).turned (t':=s8.toks) (it:=D) kp a4 (by rw[LK];exact iM (vW D)) (.inr (by rw[es0,PB];exact aR _)) (fun x c e=>ecl x c e) (fun p hp=> ?_);rw[epn]at hp;exact nomatch hp
    exact⟨_,σ6,H8,I8',T.keep _ _ _ a1 fun b hb o e=>kp b o (iM (hlt b hb)) e,a2,qD,rv.append (.cons r8 .nil),a4,w8⟩
 have Yz:({newEnv scope (D+1) X.env.globals (Ii X scope (D+1)) X.env.qual none Value.none (some X.env) 0 with scope:=relabel scope X.env}:Env)=X'.env:=by rw[Ql];rfl
 have L:=loop _ rfl;rw[<-Yz]at L;exact codeAny_compStart_list L (T.self X.A 0 _ _ _ (T.keep _ _ _ st2 fun b _ o e=>old b o e) L)
end
section
variable{X:Cx}{tg iter elt:Expr}{ifs:List Expr}{scope:Scope}{pos:Pos}{own caps:List Str}{ix:List Nat}{wi:TI}{g:TG}{tc:TT}{te:TE}
theorem J8(hc:X.calm=true)(hi:PI X tg iter wi)(ck:aQ X.env.scope scope=true)(hkind:scope.kind= .function)(hcap:jw X scope caps ix)(hg:∀s H cl C ex,PG (bL X scope (own++caps) s H cl C ex) tg g)(ht:∀s H cl C ex,Rr (bL X scope (own++caps) s H cl C ex) ifs tc)(he:∀s H cl C ex,PE (bL X scope (own++caps) s H cl C ex) elt te)(hs:∀x,foldedSetIterable iter X.env x=pure x:=by intro _;rfl):PE X (.ListComp elt [⟨tg,iter,ifs,0⟩] scope pos) (DP wi own ix g tc te):=by
 intro pins s σ H Q I h;rw[eval_ListComp];refine wpAny_comprehension_free (use:=none) rfl hs (ug fun x hx=>I.ok.has x ((aQ.free ck hx).2)) hkind (aQ.names ck) (thn (hi pins s σ H _ I h) fun xv s1 h1=>thn h1 fun itv s2 h2=> ?_);obtain⟨it,fp,tn,J,H2,e,I2,T,st2,f2,W,⟨m0,w0⟩,turn⟩:=h2;subst e;refine ud (RR:=fun acc C=>compPost (model X.prog X.w) X.A X.xe none (EP X pins σ Q) acc C) ck hkind hcap hc hg ht he I2 T st2 f2 w0 turn ?_;intro D C s' acc Hf m I' nD hn fC fin;refine⟨m,hn,fun h' sb=> ?_⟩;obtain⟨f0,f1,f3,f4,f5,f6⟩:=fC;exact⟨.ref D,_,I'.turned (t':=s'.toks) (it:=C) (fun b o hb e=>(sb.2 b hb).trans e) f0 f1 f4 f5 f6,rfl,fin D nD⟩
theorem pK{X:Cx}{tg iter elt:Expr}{ifs:List Expr}{scope:Scope}{pos:Pos}{wi:TI}{g:TG}{tc:TT}{te:TE}(own caps:List Str)(ix:List Nat)(hi:PI X tg iter wi)(hg:∀{s H cl C ex},PG (bL X scope (own++caps) s H cl C ex) tg g)(ht:∀{s H cl C ex},Rr (bL X scope (own++caps) s H cl C ex) ifs tc)(he:∀{s H cl C ex},PE (bL X scope (own++caps) s H cl C ex) elt te)(hcap:jw X scope caps ix:=by repeat(first |exact jw.nil|refine jw.cons rfl rfl ?_))(hc:X.calm=true:=by rfl)(ck:aQ X.env.scope scope=true:=by rfl)(hkind:scope.kind= .function:=by rfl)(hs:∀x,foldedSetIterable iter X.env x=pure x:=by intro _;rfl):PE X (.ListComp elt [⟨tg,iter,ifs,0⟩] scope pos) (DP wi own ix g tc te):=J8 hc hi ck hkind hcap (fun _ _ _ _ _=>hg) (fun _ _ _ _ _=>ht) (fun _ _ _ _ _=>he) hs
theorem yQ{i:Nat}{y:Str}{py spos:Pos}(hN:X.N.Nodup)(hiN:X.N[i]? =some y)(hx:Loc X.env.scope y)(hc:X.calm=true)(hi:PI X tg iter wi)(ck:aQ X.env.scope scope=true)(hkind:scope.kind= .function)(hcap:jw X scope caps ix)(hg:∀s H cl C ex,PG (bL X scope (own++caps) s H cl C ex) tg g)(ht:∀s H cl C ex,Rr (bL X scope (own++caps) s H cl C ex) ifs tc)(he:∀s H cl C ex,PE (bL X scope (own++caps) s H cl C ex) elt te)(hsw:swapsWith (.ListComp elt [⟨tg,iter,ifs,0⟩] scope pos) (some (.Name y py)) spos.line X.env=pure true:=by rfl)(hf:X.fn y=true\/X.env.scope.names.lookup y=some .local:=by first |exact .inl rfl|exact .inr rfl|assumption)(hs:∀x,foldedSetIterable iter X.env x=pure x:=by intro _;rfl):PS X (.Assign [.Name y py] (.ListComp elt [⟨tg,iter,ifs,0⟩] scope pos) spos) (tAsg (DP wi own ix g tc te) (gName i)):=by
 intro pins s σ H Dn I h;rw[exec_Assign_Name_used _ _ _ _ hsw];refine aY (wpAny_standAt (aY ?_));show wpAny _ X.A (do let _<-comprehension (.ListComp elt [⟨tg,iter,ifs,0⟩] scope pos) scope X.env _ (newList []) false (eval iter X.env) (some (assign (.Name y py) X.env))) _ _ s;refine aY (M5 (wpAny_comprehension_free (use:=some (assign (.Name y py) X.env)) (Q:=fun _ s'=>SP X pins Dn .next s') rfl hs (ug fun x hx=>I.ok.has x ((aQ.free ck hx).2)) hkind (aQ.names ck)
  (thn (hi pins s σ H _ I h) fun xv s1 h1=>thn h1 fun itv s2 h2=> ?_)) (fun _ s' hq=>eU (eU hq)) fun _ _ e=>e)
 obtain⟨it,fp,tn,J,H2,e,I2,T,st2,f2,W,⟨m0,w0⟩,turn⟩:=h2;subst e;refine ud (RR:=fun acc C=>compPost (model X.prog X.w) X.A X.xe (some (assign (.Name y py) X.env)) (fun _ s'=>SP X pins Dn .next s') acc C) ck hkind hcap hc hg ht he I2 T st2 f2 w0 turn ?_;intro D C s' acc Hf m I' nD hn fC fin;obtain⟨f0,f1,f3,f4,f5,f6⟩:=fC;show wpAny _ X.A (assign (.Name y py) X.env (.ref D)) _ _ _;refine wpAny_assign_Name (store_ok2 I' hN hiN hx (show RelV (.ref D) (.ref D)from rfl) (fun s'' I'' ⟨a,sb,ha⟩=> ?_) hf);have hCa:C≠a:=by
  rcases ha with ha|ha
  ·rw[ha];exact f1
  ·exact fun z=>f5 y a ha z.symm
 refine⟨m,hn.sameBut sb hCa,fun h' sb'=> ?_⟩;exact⟨_,_,I''.turned (t':=s''.toks) (it:=C) (fun b o hb e=>(sb'.2 b hb).trans e) f0 f1 f4 f5 f6,fin D nD⟩
theorem pX{X:Cx}{tg iter elt:Expr}{ifs:List Expr}{scope:Scope}{pos:Pos}{wi:TI}{g:TG}{tc:TT}{te:TE}{y:Str}{py spos:Pos}(i:Nat)(own caps:List Str)(ix:List Nat)(hi:PI X tg iter wi)(hg:∀{s H cl C ex},PG (bL X scope (own++caps) s H cl C ex) tg g)(ht:∀{s H cl C ex},Rr (bL X scope (own++caps) s H cl C ex) ifs tc)(he:∀{s H cl C ex},PE (bL X scope (own++caps) s H cl C ex) elt te)(hcap:jw X scope caps ix:=by repeat(first |exact jw.nil|refine jw.cons rfl rfl ?_))(hc:X.calm=true:=by rfl)(ck:aQ X.env.scope scope=true:=by rfl)(hkind:scope.kind= .function:=by rfl)(hN:decide X.N.Nodup=true:=by kernel_rfl)(hi_:X.N[i]? =some y:=by rfl)(hx:Loc X.env.scope y:=by first |exact Or.inl rfl|exact Or.inr rfl)(hsw:swapsWith (.ListComp elt [⟨tg,iter,ifs,0⟩] scope pos) (some (.Name y py)) spos.line X.env=pure true:=by rfl)(hf:X.fn y=true\/X.env.scope.names.lookup y=some .local:=by first |exact .inl rfl|exact .inr rfl|assumption)(hs:∀x,foldedSetIterable iter X.env x=pure x:=by intro _;rfl):PS X (.Assign [.Name y py] (.ListComp elt [⟨tg,iter,ifs,0⟩] scope pos) spos) (tAsg (DP wi own ix g tc te) (gName i)):=yQ (cR hN) hi_ hx hc hi ck hkind hcap (fun _ _ _ _ _=>hg) (fun _ _ _ _ _=>ht) (fun _ _ _ _ _=>he) hsw hf hs
end
end L2
namespace uo
open PySem PySem.W PyProof.Rows PySem.Calls
section
variable{prog:ξ}{w:τ}{A:Around}{E:L3}{s:η}{O:KeyOrd}{key:Nat->O.α}{κ:SortKind}{vs:List ζ}
theorem zP{t:Addr}{Q:List ζ->η->Prop}(ht:s.heap.IsTuple t vs.toArray)(h:Q vs {s with heap:=(s.heap.push (seqObj "list" #[] 0)).update s.heap.objs.size (Obj.mapSeq (· ++vs.toArray))})(hz:vs.length<=sizeLine):
  wpAny (model prog w) A (collect (.ref t)) Q E s:=by
 obtain⟨o,ho,hc,n,hd⟩:=id ht;unfold collect;refine aY (wpAny_runValue (Z1 entry_proto_collect' ?_));show wpAny _ _ (do again (.builtin "list.__iadd__" ⟨[<-newList [],.ref t],[]⟩)) _ _ s;refine aY (ZR (eU ⟨Code.quiet_builtin _ (by decide+kernel),Z1 entry_list_iadd' ?_⟩));show wpAny _ _ (Builtin.List.listExtendWith (.ref s.heap.objs.size) (.ref t) (.ref s.heap.objs.size)) _ _ {s with heap:=s.heap.push (seqObj "list" #[] 0)};unfold Builtin.List.listExtendWith;have h1:(s.heap.push (seqObj "list" #[] 0)).get? t=some o:=eV _ ho;have h2:(Value.type "tuple"==Value.type "tuple")=true:=by rfl
 refine aY (wpAny_typeOf (T:="tuple") ⟨o,h1,hc⟩ ?_);rw[au (by rw[h2];simp)];refine aY (listItems_at h1 hd (aY (listItems_at (xs:=#[]) (n:=0) (nG _ rfl) rfl ?_)));rw[aq (by simp)];refine aY (ZS (xs:=#[]) (n:=0) (nG _ rfl) rfl (eU ?_) (dX _) (by show(#[]++vs.toArray).size<=sizeLine+1;simp only[Array.size_append,iw,Nq];omega));show wpAny (model prog w) A (load s.heap.objs.size>>=_) Q E {s with heap:=(s.heap.push (seqObj "list" #[] 0)).update s.heap.objs.size (Obj.mapSeq (· ++vs.toArray))};refine aY (wpAny_load (Z6 (nG _ rfl) _) ?_);show wpAny _ _ (pure ((#[]:Array ζ)++vs.toArray).toList) Q E _;have e:((#[]:Array ζ)++vs.toArray).toList=vs:=by simp
 rw[e];exact eU h
theorem Bq{l:Addr}{Q:L3}(hl:s.heap.IsTuple l vs.toArray)(h64:vs.length<64)(hkind:2<=vs.length->∀h',(∀b o,s.heap.get? b=some o->h'.get? b=some o)->∀(E:L3) (Q:SortKind->η->Prop),Q κ {s with heap:=h'}->wpAny (model prog w) A.in1.in1 (keyKind' vs.toArray) Q E {s with heap:=h'})(K6:2<=vs.length->∀h',(∀b o,s.heap.get? b=some o->h'.get? b=some o)->kI O key vs.length (kas_ask prog w A.in1.in1 κ vs) {s with heap:=h'})(h:∀D h' out c,Mt key vs out->s.heap.objs.size<=D->(∀b o,s.heap.get? b=some o->h'.get? b=some o)->h'.get? D=some (seqObj "list" (List.toArray out) c)->Q (.ref D) {s with heap:=h'}):
  wpAny (model prog w) A (call (.builtin "sorted") [.ref l]) Q E s:=by
 refine Calls.call_function_entry kind_sorted plain_sorted entry_sorted (args_sorted1 _) ?_;unfold Builtin.«sorted»;refine aY (m:=checkCount "sorted" 1 1 _) (eU (aY (zP hl (aY (ZR ?_ (by rw[iz];omega))) (by rw[iz];omega))));have hsz:((s.heap.push (seqObj "list" #[] 0)).update s.heap.objs.size (Obj.mapSeq (· ++vs.toArray))).objs.size=s.heap.objs.size+1:=by
  rw[Heap.size_update,size_push']
 have hoL:(((s.heap.push (seqObj "list" #[] 0)).update s.heap.objs.size (Obj.mapSeq (· ++vs.toArray))).push (seqObj "list" vs.toArray 0)).get? (s.heap.objs.size+1)=some (seqObj "list" vs.toArray 0):=by
  rw[<-hsz];exact nG _ rfl
 have keep:∀b o,s.heap.get? b=some o->(((s.heap.push (seqObj "list" #[] 0)).update s.heap.objs.size (Obj.mapSeq (· ++vs.toArray))).push (seqObj "list" vs.toArray 0)).get? b=some o:=fun b o q=>by
  have hlt:b<s.heap.objs.size:=fD q;rw[wcd _ _ _ (by rw[hsz];exact iM (uK hlt)),Heap.get?_update_ne _ _ _ _ (iM hlt),wcd _ _ _ (iM hlt)];exact q
 have ne:∀b o,s.heap.get? b=some o->b≠s.heap.objs.size+1:=fun b o q=>iM (uK (fD q));show wpAny _ _ _ _ _ {s with heap:=((s.heap.push (seqObj "list" #[] 0)).update s.heap.objs.size (Obj.mapSeq (· ++vs.toArray))).push (seqObj "list" vs.toArray 0)};rw[hsz];refine aY (VG (VH slot_list_sort ⟨_,hoL,rfl⟩ entry_list_sort ?body (args_list_sort _)))
 case body=>
  refine lV (key:=key) (κ:=κ) (s:={s with heap:=((s.heap.push (seqObj "list" #[] 0)).update s.heap.objs.size (Obj.mapSeq (· ++vs.toArray))).push (seqObj "list" vs.toArray 0)}) hoL h64
   (fun h2 h' k Q hq=>hkind h2 h' (fun b o q=>k b o (ne b o q) (keep b o q)) _ Q hq) (fun h2 h' k=>K6 h2 h' fun b o q=>k b o (ne b o q) (keep b o q)) fun h' out c ho k hc=> ?_
  exact⟨_,rfl,eU ⟨_,rfl,h _ h' out c ho (MK _) (fun b o q=>k b o (ne b o q) (keep b o q)) hc⟩⟩
end
end uo
namespace L2
open PySem PySem.W PySem.Spec PyProof.Rows
section
variable{X:Cx}
theorem xM:CallR X (.builtin "sorted") (fun xs H Q=>∃(a:Addr) (its:List (Addr×List Int)),xs=[.ref a]/\SqL X.K H a (its.map fun p=>V.ref p.1)/\(∀p∈its,SqT X.K H p.1 (p.2.map V.int)/\(2<=its.length->p.2≠[]))/\its.length<64/\
  ∀(l:Addr) (its':List (Addr×List Int)),H l=none->its'.Perm its->its'.Pairwise (fun p q=>HT.lexLt q.2 p.2=false)->Q (.ref l) (upd H l (.lst (its'.map fun p=>V.ref p.1)))):=by
 intro pins s σ H xs us Q I r h;obtain⟨a,its,rfl,hS,hT,h64,q⟩:=h;obtain⟨u,rfl,ru⟩:=r.one;cases ru;obtain⟨vs,rv,pl,hz⟩:=I.list hS;have hlen:its.length=vs.length:=by have:=rv.length;simpa using this
 -- the values beside the tuples
 have pr:Paired (fun(p:Addr×List Int) (v:ζ)=>v= .ref p.1) its vs:=by
  have go:∀(l:List (Addr×List Int)) (us:List ζ),Vals (l.map fun p=>V.ref p.1) us->Paired (fun(p:Addr×List Int) (v:ζ)=>v= .ref p.1) l us:=by
   intro l
   induction l with
   |nil=>intro us h;cases h;exact .nil
   |cons p l ih=>
    intro us h;cases h with
    |cons r t=>exact .cons r (ih _ t)
  exact go its vs rv
 have tup:∀p∈its,∃(items:List ζ),IntsAre items p.2/\IsTup s.heap p.1 items.toArray:=fun p hp=>by
  obtain⟨its',r',t',_⟩:=I.tuple (hT p hp).1;exact⟨its',intsAre_of r',t'⟩
 refine uo.sS (O:=uo.lexOrd) (key:=fun i=>(its.getD i (0,[])).2) (κ:=tuples' true) (s:=s) pl.isList (by omega) (fun h2 h' k E' Q' hq=> ?_) (fun h2 h' k=> ?_) (fun D h' out c ho hD k hc=> ?_)
 ·have kt:∀(l:List (Addr×List Int)) (us:List ζ),Paired (fun(p:Addr×List Int) (v:ζ)=>v= .ref p.1) l us->(∀p∈l,p∈its)->∃fs:List ζ,KatTups h' us fs/\fs.length=us.length/\∀v∈fs,∃i t,v=Value.int i t:=by
   intro l us h
   induction h with
   |nil=>intro _;exact⟨[],trivial,rfl,fun _ hv=>nomatch hv⟩
   | @cons p v l us r t ih=>
    intro hs;obtain⟨fs,k1,k2,k3⟩:=ih fun p hp=>hs p (jy _ hp);obtain⟨items,hi,o,e,hc,n,hd⟩:=tup p (hs p jx);have hne:=(hT p (hs p jx)).2 (by omega);obtain⟨pa,pn⟩:=p;dsimp only at hi hne e r;cases hi with
    |nil=>exact absurd rfl hne
    |cons i t hi'=>
     rw[r];refine⟨Value.int i t::fs,KatTups.cons (k _ _ e) hc hd (by simp) k1,by simp[k2],fun v hv=> ?_⟩;rcases cW.mp hv with e|e
     ·exact⟨i,t,e⟩
     ·exact k3 v e
  obtain⟨fs,k1,k2,k3⟩:=kt its vs pr fun _ hp=>hp;refine kat_kind (s:={s with heap:=h'}) (T:= .type "int") k1 (by omega) (fun v hv=> ?_) (by rfl) hq;obtain⟨i,t,rfl⟩:=k3 v hv;exact fun A Q E s _ q=>eU q
 ·intro i j C hi hj hC;rw[<-hlen]at hi hj;have get:∀i (hi:i<its.length),vs.getD i Value.none= .ref its[i].1:=by
   have go:∀(l:List (Addr×List Int)) (us:List ζ),Paired (fun(p:Addr×List Int) (v:ζ)=>v= .ref p.1) l us->∀i (hi:i<l.length),us.getD i Value.none= .ref l[i].1:=by
    intro l us h
    induction h with
    |nil=>intro i hi;simp at hi
    |cons r t ih=>
     intro i hi;cases i with
     |zero=>exact r
     |succ i=>simpa using ih i (by simpa using hi)
   exact go its vs pr
  unfold kas_ask;rw[get i hi,get j hj];obtain⟨xi,hxi,oi,ei,ci,ni,di⟩:=tup its[i] (Ay _);obtain⟨xj,Rj,oj,ej,cj,nj,dj⟩:=tup its[j] (Ay _);refine kat_lt (s:={s with heap:=h'}) (k _ _ ei) di (k _ _ ej) dj ?_;refine uo.tU 0 hxi Rj ?_ ?_
  ·have:=hxi.length;have:=Rj.length;simp only[iw];omega
  ·rw[HT.bR];have e1:its.getD i (0,[])=its[i]:=by simp[hi]
   have e2:its.getD j (0,[])=its[j]:=by simp[hj]
   have hC':C (decide ((its.getD i (0,[])).2<(its.getD j (0,[])).2)) {s with heap:=h'}:=hC;rw[e1,e2]at hC';exact hC'
 ·obtain⟨its',hp,hr,hw⟩:=uo.wD (d:=((0,[]):Addr×List Int)) (f:=fun p=>p.2) pr (fun i hi=>by show(its.getD i (0,[])).2=_;simp[hi]) ho;have hn:H D=none:=I.hok.fresh hD;have rv':Vals (its'.map fun p=>V.ref p.1) out:=by
   have go:∀(l:List (Addr×List Int)) (us:List ζ),Paired (fun(p:Addr×List Int) (v:ζ)=>v= .ref p.1) l us->Vals (l.map fun p=>V.ref p.1) us:=by
    intro l us h
    induction h with
    |nil=>exact .nil
    |cons r t ih=>exact .cons r ih
   exact go its' out hr
  have zl:(its'.map fun p=>V.ref p.1).length<=sizeLine:=by
   have:=hp.length_eq;rw[aH];exact dD (small1000 (by omega))
  have J:Inv X pins σ (upd H D (.lst (its'.map fun p=>V.ref p.1))) {s with heap:=h',toks:=s.toks}:=I.laid k hD ⟨zl,out,c,rv',hc⟩;refine⟨.ref D,_,J,rfl,q D its' hn hp (hw.imp fun{x y} hxy=> ?_)⟩;rw[HT.bR];exact hxy
theorem Gz(K:W.Frag){a:Expr}{ta:TE}(ha:PE X a ta)(he:∀whole,isTrue a X.env whole=(do let v<-whole;standAt a.pos;holding [v] (truthy v)))(h:X.K=K:=by rfl):
  PT X a (fun σ H Q=>ta σ H fun x H'=>∃k,TruV K x H' k/\Q k H'):=by subst h;exact pt_truth ha he
end
end L2
namespace L2
open PySem PySem.Spec PyProof.Rows
mutual
def aaw:Nat->Expr->Option θ
 |0,_=>none
 |n+1,e=>match e with
  | .Constant (.int i) _ _=>some (.int i)
  | .Constant (.bool b) _ _=>some (.bool b)
  | .Constant .none _ _=>some .none
  | .Constant (.str x) _ _=>some (.str x)
  | .UnaryOp .USub (.Constant (.int i) _ _) _=>some (.int (-i))
  | .Tuple es _ _=>(KR n es).map .tuple
  | .List es _=>(KR n es).map .list
  | .Dict [] [] _=>some (.dict [])
  |_=>none
def KR:Nat->List Expr->Option (List θ)
 |0,_=>none
 |_+1,[]=>some []
 |n+1,e::es=>match aaw n e,KR n es with
  |some d,some ds=>some (d::ds)
  |_,_=>none
end
section
variable{κ:Type} [DecidableEq κ]
noncomputable def valV(kvs:List (κ×V))(k:κ):Option V:=(kvs.find? fun kv=>decide (kv.1=k)).map (·.2)
noncomputable def putK(kvs:List (κ×V))(k:κ)(v:V):List (κ×V):=
 if(kvs.any fun kv=>decide (kv.1=k))=true then kvs.map (fun kv=>if kv.1=k then(kv.1,v)else kv)else kvs++[(k,v)]
theorem valV_pos{p:κ×V}{r:List (κ×V)}{k:κ}(e:p.1=k):valV (p::r) k=some p.2:=by simp[valV,Vt,e]
theorem valV_neg{p:κ×V}{r:List (κ×V)}{k:κ}(e:¬p.1=k):valV (p::r) k=valV r k:=by simp[valV,Vt,e]
theorem length_putK(kvs:List (κ×V))(k:κ)(v:V):(putK kvs k v).length<=kvs.length+1:=by
 unfold putK;split
 ·rw[aH];omega
 ·rw[rE,yj,Nq];omega
theorem KV.val{kvs:List (κ×V)}{vs:List (κ×ζ)}(r:KV kvs vs)(k:κ):RelO (valV kvs k) (valueAt vs k):=by
 unfold KV at r
 induction r with
 |nil=>exact True.intro
 | @cons p q ps qs h t ih=>
  obtain⟨h1,h2⟩:=h;by_cases e:p.1=k
  ·have e':q.1=k:=h1.symm.trans e;have b:valueAt (q::qs) k=some q.2:=by simp[valueAt,Vt,e']
   rw[valV_pos e,b];exact h2
  ·have e':¬q.1=k:=fun z=>e (h1.trans z);have b:valueAt (q::qs) k=valueAt qs k:=by simp[valueAt,Vt,e']
   rw[valV_neg e,b];exact ih
theorem KV.any{kvs:List (κ×V)}{vs:List (κ×ζ)}(r:KV kvs vs)(k:κ):(kvs.any fun kv=>decide (kv.1=k))=vs.any fun kv=>decide (kv.1=k):=by
 unfold KV at r
 induction r with
 |nil=>rfl
 |cons h t ih=>rw[Rz,Rz,ih,h.1]
theorem KV.repl{kvs:List (κ×V)}{vs:List (κ×ζ)}(r:KV kvs vs)(k:κ){y:V}{u:ζ}(ry:RelV y u):
  KV (kvs.map fun kv=>if kv.1=k then(kv.1,y)else kv) (vs.map fun kv=>if kv.1=k then(kv.1,u)else kv):=by
 unfold KV at r⊢
 induction r with
 |nil=>exact .nil
 | @cons p q ps qs h t ih=>
  rw[yg,yg];refine .cons ?_ ih;obtain⟨h1,h2⟩:=h;by_cases e:p.1=k
  ·rw[au e,au (h1.symm.trans e)];exact⟨h1,ry⟩
  ·rw[aq e,aq (fun z=>e (h1.trans z))];exact⟨h1,h2⟩
theorem KV.put{kvs:List (κ×V)}{vs:List (κ×ζ)}(r:KV kvs vs)(k:κ){y:V}{u:ζ}(ry:RelV y u):KV (putK kvs k y) (stored vs k u):=by
 unfold putK stored;rw[r.any k];by_cases e:(vs.any fun kv=>decide (kv.1=k))=true
 ·rw[au e,au e];exact r.repl k ry
 ·rw[aq e,aq e];exact Paired.snoc r ⟨rfl,ry⟩
end
theorem kV_is{P:ξ}{w:τ}{k:Key}{u:ζ}(r:RelV (kV k) u):(mixKind P w).is k u=true:=by
 cases k with
 |inl i=>obtain⟨t,e⟩:=(show∃t,u=Value.int i t from r);subst e;exact mixKind_int P w i t
 |inr x=>obtain⟨t,e⟩:=(show∃t,u=Value.str x t from r);subst e;exact mixKind_str P w x t
theorem items_are{P:ξ}{w:τ}:∀{ks:List Key} {us:List ζ},Vals (ks.map kV) us->ItemsAre (mixKind P w) ks us
 |[],_,r=>by rw[Ry]at r;cases r;exact .nil
 |k::ks,_,r=>by
  rw[yg]at r;cases r with
  |cons h t=>exact .cons (kV_is h) (items_are t)
noncomputable abbrev KT(H:Hp):List (List Key×V)->List (List Key×Addr×ζ)->Prop:=Paired fun p q=>p.1=q.1/\H q.2.1=some (.tup (p.1.map kV))/\RelV p.2 q.2.2
theorem KT.val{H:Hp}{kvs:List (List Key×V)}{xs:List (List Key×Addr×ζ)}(r:KT H kvs xs)(k:List Key):RelO (valV kvs k) ((atKey xs k).map (·.2)):=by
 induction r with
 |nil=>exact True.intro
 | @cons p q ps qs h t ih=>
  obtain⟨h1,_,h2⟩:=h;by_cases e:p.1=k
  ·have e':q.1=k:=h1.symm.trans e;have b:atKey (q::qs) k=some q.2:=by simp[atKey,Vt,e']
   rw[valV_pos e,b];exact h2
  ·have e':¬q.1=k:=fun z=>e (h1.trans z);have b:atKey (q::qs) k=atKey qs k:=by simp[atKey,Vt,e']
   rw[valV_neg e,b];exact ih
section
variable{P:ξ}{w:τ}{H:Hp}{h:Heap}{a:Addr}
theorem rd_of{u:HO}(ok:HOk P w H h)(e:Rd H a u):ObjOk P w H h a u:=e.ok ok
theorem dk_rd{kvs:List (Key×V)}(ok:HOk P w H h)(e:Rd H a (.dK kvs)):kvs.length<=sizeLine/\(a==sysModules)=false/\∃vs,KV kvs vs/\h.DictOf (mixKind P w) a vs:=
 show ObjOk P w H h a (.dK kvs)from rd_of ok e
theorem dk_of{kvs:List (Key×V)}(ok:HOk P w H h)(e:H a=some (.dK kvs)):kvs.length<=sizeLine/\(a==sysModules)=false/\∃vs,KV kvs vs/\h.DictOf (mixKind P w) a vs:=dk_rd ok (.inl e)
theorem key_of{ks:List Key}(ok:HOk P w H h)(e:H a=some (.tup (ks.map kV))):(tupleKind (mixKind P w)).is h ks a:=by
 obtain⟨_,its,r,o,h1,h2,n,h3⟩:=(show ObjOk P w H h a (.tup (ks.map kV))from ok a _ e);exact⟨o,its.toArray,n,h1,h2,h3,by simpa using items_are r⟩
theorem dt_rd{kvs:List (List Key×V)}(ok:HOk P w H h)(e:Rd H a (.dT kvs)):kvs.length<=sizeLine/\(a==sysModules)=false/\
  ∃xs,KT H kvs xs/\h.DictOfH (tupleKind (mixKind P w)) a xs:=by
 obtain⟨z,y,xs,r,o,es,ep,h1,h2,h3,h4,h5⟩:=(show ObjOk P w H h a (.dT kvs)from rd_of ok e);refine⟨z,y,xs,r,o,es,ep,h1,h2,h3,h4,fun x hx=> ?_,h5⟩;have all:∀{l:List (List Key×V)} {m:List (List Key×Addr×ζ)},KT H l m->∀x∈m,(tupleKind (mixKind P w)).is h x.1 x.2.1:=by
  intro l m q
  induction q with
  |nil=>intro x hx;exact nomatch hx
  | @cons p q ps qs hq t ih=>
   intro x hx;rcases cW.mp hx with e|hx
   ·subst e;exact key_of ok (by rw[<-hq.1];exact hq.2.1)
   ·exact ih x hx
 exact all r x hx
end
noncomputable def DGet(H:Hp)(a:Addr)(y:V)(r:Option V):Prop:=
 (∃kvs k,Rd H a (.dK kvs)/\y=kV k/\r=valV kvs k)\/∃kvs k b,Rd H a (.dT kvs)/\y= .ref b/\H b=some (.tup (k.map kV))/\r=valV kvs k
theorem DGet.k{H:Hp}{a:Addr}{kvs:List (Key×V)}{k:Key}(e:H a=some (.dK kvs)):DGet H a (kV k) (valV kvs k):= .inl ⟨kvs,k,.inl e,rfl,rfl⟩
section
variable{X:Cx}{pins:L1}{σ:St}{H:Hp}{s:η}{a:Addr}{y v:V}{u:ζ}{o:Option V}{A:Around}{E:L3}
theorem Inv.big(I:Inv X pins σ H s):sysModules<s.heap.objs.size:=by
 have h:mainGlobals<s.heap.objs.size:=(I.mod.glob.keeps I.bk).lt;exact Nk (by decide) h
theorem d_getItem{Q:L3}(hu:A.units+1<cLine)(I:Inv X pins σ H s)(g:DGet H a y (some v))(ry:RelV y u)(h:∀w' s',Inv X pins σ H s'->RelV v w'->Q w' s'):
  wpAny (model X.prog X.w) A (getItem (.ref a) u) Q E s:=by
 rcases g with⟨kvs,k,e,ey,l⟩|⟨kvs,k,b,e,ey,eb,l⟩
 ·subst ey;obtain⟨z,hd,vs,rel,dd⟩:=dk_rd I.hok e;obtain⟨w',hw,rw'⟩:=RelO.some_of (v:=v) (o:=valueAt vs k) (by rw[l];exact rel.val k);exact wpAny_getItem_of (kV_is ry) dd.mapOf hw (h w' _ (I.tok _) rw')
 ·subst ey;cases(show u=Value.ref b from ry);obtain⟨z,hd,xs,rel,dd⟩:=dt_rd I.hok e;obtain⟨w',hw,rw'⟩:=RelO.some_of (v:=v) (o:=(atKey xs k).map (·.2)) (by rw[l];exact rel.val k);obtain⟨p,hp,hp2⟩:=Option.map_eq_some_iff.mp hw;refine wpAny_getItem_heap (tupleKind_room_in1 hu) (key_of I.hok eb) dd hp ?_;rw[hp2];exact h w' _ (I.tok _) rw'
theorem d_write{h':Heap}{t':Nat}{ob:HO}(I:Inv X pins σ H s)(mu:Mut (H a))(hs:Heap.SameBut a s.heap h')(he:∃q,h'.get? a=some q)(new:ObjOk X.prog X.w (upd H a ob) h' a ob):
  Inv X pins σ (upd H a ob) {s with heap:=h',toks:=t'}:=
 I.write (x:=a) (e:=a) mu (.inl rfl) (fun b q hb z=>(hs.2 b hb).trans z) he new
theorem dk_new{P:ξ}{w:τ}{H':Hp}{h':Heap}{kvs:List (Key×V)}{vs:List (Key×ζ)}(z:kvs.length<=sizeLine)(hd:(a==sysModules)=false)(rel:KV kvs vs)(dd:h'.DictOf (mixKind P w) a vs):
  ObjOk P w H' h' a (.dK kvs):=⟨z,hd,vs,rel,dd⟩
end
noncomputable def NoSl(i:Expr):Prop:=∀ov iv,subscripted i false ov iv=operate [ov,iv] (getItem ov iv)
theorem subD_of{prog:ξ}{w:τ}{A:Around}{E:L3}{s:η}{env:Env}{value slice:Expr}{pos:Pos}{T id:String}{Q:L3}(hl:typeLookup (.type T) "__getitem__"=pure (some (.builtin id)))(hs:NoSl slice)(h:wpAny (model prog w) A (eval value env) (fun o s₁=>wpAny (model prog w) A (eval slice env) (fun i s₂=>s₂.TypeIs o T/\wpAny (model prog w) A (getItem o i) Q E s₂) E s₁) E s):
  wpAny (model prog w) A (eval (.Subscript value slice pos) env) Q E s:=by
 refine Subscript_ (M5 h (fun o s₁ h₁=>M5 h₁ (fun i s₂ h₂=> ?_) fun _ _ x=>x) fun _ _ x=>x);obtain⟨hT,h₂⟩:=h₂;unfold subscriptTail;refine aY ?_;rw[getitemInPython_of_ne hT.not_modules];refine aY (wpAny_specialOf hT hl ?_);have fin:wpAny (model prog w) A (subscripted slice false o i) (fun r s₃=>wpAny (model prog w) A (letTemporaryGo value o r>>=fun _=>pure r) Q E s₃) E s₂:=by
  rw[hs o i];exact wpAny_operating (M5 h₂ (fun r s₃ h₃=>aY (wpAny_letTemporaryGo (eU h₃))) fun _ _ x=>x)
 first
  |exact eU (aY fin)
  |exact aY (eU (aY fin))
  |exact aY fin
theorem dict_typeIs{X:Cx}{pins:L1}{σ:St}{H:Hp}{s:η}{a:Addr}{y:V}{o:Option V}(I:Inv X pins σ H s)(g:DGet H a y o):s.TypeIs (.ref a) "dict":=by
 rcases g with⟨kvs,k,e,_,_⟩|⟨kvs,k,b,e,_,_,_⟩
 ·obtain⟨_,_,vs,_,dd⟩:=dk_rd I.hok e;exact dd.typeIs
 ·obtain⟨_,_,xs,_,dd⟩:=dt_rd I.hok e;exact dd.typeIs
noncomputable def tDGet(td ty:TE):TE:=fun σ H Q=>td σ H fun x H1=>ty σ H1 fun y H2=>∃a v,x= .ref a/\DGet H2 a y (some v)/\Q v H2
section
variable{X:Cx}{o i:Expr}{pos:Pos}{td ty:TE}
theorem pe_dget(hu:X.A.units+1<cLine)(ho:PE X o td)(hi:PE X i ty)(hs:NoSl i):PE X (.Subscript o i pos) (tDGet td ty):=by
 intro pins s σ H Q I h;refine subD_of PySem.F.slot_dict_getitem.lookup hs (thn (ho pins s σ H _ I h) fun u s1 ⟨x,H1,I1,rx,q1⟩=>thn (hi pins s1 σ H1 _ I1 q1) fun iv s2 ⟨y,H2,I2,ry,a,v,ex,g,q2⟩=> ?_);subst ex;obtain rfl:u=Value.ref a:=rx;exact⟨dict_typeIs I2 g,d_getItem hu I2 g ry fun w' s3 I3 rw'=>⟨v,H2,I3,rw',q2⟩⟩
end
theorem dk_empty{P:ξ}{w:τ}{H:Hp}(h:Heap)(hb:sysModules<h.objs.size):ObjOk P w H (h.push {cls:= .type "dict",data:= .dict #[]}) h.objs.size (.dK []):=
 ⟨dX _,beq_eq_false_iff_ne.mpr (lQ (iM hb)),[],.nil,Heap.DictOf.new h⟩
noncomputable def tPairs:List (TE×TE)->St->Hp->(List (V×V)->Hp->Prop)->Prop
 |[],_,H,Q=>Q [] H
 |(tk,tv)::r,σ,H,Q=>tk σ H fun x H1=>tv σ H1 fun y H2=>tPairs r σ H2 fun ps H3=>Q ((x,y)::ps) H3
noncomputable abbrev VV:List (V×V)->List (ζ×ζ)->Prop:=Paired fun p q=>RelV p.1 q.1/\RelV p.2 q.2
noncomputable def PPs(X:Cx)(pos:Pos)(keys:List (Option Expr))(values:List Expr)(trs:List (TE×TE)):Prop:=
 ∀(pins:L1) (s:η) (σ:St) (H:Hp) (Q:List (V×V)->Hp->Prop),Inv X pins σ H s->tPairs trs σ H Q->
  wpAny (model X.prog X.w) X.A (evalPairs (pairTrees keys values X.env pos)) (fun vs s'=>∃ps H',Inv X pins σ H' s'/\VV ps vs/\Q ps H') X.xe s
theorem pps_nil{X:Cx}{pos:Pos}:PPs X pos [] [] []:=fun pins s σ H Q I h=>pairTrees_nil_walk ⟨[],H,I,.nil,h⟩
theorem pps_cons{X:Cx}{pos:Pos}{k v:Expr}{ks:List (Option Expr)}{vs:List Expr}{tk tv:TE}{trs:List (TE×TE)}(hk:PE X k tk)(hv:PE X v tv)(hr:PPs X pos ks vs trs):
  PPs X pos (some k::ks) (v::vs) ((tk,tv)::trs):=fun pins s σ H Q I h=>
 pairTrees_cons_walk (thn (hk pins s σ H _ I h) fun u s1 ⟨x,H1,I1,rx,q1⟩=>thn (hv pins s1 σ H1 _ I1 q1) fun w2 s2 ⟨y,H2,I2,ry,q2⟩=>
  thn (hr pins s2 σ H2 _ I2 q2) fun ws s3 ⟨ps,H3,I3,rel,q3⟩=>⟨(x,y)::ps,H3,I3,.cons ⟨rx,ry⟩ rel,q3⟩)
noncomputable def mergeK(kvs more:List (Key×V)):List (Key×V):=more.foldl (fun acc kv=>putK acc kv.1 kv.2) kvs
theorem KV.merge:∀{more:List (Key×V)} {rs:List (Key×ζ)} {kvs:List (Key×V)} {vs:List (Key×ζ)},KV more rs->KV kvs vs->KV (mergeK kvs more) (merged vs rs):=by
 intro more rs kvs vs r;unfold KV at r
 induction r generalizing kvs vs with
 |nil=>intro q;exact q
 | @cons p q ps qs h t ih=>
  intro r0;have e:KV (putK kvs p.1 p.2) (stored vs q.1 q.2):=by
   have:=r0.put p.1 h.2;rw[<-h.1];exact this
  exact ih e
theorem length_mergeK:∀(more kvs:List (Key×V)),(mergeK kvs more).length<=kvs.length+more.length
 |[],kvs=>by show kvs.length<=kvs.length+0;omega
 |p::r,kvs=>by
  have h1:=length_mergeK r (putK kvs p.1 p.2);have h2:=length_putK kvs p.1 p.2;show(mergeK (putK kvs p.1 p.2) r).length<=_;rw[yj];omega
theorem carries_of{P:ξ}{w:τ}:∀{kvs:List (Key×V)} {ws:List (ζ×ζ)},VV (kvs.map fun kv=>(kV kv.1,kv.2)) ws->∃rs,Carries (mixKind P w) ws rs/\KV kvs rs
 |[],_,r=>by rw[Ry]at r;cases r;exact⟨[],True.intro,.nil⟩
 |p::kvs,_,r=>by
  rw[yg]at r;cases r with
  | @cons a b as bs h t=>
   obtain⟨rs,c,q⟩:=carries_of (P:=P) (w:=w) t;obtain⟨b1,b2⟩:=b;exact⟨(p.1,b2)::rs,⟨kV_is h.1,rfl,c⟩,.cons ⟨rfl,h.2⟩ q⟩
noncomputable def tDisp(trs:List (TE×TE)):TE:=fun σ H Q=>∀p,H p=none->tPairs trs σ (upd H p (.dK [])) fun ps H2=>H2 p=some (.dK [])/\∃kvs:List (Key×V),ps=kvs.map (fun kv=>(kV kv.1,kv.2))/\kvs.length<=15/\Q (.ref p) (upd H2 p (.dK (mergeK [] kvs)))
theorem pe_disp{X:Cx}{pos:Pos}{keys:List (Option Expr)}{values:List Expr}{trs:List (TE×TE)}(h:PPs X pos keys values trs)(hall:keys.all (·.isSome)=true)(hl:keys.length=values.length)(h0:keys≠[])(h15:keys.length<=15):PE X (.Dict keys values pos) (tDisp trs):=by
 intro pins s σ H Q I q;have hn:=I.hok.fresh (aR s.heap.objs.size);have I1:=I.laid (a:=s.heap.objs.size) (o:= .dK []) (h':=s.heap.push {cls:= .type "dict",data:= .dict #[]}) (t':=s.toks) (fun _ _ q=>eV _ q) (aR _) (dk_empty s.heap I.big);refine wpAny_Dict_walk (knd:=mixKind X.prog X.w) hall hl h0 h15 (thn (h pins _ σ _ _ I1 (q _ hn)) fun ws s2 ⟨ps,H2,I2,rel,e,kvs,ep,lk,q2⟩=> ?_);subst ep;obtain⟨rs,c,rk⟩:=carries_of (P:=X.prog) (w:=X.w) rel;obtain⟨z,hd,vs0,r0,dd⟩:=dk_of I2.hok e;cases r0;refine⟨rs,c,dd,fun h' dd' hs=>⟨.ref s.heap.objs.size,_,?_,rfl,q2⟩⟩;have hz:(mergeK [] kvs).length<=sizeLine:=by
  have h1:=length_mergeK kvs [];rw[Nq]at h1;rw[iz];omega
 have he:∃q,h'.get? s.heap.objs.size=some q:=let⟨q,_,_,hq,_⟩:=dd';⟨q,hq⟩;exact d_write I2 (by rw[e];exact True.intro) hs he (dk_new hz hd (rk.merge .nil) dd')
section
variable{X:Cx}
theorem Hy(hc:X.calm=true):CallR X (.builtin "min") (fun xs H Q=>∃(a:Addr) (ns:List Int),xs=[.ref a]/\SqL X.K H a (ns.map V.int)/\ns≠[]/\∀m∈ns,(∀n∈ns,m<=n)->Q (.int m) H):=by
 intro pins s σ H xs us Q I r h;obtain⟨a,ns,rfl,hS,hne,q⟩:=h;obtain⟨u,rfl,ru⟩:=r.one;cases ru;obtain⟨vs,rv,pl,hz⟩:=I.list hS;have hl:=pl.isList;have hlt:a<s.heap.objs.size:=by obtain⟨_,e,_⟩:=hl;exact fD e
 have hlen:=rv.length;rw[aH]at hlen;have hI:∀(i:Nat) (v:ζ),vs.toArray[i]? =some v->∃t,v= .int (ns.getD i 0) t:=fun i v hv=>by
  have hv':vs[i]? =some v:=by simpa using hv
  have hi:i<ns.length:=by have:=(pO.mp hv').1;omega
  have hn:(ns.map V.int)[i]? =some (.int (ns.getD i 0)):=by rw[dY,eO hi,iR,eO hi];rfl
  obtain⟨u,hu,ru⟩:=rv.get hn;rw[hv']at hu;cases hu;obtain⟨t,rfl⟩:=ru;exact⟨t,rfl⟩
 refine call_min_walk (Wz hl ?_);refine⟨s.heap.objs.size,[s.heap.objs.size,a],[s.heap.objs.size],vs.toArray.size,_,_,_,rfl,Walks.list (A:=X.A.in1) (I.ok.hd hc) _ a (iM hlt) vs.toArray,
  ⟨⟨_,nG _ rfl,rfl,rfl⟩,hl.push _⟩,?_,?_,CmpOf.ints_lt (fun i=>ns.getD i 0) hI,fun v h' tk hP hk=> ?_⟩
 ·intro b hb;show b<(s.heap.push _).objs.size;rw[Ar];rcases cW.mp hb with rfl|hb
  ·exact vW _
  ·rw[kO.mp hb];exact uK hlt
 ·rw[iw,<-hlen];exact List.length_pos_iff.mpr hne
 ·obtain⟨t,rfl⟩:=hI _ v hP;obtain⟨h1,h2⟩:=argBest_lt (fun i=>ns.getD i 0) (vs.toArray.size-1);have hn0:0<ns.length:=List.length_pos_iff.mpr hne;have hb:argBest (fun i j=>decide (ns.getD i 0<ns.getD j 0)) (vs.toArray.size-1)<ns.length:=by
   have:vs.toArray.size=ns.length:=by rw[iw];omega
   omega
  refine⟨.int _,H,I.kept (LSm.kept_iter hk),⟨t,rfl⟩,q _ ?_ fun n hn=> ?_⟩
  ·rw[iR,eO hb];exact Ay hb
  ·obtain⟨j,hj,rfl⟩:=MP hn;have:=h2 j (by rw[iw];omega);rw[iR (i:=j),eO hj]at this;exact this
end
noncomputable def isK(k:Int):ζ->Bool
 | .int i _=>i==k
 |_=>false
theorem Gk{i:Int}:∀{n:Nat} {us:List ζ},us.length=n->(∀(j:Nat) (u:ζ),us[j]? =some u->∃t:Tok,u=Value.int (i+((j:Nat):Int)*1) t)->Vals (((List.range n).map fun(k:Nat)=>i+(k:Int)).map V.int) us:=by
 intro n us hl hi;have go:∀(us:List ζ) (k:Nat),(∀(j:Nat) (u:ζ),us[j]? =some u->∃t:Tok,u=Value.int (i+((j+k:Nat):Int)*1) t)->Vals (((List.range' k us.length).map fun(k:Nat)=>i+(k:Int)).map V.int) us:=by
  intro us
  induction us with
  |nil=>intro k _;exact .nil
  |cons u us ih=>
   intro k h;obtain⟨t,e⟩:=h 0 u rfl;refine .cons ⟨t,?_⟩ ?_
   ·rw[e];show Value.int (i+((0+k:Nat):Int)*1) t=Value.int (i+(k:Int)) t;congr 1;omega
   ·refine ih (k+1) fun j u hu=> ?_;obtain⟨t,e⟩:=h (j+1) u (by simpa using hu);exact⟨t,by rw[e];congr 1;omega⟩
 have:=go us 0 fun j u hu=>hi j u hu;rw[hl,<-List.range_eq_range']at this;exact this
section
variable{X:Cx}{e:Expr}{ta:TE}{f:Str}{pos:Pos}
theorem Oe(K:W.Frag)(he:PE X e ta)(hb:attributeBase e f X.env (eval e X.env)=eval e X.env)(h:X.K=K:=by rfl):PE X (.Attribute e f pos) (tFld K ta f):=by subst h;exact gB he hb
theorem p8:MtM X "list.index" (fun x vs H Q=>∃(l:Addr) (ns:List Int) (k:Int) (j:Nat),x= .ref l/\vs=[.int k]/\H l=some (.lst (ns.map V.int))/\ns[j]? =some k/\(∀i,i<j->ns[i]? ≠some k)/\ns.length<=1000/\Q (.int (j:Nat)) H):=by
 intro pins s σ H x vs v us Q I rx rv h;obtain⟨l,ns,k,j,rfl,rfl,hH,hj,hno,hb,q⟩:=h;cases rx;obtain⟨u,rfl,ru⟩:=rv.one;obtain⟨t,rfl⟩:=ru;obtain⟨z,its,n,r,hl,e⟩:=I.lstM hH;rw[aH]at z hl;have hI:∀(i:Nat) (v:ζ),its[i]? =some v->∃t,v= .int (ns.getD i 0) t/\ns[i]? =some (ns.getD i 0):=fun i v hv=>by
  have hi:i<ns.length:=by have:=(pO.mp hv).1;omega
  have e0:ns[i]? =some (ns.getD i 0):=by rw[iR,eO hi];rfl
  obtain⟨u,hu,ru⟩:=r.get (show(ns.map V.int)[i]? =some (.int (ns.getD i 0)) by rw[dY,e0];rfl);rw[hv]at hu;cases hu;obtain⟨t,rfl⟩:=ru;exact⟨t,rfl,e0⟩
 have hj':j<its.length:=by have:=(pO.mp hj).1;omega
 refine VB F.slot_list_index ⟨_,e,rfl⟩ F.entry_list_index (F.args_list_index_2 _ _)
  (MeetsSeq.list_index l its.toArray n (.int k t) (isK k) (fun y hy=> ?_) j (by simpa using hj') (by omega) ?_ (fun i hi hlt=> ?_)) ⟨e,?_⟩
 ·obtain⟨i,hi,rfl⟩:=MP (show y∈its by simpa using hy);obtain⟨t',e',_⟩:=hI i its[i] (eO hi);rw[e'];exact MeetsSeq.EqGives.int _ _ _ _
 ·obtain⟨t',e',e0⟩:=hI j its[j] (eO hj');show isK k its[j]=true;rw[e'];rw[hj]at e0;have:k=ns.getD j 0:=uI e0;show(ns.getD j 0==k)=true;rw[<-this];exact beq_self_eq_true _
 ·have hi':i<its.length:=by simpa using hi
  obtain⟨t',e',e0⟩:=hI i its[i] (eO hi');show isK k its[i]=false;rw[e'];show(ns.getD i 0==k)=false;refine beq_eq_false_iff_ne.mpr fun z=>hno i hlt ?_;rw[e0,z]
 ·exact⟨.int (j:Nat),H,I.tok _,⟨s.toks,rfl⟩,q⟩
end
section
variable{X:Cx}{a b:Expr}{ta:TA}{p pos p' pos':Pos}
noncomputable def oA(i:Int)(n:Nat):List Int:=(List.range n).map fun(k:Nat)=>i+(k:Int)
noncomputable def R8(ta:TA):TE:=fun σ H Q=>ta σ H fun vs H1=>∃i j:Int,vs=[.int i,.int j]/\0<=i/\i<=j/\j<=1000000/\∀l,H1 l=none->Q (.ref l) (upd H1 l (.lst ((oA i (j-i).toNat).map V.int)))
theorem wC(hc:X.calm=true)(X6:Gl X "list")(XQ:X.mg "list"=none)(hg:Gl X "range")(hm:X.mg "range"=none)(ha:PA X [a,b] ta)(hs:starEach [a,b] X.env=[(false,eval a X.env),(false,eval b X.env)]:=by rfl)(hs':starEach [b] X.env=[(false,eval b X.env)]:=by rfl)(hs2:starEach [Expr.Call (.Name "range" p') [a,b] [] pos'] X.env=[(false,eval (Expr.Call (.Name "range" p') [a,b] [] pos') X.env)]:=by rfl):
  PE X (.Call (.Name "list" p) [.Call (.Name "range" p') [a,b] [] pos'] [] pos) (R8 ta):=by
 intro pins s σ H Q I h;refine RZ (ld_blt I X6 XQ (show bootBuiltins "list"=some (.type "list")from by decide+kernel) ?_ (by decide) (by decide));refine IV ?_ hs2 rfl;rw[hs2];refine wbr ?_;refine Call_ (ld_blt I hg hm Wu (IV (thn (ha pos' pins s σ H _ I h) fun us s1 ⟨vs,H1,I1,r1,q1⟩=> ?_) (by rw[hs,hs']) (by rw[hs'];rfl)));obtain⟨i,j,e,q0,q1,q2,q⟩:=q1;subst e;cases r1 with
 |cons r rr=>
  cases rr with
  |cons r' rr=>
   cases rr;obtain⟨t,rfl⟩:=r;obtain⟨t',rfl⟩:=r';refine call_range_2 ?_;refine wcc ?_;have hn:Builtin.Range.rangeSize i j 1=(((j-i).toNat:Nat):Int):=by rw[ZV];split<;>omega
   refine call_list_range (I.ok.hd hc) (ZJ ..) (small_one (by omega) (by omega) (by omega) (by omega)) hn (by omega) fun h' tk acc c hk hS hacc=> ?_;have hv:Vals ((oA i (j-i).toNat).map V.int) acc.toList:=Gk (by rw[RM];exact hacc.1) (fun k u hu=>hacc.2 k u (by simpa using hu));have hz:((oA i (j-i).toNat).map V.int).length<=sizeLine:=by unfold oA;rw[iz];simp;omega
   have I2:Inv X pins σ H1 {s1 with heap:=s1.heap.push {cls:=Value.type "range",data:=Data.fields #[Value.int i t,Value.int j t',Value.int 1 s1.toks]},toks:=s1.toks+1}:=I1.kept fun b o e=>eV _ e;exact⟨.ref _,_,I2.laid (t':=tk) (o:= .lst ((oA i (j-i).toNat).map V.int)) hk (aR _) ⟨hz,acc.toList,c,hv,by simpa using hS⟩,rfl,q _ (I2.hok.fresh (aR _))⟩
end
structure lM(K:W.Frag)(C:Addr)(x qual:Str)(st:Stmt)(ps:List Str)(f:Addr)(fd:ρ):Prop where
 F:Fun K x qual st f fd
 b:Binds K fd ps []
 m:Meth K C x f
end L2
namespace Sx
noncomputable abbrev Vec:=Nat->Int
noncomputable abbrev uX:=Nat->Vec
noncomputable def sm:Nat->(Nat->Int)->Int
 |0,_=>0
 |k+1,f=>sm k f+f k
theorem aV{f g:Nat->Int}:∀k,(∀i,i<k->f i=g i)->sm k f=sm k g
 |0,_=>rfl
 |k+1,h=>by
  show sm k f+f k=sm k g+g k;rw[aV k fun i hi=>h i (uK hi),h k (vW k)]
theorem iU(f g:Nat->Int):∀k,sm k (fun i=>f i+g i)=sm k f+sm k g
 |0=>rfl
 |k+1=>by
  show sm k (fun i=>f i+g i)+(f k+g k)=sm k f+f k+(sm k g+g k);rw[iU f g k];omega
theorem cX(a:Int)(f:Nat->Int):∀k,sm k (fun i=>a*f i)=a*sm k f
 |0=>by show(0:Int)=a*0;rw[yc]
 |k+1=>by
  show sm k (fun i=>a*f i)+a*f k=a*(sm k f+f k);rw[cX a f k,Int.mul_add]
theorem cM{f:Nat->Int}:∀k,(∀i,i<k->f i=0)->sm k f=0
 |0,_=>rfl
 |k+1,h=>by
  show sm k f+f k=0;rw[cM k fun i hi=>h i (uK hi),h k (vW k)];rfl
theorem cT{f:Nat->Int}{j:Nat}:∀k,j<k->(∀i,i<k->i≠j->f i=0)->sm k f=f j
 |k+1,hj,h=>by
  show sm k f+f k=f j;by_cases e:j=k
  ·subst e;rw[cM j fun i hi=>h i (uK hi) (iM hi),ZM]
  ·rw[cT k (by omega) fun i hi=>h i (uK hi),h k (vW k) (lQ e),Rx]
theorem JM{f:Nat->Int}{j:Nat}:∀k,j+1<k->(∀i,i<k->i≠j->i≠j+1->f i=0)->f j+f (j+1)=0->sm k f=0
 |k+1,hj,h,z=>by
  show sm k f+f k=0;by_cases e:j+1=k
  ·subst e;rw[cT (j:=j) (j+1) (vW _) fun i hi hn=>h i (uK hi) hn (iM hi)];exact z
  ·rw[JM k (by omega) (fun i hi=>h i (uK hi)) z,h k (vW k) (by omega) (lQ e)];rfl
theorem wk(f:Nat->Nat->Int)(m:Nat):∀k,sm k (fun i=>sm m (fun j=>f i j))=sm m (fun j=>sm k (fun i=>f i j))
 |0=>by show(0:Int)=sm m fun _=>0;rw[cM m fun _ _=>rfl]
 |k+1=>by
  show sm k (fun i=>sm m (fun j=>f i j))+sm m (fun j=>f k j)=sm m (fun j=>sm k (fun i=>f i j)+f k j);rw[wk f m k,iU]
theorem vI{f:Nat->Int}:∀k,(∀i,i<k->0<=f i)->0<=sm k f
 |0,_=>pF _
 |k+1,h=>Int.add_nonneg (vI k fun i hi=>h i (uK hi)) (h k (vW k))
theorem JN{f:Nat->Int}:∀k,sm k f<0->∃i,i<k/\f i<0
 |0,h=>absurd h (wez 0)
 |k+1,h=>by
  by_cases c:f k<0
  ·exact⟨k,vW k,c⟩
  ·have h':sm k f+f k<0:=h;obtain⟨i,hi,hf⟩:=JN k (f:=f) (by omega);exact⟨i,uK hi,hf⟩
theorem Em{f:Nat->Int}:∀k,(∀i,i<k->0<=f i)->sm k f<=0->∀i,i<k->f i=0
 |0,_,_,i,hi=>absurd hi (RD i)
 |k+1,h,z,i,hi=>by
  have h1:=vI k fun i hi=>h i (uK hi);have h2:=h k (vW k);have z':sm k f+f k<=0:=z;by_cases e:i=k
  ·subst e;omega
  ·exact Em k (fun i hi=>h i (uK hi)) (by omega) i (by omega)
noncomputable def sg(i:Nat):Int:=if i %2=0 then 1 else -1
theorem NT(i:Nat):sg (i+1)= -sg i:=by
 unfold sg;rcases Nat.mod_two_eq_zero_or_one i with h|h
 ·rw[au h,aq (by omega)]
 ·rw[au (by omega),aq (by omega)];rfl
theorem Sw(i:Nat):sg i=1\/sg i= -1:=by unfold sg;split;exact .inl rfl;exact .inr rfl
noncomputable def Ie(i r:Nat):Nat:=if r<i then r else r+1
noncomputable def M7(i r:Nat):Nat:=if r<i then r else r-1
theorem JR(i r:Nat):Ie i r≠i:=by unfold Ie;split<;>omega
theorem rG{i r j:Nat}(h:j≠i):Ie i r=j↔r=M7 i j:=by unfold Ie M7;split<;>split<;>omega
theorem Br{i r k:Nat}(hi:i<k+1)(hr:r<k):Ie i r<k+1:=by unfold Ie;split<;>omega
theorem R0{i j k:Nat}(h:j≠i)(hi:i<k+1)(hj:j<k+1):M7 i j<k:=by unfold M7;split<;>omega
noncomputable def tQ(M:uX)(i:Nat):uX:=fun r c=>M (Ie i r) (c+1)
noncomputable def det:Nat->uX->Int
 |0,_=>1
 |k+1,M=>sm (k+1) fun i=>sg i*M i 0*det k (tQ M i)
noncomputable def put(M:uX)(r:Nat)(v:Vec):uX:=fun i=>if i=r then v else M i
theorem put_same(M:uX)(r:Nat)(v:Vec):put M r v r=v:=by unfold put;rw[au rfl]
theorem ig(M:uX){r i:Nat}(v:Vec)(h:i≠r):put M r v i=M i:=by unfold put;rw[aq h]
theorem sZ(M:uX)(r:Nat):put M r (M r)=M:=by funext i;unfold put;split;rename_i h;rw[h];rfl
theorem iC(M:uX){r t:Nat}(u v:Vec)(h:r≠t):put (put M r u) t v=put (put M t v) r u:=by
 funext i;unfold put;by_cases h1:i=t
 ·by_cases h2:i=r
  ·exact absurd (h2.symm.trans h1) h
  ·rw[au h1,aq h2,au h1]
 ·rw[aq h1];by_cases h2:i=r
  ·rw[au h2,au h2]
  ·rw[aq h2,aq h2,aq h1]
theorem jj(M:uX)(i:Nat)(v:Vec):tQ (put M i v) i=tQ M i:=by
 funext r c;unfold tQ;rw[ig _ _ (JR i r)]
theorem wO(M:uX){i j:Nat}(v:Vec)(h:j≠i):tQ (put M j v) i=put (tQ M i) (M7 i j) (fun c=>v (c+1)):=by
 funext r c;unfold tQ put;by_cases e:r=M7 i j
 ·rw[au e,au ((rG h).mpr e)]
 ·rw[aq e,aq fun z=>e ((rG h).mp z)]
theorem vQ:∀k {M N:uX},(∀i,i<k->∀j,j<k->M i j=N i j)->det k M=det k N
 |0,_,_,_=>rfl
 |k+1,M,N,h=>aV (k+1) fun i hi=>by
  rw[h i hi 0 (yd k),vQ k (M:=tQ M i) (N:=tQ N i) fun r hr c hc=>h _ (Br hi hr) _ (Nat.succ_lt_succ hc)]
theorem xr:∀k (M:uX) (r:Nat) (a b:Int) (u v:Vec),r<k->det k (put M r fun c=>a*u c+b*v c)=a*det k (put M r u)+b*det k (put M r v)
 |k+1,M,r,a,b,u,v,hr=>by
  unfold det;rw[<-cX,<-cX,<-iU];refine aV (k+1) fun i hi=> ?_;by_cases e:r=i
  ·subst e;rw[jj,jj,jj,put_same,put_same,put_same]
   grind
  ·rw[wO _ _ e,wO _ _ e,wO _ _ e,ig _ _ (lQ e),ig _ _ (lQ e),ig _ _ (lQ e),xr k (tQ M i) (M7 i r) a b (fun c=>u (c+1)) (fun c=>v (c+1)) (R0 e hi hr)]
   grind
theorem rT:∀k (M:uX) (r:Nat),r+1<k->M r=M (r+1)->det k M=0
 |k+1,M,r,hr,e=>by
  unfold det;refine JM (j:=r) (k+1) hr (fun i hi h1 h2=> ?_) ?_
  ·have z:det k (tQ M i)=0:=by
    by_cases c:i<r
    ·refine rT k (tQ M i) (r-1) (by omega) ?_;funext x;unfold tQ Ie;rw[aq (by omega),aq (by omega),show r-1+1=r by omega,e]
    ·refine rT k (tQ M i) r (by omega) ?_;funext x;unfold tQ Ie;rw[au (by omega),au (by omega),e]
   rw[z,yc]
  ·have z:tQ M r=tQ M (r+1):=by
    funext x c;unfold tQ Ie;by_cases h1:x<r
    ·rw[au h1,au (by omega)]
    ·rw[aq h1];by_cases h2:x=r
     ·subst h2;rw[au (by omega),e]
     ·rw[aq (by omega)]
   rw[z,e,NT]
   grind
theorem LR(k:Nat)(M:uX)(t:Nat)(u v:Vec)(h:t+1<k):det k (put (put M t u) (t+1) v)= -det k (put (put M t v) (t+1) u):=by
 have n1:t≠t+1:=by omega
 have z:∀w:Vec,det k (put (put M t w) (t+1) w)=0:=fun w=>rT k _ t h (by rw[ig _ _ n1,put_same,put_same]);have Ur:∀(N:uX) (r:Nat) (a b:Vec),r<k->det k (put N r fun c=>a c+b c)=det k (put N r a)+det k (put N r b):=fun N r a b hr=>by
  have:=xr k N r 1 1 a b hr;simp only[Ao]at this;exact this
 have z1:=z fun c=>u c+v c;rw[Ur _ (t+1) u v h,iC M _ _ n1,iC M _ _ n1,Ur _ t u v (by omega),Ur _ t u v (by omega),<-iC M _ _ n1,<-iC M _ _ n1,<-iC M _ _ n1,<-iC M _ _ n1,z u,z v]at z1;omega
theorem qg:∀(d k:Nat) (M:uX) (r:Nat),r+d+1<k->M r=M (r+d+1)->det k M=0
 |0,k,M,r,h,e=>rT k M r h e
 |d+1,k,M,r,h,e=>by
  have f:=LR k M (r+d+1) (M (r+d+1)) (M (r+d+1+1)) h;rw[sZ,sZ]at f;rw[f,qg d k _ r (by omega) (by rw[ig _ _ (by omega),ig _ _ (by omega),ig _ _ (by omega),put_same,e];rfl)];rfl
theorem LQ{k:Nat}{M:uX}{r t:Nat}(hr:r<k)(ht:t<k)(h:r≠t)(e:M r=M t):det k M=0:=by
 by_cases c:r<t
 ·exact qg (t-r-1) k M r (by omega) (by rw[e];congr 1;omega)
 ·exact qg (r-t-1) k M t (by omega) (by rw[<-e];congr 1;omega)
theorem zN:∀k (M:uX),(∀i,i<k->∀j,j<k->M i j=if i=j then 1 else 0)->det k M=1
 |0,_,_=>rfl
 |k+1,M,h=>by
  unfold det;rw[cT (j:=0) (k+1) (yd k) fun i hi hn=>by rw[h i hi 0 (yd k),aq hn];grind];rw[h 0 (yd k) 0 (yd k),au rfl,zN k (tQ M 0) fun i hi j hj=> ?_]
  ·rfl
  ·unfold tQ Ie;rw[aq (by omega),h _ (by omega) _ (by omega)];by_cases e:i=j
   ·rw[au e,au (by omega)]
   ·rw[aq e,aq (by omega)]
noncomputable def fct:Nat->Int
 |0=>1
 |k+1=>(k+1:Int)*fct k
theorem JQ{f:Nat->Int}{b:Int}:∀k,(∀i,i<k-> -b<=f i/\f i<=b)-> -((k:Int)*b)<=sm k f/\sm k f<=(k:Int)*b
 |0,_=>by
  show -((0:Int)*b)<=0/\(0:Int)<=0*b;omega
 |k+1,h=>by
  have ih:=JQ k fun i hi=>h i (uK hi);have hk:=h k (vW k);show -((k+1:Nat)*b)<=sm k f+f k/\sm k f+f k<=(k+1:Nat)*b;rw[show(((k+1:Nat):Int))*b=(k:Int)*b+b by rw[Int.natCast_succ,Int.add_mul,Ao]];omega
theorem EY{x y a b:Int}(hx: -a<=x/\x<=a)(hy: -b<=y/\y<=b): -(a*b)<=x*y/\x*y<=a*b:=by
 have h1:0<=(a-x)*(b-y):=Aq (by omega) (by omega);have h2:0<=(a+x)*(b+y):=Aq (by omega) (by omega);have h3:0<=(a-x)*(b+y):=Aq (by omega) (by omega);have h4:0<=(a+x)*(b-y):=Aq (by omega) (by omega);constructor<;>grind
theorem xG:∀k (M:uX) (c:Nat) (B:Int),1<=B->(∀i,i<k->∀j,j<k->i≠c-> -1<=M i j/\M i j<=1)->(∀j,j<k->c<k-> -B<=M c j/\M c j<=B)-> -(fct k*B)<=det k M/\det k M<=fct k*B
 |0,M,c,B,hB,_,_=>by
  show -(1*B)<=1/\(1:Int)<=1*B;omega
 |k+1,M,c,B,hB,h1,h2=>by
  unfold det;have e:fct (k+1)*B=((k+1:Nat):Int)*(fct k*B):=by show((k:Int)+1)*fct k*B=_;rw[Np];rfl
  rw[e];refine JQ (k+1) fun i hi=> ?_;have hs:∀x y:Int, -y<=x/\x<=y-> -y<=sg i*x/\sg i*x<=y:=fun x y h=>by
   rcases Sw i with s|s
   ·rw[s,Ao];exact h
   ·rw[s];omega
  rw[Np];refine hs _ _ ?_;by_cases ci:i=c
  ·subst ci;have a:=xG k (tQ M i) k 1 (by decide) (fun r hr x hx _=>h1 _ (Br hi hr) _ (by omega) (JR i r)) (fun x hx hk=>absurd hk (rD k));have b:=h2 0 (yd k) hi;rw[VF]at a;have:=EY b a;rw[HY (fct k) B];exact this
  ·have a:=xG k (tQ M i) (M7 i c) B hB (fun r hr x hx hn=>h1 _ (Br hi hr) _ (by omega) fun z=>hn ((rG (lQ ci)).mp z)) (fun x hx hk=>by
    have hc:Ie i (M7 i c)=c:=(rG (lQ ci)).mpr rfl;have hlt:c<k+1:=by unfold M7 at hk;split at hk<;>omega
    have:=h2 (x+1) (by omega) hlt;unfold tQ;rw[hc];exact this)
   have b:=h1 i hi 0 (yd k) ci;have:=EY b a;rw[Ao]at this;exact this
structure Tab where
 col:Nat->Nat
 row:Nat->Nat
 cell:Nat->Nat->Int
 over:Int
 s:Int
noncomputable def one:Vec:=fun j=>if j=0 then 1 else 0
section
variable(n m:Nat)(S:Nat->Nat->Bool)(w:Nat->Int)
noncomputable def nv(a:Nat):Vec:=fun j=>if a<n then(if j=a+1 then 1 else 0)else(if j=0 then 1 else if S (a-n) (j-1)=true then -1 else 0)
noncomputable def zv:Vec:=fun j=>if j=0 then 0 else w (j-1)
noncomputable def rv(T:Tab)(r:Nat):Vec:=if r<m then nv n S (T.row r)else zv w
noncomputable def uW(T:Tab):uX:=fun i=>if i=0 then one else nv n S (T.col (i-1))
noncomputable def Fn(T:Tab)(c:Nat)(v:Vec):Int:=T.s*det (n+1) (put (uW n S T) c v)
structure Good(T:Tab):Prop where
 pos:0<T.over
 eq:∀r,r<=m->∀j,j<=n->T.over*rv n m S w T r j=T.cell r n*one j-sm n (fun c=>T.cell r c*nv n S (T.col c) j)
 sg:T.s=1\/T.s= -1
 dt:T.over=T.s*det (n+1) (uW n S T)
 Cz:∀c c',c<n->c'<n->T.col c=T.col c'->c=c'
 J4:∀r r',r<m->r'<m->T.row r=T.row r'->r=r'
 dis:∀c r,c<n->r<m->T.col c≠T.row r
 Qp:∀c,c<n->T.col c<n+m
 rlt:∀r,r<m->T.row r<n+m
 all:∀a,a<n+m->(∃c,c<n/\T.col c=a)\/∃r,r<m/\T.row r=a
 V7:∀r,r<m->0<=T.cell r n
end
section
variable{n m:Nat}{S:Nat->Nat->Bool}{w:Nat->Int}{T:Tab}
theorem eZ{r:Nat}(h:r<m):rv n m S w T r=nv n S (T.row r):=au h
theorem gH:rv n m S w T m=zv w:=aq (rD m)
theorem zV:uW n S T 0=one:=rfl
theorem FJ(c:Nat):uW n S T (c+1)=nv n S (T.col c):=by unfold uW;rw[aq (yr c)];rfl
theorem xT{c:Nat}(hc:c<=n)(a b:Int)(u v:Vec):Fn n S T c (fun j=>a*u j+b*v j)=a*Fn n S T c u+b*Fn n S T c v:=by
 unfold Fn;rw[xr (n+1) (uW n S T) c a b u v (by omega)];grind
theorem Io{c:Nat}{u v:Vec}(h:∀j,j<=n->u j=v j):Fn n S T c u=Fn n S T c v:=by
 unfold Fn;rw[vQ (n+1) (M:=put (uW n S T) c u) (N:=put (uW n S T) c v) fun i _ j hj=> ?_];unfold put;split
 ·exact h j (by omega)
 ·rfl
theorem jr{c:Nat}(hc:c<=n)(x:Int)(a:Vec)(y:Nat->Int)(W:Nat->Vec):∀k,Fn n S T c (fun j=>x*a j-sm k (fun i=>y i*W i j))=x*Fn n S T c a-sm k (fun i=>y i*Fn n S T c (W i))
 |0=>by
  have h:=xT (T:=T) (S:=S) hc x 0 a a;rw[Io (v:=fun j=>x*a j+0*a j) fun j _=>by show x*a j-0=_;omega,h];show _=_-0;omega
 |k+1=>by
  have h:=xT (T:=T) (S:=S) hc 1 (-(y k)) (fun j=>x*a j-sm k (fun i=>y i*W i j)) (W k);rw[Io (v:=fun j=>1*(x*a j-sm k (fun i=>y i*W i j))+ -(y k)*W k j) fun j _=>by show x*a j-(sm k _+y k*W k j)=_;grind,h,jr hc x a y W k];show _=x*Fn n S T c a-(sm k _+y k*Fn n S T c (W k))
  grind
theorem pq{c:Nat}(hc:c<=n)(a:Int)(u:Vec):Fn n S T c (fun j=>a*u j)=a*Fn n S T c u:=by
 have h:=xT (T:=T) (S:=S) hc a 0 u u;rw[Io (v:=fun j=>a*u j+0*u j) fun j _=>by omega,h];omega
theorem Mw(g:T.over=T.s*det (n+1) (uW n S T)){c i:Nat}(hc:c<=n)(hi:i<=n):Fn n S T c (uW n S T i)=if i=c then T.over else 0:=by
 unfold Fn;by_cases e:i=c
 ·subst e;rw[au rfl,sZ,<-g]
 ·rw[aq e,LQ (r:=c) (t:=i) (by omega) (by omega) (lQ e) (by rw[put_same,ig _ _ e]),yc]
theorem j7(g:T.over=T.s*det (n+1) (uW n S T)){c:Nat}(hc:c<=n):Fn n S T c one=if c=0 then T.over else 0:=by
 have:=Mw g hc (dX n);rw[zV]at this;rw[this];by_cases e:c=0
 ·rw[au e,au e.symm]
 ·rw[aq e,aq (lQ e)]
theorem yq(g:T.over=T.s*det (n+1) (uW n S T)){c i:Nat}(hc:c<=n)(hi:i<n):Fn n S T c (nv n S (T.col i))=if i+1=c then T.over else 0:=by
 have:=Mw g hc (show i+1<=n by omega);rw[FJ]at this;exact this
theorem Wf{a x y:Int}(h:0<a)(e:a*x=a*y):x=y:=wdg (by omega) e
theorem Good.base(G:Good n m S w T){r:Nat}(hr:r<=m):Fn n S T 0 (rv n m S w T r)=T.cell r n:=by
 have h1:=pq (T:=T) (S:=S) (c:=0) (dX n) T.over (rv n m S w T r);rw[Io fun j hj=>G.eq r hr j hj,jr (dX n) _ _ (T.cell r) (fun c=>nv n S (T.col c)),j7 G.dt (dX n),au rfl,cM n fun c hc=>by rw[yq G.dt (dX n) hc,aq (yr c),yc]]at h1;refine Wf G.pos ?_;rw[<-h1,HY];omega
theorem Good.dir(G:Good n m S w T){r c:Nat}(hr:r<=m)(hc:c<n):Fn n S T (c+1) (rv n m S w T r)= -T.cell r c:=by
 have h1:=pq (T:=T) (S:=S) (c:=c+1) hc T.over (rv n m S w T r);rw[Io fun j hj=>G.eq r hr j hj,jr hc _ _ (T.cell r) (fun c=>nv n S (T.col c)),j7 G.dt hc,aq (yr c),cT (j:=c) n hc fun i hi hn=>by rw[yq G.dt hc hi,aq (by omega),yc],yq G.dt hc hc,au rfl]at h1;refine Wf G.pos ?_;rw[<-h1];grind
noncomputable def turn(T:Tab)(p q:Nat):Tab where
 col:=fun c=>if c=q then T.row p else T.col c
 row:=fun r=>if r=p then T.col q else T.row r
 over:=T.cell p q
 s:= -T.s
 cell:=fun r c=>if r=p then(if c=q then T.over else T.cell p c)else if c=q then -T.cell r q else(T.cell r c*T.cell p q-T.cell r q*T.cell p c)/T.over
theorem Jg{p q:Nat}:uW n S (turn T p q)=put (uW n S T) (q+1) (nv n S (T.row p)):=by
 funext i;unfold uW put turn;dsimp only;by_cases h0:i=0
 ·rw[au h0,aq (by omega),au h0]
 ·rw[aq h0];by_cases h1:i=q+1
  ·rw[au h1,au (by omega)]
  ·rw[aq h1,aq (by omega),aq h0]
theorem Nz{p q r:Nat}(h:r≠p):rv n m S w (turn T p q) r=rv n m S w T r:=by
 unfold rv turn;dsimp only;rw[aq h]
theorem Good.vC(G:Good n m S w T){p q:Nat}(hp:p<m)(hq:q<n):(turn T p q).over=(turn T p q).s*det (n+1) (uW n S (turn T p q)):=by
 have h:=G.dir (r:=p) (dD hp) hq;rw[eZ hp]at h;unfold Fn at h;rw[Jg];show T.cell p q= -T.s*_
 grind
theorem Good.exact(G:Good n m S w T){p q r c:Nat}(hp:p<m)(hq:q<n)(hb:0<T.cell p q)(hr:r<=m)(hrp:r≠p)(hc:c<=n)(Ux:c≠q):
  T.over*(turn T p q).cell r c=T.cell r c*T.cell p q-T.cell r q*T.cell p c:=by
 have g':=G.vC hp hq;have aai:∀j,j<=n->T.cell p q*T.over*rv n m S w T r j=(T.cell r n*T.cell p q-T.cell r q*T.cell p n)*one j-sm n (fun c=>(T.cell r c*T.cell p q-T.cell r q*T.cell p c)*nv n S (T.col c) j)+T.over*T.cell r q*nv n S (T.row p) j:=fun j hj=>by
  have e1:=G.eq r hr j hj;have e2:=G.eq p (dD hp) j hj;rw[eZ hp]at e2;have e3:sm n (fun c=>(T.cell r c*T.cell p q-T.cell r q*T.cell p c)*nv n S (T.col c) j)=T.cell p q*sm n (fun c=>T.cell r c*nv n S (T.col c) j)+ -(T.cell r q)*sm n (fun c=>T.cell p c*nv n S (T.col c) j):=by
   rw[<-cX,<-cX,<-iU];exact aV n fun c _=>by grind
  rw[e3];generalize sm n (fun c=>T.cell r c*nv n S (T.col c) j)=A at *;generalize sm n (fun c=>T.cell p c*nv n S (T.col c) j)=B at *
  grind
 have app:∀d,d<=n->T.cell p q*T.over*Fn n S (turn T p q) d (rv n m S w T r)=(T.cell r n*T.cell p q-T.cell r q*T.cell p n)*Fn n S (turn T p q) d one-sm n (fun c=>(T.cell r c*T.cell p q-T.cell r q*T.cell p c)*Fn n S (turn T p q) d (nv n S (T.col c)))+T.over*T.cell r q*Fn n S (turn T p q) d (nv n S (T.row p)):=fun d hd=>by
  rw[<-pq hd,Io aai,<-jr hd _ _ (fun c=>T.cell r c*T.cell p q-T.cell r q*T.cell p c) (fun c=>nv n S (T.col c))];have h:=xT (T:=turn T p q) (S:=S) hd 1 (T.over*T.cell r q) (fun j=>(T.cell r n*T.cell p q-T.cell r q*T.cell p n)*one j-sm n (fun c=>(T.cell r c*T.cell p q-T.cell r q*T.cell p c)*nv n S (T.col c) j)) (nv n S (T.row p));simp only[Ao]at h;exact h
 have YH:nv n S ((turn T p q).col q)=nv n S (T.row p):=by unfold turn;dsimp only;rw[au rfl]
 have Vf:∀c,c≠q->nv n S ((turn T p q).col c)=nv n S (T.col c):=fun c h=>by unfold turn;dsimp only;rw[aq h]
 have ov:(turn T p q).over=T.cell p q:=rfl;have key:∃x,T.cell r c*T.cell p q-T.cell r q*T.cell p c=T.over*x:=by
  by_cases hl:c=n
  ·subst hl;have h:=app 0 (dX _);have f1:=j7 g' (dX c);have f2:=yq g' (dX c) hq;rw[au rfl,ov]at f1;rw[YH,aq (yr q)]at f2;rw[f1,f2,cM c fun i hi=> ?_]at h
   ·refine⟨Fn c S (turn T p q) 0 (rv c m S w T r),Wf hb ?_⟩
    grind
   ·by_cases X3:i=q
    ·subst X3;rw[Int.sub_self,HX]
    ·have f3:=yq g' (dX c) hi;rw[Vf i X3,aq (yr i)]at f3;rw[f3,yc]
  ·have hc':c<n:=by omega
   have h:=app (c+1) hc';have f1:=j7 g' (show c+1<=n from hc');have f2:=yq g' (show c+1<=n from hc') hq;have f3:=yq g' (show c+1<=n from hc') hc';rw[aq (yr c)]at f1;rw[YH,aq (by omega)]at f2;rw[Vf c Ux,au rfl,ov]at f3;rw[f1,f2,cT (j:=c) n hc' fun i hi hn=> ?_,f3]at h
   ·refine⟨-Fn n S (turn T p q) (c+1) (rv n m S w T r),Wf hb ?_⟩
    grind
   ·by_cases X3:i=q
    ·subst X3;rw[Int.sub_self,HX]
    ·have f4:=yq g' (show c+1<=n from hc') hi;rw[Vf i X3,aq (by omega)]at f4;rw[f4,yc]
 obtain⟨x,hx⟩:=key;show T.over*(if r=p then _ else if c=q then _ else(T.cell r c*T.cell p q-T.cell r q*T.cell p c)/T.over)=_;rw[aq hrp,aq Ux,hx,wdn _ (Int.ne_of_gt G.pos)]
theorem Good.turn(G:Good n m S w T){p q:Nat}(hp:p<m)(hq:q<n)(hb:0<T.cell p q)(ra:∀r,r<m->0<T.cell r q->T.cell p n*T.cell r q<=T.cell r n*T.cell p q):Good n m S w (turn T p q):=by
 have hqn:n≠q:=by omega
 have c1:∀r,r≠p->(Sx.turn T p q).cell r q= -T.cell r q:=fun r h=>by unfold Sx.turn;dsimp only;rw[aq h,au rfl]
 have c2:(Sx.turn T p q).cell p q=T.over:=by unfold Sx.turn;dsimp only;rw[au rfl,au rfl]
 have c3:∀c,c≠q->(Sx.turn T p q).cell p c=T.cell p c:=fun c h=>by unfold Sx.turn;dsimp only;rw[au rfl,aq h]
 have k1:(Sx.turn T p q).col q=T.row p:=by unfold Sx.turn;dsimp only;rw[au rfl]
 have k2:∀c,c≠q->(Sx.turn T p q).col c=T.col c:=fun c h=>by unfold Sx.turn;dsimp only;rw[aq h]
 have r1:(Sx.turn T p q).row p=T.col q:=by unfold Sx.turn;dsimp only;rw[au rfl]
 have r2:∀r,r≠p->(Sx.turn T p q).row r=T.row r:=fun r h=>by unfold Sx.turn;dsimp only;rw[aq h]
 refine⟨hb,fun r hr j hj=> ?_,?_,G.vC hp hq,fun c c' hc hc' e=> ?_,fun r r' hr hr' e=> ?_,fun c r hc hr e=> ?_,fun c hc=> ?_,fun r hr=> ?_,fun a ha=> ?_,fun r hr=> ?_⟩
 ·have e2:=G.eq p (dD hp) j hj;rw[eZ hp]at e2;by_cases h:r=p
  ·subst h;rw[eZ hp,r1,c3 n hqn];have e3:sm n (fun c=>(Sx.turn T r q).cell r c*nv n S ((Sx.turn T r q).col c) j)=sm n (fun c=>T.cell r c*nv n S (T.col c) j)+(T.over*nv n S (T.row r) j-T.cell r q*nv n S (T.col q) j):=by
    have:sm n (fun c=>if c=q then T.over*nv n S (T.row r) j-T.cell r q*nv n S (T.col q) j else 0)=T.over*nv n S (T.row r) j-T.cell r q*nv n S (T.col q) j:=by
     rw[cT (j:=q) n hq fun i _ hn=>aq hn,au rfl]
    rw[<-this,<-iU];refine aV n fun c _=> ?_;by_cases hc:c=q
    ·subst hc;rw[c2,k1,au rfl];omega
    ·rw[c3 c hc,k2 c hc,aq hc];omega
   rw[e3];show T.cell r q*nv n S (T.col q) j=_;omega
  ·rw[Nz h];have e1:=G.eq r hr j hj;have e3:T.over*sm n (fun c=>(Sx.turn T p q).cell r c*nv n S ((Sx.turn T p q).col c) j)=T.cell p q*sm n (fun c=>T.cell r c*nv n S (T.col c) j)+ -(T.cell r q)*sm n (fun c=>T.cell p c*nv n S (T.col c) j)+ -(T.over*T.cell r q*nv n S (T.row p) j):=by
    have:sm n (fun c=>if c=q then -(T.over*T.cell r q*nv n S (T.row p) j)else 0)= -(T.over*T.cell r q*nv n S (T.row p) j):=by
     rw[cT (j:=q) n hq fun i _ hn=>aq hn,au rfl]
    rw[<-this,<-cX,<-cX,<-cX,<-iU,<-iU];refine aV n fun c hc=> ?_;by_cases Ux:c=q
    ·subst Ux;rw[c1 r h,k1,au rfl];grind
    ·have:=G.exact hp hq hb hr h (dD hc) Ux;rw[k2 c Ux,aq Ux,<-Np,this];grind
   have e4:=G.exact hp hq hb hr h (aR n) hqn;refine Wf G.pos ?_;show T.over*(T.cell p q*rv n m S w T r j)=_;rw[Int.mul_sub,e3,<-Np T.over ((Sx.turn T p q).cell r n),e4];generalize sm n (fun c=>T.cell r c*nv n S (T.col c) j)=A at *;generalize sm n (fun c=>T.cell p c*nv n S (T.col c) j)=B at *
   grind
 ·rcases G.sg with e|e
  ·exact .inr (by show -T.s= -1;rw[e])
  ·exact .inl (by show -T.s=1;rw[e];rfl)
 ·by_cases h1:c=q
  ·by_cases h2:c'=q
   ·rw[h1,h2]
   ·rw[h1,k1,k2 c' h2]at e;exact absurd e.symm (G.dis c' p hc' hp)
  ·by_cases h2:c'=q
   ·rw[h2,k1,k2 c h1]at e;exact absurd e (G.dis c p hc hp)
   ·rw[k2 c h1,k2 c' h2]at e;exact G.Cz c c' hc hc' e
 ·by_cases h1:r=p
  ·by_cases h2:r'=p
   ·rw[h1,h2]
   ·rw[h1,r1,r2 r' h2]at e;exact absurd e (G.dis q r' hq hr')
  ·by_cases h2:r'=p
   ·rw[h2,r1,r2 r h1]at e;exact absurd e.symm (G.dis q r hq hr)
   ·rw[r2 r h1,r2 r' h2]at e;exact G.J4 r r' hr hr' e
 ·by_cases h1:c=q
  ·by_cases h2:r=p
   ·rw[h1,h2,k1,r1]at e;exact G.dis q p hq hp e.symm
   ·rw[h1,k1,r2 r h2]at e;exact h2 (G.J4 p r hp hr e).symm
  ·by_cases h2:r=p
   ·rw[h2,k2 c h1,r1]at e;exact h1 (G.Cz c q hc hq e)
   ·rw[k2 c h1,r2 r h2]at e;exact G.dis c r hc hr e
 ·by_cases h1:c=q
  ·rw[h1,k1];exact G.rlt p hp
  ·rw[k2 c h1];exact G.Qp c hc
 ·by_cases h1:r=p
  ·rw[h1,r1];exact G.Qp q hq
  ·rw[r2 r h1];exact G.rlt r hr
 ·rcases G.all a ha with⟨c,hc,e⟩|⟨r,hr,e⟩
  ·by_cases h1:c=q
   ·exact .inr ⟨p,hp,by rw[r1,<-h1,e]⟩
   ·exact .inl ⟨c,hc,by rw[k2 c h1,e]⟩
  ·by_cases h1:r=p
   ·exact .inl ⟨q,hq,by rw[k1,<-h1,e]⟩
   ·exact .inr ⟨r,hr,by rw[r2 r h1,e]⟩
 ·by_cases h1:r=p
  ·rw[h1,c3 n hqn];exact G.V7 p hp
  ·have e:=G.exact hp hq hb (dD hr) h1 (aR n) hqn;have f1:=G.V7 r hr;have f2:=G.V7 p hp;have z:0<=T.cell r n*T.cell p q-T.cell r q*T.cell p n:=by
    by_cases hc:0<T.cell r q
    ·have:=ra r hr hc;rw[HY (T.cell r q)];omega
    ·have a1:0<=T.cell r n*T.cell p q:=Aq f1 (by omega);have a2:0<= -(T.cell r q)*T.cell p n:=Aq (by omega) f2
     grind
   rw[<-e]at z;have:=G.pos;refine Int.not_lt.mp fun hn=> ?_;have:T.over*(Sx.turn T p q).cell r n<0:=Int.mul_neg_of_pos_of_neg G.pos hn;omega
end
structure Step(n m:Nat)(T:Tab)(p q:Nat):Prop where
 hp:p<m
 hq:q<n
 neg:T.cell m q<0
 ent:∀c,c<n->T.cell m c<0->T.col q<=T.col c
 by_:0<T.cell p q
 lev:∀r,r<m->0<T.cell r q->T.cell p n*T.cell r q<T.cell r n*T.cell p q\/(T.cell p n*T.cell r q=T.cell r n*T.cell p q/\T.row p<=T.row r)
noncomputable def inC(n:Nat)(T:Tab)(a:Nat):Prop:=∃c,c<n/\T.col c=a
section
variable{n m:Nat}{S:Nat->Nat->Bool}{w:Nat->Int}
theorem Step.good{T:Tab}{p q:Nat}(s:Step n m T p q)(G:Good n m S w T):Good n m S w (turn T p q):=
 G.turn s.hp s.hq s.by_ fun r hr h=>(s.lev r hr h).elim MN fun e=>Vs e.1
theorem Step.worth{T:Tab}{p q:Nat}(s:Step n m T p q)(G:Good n m S w T):T.over*(turn T p q).cell m n-(turn T p q).over*T.cell m n= -(T.cell m q)*T.cell p n:=by
 have h:=G.exact s.hp s.hq s.by_ (aR m) (Nm s.hp) (aR n) (Nm s.hq);rw[h];show _-T.cell p q*_=_
 grind
theorem Step.le{T:Tab}{p q:Nat}(s:Step n m T p q)(G:Good n m S w T):(turn T p q).over*T.cell m n<=T.over*(turn T p q).cell m n:=by
 have h:=s.worth G;have:=Aq (a:= -(T.cell m q)) (b:=T.cell p n) (by have:=s.neg;omega) (G.V7 p s.hp);omega
theorem wY{a b c d e f:Int}(hd:0<d)(hb:0<b)(hf:0<f)(h1:d*a<=b*c)(h2:f*c<=d*e):f*a<=b*e:=by
 have x:=RP h1 (MN hf);have y:=RP h2 (MN hb);refine Int.le_of_mul_le_mul_left (a:=d) ?_ hd
 grind
theorem wX{a b c d e f:Int}(hd:0<d)(hb:0<b)(hf:0<f)(h1:d*a<=b*c)(h2:f*c<d*e):f*a<b*e:=by
 have x:=RP h1 (MN hf);have y:=wdb h2 hb;refine wdh (a:=d) ?_ (MN hd)
 grind
theorem zK{a b c d e f:Int}(hd:0<d)(hb:0<b)(hf:0<f)(h1:d*a<b*c)(h2:f*c<=d*e):f*a<b*e:=by
 have x:=wdb h1 hf;have y:=RP h2 (MN hb);refine wdh (a:=d) ?_ (MN hd)
 grind
theorem goes{P:Nat->Prop}{s:Nat}:∀d,P s->¬P (s+d)->∃t,s<=t/\t<s+d/\P t/\¬P (t+1)
 |0,h,h'=>absurd h h'
 |d+1,h,h'=>by
  by_cases c:P (s+d)
  ·exact⟨s+d,by omega,by omega,c,h'⟩
  ·obtain⟨t,a,b,x⟩:=goes d h c;exact⟨t,a,by omega,x⟩
theorem zE{P:Nat->Prop}{s e:Nat}(hse:s<=e)(h:P s)(h':¬P e):∃t,s<=t/\t<e/\P t/\¬P (t+1):=by
 obtain⟨t,a,b,x⟩:=goes (s:=s) (e-s) h (by rw[show s+(e-s)=e by omega];exact h');exact⟨t,a,by omega,x⟩
theorem most{P:Nat->Prop}:∀N,(∃a,P a)->(∀a,P a->a<N)->∃a,P a/\∀b,P b->b<=a
 |0,⟨a,h⟩,hb=>absurd (hb a h) (RD a)
 |N+1,h,hb=>by
  by_cases c:P N
  ·exact⟨N,c,fun b hP=>by have:=hb b hP;omega⟩
  ·exact most N h fun a hP=>by
    have:=hb a hP;have:a≠N:=fun e=>c (e▸hP);omega
structure Run(n m:Nat)(S:Nat->Nat->Bool)(w:Nat->Int)(T:Nat->Tab)(p q:Nat->Nat)(L:Nat):Prop where
 first:Good n m S w (T 0)
 step:∀t,t<L->Step n m (T t) (p t) (q t)
 next:∀t,t<L->T (t+1)=turn (T t) (p t) (q t)
variable{T:Nat->Tab}{p q:Nat->Nat}{L:Nat}
theorem Run.good(R:Run n m S w T p q L):∀t,t<=L->Good n m S w (T t)
 |0,_=>R.first
 |t+1,h=>by rw[R.next t h];exact(R.step t h).good (R.good t (wdl h))
theorem Run.worth(R:Run n m S w T p q L){i:Nat}:∀d,i+d<=L->(T (i+d)).over*(T i).cell m n<=(T i).over*(T (i+d)).cell m n
 |0,_=>pF _
 |d+1,h=>by
  have ih:=R.worth d (i:=i) (by omega);have g1:=R.good (i+d) (by omega);have st:=(R.step (i+d) (by omega)).le g1;rw[<-R.next (i+d) (by omega)]at st;exact wY g1.pos (R.good i (by omega)).pos (R.good (i+d+1) h).pos ih st
theorem Run.Iv(R:Run n m S w T p q L){i j:Nat}(hij:i<=j)(hj:j<=L):(T j).over*(T i).cell m n<=(T i).over*(T j).cell m n:=by
 have:=R.worth (i:=i) (j-i) (by omega)
 rwa [show i+(j-i)=j by omega]at this
theorem Bt{A B:Tab}(GA:Good n m S w A)(GB:Good n m S w B)(h:∀a,inC n B a->inC n A a):B.over*A.cell m n=A.over*B.cell m n:=by
 have h1:=pq (T:=A) (S:=S) (c:=0) (dX n) B.over (zv w);have e:=GB.eq m (aR m);rw[gH]at e;have b:=GA.base (aR m);rw[gH]at b;rw[Io e,jr (dX n) _ _ (B.cell m) (fun c=>nv n S (B.col c)),j7 GA.dt (dX n),au rfl,cM n fun c hc=> ?_,b]at h1
 ·rw[<-h1,HY];omega
 ·obtain⟨c',hc',e'⟩:=h _ ⟨c,hc,rfl⟩;rw[<-e',yq GA.dt (dX n) hc',aq (yr c'),yc]
theorem Jf{T:Tab}{p q:Nat}(G:Good n m S w T)(hp:p<m)(hq:q<n)(a:Nat):inC n (turn T p q) a↔(inC n T a/\a≠T.col q)\/a=T.row p:=by
 constructor
 ·rintro⟨c,hc,e⟩;have e':(if c=q then T.row p else T.col c)=a:=e;by_cases h:c=q
  ·rw[au h]at e';exact .inr e'.symm
  ·rw[aq h]at e';exact .inl ⟨⟨c,hc,e'⟩,fun z=>h (G.Cz c q hc hq (e'.trans z))⟩
 ·rintro(⟨⟨c,hc,e⟩,hn⟩|e)
  ·have h:c≠q:=fun z=>hn (by rw[<-e,z]);exact⟨c,hc,by show(if c=q then _ else _)=a;rw[aq h];exact e⟩
  ·exact⟨q,hq,by show(if q=q then _ else _)=a;rw[au rfl];exact e.symm⟩
theorem flat{T:Tab}{p q:Nat}(G:Good n m S w T)(G':Good n m S w (turn T p q))(s:Step n m T p q)(h0:T.cell p n=0){a:Nat}(ha:a<n+m):Fn n S (turn T p q) 0 (nv n S a)=0↔Fn n S T 0 (nv n S a)=0:=by
 have z0:=dX n;rcases G'.all a ha with⟨c,hc,e⟩|⟨r,hr,e⟩
 ·have f1:=yq G'.dt z0 hc;rw[e,aq (yr c)]at f1;refine⟨fun _=> ?_,fun _=>f1⟩;have e':(if c=q then T.row p else T.col c)=a:=e;by_cases h:c=q
  ·rw[au h]at e';have:=G.base (dD s.hp);rw[eZ s.hp,e']at this;rw[this,h0]
  ·rw[aq h]at e';have:=yq G.dt z0 hc;rw[e',aq (yr c)]at this;exact this
 ·have f1:=G'.base (dD hr);rw[eZ hr,e]at f1;have e':(if r=p then T.col q else T.row r)=a:=e;rw[f1];by_cases h:r=p
  ·rw[au h]at e';have f2:=yq G.dt z0 s.hq;rw[e',aq (yr q)]at f2;have f3:(turn T p q).cell r n=T.cell p n:=by
    show(if r=p then(if n=q then _ else _)else _)=_;rw[au h,aq (Nm s.hq)]
   rw[f3,h0];exact⟨fun _=>f2,fun _=>rfl⟩
  ·rw[aq h]at e';have f2:=G.base (dD hr);rw[eZ hr,e']at f2;rw[f2];have x:=G.exact s.hp s.hq s.by_ (dD hr) h (aR n) (Nm s.hq);rw[h0,yc,Int.sub_zero]at x;constructor
   ·intro z;rw[z,yc]at x;rcases Int.mul_eq_zero.mp x.symm with y|y
    ·exact y
    ·have:=s.by_;omega
   ·intro z;rw[z,HX]at x;rcases Int.mul_eq_zero.mp x with y|y
    ·have:=G.pos;omega
    ·exact y
theorem Run.Hj(R:Run n m S w T p q L){i j:Nat}(hij:i<j)(hj:j<=L):¬∀a,inC n (T i) a↔inC n (T j) a:=by
 intro same;have Gt:∀t,i<=t->t<=j->Good n m S w (T t):=fun t _ h=>R.good t (cQ h hj);have D:=Bt (Gt i (aR i) (dD hij)) (Gt j (dD hij) (aR j)) fun a=>(same a).mpr;have St:∀t,t<j->Step n m (T t) (p t) (q t):=fun t h=>R.step t (kW h hj);have nx:∀t,t<j->T (t+1)=turn (T t) (p t) (q t):=fun t h=>R.next t (kW h hj)
 -- every turn of these is flat
 have fl:∀t,i<=t->t<j->(T t).cell (p t) n=0:=fun t hi ht=>by
  have g:=Gt t hi (dD ht);have W:=(St t ht).worth g;have F:=g.V7 (p t) (St t ht).hp;have N:=(St t ht).neg;by_cases z:(T t).cell (p t) n=0
  ·exact z
  ·exfalso;have B:(turn (T t) (p t) (q t)).over*(T t).cell m n<(T t).over*(turn (T t) (p t) (q t)).cell m n:=by
    have:=VD (a:= -((T t).cell m (q t))) (b:=(T t).cell (p t) n) (by omega) (by omega);omega
   rw[<-nx t ht]at B;have A:=R.Iv (i:=i) (j:=t) hi (by omega);have C:=R.Iv (i:=t+1) (j:=j) ht hj;have o1:=(Gt i (aR i) (dD hij)).pos;have o2:=g.pos;have o3:=(Gt (t+1) (by omega) ht).pos;have o4:=(Gt j (dD hij) (aR j)).pos;have x:=wX o2 o1 o3 A B;have y:=zK o3 o1 o4 x C;omega
 have ic:∀t,t<j->i<=t->∀a,inC n (T (t+1)) a↔(inC n (T t) a/\a≠(T t).col (q t))\/a=(T t).row (p t):=fun t ht hi a=>by
  rw[nx t ht];exact Jf (Gt t hi (dD ht)) (St t ht).hp (St t ht).hq a
 have zeros:∀{a:Nat},a<n+m->∀d s,i<=s->s+d<=j->(Fn n S (T (s+d)) 0 (nv n S a)=0↔Fn n S (T s) 0 (nv n S a)=0):=fun{a} ha d=>by
  induction d with
  |zero=>intro s _ _;exact Iff.rfl
  |succ d ih=>
   intro s hs hd;have f:=flat (Gt (s+d) (by omega) (by omega)) (by rw[<-nx (s+d) (by omega)];exact Gt (s+d+1) (by omega) hd) (St (s+d) (by omega)) (fl (s+d) (by omega) (by omega)) ha;rw[<-nx (s+d) (by omega)]at f;exact f.trans (ih s hs (by omega))
 have Wb:∀{a s t:Nat},a<n+m->i<=s->s<=j->i<=t->t<=j->Fn n S (T s) 0 (nv n S a)=0->Fn n S (T t) 0 (nv n S a)=0:=fun{a s t} ha h1 h2 h3 h4 z=>by
  by_cases c:s<=t
  ·have:=zeros ha (t-s) s h1 (by omega);rw[show s+(t-s)=t by omega]at this;exact this.mpr z
  ·have:=zeros ha (s-t) t h3 (by omega);rw[show t+(s-t)=s by omega]at this;exact this.mp z
 -- the greatest name that comes and goes
 let Fk:Nat->Prop:=fun a=>∃t,i<=t/\t<j/\((inC n (T t) a/\¬inC n (T (t+1)) a)\/(¬inC n (T t) a/\inC n (T (t+1)) a));have fkc:∀t,i<=t->t<j->Fk ((T t).col (q t)):=fun t hi ht=>by
  have g:=Gt t hi (dD ht);refine⟨t,hi,ht,.inl ⟨⟨q t,(St t ht).hq,rfl⟩,fun z=> ?_⟩⟩;rcases(ic t ht hi _).mp z with⟨_,z⟩|z
  ·exact z rfl
  ·exact g.dis (q t) (p t) (St t ht).hq (St t ht).hp z
 have lt:∀a,Fk a->a<n+m:=fun a h=>by
  obtain⟨t,hi,ht,(⟨⟨c,hc,e⟩,_⟩|⟨_,⟨c,hc,e⟩⟩)⟩:=h
  ·rw[<-e];exact(Gt t hi (dD ht)).Qp c hc
  ·rw[<-e];exact(Gt (t+1) (by omega) ht).Qp c hc
 obtain⟨tt,hF,hmax⟩:=most (n+m) ⟨_,fkc i (aR i) hij⟩ lt;have diff:∀{a s e:Nat},i<=s->s<=j->i<=e->e<=j->inC n (T s) a->¬inC n (T e) a->Fk a:=fun{a s e} h1 h2 h3 h4 x y=>by
  by_cases c:s<=e
  ·obtain⟨t,a1,a2,a3,a4⟩:=zE (P:=fun t=>inC n (T t) a) c x y;exact⟨t,by omega,by omega,.inl ⟨a3,a4⟩⟩
  ·obtain⟨t,a1,a2,a3,a4⟩:=zE (P:=fun t=>¬inC n (T t) a) (s:=e) (e:=s) (by omega) y (fun z=>z x);exact⟨t,by omega,by omega,.inr ⟨a3,Classical.not_not.mp a4⟩⟩
 obtain⟨t1,Yd,V5,h1a,h1b⟩:∃t,i<=t/\t<j/\inC n (T t) tt/\¬inC n (T (t+1)) tt:=by
  obtain⟨t,hi,ht,(⟨x,y⟩|⟨x,y⟩)⟩:=hF
  ·exact⟨t,hi,ht,x,y⟩
  ·by_cases c:inC n (T j) tt
   ·obtain⟨u,a1,a2,a3,a4⟩:=zE (P:=fun t=>inC n (T t) tt) hi ((same tt).mpr c) x;exact⟨u,a1,by omega,a3,a4⟩
   ·obtain⟨u,a1,a2,a3,a4⟩:=zE (P:=fun t=>inC n (T t) tt) (s:=t+1) (e:=j) ht y c;exact⟨u,by omega,a2,a3,a4⟩
 obtain⟨t2,V4,UJ,h2a,h2b⟩:∃t,i<=t/\t<j/\¬inC n (T t) tt/\inC n (T (t+1)) tt:=by
  have up:∀s e,i<=s->s<=e->e<=j->¬inC n (T s) tt->inC n (T e) tt->∃t,i<=t/\t<j/\¬inC n (T t) tt/\inC n (T (t+1)) tt:=fun s e a b c x y=>by
   obtain⟨u,a1,a2,a3,a4⟩:=zE (P:=fun t=>¬inC n (T t) tt) b x (fun z=>z y);exact⟨u,by omega,by omega,a3,Classical.not_not.mp a4⟩
  by_cases c:inC n (T j) tt
  ·exact up (t1+1) j (by omega) V5 (aR j) h1b c
  ·exact up i t1 (aR i) Yd (by omega) (fun z=>c ((same tt).mp z)) h1a
 have e1:tt=(T t1).col (q t1):=by
  refine VN fun hn=>h1b ((ic t1 V5 Yd tt).mpr (.inl ⟨h1a,hn⟩))
 have e2:tt=(T t2).row (p t2):=by
  rcases(ic t2 UJ V4 tt).mp h2b with⟨z,_⟩|z
  ·exact absurd z h2a
  ·exact z
 have G1:=Gt t1 Yd (dD V5);have G2:=Gt t2 V4 (dD UJ);have S1:=St t1 V5;have S2:=St t2 UJ
 -- along the column that enters at t2
 have hq2:q t2+1<=n:=S2.hq;have dz:=G2.dir (aR m) S2.hq;rw[gH]at dz;have sum:=pq (T:=T t2) (S:=S) hq2 (T t1).over (zv w);have eq1:=G1.eq m (aR m);rw[gH]at eq1;rw[Io eq1,jr hq2 _ _ ((T t1).cell m) (fun c=>nv n S ((T t1).col c)),j7 G2.dt hq2,aq (yr _),dz]at sum;have neg:sm n (fun c=>(T t1).cell m c*Fn n S (T t2) (q t2+1) (nv n S ((T t1).col c)))<0:=by
  have:=VD G1.pos (b:= -((T t2).cell m (q t2))) (by have:=S2.neg;omega);omega
 obtain⟨c,hc,hlt⟩:=JN n neg;have hnm:=G1.Qp c hc;rcases G2.all _ hnm with⟨c0,hc0,e0⟩|⟨r0,hr0,e0⟩
 ·have f:=yq G2.dt hq2 hc0;rw[e0]at f;by_cases z:c0=q t2
  ·rw[au (by omega)]at f;rw[f]at hlt;have cn:(T t1).cell m c<0:=by
    refine Int.not_le.mp fun h=> ?_;have:=Aq h (MN G2.pos);omega
   have a:=S1.ent c hc cn;rw[<-e1,<-e0,z]at a;have b:=hmax _ (fkc t2 V4 UJ);have:tt=(T t2).col (q t2):=RG a b;exact G2.dis (q t2) (p t2) S2.hq S2.hp (this.symm.trans e2)
  ·rw[aq (by omega)]at f;rw[f,yc]at hlt;exact absurd hlt (wez 0)
 ·have f:=G2.dir (dD hr0) S2.hq;rw[eZ hr0,e0]at f;rw[f]at hlt;have fk:Fk ((T t1).col c):=diff Yd (dD V5) V4 (dD UJ) ⟨c,hc,rfl⟩ (fun⟨c',hc',e'⟩=>G2.dis c' r0 hc' hr0 (e'.trans e0.symm));have le:=hmax _ fk;by_cases z:(T t1).col c=tt
  ·have cq:c=q t1:=G1.Cz c (q t1) hc S1.hq (z.trans e1);have rp:r0=p t2:=G2.J4 r0 (p t2) hr0 S2.hp (e0.trans (z.trans e2));subst cq rp;have a:=S1.neg;have b:=S2.by_;have:=VD (a:= -((T t1).cell m (q t1))) (b:=(T t2).cell (p t2) (q t2)) (by omega) b
   grind
  ·have cn:¬(T t1).cell m c<0:=fun h=>by
    have:=S1.ent c hc h;omega
   have J6:0<(T t2).cell r0 (q t2):=by
    refine Int.not_le.mp fun h=> ?_;have:=Aq (a:=(T t1).cell m c) (b:= -((T t2).cell r0 (q t2))) (by omega) (by omega);omega
   have v1:Fn n S (T t1) 0 (nv n S ((T t1).col c))=0:=by rw[yq G1.dt (dX n) hc,aq (yr c)]
   have v2:=Wb hnm Yd (dD V5) V4 (dD UJ) v1;have b:=G2.base (dD hr0);rw[eZ hr0,e0,v2]at b;have k:=fl t2 V4 UJ;rcases S2.lev r0 hr0 J6 with h|⟨_,h⟩
   ·rw[k,<-b,HX,HX]at h;exact absurd h (wez 0)
   ·rw[<-e2,e0]at h;omega
noncomputable def enc:List Bool->Nat
 |[]=>0
 |b::l=>(if b=true then 1 else 0)+2*enc l
theorem LC:∀l:List Bool,enc l<2^l.length
 |[]=>by decide
 |b::l=>by
  have:=LC l;show(if b=true then 1 else 0)+2*enc l<2^(l.length+1);rw[Nat.pow_succ];split<;>omega
theorem Fz:∀{l l':List Bool},l.length=l'.length->enc l=enc l'->l=l'
 |[],[],_,_=>rfl
 |b::l,b'::l',h,e=>by
  have e':(if b=true then 1 else 0)+2*enc l=(if b'=true then 1 else 0)+2*enc l':=e;have hb:b=b':=by cases b<;>cases b'<;>simp at e'⊢<;>omega
  subst hb;rw[Fz (l:=l) (l':=l') (by simpa using h) (by omega)]
theorem few:∀(K:Nat) (l:List Nat),l.Nodup->(∀x∈l,x<K)->l.length<=K
 |0,[],_,_=>aR 0
 |0,x::_,_,h=>absurd (h x jx) (RD x)
 |K+1,l,nd,h=>by
  have a:=few K (l.filter fun x=>decide (x≠K)) (nd.filter _) fun x hx=>by
   obtain⟨h1,h2⟩:=eN.mp hx;have:=h x h1;have:=cR h2;omega
  have b:l.length<=(l.filter fun x=>decide (x≠K)).length+1:=by
   clear a h
   induction l with
   |nil=>exact dX _
   |cons y l ih=>
    have nd':=Ip.mp nd;rw[Ax];by_cases c:y=K
    ·subst c;rw[aq (by simp)];have:l.filter (fun x=>decide (x≠y))=l:=List.filter_eq_self.mpr fun x hx=>cI fun e=>nd'.1 (e▸hx);rw[this];exact aR _
    ·rw[au (cI c)];have:=ih nd'.2;simp only[yj];omega
  omega
open Classical in
noncomputable def code(n m:Nat)(T:Tab):Nat:=enc ((List.range (n+m)).map fun a=>decide (inC n T a))
theorem Run.short(R:Run n m S w T p q L):L<2^(n+m):=by
 have inj:∀i j,i<=L->j<=L->code n m (T i)=code n m (T j)->i=j:=by
  have one:∀i j,i<j->j<=L->code n m (T i)≠code n m (T j):=fun i j hij hj e=>by
   have l:=Fz (by simp) e;refine R.Hj hij hj fun a=> ?_;by_cases ha:a<n+m
   ·have:=jz (fun l:List Bool=>l[a]?) l;simp only[dY,RL ha,Option.map_some,Option.some.injEq,decide_eq_decide]at this;exact this
   ·exact⟨fun⟨c,hc,e⟩=>absurd ((R.good i (by omega)).Qp c hc) (by omega),fun⟨c,hc,e⟩=>absurd ((R.good j hj).Qp c hc) (by omega)⟩
  intro i j hi hj e;rcases Nat.lt_trichotomy i j with h|h|h
  ·exact absurd e (one i j h hj)
  ·exact h
  ·exact absurd e.symm (one j i h hi)
 have nd:((List.range (L+1)).map fun t=>code n m (T t)).Nodup:=by
  refine Nr.mpr (List.nodup_range.imp_of_mem fun{a b} ha hb hab e=>hab (inj a b ?_ ?_ e))
  ·have:=pJ.mp ha;omega
  ·have:=pJ.mp hb;omega
 have:=few (2^(n+m)) _ nd fun x hx=>by
  obtain⟨t,_,rfl⟩:=iK.mp hx;have:=LC ((List.range (n+m)).map fun a=> @decide (inC n (T t) a) (Classical.propDecidable _));rw[aH,vm]at this;exact this
 rw[aH,vm]at this;omega
end
section
variable{n m:Nat}{S:Nat->Nat->Bool}{w:Nat->Int}{T:Tab}
theorem mQ{a j:Nat}(h:a<n):nv n S a j=if j=a+1 then 1 else 0:=au h
theorem wN{k j:Nat}:nv n S (n+k) j=if j=0 then 1 else if S k (j-1)=true then -1 else 0:=by
 unfold nv;rw[aq (by omega),show n+k-n=k by omega]
theorem El{y:Nat->Int}{j:Nat}(hj:j<=n):sm n (fun c=>y c*nv n S c j)=if j=0 then 0 else y (j-1):=by
 by_cases h:j=0
 ·rw[au h];exact cM n fun c hc=>by rw[mQ hc,aq (by omega),yc]
 ·rw[aq h,cT (j:=j-1) n (by omega) fun c hc hn=>by rw[mQ hc,aq (by omega),yc],mQ (by omega),au (by omega),VF]
theorem BZ{k j:Nat}(hj:j<=n):nv n S (n+k) j=1*one j-sm n (fun c=>(if S k c=true then 1 else 0)*nv n S c j):=by
 rw[wN,El hj];unfold one;by_cases h:j=0
 ·rw[au h,au h,au h];rfl
 ·rw[aq h,aq h,aq h];split<;>rfl
theorem Ik{j:Nat}(hj:j<=n):zv w j=0*one j-sm n (fun c=> -(w c)*nv n S c j):=by
 rw[El hj];unfold zv;by_cases h:j=0
 ·rw[au h,au h];omega
 ·rw[aq h,aq h];omega
noncomputable def start(n m:Nat)(S:Nat->Nat->Bool)(w:Nat->Int):Tab where
 col:=fun c=>c
 row:=fun r=>n+r
 cell:=fun r c=>if r=m then(if c=n then 0 else -(w c))else if c=n then 1 else if S r c=true then 1 else 0
 over:=1
 s:=1
theorem Bg:Good n m S w (start n m S w):=by
 refine⟨Int.one_pos,fun r hr j hj=> ?_,.inl rfl,?_,fun c c' _ _ e=>e,fun r r' _ _ e=>by have:n+r=n+r':=e;omega,fun c r hc _ e=>by have:c=n+r:=e;omega,fun c hc=>by show c<n+m;omega,fun r hr=>by show n+r<n+m;omega,fun a ha=> ?_,fun r hr=> ?_⟩
 ·show 1*rv n m S w (start n m S w) r j=(start n m S w).cell r n*one j-sm n (fun c=>(start n m S w).cell r c*nv n S c j);by_cases h:r<m
  ·rw[eZ h];show 1*nv n S (n+r) j=_;rw[Ao,BZ hj];have e1:(start n m S w).cell r n=1:=by show(if r=m then _ else if n=n then(1:Int)else _)=1;rw[aq (by omega),au rfl]
   rw[e1,aV n fun c hc=> ?_];show _=(if r=m then _ else if c=n then(1:Int)else if S r c=true then 1 else 0)*_;rw[aq (show¬r=m by omega),aq (show¬c=n by omega)]
  ·have e:r=m:=by omega
   subst e;rw[gH,Ao,Ik (n:=n) (S:=S) hj];have e1:(start n r S w).cell r n=0:=by show(if r=r then(if n=n then(0:Int)else _)else _)=0;rw[au rfl,au rfl]
   rw[e1,aV n fun c hc=> ?_];show _=(if r=r then(if c=n then(0:Int)else -(w c))else _)*_;rw[au rfl,aq (show¬c=n by omega)]
 ·show(1:Int)=1*det (n+1) _;rw[zN (n+1) _ fun i hi j hj=> ?_]; · rfl
  by_cases h:i=0
  ·subst h;rw[zV];unfold one;by_cases e:j=0
   ·rw[au e,au e.symm]
   ·rw[aq e,aq (lQ e)]
  ·obtain⟨c,rfl⟩:∃c,i=c+1:=⟨i-1,by omega⟩;rw[FJ];show nv n S c j=_;rw[mQ (by omega)];by_cases e:j=c+1
   ·rw[au e,au e.symm]
   ·rw[aq e,aq (lQ e)]
 ·by_cases h:a<n
  ·exact .inl ⟨a,h,rfl⟩
  ·exact .inr ⟨a-n,by omega,by show n+(a-n)=a;omega⟩
 ·show 0<=(if r=m then _ else if n=n then(1:Int)else _);rw[aq (by omega),au rfl];decide
theorem Good.bounded(G:Good n m S w T)(cov:∀p,p<n->∃k,k<m/\S k p=true){q:Nat}(hq:q<n):∃r,r<m/\0<T.cell r q:=by
 refine VN fun no=> ?_;have no':∀r,r<m->T.cell r q<=0:=fun r hr=>Int.not_lt.mp fun h=>no ⟨r,hr,h⟩;have hq':q+1<=n:=hq;have nn:∀a,a<n+m->0<=Fn n S T (q+1) (nv n S a):=fun a ha=>by
  rcases G.all a ha with⟨c,hc,e⟩|⟨r,hr,e⟩
  ·rw[<-e,yq G.dt hq' hc];split
   ·exact MN G.pos
   ·exact pF 0
  ·have:=G.dir (dD hr) hq;rw[eZ hr,e]at this;rw[this];have:=no' r hr;omega
 have set:∀k,Fn n S T (q+1) (nv n S (n+k))= -sm n (fun p=>(if S k p=true then 1 else 0)*Fn n S T (q+1) (nv n S p)):=fun k=>by
  rw[Io fun j hj=>BZ hj,jr hq' _ _ (fun c=>if S k c=true then 1 else 0) (fun c=>nv n S c),j7 G.dt hq',aq (yr q)];omega
 have low:∀p,p<n->Fn n S T (q+1) (nv n S p)=0:=fun p hp=>by
  obtain⟨k,hk,hs⟩:=cov p hp;have a:=nn (n+k) (by omega);rw[set k]at a;have:=Em n (f:=fun p=>(if S k p=true then 1 else 0)*Fn n S T (q+1) (nv n S p)) (fun i hi=> ?_) (by omega) p hp
  ·rw[au hs,Ao]at this;exact this
  ·have:=nn i (by omega);split<;>omega
 have z:Fn n S T (q+1) (nv n S (T.col q))=0:=by
  have hc:=G.Qp q hq;by_cases h:T.col q<n
  ·exact low _ h
  ·have e:T.col q=n+(T.col q-n):=by omega
   rw[e,set,cM n fun p hp=>by rw[low p hp,yc]];rfl
 rw[yq G.dt hq' hq,au rfl]at z;have:=G.pos;omega
theorem Ku(a j:Nat): -1<=nv n S a j/\nv n S a j<=1:=by
 unfold nv;split
 ·split<;>decide
 ·split
  ·decide
  ·split<;>decide
theorem FN(i j:Nat): -1<=uW n S T i j/\uW n S T i j<=1:=by
 unfold uW;split
 ·unfold one;split<;>decide
 ·exact Ku _ _
theorem Dk(G:Good n m S w T){c:Nat}{v:Vec}{B:Int}(hB:1<=B)(h:∀j,j<=n-> -B<=v j/\v j<=B): -(fct (n+1)*B)<=Fn n S T c v/\Fn n S T c v<=fct (n+1)*B:=by
 have d:=xG (n+1) (put (uW n S T) c v) c B hB (fun i _ j _ hn=>by rw[ig _ _ hn];exact FN i j) (fun j hj _=>by rw[put_same];exact h j (by omega));unfold Fn;rcases G.sg with s|s
 ·rw[s,Ao];exact d
 ·rw[s];omega
theorem Good.Og(G:Good n m S w T):T.over<=fct (n+1):=by
 have d:=Dk G (c:=0) (v:=uW n S T 0) (B:=1) (by decide) fun j _=>FN 0 j;rw[Mw G.dt (dX n) (dX n),au rfl]at d;omega
theorem Good.Mh(G:Good n m S w T)(hw:∀p,p<n->0<=w p/\w p<=99){r c:Nat}(hr:r<=m)(hc:c<=n): -(fct (n+1)*99)<=T.cell r c/\T.cell r c<=fct (n+1)*99:=by
 have hv:∀j,j<=n-> -99<=rv n m S w T r j/\rv n m S w T r j<=99:=fun j hj=>by
  unfold rv;split
  ·have:=Ku (n:=n) (S:=S) (T.row r) j;omega
  ·unfold zv;split
   ·decide
   ·have:=hw (j-1) (by omega);omega
 by_cases h:c=n
 ·subst h;have d:=Dk G (c:=0) (B:=99) (by decide) hv;rw[G.base hr]at d;exact d
 ·have d:=Dk G (c:=c+1) (B:=99) (by decide) hv;rw[G.dir hr (by omega)]at d;omega
theorem Ly:∀{k:Nat},k<=11->fct k<=39916800
 |0,_|1,_|2,_|3,_|4,_|5,_|6,_|7,_|8,_|9,_|10,_|11,_=>by decide
noncomputable def Ys(n m:Nat)(T:Tab)(a:Nat):Int:=sm n fun c=>if T.col c=a then T.cell m c else 0
noncomputable def Xs(n m:Nat)(T:Tab)(a:Nat):Int:=sm m fun r=>if T.row r=a then T.cell r n else 0
theorem Good.Wj(G:Good n m S w T){c:Nat}(hc:c<n):Ys n m T (T.col c)=T.cell m c:=by
 unfold Ys;rw[cT (j:=c) n hc fun i hi hn=>aq fun e=>hn (G.Cz i c hi hc e),au rfl]
theorem Wi{a:Nat}(h:∀c,c<n->T.col c≠a):Ys n m T a=0:=cM n fun c hc=>aq (h c hc)
theorem Good.QK(G:Good n m S w T){r:Nat}(hr:r<m):Xs n m T (T.row r)=T.cell r n:=by
 unfold Xs;rw[cT (j:=r) m hr fun i hi hn=>aq fun e=>hn (G.J4 i r hi hr e),au rfl]
theorem QH{a:Nat}(h:∀r,r<m->T.row r≠a):Xs n m T a=0:=cM m fun r hr=>aq (h r hr)
theorem Good.Iu(G:Good n m S w T){a:Nat}(ha:a<n+m):Fn n S T 0 (nv n S a)=Xs n m T a:=by
 rcases G.all a ha with⟨c,hc,e⟩|⟨r,hr,e⟩
 ·rw[<-e,yq G.dt (dX n) hc,aq (yr c),QH fun r hr z=>G.dis c r hc hr z.symm]
 ·rw[<-e,G.QK hr];have:=G.base (dD hr);rw[eZ hr]at this;exact this
theorem Good.QJ(G:Good n m S w T)(a:Nat):0<=Xs n m T a:=vI m fun r hr=>by
 have:=G.V7 r hr;split
 ·exact this
 ·exact pF 0
theorem Qz(h:∀c,c<n->0<=T.cell m c)(a:Nat):0<=Ys n m T a:=vI n fun c hc=>by
 have:=h c hc;split
 ·exact this
 ·exact pF 0
theorem yG(f:Nat->Int)(a:Nat):∀b,sm (a+b) f=sm a f+sm b fun k=>f (a+k)
 |0=>by show sm a f=sm a f+0;omega
 |b+1=>by
  show sm (a+b) f+f (a+b)=_;rw[yG f a b];show _=sm a f+(sm b (fun k=>f (a+k))+f (a+b));omega
theorem Good.Xe(G:Good n m S w T)(g:Nat->Int):sm n (fun c=>T.cell m c*g (T.col c))=sm n (fun a=>Ys n m T a*g a)+sm m (fun k=>Ys n m T (n+k)*g (n+k)):=by
 rw[<-yG (fun a=>Ys n m T a*g a)];have e:∀a,Ys n m T a*g a=sm n fun c=>(if T.col c=a then T.cell m c else 0)*g a:=fun a=>by
  unfold Ys;rw[HY,<-cX];exact aV n fun c _=>HY _ _
 rw[aV (n+m) fun a _=>e a,wk (fun a c=>(if T.col c=a then T.cell m c else 0)*g a)];refine aV n fun c hc=> ?_;rw[cT (j:=T.col c) (n+m) (G.Qp c hc) fun a _ hn=>by rw[aq (lQ hn),HX],au rfl]
theorem Good.total(G:Good n m S w T):sm m (fun k=>Ys n m T (n+k))=T.cell m n:=by
 have e:=G.eq m (aR m) 0 (dX n);rw[gH,G.Xe (fun a=>nv n S a 0),cM n fun a ha=>by rw[mQ ha,aq (by omega),yc]]at e;have z:zv w 0=0:=rfl;have o:one 0=1:=rfl;rw[z,o,aV m fun k _=>show Ys n m T (n+k)*nv n S (n+k) 0=Ys n m T (n+k) by rw[wN,au rfl,VF]]at e;omega
theorem Good.enough(G:Good n m S w T){p:Nat}(hp:p<n):sm m (fun k=>if S k p=true then Ys n m T (n+k)else 0)=T.over*w p+Ys n m T p:=by
 have e:=G.eq m (aR m) (p+1) hp;rw[gH,G.Xe (fun a=>nv n S a (p+1)),cT (j:=p) n hp fun a ha hn=>by rw[mQ ha,aq (by omega),yc],mQ hp,au rfl]at e;have z:zv w (p+1)=w p:=by unfold zv;rw[aq (yr p)];rfl
 have o:one (p+1)=0:=aq (yr p);rw[z,o,aV m fun k _=>show Ys n m T (n+k)*nv n S (n+k) (p+1)= -1*(if S k p=true then Ys n m T (n+k)else 0) by
  rw[wN,aq (yr p),Nat.add_sub_cancel];split<;>omega,cX]at e
 omega
theorem Good.light(G:Good n m S w T){k:Nat}(hk:k<m):sm n (fun p=>if S k p=true then Xs n m T p else 0)<=T.over:=by
 have h:Fn n S T 0 (nv n S (n+k))=1*Fn n S T 0 one-sm n (fun p=>(if S k p=true then 1 else 0)*Fn n S T 0 (nv n S p)):=by
  rw[Io fun j hj=>BZ hj,jr (dX n) _ _ (fun c=>if S k c=true then 1 else 0) (fun c=>nv n S c)]
 rw[j7 G.dt (dX n),au rfl,G.Iu (by omega),aV n fun p hp=>show(if S k p=true then(1:Int)else 0)*Fn n S T 0 (nv n S p)=if S k p=true then Xs n m T p else 0 by
  rw[G.Iu (by omega)];split<;>omega]at h
 have:=G.QJ (n+k);omega
theorem Good.prices(G:Good n m S w T):sm n (fun p=>w p*Xs n m T p)=T.cell m n:=by
 have h:=G.base (aR m);rw[gH,Io fun j hj=>Ik (n:=n) (S:=S) hj,jr (dX n) _ _ (fun c=> -(w c)) (fun c=>nv n S c),aV n fun p hp=>show -(w p)*Fn n S T 0 (nv n S p)= -1*(w p*Xs n m T p) by rw[G.Iu (by omega)];grind,cX]at h;omega
end
end Sx
namespace PySem
open Sem (wp)
section
variable{prog:ξ}{w:τ}{A:Around}{E:L3}{s:η}
theorem Il{z TI TO i1 i2 l1 l2:Addr}{k:Nat}{xs ys:Array ζ}{x y a b:ζ}{Q:Option ζ->η->Prop}(D:ZipApart z TI TO i1 i2 l1 l2)(hz:IsZip s.heap z TI TO .none)(hTI:IsPair s.heap TI (.ref i1) (.ref i2))(hTO:IsPair s.heap TO a b)(h1:s.heap.IsTupleIter i1 l1 k)(h2:s.heap.IsListIter i2 l2 k)(hl1:s.heap.IsTuple l1 xs)(hl2:s.heap.IsList l2 ys)(hx:xs[k]? =some x)(hy:ys[k]? =some y)(hQ:∀h',IsZip h' z TI TO (rawInt s.heap.objs.size)->IsPair h' TO x y->h'.IsTupleIter i1 l1 (k+1)->h'.IsListIter i2 l2 (k+1)->IsPair h' s.heap.objs.size x y->h'.objs.size=s.heap.objs.size+1->
   (∀c o,c≠z->c≠TO->c≠i1->c≠i2->s.heap.get? c=some o->h'.get? c=some o)->Q (some (.ref s.heap.objs.size)) {s with heap:=h'}):
  wpAny (model prog w) A (pyNext (.ref z)) Q E s:=by
 have hT:s.TypeIs (.ref z) "zip":=⟨_,hz,rfl⟩;unfold pyNext;refine aY (wpAny_attempt (wbg (name:=Str.ofString "__next__") hT ZX (VH ZX hT F.entry_zip_next ?_ (F.args_zip_next_1 _))));show wpAny _ _ (field (.ref z) 2>>=_) _ _ _;refine aY (Ib hz rfl (x:= .bool false) rfl ?_);show wpAny _ _ (field (.ref z) 3>>=_) _ _ _;refine aY (Ib hz rfl (x:= .ref TI) rfl ?_);refine aY (RW hTI rfl ?_);show wpAny _ _ (Builtin.SmallTypes.ownedTupleIsFree (.ref z)>>=_) _ _ _;refine aY ?_;unfold Builtin.SmallTypes.ownedTupleIsFree;refine aY (Ib hz rfl (x:= .none) rfl (eU ?_));simp only[RQ];refine aY (wpAny_rule ?_);refine aY (Ib hz rfl (x:= .ref TO) rfl ?_);refine aY (WK hz (by simp) fun g1 hz1 r1=> ?_);replace hz1:IsZip g1 z TI TO .ellipsis:=hz1;refine aY ?_;simp only[List.zipIdx_cons,List.zipIdx_nil,wem,wew];refine aY (aY (wpAny_onRaise ?_));show wpAny _ _ (Builtin.SmallTypes.nextOf (.ref i1)>>=_) _ _ _;refine aY (tK (h1.at fun o e=>r1.extBut _ _ D.i1z e) (hl1.at fun o e=>r1.extBut _ _ D.l1z e) hx fun g2 h12 r2=>eU ?_);have o2:IsPair g2 TO a b:=r2.extBut _ _ D.TOi1 (r1.extBut _ _ D.TOz hTO);refine aY (RW o2 rfl ?_);refine aY (wpAny_updateSeq_pair o2 fun g3 o3 r3=> ?_);replace o3:IsPair g3 TO x b:=o3;refine aY (wpAny_letGo (eU ?_));refine aY (aY (wpAny_onRaise ?_));show wpAny _ _ (Builtin.SmallTypes.nextOf (.ref i2)>>=_) _ _ _;refine aY (wpAny_nextOf_list_item (((h2.extBut r1.extBut D.i2z).extBut r2.extBut D.i12.symm).extBut r3.extBut D.TOi2.symm)
  (((hl2.extBut r1.extBut D.l2z).extBut r2.extBut D.l2i1).extBut r3.extBut D.l2TO) hy fun g4 h24 r4=>eU ?_)
 have o4:IsPair g4 TO x b:=r4.extBut _ _ D.TOi2 o3;refine aY (RW o4 rfl ?_);refine aY (wpAny_updateSeq_pair o4 fun g5 o5 r5=> ?_);replace o5:IsPair g5 TO x y:=o5;refine aY (wpAny_letGo (eU (eU ?_)));refine aY (RW o5 rfl ?_);refine aY (wpAny_newTuple ?_);have hsz:g5.objs.size=s.heap.objs.size:=by rw[r5.1,r4.1,r3.1,r2.1,r1.1]
 have hz5:IsZip g5 z TI TO .ellipsis:=r5.extBut _ _ D.TOz.symm (r4.extBut _ _ D.i2z.symm (r3.extBut _ _ D.TOz.symm (r2.extBut _ _ D.i1z.symm hz1)));have hk5:∀c o,c≠z->c≠TO->c≠i1->c≠i2->s.heap.get? c=some o->g5.get? c=some o:=fun c o c1 c2 c3 c4 e=>
  r5.extBut _ _ c2 (r4.extBut _ _ c4 (r3.extBut _ _ c2 (r2.extBut _ _ c3 (r1.extBut _ _ c1 e))))
 have h15:g5.IsTupleIter i1 l1 (k+1):=h12.at fun o e=>r5.extBut _ _ D.TOi1.symm (r4.extBut _ _ D.i12 (r3.extBut _ _ D.TOi1.symm e));have h25:g5.IsListIter i2 l2 (k+1):=h24.extBut r5.extBut D.TOi2.symm;have hzlt:z<g5.objs.size:=fD hz5;show wpAny _ _ (Builtin.SmallTypes.ownedTupleHandOut (.ref z) (.ref g5.objs.size)>>=_) _ _ _;refine aY ?_;unfold Builtin.SmallTypes.ownedTupleHandOut;have hz6:IsZip (g5.push {cls:= .type "tuple",data:= .seq #[x,y]}) z TI TO .ellipsis:=eV _ hz5;refine aY (WK hz6 (by simp) fun g7 hz7 r7=> ?_);replace hz7:IsZip g7 z TI TO (rawInt g5.objs.size):=hz7;refine WK hz7 (by simp) fun g8 hz8 r8=> ?_;replace hz8:IsZip g8 z TI TO (rawInt g5.objs.size):=hz8;have up:∀c o,c≠z->g5.get? c=some o->g8.get? c=some o:=fun c o c1 e=>r8.extBut _ _ c1 (r7.extBut _ _ c1 (eV _ e));have hT8:IsPair g8 g5.objs.size x y:=r8.extBut _ _ (Nm hzlt) (r7.extBut _ _ (Nm hzlt) (nG _ rfl));have hs8:g8.objs.size=g5.objs.size+1:=by rw[r8.1,r7.1,Ar]
 rw[hsz]at hz8 hT8 hs8;refine eU ⟨_,rfl,eU ?_⟩;show Q (some (.ref g5.objs.size)) _;rw[hsz];exact hQ g8 hz8 (up _ _ D.TOz o5) (h15.at fun o e=>up _ o D.i1z e) (h25.at fun o e=>up _ o D.i2z e) hT8 hs8 fun c o c1 c2 c3 c4 e=>up c o c1 (hk5 c o c1 c2 c3 c4 e)
theorem Nb{z TI TO i1 i2 l1 l2:Addr}{k:Nat}{xs:Array ζ}{a b:ζ}{Q:Option ζ->η->Prop}(hh:A.handled=none)(D:ZipApart z TI TO i1 i2 l1 l2)(hz:IsZip s.heap z TI TO .none)(hTI:IsPair s.heap TI (.ref i1) (.ref i2))(hTO:IsPair s.heap TO a b)(h1:s.heap.IsTupleIter i1 l1 k)(hl1:s.heap.IsTuple l1 xs)(hx:xs[k]? =none)(hQ:∀h',(∀c o,c≠z->c≠TO->c≠i1->c≠i2->s.heap.get? c=some o->h'.get? c=some o)->Q none {s with heap:=h'}):wpAny (model prog w) A (pyNext (.ref z)) Q E s:=by
 have hT:s.TypeIs (.ref z) "zip":=⟨_,hz,rfl⟩;unfold pyNext;refine aY (wpAny_attempt (wbg (name:=Str.ofString "__next__") hT ZX (VH ZX hT F.entry_zip_next ?_ (F.args_zip_next_1 _))));show wpAny _ _ (field (.ref z) 2>>=_) _ _ _;refine aY (Ib hz rfl (x:= .bool false) rfl ?_);show wpAny _ _ (field (.ref z) 3>>=_) _ _ _;refine aY (Ib hz rfl (x:= .ref TI) rfl ?_);refine aY (RW hTI rfl ?_);show wpAny _ _ (Builtin.SmallTypes.ownedTupleIsFree (.ref z)>>=_) _ _ _;refine aY ?_;unfold Builtin.SmallTypes.ownedTupleIsFree;refine aY (Ib hz rfl (x:= .none) rfl (eU ?_));simp only[RQ];refine aY (wpAny_rule ?_);refine aY (Ib hz rfl (x:= .ref TO) rfl ?_);refine aY (WK hz (by simp) fun g1 hz1 r1=> ?_);replace hz1:IsZip g1 z TI TO .ellipsis:=hz1;refine aY ?_;simp only[List.zipIdx_cons,List.zipIdx_nil,wem,wew];refine aY (aY (wpAny_onRaise ?_));show wpAny _ _ (Builtin.SmallTypes.nextOf (.ref i1)>>=_) _ _ _;refine aY (jW hh (h1.at fun o e=>r1.extBut _ _ D.i1z e) (hl1.at fun o e=>r1.extBut _ _ D.l1z e) hx fun g2 e r2 he=> ?_);obtain⟨oe,hoe,hce⟩:=he;have hz2:IsZip g2 z TI TO .ellipsis:=r2 _ _ D.i1z.symm hz1;have hez:e≠z:=fun q=>by subst q;rw[hz2]at hoe;cases hoe;simp at hce
 refine WK hz2 (by simp) fun g3 _ r3=> ?_;refine aY (wpAny_isInstance (T:="StopIteration") (b:=true) ⟨oe,r3.extBut _ _ hez hoe,hce⟩ isSubtype_stop ?_);exact eU (hQ _ fun c o c1 _ c3 _ q=>r3.extBut _ _ c1 (r2 _ _ c3 (r1.extBut _ _ c1 q)))
end
noncomputable def Im(h:Heap)(l1:Addr):Heap:=h.push {cls:= .type "tuple_iterator",data:= .fields #[.ref l1,.int 0 0]}
noncomputable def Ga(h:Heap)(l1 l2:Addr):Heap:=(Im h l1).push {cls:= .type "list_iterator",data:= .fields #[.ref l2,.int 0 0]}
noncomputable def FZ(h:Heap)(l1 l2:Addr):Heap:=(Ga h l1 l2).push {cls:= .type "tuple",data:= .seq #[.ref h.objs.size,.ref (Im h l1).objs.size]}
noncomputable def FW(h:Heap)(l1 l2:Addr):Heap:=(FZ h l1 l2).push {cls:= .type "tuple",data:= .seq #[.none,.none]}
noncomputable def vV(h:Heap)(l1 l2:Addr):Heap:=(FW h l1 l2).push {cls:= .type "zip",data:= .fields #[.none,.bool false,.bool false,.ref (Ga h l1 l2).objs.size,.ref (FZ h l1 l2).objs.size]}
theorem uR(l1 l2:Addr)(xs ys:Array ζ):
  Meets (Builtin.«zip.__new__» ⟨[.type "zip",.ref l1,.ref l2],[]⟩) (fun _ R s=>s.heap.IsTuple l1 xs/\s.heap.IsList l2 ys/\
   R (.ok (.ret (.ref (FW s.heap l1 l2).objs.size))) {s with heap:=vV s.heap l1 l2}):=
 .of_wp fun prog w A R s h=>by
  obtain⟨hp,g,d,tk,os⟩:=s;obtain⟨hl1,hl2,h⟩:=h;have hsub:=sub_zip;have hL1:Heap.IsTuple (Shared.heap ⟨hp,g,d,tk,os⟩) l1 xs:=hl1;have hL2:Heap.IsList (Shared.heap ⟨hp.push {cls:= .type "tuple_iterator",data:= .fields #[.ref l1,.int 0 0]},g,d,tk,os⟩) l2 ys:=Heap.IsList.push hl2 _;unfold vV FW FZ Ga Im at h
  wp_walk using WL hL1,Wz hL2
  exact⟨_,rfl,h⟩
section
variable{prog:ξ}{w:τ}{A:Around}{E:L3}{s:η}
theorem Mi{l1 l2:Addr}{xs ys:Array ζ}{Q:L3}(hl1:s.heap.IsTuple l1 xs)(hl2:s.heap.IsList l2 ys)(h:∀h',IsZip h' (s.heap.objs.size+4) (s.heap.objs.size+2) (s.heap.objs.size+3) .none->IsPair h' (s.heap.objs.size+2) (.ref s.heap.objs.size) (.ref (s.heap.objs.size+1))->
   IsPair h' (s.heap.objs.size+3) .none .none->h'.IsTupleIter s.heap.objs.size l1 0->h'.IsListIter (s.heap.objs.size+1) l2 0->h'.objs.size=s.heap.objs.size+5->
   (∀c o,s.heap.get? c=some o->h'.get? c=some o)->Q (.ref (s.heap.objs.size+4)) {s with heap:=h'}):
  wpAny (model prog w) A (call (.type "zip") [.ref l1,.ref l2]) Q E s:=by
 refine callType_new F.called_zip (by decide) (F.typeCall_zip_2 _ _) (F.newCall_zip_2 _ _) (fun obj=>F.args_object_init_3 obj _ _) F.entry_zip_new (uR l1 l2 xs ys) ⟨hl1,hl2,?_⟩;have z1:(Im s.heap l1).objs.size=s.heap.objs.size+1:=Ar ..;have z2:(Ga s.heap l1 l2).objs.size=s.heap.objs.size+2:=by rw[Ga,Ar,z1]
 have z3:(FZ s.heap l1 l2).objs.size=s.heap.objs.size+3:=by rw[FZ,Ar,z2]
 have z4:(FW s.heap l1 l2).objs.size=s.heap.objs.size+4:=by rw[FW,Ar,z3]
 have z5:(vV s.heap l1 l2).objs.size=s.heap.objs.size+5:=by rw[vV,Ar,z4]
 have g5:(vV s.heap l1 l2).get? (FW s.heap l1 l2).objs.size=some _:=nG _ rfl;have g4:(vV s.heap l1 l2).get? (FZ s.heap l1 l2).objs.size=some _:=eV _ (nG _ rfl);have g3:(vV s.heap l1 l2).get? (Ga s.heap l1 l2).objs.size=some _:=eV _ (eV _ (nG _ rfl));have g2:(vV s.heap l1 l2).get? (Im s.heap l1).objs.size=some _:=eV _ (eV _ (eV _ (nG _ rfl)));have g1:(vV s.heap l1 l2).get? s.heap.objs.size=some _:=eV _ (eV _ (eV _ (eV _ (nG _ rfl))));show _/\_;rw[z2,z3,z4]at g5;rw[z1,z2]at g3;rw[z3]at g4;rw[z1]at g2;rw[z4];exact⟨⟨_,g5,rfl⟩,h _ g5 g3 g4 ⟨_,g1,rfl,rfl⟩ ⟨_,g2,rfl,rfl⟩ z5 fun c o x=>
  eV _ (eV _ (eV _ (eV _ (eV _ x))))⟩
end
end PySem
namespace L2
open PySem PySem.Spec PyProof.Rows
noncomputable def Itz(K:W.Frag)(a b:Addr)(xs ys:List V):It:=
 ⟨fun i H=>(SqT K H a xs/\SqL K H b ys)/\i<xs.length,fun i H x H'=>∃t v u,x= .ref t/\H t=none/\H'=upd H t (.tup [v,u])/\xs[i]? =some v/\ys[i]? =some u,fun i H=>(SqT K H a xs/\SqL K H b ys)/\i=xs.length⟩
theorem Je{P:ξ}{w:τ}{K:W.Frag}{es:List Expr}{k:Nat}{pos:Pos}(a b z TI TO i1 i2:Addr)(xs ys:List V)(D:ZipApart z TI TO i1 i2 a b)(hlen:xs.length=ys.length):
  Turn P w K (.Tuple es k pos) (Itz K a b xs ys) [z,TI,TO,i1,i2] z (fun i h=>IsZip h z TI TO .none/\IsPair h TI (.ref i1) (.ref i2)/\(∃p q,IsPair h TO p q)/\h.IsTupleIter i1 a i/\h.IsListIter i2 b i) where
 mem:=by simp
 obj:=fun i h st c hc=>by
  obtain⟨s1,s2,⟨p,q,s3⟩,⟨o4,e4,c4,d4⟩,⟨o5,e5,c5,d5⟩⟩:=st;simp only[cW,wef,or_false]at hc;rcases hc with rfl|rfl|rfl|rfl|rfl
  ·exact⟨_,s1,fun v y=>by cases y⟩
  ·exact⟨_,s2,fun v y=>by cases y⟩
  ·exact⟨_,s3,fun v y=>by cases y⟩
  ·exact⟨o4,e4,fun v y=>by rw[d4]at y;cases y⟩
  ·exact⟨o5,e5,fun v y=>by rw[d5]at y;cases y⟩
 keep:=fun i h h' st k=>by
  obtain⟨s1,s2,⟨p,q,s3⟩,s4,s5⟩:=st;exact⟨k z (by simp) _ s1,k TI (by simp) _ s2,⟨p,q,k TO (by simp) _ s3⟩,s4.at fun o e=>k i1 (by simp) o e,s5.at fun o e=>k i2 (by simp) o e⟩
 item:=by
  intro X hP hw hK hc i pins s σ H E I hf st hg;subst hP hw hK;obtain⟨⟨hq1,hq2⟩,hi⟩:=hg;obtain⟨K3,rv1,p1,hz1⟩:=I.tuple hq1;obtain⟨its2,rv2,p2,hz2⟩:=I.list hq2;have hx:xs[i]? =some xs[i]:=eO hi;have hi2:i<ys.length:=by omega
  have hy:ys[i]? =some ys[i]:=eO hi2;obtain⟨u1,hu1,ru1⟩:=rv1.get hx;obtain⟨u2,hu2,ru2⟩:=rv2.get hy;obtain⟨s1,s2,⟨p,q,s3⟩,s4,s5⟩:=st;have pt:s.heap.IsTuple a K3.toArray:=p1;refine Il D s1 s2 s3 s4 s5 pt p2.isList (x:=u1) (y:=u2) (by simpa using hu1) (by simpa using hu2) fun h1 ho hTO hit1 hit2 hT hsz hk=>⟨_,rfl,?_⟩;refine wpAny_letOwnedTupleGo_zip ho fun h2 aay hs2=> ?_;have oM:Heap.SameBut z h1 h2:=hs2;have nT:∀c o,s.heap.get? c=some o->s.heap.objs.size≠c:=fun c o e y=>absurd (fD e) (by rw[<-y];exact rD _);obtain⟨o4,e4,_⟩:=id s4;obtain⟨o5,e5,_⟩:=id s5;have keep:∀c o,c∉[z,TI,TO,i1,i2]->s.heap.get? c=some o->h2.get? c=some o:=fun c o hc q=>(oM.2 c fun y=>hc (by simp[y])).trans (hk c o (fun y=>hc (by simp[y])) (fun y=>hc (by simp[y])) (fun y=>hc (by simp[y])) (fun y=>hc (by simp[y])) q);have hT2:h2.get? s.heap.objs.size=some {cls:= .type "tuple",data:= .seq #[u1,u2]}:=(oM.2 _ (nT _ _ s1)).trans hT;have I2:=I.pQ (h':=h2) (t':=s.toks) (o:= .tup [xs[i],ys[i]]) keep hf (aR _) ⟨(by show 2<=sizeLine;decide),[u1,u2],.cons ru1 (.cons ru2 .nil),_,hT2,rfl,_,rfl⟩;have k2:IsPair h2 TI (.ref i1) (.ref i2):=(oM.2 TI D.TIz).trans (hk TI _ D.TIz D.TITO D.TIi1 D.TIi2 s2);refine⟨.ref s.heap.objs.size,_,I2,rfl,⟨_,_,_,rfl,I.hok.fresh (aR _),rfl,hx,hy⟩,⟨aay,k2,⟨_,_,(oM.2 TO D.TOz).trans hTO⟩,hit1.at fun o q=>(oM.2 i1 D.i1z).trans q,hit2.at fun o q=>(oM.2 i2 D.i2z).trans q⟩,fun c hc=> ?_⟩;rw[cP (fun y=> ?_)]
  ·exact(hf c hc).1
  ·simp only[cW,wef,or_false]at hc;rcases hc with h|h|h|h|h
   ·exact nT _ _ s1 (y.symm.trans h)
   ·exact nT _ _ s2 (y.symm.trans h)
   ·exact nT _ _ s3 (y.symm.trans h)
   ·exact nT _ _ e4 (y.symm.trans h)
   ·exact nT _ _ e5 (y.symm.trans h)
 done:=by
  intro X hP hw hK hc i pins s σ H E I hf st hg;subst hP hw hK;obtain⟨⟨hq1,hq2⟩,hi⟩:=hg;obtain⟨K3,rv1,p1,hz1⟩:=I.tuple hq1;have hl:=rv1.length;obtain⟨s1,s2,⟨p,q,s3⟩,s4,s5⟩:=st;have pt:s.heap.IsTuple a K3.toArray:=p1;exact Nb (I.ok.hd hc) D s1 s2 s3 s4 pt (by simp;omega) fun h' eb=>⟨rfl,I.turns (t':=s.toks) (fp:=[z,TI,TO,i1,i2]) (fun c o hc q=>eb c o (fun y=>hc (by simp[y])) (fun y=>hc (by simp[y])) (fun y=>hc (by simp[y])) (fun y=>hc (by simp[y])) q) hf⟩
 self:=fun _ _ _ _ _ st h=>wpAny_pyIter_zip st.1 h
section
variable{X:Cx}{es:List Expr}{k:Nat}{J6:Pos}
noncomputable def aax(K:W.Frag)(ta:TA):TI:=fun σ H R=>ta σ H fun vs H1=>∃(a b:Addr) (xs ys:List V),vs=[.ref a,.ref b]/\SqT K H1 a xs/\SqL K H1 b ys/\xs.length=ys.length/\(xs.length<=sizeLine->R (Itz K a b xs ys) H1)
theorem Td{a b:Expr}{ta:TA}{p pos:Pos}(hg:Gl X "zip")(hm:X.mg "zip"=none)(ha:PA X [a,b] ta)(hs:starEach [a,b] X.env=[(false,eval a X.env),(false,eval b X.env)]:=by rfl)(hs3:starEach [b] X.env=[(false,eval b X.env)]:=by rfl):
  PI X (.Tuple es k J6) (.Call (.Name "zip" p) [a,b] [] pos) (aax X.K ta):=by
 intro pins s σ H R I h;refine Call_ (ld_blt I hg hm (show bootBuiltins "zip"=some (.type "zip")from by decide+kernel) (IV (thn (ha pos pins s σ H _ I h) fun us s1 ⟨vs,H1,I1,r1,q1⟩=> ?_) (by rw[hs,hs3]) (by rw[hs3];rfl)));obtain⟨l1,l2,xs,ys,e,hq1,hq2,hlen,q⟩:=q1;subst e;cases r1 with
 |cons r rr=>
  cases rr with
  |cons r' rr'=>
  cases rr';cases r;cases r';obtain⟨K3,rv1,p1,hz1⟩:=I1.tuple hq1;obtain⟨its2,rv2,p2,hz2⟩:=I1.list hq2;have pt:s1.heap.IsTuple l1 K3.toArray:=p1;have a1:l1<s1.heap.objs.size:=by obtain⟨_,e,_⟩:=id pt;exact fD e
  have a2:l2<s1.heap.objs.size:=by obtain⟨_,e,_⟩:=id p2.isList;exact fD e
  refine Mi pt p2.isList fun h' hz hTI hTO hi1 hi2 hsz hk=> ?_;refine wpAny_pyIter_zip hz ?_;have I2:Inv X pins σ H1 {s1 with heap:=h'}:=I1.kept (t':=s1.toks) hk;refine⟨s1.heap.objs.size+4,[s1.heap.objs.size+4,s1.heap.objs.size+2,s1.heap.objs.size+3,s1.heap.objs.size,s1.heap.objs.size+1],_,_,H1,rfl,I2,Je l1 l2 _ _ _ _ _ xs ys (zipApart_new a1 a2) hlen,⟨hz,hTI,⟨_,_,hTO⟩,hi1,hi2⟩,fun c hc=> ?_,q hz1⟩;have hle:s1.heap.objs.size<=c:=by
   simp only[cW,wef,or_false]at hc;rcases hc with h|h|h|h|h
   ·rw[h];exact Vv _ _
   ·rw[h];exact Vv _ _
   ·rw[h];exact Vv _ _
   ·rw[h];exact aR _
   ·rw[h];exact Vv _ _
  exact I1.fpOk hle (I1.hok.fresh hle)
end
section
variable{ini:St}{H:Hp}{g:TG}{tc:TT}{te:TE}{Fin:List V->Hp->Prop}{K:W.Frag}{a b:Addr}{xs ys:List V}
theorem Mg(Pv:Nat->List V->St->Hp->Prop)(h0:Pv 0 [] ini H)(hl:∀(i:Nat) acc σ H,i<=xs.length->Pv i acc σ H->SqT K H a xs/\SqL K H b ys)(hlen:xs.length=ys.length)(hz:∀(i:Nat) acc σ H,i<=xs.length->Pv i acc σ H->acc.length<=i)(hx:xs.length<=sizeLine)(hs:∀(i:Nat) v u t acc σ H,xs[i]? =some v->ys[i]? =some u->Pv i acc σ H->H t=none->g (.ref t) σ (upd H t (.tup [v,u])) fun σ2 H2=>tc σ2 H2 fun b H3=>if b=true then te σ2 H3 fun v H4=>Pv (i+1) (acc++[v]) σ2 H4 else Pv (i+1) acc σ2 H3)(hd:∀acc σ H,Pv xs.length acc σ H->Fin acc H):vU (Itz K a b xs ys) ini H g tc te Fin:=by
 refine⟨fun i m acc σ H=>m=xs.length-i/\i<=xs.length/\Pv i acc σ H,⟨xs.length,by simp,dX _,h0⟩,?_⟩;rintro i m acc σ H ⟨rfl,hi,p⟩;have q:=hl i acc σ H hi p;have z:=hz i acc σ H hi p;by_cases hlt:i<xs.length
 ·refine .inr ⟨⟨q,hlt⟩,by omega,fun acc σ H=>Pv (i+1) acc σ H,fun acc' σ' H' r=>⟨_,by omega,rfl,hlt,r⟩,fun x H' y=> ?_⟩;obtain⟨t,v,u,rfl,ht,rfl,hv,hu⟩:=y;exact hs i v u t acc σ H hv hu p ht
 ·have e:i=xs.length:=by omega
  subst e;exact .inl ⟨⟨q,rfl⟩,by omega,hd acc σ H p⟩
end
end L2
namespace Hs
open PySem L2 o9
noncomputable def top(i:Nat):Stmt:=PySem.Challenge.pw_hueshare_k53_whole_comes_and_goes.main.body.getD i (.Pass ⟨0,0,0,0⟩)
noncomputable abbrev Vm:Stmt:=top 9
noncomputable abbrev jg:Stmt:=top 10
noncomputable abbrev ji:Stmt:=top 11
noncomputable abbrev Vn:Stmt:=top 12
noncomputable abbrev jQ:Stmt:=top 13
noncomputable abbrev mJ:Stmt:=top 14
noncomputable abbrev sW:Stmt:=top 15
noncomputable abbrev Nj:Stmt:=top 16
noncomputable abbrev jc:Stmt:=top 17
noncomputable abbrev iZ:Stmt:=top 18
noncomputable abbrev mq:Stmt:=top 19
noncomputable abbrev wA:Stmt:=top 20
noncomputable abbrev fH:Stmt:=top 21
noncomputable abbrev Zt:Stmt:=top 24
noncomputable abbrev fL:Stmt:=top 25
noncomputable abbrev Bu:Stmt:=top 26
noncomputable abbrev Rv:Stmt:=top 27
noncomputable abbrev Zk:Stmt:=top 28
noncomputable abbrev iB:Stmt:=top 29
noncomputable abbrev jd:Stmt:=top 31
noncomputable abbrev mH:Stmt:=top 32
noncomputable abbrev zdj:Stmt:=top 34
noncomputable abbrev zdh:Stmt:=top 35
noncomputable abbrev pW:Stmt:=top 36
noncomputable abbrev jU:Stmt:=top 37
noncomputable abbrev fG:Stmt:=top 38
noncomputable abbrev fV:Stmt:=inClass (top 41) 0
noncomputable abbrev zbs:Stmt:=inClass (top 41) 1
noncomputable abbrev zbx:Stmt:=inClass (top 41) 2
noncomputable abbrev zck:Stmt:=inClass (top 41) 3
noncomputable abbrev zcx:Stmt:=inClass (top 41) 4
noncomputable abbrev fU:Stmt:=inClass (top 41) 5
noncomputable abbrev zdk:Stmt:=inClass (top 41) 6
noncomputable abbrev Wh:Stmt:=inClass (top 41) 7
noncomputable abbrev zcj:Stmt:=inClass (top 41) 8
noncomputable abbrev zci:Stmt:=inClass (top 41) 9
noncomputable abbrev Wd:Stmt:=top 42
noncomputable abbrev jN:Stmt:=top 43
noncomputable abbrev wz:Stmt:=top 44
noncomputable abbrev mF:Stmt:=top 45
noncomputable abbrev jR:Stmt:=top 46
noncomputable abbrev Bv:Stmt:=top 47
noncomputable abbrev gG:Stmt:=top 48
noncomputable abbrev jO:Stmt:=top 49
noncomputable abbrev jh:Stmt:=top 50
noncomputable abbrev iY:Stmt:=top 52
noncomputable abbrev gU:Stmt:=top 53
noncomputable abbrev Wg:Stmt:=top 54
noncomputable abbrev gW:Stmt:=top 55
noncomputable abbrev oh:Stmt:=top 56
noncomputable abbrev fW:Stmt:=inClass (top 57) 0
noncomputable abbrev Zm:Stmt:=inClass (top 57) 1
noncomputable abbrev Vp:Stmt:=inClass (top 57) 2
noncomputable abbrev Zr:Stmt:=inClass (top 57) 3
noncomputable abbrev Zj:Stmt:=inClass (top 57) 4
noncomputable abbrev gZ:Stmt:=inClass (top 57) 5
noncomputable abbrev zdl:Stmt:=inClass (top 57) 6
noncomputable abbrev fX:Stmt:=inClass (top 57) 7
noncomputable abbrev gY:Stmt:=inClass (top 57) 8
noncomputable abbrev Zn:Stmt:=inClass (top 57) 9
noncomputable abbrev zcz:Stmt:=inClass (top 57) 10
noncomputable abbrev zcy:Stmt:=inClass (top 57) 11
noncomputable abbrev eY:Stmt:=inClass (top 57) 12
noncomputable abbrev je:Stmt:=top 59
noncomputable abbrev Vo:Stmt:=top 60
noncomputable abbrev fM:Stmt:=top 61
noncomputable abbrev jP:Stmt:=top 62
noncomputable abbrev jf:Stmt:=top 63
noncomputable abbrev mD:Stmt:=top 64
noncomputable abbrev fQ:Stmt:=top 65
noncomputable abbrev fO:Stmt:=top 66
noncomputable abbrev gR:Stmt:=top 67
noncomputable abbrev qH:Stmt:=top 68
section
variable{P:ξ}{w:τ}{K:W.Frag}{mg:L4}{base:Heap}
noncomputable def nQ(K:W.Frag):Sp:=fun vs H Q _=>∃x d,vs=[x]/\DX K H x d/\Q (.bl (fK d)) H
theorem Kc{f:Addr}{fd:ρ}(F:Fun K "is_whole" "is_whole" Vm f fd)(mi:mg "isinstance"=none)(mI:mg "int"=none)(mB:mg "bool"=none):FnOk P w K mg base CX0 1 f fd ["thing"] (nQ K):=by
 refine F.cG ["thing"] fun cdv A outer s H vs Q E hr h=> ?_;obtain⟨x,d,rfl,hx,q⟩:=h;refine⟨_,aX (bM (pe_and (pB Mz mi (aj (pv 0) (aj (pN "int" mI) ak)))
  (pe_one (pe_not (pB Mz mi (aj (pv 0) (aj (pN "bool" mB) ak))))))),?_⟩
 refine⟨_,rfl,x,_,_,rfl,hx.kind,.inl rfl,_,rfl,?_⟩;refine ite2 (fun c=> ?_) (fun c=> ?_)
 ·refine⟨_,rfl,x,_,_,rfl,hx.kind,.inr (.inl rfl),_,rfl,?_⟩;cases d<;>first |exact q|(simp[wV,jX]at c;done)
 ·cases d<;>first |exact q|(exfalso;exact c rfl)
noncomputable def wj(K:W.Frag):Sp:=fun vs H Q _=>∃(n:Int) (x:V) (d:θ),vs=[.int n,x]/\DX K H x d/\Q (.bl (bQ n d)) H
theorem Km{f g:Addr}{fd gd:ρ}(F:Fun K "is_place" "is_place" jg f fd)(D:bJ K mg "is_whole" Vm ["thing"] g gd)(G:FnOk P w K mg base CX0 1 g gd ["thing"] (nQ K)):FnOk P w K mg base CX0 2 f fd ["n","thing"] (wj K):=by
 refine F.cG ["n","thing"] fun cdv A outer s H vs Q E hr h=> ?_;obtain⟨n,x,d,rfl,hx,q⟩:=h;refine⟨_,aX (bM (pe_and (pe_call G hr rfl D.m D.F.kp D.b .nil pass0 (aj (pv 1) ak)) (pe_one (pe_chain op_le op_lt aB (pv 1) (pv 0))))),?_⟩;refine⟨_,rfl,x,d,rfl,hx,_,rfl,?_⟩;refine ite2 (fun c=> ?_) (fun c=> ?_)
 ·cases hx with
  |int i=>
   refine⟨_,rfl,_,_,rfl,rfl,_,rfl,?_⟩;refine ite2 (fun c2=> ?_) (fun c2=> ?_)
   ·refine⟨_,rfl,_,_,rfl,rfl,?_⟩;have e:bQ n (.int i)=decide (i<n):=by show(decide (0<=i)&&decide (i<n))=_;rw[c2];rfl
    rw[e]at q;exact q
   ·have e:bQ n (.int i)=false:=by show(decide (0<=i)&&decide (i<n))=_;rw[Bool.eq_false_iff.mpr c2];rfl
    rw[e]at q;exact q
  |_=>simp[fK]at c
 ·have e:bQ n d=false:=by
   cases d<;>first |rfl|(exfalso;exact c rfl)
  rw[e]at q;exact q
noncomputable def yD(K:W.Frag):Sp:=fun vs H Q _=>∃(n:Int) (a:Addr) (xs:List V) (ds:List θ),vs=[.int n,.ref a]/\SqT K H a xs/\lN K H xs ds/\∀H',Same H H'->Q (.bl (ds.all (bQ n))) H'
theorem gn{α:Type}(ds:List α)(p:α->Bool):(ds.map p).all id=ds.all p:=by rw[Vr];rfl
theorem Hh{f g:Addr}{fd gd:ρ}(F:Fun K "are_places" "are_places" ji f fd)(D:bJ K mg "is_place" jg ["n","thing"] g gd)(G:FnOk P w K mg base CX0 2 g gd ["n","thing"] (wj K))(mA:mg "all"=none):FnOk P w K mg base CX0 3 f fd ["n","things"] (yD K):=by
 refine F.cG ["n","things"] fun cdv A outer s H vs Q E hr h=> ?_;obtain⟨n,a,xs,ds,rfl,hS,hd,q⟩:=h;refine⟨_,aX (bM (pB (eG rfl) mA (aj (pK ["thing"] ["n"] [0] (Aj (pv 1)) (pG 0) pD (pe_call G hr rfl D.m D.F.kp D.b .nil pass0 (aj (pv 1) (aj (pv 0) ak)))) ak))),?_⟩;refine⟨_,rfl,a,xs,rfl,hS,fun hz=> ?_⟩;have hl:=hd.len;refine Al (xs:=xs) (fun i acc σ H'=>acc=((ds.take i).map (bQ n)).map V.bl/\Same H H'/\∃o,σ=[o,some (.int n)]) ⟨rfl,Same.refl _,_,rfl⟩ (fun i acc σ H' _ p=>p.2.1.tup hS) (fun i acc σ H' hi p=> ?_) hz (fun i x acc σ H' hx p=> ?_) (fun acc σ H' p=> ?_)
 ·rw[p.1];simp;omega
 ·obtain⟨rfl,sm,o,rfl⟩:=p;obtain⟨d,e1,e2⟩:=hd.get hx;refine⟨_,rfl,_,rfl,n,x,d,rfl,DX.same sm e2,?_,sm,_,rfl⟩;rw[vX,e1];simp
 ·intro p1 hp1;obtain⟨rfl,sm,_⟩:=p;refine⟨p1,(ds.map (bQ n)),rfl,SqL.of (by rw[aA,hl,rW]),?_⟩;rw[gn];exact q _ (sm.trans (aK hp1 _))
noncomputable def Vi(K:W.Frag)(H:Hp)(x y:V)(b:Bool):Prop:=(∃i j,x= .int i/\y= .int j/\b=decide (i<j))\/(∃p q ns ms,x= .ref p/\y= .ref q/\SqT K H p (ns.map V.int)/\SqT K H q (ms.map V.int)/\b=HT.lexLt ns ms)
noncomputable def sJ(K:W.Frag):Sp:=fun vs H Q _=>∃(a:Addr) (xs:List V) (bs:Nat->Bool),vs=[.ref a]/\SqT K H a xs/\(∀k,k+1<xs.length->∃x y,xs[k]? =some x/\xs[k+1]? =some y/\Vi K H x y (bs k))/\
 ∀H',Same H H'->Q (.bl ((List.range (xs.length-1)).all bs)) H'
theorem Hg{f:Addr}{fd:ρ}(F:Fun K "is_rising" "is_rising" Vn f fd)(mA:mg "all"=none)(mR:mg "range"=none)(mL:mg "len"=none):FnOk P w K mg base CX0 1 f fd ["things"] (sJ K):=by
 refine F.cG ["things"] fun cdv A outer s H vs Q E hr h=> ?_;obtain⟨a,xs,bs,rfl,hS,hb,q⟩:=h;refine⟨_,aX (bM (pB (eG rfl) mA (aj (pK ["k"] ["things"] [0] (pi_range2 rfl mR (aj aB (aj (pB vg mL (aj (pv 0) ak)) ak))) (pG 0) pD (Gb (op_lt.or (Eu K hr.units0)) (aP (Ah K) (pv 1) (bK op_sub (pv 0) aB)) (aP (Ah K) (pv 1) (pv 0)))) ak))),?_⟩;refine⟨_,rfl,a,xs,rfl,.inr hS,fun hz=>⟨1,_,rfl,⟨by omega,by omega,by omega,by omega⟩,?_⟩⟩;have en:((xs.length:Int)-1).toNat=xs.length-1:=by omega
 rw[en];refine Qy (fun i acc σ H'=>acc=((List.range i).map bs).map V.bl/\Same H H'/\∃o,σ=[o,some (.ref a)]) ⟨rfl,Same.refl _,_,rfl⟩ (fun i acc σ H' hi p=>by rw[p.1];simp) (by rw[iz];omega) (fun i acc σ H' hi p=> ?_) (fun acc σ H' p=> ?_)
 ·obtain⟨rfl,sm,o,rfl⟩:=p;obtain⟨x,y,hx,hy,hxy⟩:=hb i (by omega);have e1:(1+(i:Int))-1=((i:Nat):Int):=by omega
  have e2:(1+(i:Int))=((i+1:Nat):Int):=by omega
  have a1:atI xs (1+(i:Int)-1)=some x:=by rw[e1];exact HN hx
  have a2:atI xs (1+(i:Int))=some y:=by rw[e2];exact HN hy
  refine⟨_,rfl,_,rfl,_,_,rfl,rfl,a,xs,_,x,rfl,rfl,sm.tup hS,a1,_,rfl,_,rfl,a,xs,_,y,rfl,rfl,sm.tup hS,a2,?_⟩;have ea:((List.range i).map bs).map V.bl++[V.bl (bs i)]=((List.range (i+1)).map bs).map V.bl:=by rw[yh];simp
  rcases hxy with⟨u,v,rfl,rfl,e⟩|⟨p,p',ns,ms,rfl,rfl,h1,h2,e⟩
  ·refine .inl ⟨u,v,rfl,rfl,?_,sm,_,rfl⟩;show _++[V.bl (decide (u<v))]=_;rw[<-e];exact ea
  ·refine .inr ⟨p,p',ns,ms,rfl,rfl,sm.tup h1,sm.tup h2,?_,sm,_,rfl⟩;show _++[V.bl (HT.lexLt ns ms)]=_;rw[<-e];exact ea
 ·intro p1 hp1;obtain⟨rfl,sm,_⟩:=p;refine⟨p1,(List.range (xs.length-1)).map bs,rfl,SqL.of aA,?_⟩;rw[gn];exact q _ (sm.trans (aK hp1 _))
theorem ints_of{H:Hp}{n:Int}{xs:List V}{ds:List θ}(h:lN K H xs ds)(hp:ds.all (bQ n)=true):xs=(ds.map intD).map V.int:=by
 induction ds generalizing xs with
 |nil=>cases h;rfl
 |cons d ds ih=>
  rw[ZQ,lZ]at hp;cases h with
  |cons h t=>
   obtain⟨i,rfl,_⟩:=tH hp.1;cases h;rw[yg,yg,<-ih t hp.2];rfl
theorem Gw{H:Hp}(ns:List Int):∀k,k+1<(ns.map V.int).length->∃x y,(ns.map V.int)[k]? =some x/\(ns.map V.int)[k+1]? =some y/\Vi K H x y (decide (ns.getD k 0<ns.getD (k+1) 0)):=fun k hk=>by
 rw[aH]at hk;have h1:k<ns.length:=by omega
 refine⟨.int (ns.getD k 0),.int (ns.getD (k+1) 0),by simp[h1],by simp[hk],.inl ⟨_,_,rfl,rfl,rfl⟩⟩
noncomputable def DY(K:W.Frag):Sp:=fun vs H Q _=>∃(n:Int) (x:V) (d:θ),vs=[.int n,x]/\DX K H x d/\∀H',Same H H'->Q (.bl (gD n d)) H'
theorem Tz{f f1 f2:Addr}{fd d1 d2:ρ}(F:Fun K "is_set" "is_set" jQ f fd)(D1:bJ K mg "are_places" ji ["n","things"] f1 d1)(G1:FnOk P w K mg base CX0 3 f1 d1 ["n","things"] (yD K))(D2:bJ K mg "is_rising" Vn ["things"] f2 d2)(G2:FnOk P w K mg base CX0 1 f2 d2 ["things"] (sJ K))(mi:mg "isinstance"=none)(mT:mg "tuple"=none):FnOk P w K mg base CX0 4 f fd ["n","thing"] (DY K):=by
 refine F.cG ["n","thing"] fun cdv A outer s H vs Q E hr h=> ?_;obtain⟨n,x,d,rfl,hx,q⟩:=h;refine⟨_,aX (bM (pe_and (pB Mz mi (aj (pv 1) (aj (pN "tuple" mT) ak)))
  (pe_and (pc G1 hr D1 (aj (pv 0) (aj (pv 1) ak))) (pe_one (pc G2 hr D2 (aj (pv 1) ak)))))),?_⟩
 refine⟨_,rfl,x,_,_,rfl,hx.kind,.inr (.inr (.inl rfl)),_,rfl,?_⟩;refine ite2 (fun c=> ?_) (fun c=> ?_)
 ·cases hx with
  | @tup a xs ds h t=>
   refine⟨_,rfl,_,rfl,n,a,xs,ds,rfl,h,t,fun H1 sm=>⟨_,rfl,?_⟩⟩;refine ite2 (fun c2=> ?_) (fun c2=> ?_)
   ·have ex:=ints_of t c2;refine⟨_,rfl,a,xs,fun k=>decide ((ds.map intD).getD k 0<(ds.map intD).getD (k+1) 0),rfl,sm.tup h,?_,fun H2 sm2=> ?_⟩
    ·rw[ex];exact Gw _
    ·have e:gD n (.tuple ds)=(List.range (xs.length-1)).all fun k=>decide ((ds.map intD).getD k 0<(ds.map intD).getD (k+1) 0):=by
      show(ds.all (bQ n)&&fj (ds.map intD))=_;rw[c2,t.len];show fj (ds.map intD)=_;unfold fj;rw[aH]
     have:=q H2 (sm.trans sm2);rw[e]at this;exact this
   ·have e:gD n (.tuple ds)=false:=by
     show(ds.all (bQ n)&&fj (ds.map intD))=_;rw[Bool.eq_false_iff.mpr c2];rfl
    have:=q H1 sm;rw[e]at this;exact this
  |_=>simp[wV,jX]at c
 ·have e:gD n d=false:=by
   cases d<;>first |rfl|(exfalso;exact c rfl)
  have:=q H (Same.refl _);rw[e]at this;exact this
noncomputable def Jq(K:W.Frag):Sp:=fun vs H Q _=>∃(n:Int) (x:V) (d:θ),vs=[.int n,x]/\DX K H x d/\∀H',Same H H'->Q (.bl (nP n d)) H'
theorem DN{H:Hp}{n:Int}{x:V}{d:θ}(h:DX K H x d)(ht:mj n d=true):∃p,x= .ref p/\SqT K H p (((kids d).map intD).map V.int):=by
 cases h with
 | @tup a xs ds h t=>
  have q:(ds.all (bQ n)&&fj (ds.map intD)&&decide (ds.length=2))=true:=ht;rw[lZ,lZ]at q;exact⟨a,rfl,by rw[ints_of t q.1.1]at h;exact h⟩
 |_=>simp[mj,gD]at ht
theorem Gv{H:Hp}{n:Int}{xs:List V}{ds:List θ}(t:lN K H xs ds)(ha:ds.all (mj n)=true):∀k,k+1<xs.length->∃x y,xs[k]? =some x/\xs[k+1]? =some y/\
  Vi K H x y (HT.lexLt ((ds.map fun t=>(kids t).map intD).getD k []) ((ds.map fun t=>(kids t).map intD).getD (k+1) [])):=fun k hk=>by
 have hl:=t.len;have h1:k<xs.length:=by omega
 obtain⟨d1,e1,x1⟩:=t.get (i:=k) (x:=xs[k]) (by simp[h1]);obtain⟨d2,e2,x2⟩:=t.get (i:=k+1) (x:=xs[k+1]) (by simp[hk]);have m1:=pH.mp ha d1 (qQ e1);have m2:=pH.mp ha d2 (qQ e2);obtain⟨p1,q1,s1⟩:=DN x1 m1;obtain⟨p2,q2,s2⟩:=DN x2 m2;refine⟨xs[k],xs[k+1],by simp[h1],by simp[hk],.inr ⟨p1,p2,_,_,q1,q2,s1,s2,?_⟩⟩;have g1:(ds.map fun t=>(kids t).map intD).getD k []=(kids d1).map intD:=by rw[iR,dY,e1];rfl
 have g2:(ds.map fun t=>(kids t).map intD).getD (k+1) []=(kids d2).map intD:=by rw[iR,dY,e2];rfl
 rw[g1,g2]
theorem Oi{f f1 f2:Addr}{fd d1 d2:ρ}(F:Fun K "are_ties" "are_ties" mJ f fd)(D1:bJ K mg "is_set" jQ ["n","thing"] f1 d1)(G1:FnOk P w K mg base CX0 4 f1 d1 ["n","thing"] (DY K))(D2:bJ K mg "is_rising" Vn ["things"] f2 d2)(G2:FnOk P w K mg base CX0 1 f2 d2 ["things"] (sJ K))(mi:mg "isinstance"=none)(mT:mg "tuple"=none)(mA:mg "all"=none)(mL:mg "len"=none):FnOk P w K mg base CX0 5 f fd ["n","thing"] (Jq K):=by
 refine F.cG ["n","thing"] fun cdv A outer s H vs Q E hr h=> ?_;obtain⟨n,x,d,rfl,hx,q⟩:=h;refine⟨_,aM (fJ (pI (nJ (pB Mz mi (aj (pv 1) (aj (pN "tuple" mT) ak))))) (aX (bM pe_bl)) gC) (aX (bM (pe_and (pB (eG rfl) mA (aj (pK ["tie"] ["n"] [0] (Aj (pv 1)) (pG 0) pD (pe_and (pc G1 hr D1 (aj (pv 1) (aj (pv 0) ak))) (pe_one (Gb op_eq (pB (Hz K) mL (aj (pv 0) ak)) aB)))) ak))
  (pe_one (pc G2 hr D2 (aj (pv 1) ak)))))),?_⟩
 refine⟨_,rfl,x,_,_,rfl,hx.kind,.inr (.inr (.inl rfl)),_,rfl,?_⟩;refine ite2 (fun c=> ?_) (fun c=> ?_)
 ·have e:nP n d=false:=by
   cases d<;>first |rfl|(exfalso;simp[wV,jX]at c;done)
  have:=q H (Same.refl _);rw[e]at this;exact this
 ·cases hx with
  | @tup a xs ds h t=>
   refine⟨_,rfl,a,xs,rfl,h,fun hz=> ?_⟩;have hl:=t.len;refine Al (xs:=xs) (fun i acc σ H'=>acc=((ds.take i).map (mj n)).map V.bl/\Same H H'/\∃o,σ=[o,some (.int n)]) ⟨rfl,Same.refl _,_,rfl⟩ (fun i acc σ H' _ p=>p.2.1.tup h) (fun i acc σ H' hi p=> ?_) hz (fun i x acc σ H' hx p=> ?_) (fun acc σ H' p=> ?_)
   ·rw[p.1];simp;omega
   ·obtain⟨rfl,sm,o,rfl⟩:=p;obtain⟨d,e1,e2⟩:=t.get hx;refine⟨_,rfl,_,rfl,n,x,d,rfl,DX.same sm e2,fun H1 sm1=>⟨_,rfl,?_⟩⟩;have ea:∀b,b=mj n d->((ds.take i).map (mj n)).map V.bl++[V.bl b]=((ds.take (i+1)).map (mj n)).map V.bl:=fun b hb=>by
     rw[vX,e1,hb];simp
    refine ite2 (fun c2=> ?_) (fun c2=> ?_)
    ·cases e2 with
     | @tup a2 xs2 ds2 h2 t2=>
      refine⟨_,rfl,a2,xs2,rfl,.inr (sm1.tup (sm.tup h2)),fun hz2=>⟨rfl,ea _ ?_,sm.trans sm1,_,rfl⟩⟩;show decide (V.int (xs2.length:Int)=V.int 2)=(gD n (.tuple ds2)&&decide (ds2.length=2));rw[c2,t2.len];by_cases e3:ds2.length=2
      ·rw[e3];rfl
      ·rw[jK e3,jK (by intro z;injection z with z;exact e3 (by omega))];rfl
     |_=>simp[gD]at c2
    ·refine⟨ea _ ?_,sm.trans sm1,_,rfl⟩;show false=(gD n d&&decide ((kids d).length=2));rw[Bool.eq_false_iff.mpr c2];rfl
   ·intro p1 hp1;obtain⟨rfl,sm,_⟩:=p;have sm':Same H (upd H' p1 (.lst (((ds.take xs.length).map (mj n)).map V.bl))):=sm.trans (aK hp1 _);refine⟨p1,(ds.map (mj n)),rfl,SqL.of (by rw[aA,hl,rW]),_,rfl,?_⟩;rw[gn];refine ite2 (fun c2=> ?_) (fun c2=> ?_)
    ·refine⟨_,rfl,a,xs,fun k=>HT.lexLt ((ds.map fun t=>(kids t).map intD).getD k []) ((ds.map fun t=>(kids t).map intD).getD (k+1) []),rfl,sm'.tup h,?_,fun H2 sm2=> ?_⟩
     ·exact Gv (lN.same sm' t) c2
     ·have e:nP n (.tuple ds)=(List.range (xs.length-1)).all fun k=>HT.lexLt ((ds.map fun t=>(kids t).map intD).getD k []) ((ds.map fun t=>(kids t).map intD).getD (k+1) []):=by
       show(ds.all (mj n)&&dU (ds.map fun t=>(kids t).map intD))=_;rw[c2,hl];show dU (ds.map fun t=>(kids t).map intD)=_;unfold dU;rw[aH]
      have:=q H2 (sm'.trans sm2);rw[e]at this;exact this
    ·have e:nP n (.tuple ds)=false:=by
      show(ds.all (mj n)&&dU (ds.map fun t=>(kids t).map intD))=_;rw[Bool.eq_false_iff.mpr c2];rfl
     have:=q _ sm';rw[e]at this;exact this
  |_=>exfalso;exact c rfl
end
end Hs
namespace o9
open PySem L2
noncomputable def pairD(p:Int×Int):θ:= .tuple [.int p.1,.int p.2]
noncomputable def iT(n:Int)(ts:L0):θ:= .tuple [.int n,.tuple (ts.map pairD)]
noncomputable def qW(K:W.Frag)(H:Hp)(a:Addr)(n:Int)(ts:L0):Prop:=∃t rs,SqT K H a [.int n,.ref t]/\SqT K H t rs/\cO K H rs (ts.map pairD)
theorem qW.dv{K:W.Frag}{H:Hp}{a:Addr}{n:Int}{ts:L0}(h:qW K H a n ts):DV K H (.ref a) (iT n ts):=by
 obtain⟨t,rs,h1,h2,h3⟩:=h;exact .tup h1 (.cons (.int n) (.cons (.tup h2 h3) .nil))
theorem qW.same{K:W.Frag}{H H':Hp}{a:Addr}{n:Int}{ts:L0}(h:qW K H a n ts)(e:Same H H'):qW K H' a n ts:=by
 obtain⟨t,rs,h1,h2,h3⟩:=h;exact⟨t,rs,e.tup h1,e.tup h2,cO.same e h3⟩
noncomputable def mW(ts:L0)(i j:Int):Bool:=decide ((if j<i then j else i,if j>i then j else i)∈ts)
theorem j5(p q:Int×Int):PyData.eqv (pairD p) (pairD q)=decide (p=q):=by
 obtain⟨a,b⟩:=p;obtain⟨c,d⟩:=q;show((a==c)&&((b==d)&&true))=_;rw[DG];simp
theorem lC:∀ts:L0,PyData.canLayAll0 (ts.map pairD)=true
 |[]=>rfl
 |p::ts=>by
  show(PyData.canLay0 (pairD p)&&PyData.canLayAll0 (ts.map pairD))=true;rw[lC ts];rfl
theorem zX(ts:L0)(q:Int×Int):((ts.map pairD).any fun d=>PyData.eqv d (pairD q))=decide (q∈ts):=by
 rw[List.any_map,DG,List.any_eq_true];constructor
 ·rintro⟨p,hp,h⟩;have h':PyData.eqv (pairD p) (pairD q)=true:=h;rw[j5]at h';have e:p=q:=cR h';subst e;exact cI hp
 ·intro h;refine⟨q,cR h,?_⟩;show PyData.eqv (pairD q) (pairD q)=true;rw[j5];exact cI rfl
end o9
namespace Hs
open PySem L2 o9
section
variable{P:ξ}{w:τ}{K:W.Frag}{mg:L4}{base:Heap}
noncomputable def QW(K:W.Frag):Sp:=fun vs H Q _=>∃(x:V) (d:θ),vs=[x]/\DX K H x d/\∀H',Same H H'->Q (.bl (uL d)) H'
theorem Tg{f f1 f2:Addr}{fd d1 d2:ρ}{tk:Tok}(F:Fun K "is_web" "is_web" sW f fd)(D1:bJ K mg "is_whole" Vm ["thing"] f1 d1)(G1:FnOk P w K mg base CX0 1 f1 d1 ["thing"] (nQ K))(D2:bJ K mg "are_ties" mJ ["n","thing"] f2 d2)(G2:FnOk P w K mg base CX0 5 f2 d2 ["n","thing"] (Jq K))(mi:mg "isinstance"=none)(mT:mg "tuple"=none)(mL:mg "len"=none)(mM:mg "MOST_PLACES"=some (.int 10 tk)):FnOk P w K mg base CX0 6 f fd ["thing"] (QW K):=by
 refine F.cG ["thing","n"] fun cdv A outer s H vs Q E hr h=> ?_;obtain⟨x,d,rfl,hx,q⟩:=h;refine⟨_,aM (fJ (PW.pt (pw_or (pI (nJ (pB Mz mi (aj (pv 0) (aj (pN "tuple" mT) ak)))))
   (pw_or1 (dO op_ne (pB vg mL (aj (pv 0) ak)) aB)))) (aX (bM pe_bl)) gC) (aM (pS 1 (aP bZ (pv 0) aB)) (aX (bM (pe_and (pc G1 hr D1 (aj (pv 1) ak)) (pe_and (pe_chain op_le op_le aB (pv 1) (pe_glob rfl mM (v:= .int 10) ⟨_,rfl⟩))
   (pe_one (pc G2 hr D2 (aj (pv 1) (aj (aP bZ (pv 0) aB) ak))))))))),?_⟩
 refine⟨_,rfl,x,_,_,rfl,hx.kind,.inr (.inr (.inl rfl)),_,rfl,?_⟩;refine ite2 (fun c=> ?_) (fun c=> ?_)
 ·have e:uL d=false:=by
   cases d<;>first |rfl|(exfalso;simp[wV,jX]at c;done)
  have:=q H (Same.refl _);rw[e]at this;exact this
 ·cases hx with
  | @tup a xs ds h t=>
   have hl:=t.len;refine⟨_,rfl,a,xs,rfl,.inr h,fun hz=>⟨rfl,_,rfl,?_⟩⟩;refine ite2 (fun c2=> ?_) (fun c2=> ?_)
   ·have e:uL (.tuple ds)=false:=by
     match ds,hl with
     |[],_=>rfl
     |[_],_=>rfl
     |[_,_],hl=>
      exfalso;have e2:(!decide (V.int (xs.length:Int)=V.int 2))=true:=c2;rw[hl]at e2;simp at e2
     |_::_::_::_,_=>rfl
    have:=q H (Same.refl _);rw[e]at this;exact this
   ·have e2:xs.length=2:=by
     have e2:¬(!decide (V.int (xs.length:Int)=V.int 2))=true:=c2;simp at e2;omega
    cases t with
    |nil=>simp at e2
    |cons h0 t0=>
     cases t0 with
     |nil=>simp at e2
     | @cons x1 V8 xs1 ds1 h1 t1=>
      cases t1 with
      |cons _ _=>simp at e2
      |nil=>
       rename_i x0 V9;refine⟨_,rfl,a,_,_,x0,rfl,rfl,h,by rfl,?_⟩;refine⟨_,rfl,x0,V9,rfl,h0,_,rfl,?_⟩;refine ite2 (fun c3=> ?_) (fun c3=> ?_)
       ·cases h0 with
        |int n=>
         refine⟨_,rfl,_,_,rfl,rfl,_,rfl,?_⟩;have fin:∀b,b=uL (.tuple [.int n,V8])->∀H',Same H H'->Q (.bl b) H':=fun b hb H' sm=>by rw[hb];exact q H' sm
         have wd:uL (.tuple [.int n,V8])=((decide (0<=n)&&decide (n<=10))&&nP n V8):=rfl;refine ite2 (fun c4=> ?_) (fun c4=> ?_)
         ·refine⟨_,_,rfl,rfl,_,rfl,?_⟩;refine ite2 (fun c5=> ?_) (fun c5=> ?_)
          ·refine⟨_,rfl,_,rfl,a,_,_,x1,rfl,rfl,h,by rfl,n,x1,V8,rfl,h1,fun H' sm=>fin _ ?_ H' sm⟩;rw[wd,c4,c5];rfl
          ·refine fin _ ?_ H (Same.refl _);rw[wd,Bool.eq_false_iff.mpr c5,wev];rfl
         ·refine⟨_,rfl,?_⟩;refine iteF (fin _ ?_ H (Same.refl _));rw[wd,Bool.eq_false_iff.mpr c4];rfl
        |_=>simp[fK]at c3
       ·have e:uL (.tuple [V9,V8])=false:=by
         show(fK V9&&(decide (0<=intD V9)&&decide (intD V9<=10))&&nP (intD V9) V8)=false;rw[Bool.eq_false_iff.mpr c3];rfl
        have:=q H (Same.refl _);rw[e]at this;exact this
  |_=>exfalso;exact c rfl
noncomputable def dh(K:W.Frag):Sp:=fun vs H Q _=>∃(x:V) (d:θ),vs=[x]/\DX K H x d/\uL d=true/\∀H',Same H H'->Q .non H'
theorem BP{f f1:Addr}{fd d1:ρ}(F:Fun K "need_web" "need_web" Nj f fd)(D1:bJ K mg "is_web" sW ["thing"] f1 d1)(G1:FnOk P w K mg base CX0 6 f1 d1 ["thing"] (QW K)):FnOk P w K mg base CX0 7 f fd ["thing"] (dh K):=by
 refine F.cG ["thing"] fun cdv A outer s H vs Q E hr h=> ?_;obtain⟨x,d,rfl,hx,hw,q⟩:=h;refine⟨_,aX (fJ (pI (nJ (pc G1 hr D1 (aj (pv 0) ak)))) MF gC),?_⟩;refine⟨_,rfl,x,d,rfl,hx,fun H' sm=>⟨_,rfl,?_⟩⟩;rw[hw];exact iteF (q H' sm)
noncomputable def vH(K:W.Frag):Sp:=fun vs H Q _=>∃(a:Addr) (n i j:Int) (ts:L0),vs=[.ref a,.int i,.int j]/\qW K H a n ts/\∀H',Same H H'->Q (.bl (mW ts i j)) H'
theorem TV{f:Addr}{fd:ρ}(F:Fun K "has_tie" "has_tie" fH f fd)(mi:mg "min"=none)(ma:mg "max"=none):FnOk P w K mg base CX0 1 f fd ["web","one","other"] (vH K):=by
 refine F.cG ["web","one","other"] fun cdv A outer s H vs Q E hr h=> ?_;obtain⟨a,n,i,j,ts,rfl,hW,q⟩:=h;refine⟨_,aX (bM (Gb (wI hr.units) (fu (aj (pB (call_min2 rfl) mi (aj (pv 1) (aj (pv 2) ak))) (aj (pB (call_max2 rfl) ma (aj (pv 1) (aj (pv 2) ak))) ak)))
  (aP bZ (pv 0) aB) (by with_unfolding_all rfl))),?_⟩
 refine⟨_,rfl,_,rfl,_,_,rfl,_,rfl,_,rfl,_,_,rfl,(by show 2<=sizeLine;decide),fun p hp=> ?_⟩;have sm:=aK hp (.tup [.int (if j<i then j else i),.int (if j>i then j else i)]);obtain⟨t,rs,h1,h2,h3⟩:=hW.same sm;refine⟨_,rfl,a,_,_,.ref t,rfl,rfl,h1,rfl,t,rs,_,pairD (if j<i then j else i,if j>i then j else i),rfl,.inr h2,h3,.tup (SqT.of aA) (.cons (.int _) (.cons (.int _) .nil)),lC ts,rfl,(by show max 0 (max 0 0)+1<=60;decide),?_⟩;rw[zX];exact q _ sm
end
noncomputable def zY(n:Int)(ts:L0):Prop:=uL (iT n ts)=true
end Hs
namespace L2
open PySem
noncomputable def aD(t:Addr)(H H':Hp):Prop:=∀b o,b≠t->H b=some o->H' b=some o
theorem aD.refl(t:Addr)(H:Hp):aD t H H:=fun _ _ _ h=>h
theorem aD.trans{t:Addr}{H H1 H2:Hp}(a:aD t H H1)(b:aD t H1 H2):aD t H H2:=fun c o n h=>b c o n (a c o n h)
noncomputable def qX(K:W.Frag)(H:Hp)(bx:Addr)(ns:List Int):Prop:=(∃o,H bx=some (.frz o (.lst (ns.map V.int))))\/
 ∃(o:Obj) (its:Array ζ) (n:Nat),K.lookup bx=some o/\o.cls= .type "list"/\o.dict=none/\o.data= .seq its n/\its.size<=sizeLine/\Vals (ns.map V.int) its.toList
theorem qX.same{K:W.Frag}{H H':Hp}{bx:Addr}{ns:List Int}(h:qX K H bx ns)(e:Same H H'):qX K H' bx ns:=by
 rcases h with⟨o,h⟩|h
 ·exact .inl ⟨o,e _ _ h⟩
 ·exact .inr h
theorem Nf:∀ns:List Int,PyData.canLayAll0 (ns.map PyData.int)=true
 |[]=>rfl
 |n::ns=>by
  show(true&&PyData.canLayAll0 (ns.map PyData.int))=true;rw[Nf ns];rfl
theorem aD.free{t:Addr}{H H':Hp}{a:Addr}(e:aD t H H')(n:a≠t)(h:H' a=none):H a=none:=by
 cases q:H a with
 |none=>rfl
 |some o=>rw[e a o n q]at h;cases h
theorem cO.append{K:W.Frag}{H:Hp}{xs ys:List V}{ds es:List θ}(h:cO K H xs ds)(h':cO K H ys es):cO K H (xs++ys) (ds++es):=
 cO.rec (motive_1:=fun _ _ _=>True) (motive_2:=fun xs ds _=>cO K H (xs++ys) (ds++es)) trivial (fun _=>trivial) (fun _=>trivial) (fun _=>trivial) (fun _ _ _=>trivial) (fun _ _ _=>trivial) (fun _=>trivial) (fun _ _=>trivial) h' (fun h _ _ t=> .cons h t) h
theorem aD.tup{K:W.Frag}{t:Addr}{H H':Hp}{a:Addr}{xs zs:List V}(e:aD t H H')(n:H t=some (.lst zs))(h:SqT K H a xs):SqT K H' a xs:=by
 rcases h with(h|⟨o,h⟩)|h
 ·exact .inl (.inl (e _ _ (ne_of h n (by intro z;cases z)) h))
 ·exact .inl (.inr ⟨o,e _ _ (ne_of h n (by intro z;cases z)) h⟩)
 ·exact .inr h
end L2
namespace o9
open PySem L2
theorem gJ{K:W.Frag}{t:Addr}{H H':Hp}{zs:List V}(e:aD t H H')(n:H t=some (.lst zs)){rs:List V}{ps:L0}(h:cO K H rs (ps.map pairD)):cO K H' rs (ps.map pairD):=by
 induction ps generalizing rs with
 |nil=>cases h;exact .nil
 |cons p ps ih=>
  cases h with
  |cons h tl=>
   refine .cons ?_ (ih tl);cases h with
   |tup h hd=>
    cases hd with
    |cons a1 t1=>
     cases a1;cases t1 with
     |cons a2 t2=>
      cases a2;cases t2;exact .tup (e.tup n h) (.cons (.int _) (.cons (.int _) .nil))
structure Sub(j:Nat)(l:List Int):Prop where
 nd:l.Nodup
 lt:∀i∈l,0<=i/\i<(j:Int)
theorem iG{α:Type} [DecidableEq α]:∀{l m:List α},l.Nodup->(∀a∈l,a∈m)->l.length<=m.length
 |[],m,_,_=>dX _
 |a::l,m,nd,h=>by
  have ha:=h a jx;have nd':=Ip.mp nd;have q:∀b∈l,b∈m.erase a:=fun b hb=>by
   have hne:b≠a:=fun e=>nd'.1 (e▸hb);exact(List.mem_erase_of_ne hne).mpr (h b (jy _ hb))
  have:=iG nd'.2 q;have e:=List.length_erase_of_mem ha;have:0<m.length:=wca ha;simp only[yj];omega
theorem Sub.len{j:Nat}{l:List Int}(h:Sub j l):l.length<=j:=by
 have q:=iG (m:=(List.range j).map fun(k:Nat)=>(k:Int)) h.nd fun i hi=>by
  have:=h.lt i hi;exact iK.mpr ⟨i.toNat,pJ.mpr (by omega),by omega⟩
 simpa using q
structure aG(n:Int)(ps:L0):Prop where
 nd:ps.Nodup
 lt:∀p∈ps,0<=p.1/\p.1<p.2/\p.2<n
noncomputable def YS(n:Nat):L0:=((List.range n).map fun(j:Nat)=>(List.range j).map fun(i:Nat)=>((i:Int),(j:Int))).flatten
theorem pairs_len{n:Int}{ps:L0}(h:aG n ps)(hn:n<=10):ps.length<=45:=by
 have q:=iG (m:=YS 10) h.nd fun p hp=>by
  obtain⟨h0,h1,h2⟩:=h.lt p hp;obtain⟨a,b⟩:=p;dsimp only at h0 h1 h2;refine List.mem_flatten.mpr ⟨(List.range b.toNat).map fun(i:Nat)=>((i:Int),((b.toNat:Nat):Int)),iK.mpr ⟨b.toNat,pJ.mpr (by omega),rfl⟩,iK.mpr ⟨a.toNat,pJ.mpr (by omega),?_⟩⟩;have e1:((a.toNat:Nat):Int)=a:=by omega
  have e2:((b.toNat:Nat):Int)=b:=by omega
  rw[e1,e2]
 have e:(YS 10).length=45:=by decide
 omega
noncomputable def pl(p:Int×Int):List Int:=[p.1,p.2]
noncomputable def aU(ts:L0)(i j:Int):Bool:=decide ((i,j)∈ts)||decide ((j,i)∈ts)
theorem tied_eq{n:Int}{ts:L0}(h:aG n ts)(i j:Int):mW ts i j=aU ts i j:=by
 unfold mW aU;have no:∀{a b:Int},b<=a->decide ((a,b)∈ts)=false:=fun{a b} hab=>jK fun hm=>by
  have:=(h.lt _ hm).2.1;dsimp only at this;omega
 rcases Int.lt_trichotomy i j with c|c|c
 ·rw[aq (show¬j<i by omega),au (show j>i by omega),no (show i<=j by omega),Bool.or_false]
 ·subst c;rw[aq (show¬i<i by omega),Bool.or_self]
  try rw[aq (show¬i>i by omega)]
 ·rw[au (show j<i by omega),aq (show¬j>i by omega),no (show j<=i by omega),Bool.false_or]
end o9
namespace Hs
open PySem L2 o9
noncomputable def iQ(p q:Int×Int):Prop:=p.1<q.1\/(p.1=q.1/\p.2<q.2)
theorem iQ.trans{p q r:Int×Int}(a:iQ p q)(b:iQ q r):iQ p r:=by
 unfold iQ at *;omega
theorem Fi{p q:Int×Int}(h:HT.lexLt (pl p) (pl q)=true):iQ p q:=by
 rw[HT.bR]at h;have:=cR h;unfold pl at this;rw[Zy]at this;rcases this with a|⟨a,b⟩
 ·exact .inl a
 ·rw[Zy]at b;rcases b with b|⟨_,b⟩
  ·exact .inr ⟨a,b⟩
  ·exact absurd b (by simp)
theorem qR{l:L0}(h:∀k,(hk:k+1<l.length)->iQ l[k] l[k+1]):l.Pairwise iQ:=by
 rw[Vy];intro i j hi hj hij;have go:∀d:Nat,(hd:i+1+d<l.length)->iQ l[i] l[i+1+d]:=by
  intro d
  induction d with
  |zero=>intro hd;exact h i hd
  |succ d ih=>intro hd;exact(ih (by omega)).trans (h (i+1+d) hd)
 have e:j=i+1+(j-i-1):=by omega
 have:=go (j-i-1) (by omega);simpa[<-e]using this
theorem Ba{n:Int}{ts:L0}(h:zY n ts):ts.Pairwise iQ:=by
 have h1:nP n (.tuple (ts.map pairD))=true:=by
  unfold zY iT uL at h;rw[lZ]at h;exact h.2
 unfold nP at h1;rw[lZ]at h1;have h2:=h1.2;unfold dU at h2;rw[pH]at h2;refine qR fun k hk=> ?_;have e:(List.map (fun t=>(kids t).map intD) (ts.map pairD))=ts.map pl:=by
  rw[vh];rfl
 rw[e,aH]at h2;have h3:=h2 k (by rw[pJ];omega);have g:∀j,(hj:j<ts.length)->(ts.map pl).getD j []=pl ts[j]:=fun j hj=>by
  rw[iR,dY,eO hj];rfl
 rw[g k (by omega),g (k+1) hk]at h3;exact Fi h3
noncomputable def row(so:Int->Int->Bool)(i:Int)(k:Nat):L0:=((List.range k).map fun(t:Nat)=>(i,i+1+(t:Int))).filter fun p=>so p.1 p.2
noncomputable def rows(so:Int->Int->Bool)(m:Int)(i:Nat):L0:=((List.range i).map fun(t:Nat)=>row so (0+(t:Int)) (m-(0+(t:Int)+1)).toNat).flatten
end Hs
namespace L2
open PySem
theorem cO.get'{K:W.Frag}{H:Hp}:∀{xs:List V} {ds:List θ} {i:Nat},cO K H xs ds->i<ds.length->∃x d,xs[i]? =some x/\ds[i]? =some d/\DV K H x d
 |_,_,i,.nil,h=>by simp at h
 |_,_,0,.cons h _,_=>⟨_,_,rfl,rfl,h⟩
 |_,_,i+1,.cons _ t,h=>by
  obtain⟨x,d,h1,h2,h3⟩:=cO.get' (i:=i) t (by simpa using h);exact⟨x,d,by simpa using h1,by simpa using h2,h3⟩
end L2
namespace Hs
open PySem L2 o9
structure aJ(K:W.Frag)(H:Hp)(a:Addr)(n:Int)(ts:L0):Prop where
 web:qW K H a n ts
 h0:0<=n
 h1:n<=10
 pk:aG n ts
 ok:zY n ts
theorem aJ.same{K:W.Frag}{H H':Hp}{a:Addr}{n:Int}{ts:L0}(h:aJ K H a n ts)(e:Same H H'):aJ K H' a n ts:=⟨h.web.same e,h.h0,h.h1,h.pk,h.ok⟩
theorem aJ.len{K:W.Frag}{H:Hp}{a:Addr}{n:Int}{ts:L0}(h:aJ K H a n ts):ts.length<=45:=pairs_len h.pk h.h1
theorem aJ.v9{K:W.Frag}{H:Hp}{a:Addr}{n:Int}{ts:L0}(h:aJ K H a n ts):ts.Pairwise iQ:=Ba h.ok
theorem Es{K:W.Frag}{H:Hp}{rs:List V}{ps:L0}{i:Nat}{x:V}(h:cO K H rs (ps.map pairD))(hx:rs[i]? =some x):∃(t:Addr) (hi:i<ps.length),x= .ref t/\SqT K H t [.int (ps[i]).1,.int (ps[i]).2]:=by
 have hlen:=h.len;rw[aH]at hlen;have hi:i<ps.length:=by rw[<-hlen];exact(pO.mp hx).1
 obtain⟨x',d,e1,e2,e3⟩:=cO.get' (i:=i) h (by rw[aH];exact hi);rw[hx]at e1;cases e1;rw[dY,eO hi]at e2;cases e2;cases e3 with
 |tup hp tp=>
  cases tp with
  |cons ta tb=>
   cases tb with
   |cons tc td=>
    cases td;cases ta;cases tc;exact⟨_,hi,rfl,hp⟩
noncomputable def gP(K:W.Frag)(H:Hp)(l:Addr)(R:L0)(P:Int×Int->Prop):Prop:=∃(rs:List V) (ts:L0),H l=some (.lst rs)/\cO K H rs (ts.map pairD)/\ts.Sublist R/\∀p∈ts,P p
theorem gP.nil{K:W.Frag}{H:Hp}{l:Addr}{R:L0}{P:Int×Int->Prop}(h:H l=some (.lst [])):gP K H l R P:=⟨[],[],h,.nil,List.nil_sublist _,fun p hp=>(nomatch hp)⟩
theorem gP.step{K:W.Frag}{H H':Hp}{l c:Addr}{R:L0}{P:Int×Int->Prop}{zs:List V}(h:gP K H l R P)(e:aD c H H')(hc:H c=some (.lst zs))(n:l≠c):gP K H' l R P:=by
 obtain⟨rs,ts,h1,h2,h3⟩:=h;exact⟨rs,ts,e _ _ n h1,gJ e hc h2,h3⟩
theorem gP.mono{K:W.Frag}{H:Hp}{l:Addr}{R R':L0}{P:Int×Int->Prop}(h:gP K H l R P)(e:R.Sublist R'):gP K H l R' P:=by
 obtain⟨rs,ts,h1,h2,h3,h4⟩:=h;exact⟨rs,ts,h1,h2,h3.trans e,h4⟩
structure iI(n:Int)(xs:List Int):Prop where
 v9:xs.Pairwise (· < ·)
 lt:∀x∈xs,0<=x/\x<n
theorem iI.len{n:Int}{xs:List Int}(h:iI n xs)(hn:n<=10):xs.length<=10:=by
 have h1:Sub n.toNat xs:=⟨h.v9.imp fun h e=>by omega,fun i hi=>by have:=h.lt i hi;omega⟩;have:=h1.len;omega
end Hs
namespace Hs
open o9
noncomputable def inB(xs:List Int)(p:Int×Int):Bool:=decide (p.1∈xs)&&decide (p.2∈xs)
end Hs
namespace Hs
noncomputable def ff:Nat->Nat
 |0=>1
 |1=>1
 |2=>2
 |3=>3
 |4=>4
 |5=>6
 |6=>9
 |7=>12
 |8=>18
 |9=>27
 |_=>36
theorem xg:∀m n:Nat,m<=n->n<=10->ff m<=ff n:=by
 have h:∀n:Fin 11,∀m:Fin 11,m.val<=n.val->ff m.val<=ff n.val:=by decide
 intro m n hm hn;exact h ⟨n,by omega⟩ ⟨m,by omega⟩ hm
theorem Qj:∀n d:Nat,0<d->d<=n->n<=10->d*ff (n-d)<=ff n:=by
 have h:∀n:Fin 11,∀d:Fin 11,0<d.val->d.val<=n.val->d.val*ff (n.val-d.val)<=ff n.val:=by decide
 intro n d h0 hd hn;exact h ⟨n,by omega⟩ ⟨d,by omega⟩ h0 hd
structure Full(r:Int->Int->Bool)(V:List Int)(s:List Int):Prop where
 up:s.Pairwise (· < ·)
 sub:∀x∈s,x∈V
 ind:∀x∈s,∀y∈s,x≠y->r x y=false
 max:∀v∈V,v∉s->∃x∈s,r x v=true
theorem zq(g:Int->Nat):∀V:List Int,V≠[]->∃v∈V,∀u∈V,g v<=g u
 |[],h=>absurd rfl h
 |[x],_=>⟨x,by simp,fun u hu=>by rw[kO.mp hu];exact aR _⟩
 |x::y::V,_=>by
  obtain⟨v,hv,hm⟩:=zq g (y::V) (by simp);by_cases c:g x<=g v
  ·refine⟨x,by simp,fun u hu=> ?_⟩;rcases cW.mp hu with e|e
   ·rw[e];exact aR _
   ·exact cQ c (hm u e)
  ·refine⟨v,jy _ hv,fun u hu=> ?_⟩;rcases cW.mp hu with e|e
   ·rw[e];omega
   ·exact hm u e
theorem mX{α:Type}(p:α->Bool):∀l:List α,(l.filter p).length+(l.filter fun x=> !p x).length=l.length
 |[]=>rfl
 |x::l=>by
  have ih:=mX p l;rw[Ax,Ax];cases p x<;>simp <;>omega
theorem vR{α β:Type}(p:β->α->Bool)(m:Nat):∀(us:List β) (fs:List α),(∀s∈fs,∃u∈us,p u s=true)->(∀u∈us,∀gs:List α,gs.Sublist fs->(∀s∈gs,p u s=true)->gs.length<=m)->fs.length<=us.length*m
 |[],fs,h,_=>by
  cases fs with
  |nil=>simp
  |cons s fs=>obtain⟨u,hu,_⟩:=h s (by simp);cases hu
 |u::us,fs,h,hm=>by
  have e:=mX (p u) fs;have a:=hm u (by simp) (fs.filter (p u)) wcy (fun s hs=>(eN.mp hs).2);have b:=vR p m us (fs.filter fun x=> !p u x) (fun s hs=>by
   obtain⟨h1,h2⟩:=eN.mp hs;obtain⟨w,hw,hp⟩:=h s h1;rcases cW.mp hw with z|z
   ·rw[z]at hp;rw[hp]at h2;cases h2
   ·exact⟨w,z,hp⟩) (fun w hw gs hg hp=>hm w (jy _ hw) gs (hg.trans wcy) hp)
  rw[yj,Nat.succ_mul];omega
theorem DK:∀{xs ys:List Int},xs.Pairwise (· < ·)->ys.Pairwise (· < ·)->(∀k,k∈xs↔k∈ys)->xs=ys
 |[],[],_,_,_=>rfl
 |[],y::ys,_,_,h=>by have:=(h y).mpr (by simp);simp at this
 |x::xs,[],_,_,h=>by have:=(h x).mp (by simp);simp at this
 |x::xs,y::ys,hx,hy,h=>by
  rw[QC]at hx hy;have e:x=y:=by
   have a:=(h x).mp (by simp);have b:=(h y).mpr (by simp);rcases cW.mp a with a|a
   ·exact a
   ·rcases cW.mp b with b|b
    ·exact b.symm
    ·have:=hy.1 x a;have:=hx.1 y b;omega
  subst e;rw[DK hx.2 hy.2 fun k=> ?_];constructor
  ·intro hk;rcases cW.mp ((h k).mp (jy _ hk))with a|a
   ·have:=hx.1 k hk;omega
   ·exact a
  ·intro hk;rcases cW.mp ((h k).mpr (jy _ hk))with a|a
   ·have:=hy.1 k hk;omega
   ·exact a
theorem qd{α β:Type}{g:α->β}:∀{l:List α},l.Nodup->(∀a∈l,∀b∈l,g a=g b->a=b)->(l.map g).Nodup
 |[],_,_=>List.nodup_nil
 |a::l,h,hi=>by
  rw[Ip]at h;rw[yg,Ip];refine⟨fun hm=> ?_,qd h.2 fun x hx y hy=>hi x (jy _ hx) y (jy _ hy)⟩;obtain⟨b,hb,e⟩:=iK.mp hm;have:=hi b (jy _ hb) a (by simp) e;rw[this]at hb;exact h.1 hb
noncomputable def bV(r:Int->Int->Bool)(v u:Int):Bool:=decide (u=v)||r u v
theorem Cu{r:Int->Int->Bool}(sym:∀i j,r i j=r j i):∀(n:Nat) (V:List Int),V.length=n->n<=10->∀fs:List (List Int),fs.Nodup->(∀s∈fs,Full r V s)->fs.length<=ff n:=by
 intro n
 induction n using Nat.strongRecOn with
 |ind n ih=>
  intro V hV hn fs nd hf;by_cases hz:V=[]
  ·have e:∀s∈fs,s=[]:=fun s hs=>by
    cases s with
    |nil=>rfl
    |cons x s=>have:=(hf _ hs).sub x (by simp);rw[hz]at this;cases this
   have l1:fs.length<=1:=by
    match fs,nd,e with
    |[],_,_=>simp
    |[_],_,_=>simp
    |a::b::fs,nd,e=>
     exfalso;rw[Ip]at nd;apply nd.1;rw[e a (by simp),e b (by simp)];simp
   have:1<=ff n:=by
    have:=xg 0 n (dX _) hn;exact this
   omega
  obtain⟨v,hv,hmin⟩:=zq (fun u=>(V.filter (bV r u)).length) V hz;have key:=vR (fun(u:Int) (s:List Int)=>decide (u∈s)) (ff (n-(V.filter (bV r v)).length)) (V.filter (bV r v)) fs (fun s hs=> ?_) (fun u hu gs hg hp=> ?_)
  ·have hle:(V.filter (bV r v)).length<=n:=by rw[<-hV];exact vo _ _
   have hpos:0<(V.filter (bV r v)).length:=wca (eN.mpr ⟨hv,by unfold bV;simp⟩);exact cQ key (Qj n _ hpos hle hn)
  ·by_cases c:v∈s
   ·exact⟨v,eN.mpr ⟨hv,by unfold bV;simp⟩,cI c⟩
   ·obtain⟨x,hx,hr⟩:=(hf s hs).max v hv c;exact⟨x,eN.mpr ⟨(hf s hs).sub x hx,by unfold bV;rw[hr];simp⟩,cI hx⟩
  ·have huV:u∈V:=(eN.mp hu).1;have fg:∀s∈gs,Full r V s/\u∈s:=fun s hs=>⟨hf s (hg.subset hs),cR (hp s hs)⟩;have hle:(V.filter (bV r u)).length<=n:=by rw[<-hV];exact vo _ _
   have hge:=hmin u huV;have hpos:0<(V.filter (bV r u)).length:=wca (eN.mpr ⟨huV,by unfold bV;simp⟩);have hV2:(V.filter fun x=> !bV r u x).length=n-(V.filter (bV r u)).length:=by have:=mX (bV r u) V;omega
   have Ca:∀(s:List Int) (x:Int),x∈s.filter (fun x=> !decide (x=u))↔x∈s/\x≠u:=fun s x=>by rw[eN];simp
   have h1:=ih (n-(V.filter (bV r u)).length) (by omega) (V.filter fun x=> !bV r u x) hV2 (by omega) (gs.map fun s=>s.filter fun x=> !decide (x=u)) (qd (nd.sublist hg) fun s hs t ht e=> ?_) (fun t ht=> ?_)
   ·rw[aH]at h1;exact cQ h1 (xg _ _ (by omega) (by omega))
   ·obtain⟨a1,a2⟩:=fg s hs;obtain⟨b1,b2⟩:=fg t ht;refine DK a1.up b1.up fun k=> ?_;have hk:k∈s.filter (fun x=> !decide (x=u))↔k∈t.filter (fun x=> !decide (x=u)):=by rw[show s.filter (fun x=> !decide (x=u))=t.filter (fun x=> !decide (x=u))from e]
    rw[Ca,Ca]at hk;by_cases c:k=u
    ·rw[c];exact⟨fun _=>b2,fun _=>a2⟩
    ·exact⟨fun z=>(hk.mp ⟨z,c⟩).1,fun z=>(hk.mpr ⟨z,c⟩).1⟩
   ·obtain⟨s,hs,rfl⟩:=iK.mp ht;obtain⟨a1,a2⟩:=fg s hs;refine⟨a1.up.sublist wcy,fun x hx=> ?_,fun x hx y hy=> ?_,fun w hw hn=> ?_⟩
    ·obtain⟨x1,x2⟩:=(Ca s x).mp hx;refine eN.mpr ⟨a1.sub x x1,?_⟩;unfold bV;rw[a1.ind x x1 u a2 x2,jK x2];rfl
    ·exact a1.ind x ((Ca s x).mp hx).1 y ((Ca s y).mp hy).1
    ·obtain⟨w1,w2⟩:=eN.mp hw;have w3:bV r u w=false:=by simpa using w2
     unfold bV at w3;rw[Bool.or_eq_false_iff]at w3;have wu:w≠u:=Gj w3.1;have ws:w∉s:=fun z=>hn ((Ca s w).mpr ⟨z,wu⟩);obtain⟨x,hx,hr⟩:=a1.max w w1 ws;have xu:x≠u:=fun z=>by rw[z,sym u w,w3.2]at hr;cases hr
     exact⟨x,(Ca s x).mpr ⟨hx,xu⟩,hr⟩
end Hs
namespace Hs
open PySem o9
noncomputable def rng(n:Nat):List Int:=(List.range n).map fun k=>((k:Nat):Int)
theorem gM{n:Nat}{x:Int}:x∈rng n↔0<=x/\x<(n:Int):=by
 unfold rng;rw[iK];constructor
 ·rintro⟨k,hk,rfl⟩;have:=pJ.mp hk;omega
 ·rintro⟨h0,h1⟩;exact⟨x.toNat,pJ.mpr (by omega),by omega⟩
theorem Nh(ts:L0)(i j:Int):aU ts i j=aU ts j i:=by unfold aU;rw[Bool.or_comm]
noncomputable def goB(ts:L0)(w:Bool)(s:List Int)(p:Int):Bool:=s.all fun q=>aU ts p q==w
noncomputable def bN(ts:L0)(w:Bool):Nat->List (List Int)
 |0=>[[]]
 |k+1=>bN ts w k++((bN ts w k).filter fun s=>goB ts w s (k:Int)).map fun s=>s++[(k:Int)]
noncomputable def oV(ts:L0)(w:Bool)(n:Nat)(s:List Int):Bool:= !((rng n).any fun p=> !decide (p∈s)&&goB ts w s p)
noncomputable def jZ(ts:L0)(w:Bool)(n:Nat):List (List Int):=(bN ts w n).filter (oV ts w n)
structure jH(ts:L0)(w:Bool)(k:Nat)(s:List Int):Prop where
 up:s.Pairwise (· < ·)
 lt:∀x∈s,0<=x/\x<(k:Int)
 all:∀x∈s,∀y∈s,x≠y->(aU ts x y==w)=true
theorem iW{ts:L0}{w:Bool}:∀(k:Nat) (s:List Int),s∈bN ts w k->jH ts w k s
 |0,s,h=>by
  rw[kO.mp (show s∈[[]]from h)];exact⟨List.Pairwise.nil,fun x hx=>(nomatch hx),fun x hx=>(nomatch hx)⟩
 |k+1,s,h=>by
  rcases pL.mp (show s∈bN ts w k++((bN ts w k).filter fun s=>goB ts w s (k:Int)).map fun s=>s++[(k:Int)]from h)with q|q
  ·have S:=iW k s q;exact⟨S.up,fun x hx=>by have:=S.lt x hx;omega,S.all⟩
  ·obtain⟨t,ht,rfl⟩:=iK.mp q;obtain⟨t1,t2⟩:=eN.mp ht;have S:=iW k t t1;have g:∀y∈t,(aU ts (k:Int) y==w)=true:=fun y hy=>pH.mp t2 y hy;refine⟨?_,fun x hx=> ?_,fun x hx y hy hne=> ?_⟩
   ·rw[Wm];refine⟨S.up,QG _ _,fun x hx y hy=> ?_⟩;rw[kO.mp hy];exact(S.lt x hx).2
   ·rcases pL.mp hx with z|z
    ·have:=S.lt x z;omega
    ·rw[kO.mp z];omega
   ·rcases pL.mp hx with z|z
    ·rcases pL.mp hy with z'|z'
     ·exact S.all x z y z' hne
     ·rw[kO.mp z',Nh];exact g x z
    ·rw[kO.mp z]at hne⊢;rcases pL.mp hy with z'|z'
     ·exact g y z'
     ·exact absurd (kO.mp z').symm hne
theorem iV{ts:L0}{w:Bool}:∀k:Nat,(bN ts w k).Nodup
 |0=>by show([[]]:List (List Int)).Nodup;simp
 |k+1=>by
  show(bN ts w k++((bN ts w k).filter fun s=>goB ts w s (k:Int)).map fun s=>s++[(k:Int)]).Nodup;refine List.nodup_append.mpr ⟨iV k,qd ((iV k).filter _) (fun a _ b _ e=>List.append_cancel_right e),fun a ha b hb e=> ?_⟩;obtain⟨t,_,rfl⟩:=iK.mp hb;have:=(iW k a ha).lt (k:Int) (by rw[e];simp);omega
theorem yL{ts:L0}{w:Bool}:∀k:Nat,(bN ts w k).length<=2^k
 |0=>aR _
 |k+1=>by
  show(bN ts w k++((bN ts w k).filter fun s=>goB ts w s (k:Int)).map fun s=>s++[(k:Int)]).length<=2^(k+1);rw[rE,aH,Nat.pow_succ];have a:=yL (ts:=ts) (w:=w) k;have b:=vo (fun s=>goB ts w s (k:Int)) (bN ts w k);omega
theorem Fx{ts:L0}{w:Bool}{n:Nat}{s:List Int}(h:s∈jZ ts w n):Full (fun i j=> !(aU ts i j==w)) (rng n) s:=by
 obtain⟨h1,h2⟩:=eN.mp h;have S:=iW n s h1;refine⟨S.up,fun x hx=>gM.mpr (S.lt x hx),fun x hx y hy hne=>by rw[S.all x hx y hy hne];rfl,fun v hv hn=> ?_⟩;unfold oV at h2;apply VN;intro hc;have h3:((rng n).any fun p=> !decide (p∈s)&&goB ts w s p)=false:=by simpa using h2
 rw[wcb]at h3;apply h3 v hv;rw[jK hn];show goB ts w s v=true;unfold goB;rw[pH];intro q hq;cases e:(aU ts v q==w)with
 |true=>rfl
 |false=>exact absurd ⟨q,hq,by show(!(aU ts q v==w))=true;rw[Nh,e];rfl⟩ hc
theorem vO{ts:L0}{w:Bool}{n:Nat}(hn:n<=10):(jZ ts w n).length<=36:=by
 have h:=Cu (r:=fun i j=> !(aU ts i j==w)) (fun i j=>by rw[Nh]) n (rng n) (by unfold rng;simp) hn (jZ ts w n) ((iV n).filter _) (fun s hs=>Fx hs);have:=xg n 10 hn (aR _);exact cQ h this
noncomputable def jA(ts:L0)(w:Bool)(n:Nat)(s:List Int):List Int:=(rng n).filter fun p=>s.all fun q=> !decide (p=q)&&(aU ts q p==w)
noncomputable def oW(ts:L0)(w:Bool)(n:Nat)(q:Int):List Int:=(rng n).filter fun p=> !decide (p=q)&&(aU ts q p==w)
theorem KZ(ts:L0)(w:Bool)(n:Nat):jA ts w n []=rng n:=by unfold jA;exact List.filter_eq_self.mpr fun _ _=>rfl
theorem Ho(ts:L0)(w:Bool)(n:Nat)(s:List Int)(k:Int):jA ts w n (s++[k])=(jA ts w n s).filter fun p=>decide (p∈oW ts w n k):=by
 unfold jA;rw[List.filter_filter];refine List.filter_congr fun p hp=> ?_;rw[List.all_append,Bool.and_comm];congr 1;unfold oW;rw[DG,M6,eN];simp[hp]
theorem Py{ts:L0}{w:Bool}{n k:Nat}{s:List Int}(hs:jH ts w k s)(hk:k<n):decide ((k:Int)∈jA ts w n s)=goB ts w s (k:Int):=by
 unfold jA goB;rw[DG,M6,eN,pH,pH];constructor
 ·rintro⟨_,h⟩ q hq;have:=h q hq;rw[lZ]at this;rw[Nh];exact this.2
 ·intro h;refine⟨gM.mpr ⟨by omega,by omega⟩,fun q hq=> ?_⟩;have:=(hs.lt q hq).2;rw[lZ];refine⟨?_,by rw[Nh];exact h q hq⟩;rw[jK (by omega)];rfl
theorem Hq(ts:L0)(w:Bool)(n:Nat)(s:List Int):decide (jA ts w n s=[])=oV ts w n s:=by
 unfold jA oV;rw[DG,M6,ZC,wcg,wcb];constructor
 ·intro h p hp hc;rw[lZ]at hc;apply h p hp;rw[pH];intro q hq;have h1:p∉s:=by simpa using hc.1
  have h2:=pH.mp hc.2 q hq;rw[lZ];refine⟨?_,by rw[Nh];exact h2⟩;have ne:¬p=q:=fun e=>h1 (by rw[e];exact hq);rw[jK ne];rfl
 ·intro h p hp hc;apply h p hp;rw[pH]at hc;rw[lZ];refine⟨?_,?_⟩
  ·have:p∉s:=fun z=>by
    have:=hc p z;simp at this
   rw[jK this];rfl
  ·unfold goB;rw[pH];intro q hq;have:=hc q hq;rw[lZ]at this;rw[Nh];exact this.2
theorem qI:∀{xs ys:List Int},xs.Pairwise (· < ·)->ys.Pairwise (· < ·)->(∀k,k∈xs↔k∈ys)->xs=ys
 |[],[],_,_,_=>rfl
 |[],y::ys,_,_,h=>by have:=(h y).mpr (by simp);simp at this
 |x::xs,[],_,_,h=>by have:=(h x).mp (by simp);simp at this
 |x::xs,y::ys,hx,hy,h=>by
  rw[QC]at hx hy;have e:x=y:=by
   have a:=(h x).mp (by simp);have b:=(h y).mpr (by simp);rcases cW.mp a with a|a
   ·exact a
   ·rcases cW.mp b with b|b
    ·exact b.symm
    ·have:=hy.1 x a;have:=hx.1 y b;omega
  subst e;rw[qI hx.2 hy.2 fun k=> ?_];constructor
  ·intro hk;rcases cW.mp ((h k).mp (jy _ hk))with a|a
   ·have:=hx.1 k hk;omega
   ·exact a
  ·intro hk;rcases cW.mp ((h k).mpr (jy _ hk))with a|a
   ·have:=hy.1 k hk;omega
   ·exact a
theorem nZ{ts:L0}{w:Bool}:∀(k:Nat) (s:List Int),jH ts w k s->s∈bN ts w k
 |0,s,h=>by
  cases s with
  |nil=>show([]:List Int)∈[[]];simp
  |cons x s=>have:=h.lt x (by simp);omega
 |k+1,s,h=>by
  show s∈bN ts w k++((bN ts w k).filter fun s=>goB ts w s (k:Int)).map fun s=>s++[(k:Int)];by_cases c:(k:Int)∈s
  ·have hm:∀x,x∈s.filter (fun x=> !decide (x=(k:Int)))↔x∈s/\x≠(k:Int):=fun x=>by rw[eN];simp
   refine Gi _ (iK.mpr ⟨s.filter (fun x=> !decide (x=(k:Int))),eN.mpr ⟨nZ k _ ⟨h.up.filter _,fun x hx=> ?_,fun x hx y hy hne=> ?_⟩,?_⟩,?_⟩)
   ·have a:=(hm x).mp hx;have b:=h.lt x a.1;have:=a.2;omega
   ·exact h.all x ((hm x).mp hx).1 y ((hm y).mp hy).1 hne
   ·unfold goB;rw[pH];intro q hq;have a:=(hm q).mp hq;exact h.all _ c q a.1 (fun e=>a.2 e.symm)
   ·refine qI ?_ h.up fun x=> ?_
    ·rw[Wm];refine⟨h.up.filter _,QG _ _,fun x hx y hy=> ?_⟩;rw[kO.mp hy];have a:=(hm x).mp hx;have b:=h.lt x a.1;have:=a.2;omega
    ·rw[pL,hm,kO];constructor
     ·rintro(a|a)
      ·exact a.1
      ·rw[a];exact c
     ·intro a;by_cases e:x=(k:Int)
      ·exact .inr e
      ·exact .inl ⟨a,e⟩
  ·refine Zx _ (nZ k s ⟨h.up,fun x hx=> ?_,h.all⟩);have b:=h.lt x hx;have:x≠(k:Int):=fun e=>c (by rw[<-e];exact hx);omega
theorem jH.of{ts:L0}{w:Bool}{n:Nat}{s:List Int}(F:Full (fun i j=> !(aU ts i j==w)) (rng n) s):jH ts w n s:=
 ⟨F.up,fun x hx=>gM.mp (F.sub x hx),fun x hx y hy hne=>by
  have:=F.ind x hx y hy hne
  try dsimp only at this
  cases e:(aU ts x y==w)with
  |true=>rfl
  |false=>rw[e]at this;cases this⟩
theorem Qg{ts:L0}{w:Bool}{n:Nat}{s:List Int}(F:Full (fun i j=> !(aU ts i j==w)) (rng n) s):s∈jZ ts w n:=by
 refine eN.mpr ⟨nZ n s (jH.of F),?_⟩;unfold oV;rw[wcg,wcb];intro p hp hc;rw[lZ]at hc;have hn:p∉s:=by simpa using hc.1
 obtain⟨x,hx,hr⟩:=F.max p hp hn;have:=pH.mp hc.2 x hx
 try dsimp only at hr this
 rw[Nh,this]at hr;cases hr
theorem Fb{α:Type}(g:α->Nat):∀V:List α,V≠[]->∃v∈V,∀u∈V,g u<=g v
 |[],h=>absurd rfl h
 |[x],_=>⟨x,by simp,fun u hu=>by rw[kO.mp hu];exact aR _⟩
 |x::y::V,_=>by
  obtain⟨v,hv,hm⟩:=Fb g (y::V) (by simp);by_cases c:g v<=g x
  ·refine⟨x,by simp,fun u hu=> ?_⟩;rcases cW.mp hu with e|e
   ·rw[e];exact aR _
   ·exact cQ (hm u e) c
  ·refine⟨v,jy _ hv,fun u hu=> ?_⟩;rcases cW.mp hu with e|e
   ·rw[e];omega
   ·exact hm u e
theorem oX{ts:L0}{w:Bool}{n:Nat}{s:List Int}(hs:jH ts w n s):∃t∈jZ ts w n,∀x∈s,x∈t:=by
 let C:=(bN ts w n).filter fun t=>s.all fun x=>decide (x∈t);have mC:∀t,t∈C↔t∈bN ts w n/\∀x∈s,x∈t:=fun t=>by
  show t∈(bN ts w n).filter _↔_;rw[eN,pH];simp
 have hne:C≠[]:=fun e=>by
  have:s∈C:=(mC s).mpr ⟨nZ n s hs,fun x hx=>hx⟩;rw[e]at this;cases this
 obtain⟨t,ht,hm⟩:=Fb List.length C hne;obtain⟨h1,h2⟩:=(mC t).mp ht;have T:=iW n t h1;refine⟨t,Qg ⟨T.up,fun x hx=>gM.mpr (T.lt x hx),fun x hx y hy hne=> ?_,fun v hv hn=> ?_⟩,h2⟩
 ·show(!(aU ts x y==w))=false;rw[T.all x hx y hy hne];rfl
 ·apply VN;intro hc;have go:∀x∈t,(aU ts x v==w)=true:=fun x hx=>by
   cases e:(aU ts x v==w)with
   |true=>rfl
   |false=>exact absurd ⟨x,hx,by show(!(aU ts x v==w))=true;rw[e];rfl⟩ hc
  have mU:∀x,x∈(rng n).filter (fun x=>decide (x∈t)||decide (x=v))↔x∈t\/x=v:=fun x=>by
   rw[eN,ZW,M6,M6];constructor
   ·exact fun z=>z.2
   ·rintro(z|z)
    ·exact⟨gM.mpr (T.lt x z),.inl z⟩
    ·exact⟨by rw[z];exact hv,.inr z⟩
  have up:((rng n).filter (fun x=>decide (x∈t)||decide (x=v))).Pairwise (· < ·):=by
   refine List.Pairwise.filter _ ?_;unfold rng;rw[Nr];exact Zz.imp fun{a b} h=>by omega
  have U:jH ts w n ((rng n).filter (fun x=>decide (x∈t)||decide (x=v))):=⟨up,fun x hx=>gM.mp (eN.mp hx).1,fun x hx y hy hne=>by
   rcases(mU x).mp hx with a|a
   ·rcases(mU y).mp hy with b|b
    ·exact T.all x a y b hne
    ·rw[b];exact go x a
   ·rcases(mU y).mp hy with b|b
    ·rw[a,Nh];exact go y b
    ·exact absurd (a.trans b.symm) hne⟩
  have inC:=(mC _).mpr ⟨nZ n _ U,fun x hx=>(mU x).mpr (.inl (h2 x hx))⟩;have l1:=hm _ inC;have l2:=iG (l:=v::t) (m:=(rng n).filter (fun x=>decide (x∈t)||decide (x=v))) (Ip.mpr ⟨hn,T.up.imp fun{a b} h=>by omega⟩) (fun x hx=>by
   rcases cW.mp hx with z|z
   ·exact(mU x).mpr (.inr z)
   ·exact(mU x).mpr (.inl z))
  rw[yj]at l2;omega
end Hs
namespace Hs
open PySem L2 o9
section
variable{P:ξ}{w:τ}{K:W.Frag}{mg:L4}{base:Heap}
theorem blV_eq(a b:Bool):decide (V.bl a=V.bl b)=(a==b):=by cases a<;>cases b<;>rfl
theorem intV_eq(a b:Int):decide (V.int a=V.int b)=decide (a=b):=by
 by_cases e:a=b
 ·subst e;simp
 ·rw[jK e,jK (by intro z;injection z with z;exact e z)]
theorem Pu{a b:Int}:(!decide (V.int a=V.int b))= !decide (a=b):=by rw[intV_eq]
theorem any_ints(xs:List Int)(k:Int):((xs.map PyData.int).any fun d=>PyData.eqv d (.int k))=decide (k∈xs):=by
 induction xs with
 |nil=>simp
 |cons x xs ih=>
  rw[yg,Rz,ih];have e:PyData.eqv (.int x) (.int k)=decide (k=x):=by
   show(x==k)=_;rw[DG];simp;exact⟨fun h=>h.symm,fun h=>h.symm⟩
  rw[e,DG];simp
theorem Zo{α:Type}{p:α->Bool}{l:List α}{i:Nat}(hi:i<l.length):(l.take (i+1)).filter p=(l.take i).filter p++(if p l[i]=true then[l[i]]else[]):=by
 rw[vX,eO hi,Dy];congr 1;show[l[i]].filter p=_;rw[Ax];rfl
theorem J2(k:Nat):rng (k+1)=rng k++[(k:Int)]:=by unfold rng;rw[yh,cg];rfl
theorem Jh(n:Nat):eX n=(rng n).map V.int:=by unfold eX rng;rw[vh];rfl
noncomputable def yE(K:W.Frag):Sp:=fun vs H Q _=>∃(l m:Addr) (xs ys:List Int),vs=[.ref l,.ref m]/\SqL K H l (xs.map V.int)/\SqL K H m (ys.map V.int)/\∀r H',Same H H'->H' r=some (.lst ((xs.filter fun p=>decide (p∈ys)).map V.int))->H r=none->Q (.ref r) H'
theorem Hi{f:Addr}{fd:ρ}(F:Fun K "in_both" "in_both" pW f fd):
  FnOk P w K mg base CX0 1 f fd ["ones","others"] (yE K):=by
 refine F.cG ["ones","others"] fun cdv A outer s H vs Q E hr h=> ?_;obtain⟨l,m,xs,ys,rfl,hL,hM,q⟩:=h;refine⟨_,(aX (bM (pK ["place"] ["others"] [1] (Ag (pv 0)) (pG 0) (Ak (dO (lA K hr.units) (pv 0) (pv 1) (by with_unfolding_all rfl))) (pv 0)))),?_⟩;refine⟨_,rfl,l,_,rfl,hL,fun hz=> ?_⟩;refine Am (xs:=xs.map V.int) (fun k acc σ H'=>acc=((xs.take k).filter fun p=>decide (p∈ys)).map V.int/\Same H H'/\∃o,σ=[o,some (.ref m)]) ⟨rfl,Same.refl _,_,rfl⟩ (fun k acc σ H' _ p=>p.2.1.seq hL) (fun k acc σ H' hk p=> ?_) hz (fun k x acc σ H' hx p=> ?_) (fun acc σ H' p=> ?_)
 ·rw[p.1,aH];exact cQ (vo _ _) (by rw[uH];exact Av _ _)
 ·obtain⟨rfl,sm,o,rfl⟩:=p;rw[dY]at hx;cases ex:xs[k]? with
  |none=>rw[ex]at hx;cases hx
  |some y=>
   rw[ex]at hx;cases hx;obtain⟨hk,ey⟩:=pO.mp ex;have e:=Zo (p:=fun p=>decide (p∈ys)) hk;rw[ey]at e;refine⟨_,rfl,_,rfl,m,_,_,.int y,rfl,.inl (sm.seq hM),cO.ints ys,.int _,Nf ys,rfl,(by show 0<=60;decide),_,rfl,?_⟩;rw[any_ints];refine ite2 (fun c=> ?_) (fun c=> ?_)
   ·exact⟨_,rfl,by rw[e,au c,cg];rfl,sm,_,rfl⟩
   ·exact⟨by rw[e,aq c,Aw],sm,_,rfl⟩
 ·intro p1 hp1;obtain⟨rfl,sm,_⟩:=p;rw[aH,rW];exact q p1 _ (sm.trans (aK hp1 _)) aA (sm.free hp1)
noncomputable def Ek(K:W.Frag):Sp:=fun vs H Q _=>∃(a:Addr) (n i:Int) (ts:L0) (w:Bool),vs=[.ref a,.int i,.bl w]/\aJ K H a n ts/\∀r H',Same H H'->H' r=some (.lst ((oW ts w n.toNat i).map V.int))->H r=none->Q (.ref r) H'
theorem Ks{f f1:Addr}{fd d1:ρ}(F:Fun K "places_by_tie" "places_by_tie" zdh f fd)(D1:bJ K mg "has_tie" fH ["web","one","other"] f1 d1)(G1:FnOk P w K mg base CX0 1 f1 d1 ["web","one","other"] (vH K))(aN:mg "range"=none):
  FnOk P w K mg base CX0 2 f fd ["web","place","tied"] (Ek K):=by
 refine F.cG ["web","place","tied"] fun cdv A outer s H vs Q E hr h=> ?_;obtain⟨a,n,i,ts,w,rfl,hA,q⟩:=h;refine⟨_,(aX (bM (pK ["other"] ["place","web","tied"] [1,0,2] (HW rfl aN (aj (aP bZ (pv 0) aB) ak)) (pG 0) (Ak (PW.pt (pw_and (dO op_ne (pv 0) (pv 1)) (pw_and1 (dO op_eq (pc G1 hr D1 (aj (pv 2) (aj (pv 1) (aj (pv 0) ak)))) (pv 3)))))) (pv 0)))),?_⟩;have h0:=hA.h0;have h10:=hA.h1;obtain⟨ta,ra,a1,a2,a3⟩:=id hA.web;refine⟨_,rfl,a,_,_,.int n,rfl,rfl,a1,rfl,n,rfl,by omega,by omega,?_⟩;refine Qy (n:=n.toNat) (fun k acc σ H'=>acc=((rng k).filter fun p=> !decide (p=i)&&(aU ts i p==w)).map V.int/\Same H H'/\∃o,σ=[o,some (.int i),some (.ref a),some (.bl w)]) ⟨rfl,Same.refl _,_,rfl⟩ (fun k acc σ H' hk p=> ?_) (by rw[iz];omega) (fun k acc σ H' hk p=> ?_) (fun acc σ H' p=> ?_)
 ·rw[p.1,aH];exact cQ (vo _ _) (by unfold rng;simp)
 ·obtain⟨rfl,sm,o,rfl⟩:=p;have ek:(0+(k:Int))=(k:Int):=by omega
  rw[ek];have e:∀b,b=(!decide ((k:Int)=i)&&(aU ts i (k:Int)==w))->((rng (k+1)).filter fun p=> !decide (p=i)&&(aU ts i p==w))=((rng k).filter fun p=> !decide (p=i)&&(aU ts i p==w))++(if b=true then[(k:Int)]else[]):=fun b hb=>by
   rw[J2,Dy,Ax,hb];rfl
  refine⟨_,rfl,_,rfl,rfl,_,rfl,?_⟩;rw[Pu];refine ite2 (fun c=> ?_) (fun c=> ?_)
  ·refine⟨_,rfl,_,rfl,_,rfl,a,n,_,_,ts,rfl,(hA.same sm).web,fun H5 s5=>⟨_,rfl,rfl,_,rfl,?_⟩⟩;rw[blV_eq,tied_eq hA.pk];refine ite2 (fun c2=> ?_) (fun c2=> ?_)
   ·exact⟨_,rfl,by rw[e true (by rw[c,c2];rfl),cg];rfl,sm.trans s5,_,rfl⟩
   ·exact⟨by rw[e false (by rw[c,Bool.eq_false_iff.mpr c2];rfl)];simp,sm.trans s5,_,rfl⟩
  ·exact⟨by rw[e false (by rw[Bool.eq_false_iff.mpr c];rfl)];simp,sm,_,rfl⟩
 ·intro p1 hp1;obtain⟨rfl,sm,_⟩:=p;exact q p1 _ (sm.trans (aK hp1 _)) aA (sm.free hp1)
noncomputable def Ms(K:W.Frag)(H:Hp)(r:Addr)(ss:List (List Int)):Prop:=∃its:List (Addr×List Int),H r=some (.lst (its.map fun p=>V.ref p.1))/\(∀p∈its,SqT K H p.1 (p.2.map V.int))/\its.map (fun p=>p.2)=ss
noncomputable def bw(ss:List (List Int))(ts:L0)(w:Bool)(n:Nat):Prop:=ss.Perm (jZ ts w n)/\ss.Pairwise fun a b=>HT.lexLt b a=false
theorem Qf{ts:L0}{w:Bool}{n:Nat}(h2:2<=(jZ ts w n).length):∀s∈jZ ts w n,s≠[]:=by
 intro s hs e;subst e;have F:=Fx hs;cases n with
 |zero=>
  have:(jZ ts w 0).length<=1:=by
   show(([[]]:List (List Int)).filter (oV ts w 0)).length<=1;exact vo _ _
  omega
 |succ n=>
  obtain⟨x,hx,_⟩:=F.max 0 (gM.mpr ⟨by omega,by omega⟩) (by simp);cases hx
structure Y5(K:W.Frag)(H:Hp)(ts:L0)(w:Bool)(n:Nat)(q:Addr×Addr×Addr×List Int):Prop where
 pr:SqT K H q.1 [.ref q.2.1,.ref q.2.2.1]
 so:SqT K H q.2.1 (q.2.2.2.map V.int)
 le:H q.2.2.1=some (.lst ((jA ts w n q.2.2.2).map V.int))
theorem Y5.same{H H':Hp}{ts:L0}{w:Bool}{n:Nat}{q:Addr×Addr×Addr×List Int}(h:Y5 K H ts w n q)(e:Same H H'):Y5 K H' ts w n q:=⟨e.tup h.pr,e.tup h.so,e _ _ h.le⟩
noncomputable def Mv(K:W.Frag)(H:Hp)(fd:Addr)(ts:L0)(w:Bool)(n:Nat)(ss:List (List Int)):Prop:=∃its:List (Addr×Addr×Addr×List Int),H fd=some (.lst (its.map fun q=>V.ref q.1))/\(∀q∈its,Y5 K H ts w n q)/\its.map (fun q=>q.2.2.2)=ss
noncomputable def sO(K:W.Frag):Sp:=fun vs H Q _=>∃(fl:Addr) (fas:List Addr) (ts:L0) (w:Bool) (n:Nat),vs=[.ref fl]/\H fl=some (.lst (fas.map V.ref))/\fas.length=n/\n<=10/\(∀(i:Nat) f,fas[i]? =some f->H f=some (.lst ((oW ts w n (i:Int)).map V.int)))/\
 ∀r ss H',Same H H'->Ms K H' r ss->bw ss ts w n->H r=none->Q (.ref r) H'
theorem yW{f f1:Addr}{fd d1:ρ}(F:Fun K "full_sets" "full_sets" jU f fd)(D1:bJ K mg "in_both" pW ["ones","others"] f1 d1)(G1:FnOk P w K mg base CX0 1 f1 d1 ["ones","others"] (yE K))(dI:mg "list"=none)(aN:mg "range"=none)(bY:mg "len"=none)(eE:mg "sorted"=none):
  FnOk P w K mg base CX0 2 f fd ["friends"] (sO K):=by
 refine F.cG ["friends","found","place","wider"] fun cdv A outer s H vs Q E hr h=> ?_;obtain⟨fl,fas,ts,w,n,rfl,hF,hn,h10,hfr,q⟩:=h;refine⟨_,(aM (pS 1 (pe_lst (aj (fu (aj (fu ak) (aj (qJ rfl rfl dI rfl aN (aj (pB vg bY (aj (pv 0) ak)) ak)) ak))) ak))) (aM (ps_for Iw rfl (HW rfl aN (aj (pB vg bY (aj (pv 0) ak)) ak)) (pG 2) (aM (pX 3 ["some","left"] ["place","friends"] [2,0] (Ag (pv 1)) (HS K (n:=2) rfl (nF (pG 0) (nF (pG 1) Ai))) (Ak (dO (lA K hr.units) (pv 2) (pv 1) (by with_unfolding_all rfl))) (fu (aj (bK (Ka K) (pv 0) (fu (aj (pv 2) ak))) (aj (pc G1 hr D1 (aj (pv 1) (aj (aP (gj K) (pv 3) (pv 2)) ak))) ak)))) (aX (pS 1 (bK op_cat (pv 1) (pv 3)))))) (aX (bM (pB xM eE (aj (pK ["some","left"] [] [] (Ag (pv 1)) (HS K (n:=2) rfl (nF (pG 0) (nF (pG 1) Ai))) (Ak (pI (Gz K (pv 1) (fun _=>rfl)))) (pv 0)) ak)))))),?_⟩;have el:((fas.map V.ref).length:Int)=(n:Int):=by rw[aH,hn]
 refine⟨(by show 0<=sizeLine;decide),fun e1 he1=> ?_⟩;have s1:=aK he1 (.tup []);have t1:SqT K (upd H e1 (.tup [])) e1 []:=SqT.of aA;generalize (upd H e1 (.tup []))=H1 at *;refine⟨_,rfl,fl,_,rfl,.inl (SqL.of (s1 _ _ hF)),fun _=>⟨_,rfl,by omega,by rw[el];omega,fun rl hrl=> ?_⟩⟩;have er:eX ((fas.map V.ref).length:Int).toNat=(rng n).map V.int:=by rw[el,Nt,Jh]
 rw[er];have s2:=aK hrl (.lst ((rng n).map V.int));have t2:(upd H1 rl (.lst ((rng n).map V.int))) rl=some (.lst ((rng n).map V.int)):=aA;generalize (upd H1 rl (.lst ((rng n).map V.int)))=H2 at *;refine⟨(by show 2<=sizeLine;decide),fun e3 he3=> ?_⟩;have s3:=aK he3 (.tup [.ref e1,.ref rl]);have t3:SqT K (upd H2 e3 (.tup [.ref e1,.ref rl])) e3 [.ref e1,.ref rl]:=SqT.of aA;generalize (upd H2 e3 (.tup [.ref e1,.ref rl]))=H3 at *;refine⟨(by show 1<=sizeLine;decide),fun fd hfd=> ?_⟩;have s4:=aK hfd (.lst [.ref e3]);have F4:Mv K (upd H3 fd (.lst [.ref e3])) fd ts w n (bN ts w 0):=by
  refine⟨[(e3,e1,rl,[])],aA,fun q hq=> ?_,rfl⟩;rw[kO.mp hq];exact⟨s4.tup t3,s4.tup (s3.tup (s2.tup t1)),by rw[KZ];exact s4 _ _ (s3 _ _ t2)⟩
 have s04:=s1.trans (s2.trans (s3.trans s4));generalize (upd H3 fd (.lst [.ref e3]))=H4 at *;refine⟨_,rfl,fl,_,rfl,.inl (SqL.of (s04 _ _ hF)),fun _=>⟨_,rfl,by omega,by rw[el];omega,?_⟩⟩;have en:((fas.map V.ref).length:Int).toNat=n:=by rw[el,Nt]
 rw[en];refine Qx (n:=n) (fun k σ H'=>Same H H'/\∃fd b2 b3,Mv K H' fd ts w n (bN ts w k)/\σ=[some (.ref fl),some (.ref fd),b2,b3]) ⟨s04,fd,_,_,F4,rfl⟩ (fun k σ H' hk p=> ?_) (fun σ H' p=> ?_)
 ·obtain⟨s5,fd,b2,b3,F5,rfl⟩:=p;have ek:(0+(k:Int))=(k:Int):=by omega
  rw[ek];obtain⟨its,f1,f2,f3⟩:=F5;have hlen:its.length<=1024:=by
   have a:=yL (ts:=ts) (w:=w) k;rw[<-f3,aH]at a;have b:2^k<=2^10:=Nat.pow_le_pow_right (by decide) (by omega);have c:2^10=1024:=by decide
   omega
  have hkf:k<fas.length:=by omega
  have hfk:(fas.map V.ref)[k]? =some (.ref fas[k]):=by rw[dY,eO hkf];rfl
  have hgk:=hfr k fas[k] (eO hkf);refine⟨_,rfl,fd,_,rfl,SqL.of f1,fun hzf=> ?_⟩;refine Am (xs:=its.map fun q=>V.ref q.1) (fun i acc σ xR=>(∃its2:List (Addr×Addr×Addr×List Int),acc=its2.map (fun q=>V.ref q.1)/\(∀q∈its2,Y5 K xR ts w n q)/\its2.map (fun q=>q.2.2.2)=(((bN ts w k).take i).filter fun s=>goB ts w s (k:Int)).map fun s=>s++[(k:Int)])/\Same H' xR/\∃o1 o2,σ=[o1,o2,some (.int (k:Int)),some (.ref fl)]) ⟨⟨[],rfl,fun q hq=>(nomatch hq),rfl⟩,Same.refl _,_,_,rfl⟩ (fun i acc σ xR _ p=>p.2.1.seq (SqL.of f1)) (fun i acc σ xR hi p=> ?_) hzf (fun i x acc σ xR hx p=> ?_) (fun acc σ xR p=> ?_)
  ·obtain⟨⟨its2,rfl,g2,g3⟩,_⟩:=p;have a:=jz List.length g3;rw[aH,aH]at a;rw[aH,a];exact cQ (vo _ _) (by rw[uH];exact Av _ _)
  ·obtain⟨⟨its2,rfl,g2,g3⟩,sm,o1,o2,rfl⟩:=p;rw[dY]at hx;cases ex:its[i]? with
   |none=>rw[ex]at hx;cases hx
   |some v=>
    rw[ex]at hx;cases hx;have fv:=(f2 v (qQ ex)).same sm;have hsv:(bN ts w k)[i]? =some v.2.2.2:=by rw[<-f3,dY,ex];rfl
    obtain⟨hi,esv⟩:=pO.mp hsv;have Sv:=iW k v.2.2.2 (qQ hsv);have e:=Zo (p:=fun s=>goB ts w s (k:Int)) hi;rw[esv]at e;refine⟨v.1,_,rfl,fv.pr,rfl,_,_,rfl,_,_,rfl,rfl,?_⟩;refine⟨_,rfl,_,rfl,v.2.2.1,_,_,.int (k:Int),rfl,.inl (SqL.of fv.le),cO.ints _,.int _,Nf _,rfl,(by show 0<=60;decide),_,rfl,?_⟩;rw[any_ints,Py Sv hk];refine ite2 (fun c=> ?_) (fun c=> ?_)
    ·refine⟨_,rfl,_,rfl,(by show 1<=sizeLine;decide),fun e5 he5=> ?_⟩;have s6:=aK he5 (.tup [.int (k:Int)]);have t6:SqT K (upd xR e5 (.tup [.int (k:Int)])) e5 [.int (k:Int)]:=SqT.of aA;generalize (upd xR e5 (.tup [.int (k:Int)]))=H6 at *;have hvl:v.2.2.2.length<=10:=by
      have a:=iG (l:=v.2.2.2) (m:=rng n) (Sv.up.imp fun{x y} h=>by omega) (fun x hx=>gM.mpr (by have:=Sv.lt x hx;omega));have b:(rng n).length=n:=by unfold rng;simp
      omega
     refine⟨v.2.1,e5,_,_,rfl,rfl,s6.tup fv.so,t6,(by rw[aH,iz];show v.2.2.2.length+1<=_;omega),fun r7 H7 s7 h7=> ?_⟩;have s67:=s6.trans s7;refine⟨_,rfl,_,rfl,_,rfl,fl,_,_,.ref fas[k],rfl,rfl,SqL.of ((s5.trans (sm.trans s67)) _ _ hF),HN hfk,v.2.2.1,fas[k],_,_,rfl,SqL.of (s67 _ _ fv.le),SqL.of ((s5.trans (sm.trans s67)) _ _ hgk),fun r8 H8 s8 h8 n8=> ?_⟩;refine⟨(by show 2<=sizeLine;decide),fun e9 he9=> ?_⟩;have s9:=aK he9 (.tup [.ref r7,.ref r8]);have s69:=s67.trans (s8.trans s9);refine⟨⟨its2++[(e9,r7,r8,v.2.2.2++[(k:Int)])],by rw[cg];rfl,fun q hq=> ?_,by rw[cg,g3,e,au c,cg];rfl⟩,sm.trans s69,_,_,rfl⟩;rcases pL.mp hq with z|z
     ·exact(g2 q z).same s69
     ·rw[kO.mp z];refine⟨SqT.of aA,s9.tup (s8.tup ?_),by rw[Ho];exact s9 _ _ h8⟩;rw[cg];exact h7
    ·exact⟨⟨its2,rfl,g2,by rw[g3,e,aq c,Aw]⟩,sm,_,_,rfl⟩
  ·intro p1 hp1;obtain⟨⟨its2,rfl,g2,g3⟩,sm,o1,o2,rfl⟩:=p;have hle:(its.map fun q=>V.ref q.1).length=(bN ts w k).length:=by rw[aH,<-f3,aH]
   rw[hle,rW]at g3;have s6:=aK hp1 (.lst (its2.map fun q=>V.ref q.1));have l2:its2.length<=1024:=by
    have a:=jz List.length g3;rw[aH,aH]at a;have b:=vo (fun s=>goB ts w s (k:Int)) (bN ts w k);rw[<-f3,aH]at b;rw[<-f3]at a;omega
   refine⟨_,rfl,_,rfl,fd,p1,_,_,rfl,rfl,(sm.trans s6) _ _ f1,aA,by rw[aH,aH,iz];omega,fun p2 hp2=> ?_⟩;have s7:=aK hp2 (.lst ((its.map fun q=>V.ref q.1)++(its2.map fun q=>V.ref q.1)));refine⟨s5.trans (sm.trans (s6.trans s7)),p2,_,_,⟨its++its2,by rw[aA,cg],fun q hq=> ?_,by rw[cg,f3,g3];rfl⟩,rfl⟩;rcases pL.mp hq with z|z
   ·exact(f2 q z).same (sm.trans (s6.trans s7))
   ·exact(g2 q z).same (s6.trans s7)
 ·obtain⟨s5,fd,b2,b3,⟨its,f1,f2,f3⟩,rfl⟩:=p;refine⟨_,rfl,fd,_,rfl,SqL.of f1,fun hzf=> ?_⟩;refine Am (xs:=its.map fun q=>V.ref q.1) (fun i acc σ xR=>(∃its2:List (Addr×List Int),acc=its2.map (fun q=>V.ref q.1)/\(∀q∈its2,SqT K H' q.1 (q.2.map V.int))/\its2.map (fun q=>q.2)=((bN ts w n).take i).filter (oV ts w n))/\Same H' xR/\∃o1 o2,σ=[o1,o2]) ⟨⟨[],rfl,fun q hq=>(nomatch hq),rfl⟩,Same.refl _,_,_,rfl⟩ (fun i acc σ xR _ p=>p.2.1.seq (SqL.of f1)) (fun i acc σ xR hi p=> ?_) hzf (fun i x acc σ xR hx p=> ?_) (fun acc σ xR p=> ?_)
  ·obtain⟨⟨its2,rfl,g2,g3⟩,_⟩:=p;have a:=jz List.length g3;rw[aH]at a;rw[aH,a];exact cQ (vo _ _) (by rw[uH];exact Av _ _)
  ·obtain⟨⟨its2,rfl,g2,g3⟩,sm,o1,o2,rfl⟩:=p;rw[dY]at hx;cases ex:its[i]? with
   |none=>rw[ex]at hx;cases hx
   |some v=>
    rw[ex]at hx;cases hx;have fv:=f2 v (qQ ex);have hsv:(bN ts w n)[i]? =some v.2.2.2:=by rw[<-f3,dY,ex];rfl
    obtain⟨hi,esv⟩:=pO.mp hsv;have e:=Zo (p:=oV ts w n) hi;rw[esv]at e;refine⟨v.1,_,rfl,sm.tup fv.pr,rfl,_,_,rfl,_,_,rfl,rfl,?_⟩;refine⟨_,rfl,_,.inl ⟨_,SqL.of (sm _ _ fv.le),rfl⟩,?_⟩;have eb:(!!((jA ts w n v.2.2.2).map V.int).isEmpty)=oV ts w n v.2.2.2:=by
     rw[Bool.not_not,<-Hq];cases jA ts w n v.2.2.2<;>rfl
    dsimp only;rw[eb];refine ite2 (fun c=> ?_) (fun c=> ?_)
    ·refine⟨_,rfl,⟨its2++[(v.2.1,v.2.2.2)],by rw[cg];rfl,fun q hq=> ?_,by rw[cg,g3,e,au c];rfl⟩,sm,_,_,rfl⟩;rcases pL.mp hq with z|z
     ·exact g2 q z
     ·rw[kO.mp z];exact fv.so
    ·exact⟨⟨its2,rfl,g2,by rw[g3,e,aq c,Aw]⟩,sm,_,_,rfl⟩
  ·intro p1 hp1;obtain⟨⟨its2,rfl,g2,g3⟩,sm,_⟩:=p;have hle:(its.map fun q=>V.ref q.1).length=(bN ts w n).length:=by rw[aH,<-f3,aH]
   rw[hle,rW]at g3;have g4:its2.map (fun q=>q.2)=jZ ts w n:=g3;have hl2:its2.length=(jZ ts w n).length:=by rw[<-g4,aH]
   have h36:=vO (ts:=ts) (w:=w) h10;have s6:=aK hp1 (.lst (its2.map fun q=>V.ref q.1));refine⟨p1,its2,rfl,SqL.of aA,fun p hp=>⟨(sm.trans s6).tup (g2 p hp),fun h2=> ?_⟩,by omega,fun l its' hl hpm hpw=> ?_⟩
   ·exact Qf (ts:=ts) (w:=w) (n:=n) (by omega) p.2 (by rw[<-g4];exact iK.mpr ⟨p,hp,rfl⟩)
   ·have s7:=aK hl (.lst (its'.map fun q=>V.ref q.1));have s57:=s5.trans (sm.trans (s6.trans s7));refine q l (its'.map fun q=>q.2) _ s57 ⟨its',aA,fun p hp=>(sm.trans (s6.trans s7)).tup (g2 p (hpm.mem_iff.mp hp)),rfl⟩ ⟨?_,?_⟩ ((s5.trans (sm.trans s6)).free hl)
    ·rw[<-g4];exact hpm.map _
    ·rw[Nr];exact hpw
noncomputable def jM(K:W.Frag):Sp:=fun vs H Q _=>∃(a:Addr) (n:Int) (ts:L0),vs=[.ref a]/\aJ K H a n ts/\∀r ss H',Same H H'->Ms K H' r ss->bw ss ts false n.toNat->H r=none->Q (.ref r) H'
theorem wL{f f1 f2 f3:Addr}{fd d1 d2 d3:ρ}(F:Fun K "full_apart" "full_apart" fG f fd)(D1:bJ K mg "need_web" Nj ["thing"] f1 d1)(G1:FnOk P w K mg base CX0 7 f1 d1 ["thing"] (dh K))(D2:bJ K mg "full_sets" jU ["friends"] f2 d2)(G2:FnOk P w K mg base CX0 2 f2 d2 ["friends"] (sO K))(D3:bJ K mg "places_by_tie" zdh ["web","place","tied"] f3 d3)(G3:FnOk P w K mg base CX0 2 f3 d3 ["web","place","tied"] (Ek K))(aN:mg "range"=none):
  FnOk P w K mg base CX0 8 f fd ["web"] (jM K):=by
 refine F.cG ["web"] fun cdv A outer s H vs Q E hr h=> ?_;obtain⟨a,n,ts,rfl,hA,q⟩:=h;refine⟨_,(aM (lY (pc G1 hr D1 (aj (pv 0) ak))) (aX (bM (pc G2 hr D2 (aj (pK ["place"] ["web"] [0] (HW rfl aN (aj (aP bZ (pv 0) aB) ak)) (pG 0) pD (pc G3 hr D3 (aj (pv 1) (aj (pv 0) (aj pe_bl ak))))) ak))))),?_⟩;have h0:=hA.h0;have h10:=hA.h1;refine⟨_,rfl,_,_,rfl,hA.web.dv.dx,hA.ok,fun H1 s1=> ?_⟩;have hA1:=hA.same s1;obtain⟨ta,ra,a1,a2,a3⟩:=id hA1.web;refine⟨_,rfl,a,_,_,.int n,rfl,rfl,a1,rfl,n,rfl,by omega,by omega,?_⟩;refine Qy (n:=n.toNat) (fun k acc σ H'=>(∃fas:List Addr,acc=fas.map V.ref/\fas.length=k/\∀(i:Nat) f,fas[i]? =some f->H' f=some (.lst ((oW ts false n.toNat (i:Int)).map V.int)))/\Same H1 H'/\∃o,σ=[o,some (.ref a)]) ⟨⟨[],rfl,rfl,fun i f h=>by simp at h⟩,Same.refl _,_,rfl⟩ (fun k acc σ H' hk p=> ?_) (by rw[iz];omega) (fun k acc σ H' hk p=> ?_) (fun acc σ H' p=> ?_)
 ·obtain⟨⟨fas,rfl,hl,_⟩,_⟩:=p;rw[aH];omega
 ·obtain⟨⟨fas,rfl,hl,hf⟩,sm,o,rfl⟩:=p;have ek:(0+(k:Int))=(k:Int):=by omega
  rw[ek];refine⟨_,rfl,_,rfl,a,n,_,ts,false,rfl,hA1.same sm,fun r H5 s5 h5 n5=>⟨⟨fas++[r],by rw[cg];rfl,by rw[rE,hl];rfl,fun i f hi=> ?_⟩,sm.trans s5,_,rfl⟩⟩;by_cases c:i<fas.length
  ·rw[yed c]at hi;exact s5 _ _ (hf i f hi)
  ·have hb:i<(fas++[r]).length:=(pO.mp hi).1;rw[rE]at hb;have e:i=fas.length:=by have:[r].length=1:=rfl;omega
   rw[e,ZF (aR _),Nat.sub_self]at hi;cases hi;rw[e,hl];exact h5
 ·intro p1 hp1;obtain⟨⟨fas,rfl,hl,hf⟩,sm,_⟩:=p;have s6:=aK hp1 (.lst (fas.map V.ref));exact⟨p1,fas,ts,false,n.toNat,rfl,aA,hl,by omega,fun i f hi=>s6 _ _ (hf i f hi),fun r ss H7 s7 h7 h8 n7=>q r ss H7 (s1.trans (sm.trans (s6.trans s7))) h7 h8 ((s1.trans (sm.trans s6)).free n7)⟩
end
end Hs
namespace L2
open PySem PySem.Spec PyProof.Rows
theorem Ml{n:Nat}(h:n<=10^200):n<2^700:=Gh h (by decide+kernel)
section
variable{X:Cx}
theorem yS:OpR X (binaryOp .FloorDiv) (rI (fun _ j=>0<j/\j.natAbs<=10^200) fun i j=> .int (i/j)):=opI fun i j _ _ _ _ _ hc q=>by
 have h1:(0:Int)<j:=hc.1;refine floordiv_int (by omega) ?_ (Or.inl (wdm ?_))
 ·rw[wda _ (by omega)];exact q
 ·have h3:j.natAbs≠0:=by omega
  have h4:=(Nat.log2_lt h3).mpr (Ml hc.2);omega
end
end L2
namespace Hs
open PySem L2 o9
theorem K9(m n:Nat):Nat.gcd n (m %n)=Nat.gcd m n:=by
 rw[Nat.gcd_comm m n,Nat.gcd_rec n m,Nat.gcd_comm]
structure Low(a:Int)(b:Nat)(u:Int)(v:Nat):Prop where
 pos:0<v
 cop:Nat.gcd u.natAbs v=1
 eq:u*(b:Int)=a*(v:Int)
 lu:u.natAbs<=a.natAbs
 lv:v<=b
 nn:0<=a->0<=u
theorem KJ(a:Int)(b:Nat)(hb:0<b):Low a b (a/((Nat.gcd a.natAbs b:Nat):Int)) (b/Nat.gcd a.natAbs b):=by
 have hg:0<Nat.gcd a.natAbs b:=wdo _ hb;obtain⟨x,hx⟩:((Nat.gcd a.natAbs b:Nat):Int)∣a:=Int.natAbs_dvd_natAbs.mp (by rw[RK];exact Nat.gcd_dvd_left _ _);obtain⟨y,hy⟩:=Wk a.natAbs b;generalize hgg:Nat.gcd a.natAbs b=g at *;have e1:a/(g:Int)=x:=by rw[hx];exact wdn _ (by omega)
 have e2:b/g=y:=by rw[hy];exact M4 _ hg
 rw[e1,e2];have hna:a.natAbs=g*x.natAbs:=by rw[hx,RB];rfl
 have hy0:0<y:=by
  rcases Vw y with h|h
  ·subst h;simp at hy;omega
  ·exact h
 refine⟨hy0,?_,?_,?_,?_,fun h=> ?_⟩
 ·have h2:Nat.gcd (g*x.natAbs) (g*y)=g:=by rw[<-hna,<-hy];exact hgg
  rw[Nat.gcd_mul_left]at h2;have h3:g*Nat.gcd x.natAbs y=g*1:=by omega
  exact Nat.eq_of_mul_eq_mul_left hg h3
 ·rw[hx];have:(b:Int)=(g:Int)*(y:Int):=by rw[hy];exact Vu _ _
  rw[this,HY (g:Int) x,Np]
 ·rw[hna];exact wej _ hg
 ·rw[hy];exact wej _ hg
 ·rw[<-e1];exact weo h (by omega)
theorem abs_eq(i:Int):(if i<0 then -i else i)=((i.natAbs:Nat):Int):=by split<;>omega
theorem UL(a:Int)(b:Nat)(hb:0<b):Nat.gcd a.natAbs b<=b:=wfa hb (Wk _ _)
end Hs
namespace Hs
open PySem L2
theorem bA{X:Cx}{b:List Stmt}{R:TS->Prop}(h:let Y:=X;∃t,PSs Y b t/\R t):∃t,PSs X b t/\R t:=h
theorem oO{t1 t2:TS}{D:Ends}{σ:St}{H:Hp}(h:let c2:=t2;tSeq t1 c2 D σ H):(tSeq t1 t2) D σ H:=h
theorem oN{t1 t2 t3:TS}{D:Ends}{σ:St}{H:Hp}(h:let c3:=t3;let c2:=tSeq t2 c3;tSeq t1 c2 D σ H):(tSeq t1 (tSeq t2 t3)) D σ H:=h
theorem vM{t1 t2 t3 t4:TS}{D:Ends}{σ:St}{H:Hp}(h:let c4:=t4;let c3:=tSeq t3 c4;let c2:=tSeq t2 c3;tSeq t1 c2 D σ H):(tSeq t1 (tSeq t2 (tSeq t3 t4))) D σ H:=h
theorem Fp{t1 t2 t3 t4 t5:TS}{D:Ends}{σ:St}{H:Hp}(h:let c5:=t5;let c4:=tSeq t4 c5;let c3:=tSeq t3 c4;let c2:=tSeq t2 c3;tSeq t1 c2 D σ H):(tSeq t1 (tSeq t2 (tSeq t3 (tSeq t4 t5)))) D σ H:=h
theorem K5{t1 t2 t3 t4 t5 t6:TS}{D:Ends}{σ:St}{H:Hp}(h:let c6:=t6;let c5:=tSeq t5 c6;let c4:=tSeq t4 c5;let c3:=tSeq t3 c4;let c2:=tSeq t2 c3;tSeq t1 c2 D σ H):(tSeq t1 (tSeq t2 (tSeq t3 (tSeq t4 (tSeq t5 t6))))) D σ H:=h
theorem X5{t1 t2 t3 t4 t5 t6 t7 t8:TS}{D:Ends}{σ:St}{H:Hp}(h:let c8:=t8;let c7:=tSeq t7 c8;let c6:=tSeq t6 c7;let c5:=tSeq t5 c6;let c4:=tSeq t4 c5;let c3:=tSeq t3 c4;let c2:=tSeq t2 c3;tSeq t1 c2 D σ H):(tSeq t1 (tSeq t2 (tSeq t3 (tSeq t4 (tSeq t5 (tSeq t6 (tSeq t7 t8))))))) D σ H:=h
theorem X4{t1 t2 t3 t4 t5 t6 t7 t8 t9:TS}{D:Ends}{σ:St}{H:Hp}(h:let c9:=t9;let c8:=tSeq t8 c9;let c7:=tSeq t7 c8;let c6:=tSeq t6 c7;let c5:=tSeq t5 c6;let c4:=tSeq t4 c5;let c3:=tSeq t3 c4;let c2:=tSeq t2 c3;tSeq t1 c2 D σ H):(tSeq t1 (tSeq t2 (tSeq t3 (tSeq t4 (tSeq t5 (tSeq t6 (tSeq t7 (tSeq t8 t9)))))))) D σ H:=h
theorem Uw{t1 t2 t3 t4 t5 t6 t7 t8 t9 t10:TS}{D:Ends}{σ:St}{H:Hp}(h:let c10:=t10;let c9:=tSeq t9 c10;let c8:=tSeq t8 c9;let c7:=tSeq t7 c8;let c6:=tSeq t6 c7;let c5:=tSeq t5 c6;let c4:=tSeq t4 c5;let c3:=tSeq t3 c4;let c2:=tSeq t2 c3;tSeq t1 c2 D σ H):(tSeq t1 (tSeq t2 (tSeq t3 (tSeq t4 (tSeq t5 (tSeq t6 (tSeq t7 (tSeq t8 (tSeq t9 t10))))))))) D σ H:=h
end Hs
namespace Hs
open PySem L2 o9
section
variable{P:ξ}{w:τ}{K:W.Frag}{mg:L4}{base:Heap}
noncomputable def Sg(K:W.Frag):Sp:=fun vs H Q _=>∃(m n:Nat),vs=[.int m,.int n]/\Q (.int ((Nat.gcd m n:Nat):Int)) H
theorem Xj{f:Addr}{fd:ρ}(F:Fun K "greatest_divisor" "greatest_divisor" Zt f fd):FnOk P w K mg base CX0 1 f fd ["one","other"] (Sg K):=by
 refine F.cG ["one","other","rest"] fun cdv A outer s H vs Q E hr h=> ?_;obtain⟨m,n,rfl,q⟩:=h;refine bA ?_;intro Y;refine⟨_,aM (ps_while Iw (pt_truth (pv 1) (fun _=>rfl)) (aM (pS 2 (bK op_mod (pv 0) (pv 1))) (aM (pS 0 (pv 1)) (aX (pS 1 (pv 2)))))) (aX (bM (pv 0))),?_⟩;refine oO ?_;intro c2;refine⟨fun k σ H'=>H'=H/\∃(m':Nat) (r:Option V),σ=[some (.int (m':Int)),some (.int (k:Int)),r]/\Nat.gcd m' k=Nat.gcd m n,⟨n,rfl,m,_,rfl,rfl⟩,?_⟩;rintro k σ H' ⟨rfl,m',r,rfl,hg⟩;refine⟨_,rfl,_,rfl,?_⟩;refine ite2 (fun c=> ?_) (fun c=> ?_)
 ·have hk:0<k:=by
   rcases Vw k with h|h
   ·subst h;exact absurd c (by decide)
   ·exact h
  refine⟨fun σ' H2=>H2=H'/\∃r',σ'=[some (.int (k:Int)),some (.int ((m' %k:Nat):Int)),r'],fun σ' H2 ⟨e1,r',e2⟩=>⟨m' %k,Nat.mod_lt _ hk,e1,k,r',e2,?_⟩,?_⟩
  ·rw[K9];exact hg
  ·exact⟨_,rfl,_,rfl,_,_,rfl,rfl,Int.ofNat_lt.mpr hk,_,rfl,_,rfl,rfl,_,rfl⟩
 ·have hk:k=0:=by
   rcases Vw k with h|h
   ·exact h
   ·exfalso;apply c;show((k:Int) !=0)=true;simp;omega
  subst hk;rw[Nat.gcd_zero_right]at hg;refine⟨_,rfl,?_⟩;rw[hg];exact q
noncomputable def vG(K:W.Frag):Sp:=fun vs H Q _=>∃(a:Int) (b:Nat),vs=[.int a,.int b]/\0<b/\b<=10^200/\∀p H' u v,Same H H'->H' p=some (.tup [.int u,.int ((v:Nat):Int)])->Low a b u v->Q (.ref p) H'
theorem Pk{H:Hp}{a:Int}{b:Nat}{p:Addr}(hp:H p=none):(upd H p (.tup [.int (a/((Nat.gcd a.natAbs b:Nat):Int)),.int ((b:Int)/((Nat.gcd a.natAbs b:Nat):Int))])) p=some (.tup [.int (a/((Nat.gcd a.natAbs b:Nat):Int)),.int (((b/Nat.gcd a.natAbs b:Nat)):Int)]):=by
 rw[aA,weg]
theorem TQ{f f1:Addr}{fd d1:ρ}(F:Fun K "lowest" "lowest" fL f fd)(D1:bJ K mg "greatest_divisor" Zt ["one","other"] f1 d1)(G1:FnOk P w K mg base CX0 1 f1 d1 ["one","other"] (Sg K))(mA:mg "abs"=none):
  FnOk P w K mg base CX0 2 f fd ["a","b"] (vG K):=by
 refine F.cG ["a","b","by"] fun cdv A outer s H vs Q E hr h=> ?_;obtain⟨a,b,rfl,hb,hB,q⟩:=h;refine bA ?_;intro Y;refine⟨_,aM (pS 2 (pc G1 hr D1 (aj (pB call_abs mA (aj (pv 0) ak)) (aj (pv 1) ak)))) (aX (bM (fu (aj (bK yS (pv 0) (pv 2)) (aj (bK yS (pv 1) (pv 2)) ak))))),?_⟩;refine oO ?_;intro c2;refine⟨_,rfl,a,rfl,_,rfl,a.natAbs,b,?_,?_⟩
 ·rw[abs_eq];rfl
 have hg:0<Nat.gcd a.natAbs b:=wdo _ hb;have hg2:(((Nat.gcd a.natAbs b:Nat):Int)).natAbs<=10^200:=cQ (UL a b hb) hB;refine⟨_,rfl,_,rfl,_,_,rfl,rfl,⟨Int.ofNat_lt.mpr hg,hg2⟩,_,rfl,_,rfl,_,_,rfl,rfl,⟨Int.ofNat_lt.mpr hg,hg2⟩,(by show 2<=sizeLine;decide),fun p hp=> ?_⟩;exact q p _ _ _ (aK hp _) (Pk hp) (KJ a b hb)
noncomputable def aZ(n:Nat)(X:Nat->Int):List V:=((List.range (n+1)).map X).map V.int
noncomputable def bU(n:Nat)(c:Nat->Nat):List Int:=(List.range n).map fun k=>((c k:Nat):Int)
noncomputable def flds(cl co ro:Addr)(o:Int):List (Str×V):=[("cells",.ref cl),("over",.int o),("columns",.ref co),("rows",.ref ro)]
structure cD(K:W.Frag)(C:Addr)(H0 H:Hp)(o dx cl co ro:Addr)(rws:List Addr)(n m:Nat)(T:Sx.Tab):Prop where
 same:Same H0 H
 o0:H0 o=none
 Vg:H0 cl=none
 Rp:H0 co=none
 Rf:H0 ro=none
 ne:co≠ro
 nc:co∉rws
 nr:ro∉rws
 at_:H o=some (.ins C dx (flds cl co ro T.over))
 cells:H cl=some (.lst (rws.map V.ref))
 len:rws.length=m+1
 row:∀r a,rws[r]? =some a->H a=some (.lst (aZ n (T.cell r)))
 cols:H co=some (.lst ((bU n T.col).map V.int))
 rows:H ro=some (.lst ((bU m T.row).map V.int))
noncomputable def j6(K:W.Frag)(C:Addr)(H0 H:Hp)(o:Addr)(n m:Nat)(T:Sx.Tab):Prop:=∃dx cl co ro rws,cD K C H0 H o dx cl co ro rws n m T
theorem cD.sm{C:Addr}{H0 H H':Hp}{o dx cl co ro:Addr}{rws:List Addr}{n m:Nat}{T:Sx.Tab}(h:cD K C H0 H o dx cl co ro rws n m T)(s:Same H H'):cD K C H0 H' o dx cl co ro rws n m T:=
 ⟨h.same.trans s,h.o0,h.Vg,h.Rp,h.Rf,h.ne,h.nc,h.nr,s _ _ h.at_,s _ _ h.cells,h.len,fun r a e=>s _ _ (h.row r a e),s _ _ h.cols,s _ _ h.rows⟩
theorem j6.sm{C:Addr}{H0 H H':Hp}{o:Addr}{n m:Nat}{T:Sx.Tab}(h:j6 K C H0 H o n m T)(s:Same H H'):j6 K C H0 H' o n m T:=by
 obtain⟨dx,cl,co,ro,rws,h⟩:=h;exact⟨dx,cl,co,ro,rws,h.sm s⟩
structure TG(n m:Nat)(S:Nat->Nat->Bool)(wt:Nat->Int)(T:Sx.Tab):Prop where
 good:Sx.Good n m S wt T
 n10:n<=10
 Xz:m<=40
 wb:∀p,p<n->0<=wt p/\wt p<=99
 cov:∀p,p<n->∃k,k<m/\S k p=true
theorem TG.cell{n m:Nat}{S:Nat->Nat->Bool}{wt:Nat->Int}{T:Sx.Tab}(h:TG n m S wt T){r c:Nat}(hr:r<=m)(hc:c<=n): -4000000000<=T.cell r c/\T.cell r c<=4000000000:=by
 have a:=h.good.Mh h.wb hr hc;have b:=Sx.Ly (k:=n+1) (by have:=h.n10;omega);omega
theorem TG.over{n m:Nat}{S:Nat->Nat->Bool}{wt:Nat->Int}{T:Sx.Tab}(h:TG n m S wt T):0<T.over/\T.over<=39916800:=by
 have a:=h.good.Og;have b:=Sx.Ly (k:=n+1) (by have:=h.n10;omega);exact⟨h.good.pos,by omega⟩
theorem Gf(n:Nat)(X:Nat->Int):(aZ n X).length=n+1:=by unfold aZ;rw[aH,aH,vm]
theorem ou{n c:Nat}(X:Nat->Int)(h:c<=n):(aZ n X)[c]? =some (.int (X c)):=by
 unfold aZ;rw[dY,dY,RL (by omega)];rfl
theorem dZ{n c:Nat}(X:Nat->Int)(h:c<=n):atI (aZ n X) (c:Int)=some (.int (X c)):=HN (ou X h)
theorem atI_last{xs:List V}{v:V}(h:xs[xs.length-1]? =some v)(h0:0<xs.length):atI xs (-1)=some v:=by
 have e:ixN xs.length (-1)=some (xs.length-1):=by
  unfold ixN;rw[aq (by decide),au (by omega)];congr 1;omega
 unfold atI;rw[e];exact h
theorem pY(n:Nat)(X:Nat->Int):atI (aZ n X) (-1)=some (.int (X n)):=atI_last (by rw[Gf];exact ou X (aR n)) (by rw[Gf];omega)
theorem Gg(n:Nat)(c:Nat->Nat):(bU n c).length=n:=by unfold bU;rw[aH,vm]
theorem Dt{n k:Nat}(c:Nat->Nat)(h:k<n):(bU n c)[k]? =some ((c k:Nat):Int):=by
 unfold bU;rw[dY,RL h];rfl
theorem oF{n k:Nat}(c:Nat->Nat)(h:k<n):atI ((bU n c).map V.int) (k:Int)=some (.int ((c k:Nat):Int)):=HN (by rw[dY,Dt c h];rfl)
theorem vL{n k:Nat}(c:Nat->Nat)(v:Nat)(h:k<n):(bU n c).set k (v:Int)=bU n (fun i=>if i=k then v else c i):=by
 refine wce fun i=> ?_;rw[wdp];by_cases hi:i<n
 ·rw[Dt _ hi,Dt _ hi,Gg];by_cases e:k=i
  ·rw[au e,au h,au e.symm]
  ·rw[aq e,aq (lQ e)]
 ·rw[Vx (by rw[Gg];omega),Vx (by rw[Gg];omega),aq (by omega)]
theorem cD.Gu{C:Addr}{H0 H:Hp}{o dx cl co ro:Addr}{rws:List Addr}{n m:Nat}{T:Sx.Tab}(h:cD K C H0 H o dx cl co ro rws n m T){r:Nat}(hr:r<=m):∃a,rws[r]? =some a/\atI (rws.map V.ref) (r:Int)=some (.ref a)/\H a=some (.lst (aZ n (T.cell r))):=by
 have hl:=h.len;have e:rws[r]? =some rws[r]:=eO (by omega);exact⟨rws[r],e,HN (by rw[dY,e];rfl),h.row r _ e⟩
theorem cD.Xc{C:Addr}{H0 H:Hp}{o dx cl co ro:Addr}{rws:List Addr}{n m:Nat}{T:Sx.Tab}(h:cD K C H0 H o dx cl co ro rws n m T):∃a,rws[m]? =some a/\atI (rws.map V.ref) (-1)=some (.ref a)/\H a=some (.lst (aZ n (T.cell m))):=by
 obtain⟨a,e,_,f⟩:=h.Gu (aR m);exact⟨a,e,atI_last (by rw[aH,h.len,dY,Nat.add_sub_cancel,e];rfl) (by rw[aH,h.len];omega),f⟩
noncomputable def Ju(K:W.Frag)(C:Addr):Sp:=fun vs H Q _=>∃(o:Addr) (H0:Hp) (n m:Nat) (S:Nat->Nat->Bool) (wt:Nat->Int) (T:Sx.Tab),vs=[.ref o]/\j6 K C H0 H o n m T/\TG n m S wt T/\
 ((∀c,c<n->0<=T.cell m c)->∀H',Same H H'->Q .non H')/\∀(q:Nat) H',q<n->T.cell m q<0->(∀c,c<n->T.cell m c<0->T.col q<=T.col c)->Same H H'->Q (.int (q:Int)) H'
theorem Tv{f C:Addr}{fd:ρ}(F:Fun K "next_column" "Tableau.next_column" zbs f fd)
  (Cc:Cls K C)(bh:NoAttr K C "cells")(cY:NoAttr K C "over")(aW:NoAttr K C "columns")(cu:NoAttr K C "rows")(cL:mg "enumerate"=none)(yZ:mg "min"=none):
  FnOk P w K mg base CX0 1 f fd ["self"] (Ju K C):=by
 refine F.cG ["self","worth","names"] fun cdv A outer s H vs Q E hr h=> ?_;obtain⟨o,H0,n,m,S,wt,T,rfl,⟨dx,cl,co,ro,rws,hT⟩,hG,q1,q2⟩:=h;refine bA ?_;intro Y;refine⟨_,(aM (pS 1 (aP kJ (gB (pv 0) rfl) (pe_un un_neg aB))) (aM (pX 2 ["k","name"] ["worth"] [1] (rK rfl cL (aj (gB (pv 0) rfl) ak)) (HS K (n:=2) rfl (nF (pG 0) (nF (pG 1) Ai))) (Ak (dO op_lt (aP (gj K) (pv 2) (pv 0)) aB)) (pv 1)) (aX (bM (pe_ifExp (pt_truth (pv 2) (fun _=>rfl)) (pe_bm VL wbv wbw p8 (gB (pv 0) rfl) (aj (pB (Hy rfl) yZ (aj (pv 2) ak)) ak)) pe_non))))),?_⟩;refine oN ?_;intro c3 c2;obtain⟨za,ze,zi,zr⟩:=hT.Xc;refine⟨_,rfl,o,C,dx,_,_,rfl,hT.at_,Cc,bh,rfl,_,rfl,cl,_,_,_,rfl,rfl,SqL.of hT.cells,zi,?_⟩;refine⟨_,rfl,o,C,dx,_,_,rfl,hT.at_,Cc,aW,rfl,false,co,_,rfl,SqL.of hT.cols,fun hz=> ?_⟩;let mZ:Nat->List V->St->Hp->Prop:=fun i acc σ H'=>acc=(((List.range i).filter fun c=>decide (T.cell m c<0)).map fun c=>((T.col c:Nat):Int)).map V.int/\Same H H'/\∃o1 o2,σ=[o1,o2,some (.ref za)];refine lD (K:=K) (b:=false) (a:=co) (xs:=(bU n T.col).map V.int) mZ ⟨rfl,Same.refl _,_,_,rfl⟩ (fun i acc σ H' _ p=>p.2.1.seq (SqL.of hT.cols)) (fun i acc σ H' _ p=> ?_) hz (fun i v t acc σ H' hv p ht=> ?_) (fun acc σ H' p=> ?_)
 ·rw[p.1,aH,aH];exact cQ (vo _ _) (by rw[vm];exact aR _)
 ·obtain⟨rfl,sm,o1,o2,rfl⟩:=p;have hi:i<n:=by
   have:=(pO.mp hv).1;rw[aH,Gg]at this;exact this
  rw[dY,Dt _ hi]at hv;cases hv;have s1:=aK ht (.tup [.int (i:Int),.int ((T.col i:Nat):Int)]);refine⟨t,_,rfl,SqT.of aA,rfl,_,_,rfl,_,_,rfl,rfl,?_⟩;refine⟨_,rfl,_,rfl,za,_,_,_,rfl,rfl,SqL.of ((sm.trans s1) _ _ zr),dZ _ (dD hi),_,_,rfl,rfl,_,rfl,?_⟩;have go:((List.range (i+1)).filter fun c=>decide (T.cell m c<0))=((List.range i).filter fun c=>decide (T.cell m c<0))++(if decide (T.cell m i<0)=true then[i]else[]):=by
   rw[yh,Dy];congr 1;rw[Ax];split<;>rfl
  refine ite2 (fun c=> ?_) (fun c=> ?_)
  ·exact⟨_,rfl,by rw[go,au c,cg,cg];rfl,sm.trans s1,_,_,rfl⟩
  ·exact⟨by rw[go,aq c,Aw],sm.trans s1,_,_,rfl⟩
 ·intro p1 hp1;obtain⟨rfl,sm,_⟩:=p;rw[aH,Gg];have s1:=aK hp1 (.lst ((((List.range n).filter fun c=>decide (T.cell m c<0)).map fun c=>((T.col c:Nat):Int)).map V.int));have e1:(upd H' p1 (.lst ((((List.range n).filter fun c=>decide (T.cell m c<0)).map fun c=>((T.col c:Nat):Int)).map V.int))) p1=some (.lst ((((List.range n).filter fun c=>decide (T.cell m c<0)).map fun c=>((T.col c:Nat):Int)).map V.int)):=aA;have s2:=sm.trans s1;generalize (upd H' p1 (.lst ((((List.range n).filter fun c=>decide (T.cell m c<0)).map fun c=>((T.col c:Nat):Int)).map V.int)))=H1 at *;have hT1:=hT.sm s2;refine⟨_,rfl,_,.inl ⟨_,SqL.of e1,rfl⟩,?_⟩;cases hl:(List.range n).filter fun c=>decide (T.cell m c<0)with
  |nil=>
   refine iteF ?_;refine q1 (fun c hc=>Int.not_lt.mp fun hn=> ?_) _ s2;have:c∈(List.range n).filter fun c=>decide (T.cell m c<0):=eN.mpr ⟨pJ.mpr hc,cI hn⟩;rw[hl]at this;cases this
  |cons c0 rest=>
   rw[hl]at e1;refine iteT ?_;refine⟨_,rfl,o,C,dx,_,_,rfl,hT1.at_,Cc,aW,rfl,.inl ⟨rfl,_,SqL.of hT1.cols⟩,_,rfl,p1,_,rfl,SqL.of e1,(fun e=>nomatch e),fun mn hmn hle=> ?_⟩;rw[<-hl]at hmn hle;obtain⟨c,hc,rfl⟩:=iK.mp hmn;obtain⟨hc1,hc2⟩:=eN.mp hc;have hcn:=pJ.mp hc1;refine⟨co,bU n T.col,_,c,rfl,rfl,hT1.cols,Dt _ hcn,fun i hi e=> ?_,by rw[Gg];have:=hG.n10;omega,?_⟩
   ·rw[Dt _ (by omega)]at e;have:T.col i=T.col c:=Wx (uI e);have:=hG.good.Cz i c (by omega) hcn this;omega
   ·refine q2 c _ hcn (cR hc2) (fun c' hc' hn=> ?_) s2;have:=hle _ (iK.mpr ⟨c',eN.mpr ⟨pJ.mpr hc',cI hn⟩,rfl⟩);omega
noncomputable def VP(n q:Nat)(T:Sx.Tab)(r t:Nat):Bool:=decide (T.cell r n*T.cell t q<T.cell t n*T.cell r q)||(decide (T.cell r n*T.cell t q=T.cell t n*T.cell r q)&&decide (T.row r<T.row t))
noncomputable def QZ(K:W.Frag)(C:Addr):Sp:=fun vs H Q _=>∃(o:Addr) (H0:Hp) (n m q r t:Nat) (S:Nat->Nat->Bool) (wt:Nat->Int) (T:Sx.Tab),vs=[.ref o,.int (q:Int),.int (r:Int),.int (t:Int)]/\j6 K C H0 H o n m T/\TG n m S wt T/\q<n/\r<m/\t<m/\Q (.bl (VP n q T r t)) H
theorem Tj{f C:Addr}{fd:ρ}(F:Fun K "is_tighter" "Tableau.is_tighter" zbx f fd)
  (Cc:Cls K C)(bh:NoAttr K C "cells")(cY:NoAttr K C "over")(aW:NoAttr K C "columns")(cu:NoAttr K C "rows"):
  FnOk P w K mg base CX0 1 f fd ["self","column","row","other"] (QZ K C):=by
 refine F.cG ["self","column","row","other","one","two"] fun cdv A outer s H vs Q E hr h=> ?_;obtain⟨o,H0,n,m,q,r,t,S,wt,T,rfl,⟨dx,cl,co,ro,rws,hT⟩,hG,hq,hr0,ht,qq⟩:=h;refine bA ?_;intro Y;refine⟨_,(aM (pS 4 (bK rB (aP kJ (aP kJ (gB (pv 0) rfl) (pv 2)) (pe_un un_neg aB)) (aP kJ (aP kJ (gB (pv 0) rfl) (pv 3)) (pv 1)))) (aM (pS 5 (bK rB (aP kJ (aP kJ (gB (pv 0) rfl) (pv 3)) (pe_un un_neg aB)) (aP kJ (aP kJ (gB (pv 0) rfl) (pv 2)) (pv 1)))) (aX (bM (pe_or (Gb op_lt (pv 4) (pv 5)) (pe_one (pe_and (Gb op_eq (pv 4) (pv 5)) (pe_one (Gb op_lt (aP kJ (gB (pv 0) rfl) (pv 2)) (aP kJ (gB (pv 0) rfl) (pv 3))))))))))),?_⟩;refine oN ?_;intro c3 c2;obtain⟨ra,re,ri,rr⟩:=hT.Gu (dD hr0);obtain⟨ta,te,ti,tr⟩:=hT.Gu (dD ht);have b1:=hG.cell (dD hr0) (aR n);have b2:=hG.cell (dD ht) (aR n);refine⟨_,rfl,o,C,dx,_,_,rfl,hT.at_,Cc,bh,rfl,_,rfl,cl,_,_,_,rfl,rfl,SqL.of hT.cells,ri,_,rfl,ra,_,_,_,rfl,rfl,SqL.of rr,pY _ _,?_⟩;refine⟨_,rfl,o,C,dx,_,_,rfl,hT.at_,Cc,bh,rfl,_,rfl,cl,_,_,_,rfl,rfl,SqL.of hT.cells,ti,_,rfl,ta,_,_,_,rfl,rfl,SqL.of tr,dZ _ (dD hq),_,_,rfl,rfl,.inl ⟨by omega,by omega⟩,?_⟩;refine⟨_,rfl,o,C,dx,_,_,rfl,hT.at_,Cc,bh,rfl,_,rfl,cl,_,_,_,rfl,rfl,SqL.of hT.cells,ti,_,rfl,ta,_,_,_,rfl,rfl,SqL.of tr,pY _ _,?_⟩;refine⟨_,rfl,o,C,dx,_,_,rfl,hT.at_,Cc,bh,rfl,_,rfl,cl,_,_,_,rfl,rfl,SqL.of hT.cells,ri,_,rfl,ra,_,_,_,rfl,rfl,SqL.of rr,dZ _ (dD hq),_,_,rfl,rfl,.inl ⟨by omega,by omega⟩,?_⟩;refine⟨_,rfl,_,rfl,_,_,rfl,rfl,_,rfl,?_⟩;unfold VP at qq;refine ite2 (fun c=> ?_) (fun c=> ?_)
 ·rw[c,Bool.true_or]at qq;exact qq
 ·rw[eq_false_of_ne_true c,Bool.false_or]at qq;refine⟨_,rfl,_,rfl,rfl,_,rfl,?_⟩;refine ite2 (fun c2=> ?_) (fun c2=> ?_)
  ·have c2':decide (T.cell r n*T.cell t q=T.cell t n*T.cell r q)=true:=cI (V.int.inj (cR c2));rw[c2',wfb]at qq;refine⟨_,rfl,o,C,dx,_,_,rfl,hT.at_,Cc,cu,rfl,_,rfl,ro,_,_,_,rfl,rfl,SqL.of hT.rows,oF _ hr0,?_⟩;refine⟨_,rfl,o,C,dx,_,_,rfl,hT.at_,Cc,cu,rfl,_,rfl,ro,_,_,_,rfl,rfl,SqL.of hT.rows,oF _ ht,_,_,rfl,rfl,?_⟩;rw[<-show decide (((T.row r:Nat):Int)<((T.row t:Nat):Int))=decide (T.row r<T.row t)from decide_eq_decide.mpr Int.ofNat_lt]at qq;exact qq
  ·have c2':decide (T.cell r n*T.cell t q=T.cell t n*T.cell r q)=false:=jK fun e=>c2 (cI (jz V.int e));rw[c2',weu]at qq;exact qq
noncomputable def Rt(n q:Nat)(T:Sx.Tab)(p r:Nat):Prop:=T.cell p n*T.cell r q<T.cell r n*T.cell p q\/(T.cell p n*T.cell r q=T.cell r n*T.cell p q/\T.row p<=T.row r)
theorem Hl{n q:Nat}{T:Sx.Tab}{a b c:Nat}(ha:0<T.cell a q)(hb:0<T.cell b q)(hc:0<T.cell c q)(h1:Rt n q T a b)(h2:Rt n q T b c):Rt n q T a c:=by
 have cm:∀x y:Nat,T.cell x n*T.cell y q=T.cell y q*T.cell x n:=fun x y=>HY _ _;have cn:∀x y:Nat,T.cell y n*T.cell x q=T.cell x q*T.cell y n:=fun x y=>HY _ _;unfold Rt at *;rw[cm a b,cn a b]at h1;rw[cm b c,cn b c]at h2;rw[cm a c,cn a c];rcases h1 with h1|⟨h1,l1⟩
 ·rcases h2 with h2|⟨h2,_⟩
  ·exact .inl (Sx.wX hb ha hc (MN h1) h2)
  ·exact .inl (Sx.zK hb ha hc h1 (Vs h2))
 ·rcases h2 with h2|⟨h2,l2⟩
  ·exact .inl (Sx.wX hb ha hc (Vs h1) h2)
  ·exact .inr ⟨wep (Sx.wY hb ha hc (Vs h1) (Vs h2)) (Sx.wY hb hc ha (by rw[<-h2];exact pF _) (by rw[<-h1];exact pF _)),cQ l1 l2⟩
theorem R6{n q:Nat}{T:Sx.Tab}{r t:Nat}(h:VP n q T r t=true):Rt n q T r t:=by
 unfold VP at h;rw[ZW,lZ]at h;rcases h with h|⟨h1,h2⟩
 ·exact .inl (cR h)
 ·exact .inr ⟨cR h1,dD (cR h2)⟩
theorem WR{n q:Nat}{T:Sx.Tab}{r t:Nat}(h:VP n q T r t=false):Rt n q T t r:=by
 unfold VP at h;rw[Bool.or_eq_false_iff,Bool.and_eq_false_iff]at h;have h1:=Gj h.1;by_cases c:T.cell r n*T.cell t q=T.cell t n*T.cell r q
 ·refine .inr ⟨c.symm,?_⟩;rcases h.2 with z|z
  ·exact absurd c (Gj z)
  ·exact Nat.not_lt.mp (Gj z)
 ·exact .inl (by omega)
noncomputable def Q5(K:W.Frag)(C:Addr):Sp:=fun vs H Q _=>∃(o:Addr) (H0:Hp) (n m q:Nat) (S:Nat->Nat->Bool) (wt:Nat->Int) (T:Sx.Tab),vs=[.ref o,.int (q:Int)]/\j6 K C H0 H o n m T/\TG n m S wt T/\q<n/\
 ∀p:Nat,p<m->0<T.cell p q->(∀r,r<m->0<T.cell r q->Rt n q T p r)->Q (.int (p:Int)) H
theorem Tt{f f1 C:Addr}{fd d1:ρ}(F:Fun K "next_row" "Tableau.next_row" zck f fd)
  (Cc:Cls K C)(bh:NoAttr K C "cells")(cY:NoAttr K C "over")(aW:NoAttr K C "columns")(cu:NoAttr K C "rows")(D1:lM K C "is_tighter" "Tableau.is_tighter" zbx ["self","column","row","other"] f1 d1)(G1:FnOk P w K mg base CX0 1 f1 d1 ["self","column","row","other"] (QZ K C))(aN:mg "range"=none)(bY:mg "len"=none):
  FnOk P w K mg base CX0 2 f fd ["self","column"] (Q5 K C):=by
 refine F.cG ["self","column","tightest","row"] fun cdv A outer s H vs Q E hr h=> ?_;obtain⟨o,H0,n,m,q,S,wt,T,rfl,⟨dx,cl,co,ro,rws,hT⟩,hG,hq,qq⟩:=h;refine⟨_,(aM (pS 2 pe_non) (aM (ps_for Iw rfl (HW rfl aN (aj (pB vg bY (aj (gB (pv 0) rfl) ak)) ak)) (pG 3) (aX (fJ (PW.pt (pw_and (dO op_gt (aP kJ (aP kJ (gB (pv 0) rfl) (pv 3)) (pv 1)) aB) (pw_and1 (PW.pt (pw_or (dO op_isN (pv 2) pe_non) (pw_or1 (nJ (uJ (pv 0) Cc D1.m G1 hr D1.b .nil pass0 (aj (pv 1) (aj (pv 3) (aj (pv 2) ak))))))))))) (aX (pS 2 (pv 3))) gC))) (aX (bM (pv 2))))),?_⟩;refine⟨_,rfl,o,C,dx,_,_,rfl,hT.at_,Cc,cu,rfl,ro,_,rfl,.inl (SqL.of hT.rows),fun _=> ?_⟩;rw[aH,Gg];refine⟨_,rfl,by have:=hG.Xz;omega,by have:=hG.Xz;omega,?_⟩;refine Qx (n:=m) (fun i σ H'=>H'=H/\∃(x:V) (o3:Option V),σ=[some (.ref o),some (.int (q:Int)),some x,o3]/\((x= .non/\∀r,r<i->T.cell r q<=0)\/∃p:Nat,p<i/\x= .int (p:Int)/\0<T.cell p q/\∀r,r<i->0<T.cell r q->Rt n q T p r)) ⟨rfl,_,_,rfl,.inl ⟨rfl,fun r hr=>absurd hr (RD r)⟩⟩ (fun i σ H' hi p=> ?_) (fun σ H' p=> ?_)
 ·obtain⟨rfl,x,o3,rfl,hx⟩:=p;rw[ZM];obtain⟨ra,re,ri,rr⟩:=hT.Gu (dD hi);refine⟨_,rfl,o,C,dx,_,_,rfl,hT.at_,Cc,bh,rfl,_,rfl,cl,_,_,_,rfl,rfl,SqL.of hT.cells,ri,_,rfl,ra,_,_,_,rfl,rfl,SqL.of rr,dZ _ (dD hq),_,_,rfl,rfl,_,rfl,?_⟩;refine ite2 (fun c=> ?_) (fun c=> ?_)
  ·have c':0<T.cell i q:=cR c;rcases hx with⟨rfl,hx⟩|⟨p,hp,rfl,hp0,hlev⟩
   ·refine⟨_,rfl,rfl,_,rfl,?_⟩;refine iteT ?_;refine iteT ?_;refine⟨_,rfl,rfl,_,_,rfl,.inr ⟨i,vW i,rfl,c',fun r hr h0=> ?_⟩⟩;by_cases e:r=i
    ·subst e;exact .inr ⟨rfl,aR _⟩
    ·have:=hx r (by omega);omega
   ·refine⟨_,rfl,rfl,_,rfl,?_⟩;refine iteF ?_;refine⟨_,rfl,o,dx,_,rfl,hT.at_,rfl,_,rfl,_,rfl,_,rfl,o,H0,n,m,q,i,p,S,wt,T,rfl,⟨dx,cl,co,ro,rws,hT⟩,hG,hq,hi,by omega,_,rfl,?_⟩;refine ite2 (fun z=> ?_) (fun z=> ?_)
    ·refine⟨_,rfl,rfl,_,_,rfl,.inr ⟨i,vW i,rfl,c',fun r hr h0=> ?_⟩⟩;by_cases e:r=i
     ·subst e;exact .inr ⟨rfl,aR _⟩
     ·exact Hl c' hp0 h0 (R6 z) (hlev r (by omega) h0)
    ·refine⟨rfl,_,_,rfl,.inr ⟨p,by omega,rfl,hp0,fun r hr h0=> ?_⟩⟩;by_cases e:r=i
     ·subst e;exact WR (eq_false_of_ne_true z)
     ·exact hlev r (by omega) h0
  ·refine iteF ?_;have c':T.cell i q<=0:=Int.not_lt.mp fun h=>c (cI h);refine⟨rfl,_,_,rfl,?_⟩;rcases hx with⟨rfl,hx⟩|⟨p,hp,rfl,hp0,hlev⟩
   ·refine .inl ⟨rfl,fun r hr=> ?_⟩;by_cases e:r=i
    ·subst e;exact c'
    ·exact hx r (by omega)
   ·refine .inr ⟨p,by omega,rfl,hp0,fun r hr h0=> ?_⟩;by_cases e:r=i
    ·subst e;omega
    ·exact hlev r (by omega) h0
 ·obtain⟨rfl,x,o3,rfl,hx⟩:=p;rcases hx with⟨rfl,hx⟩|⟨p,hp,rfl,hp0,hlev⟩
  ·obtain⟨r,hr0,h0⟩:=hG.good.bounded hG.cov hq;have:=hx r hr0;omega
  ·exact⟨_,rfl,qq p hp hp0 hlev⟩
noncomputable def tdF(ov:Int)(X Y:Nat->Int)(q c:Nat):Int:=if c=q then -X q else(X c*Y q-X q*Y c)/ov
theorem yO{n q:Nat}(X:Nat->Int)(v:Int)(h:q<=n):(aZ n X).set q (.int v)=aZ n fun c=>if c=q then v else X c:=by
 refine wce fun i=> ?_;rw[wdp];by_cases hi:i<=n
 ·rw[ou _ hi,ou _ hi,Gf];by_cases e:q=i
  ·rw[au e,au (by omega),au e.symm]
  ·rw[aq e,aq (lQ e)]
 ·rw[Vx (by rw[Gf];omega),Vx (by rw[Gf];omega),aq (by omega)]
theorem mK{n:Nat}{X Y:Nat->Int}(h:∀c,c<=n->X c=Y c):aZ n X=aZ n Y:=by
 unfold aZ;rw[Nu fun c hc=>h c (by have:=pJ.mp hc;omega)]
noncomputable def Q0(K:W.Frag)(C:Addr):Sp:=fun vs H Q _=>∃(o xa ya:Addr) (H0:Hp) (n m q:Nat) (X Y:Nat->Int) (T:Sx.Tab),vs=[.ref o,.ref xa,.ref ya,.int (q:Int)]/\j6 K C H0 H o n m T/\n<=10/\(0<T.over/\T.over<=39916800)/\q<=n/\H xa=some (.lst (aZ n X))/\H ya=some (.lst (aZ n Y))/\
 (∀c,c<=n->(-4000000000<=X c/\X c<=4000000000)/\(-4000000000<=Y c/\Y c<=4000000000))/\∀r H',Same H H'->H r=none->H' r=some (.lst (aZ n (tdF T.over X Y q)))->Q (.ref r) H'
theorem Tn{f C:Addr}{fd:ρ}(F:Fun K "turned" "Tableau.turned" zcx f fd)
  (Cc:Cls K C)(bh:NoAttr K C "cells")(cY:NoAttr K C "over")(aW:NoAttr K C "columns")(cu:NoAttr K C "rows")(cL:mg "enumerate"=none):
  FnOk P w K mg base CX0 1 f fd ["self","cells","pivots","column"] (Q0 K C):=by
 refine F.cG ["self","cells","pivots","column","by","fresh"] fun cdv A outer s H vs Q E hr h=> ?_;obtain⟨o,xa,ya,H0,n,m,q,X,Y,T,rfl,⟨dx,cl,co,ro,rws,hT⟩,hn,⟨ho0,ho1⟩,hq,hX,hY,hb,qq⟩:=h;refine⟨_,(aM (pS 4 (aP kJ (pv 2) (pv 3))) (aM (pX 5 ["k","cell"] ["by","cells","column","pivots","self"] [4,1,3,2,0] (rK rfl cL (aj (pv 1) ak)) (HS K (n:=2) rfl (nF (pG 0) (nF (pG 1) Ai))) pD (bK oE (bK op_sub (bK rB (pv 1) (pv 2)) (bK rB (aP (gj K) (pv 3) (pv 4)) (aP (gj K) (pv 5) (pv 0)))) (Oe K (pv 6) rfl))) (aM (ps_asg (pe_un un_neg (aP kJ (pv 1) (pv 3))) (pg_sub (pv 5) (pv 3) set_list)) (aX (bM (pv 5)))))),?_⟩;refine⟨_,rfl,_,rfl,ya,_,_,_,rfl,rfl,SqL.of hY,dZ _ hq,?_⟩;refine⟨_,rfl,false,xa,_,rfl,SqL.of hX,fun hz=> ?_⟩;refine lD (K:=K) (b:=false) (a:=xa) (xs:=aZ n X) (fun i acc σ H'=>acc=((List.range i).map fun c=>(X c*Y q-X q*Y c)/T.over).map V.int/\Same H H'/\∃o1 o2,σ=[o1,o2,some (.int (Y q)),some (.ref xa),some (.int (q:Int)),some (.ref ya),some (.ref o)]) ⟨rfl,Same.refl _,_,_,rfl⟩ (fun i acc σ H' _ p=>p.2.1.seq (SqL.of hX)) (fun i acc σ H' _ p=> ?_) hz (fun i v t acc σ H' hv p ht=> ?_) (fun acc σ H' p=> ?_)
 ·rw[p.1,aH,aH,vm];exact aR _
 ·obtain⟨rfl,sm,o1,o2,rfl⟩:=p;have hi:i<=n:=by
   have:=(pO.mp hv).1;rw[Gf]at this;omega
  rw[ou _ hi]at hv;cases hv;have s1:=aK ht (.tup [.int (i:Int),.int (X i)]);have s2:=sm.trans s1;have bi:=(hb i hi).1;have bq:=(hb q hq).1;refine⟨t,_,rfl,SqT.of aA,rfl,_,_,rfl,_,_,rfl,rfl,?_⟩;refine⟨_,rfl,_,rfl,_,_,rfl,rfl,.inl ⟨by omega,by omega⟩,?_⟩;refine⟨_,rfl,_,rfl,xa,_,_,_,rfl,rfl,SqL.of (s2 _ _ hX),dZ _ hq,_,rfl,_,rfl,ya,_,_,_,rfl,rfl,SqL.of (s2 _ _ hY),dZ _ hi,_,_,rfl,rfl,.inl ⟨by omega,by omega⟩,_,_,rfl,rfl,?_⟩;refine⟨_,rfl,o,C,dx,_,_,rfl,s2 _ _ hT.at_,Cc,cY,rfl,_,_,rfl,rfl,⟨ho0,by omega⟩,?_⟩;exact⟨by rw[yh,cg,cg];rfl,s2,_,_,rfl⟩
 ·intro p1 hp1;obtain⟨rfl,sm,_⟩:=p;rw[Gf];have s1:=aK hp1 (.lst (aZ n fun c=>(X c*Y q-X q*Y c)/T.over));have s2:=sm.trans s1;have h0:H p1=none:=by
   cases e:H p1 with
   |none=>rfl
   |some u=>rw[sm _ _ e]at hp1;cases hp1
  refine⟨_,rfl,_,rfl,xa,_,_,_,rfl,rfl,SqL.of (s2 _ _ hX),dZ _ hq,_,rfl,?_⟩;refine⟨_,rfl,_,rfl,p1,_,_,q,rfl,rfl,aA,?_,?_⟩
  ·have e:ixN (aZ n fun c=>(X c*Y q-X q*Y c)/T.over).length (q:Int)=some q:=by
    rw[Gf];unfold ixN;rw[au (by omega),au (by omega)];rfl
   exact e
  ·refine⟨_,rfl,qq p1 _ (fun b u hb=> ?_) h0 ?_⟩
   ·have nb:b≠p1:=fun e=>by rw[e,h0]at hb;cases hb
    rw[cP nb];exact s2 _ _ hb
   ·rw[aA];have e:=yO (fun c=>(X c*Y q-X q*Y c)/T.over) (-X q) hq;exact jz (fun l=>some (HO.lst l)) e
theorem Qn{xs:List V}{k:Nat}(hk:k<=xs.length):cutV xs none (some (k:Int))=xs.take k:=by
 unfold cutV;rw[HT.sIx_nat,HT.sIx_none,Nat.min_eq_left hk,List.drop_zero,Nat.sub_zero]
theorem Hx{xs:List V}{k:Nat}(hk:k<=xs.length):cutV xs (some (k:Int)) none=xs.drop k:=by
 unfold cutV;rw[HT.sIx_nat,HT.sIx_none,Nat.min_eq_left hk,Wo (by rw[List.length_drop];omega)]
theorem _root_.L2.Same.uN{H0 H:Hp}{a:Addr}{u:HO}(s:Same H0 H)(h:H0 a=none):Same H0 (upd H a u):=fun b o hb=>by
 have nb:b≠a:=fun e=>by rw[e,h]at hb;cases hb
 rw[cP nb];exact s _ _ hb
theorem _root_.L2.Same.none{H0 H:Hp}{a:Addr}(s:Same H0 H)(h:H a=none):H0 a=none:=by
 cases e:H0 a with
 |none=>rfl
 |some u=>rw[s _ _ e]at h;cases h
section
variable{C:Addr}{H0 H:Hp}{o dx cl co ro:Addr}{rws:List Addr}{n m:Nat}{T:Sx.Tab}
theorem cD.ocl(h:cD K C H0 H o dx cl co ro rws n m T):o≠cl:=ne_of h.at_ h.cells fun e=>nomatch e
theorem cD.oco(h:cD K C H0 H o dx cl co ro rws n m T):o≠co:=ne_of h.at_ h.cols fun e=>nomatch e
theorem cD.oro(h:cD K C H0 H o dx cl co ro rws n m T):o≠ro:=ne_of h.at_ h.rows fun e=>nomatch e
theorem lq{rws:List Addr}{xs:List Int}(h:0<rws.length)(e:rws.map V.ref=xs.map V.int):False:=by
 cases rws with
 |nil=>exact absurd h (rD 0)
 |cons a r=>
  cases xs with
  |nil=>cases e
  |cons x xs=>injection e with e1 _;cases e1
theorem cD.YL(h:cD K C H0 H o dx cl co ro rws n m T):cl≠co:=fun e=>by
 have z:=h.cols;rw[<-e,h.cells]at z;exact lq (by rw[h.len];omega) (HO.lst.inj (uI z))
theorem cD.YK(h:cD K C H0 H o dx cl co ro rws n m T):cl≠ro:=fun e=>by
 have z:=h.rows;rw[<-e,h.cells]at z;exact lq (by rw[h.len];omega) (HO.lst.inj (uI z))
theorem cD.YJ(h:cD K C H0 H o dx cl co ro rws n m T){r:Nat}{a:Addr}(e:rws[r]? =some a):a≠cl:=fun z=>by
 have y:=h.row r a e;rw[z,h.cells]at y;exact lq (by rw[h.len];omega) (HO.lst.inj (uI y))
theorem cD.orow(h:cD K C H0 H o dx cl co ro rws n m T){r:Nat}{a:Addr}(e:rws[r]? =some a):a≠o:=fun z=>by
 have y:=h.row r a e;rw[z,h.at_]at y;cases y
theorem cD.JX(h:cD K C H0 H o dx cl co ro rws n m T){Wa:Addr}{Bx:List Addr}{X:Nat->Nat->Int}(h0:H0 Wa=none)(hc:H Wa=some (.lst (Bx.map V.ref)))(hl:Bx.length=m+1)(hr:∀r a,Bx[r]? =some a->H a=some (.lst (aZ n (X r))))(n1:co∉Bx)(n2:ro∉Bx):
  cD K C H0 (upd H o (.ins C dx (putF "cells" (.ref Wa) (flds cl co ro T.over)))) o dx Wa co ro Bx n m {T with cell:=X}:=by
 have k:∀b,b≠o->∀u,H b=some u->(upd H o (.ins C dx (putF "cells" (.ref Wa) (flds cl co ro T.over)))) b=some u:=fun b hb u e=>by rw[cP hb];exact e
 refine⟨h.same.uN h.o0,h.o0,h0,h.Rp,h.Rf,h.ne,n1,n2,aA,k _ (fun e=> ?_) _ hc,hl,fun r a e=>k _ (fun z=> ?_) _ (hr r a e),k _ h.oco.symm _ h.cols,k _ h.oro.symm _ h.rows⟩
 ·rw[e,h.at_]at hc;cases hc
 ·have y:=hr r a e;rw[z,h.at_]at y;cases y
theorem cD.Sy(h:cD K C H0 H o dx cl co ro rws n m T){p:Nat}{a:Addr}{X:Nat->Int}(hp:p<=m)(ha:H a=some (.lst (aZ n X)))(n1:co≠a)(n2:ro≠a):
  cD K C H0 (upd H cl (.lst ((rws.map V.ref).set p (.ref a)))) o dx cl co ro (rws.set p a) n m {T with cell:=fun r c=>if r=p then X c else T.cell r c}:=by
 have k:∀b,b≠cl->∀u,H b=some u->(upd H cl (.lst ((rws.map V.ref).set p (.ref a)))) b=some u:=fun b hb u e=>by rw[cP hb];exact e
 have hac:a≠cl:=fun z=>by
  rw[z,h.cells]at ha;exact lq (by rw[h.len];omega) (HO.lst.inj (uI ha))
 refine⟨h.same.uN h.Vg,h.o0,h.Vg,h.Rp,h.Rf,h.ne,fun z=> ?_,fun z=> ?_,k _ h.ocl _ h.at_,by rw[aA,wfe],by rw[List.length_set];exact h.len,fun r b e=> ?_,k _ h.YL.symm _ h.cols,k _ h.YK.symm _ h.rows⟩
 ·rcases wdi z with z|z
  ·exact h.nc z
  ·exact n1 z
 ·rcases wdi z with z|z
  ·exact h.nr z
  ·exact n2 z
 ·rw[wdp]at e;by_cases c:p=r
  ·rw[au c,au (by rw[h.len];omega)]at e;cases e;rw[k _ hac _ ha];exact jz (fun l=>some (HO.lst l)) (mK fun c' _=>by show X c'=if r=p then X c' else T.cell r c';rw[au c.symm])
  ·rw[aq c]at e;rw[k _ (h.YJ e) _ (h.row r b e)];exact jz (fun l=>some (HO.lst l)) (mK fun c' _=>by show T.cell r c'=if r=p then X c' else T.cell r c';rw[aq (lQ c)])
theorem cD.setOver(h:cD K C H0 H o dx cl co ro rws n m T)(v:Int):cD K C H0 (upd H o (.ins C dx (putF "over" (.int v) (flds cl co ro T.over)))) o dx cl co ro rws n m {T with over:=v}:=by
 have k:∀b,b≠o->∀u,H b=some u->(upd H o (.ins C dx (putF "over" (.int v) (flds cl co ro T.over)))) b=some u:=fun b hb u e=>by rw[cP hb];exact e
 exact⟨h.same.uN h.o0,h.o0,h.Vg,h.Rp,h.Rf,h.ne,h.nc,h.nr,aA,k _ h.ocl.symm _ h.cells,h.len,fun r a e=>k _ (h.orow e) _ (h.row r a e),k _ h.oco.symm _ h.cols,k _ h.oro.symm _ h.rows⟩
theorem cD.NZ(h:cD K C H0 H o dx cl co ro rws n m T){p:Nat}(v:Nat)(hp:p<m):cD K C H0 (upd H ro (.lst (((bU m T.row).map V.int).set p (.int (v:Int))))) o dx cl co ro rws n m {T with row:=fun r=>if r=p then v else T.row r}:=by
 have k:∀b,b≠ro->∀u,H b=some u->(upd H ro (.lst (((bU m T.row).map V.int).set p (.int (v:Int))))) b=some u:=fun b hb u e=>by rw[cP hb];exact e
 refine⟨h.same.uN h.Rf,h.o0,h.Vg,h.Rp,h.Rf,h.ne,h.nc,h.nr,k _ h.oro _ h.at_,k _ h.YK _ h.cells,h.len,fun r a e=>k _ (fun z=>h.nr (z▸qQ e)) _ (h.row r a e),k _ h.ne _ h.cols,?_⟩;rw[aA,<-wfe,vL _ _ hp]
theorem cD.N5(h:cD K C H0 H o dx cl co ro rws n m T){q:Nat}(v:Nat)(hq:q<n):cD K C H0 (upd H co (.lst (((bU n T.col).map V.int).set q (.int (v:Int))))) o dx cl co ro rws n m {T with col:=fun c=>if c=q then v else T.col c}:=by
 have k:∀b,b≠co->∀u,H b=some u->(upd H co (.lst (((bU n T.col).map V.int).set q (.int (v:Int))))) b=some u:=fun b hb u e=>by rw[cP hb];exact e
 refine⟨h.same.uN h.Rp,h.o0,h.Vg,h.Rp,h.Rf,h.ne,h.nc,h.nr,k _ h.oco _ h.at_,k _ h.YL _ h.cells,h.len,fun r a e=>k _ (fun z=>h.nc (z▸qQ e)) _ (h.row r a e),?_,k _ h.ne.symm _ h.rows⟩;rw[aA,<-wfe,vL _ _ hq]
end
theorem J1{n q:Nat}(X:Nat->Int)(v:Int)(h:q<=n):((aZ n X).take q++[.int v])++(aZ n X).drop (q+1)=aZ n fun c=>if c=q then v else X c:=by
 rw[<-yO X v h,List.set_eq_take_append_cons_drop,au (by rw[Gf];omega),wdj];rfl
noncomputable def QX(K:W.Frag)(C:Addr):Sp:=fun vs H Q _=>∃(o:Addr) (H0:Hp) (n m p q:Nat) (S:Nat->Nat->Bool) (wt:Nat->Int) (T:Sx.Tab),vs=[.ref o,.int (p:Int),.int (q:Int)]/\j6 K C H0 H o n m T/\TG n m S wt T/\p<m/\q<n/\∀H',j6 K C H0 H' o n m (Sx.turn T p q)->Q .non H'
theorem Ti{f f1 C:Addr}{fd d1:ρ}(F:Fun K "turn" "Tableau.turn" fU f fd)
  (Cc:Cls K C)(bh:NoAttr K C "cells")(cY:NoAttr K C "over")(aW:NoAttr K C "columns")(cu:NoAttr K C "rows")(D1:lM K C "turned" "Tableau.turned" zcx ["self","cells","pivots","column"] f1 d1)(G1:FnOk P w K mg base CX0 1 f1 d1 ["self","cells","pivots","column"] (Q0 K C)):
  FnOk P w K mg base CX0 2 f fd ["self","row","column"] (QX K C):=by
 refine F.cG ["self","row","column","pivots","by","name"] fun cdv A outer s H vs Q E hr h=> ?_;obtain⟨o,H0,n,m,p,q,S,wt,T,rfl,⟨dx,cl,co,ro,rws,hT⟩,hG,hp,hq,qq⟩:=h;refine bA ?_;intro Y;refine⟨_,(aM (pS 3 (aP kJ (gB (pv 0) rfl) (pv 1))) (aM (pS 4 (aP kJ (pv 3) (pv 2))) (aM (ps_fld (pv 0) (pK ["cells"] ["self","pivots","column"] [0,3,2] (Ag (gB (pv 0) rfl)) (pG 0) pD (uJ (pv 1) Cc D1.m G1 hr D1.b .nil pass0 (aj (pv 0) (aj (pv 2) (aj (pv 3) ak))))) rfl) (aM (ps_asg (bK op_cat (bK op_cat (pe_slice sl_list (pv 3) po_none (po_some (pv 2))) (pe_lst (aj (gB (pv 0) rfl) ak))) (pe_slice sl_list (pv 3) (po_some (bK nA (pv 2) aB)) po_none)) (pg_sub (gB (pv 0) rfl) (pv 1) set_list)) (aM (ps_fld (pv 0) (pv 4) rfl) (aM (pS 5 (aP kJ (gB (pv 0) rfl) (pv 1))) (aM (ps_asg (aP kJ (gB (pv 0) rfl) (pv 2)) (pg_sub (gB (pv 0) rfl) (pv 1) set_list)) (aX (ps_asg (pv 5) (pg_sub (gB (pv 0) rfl) (pv 2) set_list)))))))))),?_⟩;refine X5 ?_;intro c8 c7 c6 c5 c4 c3 c2;obtain⟨pa,pe,pi,pr⟩:=hT.Gu (dD hp);refine⟨_,rfl,o,C,dx,_,_,rfl,hT.at_,Cc,bh,rfl,_,rfl,cl,_,_,_,rfl,rfl,SqL.of hT.cells,pi,?_⟩;refine⟨_,rfl,_,rfl,pa,_,_,_,rfl,rfl,SqL.of pr,dZ _ (dD hq),?_⟩;refine⟨_,rfl,o,C,dx,_,_,rfl,hT.at_,Cc,bh,rfl,cl,_,rfl,SqL.of hT.cells,fun hz=> ?_⟩;let mZ:Nat->List V->St->Hp->Prop:=fun i acc σ H'=>∃as:List Addr,acc=as.map V.ref/\as.length=i/\Same H H'/\(∀r a,as[r]? =some a->H a=none/\H' a=some (.lst (aZ n (tdF T.over (T.cell r) (T.cell p) q))))/\∃o1,σ=[o1,some (.ref o),some (.ref pa),some (.int (q:Int))];refine Am (xs:=rws.map V.ref) mZ ⟨[],rfl,rfl,Same.refl _,fun r a e=>(nomatch e),_,rfl⟩ (fun i acc σ H' _ x=> ?_) (fun i acc σ H' _ x=> ?_) hz (fun i v acc σ H' hv x=> ?_) (fun acc σ H' x=> ?_)
 ·obtain⟨_,_,_,sm,_⟩:=x;exact sm.seq (SqL.of hT.cells)
 ·obtain⟨as,rfl,hl,_⟩:=x;rw[aH,hl];exact aR _
 ·obtain⟨as,rfl,hl,sm,has,o1,rfl⟩:=x;rw[dY]at hv;cases er:rws[i]? with
  |none=>rw[er]at hv;cases hv
  |some ra=>
   rw[er]at hv;cases hv;have him:i<=m:=by have:=(pO.mp er).1;rw[hT.len]at this;omega
   refine⟨_,rfl,o,dx,_,rfl,sm _ _ hT.at_,rfl,_,rfl,_,rfl,_,rfl,o,ra,pa,H0,n,m,q,T.cell i,T.cell p,T,rfl,⟨dx,cl,co,ro,rws,hT.sm sm⟩,hG.n10,hG.over,dD hq,sm _ _ (hT.row i ra er),sm _ _ pr,fun c hc=>⟨hG.cell him hc,hG.cell (dD hp) hc⟩,fun r1 H1 s1 h1 e1=> ?_⟩;refine⟨as++[r1],by rw[cg];rfl,by rw[rE,hl];rfl,sm.trans s1,fun r a e=> ?_,_,rfl⟩;rw[wck]at e;by_cases c:r<as.length
   ·rw[au c]at e;exact⟨(has r a e).1,s1 _ _ (has r a e).2⟩
   ·rw[aq c]at e;have Yw:r-as.length=0:=by
     have:=(pO.mp e).1;have:r-as.length<1:=this;omega
    rw[Yw]at e;cases e;have:r=i:=by omega
    subst this;exact⟨sm.none h1,e1⟩
 ·intro p1 hp1;obtain⟨as,rfl,hl,sm,has,_⟩:=x;rw[aH,hT.len]at hl;have s1:=aK hp1 (.lst (as.map V.ref));have hT1:=hT.sm (sm.trans s1);have h10:H0 p1=none:=hT.same.none (sm.none hp1);have nas:∀b u,H b=some u->b∉as:=fun b u hb hm=>by
   obtain⟨r,hr1,rfl⟩:=MP hm;have:=(has r _ (eO hr1)).1;rw[hb]at this;cases this
  have hT2:=hT1.JX (Wa:=p1) (Bx:=as) (X:=fun r=>tdF T.over (T.cell r) (T.cell p) q) h10 aA hl (fun r a e=>s1 _ _ (has r a e).2) (nas _ _ hT.cols) (nas _ _ hT.rows);refine⟨_,rfl,o,C,dx,_,rfl,hT1.at_,Cc,bh,(by show 4<1000;decide),?_⟩;have Xk:pa≠o:=hT.orow pe;have pr2:=(sm.trans s1) _ _ pr;have pr3:(upd (upd H' p1 (.lst (as.map V.ref))) o (.ins C dx (putF "cells" (.ref p1) (flds cl co ro T.over)))) pa=some (.lst (aZ n (T.cell p))):=by rw[cP Xk];exact pr2
  generalize (upd (upd H' p1 (.lst (as.map V.ref))) o (.ins C dx (putF "cells" (.ref p1) (flds cl co ro T.over))))=H2 at *
  -- the row of the turn
  refine⟨_,rfl,_,rfl,_,rfl,pa,_,rfl,SqL.of pr3,fun l1 hl1=> ?_⟩;have t1:=aK hl1 (.lst (cutV (aZ n (T.cell p)) none (some (q:Int))));have f1:(upd H2 l1 (.lst (cutV (aZ n (T.cell p)) none (some (q:Int))))) l1=some (.lst (cutV (aZ n (T.cell p)) none (some (q:Int)))):=aA;generalize (upd H2 l1 (.lst (cutV (aZ n (T.cell p)) none (some (q:Int)))))=H3 at *;refine⟨_,rfl,o,C,dx,_,_,rfl,t1 _ _ hT2.at_,Cc,cY,rfl,(by show 1<=sizeLine;decide),fun l2 hl2=> ?_⟩;have t2:=aK hl2 (.lst [.int T.over]);have f2:(upd H3 l2 (.lst [.int T.over])) l2=some (.lst [.int T.over]):=aA;have f1':=t2 _ _ f1;refine⟨l1,l2,_,_,rfl,rfl,f1',f2,?_,fun l3 hl3=> ?_⟩
  ·have:=cutV_length (aZ n (T.cell p)) none (some (q:Int));rw[Gf]at this;have:=hG.n10;rw[iz];show _+1<=_;omega
  have t3:=aK hl3 (.lst (cutV (aZ n (T.cell p)) none (some (q:Int))++[.int T.over]));have f3:(upd (upd H3 l2 (.lst [.int T.over])) l3 (.lst (cutV (aZ n (T.cell p)) none (some (q:Int))++[.int T.over]))) l3=some (.lst (cutV (aZ n (T.cell p)) none (some (q:Int))++[.int T.over])):=aA;have t13:=t1.trans (t2.trans t3);generalize (upd (upd H3 l2 (.lst [.int T.over])) l3 (.lst (cutV (aZ n (T.cell p)) none (some (q:Int))++[.int T.over])))=H5 at *;refine⟨_,rfl,_,rfl,_,_,rfl,rfl,_,rfl,pa,_,rfl,SqL.of (t13 _ _ pr3),fun l4 Uv=> ?_⟩;have t4:=aK Uv (.lst (cutV (aZ n (T.cell p)) (some ((q:Int)+1)) none));refine⟨l3,l4,_,_,rfl,rfl,t4 _ _ f3,aA,?_,fun l5 XS=> ?_⟩
  ·have a1:=cutV_length (aZ n (T.cell p)) none (some (q:Int));have a2:=cutV_length (aZ n (T.cell p)) (some ((q:Int)+1)) none;rw[Gf]at a1 a2;have:=hG.n10;rw[rE,iz];show _+1+_<=_;omega
  have t5:=aK XS (.lst ((cutV (aZ n (T.cell p)) none (some (q:Int))++[.int T.over])++cutV (aZ n (T.cell p)) (some ((q:Int)+1)) none));have aaI:(cutV (aZ n (T.cell p)) none (some (q:Int))++[.int T.over])++cutV (aZ n (T.cell p)) (some ((q:Int)+1)) none=aZ n fun c=>if c=q then T.over else T.cell p c:=by
   rw[Qn (by rw[Gf];omega),show(q:Int)+1=((q+1:Nat):Int)from by omega,Hx (by rw[Gf];omega)];exact J1 _ _ (dD hq)
  rw[aaI]at t5⊢;have hT3:=hT2.sm (t13.trans (t4.trans t5));have f5:(upd (upd H5 l4 (.lst (cutV (aZ n (T.cell p)) (some ((q:Int)+1)) none))) l5 (.lst (aZ n fun c=>if c=q then T.over else T.cell p c))) l5=some (.lst (aZ n fun c=>if c=q then T.over else T.cell p c)):=aA;have g1:co≠l5:=rC ((t13.trans t4) _ _ hT2.cols) XS;have g2:ro≠l5:=rC ((t13.trans t4) _ _ hT2.rows) XS;generalize (upd (upd H5 l4 (.lst (cutV (aZ n (T.cell p)) (some ((q:Int)+1)) none))) l5 (.lst (aZ n fun c=>if c=q then T.over else T.cell p c)))=H6 at *;have V3:=hT3.Sy (p:=p) (dD hp) f5 g1 g2;refine⟨_,rfl,o,C,dx,_,_,rfl,hT3.at_,Cc,bh,rfl,_,rfl,p1,_,_,p,rfl,rfl,hT3.cells,?_,?_⟩
  ·have e:ixN (as.map V.ref).length (p:Int)=some p:=by
    rw[aH,hl];unfold ixN;rw[au (by omega),au (by omega)];rfl
   exact e
  generalize (upd H6 p1 (.lst ((as.map V.ref).set p (.ref l5))))=H7 at *;have hT5:=V3.setOver (T.cell p q);refine⟨_,rfl,_,rfl,o,C,dx,_,rfl,V3.at_,Cc,cY,(by show 4<1000;decide),?_⟩;generalize (upd H7 o (.ins C dx (putF "over" (.int (T.cell p q)) (flds p1 co ro T.over))))=H8 at *;refine⟨_,rfl,o,C,dx,_,_,rfl,hT5.at_,Cc,cu,rfl,_,rfl,ro,_,_,_,rfl,rfl,SqL.of hT5.rows,oF _ hp,?_⟩;refine⟨_,rfl,o,C,dx,_,_,rfl,hT5.at_,Cc,aW,rfl,_,rfl,co,_,_,_,rfl,rfl,SqL.of hT5.cols,oF _ hq,?_⟩;have V2:=hT5.NZ (p:=p) (T.col q) hp;refine⟨_,rfl,o,C,dx,_,_,rfl,hT5.at_,Cc,cu,rfl,_,rfl,ro,_,_,p,rfl,rfl,hT5.rows,?_,?_⟩
  ·have e:ixN ((bU m T.row).map V.int).length (p:Int)=some p:=by
    rw[aH,Gg];unfold ixN;rw[au (by omega),au (by omega)];rfl
   exact e
  generalize (upd H8 ro (.lst (((bU m T.row).map V.int).set p (.int ((T.col q:Nat):Int)))))=H9 at *;have zB:=V2.N5 (q:=q) (T.row p) hq;refine⟨_,rfl,_,rfl,o,C,dx,_,_,rfl,V2.at_,Cc,aW,rfl,_,rfl,co,_,_,q,rfl,rfl,V2.cols,?_,?_⟩
  ·have e:ixN ((bU n T.col).map V.int).length (q:Int)=some q:=by
    rw[aH,Gg];unfold ixN;rw[au (by omega),au (by omega)];rfl
   exact e
  refine qq _ ⟨dx,p1,co,ro,_,zB.same,zB.o0,zB.Vg,zB.Rp,zB.Rf,zB.ne,zB.nc,zB.nr,zB.at_,zB.cells,zB.len,fun r a e=> ?_,zB.cols,zB.rows⟩;rw[zB.row r a e];refine jz (fun l=>some (HO.lst l)) (mK fun c _=> ?_);show(if r=p then(if c=q then T.over else T.cell p c)else tdF T.over (T.cell r) (T.cell p) q c)=_;rfl
theorem J0{n m:Nat}{S:Nat->Nat->Bool}{wt:Nat->Int}{Ts:Nat->Sx.Tab}{ps qs:Nat->Nat}{L p q:Nat}(R:Sx.Run n m S wt Ts ps qs L)(s:Sx.Step n m (Ts L) p q):
  Sx.Run n m S wt (fun t=>if t<=L then Ts t else Sx.turn (Ts L) p q) (fun t=>if t<L then ps t else p) (fun t=>if t<L then qs t else q) (L+1):=by
 refine⟨by rw[au (dX L)];exact R.first,fun t ht=> ?_,fun t ht=> ?_⟩
 ·by_cases c:t<L
  ·rw[au (dD c),au c,au c];exact R.step t c
  ·have e:t=L:=by omega
   subst e;rw[au (aR t),aq c,aq c];exact s
 ·by_cases c:t<L
  ·rw[au (show t+1<=L from c),au (dD c),au c,au c];exact R.next t c
  ·have e:t=L:=by omega
   subst e;rw[aq (by omega),au (aR t),aq c,aq c]
structure Sta(n m:Nat)(S:Nat->Nat->Bool)(wt:Nat->Int):Prop where
 n10:n<=10
 Xz:m<=40
 wb:∀p,p<n->0<=wt p/\wt p<=99
 cov:∀p,p<n->∃k,k<m/\S k p=true
theorem Sta.tg{n m:Nat}{S:Nat->Nat->Bool}{wt:Nat->Int}{T:Sx.Tab}(h:Sta n m S wt)(g:Sx.Good n m S wt T):TG n m S wt T:=⟨g,h.n10,h.Xz,h.wb,h.cov⟩
noncomputable def NcV(n m:Nat)(T:Sx.Tab)(x:V):Prop:=(x= .non/\∀c,c<n->0<=T.cell m c)\/∃q:Nat,x= .int (q:Int)/\q<n/\T.cell m q<0/\∀c,c<n->T.cell m c<0->T.col q<=T.col c
noncomputable def Mr(K:W.Frag)(C o:Addr)(H0:Hp)(n m:Nat)(S:Nat->Nat->Bool)(wt:Nat->Int)(k:Nat)(σ:St)(H:Hp):Prop:=
 ∃(Ts:Nat->Sx.Tab) (ps qs:Nat->Nat) (L:Nat) (x:V),Sx.Run n m S wt Ts ps qs L/\L+k=2^(n+m)/\j6 K C H0 H o n m (Ts L)/\σ=[some (.ref o),some x]/\NcV n m (Ts L) x
noncomputable def Jr(K:W.Frag)(C:Addr):Sp:=fun vs H Q _=>∃(o:Addr) (H0:Hp) (n m:Nat) (S:Nat->Nat->Bool) (wt:Nat->Int) (T:Sx.Tab),vs=[.ref o]/\j6 K C H0 H o n m T/\Sta n m S wt/\Sx.Good n m S wt T/\
 ∀T' H',j6 K C H0 H' o n m T'->Sx.Good n m S wt T'->(∀c,c<n->0<=T'.cell m c)->Q .non H'
theorem Tp{f f1 f2 f3 C:Addr}{fd d1 d2 d3:ρ}(F:Fun K "solve" "Tableau.solve" zdk f fd)
  (Cc:Cls K C)(bh:NoAttr K C "cells")(cY:NoAttr K C "over")(aW:NoAttr K C "columns")(cu:NoAttr K C "rows")(D1:lM K C "next_column" "Tableau.next_column" zbs ["self"] f1 d1)(Qu:FnOk P w K mg base CX0 1 f1 d1 ["self"] (Ju K C))(D2:lM K C "turn" "Tableau.turn" fU ["self","row","column"] f2 d2)(G2:FnOk P w K mg base CX0 2 f2 d2 ["self","row","column"] (QX K C))(D3:lM K C "next_row" "Tableau.next_row" zck ["self","column"] f3 d3)(G3:FnOk P w K mg base CX0 2 f3 d3 ["self","column"] (Q5 K C)):
  FnOk P w K mg base CX0 3 f fd ["self"] (Jr K C):=by
 have G1:FnOk P w K mg base CX0 2 f1 d1 ["self"] (Ju K C):=Qu.mono (by decide);refine F.cG ["self","column"] fun cdv A outer s H vs Q E hr h=> ?_;obtain⟨o,H0,n,m,S,wt,T,rfl,hT,hS,hg,qq⟩:=h;refine bA ?_;intro Y;refine⟨_,(aM (pS 1 (Ge (pv 0) Cc D1.m G1 hr D1.b .nil pass0)) (aX (ps_while Iw (dO op_notN (pv 1) pe_non) (aM (lY (uJ (pv 0) Cc D2.m G2 hr D2.b .nil pass0 (aj (uJ (pv 0) Cc D3.m G3 hr D3.b .nil pass0 (aj (pv 1) ak)) (aj (pv 1) ak)))) (aX (pS 1 (Ge (pv 0) Cc D1.m G1 hr D1.b .nil pass0))))))),?_⟩;refine oO ?_;intro c2;have key:∀(x:V) (H1:Hp),j6 K C H0 H1 o n m T->NcV n m T x->∃k,Mr K C o H0 n m S wt k [some (.ref o),some x] H1:=fun x H1 h1 h2=>
  ⟨2^(n+m),fun _=>T,fun _=>0,fun _=>0,0,x,⟨hg,fun t ht=>absurd ht (RD t),fun t ht=>absurd ht (RD t)⟩,Nat.zero_add _,h1,rfl,h2⟩
 obtain⟨dx,cl,co,ro,rws,hA0⟩:=id hT;refine⟨_,rfl,o,dx,_,rfl,hA0.at_,rfl,o,H0,n,m,S,wt,T,rfl,hT,hS.tg hg,?a,?b⟩
 case' a=>
  intro h H1 s1;have w0:=key _ _ (hT.sm s1) (.inl ⟨rfl,h⟩);refine⟨Mr K C o H0 n m S wt,w0,?_⟩;clear w0 s1 h
 case' b=>
  intro q H1 hq hn he s1;have w0:=key _ _ (hT.sm s1) (.inr ⟨q,rfl,hq,hn,he⟩);refine⟨Mr K C o H0 n m S wt,w0,?_⟩;clear w0 s1 he hn hq q
 all_goals
  clear H1;intro k σ H1 h;obtain⟨Ts,ps,qs,L,x,R,hk,⟨dx',cl,co,ro,rws,hA⟩,rfl,hx⟩:=h;have hgL:=R.good L (aR L);have hG:=hS.tg hgL;have hsh:=R.short;rcases hx with⟨rfl,hx⟩|⟨q,rfl,hq,hn,he⟩
  ·refine⟨_,rfl,rfl,_,rfl,?_⟩;refine iteF ?_;exact qq (Ts L) H1 ⟨dx',cl,co,ro,rws,hA⟩ hgL hx
  ·refine⟨_,rfl,rfl,_,rfl,?_⟩;refine iteT ?_;refine⟨Mr K C o H0 n m S wt (k-1),fun σ' H' z=>⟨k-1,by omega,z⟩,?_⟩;refine⟨_,rfl,o,dx',_,rfl,hA.at_,rfl,_,rfl,o,dx',_,rfl,hA.at_,rfl,_,rfl,o,H0,n,m,q,S,wt,Ts L,rfl,⟨dx',cl,co,ro,rws,hA⟩,hG,hq,fun p hp h0 hlev=> ?_⟩;have st:Sx.Step n m (Ts L) p q:=⟨hp,hq,hn,he,h0,hlev⟩;refine⟨_,rfl,o,H0,n,m,p,q,S,wt,Ts L,rfl,⟨dx',cl,co,ro,rws,hA⟩,hG,hp,hq,fun H2 hT2=> ?_⟩;have R2:=J0 R st;have g2:=st.good hgL;obtain⟨YB,cl2,co2,ro2,aaR,hA2⟩:=id hT2;have fin:∀(x:V) (H3:Hp),Same H2 H3->NcV n m (Sx.turn (Ts L) p q) x->Mr K C o H0 n m S wt (k-1) [some (.ref o),some x] H3:=fun x H3 s3 hx=>by
    refine⟨_,_,_,L+1,x,R2,by omega,?_,rfl,?_⟩
    ·rw[aq (by omega)];exact hT2.sm s3
    ·rw[aq (by omega)];exact hx
   exact⟨_,rfl,o,YB,_,rfl,hA2.at_,rfl,o,H0,n,m,S,wt,_,rfl,hT2,hS.tg g2,fun h H3 s3=>fin _ H3 s3 (.inl ⟨rfl,h⟩),fun q' H3 hq' hn' he' s3=>fin _ H3 s3 (.inr ⟨q',rfl,hq',hn',he'⟩)⟩
noncomputable def YZ(k:Nat)(i:Int)(r:Nat):Prop:=(i=(r:Int)/\r<=k)\/(i= -1/\r=k)
noncomputable def yx(K:W.Frag)(C:Addr):Sp:=fun vs H Q _=>∃(o:Addr) (H0:Hp) (n m r c:Nat) (i j:Int) (S:Nat->Nat->Bool) (wt:Nat->Int) (T:Sx.Tab),vs=[.ref o,.int i,.int j]/\j6 K C H0 H o n m T/\TG n m S wt T/\YZ m i r/\YZ n j c/\
 ∀p H' u v,Same H H'->H' p=some (.tup [.int u,.int ((v:Nat):Int)])->Low (T.cell r c) T.over.toNat u v->Q (.ref p) H'
theorem Tw{f f1 C:Addr}{fd d1:ρ}(F:Fun K "fraction_at" "Tableau.fraction_at" Wh f fd)
  (Cc:Cls K C)(bh:NoAttr K C "cells")(cY:NoAttr K C "over")(aW:NoAttr K C "columns")(cu:NoAttr K C "rows")(D1:bJ K mg "lowest" fL ["a","b"] f1 d1)(G1:FnOk P w K mg base CX0 2 f1 d1 ["a","b"] (vG K)):
  FnOk P w K mg base CX0 3 f fd ["self","row","column"] (yx K C):=by
 refine F.cG ["self","row","column"] fun cdv A outer s H vs Q E hr h=> ?_;obtain⟨o,H0,n,m,r,c,i,j,S,wt,T,rfl,⟨dx,cl,co,ro,rws,hT⟩,hG,hi,hj,qq⟩:=h;refine⟨_,(aX (bM (pc G1 hr D1 (aj (aP kJ (aP kJ (gB (pv 0) rfl) (pv 1)) (pv 2)) (aj (gB (pv 0) rfl) ak))))),?_⟩;have hri:∃a,atI (rws.map V.ref) i=some (.ref a)/\H a=some (.lst (aZ n (T.cell r))):=by
  rcases hi with⟨rfl,h⟩|⟨rfl,rfl⟩
  ·obtain⟨a,_,h1,h2⟩:=hT.Gu h;exact⟨a,h1,h2⟩
  ·obtain⟨a,_,h1,h2⟩:=hT.Xc;exact⟨a,h1,h2⟩
 have hcj:atI (aZ n (T.cell r)) j=some (.int (T.cell r c)):=by
  rcases hj with⟨rfl,h⟩|⟨rfl,rfl⟩
  ·exact dZ _ h
  ·exact pY _ _
 obtain⟨a,h1,h2⟩:=hri;have ho:=hG.over;refine⟨_,rfl,o,C,dx,_,_,rfl,hT.at_,Cc,bh,rfl,_,rfl,cl,_,_,_,rfl,rfl,SqL.of hT.cells,h1,_,rfl,a,_,_,_,rfl,rfl,SqL.of h2,hcj,?_⟩;refine⟨_,rfl,o,C,dx,_,_,rfl,hT.at_,Cc,cY,rfl,T.cell r c,T.over.toNat,?_,by omega,cQ (show T.over.toNat<=39916800 by omega) (by decide),fun p H' u v s e l=>qq p H' u v s e l⟩;rw[show((T.over.toNat:Nat):Int)=T.over by omega];rfl
theorem zj{u:Int}{v b:Nat}(hb:0<b)(h:Low 0 1 u v):Low 0 b u v:=by
 have e:=h.eq;have hu:u=0:=by omega
 subst hu;have c:=h.cop;rw[show(0:Int).natAbs=0 from rfl,Nat.gcd_zero_left]at c;subst c;exact⟨by decide,rfl,by omega,aR _,hb,fun _=>pF _⟩
noncomputable def Jt(K:W.Frag)(C:Addr):Sp:=fun vs H Q _=>∃(o:Addr) (H0:Hp) (n m a:Nat) (S:Nat->Nat->Bool) (wt:Nat->Int) (T:Sx.Tab),vs=[.ref o,.int (a:Int)]/\j6 K C H0 H o n m T/\TG n m S wt T/\
 ∀p H' u v,Same H H'->H' p=some (.tup [.int u,.int ((v:Nat):Int)])->Low (Sx.Xs n m T a) T.over.toNat u v->Q (.ref p) H'
theorem Tr{f f1 f2 C:Addr}{fd d1 d2:ρ}(F:Fun K "price_of" "Tableau.price_of" zcj f fd)
  (Cc:Cls K C)(bh:NoAttr K C "cells")(cY:NoAttr K C "over")(aW:NoAttr K C "columns")(cu:NoAttr K C "rows")(D1:bJ K mg "lowest" fL ["a","b"] f1 d1)(G1:FnOk P w K mg base CX0 2 f1 d1 ["a","b"] (vG K))(D2:lM K C "fraction_at" "Tableau.fraction_at" Wh ["self","row","column"] f2 d2)(G2:FnOk P w K mg base CX0 3 f2 d2 ["self","row","column"] (yx K C)):
  FnOk P w K mg base CX0 4 f fd ["self","name"] (Jt K C):=by
 refine F.cG ["self","name"] fun cdv A outer s H vs Q E hr h=> ?_;obtain⟨o,H0,n,m,a,S,wt,T,rfl,⟨dx,cl,co,ro,rws,hT⟩,hG,qq⟩:=h;refine bA ?_;intro Y;refine⟨_,(aM (fJ (dO (vK hr.units) (pv 1) (gB (pv 0) rfl) (by with_unfolding_all rfl)) (aX (bM (pc G1 hr D1 (aj aB (aj aB ak))))) gC) (aX (bM (uJ (pv 0) Cc D2.m G2 hr D2.b .nil pass0 (aj (pe_bm VL wbv wbw p8 (gB (pv 0) rfl) (aj (pv 1) ak)) (aj (pe_un un_neg aB) ak)))))),?_⟩;refine oO ?_;intro c2;have ho:=hG.over;refine⟨_,rfl,_,rfl,o,C,dx,_,_,rfl,hT.at_,Cc,cu,rfl,ro,_,_,.int (a:Int),rfl,.inl (SqL.of hT.rows),cO.ints _,.int _,Nf _,rfl,(by show 0<=60;decide),_,rfl,?_⟩;rw[any_ints];refine ite2 (fun c=> ?_) (fun c=> ?_)
 ·have c':((a:Nat):Int)∉bU m T.row:=by
   intro hm;rw[cI hm]at c;cases c
  refine⟨0,1,rfl,by decide,by decide,fun p H' u v s e l=>qq p H' u v s e ?_⟩;rw[Sx.QH fun r hr z=>c' (by
   have:=Dt T.row hr;rw[z]at this;exact qQ this)]
  exact zj (by omega) l
 ·have c':((a:Nat):Int)∈bU m T.row:=by
   refine VN fun hm=>c ?_;rw[jK hm];rfl
  obtain⟨r,hr1,er⟩:=MP c';have hr0:r<m:=by rw[Gg]at hr1;exact hr1
  have e0:=eO hr1;rw[er]at e0;have ea:T.row r=a:=by
   rw[Dt _ hr0]at e0;exact Wx (uI e0)
  subst ea;refine⟨_,rfl,o,dx,_,rfl,hT.at_,rfl,_,rfl,o,C,dx,_,_,rfl,hT.at_,Cc,cu,rfl,.inl ⟨rfl,_,SqL.of hT.rows⟩,_,rfl,ro,bU m T.row,_,r,rfl,rfl,hT.rows,Dt _ hr0,fun i hi e=> ?_,by rw[Gg];have:=hG.Xz;omega,?_⟩
  ·rw[Dt _ (by omega)]at e;have:=hG.good.J4 i r (by omega) hr0 (Wx (uI e));omega
  ·refine⟨_,rfl,o,H0,n,m,r,n,_,_,S,wt,T,rfl,⟨dx,cl,co,ro,rws,hT⟩,hG,.inl ⟨rfl,dD hr0⟩,.inr ⟨rfl,rfl⟩,fun p H' u v s e l=>qq p H' u v s e ?_⟩;rw[hG.good.QK hr0];exact l
noncomputable def Js(K:W.Frag)(C:Addr):Sp:=fun vs H Q _=>∃(o:Addr) (H0:Hp) (n m a:Nat) (S:Nat->Nat->Bool) (wt:Nat->Int) (T:Sx.Tab),vs=[.ref o,.int (a:Int)]/\j6 K C H0 H o n m T/\TG n m S wt T/\
 ∀p H' u v,Same H H'->H' p=some (.tup [.int u,.int ((v:Nat):Int)])->Low (Sx.Ys n m T a) T.over.toNat u v->Q (.ref p) H'
theorem Tq{f f1 f2 C:Addr}{fd d1 d2:ρ}(F:Fun K "share_of" "Tableau.share_of" zci f fd)
  (Cc:Cls K C)(bh:NoAttr K C "cells")(cY:NoAttr K C "over")(aW:NoAttr K C "columns")(cu:NoAttr K C "rows")(D1:bJ K mg "lowest" fL ["a","b"] f1 d1)(G1:FnOk P w K mg base CX0 2 f1 d1 ["a","b"] (vG K))(D2:lM K C "fraction_at" "Tableau.fraction_at" Wh ["self","row","column"] f2 d2)(G2:FnOk P w K mg base CX0 3 f2 d2 ["self","row","column"] (yx K C)):
  FnOk P w K mg base CX0 4 f fd ["self","name"] (Js K C):=by
 refine F.cG ["self","name"] fun cdv A outer s H vs Q E hr h=> ?_;obtain⟨o,H0,n,m,a,S,wt,T,rfl,⟨dx,cl,co,ro,rws,hT⟩,hG,qq⟩:=h;refine bA ?_;intro Y;refine⟨_,(aM (fJ (dO (vK hr.units) (pv 1) (gB (pv 0) rfl) (by with_unfolding_all rfl)) (aX (bM (pc G1 hr D1 (aj aB (aj aB ak))))) gC) (aX (bM (uJ (pv 0) Cc D2.m G2 hr D2.b .nil pass0 (aj (pe_un un_neg aB) (aj (pe_bm VL wbv wbw p8 (gB (pv 0) rfl) (aj (pv 1) ak)) ak)))))),?_⟩;refine oO ?_;intro c2;have ho:=hG.over;refine⟨_,rfl,_,rfl,o,C,dx,_,_,rfl,hT.at_,Cc,aW,rfl,co,_,_,.int (a:Int),rfl,.inl (SqL.of hT.cols),cO.ints _,.int _,Nf _,rfl,(by show 0<=60;decide),_,rfl,?_⟩;rw[any_ints];refine ite2 (fun c=> ?_) (fun c=> ?_)
 ·have c':((a:Nat):Int)∉bU n T.col:=by
   intro hm;rw[cI hm]at c;cases c
  refine⟨0,1,rfl,by decide,by decide,fun p H' u v s e l=>qq p H' u v s e ?_⟩;rw[Sx.Wi fun r hr z=>c' (by
   have:=Dt T.col hr;rw[z]at this;exact qQ this)]
  exact zj (by omega) l
 ·have c':((a:Nat):Int)∈bU n T.col:=by
   refine VN fun hm=>c ?_;rw[jK hm];rfl
  obtain⟨r,hr1,er⟩:=MP c';have hr0:r<n:=by rw[Gg]at hr1;exact hr1
  have e0:=eO hr1;rw[er]at e0;have ea:T.col r=a:=by
   rw[Dt _ hr0]at e0;exact Wx (uI e0)
  subst ea;refine⟨_,rfl,o,dx,_,rfl,hT.at_,rfl,_,rfl,_,rfl,o,C,dx,_,_,rfl,hT.at_,Cc,aW,rfl,.inl ⟨rfl,_,SqL.of hT.cols⟩,_,rfl,co,bU n T.col,_,r,rfl,rfl,hT.cols,Dt _ hr0,fun i hi e=> ?_,by rw[Gg];have:=hG.n10;omega,?_⟩
  ·rw[Dt _ (by omega)]at e;have:=hG.good.Cz i r (by omega) hr0 (Wx (uI e));omega
  ·refine⟨o,H0,n,m,m,r,_,_,S,wt,T,rfl,⟨dx,cl,co,ro,rws,hT⟩,hG,.inr ⟨rfl,rfl⟩,.inl ⟨rfl,dD hr0⟩,fun p H' u v s e l=>qq p H' u v s e ?_⟩;rw[hG.good.Wj hr0];exact l
noncomputable def dR(L:List (List Int))(k p:Nat):Bool:=decide (((p:Nat):Int)∈L.getD k [])
noncomputable def nM(wl:List Int)(p:Nat):Int:=wl.getD p 0
theorem SQ{n m r:Nat}{L:List (List Int)}{wt:Nat->Int}(hr:r<m):((List.range n).map fun(p:Nat)=>if decide (((p:Nat):Int)∈L.getD r [])=true then(1:Int)else 0).map V.int++[.int 1]=aZ n ((Sx.start n m (dR L) wt).cell r):=by
 unfold aZ;rw[yh,cg,cg];congr 1
 ·refine jz _ (Nu fun c hc=> ?_);have hc':=pJ.mp hc;show _=if r=m then _ else if c=n then(1:Int)else if dR L r c=true then 1 else 0
  rw[aq (show¬r=m by omega),aq (show¬c=n by omega)];rfl
 ·show[V.int 1]=[V.int (if r=m then _ else if n=n then(1:Int)else _)];rw[aq (by omega),au rfl]
theorem N7{m:Nat}{L:List (List Int)}{wl:List Int}:(wl.map fun x=> -x).map V.int++[.int 0]=aZ wl.length ((Sx.start wl.length m (dR L) (nM wl)).cell m):=by
 unfold aZ;rw[yh,cg,cg];congr 1
 ·refine jz _ (wce fun i=> ?_);rw[dY,dY];by_cases hi:i<wl.length
  ·rw[eO hi,RL hi];show some (-wl[i])=some (if m=m then(if i=wl.length then(0:Int)else -(wl.getD i 0))else _);rw[au rfl,aq (by omega),iR,eO hi];rfl
  ·rw[Vx (by omega),Vx (by rw[vm];omega)];rfl
 ·show[V.int 0]=[V.int (if m=m then(if wl.length=wl.length then(0:Int)else _)else _)];rw[au rfl,au rfl]
theorem _root_.L2.SqT.Gm{H:Hp}{a o C dx:Addr}{fs:List (Str×V)}{u:HO}{xs:List V}(hO:H o=some (.ins C dx fs))(h:SqT K H a xs):SqT K (upd H o u) a xs:=by
 rcases h with(h|⟨ob,h⟩)|h
 ·exact .inl (.inl (by rw[cP (ne_of h hO fun e=>nomatch e)];exact h))
 ·exact .inl (.inr ⟨ob,by rw[cP (ne_of h hO fun e=>nomatch e)];exact h⟩)
 ·exact .inr h
noncomputable def Bh(K:W.Frag)(C:Addr):Sp:=fun vs H Q _=>∃(o dx sl wa:Addr) (H0:Hp) (its:List (Addr×List Int)) (wl:List Int),vs=[.ref o,.ref sl,.ref wa]/\H o=some (.ins C dx [])/\Same H0 H/\H0 o=none/\H sl=some (.lst (its.map fun p=>V.ref p.1))/\(∀p∈its,SqT K H p.1 (p.2.map V.int))/\SqT K H wa (wl.map V.int)/\wl.length<=10/\its.length<=40/\
 ∀H',j6 K C H0 H' o wl.length its.length (Sx.start wl.length its.length (dR (its.map (·.2))) (nM wl))->Q .non H'
theorem Oj{f C:Addr}{fd:ρ}(F:Fun K "__init__" "Tableau.__init__" fV f fd)
  (Cc:Cls K C)(bh:NoAttr K C "cells")(cY:NoAttr K C "over")(aW:NoAttr K C "columns")(cu:NoAttr K C "rows")(bY:mg "len"=none)(aN:mg "range"=none)(dI:mg "list"=none):
  FnOk P w K mg base CX0 1 f fd ["self","sets","wants"] (Bh K C):=by
 refine F.cG ["self","sets","wants","n"] fun cdv A outer s H vs Q E hr h=> ?_;obtain⟨o,dx,sl,wa,H0,its,wl,rfl,hO,hS0,h0,hS,hP,hW,hn,hm,qq⟩:=h;refine bA ?_;intro Y;refine⟨_,(aM (pS 3 (pB vg bY (aj (pv 2) ak))) (aM (ps_fld (pv 0) (pK ["some"] ["n"] [3] (Ag (pv 1)) (pG 0) pD (bK op_cat (pK ["place"] ["some"] [0] (HW rfl aN (aj (pv 1) ak)) (pG 0) pD (pe_ifExp (dO (lA K hr.units) (pv 0) (pv 1) (by with_unfolding_all rfl)) aB aB)) (pe_lst (aj aB ak)))) rfl) (aM (lY (pe_bm VL wdq wdr mt_append (gB (pv 0) rfl) (aj (bK op_cat (pK ["want"] [] [] (Aj (pv 2)) (pG 0) pD (pe_un un_neg (pv 0))) (pe_lst (aj aB ak))) ak))) (aM (ps_fld (pv 0) aB rfl) (aM (ps_fld (pv 0) (qJ rfl rfl dI rfl aN (aj (pv 3) ak)) rfl) (aX (ps_fld (pv 0) (wC rfl rfl dI rfl aN (aj (pv 3) (aj (bK nA (pv 3) (pB vg bY (aj (pv 1) ak))) ak))) rfl))))))),?_⟩;refine K5 ?_;intro c6 c5 c4 c3 c2;refine⟨_,rfl,wa,_,rfl,.inr hW,fun _=> ?_⟩;rw[aH];refine⟨_,rfl,sl,_,rfl,SqL.of hS,fun hz=> ?_⟩;let mZ:Nat->List V->St->Hp->Prop:=fun i acc σ H'=>∃as:List Addr,acc=as.map V.ref/\as.length=i/\Same H H'/\(∀r a,as[r]? =some a->H' a=some (.lst (aZ wl.length ((Sx.start wl.length its.length (dR (its.map (·.2))) (nM wl)).cell r))))/\∃o1,σ=[o1,some (.int (wl.length:Int))];refine Am (xs:=its.map fun p=>V.ref p.1) mZ ⟨[],rfl,rfl,Same.refl _,fun r a e=>(nomatch e),_,rfl⟩ (fun i acc σ H' _ x=> ?_) (fun i acc σ H' _ x=> ?_) hz (fun i v acc σ H1 hv x=> ?_) (fun acc σ H1 x=> ?_)
 ·obtain⟨_,_,_,sm,_⟩:=x;exact sm.seq (SqL.of hS)
 ·obtain⟨as,rfl,hl,_⟩:=x;rw[aH,hl];exact aR _
 ·obtain⟨as,rfl,hl,sm,has,o1,rfl⟩:=x;rw[dY]at hv;cases ev:its[i]? with
  |none=>rw[ev]at hv;cases hv
  |some it=>
   rw[ev]at hv;cases hv;have him:i<its.length:=(pO.mp ev).1;have hit:=hP it (qQ ev);have eg:(its.map (·.2)).getD i []=it.2:=by rw[iR,dY,ev];rfl
   refine⟨_,rfl,_,rfl,by omega,by omega,?_⟩;let xQ:Nat->List V->St->Hp->Prop:=fun c acc σ H'=>acc=((List.range c).map fun(p:Nat)=>if decide (((p:Nat):Int)∈it.2)=true then(1:Int)else 0).map V.int/\H'=H1/\∃o2,σ=[o2,some (.ref it.1)];refine Qy (n:=wl.length) xQ ⟨rfl,rfl,_,rfl⟩ (fun c acc σ H' hc y=> ?_) (by rw[iz];omega) (fun c acc σ H' hc y=> ?_) (fun acc σ H' y=> ?_)
   ·rw[y.1,aH,aH,vm];exact aR _
   ·obtain⟨rfl,rfl,o2,rfl⟩:=y;refine⟨_,rfl,_,rfl,it.1,_,_,.int (0+(c:Int)),rfl,.inr (sm.tup hit),cO.ints _,.int _,Nf _,rfl,(by show 0<=60;decide),_,rfl,?_⟩;rw[any_ints,ZM];refine ite2 (fun z=> ?_) (fun z=> ?_)
    ·exact⟨by rw[yh,cg,cg];show _=_++[V.int (if _ then _ else _)];rw[au z],rfl,_,rfl⟩
    ·exact⟨by rw[yh,cg,cg];show _=_++[V.int (if _ then _ else _)];rw[aq z],rfl,_,rfl⟩
   ·intro p1 hp1;obtain⟨rfl,rfl,_⟩:=y;have s1:=aK hp1 (.lst (((List.range wl.length).map fun(p:Nat)=>if decide (((p:Nat):Int)∈it.2)=true then(1:Int)else 0).map V.int));refine⟨(by show 1<=sizeLine;decide),fun p2 hp2=> ?_⟩;have s2:=aK hp2 (.lst [.int 1]);refine⟨p1,p2,_,_,rfl,rfl,s2 _ _ aA,aA,(by rw[aH,aH,vm,iz];show _+1<=_;omega),fun p3 hp3=> ?_⟩;have s3:=aK hp3 (.lst (((List.range wl.length).map fun(p:Nat)=>if decide (((p:Nat):Int)∈it.2)=true then(1:Int)else 0).map V.int++[.int 1]));have nH:=s1.trans (s2.trans s3);refine⟨as++[p3],by rw[cg];rfl,by rw[rE,hl];rfl,sm.trans nH,fun r a e=> ?_,_,rfl⟩;rw[wck]at e;by_cases c:r<as.length
    ·rw[au c]at e;exact nH _ _ (has r a e)
    ·rw[aq c]at e;have Yw:r-as.length=0:=by
      have:=(pO.mp e).1;have:r-as.length<1:=this;omega
     rw[Yw]at e;cases e;have:r=i:=by omega
     subst this;rw[aA,<-SQ (wt:=nM wl) him,eg]
 ·intro p1 hp1;obtain⟨as,rfl,hl,sm,has,_⟩:=x;rw[aH]at hl;have s1:=aK hp1 (.lst (as.map V.ref));have hO1:=(sm.trans s1) _ _ hO;refine⟨_,rfl,o,C,dx,_,rfl,hO1,Cc,bh,(by show 0<1000;decide),?_⟩
  -- what lies beside the object
  have np:p1≠o:=(rC (sm _ _ hO) hp1).symm;have h10:H p1=none:=sm.none hp1;have Mp:∀r a,as[r]? =some a->a≠o/\a≠p1:=fun r a e=>⟨fun z=>(by have y:=has r a e;rw[z,sm _ _ hO]at y;cases y),fun z=>(by have y:=has r a e;rw[z,hp1]at y;cases y)⟩;have W2:SqT K (upd (upd H1 p1 (.lst (as.map V.ref))) o (.ins C dx (putF "cells" (.ref p1) []))) wa (wl.map V.int):=((sm.trans s1).tup hW).Gm hO1;have S2:(upd (upd H1 p1 (.lst (as.map V.ref))) o (.ins C dx (putF "cells" (.ref p1) []))) sl=some (.lst (its.map fun p=>V.ref p.1)):=by
   rw[cP (ne_of ((sm.trans s1) _ _ hS) hO1 fun e=>nomatch e)];exact(sm.trans s1) _ _ hS
  have A2:∀r a,as[r]? =some a->(upd (upd H1 p1 (.lst (as.map V.ref))) o (.ins C dx (putF "cells" (.ref p1) []))) a=some (.lst (aZ wl.length ((Sx.start wl.length its.length (dR (its.map (·.2))) (nM wl)).cell r))):=fun r a e=>by
   rw[cP (Mp r a e).1];exact s1 _ _ (has r a e)
  have P2:(upd (upd H1 p1 (.lst (as.map V.ref))) o (.ins C dx (putF "cells" (.ref p1) []))) p1=some (.lst (as.map V.ref)):=by rw[cP np,aA]
  have O2:(upd (upd H1 p1 (.lst (as.map V.ref))) o (.ins C dx (putF "cells" (.ref p1) []))) o=some (.ins C dx [("cells",.ref p1)]):=aA;have Z2:Same H0 (upd (upd H1 p1 (.lst (as.map V.ref))) o (.ins C dx (putF "cells" (.ref p1) []))):=Same.uN (hS0.trans (sm.trans s1)) h0;generalize (upd (upd H1 p1 (.lst (as.map V.ref))) o (.ins C dx (putF "cells" (.ref p1) [])))=H2 at *;refine⟨_,rfl,o,C,dx,_,_,rfl,O2,Cc,bh,rfl,.inl ⟨rfl,_,SqL.of P2⟩,_,rfl,wa,_,rfl,W2,fun hz2=> ?_⟩;let HD:Nat->List V->St->Hp->Prop:=fun i acc σ H'=>acc=((wl.take i).map fun x=> -x).map V.int/\H'=H2/\∃o2,σ=[o2];refine Al (xs:=wl.map V.int) HD ⟨rfl,rfl,_,rfl⟩ (fun i acc σ H' _ y=>by rw[y.2.1];exact W2) (fun i acc σ H' _ y=> ?_) hz2 (fun i v acc σ H' hv y=> ?_) (fun acc σ H' y=> ?_)
  ·rw[y.1,aH,aH,uH];exact Av _ _
  ·obtain⟨rfl,rfl,o2,rfl⟩:=y;rw[dY]at hv;cases ev:wl[i]? with
   |none=>rw[ev]at hv;cases hv
   |some x=>
    rw[ev]at hv;cases hv;exact⟨_,rfl,_,rfl,by rw[vX,ev,cg,cg];rfl,rfl,_,rfl⟩
  intro p2 hp2;obtain⟨rfl,rfl,_⟩:=y;rw[aH,rW];have s2:=aK hp2 (.lst ((wl.map fun x=> -x).map V.int));refine⟨(by show 1<=sizeLine;decide),fun p3 hp3=> ?_⟩;have s3:=aK hp3 (.lst [.int 0]);refine⟨p2,p3,_,_,rfl,rfl,s3 _ _ aA,aA,(by rw[aH,aH,iz];show _+1<=_;omega),fun p4 hp4=> ?_⟩;have s4:=aK hp4 (.lst ((wl.map fun x=> -x).map V.int++[.int 0]));have Bw:=s2.trans (s3.trans s4);rw[N7 (m:=its.length) (L:=its.map (·.2))]at Bw s4⊢;have e4:(upd (upd (upd H' p2 (.lst ((wl.map fun x=> -x).map V.int))) p3 (.lst [.int 0])) p4 (.lst (aZ wl.length ((Sx.start wl.length its.length (dR (its.map (·.2))) (nM wl)).cell its.length)))) p4=some (.lst (aZ wl.length ((Sx.start wl.length its.length (dR (its.map (·.2))) (nM wl)).cell its.length))):=aA;have n4:p4≠p1:=(rC (s3 _ _ (s2 _ _ P2)) hp4).symm;have n4o:p4≠o:=(rC (s3 _ _ (s2 _ _ O2)) hp4).symm;have P3:=Bw _ _ P2;have O3:=Bw _ _ O2;have S3:=Bw _ _ S2;have Z3:=Z2.trans Bw;have A3:∀r a,as[r]? =some a->_:=fun r a e=>Bw _ _ (A2 r a e);generalize (upd (upd (upd H' p2 (.lst ((wl.map fun x=> -x).map V.int))) p3 (.lst [.int 0])) p4 (.lst (aZ wl.length ((Sx.start wl.length its.length (dR (its.map (·.2))) (nM wl)).cell its.length))))=H3 at *;refine⟨p1,_,_,rfl,rfl,P3,(by rw[aH,iz];omega),?_⟩
  -- all rows
  have h1n:H0 p1=none:=hS0.none h10;have nos:o≠p1:=np.symm;have nsl:sl≠p1:=(rC hS h10);have C4:(upd H3 p1 (.lst (as.map V.ref++[.ref p4]))) p1=some (.lst ((as++[p4]).map V.ref)):=by rw[aA,cg];rfl
  have O4:(upd H3 p1 (.lst (as.map V.ref++[.ref p4]))) o=some (.ins C dx [("cells",.ref p1)]):=by rw[cP nos];exact O3
  have S4:(upd H3 p1 (.lst (as.map V.ref++[.ref p4]))) sl=some (.lst (its.map fun p=>V.ref p.1)):=by rw[cP nsl];exact S3
  have Z4:Same H0 (upd H3 p1 (.lst (as.map V.ref++[.ref p4]))):=Same.uN Z3 h1n;have R4:∀r a,(as++[p4])[r]? =some a->(upd H3 p1 (.lst (as.map V.ref++[.ref p4]))) a=some (.lst (aZ wl.length ((Sx.start wl.length its.length (dR (its.map (·.2))) (nM wl)).cell r)))/\a≠o:=fun r a e=>by
   rw[wck]at e;by_cases c:r<as.length
   ·rw[au c]at e;refine⟨?_,(Mp r a e).1⟩;rw[cP (Mp r a e).2];exact A3 r a e
   ·rw[aq c]at e;have Yw:r-as.length=0:=by
     have:=(pO.mp e).1;have:r-as.length<1:=this;omega
    rw[Yw]at e;cases e;have:r=its.length:=by omega
    subst this;refine⟨?_,n4o⟩;rw[cP n4];exact e4
  generalize (upd H3 p1 (.lst (as.map V.ref++[.ref p4])))=H4 at *;refine⟨_,rfl,o,C,dx,_,rfl,O4,Cc,cY,(by show 1<1000;decide),?_⟩;have O5:(upd H4 o (.ins C dx (putF "over" (.int 1) [("cells",.ref p1)]))) o=some (.ins C dx [("cells",.ref p1),("over",.int 1)]):=aA;have k5:∀b u,b≠o->H4 b=some u->(upd H4 o (.ins C dx (putF "over" (.int 1) [("cells",.ref p1)]))) b=some u:=fun b u hb e=>by rw[cP hb];exact e
  have nso:sl≠o:=ne_of S4 O4 fun e=>nomatch e
  have C5:=k5 _ _ np C4;have S5:=k5 _ _ nso S4;have Z5:Same H0 (upd H4 o (.ins C dx (putF "over" (.int 1) [("cells",.ref p1)]))):=Same.uN Z4 h0;have R5:∀r a,(as++[p4])[r]? =some a->_:=fun r a e=>k5 _ _ (R4 r a e).2 (R4 r a e).1;generalize (upd H4 o (.ins C dx (putF "over" (.int 1) [("cells",.ref p1)])))=H5 at *;refine⟨_,rfl,(wl.length:Int),rfl,by omega,by omega,fun co hco=> ?_⟩;have s6:=aK hco (.lst (eX (wl.length:Int).toNat));have O6:=s6 _ _ O5;refine⟨_,rfl,o,C,dx,_,rfl,O6,Cc,aW,(by show 2<1000;decide),?_⟩;have nco:co≠o:=(rC O5 hco).symm;have k7:∀b u,b≠o->(upd H5 co (.lst (eX (wl.length:Int).toNat))) b=some u->(upd (upd H5 co (.lst (eX (wl.length:Int).toNat))) o (.ins C dx (putF "columns" (.ref co) [("cells",.ref p1),("over",.int 1)]))) b=some u:=fun b u hb e=>by rw[cP hb];exact e
  have O7:(upd (upd H5 co (.lst (eX (wl.length:Int).toNat))) o (.ins C dx (putF "columns" (.ref co) [("cells",.ref p1),("over",.int 1)]))) o=some (.ins C dx [("cells",.ref p1),("over",.int 1),("columns",.ref co)]):=aA;have C7:=k7 _ _ np (s6 _ _ C5);have S7:=k7 _ _ nso (s6 _ _ S5);have L7:=k7 _ _ nco aA;have R7:∀r a,(as++[p4])[r]? =some a->_:=fun r a e=>k7 _ _ (R4 r a e).2 (s6 _ _ (R5 r a e));have Z7:Same H0 (upd (upd H5 co (.lst (eX (wl.length:Int).toNat))) o (.ins C dx (putF "columns" (.ref co) [("cells",.ref p1),("over",.int 1)]))):=Same.uN (Z5.trans s6) h0;have c0:H0 co=none:=Z5.none hco;have ncr:co∉as++[p4]:=fun hm=>by
   obtain⟨r,hr1,e⟩:=MP hm;have:=R5 r _ (eO hr1);rw[e,hco]at this;cases this
  generalize (upd (upd H5 co (.lst (eX (wl.length:Int).toNat))) o (.ins C dx (putF "columns" (.ref co) [("cells",.ref p1),("over",.int 1)])))=H7 at *;refine⟨_,rfl,_,rfl,_,rfl,sl,_,rfl,.inl (SqL.of S7),fun _=>⟨_,_,rfl,rfl,_,_,rfl,by omega,?_,?_,fun ro XM=> ?_⟩⟩
  ·rw[aH];omega
  ·rw[aH];omega
  rw[aH];have s8:=aK XM (.lst ((oA (wl.length:Int) ((wl.length:Int)+(its.length:Int)-(wl.length:Int)).toNat).map V.int));have O8:=s8 _ _ O7;refine⟨_,rfl,o,C,dx,_,rfl,O8,Cc,cu,(by show 3<1000;decide),?_⟩;have nro:ro≠o:=(rC O7 XM).symm;have k9:∀b u,b≠o->(upd H7 ro (.lst ((oA (wl.length:Int) ((wl.length:Int)+(its.length:Int)-(wl.length:Int)).toNat).map V.int))) b=some u->(upd (upd H7 ro (.lst ((oA (wl.length:Int) ((wl.length:Int)+(its.length:Int)-(wl.length:Int)).toNat).map V.int))) o (.ins C dx (putF "rows" (.ref ro) [("cells",.ref p1),("over",.int 1),("columns",.ref co)]))) b=some u:=fun b u hb e=>by rw[cP hb];exact e
  refine qq _ ⟨dx,p1,co,ro,as++[p4],Same.uN (Z7.trans s8) h0,h0,h1n,c0,Z7.none XM,rC L7 XM,ncr,fun hm=> ?_,aA,k9 _ _ np (s8 _ _ C7),by rw[rE,hl];rfl,fun r a e=>k9 _ _ (R4 r a e).2 (s8 _ _ (R7 r a e)),?_,?_⟩
  ·obtain⟨r,hr1,e⟩:=MP hm;have:=R7 r _ (eO hr1);rw[e,XM]at this;cases this
  ·rw[k9 _ _ nco (s8 _ _ L7)];congr 2;unfold eX bU;rw[vh,show(wl.length:Int).toNat=wl.length by omega];rfl
  ·rw[k9 _ _ nro aA];congr 2;unfold oA bU;rw[show((wl.length:Int)+(its.length:Int)-(wl.length:Int)).toNat=its.length by omega];refine jz _ (Nu fun k _=> ?_);show(wl.length:Int)+(k:Int)=((wl.length+k:Nat):Int);omega
end
noncomputable def aO(a:Int)(b:Nat):Int×Nat:=(a/((Nat.gcd a.natAbs b:Nat):Int),b/Nat.gcd a.natAbs b)
theorem Af(a:Int){b:Nat}(hb:0<b):Low a b (aO a b).1 (aO a b).2:=KJ a b hb
theorem zf{a:Int}{b:Nat}{u u':Int}{v v':Nat}(hb:0<b)(h:Low a b u v)(h':Low a b u' v'):u=u'/\v=v':=by
 have e1:=h.eq;have e2:=h'.eq;have bi:(0:Int)<(b:Int):=by omega
 have cr:u*(v':Int)=u'*(v:Int):=by
  refine wdg (a:=(b:Int)) (by omega) ?_;have x:(b:Int)*(u*(v':Int))=u*(b:Int)*(v':Int):=by grind
  have y:(b:Int)*(u'*(v:Int))=u'*(b:Int)*(v:Int):=by grind
  rw[x,y,e1,e2];grind
 have cn:u.natAbs*v'=u'.natAbs*v:=by
  have:=jz Int.natAbs cr
  rwa [RB,RB,RK,RK]at this
 have d1:v∣v':=by
  have:v∣u.natAbs*v':=by rw[cn];exact wci _ _
  exact(Z9 h.cop).dvd_of_dvd_mul_left this
 have d2:v'∣v:=by
  have:v'∣u'.natAbs*v:=by rw[<-cn];exact wci _ _
  exact(Z9 h'.cop).dvd_of_dvd_mul_left this
 have ev:=Nat.dvd_antisymm d1 d2;subst ev;refine⟨?_,rfl⟩;have hv:=h.pos;exact yea (a:=(v:Int)) (by omega) cr
theorem Ce{a:Int}{b:Nat}{u:Int}{v:Nat}(hb:0<b)(h:Low a b u v):(u,v)=aO a b:=by
 obtain⟨e1,e2⟩:=zf hb h (Af a hb);rw[e1,e2]
theorem tE{x y:Int}(h:0<x*y)(hy:0<y):0<x:=by
 refine Int.not_le.mp fun hn=> ?_;have:=Aq (a:= -x) (b:=y) (by omega) (by omega)
 grind
theorem zm{a:Int}{b:Nat}(hb:0<b):0<(aO a b).1↔0<a:=by
 have l:=Af a hb;have e:=l.eq;have hv:(0:Int)<((aO a b).2:Int):=by have:=l.pos;omega
 have bi:(0:Int)<(b:Int):=by omega
 constructor
 ·intro h;have:0<(aO a b).1*(b:Int):=VD h bi;rw[e]at this;exact tE this hv
 ·intro h;have:0<a*((aO a b).2:Int):=VD h hv;rw[<-e]at this;exact tE this bi
structure Sh(n:Nat)(L:List (List Int))(wl:List Int)(ov:Nat)(Z:Int)(Y X:Nat->Int):Prop where
 pos:0<ov
 big:ov<=39916800
 yn:∀k,0<=Y k
 xn:∀p,0<=X p
 tot:Sx.sm L.length Y=Z
 eno:∀p,p<n->(ov:Int)*nM wl p<=Sx.sm L.length fun k=>if dR L k p=true then Y k else 0
 lig:∀k,k<L.length->(Sx.sm n fun p=>if dR L k p=true then X p else 0)<=(ov:Int)
 Wt:(Sx.sm n fun p=>nM wl p*X p)=Z
theorem WY{n:Nat}{L:List (List Int)}{wl:List Int}{T:Sx.Tab}(hg:TG n L.length (dR L) (nM wl) T)(hz:∀c,c<n->0<=T.cell L.length c):
  Sh n L wl T.over.toNat (T.cell L.length n) (fun k=>Sx.Ys n L.length T (n+k)) (fun p=>Sx.Xs n L.length T p):=by
 have ho:=hg.over;have eo:((T.over.toNat:Nat):Int)=T.over:=by omega
 refine⟨by omega,by omega,fun k=>Sx.Qz hz _,fun p=>hg.good.QJ _,hg.good.total,fun p hp=> ?_,fun k hk=> ?_,hg.good.prices⟩
 ·rw[eo,hg.good.enough hp];have:=Sx.Qz hz p;omega
 ·rw[eo];exact hg.good.light hk
theorem Ve{ts:L0}{n:Nat}{ss:List (List Int)}(h:bw ss ts false n){p:Nat}(hp:p<n):∃k,k<ss.length/\dR ss k p=true:=by
 have sk:jH ts false n [(p:Int)]:=⟨QG _ _,fun x hx=>by rw[kO.mp hx];omega,fun x hx y hy hn=>absurd ((kO.mp hx).trans (kO.mp hy).symm) hn⟩;obtain⟨t,ht,hx⟩:=oX sk;have ht':=h.1.mem_iff.mpr ht;obtain⟨k,hk,rfl⟩:=MP ht';refine⟨k,hk,?_⟩;unfold dR;rw[iR,eO hk];exact cI (hx _ jx)
theorem sU{ts:L0}{n:Nat}{ss:List (List Int)}(h:bw ss ts false n)(hn:n<=10):ss.length<=36:=by rw[h.1.length_eq];exact vO hn
noncomputable def gO(ss:List (List Int))(ov:Nat)(Y:Nat->Int):List (List Int×(Int×Nat)):=((List.range ss.length).filter fun k=>decide (0<Y k)).map fun k=>(ss.getD k [],aO (Y k) ov)
noncomputable def fB(n ov:Nat)(X:Nat->Int):List (Int×Nat):=(List.range n).map fun p=>aO (X p) ov
section
variable{K:W.Frag}
noncomputable def m5(K:W.Frag)(H:Hp)(a:Addr)(f:Int×Nat):Prop:=SqT K H a [.int f.1,.int ((f.2:Nat):Int)]
noncomputable def HB(K:W.Frag)(H:Hp)(v:V)(q:List Int×(Int×Nat)):Prop:=∃t sa fa,v= .ref t/\SqT K H t [.ref sa,.ref fa]/\SqT K H sa (q.1.map V.int)/\m5 K H fa q.2
noncomputable def gq(K:W.Frag)(H:Hp):List V->List (List Int×(Int×Nat))->Prop:=Paired (HB K H)
noncomputable def dw(K:W.Frag)(H:Hp):List V->List (Int×Nat)->Prop:=Paired fun v f=>∃a,v= .ref a/\m5 K H a f
theorem HB.same{H H':Hp}{v:V}{q:List Int×(Int×Nat)}(h:HB K H v q)(s:Same H H'):HB K H' v q:=by
 obtain⟨t,sa,fa,e,h1,h2,h3⟩:=h;exact⟨t,sa,fa,e,s.tup h1,s.tup h2,s.tup h3⟩
theorem gq.same{H H':Hp}{vs:List V}{l:List (List Int×(Int×Nat))}(h:gq K H vs l)(s:Same H H'):gq K H' vs l:=Paired.mapP h fun _ _ z=>z.same s
theorem dw.same{H H':Hp}{vs:List V}{l:List (Int×Nat)}(h:dw K H vs l)(s:Same H H'):dw K H' vs l:=Paired.mapP h fun _ _ ⟨a,e,z⟩=>⟨a,e,s.tup z⟩
theorem Paired.snoc{α β:Type}{R:α->β->Prop}:∀{l:List α} {m:List β} {a:α} {b:β},Paired R l m->R a b->Paired R (l++[a]) (m++[b])
 |_,_,_,_,.nil,h=> .cons h .nil
 |_,_,_,_,.cons r t,h=> .cons r (Paired.snoc t h)
theorem Paired.at_{α β:Type}{R:α->β->Prop}:∀{l:List α} {m:List β} {i:Nat} {a:α},Paired R l m->l[i]? =some a->∃b,m[i]? =some b/\R a b
 |_,_,_,_,.nil,e=>by simp at e
 |_,_,0,_,.cons r _,e=>by simp at e;subst e;exact⟨_,rfl,r⟩
 |_,_,i+1,a,.cons _ t,e=>by
  obtain⟨b,h1,h2⟩:=Paired.at_ (i:=i) (a:=a) t (by simpa using e);exact⟨b,by simpa using h1,h2⟩
theorem Paired.fZ{α β:Type}{R:α->β->Prop}:∀{l:List α} {m:List β},Paired R l m->l.length=m.length
 |_,_,.nil=>rfl
 |_,_,.cons _ t=>by simp[Paired.fZ t]
end
section
variable{P:ξ}{w:τ}{K:W.Frag}{mg:L4}{base:Heap}
noncomputable def qt(n:Int)(wl:List Int):Prop:=(wl.length:Int)=n/\∀x∈wl,0<=x/\x<=99
theorem all_true(k:Nat):(List.replicate k true).all id=true:=by
 rw[pH];intro b hb;rw[(List.mem_replicate.mp hb).2];rfl
noncomputable def gF(K:W.Frag):Sp:=fun vs H Q _=>∃(a wa:Addr) (n:Int) (t:V) (wl:List Int),vs=[.ref a,.ref wa]/\SqT K H a [.int n,t]/\SqT K H wa (wl.map V.int)/\qt n wl/\∀H',Same H H'->Q .non H'
theorem wJ{f f1:Addr}{fd d1:ρ}{tk0:Tok}(F:Fun K "need_wants" "need_wants" Wd f fd)(D1:bJ K mg "is_whole" Vm ["thing"] f1 d1)(G1:FnOk P w K mg base CX0 1 f1 d1 ["thing"] (nQ K))(bY:mg "len"=none)(bC:mg "isinstance"=none)(aL:mg "tuple"=none)(oH:mg "all"=none)(zc:mg "MOST_WANT"=some (.int 99 tk0)):
  FnOk P w K mg base CX0 2 f fd ["web","thing"] (gF K):=by
 refine F.cG ["web","thing"] fun cdv A outer s H vs Q E hr h=> ?_;obtain⟨a,wa,n,t,wl,rfl,hA,hW,⟨hl,hb⟩,qq⟩:=h;refine bA ?_;intro Y;refine⟨_,(aM (fJ (PW.pt (pw_or (pI (nJ (pB Mz bC (aj (pv 1) (aj (pN "tuple" aL) ak))))) (pw_or1 (dO op_ne (pB vg bY (aj (pv 1) ak)) (aP bZ (pv 0) aB))))) MF gC) (aX (fJ (pI (nJ (pB (eG rfl) oH (aj (pK ["want"] [] [] (Aj (pv 1)) (pG 0) pD (pe_and (pc G1 hr D1 (aj (pv 0) ak)) (pe_one (pe_chain op_le op_le aB (pv 0) (pe_glob rfl zc (v:= .int 99) ⟨_,rfl⟩))))) ak)))) MF gC))),?_⟩;refine oO ?_;intro c2;refine⟨_,rfl,.ref wa,"tuple",_,rfl,.inl ⟨rfl,_,hW⟩,.inr (.inr (.inl rfl)),_,rfl,?_⟩;refine iteF ?_;refine⟨_,rfl,wa,_,rfl,.inr hW,fun hz=>⟨_,rfl,a,_,_,.int n,rfl,rfl,hA,rfl,rfl,_,rfl,?_⟩⟩;have e1:(!decide (V.int (((wl.map V.int).length:Nat):Int)=V.int n))=false:=by rw[aH,hl];simp
 rw[e1];refine iteF ?_;refine⟨_,rfl,wa,_,rfl,hW,fun hz=> ?_⟩;let mZ:Nat->List V->St->Hp->Prop:=fun i acc σ H'=>acc=(List.replicate i true).map V.bl/\H'=H/\∃o,σ=[o];refine Al (xs:=wl.map V.int) mZ ⟨rfl,rfl,_,rfl⟩ (fun i acc σ H' _ p=>by rw[p.2.1];exact hW) (fun i acc σ H' _ p=>by rw[p.1,aH,RN];exact aR _) hz (fun i x acc σ H' hx p=> ?_) (fun acc σ H' p=> ?_)
 ·obtain⟨rfl,rfl,o,rfl⟩:=p;rw[dY]at hx;cases ex:wl[i]? with
  |none=>rw[ex]at hx;cases hx
  |some y=>
   rw[ex]at hx;cases hx;have hy:=hb y (qQ ex);refine⟨_,rfl,.int y,.int y,rfl,.int _,_,rfl,iteT ?_⟩;refine⟨_,rfl,_,_,rfl,rfl,_,rfl,?_⟩;rw[cI hy.1];refine iteT ?_;refine⟨_,_,rfl,rfl,?_,rfl,_,rfl⟩;show _++[V.bl (decide (y<=99))]=_;rw[cI hy.2,List.replicate_succ',cg];rfl
 ·intro p1 hp1;obtain⟨rfl,rfl,_⟩:=p;refine⟨p1,_,rfl,SqL.of aA,_,rfl,?_⟩;rw[all_true];exact iteF (qq _ (aK hp1 _))
noncomputable def nU(K:W.Frag):Sp:=fun vs H Q _=>∃(a wa:Addr) (n:Int) (ts:L0) (wl:List Int),vs=[.ref a,.ref wa]/\aJ K H a n ts/\SqT K H wa (wl.map V.int)/\qt n wl/\
 ∀(r va la pa:Addr) (lrefs bW:List V) (ss:List (List Int)) (ov:Nat) (Z:Int) (Y X:Nat->Int) H',Same H H'->H' r=some (.tup [.ref va,.ref la,.ref pa])->m5 K H' va (aO Z ov)->H' la=some (.lst lrefs)->gq K H' lrefs (gO ss ov Y)->H' pa=some (.lst bW)->dw K H' bW (fB n.toNat ov X)->
  bw ss ts false n.toNat->Sh n.toNat ss wl ov Z Y X->H la=none->H pa=none->la≠pa->Q (.ref r) H'
theorem GZ{f f1 f2 f3 f4 f5 f6 f7 f8 C:Addr}{fd d1 d2 d3 d4 d5 d6 d7 d8:ρ}(F:Fun K "shares" "shares" jN f fd)
  (Cc:Cls K C)(bh:NoAttr K C "cells")(cY:NoAttr K C "over")(aW:NoAttr K C "columns")(cu:NoAttr K C "rows")(qe:mg "Tableau"=some (.ref C))(D1:bJ K mg "need_web" Nj ["thing"] f1 d1)(G1:FnOk P w K mg base CX0 7 f1 d1 ["thing"] (dh K))(D2:bJ K mg "need_wants" Wd ["web","thing"] f2 d2)(G2:FnOk P w K mg base CX0 2 f2 d2 ["web","thing"] (gF K))(D3:bJ K mg "full_apart" fG ["web"] f3 d3)(G3:FnOk P w K mg base CX0 8 f3 d3 ["web"] (jM K))(D4:lM K C "__init__" "Tableau.__init__" fV ["self","sets","wants"] f4 d4)(Mk4:Mk K C f4)(aaM:FnOk P w K mg base CX0 1 f4 d4 ["self","sets","wants"] (Bh K C))(D5:lM K C "solve" "Tableau.solve" zdk ["self"] f5 d5)(G5':FnOk P w K mg base CX0 3 f5 d5 ["self"] (Jr K C))(D6:lM K C "share_of" "Tableau.share_of" zci ["self","name"] f6 d6)(G6':FnOk P w K mg base CX0 4 f6 d6 ["self","name"] (Js K C))(D7:lM K C "price_of" "Tableau.price_of" zcj ["self","name"] f7 d7)(G7':FnOk P w K mg base CX0 4 f7 d7 ["self","name"] (Jt K C))(D8:lM K C "fraction_at" "Tableau.fraction_at" Wh ["self","row","column"] f8 d8)(G8':FnOk P w K mg base CX0 3 f8 d8 ["self","row","column"] (yx K C))(cL:mg "enumerate"=none)(aN:mg "range"=none):
  FnOk P w K mg base CX0 9 f fd ["web","wants"] (nU K):=by
 have G4m:FnOk P w K mg base CX0 7 f4 d4 ["self","sets","wants"] (Bh K C):=aaM.mono (by decide);have G5:FnOk P w K mg base CX0 8 f5 d5 ["self"] (Jr K C):=G5'.mono (by decide);have G6:FnOk P w K mg base CX0 8 f6 d6 ["self","name"] (Js K C):=G6'.mono (by decide);have G7:FnOk P w K mg base CX0 8 f7 d7 ["self","name"] (Jt K C):=G7'.mono (by decide);have G8:FnOk P w K mg base CX0 8 f8 d8 ["self","row","column"] (yx K C):=G8'.mono (by decide);refine F.cG ["web","wants","n","sets","tableau","given","laying","prices"] fun cdv A outer s H vs Q E hr h=> ?_;obtain⟨a,wa,n,ts,wl,rfl,hA,hW,hwl,qq⟩:=h;refine bA ?_;intro Y;refine⟨_,(aM (lY (pc G1 hr D1 (aj (pv 0) ak))) (aM (lY (pc G2 hr D2 (aj (pv 0) (aj (pv 1) ak)))) (aM (pS 2 (aP bZ (pv 0) aB)) (aM (pS 3 (pc G3 hr D3 (aj (pv 0) ak))) (aM (pS 4 (pe_make Mk4 G4m hr rfl qe D4.b .nil pass0 (aj (pv 3) (aj (pv 1) ak)))) (aM (lY (Ge (pv 4) Cc D5.m G5 hr D5.b .nil pass0)) (aM (pX 5 ["k","some"] ["tableau","n"] [4,2] (rK rfl cL (aj (pv 3) ak)) (HS K (n:=2) rfl (nF (pG 0) (nF (pG 1) Ai))) pD (fu (aj (pv 1) (aj (uJ (pv 2) Cc D6.m G6 hr D6.b .nil pass0 (aj (bK nA (pv 3) (pv 0)) ak)) ak)))) (aM (pX 6 ["share"] [] [] (Ag (pv 5)) (pG 0) (Ak (dO op_gt (aP (Ah K) (aP (Ah K) (pv 0) aB) aB) aB)) (pv 0)) (aM (pX 7 ["place"] ["tableau"] [4] (HW rfl aN (aj (pv 2) ak)) (pG 0) pD (uJ (pv 1) Cc D7.m G7 hr D7.b .nil pass0 (aj (pv 0) ak))) (aX (bM (fu (aj (uJ (pv 4) Cc D8.m G8 hr D8.b .nil pass0 (aj (pe_un un_neg aB) (aj (pe_un un_neg aB) ak))) (aj (pv 6) (aj (pv 7) ak))))))))))))))),?_⟩;refine Uw ?_;intro c10 c9 c8 c7 c6 c5 c4 c3 c2;have h0:=hA.h0;have h10:=hA.h1;refine⟨_,rfl,.ref a,_,rfl,hA.web.dv.dx,hA.ok,fun H1 s1=> ?_⟩;obtain⟨tt1,rr1,w1,w2,w3⟩:=id (hA.same s1).web;refine⟨_,rfl,_,rfl,a,wa,n,_,wl,rfl,w1,s1.tup hW,hwl,fun H2 s2=> ?_⟩;have s12:=s1.trans s2;have hA2:=hA.same s12;obtain⟨tt2,rr2,x1,x2,x3⟩:=id hA2.web;refine⟨_,rfl,a,_,_,.int n,rfl,rfl,x1,rfl,?_⟩;refine⟨_,rfl,a,n,ts,rfl,hA2,fun sl ss H3 s3 Uy oU hsl=> ?_⟩;obtain⟨its,hS,hP,hss⟩:=Uy;have nH:=s12.trans s3;have hm:its.length=ss.length:=by rw[<-hss,aH]
 have aa6:=sU oU (by omega);have hwn:wl.length=n.toNat:=by have:=hwl.1;omega
 refine⟨_,rfl,_,rfl,fun o dx ho hdx hne=> ?_⟩;have sM:Same H3 (upd (upd H3 dx (.own o)) o (.ins C dx [])):=(aK hdx _).trans (aK (by rw[cP (lQ hne)];exact ho) _);refine⟨o,dx,sl,wa,H3,its,wl,rfl,aA,sM,ho,sM _ _ hS,fun p hp=>sM.tup (hP p hp),sM.tup (nH.tup hW),by omega,by omega,fun H4 V3=>⟨rfl,?_⟩⟩;rw[hss,hm,hwn]at V3;have X8:Sta n.toNat ss.length (dR ss) (nM wl):=by
  refine⟨by omega,by omega,fun p hp=> ?_,fun p hp=>Ve oU hp⟩;unfold nM;rw[iR,eO (by omega)];exact hwl.2 _ (Ay _)
 obtain⟨dx4,cl4,co4,ro4,rw4,hA4⟩:=id V3;refine⟨_,rfl,o,dx4,_,rfl,hA4.at_,rfl,o,H3,n.toNat,ss.length,dR ss,nM wl,_,rfl,V3,X8,Sx.Bg,fun T H5 hT5 hg5 hz5=> ?_⟩;have hG:=X8.tg hg5;have hSh:=WY hG hz5;obtain⟨dx5,cl5,co5,ro5,rw5,hA5⟩:=id hT5;have V0:=hA5.same;have ovp:=hSh.pos;generalize hY:(fun k=>Sx.Ys n.toNat ss.length T (n.toNat+k))=Y at *;generalize hX:(fun p=>Sx.Xs n.toNat ss.length T p)=X at *
 -- given
 refine⟨_,rfl,false,sl,_,rfl,SqL.of (V0 _ _ hS),fun hz=> ?_⟩;let xQ:Nat->List V->St->Hp->Prop:=fun i acc σ H'=>gq K H' acc ((List.range i).map fun k=>(ss.getD k [],aO (Y k) T.over.toNat))/\Same H5 H'/\∃o1 o2,σ=[o1,o2,some (.ref o),some (.int n)];refine lD (K:=K) (b:=false) (a:=sl) (xs:=its.map fun p=>V.ref p.1) xQ ⟨.nil,Same.refl _,_,_,rfl⟩ (fun i acc σ H' _ p=>p.2.1.seq (SqL.of (V0 _ _ hS))) (fun i acc σ H' _ p=> ?_) hz (fun i v t acc σ H' hv p ht=> ?_) (fun acc σ H' p=> ?_)
 ·rw[Paired.fZ p.1,aH,vm];exact aR _
 ·obtain⟨hl,sm,o1,o2,rfl⟩:=p;rw[dY]at hv;cases ev:its[i]? with
  |none=>rw[ev]at hv;cases hv
  |some it=>
   rw[ev]at hv;cases hv;have eg:ss.getD i []=it.2:=by rw[<-hss,iR,dY,ev];rfl
   have t1:=aK ht (.tup [.int (i:Int),.ref it.1]);have V2:=hT5.sm (sm.trans t1);obtain⟨dx6,cl6,co6,ro6,rw6,hA6⟩:=id V2;refine⟨t,_,rfl,SqT.of aA,rfl,_,_,rfl,_,_,rfl,rfl,?_⟩;refine⟨_,rfl,_,rfl,o,dx6,_,rfl,hA6.at_,rfl,_,rfl,_,rfl,_,_,rfl,rfl,o,H3,n.toNat,ss.length,n.toNat+i,dR ss,nM wl,T,?_,V2,hG,fun fa H7 u v' s7 e7 l7=> ?_⟩
   ·rw[show(((n.toNat+i:Nat)):Int)=n+(i:Int) by omega];rfl
   ·refine⟨(by show 2<=sizeLine;decide),fun tp htp=> ?_⟩;have s8:=aK htp (.tup [.ref it.1,.ref fa]);have s68:=t1.trans (s7.trans s8);have hlow:(u,v')=aO (Y i) T.over.toNat:=by rw[<-hY];exact Ce ovp l7
    refine⟨?_,sm.trans s68,_,_,rfl⟩;rw[yh,cg];refine Paired.snoc (gq.same hl s68) ⟨tp,it.1,fa,rfl,SqT.of aA,?_,?_⟩
    ·show SqT K _ it.1 ((ss.getD i []).map V.int);rw[eg];exact(V0.trans (sm.trans s68)).tup (hP it (qQ ev))
    ·show m5 K _ fa (aO (Y i) T.over.toNat);rw[<-hlow];exact s8.tup (SqT.of e7)
 intro gl hgl;obtain⟨hl,sm5,_⟩:=p;rw[aH,hm]at hl;have g1:=aK hgl (.lst acc);have s6:=sm5.trans g1;have eg1:(upd H' gl (.lst acc)) gl=some (.lst acc):=aA;have hl6:=gq.same hl g1;generalize (upd H' gl (.lst acc))=H6 at *
 -- laying
 refine⟨_,rfl,gl,_,rfl,SqL.of eg1,fun hz=> ?_⟩;let HD:Nat->List V->St->Hp->Prop:=fun i acc' σ H'=>H'=H6/\gq K H6 acc' (((List.range i).filter fun k=>decide (0<Y k)).map fun k=>(ss.getD k [],aO (Y k) T.over.toNat))/\∃o1,σ=[o1];refine Am (xs:=acc) HD ⟨rfl,.nil,_,rfl⟩ (fun i acc' σ H' _ p=>by rw[p.1];exact SqL.of eg1) (fun i acc' σ H' _ p=> ?_) hz (fun i v acc' σ H' hv p=> ?_) (fun acc' σ H' p=> ?_)
 ·rw[Paired.fZ p.2.1,aH];exact cQ (vo _ _) (by rw[vm];exact aR _)
 ·obtain⟨rfl,hl',o1,rfl⟩:=p;obtain⟨qv,eq1,hv1⟩:=Paired.at_ hl6 hv;have hi:i<ss.length:=by
   have:=(pO.mp hv).1;rw[Paired.fZ hl6,aH,vm]at this;exact this
  rw[dY,RL hi]at eq1;have eq2:qv=(ss.getD i [],aO (Y i) T.over.toNat):=(uI eq1).symm;obtain⟨t,sa,fa,rfl,h1,h2,h3⟩:=id hv1;have h3':m5 K H' fa (aO (Y i) T.over.toNat):=by rw[eq2]at h3;exact h3
  refine⟨_,rfl,t,_,_,.ref fa,rfl,rfl,h1,rfl,fa,_,_,.int (aO (Y i) T.over.toNat).1,rfl,rfl,h3',rfl,_,_,rfl,rfl,_,rfl,?_⟩;have go:((List.range (i+1)).filter fun k=>decide (0<Y k))=((List.range i).filter fun k=>decide (0<Y k))++(if decide (0<Y i)=true then[i]else[]):=by
   rw[yh,Dy];congr 1;rw[Ax];split<;>rfl
  have ed:decide (0<(aO (Y i) T.over.toNat).1)=decide (0<Y i):=decide_eq_decide.mpr (zm ovp);refine ite2 (fun c=> ?_) (fun c=> ?_)
  ·have c':decide (0<Y i)=true:=by rw[<-ed];exact c
   refine⟨_,rfl,rfl,?_,_,rfl⟩;rw[go,au c',cg];refine Paired.snoc hl' ?_;rw[eq2]at hv1;exact hv1
  ·have c':¬decide (0<Y i)=true:=by rw[<-ed];exact c
   refine⟨rfl,?_,_,rfl⟩;rw[go,aq c',Aw];exact hl'
 intro la hla;obtain⟨rfl,hlay,_⟩:=p;rw[Paired.fZ hl6,aH,vm]at hlay;have g2:=aK hla (.lst acc');have s7:=s6.trans g2;have ela:(upd H' la (.lst acc')) la=some (.lst acc'):=aA;have XR:=gq.same hlay g2;have zB:=hT5.sm s7;generalize (upd H' la (.lst acc'))=H7 at *
 -- prices
 refine⟨_,rfl,n,rfl,by omega,by omega,?_⟩;let Vj:Nat->List V->St->Hp->Prop:=fun i xP σ H2=>dw K H2 xP ((List.range i).map fun p=>aO (X p) T.over.toNat)/\Same H7 H2/\∃o1,σ=[o1,some (.ref o)];refine Qy (n:=n.toNat) Vj ⟨.nil,Same.refl _,_,rfl⟩ (fun i xP σ H2 hi p=> ?_) (by rw[iz];omega) (fun i xP σ H2 hi p=> ?_) (fun xP σ H2 p=> ?_)
 ·rw[Paired.fZ p.1,aH,vm];exact aR _
 ·obtain⟨hf,sm,o1,rfl⟩:=p;have hT8:=zB.sm sm;obtain⟨dx8,cl8,co8,ro8,rw8,hA8⟩:=id hT8;refine⟨_,rfl,o,dx8,_,rfl,hA8.at_,rfl,_,rfl,o,H3,n.toNat,ss.length,i,dR ss,nM wl,T,by rw[ZM];rfl,hT8,hG,fun fa H9 u v' s9 e9 l9=> ?_⟩;have hlow:(u,v')=aO (X i) T.over.toNat:=by rw[<-hX];exact Ce ovp l9
  refine⟨?_,sm.trans s9,_,rfl⟩;rw[yh,cg];refine Paired.snoc (dw.same hf s9) ⟨fa,rfl,?_⟩;show m5 K H9 fa (aO (X i) T.over.toNat);rw[<-hlow];exact SqT.of e9
 intro pa hpa;obtain⟨hf,sm7,_⟩:=p;have g3:=aK hpa (.lst xP);have s8:=sm7.trans g3;have epa:(upd H2 pa (.lst xP)) pa=some (.lst xP):=aA;have hf8:=dw.same hf g3;have hT8:=zB.sm s8;have nlp:la≠pa:=rC (sm7 _ _ ela) hpa;generalize (upd H2 pa (.lst xP))=H8 at *;obtain⟨dx8,cl8,co8,ro8,rw8,hA8⟩:=id hT8;refine⟨_,rfl,o,dx8,_,rfl,hA8.at_,rfl,_,rfl,_,rfl,o,H3,n.toNat,ss.length,ss.length,n.toNat,_,_,dR ss,nM wl,T,rfl,hT8,hG,.inr ⟨rfl,rfl⟩,.inr ⟨rfl,rfl⟩,fun va H9 u v' s9 e9 l9=> ?_⟩;refine⟨_,rfl,_,rfl,(by show 3<=sizeLine;decide),fun r hr'=> ?_⟩;have Rb:=aK hr' (.tup [.ref va,.ref la,.ref pa]);have JZ:=s9.trans Rb;have hlow:(u,v')=aO (T.cell ss.length n.toNat) T.over.toNat:=Ce ovp l9;refine qq r va la pa acc' xP ss T.over.toNat (T.cell ss.length n.toNat) Y X _ (nH.trans (V0.trans (s7.trans (s8.trans JZ)))) aA ?_ ((s8.trans JZ) _ _ ela) (gq.same XR (s8.trans JZ)) (JZ _ _ epa) (dw.same hf8 JZ) oU hSh ?_ ?_ nlp
 ·rw[<-hlow];exact Rb.tup (SqT.of e9)
 ·exact(nH.trans (V0.trans s6)).none hla
 ·exact(nH.trans (V0.trans (s7.trans sm7))).none hpa
theorem R9{b:Bool}{H:Hp}{a:Addr}{xs:List V}(h:Qq K b H a xs):SqL K H a xs\/SqT K H a xs:=by
 cases b with
 |false=>exact .inl h
 |true=>exact .inr h
noncomputable def Ej(K:W.Frag):Sp:=fun vs H Q _=>∃(b:Bool) (a l:Addr) (n:Int) (ts:L0) (xs:List Int),vs=[.ref a,.ref l]/\aJ K H a n ts/\Qq K b H l (xs.map V.int)/\∀H',Same H H'->Q (.int ((ts.filter (inB xs)).length:Int)) H'
theorem Kr{f:Addr}{fd:ρ}(F:Fun K "count_ties_in" "count_ties_in" zdj f fd)(bY:mg "len"=none):
  FnOk P w K mg base CX0 1 f fd ["web","some"] (Ej K):=by
 refine F.cG ["web","some"] fun cdv A outer s H vs Q E hr h=> ?_;obtain⟨b,a,l,n,ts,xs,rfl,hA,hL,q⟩:=h;refine⟨_,(aX (bM (pB vg bY (aj (pK ["tie"] ["some"] [1] (Aj (aP bZ (pv 0) aB)) (pG 0) (Ak (PW.pt (pw_and (dO (lA K hr.units) (aP (Ah K) (pv 0) aB) (pv 1) (by with_unfolding_all rfl)) (pw_and1 (dO (lA K hr.units) (aP (Ah K) (pv 0) aB) (pv 1) (by with_unfolding_all rfl)))))) (pv 0)) ak)))),?_⟩;obtain⟨ta,ra,a1,a2,a3⟩:=id hA.web;have hra:=a3.len;rw[aH]at hra;have Yc:=hA.len;refine⟨_,rfl,a,_,_,.ref ta,rfl,rfl,a1,rfl,ta,ra,rfl,a2,fun hz=> ?_⟩;let mZ:Nat->List V->St->Hp->Prop:=fun i acc σ H'=>acc.length=((ts.take i).filter (inB xs)).length/\Same H H'/\∃o,σ=[o,some (.ref l)];refine Al (xs:=ra) mZ ⟨rfl,Same.refl _,_,rfl⟩ (fun i acc σ H' _ p=>p.2.1.tup a2) (fun i acc σ H' hi p=> ?_) hz (fun i x acc σ H' hx p=> ?_) (fun acc σ H' p=> ?_)
 ·rw[p.1];exact cQ (vo _ _) (by rw[uH];exact Av _ _)
 ·obtain⟨ea,sm,o,rfl⟩:=p;obtain⟨t,hi,rfl,ht⟩:=Es a3 hx;have hl:=R9 (hL.same sm);have e:∀(acc':List V) (c:Bool),c=inB xs ts[i]->acc'.length=acc.length+(if c=true then 1 else 0)->acc'.length=((ts.take (i+1)).filter (inB xs)).length:=fun acc' c hc hl=>by
   rw[Zo hi,rE,<-ea,hl,<-hc];cases c<;>rfl
  refine⟨_,rfl,t,_,_,.int (ts[i]).1,rfl,rfl,sm.tup ht,rfl,_,rfl,l,_,_,.int (ts[i]).1,rfl,hl,cO.ints xs,.int _,Nf xs,rfl,(by show 0<=60;decide),_,rfl,?_⟩;rw[any_ints];refine ite2 (fun c=> ?_) (fun c=> ?_)
  ·refine⟨_,rfl,t,_,_,.int (ts[i]).2,rfl,rfl,sm.tup ht,rfl,_,rfl,l,_,_,.int (ts[i]).2,rfl,hl,cO.ints xs,.int _,Nf xs,rfl,(by show 0<=60;decide),_,rfl,?_⟩;rw[any_ints];refine ite2 (fun c2=> ?_) (fun c2=> ?_)
   ·exact⟨_,rfl,e _ true (by unfold inB;rw[c,c2];rfl) (by rw[rE];rfl),sm,_,rfl⟩
   ·exact⟨e _ false (by unfold inB;rw[c,Bool.eq_false_iff.mpr c2];rfl) rfl,sm,_,rfl⟩
  ·exact⟨e _ false (by unfold inB;rw[Bool.eq_false_iff.mpr c];rfl) rfl,sm,_,rfl⟩
 ·intro p1 hp1;obtain⟨ea,sm,_⟩:=p;refine⟨p1,acc,rfl,.inl (SqL.of aA),fun _=> ?_⟩;rw[ea,hra,rW];exact q _ (sm.trans (aK hp1 (.lst acc)))
theorem qL{b:Bool}(h:(!b)=true):b=false:=by cases b<;>first |rfl|cases h
theorem qM{b:Bool}(h:¬(!b)=true):b=true:=by cases b<;>first |rfl|exact absurd rfl h
noncomputable def frB:θ->Bool
 | .tuple [x,y]=>fK x&&(fK y&&(decide (0<=intD x)&&(decide (1<=intD y)&&decide (intD y<=1000000000))))
 |_=>false
theorem kY:∀{d:θ},fK d=true->∃i,d= .int i
 | .int i,_=>⟨i,rfl⟩
theorem Cv{d:θ}(h:frB d=true):∃(u:Int) (v:Nat),d= .tuple [.int u,.int ((v:Nat):Int)]/\0<=u/\0<v/\v<=1000000000:=by
 unfold frB at h;split at h
 ·rename_i x y;simp only[lZ,M6]at h;obtain⟨h1,h2,h3,h4,h5⟩:=h;obtain⟨u,rfl⟩:=kY h1;obtain⟨v,rfl⟩:=kY h2;have h4':1<=v:=h4;have h5':v<=1000000000:=h5;refine⟨u,v.toNat,?_,h3,by omega,by omega⟩;rw[show((v.toNat:Nat):Int)=v by omega]
 ·cases h
theorem _root_.L2.DX.ints{H:Hp}{x:V}{i:Int}(h:DX K H x (.int i)):x= .int i:=by cases h;rfl
theorem Jd{H:Hp}{x:V}{d:θ}(hx:DX K H x d):(∃a x0 x1 d0 d1,x= .ref a/\d= .tuple [d0,d1]/\SqT K H a [x0,x1]/\DX K H x0 d0/\DX K H x1 d1)\/(∃a xs ds,x= .ref a/\d= .tuple ds/\SqT K H a xs/\xs.length=ds.length/\ds.length≠2)\/jX d≠"tuple":=by
 cases hx with
 | @tup a xs ds h t=>
  have hl:=t.len;by_cases e:ds.length=2
  ·cases t with
   |nil=>simp at e
   |cons h0 t0=>
    cases t0 with
    |nil=>simp at e
    |cons h1 t1=>
     cases t1 with
     |cons _ _=>simp at e
     |nil=>exact .inl ⟨a,_,_,_,_,rfl,rfl,h,h0,h1⟩
  ·exact .inr (.inl ⟨a,xs,ds,rfl,rfl,h,by omega,e⟩)
 |_=>exact .inr (.inr (by simp[jX]))
theorem Qi{ds:List θ}(h:ds.length≠2):frB (.tuple ds)=false:=by
 match ds,h with
 |[],_=>rfl
 |[_],_=>rfl
 |[_,_],h=>exact absurd rfl h
 |_::_::_::_,_=>rfl
theorem Ls{d:θ}(h:jX d≠"tuple"):frB d=false:=by
 cases d<;>first |rfl|exact absurd rfl h
noncomputable def JG(K:W.Frag):Sp:=fun vs H Q _=>∃(x:V) (d:θ),vs=[x]/\DX K H x d/\Q (.bl (frB d)) H
theorem O9{f f1:Addr}{fd d1:ρ}{tk0:Tok}(F:Fun K "is_fraction" "is_fraction" Zk f fd)(D1:bJ K mg "is_whole" Vm ["thing"] f1 d1)(G1:FnOk P w K mg base CX0 1 f1 d1 ["thing"] (nQ K))(bY:mg "len"=none)(bC:mg "isinstance"=none)(aL:mg "tuple"=none)(uT:mg "MOST_BOTTOM"=some (.int 1000000000 tk0)):
  FnOk P w K mg base CX0 2 f fd ["thing"] (JG K):=by
 refine F.cG ["thing"] fun cdv A outer s H vs Q E hr h=> ?_;obtain⟨x,d,rfl,hx,q⟩:=h;refine bA ?_;intro Y;refine⟨_,(aM (fJ (PW.pt (pw_or (pI (nJ (pB Mz bC (aj (pv 0) (aj (pN "tuple" aL) ak))))) (pw_or (dO op_ne (pB vg bY (aj (pv 0) ak)) aB) (pw_or (pI (nJ (pc G1 hr D1 (aj (aP bZ (pv 0) aB) ak)))) (pw_or1 (pI (nJ (pc G1 hr D1 (aj (aP bZ (pv 0) aB) ak))))))))) (aX (bM pe_bl)) gC) (aX (bM (pe_and (Gb op_ge (aP bZ (pv 0) aB) aB) (pe_one (pe_chain op_le op_le aB (aP bZ (pv 0) aB) (pe_glob rfl uT (v:= .int 1000000000) ⟨_,rfl⟩))))))),?_⟩;refine oO ?_;intro c2;have no:frB d=false->Q (.bl false) H:=fun e=>by rw[e]at q;exact q
 refine⟨_,rfl,x,_,_,rfl,hx.kind,.inr (.inr (.inl rfl)),_,rfl,?_⟩;rcases Jd hx with⟨a,x0,x1,d0,d1,rfl,rfl,h,h0,h1⟩|⟨a,xs,ds,rfl,rfl,h,el,hn⟩|hk
 ·refine iteF ?_;refine⟨_,rfl,a,_,rfl,.inr h,fun hz=>⟨rfl,_,rfl,?_⟩⟩;refine iteF ?_;refine⟨_,rfl,a,_,_,x0,rfl,rfl,h,rfl,x0,d0,rfl,h0,_,rfl,?_⟩;refine ite2 (fun c=> ?_) (fun c=> ?_)
  ·exact no (by show(fK d0&&_)=false;rw[qL c];rfl)
  have c:=qM c;refine⟨_,rfl,a,_,_,x1,rfl,rfl,h,rfl,x1,d1,rfl,h1,_,rfl,?_⟩;refine ite2 (fun c2=> ?_) (fun c2=> ?_)
  ·exact no (by show(fK d0&&(fK d1&&_))=false;rw[c,qL c2];rfl)
  have c2:=qM c2;obtain⟨u,rfl⟩:=kY c;obtain⟨v,rfl⟩:=kY c2;obtain rfl:=h0.ints;obtain rfl:=h1.ints;have e:frB (.tuple [.int u,.int v])=(decide (0<=u)&&(decide (1<=v)&&decide (v<=1000000000))):=rfl;rw[e]at q no;refine⟨_,rfl,a,_,_,.int u,rfl,rfl,h,rfl,_,_,rfl,rfl,_,rfl,?_⟩;refine ite2 (fun c3=> ?_) (fun c3=> ?_)
  ·have c3:0<=u:=cR c3;rw[cI c3]at q no;refine⟨_,rfl,a,_,_,.int v,rfl,rfl,h,rfl,_,_,rfl,rfl,_,rfl,?_⟩;refine ite2 (fun c4=> ?_) (fun c4=> ?_)
   ·have c4:1<=v:=cR c4;rw[cI c4]at q;exact⟨_,_,rfl,rfl,q⟩
   ·exact no (by rw[Bool.eq_false_iff.mpr c4];rfl)
  ·exact no (by rw[jK (fun z=>c3 (cI z))];rfl)
 ·refine iteF ?_;refine⟨_,rfl,a,_,rfl,.inr h,fun hz=>⟨rfl,_,rfl,?_⟩⟩;refine ite2 (fun c=>no (Qi hn)) (fun c=> ?_);exfalso;have c:¬(!decide (V.int (xs.length:Int)=V.int 2))=true:=c;simp at c;omega
 ·refine ite2 (fun c=>no (Ls hk)) (fun c=> ?_);exfalso;cases d<;>first |exact hk rfl|(simp[wV,jX]at c;done)
noncomputable def Jy(K:W.Frag):Sp:=fun vs H Q _=>∃(a:Addr) (xs:List V) (ls:List (List Int)),vs=[.ref a]/\SqL K H a xs/\Paired (fun v l=>∃p,v= .ref p/\SqT K H p (l.map V.int)) xs ls/\∀H',Same H H'->Q (.bl (dU ls)) H'
theorem BL{f:Addr}{fd:ρ}(F:Fun K "is_rising" "is_rising" Vn f fd)(oH:mg "all"=none)(aN:mg "range"=none)(bY:mg "len"=none):
  FnOk P w K mg base CX0 1 f fd ["things"] (Jy K):=by
 refine F.cG ["things"] fun cdv A outer s H vs Q E hr h=> ?_;obtain⟨a,xs,ls,rfl,hS,hP,q⟩:=h;refine⟨_,(aX (bM (pB (eG rfl) oH (aj (pK ["k"] ["things"] [0] (pi_range2 rfl aN (aj aB (aj (pB vg bY (aj (pv 0) ak)) ak))) (pG 0) pD (Gb (Eu K hr.units0) (aP (gj K) (pv 1) (bK op_sub (pv 0) aB)) (aP (gj K) (pv 1) (pv 0)))) ak)))),?_⟩;have hl:=Paired.fZ hP;refine⟨_,rfl,a,xs,rfl,.inl hS,fun hz=>⟨1,_,rfl,⟨by omega,by omega,by omega,by omega⟩,?_⟩⟩;have en:((xs.length:Int)-1).toNat=ls.length-1:=by omega
 rw[en];let mZ:Nat->List V->St->Hp->Prop:=fun i acc σ H'=>acc=((List.range i).map fun k=>HT.lexLt (ls.getD k []) (ls.getD (k+1) [])).map V.bl/\Same H H'/\∃o,σ=[o,some (.ref a)];refine Qy mZ ⟨rfl,Same.refl _,_,rfl⟩ (fun i acc σ H' hi p=>by rw[p.1];simp) (by rw[iz];omega) (fun i acc σ H' hi p=> ?_) (fun acc σ H' p=> ?_)
 ·obtain⟨rfl,sm,o,rfl⟩:=p;have e1:(1+(i:Int))-1=((i:Nat):Int):=by omega
  have e2:(1+(i:Int))=((i+1:Nat):Int):=by omega
  have x1:xs[i]? =some xs[i]:=eO (by omega);have x2:xs[i+1]? =some xs[i+1]:=eO (by omega);obtain⟨l1,m1,p1,q1,t1⟩:=Paired.at_ hP x1;obtain⟨l2,m2,p2,q2,t2⟩:=Paired.at_ hP x2;have a1:atI xs (1+(i:Int)-1)=some (.ref p1):=by rw[e1,<-q1];exact HN x1
  have a2:atI xs (1+(i:Int))=some (.ref p2):=by rw[e2,<-q2];exact HN x2
  refine⟨_,rfl,_,rfl,_,_,rfl,rfl,a,xs,_,_,rfl,rfl,sm.seq hS,a1,_,rfl,_,rfl,a,xs,_,_,rfl,rfl,sm.seq hS,a2,?_⟩;refine⟨p1,p2,l1,l2,rfl,rfl,sm.tup t1,sm.tup t2,?_,sm,_,rfl⟩;show _++[V.bl (HT.lexLt l1 l2)]=_;rw[yh,cg,cg,Zu,Zu,show ls.getD i []=l1 by rw[iR,m1];rfl,show ls.getD (i+1) []=l2 by rw[iR,m2];rfl]
 ·intro p1 hp1;obtain⟨rfl,sm,_⟩:=p;refine⟨p1,_,rfl,SqL.of aA,?_⟩;rw[gn];exact q _ (sm.trans (aK hp1 _))
noncomputable def Bs(n:Int)(ts:L0):θ->Bool
 | .tuple [s,f]=>gD n s&&(frB f&&(decide (ts.filter (inB ((kids s).map intD))=[])&&decide (0<intD ((kids f).headD .none))))
 |_=>false
theorem NQ{n:Int}{ts:L0}{ds:List θ}(h:ds.length≠2):Bs n ts (.tuple ds)=false:=by
 match ds,h with
 |[],_=>rfl
 |[_],_=>rfl
 |[_,_],h=>exact absurd rfl h
 |_::_::_::_,_=>rfl
theorem JV{n:Int}{ts:L0}{d:θ}(h:jX d≠"tuple"):Bs n ts d=false:=by
 cases d<;>first |rfl|exact absurd rfl h
theorem tG{n:Int}:∀{ds:List θ},ds.all (bQ n)=true->ds=(ds.map intD).map PyData.int/\∀x∈ds.map intD,0<=x/\x<n
 |[],_=>⟨rfl,fun x hx=>(nomatch hx)⟩
 |d::ds,h=>by
  rw[ZQ,lZ]at h;obtain⟨i,rfl,h0,h1⟩:=tH h.1;obtain⟨e,f⟩:=tG h.2;refine⟨by rw[yg,yg,<-e];rfl,fun x hx=> ?_⟩;rcases cW.mp hx with rfl|hx
  ·exact⟨h0,h1⟩
  ·exact f x hx
theorem JW{n:Int}{s:θ}(h:gD n s=true):∃xs:List Int,s= .tuple (xs.map PyData.int)/\(∀x∈xs,0<=x/\x<n)/\fj xs=true/\(kids s).map intD=xs:=by
 cases s with
 |tuple ds=>
  have h:(ds.all (bQ n)&&fj (ds.map intD))=true:=h;rw[lZ]at h;obtain⟨e,f⟩:=tG h.1;exact⟨ds.map intD,by rw[<-e],f,h.2,rfl⟩
 |_=>cases h
theorem zM{H:Hp}:∀{xs:List Int} {vs:List V},lN K H vs (xs.map PyData.int)->vs=xs.map V.int
 |[],_,h=>by cases h;rfl
 |x::xs,_,h=>by
  cases h with
  |cons h t=>rw[DX.ints h,zM t];rfl
theorem _root_.L2.DX.tupI{H:Hp}{x:V}{xs:List Int}(h:DX K H x (.tuple (xs.map PyData.int))):∃a,x= .ref a/\SqT K H a (xs.map V.int):=by
 cases h with
 |tup h t=>exact⟨_,rfl,by rw[<-zM t];exact h⟩
theorem _root_.L2.DX.fr{H:Hp}{x:V}{u:Int}{v:Nat}(h:DX K H x (.tuple [.int u,.int ((v:Nat):Int)])):∃a,x= .ref a/\m5 K H a (u,v):=DX.tupI (xs:=[u,((v:Nat):Int)]) h
noncomputable def Q6(K:W.Frag):Sp:=fun vs H Q _=>∃(a:Addr) (n:Int) (ts:L0) (x:V) (d:θ),vs=[.ref a,x]/\aJ K H a n ts/\DX K H x d/\∀H',Same H H'->Q (.bl (Bs n ts d)) H'
theorem BX{f f1 f2 f3:Addr}{fd d1 d2 d3:ρ}(F:Fun K "is_share" "is_share" mF f fd)(D1:bJ K mg "is_fraction" Zk ["thing"] f1 d1)(G1:FnOk P w K mg base CX0 2 f1 d1 ["thing"] (JG K))(D2:bJ K mg "is_set" jQ ["n","thing"] f2 d2)(G2:FnOk P w K mg base CX0 4 f2 d2 ["n","thing"] (DY K))(D3:bJ K mg "count_ties_in" zdj ["web","some"] f3 d3)(G3:FnOk P w K mg base CX0 1 f3 d3 ["web","some"] (Ej K))(bY:mg "len"=none)(bC:mg "isinstance"=none)(aL:mg "tuple"=none):
  FnOk P w K mg base CX0 5 f fd ["web","thing"] (Q6 K):=by
 refine F.cG ["web","thing"] fun cdv A outer s H vs Q E hr h=> ?_;obtain⟨a,n,ts,x,d,rfl,hA,hx,q⟩:=h;refine bA ?_;intro Y;refine⟨_,(aM (fJ (PW.pt (pw_or (pI (nJ (pB Mz bC (aj (pv 1) (aj (pN "tuple" aL) ak))))) (pw_or1 (dO op_ne (pB vg bY (aj (pv 1) ak)) aB)))) (aX (bM pe_bl)) gC) (aM (fJ (PW.pt (pw_or (pI (nJ (pc G2 hr D2 (aj (aP bZ (pv 0) aB) (aj (aP bZ (pv 1) aB) ak))))) (pw_or1 (pI (nJ (pc G1 hr D1 (aj (aP bZ (pv 1) aB) ak))))))) (aX (bM pe_bl)) gC) (aX (bM (pe_and (Gb op_eq (pc G3 hr D3 (aj (pv 0) (aj (aP bZ (pv 1) aB) ak))) aB) (pe_one (Gb op_gt (aP bZ (aP bZ (pv 1) aB) aB) aB))))))),?_⟩;refine oN ?_;intro c3 c2;have no:Bs n ts d=false->∀H',Same H H'->Q (.bl false) H':=fun e H' sm=>by have:=q H' sm;rw[e]at this;exact this
 obtain⟨tt1,rr1,w1,w2,w3⟩:=id hA.web;refine⟨_,rfl,x,_,_,rfl,hx.kind,.inr (.inr (.inl rfl)),_,rfl,?_⟩;rcases Jd hx with⟨t,x0,x1,d0,d1,rfl,rfl,h,h0,h1⟩|⟨t,xs,ds,rfl,rfl,h,el,hn⟩|hk
 ·refine iteF ?_;refine⟨_,rfl,t,_,rfl,.inr h,fun hz=>⟨rfl,_,rfl,?_⟩⟩;refine iteF ?_;refine⟨_,rfl,a,_,_,.int n,rfl,rfl,w1,rfl,_,rfl,t,_,_,x0,rfl,rfl,h,rfl,n,x0,d0,rfl,h0,fun H1 s1=>⟨_,rfl,?_⟩⟩;refine ite2 (fun c=> ?_) (fun c=> ?_)
  ·exact no (by show(gD n d0&&_)=false;rw[qL c];rfl) _ s1
  have c:=qM c;refine⟨_,rfl,t,_,_,x1,rfl,rfl,s1.tup h,rfl,x1,d1,rfl,h1.same s1,_,rfl,?_⟩;refine ite2 (fun c2=> ?_) (fun c2=> ?_)
  ·exact no (by show(gD n d0&&(frB d1&&_))=false;rw[c,qL c2];rfl) _ s1
  have c2:=qM c2;have e:Bs n ts (.tuple [d0,d1])=(decide (ts.filter (inB ((kids d0).map intD))=[])&&decide (0<intD ((kids d1).headD .none))):=by
   show(gD n d0&&(frB d1&&_))=_;rw[c,c2];rfl
  rw[e]at no;rw[e]at q;obtain⟨xs,rfl,hlt,hri,ek⟩:=JW c;obtain⟨u,v,rfl,hu,hv,hvb⟩:=Cv c2;rw[ek]at no q;obtain⟨sa,rfl,h2⟩:=h0.tupI;obtain⟨fa,rfl,h3⟩:=h1.fr;refine⟨_,rfl,_,rfl,t,_,_,.ref sa,rfl,rfl,s1.tup h,rfl,true,a,sa,n,ts,xs,rfl,hA.same s1,s1.tup h2,fun H2 s2=> ?_⟩;have s12:=s1.trans s2;refine⟨rfl,_,rfl,?_⟩;by_cases hc:ts.filter (inB xs)=[]
  ·rw[hc];refine iteT ?_;rw[cI hc]at q;refine⟨_,rfl,t,_,_,.ref fa,rfl,rfl,s12.tup h,rfl,fa,_,_,.int u,rfl,rfl,s12.tup h3,rfl,_,_,rfl,rfl,?_⟩;exact q _ s12
  ·refine ite2 (fun c3=> ?_) (fun c3=> ?_)
   ·exfalso;have c3:decide (V.int ((ts.filter (inB xs)).length:Int)=V.int 0)=true:=c3;simp at c3;exact hc (ZC.mpr fun p hp=>by have:=c3 p.1 p.2 hp;simpa using this)
   ·have:=no (by rw[jK hc];rfl) _ s12;exact this
 ·refine iteF ?_;refine⟨_,rfl,t,_,rfl,.inr h,fun hz=>⟨rfl,_,rfl,?_⟩⟩;refine ite2 (fun c=>no (NQ hn) _ (Same.refl _)) (fun c=> ?_);exfalso;have c:¬(!decide (V.int (xs.length:Int)=V.int 2))=true:=c;simp at c;omega
 ·refine ite2 (fun c=>no (JV hk) _ (Same.refl _)) (fun c=> ?_);exfalso;cases d<;>first |exact hk rfl|(simp[wV,jX]at c;done)
structure ShG(n:Int)(ts:L0)(q:List Int×(Int×Nat)):Prop where
 rise:fj q.1=true
 lt:∀x∈q.1,0<=x/\x<n
 no:ts.filter (inB q.1)=[]
 pos:0<q.2.1
 bot:0<q.2.2
 big:q.2.2<=1000000000
noncomputable def sV(q:List Int×(Int×Nat)):θ:= .tuple [.tuple (q.1.map PyData.int),.tuple [.int q.2.1,.int ((q.2.2:Nat):Int)]]
noncomputable def setOf(d:θ):List Int:=(kids ((kids d).headD .none)).map intD
theorem vJ(q:List Int×(Int×Nat)):setOf (sV q)=q.1:=by
 show((q.1.map PyData.int).map intD)=q.1;rw[vh];exact ZL q.1
theorem JT{n:Int}{ts:L0}{d:θ}(h:Bs n ts d=true):∃q,d=sV q/\ShG n ts q:=by
 unfold Bs at h;split at h
 ·rename_i s f;simp only[lZ]at h;obtain⟨h1,h2,h3,h4⟩:=h;obtain⟨xs,rfl,hlt,hri,ek⟩:=JW h1;obtain⟨u,v,rfl,hu,hv,hvb⟩:=Cv h2;rw[ek]at h3;exact⟨(xs,(u,v)),rfl,hri,hlt,cR h3,cR h4,hv,hvb⟩
 ·cases h
theorem _root_.L2.DX.sh{H:Hp}{x:V}{q:List Int×(Int×Nat)}(h:DX K H x (sV q)):HB K H x q:=by
 unfold sV at h;cases h with
 |tup h t=>
  cases t with
  |cons h0 t0=>
   cases t0 with
   |cons h1 t1=>
    cases t1 with
    |nil=>
     obtain⟨sa,rfl,h2⟩:=h0.tupI;obtain⟨fa,rfl,h3⟩:=h1.fr;exact⟨_,sa,fa,rfl,h,h2,h3⟩
theorem lay_of{n:Int}{ts:L0}{H:Hp}:∀{rs:List V} {ds:List θ},lN K H rs ds->ds.all (Bs n ts)=true->∃l,ds=l.map sV/\gq K H rs l/\∀q∈l,ShG n ts q
 |[],_,h,_=>by cases h;exact⟨[],rfl,.nil,fun q hq=>(nomatch hq)⟩
 |_::_,_,h,ha=>by
  cases h with
  |cons h t=>
   rw[ZQ,lZ]at ha;obtain⟨q,rfl,hq⟩:=JT ha.1;obtain⟨l,rfl,hl,hg⟩:=lay_of t ha.2;refine⟨q::l,rfl,.cons h.sh hl,fun p hp=> ?_⟩;rcases cW.mp hp with rfl|hp
   ·exact hq
   ·exact hg p hp
noncomputable def layB(n:Int)(ts:L0)(ds:List θ):Bool:=ds.all (Bs n ts)&&dU (ds.map setOf)
theorem yK(l:List (List Int×(Int×Nat))):(l.map sV).map setOf=l.map (·.1):=by
 rw[vh];exact Nu fun q _=>vJ q
noncomputable def JD(K:W.Frag):Sp:=fun vs H Q _=>∃(a la:Addr) (n:Int) (ts:L0) (rs:List V) (ds:List θ),vs=[.ref a,.ref la]/\aJ K H a n ts/\SqL K H la rs/\lN K H rs ds/\∀H',Same H H'->Q (.bl (layB n ts ds)) H'
theorem yU{f f1 f2:Addr}{fd d1 d2:ρ}(F:Fun K "is_laying" "is_laying" jR f fd)(D1:bJ K mg "is_share" mF ["web","thing"] f1 d1)(G1:FnOk P w K mg base CX0 5 f1 d1 ["web","thing"] (Q6 K))(D2:bJ K mg "is_rising" Vn ["things"] f2 d2)(G2:FnOk P w K mg base CX0 1 f2 d2 ["things"] (Jy K))(oH:mg "all"=none)(bC:mg "isinstance"=none)(dI:mg "list"=none):
  FnOk P w K mg base CX0 6 f fd ["web","thing"] (JD K):=by
 refine F.cG ["web","thing"] fun cdv A outer s H vs Q E hr h=> ?_;obtain⟨a,la,n,ts,rs,ds,rfl,hA,hL,hd,q⟩:=h;refine bA ?_;intro Y;refine⟨_,(aM (fJ (PW.pt (pw_or (pI (nJ (pB Mz bC (aj (pv 1) (aj (pN "list" dI) ak))))) (pw_or1 (pI (nJ (pB (eG rfl) oH (aj (pK ["share"] ["web"] [0] (Ag (pv 1)) (pG 0) pD (pc G1 hr D1 (aj (pv 1) (aj (pv 0) ak)))) ak))))))) (aX (bM pe_bl)) gC) (aX (bM (pc G2 hr D2 (aj (pK ["share"] [] [] (Ag (pv 1)) (pG 0) pD (aP (Ah K) (pv 0) aB)) ak))))),?_⟩;refine oO ?_;intro c2;have hlen:=hd.len;refine⟨_,rfl,.ref la,"list",_,rfl,.inr (.inl ⟨rfl,_,hL⟩),.inr (.inr (.inr rfl)),_,rfl,?_⟩;refine iteF ?_;refine⟨_,rfl,la,rs,rfl,hL,fun hz=> ?_⟩;let xQ:Nat->List V->St->Hp->Prop:=fun i acc σ H'=>acc=((ds.take i).map (Bs n ts)).map V.bl/\Same H H'/\∃o,σ=[o,some (.ref a)];refine Am (xs:=rs) xQ ⟨rfl,Same.refl _,_,rfl⟩ (fun i acc σ H' _ p=>p.2.1.seq hL) (fun i acc σ H' hi p=> ?_) hz (fun i x acc σ H' hx p=> ?_) (fun acc σ H' p=> ?_)
 ·rw[p.1];simp;omega
 ·obtain⟨rfl,sm,o,rfl⟩:=p;obtain⟨d,e1,e2⟩:=hd.get hx;refine⟨_,rfl,_,rfl,a,n,ts,x,d,rfl,hA.same sm,DX.same sm e2,fun H2 s2=>⟨?_,sm.trans s2,_,rfl⟩⟩;rw[vX,e1];simp
 intro p1 hp1;obtain⟨rfl,sm,_⟩:=p;have s1:=sm.trans (aK hp1 (.lst (((ds.take rs.length).map (Bs n ts)).map V.bl)));refine⟨p1,ds.map (Bs n ts),rfl,SqL.of (by rw[aA,hlen,rW]),_,rfl,?_⟩;rw[gn];refine ite2 (fun c=> ?_) (fun c=> ?_)
 ·have:=q _ s1;unfold layB at this;rw[qL c]at this;exact this
 have c:=qM c;generalize upd H' p1 (.lst (((ds.take rs.length).map (Bs n ts)).map V.bl))=H1 at *;obtain⟨l,rfl,hv,hg⟩:=lay_of hd c;have hv1:=gq.same hv s1;have hll:=Paired.fZ hv;refine⟨_,rfl,la,rs,rfl,s1.seq hL,fun hz=> ?_⟩;let HD:Nat->List V->St->Hp->Prop:=fun i acc σ H'=>H'=H1/\Paired (fun v l=>∃p,v= .ref p/\SqT K H1 p (l.map V.int)) acc ((l.take i).map (·.1))/\∃o,σ=[o];refine Am (xs:=rs) HD ⟨rfl,.nil,_,rfl⟩ (fun i acc σ H' _ p=>by rw[p.1];exact s1.seq hL) (fun i acc σ H' _ p=> ?_) hz (fun i x acc σ H' hx p=> ?_) (fun acc σ H' p=> ?_)
 ·rw[Paired.fZ p.2.1,aH,uH];exact Av _ _
 ·obtain⟨rfl,hp,o,rfl⟩:=p;obtain⟨q,hq,t,sa,fa,rfl,h1,h2,h3⟩:=Paired.at_ hv1 hx;refine⟨_,rfl,t,_,_,.ref sa,rfl,rfl,h1,rfl,rfl,?_,_,rfl⟩;obtain⟨hi,rfl⟩:=pO.mp hq;rw[Ws hi,cg];exact Paired.snoc hp ⟨sa,rfl,h2⟩
 intro p2 hp2;obtain⟨rfl,hp,_⟩:=p;have s2:=aK hp2 (.lst acc);rw[Wo (by omega)]at hp;refine⟨p2,acc,l.map (·.1),rfl,SqL.of aA,Paired.mapP hp fun _ _ ⟨p,e,z⟩=>⟨p,e,s2.tup z⟩,fun H3 s3=> ?_⟩;have:=q _ (s1.trans (s2.trans s3));unfold layB at this;rw[c,yK]at this;exact this
noncomputable def j4(D:Nat):List (Int×Nat)->Int
 |[]=>0
 |f::fs=>f.1*((D/f.2:Nat):Int)+j4 D fs
theorem rQ(D:Nat):∀(l m:List (Int×Nat)),j4 D (l++m)=j4 D l+j4 D m
 |[],m=>by simp[j4]
 |f::l,m=>by simp[j4,rQ D l m,Int.add_assoc]
theorem wZ(D:Nat)(f:Int×Nat):j4 D [f]=f.1*((D/f.2:Nat):Int):=by simp[j4]
structure yp(D:Nat)(fs:List (Int×Nat)):Prop where
 pos:0<D
 le:D<=1000000000000000000
 all:∀f∈fs,0<=f.1/\0<f.2/\f.2∣D
structure jB(D:Nat)(S:Int)(a:Int)(b:Nat):Prop where
 pos:0<b
 dvd:b∣D
 eq:a*((D/b:Nat):Int)=S
theorem jB.le{D b:Nat}{S a:Int}(h:jB D S a b)(hD:0<D):b<=D:=wfa hD h.dvd
theorem Jp{D b v:Nat}{S a u:Int}(hD:0<D)(h:jB D S a b)(hv:0<v)(dv:v∣D):
  jB D (S+u*((D/v:Nat):Int)) (a*((v/Nat.gcd b v:Nat):Int)+u*((b*(v/Nat.gcd b v)/v:Nat):Int)) (b*(v/Nat.gcd b v)):=by
 obtain⟨hb,db,he⟩:=h;have hg:0<Nat.gcd b v:=wdx _ hb;obtain⟨b1,eb⟩:=Nat.gcd_dvd_left b v;obtain⟨v1,ev⟩:=Wk b v;have dl:Nat.lcm b v∣D:=Nat.lcm_dvd db dv;have e1:v/Nat.gcd b v=v1:=by
  conv=>lhs;arg 1;rw[ev]
  exact M4 _ hg
 have el:Nat.lcm b v=b*v1:=by
  unfold Nat.lcm;rw[Nat.mul_div_assoc _ (Wk b v),e1]
 rw[el]at dl;rw[e1];obtain⟨e,eD⟩:=dl;have hv1:0<v1:=Nat.pos_of_ne_zero fun z=>by rw[z,ZK]at ev;omega
 have hbv:0<b*v1:=Nat.mul_pos hb hv1;have c1:b*v1=v*b1:=by
  have:b*v1*Nat.gcd b v=v*b1*Nat.gcd b v:=by
   have h1:b*v1*Nat.gcd b v=b*(Nat.gcd b v*v1):=by rw[ZP,Wv v1]
   have h2:v*b1*Nat.gcd b v=v*(Nat.gcd b v*b1):=by rw[ZP,Wv b1]
   rw[h1,h2,<-ev,<-eb,Wv]
  exact Nat.eq_of_mul_eq_mul_right hg this
 have c2:b*v1/v=b1:=by rw[c1];exact M4 _ hv
 have c3:D/(b*v1)=e:=by rw[eD];exact M4 _ hbv
 have c4:D/b=v1*e:=by rw[eD,ZP];exact M4 _ hb
 have c5:D/v=b1*e:=by rw[eD,c1,ZP];exact M4 _ hv
 refine⟨hbv,⟨e,eD⟩,?_⟩;rw[c2,c3,c5,<-he,c4]
 push_cast
 grind
noncomputable def pU(K:W.Frag):Sp:=fun vs H Q _=>∃(p p':Addr) (u u':Int) (v v':Nat),vs=[.ref p,.ref p']/\SqT K H p [.int u,.int ((v:Nat):Int)]/\SqT K H p' [.int u',.int ((v':Nat):Int)]/\v<=1000000000000000000/\v'<=1000000000000000000/\Q (.bl (decide (u*(v':Int)<u'*(v:Int)))) H
theorem O1{f:Addr}{fd:ρ}(F:Fun K "is_less" "is_less" Rv f fd):
  FnOk P w K mg base CX0 1 f fd ["one","other"] (pU K):=by
 refine F.cG ["one","other"] fun cdv A outer s H vs Q E hr h=> ?_;obtain⟨p,p1,u,u1,v,v1,rfl,h1,h2,b1,b2,q⟩:=h;refine⟨_,(aX (bM (Gb op_lt (bK rB (aP bZ (pv 0) aB) (aP bZ (pv 1) aB)) (bK rB (aP bZ (pv 1) aB) (aP bZ (pv 0) aB))))),?_⟩;exact⟨_,rfl,p,_,_,.int u,rfl,rfl,h1,rfl,_,rfl,p1,_,_,.int v1,rfl,rfl,h2,rfl,_,_,rfl,rfl,.inr ⟨by omega,by omega⟩,_,rfl,p1,_,_,.int u1,rfl,rfl,h2,rfl,_,rfl,p,_,_,.int v,rfl,rfl,h1,rfl,_,_,rfl,rfl,.inr ⟨by omega,by omega⟩,_,_,rfl,rfl,q⟩
theorem Kv{k:Nat}(h:k<=1000000000000000000)(x:Int):CMul x ((k:Nat):Int):= .inr ⟨by omega,by omega⟩
noncomputable def nR(K:W.Frag):Sp:=fun vs H Q _=>∃(la:Addr) (rs:List V) (fs:List (Int×Nat)) (D:Nat),vs=[.ref la]/\SqL K H la rs/\dw K H rs fs/\yp D fs/\rs.length<=1000/\
 ∀(p:Addr) (a:Int) (b:Nat) H',Same H H'->H' p=some (.tup [.int a,.int ((b:Nat):Int)])->jB D (j4 D fs) a b->Q (.ref p) H'
theorem Kf{f f1:Addr}{fd d1:ρ}(F:Fun K "sum_of" "sum_of" iB f fd)(D1:bJ K mg "greatest_divisor" Zt ["one","other"] f1 d1)(G1:FnOk P w K mg base CX0 1 f1 d1 ["one","other"] (Sg K)):
  FnOk P w K mg base CX0 2 f fd ["fractions"] (nR K):=by
 refine F.cG ["fractions","a","b","top","bottom","by"] fun cdv A outer s H vs Q E hr h=> ?_;obtain⟨la,rs,fs,D,rfl,hL,hF,hD,hlen,q⟩:=h;refine bA ?_;intro Y;refine⟨_,(aM (pS 1 aB) (aM (pS 2 aB) (aM (ps_for Iw rfl (Ag (pv 0)) (pg_tup rfl (nF (pG 3) (nF (pG 4) Ai))) (aM (pS 5 (bK oE (pv 4) (pc G1 hr D1 (aj (pv 2) (aj (pv 4) ak))))) (aM (pS 1 (bK nA (bK rB (pv 1) (pv 5)) (bK rB (pv 3) (bK oE (bK rB (pv 2) (pv 5)) (pv 4))))) (aX (pS 2 (bK rB (pv 2) (pv 5))))))) (aX (bM (fu (aj (pv 1) (aj (pv 2) ak)))))))),?_⟩;refine vM ?_;intro c4 c3 c2;have hl:=Paired.fZ hF;have hD0:=hD.pos;have hD1:=hD.le;refine⟨_,rfl,la,rs,rfl,hL,fun hz=> ?_⟩;let mZ:Nat->St->Hp->Prop:=fun i σ H'=>H'=H/\∃(a:Int) (b:Nat) (o1 o2 o3:Option V),jB D (j4 D (fs.take i)) a b/\σ=[some (.ref la),some (.int a),some (.int ((b:Nat):Int)),o1,o2,o3];refine for_list (xs:=rs) mZ ⟨rfl,0,1,_,_,_,⟨by omega,Nat.one_dvd _,by simp[j4]⟩,rfl⟩ (fun i σ H' _ p=>by rw[p.1];exact hL) (fun i x σ H' hx p=> ?_) (fun σ H' p=> ?_)
 ·obtain⟨rfl,a,b,o1,o2,o3,hs,rfl⟩:=p;obtain⟨f,hf,t,rfl,ht⟩:=Paired.at_ hF hx;obtain⟨f0,f1,f2⟩:=hD.all f (qQ hf);have hb:=hs.pos;have hbD:=hs.le hD0;have hfD:=wfa hD0 f2;have st:=Jp (u:=f.1) hD0 hs f1 f2;have hg:0<Nat.gcd b f.2:=wdx _ hb;have hg2:Nat.gcd b f.2<=b:=Nat.gcd_le_left _ hb;have hby:f.2/Nat.gcd b f.2<=f.2:=Nat.div_le_self _ _;have hbb:=st.le hD0;refine⟨t,_,rfl,ht,rfl,_,_,rfl,_,_,rfl,rfl,?_⟩;refine⟨_,rfl,_,rfl,_,rfl,b,f.2,rfl,_,_,rfl,rfl,⟨by omega,by omega⟩,?_⟩;have eby:((f.2:Nat):Int)/((Nat.gcd b f.2:Nat):Int)=((f.2/Nat.gcd b f.2:Nat):Int):=(weg _ _).symm;have eb2:((b:Nat):Int)*((f.2/Nat.gcd b f.2:Nat):Int)=((b*(f.2/Nat.gcd b f.2):Nat):Int):=(Vu _ _).symm;have eb3:((b*(f.2/Nat.gcd b f.2):Nat):Int)/((f.2:Nat):Int)=((b*(f.2/Nat.gcd b f.2)/f.2:Nat):Int):=(weg _ _).symm;have hq:b*(f.2/Nat.gcd b f.2)/f.2<=b*(f.2/Nat.gcd b f.2):=Nat.div_le_self _ _;have c1:∀x:Int,CMul x (((f.2:Nat):Int)/((Nat.gcd b f.2:Nat):Int)):=fun x=>by rw[eby];exact Kv (cQ hby (cQ hfD hD1)) x
  have c2:∀x:Int,CMul x (((b:Nat):Int)*(((f.2:Nat):Int)/((Nat.gcd b f.2:Nat):Int))/((f.2:Nat):Int)):=fun x=>by rw[eby,eb2,eb3];exact Kv (cQ hq (cQ hbb hD1)) x
  refine⟨_,rfl,_,rfl,_,_,rfl,rfl,c1 _,_,rfl,_,rfl,_,rfl,_,_,rfl,rfl,c1 _,_,rfl,_,_,rfl,rfl,⟨by omega,by omega⟩,_,_,rfl,rfl,c2 _,_,_,rfl,rfl,?_⟩;refine⟨_,rfl,_,rfl,_,_,rfl,rfl,c1 _,?_⟩;refine⟨rfl,a*((f.2/Nat.gcd b f.2:Nat):Int)+f.1*((b*(f.2/Nat.gcd b f.2)/f.2:Nat):Int),b*(f.2/Nat.gcd b f.2),some (.int f.1),some (.int ((f.2:Nat):Int)),some (.int ((f.2/Nat.gcd b f.2:Nat):Int)),?_,?_⟩
  rotate_left
  ·show[some (V.ref la),some (.int (a*(((f.2:Nat):Int)/((Nat.gcd b f.2:Nat):Int))+f.1*(((b:Nat):Int)*(((f.2:Nat):Int)/((Nat.gcd b f.2:Nat):Int))/((f.2:Nat):Int)))),some (.int (((b:Nat):Int)*(((f.2:Nat):Int)/((Nat.gcd b f.2:Nat):Int)))),some (.int f.1),some (.int ((f.2:Nat):Int)),some (.int (((f.2:Nat):Int)/((Nat.gcd b f.2:Nat):Int)))]=_;rw[eby,eb2,eb3]
  obtain⟨hi,rfl⟩:=pO.mp hf;rw[Ws hi,rQ,wZ];exact st
 ·obtain⟨rfl,a,b,o1,o2,o3,hs,rfl⟩:=p;refine⟨_,rfl,_,rfl,(by show 2<=sizeLine;decide),fun r hr'=> ?_⟩;refine q r a b _ (aK hr' _) aA ?_;rw[Wo (by omega)]at hs;exact hs
theorem vP{α:Type}{l:List α}{i:Nat}(h:i<l.length)(g:α->Bool):(l.take (i+1)).filter g=(l.take i).filter g++(if g l[i]=true then[l[i]]else[]):=by
 rw[Ws h,Dy,Ax];split<;>rfl
theorem yI{H:Hp}{rs:List V}{l:List (List Int×(Int×Nat))}(hv:gq K H rs l){i:Nat}{x:V}(hx:rs[i]? =some x):∃(hi:i<l.length) (t sa fa:Addr),x= .ref t/\SqT K H t [.ref sa,.ref fa]/\SqT K H sa (l[i].1.map V.int)/\m5 K H fa l[i].2:=by
 obtain⟨q,hq,t,sa,fa,e,h1,h2,h3⟩:=Paired.at_ hv hx;obtain⟨hi,rfl⟩:=pO.mp hq;exact⟨hi,t,sa,fa,e,h1,h2,h3⟩
theorem jB.cmp{D b:Nat}{S a u:Int}{v:Nat}(h:jB D S a b)(hD:0<D):a*(v:Int)<=u*(b:Int)↔S*(v:Int)<=u*(D:Int):=by
 obtain⟨hb,⟨k,rfl⟩,rfl⟩:=h;have hk:0<k:=by
  rcases Vw k with z|z
  ·rw[z,ZK]at hD;cases hD
  ·exact z
 rw[M4 _ hb,Int.mul_right_comm a (k:Int) (v:Int),Vu,<-Np];exact⟨fun h=>Wr h (by omega),fun h=>Wq h (by omega)⟩
theorem jB.aaK{D b:Nat}{S a x:Int}(h:jB D S a b)(hD:0<D):x*(b:Int)<=a↔x*(D:Int)<=S:=by
 obtain⟨hb,⟨k,rfl⟩,rfl⟩:=h;have hk:0<k:=by
  rcases Vw k with z|z
  ·rw[z,ZK]at hD;cases hD
  ·exact z
 rw[M4 _ hb,Vu,<-Np];exact⟨fun h=>Wr h (by omega),fun h=>Wq h (by omega)⟩
theorem dec_not{a b:Int}:(!decide (a<b))=decide (b<=a):=by
 by_cases h:a<b
 ·rw[cI h,jK (by omega)];rfl
 ·rw[jK h,cI (by omega)];rfl
theorem yp.sub{D:Nat}{fs gs:List (Int×Nat)}(h:yp D fs)(s:∀f∈gs,f∈fs):yp D gs:=⟨h.pos,h.le,fun f hf=>h.all f (s f hf)⟩
noncomputable def Cm(D:Nat)(l:List (List Int×(Int×Nat)))(p w:Int):Bool:=decide (w*(D:Int)<=j4 D ((l.filter fun q=>decide (p∈q.1)).map (·.2)))
noncomputable def Ef(K:W.Frag):Sp:=fun vs H Q _=>∃(la:Addr) (p w:Int) (rs:List V) (l:List (List Int×(Int×Nat))) (D:Nat),vs=[.ref la,.int p,.int w]/\SqL K H la rs/\gq K H rs l/\l.length<=1000/\yp D (l.map (·.2))/\∀H',Same H H'->Q (.bl (Cm D l p w)) H'
theorem Pa{f f1 f2:Addr}{fd d1 d2:ρ}(F:Fun K "gets" "gets" Bv f fd)(D1:bJ K mg "is_less" Rv ["one","other"] f1 d1)(G1:FnOk P w K mg base CX0 1 f1 d1 ["one","other"] (pU K))(D2:bJ K mg "sum_of" iB ["fractions"] f2 d2)(G2:FnOk P w K mg base CX0 2 f2 d2 ["fractions"] (nR K)):
  FnOk P w K mg base CX0 3 f fd ["laying","place","want"] (Ef K):=by
 refine F.cG ["laying","place","want"] fun cdv A outer s H vs Q E hr h=> ?_;obtain⟨la,p,w,rs,l,D,rfl,hL,hv,h1k,hD,qq⟩:=h;refine⟨_,(aX (bM (pe_not (pc G1 hr D1 (aj (pc G2 hr D2 (aj (pK ["share"] ["place"] [1] (Ag (pv 0)) (pG 0) (Ak (dO (lA K hr.units) (pv 1) (aP (Ah K) (pv 0) aB) (by with_unfolding_all rfl))) (aP (Ah K) (pv 0) aB)) ak)) (aj (fu (aj (pv 2) (aj aB ak))) ak)))))),?_⟩;have hlen:=Paired.fZ hv;refine⟨_,rfl,la,rs,rfl,hL,fun hz=> ?_⟩;let xQ:Nat->List V->St->Hp->Prop:=fun i acc σ H'=>H'=H/\dw K H acc (((l.take i).filter fun q=>decide (p∈q.1)).map (·.2))/\∃o,σ=[o,some (.int p)];refine Am (xs:=rs) xQ ⟨rfl,.nil,_,rfl⟩ (fun i acc σ H' _ p=>by rw[p.1];exact hL) (fun i acc σ H' _ p=> ?_) hz (fun i x acc σ H' hx p'=> ?_) (fun acc σ H' p'=> ?_)
 ·rw[Paired.fZ p.2.1,aH];exact cQ (vo _ _) (by rw[uH];exact Av _ _)
 ·obtain⟨rfl,hf,o,rfl⟩:=p';obtain⟨hi,t,sa,fa,rfl,h1,h2,h3⟩:=yI hv hx;refine⟨_,rfl,_,rfl,t,_,_,.ref sa,rfl,rfl,h1,rfl,sa,_,_,.int p,rfl,.inr h2,cO.ints _,.int _,Nf _,rfl,(by show 0<=60;decide),_,rfl,?_⟩;rw[any_ints];refine ite2 (fun c=> ?_) (fun c=> ?_)
  ·refine⟨_,rfl,t,_,_,.ref fa,rfl,rfl,h1,rfl,rfl,?_,_,rfl⟩;rw[vP hi,au c,cg];exact Paired.snoc hf ⟨fa,rfl,h3⟩
  ·refine⟨rfl,?_,_,rfl⟩;rw[vP hi,aq c,Aw];exact hf
 intro p1 hp1;obtain⟨rfl,hf,_⟩:=p';rw[Wo (by omega)]at hf;have s1:=aK hp1 (.lst acc);have hal:acc.length<=1000:=by
  rw[Paired.fZ hf,aH];exact cQ (vo _ _) h1k
 have hDf:yp D ((l.filter fun q=>decide (p∈q.1)).map (·.2)):=hD.sub fun f hf=>by
  obtain⟨q,hq,rfl⟩:=iK.mp hf;exact Zv (eN.mp hq).1
 refine⟨p1,acc,_,D,rfl,SqL.of aA,dw.same hf s1,hDf,by omega,fun r a b H2 s2 hr2 hs=> ?_⟩;refine⟨_,rfl,(by show 2<=sizeLine;decide),fun r2 V1=> ?_⟩;have s3:=aK V1 (.tup [.int w,.int 1]);have hbD:=hs.le hD.pos;have hD1:=hD.le;refine⟨r,r2,a,w,b,1,rfl,s3.tup (SqT.of hr2),SqT.of aA,by omega,by omega,_,rfl,?_⟩;have e:=hs.aaK hD.pos (x:=w);show Q (.bl (!decide (a*((1:Nat):Int)<w*(b:Int)))) _;rw[dec_not,show a*((1:Nat):Int)=a by rw[show((1:Nat):Int)=1 from rfl,VF],decide_eq_decide.mpr e];exact qq _ (s1.trans (s2.trans s3))
noncomputable def Gn(d:θ):List Int×(Int×Nat):=(setOf d,(intD ((kids ((kids d).getD 1 .none)).getD 0 .none),(intD ((kids ((kids d).getD 1 .none)).getD 1 .none)).toNat))
theorem sy(q:List Int×(Int×Nat)):Gn (sV q)=q:=by
 show(setOf (sV q),(q.2.1,(((q.2.2:Nat):Int)).toNat))=q;rw[vJ,Nt]
theorem jL(l:List (List Int×(Int×Nat))):(l.map sV).map Gn=l:=by
 rw[vh];exact(Nu fun q _=>sy q).trans (ZL l)
noncomputable def hasB(D:Nat)(wl:List Int)(l:List (List Int×(Int×Nat))):Bool:=(List.range wl.length).all fun i=>Cm D l ((i:Nat):Int) (wl.getD i 0)
noncomputable def oY(n:Int)(ts:L0)(wl:List Int)(D:Nat)(ds:List θ)(u:Int)(v:Nat):Bool:=layB n ts ds&&(hasB D wl (ds.map Gn)&&decide (j4 D ((ds.map Gn).map (·.2))*(v:Int)<=u*(D:Int)))
noncomputable def Bp(K:W.Frag):Sp:=fun vs H Q _=>∃(a wa la na:Addr) (n:Int) (ts:L0) (wl:List Int) (rs:List V) (ds:List θ) (D:Nat) (u:Int) (v:Nat),vs=[.ref a,.ref wa,.ref la,.ref na]/\aJ K H a n ts/\SqT K H wa (wl.map V.int)/\qt n wl/\SqL K H la rs/\lN K H rs ds/\rs.length<=1000/\m5 K H na (u,v)/\v<=1000000000000000000/\(layB n ts ds=true->yp D ((ds.map Gn).map (·.2)))/\∀H',Same H H'->Q (.bl (oY n ts wl D ds u v)) H'
theorem yV{f f1 f2 f3 f4 f5 f6:Addr}{fd d1 d2 d3 d4 d5 d6:ρ}(F:Fun K "is_enough" "is_enough" gG f fd)(D1:bJ K mg "need_web" Nj ["thing"] f1 d1)(G1:FnOk P w K mg base CX0 7 f1 d1 ["thing"] (dh K))(D2:bJ K mg "need_wants" Wd ["web","thing"] f2 d2)(G2:FnOk P w K mg base CX0 2 f2 d2 ["web","thing"] (gF K))(D3:bJ K mg "is_laying" jR ["web","thing"] f3 d3)(G3:FnOk P w K mg base CX0 6 f3 d3 ["web","thing"] (JD K))(D4:bJ K mg "gets" Bv ["laying","place","want"] f4 d4)(G4:FnOk P w K mg base CX0 3 f4 d4 ["laying","place","want"] (Ef K))(D5:bJ K mg "is_less" Rv ["one","other"] f5 d5)(G5:FnOk P w K mg base CX0 1 f5 d5 ["one","other"] (pU K))(D6:bJ K mg "sum_of" iB ["fractions"] f6 d6)(G6:FnOk P w K mg base CX0 2 f6 d6 ["fractions"] (nR K))(oH:mg "all"=none)(cL:mg "enumerate"=none):
  FnOk P w K mg base CX0 8 f fd ["web","wants","laying","number"] (Bp K):=by
 refine F.cG ["web","wants","laying","number"] fun cdv A outer s H vs Q E hr h=> ?_;obtain⟨a,wa,la,na,n,ts,wl,rs,ds,D,u,v,rfl,hA,hW,hwl,hL,hd,hrs,hN,Ut,hD,q⟩:=h;refine bA ?_;intro Y;refine⟨_,(aM (lY (pc G1 hr D1 (aj (pv 0) ak))) (aM (lY (pc G2 hr D2 (aj (pv 0) (aj (pv 1) ak)))) (aM (fJ (pI (nJ (pc G3 hr D3 (aj (pv 0) (aj (pv 2) ak))))) (aX (bM pe_bl)) gC) (aM (fJ (pI (nJ (pB (eG rfl) oH (aj (pK ["place","want"] ["laying"] [2] (rK rfl cL (aj (pv 1) ak)) (HS K (n:=2) rfl (nF (pG 0) (nF (pG 1) Ai))) pD (pc G4 hr D4 (aj (pv 2) (aj (pv 0) (aj (pv 1) ak))))) ak)))) (aX (bM pe_bl)) gC) (aX (bM (pe_not (pc G5 hr D5 (aj (pv 3) (aj (pc G6 hr D6 (aj (pK ["share"] [] [] (Ag (pv 2)) (pG 0) pD (aP (Ah K) (pv 0) aB)) ak)) ak)))))))))),?_⟩;refine Fp ?_;intro c5 c4 c3 c2;have no:(layB n ts ds&&hasB D wl (ds.map Gn))=false->∀H',Same H H'->Q (.bl false) H':=fun e H' sm=>by
  have:=q H' sm;unfold oY at this;rw[<-Bool.and_assoc,e]at this;exact this
 have h0:=hA.h0;have h10:=hA.h1;have hwn:wl.length=n.toNat:=by have:=hwl.1;omega
 refine⟨_,rfl,.ref a,_,rfl,hA.web.dv.dx,hA.ok,fun H1 s1=> ?_⟩;obtain⟨tt1,rr1,w1,w2,w3⟩:=id (hA.same s1).web;refine⟨_,rfl,_,rfl,a,wa,n,_,wl,rfl,w1,s1.tup hW,hwl,fun H2 s2=> ?_⟩;have s12:=s1.trans s2;refine⟨_,rfl,_,rfl,a,la,n,ts,rs,ds,rfl,hA.same s12,s12.seq hL,lN.same s12 hd,fun H3 s3=>⟨_,rfl,?_⟩⟩;have nH:=s12.trans s3;refine ite2 (fun c=>no (by rw[qL c];rfl) _ nH) (fun c=> ?_);have c:=qM c;have hD:=hD c;have ca:ds.all (Bs n ts)=true:=by
  have c':=c;unfold layB at c';exact(Bool.and_eq_true_iff.mp c').1
 obtain⟨l,rfl,hv,hg⟩:=lay_of hd ca;unfold oY at q;rw[c]at no q;rw[jL]at no q hD;have hlen:=Paired.fZ hv;refine⟨_,rfl,true,wa,_,rfl,nH.tup hW,fun hz=> ?_⟩;let HD:Nat->List V->St->Hp->Prop:=fun i acc σ H'=>acc=((List.range i).map fun i=>Cm D l ((i:Nat):Int) (wl.getD i 0)).map V.bl/\Same H3 H'/\∃o1 o2,σ=[o1,o2,some (.ref la)];refine lD (K:=K) (b:=true) (a:=wa) (xs:=wl.map V.int) HD ⟨rfl,Same.refl _,_,_,rfl⟩ (fun i acc σ H' _ p=>(nH.trans p.2.1).tup hW) (fun i acc σ H' _ p=>by rw[p.1,aH,aH,vm];exact aR _) hz (fun i v' t acc σ H' hv' p ht=> ?_) (fun acc σ H' p=> ?_)
 ·obtain⟨rfl,sm,o1,o2,rfl⟩:=p;rw[dY]at hv';cases ev:wl[i]? with
  |none=>rw[ev]at hv';cases hv'
  |some y=>
   rw[ev]at hv';cases hv';have t1:=aK ht (.tup [.int (i:Int),.int y]);have st:=nH.trans (sm.trans t1);have hwy:wl.getD i 0=y:=by rw[iR,ev];rfl
   refine⟨t,_,rfl,SqT.of aA,rfl,_,_,rfl,_,_,rfl,rfl,?_⟩;refine⟨_,rfl,_,rfl,_,rfl,la,(i:Int),y,rs,l,D,rfl,st.seq hL,gq.same hv st,by omega,hD,fun H5 s5=>⟨?_,sm.trans (t1.trans s5),_,_,rfl⟩⟩;rw[yh,cg,cg,Zu,Zu,hwy]
 intro p1 hp1;obtain⟨rfl,sm,_⟩:=p;rw[aH]at *;have Gs:=nH.trans (sm.trans (aK hp1 (.lst (((List.range wl.length).map fun i=>Cm D l ((i:Nat):Int) (wl.getD i 0)).map V.bl))));refine⟨p1,_,rfl,SqL.of aA,_,rfl,?_⟩;rw[gn];refine ite2 (fun c2=>no (by show hasB D wl l=false;exact qL c2) _ Gs) (fun c2=> ?_);have c2:hasB D wl l=true:=qM c2;rw[c2]at q;generalize upd H' p1 (.lst (((List.range wl.length).map fun i=>Cm D l ((i:Nat):Int) (wl.getD i 0)).map V.bl))=H4 at *;have hv4:=gq.same hv Gs;refine⟨_,rfl,_,rfl,la,rs,rfl,Gs.seq hL,fun hz=> ?_⟩;let Vj:Nat->List V->St->Hp->Prop:=fun i acc σ H'=>H'=H4/\dw K H4 acc ((l.take i).map (·.2))/\∃o,σ=[o];refine Am (xs:=rs) Vj ⟨rfl,.nil,_,rfl⟩ (fun i acc σ H' _ p=>by rw[p.1];exact Gs.seq hL) (fun i acc σ H' _ p=> ?_) hz (fun i x acc σ H' hx p=> ?_) (fun acc σ H' p=> ?_)
 ·rw[Paired.fZ p.2.1,aH,uH];exact Av _ _
 ·obtain⟨rfl,hp,o,rfl⟩:=p;obtain⟨hi,t,sa,fa,rfl,h1,h2,h3⟩:=yI hv4 hx;refine⟨_,rfl,t,_,_,.ref fa,rfl,rfl,h1,rfl,rfl,?_,_,rfl⟩;rw[Ws hi,cg];exact Paired.snoc hp ⟨fa,rfl,h3⟩
 intro p2 hp2;obtain⟨rfl,hp,_⟩:=p;rw[Wo (by omega)]at hp;have s2':=aK hp2 (.lst acc);have hal:acc.length<=1000:=by rw[Paired.fZ hp,aH];omega
 refine⟨p2,acc,_,D,rfl,SqL.of aA,dw.same hp s2',hD,hal,fun r a' b' H5 s5 hr5 hs=> ?_⟩;have hbD:=hs.le hD.pos;have hD1:=hD.le;refine⟨na,r,u,a',v,b',rfl,(Gs.trans (s2'.trans s5)).tup hN,SqT.of hr5,Ut,by omega,_,rfl,?_⟩;have e:=hs.cmp hD.pos (u:=u) (v:=v);show Q (.bl (!decide (u*((b':Nat):Int)<a'*((v:Nat):Int)))) _;rw[dec_not,decide_eq_decide.mpr e];exact q _ (Gs.trans (s2'.trans s5))
end
theorem zx{n:Int}:∀{xs:List Int} {m:Int},xs.Pairwise (· < ·)->(∀x∈xs,m<=x/\x<n)->m<=n->m+(xs.length:Int)<=n
 |[],m,_,_,h=>by simpa using h
 |x::xs,m,hp,hb,_=>by
  obtain⟨h1,h2⟩:=QC.mp hp;have hx:=hb x jx;have:=zx (m:=m+1) h2 (fun y hy=>⟨by have:=h1 y hy;omega,(hb y (jy _ hy)).2⟩) (by omega);rw[yj];omega
theorem Px{n:Nat}{xs:List Int}(h:xs.Pairwise (· < ·))(hb:∀x∈xs,0<=x/\x<(n:Int)):xs.length<=n:=by
 have:=zx (m:=0) h hb (by omega);omega
theorem rJ{n:Nat}{ts:L0}{ss:List (List Int)}(hS:bw ss ts false n){s:List Int}(h:s∈ss):jH ts false n s:=iW n s (eN.mp (hS.1.mem_iff.mp h)).1
theorem v8:∀{t s:List Int},s.Pairwise (· < ·)->t.Pairwise (· < ·)->(∀x∈s,x∈t)->s.Sublist t
 |[],[],_,_,_=> .slnil
 |[],x::_,_,_,h=>(nomatch h x jx)
 |_::_,[],_,_,_=>List.nil_sublist _
 |y::t,x::s,hs,ht,h=>by
  obtain⟨hs1,hs2⟩:=QC.mp hs;obtain⟨ht1,ht2⟩:=QC.mp ht;by_cases e:x=y
  ·subst e;refine .cons_cons _ (v8 hs2 ht2 fun z hz=> ?_);rcases cW.mp (h z (jy _ hz))with e|e
   ·have:=hs1 z hz;omega
   ·exact e
  ·have hx:x∈t:=(cW.mp (h x jx)).resolve_left e;have hxy:=ht1 x hx;refine .cons _ (v8 hs ht2 fun z hz=> ?_);rcases cW.mp (h z hz)with e'|e'
   ·rcases cW.mp hz with e2|e2
    ·omega
    ·have:=hs1 z e2;omega
   ·exact e'
theorem Qh{D:Nat}{g:Int->Int×Nat}(hg:∀x,0<=(g x).1){s t:List Int}(h:s.Sublist t):j4 D (s.map g)<=j4 D (t.map g):=by
 induction h with
 |slnil=>exact pF _
 | @cons l1 l2 a _ ih=>
  have:=Aq (hg a) (Int.natCast_nonneg (D/(g a).2));show _<=(g a).1*((D/(g a).2:Nat):Int)+j4 D (l2.map g);omega
 | @cons_cons l1 l2 a _ ih=>
  show(g a).1*((D/(g a).2:Nat):Int)+j4 D (l1.map g)<=(g a).1*((D/(g a).2:Nat):Int)+j4 D (l2.map g);omega
noncomputable def jE(fs:List (Int×Nat))(x:Int):Int×Nat:=fs.getD x.toNat (0,1)
theorem PJ{fs:List (Int×Nat)}(h:∀f∈fs,0<=f.1)(x:Int):0<=(jE fs x).1:=by
 unfold jE;rw[iR];cases e:fs[x.toNat]? with
 |none=>exact pF _
 |some f=>exact h f (qQ e)
noncomputable def o8(ts:L0)(n D:Nat)(fs:List (Int×Nat)):Prop:=∀s∈bN ts false n,j4 D (s.map (jE fs))<=(D:Int)
theorem Cg{ts:L0}{n D:Nat}{fs:List (Int×Nat)}{ss:List (List Int)}(hS:bw ss ts false n)(h:∀f∈fs,0<=f.1)(hs:∀s∈ss,j4 D (s.map (jE fs))<=(D:Int)):o8 ts n D fs:=fun s hm=>by
 have hk:=iW n s hm;obtain⟨t,ht,hx⟩:=oX hk;have htt:=hS.1.mem_iff.mpr ht;exact Vq (Qh (PJ h) (v8 hk.up (rJ hS htt).up hx)) (hs t htt)
theorem Cr{ts:L0}{n D:Nat}{fs:List (Int×Nat)}{ss:List (List Int)}(hS:bw ss ts false n)(h:o8 ts n D fs):∀s∈ss,j4 D (s.map (jE fs))<=(D:Int):=fun s hs=>h s (eN.mp (hS.1.mem_iff.mp hs)).1
section
variable{P:ξ}{w:τ}{K:W.Frag}{mg:L4}{base:Heap}
noncomputable def w6(f:Int×Nat):θ:= .tuple [.int f.1,.int ((f.2:Nat):Int)]
noncomputable def uO(d:θ):Int×Nat:=(intD ((kids d).getD 0 .none),(intD ((kids d).getD 1 .none)).toNat)
theorem vB(f:Int×Nat):uO (w6 f)=f:=by
 show(f.1,(((f.2:Nat):Int)).toNat)=f;rw[Nt]
theorem Lq{H:Hp}:∀{rs:List V} {ds:List θ},lN K H rs ds->ds.all frB=true->dw K H rs (ds.map uO)
 |[],_,h,_=>by cases h;exact .nil
 |_::_,_,h,ha=>by
  cases h with
  |cons h t=>
   rw[ZQ,lZ]at ha;obtain⟨u,v,rfl,_⟩:=Cv ha.1;obtain⟨a,rfl,hf⟩:=h.fr;exact .cons ⟨a,rfl,by rw[show uO (.tuple [.int u,.int ((v:Nat):Int)])=(u,v)from vB (u,v)];exact hf⟩ (Lq t ha.2)
theorem yp.get{D:Nat}{fs:List (Int×Nat)}(h:yp D fs)(xs:List Int):yp D (xs.map (jE fs)):=⟨h.pos,h.le,fun f hf=>by
 obtain⟨x,_,rfl⟩:=iK.mp hf;unfold jE;rw[iR];cases e:fs[x.toNat]? with
 |none=>exact⟨pF _,Nat.one_pos,Nat.one_dvd _⟩
 |some f=>exact h.all f (qQ e)⟩
theorem jB.aaJ{D b:Nat}{S a x:Int}{v:Nat}(h:jB D S a b)(hD:0<D):x*(b:Int)<=a*(v:Int)↔x*(D:Int)<=S*(v:Int):=by
 obtain⟨hb,⟨k,rfl⟩,rfl⟩:=h;have hk:0<k:=by
  rcases Vw k with z|z
  ·rw[z,ZK]at hD;cases hD
  ·exact z
 rw[M4 _ hb,Vu,<-Np,Int.mul_right_comm a (k:Int) (v:Int)];exact⟨fun h=>Wr h (by omega),fun h=>Wq h (by omega)⟩
noncomputable def Eb(K:W.Frag):Sp:=fun vs H Q _=>∃(sa pa:Addr) (xs:List Int) (bW:List V) (n:Nat) (fs:List (Int×Nat)) (D:Nat),vs=[.ref sa,.ref pa]/\SqT K H sa (xs.map V.int)/\SqL K H pa bW/\dw K H bW fs/\fs.length=n/\(∀x∈xs,0<=x/\x<(n:Int))/\xs.length<=1000/\yp D fs/\∀H',Same H H'->Q (.bl (decide ((D:Int)<j4 D (xs.map (jE fs))))) H'
theorem OD{f f1 f2:Addr}{fd d1 d2:ρ}(F:Fun K "outweighs" "outweighs" jO f fd)(D1:bJ K mg "is_less" Rv ["one","other"] f1 d1)(G1:FnOk P w K mg base CX0 1 f1 d1 ["one","other"] (pU K))(D2:bJ K mg "sum_of" iB ["fractions"] f2 d2)(G2:FnOk P w K mg base CX0 2 f2 d2 ["fractions"] (nR K)):
  FnOk P w K mg base CX0 3 f fd ["some","prices"] (Eb K):=by
 refine F.cG ["some","prices"] fun cdv A outer s H vs Q E hr h=> ?_;obtain⟨sa,pa,xs,bW,n,fs,D,rfl,hS,hP,hf,hn,hx,h1k,hD,qq⟩:=h;refine⟨_,(aX (bM (pc G1 hr D1 (aj (fu (aj aB (aj aB ak))) (aj (pc G2 hr D2 (aj (pK ["place"] ["prices"] [1] (Aj (pv 0)) (pG 0) pD (aP (gj K) (pv 1) (pv 0))) ak)) ak))))),?_⟩;have hlen:=Paired.fZ hf;refine⟨(by show 2<=sizeLine;decide),fun r1 hr1=> ?_⟩;have s1:=aK hr1 (.tup [.int 1,.int 1]);have er:(upd H r1 (.tup [.int 1,.int 1])) r1=some (.tup [.int 1,.int 1]):=aA;have hf1:=dw.same hf s1;have hS1:=s1.tup hS;have hP1:=s1.seq hP;generalize (upd H r1 (.tup [.int 1,.int 1]))=H1 at *;refine⟨_,rfl,sa,_,rfl,hS1,fun hz=> ?_⟩;let mZ:Nat->List V->St->Hp->Prop:=fun i acc σ H'=>H'=H1/\dw K H1 acc ((xs.take i).map (jE fs))/\∃o,σ=[o,some (.ref pa)];refine Al (xs:=xs.map V.int) mZ ⟨rfl,.nil,_,rfl⟩ (fun i acc σ H' _ p=>by rw[p.1];exact hS1) (fun i acc σ H' _ p=> ?_) hz (fun i x acc σ H' hx' p=> ?_) (fun acc σ H' p=> ?_)
 ·rw[Paired.fZ p.2.1,aH,uH];exact Av _ _
 ·obtain⟨rfl,hp,o,rfl⟩:=p;rw[dY]at hx';cases ex:xs[i]? with
  |none=>rw[ex]at hx';cases hx'
  |some y=>
   rw[ex]at hx';cases hx';have hy:=hx y (qQ ex);have hk:y.toNat<bW.length:=by omega
   have hv:bW[y.toNat]? =some bW[y.toNat]:=eO hk;obtain⟨g,hg,fa,e,h3⟩:=Paired.at_ hf1 hv;have ha:atI bW y=some (.ref fa):=by
    have:y=((y.toNat:Nat):Int):=by omega
    rw[this,<-e];exact HN hv
   refine⟨_,rfl,_,rfl,pa,bW,_,_,rfl,rfl,hP1,ha,rfl,?_,_,rfl⟩;obtain⟨hi,rfl⟩:=pO.mp ex;rw[Ws hi,cg];refine Paired.snoc hp ⟨fa,rfl,?_⟩;show m5 K H' fa (jE fs xs[i]);unfold jE;rw[iR,hg];exact h3
 intro p1 hp1;obtain⟨rfl,hp,_⟩:=p;rw[aH,rW]at hp;have s2:=aK hp1 (.lst acc);have hal:acc.length<=1000:=by rw[Paired.fZ hp,aH];exact h1k
 refine⟨p1,acc,_,D,rfl,SqL.of aA,dw.same hp s2,hD.get xs,hal,fun r a b H2 s3 hr2 hs=> ?_⟩;have hbD:=hs.le hD.pos;have hD1:=hD.le;refine⟨r1,r,1,a,1,b,rfl,(s2.trans s3).tup (SqT.of er),SqT.of hr2,by omega,by omega,?_⟩;have e:=hs.cmp hD.pos (u:=1) (v:=1);show Q (.bl (decide (1*((b:Nat):Int)<a*((1:Nat):Int)))) _;have e2:decide (1*((b:Nat):Int)<a*((1:Nat):Int))=decide ((D:Int)<j4 D (xs.map (jE fs))):=by
  refine decide_eq_decide.mpr ⟨fun z=> ?_,fun z=> ?_⟩
  ·refine Int.lt_of_not_ge fun c=> ?_;have:=e.mpr (by rw[show((1:Nat):Int)=1 from rfl];omega);omega
  ·refine Int.lt_of_not_ge fun c=> ?_;have:=e.mp c;rw[show((1:Nat):Int)=1 from rfl]at this;omega
 rw[e2];exact qq _ (s1.trans (s2.trans s3))
noncomputable def Rh(n:Int)(ds:List θ):Bool:=decide ((ds.length:Int)=n)&&ds.all frB
noncomputable def QL(wl:List Int)(fs:List (Int×Nat))(i:Nat):Int×Nat:=(wl.getD i 0*(fs.getD i (0,1)).1,(fs.getD i (0,1)).2)
noncomputable def Nv(D:Nat)(wl:List Int)(fs:List (Int×Nat)):Int:=j4 D ((List.range wl.length).map (QL wl fs))
theorem yp.Wt{D:Nat}{fs:List (Int×Nat)}{n:Int}{wl:List Int}(h:yp D fs)(hw:qt n wl):yp D ((List.range wl.length).map (QL wl fs)):=⟨h.pos,h.le,fun f hf=>by
 obtain⟨i,hi,rfl⟩:=iK.mp hf;have hi:=pJ.mp hi;have w0:0<=wl.getD i 0:=by
  rw[iR,eO hi];exact(hw.2 _ (Ay _)).1
 unfold QL;rw[iR (l:=fs)];cases e:fs[i]? with
 |none=>exact⟨Aq w0 (pF _),Nat.one_pos,Nat.one_dvd _⟩
 |some f=>
  obtain⟨a,b,c⟩:=h.all f (qQ e);exact⟨Aq w0 a,b,c⟩⟩
noncomputable def Jz(K:W.Frag):Sp:=fun vs H Q _=>∃(a wa pa na:Addr) (n:Int) (ts:L0) (wl:List Int) (bW:List V) (ds:List θ) (D:Nat) (u:Int) (v:Nat),vs=[.ref a,.ref wa,.ref pa,.ref na]/\aJ K H a n ts/\SqT K H wa (wl.map V.int)/\qt n wl/\SqL K H pa bW/\lN K H bW ds/\m5 K H na (u,v)/\v<=1000000000000000000/\(Rh n ds=true->yp D (ds.map uO))/\∀(b:Bool) H',Same H H'->(Rh n ds=true->(b=true↔o8 ts n.toNat D (ds.map uO)))->Q (.bl (Rh n ds&&(b&&decide (u*(D:Int)<=Nv D wl (ds.map uO)*(v:Int))))) H'
theorem wM{f f1 f2 f3 f4 f5 f6 f7:Addr}{fd d1 d2 d3 d4 d5 d6 d7:ρ}(F:Fun K "are_prices" "are_prices" jh f fd)(D1:bJ K mg "need_web" Nj ["thing"] f1 d1)(G1:FnOk P w K mg base CX0 7 f1 d1 ["thing"] (dh K))(D2:bJ K mg "need_wants" Wd ["web","thing"] f2 d2)(G2:FnOk P w K mg base CX0 2 f2 d2 ["web","thing"] (gF K))(D3:bJ K mg "is_fraction" Zk ["thing"] f3 d3)(G3:FnOk P w K mg base CX0 2 f3 d3 ["thing"] (JG K))(D4:bJ K mg "full_apart" fG ["web"] f4 d4)(G4:FnOk P w K mg base CX0 8 f4 d4 ["web"] (jM K))(D5:bJ K mg "outweighs" jO ["some","prices"] f5 d5)(G5:FnOk P w K mg base CX0 3 f5 d5 ["some","prices"] (Eb K))(D6:bJ K mg "sum_of" iB ["fractions"] f6 d6)(G6:FnOk P w K mg base CX0 2 f6 d6 ["fractions"] (nR K))(D7:bJ K mg "is_less" Rv ["one","other"] f7 d7)(G7:FnOk P w K mg base CX0 1 f7 d7 ["one","other"] (pU K))(oH:mg "all"=none)(bY:mg "len"=none)(bC:mg "isinstance"=none)(dI:mg "list"=none)(Xy:mg "any"=none)(Xw:mg "zip"=none):
  FnOk P w K mg base CX0 9 f fd ["web","wants","prices","number"] (Jz K):=by
 refine F.cG ["web","wants","prices","number","worth"] fun cdv A outer s H vs Q E hr h=> ?_;obtain⟨a,wa,pa,na,n,ts,wl,bW,ds,D,u,v,rfl,hA,hW,hwl,Uz,hd,hN,Ut,hDo,qq⟩:=h;refine bA ?_;intro Y;refine⟨_,(aM (lY (pc G1 hr D1 (aj (pv 0) ak))) (aM (lY (pc G2 hr D2 (aj (pv 0) (aj (pv 1) ak)))) (aM (fJ (PW.pt (pw_or (pI (nJ (pB Mz bC (aj (pv 2) (aj (pN "list" dI) ak))))) (pw_or (dO op_ne (pB vg bY (aj (pv 2) ak)) (aP bZ (pv 0) aB)) (pw_or1 (pI (nJ (pB (eG rfl) oH (aj (pK ["price"] [] [] (Ag (pv 2)) (pG 0) pD (pc G3 hr D3 (aj (pv 0) ak))) ak)))))))) (aX (bM pe_bl)) gC) (aM (fJ (nJ (pB (Mj rfl) Xy (aj (pK ["some"] ["prices"] [2] (Ag (pc G4 hr D4 (aj (pv 0) ak))) (pG 0) pD (pc G5 hr D5 (aj (pv 0) (aj (pv 1) ak)))) ak))) (aX (bM pe_bl)) gC) (aM (pS 4 (pc G6 hr D6 (aj (pK ["want","price"] [] [] (Td rfl Xw (aj (pv 1) (aj (pv 2) ak))) (HS K (n:=2) rfl (nF (pG 0) (nF (pG 1) Ai))) pD (fu (aj (bK rB (pv 0) (aP (Ah K) (pv 1) aB)) (aj (aP (Ah K) (pv 1) aB) ak)))) ak))) (aX (bM (pe_not (pc G7 hr D7 (aj (pv 4) (aj (pv 3) ak))))))))))),?_⟩;refine K5 ?_;intro c6 c5 c4 c3 c2;have h0:=hA.h0;have h10:=hA.h1;have en:((n.toNat:Nat):Int)=n:=by omega
 have hwn:wl.length=n.toNat:=by have:=hwl.1;omega
 have hdl:=hd.len;have no:Rh n ds=false->∀H',Same H H'->Q (.bl false) H':=fun e H' sm=>by
  have:=qq true H' sm (fun z=>by rw[e]at z;cases z);rw[e]at this;exact this
 refine⟨_,rfl,.ref a,_,rfl,hA.web.dv.dx,hA.ok,fun H1 s1=> ?_⟩;obtain⟨tt1,rr1,w1,w2,w3⟩:=id (hA.same s1).web;refine⟨_,rfl,_,rfl,a,wa,n,_,wl,rfl,w1,s1.tup hW,hwl,fun H2 s2=> ?_⟩;have s12:=s1.trans s2;obtain⟨tt2,rr2,x1,x2,x3⟩:=id (hA.same s12).web;refine⟨_,rfl,.ref pa,"list",_,rfl,.inr (.inl ⟨rfl,_,s12.seq Uz⟩),.inr (.inr (.inr rfl)),_,rfl,?_⟩;refine iteF ?_;refine⟨_,rfl,pa,bW,rfl,.inl (s12.seq Uz),fun hz=>⟨_,rfl,a,_,_,.int n,rfl,rfl,x1,rfl,rfl,_,rfl,?_⟩⟩;refine ite2 (fun c=>no ?_ _ s12) (fun c=> ?_)
 ·have c:(!decide (V.int ((bW.length:Nat):Int)=V.int n))=true:=c;show(decide ((ds.length:Int)=n)&&_)=false;rw[jK (fun z=>by rw[hdl,z]at c;simp at c)];rfl
 have hpl:(bW.length:Int)=n:=by
  have c:¬(!decide (V.int ((bW.length:Nat):Int)=V.int n))=true:=c;simpa using c
 refine⟨_,rfl,pa,bW,rfl,s12.seq Uz,fun hz=> ?_⟩;let xQ:Nat->List V->St->Hp->Prop:=fun i acc σ H'=>acc=((ds.take i).map frB).map V.bl/\H'=H2/\∃o,σ=[o];refine Am (xs:=bW) xQ ⟨rfl,rfl,_,rfl⟩ (fun i acc σ H' _ p=>by rw[p.2.1];exact s12.seq Uz) (fun i acc σ H' hi p=>by rw[p.1];simp;omega) hz (fun i x acc σ H' hx p=> ?_) (fun acc σ H' p=> ?_)
 ·obtain⟨rfl,rfl,o,rfl⟩:=p;obtain⟨d,e1,e2⟩:=hd.get hx;refine⟨_,rfl,x,d,rfl,DX.same s12 e2,?_,rfl,_,rfl⟩;rw[vX,e1];simp
 intro p1 hp1;obtain⟨rfl,rfl,_⟩:=p;rw[hdl,rW];have nH:=s12.trans (aK hp1 (.lst ((ds.map frB).map V.bl)));refine⟨p1,_,rfl,SqL.of aA,_,rfl,?_⟩;rw[gn];refine ite2 (fun c=>no ?_ _ nH) (fun c=> ?_)
 ·show(_&&ds.all frB)=false;rw[qL c,wev]
 have c:=qM c;have hpr:Rh n ds=true:=by
  show(decide ((ds.length:Int)=n)&&ds.all frB)=true;rw[c,cI (by omega)];rfl
 have hD:=hDo hpr;have hf:=Lq hd c;rw[hpr]at qq;generalize hfs:ds.map uO=fs at *;have hfl:fs.length=n.toNat:=by rw[<-Paired.fZ hf];omega
 generalize upd H' p1 (.lst ((ds.map frB).map V.bl))=H3 at *
 -- no set outweighs
 refine⟨_,rfl,a,n,ts,rfl,hA.same nH,fun sl ss' H4 s4 Uy oU hsl=> ?_⟩;obtain⟨its,hS,hP,hss⟩:=Uy;have Gs:=nH.trans s4;refine⟨sl,_,rfl,SqL.of hS,fun hz=> ?_⟩;let HD:Nat->List V->St->Hp->Prop:=fun i acc σ H'=>acc=((its.take i).map fun p=>decide ((D:Int)<j4 D (p.2.map (jE fs)))).map V.bl/\Same H4 H'/\∃o,σ=[o,some (.ref pa)];refine Am (xs:=its.map fun p=>V.ref p.1) HD ⟨rfl,Same.refl _,_,rfl⟩ (fun i acc σ H' _ p=>p.2.1.seq (SqL.of hS)) (fun i acc σ H' _ p=>by rw[p.1,aH,aH,uH];exact Av _ _) hz (fun i x acc σ H' hx p=> ?_) (fun acc σ H' p=> ?_)
 ·obtain⟨rfl,sm,o,rfl⟩:=p;rw[dY]at hx;cases ev:its[i]? with
  |none=>rw[ev]at hx;cases hx
  |some it=>
   rw[ev]at hx;cases hx;have st:=Gs.trans sm;have hit:=qQ ev;have hK:jH ts false n.toNat it.2:=rJ oU (by rw[<-hss];exact Zv hit);have aaG:it.2.length<=1000:=by
    have:=Px hK.up hK.lt;omega
   refine⟨_,rfl,_,rfl,it.1,pa,it.2,bW,n.toNat,fs,D,rfl,sm.tup (hP it hit),st.seq Uz,dw.same hf st,hfl,hK.lt,aaG,hD,fun H5 s5=>⟨?_,sm.trans s5,_,rfl⟩⟩;rw[vX,ev];simp
 intro p2 hp2;obtain⟨rfl,sm,_⟩:=p;rw[aH,rW];have SM:=Gs.trans (sm.trans (aK hp2 (.lst ((its.map fun p=>decide ((D:Int)<j4 D (p.2.map (jE fs)))).map V.bl))));refine⟨p2,_,rfl,SqL.of aA,_,rfl,?_⟩;have nn:∀f∈fs,0<=f.1:=fun f hf=>(hD.all f hf).1;refine ite2 (fun c=> ?_) (fun c=> ?_)
 ·have:=qq false _ SM fun _=>⟨(fun z=>nomatch z),fun z=> ?_⟩
  ·exact this
  exfalso;obtain⟨b,hb,e⟩:=List.any_eq_true.mp c;obtain⟨it,hit,rfl⟩:=iK.mp hb;have:=Cr oU z it.2 (by rw[<-hss];exact Zv hit);have e:decide ((D:Int)<j4 D (it.2.map (jE fs)))=true:=e;have:=cR e;omega
 have qq:=fun H' sm=>qq true H' sm fun _=>⟨fun _=>Cg oU nn fun s hs=>by
  rw[<-hss]at hs;obtain⟨it,hit,rfl⟩:=iK.mp hs;refine Int.not_lt.mp fun z=>c ?_;exact List.any_eq_true.mpr ⟨_,Zv hit,cI z⟩,fun _=>rfl⟩
 generalize upd H' p2 (.lst ((its.map fun p=>decide ((D:Int)<j4 D (p.2.map (jE fs)))).map V.bl))=H5 at *;have hf5:=dw.same hf SM
 -- the worth
 refine⟨_,rfl,_,rfl,wa,pa,wl.map V.int,bW,rfl,SM.tup hW,SM.seq Uz,by rw[aH];omega,fun hz=> ?_⟩;refine Mg (K:=K) (a:=wa) (b:=pa) (xs:=wl.map V.int) (ys:=bW) (fun i acc σ H'=>dw K H' acc ((List.range i).map (QL wl fs))/\Same H5 H'/\∃o1 o2,σ=[o1,o2]) ⟨.nil,Same.refl _,_,_,rfl⟩ (fun i acc σ H' _ p=>⟨(SM.trans p.2.1).tup hW,(SM.trans p.2.1).seq Uz⟩) (by rw[aH];omega) (fun i acc σ H' _ p=>by rw[Paired.fZ p.1,aH,vm];exact aR _) hz (fun i v x t acc σ H' hv hx p ht=> ?_) (fun acc σ H' p=> ?_)
 ·obtain⟨hp,sm,o1,o2,rfl⟩:=p;rw[dY]at hv;cases ev:wl[i]? with
  |none=>rw[ev]at hv;cases hv
  |some y=>
   rw[ev]at hv;cases hv;have hy:=hwl.2 y (qQ ev);obtain⟨g,hg,fa,rfl,h3⟩:=Paired.at_ hf5 hx;have ew:QL wl fs i=(y*g.1,g.2):=by
    unfold QL;rw[iR,iR,ev,hg];rfl
   have t1:=aK ht (.tup [.int y,.ref fa]);have h3':=(sm.trans t1).tup h3;refine⟨t,_,rfl,SqT.of aA,rfl,_,_,rfl,_,_,rfl,rfl,?_⟩;refine⟨_,rfl,_,rfl,fa,_,_,.int g.1,rfl,rfl,h3',rfl,_,_,rfl,rfl,.inl ⟨by omega,by omega⟩,_,rfl,fa,_,_,.int ((g.2:Nat):Int),rfl,rfl,h3',rfl,(by show 2<=sizeLine;decide),fun r hr'=> ?_⟩;have t2:=aK hr' (.tup [.int (y*g.1),.int ((g.2:Nat):Int)]);refine⟨?_,sm.trans (t1.trans t2),_,_,rfl⟩;rw[yh,cg];refine Paired.snoc (dw.same hp (t1.trans t2)) ⟨r,rfl,?_⟩;show m5 K _ r (QL wl fs i);rw[ew];exact SqT.of aA
 intro p3 hp3;obtain⟨hp,sm',_⟩:=p;rw[aH]at hp;have s6:=aK hp3 (.lst acc);have hal:acc.length<=1000:=by rw[Paired.fZ hp,aH,vm];omega
 refine⟨p3,acc,_,D,rfl,SqL.of aA,dw.same hp s6,hD.Wt hwl,hal,fun r a' b' H7 s7 hr7 hs=> ?_⟩;have s57:=SM.trans (sm'.trans (s6.trans s7));have hbD:=hs.le hD.pos;have hD1:=hD.le;refine⟨_,rfl,_,rfl,r,na,a',u,b',v,rfl,SqT.of hr7,s57.tup hN,by omega,Ut,_,rfl,?_⟩;have e:=hs.aaJ hD.pos (x:=u) (v:=v);show Q (.bl (!decide (a'*((v:Nat):Int)<u*((b':Nat):Int)))) _;rw[dec_not,decide_eq_decide.mpr e];exact qq _ s57
noncomputable def kZ(K:W.Frag):Sp:=fun vs H Q _=>∃(a:Addr) (n:Int) (t x:V) (d:θ),vs=[.ref a,x]/\SqT K H a [.int n,t]/\DX K H x d/\gD n d=true/\∀H',Same H H'->Q .non H'
theorem BR{f f1:Addr}{fd d1:ρ}(F:Fun K "need_set" "need_set" iZ f fd)(D1:bJ K mg "is_set" jQ ["n","thing"] f1 d1)(G1:FnOk P w K mg base CX0 4 f1 d1 ["n","thing"] (DY K)):FnOk P w K mg base CX0 5 f fd ["web","thing"] (kZ K):=by
 refine F.cG ["web","thing"] fun cdv A outer s H vs Q E hr h=> ?_;obtain⟨a,n,t,x,d,rfl,ha,hx,hd,q⟩:=h;refine⟨_,aX (fJ (pI (nJ (pc G1 hr D1 (aj (aP bZ (pv 0) aB) (aj (pv 1) ak))))) MF gC),?_⟩;refine⟨_,rfl,a,_,_,.int n,rfl,rfl,ha,rfl,_,rfl,n,x,d,rfl,hx,fun H' sm=>⟨_,rfl,?_⟩⟩;rw[hd];exact iteF (q H' sm)
end
end Hs
namespace L2
open PySem
theorem Same.x{H H':Hp}(h:Same H H')(t:Addr):aD t H H':=fun b o _ e=>h b o e
theorem aD.upd{t:Addr}{H H':Hp}{o:HO}(h:aD t H H'):aD t H (upd H' t o):=fun b u n e=>by rw[cP n];exact h b u n e
theorem qX.sq{K:W.Frag}{H:Hp}{bx:Addr}{ns:List Int}(h:qX K H bx ns):SqL K H bx (ns.map V.int):=by
 rcases h with⟨o,h⟩|h
 ·exact .inl (.inr ⟨o,h⟩)
 ·exact .inr h
theorem qX.lU{K:W.Frag}{H H':Hp}{bx t:Addr}{ns:List Int}{zs:List V}(h:qX K H bx ns)(e:aD t H H')(n:H t=some (.lst zs)):qX K H' bx ns:=by
 rcases h with⟨o,h⟩|h
 ·exact .inl ⟨o,e _ _ (ne_of h n (by intro z;cases z)) h⟩
 ·exact .inr h
structure o7(K:W.Frag)(H:Hp)(tp bx:Addr)(ns:List Int):Prop where
 at_:∃(i r:Int),H tp=some (.lst [.ref bx,.int i,.int r])/\0<=i/\0<=r
 aaQ:qX K H bx ns
 len:ns.length<=63
theorem o7.same{K:W.Frag}{H H':Hp}{tp bx:Addr}{ns:List Int}(h:o7 K H tp bx ns)(e:Same H H'):o7 K H' tp bx ns:=by
 obtain⟨⟨i,r,h1,h2,h3⟩,h4,h5⟩:=h;exact⟨⟨i,r,e _ _ h1,h2,h3⟩,h4.same e,h5⟩
theorem o7.other{K:W.Frag}{H H':Hp}{tp bx c:Addr}{ns:List Int}{zs:List V}(h:o7 K H tp bx ns)(e:aD c H H')(hc:H c=some (.lst zs))(n:tp≠c):o7 K H' tp bx ns:=by
 obtain⟨⟨i,r,h1,h2,h3⟩,h4,h5⟩:=h;exact⟨⟨i,r,e _ _ n h1,h2,h3⟩,h4.lU e hc,h5⟩
structure dB(K:W.Frag)(H:Hp)(tp bx:Addr)(ns:List Int)(b:Int):Prop where
 tv:o7 K H tp bx ns
 le:∃(i r:Int),H tp=some (.lst [.ref bx,.int i,.int r])/\i<=b
theorem dB.same{K:W.Frag}{H H':Hp}{tp bx:Addr}{ns:List Int}{b:Int}(h:dB K H tp bx ns b)(e:Same H H'):dB K H' tp bx ns b:=by
 obtain⟨i,r,h1,h2⟩:=h.le;exact⟨h.tv.same e,i,r,e _ _ h1,h2⟩
theorem dB.mono{K:W.Frag}{H:Hp}{tp bx:Addr}{ns:List Int}{b c:Int}(h:dB K H tp bx ns b)(e:b<=c):dB K H tp bx ns c:=by
 obtain⟨i,r,h1,h2⟩:=h.le;exact⟨h.tv,i,r,h1,by omega⟩
theorem dB.other{K:W.Frag}{H H':Hp}{tp bx c:Addr}{ns:List Int}{b:Int}{zs:List V}(h:dB K H tp bx ns b)(e:aD c H H')(hc:H c=some (.lst zs))(n:tp≠c):dB K H' tp bx ns b:=by
 obtain⟨i,r,h1,h2⟩:=h.le;exact⟨h.tv.other e hc n,i,r,e _ _ n h1,h2⟩
theorem dB.lst{K:W.Frag}{H:Hp}{tp bx:Addr}{ns:List Int}{b:Int}(h:dB K H tp bx ns b):∃zs,H tp=some (.lst zs):=by
 obtain⟨i,r,h1,_⟩:=h.le;exact⟨_,h1⟩
theorem dF{H:Hp}{a b:Addr}{o:HO}(h:H a=some o)(n:H b=none):b≠a:=fun e=>by rw[e,h]at n;cases n
end L2
namespace Hs
open PySem L2 o9
section
variable{P:ξ}{w:τ}{K:W.Frag}{mg:L4}{base:Heap}
theorem qb(a:Int){b:Int}(h:0<b):0<=a %b:=Int.emod_nonneg _ (by omega)
theorem mod_lt(a:Int){b:Int}(h:0<b):a %b<b:=Int.emod_lt_of_pos _ h
theorem FQ{ns:List Int}{k:Int}(h0:0<=k)(h1:k<(ns.length:Int)):∃v:Int,atI (ns.map V.int) k=some (.int v)/\ns[k.toNat]? =some v:=by
 have hk:k.toNat<ns.length:=by omega
 have ek:((k.toNat:Nat):Int)=k:=by omega
 have q:atI (ns.map V.int) ((k.toNat:Nat):Int)=some (.int ns[k.toNat]):=HN (by rw[dY,eO hk];rfl);rw[ek]at q;exact⟨_,q,eO hk⟩
noncomputable def Eh(K:W.Frag):Sp:=fun vs H Q _=>∃(c i:Int),vs=[.int c,.int i]/\0<=i/\i<=1000000000/\∀r,0<=r->Q (.int r) H
theorem Kq{f:Addr}{fd:ρ}(F:Fun K "_law_e_stir" "_law_e_stir" je f fd):
  FnOk P w K mg base CX0 1 f fd ["cell","at"] (Eh K):=by
 refine F.cG ["cell","at","one","two","three"] fun cdv A outer s H vs Q E hr h=> ?_;obtain⟨c,i,rfl,hi0,hi1,q⟩:=h;refine bA ?_;intro Y;refine⟨_,(aM (fJ (dO op_ge (pv 0) (bK op_pow aB aB)) (aX (bM (pv 0))) gC) (aM (pS 2 (bK op_mod (bK nA (bK nA (bK rB (bK op_mod (pv 0) aB) aB) (bK rB (pv 1) aB)) aB) aB)) (aM (pS 3 (bK op_mod (bK nA (bK nA (bK nA (bK rB (pv 2) (pv 2)) (bK rB (bK rB aB (pv 1)) (pv 1))) (bK rB aB (pv 2))) aB) aB)) (aM (pS 4 (bK op_mod (bK nA (bK nA (bK nA (bK rB (pv 3) (pv 3)) (bK rB aB (pv 3))) (pv 2)) (pv 1)) aB)) (aX (bM (bK nA (bK rB (pv 3) aB) (pv 4)))))))),?_⟩;refine Fp ?_;intro c5 c4 c3 c2;refine⟨_,rfl,_,_,rfl,rfl,⟨by decide,by decide,by decide⟩,_,_,rfl,rfl,_,rfl,?_⟩;refine ite2 (fun c1=> ?_) (fun c1=> ?_)
 ·have c2:(10:Int)^(18:Int).toNat<=c:=cR c1;have c3:(0:Int)<=10^(18:Int).toNat:=by decide
  exact⟨_,rfl,q c (by omega)⟩
 ·refine⟨_,rfl,_,_,rfl,rfl,(by show(0:Int)<2147483549;decide),_,_,rfl,rfl,.inr ⟨by decide,by decide⟩,_,rfl,_,_,rfl,rfl,.inr ⟨by decide,by decide⟩,_,_,rfl,rfl,_,_,rfl,rfl,_,_,rfl,rfl,(by show(0:Int)<2147483543;decide),?_⟩;generalize hfirst:((fun i j=>V.int (i %j)) _ _:V)=vf;obtain⟨a1,e1,a2,a3⟩:∃a:Int,vf= .int a/\0<=a/\a<2147483543:=⟨_,hfirst.symm,qb _ (by decide),mod_lt _ (by decide)⟩;rw[e1];refine⟨_,rfl,_,rfl,_,_,rfl,rfl,.inl ⟨by omega,by omega⟩,_,rfl,_,_,rfl,rfl,.inl ⟨by decide,by decide⟩,_,rfl,_,_,rfl,rfl,.inr ⟨by omega,by omega⟩,_,_,rfl,rfl,_,rfl,_,_,rfl,rfl,.inl ⟨by decide,by decide⟩,_,_,rfl,rfl,_,_,rfl,rfl,_,_,rfl,rfl,(by show(0:Int)<2147483497;decide),?_⟩;generalize aaC:((fun i j=>V.int (i %j)) _ _:V)=vs;obtain⟨b1,f1,b2,b3⟩:∃a:Int,vs= .int a/\0<=a/\a<2147483497:=⟨_,aaC.symm,qb _ (by decide),mod_lt _ (by decide)⟩;rw[f1];refine⟨_,rfl,_,rfl,_,_,rfl,rfl,.inl ⟨by omega,by omega⟩,_,rfl,_,_,rfl,rfl,.inl ⟨by decide,by decide⟩,_,_,rfl,rfl,_,rfl,_,_,rfl,rfl,_,rfl,_,_,rfl,rfl,_,_,rfl,rfl,(by show(0:Int)<2147483489;decide),?_⟩;generalize aaA:((fun i j=>V.int (i %j)) _ _:V)=vt;obtain⟨c1',g1,c2,c3⟩:∃a:Int,vt= .int a/\0<=a/\a<2147483489:=⟨_,aaA.symm,qb _ (by decide),mod_lt _ (by decide)⟩;rw[g1];refine⟨_,rfl,_,_,rfl,rfl,.inr ⟨by decide,by decide⟩,_,rfl,_,_,rfl,rfl,q _ ?_⟩;have:=Aq b2 (show(0:Int)<=2147483489 by decide);omega
noncomputable def yF(K:W.Frag):Sp:=fun vs H Q _=>∃(tp bx:Addr) (ns:List Int) (m b:Int),vs=[.ref tp,.int m]/\dB K H tp bx ns b/\b<=1000000000/\0<m/\m<1000000000000000000000000000000/\
 ∀r H',0<=r->r<m->aD tp H H'->dB K H' tp bx ns (b+1)->Q (.int r) H'
theorem TX{f f1:Addr}{fd d1:ρ}(F:Fun K "_law_e_dip" "_law_e_dip" Vo f fd)(D1:bJ K mg "_law_e_stir" je ["cell","at"] f1 d1)(G1:FnOk P w K mg base CX0 1 f1 d1 ["cell","at"] (Eh K))(bY:mg "len"=none):
  FnOk P w K mg base CX0 2 f fd ["cup","many"] (yF K):=by
 refine F.cG ["cup","many","at","cell","found"] fun cdv A outer s H vs Q E hr h=> ?_;obtain⟨tp,bx,ns,m,b,rfl,hC,hb,hm0,hm1,q⟩:=h;refine bA ?_;intro Y;refine⟨_,(aM (fJ (dO op_lt (aP kJ (pv 0) aB) (pv 1)) (aM (pS 2 (aP kJ (pv 0) aB)) (aM (pS 3 (bK nA (bK rB aB (pv 2)) aB)) (aM (fJ (dO op_lt (pv 2) (pB vg bY (aj (aP kJ (pv 0) aB) ak))) (aX (pS 3 (aP kJ (aP kJ (pv 0) aB) (pv 2)))) (aX (fJ (dO op_gt (pB vg bY (aj (aP kJ (pv 0) aB) ak)) aB) (aX (pS 3 (bK nA (bK op_mod (aP kJ (aP kJ (pv 0) aB) (bK op_mod (bK nA (bK rB aB (pv 2)) aB) (pB vg bY (aj (aP kJ (pv 0) aB) ak)))) aB) (bK rB (pv 2) aB)))) gC))) (aM (ps_asg (bK nA (pv 2) aB) (pg_sub (pv 0) aB set_list)) (aX (ps_asg (pc G1 hr D1 (aj (pv 3) (aj (pv 2) ak))) (pg_sub (pv 0) aB set_list))))))) gC) (aM (pS 4 (bK op_mod (aP kJ (pv 0) aB) (pv 1))) (aM (ps_asg (bK oE (aP kJ (pv 0) aB) (pv 1)) (pg_sub (pv 0) aB set_list)) (aX (bM (pv 4)))))),?_⟩;refine vM ?_;intro c4 c3 c2;obtain⟨⟨⟨i,r,hH,hi,hr0⟩,hS0,h63⟩,i',r',hH',hle⟩:=hC;have ei:i'=i/\r'=r:=by
  rw[hH]at hH';injection hH' with e1
  injection e1 with e2
  injection e2 with _ e3
  injection e3 with e4 e5
  injection e5 with e6 _
  injection e4 with e4
  injection e6 with e6
  exact⟨e4.symm,e6.symm⟩
 obtain⟨rfl,rfl⟩:=ei;have hS:=hS0.sq;refine⟨_,rfl,tp,_,_,.int r',rfl,rfl,SqL.of hH,rfl,_,rfl,_,_,rfl,rfl,_,rfl,?_⟩;refine ite2 (fun c=> ?_) (fun c=> ?_)
 ·refine⟨_,rfl,tp,_,_,.int i',rfl,rfl,SqL.of hH,rfl,?_⟩;refine⟨_,rfl,_,_,rfl,rfl,.inl ⟨by decide,by decide⟩,_,_,rfl,rfl,?_⟩;refine⟨_,rfl,_,rfl,tp,_,_,.ref bx,rfl,rfl,SqL.of hH,rfl,bx,_,rfl,.inl hS,fun hz=>⟨_,_,rfl,rfl,_,rfl,?_⟩⟩;have go:∀r2,0<=r2->∀q',q'=r2/m->
    ((0:Int)<=r2 %m/\r2 %m<m)/\aD tp H (upd (upd (upd H tp (.lst [.ref bx,.int (i'+1),.int r'])) tp (.lst [.ref bx,.int (i'+1),.int r2])) tp (.lst [.ref bx,.int (i'+1),.int q']))/\
    dB K (upd (upd (upd H tp (.lst [.ref bx,.int (i'+1),.int r'])) tp (.lst [.ref bx,.int (i'+1),.int r2])) tp (.lst [.ref bx,.int (i'+1),.int q'])) tp bx ns (b+1):=fun r2 h0 q' hq=>by
   have sx:aD tp H (upd (upd (upd H tp (.lst [.ref bx,.int (i'+1),.int r'])) tp (.lst [.ref bx,.int (i'+1),.int r2])) tp (.lst [.ref bx,.int (i'+1),.int q'])):=(aD.refl _ _).upd.upd.upd;have hq0:0<=q':=by rw[hq];exact weo h0 (by omega)
   exact⟨⟨qb _ hm0,mod_lt _ hm0⟩,sx,⟨⟨i'+1,q',aA,by omega,hq0⟩,hS0.lU sx hH,h63⟩,i'+1,q',aA,by omega⟩
  refine ite2 (fun c2=> ?_) (fun c2=> ?_)
  ·have c3:i'<((ns.map V.int).length:Int):=cR c2;rw[aH]at c3;obtain⟨v,hx,_⟩:=FQ hi c3;refine⟨_,rfl,tp,_,_,.ref bx,rfl,rfl,SqL.of hH,rfl,_,rfl,bx,_,_,_,rfl,rfl,hS,hx,?_⟩;refine⟨_,rfl,_,_,rfl,rfl,_,rfl,tp,_,_,1,rfl,rfl,hH,rfl,?_⟩;refine⟨_,rfl,_,rfl,_,_,rfl,hi,by omega,fun r2 h0=>⟨_,rfl,tp,_,_,2,rfl,rfl,aA,rfl,?_⟩⟩;obtain⟨⟨g1,g2⟩,g3,g4⟩:=go r2 h0 _ rfl;refine⟨_,rfl,tp,_,_,.int r2,rfl,rfl,SqL.of aA,rfl,_,rfl,_,_,rfl,rfl,hm0,?_⟩;refine⟨_,rfl,tp,_,_,.int r2,rfl,rfl,SqL.of aA,rfl,_,rfl,_,_,rfl,rfl,⟨hm0,hm1⟩,_,rfl,tp,_,_,2,rfl,rfl,aA,rfl,?_⟩;exact⟨_,rfl,q _ _ g1 g2 g3 g4⟩
  ·refine⟨_,rfl,tp,_,_,.ref bx,rfl,rfl,SqL.of hH,rfl,bx,_,rfl,.inl hS,fun hz2=>⟨_,_,rfl,rfl,_,rfl,?_⟩⟩;refine ite2 (fun c4=> ?_) (fun c4=> ?_)
   ·have e3:(0:Int)<((ns.map V.int).length:Int):=cR c4;have hk1:=qb (5*i'+2) e3;have hk2:=mod_lt (5*i'+2) e3;rw[aH]at hk1 hk2;obtain⟨v,hx,_⟩:=FQ hk1 hk2;rw[<-aH (f:=V.int)]at hx;refine⟨_,rfl,tp,_,_,.ref bx,rfl,rfl,SqL.of hH,rfl,_,rfl,_,_,rfl,rfl,.inl ⟨by decide,by decide⟩,_,_,rfl,rfl,_,rfl,tp,_,_,.ref bx,rfl,rfl,SqL.of hH,rfl,bx,_,rfl,.inl hS,fun hz2=>⟨_,_,rfl,rfl,e3,bx,_,_,_,rfl,rfl,hS,hx,?_⟩⟩;refine⟨_,_,rfl,rfl,(by show(0:Int)<777777769;decide),_,rfl,_,_,rfl,rfl,.inr ⟨by decide,by decide⟩,_,_,rfl,rfl,?_⟩;refine⟨_,rfl,_,_,rfl,rfl,_,rfl,tp,_,_,1,rfl,rfl,hH,rfl,?_⟩;refine⟨_,rfl,_,rfl,_,_,rfl,hi,by omega,fun r2 h0=>⟨_,rfl,tp,_,_,2,rfl,rfl,aA,rfl,?_⟩⟩;obtain⟨⟨g1,g2⟩,g3,g4⟩:=go r2 h0 _ rfl;refine⟨_,rfl,tp,_,_,.int r2,rfl,rfl,SqL.of aA,rfl,_,rfl,_,_,rfl,rfl,hm0,?_⟩;refine⟨_,rfl,tp,_,_,.int r2,rfl,rfl,SqL.of aA,rfl,_,rfl,_,_,rfl,rfl,⟨hm0,hm1⟩,_,rfl,tp,_,_,2,rfl,rfl,aA,rfl,?_⟩;exact⟨_,rfl,q _ _ g1 g2 g3 g4⟩
   ·refine⟨_,rfl,_,_,rfl,rfl,_,rfl,tp,_,_,1,rfl,rfl,hH,rfl,?_⟩;refine⟨_,rfl,_,rfl,_,_,rfl,hi,by omega,fun r2 h0=>⟨_,rfl,tp,_,_,2,rfl,rfl,aA,rfl,?_⟩⟩;obtain⟨⟨g1,g2⟩,g3,g4⟩:=go r2 h0 _ rfl;refine⟨_,rfl,tp,_,_,.int r2,rfl,rfl,SqL.of aA,rfl,_,rfl,_,_,rfl,rfl,hm0,?_⟩;refine⟨_,rfl,tp,_,_,.int r2,rfl,rfl,SqL.of aA,rfl,_,rfl,_,_,rfl,rfl,⟨hm0,hm1⟩,_,rfl,tp,_,_,2,rfl,rfl,aA,rfl,?_⟩;exact⟨_,rfl,q _ _ g1 g2 g3 g4⟩
 ·refine⟨_,rfl,tp,_,_,.int r',rfl,rfl,SqL.of hH,rfl,_,rfl,_,_,rfl,rfl,hm0,?_⟩;refine⟨_,rfl,tp,_,_,.int r',rfl,rfl,SqL.of hH,rfl,_,rfl,_,_,rfl,rfl,⟨hm0,hm1⟩,_,rfl,tp,_,_,2,rfl,rfl,hH,rfl,?_⟩;have sx:aD tp H (upd H tp (.lst [.ref bx,.int i',.int (r'/m)])):=(aD.refl _ _).upd;have hq0:0<=r'/m:=weo hr0 (by omega);exact⟨_,rfl,q _ _ (qb _ hm0) (mod_lt _ hm0) sx ⟨⟨⟨i',r'/m,aA,hi,hq0⟩,hS0.lU sx hH,h63⟩,i',r'/m,aA,by omega⟩⟩
end
end Hs
namespace o9
open PySem L2
theorem qW.lU{K:W.Frag}{t:Addr}{H H':Hp}{zs:List V}{a:Addr}{n:Int}{ts:L0}(h:qW K H a n ts)(e:aD t H H')(hn:H t=some (.lst zs)):qW K H' a n ts:=by
 obtain⟨u,rs,h1,h2,h3⟩:=h;exact⟨u,rs,e.tup hn h1,e.tup hn h2,gJ e hn h3⟩
theorem Tc{p q:Int×Int}(h:pl p=pl q):p=q:=by
 obtain⟨a,b⟩:=p;obtain⟨c,d⟩:=q;unfold pl at h;simp at h;rw[h.1,h.2]
theorem KY{a b:List Int}(h:HT.lexLt b a=false)(ne:a≠b):HT.lexLt a b=true:=by
 rw[HT.bR]at h⊢;have h1:¬b<a:=Gj h;have h2:a<=b:=List.not_lt.mp h1;refine cI ?_;rcases Classical.em (a<b)with h3|h3
 ·exact h3
 ·exact absurd (List.le_antisymm h2 (List.not_lt.mp h3)) ne
theorem Jj{n:Int}{p:Int×Int}(h0:0<=p.1)(h1:p.1<p.2)(h2:p.2<n):mj n (pairD p)=true:=by
 show((bQ n (.int p.1)&&(bQ n (.int p.2)&&true))&&fj [p.1,p.2]&&decide (([PyData.int p.1,PyData.int p.2]).length=2))=true;have e1:bQ n (.int p.1)=true:=by
  show(decide (0<=p.1)&&decide (p.1<n))=true;rw[cI h0,cI (by omega)];rfl
 have e2:bQ n (.int p.2)=true:=by
  show(decide (0<=p.2)&&decide (p.2<n))=true;rw[cI (by omega),cI h2];rfl
 have e3:fj [p.1,p.2]=true:=by
  show(decide (p.1<p.2)&&true)=true;rw[cI h1];rfl
 rw[e1,e2,e3];rfl
theorem Bb{n:Int}{ts:L0}(hn0:0<=n)(hn1:n<=10)(h:aG n ts)(hs:ts.Pairwise fun p q=>HT.lexLt (pl q) (pl p)=false):uL (iT n ts)=true:=by
 show(true&&(decide (0<=n)&&decide (n<=10))&&((ts.map pairD).all (mj n)&&dU ((ts.map pairD).map fun t=>(kids t).map intD)))=true;have e1:(ts.map pairD).all (mj n)=true:=by
  rw[Vr,pH];intro p hp;obtain⟨h0,h1,h2⟩:=h.lt p hp;exact Jj h0 h1 h2
 have e2:(ts.map pairD).map (fun t=>(kids t).map intD)=ts.map pl:=by rw[vh];rfl
 have e3:dU (ts.map pl)=true:=by
  unfold dU;rw[pH];intro k hk;have hk':k<ts.length-1:=by simpa using hk
  have g1:(ts.map pl).getD k []=pl ts[k]:=by rw[iR,dY,eO (by omega)];rfl
  have g2:(ts.map pl).getD (k+1) []=pl ts[k+1]:=by rw[iR,dY,eO (by omega)];rfl
  rw[g1,g2];refine KY (Vy.mp hs k (k+1) (by omega) (by omega) (by omega)) fun e=> ?_;have:=(List.getElem_inj h.nd).mp (Tc e);omega
 rw[cI hn0,cI hn1,e1,e2,e3];rfl
end o9
namespace Hs
open PySem L2 o9
theorem iQ.Ig{p:Int×Int}(a:iQ p p):False:=by
 unfold iQ at a;omega
theorem eq_of_sorted:∀{l m:L0},l.Pairwise iQ->m.Pairwise iQ->(∀p,p∈l↔p∈m)->l=m
 |[],[],_,_,_=>rfl
 |[],q::m,_,_,h=>absurd ((h q).mpr (jx ..)) (by simp)
 |p::l,[],_,_,h=>absurd ((h p).mp (jx ..)) (by simp)
 |p::l,q::m,hl,hm,h=>by
  rw[QC]at hl hm;have e:p=q:=by
   rcases cW.mp ((h p).mp (jx ..))with e|e
   ·exact e
   rcases cW.mp ((h q).mpr (jx ..))with e'|e'
   ·exact e'.symm
   exact(iQ.Ig ((hl.1 _ e').trans (hm.1 _ e))).elim
  subst e;have:l=m:=eq_of_sorted hl.2 hm.2 (fun r=>by
   have hr:=h r;rw[cW,cW]at hr;constructor
   ·intro hi;rcases hr.mp (.inr hi)with e|e
    ·subst e;exact(iQ.Ig (hl.1 _ hi)).elim
    ·exact e
   ·intro hi;rcases hr.mpr (.inr hi)with e|e
    ·subst e;exact(iQ.Ig (hm.1 _ hi)).elim
    ·exact e)
  rw[this]
theorem yN(so:Int->Int->Bool)(i:Int)(k:Nat):row so i (k+1)=row so i k++(if so i (i+1+(k:Int))=true then[(i,i+1+(k:Int))]else[]):=by
 unfold row;rw[yh,cg,Dy];congr 1;show List.filter _ [(i,i+1+(k:Int))]=_;rw[Ax];rfl
theorem lg(so:Int->Int->Bool)(m:Int)(i:Nat):rows so m (i+1)=rows so m i++row so (0+(i:Int)) (m-(0+(i:Int)+1)).toNat:=by
 unfold rows;rw[yh,cg,List.flatten_append];simp
theorem rM{so:Int->Int->Bool}{i:Int}{k:Nat}{p:Int×Int}:p∈row so i k↔p.1=i/\i<p.2/\p.2<i+1+(k:Int)/\so p.1 p.2=true:=by
 unfold row;rw[eN,iK];constructor
 ·rintro⟨⟨t,ht,rfl⟩,h⟩;rw[pJ]at ht;exact⟨rfl,by show i<i+1+(t:Int);omega,by show i+1+(t:Int)<_;omega,h⟩
 ·rintro⟨h1,h2,h3,h4⟩;refine⟨⟨(p.2-i-1).toNat,by rw[pJ];omega,?_⟩,h4⟩;apply Prod.ext
  ·exact h1.symm
  ·show i+1+(((p.2-i-1).toNat:Nat):Int)=p.2;omega
theorem Ng{so:Int->Int->Bool}{m:Int}:∀{i:Nat} {p:Int×Int},p∈rows so m i↔0<=p.1/\p.1<(i:Int)/\p.1<p.2/\p.2<m/\so p.1 p.2=true
 |0,p=>by
  constructor
  ·intro h;simp[rows]at h
  ·intro h;omega
 |i+1,p=>by
  rw[lg,pL,Ng (i:=i),rM];constructor
  ·rintro(h|h)
   ·exact⟨h.1,by omega,h.2.2⟩
   ·exact⟨by omega,by omega,by omega,by omega,h.2.2.2⟩
  ·rintro⟨h1,h2,h3,h4,h5⟩;by_cases e:p.1<(i:Int)
   ·exact .inl ⟨h1,e,h3,h4,h5⟩
   ·exact .inr ⟨by omega,by omega,by omega,h5⟩
theorem sX(so:Int->Int->Bool)(i:Int)(k:Nat):(row so i k).Pairwise iQ:=by
 unfold row;refine List.Pairwise.filter _ ?_;rw[Nr];exact Zz.imp fun h=> .inr ⟨rfl,by show i+1+_<i+1+_;omega⟩
theorem Rw(so:Int->Int->Bool)(m:Int):∀i:Nat,(rows so m i).Pairwise iQ
 |0=>by unfold rows;exact List.Pairwise.nil
 |i+1=>by
  rw[lg,Wm];refine⟨Rw so m i,sX so _ _,fun p hp q hq=> ?_⟩;rw[Ng]at hp;rw[rM]at hq;exact .inl (by omega)
theorem En{so:Int->Int->Bool}{m:Int}{i:Nat}:aG m (rows so m i):=
 ⟨(Rw so m i).imp fun h e=>by subst e;exact iQ.Ig h,fun p hp=>by rw[Ng]at hp;exact⟨hp.1,hp.2.2.1,hp.2.2.2.1⟩⟩
theorem pZ{l:L0}(h:l.Pairwise iQ):l.Nodup:=h.imp fun h e=>by subst e;exact iQ.Ig h
theorem aJ.lU{K:W.Frag}{H H':Hp}{t a:Addr}{zs:List V}{n:Int}{ts:L0}(h:aJ K H a n ts)(e:aD t H H')(hn:H t=some (.lst zs)):aJ K H' a n ts:=⟨h.web.lU e hn,h.h0,h.h1,h.pk,h.ok⟩
noncomputable def tt(_ _:Int):Bool:=true
theorem Fg{p q:Int×Int}(h:iQ p q):HT.lexLt (pl q) (pl p)=false:=by
 rw[HT.bR];refine jK fun z=> ?_;have:iQ q p:=Fi (by rw[HT.bR];exact cI z);exact iQ.Ig (h.trans this)
theorem Bc{n:Int}{ts:L0}{i:Nat}(h0:0<=n)(h1:n<=10)(h:ts.Sublist (rows tt n i)):aG n ts/\zY n ts:=by
 have hs:ts.Pairwise iQ:=(Rw tt n i).sublist h;have ho:aG n ts:=⟨pZ hs,fun p hp=>(En (so:=tt) (m:=n) (i:=i)).lt p (h.subset hp)⟩;exact⟨ho,Bb h0 h1 ho (hs.imp Fg)⟩
theorem Rq{xs:List Int}{i:Int}(h0:0<=i)(h1:i<(xs.length:Int)):atI (xs.map V.int) i=some (.int (xs.getD i.toNat 0)):=by
 have hk:i.toNat<xs.length:=by omega
 have ek:((i.toNat:Nat):Int)=i:=by omega
 have q:atI (xs.map V.int) ((i.toNat:Nat):Int)=some (.int (xs.getD i.toNat 0)):=HN (by rw[dY,eO hk,iR,eO hk];rfl);rw[ek]at q;exact q
theorem gP.push{K:W.Frag}{H:Hp}{l p:Addr}{R:L0}{P:Int×Int->Prop}{i j:Int}{rs:List V}{ts:L0}(h1:H l=some (.lst rs))(h2:cO K H rs (ts.map pairD))(h3:ts.Sublist R)(h4:∀p∈ts,P p)(hp:SqT K H p [.int i,.int j])(hP:P (i,j)):gP K (upd H l (.lst (rs++[.ref p]))) l (R++[(i,j)]) P:=by
 have x:aD l H (upd H l (.lst (rs++[.ref p]))):=(aD.refl _ _).upd;refine⟨_,ts++[(i,j)],aA,?_,h3.append (List.Sublist.refl _),fun q hq=> ?_⟩
 ·rw[cg];exact(gJ x h1 h2).append (.cons (.tup (x.tup h1 hp) (.cons (.int _) (.cons (.int _) .nil))) .nil)
 ·rcases pL.mp hq with q'|q'
  ·exact h4 q q'
  ·rw[kO.mp q'];exact hP
theorem sub_len{n:Int}{ts:L0}{i k:Nat}(h1:n<=10)(hk:0+(i:Int)+1+(k:Int)<=n)(h:ts.Sublist (rows tt n i++row tt (0+(i:Int)) k)):ts.length<=45:=by
 refine pairs_len (n:=n) ⟨?_,fun p hp=> ?_⟩ h1
 ·refine pZ (List.Pairwise.sublist h ?_);rw[Wm];refine⟨Rw _ _ _,sX _ _ _,fun p hp q hq=> ?_⟩;rw[Ng]at hp;rw[rM]at hq;exact .inl (by omega)
 ·rcases pL.mp (h.subset hp)with q|q
  ·rw[Ng]at q;exact⟨q.1,q.2.2.1,q.2.2.2.1⟩
  ·rw[rM]at q;exact⟨by omega,by omega,by omega⟩
section
variable{P:ξ}{w:τ}{K:W.Frag}{mg:L4}{base:Heap}
noncomputable def DR(K:W.Frag):Sp:=fun vs H Q _=>∃(cp bx:Addr) (ns:List Int) (n b:Int),vs=[.ref cp,.int n]/\dB K H cp bx ns b/\b<=900000000/\0<=n/\n<=10/\
 ∀r ts H',aD cp H H'->dB K H' cp bx ns (b+120)->aJ K H' r n ts->Q (.ref r) H'
theorem Kd{f f1:Addr}{fd d1:ρ}(F:Fun K "_law_e_web_of" "_law_e_web_of" fM f fd)(D1:bJ K mg "_law_e_dip" Vo ["cup","many"] f1 d1)(G1:FnOk P w K mg base CX0 2 f1 d1 ["cup","many"] (yF K))(aN:mg "range"=none)(aL:mg "tuple"=none):
  FnOk P w K mg base CX0 3 f fd ["cup","n"] (DR K):=by
 refine F.cG ["cup","n","often","ties","i","j"] fun cdv A outer s H vs Q E hr h=> ?_;obtain⟨cp,bx,ns,n,b,rfl,hC,hb,hn0,hn1,q⟩:=h;refine⟨_,(aM (pS 2 (pc G1 hr D1 (aj (pv 0) (aj aB ak)))) (aM (pS 3 (pe_lst ak)) (aM (ps_for Iw rfl (HW rfl aN (aj (pv 1) ak)) (pG 4) (aX (ps_for Iw rfl (pi_range2 rfl aN (aj (bK nA (pv 4) aB) (aj (pv 1) ak))) (pG 5) (aX (fJ (dO op_lt (pc G1 hr D1 (aj (pv 0) (aj aB ak))) (pv 2)) (aX (lY (pe_bm VL wdq wdr mt_append (pv 3) (aj (fu (aj (pv 4) (aj (pv 5) ak))) ak)))) gC))))) (aX (bM (fu (aj (pv 1) (aj (pT Du aL (aj (pv 3) ak)) ak)))))))),?_⟩;refine⟨_,rfl,cp,bx,ns,7,b,rfl,hC,by omega,by decide,by decide,fun o H1 ho0 ho1 x1 c1=> ?_⟩;refine⟨(by show 0<=sizeLine;decide),fun tl htl=> ?_⟩;obtain⟨zs,hz⟩:=c1.lst;have s2:=aK htl (.lst []);have ntc:tl≠cp:=dF hz htl;have tl0:H tl=none:=x1.free ntc htl;refine⟨_,rfl,n,rfl,by omega,by omega,?_⟩;refine Qx (n:=n.toNat) (fun i σ H'=>aD cp H H'/\dB K H' cp bx ns (b+1+10*(i:Int))/\gP K H' tl (rows tt n i) (fun _=>True)/\∃a4 a5,σ=[some (.ref cp),some (.int n),some (.int o),some (.ref tl),a4,a5])
  ⟨x1.trans (s2.x _),(c1.same s2).mono (by omega),gP.nil aA,_,_,rfl⟩ (fun i σ H' hi p=> ?_) (fun σ H' p=> ?_)
 ·obtain⟨x,c,tl1,a4,a5,rfl⟩:=p;refine⟨_,rfl,_,_,rfl,rfl,_,rfl,_,_,rfl,⟨by omega,by omega,by omega,by omega⟩,?_⟩;refine Qx (n:=(n-(0+(i:Int)+1)).toNat) (fun k σ H'=>aD cp H H'/\dB K H' cp bx ns (b+1+10*(i:Int)+(k:Int))/\gP K H' tl (rows tt n i++row tt (0+(i:Int)) k) (fun _=>True)/\∃a5,σ=[some (.ref cp),some (.int n),some (.int o),some (.ref tl),some (.int (0+(i:Int))),a5])
   ⟨x,c.mono (by omega),by rw[show row tt (0+(i:Int)) 0=[]from rfl,Aw];exact tl1,_,rfl⟩ (fun k σ H' hk p=> ?_) (fun σ H' p=> ?_)
  ·obtain⟨x,c,tl1,a5,rfl⟩:=p;refine⟨_,rfl,cp,bx,ns,6,_,rfl,c,by omega,by decide,by decide,fun d H2 hd0 hd1 x2 c2=>⟨_,rfl,_,_,rfl,rfl,_,rfl,?_⟩⟩;obtain⟨zs,hz⟩:=c.lst;have tl2:=tl1.step x2 hz ntc;have er:rows tt n i++row tt (0+(i:Int)) (k+1)=(rows tt n i++row tt (0+(i:Int)) k)++[(0+(i:Int),0+(i:Int)+1+(k:Int))]:=by rw[yN,au (show tt _ _=true from rfl),wdj]
   have ec:b+1+10*(i:Int)+((k+1:Nat):Int)=b+1+10*(i:Int)+(k:Int)+1:=by omega
   rw[er,ec];refine ite2 (fun cc=> ?_) (fun cc=> ?_)
   ·obtain⟨rs,ts,h1,h2,h3,h4⟩:=tl2;have hl:=sub_len hn1 (by omega) h3;have hrl:=h2.len;rw[aH]at hrl;refine⟨_,rfl,.inl ⟨rfl,_,SqL.of h1⟩,_,rfl,_,rfl,(by show 2<=sizeLine;decide),fun p hp=> ?_⟩;have s3:=aK hp (.tup [.int (0+(i:Int)),.int (0+(i:Int)+1+(k:Int))]);refine⟨tl,rs,_,rfl,rfl,s3 _ _ h1,(by rw[iz];omega),?_⟩;have xw:aD tl (upd H2 p (.tup [.int (0+(i:Int)),.int (0+(i:Int)+1+(k:Int))])) (upd (upd H2 p (.tup [.int (0+(i:Int)),.int (0+(i:Int)+1+(k:Int))])) tl (.lst (rs++[.ref p]))):=(aD.refl _ _).upd;refine⟨fun q o hq e=> ?_,(c2.same s3).other xw (s3 _ _ h1) ntc.symm,gP.push (s3 _ _ h1) (h2.same s3) h3 h4 (SqT.of aA) trivial,_,rfl⟩;have nq:q≠tl:=fun z=>by rw[z,tl0]at e;cases e
    exact xw _ _ nq (s3 _ _ (x2 _ _ hq (x _ _ hq e)))
   ·exact⟨x.trans x2,c2,tl2.mono (List.sublist_append_left _ _),_,rfl⟩
  ·obtain⟨x,c,tl1,a5,rfl⟩:=p;rw[<-lg]at tl1;exact⟨x,c.mono (by omega),tl1,_,_,rfl⟩
 ·obtain⟨x,c,⟨rs,ts,h1,h2,h3,h4⟩,a4,a5,rfl⟩:=p;refine⟨_,rfl,_,rfl,tl,rs,rfl,.inl ⟨SqL.of h1,fun t ht=>⟨(by show 2<=sizeLine;decide),fun wb zy=> ?_⟩⟩⟩;have s3:=aK ht (.tup rs);have s4:=aK zy (.tup [.int n,.ref t]);have s34:=s3.trans s4;obtain⟨g1,g2⟩:=Bc hn0 hn1 h3;exact q wb ts _ (x.trans (s34.x _)) ((c.same s34).mono (by omega)) ⟨⟨t,rs,SqT.of aA,SqT.of (s4 _ _ aA),h2.same s34⟩,hn0,hn1,g1,g2⟩
noncomputable def JH(K:W.Frag):Sp:=fun vs H Q _=>∃(cp bx:Addr) (ns:List Int) (m b:Int),vs=[.ref cp,.int m]/\dB K H cp bx ns b/\b<=800000000/\0<=m/\m<=10/\
 ∀r n ts H',aD cp H H'->dB K H' cp bx ns (b+121)->aJ K H' r n ts->Q (.ref r) H'
theorem Pb{f f1 f2:Addr}{fd d1 d2:ρ}(F:Fun K "_law_e_web" "_law_e_web" jP f fd)(D1:bJ K mg "_law_e_dip" Vo ["cup","many"] f1 d1)(G1:FnOk P w K mg base CX0 2 f1 d1 ["cup","many"] (yF K))(D2:bJ K mg "_law_e_web_of" fM ["cup","n"] f2 d2)(G2:FnOk P w K mg base CX0 3 f2 d2 ["cup","n"] (DR K)):
  FnOk P w K mg base CX0 4 f fd ["cup","most"] (JH K):=by
 refine F.cG ["cup","most","n"] fun cdv A outer s H vs Q E hr h=> ?_;obtain⟨cp,bx,ns,m,b,rfl,hC,hb,hm0,hm1,q⟩:=h;refine⟨_,(aM (pS 2 (pc G1 hr D1 (aj (pv 0) (aj (bK nA (pv 1) aB) ak)))) (aX (bM (pc G2 hr D2 (aj (pv 0) (aj (pv 2) ak)))))),?_⟩;refine⟨_,rfl,_,rfl,_,_,rfl,rfl,cp,bx,ns,_,b,rfl,hC,by omega,by omega,by omega,fun o H1 ho0 ho1 x1 c1=> ?_⟩;refine⟨_,rfl,_,rfl,cp,bx,ns,o,b+1,rfl,c1,by omega,ho0,by omega,fun r ts H2 x2 c2 W=>q r o ts H2 (x1.trans x2) (c2.mono (by omega)) W⟩
end
theorem yM{so:Int->Int->Bool}{m:Int}{i:Nat}:(rows tt m i).filter (fun p=>so p.1 p.2)=rows so m i:=by
 refine eq_of_sorted ((Rw _ _ _).filter _) (Rw _ _ _) fun p=> ?_;rw[eN,Ng,Ng];constructor
 ·rintro⟨⟨a,b,c,d,_⟩,e⟩;exact⟨a,b,c,d,e⟩
 ·rintro⟨a,b,c,d,e⟩;exact⟨⟨a,b,c,d,rfl⟩,e⟩
section
variable{P:ξ}{w:τ}{K:W.Frag}{mg:L4}{base:Heap}
structure YW(K:W.Frag)(H:Hp)(l:Addr)(ps:L0):Prop where
 ex:∃rs,H l=some (.lst rs)/\cO K H rs (ps.map pairD)
noncomputable def JL(K:W.Frag):Sp:=fun vs H Q _=>∃(n:Int),vs=[.int n]/\0<=n/\n<=10/\∀l H',Same H H'->YW K H' l (rows tt n n.toNat)->Q (.ref l) H'
theorem Pg{f:Addr}{fd:ρ}(F:Fun K "pairs" "pairs" wA f fd)(mR:mg "range"=none):FnOk P w K mg base CX0 1 f fd ["n"] (JL K):=by
 refine F.cG ["n","found","one"] fun cdv A outer s H vs Q E hr h=> ?_;obtain⟨n,rfl,hn0,hn1,q⟩:=h;refine bA ?_;intro Y;refine⟨_,aM (pS 1 (pe_lst ak)) (aM (ps_for Iw rfl (HW rfl mR (aj (pv 0) ak)) (pG 2) (aX (lY (pe_bm VL PySem.F.slot_list_extend PySem.F.type_list_extend mt_extend (pv 1) (aj
    (pK ["other"] ["one"] [2] (pi_range2 rfl mR (aj (bK nA (pv 2) aB) (aj (pv 0) ak))) (pG 0) pD (fu (aj (pv 1) (aj (pv 0) ak)))) ak))))) (aX (bM (pv 1)))),?_⟩
 refine oN ?_;intro c3 c2;refine⟨(by show 0<=sizeLine;decide),fun l hl=> ?_⟩;refine⟨_,rfl,n,rfl,by omega,by omega,?_⟩;let mZ:Nat->St->Hp->Prop:=fun i σ H'=>Same H H'/\(∃rs,H' l=some (.lst rs)/\cO K H' rs ((rows tt n i).map pairD))/\∃o,σ=[some (.int n),some (.ref l),o];refine Qx (n:=n.toNat) mZ ⟨aK hl _,⟨[],aA,.nil⟩,_,rfl⟩ (fun i σ H' hi p=> ?_) (fun σ H' p=> ?_)
 ·obtain⟨sm,⟨rs,hr1,hr2⟩,o,rfl⟩:=p;have hlen:=hr2.len;rw[aH]at hlen;have Yc:=pairs_len (En (so:=tt) (m:=n) (i:=i)) hn1;refine⟨_,rfl,.inl ⟨rfl,_,SqL.of hr1⟩,_,rfl,_,_,rfl,rfl,_,rfl,_,_,rfl,⟨by omega,by omega,by omega,by omega⟩,?_⟩;let xQ:Nat->List V->St->Hp->Prop:=fun k acc σ H2=>Same H' H2/\acc.length=k/\cO K H2 acc ((row tt (0+(i:Int)) k).map pairD)/\∃o1,σ=[o1,some (.int (0+(i:Int)))];refine Qy (n:=(n-(0+(i:Int)+1)).toNat) xQ ⟨Same.refl _,rfl,.nil,_,rfl⟩ (fun k acc σ H2 hk p=>by rw[p.2.1];exact aR _) (by rw[iz];omega) (fun k acc σ H2 hk p=> ?_) (fun acc σ H2 p=> ?_)
  ·obtain⟨s2,hl2,hd,o1,rfl⟩:=p;refine⟨_,rfl,_,rfl,(by show 2<=sizeLine;decide),fun p hp=> ?_⟩;have s3:=aK hp (.tup [.int (0+(i:Int)),.int (0+(i:Int)+1+(k:Int))]);refine⟨s2.trans s3,by rw[rE,hl2];rfl,?_,_,rfl⟩;rw[yN,cg,au (show tt (0+(i:Int)) (0+(i:Int)+1+(k:Int))=true from rfl)];exact(hd.same s3).append (.cons (.tup (SqT.of aA) (.cons (.int _) (.cons (.int _) .nil))) .nil)
  ·intro p1 hp1;obtain⟨s2,hl2,hd,_⟩:=p;have s3:=aK hp1 (.lst acc);have V1:=s3 _ _ (s2 _ _ hr1);refine⟨l,p1,rs,acc,rfl,rfl,V1,aA,?_,?_⟩
   ·rw[iz];omega
   ·have x4:aD l (upd H2 p1 (.lst acc)) (upd (upd H2 p1 (.lst acc)) l (.lst (rs++acc))):=(aD.refl _ _).upd;refine⟨?_,⟨_,aA,?_⟩,_,rfl⟩
    ·intro b o hb;have nb:b≠l:=fun e=>by rw[e,hl]at hb;cases hb
     exact x4 _ _ nb (s3 _ _ (s2 _ _ (sm _ _ hb)))
    ·rw[lg];exact gJ x4 V1 (by rw[cg];exact((hr2.same s2).same s3).append (hd.same s3))
 ·obtain⟨sm,⟨rs,hr1,hr2⟩,o,rfl⟩:=p;exact⟨_,rfl,q l _ sm ⟨rs,hr1,hr2⟩⟩
theorem zL{so:Int×Int->Bool}{ps:L0}{i:Nat}(hi:i<ps.length):(ps.take (i+1)).filter so=(ps.take i).filter so++(if so ps[i]=true then[ps[i]]else[]):=by
 rw[vX,eO hi,Dy];congr 1;show List.filter so [ps[i]]=_;rw[Ax];rfl
end
theorem iI.gD{n:Int}{xs:List Int}(h:iI n xs):o9.gD n (.tuple (xs.map PyData.int))=true:=by
 unfold o9.gD;rw[lZ];refine⟨?_,?_⟩
 ·rw[Vr,pH];intro x hx;have:=h.lt x hx;show(decide (0<=x)&&decide (x<n))=true;rw[cI this.1,cI this.2];rfl
 ·rw[vh];have e:xs.map (intD∘PyData.int)=xs:=(Nu fun x _=>rfl).trans (List.map_id xs);rw[e];unfold fj;rw[pH];intro k hk;rw[pJ]at hk;have h2:=Vy.mp h.v9 k (k+1) (by omega) (by omega) (by omega);have g:∀j,(hj:j<xs.length)->xs.getD j 0=xs[j]:=fun j hj=>by rw[iR,eO hj];rfl
  rw[g k (by omega),g (k+1) (by omega)];exact cI h2
noncomputable def Sq(xs:List Int)(ts:L0)(i j:Int):Bool:=mW ts (xs.getD i.toNat 0) (xs.getD j.toNat 0)
section
variable{P:ξ}{w:τ}{K:W.Frag}{mg:L4}{base:Heap}
noncomputable def Q7(K:W.Frag):Sp:=fun vs H Q _=>∃(a sm:Addr) (n:Int) (ts:L0) (xs:List Int),vs=[.ref a,.ref sm]/\aJ K H a n ts/\SqT K H sm (xs.map V.int)/\iI n xs/\
 ∀r H',Same H H'->qW K H' r (xs.length:Int) (rows (Sq xs ts) (xs.length:Int) (xs.length:Int).toNat)->Q (.ref r) H'
theorem TY{f f1 f2 f3 f4:Addr}{fd d1 d2 d3 d4:ρ}(F:Fun K "cut_down" "cut_down" mH f fd)(D1:bJ K mg "need_web" Nj ["thing"] f1 d1)(G1:FnOk P w K mg base CX0 7 f1 d1 ["thing"] (dh K))(D2:bJ K mg "need_set" iZ ["web","thing"] f2 d2)(G2:FnOk P w K mg base CX0 5 f2 d2 ["web","thing"] (kZ K))(D3:bJ K mg "pairs" wA ["n"] f3 d3)(G3:FnOk P w K mg base CX0 1 f3 d3 ["n"] (JL K))(D4:bJ K mg "has_tie" fH ["web","one","other"] f4 d4)(G4:FnOk P w K mg base CX0 1 f4 d4 ["web","one","other"] (vH K))(mT:mg "tuple"=none)(mL:mg "len"=none):
  FnOk P w K mg base CX0 8 f fd ["web","some"] (Q7 K):=by
 refine F.cG ["web","some","kept"] fun cdv A outer s H vs Q E hr h=> ?_;obtain⟨a,sm,n,ts,xs,rfl,hA,hX,hok,q⟩:=h;refine⟨_,aM (lY (pc G1 hr D1 (aj (pv 0) ak))) (aM (lY (pc G2 hr D2 (aj (pv 0) (aj (pv 1) ak)))) (aM (pX 2 ["i","j"] ["web","some"] [0,1] (Ag (pc G3 hr D3 (aj (pB vg mL (aj (pv 1) ak)) ak))) (HS K (n:=2) rfl (nF (pG 0) (nF (pG 1) Ai))) (Ak (nJ (pc G4 hr D4 (aj (pv 2) (aj (aP (Ah K) (pv 3) (pv 0)) (aj (aP (Ah K) (pv 3) (pv 1)) ak)))))) (fu (aj (pv 0) (aj (pv 1) ak)))) (aX (bM (fu (aj (pB vg mL (aj (pv 1) ak)) (aj (pT Du mT (aj (pv 2) ak)) ak))))))),?_⟩;have hA1:=hA.h1;have h10:=hok.len hA1;refine⟨_,rfl,_,_,rfl,hA.web.dv.dx,hA.ok,fun H1 s1=> ?_⟩;obtain⟨ta,ra,a1,a2,a3⟩:=id (hA.same s1).web;have hDX:DX K H1 (.ref sm) (.tuple (xs.map PyData.int)):=(DV.tup (s1.tup hX) (cO.ints xs)).dx;refine⟨_,rfl,_,rfl,a,n,_,_,_,rfl,a1,hDX,hok.gD,fun H2 s2=> ?_⟩;have s12:=s1.trans s2;refine⟨_,rfl,sm,_,rfl,.inr (s12.tup hX),fun _=>⟨_,rfl,by omega,by rw[aH];omega,fun l H3 s3 p1=> ?_⟩⟩;rw[aH]at p1;obtain⟨rs,e1,v1⟩:=p1.ex;refine⟨l,rs,rfl,SqL.of e1,fun hz=> ?_⟩;have hlen:=v1.len;rw[aH]at hlen;have nH:=s12.trans s3;generalize hR:rows tt (xs.length:Int) (xs.length:Int).toNat=R at *;have hR':∀p∈R,0<=p.1/\p.1<p.2/\p.2<(xs.length:Int):=fun p hp=>by rw[<-hR,Ng]at hp;exact⟨hp.1,hp.2.2.1,hp.2.2.2.1⟩
 refine Am (xs:=rs) (fun i acc σ H'=>Same H3 H'/\acc.length<=i/\cO K H' acc ((R.take i).filter (fun p=>Sq xs ts p.1 p.2)|>.map pairD)/\∃o1 o2,σ=[o1,o2,some (.ref a),some (.ref sm)]) ⟨Same.refl _,aR _,.nil,_,_,rfl⟩ (fun i acc σ H' _ p=>p.1.seq (SqL.of e1)) (fun i acc σ H' hi p=>p.2.1) hz (fun i x acc σ H' hx p=> ?_) (fun acc σ H' p=> ?_)
 ·obtain⟨sm',hl,hd,o1,o2,rfl⟩:=p;obtain⟨t,hi,rfl,ht⟩:=Es v1 hx;have sA:=nH.trans sm';have hb:=hR' _ (Ay hi);refine⟨t,_,rfl,sm'.tup ht,rfl,_,_,rfl,_,_,rfl,rfl,?_⟩;refine⟨_,rfl,_,rfl,_,rfl,sm,_,_,_,rfl,rfl,sA.tup hX,Rq hb.1 (by omega),_,rfl,_,rfl,sm,_,_,_,rfl,rfl,sA.tup hX,Rq (by omega) hb.2.2,?_⟩;refine⟨a,n,_,_,ts,rfl,(hA.same sA).web,fun H5 s5=>⟨_,rfl,?_⟩⟩;rw[zL hi];refine ite2 (fun c=> ?_) (fun c=> ?_)
  ·refine⟨_,rfl,_,rfl,(by show 2<=sizeLine;decide),fun p hp=> ?_⟩;have s6:=aK hp (.tup [.int (R[i]).1,.int (R[i]).2]);refine⟨sm'.trans (s5.trans s6),by rw[rE];show acc.length+1<=i+1;omega,?_,_,_,rfl⟩;rw[au (show Sq xs ts _ _=true from c),cg];exact(hd.same (s5.trans s6)).append (.cons (.tup (SqT.of aA) (.cons (.int _) (.cons (.int _) .nil))) .nil)
  ·refine⟨sm'.trans s5,by omega,?_,_,_,rfl⟩;rw[aq (show¬Sq xs ts _ _=true from c),Aw];exact hd.same s5
 ·intro p1 hp1;obtain⟨sm',hl,hd,_⟩:=p;rw[hlen,rW,<-hR,yM]at hd;have s5:=aK hp1 (.lst acc);have sA:=nH.trans (sm'.trans s5);refine⟨_,rfl,sm,_,rfl,.inr (sA.tup hX),fun _=>⟨_,rfl,p1,_,rfl,.inl ⟨SqL.of aA,fun t ht=> ?_⟩⟩⟩;have s6:=aK ht (.tup acc);refine⟨(by show 2<=sizeLine;decide),fun r hr'=> ?_⟩;rw[aH];have s7:=aK hr' (.tup [.int (xs.length:Int),.ref t]);exact q r _ (sA.trans (s6.trans s7)) ⟨t,acc,SqT.of aA,SqT.of (s7 _ _ aA),hd.same (s5.trans (s6.trans s7))⟩
end
end Hs
namespace L2
open PySem PySem.Spec PyProof.Rows
theorem zT{i:Int}(h:i.natAbs<=10^200):Builtin.Int.intBits i<=2^20:=by
 refine cQ (intBits_le_iff.mpr (Ml h)) (by decide+kernel)
section
variable{X:Cx}
theorem wH:OpR X (binaryOp .Mult) (rI (fun i j=>i.natAbs<=10^200/\j.natAbs<=10^200) fun i j=> .int (i*j)):=
 opI fun i j _ _ _ _ _ hc q=>mul_int q (IntMulOk.of_bits (zT hc.1) (zT hc.2))
end
end L2
namespace Hs
open PySem L2 o9
section
variable{P:ξ}{w:τ}{K:W.Frag}{mg:L4}{base:Heap}
noncomputable def bD(n:Nat):List Int:=List.replicate n 1
noncomputable def DW(K:W.Frag):Sp:=fun vs H Q _=>∃(a:Addr) (n:Int) (ts:L0),vs=[.ref a]/\aJ K H a n ts/\
 ∀(va:Addr) (ss:List (List Int)) (ov:Nat) (Z:Int) (Y X:Nat->Int) H',Same H H'->m5 K H' va (aO Z ov)->bw ss ts false n.toNat->Sh n.toNat ss (bD n.toNat) ov Z Y X->Q (.ref va) H'
theorem Ke{f f1 f2:Addr}{fd d1 d2:ρ}(F:Fun K "value" "value" wz f fd)(D1:bJ K mg "need_web" Nj ["thing"] f1 d1)(G1:FnOk P w K mg base CX0 7 f1 d1 ["thing"] (dh K))(D2:bJ K mg "shares" jN ["web","wants"] f2 d2)(G2:FnOk P w K mg base CX0 9 f2 d2 ["web","wants"] (nU K)):
  FnOk P w K mg base CX0 10 f fd ["web"] (DW K):=by
 refine F.cG ["web"] fun cdv A outer s H vs Q E hr h=> ?_;obtain⟨a,n,ts,rfl,hA,qq⟩:=h;refine bA ?_;intro Y;refine⟨_,(aM (lY (pc G1 hr D1 (aj (pv 0) ak))) (aX (bM (aP bZ (pc G2 hr D2 (aj (pv 0) (aj (bK wF (fu (aj aB ak)) (aP bZ (pv 0) aB)) ak))) aB)))),?_⟩;refine oO ?_;intro c2;have h0:=hA.h0;have h10:=hA.h1;refine⟨_,rfl,.ref a,_,rfl,hA.web.dv.dx,hA.ok,fun H1 s1=> ?_⟩;obtain⟨tt1,rr1,w1,w2,w3⟩:=id (hA.same s1).web;refine⟨_,rfl,(by show 1<=sizeLine;decide),fun p1 hp1=> ?_⟩;have s2:=aK hp1 (.tup [.int 1]);refine⟨_,rfl,a,_,_,.int n,rfl,rfl,s2.tup w1,rfl,p1,n,_,rfl,rfl,SqT.of aA,(fun e=>nomatch e),by omega,by omega,?_,fun wa H3 s3 h3=> ?_⟩
 ·show 1*n.toNat<=1000;omega
 have ew:(List.replicate n.toNat [V.int 1]).flatten=(bD n.toNat).map V.int:=by
  unfold bD;generalize n.toNat=k
  induction k with
  |zero=>rfl
  |succ k ih=>rw[Ir,RJ,ih,Ir];rfl
 rw[ew]at h3;have nH:=s1.trans (s2.trans s3);refine⟨a,wa,n,ts,bD n.toNat,rfl,hA.same nH,h3,⟨by unfold bD;rw[RN];omega,fun x hx=> ?_⟩,fun r va la pa lrefs bW ss ov Z Y X H4 s4 e1 e2 e3 e4 e5 e6 oU hSh _ _ _=> ?_⟩
 ·rw[(List.mem_replicate.mp hx).2];decide
 exact⟨r,_,_,.ref va,rfl,rfl,SqT.of e1,rfl,qq va ss ov Z Y X H4 (nH.trans s4) e2 oU hSh⟩
structure Fr(K:W.Frag)(H:Hp)(p:Addr)(u:Int)(v:Nat):Prop where
 at_:SqT K H p [.int u,.int (v:Int)]
 pos:0<v
 lu:u.natAbs<=10^41
 lv:v<=10^41
theorem Fr.same{H H':Hp}{p:Addr}{u:Int}{v:Nat}(h:Fr K H p u v)(e:Same H H'):Fr K H' p u v:=⟨e.tup h.at_,h.pos,h.lu,h.lv⟩
theorem m41:10^41<=10^200:=by decide+kernel
theorem m82:10^41*10^41<=10^82:=by decide+kernel
theorem aav:10^82<=10^200:=by decide+kernel
theorem Fr.u{H:Hp}{p:Addr}{u:Int}{v:Nat}(h:Fr K H p u v):u.natAbs<=10^200:=cQ h.lu m41
theorem Fr.v{H:Hp}{p:Addr}{u:Int}{v:Nat}(h:Fr K H p u v):((v:Int)).natAbs<=10^200:=cQ h.lv m41
theorem Fr.vv{H H':Hp}{p p':Addr}{u u':Int}{v v':Nat}(h:Fr K H p u v)(h':Fr K H' p' u' v'):v*v'<=10^82:=cQ (Nat.mul_le_mul h.lv h'.lv) m82
noncomputable def JB(K:W.Frag):Sp:=fun vs H Q _=>∃(p p':Addr) (u u':Int) (v v':Nat),vs=[.ref p,.ref p']/\Fr K H p u v/\Fr K H p' u' v'/\∀r H' x y,Same H H'->H' r=some (.tup [.int x,.int ((y:Nat):Int)])->Low (u*(v':Int)+u'*(v:Int)) (v*v') x y->Q (.ref r) H'
theorem Oz{f f1:Addr}{fd d1:ρ}(F:Fun K "plus" "plus" Bu f fd)(D1:bJ K mg "lowest" fL ["a","b"] f1 d1)(G1:FnOk P w K mg base CX0 2 f1 d1 ["a","b"] (vG K)):FnOk P w K mg base CX0 3 f fd ["one","other"] (JB K):=by
 refine F.cG ["one","other"] fun cdv A outer s H vs Q E hr h=> ?_;obtain⟨p,p',u,u',v,v',rfl,h1,h2,q⟩:=h;refine⟨_,aX (bM (pc G1 hr D1 (aj (bK nA (bK wH (aP bZ (pv 0) aB) (aP bZ (pv 1) aB)) (bK wH (aP bZ (pv 1) aB) (aP bZ (pv 0) aB)))
  (aj (bK wH (aP bZ (pv 0) aB) (aP bZ (pv 1) aB)) ak)))),?_⟩
 have q1:=h1.at_;have q2:=h2.at_;refine⟨_,rfl,p,_,_,.int u,rfl,rfl,q1,rfl,_,rfl,p',_,_,.int v',rfl,rfl,q2,rfl,_,_,rfl,rfl,⟨h1.u,h2.v⟩,_,rfl,p',_,_,.int u',rfl,rfl,q2,rfl,_,rfl,p,_,_,.int v,rfl,rfl,q1,rfl,_,_,rfl,rfl,⟨h2.u,h1.v⟩,_,_,rfl,rfl,?_⟩;refine⟨_,rfl,p,_,_,.int v,rfl,rfl,q1,rfl,_,rfl,p',_,_,.int v',rfl,rfl,q2,rfl,_,_,rfl,rfl,⟨h1.v,h2.v⟩,?_⟩;exact⟨_,v*v',rfl,Nat.mul_pos h1.pos h2.pos,cQ (h1.vv h2) aav,q⟩
noncomputable def pR(K:W.Frag):Sp:=fun vs H Q _=>∃(n:Int),vs=[.int n]/\n<=10/\Q .non H
theorem BW{f:Addr}{fd:ρ}{tk:Tok}(F:Fun K "need_few" "need_few" mq f fd)(mM:mg "MOST_PLACES"=some (.int 10 tk)):FnOk P w K mg base CX0 1 f fd ["n"] (pR K):=by
 refine F.cG ["n"] fun cdv A outer s H vs Q E hr h=> ?_;obtain⟨n,rfl,hn,q⟩:=h;refine⟨_,aX (fJ (dO op_gt (pv 0) (pe_glob rfl mM (v:= .int 10) ⟨_,rfl⟩)) MF gC),?_⟩;refine⟨_,rfl,_,_,rfl,rfl,_,rfl,?_⟩;rw[jK (show¬(10:Int)<n by omega)];exact iteF q
end
noncomputable def sh(b:Int)(p:Int×Int):Int×Int:=(p.1+b,p.2+b)
section
variable{P:ξ}{w:τ}{K:W.Frag}{mg:L4}{base:Heap}
noncomputable def Ec(K:W.Frag):Sp:=fun vs H Q _=>∃(a:Addr) (n b:Int) (ts:L0),vs=[.ref a,.int b]/\qW K H a n ts/\∀l H',Same H H'->YW K H' l (ts.map (sh b))->H l=none->Q (.ref l) H'
theorem Ko{f:Addr}{fd:ρ}(F:Fun K "moved_ties" "moved_ties" jd f fd):FnOk P w K mg base CX0 1 f fd ["web","by"] (Ec K):=by
 refine F.cG ["web","by"] fun cdv A outer s H vs Q E hr h=> ?_;obtain⟨a,n,b,ts,rfl,hW,q⟩:=h;refine⟨_,aX (bM (pK ["one","other"] ["by"] [1] (Aj (aP bZ (pv 0) aB)) (HS K (n:=2) rfl (nF (pG 0) (nF (pG 1) Ai))) pD (fu (aj (bK nA (pv 0) (pv 2)) (aj (bK nA (pv 1) (pv 2)) ak))))),?_⟩;obtain⟨t,rs,h1,h2,h3⟩:=hW;refine⟨_,rfl,a,_,_,.ref t,rfl,rfl,h1,rfl,t,rs,rfl,h2,fun hz=> ?_⟩;have hlen:=h3.len;rw[aH]at hlen;let mZ:Nat->List V->St->Hp->Prop:=fun i acc σ H'=>Same H H'/\acc.length=i/\cO K H' acc (((ts.take i).map (sh b)).map pairD)/\∃o1 o2,σ=[o1,o2,some (.int b)];refine Al (xs:=rs) mZ ⟨Same.refl _,rfl,.nil,_,_,rfl⟩ (fun i acc σ H' _ p=>p.1.tup h2) (fun i acc σ H' hi p=>by rw[p.2.1];exact aR _) hz (fun i x acc σ H' hx p=> ?_) (fun acc σ H' p=> ?_)
 ·obtain⟨sm,hl,hd,o1,o2,rfl⟩:=p;have hi:i<ts.length:=by rw[<-hlen];exact(pO.mp hx).1
  obtain⟨x',d,e1,e2,e3⟩:=cO.get' (i:=i) h3 (by rw[aH];exact hi);rw[hx]at e1;cases e1;rw[dY,eO hi]at e2;cases e2;cases e3 with
  |tup hp tp=>
   cases tp with
   |cons ta tb=>
    cases tb with
    |cons tc td=>
     cases td;cases ta;cases tc;refine⟨_,_,rfl,sm.tup hp,rfl,_,_,rfl,_,_,rfl,rfl,?_⟩;refine⟨_,rfl,_,rfl,_,_,rfl,rfl,_,rfl,_,rfl,_,_,rfl,rfl,(by show 2<=sizeLine;decide),fun p hp'=> ?_⟩;have s2:=aK hp' (.tup [.int (ts[i].1+b),.int (ts[i].2+b)]);refine⟨sm.trans s2,by rw[rE,hl];rfl,?_,_,_,rfl⟩;rw[vX,eO hi];simp only[Option.toList_some,cg];refine(hd.same s2).append (.cons (.tup (SqT.of aA) (.cons (.int _) (.cons (.int _) .nil))) .nil)
 ·intro p1 hp1;obtain⟨sm,hl,hd,_⟩:=p;rw[hlen,rW]at hd;have s2:=aK hp1 (.lst acc);exact q p1 _ (sm.trans s2) ⟨acc,aA,hd.same s2⟩ (sm.free hp1)
noncomputable def qG(K:W.Frag):Sp:=fun vs H Q _=>∃(a:Addr) (n i:Int) (t:V),vs=[.ref a,.int i]/\SqT K H a [.int n,t]/\0<=i/\i<n/\Q .non H
theorem wK{f f1:Addr}{fd d1:ρ}(F:Fun K "need_place" "need_place" jc f fd)(D1:bJ K mg "is_place" jg ["n","thing"] f1 d1)(G1:FnOk P w K mg base CX0 2 f1 d1 ["n","thing"] (wj K)):FnOk P w K mg base CX0 3 f fd ["web","thing"] (qG K):=by
 refine F.cG ["web","thing"] fun cdv A outer s H vs Q E hr h=> ?_;obtain⟨a,n,i,t,rfl,hS,h0,h1,q⟩:=h;refine⟨_,aX (fJ (pI (nJ (pc G1 hr D1 (aj (aP bZ (pv 0) aB) (aj (pv 1) ak))))) MF gC),?_⟩;refine⟨_,rfl,a,_,_,.int n,rfl,rfl,hS,rfl,_,rfl,n,.int i,.int i,rfl,.int i,_,rfl,?_⟩;have e:bQ n (.int i)=true:=by show(decide (0<=i)&&decide (i<n))=true;rw[cI h0,cI h1];rfl
 rw[e];exact iteF q
end
theorem zp{a:Int}{D:Nat}(hD:0<D):(aO a D).2∣D:=⟨Nat.gcd a.natAbs D,(Nat.div_mul_cancel (Wk _ _)).symm⟩
theorem tR{a:Int}{D:Nat}(hD:0<D):(aO a D).1*((D/(aO a D).2:Nat):Int)=a:=by
 have l:=Af a hD;have e:=l.eq;have hv:=l.pos;obtain⟨c,hc⟩:=zp (a:=a) hD;generalize (aO a D).1=u at *;generalize (aO a D).2=v at *;have:D/v=c:=by rw[hc];exact M4 _ hv
 rw[this];rw[hc]at e
 push_cast at e
 refine yea (a:=(v:Int)) (by omega) ?_
 grind
theorem Pq{a:Int}{D:Nat}(hD:0<D)(ha:0<=a):0<=(aO a D).1:=(Af a hD).nn ha
theorem wR{a:Int}{D:Nat}(hD:0<D)(ha:0<=a):0<=(aO a D).1/\0<(aO a D).2/\(aO a D).2∣D:=⟨Pq hD ha,(Af a hD).pos,zp hD⟩
theorem wU{ss:List (List Int)}{D:Nat}{Y:Nat->Int}(hD:0<D)(hY:∀k,0<=Y k)(g:List Int->Bool):∀m,j4 D (((((List.range m).filter fun k=>decide (0<Y k)).map fun k=>(ss.getD k [],aO (Y k) D)).filter fun q=>g q.1).map (·.2))=Sx.sm m fun k=>if g (ss.getD k [])=true then Y k else 0
 |0=>rfl
 |m+1=>by
  have ih:=wU (ss:=ss) hD hY g m;rw[yh,Dy,cg,Dy,cg,rQ,ih];show _=Sx.sm m _+(if g (ss.getD m [])=true then Y m else 0);congr 1;by_cases hy:0<Y m
  ·rw[wdz (by simpa using hy)];by_cases hg:g (ss.getD m [])=true
   ·rw[List.filter_nil,yg,Ry,wdz (by exact hg),au hg];exact(wZ D _).trans (tR hD)
   ·rw[List.filter_nil,yg,Ry,wea (by exact hg),aq hg];rfl
  ·rw[wea (by simpa using hy)];have:Y m=0:=by have:=hY m;omega
   rw[this];show(0:Int)=_;split<;>rfl
theorem Ep{D:Nat}{X:Nat->Int}(hD:0<D):∀xs:List Int,j4 D (xs.map fun x=>aO (X x.toNat) D)=(xs.map fun x=>X x.toNat).sum
 |[]=>rfl
 |x::xs=>by
  show _*_+j4 D (xs.map _)=_;rw[Ep hD xs,tR hD];rfl
theorem Fd{n:Nat}{X:Nat->Int}:∀{xs:List Int},xs.Nodup->(∀x∈xs,0<=x/\x<(n:Int))->(xs.map fun x=>X x.toNat).sum=Sx.sm n fun p=>if decide (((p:Nat):Int)∈xs)=true then X p else 0
 |[],_,_=>(Sx.cM n fun i _=>by simp).symm
 |x::xs,nd,hb=>by
  obtain⟨nx,nd'⟩:=Ip.mp nd;have hx:=hb x jx;have ih:=Fd (X:=X) nd' fun y hy=>hb y (jy _ hy);show X x.toNat+(xs.map fun x=>X x.toNat).sum=_;rw[ih];have e1:Sx.sm n (fun p=>if p=x.toNat then X p else 0)=X x.toNat:=by
   rw[Sx.cT (j:=x.toNat) n (by omega) fun i _ hi=>aq hi,au rfl]
  rw[<-e1,<-Sx.iU];refine Sx.aV n fun p hp=> ?_;by_cases h:p=x.toNat
  ·have h1:((p:Nat):Int)=x:=by omega
   rw[au h,aq (by rw[h1];simpa using nx),au (by rw[h1];simp)];omega
  ·have h1:((p:Nat):Int)≠x:=by omega
   rw[aq h];have:decide (((p:Nat):Int)∈x::xs)=decide (((p:Nat):Int)∈xs):=by
    refine decide_eq_decide.mpr ⟨fun z=> ?_,jy _⟩;rcases cW.mp z with z|z
    ·exact absurd z h1
    ·exact z
   rw[this];omega
theorem yH{f g:Nat->Int}:∀k,(∀i,i<k->f i<=g i)->Sx.sm k f<=Sx.sm k g
 |0,_=>pF _
 |k+1,h=>wex (yH k fun i hi=>h i (by omega)) (h k (by omega))
theorem Dz{wl:List Int}{D:Nat}{X:Nat->Int}(hD:0<D):∀n,j4 D ((List.range n).map fun p=>(nM wl p*(aO (X p) D).1,(aO (X p) D).2))=Sx.sm n fun p=>nM wl p*X p
 |0=>rfl
 |n+1=>by
  rw[yh,cg,rQ,Dz hD n];show _=Sx.sm n _+_;congr 1;rw[yg,Ry,wZ];show nM wl n*(aO (X n) D).1*_=_;rw[Np,tR hD]
theorem zW{n:Nat}{ts:L0}{ss:List (List Int)}{wl:List Int}{ov:Nat}{Z:Int}{Y X:Nat->Int}(hS:bw ss ts false n)(h:Sh n ss wl ov Z Y X){xs:List Int}(hk:jH ts false n xs):
  j4 ov (xs.map fun x=>aO (X x.toNat) ov)<=1*(ov:Int):=by
 have nd:xs.Nodup:=hk.up.imp fun h e=>by omega
 rw[Ep h.pos,Fd nd hk.lt,Ao];obtain⟨t,ht,hx⟩:=oX hk;obtain⟨k,hk',rfl⟩:=MP (hS.1.mem_iff.mpr ht);refine Vq (yH n fun p hp=> ?_) (h.lig k hk');have hxn:=h.xn p;by_cases c:decide (((p:Nat):Int)∈xs)=true
 ·rw[au c,au]
  ·exact pF _
  ·unfold dR;rw[iR,eO hk'];exact cI (hx _ (cR c))
 ·rw[aq c];split
  ·exact hxn
  ·exact pF _
structure YT(n:Int)(ts:L0)(q:List Int×(Int×Nat)):Prop where
 up:q.1.Pairwise (· < ·)
 lt:∀x∈q.1,0<=x/\x<n
 no:ts.filter (inB q.1)=[]
 pos:0<q.2.1
 bot:0<q.2.2
 big:q.2.2<=39916800
 low:Nat.gcd q.2.1.natAbs q.2.2=1
structure YX(n:Int)(ts:L0)(l:List (List Int×(Int×Nat))):Prop where
 all:∀q∈l,YT n ts q
 rise:(l.map (·.1)).Pairwise fun p q=>HT.lexLt p q=true
 len:l.length<=36
theorem Ph{n:Int}{k:Nat}{ts:L0}(hp:aG n ts){s:List Int}(h:jH ts false k s):ts.filter (inB s)=[]:=by
 refine ZC.mpr fun p hp1 hc=> ?_;unfold inB at hc;rw[lZ]at hc;have m1:=cR hc.1;have m2:=cR hc.2;have hlt:=hp.2 p hp1;have hz:=h.all p.1 m1 p.2 m2 (by omega);unfold aU at hz;rw[cI (show(p.1,p.2)∈ts from hp1)]at hz;cases hz
theorem Ci{n:Nat}{ts:L0}{ss:List (List Int)}{wl:List Int}{ov:Nat}{Z:Int}{Y X:Nat->Int}(hp:aG (n:Int) ts)(hn:n<=10)(hS:bw ss ts false n)(h:Sh n ss wl ov Z Y X):YX (n:Int) ts (gO ss ov Y):=by
 have nd:ss.Nodup:=hS.1.nodup_iff.mpr ((iV n).filter _);have up:ss.Pairwise fun p q=>HT.lexLt p q=true:=(hS.2.and nd).imp fun⟨a,b⟩=>KY a b;have m36:=sU hS hn;refine⟨fun q hq=> ?_,?_,?_⟩
 ·obtain⟨k,hk,rfl⟩:=iK.mp hq;obtain⟨hk1,hk2⟩:=eN.mp hk;have hk3:=pJ.mp hk1;have e:ss.getD k []=ss[k]:=by rw[iR,eO hk3];rfl
  have K1:=rJ hS (Ay hk3);have hy:=cR hk2;have l:=Af (Y k) h.pos;refine⟨by rw[e];exact K1.up,by rw[e];exact K1.lt,by rw[e];exact Ph hp K1,(zm h.pos).mpr hy,l.pos,cQ l.lv h.big,l.cop⟩
 ·unfold gO;rw[vh];have:((List.range ss.length).filter fun k=>decide (0<Y k)).Pairwise (· < ·):=Zz.filter _;refine Nr.mpr (this.imp_of_mem fun{a b} ha hb hab=> ?_);have hb3:=pJ.mp (eN.mp hb).1;have e:∀k,(hk:k<ss.length)->ss.getD k []=ss[k]:=fun k hk=>by rw[iR,eO hk];rfl
  show HT.lexLt (ss.getD a []) (ss.getD b [])=true;rw[e a (by omega),e b hb3];exact Vy.mp up a b (by omega) hb3 hab
 ·unfold gO;rw[aH];exact cQ (vo _ _) (by rw[vm];exact m36)
noncomputable def upto(n:Nat):List Int:=(List.range n).map fun(k:Nat)=>(k:Int)
theorem vZ(n:Int):iI n (upto n.toNat):=by
 unfold upto;refine⟨?_,fun x hx=> ?_⟩
 ·rw[Nr];exact Zz.imp fun h=>by omega
 ·obtain⟨k,hk,rfl⟩:=iK.mp hx;rw[pJ]at hk;omega
theorem qm{n:Nat}{ts:L0}{ss:List (List Int)}{wl:List Int}{ov:Nat}{Z:Int}{Y X:Nat->Int}(hS:bw ss ts false n)(h:Sh n ss wl ov Z Y X){xs:List Int}(hk:jH ts false n xs):
  (Sx.sm n fun p=>if decide (((p:Nat):Int)∈xs)=true then X p else 0)<=(ov:Int):=by
 obtain⟨t,ht,hx⟩:=oX hk;obtain⟨k,hk',rfl⟩:=MP (hS.1.mem_iff.mpr ht);refine Vq (yH n fun p hp=> ?_) (h.lig k hk');have hxn:=h.xn p;by_cases c:decide (((p:Nat):Int)∈xs)=true
 ·rw[au c,au]
  ·exact pF _
  ·unfold dR;rw[iR,eO hk'];exact cI (hx _ (cR c))
 ·rw[aq c];split
  ·exact hxn
  ·exact pF _
theorem Az{n p:Nat}(hp:p<n):nM (bD n) p=1:=by
 unfold nM bD;rw[iR,List.getElem?_replicate_of_lt hp];rfl
theorem wd{n n':Nat}{ts:L0}{ss:List (List Int)}{wl:List Int}{ov:Nat}{Z:Int}{Y X:Nat->Int}(hS:bw ss ts false n)(h:Sh n ss wl ov Z Y X)(φ:Nat->Nat)(x:Nat->Int)(c:Int)(E:Nat->Bool)(hx:∀q,0<=x q)(hφ:∀q,q<n'->E q=true->φ q<n)(hc:∀s,jH ts false n s->(Sx.sm n' fun q=>if(E q&&decide (((φ q:Nat):Int)∈s))=true then x q else 0)<=c):(ov:Int)*(Sx.sm n' fun q=>if E q=true then nM wl (φ q)*x q else 0)<=Z*c:=by
 rw[<-Sx.cX];have a2:(Sx.sm n' fun q=>(ov:Int)*(if E q=true then nM wl (φ q)*x q else 0))<=Sx.sm n' fun q=>Sx.sm ss.length fun k=>Y k*(if(E q&&dR ss k (φ q))=true then x q else 0):=by
  refine yH n' fun q hq=> ?_;by_cases e:E q=true
  ·rw[au e];have:=RP (h.eno (φ q) (hφ q hq e)) (hx q);rw[<-Sx.cX]at this;have e1:(Sx.sm ss.length fun k=>x q*(if dR ss k (φ q)=true then Y k else 0))=Sx.sm ss.length fun k=>Y k*(if(E q&&dR ss k (φ q))=true then x q else 0):=Sx.aV _ fun k _=>by
    rw[e,wfb];split<;>grind
   rw[<-e1];have e2:(ov:Int)*(nM wl (φ q)*x q)=x q*((ov:Int)*nM wl (φ q)):=by grind
   rw[e2];exact this
  ·rw[aq e,yc];exact Sx.vI _ fun k _=>by
    rw[Bool.eq_false_iff.mpr e,weu,aq (by decide),yc];exact pF _
 refine Vq a2 ?_;rw[Sx.wk (fun q k=>Y k*(if(E q&&dR ss k (φ q))=true then x q else 0)) ss.length n'];have a4:(Sx.sm ss.length fun k=>Sx.sm n' fun q=>Y k*(if(E q&&dR ss k (φ q))=true then x q else 0))<=Sx.sm ss.length fun k=>c*Y k:=by
  refine yH _ fun k hk=> ?_;rw[Sx.cX,HY c];refine RP ?_ (h.yn k);exact hc (ss.getD k []) (rJ hS (by rw[iR,eO hk];exact Ay hk))
 refine Vq a4 ?_;rw[Sx.cX,h.tot,HY];exact pF _
theorem Ua{n:Nat}{q:Nat}:((q:Nat):Int)∈upto n↔q<n:=by
 unfold upto;refine⟨fun h=> ?_,fun h=>iK.mpr ⟨q,pJ.mpr h,rfl⟩⟩;obtain⟨k,hk,e⟩:=iK.mp h;have:=pJ.mp hk;omega
theorem WQ{n n':Nat}{ts ts':L0}{ss ss':List (List Int)}{ov ov':Nat}{Z Z':Int}{Y X Y' X':Nat->Int}(e:Nat)(Ig:∀i,aU ts i i=false)(hn:∀q,q<n'->q≠e->q<n)(hom:∀i j:Nat,i<n'->j<n'->i≠e->j≠e->aU ts' i j=true->aU ts i j=true)(hS:bw ss ts false n)(hS':bw ss' ts' false n')(h:Sh n ss (bD n) ov Z Y X)(h':Sh n' ss' (bD n') ov' Z' Y' X'):(ov:Int)*Z'<=Z*(ov':Int)+(if e<n' then(ov:Int)*(ov':Int)else 0):=by
 have k:=wd (n':=n') hS h (fun q=>q) X' (ov':Int) (fun q=>decide (q≠e)) h'.xn (fun q hq he=>hn q hq (cR he)) (fun s hs=>by
  have sk:jH ts' false n' ((upto n').filter fun q=>decide (q≠(e:Int))&&decide (q∈s)):=by
   have mu:∀x∈((upto n').filter fun q=>decide (q≠(e:Int))&&decide (q∈s)),(0<=x/\x<(n':Int))/\x≠(e:Int)/\x∈s:=fun x hx=>by
    obtain⟨h1,h2⟩:=eN.mp hx;rw[lZ]at h2;exact⟨(vZ (n':Int)).lt x h1,cR h2.1,cR h2.2⟩
   refine⟨(vZ (n':Int)).v9.filter _,fun x hx=>(mu x hx).1,fun x hx y hy hne=> ?_⟩;obtain⟨⟨x0,x1⟩,x2,x3⟩:=mu x hx;obtain⟨⟨y0,y1⟩,y2,y3⟩:=mu y hy;cases c:aU ts' x y with
   |false=>rfl
   |true=>
    have:=hom x.toNat y.toNat (by omega) (by omega) (by omega) (by omega) (by rw[QF x0,QF y0];exact c);rw[QF x0,QF y0]at this;have a:=hs.all x x3 y y3 hne;rw[this]at a;cases a
  refine Vq (Vs (Sx.aV n' fun q hq=> ?_)) (qm hS' h' sk);have:(decide (q≠e)&&decide (((q:Nat):Int)∈s))=decide (((q:Nat):Int)∈(upto n').filter fun q=>decide (q≠(e:Int))&&decide (q∈s)):=by
   rw[DG,QS,eN,lZ,lZ,QS,QS,QS];exact⟨fun z=>⟨Ua.mpr hq,by omega,z.2⟩,fun z=>⟨by omega,z.2.2⟩⟩
  rw[this])
 have z:Z'=(Sx.sm n' fun q=>if decide (q≠e)=true then nM (bD n) q*X' q else 0)+(if e<n' then X' e else 0):=by
  have t:(Sx.sm n' fun q=>if q=e then X' q else 0)=if e<n' then X' e else 0:=by
   by_cases c:e<n'
   ·rw[au c,Sx.cT (j:=e) n' c fun i _ hi=>aq hi,au rfl]
   ·rw[aq c];exact Sx.cM n' fun i hi=>aq (by omega)
  rw[<-t,<-Sx.iU,<-h'.Wt];refine Sx.aV n' fun q hq=> ?_;rw[Az hq,Ao];by_cases c:q=e
  ·rw[aq (by simpa using c),au c];omega
  ·rw[au (by simpa using c),aq c,Az (hn q hq c)];omega
 have le:(if e<n' then X' e else 0)<=if e<n' then(ov':Int)else 0:=by
  by_cases c:e<n'
  ·rw[au c,au c];have sk:jH ts' false n' [(e:Int)]:=⟨QG _ _,fun x hx=>by rw[kO.mp hx];omega,fun x hx y hy hn=>absurd ((kO.mp hx).trans (kO.mp hy).symm) hn⟩;have:=qm hS' h' sk;rw[Sx.cT (j:=e) n' c fun i _ hi=>aq (by simp;omega),au (by simp)]at this;exact this
  ·rw[aq c,aq c];exact pF _
 rw[z,Int.mul_add];have le2:=RP le (Int.natCast_nonneg ov);have e3:(ov:Int)*(if e<n' then(ov':Int)else 0)=if e<n' then(ov:Int)*(ov':Int)else 0:=by split<;>grind
 rw[e3]at le2;exact wex k le2
theorem Pn{Z Z' c:Int}{ov ov':Nat}(p:0<ov)(p':0<ov')(k:(ov:Int)*Z'<=Z*(ov':Int)+c*((ov:Int)*(ov':Int))):(aO Z' ov').1*((aO Z ov).2:Int)<=((aO Z ov).1+c*((aO Z ov).2:Int))*((aO Z' ov').2:Int):=by
 have l:=Af Z p;have l':=Af Z' p';have e1:=l.eq;have e2:=l'.eq;have v1:=l.pos;have v2:=l'.pos;generalize (aO Z ov).1=u at *;generalize (aO Z ov).2=v at *;generalize (aO Z' ov').1=u' at *;generalize (aO Z' ov').2=v' at *;refine Wq (a:=(ov:Int)*(ov':Int)) ?_ (VD (by omega) (by omega));have x1:u'*(v:Int)*((ov:Int)*(ov':Int))=(u'*(ov':Int))*((v:Int)*(ov:Int)):=by grind
 have x2:(u+c*(v:Int))*(v':Int)*((ov:Int)*(ov':Int))=(u*(ov:Int))*((v':Int)*(ov':Int))+c*((ov:Int)*(ov':Int))*((v:Int)*(v':Int)):=by grind
 rw[x1,x2,e1,e2];have x3:Z'*(v':Int)*((v:Int)*(ov:Int))=((ov:Int)*Z')*((v:Int)*(v':Int)):=by grind
 have x4:Z*(v:Int)*((v':Int)*(ov':Int))+c*((ov:Int)*(ov':Int))*((v:Int)*(v':Int))=(Z*(ov':Int)+c*((ov:Int)*(ov':Int)))*((v:Int)*(v':Int)):=by grind
 rw[x3,x4];exact Wr k (Aq (by omega) (by omega))
noncomputable def dN(n:Int)(ts:L0)(f:Int×Nat):Prop:=∃(ss:List (List Int)) (ov:Nat) (Z:Int) (Y X:Nat->Int),bw ss ts false n.toNat/\Sh n.toNat ss (bD n.toNat) ov Z Y X/\f=aO Z ov
theorem dN.cmp{n n':Int}{ts ts':L0}{f f':Int×Nat}(h:dN n ts f)(h':dN n' ts' f')(e:Nat)(c:Int)(hc:if e<n'.toNat then c=1 else c=0)(Ig:∀i,aU ts i i=false)(hn:∀q,q<n'.toNat->q≠e->q<n.toNat)(hom:∀i j:Nat,i<n'.toNat->j<n'.toNat->i≠e->j≠e->aU ts' i j=true->aU ts i j=true):f'.1*(f.2:Int)<=(f.1+c*(f.2:Int))*(f'.2:Int):=by
 obtain⟨ss,ov,Z,Y,X,a,b,rfl⟩:=h;obtain⟨ss',ov',Z',Y',X',a',b',rfl⟩:=h';refine Pn b.pos b'.pos ?_;have k:=WQ e Ig hn hom a a' b b';by_cases z:e<n'.toNat
 ·rw[au z]at k hc;rw[hc,Ao];exact k
 ·rw[aq z]at k hc;rw[hc,HX];exact k
theorem nO{n:Int}{ts:L0}(h:aG n ts)(i:Int):aU ts i i=false:=by
 unfold aU;have:¬(i,i)∈ts:=fun z=>by have:=(h.lt _ z).2.1;omega
 rw[jK this];rfl
end Hs
namespace o9
open PySem L2
theorem aG.perm{n:Int}{ps qs:L0}(h:aG n ps)(e:qs.Perm ps):aG n qs:=⟨e.nodup_iff.mpr h.nd,fun p hp=>h.lt p (e.mem_iff.mp hp)⟩
theorem eF{K:W.Frag}{H:Hp}{rs:List V}{ps:L0}(h:cO K H rs (ps.map pairD)):∃its:List (Addr×(Int×Int)),rs=its.map (fun p=>V.ref p.1)/\its.map (·.2)=ps/\∀p∈its,SqT K H p.1 ((pl p.2).map V.int):=by
 induction ps generalizing rs with
 |nil=>cases h;exact⟨[],rfl,rfl,fun p h=>(nomatch h)⟩
 |cons p ps ih=>
  cases h with
  |cons h tl=>
   obtain⟨its,e1,e2,e3⟩:=ih tl;cases h with
   | @tup a _ _ h hd=>
    cases hd with
    |cons a1 t1=>
     cases a1;cases t1 with
     |cons a2 t2=>
      cases a2;cases t2;refine⟨(a,p)::its,by rw[e1];rfl,by rw[<-e2];rfl,fun q hq=> ?_⟩;rcases cW.mp hq with e|e
      ·rw[e];exact h
      ·exact e3 q e
theorem iD{K:W.Frag}{H:Hp}:∀(its:List (Addr×(Int×Int))),(∀p∈its,SqT K H p.1 ((pl p.2).map V.int))->cO K H (its.map fun p=>V.ref p.1) ((its.map (·.2)).map pairD)
 |[],_=> .nil
 |p::its,h=> .cons (.tup (h p jx) (.cons (.int _) (.cons (.int _) .nil))) (iD its fun q hq=>h q (jy _ hq))
end o9
namespace Hs
open PySem L2 o9
section
variable{P:ξ}{w:τ}{K:W.Frag}{mg:L4}{base:Heap}
noncomputable def TK(K:W.Frag)(H H':Hp):Prop:=∀a xs,SqT K H a xs->SqT K H' a xs
theorem _root_.L2.Same.tk{H H':Hp}(e:Same H H'):TK K H H':=fun _ _ h=>e.tup h
theorem _root_.L2.aD.tk{H H':Hp}{c:Addr}{zs:List V}(e:aD c H H')(hc:H c=some (.lst zs)):TK K H H':=fun _ _ h=>e.tup hc h
theorem _root_.L2.aD.R3{H H':Hp}{o C dx:Addr}{fs:List (Str×V)}(e:aD o H H')(hO:H o=some (.ins C dx fs)):TK K H H':=fun a xs h=>by
 rcases h with(h|⟨ob,h⟩)|h
 ·exact .inl (.inl (e _ _ (fun z=>by rw[z,hO]at h;cases h) h))
 ·exact .inl (.inr ⟨ob,e _ _ (fun z=>by rw[z,hO]at h;cases h) h⟩)
 ·exact .inr h
theorem J9{H H':Hp}(e:TK K H H'){rs:List V}{ps:L0}(h:cO K H rs (ps.map pairD)):cO K H' rs (ps.map pairD):=by
 induction ps generalizing rs with
 |nil=>cases h;exact .nil
 |cons p ps ih=>
  cases h with
  |cons h tl=>
   refine .cons ?_ (ih tl);cases h with
   |tup h hd=>
    cases hd with
    |cons a1 t1=>
     cases a1;cases t1 with
     |cons a2 t2=>
      cases a2;cases t2;exact .tup (e _ _ h) (.cons (.int _) (.cons (.int _) .nil))
theorem aJ.tk{H H':Hp}{a:Addr}{n:Int}{ts:L0}(h:aJ K H a n ts)(e:TK K H H'):aJ K H' a n ts:=by
 obtain⟨⟨t,rs,h1,h2,h3⟩,h4,h5,h6,h7⟩:=h;exact⟨⟨t,rs,e _ _ h1,e _ _ h2,J9 e h3⟩,h4,h5,h6,h7⟩
theorem gq.tk{H H':Hp}{vs:List V}{l:List (List Int×(Int×Nat))}(h:gq K H vs l)(e:TK K H H'):gq K H' vs l:=Paired.mapP h fun _ _ ⟨t,sa,fa,e0,h1,h2,h3⟩=>⟨t,sa,fa,e0,e _ _ h1,e _ _ h2,e _ _ h3⟩
theorem dw.tk{H H':Hp}{vs:List V}{l:List (Int×Nat)}(h:dw K H vs l)(e:TK K H H'):dw K H' vs l:=Paired.mapP h fun _ _ ⟨a,e0,z⟩=>⟨a,e0,e _ _ z⟩
noncomputable def Lw(f:Int×Nat):Prop:=0<f.2/\f.2<=39916800/\Nat.gcd f.1.natAbs f.2=1
structure Sd where
 n:Int
 ts:L0
 t:Int
 l:List (List Int×(Int×Nat))
 D:Nat
 f:Int×Nat
 ps:List (Int×Nat)
 la:Addr
 pa:Addr
noncomputable def yJ(la t wb va pa:V):List (Str×V):=[("kept_laying",la),("times_anew",t),("kept_web",wb),("kept_value",va),("kept_prices",pa)]
structure Qs(K:W.Frag)(C:Addr)(H:Hp)(o dx wb va:Addr)(lr pr:List V)(S:Sd):Prop where
 at_:H o=some (.ins C dx (yJ (.ref S.la) (.int S.t) (.ref wb) (.ref va) (.ref S.pa)))
 web:aJ K H wb S.n S.ts
 val:m5 K H va S.f
 lay:H S.la=some (.lst lr)
 lv:gq K H lr S.l
 Xh:H S.pa=some (.lst pr)
 pv:dw K H pr S.ps
noncomputable def cU(K:W.Frag)(C:Addr)(H:Hp)(o:Addr)(S:Sd):Prop:=∃(dx wb va:Addr) (lr pr:List V),Qs K C H o dx wb va lr pr S
theorem cU.same{C o:Addr}{H H':Hp}{S:Sd}(h:cU K C H o S)(e:Same H H'):cU K C H' o S:=by
 obtain⟨dx,wb,va,lr,pr,h1,h2,h3,h4,h5,h6,h7⟩:=h;exact⟨dx,wb,va,lr,pr,e _ _ h1,h2.same e,e.tup h3,e _ _ h4,h5.same e,e _ _ h6,h7.same e⟩
theorem cU.lU{C o c:Addr}{H H':Hp}{S:Sd}{zs:List V}(h:cU K C H o S)(e:aD c H H')(hc:H c=some (.lst zs))(n1:S.la≠c)(n2:S.pa≠c):cU K C H' o S:=by
 obtain⟨dx,wb,va,lr,pr,h1,h2,h3,h4,h5,h6,h7⟩:=h;have k:TK K H H':=e.tk hc;exact⟨dx,wb,va,lr,pr,e _ _ (fun z=>by rw[z,hc]at h1;cases h1) h1,h2.tk k,k _ _ h3,e _ _ n1 h4,h5.tk k,e _ _ n2 h6,h7.tk k⟩
theorem cU.ins{C o:Addr}{H:Hp}{S:Sd}(h:cU K C H o S):∃dx fs,H o=some (.ins C dx fs):=let⟨dx,_,_,_,_,h⟩:=h;⟨dx,_,h.at_⟩
structure zZ(K:W.Frag)(C:Addr):Prop where
 c:Cls K C
 la:NoAttr K C "kept_laying"
 ti:NoAttr K C "times_anew"
 wb:NoAttr K C "kept_web"
 va:NoAttr K C "kept_value"
 pr:NoAttr K C "kept_prices"
structure dM(S:Sd):Prop where
 dok:yp S.D (S.l.map (·.2))
 low:∀q∈S.l,Lw q.2
 len:S.l.length<=36
 val:dN S.n S.ts S.f
 Xh:∃(ss:List (List Int)) (ov:Nat) (Z:Int) (Y X:Nat->Int),bw ss S.ts false S.n.toNat/\Sh S.n.toNat ss (bD S.n.toNat) ov Z Y X/\S.f=aO Z ov/\S.ps=fB S.n.toNat ov X
 eno:oY S.n S.ts (bD S.n.toNat) S.D (S.l.map sV) S.f.1 S.f.2=true
theorem iy{n:Int}(h:0<=n):qt n (bD n.toNat):=⟨by unfold bD;rw[RN];omega,fun x hx=>by unfold bD at hx;rw[(List.mem_replicate.mp hx).2];decide⟩
theorem W9{H:Hp}{x:V}{q:List Int×(Int×Nat)}(h:HB K H x q):DX K H x (sV q):=by
 obtain⟨t,sa,fa,rfl,h1,h2,h3⟩:=h;exact .tup h1 (.cons (.tup h2 (cO.ints _).dx) (.cons (.tup h3 (.cons (.int _) (.cons (.int _) .nil))) .nil))
theorem Cj{H:Hp}:∀{vs:List V} {l:List (List Int×(Int×Nat))},gq K H vs l->lN K H vs (l.map sV)
 |_,_,.nil=> .nil
 |_,_,.cons h t=> .cons (W9 h) (Cj t)
noncomputable def Bo(K:W.Frag):Sp:=fun vs H Q _=>∃(a:Addr) (n:Int) (t:V),vs=[.ref a]/\SqT K H a [.int n,t]/\0<=n/\n<=10/\∀wa H',Same H H'->SqT K H' wa ((bD n.toNat).map V.int)->Q (.ref wa) H'
theorem OJ{f:Addr}{fd:ρ}(F:Fun K "ones_for" "ones_for" iY f fd):
  FnOk P w K mg base CX0 1 f fd ["web"] (Bo K):=by
 refine F.cG ["web"] fun cdv A outer s H vs Q E hr h=> ?_;obtain⟨a,n,t,rfl,w1,h0,h10,qq⟩:=h;refine⟨_,(aX (bM (bK wF (fu (aj aB ak)) (aP bZ (pv 0) aB)))),?_⟩;refine⟨(by show 1<=sizeLine;decide),fun p1 hp1=> ?_⟩;have s2:=aK hp1 (.tup [.int 1]);refine⟨_,rfl,a,_,_,.int n,rfl,rfl,s2.tup w1,rfl,p1,n,_,rfl,rfl,SqT.of aA,(fun e=>nomatch e),by omega,by omega,?_,fun wa H3 s3 h3=> ?_⟩
 ·show 1*n.toNat<=1000;omega
 have ew:(List.replicate n.toNat [V.int 1]).flatten=(bD n.toNat).map V.int:=by
  unfold bD;generalize n.toNat=k
  induction k with
  |zero=>rfl
  |succ k ih=>rw[Ir,RJ,ih,Ir];rfl
 rw[ew]at h3;exact qq wa H3 (s2.trans s3) h3
theorem NP(ts:L0):ts.map (sh 0)=ts:=by
 rw[show sh 0=id from funext fun p=>by unfold sh;rw[Rx,Rx];rfl,List.map_id]
noncomputable def Q8(K:W.Frag):Sp:=fun vs H Q _=>∃(a:Addr) (n:Int) (ts:L0),vs=[.ref a]/\aJ K H a n ts/\∀r H',Same H H'->aJ K H' r n ts->Q (.ref r) H'
theorem T3{f f1:Addr}{fd d1:ρ}(F:Fun K "copy_of_web" "copy_of_web" gU f fd)(D1:bJ K mg "moved_ties" jd ["web","by"] f1 d1)(G1:FnOk P w K mg base CX0 1 f1 d1 ["web","by"] (Ec K))(aL:mg "tuple"=none):
  FnOk P w K mg base CX0 2 f fd ["web"] (Q8 K):=by
 refine F.cG ["web"] fun cdv A outer s H vs Q E hr h=> ?_;obtain⟨a,n,ts,rfl,hW,qq⟩:=h;refine⟨_,(aX (bM (fu (aj (aP bZ (pv 0) aB) (aj (pT Du aL (aj (pc G1 hr D1 (aj (pv 0) (aj aB ak))) ak)) ak))))),?_⟩;obtain⟨t0,Xb,w1,_,_⟩:=id hW.web;refine⟨_,rfl,a,_,_,.int n,rfl,rfl,w1,rfl,_,rfl,a,n,0,ts,rfl,hW.web,fun l H1 s1 hl _=> ?_⟩;rw[NP]at hl;obtain⟨rs,hl1,hl2⟩:=hl.ex;refine⟨l,rs,rfl,.inl ⟨SqL.of hl1,fun t ht=> ?_⟩⟩;have s2:=aK ht (.tup rs);refine⟨(by show 2<=sizeLine;decide),fun r hr=> ?_⟩;have s3:=aK hr (.tup [.int n,.ref t]);exact qq r _ (s1.trans (s2.trans s3)) ⟨⟨t,rs,SqT.of aA,s3.tup (SqT.of aA),hl2.same (s2.trans s3)⟩,hW.h0,hW.h1,hW.pk,hW.ok⟩
theorem Lw.one{f:Int×Nat}(h:Lw f){u:Int}{v:Nat}(l:Low f.1 f.2 u v):(u,v)=f:=by
 obtain⟨a,b⟩:=zf h.1 l ⟨h.1,h.2.2,rfl,aR _,aR _,id⟩;exact Prod.ext a b
noncomputable def Ei(K:W.Frag):Sp:=fun vs H Q _=>∃(a:Addr) (f:Int×Nat),vs=[.ref a]/\m5 K H a f/\Lw f/\∀r H',Same H H'->m5 K H' r f->Q (.ref r) H'
theorem T6{f f1:Addr}{fd d1:ρ}(F:Fun K "copy_of_fraction" "copy_of_fraction" Wg f fd)(D1:bJ K mg "lowest" fL ["a","b"] f1 d1)(G1:FnOk P w K mg base CX0 2 f1 d1 ["a","b"] (vG K)):
  FnOk P w K mg base CX0 3 f fd ["fraction"] (Ei K):=by
 refine F.cG ["fraction"] fun cdv A outer s H vs Q E hr h=> ?_;obtain⟨a,f,rfl,hF,hL,qq⟩:=h;refine⟨_,(aX (bM (pc G1 hr D1 (aj (aP bZ (pv 0) aB) (aj (aP bZ (pv 0) aB) ak))))),?_⟩;refine⟨_,rfl,a,_,_,.int f.1,rfl,rfl,hF,rfl,_,rfl,a,_,_,.int ((f.2:Nat):Int),rfl,rfl,hF,rfl,f.1,f.2,rfl,hL.1,cQ hL.2.1 (by decide),fun p H' u v s e l=>qq p H' s ?_⟩;have:=hL.one l;unfold m5;rw[<-this];exact SqT.of e
noncomputable def Q9(K:W.Frag):Sp:=fun vs H Q _=>∃(a:Addr) (ys:List V),vs=[.ref a]/\SqT K H a ys/\∀r H',Same H H'->SqT K H' r ys->Q (.ref r) H'
theorem T5{f:Addr}{fd:ρ}(F:Fun K "copy_of_set" "copy_of_set" gW f fd)(aL:mg "tuple"=none):
  FnOk P w K mg base CX0 1 f fd ["some"] (Q9 K):=by
 refine F.cG ["some"] fun cdv A outer s H vs Q E hr h=> ?_;obtain⟨a,ys,rfl,hT,qq⟩:=h;refine⟨_,(aX (bM (pT Du aL (aj (pK ["place"] [] [] (Aj (pv 0)) (pG 0) pD (pv 0)) ak)))),?_⟩;refine⟨_,rfl,a,_,rfl,hT,fun hz=> ?_⟩;let mZ:Nat->List V->St->Hp->Prop:=fun i acc σ H'=>acc=ys.take i/\H'=H/\∃o,σ=[o];refine Al (xs:=ys) mZ ⟨rfl,rfl,_,rfl⟩ (fun i acc σ H' _ p=>by rw[p.2.1];exact hT) (fun i acc σ H' hi p=>by rw[p.1,uH];omega) hz (fun i x acc σ H' hx p=> ?_) (fun acc σ H' p=> ?_)
 ·obtain⟨rfl,rfl,o,rfl⟩:=p;exact⟨_,rfl,by rw[vX,hx];rfl,rfl,_,rfl⟩
 ·obtain⟨rfl,rfl,o,rfl⟩:=p;intro l hl;rw[rW];have s1:=aK hl (.lst ys);refine⟨l,_,rfl,.inl ⟨SqL.of aA,fun t ht=> ?_⟩⟩;exact qq t _ (s1.trans (aK ht (.tup ys))) (SqT.of aA)
noncomputable def lo2(i j:Int):Int:=if j<i then j else i
noncomputable def hi2(i j:Int):Int:=if j>i then j else i
noncomputable def JK(K:W.Frag):Sp:=fun vs H Q _=>∃(i j:Int),vs=[.int i,.int j]/\∀r H',Same H H'->SqT K H' r [.int (lo2 i j),.int (hi2 i j)]->Q (.ref r) H'
theorem T7{f:Addr}{fd:ρ}(F:Fun K "as_tie" "as_tie" oh f fd)(yZ:mg "min"=none)(KH:mg "max"=none):
  FnOk P w K mg base CX0 1 f fd ["one","other"] (JK K):=by
 refine F.cG ["one","other"] fun cdv A outer s H vs Q E hr h=> ?_;obtain⟨i,j,rfl,qq⟩:=h;refine⟨_,(aX (bM (fu (aj (pB (call_min2 rfl) yZ (aj (pv 0) (aj (pv 1) ak))) (aj (pB (call_max2 rfl) KH (aj (pv 0) (aj (pv 1) ak))) ak))))),?_⟩;refine⟨_,rfl,_,rfl,i,j,rfl,_,rfl,_,rfl,i,j,rfl,(by show 2<=sizeLine;decide),fun r hr=> ?_⟩;exact qq r _ (aK hr _) (SqT.of aA)
end
theorem wQ(a:Int){b:Nat}(h:0<b)(hb:b<=39916800):Lw (aO a b):=⟨(Af a h).pos,cQ (Af a h).lv hb,(Af a h).cop⟩
theorem Qm{n:Nat}{ss:List (List Int)}{wl:List Int}{ov:Nat}{Z:Int}{Y X:Nat->Int}(h:Sh n ss wl ov Z Y X):yp ov ((gO ss ov Y).map (·.2)):=⟨h.pos,cQ h.big (by decide),fun f hf=>by
 obtain⟨q,hq,rfl⟩:=iK.mp hf;obtain⟨k,hk,rfl⟩:=iK.mp hq;exact wR h.pos (h.yn k)⟩
theorem Ss{n:Int}{ts:L0}{q:List Int×(Int×Nat)}(h:YT n ts q):Bs n ts (sV q)=true:=by
 show(gD n (.tuple (q.1.map PyData.int))&&((true&&(true&&(decide (0<=q.2.1)&&(decide (1<=((q.2.2:Nat):Int))&&decide (((q.2.2:Nat):Int)<=1000000000)))))&&(decide (ts.filter (inB ((q.1.map PyData.int).map intD))=[])&&decide (0<q.2.1))))=true;have e:(q.1.map PyData.int).map intD=q.1:=by rw[vh];exact ZL q.1
 have a:=h.pos;have b:=h.bot;have c:=h.big;rw[iI.gD ⟨h.up,h.lt⟩,e,cI h.no,cI (show(0:Int)<=q.2.1 by omega),cI (show(1:Int)<=((q.2.2:Nat):Int) by omega),cI (show((q.2.2:Nat):Int)<=1000000000 by omega),cI a];rfl
theorem J3{l:List (List Int)}(h:l.Pairwise fun p q=>HT.lexLt p q=true):dU l=true:=by
 unfold dU;refine pH.mpr fun k hk=> ?_;have hk':=pJ.mp hk;have e:∀k,(hk:k<l.length)->l.getD k []=l[k]:=fun k hk=>by rw[iR,eO hk];rfl
 rw[e k (by omega),e (k+1) (by omega)];exact Vy.mp h k (k+1) (by omega) (by omega) (by omega)
theorem Oh{n p:Nat}(h:p<n):(bD n).getD p 0=1:=by
 unfold bD;rw[iR,wdt,au h];rfl
theorem Lz{n:Nat}{ts:L0}{ss:List (List Int)}{ov:Nat}{Z:Int}{Y X:Nat->Int}(hp:aG (n:Int) ts)(hn:n<=10)(hS:bw ss ts false n)(h:Sh n ss (bD n) ov Z Y X):oY (n:Int) ts (bD n) ov ((gO ss ov Y).map sV) (aO Z ov).1 (aO Z ov).2=true:=by
 have L:=Ci hp hn hS h;unfold oY;rw[jL,lZ,lZ];refine⟨?_,?_,?_⟩
 ·unfold layB;rw[yK,lZ];refine⟨?_,J3 L.rise⟩;rw[Vr,pH];exact fun q hq=>Ss (L.all q hq)
 ·unfold hasB;refine pH.mpr fun p hp'=> ?_;have hp2:=pJ.mp hp';rw[show(bD n).length=n from RN]at hp2;unfold Cm;have a:=h.eno p hp2;have b:=wU (ss:=ss) h.pos h.yn (fun s=>decide (((p:Nat):Int)∈s)) ss.length;refine cI ?_;show(bD n).getD p 0*(ov:Int)<=j4 ov (((gO ss ov Y).filter fun q=>decide (((p:Nat):Int)∈q.1)).map (·.2));unfold gO;rw[b];unfold nM at a;rw[HY];exact a
 ·have b:=wU (ss:=ss) h.pos h.yn (fun _=>true) ss.length;rw[List.filter_eq_self.mpr (fun _ _=>rfl)]at b;have b':j4 ov ((gO ss ov Y).map (·.2))=Z:=by
   unfold gO;rw[b,<-h.tot];exact Sx.aV _ fun k _=>au rfl
  rw[b',(Af Z h.pos).eq];exact cI (pF _)
theorem dM.told{n:Nat}{ts:L0}{ss:List (List Int)}{ov:Nat}{Z:Int}{Y X:Nat->Int}{t:Int}{la pa:Addr}(hp:aG (n:Int) ts)(hn:n<=10)(hS:bw ss ts false n)(h:Sh n ss (bD n) ov Z Y X):dM ⟨n,ts,t,gO ss ov Y,ov,aO Z ov,fB n ov X,la,pa⟩:=
 ⟨Qm h,fun q hq=>by
  obtain⟨k,hk,rfl⟩:=iK.mp (show q∈gO ss ov Y from hq);exact wQ _ h.pos h.big,(Ci hp hn hS h).len,⟨ss,ov,Z,Y,X,hS,h,rfl⟩,⟨ss,ov,Z,Y,X,hS,h,rfl,rfl⟩,Lz hp hn hS h⟩
theorem anew{n n':Int}{ts ts':L0}{l:List (List Int×(Int×Nat))}{D:Nat}{f f':Int×Nat}(hD:0<D)(n0:0<=n)(n1:0<=n')(h:oY n ts (bD n.toNat) D (l.map sV) f.1 f.2=true)(h':oY n' ts' (bD n'.toNat) D (l.map sV) f'.1 f'.2=true):n'=n:=by
 have key:∀{a b:Int} {ts ts':L0} {f f':Int×Nat},0<=a->0<=b->oY a ts (bD a.toNat) D (l.map sV) f.1 f.2=true->oY b ts' (bD b.toNat) D (l.map sV) f'.1 f'.2=true->b<=a:=by
  intro a b ts ts' f f' a0 b0 ha hb;unfold oY at ha hb;rw[jL,lZ,lZ]at ha hb;refine Int.not_lt.mp fun lt=> ?_;have g:=pH.mp (show(List.range (bD b.toNat).length).all _=true from hb.2.1) a.toNat (pJ.mpr (by rw[show(bD b.toNat).length=b.toNat from RN];omega));unfold Cm at g;have g2:=cR g;rw[Oh (by omega),show((a.toNat:Nat):Int)=a by omega]at g2;have la:=ha.1;unfold layB at la;rw[lZ,Vr,pH]at la;have fe:l.filter (fun q=>decide (a∈q.1))=[]:=ZC.mpr fun q hq hc=>by
   obtain⟨q',e,hG⟩:=JT (la.1 q hq);have e':q=q':=by rw[<-sy q,<-sy q',e]
   have:=hG.lt a (e'▸cR hc);omega
  rw[fe]at g2;have:(1:Int)*(D:Int)<=0:=g2;omega
 exact wep (key n0 n1 h h') (key n1 n0 h' h)
theorem rF:∀{l m:L0},l.Pairwise iQ->m.Pairwise iQ->(∀p,p∈l↔p∈m)->l=m
 |[],[],_,_,_=>rfl
 |[],b::m,_,_,h=>nomatch (h b).mpr jx
 |a::l,[],_,_,h=>nomatch (h a).mp jx
 |a::l,b::m,hl,hm,h=>by
  obtain⟨l1,l2⟩:=QC.mp hl;obtain⟨m1,m2⟩:=QC.mp hm;have e:a=b:=by
   rcases cW.mp ((h a).mp jx)with e|e
   ·exact e
   ·rcases cW.mp ((h b).mpr jx)with e2|e2
    ·exact e2.symm
    ·exact absurd (iQ.trans (m1 a e) (l1 b e2)) iQ.Ig
  subst e;congr 1;refine rF l2 m2 fun p=>⟨fun hp=> ?_,fun hp=> ?_⟩
  ·rcases cW.mp ((h p).mp (jy _ hp))with e|e
   ·exact absurd (e▸l1 p hp) iQ.Ig
   ·exact e
  ·rcases cW.mp ((h p).mpr (jy _ hp))with e|e
   ·exact absurd (e▸m1 p hp) iQ.Ig
   ·exact e
theorem DQ{K:W.Frag}{H:Hp}{its:List (Addr×(Int×Int))}{its':List (Addr×List Int)}{n:Int}{t1 wb:Addr}(h0:0<=n)(h1:n<=10)(hq:aG n (its.map (·.2)))(hperm:its'.Perm (its.map fun p=>(p.1,pl p.2)))(oK:its'.Pairwise fun p q=>HT.lexLt q.2 p.2=false)(e3:∀p∈its,SqT K H p.1 ((pl p.2).map V.int))(zy:SqT K H wb [.int n,.ref t1])(ht1:SqT K H t1 (its'.map fun p=>V.ref p.1)):∃us,aJ K H wb n us/\us.Perm (its.map (·.2)):=by
 let un:List Int->Int×Int:=fun l=>(l.getD 0 0,l.getD 1 0);have back:∀p∈its',∃q∈its,p=(q.1,pl q.2):=fun p hp=>by
  obtain⟨q,hq,e⟩:=iK.mp (hperm.mem_iff.mp hp);exact⟨q,hq,e.symm⟩
 have pts:(its'.map fun p=>un p.2).Perm (its.map (·.2)):=by
  have h1:=hperm.map (fun p:Addr×List Int=>un p.2);rw[vh]at h1;have h2:its.map ((fun p:Addr×List Int=>un p.2)∘fun p=>(p.1,pl p.2))=its.map (·.2):=rfl;rw[h2]at h1;exact h1
 have pok:=hq.perm pts;have Xg:(its'.map fun p=>un p.2).Pairwise fun p q=>HT.lexLt (pl q) (pl p)=false:=by
  rw[Nr];refine oK.imp_of_mem fun{x y} hx hy hxy=> ?_;obtain⟨qx,_,rfl⟩:=back x hx;obtain⟨qy,_,rfl⟩:=back y hy;exact hxy
 refine⟨its'.map fun p=>un p.2,⟨⟨t1,its'.map (fun p=>V.ref p.1),zy,ht1,?_⟩,h0,h1,pok,Bb h0 h1 pok Xg⟩,pts⟩;have h1:=iD (K:=K) (H:=H) (its'.map fun p=>(p.1,un p.2)) (fun p hp=>by
  obtain⟨p',hp',rfl⟩:=iK.mp hp;obtain⟨q',hq',rfl⟩:=back p' hp';exact e3 q' hq')
 have h2:(its'.map fun p=>(p.1,un p.2)).map (fun p=>V.ref p.1)=its'.map fun p=>V.ref p.1:=by rw[vh];rfl
 have h3:(its'.map fun p=>(p.1,un p.2)).map (·.2)=its'.map fun p=>un p.2:=by rw[vh];rfl
 rw[h2,h3]at h1;exact h1
section
variable{P:ξ}{w:τ}{K:W.Frag}{mg:L4}{base:Heap}
theorem tu(f:Str)(v:V):∀fs:List (Str×V),(putF f v fs).length<=fs.length+1
 |[]=>aR _
 |(g,x)::r=>by
  unfold putF;split
  ·exact MK _
  ·exact Nat.succ_le_succ (tu f v r)
theorem Qs.same{C o dx wb va:Addr}{lr pr:List V}{H H':Hp}{S:Sd}(h:Qs K C H o dx wb va lr pr S)(e:Same H H'):Qs K C H' o dx wb va lr pr S:=by
 obtain⟨h1,h2,h3,h4,h5,h6,h7⟩:=h;exact⟨e _ _ h1,h2.same e,e.tup h3,e _ _ h4,h5.same e,e _ _ h6,h7.same e⟩
noncomputable def nY(K:W.Frag)(C:Addr):Sp:=fun vs H Q _=>∃(o dx wb tp va la pa:Addr) (fs:List (Str×V)),vs=[.ref o,.ref wb,.ref tp]/\H o=some (.ins C dx fs)/\fs.length<=5/\SqT K H tp [.ref va,.ref la,.ref pa]/\
 Q .non (upd H o (.ins C dx (putF "kept_prices" (.ref pa) (putF "kept_value" (.ref va) (putF "kept_web" (.ref wb) fs)))))
theorem Kh{f C:Addr}{fd:ρ}(F:Fun K "keep" "Sharing.keep" Zm f fd)
  (Na:zZ K C):
  FnOk P w K mg base CX0 1 f fd ["self","web","told"] (nY K C):=by
 refine F.cG ["self","web","told"] fun cdv A outer s H vs Q E hr h=> ?_;obtain⟨o,dx,wb,tp,va,la,pa,fs,rfl,hO,h5,hT,qq⟩:=h;refine bA ?_;intro Y;refine⟨_,(aM (ps_fld (pv 0) (pv 1) rfl) (aM (ps_fld (pv 0) (aP bZ (pv 2) aB) rfl) (aX (ps_fld (pv 0) (aP bZ (pv 2) aB) rfl)))),?_⟩;refine oN ?_;intro c3 c2;have l1:=tu "kept_web" (.ref wb) fs;have l2:=tu "kept_value" (.ref va) (putF "kept_web" (.ref wb) fs);refine⟨_,rfl,_,rfl,o,C,dx,fs,rfl,hO,Na.c,Na.wb,by omega,?_⟩;refine⟨_,rfl,tp,_,_,.ref va,rfl,rfl,SqT.Gm hO hT,rfl,_,rfl,o,C,dx,_,rfl,aA,Na.c,Na.va,by omega,?_⟩;refine⟨_,rfl,tp,_,_,.ref pa,rfl,rfl,SqT.Gm aA (SqT.Gm hO hT),rfl,_,rfl,o,C,dx,_,rfl,aA,Na.c,Na.pr,by omega,?_⟩;rw[upd_upd,upd_upd];exact qq
noncomputable def qp(S S':Sd)(H:Hp):Prop:=(S'.la=S.la\/H S'.la=none)/\H S'.pa=none/\((S'.t=S.t/\S'.l=S.l/\S'.D=S.D/\oY S'.n S'.ts (bD S'.n.toNat) S.D (S.l.map sV) S'.f.1 S'.f.2=true)\/(S'.t=S.t+1/\oY S'.n S'.ts (bD S'.n.toNat) S.D (S.l.map sV) S'.f.1 S'.f.2=false))
noncomputable def nW(K:W.Frag)(C:Addr):Sp:=fun vs H Q _=>∃(o wb:Addr) (S:Sd) (n:Int) (ts:L0),vs=[.ref o,.ref wb]/\cU K C H o S/\dM S/\aJ K H wb n ts/\
 ∀S' H',aD o H H'->cU K C H' o S'->dM S'->S'.n=n->S'.ts=ts->qp S S' H->Q .non H'
theorem Kg{f f1 f2 f3 f4 C:Addr}{fd d1 d2 d3 d4:ρ}(F:Fun K "move_to" "Sharing.move_to" Vp f fd)
  (Na:zZ K C)(D1:bJ K mg "shares" jN ["web","wants"] f1 d1)(G1:FnOk P w K mg base CX0 9 f1 d1 ["web","wants"] (nU K))(D2:bJ K mg "ones_for" iY ["web"] f2 d2)(G2:FnOk P w K mg base CX0 1 f2 d2 ["web"] (Bo K))(D3:bJ K mg "is_enough" gG ["web","wants","laying","number"] f3 d3)(G3:FnOk P w K mg base CX0 9 f3 d3 ["web","wants","laying","number"] (Bp K))(D4:lM K C "keep" "Sharing.keep" Zm ["self","web","told"] f4 d4)(Y4:FnOk P w K mg base CX0 1 f4 d4 ["self","web","told"] (nY K C)):
  FnOk P w K mg base CX0 11 f fd ["self","web"] (nW K C):=by
 have G4:FnOk P w K mg base CX0 10 f4 d4 ["self","web","told"] (nY K C):=Y4.mono (by decide);refine F.cG ["self","web","told"] fun cdv A outer s H vs Q E hr h=> ?_;obtain⟨o,wb,S,n,ts,rfl,hS,hok,hW,qq⟩:=h;refine bA ?_;intro Y;refine⟨_,(aM (pS 2 (pc G1 hr D1 (aj (pv 1) (aj (pc G2 hr D2 (aj (pv 1) ak)) ak)))) (aM (fJ (pI (nJ (pc G3 hr D3 (aj (pv 1) (aj (pc G2 hr D2 (aj (pv 1) ak)) (aj (gB (pv 0) rfl) (aj (aP bZ (pv 2) aB) ak))))))) (aM (ps_fld (pv 0) (aP bZ (pv 2) aB) rfl) (aX (ps_fldaug (pv 0) aB in_add))) gC) (aX (lY (uJ (pv 0) Na.c D4.m G4 hr D4.b .nil pass0 (aj (pv 1) (aj (pv 2) ak))))))),?_⟩;refine oN ?_;intro c3 c2;obtain⟨m,rfl⟩:=wbx hW.h0;have h0:=hW.h0;have h1:=hW.h1;have hp:aG ((m:Nat):Int) ts:=hW.pk;obtain⟨t0,Xb,w1,_,_⟩:=id hW.web;obtain⟨dx,wb0,va0,lr0,pr0,A⟩:=id hS;refine⟨_,rfl,_,rfl,wb,_,_,rfl,w1,h0,h1,fun wa H1 s1 hwa=> ?_⟩;have A1:=A.same s1;refine⟨wb,wa,_,ts,bD m,rfl,hW.same s1,hwa,iy h0,fun tp va la pa lr pr ss ov Z Y X H2 s2 e1 e2 e3 e4 e5 e6 hSo hSh nl np nlp=> ?_⟩;have nlo:la≠o:=dF A1.at_ nl;have Xk:pa≠o:=dF A1.at_ np;have nl0:=s1.free nl;have np0:=s1.free np;have K7:bw ss ts false m:=hSo;have Ck:Sh m ss (bD m) ov Z Y X:=hSh;have s12:=s1.trans s2;refine⟨_,rfl,_,rfl,wb,_,_,rfl,s12.tup w1,h0,h1,fun wa2 H3 s3 aaz=> ?_⟩;have A3:=(A.same s12).same s3;have nH:=s12.trans s3;have lf:=Af Z Ck.pos;have big:=Ck.big;refine⟨_,rfl,o,C,dx,_,_,rfl,A3.at_,Na.c,Na.la,rfl,_,rfl,tp,_,_,.ref va,rfl,rfl,SqT.of (s3 _ _ e1),rfl,?_⟩;refine⟨wb,wa2,S.la,va,_,ts,bD m,lr0,S.l.map sV,S.D,(aO Z ov).1,(aO Z ov).2,rfl,hW.same nH,aaz,iy h0,SqL.of A3.lay,Cj A3.lv,?_,s3.tup e2,?_,(fun _=>by rw[jL];exact hok.dok),fun H4 s4=>⟨_,rfl,?_⟩⟩
 ·have:=RV A3.lv;have:=hok.len;omega
 ·have:=lf.lv;omega
 have A4:=A3.same s4;have Gs:=nH.trans s4;have W4:=hW.same Gs;have Bw:=s3.trans s4;have T4:SqT K H4 tp [.ref va,.ref la,.ref pa]:=SqT.of (Bw _ _ e1);have x5:∀u,aD o H4 (upd H4 o u):=fun u=>(aD.refl _ _).upd;have pan:∀u,(upd H4 o u) pa=some (.lst pr):=fun u=>by rw[cP Xk];exact Bw _ _ e5
 have lao:S.la≠o:=fun z=>by have a:=A4.lay;rw[z,A4.at_]at a;cases a
 cases hb:oY ((m:Nat):Int) ts (bD m) S.D (S.l.map sV) (aO Z ov).1 (aO Z ov).2 with
 |true=>
  refine iteF ?_;refine⟨_,rfl,o,dx,_,rfl,A4.at_,rfl,_,rfl,_,rfl,o,dx,wb,tp,va,la,pa,_,rfl,A4.at_,(by show 5<=5;decide),T4,?_⟩;have k:TK K H4 (upd H4 o (.ins C dx (yJ (.ref S.la) (.int S.t) (.ref wb) (.ref va) (.ref pa)))):=(x5 _).R3 A4.at_;refine qq ⟨m,ts,S.t,S.l,S.D,aO Z ov,fB m ov X,S.la,pa⟩ _ ((Gs.x o).trans (x5 _)) ⟨dx,wb,va,lr0,pr,aA,W4.tk k,k _ _ (Bw.tup e2),?_,A4.lv.tk k,pan _,(e6.same Bw).tk k⟩ ⟨hok.dok,hok.low,hok.len,⟨ss,ov,Z,Y,X,K7,Ck,rfl⟩,⟨ss,ov,Z,Y,X,K7,Ck,rfl,rfl⟩,hb⟩ rfl rfl ⟨.inl rfl,np0,.inl ⟨rfl,rfl,rfl,hb⟩⟩;show(upd H4 o _) S.la=_;rw[cP lao];exact A4.lay
 |false=>
  refine iteT ?_;refine⟨_,rfl,tp,_,_,.ref la,rfl,rfl,T4,rfl,_,rfl,o,C,dx,_,rfl,A4.at_,Na.c,Na.la,(by show 5<1000;decide),?_⟩;refine⟨_,rfl,o,C,dx,_,_,rfl,aA,Na.c,Na.ti,rfl,_,_,rfl,rfl,dx,_,aA,(by show 5<1000;decide),?_⟩;rw[upd_upd];refine⟨_,rfl,o,dx,_,rfl,aA,rfl,_,rfl,_,rfl,o,dx,wb,tp,va,la,pa,_,rfl,aA,(by show 5<=5;decide),SqT.Gm A4.at_ T4,?_⟩;rw[upd_upd];have k:TK K H4 (upd H4 o (.ins C dx (yJ (.ref la) (.int (S.t+1)) (.ref wb) (.ref va) (.ref pa)))):=(x5 _).R3 A4.at_;refine qq ⟨m,ts,S.t+1,gO ss ov Y,ov,aO Z ov,fB m ov X,la,pa⟩ _ ((Gs.x o).trans (x5 _)) ⟨dx,wb,va,lr,pr,aA,W4.tk k,k _ _ (Bw.tup e2),?_,(e4.same Bw).tk k,pan _,(e6.same Bw).tk k⟩ (dM.told hp (by omega) K7 Ck) rfl rfl ⟨.inr nl0,np0,.inr ⟨rfl,hb⟩⟩;show(upd H4 o _) la=_;rw[cP nlo];exact Bw _ _ e3
noncomputable def Bm(K:W.Frag)(C:Addr):Sp:=fun vs H Q _=>∃(o dx wb:Addr) (n:Int) (ts:L0),vs=[.ref o,.ref wb]/\H o=some (.ins C dx [])/\aJ K H wb n ts/\
 ∀S H',aD o H H'->cU K C H' o S->dM S->S.n=n->S.ts=ts->S.t=0->H S.la=none->H S.pa=none->Q .non H'
theorem Ox{f f1 f2 f3 f4 C:Addr}{fd d1 d2 d3 d4:ρ}(F:Fun K "__init__" "Sharing.__init__" fW f fd)
  (Na:zZ K C)(D1:bJ K mg "need_web" Nj ["thing"] f1 d1)(G1:FnOk P w K mg base CX0 7 f1 d1 ["thing"] (dh K))(D2:bJ K mg "shares" jN ["web","wants"] f2 d2)(G2:FnOk P w K mg base CX0 9 f2 d2 ["web","wants"] (nU K))(D3:bJ K mg "ones_for" iY ["web"] f3 d3)(G3:FnOk P w K mg base CX0 1 f3 d3 ["web"] (Bo K))(D4:lM K C "keep" "Sharing.keep" Zm ["self","web","told"] f4 d4)(Y4:FnOk P w K mg base CX0 1 f4 d4 ["self","web","told"] (nY K C)):
  FnOk P w K mg base CX0 12 f fd ["self","web"] (Bm K C):=by
 have G4:FnOk P w K mg base CX0 11 f4 d4 ["self","web","told"] (nY K C):=Y4.mono (by decide);refine F.cG ["self","web","told"] fun cdv A outer s H vs Q E hr h=> ?_;obtain⟨o,dx,wb,n,ts,rfl,hO,hW,qq⟩:=h;refine bA ?_;intro Y;refine⟨_,(aM (lY (pc G1 hr D1 (aj (pv 1) ak))) (aM (pS 2 (pc G2 hr D2 (aj (pv 1) (aj (pc G3 hr D3 (aj (pv 1) ak)) ak)))) (aM (ps_fld (pv 0) (aP bZ (pv 2) aB) rfl) (aM (ps_fld (pv 0) aB rfl) (aX (lY (uJ (pv 0) Na.c D4.m G4 hr D4.b .nil pass0 (aj (pv 1) (aj (pv 2) ak))))))))),?_⟩;refine Fp ?_;intro c5 c4 c3 c2;obtain⟨m,rfl⟩:=wbx hW.h0;have h0:=hW.h0;have h1:=hW.h1;have hp:aG ((m:Nat):Int) ts:=hW.pk;obtain⟨t0,Xb,w1,_,_⟩:=id hW.web;refine⟨_,rfl,.ref wb,_,rfl,hW.web.dv.dx,hW.ok,fun H0 s0=> ?_⟩;refine⟨_,rfl,_,rfl,wb,_,_,rfl,s0.tup w1,h0,h1,fun wa H1 s1' hwa=> ?_⟩;have s1:=s0.trans s1';refine⟨wb,wa,_,ts,bD m,rfl,hW.same s1,hwa,iy h0,fun tp va la pa lr pr ss ov Z Y X H2 s2 e1 e2 e3 e4 e5 e6 hSo hSh nl np nlp=> ?_⟩;have nlo:la≠o:=dF (s1 _ _ hO) nl;have Xk:pa≠o:=dF (s1 _ _ hO) np;have K7:bw ss ts false m:=hSo;have Ck:Sh m ss (bD m) ov Z Y X:=hSh;have s12:=s1.trans s2;have hO2:=s12 _ _ hO;have T2:SqT K H2 tp [.ref va,.ref la,.ref pa]:=SqT.of e1;refine⟨_,rfl,tp,_,_,.ref la,rfl,rfl,T2,rfl,_,rfl,o,C,dx,_,rfl,hO2,Na.c,Na.la,(by show 0<1000;decide),?_⟩;refine⟨_,rfl,o,C,dx,_,rfl,aA,Na.c,Na.ti,(by show 1<1000;decide),?_⟩;rw[upd_upd];refine⟨_,rfl,o,dx,_,rfl,aA,rfl,_,rfl,_,rfl,o,dx,wb,tp,va,la,pa,_,rfl,aA,(by show 2<=5;decide),SqT.Gm hO2 T2,?_⟩;rw[upd_upd];have x5:aD o H2 (upd H2 o (.ins C dx (yJ (.ref la) (.int 0) (.ref wb) (.ref va) (.ref pa)))):=(aD.refl _ _).upd;have k:TK K H2 (upd H2 o (.ins C dx (yJ (.ref la) (.int 0) (.ref wb) (.ref va) (.ref pa)))):=x5.R3 hO2;refine qq ⟨m,ts,0,gO ss ov Y,ov,aO Z ov,fB m ov X,la,pa⟩ _ ((s12.x o).trans x5) ⟨dx,wb,va,lr,pr,aA,(hW.same s12).tk k,k _ _ e2,?_,e4.tk k,?_,e6.tk k⟩ (dM.told hp (by omega) K7 Ck) rfl rfl rfl (s1.free nl) (s1.free np)
 ·show(upd H2 o _) la=_;rw[cP nlo];exact e3
 ·show(upd H2 o _) pa=_;rw[cP Xk];exact e5
theorem qp.back{S S':Sd}{H H1:Hp}(e:Same H H1)(h:qp S S' H1):qp S S' H:=⟨h.1.imp id e.free,e.free h.2.1,h.2.2⟩
theorem rZ{n:Int}{ts:L0}(h0:0<=n)(h1:n<=10)(hs:ts.Pairwise iQ)(hl:∀p∈ts,0<=p.1/\p.1<p.2/\p.2<n):aG n ts/\zY n ts:=by
 have ho:aG n ts:=⟨pZ hs,hl⟩;exact⟨ho,Bb h0 h1 ho (hs.imp Fg)⟩
theorem yu{n i:Nat}(h:i<n):(upto n).getD i 0=(i:Int):=by
 unfold upto;rw[iR,dY,RL h];rfl
theorem IW(n:Nat):(upto n).length=n:=by unfold upto;rw[aH,vm]
theorem Gq(n:Nat):eX n=(upto n).map V.int:=by unfold eX upto;rw[vh];rfl
theorem Mf{n:Int}{ts:L0}(hp:aG n ts)(hs:ts.Pairwise iQ)(k:Nat):rows (Sq (upto k) ts) (k:Int) k=ts.filter fun p=>decide (p.2<(k:Int)):=by
 refine rF (Rw _ _ _) (hs.filter _) fun p=> ?_;rw[Ng,eN,QS];have key:0<=p.1->p.1<p.2->p.2<(k:Int)->(Sq (upto k) ts p.1 p.2=true↔p∈ts):=fun a b c=>by
  unfold Sq mW;rw[yu (show p.1.toNat<k by omega),yu (show p.2.toNat<k by omega),QF a,QF (by omega),aq (by omega),au (by omega),QS]
 refine⟨fun⟨a,b,c,d,e⟩=>⟨(key a c d).mp e,d⟩,fun⟨a,b⟩=> ?_⟩;obtain⟨c,d,e⟩:=hp.lt p a;exact⟨c,by omega,d,b,(key c d b).mpr a⟩
noncomputable def sI(K:W.Frag)(C:Addr):Sp:=fun vs H Q _=>∃(o:Addr) (i j:Int) (S:Sd),vs=[.ref o,.int i,.int j]/\cU K C H o S/\0<=i/\i<S.n/\0<=j/\j<S.n/\i≠j/\Q .non H
theorem Oq{f f1 C:Addr}{fd d1:ρ}(F:Fun K "need_two" "Sharing.need_two" Zr f fd)
  (Na:zZ K C)(D1:bJ K mg "need_place" jc ["web","thing"] f1 d1)(G1:FnOk P w K mg base CX0 3 f1 d1 ["web","thing"] (qG K)):
  FnOk P w K mg base CX0 4 f fd ["self","one","other"] (sI K C):=by
 refine F.cG ["self","one","other"] fun cdv A outer s H vs Q E hr h=> ?_;obtain⟨o,i,j,S,rfl,hS,i0,i1,j0,j1,ne,qq⟩:=h;refine bA ?_;intro Y;refine⟨_,(aM (lY (pc G1 hr D1 (aj (gB (pv 0) rfl) (aj (pv 1) ak)))) (aM (lY (pc G1 hr D1 (aj (gB (pv 0) rfl) (aj (pv 2) ak)))) (aX (fJ (dO op_eq (pv 1) (pv 2)) MF gC)))),?_⟩;refine oN ?_;intro c3 c2;obtain⟨dx,wb,va,lr,pr,A⟩:=id hS;obtain⟨t0,Xb,w1,_,_⟩:=id A.web.web;refine⟨_,rfl,o,C,dx,_,_,rfl,A.at_,Na.c,Na.wb,rfl,_,rfl,wb,S.n,i,_,rfl,w1,i0,i1,?_⟩;refine⟨_,rfl,o,C,dx,_,_,rfl,A.at_,Na.c,Na.wb,rfl,_,rfl,wb,S.n,j,_,rfl,w1,j0,j1,?_⟩;refine⟨_,rfl,_,rfl,rfl,_,rfl,?_⟩;rw[jK (show¬V.int i=V.int j from fun e=>ne (V.int.inj e))];exact iteF qq
noncomputable def putL(n:Int)(xs:List Int):L0:=xs.map fun x=>(x,n)
theorem J7{n:Int}{ts:L0}{xs:List Int}(h:aG n ts)(hx:iI n xs):aG (n+1) (ts++putL n xs):=by
 have lt:∀p∈putL n xs,0<=p.1/\p.1<n/\p.2=n:=fun p hp=>by
  obtain⟨x,hx',rfl⟩:=iK.mp hp;have:=hx.lt x hx';exact⟨this.1,this.2,rfl⟩
 refine⟨List.nodup_append.mpr ⟨h.nd,?_,fun x hx y hy e=> ?_⟩,fun p hp=> ?_⟩
 ·refine Nr.mpr (hx.v9.imp fun{a b} hab e=> ?_);have:=(Prod.mk.inj e).1;omega
 ·have a1:=h.lt x hx;have a2:=lt y hy;rw[e]at a1;omega
 ·rcases pL.mp hp with z|z
  ·have:=h.lt p z;omega
  ·have:=lt p z;omega
noncomputable def wg(K:W.Frag)(C:Addr):Sp:=fun vs H Q _=>∃(o sa:Addr) (S:Sd) (xs:List Int),vs=[.ref o,.ref sa]/\cU K C H o S/\dM S/\SqT K H sa (xs.map V.int)/\iI S.n xs/\S.n<10/\
 ∀S' H',aD o H H'->cU K C H' o S'->dM S'->S'.n=S.n+1->S'.ts.Perm (S.ts++putL S.n xs)->qp S S' H->Q (.int S.n) H'
theorem Ou{f f1 f2 f3 C:Addr}{fd d1 d2 d3:ρ}(F:Fun K "put" "Sharing.put" Zj f fd)
  (Na:zZ K C)(D1:bJ K mg "need_set" iZ ["web","thing"] f1 d1)(Qu:FnOk P w K mg base CX0 5 f1 d1 ["web","thing"] (kZ K))(D2:bJ K mg "need_few" mq ["n"] f2 d2)(G2':FnOk P w K mg base CX0 1 f2 d2 ["n"] (pR K))(D3:lM K C "move_to" "Sharing.move_to" Vp ["self","web"] f3 d3)(G3:FnOk P w K mg base CX0 11 f3 d3 ["self","web"] (nW K C))(aL:mg "tuple"=none)(eE:mg "sorted"=none)(dI:mg "list"=none):
  FnOk P w K mg base CX0 12 f fd ["self","ties"] (wg K C):=by
 have G1:FnOk P w K mg base CX0 11 f1 d1 ["web","thing"] (kZ K):=Qu.mono (by decide);have G2:FnOk P w K mg base CX0 11 f2 d2 ["n"] (pR K):=G2'.mono (by decide);refine F.cG ["self","ties","n","added"] fun cdv A outer s H vs Q E hr h=> ?_;obtain⟨o,sa,S,xs,rfl,hS,hok,hX,hx,h9,qq⟩:=h;refine bA ?_;intro Y;refine⟨_,(aM (lY (pc G1 hr D1 (aj (gB (pv 0) rfl) (aj (pv 1) ak)))) (aM (pS 2 (aP bZ (gB (pv 0) rfl) aB)) (aM (lY (pc G2 hr D2 (aj (bK nA (pv 2) aB) ak))) (aM (pX 3 ["place"] ["n"] [2] (Aj (pv 1)) (pG 0) pD (fu (aj (pv 0) (aj (pv 1) ak)))) (aM (lY (uJ (pv 0) Na.c D3.m G3 hr D3.b .nil pass0 (aj (fu (aj (bK nA (pv 2) aB) (aj (pT Du aL (aj (pB jk eE (aj (bK op_cat (pT call_list_of dI (aj (aP bZ (gB (pv 0) rfl) aB) ak)) (pv 3)) ak)) ak)) ak))) ak))) (aX (bM (pv 2)))))))),?_⟩;refine K5 ?_;intro c6 c5 c4 c3 c2;obtain⟨dx,wb,va,lr,pr,A⟩:=id hS;have h0:=A.web.h0;have h10:=A.web.h1;have Yc:=A.web.len;have hxl:=hx.len h10;obtain⟨t0,Xb,w1,_,_⟩:=id A.web.web;refine⟨_,rfl,o,C,dx,_,_,rfl,A.at_,Na.c,Na.wb,rfl,_,rfl,wb,S.n,_,_,_,rfl,w1,(DV.tup hX (cO.ints xs)).dx,hx.gD,fun H1 s1=> ?_⟩;have A1:=A.same s1;refine⟨_,rfl,o,C,dx,_,_,rfl,A1.at_,Na.c,Na.wb,rfl,wb,_,_,.int S.n,rfl,rfl,s1.tup w1,rfl,?_⟩;refine⟨_,rfl,_,_,rfl,rfl,_,rfl,by omega,?_⟩;have hX1:=s1.tup hX;refine⟨_,rfl,sa,_,rfl,hX1,fun hz=> ?_⟩;let mZ:Nat->List V->St->Hp->Prop:=fun i acc σ H'=>Same H1 H'/\cO K H' acc ((putL S.n (xs.take i)).map pairD)/\∃o,σ=[o,some (.int S.n)];refine Al (xs:=xs.map V.int) mZ ⟨Same.refl _,.nil,_,rfl⟩ (fun i acc σ H' _ p=>p.1.tup hX1) (fun i acc σ H' hi p=> ?_) hz (fun i x acc σ H' hx' p=> ?_) (fun acc σ H' p=> ?_)
 ·have:=p.2.1.len;unfold putL at this;rw[aH,aH,uH]at this;omega
 ·obtain⟨sm,hd,o',rfl⟩:=p;rw[dY]at hx';cases ex:xs[i]? with
  |none=>rw[ex]at hx';cases hx'
  |some x0=>
   rw[ex]at hx';cases hx';refine⟨_,rfl,_,rfl,(by show 2<=sizeLine;decide),fun q2 hq2=> ?_⟩;have n2:=aK hq2 (.tup [.int x0,.int S.n]);refine⟨sm.trans n2,?_,_,rfl⟩;have e:putL S.n (xs.take (i+1))=putL S.n (xs.take i)++[(x0,S.n)]:=by unfold putL;rw[vX,ex,cg];rfl
   rw[e,cg];exact(hd.same n2).append (.cons (.tup (SqT.of aA) (.cons (.int _) (.cons (.int _) .nil))) .nil)
 ·intro p1 hp1;obtain⟨sm,hd,_⟩:=p;rw[aH,rW]at hd;have n1:=aK hp1 (.lst acc);have hacc:(upd H' p1 (.lst acc)) p1=some (.lst acc):=aA;have hd1:=hd.same n1;have s2:=s1.trans (sm.trans n1);generalize (upd H' p1 (.lst acc))=G1 at *;have A2:=A.same s2;obtain⟨tt,rr,w1,w2,w3⟩:=id A2.web.web;obtain⟨its,rfl,iH,w4⟩:=eF w3;obtain⟨jq,Yy,Yx,jqT⟩:=eF hd1;have lits:its.length=S.ts.length:=by rw[<-iH,aH]
  have ljq:jq.length=xs.length:=by
   have:=jz List.length Yx;unfold putL at this;rw[aH,aH]at this;exact this
  refine⟨_,rfl,o,dx,_,rfl,A2.at_,rfl,_,rfl,_,_,rfl,rfl,?_⟩;refine⟨_,rfl,o,C,dx,_,_,rfl,A2.at_,Na.c,Na.wb,rfl,wb,_,_,.ref tt,rfl,rfl,w1,rfl,tt,_,rfl,.inr w2,fun l2 hl2=> ?_⟩;have n2:=aK hl2 (.lst (its.map fun p=>V.ref p.1));refine⟨_,rfl,l2,p1,_,_,rfl,rfl,aA,n2 _ _ hacc,by rw[Yy,aH,aH,iz];omega,fun l3 hl3=> ?_⟩;have n3:=aK hl3 (.lst ((its.map fun p=>V.ref p.1)++acc));have K4:(upd (upd G1 l2 (.lst (its.map fun p=>V.ref p.1))) l3 (.lst ((its.map fun p=>V.ref p.1)++acc))) l3=some (.lst ((its++jq).map fun p=>V.ref p.1)):=by rw[aA,Yy,cg]
  have n23:=n2.trans n3;generalize (upd (upd G1 l2 (.lst (its.map fun p=>V.ref p.1))) l3 (.lst ((its.map fun p=>V.ref p.1)++acc)))=G2 at *;have jT:∀p∈its++jq,SqT K G2 p.1 ((pl p.2).map V.int):=fun p hp'=>by
   rcases pL.mp hp' with z|z
   ·exact n23.tup (w4 p z)
   ·exact n23.tup (jqT p z)
  have M8:((its++jq).map (·.2))=S.ts++putL S.n xs:=by rw[cg,iH,Yx]
  have hq2:aG (S.n+1) ((its++jq).map (·.2)):=by
   rw[M8];exact J7 A.web.pk hx
  have ejl:(its++jq).length<=55:=by rw[rE];omega
  generalize its++jq=jts at *;refine⟨l3,jts.map (fun p=>(p.1,pl p.2)),rfl,by rw[vh];exact SqL.of K4,fun p hp'=> ?_,by rw[aH];omega,fun l4 its' Uv hperm oK=> ?_⟩
  ·obtain⟨p',hp'',rfl⟩:=iK.mp hp';exact⟨jT p' hp'',by unfold pl;simp⟩
  have n4:=aK Uv (.lst (its'.map fun p=>V.ref p.1));refine⟨l4,_,rfl,.inl ⟨SqL.of aA,fun t1 ht1=>⟨(by show 2<=sizeLine;decide),fun vY zy=> ?_⟩⟩⟩;have n5:=aK ht1 (.tup (its'.map fun p=>V.ref p.1));have n6:=aK zy (.tup [.int (S.n+1),.ref t1]);have n46:=n4.trans (n5.trans n6);obtain⟨us,W,J5⟩:=DQ (K:=K) (n:=S.n+1) (by omega) (by omega) hq2 hperm oK (fun p hp'=>n46.tup (jT p hp')) (SqT.of aA) (SqT.of (n6 _ _ aA));rw[M8]at J5;have n26:=s2.trans (n23.trans n46);refine⟨o,vY,S,S.n+1,us,rfl,hS.same n26,hok,W,fun S' H' x' hS' hok' en et hw=>⟨_,rfl,?_⟩⟩;exact qq S' H' ((n26.x o).trans x') hS' hok' en (by rw[et];exact J5) (hw.back n26)
noncomputable def Jw(K:W.Frag)(C:Addr):Sp:=fun vs H Q _=>∃(o:Addr) (i j:Int) (S:Sd),vs=[.ref o,.int i,.int j]/\cU K C H o S/\dM S/\0<=i/\i<S.n/\0<=j/\j<S.n/\i≠j/\(lo2 i j,hi2 i j)∉S.ts/\
 ∀S' H',aD o H H'->cU K C H' o S'->dM S'->S'.n=S.n->S'.ts.Perm (S.ts++[(lo2 i j,hi2 i j)])->qp S S' H->Q .non H'
theorem XC{i j n:Int}(i0:0<=i)(i1:i<n)(j0:0<=j)(j1:j<n)(ne:i≠j):0<=lo2 i j/\lo2 i j<hi2 i j/\hi2 i j<n:=by
 unfold lo2 hi2;split<;>split<;>omega
theorem Ot{f f1 f2 f3 f4 C:Addr}{fd d1 d2 d3 d4:ρ}(F:Fun K "tie" "Sharing.tie" gZ f fd)
  (Na:zZ K C)(D1:lM K C "need_two" "Sharing.need_two" Zr ["self","one","other"] f1 d1)(Qu:FnOk P w K mg base CX0 4 f1 d1 ["self","one","other"] (sI K C))(D2:bJ K mg "has_tie" fH ["web","one","other"] f2 d2)(G2':FnOk P w K mg base CX0 1 f2 d2 ["web","one","other"] (vH K))(D3:bJ K mg "as_tie" oh ["one","other"] f3 d3)(G3:FnOk P w K mg base CX0 1 f3 d3 ["one","other"] (JK K))(D4:lM K C "move_to" "Sharing.move_to" Vp ["self","web"] f4 d4)(G4:FnOk P w K mg base CX0 11 f4 d4 ["self","web"] (nW K C))(dI:mg "list"=none)(aL:mg "tuple"=none)(eE:mg "sorted"=none):
  FnOk P w K mg base CX0 12 f fd ["self","one","other"] (Jw K C):=by
 have G1:FnOk P w K mg base CX0 11 f1 d1 ["self","one","other"] (sI K C):=Qu.mono (by decide);have G2:FnOk P w K mg base CX0 11 f2 d2 ["web","one","other"] (vH K):=G2'.mono (by decide);refine F.cG ["self","one","other","ties"] fun cdv A outer s H vs Q E hr h=> ?_;obtain⟨o,i,j,S,rfl,hS,hok,i0,i1,j0,j1,ne,ht,qq⟩:=h;refine bA ?_;intro Y;refine⟨_,(aM (lY (uJ (pv 0) Na.c D1.m G1 hr D1.b .nil pass0 (aj (pv 1) (aj (pv 2) ak)))) (aM (fJ (nJ (pc G2 hr D2 (aj (gB (pv 0) rfl) (aj (pv 1) (aj (pv 2) ak))))) MF gC) (aM (pS 3 (bK op_cat (pT call_list_of dI (aj (aP bZ (gB (pv 0) rfl) aB) ak)) (pe_lst (aj (pc G3 hr D3 (aj (pv 1) (aj (pv 2) ak))) ak)))) (aX (lY (uJ (pv 0) Na.c D4.m G4 hr D4.b .nil pass0 (aj (fu (aj (aP bZ (gB (pv 0) rfl) aB) (aj (pT Du aL (aj (pB jk eE (aj (pv 3) ak)) ak)) ak))) ak))))))),?_⟩;refine vM ?_;intro c4 c3 c2;obtain⟨dx,wb,va,lr,pr,A⟩:=id hS;have h0:=A.web.h0;have h10:=A.web.h1;have Yc:=A.web.len;refine⟨_,rfl,o,dx,_,rfl,A.at_,rfl,_,rfl,_,rfl,o,i,j,S,rfl,hS,i0,i1,j0,j1,ne,?_⟩;refine⟨_,rfl,o,C,dx,_,_,rfl,A.at_,Na.c,Na.wb,rfl,_,rfl,_,rfl,wb,S.n,i,j,S.ts,rfl,A.web.web,fun H1 s1=>⟨_,rfl,?_⟩⟩;rw[show mW S.ts i j=false from jK ht];refine iteF ?_;have A1:=A.same s1;obtain⟨tt,rr,w1,w2,w3⟩:=id A1.web.web;obtain⟨its,rfl,iH,w4⟩:=eF w3;have lits:its.length=S.ts.length:=by rw[<-iH,aH]
 refine⟨_,rfl,o,C,dx,_,_,rfl,A1.at_,Na.c,Na.wb,rfl,wb,_,_,.ref tt,rfl,rfl,w1,rfl,tt,_,rfl,.inr w2,fun l2 hl2=> ?_⟩;have n2:=aK hl2 (.lst (its.map fun p=>V.ref p.1));refine⟨_,rfl,_,rfl,i,j,rfl,fun r H2 s2 hr2=>⟨(by show 1<=sizeLine;decide),fun l5 XS=> ?_⟩⟩;have n5:=aK XS (.lst [.ref r]);have hr5:=n5.tup hr2;have n25:=s2.trans n5;refine⟨l2,l5,_,_,rfl,rfl,n25 _ _ aA,aA,by rw[aH,iz];show _+1<=_;omega,fun l3 hl3=> ?_⟩;have n3:=aK hl3 (.lst ((its.map fun p=>V.ref p.1)++[.ref r]));have K4:(upd (upd H2 l5 (.lst [.ref r])) l3 (.lst ((its.map fun p=>V.ref p.1)++[.ref r]))) l3=some (.lst ((its++[(r,(lo2 i j,hi2 i j))]).map fun p=>V.ref p.1)):=by rw[aA,cg];rfl
 have n23:=n2.trans (n25.trans n3);have V1:=n3.tup hr5;generalize (upd (upd H2 l5 (.lst [.ref r])) l3 (.lst ((its.map fun p=>V.ref p.1)++[.ref r])))=G2 at *;have jT:∀p∈its++[(r,(lo2 i j,hi2 i j))],SqT K G2 p.1 ((pl p.2).map V.int):=fun p hp'=>by
  rcases pL.mp hp' with z|z
  ·exact n23.tup (w4 p z)
  ·rw[kO.mp z];exact V1
 have M8:((its++[(r,(lo2 i j,hi2 i j))]).map (·.2))=S.ts++[(lo2 i j,hi2 i j)]:=by rw[cg,iH];rfl
 have hq2:aG S.n ((its++[(r,(lo2 i j,hi2 i j))]).map (·.2)):=by
  rw[M8];refine⟨List.nodup_append.mpr ⟨A.web.pk.nd,QG _ _,fun x hx y hy e=> ?_⟩,fun p hp=> ?_⟩
  ·rw[e,kO.mp hy]at hx;exact ht hx
  ·rcases pL.mp hp with z|z
   ·exact A.web.pk.lt p z
   ·rw[kO.mp z];exact XC i0 i1 j0 j1 ne
 have ejl:(its++[(r,(lo2 i j,hi2 i j))]).length<=55:=by rw[rE];show _+1<=_;omega
 generalize its++[(r,(lo2 i j,hi2 i j))]=jts at *;have A3:=A1.same n23;obtain⟨t3,r3,x1,x2,x3⟩:=id A3.web.web;refine⟨_,rfl,o,dx,_,rfl,A3.at_,rfl,_,rfl,o,C,dx,_,_,rfl,A3.at_,Na.c,Na.wb,rfl,wb,_,_,.int S.n,rfl,rfl,x1,rfl,?_⟩;refine⟨_,rfl,l3,jts.map (fun p=>(p.1,pl p.2)),rfl,by rw[vh];exact SqL.of K4,fun p hp'=> ?_,by rw[aH];omega,fun l4 its' Uv hperm oK=> ?_⟩
 ·obtain⟨p',hp'',rfl⟩:=iK.mp hp';exact⟨jT p' hp'',by unfold pl;simp⟩
 have n4:=aK Uv (.lst (its'.map fun p=>V.ref p.1));refine⟨l4,_,rfl,.inl ⟨SqL.of aA,fun t1 ht1=>⟨(by show 2<=sizeLine;decide),fun vY zy=> ?_⟩⟩⟩;have n5:=aK ht1 (.tup (its'.map fun p=>V.ref p.1));have n6:=aK zy (.tup [.int S.n,.ref t1]);have n46:=n4.trans (n5.trans n6);obtain⟨us,W,J5⟩:=DQ (K:=K) (n:=S.n) h0 h10 hq2 hperm oK (fun p hp'=>n46.tup (jT p hp')) (SqT.of aA) (SqT.of (n6 _ _ aA));rw[M8]at J5;have n26:=s1.trans (n23.trans n46);refine⟨o,vY,S,S.n,us,rfl,hS.same n26,hok,W,fun S' H' x' hS' hok' en et hw=> ?_⟩;exact qq S' H' ((n26.x o).trans x') hS' hok' en (by rw[et];exact J5) (hw.back n26)
noncomputable def Jv(K:W.Frag)(C:Addr):Sp:=fun vs H Q _=>∃(o:Addr) (i j:Int) (S:Sd),vs=[.ref o,.int i,.int j]/\cU K C H o S/\dM S/\0<=i/\i<S.n/\0<=j/\j<S.n/\i≠j/\(lo2 i j,hi2 i j)∈S.ts/\
 ∀S' H',aD o H H'->cU K C H' o S'->dM S'->S'.n=S.n->S'.ts=(S.ts.filter fun p=> !decide (p=(lo2 i j,hi2 i j)))->qp S S' H->Q .non H'
theorem Oo{f f1 f2 f3 f4 C:Addr}{fd d1 d2 d3 d4:ρ}(F:Fun K "untie" "Sharing.untie" zdl f fd)
  (Na:zZ K C)(D1:lM K C "need_two" "Sharing.need_two" Zr ["self","one","other"] f1 d1)(Qu:FnOk P w K mg base CX0 4 f1 d1 ["self","one","other"] (sI K C))(D2:bJ K mg "has_tie" fH ["web","one","other"] f2 d2)(G2:FnOk P w K mg base CX0 1 f2 d2 ["web","one","other"] (vH K))(D3:bJ K mg "as_tie" oh ["one","other"] f3 d3)(G3:FnOk P w K mg base CX0 1 f3 d3 ["one","other"] (JK K))(D4:lM K C "move_to" "Sharing.move_to" Vp ["self","web"] f4 d4)(G4:FnOk P w K mg base CX0 11 f4 d4 ["self","web"] (nW K C))(aL:mg "tuple"=none):
  FnOk P w K mg base CX0 12 f fd ["self","one","other"] (Jv K C):=by
 have G1:FnOk P w K mg base CX0 11 f1 d1 ["self","one","other"] (sI K C):=Qu.mono (by decide);refine F.cG ["self","one","other","ties"] fun cdv A outer s H vs Q E hr h=> ?_;obtain⟨o,i,j,S,rfl,hS,hok,i0,i1,j0,j1,ne,ht,qq⟩:=h;refine bA ?_;intro Y;refine⟨_,(aM (lY (uJ (pv 0) Na.c D1.m G1 hr D1.b .nil pass0 (aj (pv 1) (aj (pv 2) ak)))) (aM (fJ (pI (nJ (pc G2 hr D2 (aj (gB (pv 0) rfl) (aj (pv 1) (aj (pv 2) ak)))))) MF gC) (aM (pX 3 ["tie"] ["one","other"] [1,2] (Aj (aP bZ (gB (pv 0) rfl) aB)) (pG 0) (Ak (dO (Et K hr.units) (pv 0) (pc G3 hr D3 (aj (pv 1) (aj (pv 2) ak))))) (pv 0)) (aX (lY (uJ (pv 0) Na.c D4.m G4 hr D4.b .nil pass0 (aj (fu (aj (aP bZ (gB (pv 0) rfl) aB) (aj (pT Du aL (aj (pv 3) ak)) ak))) ak))))))),?_⟩;refine vM ?_;intro c4 c3 c2;obtain⟨dx,wb,va,lr,pr,A⟩:=id hS;have h0:=A.web.h0;have h10:=A.web.h1;have Yc:=A.web.len;refine⟨_,rfl,o,dx,_,rfl,A.at_,rfl,_,rfl,_,rfl,o,i,j,S,rfl,hS,i0,i1,j0,j1,ne,?_⟩;refine⟨_,rfl,o,C,dx,_,_,rfl,A.at_,Na.c,Na.wb,rfl,_,rfl,_,rfl,wb,S.n,i,j,S.ts,rfl,A.web.web,fun H1 s1=>⟨_,rfl,?_⟩⟩;rw[show mW S.ts i j=true from cI ht];refine iteF ?_;have A1:=A.same s1;obtain⟨tt,rr,w1,w2,w3⟩:=id A1.web.web;obtain⟨its,rfl,iH,w4⟩:=eF w3;have lits:its.length=S.ts.length:=by rw[<-iH,aH]
 generalize hP:(lo2 i j,hi2 i j)=pp at *;refine⟨_,rfl,o,C,dx,_,_,rfl,A1.at_,Na.c,Na.wb,rfl,wb,_,_,.ref tt,rfl,rfl,w1,rfl,tt,_,rfl,w2,fun hz=> ?_⟩;let xQ:Nat->List V->St->Hp->Prop:=fun k acc σ H'=>acc=((its.take k).filter fun p=> !decide (p.2=pp)).map (fun p=>V.ref p.1)/\Same H1 H'/\∃o,σ=[o,some (.int i),some (.int j)];refine Al (xs:=its.map fun p=>V.ref p.1) xQ ⟨rfl,Same.refl _,_,rfl⟩ (fun i acc σ H' _ p=>by exact p.2.1.tup w2) (fun i acc σ H' hi p=> ?_) hz (fun k x acc σ H' hx p=> ?_) (fun acc σ H' p=> ?_)
 ·rw[p.1,aH];exact cQ (vo _ _) (by rw[uH];exact Av _ _)
 ·obtain⟨rfl,sm,o',rfl⟩:=p;rw[dY]at hx;cases ex:its[k]? with
  |none=>rw[ex]at hx;cases hx
  |some it=>
   rw[ex]at hx;cases hx;have hit:=w4 it (qQ ex);have go:(its.take (k+1)).filter (fun p=> !decide (p.2=pp))=(its.take k).filter (fun p=> !decide (p.2=pp))++(if(!decide (it.2=pp))=true then[it]else[]):=by
    rw[vX,ex,Dy];congr 1;show List.filter _ [it]=_;rw[Ax];rfl
   refine⟨_,rfl,_,rfl,_,rfl,i,j,rfl,fun r H5 s5 h5=> ?_⟩;refine⟨pairD it.2,pairD (lo2 i j,hi2 i j),.tup ((sm.trans s5).tup hit) (.cons (.int _) (.cons (.int _) .nil)),.tup h5 (.cons (.int _) (.cons (.int _) .nil)),rfl,rfl,(by show min (max 0 (max 0 0)+1) (max 0 (max 0 0)+1)<=64;decide),_,rfl,?_⟩;rw[j5,hP];refine ite2 (fun c=> ?_) (fun c=> ?_)
   ·exact⟨_,rfl,by rw[go,au c,cg];rfl,sm.trans s5,_,rfl⟩
   ·exact⟨by rw[go,aq c,Aw],sm.trans s5,_,rfl⟩
 intro p1 hp1;obtain⟨rfl,sm,_⟩:=p;rw[aH,rW];generalize zA:its.filter (fun p=> !decide (p.2=pp))=jts at *;have jm:jts.map (·.2)=S.ts.filter fun p=> !decide (p=pp):=by
  rw[<-zA,<-iH,wes];rfl
 have n1:=aK hp1 (.lst (jts.map fun p=>V.ref p.1));have sA:=sm.trans n1;have A2:=A1.same sA;obtain⟨t3,r3,x1,x2,x3⟩:=id A2.web.web;refine⟨_,rfl,o,dx,_,rfl,A2.at_,rfl,_,rfl,o,C,dx,_,_,rfl,A2.at_,Na.c,Na.wb,rfl,wb,_,_,.int S.n,rfl,rfl,x1,rfl,?_⟩;refine⟨_,rfl,p1,_,rfl,.inl ⟨SqL.of aA,fun t1 ht1=>⟨(by show 2<=sizeLine;decide),fun vY zy=> ?_⟩⟩⟩;have n2:=aK ht1 (.tup (jts.map fun p=>V.ref p.1));have n3:=aK zy (.tup [.int S.n,.ref t1]);have n13:=sA.trans (n2.trans n3);have Dv:=iD (K:=K) jts (fun p hp=>n13.tup (w4 p (by rw[<-zA]at hp;exact(eN.mp hp).1)));rw[jm]at Dv;have ok:=rZ (n:=S.n) h0 h10 (A.web.v9.filter _) fun p (hp:p∈S.ts.filter fun p=> !decide (p=pp))=>A.web.pk.lt p (eN.mp hp).1;have nH:=s1.trans n13;refine⟨o,vY,S,S.n,_,rfl,hS.same nH,hok,⟨⟨t1,_,SqT.of aA,SqT.of (n3 _ _ aA),Dv⟩,h0,h10,ok.1,ok.2⟩,fun S' H' x' hS' hok' en et hw=> ?_⟩;exact qq S' H' ((nH.x o).trans x') hS' hok' en et (hw.back nH)
noncomputable def Ea(K:W.Frag)(C:Addr):Sp:=fun vs H Q _=>∃(o:Addr) (S:Sd),vs=[.ref o]/\cU K C H o S/\dM S/\0<S.n/\
 ∀S' H',aD o H H'->cU K C H' o S'->dM S'->S'.n=S.n-1->S'.ts=(S.ts.filter fun p=>decide (p.2<S.n-1))->qp S S' H->Q .non H'
theorem Kl{f f1 f2 C:Addr}{fd d1 d2:ρ}(F:Fun K "drop" "Sharing.drop" fX f fd)
  (Na:zZ K C)(D1:lM K C "move_to" "Sharing.move_to" Vp ["self","web"] f1 d1)(G1:FnOk P w K mg base CX0 11 f1 d1 ["self","web"] (nW K C))(D2:bJ K mg "cut_down" mH ["web","some"] f2 d2)(G2:FnOk P w K mg base CX0 8 f2 d2 ["web","some"] (Q7 K))(aL:mg "tuple"=none)(aN:mg "range"=none):
  FnOk P w K mg base CX0 12 f fd ["self"] (Ea K C):=by
 refine F.cG ["self","n"] fun cdv A outer s H vs Q E hr h=> ?_;obtain⟨o,S,rfl,hS,hok,n0,qq⟩:=h;refine bA ?_;intro Y;refine⟨_,(aM (pS 1 (aP bZ (gB (pv 0) rfl) aB)) (aM (fJ (dO op_eq (pv 1) aB) MF gC) (aX (lY (uJ (pv 0) Na.c D1.m G1 hr D1.b .nil pass0 (aj (pc G2 hr D2 (aj (gB (pv 0) rfl) (aj (yR rfl rfl aL rfl aN (aj (bK op_sub (pv 1) aB) ak)) ak))) ak)))))),?_⟩;refine oN ?_;intro c3 c2;obtain⟨dx,wb,va,lr,pr,A⟩:=id hS;have h10:=A.web.h1;obtain⟨t0,Xb,w1,_,_⟩:=id A.web.web;refine⟨_,rfl,o,C,dx,_,_,rfl,A.at_,Na.c,Na.wb,rfl,wb,_,_,.int S.n,rfl,rfl,w1,rfl,?_⟩;refine⟨_,rfl,rfl,_,rfl,?_⟩;rw[jK (show¬V.int S.n=V.int 0 from fun e=>by have:=V.int.inj e;omega)];refine iteF ?_;refine⟨_,rfl,o,dx,_,rfl,A.at_,rfl,?_⟩;refine⟨_,rfl,o,C,dx,_,_,rfl,A.at_,Na.c,Na.wb,rfl,_,rfl,_,_,rfl,rfl,_,rfl,by omega,by omega,fun l hl=> ?_⟩;rw[Gq];obtain⟨k,ek⟩:=wbx (show 0<=S.n-1 by omega);have ek':(S.n-1).toNat=k:=by omega
 rw[ek'];have s1:=aK hl (.tup ((upto k).map V.int));have so:iI S.n (upto k):=by
  have a:=vZ ((k:Nat):Int);rw[Nt]at a;exact⟨a.v9,fun x hx=>by have:=a.lt x hx;omega⟩
 refine⟨wb,l,S.n,S.ts,upto k,rfl,(A.same s1).web,SqT.of aA,so,fun r H2 s2 hW=> ?_⟩;rw[IW,Nt,Mf A.web.pk A.web.v9]at hW;have ok:=rZ (n:=(k:Int)) (by omega) (by omega) (A.web.v9.filter _) fun p (hp:p∈S.ts.filter fun p=>decide (p.2<(k:Int)))=>by
  obtain⟨m1,m2⟩:=eN.mp hp;have:=A.web.pk.lt p m1;have:=cR m2;omega
 have s12:=s1.trans s2;refine⟨o,r,S,k,_,rfl,hS.same s12,hok,⟨hW,by omega,by omega,ok.1,ok.2⟩,fun S' H' x' hS' hok' en et hw=> ?_⟩;exact qq S' H' ((s12.x o).trans x') hS' hok' (by omega) (by rw[et,<-ek]) (hw.back s12)
theorem dM.lw{S:Sd}(h:dM S):Lw S.f:=by
 obtain⟨ss,ov,Z,Y,X,a,b,e⟩:=h.val;rw[e];exact wQ Z b.pos b.big
theorem dM.pl{S:Sd}(h:dM S):∀q∈S.ps,Lw q:=fun q hq=>by
 obtain⟨ss,ov,Z,Y,X,a,b,e,e2⟩:=h.Xh;rw[e2]at hq;obtain⟨k,hk,rfl⟩:=iK.mp hq;exact wQ _ b.pos b.big
noncomputable def Bj(K:W.Frag)(C:Addr):Sp:=fun vs H Q _=>∃(o:Addr) (S:Sd),vs=[.ref o]/\cU K C H o S/\∀r H',Same H H'->aJ K H' r S.n S.ts->Q (.ref r) H'
theorem Ol{f f1 C:Addr}{fd d1:ρ}(F:Fun K "web" "Sharing.web" gY f fd)
  (Na:zZ K C)(D1:bJ K mg "copy_of_web" gU ["web"] f1 d1)(G1:FnOk P w K mg base CX0 2 f1 d1 ["web"] (Q8 K)):
  FnOk P w K mg base CX0 3 f fd ["self"] (Bj K C):=by
 refine F.cG ["self"] fun cdv A outer s H vs Q E hr h=> ?_;obtain⟨o,S,rfl,hS,qq⟩:=h;refine⟨_,(aX (bM (pc G1 hr D1 (aj (gB (pv 0) rfl) ak)))),?_⟩;obtain⟨dx,wb,va,lr,pr,A⟩:=id hS;exact⟨_,rfl,o,C,dx,_,_,rfl,A.at_,Na.c,Na.wb,rfl,wb,S.n,S.ts,rfl,A.web,fun r H' s h=>qq r H' s h⟩
noncomputable def sH(K:W.Frag)(C:Addr):Sp:=fun vs H Q _=>∃(o:Addr) (S:Sd),vs=[.ref o]/\cU K C H o S/\dM S/\∀r H',Same H H'->m5 K H' r S.f->Q (.ref r) H'
theorem Om{f f1 C:Addr}{fd d1:ρ}(F:Fun K "value" "Sharing.value" Zn f fd)
  (Na:zZ K C)(D1:bJ K mg "copy_of_fraction" Wg ["fraction"] f1 d1)(G1:FnOk P w K mg base CX0 3 f1 d1 ["fraction"] (Ei K)):
  FnOk P w K mg base CX0 4 f fd ["self"] (sH K C):=by
 refine F.cG ["self"] fun cdv A outer s H vs Q E hr h=> ?_;obtain⟨o,S,rfl,hS,hok,qq⟩:=h;refine⟨_,(aX (bM (pc G1 hr D1 (aj (gB (pv 0) rfl) ak)))),?_⟩;obtain⟨dx,wb,va,lr,pr,A⟩:=id hS;exact⟨_,rfl,o,C,dx,_,_,rfl,A.at_,Na.c,Na.va,rfl,va,S.f,rfl,A.val,hok.lw,fun r H' s h=>qq r H' s h⟩
noncomputable def Bl(K:W.Frag)(C:Addr):Sp:=fun vs H Q _=>∃(o:Addr) (S:Sd),vs=[.ref o]/\cU K C H o S/\dM S/\∀r vs' H',Same H H'->H' r=some (.lst vs')->gq K H' vs' S.l->H r=none->Q (.ref r) H'
theorem Ow{f f1 f2 C:Addr}{fd d1 d2:ρ}(F:Fun K "laying" "Sharing.laying" zcz f fd)
  (Na:zZ K C)(D1:bJ K mg "copy_of_set" gW ["some"] f1 d1)(G1:FnOk P w K mg base CX0 1 f1 d1 ["some"] (Q9 K))(D2:bJ K mg "copy_of_fraction" Wg ["fraction"] f2 d2)(G2:FnOk P w K mg base CX0 3 f2 d2 ["fraction"] (Ei K)):
  FnOk P w K mg base CX0 4 f fd ["self"] (Bl K C):=by
 refine F.cG ["self"] fun cdv A outer s H vs Q E hr h=> ?_;obtain⟨o,S,rfl,hS,hok,qq⟩:=h;refine⟨_,(aX (bM (pK ["some","share"] [] [] (Ag (gB (pv 0) rfl)) (HS K (n:=2) rfl (nF (pG 0) (nF (pG 1) Ai))) pD (fu (aj (pc G1 hr D1 (aj (pv 0) ak)) (aj (pc G2 hr D2 (aj (pv 1) ak)) ak)))))),?_⟩;obtain⟨dx,wb,va,lr,pr,A⟩:=id hS;have hll:=RV A.lv;have h36:=hok.len;refine⟨_,rfl,o,C,dx,_,_,rfl,A.at_,Na.c,Na.la,rfl,S.la,_,rfl,SqL.of A.lay,fun hz=> ?_⟩;let mZ:Nat->List V->St->Hp->Prop:=fun i acc σ H'=>gq K H' acc (S.l.take i)/\Same H H'/\∃o1 o2,σ=[o1,o2];refine Am (xs:=lr) mZ ⟨.nil,Same.refl _,_,_,rfl⟩ (fun i acc σ H' _ p=>p.2.1.seq (SqL.of A.lay)) (fun i acc σ H' hi p=> ?_) hz (fun i x acc σ H' hx p=> ?_) (fun acc σ H' p=> ?_)
 ·have:=RV p.1;rw[uH]at this;omega
 ·obtain⟨hd,sm,o1,o2,rfl⟩:=p;have hi:i<S.l.length:=by rw[<-hll];exact(pO.mp hx).1
  obtain⟨q0,hq0,hR⟩:=Paired.at_ A.lv hx;rw[eO hi]at hq0;cases hq0;obtain⟨t,sa,fa,rfl,h1,h2,h3⟩:=hR;refine⟨t,_,rfl,sm.tup h1,rfl,_,_,rfl,_,_,rfl,rfl,?_⟩;refine⟨_,rfl,sa,_,rfl,sm.tup h2,fun r1 H1 s1 k1=> ?_⟩;refine⟨_,rfl,fa,S.l[i].2,rfl,(sm.trans s1).tup h3,hok.low _ (Ay hi),fun r2 H2 s2 k2=>⟨(by show 2<=sizeLine;decide),fun q hq=> ?_⟩⟩;have n1:=aK hq (.tup [.ref r1,.ref r2]);refine⟨?_,sm.trans (s1.trans (s2.trans n1)),_,_,rfl⟩;rw[vX,eO hi];exact Paired.snoc (hd.same (s1.trans (s2.trans n1))) ⟨q,r1,r2,rfl,SqT.of aA,(s2.trans n1).tup k1,n1.tup k2⟩
 ·intro p1 hp1;obtain⟨hd,sm,_⟩:=p;rw[hll,rW]at hd;have n1:=aK hp1 (.lst acc);exact qq p1 acc _ (sm.trans n1) aA (hd.same n1) (sm.free hp1)
noncomputable def Bk(K:W.Frag)(C:Addr):Sp:=fun vs H Q _=>∃(o:Addr) (S:Sd),vs=[.ref o]/\cU K C H o S/\dM S/\∀r vs' H',Same H H'->H' r=some (.lst vs')->dw K H' vs' S.ps->H r=none->Q (.ref r) H'
theorem Ov{f f1 C:Addr}{fd d1:ρ}(F:Fun K "prices" "Sharing.prices" zcy f fd)
  (Na:zZ K C)(D1:bJ K mg "copy_of_fraction" Wg ["fraction"] f1 d1)(G1:FnOk P w K mg base CX0 3 f1 d1 ["fraction"] (Ei K)):
  FnOk P w K mg base CX0 4 f fd ["self"] (Bk K C):=by
 refine F.cG ["self"] fun cdv A outer s H vs Q E hr h=> ?_;obtain⟨o,S,rfl,hS,hok,qq⟩:=h;refine⟨_,(aX (bM (pK ["price"] [] [] (Ag (gB (pv 0) rfl)) (pG 0) pD (pc G1 hr D1 (aj (pv 0) ak))))),?_⟩;obtain⟨dx,wb,va,lr,pr,A⟩:=id hS;have hll:=RV A.pv;refine⟨_,rfl,o,C,dx,_,_,rfl,A.at_,Na.c,Na.pr,rfl,S.pa,_,rfl,SqL.of A.Xh,fun hz=> ?_⟩;let xQ:Nat->List V->St->Hp->Prop:=fun i acc σ H'=>dw K H' acc (S.ps.take i)/\Same H H'/\∃o1,σ=[o1];refine Am (xs:=pr) xQ ⟨.nil,Same.refl _,_,rfl⟩ (fun i acc σ H' _ p=>p.2.1.seq (SqL.of A.Xh)) (fun i acc σ H' hi p=> ?_) hz (fun i x acc σ H' hx p=> ?_) (fun acc σ H' p=> ?_)
 ·have:=RV p.1;rw[uH]at this;omega
 ·obtain⟨hd,sm,o1,rfl⟩:=p;have hi:i<S.ps.length:=by rw[<-hll];exact(pO.mp hx).1
  obtain⟨q0,hq0,hR⟩:=Paired.at_ A.pv hx;rw[eO hi]at hq0;cases hq0;obtain⟨fa,rfl,h3⟩:=hR;refine⟨_,rfl,fa,S.ps[i],rfl,sm.tup h3,hok.pl _ (Ay hi),fun r2 H2 s2 k2=> ?_⟩;refine⟨?_,sm.trans s2,_,rfl⟩;rw[vX,eO hi];exact Paired.snoc (hd.same s2) ⟨r2,rfl,k2⟩
 ·intro p1 hp1;obtain⟨hd,sm,_⟩:=p;rw[hll,rW]at hd;have n1:=aK hp1 (.lst acc);exact qq p1 acc _ (sm.trans n1) aA (hd.same n1) (sm.free hp1)
noncomputable def Jx(K:W.Frag)(C:Addr):Sp:=fun vs H Q _=>∃(o:Addr) (S:Sd),vs=[.ref o]/\cU K C H o S/\Q (.int S.t) H
theorem TF{f C:Addr}{fd:ρ}(F:Fun K "again" "Sharing.again" eY f fd)
  (Na:zZ K C):
  FnOk P w K mg base CX0 1 f fd ["self"] (Jx K C):=by
 refine F.cG ["self"] fun cdv A outer s H vs Q E hr h=> ?_;obtain⟨o,S,rfl,hS,qq⟩:=h;refine⟨_,(aX (bM (gB (pv 0) rfl))),?_⟩;obtain⟨dx,wb,va,lr,pr,A⟩:=id hS;exact⟨_,rfl,o,C,dx,_,_,rfl,A.at_,Na.c,Na.ti,rfl,qq⟩
end
inductive iu where
 |put (xs:List Int)
 |drop
 |tie (i j:Int)
 |vA (i j:Int)
noncomputable def cV(K:W.Frag)(H:Hp)(a:Addr):iu->Prop
 | .put xs=>∃t,SqT K H a [.str "put",.ref t]/\SqT K H t (xs.map V.int)
 | .drop=>SqT K H a [.str "drop"]
 | .tie i j=>SqT K H a [.str "tie",.int i,.int j]
 | .vA i j=>SqT K H a [.str "untie",.int i,.int j]
theorem cV.tk{K:W.Frag}{H H':Hp}{a:Addr}(e:TK K H H'):∀{d:iu},cV K H a d->cV K H' a d
 | .put _,⟨t,h1,h2⟩=>⟨t,e _ _ h1,e _ _ h2⟩
 | .drop,h=>e _ _ h
 | .tie _ _,h=>e _ _ h
 | .vA _ _,h=>e _ _ h
noncomputable def dName:iu->Str
 | .put _=>"put"
 | .drop=>"drop"
 | .tie _ _=>"tie"
 | .vA _ _=>"untie"
theorem cV.name{K:W.Frag}{H:Hp}{a:Addr}:∀{d:iu},cV K H a d->∃r,SqT K H a (.str (dName d)::r)
 | .put _,⟨_,h1,_⟩=>⟨_,h1⟩
 | .drop,h=>⟨_,h⟩
 | .tie _ _,h=>⟨_,h⟩
 | .vA _ _,h=>⟨_,h⟩
noncomputable def Two(n i j:Int):Prop:=0<=i/\i<n/\0<=j/\j<n/\i≠j
noncomputable def HF(n:Int)(ts:L0):iu->Prop
 | .put xs=>iI n xs/\n<10
 | .drop=>0<n
 | .tie i j=>Two n i j/\(lo2 i j,hi2 i j)∉ts
 | .vA i j=>Two n i j/\(lo2 i j,hi2 i j)∈ts
noncomputable def Mq(n n':Int)(ts ts':L0):iu->Prop
 | .put xs=>n'=n+1/\∀p,p∈ts'↔p∈ts\/p∈putL n xs
 | .drop=>n'=n-1/\∀p,p∈ts'↔p∈ts/\p.2<n-1
 | .tie i j=>n'=n/\∀p,p∈ts'↔p∈ts\/p=(lo2 i j,hi2 i j)
 | .vA i j=>n'=n/\∀p,p∈ts'↔p∈ts/\p≠(lo2 i j,hi2 i j)
theorem Mq.uniq{n n1 n2:Int}{ts ts1 ts2:L0}{d:iu}(h:Mq n n1 ts ts1 d)(h':Mq n n2 ts ts2 d)(s1:ts1.Pairwise iQ)(s2:ts2.Pairwise iQ):n1=n2/\ts1=ts2:=by
 cases d<;>exact⟨h.1.trans h'.1.symm,rF s1 s2 fun p=>(h.2 p).trans (h'.2 p).symm⟩
noncomputable def dJ(n:Int)(ts:L0):List Int:=(ts.filter fun p=>decide (p.2=n)).map (·.1)
theorem Fl{n m:Int}{ts:L0}(hp:aG m ts)(hs:ts.Pairwise iQ):iI n (dJ n ts):=by
 refine⟨?_,fun x hx=> ?_⟩
 ·refine Nr.mpr ((hs.filter _).imp_of_mem fun{a b} ha hb hab=> ?_);have e1:=cR (eN.mp ha).2;have e2:=cR (eN.mp hb).2;rcases hab with h|⟨h,h'⟩
  ·exact h
  ·omega
 ·obtain⟨p,hq,rfl⟩:=iK.mp hx;obtain⟨h1,h2⟩:=eN.mp hq;have:=hp.lt p h1;have:=cR h2;omega
theorem tV{n:Int}{ts:L0}(p:Int×Int):p∈putL n (dJ n ts)↔p∈ts/\p.2=n:=by
 unfold putL dJ;rw[vh];refine⟨fun h=> ?_,fun⟨h1,h2⟩=>iK.mpr ⟨p,eN.mpr ⟨h1,cI h2⟩,by show(p.1,n)=p;rw[<-h2]⟩⟩;obtain⟨q,hq,e⟩:=iK.mp h;obtain⟨h1,h2⟩:=eN.mp hq;have e2:=cR h2;have:q=p:=by rw[<-e];show q=(q.1,n);rw[<-e2]
 exact⟨this▸h1,this▸e2⟩
noncomputable def undo(n:Int)(ts:L0):iu->iu
 | .put _=> .drop
 | .drop=> .put (dJ (n-1) ts)
 | .tie i j=> .vA j i
 | .vA i j=> .tie j i
theorem oJ(i j:Int):lo2 j i=lo2 i j:=by unfold lo2;split<;>split<;>omega
theorem oR(i j:Int):hi2 j i=hi2 i j:=by unfold hi2;split<;>split<;>omega
theorem Eo{n:Int}{xs:List Int}{p:Int×Int}(h:p∈putL n xs):p.2=n:=by
 obtain⟨x,_,rfl⟩:=iK.mp h;rfl
theorem Ja{n n':Int}{ts ts':L0}{d:iu}(hn:n<=10)(hp:aG n ts)(hs:ts.Pairwise iQ)(h0:0<=n)(hf:HF n ts d)(h:Mq n n' ts ts' d):HF n' ts' (undo n ts d)/\Mq n' n ts' ts (undo n ts d):=by
 cases d with
 |put xs=>
  obtain⟨rfl,h2⟩:=h;refine⟨show 0<n+1 by omega,⟨by omega,fun p=>⟨fun hq=>⟨(h2 p).mpr (.inl hq),by have:=hp.lt p hq;omega⟩,fun⟨ha,hb⟩=> ?_⟩⟩⟩;rcases(h2 p).mp ha with z|z
  ·exact z
  ·have:=Eo z;omega
 |drop=>
  obtain⟨rfl,h2⟩:=h;refine⟨⟨Fl hp hs,by omega⟩,⟨by omega,fun p=>⟨fun hq=> ?_,fun hq=> ?_⟩⟩⟩
  ·by_cases c:p.2<n-1
   ·exact .inl ((h2 p).mpr ⟨hq,c⟩)
   ·exact .inr ((tV p).mpr ⟨hq,by have:=hp.lt p hq;omega⟩)
  ·rcases hq with z|z
   ·exact((h2 p).mp z).1
   ·exact((tV p).mp z).1
 |tie i j=>
  obtain⟨rfl,h2⟩:=h;obtain⟨⟨a,b,c,e,f⟩,g⟩:=hf;refine⟨⟨⟨c,e,a,b,fun z=>f z.symm⟩,?_⟩,⟨rfl,fun p=> ?_⟩⟩
  ·rw[oJ,oR];exact(h2 _).mpr (.inr rfl)
  ·rw[oJ,oR];refine⟨fun hq=>⟨(h2 p).mpr (.inl hq),fun z=>g (z▸hq)⟩,fun⟨hq,z⟩=> ?_⟩;rcases(h2 p).mp hq with y|y
   ·exact y
   ·exact absurd y z
 |vA i j=>
  obtain⟨rfl,h2⟩:=h;obtain⟨⟨a,b,c,e,f⟩,g⟩:=hf;refine⟨⟨⟨c,e,a,b,fun z=>f z.symm⟩,?_⟩,⟨rfl,fun p=> ?_⟩⟩
  ·rw[oJ,oR];exact fun z=>((h2 _).mp z).2 rfl
  ·rw[oJ,oR];by_cases c:p=(lo2 i j,hi2 i j)
   ·exact⟨fun _=> .inr c,fun _=>c▸g⟩
   ·exact⟨fun hq=> .inl ((h2 p).mpr ⟨hq,c⟩),fun hq=>hq.elim (fun z=>((h2 p).mp z).1) fun z=>absurd z c⟩
theorem sG{ts us:L0}(h:∀p∈ts,p∈us){i j:Int}(t:aU ts i j=true):aU us i j=true:=by
 unfold aU at t⊢;rw[ZW]at t⊢;rcases t with t|t
 ·exact .inl (cI (h _ (cR t)))
 ·exact .inr (cI (h _ (cR t)))
theorem Ji{ts us:L0}{i j:Int}(h:∀p∈ts,(p=(i,j)\/p=(j,i))->p∈us)(t:aU ts i j=true):aU us i j=true:=by
 unfold aU at t⊢;rw[ZW]at t⊢;rcases t with t|t
 ·exact .inl (cI (h _ (cR t) (.inl rfl)))
 ·exact .inr (cI (h _ (cR t) (.inr rfl)))
theorem dN.both{n n':Int}{ts us:L0}{f g:Int×Nat}(hf:dN n ts f)(hg:dN n' us g)(hn:n.toNat<=n'.toNat)(p1:aG n ts)(p2:aG n' us)(sub:∀p∈ts,p∈us)(e:Nat)(he:e<n'.toNat)(hl:∀q,q<n'.toNat->q≠e->q<n.toNat)(but:∀p∈us,p.1≠(e:Int)->p.2≠(e:Int)->p∈ts):f.1*(g.2:Int)<=g.1*(f.2:Int)/\g.1*(f.2:Int)<=(f.1+(f.2:Int))*(g.2:Int):=by
 have a:=hg.cmp hf n.toNat 0 (by rw[aq (rD _)]) (nO p2) (fun q hq _=>by omega) (fun i j _ _ _ _ t=>sG sub t);have b:=hf.cmp hg e 1 (by rw[au he]) (nO p1) hl (fun i j _ _ hi hj t=>Ji (fun p hp h=>but p hp (by rcases h with h|h<;>rw[h]<;>dsimp only <;>omega) (by rcases h with h|h<;>rw[h]<;>dsimp only <;>omega)) t);rw[HX,Rx]at a;rw[Ao]at b;exact⟨a,b⟩
theorem dN.uniq{n:Int}{ts:L0}{f g:Int×Nat}(hf:dN n ts f)(hg:dN n ts g)(hp:aG n ts):f=g:=by
 have lw:∀{f},dN n ts f->Lw f:=fun h=>by
  obtain⟨ss,ov,Z,Y,X,a,b,rfl⟩:=h;exact wQ Z b.pos b.big
 have key:∀{f g},dN n ts f->dN n ts g->g.1*(f.2:Int)<=f.1*(g.2:Int):=fun{f g} hf hg=>by
  have a:=hf.cmp hg n.toNat 0 (by rw[aq (rD _)]) (nO hp) (fun q hq _=>hq) (fun i j _ _ _ _ t=>t);rw[HX,Rx]at a;exact a
 have cr:f.1*(g.2:Int)=g.1*(f.2:Int):=wep (key hg hf) (key hf hg);obtain⟨p1,_,c1⟩:=lw hf;obtain⟨p2,_,c2⟩:=lw hg;have d1:f.2∣g.2:=by
  have h1:f.2∣f.1.natAbs*g.2:=by
   have:=jz Int.natAbs cr;rw[RB,RB,RK,RK]at this;rw[this];exact wci _ _
  exact(Z9 c1).dvd_of_dvd_mul_left h1
 have d2:g.2∣f.2:=by
  have h1:g.2∣g.1.natAbs*f.2:=by
   have:=jz Int.natAbs cr;rw[RB,RB,RK,RK]at this;rw[<-this];exact wci _ _
  exact(Z9 c2).dvd_of_dvd_mul_left h1
 have e:f.2=g.2:=Nat.dvd_antisymm d1 d2;rw[e]at cr;exact Prod.ext (yea (by omega) cr) e
noncomputable def GrB(f g:Int×Nat):iu->Prop
 | .put _=>f.1*(g.2:Int)<=g.1*(f.2:Int)/\g.1*(f.2:Int)<=(f.1+(f.2:Int))*(g.2:Int)
 | .tie _ _=>f.1*(g.2:Int)<=g.1*(f.2:Int)
 | .vA _ _=>g.1*(f.2:Int)<=f.1*(g.2:Int)
 | .drop=>g.1*(f.2:Int)<=f.1*(g.2:Int)/\f.1*(g.2:Int)<=(g.1+(g.2:Int))*(f.2:Int)
theorem K8{n n':Int}{ts us:L0}{f g:Int×Nat}{d:iu}(hf:dN n ts f)(hg:dN n' us g)(h0:0<=n)(p1:aG n ts)(p2:aG n' us)(ft:HF n ts d)(h:Mq n n' ts us d):GrB f g d:=by
 cases d with
 |put xs=>
  obtain⟨rfl,h2⟩:=h;exact hf.both hg (by omega) p1 p2 (fun p hp=>(h2 p).mpr (.inl hp)) n.toNat (by omega) (fun q hq hne=>by omega) fun p hp a b=>by
   rcases(h2 p).mp hp with z|z
   ·exact z
   ·have:=Eo z;omega
 |drop=>
  obtain⟨rfl,h2⟩:=h;have ft':0<n:=ft;exact hg.both hf (by omega) p2 p1 (fun p hp=>((h2 p).mp hp).1) (n-1).toNat (by omega) (fun q hq hne=>by omega) fun p hp a b=>(h2 p).mpr ⟨hp,by have:=p1.lt p hp;omega⟩
 |tie i j=>
  obtain⟨rfl,h2⟩:=h;obtain⟨⟨a,b,c,e,f'⟩,g'⟩:=ft;have k:=hg.cmp hf n'.toNat 0 (by rw[aq (rD _)]) (nO p2) (fun q hq _=>hq) (fun i j _ _ _ _ t=>sG (fun p hp=>(h2 p).mpr (.inl hp)) t);rw[HX,Rx]at k;exact k
 |vA i j=>
  obtain⟨rfl,h2⟩:=h;have k:=hf.cmp hg n'.toNat 0 (by rw[aq (rD _)]) (nO p1) (fun q hq _=>hq) (fun i j _ _ _ _ t=>sG (fun p hp=>((h2 p).mp hp).1) t);rw[HX,Rx]at k;exact k
theorem uc:∀ts:L0,PyData.eqvAll (ts.map pairD) (ts.map pairD)=true
 |[]=>by simp[PyData.eqvAll]
 |p::ts=>by
  show(PyData.eqv (pairD p) (pairD p)&&PyData.eqvAll (ts.map pairD) (ts.map pairD))=true;rw[uc ts,j5,cI rfl];rfl
theorem Qk(n:Int)(ts:L0):PyData.eqv (iT n ts) (iT n ts)=true:=by
 show(PyData.eqv (.int n) (.int n)&&(PyData.eqvAll (ts.map pairD) (ts.map pairD)&&PyData.eqvAll [] []))=true;rw[uc ts];have e:PyData.eqv (.int n) (.int n)=true:=by show(n==n)=true;simp
 rw[e];simp[PyData.eqvAll]
theorem Fj(n:Int)(ts:L0):(iT n ts).canLay0=true:=by
 show(true&&(PyData.canLayAll0 (ts.map pairD)&&true))=true;rw[lC ts];rfl
theorem qK:∀ts:L0,PyData.depthAll (ts.map pairD)<=1
 |[]=>dX _
 |p::ts=>by
  show max (max 0 (max 0 0)+1) (PyData.depthAll (ts.map pairD))<=1;have:=qK ts;omega
theorem Nx(n:Int)(ts:L0):min (iT n ts).depth (iT n ts).depth<=64:=by
 have h:=qK ts;show min (max 0 (max (PyData.depthAll (ts.map pairD)+1) 0)+1) _<=64;omega
theorem RT{S S':Sd}{H:Hp}(h:qp S S' H):S.t<=S'.t/\S'.t<=S.t+1:=by
 rcases h.2.2 with⟨a,_⟩|⟨a,_⟩<;>omega
theorem rY{S S':Sd}{H:Hp}(h:qp S S' H)(hok:dM S)(n0:0<=S.n)(n1:0<=S'.n)(ne:S'.n≠S.n):S'.t=S.t+1:=by
 rcases h.2.2 with⟨_,_,_,e⟩|⟨a,_⟩
 ·exact absurd (anew hok.dok.pos n0 n1 hok.eno e) ne
 ·exact a
section
variable{P:ξ}{w:τ}{K:W.Frag}{mg:L4}{base:Heap}
noncomputable def V6(f:Int×Nat):θ:= .tuple ([f.1,((f.2:Nat):Int)].map PyData.int)
theorem m5.dv{H:Hp}{a:Addr}{f:Int×Nat}(h:m5 K H a f):DV K H (.ref a) (V6 f):= .tup (xs:=[f.1,((f.2:Nat):Int)].map V.int) h (cO.ints _)
theorem Rm(i:Int):PyData.eqv (.int i) (.int i)=true:=by show(i==i)=true;simp
theorem frD_eq(f:Int×Nat):PyData.eqv (V6 f) (V6 f)=true:=by
 show(PyData.eqv (.int f.1) (.int f.1)&&(PyData.eqv (.int ((f.2:Nat):Int)) (.int ((f.2:Nat):Int))&&PyData.eqvAll [] []))=true;rw[Rm,Rm];simp[PyData.eqvAll]
theorem Fy(f g:Int×Nat):min (V6 f).depth (V6 g).depth<=64:=by
 show min (max 0 (max 0 0)+1) (max 0 (max 0 0)+1)<=64;decide
theorem rR(f:Int×Nat):(V6 f).canLay0=true:=rfl
theorem m5.lw{H:Hp}{a:Addr}{f:Int×Nat}(h:m5 K H a f)(l:Lw f)(b:f.1.natAbs<=399168000):Fr K H a f.1 f.2:=⟨h,l.1,cQ b (by decide+kernel),cQ l.2.1 (by decide+kernel)⟩
theorem tL{u u':Int}{v v':Nat}(h:u'*(v:Int)<=u*(v':Int)):decide (u*(v':Int)<u'*(v:Int))=false:=jK (Int.not_lt.mpr h)
noncomputable def WX(K:W.Frag)(C:Addr):Sp:=fun vs H Q _=>∃(o da:Addr) (S:Sd) (d:iu),vs=[.ref o,.ref da]/\cU K C H o S/\dM S/\cV K H da d/\HF S.n S.ts d/\
 ∀v S' H',aD o H H'->cU K C H' o S'->dM S'->Mq S.n S'.n S.ts S'.ts d->qp S S' H->Q v H'
theorem T8{f f1 f2 f3 f4 C:Addr}{fd d1 d2 d3 d4:ρ}(F:Fun K "_law_e_do" "_law_e_do" mD f fd)
  (Na:zZ K C)(D1:lM K C "put" "Sharing.put" Zj ["self","ties"] f1 d1)(G1:FnOk P w K mg base CX0 12 f1 d1 ["self","ties"] (wg K C))(D2:lM K C "drop" "Sharing.drop" fX ["self"] f2 d2)(G2:FnOk P w K mg base CX0 12 f2 d2 ["self"] (Ea K C))(D3:lM K C "tie" "Sharing.tie" gZ ["self","one","other"] f3 d3)(G3:FnOk P w K mg base CX0 12 f3 d3 ["self","one","other"] (Jw K C))(D4:lM K C "untie" "Sharing.untie" zdl ["self","one","other"] f4 d4)(G4:FnOk P w K mg base CX0 12 f4 d4 ["self","one","other"] (Jv K C)):
  FnOk P w K mg base CX0 13 f fd ["sharing","deed"] (WX K C):=by
 refine F.cG ["sharing","deed"] fun cdv A outer s H vs Q E hr h=> ?_;obtain⟨o,da,S,d,rfl,hS,hok,hD,hF,qq⟩:=h;refine bA ?_;intro Y;refine⟨_,(aM (fJ (dO op_eq (aP bZ (pv 1) aB) vd) (aX (bM (uJ (pv 0) Na.c D1.m G1 hr D1.b .nil pass0 (aj (aP bZ (pv 1) aB) ak)))) gC) (aM (fJ (dO op_eq (aP bZ (pv 1) aB) vd) (aX (bM (Ge (pv 0) Na.c D2.m G2 hr D2.b .nil pass0))) gC) (aM (fJ (dO op_eq (aP bZ (pv 1) aB) vd) (aX (bM (uJ (pv 0) Na.c D3.m G3 hr D3.b .nil pass0 (aj (aP bZ (pv 1) aB) (aj (aP bZ (pv 1) aB) ak))))) gC) (aX (bM (uJ (pv 0) Na.c D4.m G4 hr D4.b .nil pass0 (aj (aP bZ (pv 1) aB) (aj (aP bZ (pv 1) aB) ak)))))))),?_⟩;refine vM ?_;intro c4 c3 c2;obtain⟨dx,wb,va,lr,pr,A⟩:=id hS;cases d with
 |put xs=>
  obtain⟨t,h1,h2⟩:=hD;refine⟨_,rfl,da,_,_,.str "put",rfl,rfl,h1,rfl,rfl,_,rfl,?_⟩;refine ite2 (fun _=> ?_) (fun c=>absurd rfl (Gj (QM _▸c)));refine⟨_,rfl,o,dx,_,rfl,A.at_,rfl,_,rfl,da,_,_,.ref t,rfl,rfl,h1,rfl,?_⟩;exact⟨o,t,S,xs,rfl,hS,hok,h2,hF.1,hF.2,fun S' H' x hS' hok' en et hw=>qq _ S' H' x hS' hok' ⟨en,fun p=>et.mem_iff.trans pL⟩ hw⟩
 |drop=>
  refine⟨_,rfl,da,_,_,.str "drop",rfl,rfl,hD,rfl,rfl,_,rfl,?_⟩;refine ite2 (fun c=>absurd (cR c) (by decide+kernel)) (fun _=> ?_);refine⟨_,rfl,da,_,_,.str "drop",rfl,rfl,hD,rfl,rfl,_,rfl,?_⟩;refine ite2 (fun _=> ?_) (fun c=>absurd rfl (Gj (QM _▸c)));refine⟨_,rfl,o,dx,_,rfl,A.at_,rfl,?_⟩;exact⟨o,S,rfl,hS,hok,hF,fun S' H' x hS' hok' en et hw=>qq _ S' H' x hS' hok' ⟨en,fun p=>by rw[et,eN,QS]⟩ hw⟩
 |tie i j=>
  obtain⟨⟨a,b,c,e,f⟩,g⟩:=hF;refine⟨_,rfl,da,_,_,.str "tie",rfl,rfl,hD,rfl,rfl,_,rfl,?_⟩;refine ite2 (fun c=>absurd (cR c) (by decide+kernel)) (fun _=> ?_);refine⟨_,rfl,da,_,_,.str "tie",rfl,rfl,hD,rfl,rfl,_,rfl,?_⟩;refine ite2 (fun c=>absurd (cR c) (by decide+kernel)) (fun _=> ?_);refine⟨_,rfl,da,_,_,.str "tie",rfl,rfl,hD,rfl,rfl,_,rfl,?_⟩;refine ite2 (fun _=> ?_) (fun c=>absurd rfl (Gj (QM _▸c)));refine⟨_,rfl,o,dx,_,rfl,A.at_,rfl,_,rfl,da,_,_,.int i,rfl,rfl,hD,rfl,_,rfl,da,_,_,.int j,rfl,rfl,hD,rfl,?_⟩;exact⟨o,i,j,S,rfl,hS,hok,a,b,c,e,f,g,fun S' H' x hS' hok' en et hw=>qq _ S' H' x hS' hok' ⟨en,fun p=>et.mem_iff.trans (pL.trans (or_congr_right kO))⟩ hw⟩
 |vA i j=>
  obtain⟨⟨a,b,c,e,f⟩,g⟩:=hF;refine⟨_,rfl,da,_,_,.str "untie",rfl,rfl,hD,rfl,rfl,_,rfl,?_⟩;refine ite2 (fun c=>absurd (cR c) (by decide+kernel)) (fun _=> ?_);refine⟨_,rfl,da,_,_,.str "untie",rfl,rfl,hD,rfl,rfl,_,rfl,?_⟩;refine ite2 (fun c=>absurd (cR c) (by decide+kernel)) (fun _=> ?_);refine⟨_,rfl,da,_,_,.str "untie",rfl,rfl,hD,rfl,rfl,_,rfl,?_⟩;refine ite2 (fun c=>absurd (cR c) (by decide+kernel)) (fun _=> ?_);refine⟨_,rfl,o,dx,_,rfl,A.at_,rfl,_,rfl,da,_,_,.int i,rfl,rfl,hD,rfl,_,rfl,da,_,_,.int j,rfl,rfl,hD,rfl,?_⟩;exact⟨o,i,j,S,rfl,hS,hok,a,b,c,e,f,g,fun S' H' x hS' hok' en et hw=>qq _ S' H' x hS' hok' ⟨en,fun p=>by rw[et,eN,wcg,wbu]⟩ hw⟩
noncomputable def nst:Expr->Bool
 | .Starred _ _=>false
 |_=>true
theorem NK{e:Expr}(es:List Expr)(env:Env)(hn:nst e=true):starEach (e::es) env=(false,eval e env)::starEach es env:=by
 cases e<;>first |rfl|cases hn
theorem Te{X:Cx}{e:Expr}{es:List Expr}{te:TE}{t:TA}(ha:PE X e te)(hr:PA X es t)(hn:nst e=true:=by rfl):PA X (e::es) (tCons te t):=aj ha hr (NK _ _ hn)
structure PsB(X:Cx)(b:List Stmt)(t:TS):Prop where
 h:PSs X b t
structure PeB(X:Cx)(e:Expr)(t:TE):Prop where
 h:PE X e t
theorem aaH{X:Cx}{b:List Stmt}{t:TS}{R:TS->Prop}(h:PsB X b t)(r:R t):∃t,PSs X b t/\R t:=⟨t,h.h,r⟩
theorem Xa{X:Cx}{st:Stmt}{rest:List Stmt}{t u:TS}(h1:PS X st t)(h2:PsB X rest u):PsB X (st::rest) (tSeq t u):=⟨aM h1 h2.h⟩
theorem aad{X:Cx}{D i a b:Expr}{tD ti ta tb:TE}{x1 p1 p2 p3:_}(hu:X.A.units+1<cLine)(hD:PeB X D tD)(hi:PE X i ti)(hn:NoSl i)(ha:PE X a ta)(hb:PE X b tb)(na:nst a=true)(nb:nst b=true):PsB X [.Return (some (.Tuple [.Subscript D i p1,a,b] x1 p2)) p3] (tRet (tTup (tCons (tDGet tD ti) (tCons ta (tCons tb tNil))))):=
 ⟨aX (bM (fu (Te (pe_dget hu hD.h hi hn) (Te ha (Te hb ak nb) na))))⟩
theorem YC{X:Cx}{pos:Pos}{k1 k2 v1 v2:Expr}{tk1 tk2 tv1 tv2:TE}(h1:PE X k1 tk1)(h2:PE X v1 tv1)(h3:PE X k2 tk2)(h4:PE X v2 tv2):PeB X (.Dict [some k1,some k2] [v1,v2] pos) (tDisp [(tk1,tv1),(tk2,tv2)]):=⟨pe_disp (pps_cons h1 h2 (pps_cons h3 h4 pps_nil)) rfl rfl (by intro z;cases z) (by show 2<=15;decide)⟩
noncomputable def vD:List (Key×V):=mergeK [] [(.inr "tie",.str "untie"),(.inr "untie",.str "tie")]
theorem Jo:valV vD (.inr "tie")=some (.str "untie"):=by decide+kernel
theorem Jm:valV vD (.inr "untie")=some (.str "tie"):=by decide+kernel
theorem Ro{H:Hp}{a:Addr}{kvs:List (Key×V)}{s v:Str}(e:H a=some (.dK kvs))(h:valV kvs (.inr s)=some (.str v)):DGet H a (.str s) (some (.str v)):=by
 have:=DGet.k (k:= .inr s) e;rw[h]at this;exact this
noncomputable def yw(K:W.Frag):Sp:=fun vs H Q _=>∃(wb da:Addr) (n:Int) (ts:L0) (d:iu),vs=[.ref wb,.ref da]/\aJ K H wb n ts/\cV K H da d/\
 ∀r H',Same H H'->cV K H' r (undo n ts d)->Q (.ref r) H'
theorem GR{f:Addr}{fd:ρ}(F:Fun K "_law_e_undone" "_law_e_undone" fO f fd)(aL:mg "tuple"=none):
  FnOk P w K mg base CX0 1 f fd ["web","deed"] (yw K):=by
 refine F.cG ["web","deed","last"] fun cdv A outer s H vs Q E hr h=> ?_;obtain⟨wb,da,n,ts,d,rfl,hW,hD,qq⟩:=h;refine aaH (Xa (fJ (dO op_eq (aP bZ (pv 1) aB) vd) (aX (bM (fu (aj vd ak)))) gC)
    (Xa (fJ (dO op_eq (aP bZ (pv 1) aB) vd) (aM (pS 2 (bK op_sub (aP bZ (pv 0) aB) aB)) (aX (bM (fu (aj vd (aj (pT Du aL (aj (pK ["i","j"] ["last"] [2] (Aj (aP bZ (pv 0) aB)) (HS K (n:=2) rfl (nF (pG 0) (nF (pG 1) Ai))) (Ak (dO op_eq (pv 1) (pv 2))) (pv 0)) ak)) ak)))))) gC)
    (aad (hu_of hr) (YC vd vd vd vd) (aP bZ (pv 1) aB) (fun _ _=>rfl) (aP bZ (pv 1) aB) (aP bZ (pv 1) aB) rfl rfl))) ?_
 obtain⟨tt,rr,w1,w2,w3⟩:=id hW.web;cases d with
 |put xs=>
  obtain⟨t,h1,h2⟩:=hD;refine⟨_,rfl,da,_,_,.str "put",rfl,rfl,h1,rfl,rfl,_,rfl,?_⟩;refine ite2 (fun _=> ?_) (fun c=>absurd rfl (Gj (QM _▸c)));exact⟨(by show 1<=sizeLine;decide),fun r hr=>qq r _ (aK hr _) (SqT.of aA)⟩
 |drop=>
  refine⟨_,rfl,da,_,_,.str "drop",rfl,rfl,hD,rfl,rfl,_,rfl,?_⟩;refine ite2 (fun c=>absurd (cR c) (by decide+kernel)) (fun _=> ?_);refine⟨_,rfl,da,_,_,.str "drop",rfl,rfl,hD,rfl,rfl,_,rfl,?_⟩;refine ite2 (fun _=> ?_) (fun c=>absurd rfl (Gj (QM _▸c)));refine⟨_,rfl,wb,_,_,.int n,rfl,rfl,w1,rfl,_,_,rfl,rfl,?_⟩;obtain⟨its,rfl,iH,w4⟩:=eF w3;refine⟨_,rfl,wb,_,_,.ref tt,rfl,rfl,w1,rfl,tt,_,rfl,w2,fun hz=> ?_⟩;let mZ:Nat->List V->St->Hp->Prop:=fun k acc σ H'=>acc=(dJ (n-1) ((its.take k).map (·.2))).map V.int/\H'=H/\∃o1 o2,σ=[o1,o2,some (.int (n-1))];refine Al (xs:=its.map fun p=>V.ref p.1) mZ ⟨rfl,rfl,_,_,rfl⟩ (fun i acc σ H' _ p=>by rw[p.2.1];exact w2) (fun i acc σ H' hi p=> ?_) hz (fun k x acc σ H' hx p=> ?_) (fun acc σ H' p=> ?_)
  ·rw[p.1,aH];unfold dJ;rw[aH];exact cQ (vo _ _) (by rw[aH,uH];exact Av _ _)
  ·obtain⟨rfl,rfl,o1,o2,rfl⟩:=p;rw[dY]at hx;cases ex:its[k]? with
   |none=>rw[ex]at hx;cases hx
   |some it=>
    rw[ex]at hx;cases hx;have hit:=w4 it (qQ ex);have go:dJ (n-1) ((its.take (k+1)).map (·.2))=dJ (n-1) ((its.take k).map (·.2))++(if decide (it.2.2=n-1)=true then[it.2.1]else[]):=by
     unfold dJ;rw[vX,ex,cg,Dy,cg];congr 1;show List.map _ (List.filter _ [it.2])=_;rw[Ax];split<;>rfl
    refine⟨it.1,_,rfl,hit,rfl,_,_,rfl,_,_,rfl,rfl,?_⟩;refine⟨_,rfl,_,rfl,rfl,_,rfl,?_⟩;refine ite2 (fun c=> ?_) (fun c=> ?_)
    ·have c':it.2.2=n-1:=V.int.inj (cR c);exact⟨_,rfl,by rw[go,au (cI c'),cg];rfl,rfl,_,_,rfl⟩
    ·have c':¬it.2.2=n-1:=fun z=>c (cI (jz V.int z));exact⟨by rw[go,aq (fun z=>c' (cR z)),Aw],rfl,_,_,rfl⟩
  ·intro p1 hp1;obtain⟨rfl,rfl,_⟩:=p;rw[aH,rW,iH];have n1:=aK hp1 (.lst ((dJ (n-1) ts).map V.int));refine⟨p1,_,rfl,.inl ⟨SqL.of aA,fun t ht=> ?_⟩⟩;have n2:=aK ht (.tup ((dJ (n-1) ts).map V.int));refine⟨(by show 2<=sizeLine;decide),fun r hr=> ?_⟩;have n3:=aK hr (.tup [.str "put",.ref t]);exact qq r _ (n1.trans (n2.trans n3)) ⟨t,SqT.of aA,n3.tup (SqT.of aA)⟩
 |tie i j=>
  refine⟨_,rfl,da,_,_,.str "tie",rfl,rfl,hD,rfl,rfl,_,rfl,?_⟩;refine ite2 (fun c=>absurd (cR c) (by decide+kernel)) (fun _=> ?_);refine⟨_,rfl,da,_,_,.str "tie",rfl,rfl,hD,rfl,rfl,_,rfl,?_⟩;refine ite2 (fun c=>absurd (cR c) (by decide+kernel)) (fun _=> ?_);intro p hp;refine⟨aA,[(.inr "tie",.str "untie"),(.inr "untie",.str "tie")],rfl,by decide,?_⟩;rw[upd_upd];rw[show mergeK [] [(.inr "tie",.str "untie"),(.inr "untie",.str "tie")]=vD from rfl];have n1:=aK hp (.dK vD);have hD1:=n1.tup hD;refine⟨_,rfl,da,_,_,.str "tie",rfl,rfl,hD1,rfl,p,.str "untie",rfl,Ro aA Jo,?_⟩;refine⟨_,rfl,da,_,_,.int j,rfl,rfl,hD1,rfl,_,rfl,da,_,_,.int i,rfl,rfl,hD1,rfl,(by show 3<=sizeLine;decide),fun r hr=> ?_⟩;exact qq r _ (n1.trans (aK hr _)) (SqT.of aA)
 |vA i j=>
  refine⟨_,rfl,da,_,_,.str "untie",rfl,rfl,hD,rfl,rfl,_,rfl,?_⟩;refine ite2 (fun c=>absurd (cR c) (by decide+kernel)) (fun _=> ?_);refine⟨_,rfl,da,_,_,.str "untie",rfl,rfl,hD,rfl,rfl,_,rfl,?_⟩;refine ite2 (fun c=>absurd (cR c) (by decide+kernel)) (fun _=> ?_);intro p hp;refine⟨aA,[(.inr "tie",.str "untie"),(.inr "untie",.str "tie")],rfl,by decide,?_⟩;rw[upd_upd];rw[show mergeK [] [(.inr "tie",.str "untie"),(.inr "untie",.str "tie")]=vD from rfl];have n1:=aK hp (.dK vD);have hD1:=n1.tup hD;refine⟨_,rfl,da,_,_,.str "untie",rfl,rfl,hD1,rfl,p,.str "tie",rfl,Ro aA Jm,?_⟩;refine⟨_,rfl,da,_,_,.int j,rfl,rfl,hD1,rfl,_,rfl,da,_,_,.int i,rfl,rfl,hD1,rfl,(by show 3<=sizeLine;decide),fun r hr=> ?_⟩;exact qq r _ (n1.trans (aK hr _)) (SqT.of aA)
theorem at0(v:V)(r:List V):atI (v::r) 0=some v:=HN (xs:=v::r) (j:=0) rfl
noncomputable def Ed(K:W.Frag):Sp:=fun vs H Q _=>∃(da fa ga:Addr) (d:iu) (f g:Int×Nat),vs=[.ref da,.ref fa,.ref ga]/\cV K H da d/\Fr K H fa f.1 f.2/\Fr K H ga g.1 g.2/\f.2<=39916800/\g.2<=39916800/\GrB f g d/\
 ∀H',Same H H'->Q (.bl true) H'
theorem Uq{f:Int×Nat}{g:Int×Nat}{x:Int}{y:Nat}(pf:0<f.2)(l:Low (f.1*((1:Nat):Int)+1*(f.2:Int)) (f.2*1) x y)(h:g.1*(f.2:Int)<=(f.1+(f.2:Int))*(g.2:Int)):g.1*(y:Int)<=x*(g.2:Int):=by
 have e:=l.eq;have py:=l.pos;rw[Nat.mul_one,Ao,show((1:Nat):Int)=1 from rfl,VF]at e;refine Wq (a:=(f.2:Int)) ?_ (by omega);have e1:x*(g.2:Int)*(f.2:Int)=(f.1+(f.2:Int))*(g.2:Int)*(y:Int):=by
  have:x*(g.2:Int)*(f.2:Int)=(x*(f.2:Int))*(g.2:Int):=by grind
  rw[this,e];grind
 have e2:g.1*(y:Int)*(f.2:Int)=g.1*(f.2:Int)*(y:Int):=by grind
 rw[e1,e2];exact Wr h (by omega)
theorem Kp{f f1 f2:Addr}{fd d1 d2:ρ}(F:Fun K "_law_e_grows" "_law_e_grows" gR f fd)(D1:bJ K mg "is_less" Rv ["one","other"] f1 d1)(G1:FnOk P w K mg base CX0 1 f1 d1 ["one","other"] (pU K))(D2:bJ K mg "plus" Bu ["one","other"] f2 d2)(G2:FnOk P w K mg base CX0 3 f2 d2 ["one","other"] (JB K)):
  FnOk P w K mg base CX0 4 f fd ["deed","ahead","behind"] (Ed K):=by
 refine F.cG ["deed","ahead","behind"] fun cdv A outer s H vs Q E hr h=> ?_;obtain⟨da,fa,ga,d,f,g,rfl,hD,hf,hg,bf,bg,hG,qq⟩:=h;refine bA ?_;intro Y;refine⟨_,(aM (fJ (dO op_eq (aP bZ (pv 0) aB) vd) (aX (bM (pe_and (pe_not (pc G1 hr D1 (aj (pv 2) (aj (pv 1) ak)))) (pe_one (pe_not (pc G1 hr D1 (aj (pc G2 hr D2 (aj (pv 1) (aj (fu (aj aB (aj aB ak))) ak))) (aj (pv 2) ak)))))))) gC) (aM (fJ (dO op_eq (aP bZ (pv 0) aB) vd) (aX (bM (pe_not (pc G1 hr D1 (aj (pv 2) (aj (pv 1) ak)))))) gC) (aM (fJ (dO op_eq (aP bZ (pv 0) aB) vd) (aX (bM (pe_not (pc G1 hr D1 (aj (pv 1) (aj (pv 2) ak)))))) gC) (aX (bM (pe_and (pe_not (pc G1 hr D1 (aj (pv 1) (aj (pv 2) ak)))) (pe_one (pe_not (pc G1 hr D1 (aj (pc G2 hr D2 (aj (pv 2) (aj (fu (aj aB (aj aB ak))) ak))) (aj (pv 1) ak))))))))))),?_⟩;refine vM ?_;intro c4 c3 c2;have b1:f.2<=1000000000000000000:=cQ bf (by decide);have b2:g.2<=1000000000000000000:=cQ bg (by decide);have up:∀{f g:Int×Nat} {fa ga:Addr},Fr K H fa f.1 f.2->Fr K H ga g.1 g.2->f.2<=39916800->g.2<=1000000000000000000->g.1*(f.2:Int)<=(f.1+(f.2:Int))*(g.2:Int)->∀q1,H q1=none->∀{R:V->Hp->Prop},(∀H',Same H H'->R (.bl true) H')->∃(p p':Addr) (u u':Int) (v v':Nat),[V.ref fa,V.ref q1]=[.ref p,.ref p']/\Fr K (upd H q1 (.tup [.int 1,.int 1])) p u v/\Fr K (upd H q1 (.tup [.int 1,.int 1])) p' u' v'/\∀r H' x y,Same (upd H q1 (.tup [.int 1,.int 1])) H'->H' r=some (.tup [.int x,.int ((y:Nat):Int)])->Low (u*(v':Int)+u'*(v:Int)) (v*v') x y->(∃(p p':Addr) (u u':Int) (v v':Nat),[V.ref r,V.ref ga]=[.ref p,.ref p']/\SqT K H' p [.int u,.int ((v:Nat):Int)]/\SqT K H' p' [.int u',.int ((v':Nat):Int)]/\v<=1000000000000000000/\v'<=1000000000000000000/\∃c,V.bl (decide (u*(v':Int)<u'*(v:Int)))= .bl c/\R (.bl (!c)) H'):=by
  intro f g fa ga hf hg bf bg hc q1 hq1 R hR;have n1:=aK hq1 (.tup [.int 1,.int 1]);refine⟨fa,q1,f.1,1,f.2,1,rfl,hf.same n1,⟨SqT.of aA,by decide,by decide+kernel,by decide+kernel⟩,fun r H' x y s hr l=> ?_⟩;have lv:=l.lv;refine⟨r,ga,x,g.1,y,g.2,rfl,SqT.of hr,(n1.trans s).tup hg.at_,by omega,bg,_,rfl,?_⟩;rw[tL (Uq hf.pos l hc)];exact hR _ (n1.trans s)
 cases d with
 |put xs=>
  obtain⟨r0,UG⟩:=cV.name hD;have hN:SqT K H da (.str "put"::r0):=UG;refine⟨_,rfl,da,_,_,.str "put",rfl,rfl,hN,at0 _ _,rfl,_,rfl,?_⟩;refine ite2 (fun _=> ?_) (fun c=>absurd rfl (Gj (QM _▸c)));refine⟨_,rfl,_,rfl,ga,fa,g.1,f.1,g.2,f.2,rfl,hg.at_,hf.at_,b2,b1,_,rfl,?_⟩;rw[tL hG.1];refine⟨_,rfl,iteT ?_⟩;refine⟨_,rfl,(by show 2<=sizeLine;decide),fun q1 hq1=> ?_⟩;obtain⟨p,p',u,u',v,v',e,k1,k2,k3⟩:=up hf hg bf b2 hG.2 q1 hq1 (R:=Q) qq;refine⟨p,p',u,u',v,v',e,k1,k2,fun r H' x y s hr l=>⟨_,rfl,k3 r H' x y s hr l⟩⟩
 |tie i j=>
  obtain⟨r0,UG⟩:=cV.name hD;have hN:SqT K H da (.str "tie"::r0):=UG;refine⟨_,rfl,da,_,_,.str "tie",rfl,rfl,hN,at0 _ _,rfl,_,rfl,?_⟩;refine ite2 (fun c=>absurd (cR c) (by decide+kernel)) (fun _=> ?_);refine⟨_,rfl,da,_,_,.str "tie",rfl,rfl,hN,at0 _ _,rfl,_,rfl,?_⟩;refine ite2 (fun _=> ?_) (fun c=>absurd rfl (Gj (QM _▸c)));refine⟨_,rfl,_,rfl,ga,fa,g.1,f.1,g.2,f.2,rfl,hg.at_,hf.at_,b2,b1,_,rfl,?_⟩;rw[tL hG];exact qq H (Same.refl _)
 |vA i j=>
  obtain⟨r0,UG⟩:=cV.name hD;have hN:SqT K H da (.str "untie"::r0):=UG;refine⟨_,rfl,da,_,_,.str "untie",rfl,rfl,hN,at0 _ _,rfl,_,rfl,?_⟩;refine ite2 (fun c=>absurd (cR c) (by decide+kernel)) (fun _=> ?_);refine⟨_,rfl,da,_,_,.str "untie",rfl,rfl,hN,at0 _ _,rfl,_,rfl,?_⟩;refine ite2 (fun c=>absurd (cR c) (by decide+kernel)) (fun _=> ?_);refine⟨_,rfl,da,_,_,.str "untie",rfl,rfl,hN,at0 _ _,rfl,_,rfl,?_⟩;refine ite2 (fun _=> ?_) (fun c=>absurd rfl (Gj (QM _▸c)));refine⟨_,rfl,_,rfl,fa,ga,f.1,g.1,f.2,g.2,rfl,hf.at_,hg.at_,b1,b2,_,rfl,?_⟩;rw[tL hG];exact qq H (Same.refl _)
 |drop=>
  obtain⟨r0,UG⟩:=cV.name hD;have hN:SqT K H da (.str "drop"::r0):=UG;refine⟨_,rfl,da,_,_,.str "drop",rfl,rfl,hN,at0 _ _,rfl,_,rfl,?_⟩;refine ite2 (fun c=>absurd (cR c) (by decide+kernel)) (fun _=> ?_);refine⟨_,rfl,da,_,_,.str "drop",rfl,rfl,hN,at0 _ _,rfl,_,rfl,?_⟩;refine ite2 (fun c=>absurd (cR c) (by decide+kernel)) (fun _=> ?_);refine⟨_,rfl,da,_,_,.str "drop",rfl,rfl,hN,at0 _ _,rfl,_,rfl,?_⟩;refine ite2 (fun c=>absurd (cR c) (by decide+kernel)) (fun _=> ?_);refine⟨_,rfl,_,rfl,fa,ga,f.1,g.1,f.2,g.2,rfl,hf.at_,hg.at_,b1,b2,_,rfl,?_⟩;rw[tL hG.1];refine⟨_,rfl,iteT ?_⟩;refine⟨_,rfl,(by show 2<=sizeLine;decide),fun q1 hq1=> ?_⟩;obtain⟨p,p',u,u',v,v',e,k1,k2,k3⟩:=up hg hf bg b1 hG.2 q1 hq1 (R:=Q) qq;refine⟨p,p',u,u',v,v',e,k1,k2,fun r H' x y s hr l=>⟨_,rfl,k3 r H' x y s hr l⟩⟩
theorem Er{n ov:Nat}{X:Nat->Int}{p:Nat}(h:p<n):(fB n ov X)[p]? =some (aO (X p) ov):=by
 unfold fB;rw[dY,RL h];rfl
theorem Ob(n ov:Nat)(X:Nat->Int):(fB n ov X).length=n:=by unfold fB;rw[aH,vm]
theorem Lr{H:Hp}:∀{vs:List V} {l:List (Int×Nat)},dw K H vs l->lN K H vs (l.map w6)
 |_,_,.nil=> .nil
 |_,_,.cons h t=>by
  obtain⟨a,rfl,z⟩:=h;exact .cons (.tup z (.cons (.int _) (.cons (.int _) .nil))) (Lr t)
theorem sE(l:List (Int×Nat)):(l.map w6).map uO=l:=by
 rw[vh,Nu fun f _=>(show(uO∘w6) f=f from vB f),ZL]
theorem Oc{a:Int}{D:Nat}(hD:0<D)(ha:0<=a)(hb:D<=39916800):frB (w6 (aO a D))=true:=by
 have l:=wR hD ha;have l2:=(Af a hD).lv;show(true&&(true&&(decide (0<=(aO a D).1)&&(decide (1<=(((aO a D).2:Nat):Int))&&decide ((((aO a D).2:Nat):Int)<=1000000000)))))=true;have l1:=l.2.1;rw[cI l.1,cI (by omega),cI (by omega)];rfl
theorem Od{n ov:Nat}{X:Nat->Int}(h0:0<ov)(hb:ov<=39916800)(hx:∀p,0<=X p):yp ov (fB n ov X):=⟨h0,cQ hb (by decide),fun f hf=>by
 obtain⟨k,_,rfl⟩:=iK.mp hf;exact wR h0 (hx k)⟩
theorem Oa{n ov:Nat}{X:Nat->Int}(h0:0<ov)(hb:ov<=39916800)(hx:∀p,0<=X p):Rh (n:Int) ((fB n ov X).map w6)=true:=by
 unfold Rh;rw[aH,Ob,cI rfl,wfb,Vr,pH];intro f hf;obtain⟨k,_,rfl⟩:=iK.mp hf;exact Oc h0 (hx k) hb
theorem GF{n:Nat}{ts:L0}{ss:List (List Int)}{wl:List Int}{ov:Nat}{Z:Int}{Y X:Nat->Int}(hS:bw ss ts false n)(h:Sh n ss wl ov Z Y X):o8 ts n ov (fB n ov X):=fun s hm=>by
 have hk:=iW n s hm;have e:s.map (jE (fB n ov X))=s.map fun x=>aO (X x.toNat) ov:=Nu fun x hx=>by
  unfold jE;have:=hk.lt x hx;rw[iR,Er (by omega)];rfl
 rw[e];have:=zW hS h hk;omega
theorem N8{n:Nat}{ss:List (List Int)}{ov:Nat}{Z:Int}{Y X:Nat->Int}(h:Sh n ss (bD n) ov Z Y X):Nv ov (bD n) (fB n ov X)=Z:=by
 unfold Nv;rw[show(bD n).length=n from RN,<-h.Wt,<-Dz h.pos];congr 1;refine Nu fun p hp=> ?_;unfold QL;rw[iR (l:=fB n ov X),Er (pJ.mp hp)];rfl
noncomputable def yC(K:W.Frag)(C:Addr):Sp:=fun vs H Q _=>∃(o wb:Addr) (S:Sd),vs=[.ref o,.ref wb]/\cU K C H o S/\dM S/\aJ K H wb S.n S.ts/\∀H',Same H H'->Q (.bl true) H'
theorem GX{f f1 f2 f3 f4 f5 f6 f7 C:Addr}{fd d1 d2 d3 d4 d5 d6 d7:ρ}(F:Fun K "_law_e_stands" "_law_e_stands" fQ f fd)
  (Na:zZ K C)(D1:lM K C "value" "Sharing.value" Zn ["self"] f1 d1)(Qu:FnOk P w K mg base CX0 4 f1 d1 ["self"] (sH K C))(D2:bJ K mg "value" wz ["web"] f2 d2)(G2:FnOk P w K mg base CX0 10 f2 d2 ["web"] (DW K))(D3:lM K C "web" "Sharing.web" gY ["self"] f3 d3)(G3':FnOk P w K mg base CX0 3 f3 d3 ["self"] (Bj K C))(D4:bJ K mg "is_enough" gG ["web","wants","laying","number"] f4 d4)(G4:FnOk P w K mg base CX0 9 f4 d4 ["web","wants","laying","number"] (Bp K))(D5:lM K C "laying" "Sharing.laying" zcz ["self"] f5 d5)(G5':FnOk P w K mg base CX0 4 f5 d5 ["self"] (Bl K C))(D6:bJ K mg "are_prices" jh ["web","wants","prices","number"] f6 d6)(G6:FnOk P w K mg base CX0 9 f6 d6 ["web","wants","prices","number"] (Jz K))(D7:lM K C "prices" "Sharing.prices" zcy ["self"] f7 d7)(G7':FnOk P w K mg base CX0 4 f7 d7 ["self"] (Bk K C)):
  FnOk P w K mg base CX0 11 f fd ["sharing","web"] (yC K C):=by
 have G1:FnOk P w K mg base CX0 10 f1 d1 ["self"] (sH K C):=Qu.mono (by decide);have G3:FnOk P w K mg base CX0 10 f3 d3 ["self"] (Bj K C):=G3'.mono (by decide);have G5:FnOk P w K mg base CX0 10 f5 d5 ["self"] (Bl K C):=G5'.mono (by decide);have G7:FnOk P w K mg base CX0 10 f7 d7 ["self"] (Bk K C):=G7'.mono (by decide);refine F.cG ["sharing","web","wants","worth"] fun cdv A outer s H vs Q E hr h=> ?_;obtain⟨o,wb,S,rfl,hS,hok,hW,qq⟩:=h;refine bA ?_;intro Y;refine⟨_,(aM (pS 2 (bK wF (fu (aj aB ak)) (aP bZ (pv 1) aB))) (aM (pS 3 (Ge (pv 0) Na.c D1.m G1 hr D1.b .nil pass0)) (aM (fJ (PW.pt (pw_or (dO (wG hr.units) (Ge (pv 0) Na.c D3.m G3 hr D3.b .nil pass0) (pv 1)) (pw_or1 (dO (wG hr.units) (pv 3) (pc G2 hr D2 (aj (pv 1) ak)))))) (aX (bM pe_bl)) gC) (aM (fJ (dO GQ (pc G4 hr D4 (aj (pv 1) (aj (pv 2) (aj (Ge (pv 0) Na.c D5.m G5 hr D5.b .nil pass0) (aj (pv 3) ak))))) pe_bl) (aX (bM pe_bl)) gC) (aX (bM (Gb Tf (pc G6 hr D6 (aj (pv 1) (aj (pv 2) (aj (Ge (pv 0) Na.c D7.m G7 hr D7.b .nil pass0) (aj (pv 3) ak))))) pe_bl))))))),?_⟩;refine Fp ?_;intro c5 c4 c3 c2;have h0:=hW.h0;have h10:=hW.h1;obtain⟨tt,rr,w1,w2,w3⟩:=id hW.web;refine⟨(by show 1<=sizeLine;decide),fun p1 hp1=> ?_⟩;have s2:=aK hp1 (.tup [.int 1]);refine⟨_,rfl,wb,_,_,.int S.n,rfl,rfl,s2.tup w1,rfl,p1,S.n,_,rfl,rfl,SqT.of aA,(fun e=>nomatch e),by omega,by omega,?_,fun wa H3 s3 h3=> ?_⟩
 ·show 1*S.n.toNat<=1000;omega
 have ew:(List.replicate S.n.toNat [V.int 1]).flatten=(bD S.n.toNat).map V.int:=by
  unfold bD;generalize S.n.toNat=k
  induction k with
  |zero=>rfl
  |succ k ih=>rw[Ir,RJ,ih,Ir];rfl
 rw[ew]at h3;have s03:=s2.trans s3;have S3:=hS.same s03;have W3:=hW.same s03;obtain⟨dx,wb0,va,lr,pr,A⟩:=id S3;refine⟨_,rfl,o,dx,_,rfl,A.at_,rfl,?_⟩;refine⟨o,S,rfl,S3,hok,fun va4 H4 s4 F4=> ?_⟩;have A4:=A.same s4;have S4:=S3.same s4;have W4:=W3.same s4;refine⟨_,rfl,o,dx,_,rfl,A4.at_,rfl,o,S,rfl,S4,fun rw5 H5 s5 W5=>⟨_,rfl,?_⟩⟩;have Wb5:=W4.same s5;refine⟨_,_,W5.web.dv,Wb5.web.dv,Fj _ _,Fj _ _,Nx _ _,_,rfl,?_⟩;rw[Qk];refine iteF ?_;refine⟨_,rfl,_,rfl,wb,S.n,S.ts,rfl,Wb5,fun vb ss ov Z Y X H6 s6 F6 So hSh=> ?_⟩;have ev:aO Z ov=S.f:=dN.uniq ⟨ss,ov,Z,Y,X,So,hSh,rfl⟩ hok.val hW.pk;rw[ev]at F6;have F46:=(s5.trans s6).tup F4;refine⟨_,_,m5.dv F46,m5.dv F6,rR _,rR _,Fy _ _,_,rfl,?_⟩;rw[frD_eq];refine iteF ?_;clear F6 ev hSh So W5;have SJ:=s5.trans s6;have S6:=S4.same SJ;have A6:=A4.same SJ;have W6:=W4.same SJ;have wa6:=(s4.trans SJ).tup h3;have lw:=hok.lw;refine⟨_,rfl,_,rfl,_,rfl,o,dx,_,rfl,A6.at_,rfl,o,S,rfl,S6,hok,fun rl vl H7 s7 e7 l7 _=>⟨_,rfl,?_⟩⟩;have ll:=Paired.fZ l7;have h36:=hok.len;refine⟨wb,wa,rl,va4,S.n,S.ts,bD S.n.toNat,vl,S.l.map sV,S.D,S.f.1,S.f.2,rfl,W6.same s7,s7.tup wa6,iy h0,SqL.of e7,Cj l7,by omega,(SJ.trans s7).tup F4,cQ lw.2.1 (by decide),(fun _=>by rw[jL];exact hok.dok),fun H8 s8=> ?_⟩;refine⟨_,_,rfl,rfl,_,rfl,?_⟩;rw[hok.eno];refine iteF ?_;have VR:=s7.trans s8;have S8:=S6.same VR;have A8:=A6.same VR;have W8:=W6.same VR;have wa8:=VR.tup wa6;refine⟨_,rfl,_,rfl,_,rfl,o,dx,_,rfl,A8.at_,rfl,o,S,rfl,S8,hok,fun rp vp H9 s9 e9 l9 _=>⟨_,rfl,?_⟩⟩;obtain⟨ss,ov,Z,Y,X,So,hSh,ef,ep⟩:=hok.Xh;refine⟨wb,wa,rp,va4,S.n,S.ts,bD S.n.toNat,vp,S.ps.map w6,ov,S.f.1,S.f.2,rfl,W8.same s9,s9.tup wa8,iy h0,SqL.of e9,Lr l9,((SJ.trans VR).trans s9).tup F4,cQ lw.2.1 (by decide),(fun _=>by rw[sE,ep];exact Od hSh.pos hSh.big hSh.xn),fun b H10 Rb hb=> ?_⟩;have e1:Rh S.n (S.ps.map w6)=true:=by
  have:=Oa (n:=S.n.toNat) hSh.pos hSh.big hSh.xn;rw[QF h0]at this;rw[ep];exact this
 have e2:b=true:=(hb e1).mpr (by rw[sE,ep];exact GF So hSh);have e3:S.f.1*(ov:Int)<=Nv ov (bD S.n.toNat) ((S.ps.map w6).map uO)*(S.f.2:Int):=by
  rw[sE,ep,N8 hSh,ef,(Af Z hSh.pos).eq];exact pF _
 refine⟨_,_,rfl,rfl,?_⟩;rw[e1,e2,cI e3];have sA:=s03.trans (s4.trans (SJ.trans (VR.trans (s9.trans Rb))));exact qq _ sA
end
end Hs
namespace L2
open PySem PySem.Spec PyProof.Rows PySem.W
section
variable{X:Cx}
theorem uU:CallR X (.builtin "sorted") (fun xs H Q=>∃(a:Addr) (its:List (Addr×List Int)),xs=[.ref a]/\SqT X.K H a (its.map fun p=>V.ref p.1)/\(∀p∈its,SqT X.K H p.1 (p.2.map V.int)/\p.2≠[])/\its.length<64/\
  ∀(l:Addr) (its':List (Addr×List Int)),H l=none->its'.Perm its->its'.Pairwise (fun p q=>HT.lexLt q.2 p.2=false)->Q (.ref l) (upd H l (.lst (its'.map fun p=>V.ref p.1)))):=by
 intro pins s σ H xs us Q I r h;obtain⟨a,its,rfl,hS,hT,h64,q⟩:=h;obtain⟨u,rfl,ru⟩:=r.one;cases ru;obtain⟨vs,rv,pl,hz⟩:=I.tuple hS;have hlen:its.length=vs.length:=by have:=rv.length;simpa using this
 -- the values beside the tuples
 have pr:Paired (fun(p:Addr×List Int) (v:ζ)=>v= .ref p.1) its vs:=by
  have go:∀(l:List (Addr×List Int)) (us:List ζ),Vals (l.map fun p=>V.ref p.1) us->Paired (fun(p:Addr×List Int) (v:ζ)=>v= .ref p.1) l us:=by
   intro l
   induction l with
   |nil=>intro us h;cases h;exact .nil
   |cons p l ih=>
    intro us h;cases h with
    |cons r t=>exact .cons r (ih _ t)
  exact go its vs rv
 have tup:∀p∈its,∃(items:List ζ),IntsAre items p.2/\IsTup s.heap p.1 items.toArray:=fun p hp=>by
  obtain⟨its',r',t',_⟩:=I.tuple (hT p hp).1;exact⟨its',intsAre_of r',t'⟩
 refine uo.Bq (O:=uo.lexOrd) (key:=fun i=>(its.getD i (0,[])).2) (κ:=tuples' true) (s:=s) pl (by omega) (fun h2 h' k E' Q' hq=> ?_) (fun h2 h' k=> ?_) (fun D h' out c ho hD k hc=> ?_)
 ·have kt:∀(l:List (Addr×List Int)) (us:List ζ),Paired (fun(p:Addr×List Int) (v:ζ)=>v= .ref p.1) l us->(∀p∈l,p∈its)->∃fs:List ζ,KatTups h' us fs/\fs.length=us.length/\∀v∈fs,∃i t,v=Value.int i t:=by
   intro l us h
   induction h with
   |nil=>intro _;exact⟨[],trivial,rfl,fun _ hv=>nomatch hv⟩
   | @cons p v l us r t ih=>
    intro hs;obtain⟨fs,k1,k2,k3⟩:=ih fun p hp=>hs p (jy _ hp);obtain⟨items,hi,o,e,hc,n,hd⟩:=tup p (hs p jx);have hne:=(hT p (hs p jx)).2;obtain⟨pa,pn⟩:=p;dsimp only at hi hne e r;cases hi with
    |nil=>exact absurd rfl hne
    |cons i t hi'=>
     rw[r];refine⟨Value.int i t::fs,KatTups.cons (k _ _ e) hc hd (by simp) k1,by simp[k2],fun v hv=> ?_⟩;rcases cW.mp hv with e|e
     ·exact⟨i,t,e⟩
     ·exact k3 v e
  obtain⟨fs,k1,k2,k3⟩:=kt its vs pr fun _ hp=>hp;refine kat_kind (s:={s with heap:=h'}) (T:= .type "int") k1 (by omega) (fun v hv=> ?_) (by rfl) hq;obtain⟨i,t,rfl⟩:=k3 v hv;exact fun A Q E s _ q=>eU q
 ·intro i j C hi hj hC;rw[<-hlen]at hi hj;have get:∀i (hi:i<its.length),vs.getD i Value.none= .ref its[i].1:=by
   have go:∀(l:List (Addr×List Int)) (us:List ζ),Paired (fun(p:Addr×List Int) (v:ζ)=>v= .ref p.1) l us->∀i (hi:i<l.length),us.getD i Value.none= .ref l[i].1:=by
    intro l us h
    induction h with
    |nil=>intro i hi;simp at hi
    |cons r t ih=>
     intro i hi;cases i with
     |zero=>exact r
     |succ i=>simpa using ih i (by simpa using hi)
   exact go its vs pr
  unfold kas_ask;rw[get i hi,get j hj];obtain⟨xi,hxi,oi,ei,ci,ni,di⟩:=tup its[i] (Ay _);obtain⟨xj,Rj,oj,ej,cj,nj,dj⟩:=tup its[j] (Ay _);refine kat_lt (s:={s with heap:=h'}) (k _ _ ei) di (k _ _ ej) dj ?_;refine uo.tU 0 hxi Rj ?_ ?_
  ·have:=hxi.length;have:=Rj.length;simp only[iw];omega
  ·rw[HT.bR];have e1:its.getD i (0,[])=its[i]:=by simp[hi]
   have e2:its.getD j (0,[])=its[j]:=by simp[hj]
   have hC':C (decide ((its.getD i (0,[])).2<(its.getD j (0,[])).2)) {s with heap:=h'}:=hC;rw[e1,e2]at hC';exact hC'
 ·obtain⟨its',hp,hr,hw⟩:=uo.wD (d:=((0,[]):Addr×List Int)) (f:=fun p=>p.2) pr (fun i hi=>by show(its.getD i (0,[])).2=_;simp[hi]) ho;have hn:H D=none:=I.hok.fresh hD;have rv':Vals (its'.map fun p=>V.ref p.1) out:=by
   have go:∀(l:List (Addr×List Int)) (us:List ζ),Paired (fun(p:Addr×List Int) (v:ζ)=>v= .ref p.1) l us->Vals (l.map fun p=>V.ref p.1) us:=by
    intro l us h
    induction h with
    |nil=>exact .nil
    |cons r t ih=>exact .cons r ih
   exact go its' out hr
  have zl:(its'.map fun p=>V.ref p.1).length<=sizeLine:=by
   have:=hp.length_eq;rw[aH];exact dD (small1000 (by omega))
  have J:Inv X pins σ (upd H D (.lst (its'.map fun p=>V.ref p.1))) {s with heap:=h',toks:=s.toks}:=I.laid k hD ⟨zl,out,c,rv',hc⟩;refine⟨.ref D,_,J,rfl,q D its' hn hp (hw.imp fun{x y} hxy=> ?_)⟩;rw[HT.bR];exact hxy
end
end L2
namespace Hs
open PySem L2 o9
section
variable{P:ξ}{w:τ}{K:W.Frag}{mg:L4}{base:Heap}
theorem Fo{t:TT}{s u w:TS}{D:Ends}{σ:St}{H:Hp}(I:Bool->Hp->Prop)(h1:∀N:Bool->Hp->Prop,(∀b H',I b H'->N b H')->t σ H N)(h2:∀b H',I b H'->if b=true then s {D with nx:=w D} σ H' else u {D with nx:=w D} σ H'):tSeq (tIfS t s u) w D σ H:=h1 _ h2
noncomputable def JC(K:W.Frag):Sp:=fun vs H Q _=>∃(cp bx wb:Addr) (ns:List Int) (b n:Int) (ts:L0),vs=[.ref cp,.ref wb,.int 7]/\dB K H cp bx ns b/\b<=900000000/\aJ K H wb n ts/\
 ∀r da wa d n' ts' H',aD cp H H'->dB K H' cp bx ns (b+20)->SqT K H' r [.ref da,.ref wa]->cV K H' da d->HF n ts d->aJ K H' wa n' ts'->Mq n n' ts ts' d->Q (.ref r) H'
theorem TJ{f f1:Addr}{fd d1:ρ}(F:Fun K "_law_e_next" "_law_e_next" jf f fd)(D1:bJ K mg "_law_e_dip" Vo ["cup","many"] f1 d1)(G1:FnOk P w K mg base CX0 2 f1 d1 ["cup","many"] (yF K))(aL:mg "tuple"=none)(aN:mg "range"=none)(eE:mg "sorted"=none)(dI:mg "list"=none)(yZ:mg "min"=none)(KH:mg "max"=none):
  FnOk P w K mg base CX0 3 f fd ["cup","web","most"] (JC K):=by
 refine F.cG ["cup","web","most","n","ties","sort","some","i","j","pair"] fun cdv A outer s H vs Q E hr h=> ?_;obtain⟨cp,bx,wb,ns,b,n,ts,rfl,hC,hb,hW,qq⟩:=h;refine bA ?_;intro Y;refine⟨_,(aM (ps_asg (pv 1) (pg_tup rfl (nF (pG 3) (nF (pG 4) Ai)))) (aM (pS 5 (pc G1 hr D1 (aj (pv 0) (aj aB ak)))) (aM (fJ (PW.pt (pw_or (dO op_eq (pv 3) aB) (pw_or1 (PW.pt (pw_and (dO op_lt (pv 5) aB) (pw_and1 (dO op_lt (pv 3) (pv 2)))))))) (aM (pS 6 (pT Du aL (aj (pK ["place"] ["cup"] [0] (HW rfl aN (aj (pv 3) ak)) (pG 0) (Ak (dO op_eq (pc G1 hr D1 (aj (pv 1) (aj aB ak))) aB)) (pv 0)) ak))) (aX (bM (fu (aj (fu (aj vd (aj (pv 6) ak))) (aj (fu (aj (bK nA (pv 3) aB) (aj (pT Du aL (aj (pB jk eE (aj (bK op_cat (pT call_list_of dI (aj (pv 4) ak)) (pK ["place"] ["n"] [3] (Aj (pv 6)) (pG 0) pD (fu (aj (pv 0) (aj (pv 1) ak))))) ak)) ak)) ak))) ak)))))) gC) (aM (fJ (PW.pt (pw_or (dO op_lt (pv 3) aB) (pw_or1 (PW.pt (pw_and (dO op_eq (pv 5) aB) (pw_and1 (dO op_gt (pv 3) aB))))))) (aX (bM (fu (aj (fu (aj vd ak)) (aj (fu (aj (bK op_sub (pv 3) aB) (aj (pT Du aL (aj (pK ["tie"] ["n"] [3] (Aj (pv 4)) (pG 0) (Ak (dO op_lt (aP (Ah K) (pv 0) aB) (bK op_sub (pv 1) aB))) (pv 0)) ak)) ak))) ak))))) gC) (aM (pS 7 (pc G1 hr D1 (aj (pv 0) (aj (pv 3) ak)))) (aM (pS 8 (bK op_mod (bK nA (bK nA (pv 7) aB) (pc G1 hr D1 (aj (pv 0) (aj (bK op_sub (pv 3) aB) ak)))) (pv 3))) (aM (pS 9 (fu (aj (pB (call_min2 rfl) yZ (aj (pv 7) (aj (pv 8) ak))) (aj (pB (call_max2 rfl) KH (aj (pv 7) (aj (pv 8) ak))) ak)))) (aM (fJ (dO (wI hr.units) (pv 9) (pv 4) (by with_unfolding_all rfl)) (aX (bM (fu (aj (fu (aj vd (aj (pv 7) (aj (pv 8) ak)))) (aj (fu (aj (pv 3) (aj (pT Du aL (aj (pK ["tie"] ["pair"] [9] (Aj (pv 4)) (pG 0) (Ak (dO (Et K hr.units) (pv 0) (pv 1))) (pv 0)) ak)) ak))) ak))))) gC) (aX (bM (fu (aj (fu (aj vd (aj (pv 7) (aj (pv 8) ak)))) (aj (fu (aj (pv 3) (aj (pT Du aL (aj (pB uU eE (aj (bK Ew (pv 4) (fu (aj (pv 9) ak))) ak)) ak)) ak))) ak))))))))))))),?_⟩;refine X4 ?_;intro c9 c8 c7 c6 c5 c4 c3 c2;have h0:=hW.h0;have h10:=hW.h1;have Yc:=hW.len;obtain⟨z0,hz0⟩:=hC.lst;obtain⟨tt,rr,w1,w2,w3⟩:=id hW.web;refine⟨_,rfl,wb,_,rfl,w1,rfl,_,_,rfl,_,_,rfl,rfl,?_⟩;refine⟨_,rfl,cp,bx,ns,8,b,rfl,hC,by omega,by decide,by decide,fun so H1 so0 so1 x1 c1=> ?_⟩;have k1:TK K H H1:=x1.tk hz0;obtain⟨z1,hz1⟩:=c1.lst;have W1:=hW.lU x1 hz0;have w21:=k1 _ _ w2;obtain⟨its,rfl,iH,w4⟩:=eF w3;have w41:∀p∈its,SqT K H1 p.1 ((pl p.2).map V.int):=fun p hp=>k1 _ _ (w4 p hp);have lits:its.length=ts.length:=by rw[<-iH,aH]
 dsimp only[gName];refine Fo (fun b H'=>H'=H1/\(b=true->n<10)/\(b=false->n≠0)) (fun N hN=> ?_) ?_
 ·refine⟨_,rfl,rfl,_,rfl,?_⟩;refine ite2 (fun c=> ?_) (fun c=> ?_)
  ·have:n=0:=V.int.inj (cR c);exact hN _ _ ⟨rfl,fun _=>by omega,fun z=>nomatch z⟩
  ·have n0:n≠0:=fun z=>c (cI (jz V.int z));refine⟨_,rfl,_,_,rfl,rfl,_,rfl,?_⟩;refine ite2 (fun c2=> ?_) (fun c2=>hN _ _ ⟨rfl,fun z=>absurd z (by decide),fun _=>n0⟩);refine⟨_,rfl,_,rfl,_,_,rfl,rfl,_,rfl,hN _ _ ⟨rfl,fun z=> ?_,fun _=>n0⟩⟩;have:=cR z;omega
 rintro b1 Y0 ⟨rfl,hlt,hne⟩;cases b1 with
 |true=>
  refine iteT ?_;have n9:=hlt rfl;refine⟨_,rfl,n,rfl,by omega,by omega,?_⟩;let mZ:Nat->List V->St->Hp->Prop:=fun i acc σ H'=>(∃xs:List Int,acc=xs.map V.int/\xs.Pairwise (· < ·)/\(∀x∈xs,0<=x/\x<(i:Int))/\xs.length<=i)/\aD cp Y0 H'/\dB K H' cp bx ns (b+1+(i:Int))/\∃o,σ=[o,some (.ref cp)];refine Qy (n:=n.toNat) mZ ⟨⟨[],rfl,.nil,fun x hx=>(nomatch hx),aR _⟩,aD.refl _ _,c1.mono (by omega),_,rfl⟩ (fun i acc σ H' hi p=> ?_) (by rw[iz];omega) (fun i acc σ H' hi p=> ?_) (fun acc σ H' p=> ?_)
  ·obtain⟨⟨xs,rfl,_,_,hl⟩,_⟩:=p;rw[aH];exact hl
  ·obtain⟨⟨xs,rfl,hxs,XJ,hl⟩,x2,c2,o,rfl⟩:=p;refine⟨_,rfl,cp,bx,ns,2,_,rfl,c2,by omega,by decide,by decide,fun r H3 r0 r1 x3 c3=>⟨rfl,_,rfl,?_⟩⟩;refine ite2 (fun c=> ?_) (fun c=> ?_)
   ·refine⟨_,rfl,⟨xs++[0+(i:Int)],by rw[cg];rfl,?_,fun x hx=> ?_,by rw[rE];show _+1<=_;omega⟩,x2.trans x3,c3.mono (by omega),_,rfl⟩
    ·refine Wm.mpr ⟨hxs,QG _ _,fun x hx y hy=> ?_⟩;rw[kO.mp hy];have:=XJ x hx;omega
    ·rcases pL.mp hx with z|z
     ·have:=XJ x z;omega
     ·rw[kO.mp z];omega
   ·exact⟨⟨xs,rfl,hxs,fun x hx=>by have:=XJ x hx;omega,by omega⟩,x2.trans x3,c3.mono (by omega),_,rfl⟩
  intro p1 hp1;obtain⟨⟨xs,rfl,hxs,XJ,hl⟩,x2,c2,_⟩:=p;have hx:iI n xs:=⟨hxs,fun x hx=>by have:=XJ x hx;omega⟩;have n1:=aK hp1 (.lst (xs.map V.int));refine⟨p1,_,rfl,.inl ⟨SqL.of aA,fun t ht=> ?_⟩⟩;have n2:=aK ht (.tup (xs.map V.int));have hX:SqT K (upd (upd H' p1 (.lst (xs.map V.int))) t (.tup (xs.map V.int))) t (xs.map V.int):=SqT.of aA;have n12:=n1.trans n2;have xA:aD cp Y0 (upd (upd H' p1 (.lst (xs.map V.int))) t (.tup (xs.map V.int))):=x2.trans (n12.x cp);have cA:=c2.same n12;generalize (upd (upd H' p1 (.lst (xs.map V.int))) t (.tup (xs.map V.int)))=G0 at *;have kA:TK K Y0 G0:=xA.tk hz1;refine⟨_,rfl,(by show 2<=sizeLine;decide),fun q1 hq1=> ?_⟩;have m1:=aK hq1 (.tup [.str "put",.ref t]);have hD:cV K (upd G0 q1 (.tup [.str "put",.ref t])) q1 (.put xs):=⟨t,SqT.of aA,m1.tup hX⟩;have w22:=m1.tup (kA _ _ w21);have w42:∀p∈its,SqT K (upd G0 q1 (.tup [.str "put",.ref t])) p.1 ((pl p.2).map V.int):=fun p hp=>m1.tup (kA _ _ (w41 p hp));have hX2:=m1.tup hX;have cB:=cA.same m1;have xB:aD cp Y0 (upd G0 q1 (.tup [.str "put",.ref t])):=xA.trans (m1.x cp);generalize (upd G0 q1 (.tup [.str "put",.ref t]))=G1 at *;refine⟨_,rfl,_,_,rfl,rfl,_,rfl,tt,_,rfl,.inr w22,fun l2 hl2=> ?_⟩;have n2:=aK hl2 (.lst (its.map fun p=>V.ref p.1));have hX3:=n2.tup hX2;refine⟨_,rfl,t,_,rfl,hX3,fun hz=> ?_⟩;let xQ:Nat->List V->St->Hp->Prop:=fun i acc σ H'=>Same (upd G1 l2 (.lst (its.map fun p=>V.ref p.1))) H'/\cO K H' acc ((putL n (xs.take i)).map pairD)/\∃o,σ=[o,some (.int n)];refine Al (xs:=xs.map V.int) xQ ⟨Same.refl _,.nil,_,rfl⟩ (fun i acc σ H' _ p=>by exact p.1.tup hX3) (fun i acc σ H' hi p=> ?_) hz (fun i x acc σ H' hx' p=> ?_) (fun acc σ H' p=> ?_)
  ·have:=p.2.1.len;unfold putL at this;rw[aH,aH,uH]at this;omega
  ·obtain⟨sm,hd,o',rfl⟩:=p;rw[dY]at hx';cases ex:xs[i]? with
   |none=>rw[ex]at hx';cases hx'
   |some x0=>
    rw[ex]at hx';cases hx';refine⟨_,rfl,_,rfl,(by show 2<=sizeLine;decide),fun q2 hq2=> ?_⟩;have n2:=aK hq2 (.tup [.int x0,.int n]);refine⟨sm.trans n2,?_,_,rfl⟩;have e:putL n (xs.take (i+1))=putL n (xs.take i)++[(x0,n)]:=by unfold putL;rw[vX,ex,cg];rfl
    rw[e,cg];exact(hd.same n2).append (.cons (.tup (SqT.of aA) (.cons (.int _) (.cons (.int _) .nil))) .nil)
  intro p1 hp1;obtain⟨sm,hd,_⟩:=p;rw[aH,rW]at hd;have n1:=aK hp1 (.lst acc);have hacc:(upd H' p1 (.lst acc)) p1=some (.lst acc):=aA;have hd1:=hd.same n1;have s2:=sm.trans n1;have aaE:=s2 _ _ (aA (H:=G1) (a:=l2) (o:= .lst (its.map fun p=>V.ref p.1)));have s12:=n2.trans s2;generalize (upd H' p1 (.lst acc))=G2 at *;obtain⟨jq,Yy,Yx,jqT⟩:=eF hd1;have ljq:jq.length=xs.length:=by
   have:=jz List.length Yx;unfold putL at this;rw[aH,aH]at this;exact this
  refine⟨l2,p1,_,_,rfl,rfl,aaE,hacc,by rw[Yy,aH,aH,iz];omega,fun l3 hl3=> ?_⟩;have n3:=aK hl3 (.lst ((its.map fun p=>V.ref p.1)++acc));have K4:(upd G2 l3 (.lst ((its.map fun p=>V.ref p.1)++acc))) l3=some (.lst ((its++jq).map fun p=>V.ref p.1)):=by rw[aA,Yy,cg]
  have n23:=s12.trans n3;have jq3:∀p∈jq,SqT K (upd G2 l3 (.lst ((its.map fun p=>V.ref p.1)++acc))) p.1 ((pl p.2).map V.int):=fun p hp=>n3.tup (jqT p hp);generalize (upd G2 l3 (.lst ((its.map fun p=>V.ref p.1)++acc)))=G3 at *;have jT:∀p∈its++jq,SqT K G3 p.1 ((pl p.2).map V.int):=fun p hp'=>by
   rcases pL.mp hp' with z|z
   ·exact n23.tup (w42 p z)
   ·exact jq3 p z
  have M8:((its++jq).map (·.2))=ts++putL n xs:=by rw[cg,iH,Yx]
  have hq2:aG (n+1) ((its++jq).map (·.2)):=by
   rw[M8];exact J7 hW.pk hx
  have ejl:(its++jq).length<=55:=by rw[rE];omega
  generalize its++jq=jts at *;refine⟨l3,jts.map (fun p=>(p.1,pl p.2)),rfl,by rw[vh];exact SqL.of K4,fun p hp'=> ?_,by rw[aH];omega,fun l4 its' Uv hperm oK=> ?_⟩
  ·obtain⟨p',hp'',rfl⟩:=iK.mp hp';exact⟨jT p' hp'',by unfold pl;simp⟩
  have n4:=aK Uv (.lst (its'.map fun p=>V.ref p.1));refine⟨l4,_,rfl,.inl ⟨SqL.of aA,fun t1 ht1=>⟨(by show 2<=sizeLine;decide),fun vY zy=>⟨(by show 2<=sizeLine;decide),fun r hr=> ?_⟩⟩⟩⟩;have n5:=aK ht1 (.tup (its'.map fun p=>V.ref p.1));have n6:=aK zy (.tup [.int (n+1),.ref t1]);have n7:=aK hr (.tup [.ref q1,.ref vY]);have n46:=n4.trans (n5.trans n6);obtain⟨us,W,J5⟩:=DQ (K:=K) (n:=n+1) (by omega) (by omega) hq2 hperm oK (fun p hp'=>n46.tup (jT p hp')) (SqT.of aA) (SqT.of (n6 _ _ aA));rw[M8]at J5;have n27:=n23.trans (n46.trans n7);exact qq r q1 vY (.put xs) (n+1) us _ (x1.trans (xB.trans (n27.x cp))) ((cB.same n27).mono (by omega)) (SqT.of aA) (hD.tk n27.tk) ⟨hx,n9⟩ (W.same n7) ⟨rfl,fun p=>J5.mem_iff.trans pL⟩
 |false=>
  refine iteF ?_;have n0:n≠0:=hne rfl
  try dsimp only[tNext]
  refine Fo (fun b H'=>H'=Y0/\(b=false->2<=n)) (fun N hN=> ?_) ?_
  ·refine⟨_,rfl,_,_,rfl,rfl,_,rfl,?_⟩;refine ite2 (fun c=>hN _ _ ⟨rfl,fun z=>nomatch z⟩) (fun c=> ?_);have n2:2<=n:=by
    have:¬n<2:=fun z=>c (cI z);omega
   refine⟨_,rfl,rfl,_,rfl,?_⟩;refine ite2 (fun c2=> ?_) (fun c2=>hN _ _ ⟨rfl,fun _=>n2⟩);exact⟨_,rfl,_,_,rfl,rfl,_,rfl,hN _ _ ⟨rfl,fun _=>n2⟩⟩
  rintro b2 Qt ⟨rfl,hge⟩;cases b2 with
  |true=>
   refine iteT ?_;refine⟨(by show 1<=sizeLine;decide),fun q1 hq1=> ?_⟩;have m1:=aK hq1 (.tup [.str "drop"]);have hD:cV K (upd Qt q1 (.tup [.str "drop"])) q1 .drop:=SqT.of aA;have cB:=c1.same m1;have w22:=m1.tup w21;have w42:∀p∈its,SqT K (upd Qt q1 (.tup [.str "drop"])) p.1 ((pl p.2).map V.int):=fun p hp=>m1.tup (w41 p hp);generalize (upd Qt q1 (.tup [.str "drop"]))=G1 at *;refine⟨_,rfl,_,_,rfl,rfl,_,rfl,tt,_,rfl,w22,fun hz=> ?_⟩;let HD:Nat->List V->St->Hp->Prop:=fun i acc σ H'=>acc=((its.take i).filter fun p=>decide (p.2.2<n-1)).map (fun p=>V.ref p.1)/\H'=G1/\∃o,σ=[o,some (.int n)];refine Al (xs:=its.map fun p=>V.ref p.1) HD ⟨rfl,rfl,_,rfl⟩ (fun i acc σ H' _ p=>by rw[p.2.1];exact w22) (fun i acc σ H' hi p=> ?_) hz (fun i x acc σ H' hx p=> ?_) (fun acc σ H' p=> ?_)
   ·rw[p.1,aH];exact cQ (vo _ _) (by rw[uH];exact Av _ _)
   ·obtain⟨rfl,rfl,o,rfl⟩:=p;rw[dY]at hx;cases ex:its[i]? with
    |none=>rw[ex]at hx;cases hx
    |some it=>
     rw[ex]at hx;cases hx;have hit:=w42 it (qQ ex);have go:(its.take (i+1)).filter (fun p=>decide (p.2.2<n-1))=(its.take i).filter (fun p=>decide (p.2.2<n-1))++(if decide (it.2.2<n-1)=true then[it]else[]):=by
      rw[vX,ex,Dy];congr 1;show List.filter _ [it]=_;rw[Ax];rfl
     refine⟨_,rfl,it.1,_,_,.int it.2.2,rfl,rfl,hit,rfl,_,rfl,_,_,rfl,rfl,_,_,rfl,rfl,_,rfl,?_⟩;refine ite2 (fun c=> ?_) (fun c=> ?_)
     ·exact⟨_,rfl,by rw[go,au c,cg];rfl,rfl,_,rfl⟩
     ·exact⟨by rw[go,aq c,Aw],rfl,_,rfl⟩
   intro p1 hp1;obtain⟨rfl,rfl,_⟩:=p;rw[aH,rW];generalize zA:its.filter (fun p=>decide (p.2.2<n-1))=jts at *;have jm:jts.map (·.2)=ts.filter fun p=>decide (p.2<n-1):=by
    rw[<-zA,<-iH,wes];rfl
   have n1:=aK hp1 (.lst (jts.map fun p=>V.ref p.1));refine⟨p1,_,rfl,.inl ⟨SqL.of aA,fun t1 ht1=>⟨(by show 2<=sizeLine;decide),fun vY zy=>⟨(by show 2<=sizeLine;decide),fun r hr=> ?_⟩⟩⟩⟩;have n2:=aK ht1 (.tup (jts.map fun p=>V.ref p.1));have n3:=aK zy (.tup [.int (n-1),.ref t1]);have n4:=aK hr (.tup [.ref q1,.ref vY]);have n13:=n1.trans (n2.trans n3);have Dv:=iD (K:=K) jts (fun p hp=>n13.tup (w42 p (by rw[<-zA]at hp;exact(eN.mp hp).1)));rw[jm]at Dv;have ok:=rZ (n:=n-1) (by omega) (by omega) (hW.v9.filter _) fun p (hp:p∈ts.filter fun p=>decide (p.2<n-1))=>by
    obtain⟨m1,m2⟩:=eN.mp hp;have:=hW.pk.lt p m1;have:=cR m2;omega
   have n14:=n13.trans n4;have W:aJ K _ vY (n-1) _:=⟨⟨t1,_,SqT.of aA,SqT.of (n3 _ _ aA),Dv⟩,by omega,by omega,ok.1,ok.2⟩;exact qq r q1 vY .drop (n-1) _ _ (x1.trans ((m1.x cp).trans (n14.x cp))) ((cB.same n14).mono (by omega)) (SqT.of aA) (hD.tk n14.tk) (show 0<n by omega) (W.same n4) ⟨rfl,fun p=>by rw[eN,QS]⟩
  |false=>
   refine iteF ?_;have n2:=hge rfl;refine⟨_,rfl,_,rfl,cp,bx,ns,n,_,rfl,c1,by omega,by omega,by omega,fun i H2 i0 i1 x2 c2=> ?_⟩;refine⟨_,rfl,_,_,rfl,rfl,_,rfl,_,rfl,_,_,rfl,rfl,cp,bx,ns,n-1,_,rfl,c2,by omega,by omega,by omega,fun j0 H3 j00 j01 x3 c3=>⟨_,_,rfl,rfl,_,rfl,_,_,rfl,rfl,by omega,?_⟩⟩;have hj0:0<=(i+1+j0) %n:=Int.emod_nonneg _ (by omega);have hj1:(i+1+j0) %n<n:=Int.emod_lt_of_pos _ (by omega);have hij:i≠(i+1+j0) %n:=fun e=>by
    by_cases c:i+1+j0<n
    ·rw[Int.emod_eq_of_lt (by omega) c]at e;omega
    ·have:(i+1+j0) %n=i+1+j0-n:=by
      rw[<-Int.sub_emod_right,Int.emod_eq_of_lt (by omega) (by omega)]
     omega
   show gName _ _ _ _ _
   try dsimp only
   generalize (i+1+j0) %n=j at *;have x13:=x2.trans x3;have k3:TK K Qt H3:=x13.tk hz1;have w23:=k3 _ _ w21;have w43:∀p∈its,SqT K H3 p.1 ((pl p.2).map V.int):=fun p hp=>k3 _ _ (w41 p hp);have W3:=W1.lU x13 hz1;have two:Two n i j:=⟨i0,i1,hj0,hj1,hij⟩;have lh:=XC i0 i1 hj0 hj1 hij;refine⟨_,rfl,_,rfl,i,j,rfl,_,rfl,_,rfl,i,j,rfl,(by show 2<=sizeLine;decide),fun pp hpp=> ?_⟩;have m1:=aK hpp (.tup [.int (lo2 i j),.int (hi2 i j)]);have hP:SqT K (upd H3 pp (.tup [.int (lo2 i j),.int (hi2 i j)])) pp [.int (lo2 i j),.int (hi2 i j)]:=SqT.of aA;have cB:=c3.same m1;have w24:=m1.tup w23;have w44:∀p∈its,SqT K (upd H3 pp (.tup [.int (lo2 i j),.int (hi2 i j)])) p.1 ((pl p.2).map V.int):=fun p hp=>m1.tup (w43 p hp);have xB:aD cp H (upd H3 pp (.tup [.int (lo2 i j),.int (hi2 i j)])):=x1.trans (x13.trans (m1.x cp));show gName _ _ _ (upd H3 pp (.tup [.int (lo2 i j),.int (hi2 i j)])) _;generalize (upd H3 pp (.tup [.int (lo2 i j),.int (hi2 i j)]))=G1 at *;have Dv1:=iD (K:=K) its w44;rw[iH]at Dv1;refine⟨_,rfl,_,rfl,tt,_,_,pairD (lo2 i j,hi2 i j),rfl,.inr w24,Dv1,.tup hP (.cons (.int _) (.cons (.int _) .nil)),lC ts,rfl,(by show max 0 (max 0 0)+1<=60;decide),_,rfl,?_⟩;rw[zX];refine ite2 (fun c=> ?_) (fun c=> ?_)
   ·have hin:=cR c;refine⟨_,rfl,_,rfl,(by show 3<=sizeLine;decide),fun q1 hq1=> ?_⟩;have m2:=aK hq1 (.tup [.str "untie",.int i,.int j]);have hD:cV K (upd G1 q1 (.tup [.str "untie",.int i,.int j])) q1 (.vA i j):=SqT.of aA;have w25:=m2.tup w24;have w45:∀p∈its,SqT K (upd G1 q1 (.tup [.str "untie",.int i,.int j])) p.1 ((pl p.2).map V.int):=fun p hp=>m2.tup (w44 p hp);have hP2:=m2.tup hP;have cC:=cB.same m2;have xC:=xB.trans (m2.x cp);generalize (upd G1 q1 (.tup [.str "untie",.int i,.int j]))=G2 at *;refine⟨_,rfl,_,rfl,tt,_,rfl,w25,fun hz=> ?_⟩;let Vj:Nat->List V->St->Hp->Prop:=fun k acc σ H'=>acc=((its.take k).filter fun p=> !decide (p.2=(lo2 i j,hi2 i j))).map (fun p=>V.ref p.1)/\H'=G2/\∃o,σ=[o,some (.ref pp)];refine Al (xs:=its.map fun p=>V.ref p.1) Vj ⟨rfl,rfl,_,rfl⟩ (fun i acc σ H' _ p=>by rw[p.2.1];exact w25) (fun i acc σ H' hi p=> ?_) hz (fun k x acc σ H' hx p=> ?_) (fun acc σ H' p=> ?_)
    ·rw[p.1,aH];exact cQ (vo _ _) (by rw[uH];exact Av _ _)
    ·obtain⟨rfl,rfl,o',rfl⟩:=p;rw[dY]at hx;cases ex:its[k]? with
     |none=>rw[ex]at hx;cases hx
     |some it=>
      rw[ex]at hx;cases hx;have hit:=w45 it (qQ ex);have go:(its.take (k+1)).filter (fun p=> !decide (p.2=(lo2 i j,hi2 i j)))=(its.take k).filter (fun p=> !decide (p.2=(lo2 i j,hi2 i j)))++(if(!decide (it.2=(lo2 i j,hi2 i j)))=true then[it]else[]):=by
       rw[vX,ex,Dy];congr 1;show List.filter _ [it]=_;rw[Ax];rfl
      refine⟨_,rfl,_,rfl,pairD it.2,pairD (lo2 i j,hi2 i j),.tup hit (.cons (.int _) (.cons (.int _) .nil)),.tup hP2 (.cons (.int _) (.cons (.int _) .nil)),rfl,rfl,(by show min (max 0 (max 0 0)+1) (max 0 (max 0 0)+1)<=64;decide),_,rfl,?_⟩;rw[j5];refine ite2 (fun c=> ?_) (fun c=> ?_)
      ·exact⟨_,rfl,by rw[go,au c,cg];rfl,rfl,_,rfl⟩
      ·exact⟨by rw[go,aq c,Aw],rfl,_,rfl⟩
    intro p1 hp1;obtain⟨rfl,rfl,_⟩:=p;rw[aH,rW];generalize zA:its.filter (fun p=> !decide (p.2=(lo2 i j,hi2 i j)))=jts at *;have jm:jts.map (·.2)=ts.filter fun p=> !decide (p=(lo2 i j,hi2 i j)):=by
     rw[<-zA,<-iH,wes];rfl
    have n1:=aK hp1 (.lst (jts.map fun p=>V.ref p.1));refine⟨p1,_,rfl,.inl ⟨SqL.of aA,fun t1 ht1=>⟨(by show 2<=sizeLine;decide),fun vY zy=>⟨(by show 2<=sizeLine;decide),fun r hr=> ?_⟩⟩⟩⟩;have n2:=aK ht1 (.tup (jts.map fun p=>V.ref p.1));have n3:=aK zy (.tup [.int n,.ref t1]);have n4:=aK hr (.tup [.ref q1,.ref vY]);have n13:=n1.trans (n2.trans n3);have Dv:=iD (K:=K) jts (fun p hp=>n13.tup (w45 p (by rw[<-zA]at hp;exact(eN.mp hp).1)));rw[jm]at Dv;have ok:=rZ (n:=n) h0 h10 (hW.v9.filter _) fun p (hp:p∈ts.filter fun p=> !decide (p=(lo2 i j,hi2 i j)))=>hW.pk.lt p (eN.mp hp).1;have n14:=n13.trans n4;have W:aJ K _ vY n _:=⟨⟨t1,_,SqT.of aA,SqT.of (n3 _ _ aA),Dv⟩,h0,h10,ok.1,ok.2⟩;exact qq r q1 vY (.vA i j) n _ _ (xC.trans (n14.x cp)) ((cC.same n14).mono (by omega)) (SqT.of aA) (hD.tk n14.tk) ⟨two,hin⟩ (W.same n4) ⟨rfl,fun p=>by rw[eN,wcg,wbu]⟩
   ·have hin:(lo2 i j,hi2 i j)∉ts:=fun z=>c (cI z);refine⟨_,rfl,_,rfl,(by show 3<=sizeLine;decide),fun q1 hq1=> ?_⟩;have m2:=aK hq1 (.tup [.str "tie",.int i,.int j]);have hD:cV K (upd G1 q1 (.tup [.str "tie",.int i,.int j])) q1 (.tie i j):=SqT.of aA;have w25:=m2.tup w24;have w45:∀p∈its,SqT K (upd G1 q1 (.tup [.str "tie",.int i,.int j])) p.1 ((pl p.2).map V.int):=fun p hp=>m2.tup (w44 p hp);have hP2:=m2.tup hP;have cC:=cB.same m2;have xC:=xB.trans (m2.x cp);generalize (upd G1 q1 (.tup [.str "tie",.int i,.int j]))=G2 at *;refine⟨_,rfl,_,rfl,_,rfl,(by show 1<=sizeLine;decide),fun q3 hq3=> ?_⟩;have n2:=aK hq3 (.tup [.ref pp]);refine⟨tt,q3,_,_,rfl,rfl,n2.tup w25,SqT.of aA,by rw[aH,iz];show its.length+1<=_;omega,fun ca G4 n3 ec1=> ?_⟩;have n23:=n2.trans n3;have jT:∀p∈its++[(pp,(lo2 i j,hi2 i j))],SqT K G4 p.1 ((pl p.2).map V.int):=fun p hp'=>by
     rcases pL.mp hp' with z|z
     ·exact n23.tup (w45 p z)
     ·rw[kO.mp z];exact n23.tup hP2
    have hq:aG n ((its++[(pp,(lo2 i j,hi2 i j))]).map (·.2)):=by
     rw[cg,iH];refine⟨List.nodup_append.mpr ⟨hW.pk.nd,(QG _ _),fun x hx y hy e=> ?_⟩,fun p hp'=> ?_⟩
     ·have:y=(lo2 i j,hi2 i j):=kO.mp hy;rw[e,this]at hx;exact hin hx
     ·rcases pL.mp hp' with z|z
      ·exact hW.pk.lt p z
      ·have:p=(lo2 i j,hi2 i j):=kO.mp z;rw[this];exact lh
    have ejl:(its++[(pp,(lo2 i j,hi2 i j))]).length<=46:=by rw[rE];show _+1<=_;omega
    have ej:(its.map (fun p=>V.ref p.1))++[V.ref pp]=(its++[(pp,(lo2 i j,hi2 i j))]).map fun p=>V.ref p.1:=by rw[cg];rfl
    rw[ej]at ec1;have M8:((its++[(pp,(lo2 i j,hi2 i j))]).map (·.2))=ts++[(lo2 i j,hi2 i j)]:=by rw[cg,iH];rfl
    generalize its++[(pp,(lo2 i j,hi2 i j))]=jts at *;refine⟨ca,jts.map (fun p=>(p.1,pl p.2)),rfl,by rw[vh];exact ec1,fun p hp'=> ?_,by rw[aH];omega,fun l1 its' hl1 hperm oK=> ?_⟩
    ·obtain⟨p',hp'',rfl⟩:=iK.mp hp';exact⟨jT p' hp'',by unfold pl;simp⟩
    have n4:=aK hl1 (.lst (its'.map fun p=>V.ref p.1));refine⟨l1,_,rfl,.inl ⟨SqL.of aA,fun t1 ht1=>⟨(by show 2<=sizeLine;decide),fun vY zy=>⟨(by show 2<=sizeLine;decide),fun r hr=> ?_⟩⟩⟩⟩;have n5:=aK ht1 (.tup (its'.map fun p=>V.ref p.1));have n6:=aK zy (.tup [.int n,.ref t1]);have n7:=aK hr (.tup [.ref q1,.ref vY]);have n46:=n4.trans (n5.trans n6);obtain⟨us,W,J5⟩:=DQ (K:=K) (n:=n) h0 h10 hq hperm oK (fun p hp'=>n46.tup (jT p hp')) (SqT.of aA) (SqT.of (n6 _ _ aA));rw[M8]at J5;have n27:=n23.trans (n46.trans n7);exact qq r q1 vY (.tie i j) n us _ (xC.trans (n27.x cp)) ((cC.same n27).mono (by omega)) (SqT.of aA) (hD.tk n27.tk) ⟨two,hin⟩ (W.same n7) ⟨rfl,fun p=>J5.mem_iff.trans (pL.trans (or_congr_right kO))⟩
noncomputable def spLaw(K:W.Frag):Sp:=fun vs H Q _=>∃(a:Addr) (ns:List Int),vs=[.ref a]/\qX K H a ns/\ns.length<=63/\∀H',Q (.bl true) H'
theorem JF{H:Hp}{a:Addr}{ns:List Int}(hl:ns.length<=63)(hO:Only H)(hS:SqL K H a (ns.map V.int)):spLaw K [.ref a] H (fun v _=>v= .bl true) fun _ _ _=>False:=by
 refine⟨a,ns,rfl,?_,hl,fun _=>rfl⟩;rcases hS with(h|⟨o,h⟩)|h
 ·rcases hO a with q|⟨o,xs,q⟩
  ·rw[q]at h;cases h
  ·rw[q]at h;cases h
 ·exact .inl ⟨o,h⟩
 ·exact .inr h
theorem Jl{H:Hp}{a p:Addr}{ns:List Int}(hS:qX K H a ns)(h63:ns.length<=63)(hp:H p=none):o7 K (upd H p (.lst [.ref a,.int 0,.int 0])) p a ns:=
 ⟨⟨0,0,aA,pF _,pF _⟩,hS.same (aK hp _),h63⟩
noncomputable def aae(K:W.Frag):List V->Hp->VK->Prop:=fun xs H Q=>∃p ys,xs=[.ref p]/\(SqL K H p ys\/SqT K H p ys)/\(ys.length<=16777216->Q (.int ys.length) H)
theorem Jk{H:Hp}{tp bx:Addr}{ns:List Int}{k:Int}{r:St}{Q:Bool->Hp->Prop}(tv:o7 K H tp bx ns)(hQ:∀b,Q b H):
  tAnd (tTest (tOp (rI0 fun i j=> .bl (decide (j<i))) (tVar 2) (tC (.int 1)))) (tTest (tOp (rI0 fun i j=> .bl (decide (j<=i))) (tOp (rIxL K) (tVar 1) (tC (.int 1))) (tCB (aae K) (tCons (tVar 0) tNil)))) (some (.ref bx)::some (.ref tp)::some (.int k)::r) H Q:=by
 obtain⟨⟨i,rr,hH,_,_⟩,hS,_⟩:=tv;refine⟨_,rfl,_,_,rfl,rfl,_,rfl,?_⟩;refine ite2 (fun c=> ?_) (fun c=>hQ _);exact⟨_,rfl,tp,_,_,.int i,rfl,rfl,SqL.of hH,rfl,_,rfl,bx,_,rfl,.inl hS.sq,fun _=>⟨_,_,rfl,rfl,_,rfl,hQ _⟩⟩
theorem Qo{H:Hp}{a p:Addr}{ns:List Int}(hS:qX K H a ns)(h63:ns.length<=63)(hp:H p=none):dB K (upd H p (.lst [.ref a,.int 0,.int 0])) p a ns 0:=
 ⟨Jl hS h63 hp,0,0,aA,pF _⟩
theorem _root_.L2.dB.ins{H H':Hp}{tp bx o C dx:Addr}{ns:List Int}{b:Int}{fs:List (Str×V)}(h:dB K H tp bx ns b)(e:aD o H H')(hO:H o=some (.ins C dx fs)):dB K H' tp bx ns b:=by
 obtain⟨⟨⟨i,r,h1,h2,h3⟩,h4,h5⟩,i',r',h6,h7⟩:=h;have ne:tp≠o:=fun z=>by rw[z,hO]at h1;cases h1
 refine⟨⟨⟨i,r,e _ _ ne h1,h2,h3⟩,?_,h5⟩,i',r',e _ _ ne h6,h7⟩;rcases h4 with⟨ob,h⟩|h
 ·exact .inl ⟨ob,e _ _ (fun z=>by rw[z,hO]at h;cases h) h⟩
 ·exact .inr h
theorem cU.other{C o c C' dx:Addr}{H H':Hp}{S:Sd}{fs:List (Str×V)}(h:cU K C H o S)(e:aD c H H')(hc:H c=some (.ins C' dx fs))(ne:o≠c):cU K C H' o S:=by
 obtain⟨dx',wb,va,lr,pr,h1,h2,h3,h4,h5,h6,h7⟩:=h;have k:TK K H H':=e.R3 hc;exact⟨dx',wb,va,lr,pr,e _ _ ne h1,h2.tk k,k _ _ h3,e _ _ (fun z=>by rw[z,hc]at h4;cases h4) h4,h5.tk k,e _ _ (fun z=>by rw[z,hc]at h6;cases h6) h6,h7.tk k⟩
structure qu(K:W.Frag)(C cp bx o:Addr)(ns:List Int)(H:Hp)(b:Int)(S:Sd):Prop where
 cup:dB K H cp bx ns b
 rH:cU K C H o S
 ok:dM S
 nl:S.la≠cp
 np:S.pa≠cp
theorem qu.same{C cp bx o:Addr}{ns:List Int}{H H':Hp}{b:Int}{S:Sd}(h:qu K C cp bx o ns H b S)(e:Same H H'):qu K C cp bx o ns H' b S:=⟨h.cup.same e,h.rH.same e,h.ok,h.nl,h.np⟩
theorem qu.mono{C cp bx o:Addr}{ns:List Int}{H:Hp}{b c:Int}{S:Sd}(h:qu K C cp bx o ns H b S)(e:b<=c):qu K C cp bx o ns H c S:=⟨h.cup.mono e,h.rH,h.ok,h.nl,h.np⟩
theorem qu.dip{C cp bx o:Addr}{ns:List Int}{H H':Hp}{b c:Int}{S:Sd}(h:qu K C cp bx o ns H b S)(x:aD cp H H')(hc:dB K H' cp bx ns c):qu K C cp bx o ns H' c S:=by
 obtain⟨z,hz⟩:=h.cup.lst;exact⟨hc,h.rH.lU x hz h.nl h.np,h.ok,h.nl,h.np⟩
theorem qu.deed{C cp bx o:Addr}{ns:List Int}{H H':Hp}{b:Int}{S S':Sd}(h:qu K C cp bx o ns H b S)(x:aD o H H')(hS:cU K C H' o S')(ok:dM S')(w:qp S S' H):qu K C cp bx o ns H' b S':=by
 obtain⟨dx,fs,hO⟩:=h.rH.ins;obtain⟨z,hz⟩:=h.cup.lst;refine⟨h.cup.ins x hO,hS,ok,?_,dF hz w.2.1⟩;rcases w.1 with e|e
 ·rw[e];exact h.nl
 ·exact dF hz e
theorem qu.tkD{C cp bx o:Addr}{ns:List Int}{H H':Hp}{b:Int}{S:Sd}(h:qu K C cp bx o ns H b S)(x:aD cp H H'):TK K H H':=by
 obtain⟨z,hz⟩:=h.cup.lst;exact x.tk hz
theorem qu.tkS{C cp bx o:Addr}{ns:List Int}{H H':Hp}{b:Int}{S:Sd}(h:qu K C cp bx o ns H b S)(x:aD o H H'):TK K H H':=by
 obtain⟨dx,fs,hO⟩:=h.rH.ins;exact x.R3 hO
theorem Ra{f:Nat->Int}{c:Int}:∀k,(∀i,i<k->f i<=c)->Sx.sm k f<=(k:Int)*c
 |0,_=>by rw[show((0:Nat):Int)=0 from rfl,HX];exact pF _
 |k+1,h=>by
  have a:=Ra k fun i hi=>h i (by omega);have b:=h k (by omega);have e:((k+1:Nat):Int)*c=(k:Int)*c+c:=by rw[Int.natCast_add,Int.add_mul];simp
  rw[e];exact wex a b
theorem dN.num{n:Int}{ts:L0}{f:Int×Nat}(h:dN n ts f)(hn:n<=10):f.1.natAbs<=399168000:=by
 obtain⟨ss,ov,Z,Y,X,hS,h,rfl⟩:=h;have z0:0<=Z:=by rw[<-h.tot];exact Sx.vI _ fun k _=>h.yn k
 have z1:Z<=(n.toNat:Int)*(ov:Int):=by
  rw[<-h.Wt];refine Ra _ fun p hp=> ?_;rw[Az hp,Ao];have sk:jH ts false n.toNat [(p:Int)]:=⟨QG _ _,fun x hx=>by rw[kO.mp hx];omega,fun x hx y hy hn=>absurd ((kO.mp hx).trans (kO.mp hy).symm) hn⟩;have:=qm hS h sk;rw[Sx.cT (j:=p) _ hp fun i _ hi=>aq (by simp;omega),au (by simp)]at this;exact this
 have big:=h.big;have z2:(n.toNat:Int)*(ov:Int)<=10*39916800:=Int.mul_le_mul (by omega) (by omega) (by omega) (by decide);have l:=(Af Z h.pos).lu;omega
noncomputable def zU:iu->Bool
 | .put _=>true
 | .drop=>true
 | .tie _ _=>false
 | .vA _ _=>false
theorem Kz(d:iu):([PyData.str "put",.str "drop"].any fun e=>PyData.eqv e (.str (dName d)))=zU d:=by
 cases d with
 |put xs=>show([PyData.str "put",.str "drop"].any fun e=>PyData.eqv e (.str "put"))=true;decide+kernel
 |drop=>show([PyData.str "put",.str "drop"].any fun e=>PyData.eqv e (.str "drop"))=true;decide+kernel
 |tie i j=>show([PyData.str "put",.str "drop"].any fun e=>PyData.eqv e (.str "tie"))=false;decide+kernel
 |vA i j=>show([PyData.str "put",.str "drop"].any fun e=>PyData.eqv e (.str "untie"))=false;decide+kernel
theorem Ny:PyData.canLayAll0 [PyData.str "put",PyData.str "drop"]=true:=by decide+kernel
theorem Kw(d:iu):(PyData.str (dName d)).canLay0=true:=by
 cases d with
 |put xs=>show(PyData.str "put").canLay0=true;decide+kernel
 |drop=>show(PyData.str "drop").canLay0=true;decide+kernel
 |tie i j=>show(PyData.str "tie").canLay0=true;decide+kernel
 |vA i j=>show(PyData.str "untie").canLay0=true;decide+kernel
theorem QV{S S':Sd}{H:Hp}{d:iu}(h:qp S S' H)(hok:dM S)(n0:0<=S.n)(n1:0<=S'.n)(st:Mq S.n S'.n S.ts S'.ts d):S.t+(if zU d=true then 1 else 0)<=S'.t/\S'.t<=S.t+1:=by
 have a:=RT h;cases d with
 |put xs=>have:=rY h hok n0 n1 (by have:=st.1;omega);exact⟨by show S.t+1<=_;omega,a.2⟩
 |drop=>have:=rY h hok n0 n1 (by have:=st.1;omega);exact⟨by show S.t+1<=_;omega,a.2⟩
 |tie i j=>exact⟨by show S.t+0<=_;omega,a.2⟩
 |vA i j=>exact⟨by show S.t+0<=_;omega,a.2⟩
theorem Jb{n:Int}{ts:L0}(d:iu):zU (undo n ts d)=zU d:=by cases d<;>rfl
theorem ok_law{f f1 f2 f3 f4 f5 f6 f7 f8 f9 f10 f11 C:Addr}{fd d1 d2 d3 d4 d5 d6 d7 d8 d9 d10 YF:ρ}(F:Fun K "law" "law" qH f fd)
  (Na:zZ K C)(lB:mg "Sharing"=some (.ref C))(D1:bJ K mg "_law_e_web" jP ["cup","most"] f1 d1)(G1:FnOk P w K mg base CX0 4 f1 d1 ["cup","most"] (JH K))(D2:lM K C "__init__" "Sharing.__init__" fW ["self","web"] f2 d2)(Mk2:Mk K C f2)(aaN:FnOk P w K mg base CX0 12 f2 d2 ["self","web"] (Bm K C))(D3:lM K C "put" "Sharing.put" Zj ["self","ties"] f3 d3)(G3':FnOk P w K mg base CX0 12 f3 d3 ["self","ties"] (wg K C))(D4:lM K C "value" "Sharing.value" Zn ["self"] f4 d4)(Y4:FnOk P w K mg base CX0 4 f4 d4 ["self"] (sH K C))(D5:bJ K mg "_law_e_stands" fQ ["sharing","web"] f5 d5)(G5:FnOk P w K mg base CX0 11 f5 d5 ["sharing","web"] (yC K C))(D6:bJ K mg "_law_e_dip" Vo ["cup","many"] f6 d6)(G6:FnOk P w K mg base CX0 2 f6 d6 ["cup","many"] (yF K))(D7:bJ K mg "_law_e_next" jf ["cup","web","most"] f7 d7)(G7:FnOk P w K mg base CX0 3 f7 d7 ["cup","web","most"] (JC K))(D8:bJ K mg "_law_e_do" mD ["sharing","deed"] f8 d8)(G8:FnOk P w K mg base CX0 13 f8 d8 ["sharing","deed"] (WX K C))(D9:bJ K mg "_law_e_grows" gR ["deed","ahead","behind"] f9 d9)(G9:FnOk P w K mg base CX0 4 f9 d9 ["deed","ahead","behind"] (Ed K))(D10:bJ K mg "_law_e_undone" fO ["web","deed"] f10 d10)(G10:FnOk P w K mg base CX0 1 f10 d10 ["web","deed"] (yw K))(D11:lM K C "again" "Sharing.again" eY ["self"] f11 YF)(aaO:FnOk P w K mg base CX0 1 f11 YF ["self"] (Jx K C))(aN:mg "range"=none)(bY:mg "len"=none)(aL:mg "tuple"=none)(Xx:mg "int"=none):
  FnOk P w K mg base CX0 14 f fd ["script"] (spLaw K):=by
 have G2m:FnOk P w K mg base CX0 12 f2 d2 ["self","web"] (Bm K C):=aaN.mono (by decide);have G3:FnOk P w K mg base CX0 13 f3 d3 ["self","ties"] (wg K C):=G3'.mono (by decide);have G4:FnOk P w K mg base CX0 13 f4 d4 ["self"] (sH K C):=Y4.mono (by decide);have G11:FnOk P w K mg base CX0 13 f11 YF ["self"] (Jx K C):=aaO.mono (by decide);refine F.cG ["script","cup","k","web","sharing","place","put","deeds","turn","ahead","deed","after"] fun cdv A outer s H vs Q E hr h=> ?_;obtain⟨a,ns,rfl,hS,h63,q⟩:=h;refine bA ?_;intro Y;refine⟨_,(aM (pS 1 (pe_lst (aj (pv 0) (aj aB (aj aB ak))))) (aM (ps_for Iw rfl (HW rfl aN (aj aB ak)) (pG 2) (aM (fJ (PW.pt (pw_and (dO op_gt (pv 2) aB) (pw_and1 (dO op_ge (aP kJ (pv 1) aB) (pB vg bY (aj (pv 0) ak)))))) (aX ps_break) gC) (aM (pS 3 (pc G1 hr D1 (aj (pv 1) (aj aB ak)))) (aM (pS 4 (pe_make Mk2 G2m hr rfl lB D2.b .nil pass0 (aj (fu (aj aB (aj (fu ak) ak))) ak))) (aM (ps_for Iw rfl (HW rfl aN (aj (aP bZ (pv 3) aB) ak)) (pG 5) (aX (lY (uJ (pv 4) Na.c D3.m G3 hr D3.b .nil pass0 (aj (pT Du aL (aj (pK ["i","j"] ["place"] [5] (Aj (aP bZ (pv 3) aB)) (HS K (n:=2) rfl (nF (pG 0) (nF (pG 1) Ai))) (Ak (dO op_eq (pv 1) (pv 2))) (pv 0)) ak)) ak))))) (aM (fJ (PW.pt (pw_or (pI (nJ (pc G5 hr D5 (aj (pv 4) (aj (pv 3) ak))))) (pw_or1 (dO (wG hr.units) (Ge (pe_make Mk2 G2m hr rfl lB D2.b .nil pass0 (aj (pv 3) ak)) Na.c D4.m G4 hr D4.b .nil pass0) (Ge (pv 4) Na.c D4.m G4 hr D4.b .nil pass0))))) (aX (bM pe_bl)) gC) (aM (pS 6 (aP bZ (pv 3) aB)) (aM (pS 7 (aP bZ (pv 3) aB)) (aM (ps_for Iw rfl (HW rfl aN (aj (pc G6 hr D6 (aj (pv 1) (aj aB ak))) ak)) (pG 8) (aM (pS 9 (Ge (pv 4) Na.c D4.m G4 hr D4.b .nil pass0)) (aM (ps_asg (pc G7 hr D7 (aj (pv 1) (aj (pv 3) (aj aB ak)))) (pg_tup rfl (nF (pG 10) (nF (pG 11) Ai)))) (aM (lY (pc G8 hr D8 (aj (pv 4) (aj (pv 10) ak)))) (aM (fJ (PW.pt (pw_or (pI (nJ (pc G5 hr D5 (aj (pv 4) (aj (pv 11) ak))))) (pw_or1 (pI (nJ (pc G9 hr D9 (aj (pv 10) (aj (pv 9) (aj (Ge (pv 4) Na.c D4.m G4 hr D4.b .nil pass0) ak))))))))) (aX (bM pe_bl)) gC) (aM (lY (pc G8 hr D8 (aj (pv 4) (aj (pc G10 hr D10 (aj (pv 3) (aj (pv 10) ak))) ak)))) (aM (fJ (pI (nJ (pc G5 hr D5 (aj (pv 4) (aj (pv 3) ak))))) (aX (bM pe_bl)) gC) (aM (pS 6 (bK nA (pv 6) (bK rB aB (pT call_int1 Xx (aj (Gb (wI hr.units) (aP bZ (pv 10) aB) (pe_lst (aj vd (aj vd ak))) (by with_unfolding_all rfl)) ak))))) (aX (pS 7 (bK nA (pv 7) aB))))))))))) (aX (fJ (pI (pt_chain op_le op_le (pv 6) (Ge (pv 4) Na.c D11.m G11 hr D11.b .nil pass0) (pv 7))) (aX (bM pe_bl)) gC))))))))))) (aX (bM pe_bl)))),?_⟩;refine oN ?_;intro c3 c2;refine⟨_,rfl,(by show 3<=sizeLine;decide),fun cp hcp=> ?_⟩;have c0:=Qo hS h63 hcp;dsimp only;refine⟨3,rfl,by decide,by decide,?_⟩;let mZ:Nat->St->Hp->Prop:=fun k σ H'=>dB K H' cp a ns (1000*(k:Int))/\∃b2 b3 b4 b5 b6 b7 b8 b9 b10 xO,σ=[some (.ref a),some (.ref cp),b2,b3,b4,b5,b6,b7,b8,b9,b10,xO];refine Qx (n:=3) mZ ⟨c0.mono (by omega),_,_,_,_,_,_,_,_,_,_,rfl⟩ (fun k σ H' hk p=> ?_) (fun σ H' p=>q H');obtain⟨c,b2,b3,b4,b5,b6,b7,b8,b9,b10,xO,rfl⟩:=p;refine Jk (K:=K) (r:=[b3,b4,b5,b6,b7,b8,b9,b10,xO]) c.tv (fun b=> ?_);cases b with
 |true=>exact q H'
 |false=>
  refine iteF ?_;dsimp only[tNext];refine⟨_,rfl,cp,a,ns,6,_,rfl,c,by omega,by decide,by decide,fun wb n ts H3 x3 c3 W=> ?_⟩;have h0:=W.h0;have h10:=W.h1;clear c x3;dsimp only[gName,List.set];refine Gd (fun σ' H'=>∃(o:Addr) (S:Sd),σ'=[some (.ref a),some (.ref cp),some (.int (0+(k:Int))),some (.ref wb),some (.ref o),b5,b6,b7,b8,b9,b10,xO]/\qu K C cp a o ns H' (1000*(k:Int)+121) S/\aJ K H' wb n ts/\S.n=0/\S.ts=[]/\S.t=0) (fun N hN=> ?_) ?_
  ·refine⟨(by show 0<=sizeLine;decide),fun t0 ht0=>⟨(by show 2<=sizeLine;decide),fun w0 hw0=>fun o dx ho hdx hne=> ?_⟩⟩;have m1:=aK ht0 (.tup []);have m2:=aK hw0 (.tup [.int 0,.ref t0]);have sM:Same (upd (upd H3 t0 (.tup [])) w0 (.tup [.int 0,.ref t0])) (upd (upd (upd (upd H3 t0 (.tup [])) w0 (.tup [.int 0,.ref t0])) dx (.own o)) o (.ins C dx [])):=(aK hdx _).trans (aK (by rw[cP (lQ hne)];exact ho) _);have wo:=rZ (n:=0) (ts:=[]) (pF _) (by decide) .nil fun p hp=>nomatch hp
   have W0:aJ K (upd (upd H3 t0 (.tup [])) w0 (.tup [.int 0,.ref t0])) w0 0 []:=⟨⟨t0,[],SqT.of aA,m2.tup (SqT.of aA),.nil⟩,pF _,by decide,wo.1,wo.2⟩;have W0':=W0.same sM;have sA:=m1.trans (m2.trans sM);have c4:=c3.same sA;have W4:=W.same sA;obtain⟨z4,hz4⟩:=c4.lst;refine⟨o,dx,w0,0,[],rfl,aA,W0',fun S H6 x6 hS6 ok6 en et e0 nl np=>⟨rfl,?_⟩⟩;exact hN _ _ ⟨o,S,rfl,⟨(c4.ins x6 aA).mono (by omega),hS6,ok6,dF hz4 nl,dF hz4 np⟩,W4.tk (x6.R3 aA),en,et,e0⟩
  rintro σ' H4 ⟨o,S0,rfl,I4,W4,en0,et0,e0⟩;clear W c3
  try dsimp only
  refine Gd (fun σ' H'=>∃(S:Sd) (b5:Option V),σ'=[some (.ref a),some (.ref cp),some (.int (0+(k:Int))),some (.ref wb),some (.ref o),b5,b6,b7,b8,b9,b10,xO]/\qu K C cp a o ns H' (1000*(k:Int)+121) S/\aJ K H' wb n ts/\S.n=n/\S.ts=ts/\S.t=n) (fun N hN=> ?_) ?_
  ·obtain⟨tt,rr,w1,w2,w3⟩:=id W4.web;refine⟨_,rfl,wb,_,_,.int n,rfl,rfl,w1,rfl,n,rfl,by omega,by omega,?_⟩;let xQ:Nat->St->Hp->Prop:=fun i σ H'=>∃(S:Sd) (b5:Option V),σ=[some (.ref a),some (.ref cp),some (.int (0+(k:Int))),some (.ref wb),some (.ref o),b5,b6,b7,b8,b9,b10,xO]/\qu K C cp a o ns H' (1000*(k:Int)+121) S/\aJ K H' wb n ts/\S.n=(i:Int)/\(∀p,p∈S.ts↔p∈ts/\p.2<(i:Int))/\S.t=(i:Int);refine Qx (n:=n.toNat) xQ ⟨S0,b5,rfl,I4,W4,en0,fun p=>by
    rw[et0];refine⟨fun z=>(nomatch z),fun⟨z1,z2⟩=> ?_⟩;have:=W4.pk.lt p z1;omega,e0⟩ (fun i σ H' hi p=> ?_) (fun σ H' p=> ?_)
   ·obtain⟨S,c5,rfl,I,W,en,et,e1⟩:=p;obtain⟨dx,wb',va,lr,pr,A⟩:=id I.rH;obtain⟨tt,rr,w1,w2,w3⟩:=id W.web;obtain⟨its,rfl,iH,w4⟩:=eF w3;refine⟨_,rfl,o,dx,_,rfl,A.at_,rfl,?_⟩;refine⟨_,rfl,wb,_,_,.ref tt,rfl,rfl,w1,rfl,tt,_,rfl,w2,fun hz=> ?_⟩;let HD:Nat->List V->St->Hp->Prop:=fun j acc σ xR=>acc=(dJ (i:Int) ((its.take j).map (·.2))).map V.int/\xR=H'/\∃o1 o2,σ=[o1,o2,some (.int (0+(i:Int)))];refine Al (xs:=its.map fun p=>V.ref p.1) HD ⟨rfl,rfl,_,_,rfl⟩ (fun i acc σ H' _ p=>by rw[p.2.1];exact w2) (fun j acc σ xR hj p=> ?_) hz (fun j x acc σ xR hx p=> ?_) (fun acc σ xR p=> ?_)
    ·rw[p.1,aH];unfold dJ;rw[aH];exact cQ (vo _ _) (by rw[aH,uH];exact Av _ _)
    ·obtain⟨rfl,rfl,o1,o2,rfl⟩:=p;rw[dY]at hx;cases ex:its[j]? with
     |none=>rw[ex]at hx;cases hx
     |some it=>
      rw[ex]at hx;cases hx;have hit:=w4 it (qQ ex);have go:dJ (i:Int) ((its.take (j+1)).map (·.2))=dJ (i:Int) ((its.take j).map (·.2))++(if decide (it.2.2=(i:Int))=true then[it.2.1]else[]):=by
       unfold dJ;rw[vX,ex,cg,Dy,cg];congr 1;show List.map _ (List.filter _ [it.2])=_;rw[Ax];split<;>rfl
      refine⟨it.1,_,rfl,hit,rfl,_,_,rfl,_,_,rfl,rfl,?_⟩;refine⟨_,rfl,_,rfl,rfl,_,rfl,?_⟩;refine ite2 (fun c=> ?_) (fun c=> ?_)
      ·have c':it.2.2=(i:Int):=by have:=V.int.inj (cR c);omega
       exact⟨_,rfl,by rw[go,au (cI c'),cg];rfl,rfl,_,_,rfl⟩
      ·have c':¬it.2.2=(i:Int):=fun z=>c (cI (jz V.int (by omega)));exact⟨by rw[go,aq (fun z=>c' (cR z)),Aw],rfl,_,_,rfl⟩
    ·intro p1 hp1;obtain⟨rfl,rfl,_⟩:=p;rw[aH,rW,iH];have n1:=aK hp1 (.lst ((dJ (i:Int) ts).map V.int));refine⟨p1,_,rfl,.inl ⟨SqL.of aA,fun t ht=> ?_⟩⟩;have n2:=aK ht (.tup ((dJ (i:Int) ts).map V.int));have n12:=n1.trans n2;have I2:=I.same n12;refine⟨o,t,S,dJ (i:Int) ts,rfl,I2.rH,I2.ok,SqT.of aA,by rw[en];exact Fl W.pk W.v9,by omega,fun S' H5 x5 hS5 ok5 en5 et5 w5=> ?_⟩;have I5:=I2.deed x5 hS5 ok5 w5;refine⟨S',_,rfl,I5,(W.same n12).tk (I2.tkS x5),by rw[en5,en];rfl,fun p=> ?_,?_⟩
     ·rw[et5.mem_iff,pL,et p,en,tV,<-and_or_left];refine and_congr_right fun _=> ?_;omega
     ·rw[rY w5 I2.ok (by omega) (by omega) (by omega),e1];rfl
   ·obtain⟨S,c5,rfl,I,W,en,et,e1⟩:=p;obtain⟨dx,wb',va,lr,pr,A⟩:=id I.rH;refine hN _ _ ⟨S,c5,rfl,I,W,by omega,rF A.web.v9 W.v9 fun p=> ?_,by omega⟩;rw[et p];refine⟨fun z=>z.1,fun z=>⟨z,?_⟩⟩;have:=W.pk.lt p z;omega
  rintro σ' H5 ⟨S,c5,rfl,I5,W5,en,et,e1⟩;clear I4 W4
  try dsimp only
  refine Gd (fun σ' H'=>σ'=[some (.ref a),some (.ref cp),some (.int (0+(k:Int))),some (.ref wb),some (.ref o),c5,b6,b7,b8,b9,b10,xO]/\qu K C cp a o ns H' (1000*(k:Int)+121) S/\aJ K H' wb n ts) (fun N hN=> ?_) ?_
  ·refine⟨_,rfl,_,rfl,o,wb,S,rfl,I5.rH,I5.ok,by rw[en,et];exact W5,fun H6 s6=>⟨_,rfl,iteF ?_⟩⟩;have I6:=I5.same s6;have W6:=W5.same s6;refine⟨_,rfl,fun o2 YB ho2 aaF aaD=> ?_⟩;have sM:Same H6 (upd (upd H6 YB (.own o2)) o2 (.ins C YB [])):=(aK aaF _).trans (aK (by rw[cP (lQ aaD)];exact ho2) _);have I7:=I6.same sM;have W7:=W6.same sM;refine⟨o2,YB,wb,n,ts,rfl,aA,W7,fun S2 H8 x8 Yb ok8 en8 et8 _ _ _=>⟨rfl,?_⟩⟩;obtain⟨dx',wb',va',lr',pr',A8⟩:=id Yb;have oo:o≠o2:=fun z=>by
    obtain⟨dx,fs,hO⟩:=I6.rH.ins;rw[z,ho2]at hO;cases hO
   have I8:qu K C cp a o ns H8 (1000*(k:Int)+121) S:=⟨I7.cup.ins x8 aA,I7.rH.other x8 aA oo,I7.ok,I7.nl,I7.np⟩;have W8:=W7.tk (x8.R3 aA);refine⟨o2,dx',_,rfl,A8.at_,rfl,o2,S2,rfl,Yb,ok8,fun r1 H9 s9 F9=> ?_⟩;have I9:=I8.same s9;obtain⟨dx,wb1,va,lr,pr,A9⟩:=id I9.rH;refine⟨_,rfl,o,dx,_,rfl,A9.at_,rfl,o,S,rfl,I9.rH,I9.ok,fun r2 H10 Rb F10=> ?_⟩;have F9':=Rb.tup F9;refine⟨_,_,m5.dv F9',m5.dv F10,rR _,rR _,Fy _ _,_,rfl,?_⟩;have ev:S2.f=S.f:=by
    have v1:=ok8.val;have v2:=I9.ok.val;rw[en8,et8]at v1;rw[en,et]at v2;exact v1.uniq v2 W5.pk
   rw[ev,frD_eq];exact iteF (hN _ _ ⟨rfl,I9.same Rb,(W8.same s9).same Rb⟩)
  rintro σ' H6 ⟨rfl,I6,W6⟩;clear I5 W5
  try dsimp only
  refine Gd (fun σ' H'=>σ'=[some (.ref a),some (.ref cp),some (.int (0+(k:Int))),some (.ref wb),some (.ref o),c5,some (.int n),b7,b8,b9,b10,xO]/\H'=H6) (fun N hN=> ?_) ?_
  ·obtain⟨tt,rr,w1,w2,w3⟩:=id W6.web;exact⟨_,rfl,wb,_,_,.int n,rfl,rfl,w1,rfl,hN _ _ ⟨rfl,rfl⟩⟩
  rintro σ' H6' ⟨rfl,rfl⟩
  try dsimp only
  refine Gd (fun σ' H'=>σ'=[some (.ref a),some (.ref cp),some (.int (0+(k:Int))),some (.ref wb),some (.ref o),c5,some (.int n),some (.int n),b8,b9,b10,xO]/\H'=H6') (fun N hN=> ?_) ?_
  ·obtain⟨tt,rr,w1,w2,w3⟩:=id W6.web;exact⟨_,rfl,wb,_,_,.int n,rfl,rfl,w1,rfl,hN _ _ ⟨rfl,rfl⟩⟩
  rintro σ' aa7 ⟨rfl,rfl⟩
  try dsimp only
  refine Gd (fun σ' H'=>∃(S:Sd) (P D:Int) (b8 b9 b10 xO:Option V),σ'=[some (.ref a),some (.ref cp),some (.int (0+(k:Int))),some (.ref wb),some (.ref o),c5,some (.int P),some (.int D),b8,b9,b10,xO]/\qu K C cp a o ns H' (1000*(k:Int)+1000) S/\P<=S.t/\S.t<=D) (fun N hN=> ?_) ?_
  ·refine⟨_,rfl,cp,a,ns,7,_,rfl,I6.cup,by omega,by decide,by decide,fun m H7 m0 m1 x7 c7=>⟨m,rfl,by omega,by omega,?_⟩⟩;let Vj:Nat->St->Hp->Prop:=fun i σ H'=>∃(S:Sd) (P D:Int) (b8 b9 b10 xO:Option V),σ=[some (.ref a),some (.ref cp),some (.int (0+(k:Int))),some (.ref wb),some (.ref o),c5,some (.int P),some (.int D),b8,b9,b10,xO]/\qu K C cp a o ns H' (1000*(k:Int)+122+20*(i:Int)) S/\aJ K H' wb n ts/\S.n=n/\S.ts=ts/\P<=S.t/\S.t<=D;refine Qx (n:=m.toNat) Vj ⟨S,n,n,b8,b9,b10,xO,rfl,(I6.dip x7 c7).mono (by omega),W6.tk (I6.tkD x7),en,et,by omega,by omega⟩ (fun i σ H' hi p=> ?_) (fun σ H' p=> ?_)
   ·clear I6 W6 c7 x7 en et e1 S b8 b9 b10 xO;obtain⟨S,P,D,b8,b9,b10,xO,rfl,I,W,en,et,hP,hD'⟩:=p;obtain⟨dx,wb',va,lr,pr,A⟩:=id I.rH
    -- the value ahead
    dsimp only[gName,List.set];refine Gd (fun σ' H'=>∃(r:Addr),σ'=[some (.ref a),some (.ref cp),some (.int (0+(k:Int))),some (.ref wb),some (.ref o),c5,some (.int P),some (.int D),some (.int (0+(i:Int))),some (.ref r),b10,xO]/\qu K C cp a o ns H' (1000*(k:Int)+122+20*(i:Int)) S/\aJ K H' wb n ts/\m5 K H' r S.f) (fun N hN=> ?_) ?_
    ·exact⟨_,rfl,o,dx,_,rfl,A.at_,rfl,o,S,rfl,I.rH,I.ok,fun r H1 s1 F1=>hN _ _ ⟨r,rfl,I.same s1,W.same s1,F1⟩⟩
    clear I W A;rintro σ' H1 ⟨r9,rfl,I,W,F9⟩
    try dsimp only
    -- the deed
    refine Gd (fun σ' H'=>∃(da wa:Addr) (d:iu) (n':Int) (ts':L0),σ'=[some (.ref a),some (.ref cp),some (.int (0+(k:Int))),some (.ref wb),some (.ref o),c5,some (.int P),some (.int D),some (.int (0+(i:Int))),some (.ref r9),some (.ref da),some (.ref wa)]/\qu K C cp a o ns H' (1000*(k:Int)+142+20*(i:Int)) S/\aJ K H' wb n ts/\m5 K H' r9 S.f/\cV K H' da d/\HF n ts d/\aJ K H' wa n' ts'/\Mq n n' ts ts' d) (fun N hN=> ?_) ?_
    ·refine⟨_,rfl,_,rfl,cp,a,wb,ns,_,n,ts,rfl,I.cup,by omega,W,fun r da wa d n' ts' H2 x2 c2 hr Ih hF W2 hst=> ?_⟩;have k2:=I.tkD x2;refine⟨r,_,rfl,hr,rfl,_,_,rfl,_,_,rfl,rfl,?_⟩;exact hN _ _ ⟨da,wa,d,n',ts',rfl,(I.dip x2 c2).mono (by omega),W.tk k2,k2 _ _ F9,Ih,hF,W2,hst⟩
    clear I W F9;rintro σ' H2 ⟨da,wa,d,n',ts',rfl,I,W,F9,Ih,hF,W2,hst⟩
    try dsimp only
    refine Gd (fun σ' H'=>∃(S':Sd),σ'=[some (.ref a),some (.ref cp),some (.int (0+(k:Int))),some (.ref wb),some (.ref o),c5,some (.int P),some (.int D),some (.int (0+(i:Int))),some (.ref r9),some (.ref da),some (.ref wa)]/\qu K C cp a o ns H' (1000*(k:Int)+142+20*(i:Int)) S'/\aJ K H' wb n ts/\m5 K H' r9 S.f/\cV K H' da d/\aJ K H' wa S'.n S'.ts/\Mq n S'.n ts S'.ts d/\S.t+(if zU d=true then 1 else 0)<=S'.t/\S'.t<=S.t+1) (fun N hN=> ?_) ?_
    ·refine⟨_,rfl,_,rfl,o,da,S,d,rfl,I.rH,I.ok,Ih,by rw[en,et];exact hF,fun v S' H3 x3 hS3 ok3 st3 w3=> ?_⟩;have k3:=I.tkS x3;obtain⟨dx3,wb3,va3,lr3,pr3,A3⟩:=id hS3;have tt:=QV w3 I.ok (by omega) A3.web.h0 st3;rw[en,et]at st3;obtain⟨q1,q2⟩:=st3.uniq hst A3.web.v9 W2.v9;refine hN _ _ ⟨S',rfl,I.deed x3 hS3 ok3 w3,W.tk k3,k3 _ _ F9,Ih.tk k3,?_,st3,tt⟩;rw[q1,q2];exact W2.tk k3
    have vS:=I.ok.val;have lS:=I.ok.lw;clear I W F9 Ih W2 hst;rintro σ' H3 ⟨S',rfl,I,W,F9,Ih,W2,hst,tt⟩
    try dsimp only
    refine Gd (fun σ' H'=>σ'=[some (.ref a),some (.ref cp),some (.int (0+(k:Int))),some (.ref wb),some (.ref o),c5,some (.int P),some (.int D),some (.int (0+(i:Int))),some (.ref r9),some (.ref da),some (.ref wa)]/\Same H3 H') (fun N hN=> ?_) ?_
    ·refine⟨_,rfl,_,rfl,o,wa,S',rfl,I.rH,I.ok,W2,fun H4 s4=>⟨_,rfl,iteF ?_⟩⟩;have I4:=I.same s4;obtain⟨dx4,wb4,va4,lr4,pr4,A4⟩:=id I4.rH;refine⟨_,rfl,_,rfl,_,rfl,o,dx4,_,rfl,A4.at_,rfl,o,S',rfl,I4.rH,I4.ok,fun r6 H5 s5 F6=> ?_⟩;have s45:=s4.trans s5;have l':=I4.ok.lw;have f9':=s45.tup F9;have g:=K8 (d:=d) (by rw[<-en,<-et];exact vS) I4.ok.val h0 W.pk A4.web.pk hF hst;refine⟨da,r9,r6,d,S.f,S'.f,rfl,Ih.tk s45.tk,m5.lw f9' lS (vS.num (by omega)),m5.lw F6 l' (I4.ok.val.num A4.web.h1),lS.2.1,l'.2.1,g,fun H7 s7=>⟨_,rfl,iteF ?_⟩⟩;exact hN _ _ ⟨rfl,s45.trans s7⟩
    rintro σ' H4 ⟨rfl,s4⟩;have I4:=I.same s4;have W4:=W.same s4;have hD4:=Ih.tk s4.tk;clear I W F9 Ih W2 vS lS s4
    try dsimp only
    obtain⟨uf,us⟩:=Ja h10 W4.pk W4.v9 h0 hF hst;refine Gd (fun σ' H'=>∃(M9:Sd),σ'=[some (.ref a),some (.ref cp),some (.int (0+(k:Int))),some (.ref wb),some (.ref o),c5,some (.int P),some (.int D),some (.int (0+(i:Int))),some (.ref r9),some (.ref da),some (.ref wa)]/\qu K C cp a o ns H' (1000*(k:Int)+142+20*(i:Int)) M9/\aJ K H' wb n ts/\cV K H' da d/\M9.n=n/\M9.ts=ts/\S'.t+(if zU d=true then 1 else 0)<=M9.t/\M9.t<=S'.t+1) (fun N hN=> ?_) ?_
    ·refine⟨_,rfl,_,rfl,_,rfl,wb,da,n,ts,d,rfl,W4,hD4,fun r7 H7 s7 hD7=> ?_⟩;have I7:=I4.same s7;obtain⟨dx7,wb7,va7,lr7,pr7,A7⟩:=id I7.rH;refine⟨o,r7,S',undo n ts d,rfl,I7.rH,I7.ok,hD7,uf,fun v M9 H8 x8 Yb ok8 st8 w8=> ?_⟩;have k8:=I7.tkS x8;obtain⟨dx8,wb8,va8,lr8,pr8,A8⟩:=id Yb;have t8:=QV w8 I7.ok A7.web.h0 A8.web.h0 st8;rw[Jb]at t8;obtain⟨q1,q2⟩:=st8.uniq us A8.web.v9 W4.v9;exact hN _ _ ⟨M9,rfl,I7.deed x8 Yb ok8 w8,(W4.same s7).tk k8,(hD4.tk s7.tk).tk k8,q1,q2,t8⟩
    clear I4 W4 hD4 uf us hst hF;rintro σ' H5 ⟨M9,rfl,I,W,Ih,en2,et2,t2⟩
    try dsimp only
    refine Gd (fun σ' H'=>σ'=[some (.ref a),some (.ref cp),some (.int (0+(k:Int))),some (.ref wb),some (.ref o),c5,some (.int P),some (.int D),some (.int (0+(i:Int))),some (.ref r9),some (.ref da),some (.ref wa)]/\Same H5 H') (fun N hN=> ?_) ?_
    ·refine⟨_,rfl,_,rfl,o,wb,M9,rfl,I.rH,I.ok,by rw[en2,et2];exact W,fun H6 s6=>⟨_,rfl,iteF ?_⟩⟩;exact hN _ _ ⟨rfl,s6⟩
    rintro σ' H6 ⟨rfl,s6⟩;have I6:=I.same s6;have W6:=W.same s6;obtain⟨r0,hNm⟩:=(Ih.tk s6.tk).name;clear I W Ih s6
    try dsimp only
    refine Gd (fun σ' H'=>σ'=[some (.ref a),some (.ref cp),some (.int (0+(k:Int))),some (.ref wb),some (.ref o),c5,some (.int (P+2*(if zU d=true then 1 else 0))),some (.int D),some (.int (0+(i:Int))),some (.ref r9),some (.ref da),some (.ref wa)]/\Same H6 H') (fun N hN=> ?_) ?_
    ·refine⟨_,rfl,_,rfl,da,_,_,.str (dName d),rfl,rfl,hNm,at0 _ _,(by show 2<=sizeLine;decide),fun l hl=> ?_⟩;have n1:=aK hl (.lst [.str "put",.str "drop"]);refine⟨l,_,[.str "put",.str "drop"],.str (dName d),rfl,.inl (SqL.of aA),.cons (.str _) (.cons (.str _) .nil),.str _,Ny,Kw d,(by show 0<=60;decide),?_⟩;rw[Kz];refine .inr ⟨_,rfl,_,_,rfl,rfl,?_,_,_,rfl,rfl,hN _ _ ⟨rfl,n1⟩⟩;exact .inl ⟨by decide,by decide⟩
    rintro σ' H7 ⟨rfl,s7⟩
    try dsimp only
    refine⟨_,rfl,_,_,rfl,rfl,?_⟩;refine⟨M9,_,_,_,_,_,_,rfl,(I6.same s7).mono (by omega),W6.same s7,en2,et2,?_,by omega⟩;cases hb:zU d with
    |true=>
     rw[hb,au rfl]at tt t2;rw[au rfl];omega
    |false=>
     rw[hb,aq (by decide)]at tt t2;rw[aq (by decide)];omega
   ·obtain⟨S,P,D,b8,b9,b10,xO,rfl,I,W,_,_,hP,hD'⟩:=p;exact hN _ _ ⟨S,P,D,b8,b9,b10,xO,rfl,I.mono (by omega),hP,hD'⟩
  rintro σ' H7 ⟨S7,P,D,d8,d9,d10,YF,rfl,I7,hP,hD'⟩
  try dsimp only
  obtain⟨dx,wb',va,lr,pr,A⟩:=id I7.rH;refine⟨_,rfl,_,rfl,o,dx,_,rfl,A.at_,rfl,o,S7,rfl,I7.rH,_,_,rfl,rfl,_,rfl,?_⟩;rw[cI hP];refine iteT ⟨_,rfl,_,_,rfl,rfl,_,rfl,?_⟩;rw[cI hD'];refine iteF ?_;exact⟨I7.cup.mono (by omega),_,_,_,_,_,_,_,_,_,_,rfl⟩
end
end Hs
namespace L2
open PySem
section
variable{K:W.Frag}{x y:Str}{st:Stmt}{f C:Addr}{fd:ρ}{oc:ζ}{od an:Option Addr}{osl:Array (Option ζ)}{kV doc pm cdv ct:ζ}{mg:L4}{h:Heap}
noncomputable def DA(K:W.Frag)(x:Str)(st:Stmt)(f:Addr):Prop:=∃fd,Fun K x x st f fd/\PySem.W.nsIn K mainGlobals x=some (some (.ref f))
theorem DA.of(a:PySem.W.nsIn K mainGlobals x=some (some (.ref f)):=by k_is)(l:K.lookup f=some ⟨oc,od,.func (PySem.W.fnOf x x (defArgs st) (defBody st) (defScope st) .none kV doc pm an cdv ct),osl⟩:=by k_is)(c:PySem.W.codeIn K cdv x=true:=by k_is)(k:PySem.W.keepIn K (.ref f)=true:=by k_is):DA K x st f:=⟨_,fun_mk l c k,a⟩
noncomputable def MA(K:W.Frag)(C:Addr)(x y:Str)(st:Stmt)(f:Addr):Prop:=∃fd,Fun K x y st f fd/\PySem.W.findIn K (.ref C) x=some (some (.ref f))/\PySem.W.isFn K (.ref f)=true/\PySem.W.keepIn K (.ref f)=true
theorem MA.of(a:PySem.W.findIn K (.ref C) x=some (some (.ref f)):=by k_is)(l:K.lookup f=some ⟨oc,od,.func (PySem.W.fnOf x y (defArgs st) (defBody st) (defScope st) .none kV doc pm an cdv ct),osl⟩:=by k_is)(c:PySem.W.codeIn K cdv y=true:=by k_is)(k:PySem.W.keepIn K (.ref f)=true:=by k_is)(i:PySem.W.isFn K (.ref f)=true:=by k_is):MA K C x y st f:=⟨_,fun_mk l c k,a,i,k⟩
theorem DA.d{ps:List Str}(X:K.In h)(G:h.Ns mainGlobals mg)(F:Fun K x x st f fd)(a:PySem.W.nsIn K mainGlobals x=some (some (.ref f)))(b:∀(kV doc pm:ζ) (an:Option Addr) (cdv ct:ζ) (us:List ζ),us.length=ps.length->bindArgs (PySem.W.fnOf x x (defArgs st) (defBody st) (defScope st) .none kV doc pm an cdv ct) ⟨us,[]⟩=pure (ps.zip us)):bJ K mg x st ps f fd:=⟨F,F.binds b,PySem.W.mg_of X G a⟩
theorem MA.d{ps:List Str}(F:Fun K x y st f fd)(a:PySem.W.findIn K (.ref C) x=some (some (.ref f))/\PySem.W.isFn K (.ref f)=true/\PySem.W.keepIn K (.ref f)=true)(b:∀(kV doc pm:ζ) (an:Option Addr) (cdv ct:ζ) (us:List ζ),us.length=ps.length->bindArgs (PySem.W.fnOf x y (defArgs st) (defBody st) (defScope st) .none kV doc pm an cdv ct) ⟨us,[]⟩=pure (ps.zip us)):lM K C x y st ps f fd:=⟨F,F.binds b,⟨a.1,a.2.1,a.2.2⟩⟩
theorem um{p1:Str}{P:List ζ->Prop}(h:∀a,P [a])(us:List ζ)(hl:us.length=[p1].length):P us:=by
 match us,hl with
 |[a],_=>exact h a
theorem lK{p1 p2:Str}{P:List ζ->Prop}(h:∀a b,P [a,b])(us:List ζ)(hl:us.length=[p1,p2].length):P us:=by
 match us,hl with
 |[a,b],_=>exact h a b
theorem Ij{p1 p2 p3:Str}{P:List ζ->Prop}(h:∀a b c,P [a,b,c])(us:List ζ)(hl:us.length=[p1,p2,p3].length):P us:=by
 match us,hl with
 |[a,b,c],_=>exact h a b c
theorem bn4{p1 p2 p3 p4:Str}{P:List ζ->Prop}(h:∀a b c d,P [a,b,c,d])(us:List ζ)(hl:us.length=[p1,p2,p3,p4].length):P us:=by
 match us,hl with
 |[a,b,c,d],_=>exact h a b c d
end
end L2
namespace Hs
open PySem L2 o9
theorem all_mk{l:W.OpenLaw}{w:τ}{K:W.Frag}{h:Heap}{mg:L4}{fa:Addr}(X:K.In h)(G:h.Ns mainGlobals mg)(hfa:mg "law"=some (.ref fa))
  {f0 f1 f2 f3 f4 f5 f6 f7 f8 f9 f10 f11 f12 f13 f14 f15 f16 f17 f18 f19 f20 f21 f22 f23 f24 f25 f26 f27 f28 f29 f30 f31 f32 f33 f34 f35 f36 f37 f38 f39 f40 f41 f42 f43 f44 f45 f46 f47 f48 mf0 mf1 mf2 mf3 mf4 mf5 mf6 mf7 mf8 mf9 Xu aau aat aas aar aaq aap aao aan aam aal aak aaj:Addr}{f49:Addr}{aag YQ:Option Addr}{aac:Array (Option ζ)}{aah XD YD Xi Vh YG:ζ}{tk0:Tok}{tk1:Tok}{tk2:Tok}{aF:Addr}{ao:Addr}(a0:DA K "is_whole" Vm f0)(a1:DA K "is_place" jg f1)(a2:DA K "are_places" ji f2)(a3:DA K "is_rising" Vn f3)(a4:DA K "is_set" jQ f4)(a5:DA K "are_ties" mJ f5)(a6:DA K "is_web" sW f6)(a7:DA K "need_web" Nj f7)(a8:DA K "need_place" jc f8)(a9:DA K "need_set" iZ f9)(a10:DA K "need_few" mq f10)(a11:DA K "pairs" wA f11)(a12:DA K "has_tie" fH f12)(a13:DA K "greatest_divisor" Zt f13)(a14:DA K "lowest" fL f14)(a15:DA K "plus" Bu f15)(a16:DA K "is_less" Rv f16)(a17:DA K "is_fraction" Zk f17)(a18:DA K "sum_of" iB f18)(a19:DA K "moved_ties" jd f19)(a20:DA K "cut_down" mH f20)(a21:DA K "count_ties_in" zdj f21)(a22:DA K "places_by_tie" zdh f22)(a23:DA K "in_both" pW f23)(a24:DA K "full_sets" jU f24)(a25:DA K "full_apart" fG f25)(a26:DA K "need_wants" Wd f26)(a27:DA K "shares" jN f27)(a28:DA K "value" wz f28)(a29:DA K "is_share" mF f29)(a30:DA K "is_laying" jR f30)(a31:DA K "gets" Bv f31)(a32:DA K "is_enough" gG f32)(a33:DA K "outweighs" jO f33)(a34:DA K "are_prices" jh f34)(a35:DA K "ones_for" iY f35)(a36:DA K "copy_of_web" gU f36)(a37:DA K "copy_of_fraction" Wg f37)(a38:DA K "copy_of_set" gW f38)(a39:DA K "as_tie" oh f39)(a40:DA K "_law_e_stir" je f40)(a41:DA K "_law_e_dip" Vo f41)(a42:DA K "_law_e_web_of" fM f42)(a43:DA K "_law_e_web" jP f43)(a44:DA K "_law_e_next" jf f44)(a45:DA K "_law_e_do" mD f45)(a46:DA K "_law_e_stands" fQ f46)(a47:DA K "_law_e_undone" fO f47)(a48:DA K "_law_e_grows" gR f48)(a49:W.nsIn K mainGlobals "law"=some (some (.ref f49)))(l49:K.lookup f49=some ⟨aah,aag,.func (W.fnOf "law" "law" (defArgs qH) (defBody qH) (defScope qH) .none XD YD Xi YQ Vh YG),aac⟩)(c49:W.codeIn K Vh "law"=true)(k49:W.keepIn K (.ref f49)=true)(x0:W.nsIn K mainGlobals "MOST_PLACES"=some (some (.int 10 tk0)))(x1:W.nsIn K mainGlobals "MOST_BOTTOM"=some (some (.int 1000000000 tk1)))(x2:W.nsIn K mainGlobals "MOST_WANT"=some (some (.int 99 tk2)))(z0:W.nsIn K mainGlobals "abs"=some none)(z1:W.nsIn K mainGlobals "all"=some none)(z2:W.nsIn K mainGlobals "any"=some none)(z3:W.nsIn K mainGlobals "bool"=some none)(z4:W.nsIn K mainGlobals "enumerate"=some none)(z5:W.nsIn K mainGlobals "int"=some none)(z6:W.nsIn K mainGlobals "isinstance"=some none)(z7:W.nsIn K mainGlobals "len"=some none)(z8:W.nsIn K mainGlobals "list"=some none)(z9:W.nsIn K mainGlobals "max"=some none)(z10:W.nsIn K mainGlobals "min"=some none)(z11:W.nsIn K mainGlobals "range"=some none)(z12:W.nsIn K mainGlobals "sorted"=some none)(z13:W.nsIn K mainGlobals "tuple"=some none)(z14:W.nsIn K mainGlobals "zip"=some none)(y0:W.nsIn K mainGlobals "Tableau"=some (some (.ref aF)))(y1:W.nsIn K mainGlobals "Sharing"=some (some (.ref ao)))(Xv:MA K aF "__init__" "Tableau.__init__" fV mf0)(ma1:MA K aF "next_column" "Tableau.next_column" zbs mf1)(ma2:MA K aF "is_tighter" "Tableau.is_tighter" zbx mf2)(ma3:MA K aF "next_row" "Tableau.next_row" zck mf3)(ma4:MA K aF "turned" "Tableau.turned" zcx mf4)(ma5:MA K aF "turn" "Tableau.turn" fU mf5)(ma6:MA K aF "solve" "Tableau.solve" zdk mf6)(ma7:MA K aF "fraction_at" "Tableau.fraction_at" Wh mf7)(ma8:MA K aF "price_of" "Tableau.price_of" zcj mf8)(ma9:MA K aF "share_of" "Tableau.share_of" zci mf9)(KD:MA K ao "__init__" "Sharing.__init__" fW Xu)(Uo:MA K ao "keep" "Sharing.keep" Zm aau)(Um:MA K ao "move_to" "Sharing.move_to" Vp aat)(Ul:MA K ao "need_two" "Sharing.need_two" Zr aas)(Uk:MA K ao "put" "Sharing.put" Zj aar)(Uj:MA K ao "tie" "Sharing.tie" gZ aaq)(Ui:MA K ao "untie" "Sharing.untie" zdl aap)(Uh:MA K ao "drop" "Sharing.drop" fX aao)(Ug:MA K ao "web" "Sharing.web" gY aan)(Ue:MA K ao "value" "Sharing.value" Zn aam)(Ud:MA K ao "laying" "Sharing.laying" zcz aal)(Uc:MA K ao "prices" "Sharing.prices" zcy aak)(Ub:MA K ao "again" "Sharing.again" eY aaj)(Dg:W.plainGet K aF Str.empty=true)(Dd:W.hasDictIn K aF=true)(CZ:W.plainOver K aF=true)(CV:W.findIn K (.ref aF) "__setattr__"=some (some (.builtin "object.__setattr__")))(CQ:W.makesIn K aF=true)(CN:W.keepIn K (.ref aF)=true)(ql:W.findIn K (.ref aF) "cells"=some none)(qU:W.findIn K (.ref aF) "over"=some none)(mY:W.findIn K (.ref aF) "columns"=some none)(qT:W.findIn K (.ref aF) "rows"=some none)(Dh:W.plainGet K ao Str.empty=true)(Df:W.hasDictIn K ao=true)(Dc:W.plainOver K ao=true)(CW:W.findIn K (.ref ao) "__setattr__"=some (some (.builtin "object.__setattr__")))(CT:W.makesIn K ao=true)(CP:W.keepIn K (.ref ao)=true)(jo:W.findIn K (.ref ao) "kept_laying"=some none)(jF:W.findIn K (.ref ao) "times_anew"=some none)(lJ:W.findIn K (.ref ao) "kept_web"=some none)(jG:W.findIn K (.ref ao) "kept_value"=some none)(jl:W.findIn K (.ref ao) "kept_prices"=some none):
  ∃fd:ρ,(∀(s:η) (v:ζ),BindsTo s fd ⟨[v],[]⟩ [("script",v)])/\∀base:Heap,K.In base->base.Ns mainGlobals mg->FnOk l.prog w K mg base CX0 14 fa fd ["script"] (spLaw K):=by
 have e:=hfa.symm.trans (Vz X G a49);cases e;obtain⟨d0,F0,a0⟩:=a0;have ju:=DA.d (ps:=["thing"]) X G F0 a0 (fun _ _ _ _ _ _=>um fun _=>rfl);obtain⟨d1,F1,a1⟩:=a1;have uE:=DA.d (ps:=["n","thing"]) X G F1 a1 (fun _ _ _ _ _ _=>lK fun _ _=>rfl);obtain⟨d2,F2,a2⟩:=a2;have xZ:=DA.d (ps:=["n","things"]) X G F2 a2 (fun _ _ _ _ _ _=>lK fun _ _=>rfl);obtain⟨d3,F3,a3⟩:=a3;have j9:=DA.d (ps:=["things"]) X G F3 a3 (fun _ _ _ _ _ _=>um fun _=>rfl);obtain⟨d4,F4,a4⟩:=a4;have uD:=DA.d (ps:=["n","thing"]) X G F4 a4 (fun _ _ _ _ _ _=>lK fun _ _=>rfl);obtain⟨d5,F5,a5⟩:=a5;have Ds:=DA.d (ps:=["n","thing"]) X G F5 a5 (fun _ _ _ _ _ _=>lK fun _ _=>rfl);obtain⟨d6,F6,a6⟩:=a6;have Mx:=DA.d (ps:=["thing"]) X G F6 a6 (fun _ _ _ _ _ _=>um fun _=>rfl);obtain⟨d7,F7,a7⟩:=a7;have cZ:=DA.d (ps:=["thing"]) X G F7 a7 (fun _ _ _ _ _ _=>um fun _=>rfl);obtain⟨d8,F8,a8⟩:=a8;have xU:=DA.d (ps:=["web","thing"]) X G F8 a8 (fun _ _ _ _ _ _=>lK fun _ _=>rfl);obtain⟨d9,F9,a9⟩:=a9;have uw:=DA.d (ps:=["web","thing"]) X G F9 a9 (fun _ _ _ _ _ _=>lK fun _ _=>rfl);obtain⟨d10,F10,a10⟩:=a10;have Dl:=DA.d (ps:=["n"]) X G F10 a10 (fun _ _ _ _ _ _=>um fun _=>rfl);obtain⟨YF,F11,a11⟩:=a11;have Qw:=DA.d (ps:=["n"]) X G F11 a11 (fun _ _ _ _ _ _=>um fun _=>rfl);obtain⟨d12,F12,a12⟩:=a12;have lE:=DA.d (ps:=["web","one","other"]) X G F12 a12 (fun _ _ _ _ _ _=>Ij fun _ _ _=>rfl);obtain⟨d13,F13,a13⟩:=a13;have gw:=DA.d (ps:=["one","other"]) X G F13 a13 (fun _ _ _ _ _ _=>lK fun _ _=>rfl);obtain⟨d14,F14,a14⟩:=a14;have j8:=DA.d (ps:=["a","b"]) X G F14 a14 (fun _ _ _ _ _ _=>lK fun _ _=>rfl);obtain⟨d15,F15,a15⟩:=a15;have Vk:=DA.d (ps:=["one","other"]) X G F15 a15 (fun _ _ _ _ _ _=>lK fun _ _=>rfl);obtain⟨d16,F16,a16⟩:=a16;have iJ:=DA.d (ps:=["one","other"]) X G F16 a16 (fun _ _ _ _ _ _=>lK fun _ _=>rfl);obtain⟨d17,F17,a17⟩:=a17;have lW:=DA.d (ps:=["thing"]) X G F17 a17 (fun _ _ _ _ _ _=>um fun _=>rfl);obtain⟨d18,F18,a18⟩:=a18;have pA:=DA.d (ps:=["fractions"]) X G F18 a18 (fun _ _ _ _ _ _=>um fun _=>rfl);obtain⟨d19,F19,a19⟩:=a19;have xV:=DA.d (ps:=["web","by"]) X G F19 a19 (fun _ _ _ _ _ _=>lK fun _ _=>rfl);obtain⟨d20,F20,a20⟩:=a20;have Dr:=DA.d (ps:=["web","some"]) X G F20 a20 (fun _ _ _ _ _ _=>lK fun _ _=>rfl);obtain⟨d21,F21,a21⟩:=a21;have qZ:=DA.d (ps:=["web","some"]) X G F21 a21 (fun _ _ _ _ _ _=>lK fun _ _=>rfl);obtain⟨d22,F22,a22⟩:=a22;have qY:=DA.d (ps:=["web","place","tied"]) X G F22 a22 (fun _ _ _ _ _ _=>Ij fun _ _ _=>rfl);obtain⟨d23,F23,a23⟩:=a23;have HJ:=DA.d (ps:=["ones","others"]) X G F23 a23 (fun _ _ _ _ _ _=>lK fun _ _=>rfl);obtain⟨d24,F24,a24⟩:=a24;have Ad:=DA.d (ps:=["friends"]) X G F24 a24 (fun _ _ _ _ _ _=>um fun _=>rfl);obtain⟨d25,F25,a25⟩:=a25;have pC:=DA.d (ps:=["web"]) X G F25 a25 (fun _ _ _ _ _ _=>um fun _=>rfl);obtain⟨d26,F26,a26⟩:=a26;have jt:=DA.d (ps:=["web","thing"]) X G F26 a26 (fun _ _ _ _ _ _=>lK fun _ _=>rfl);obtain⟨d27,F27,a27⟩:=a27;have uq:=DA.d (ps:=["web","wants"]) X G F27 a27 (fun _ _ _ _ _ _=>lK fun _ _=>rfl);obtain⟨d28,F28,a28⟩:=a28;have Qv:=DA.d (ps:=["web"]) X G F28 a28 (fun _ _ _ _ _ _=>um fun _=>rfl);obtain⟨d29,F29,a29⟩:=a29;have Dq:=DA.d (ps:=["web","thing"]) X G F29 a29 (fun _ _ _ _ _ _=>lK fun _ _=>rfl);obtain⟨d30,F30,a30⟩:=a30;have Ac:=DA.d (ps:=["web","thing"]) X G F30 a30 (fun _ _ _ _ _ _=>lK fun _ _=>rfl);obtain⟨d31,F31,a31⟩:=a31;have Vl:=DA.d (ps:=["laying","place","want"]) X G F31 a31 (fun _ _ _ _ _ _=>Ij fun _ _ _=>rfl);obtain⟨d32,F32,a32⟩:=a32;have qP:=DA.d (ps:=["web","wants","laying","number"]) X G F32 a32 (fun _ _ _ _ _ _=>bn4 fun _ _ _ _=>rfl);obtain⟨d33,F33,a33⟩:=a33;have Aa:=DA.d (ps:=["some","prices"]) X G F33 a33 (fun _ _ _ _ _ _=>lK fun _ _=>rfl);obtain⟨d34,F34,a34⟩:=a34;have xY:=DA.d (ps:=["web","wants","prices","number"]) X G F34 a34 (fun _ _ _ _ _ _=>bn4 fun _ _ _ _=>rfl);obtain⟨d35,F35,a35⟩:=a35;have ur:=DA.d (ps:=["web"]) X G F35 a35 (fun _ _ _ _ _ _=>um fun _=>rfl);obtain⟨d36,F36,a36⟩:=a36;have uZ:=DA.d (ps:=["web"]) X G F36 a36 (fun _ _ _ _ _ _=>um fun _=>rfl);obtain⟨d37,F37,a37⟩:=a37;have dg:=DA.d (ps:=["fraction"]) X G F37 a37 (fun _ _ _ _ _ _=>um fun _=>rfl);obtain⟨d38,F38,a38⟩:=a38;have u5:=DA.d (ps:=["some"]) X G F38 a38 (fun _ _ _ _ _ _=>um fun _=>rfl);obtain⟨d39,F39,a39⟩:=a39;have Ae:=DA.d (ps:=["one","other"]) X G F39 a39 (fun _ _ _ _ _ _=>lK fun _ _=>rfl);obtain⟨d40,F40,a40⟩:=a40;have xW:=DA.d (ps:=["cell","at"]) X G F40 a40 (fun _ _ _ _ _ _=>lK fun _ _=>rfl);obtain⟨d41,F41,a41⟩:=a41;have gQ:=DA.d (ps:=["cup","many"]) X G F41 a41 (fun _ _ _ _ _ _=>lK fun _ _=>rfl);obtain⟨d42,F42,a42⟩:=a42;have ux:=DA.d (ps:=["cup","n"]) X G F42 a42 (fun _ _ _ _ _ _=>lK fun _ _=>rfl);obtain⟨d43,F43,a43⟩:=a43;have Ab:=DA.d (ps:=["cup","most"]) X G F43 a43 (fun _ _ _ _ _ _=>lK fun _ _=>rfl);obtain⟨d44,F44,a44⟩:=a44;have xX:=DA.d (ps:=["cup","web","most"]) X G F44 a44 (fun _ _ _ _ _ _=>Ij fun _ _ _=>rfl);obtain⟨d45,F45,a45⟩:=a45;have Dm:=DA.d (ps:=["sharing","deed"]) X G F45 a45 (fun _ _ _ _ _ _=>lK fun _ _=>rfl);obtain⟨d46,F46,a46⟩:=a46;have uz:=DA.d (ps:=["sharing","web"]) X G F46 a46 (fun _ _ _ _ _ _=>lK fun _ _=>rfl);obtain⟨d47,F47,a47⟩:=a47;have uy:=DA.d (ps:=["web","deed"]) X G F47 a47 (fun _ _ _ _ _ _=>lK fun _ _=>rfl);obtain⟨d48,F48,a48⟩:=a48;have uY:=DA.d (ps:=["deed","ahead","behind"]) X G F48 a48 (fun _ _ _ _ _ _=>Ij fun _ _ _=>rfl);have F49:=fun_mk (st:=qH) l49 c49 k49;have lR:=Vz X G x0;have uM:=Vz X G x1;have yt:=Vz X G x2;have Xq:=was X G z0;have qN:=was X G z1;have Xp:=was X G z2;have T9:=was X G z3;have gK:=was X G z4;have Ri:=was X G z5;have bB:=was X G z6;have fY:=was X G z7;have mV:=was X G z8;have KC:=was X G z9;have Ez:=was X G z10;have cN:=was X G z11;have oG:=was X G z12;have bO:=was X G z13;have Xo:=was X G z14;have qe:=Vz X G y0;have lB:=Vz X G y1;obtain⟨md0,FM0,Xv⟩:=Xv;have m9:=MA.d (ps:=["self","sets","wants"]) FM0 Xv (fun _ _ _ _ _ _=>Ij fun _ _ _=>rfl);obtain⟨md1,FM1,ma1⟩:=ma1;have jJ:=MA.d (ps:=["self"]) FM1 ma1 (fun _ _ _ _ _ _=>um fun _=>rfl);obtain⟨md2,FM2,ma2⟩:=ma2;have kh:=MA.d (ps:=["self","column","row","other"]) FM2 ma2 (fun _ _ _ _ _ _=>bn4 fun _ _ _ _=>rfl);obtain⟨md3,FM3,ma3⟩:=ma3;have m8:=MA.d (ps:=["self","column"]) FM3 ma3 (fun _ _ _ _ _ _=>lK fun _ _=>rfl);obtain⟨md4,FM4,ma4⟩:=ma4;have qz:=MA.d (ps:=["self","cells","pivots","column"]) FM4 ma4 (fun _ _ _ _ _ _=>bn4 fun _ _ _ _=>rfl);obtain⟨md5,FM5,ma5⟩:=ma5;have uF:=MA.d (ps:=["self","row","column"]) FM5 ma5 (fun _ _ _ _ _ _=>Ij fun _ _ _=>rfl);obtain⟨md6,FM6,ma6⟩:=ma6;have q9:=MA.d (ps:=["self"]) FM6 ma6 (fun _ _ _ _ _ _=>um fun _=>rfl);obtain⟨md7,FM7,ma7⟩:=ma7;have cF:=MA.d (ps:=["self","row","column"]) FM7 ma7 (fun _ _ _ _ _ _=>Ij fun _ _ _=>rfl);obtain⟨md8,FM8,ma8⟩:=ma8;have m7:=MA.d (ps:=["self","name"]) FM8 ma8 (fun _ _ _ _ _ _=>lK fun _ _=>rfl);obtain⟨md9,FM9,ma9⟩:=ma9;have m6:=MA.d (ps:=["self","name"]) FM9 ma9 (fun _ _ _ _ _ _=>lK fun _ _=>rfl);obtain⟨aa4,Zi,KD⟩:=KD;have nu:=MA.d (ps:=["self","web"]) Zi KD (fun _ _ _ _ _ _=>lK fun _ _=>rfl);obtain⟨aa3,Zh,Uo⟩:=Uo;have kj:=MA.d (ps:=["self","web","told"]) Zh Uo (fun _ _ _ _ _ _=>Ij fun _ _ _=>rfl);obtain⟨aa2,Zg,Um⟩:=Um;have cH:=MA.d (ps:=["self","web"]) Zg Um (fun _ _ _ _ _ _=>lK fun _ _=>rfl);obtain⟨aa1,Zf,Ul⟩:=Ul;have gA:=MA.d (ps:=["self","one","other"]) Zf Ul (fun _ _ _ _ _ _=>Ij fun _ _ _=>rfl);obtain⟨aa0,Ze,Uk⟩:=Uk;have lX:=MA.d (ps:=["self","ties"]) Ze Uk (fun _ _ _ _ _ _=>lK fun _ _=>rfl);obtain⟨aaZ,Zd,Uj⟩:=Uj;have u9:=MA.d (ps:=["self","one","other"]) Zd Uj (fun _ _ _ _ _ _=>Ij fun _ _ _=>rfl);obtain⟨aaY,Zc,Ui⟩:=Ui;have rm:=MA.d (ps:=["self","one","other"]) Zc Ui (fun _ _ _ _ _ _=>Ij fun _ _ _=>rfl);obtain⟨aaX,Zb,Uh⟩:=Uh;have uG:=MA.d (ps:=["self"]) Zb Uh (fun _ _ _ _ _ _=>um fun _=>rfl);obtain⟨aaW,Za,Ug⟩:=Ug;have u6:=MA.d (ps:=["self"]) Za Ug (fun _ _ _ _ _ _=>um fun _=>rfl);obtain⟨aaV,Y9,Ue⟩:=Ue;have jC:=MA.d (ps:=["self"]) Y9 Ue (fun _ _ _ _ _ _=>um fun _=>rfl);obtain⟨aaU,Y8,Ud⟩:=Ud;have qF:=MA.d (ps:=["self"]) Y8 Ud (fun _ _ _ _ _ _=>um fun _=>rfl);obtain⟨aaT,Y7,Uc⟩:=Uc;have qC:=MA.d (ps:=["self"]) Y7 Uc (fun _ _ _ _ _ _=>um fun _=>rfl);obtain⟨aaS,Y6,Ub⟩:=Ub;have rA:=MA.d (ps:=["self"]) Y6 Ub (fun _ _ _ _ _ _=>um fun _=>rfl);have bH:Cls K aF:=⟨Dg,Dd,CZ,CV⟩;have cJ:NoAttr K aF "cells":=ql;have dH:NoAttr K aF "over":=qU;have bF:NoAttr K aF "columns":=mY;have dG:NoAttr K aF "rows":=qT;have mk_Tableau:Mk K aF mf0:=⟨CQ,Xv.1,Xv.2.1,CN⟩;have Cy:Cls K ao:=⟨Dh,Df,Dc,CW⟩;have tO:NoAttr K ao "kept_laying":=jo;have uP:NoAttr K ao "times_anew":=jF;have yX:NoAttr K ao "kept_web":=lJ;have uQ:NoAttr K ao "kept_value":=jG;have tM:NoAttr K ao "kept_prices":=jl;have mk_Sharing:Mk K ao Xu:=⟨CT,KD.1,KD.2.1,CP⟩;refine⟨W.fnOf "law" "law" (defArgs qH) (defBody qH) (defScope qH) .none XD YD Xi YQ Vh YG,fun s v=> .of_eq rfl,fun base _ _=> ?_⟩;have lG:=zZ.mk Cy tO uP yX uQ tM;have Qc:=Kq (P:=l.prog) (w:=w) (mg:=mg) (base:=base) F40;have Fw:=TX F41 xW Qc fY;have PL:=Kd F42 gQ Fw cN bO;have Vc:=Pb F43 gQ Fw ux PL;have rN:=Kc (P:=l.prog) (w:=w) (base:=base) F0 bB Ri T9;have Ft:=Km (P:=l.prog) (w:=w) (base:=base) F1 ju rN;have Li:=Hh (P:=l.prog) (w:=w) (base:=base) F2 uE Ft qN;have zF:=Hg (P:=l.prog) (w:=w) (mg:=mg) (base:=base) F3 qN cN fY;have Le:=Tz (P:=l.prog) (w:=w) (base:=base) F4 xZ Li j9 zF bB bO;have UW:=Oi (P:=l.prog) (w:=w) (base:=base) F5 uD Le j9 zF bB bO qN fY;have Ye:=Tg (P:=l.prog) (w:=w) (base:=base) F6 ju rN Ds UW bB bO fY lR;have dW:=BP (P:=l.prog) (w:=w) (base:=base) F7 Mx Ye;have jY:=wJ F26 ju rN fY bB bO qN yt;have Ln:=Hi (P:=l.prog) (w:=w) (mg:=mg) (base:=base) F23;have Cq:=yW F24 HJ Ln mV cN fY oG;have Fv:=TV (P:=l.prog) (w:=w) (mg:=mg) (base:=base) F12 Ez KC;have Qe:=Ks F22 lE Fv cN;have qO:=wL F25 cZ dW Ad Cq qY Qe cN;have U0:=Oj (P:=l.prog) (w:=w) (mg:=mg) (base:=base) FM0 bH cJ dH bF dG fY cN mV;have Yn:=Tv (P:=l.prog) (w:=w) (mg:=mg) (base:=base) FM1 bH cJ dH bF dG gK Ez;have Yi:=Tn (P:=l.prog) (w:=w) (mg:=mg) (base:=base) FM4 bH cJ dH bF dG gK;have Yg:=Ti FM5 bH cJ dH bF dG qz Yi;have Yh:=Tj (P:=l.prog) (w:=w) (mg:=mg) (base:=base) FM2 bH cJ dH bF dG;have Ym:=Tt FM3 bH cJ dH bF dG kh Yh cN fY;have Yj:=Tp FM6 bH cJ dH bF dG jJ Yn uF Yg m8 Ym;have Yq:=Xj (P:=l.prog) (w:=w) (mg:=mg) (base:=base) F13;have zH:=TQ (P:=l.prog) (w:=w) (base:=base) F14 gw Yq Xq;have Lb:=Tw FM7 bH cJ dH bF dG j8 zH;have Yk:=Tq FM9 bH cJ dH bF dG j8 zH cF Lb;have Yl:=Tr FM8 bH cJ dH bF dG j8 zH cF Lb;have tX:=GZ F27 bH cJ dH bF dG qe cZ dW jt jY pC qO m9 mk_Tableau U0 q9 Yj m6 Yk m7 Yl cF Lb gK cN;have Lj:=OJ (P:=l.prog) (w:=w) (mg:=mg) (base:=base) F35;have Fq:=Kh (P:=l.prog) (w:=w) (mg:=mg) (base:=base) Zh lG;have U8:=Ox Zi lG cZ dW uq tX ur Lj kj Fq;have vN:=BR (P:=l.prog) (w:=w) (base:=base) F9 uD Le;have Ht:=BW (P:=l.prog) (w:=w) (base:=base) F10 lR;have Lk:=O9 F17 ju rN fY bB bO uM;have Qd:=Kr (P:=l.prog) (w:=w) (mg:=mg) (base:=base) F21 fY;have Hu:=BX F29 lW Lk uD Le qZ Qd fY bB bO;have Hr:=BL (P:=l.prog) (w:=w) (mg:=mg) (base:=base) F3 qN cN fY;have Cp:=yU F30 Dq Hu j9 Hr qN bB mV;have tY:=O1 (P:=l.prog) (w:=w) (mg:=mg) (base:=base) F16;have rO:=Kf F18 gw Yq;have Vb:=Pa F31 iJ tY pA rO;have tZ:=yV F32 cZ dW jt jY Ac Cp Vl Vb iJ tY pA rO qN gK;have rP:=Kg Zg lG uq tX ur Lj qP (tZ.mono (by decide)) kj Fq;have Lh:=Ou Ze lG uw vN Dl Ht cH rP bO oG mV;have Lp:=T6 F37 j8 zH;have Lf:=Om Y9 lG dg Lp;have PN:=Ke F28 cZ dW uq tX;have P0:=Ko (P:=l.prog) (w:=w) (mg:=mg) (base:=base) F19;have Yt:=T3 F36 xV P0 bO;have U3:=Ol Za lG uZ Yt;have Yu:=T5 (P:=l.prog) (w:=w) (mg:=mg) (base:=base) F38 bO;have U7:=Ow Y8 lG u5 Yu dg Lp;have Va:=OD F33 iJ tY pA rO;have zJ:=wM F34 cZ dW jt jY lW Lk pC qO Aa Va pA rO iJ tY qN fY bB mV Xp Xo;have U6:=Ov Y7 lG dg Lp;have Ld:=GX F46 lG jC Lf Qv PN u6 U3 qP (tZ.mono (by decide)) qF U7 xY zJ qC U6;have Yp:=TJ F44 gQ Fw bO cN oG mV Ez KC;have Vd:=Pg (P:=l.prog) (w:=w) (base:=base) F11 cN;have Yr:=TY (P:=l.prog) (w:=w) (base:=base) F20 cZ dW uw vN Qw Vd lE Fv bO fY;have PX:=Kl Zb lG cH rP Dr Yr bO cN;have zG:=wK (P:=l.prog) (w:=w) (base:=base) F8 uE Ft;have Lg:=Oq Zf lG xU zG;have Rk:=T7 (P:=l.prog) (w:=w) (mg:=mg) (base:=base) F39 Ez KC;have U5:=Ot Zd lG gA Lg lE Fv Ae Rk cH rP mV bO oG;have U4:=Oo Zc lG gA Lg lE Fv Ae Rk cH rP bO;have Yv:=T8 F45 lG lX Lh uG PX u9 U5 rm U4;have U9:=Oz (P:=l.prog) (w:=w) (base:=base) F15 j8 zH;have Qa:=Kp F48 iJ tY Vk U9;have La:=GR (P:=l.prog) (w:=w) (mg:=mg) (base:=base) F47 bO;have Yo:=TF (P:=l.prog) (w:=w) (mg:=mg) (base:=base) Y6 lG;exact ok_law F49 lG lB Ab Vc nu mk_Sharing U8 lX Lh jC Lf uz Ld gQ Fw xX Yp Dm Yv uY Qa uy La rA Yo cN fY bO Ri
theorem walk{l:PySem.W.OpenLaw}{q:ξ}{loose:List Str}{XP:(L4)->Heap->Prop}{YP:τ->Heap->Prop}{d:DefRec}{K:Params->PySem.W.Frag}(hn:l.most=some 63)(hdf:d.params.defaults=[])(hY:∀(w:τ) (h:Heap),YP w h->(K w.params).In h)
  (F:∀(w:τ) (mg:L4) (fa:Addr) (h:Heap),(K w.params).In h->h.Ns mainGlobals mg->mg d.name=some (.ref fa)->
   ∃fd:ρ,(∀(s:η) (u:ζ),BindsTo s fd ⟨[u],[]⟩ [("script",u)])/\∀base:Heap,(K w.params).In base->base.Ns mainGlobals mg->FnOk l.prog w (K w.params) mg base CX0 14 fa fd ["script"] (spLaw (K w.params))):
  PySem.W.WalkO q loose XP YP l.row.toRowW d [] (fun f vs=>PySem.call f vs):=
 L2.walk_of (n:=63) (k:=14) (x:="script") (CX:=fun _=>CX0) (sp:=fun w=>spLaw (K w.params)) hn (by decide) hdf ⟨rfl,by decide,by decide,rfl⟩ hY F (fun _ _ a ns hl hO hS=>JF hl hO hS) fun _ _ _ _ _ z=>z
end Hs
open PySem PySem.W PyProof.Rows
set_option maxRecDepth 100000 in
set_option maxHeartbeats 0 in
theorem PySem.Challenge.cw_hueshare_k53_whole_comes_and_goes_holds : PySem.Challenge.rw_hueshare_k53_whole_comes_and_goes.Holds := by
 refine Hd.early.2 ?_;unfold Hd.early;dsimp only
 k_fill
 refine Hs.walk (l:=PySem.Challenge.rw_hueshare_k53_whole_comes_and_goes) rfl rfl (fun w h Y=>PySem.W.kIn_of Y) ?F
 case F=>
  intro w mg fa h KX G hmg
  refine' Hs.all_mk KX G hmg .of .of .of .of .of .of .of .of .of .of .of .of .of .of .of .of .of .of .of .of .of .of .of .of .of .of .of .of .of .of .of .of .of .of .of .of .of .of .of .of .of .of .of .of .of .of .of .of .of (by k_is) (by k_is) (by k_is) (by k_is) (by k_is) (by k_is) (by k_is) (by k_is) (by k_is) (by k_is) (by k_is) (by k_is) (by k_is) (by k_is) (by k_is) (by k_is) (by k_is) (by k_is) (by k_is) (by k_is) (by k_is) (by k_is) (by k_is) (by k_is) .of .of .of .of .of .of .of .of .of .of .of .of .of .of .of .of .of .of .of .of .of .of .of (by k_is) (by k_is) (by k_is) (by k_is) (by k_is) (by k_is) (by k_is) (by k_is) (by k_is) (by k_is) (by k_is) (by k_is) (by k_is) (by k_is) (by k_is) (by k_is) (by k_is) (by k_is) (by k_is) (by k_is) (by k_is)
