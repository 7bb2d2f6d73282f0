import PyProof.Rows.All
import Wide.All
import OpenK.AllK
import Wide.FinOn
import Lean
import PyProof.EqAt
import PyProof.EqKinds
import PyProof.TupleCall
import PyProof.ListRange
import PyProof.TupleOfSeq
import PyProof.Draws
import PyProof.EnumMake
import PyProof.TupleIter
import PyProof.Rows.SetFrom
import PyProof.SetRoads
import PyProof.WalksMore
import PyProof.Rows.SortShell
import KE.KMinBuiltin
import PyProof.Rows.CallKwBuiltin
import KE.KRevIter
import PyProof.Rows.Tup
import PyProof.Rows.Range3
import PyProof.DictWalks
import PyProof.DictTruth
import PyProof.TupleKey
import PyProof.Rows.SeqMore2
import PyProof.FString
import PyProof.StrWalks
import PyProof.StrBlockH
import PyProof.StrCalls2
import PyProof.SliceStr2
import KE.KIntText
import PyProof.StrLawsTight
import KE.KDictList
import PyProof.DictRoadsH
import KE.KLam
import KE.KNestM
import PyProof.DictItems
import PyProof.IsiHeapPairs
import KE.KPairComp
import PyProof.MinMaxWalk
import PyProof.MeetsSeq
import PyProof.Rows.ZipGen
import PyProof.Rows.SumAny
import PySem.Challenge.RW_hueshare_k52_two_sharings_by_turns
set_option compiler.extract_closed false
set_option Elab.async false
set_option linter.all false
set_option maxRecDepth 100000

noncomputable abbrev ζ:=PySem.Value
noncomputable abbrev η:=PySem.Shared
noncomputable abbrev θ:=PySem.PyData
noncomputable abbrev ξ:=PySem.Program
noncomputable abbrev ρ:=PySem.FuncData
noncomputable abbrev τ:=PySem.World
noncomputable abbrev L4:=PySem.Str->Option ζ
noncomputable abbrev L3:=ζ->η->Prop
noncomputable abbrev L1:=List (PySem.Addr×PySem.Obj)
noncomputable abbrev L0:=List (Int×Int)
def cW:=@decide_eq_true
def fJ:=@of_decide_eq_true
def aA:=@if_neg
def aD:=@if_pos
def bW:=@PySem.wpAny_bind
def fW:=@decide_eq_false
def kj:=@Bool.and_eq_true
def gU:=@PySem.sizeLine_eq
def vD:=@Bool.false_ne_true
def iY:=@PySem.wpAny_pure
def sV:=@Option.some.inj
def vC:=@Bool.eq_iff_iff
def Py:=@PyProof.Rows.callWith_type1
def yW:=@PySem.PassesOwn.never
def Gb:=@decide_eq_true_iff
def kO:=@congrArg
def Qh:=@PySem.F.plainAttrs_list
def J6:=@PySem.mem_of_lookup
def was:=@of_decide_eq_false
def lA:=@Ne.symm
def Px:=@decide_eq_true_eq
def Cy:=@PySem.W.mg_none_of
def Xn:=@Classical.byContradiction
def Qg:=@PySem.wpAny_truthy_bool
def way:=@Bool.not_eq_true'
def Qf:=@PyProof.Rows.KeyOrd.kle_refl
def Ur:=@PySem.wpAny_Call_Name_kw
def Yt:=@decide_eq_false_iff_not
def Uq:=@PySem.wpAny_newObj_type
def wbd:=@PySem.F.slot_tuple_iterator_next
def Uo:=@PySem.wpAny_passesOwn
def wbf:=@PySem.F.slot_list_append
def wbg:=@PySem.F.type_list_append
def Yr:=@PySem.Heap.SameBut.update
def Xm:=@Nat.Coprime.symm
def Um:=@PySem.Paired.length
def Yq:=@PyProof.Rows.KeyOrd.kle_of_klt
def wbl:=@PySem.F.args_tuple_add_2
def wbm:=@Int.mul_ediv_cancel_left
def wbn:=@Nat.gcd_pos_of_pos_right
def Xl:=@PySem.wpAny_holding
def wbp:=@PySem.Calls.spliced_cons
def wbq:=@PySem.F.entry_tuple_add
def Yp:=@PySem.W.KasT.kasWp_bind
def wbs:=@PySem.wpAny_pyIter_tuple
def wbt:=@PySem.F.slot_list_index
def wbu:=@PySem.F.type_list_index
def wbv:=@PySem.F.slot_tuple_add
def wbw:=@PySem.Heap.get?_update_other
def wbx:=@List.length_pos_of_mem
def wby:=@PySem.Calls.spliced_nil
def wbz:=@PySem.Heap.get?_push_ne
def wca:=@List.ext_getElem?
def wcb:=@PySem.wpAny_pyIter_list
def wcc:=@PySem.wpAny_pyIter_enum
def wcd:=@PyProof.Rows.KeyOrd.kle_trans
def wce:=@PySem.wpAny_call_entry
def wcf:=@List.eq_nil_of_length_eq_zero
def wcg:=@List.getElem?_append
def wch:=@List.replicate_succ'
def wci:=@PySem.F.args_tuple_iterator_next_1
def Yo:=@Int.ofNat.inj
def Yn:=@Nat.mul_assoc
def wcl:=@List.dropLast_concat_getLast
def Ul:=@PySem.wpAny_mono
def Uk:=@PySem.call_meets
def wco:=@List.filterMap_cons
def wcp:=@PySem.wpAny_execs_nil
def wcq:=@PySem.W.plainGet_of
def wcr:=@Nat.add_sub_cancel'
def wcs:=@PyProof.Rows.get?_update_seq
def wct:=@PySem.codeAny_builtin
def wcu:=@PySem.F.entry_tuple_iterator_next
def wcv:=@PySem.pushCells_keeps
def wcw:=@Int.fdiv_eq_ediv_of_nonneg
def wcx:=@Int.mul_lt_mul_of_pos_left
def wcy:=@PyProof.Rows.assignInOrder_cons
def Ym:=@PySem.codeAny_mono
def wda:=@PySem.W.callWith_K
def wdb:=@List.zip_nil_right
def Yl:=@List.map_nil
def wdd:=@Int.eq_of_mul_eq_mul_left
def wde:=@Int.lt_of_mul_lt_mul_left
def wdf:=@Nat.eq_of_mul_eq_mul_left
def wdg:=@List.mem_or_eq_of_mem_set
def wdh:=@Int.add_le_add
def wdi:=@List.drop_eq_getElem_cons
def wdj:=@List.zip_nil_left
def wdk:=@List.append_assoc
def wdl:=@Nat.le_of_succ_le
def wdm:=@PyProof.noPylong_of_log2
def wdn:=@List.getElem?_set
def wdo:=@List.Sublist.refl
def wdp:=@List.sublist_append_left
def wdq:=@PySem.wpAny_standAt
def Yk:=@Int.mul_one
def wds:=@PySem.rangeSize_one
def wdt:=@List.getElem?_replicate
def wdu:=@PyProof.Rows.listUpdate_at
def wdv:=@PySem.wpAny_newList
def Yj:=@Int.add_mul
def wdx:=@Nat.gcd_pos_of_pos_left
def Yi:=@Nat.mul_pos
def wdz:=@PySem.noFill_tuple_add
def wea:=@Nat.le_add_right
def wec:=@Option.getD_some
def wed:=@PySem.AutoSeq1.idx_int
def wee:=@Int.natCast_ediv
def wef:=@Nat.dvd_antisymm
def weg:=@Bool.not_eq_true
def weh:=@List.getElem?_set_self
def wei:=@PySem.W.cellsFrom_some
def wej:=@Nat.le_mul_of_pos_left
def Xk:=@PyProof.Rows.IsTup.new
def wel:=@PySem.W.methodCall_KW
def wem:=@List.of_mem_zip
def wen:=@Int.add_zero
def weo:=@Bool.or_eq_true
def wep:=@Int.ediv_nonneg
def weq:=@Int.le_antisymm
def wer:=@Nat.div_le_self
def wes:=@List.filter_map
def wet:=@List.take_append_drop
def Yg:=@PyProof.Rows.boot_range
def wev:=@Bool.false_and
def wew:=@Int.mul_le_mul
def wex:=@PySem.IsRange.new
def wey:=@PySem.wpAny_field
def wez:=@Int.lt_irrefl
def wfa:=@List.all_cons
def wfb:=@Bool.false_or
def wfc:=@Nat.sub_le
def wfd:=@Nat.pow_succ
def wfe:=@List.map_set
def wff:=@List.map_id'
def wfg:=@Nat.mul_zero
def Xj:=@PySem.W.mg_of
def aL:=@List.length_map
def dG:=@List.getElem?_eq_getElem
def aY:=@Nat.le_refl
def bV:=@List.map_append
def lq:=@List.getD_eq_getElem?_getD
def dU:=@List.getElem?_map
def iG:=@List.mem_cons_of_mem
def nF:=@List.getElem?_eq_some_iff
def mJ:=@PySem.Heap.get?_push_of_some
def iD:=@List.mem_singleton
def cV:=@Nat.le_trans
def iW:=@List.mem_cons_self
def dg:=@List.mem_cons
def iC:=@List.size_toArray
def fL:=@List.mem_filter
def dH:=@Nat.le_of_lt
def mH:=@Nat.lt_of_lt_of_le
def kh:=@List.all_eq_true
def dY:=@Nat.zero_le
def jz:=@List.mem_range
def qz:=@List.length_append
def gP:=@PySem.Heap.lt_size
def tM:=@List.mem_of_getElem?
def sU:=@PySem.Heap.get?_push_size
def jy:=@Nat.ne_of_lt
def wk:=@List.length_filter_le
def jC:=@List.mem_map
def oY:=@List.mem_append
def rQ:=@List.take_length
def vo:=@List.length_range
def vm:=@List.take_add_one
def tL:=@List.length_take
def vA:=@Nat.lt_succ_of_lt
def J3:=@Int.mul_le_mul_of_nonneg_left
def wR:=@Nat.lt_succ_self
def Ir:=@List.mem_append_right
def yV:=@List.length_cons
def zx:=@List.getElem_mem
def zu:=@Nat.succ_ne_zero
def yU:=@List.range_succ
def FN:=@List.filter_append
def Ip:=@List.getElem_of_mem
def wj:=@Nat.lt_irrefl
def rP:=@Int.le_refl
def Pu:=@List.pairwise_singleton
def Pr:=@Nat.mul_div_cancel_left
def Io:=@Nat.lt_of_le_of_lt
def Uj:=@Int.mul_le_mul_of_nonneg_right
def Im:=@Int.toNat_natCast
def FJ:=@List.filter_cons
def yS:=@List.map_cons
def Cr:=@List.append_nil
def wg:=@List.map_map
def wQ:=@Int.mul_zero
def Fz:=@Nat.min_le_left
def Cq:=@Int.mul_nonneg
def yR:=@Nat.succ_pos
def R8:=@Int.eq_ofNat_of_zero_le
def JQ:=@List.lookup_cons
def Ui:=@List.pairwise_iff_getElem
def zq:=@Int.mul_comm
def Pq:=@Int.natAbs_natCast
def Xi:=@Int.le_of_mul_le_mul_right
def zp:=@Int.one_mul
def R6:=@List.pairwise_append
def Qd:=@List.pairwise_cons
def J2:=@List.nodup_cons
def R3:=@Int.toNat_of_nonneg
def R0:=@List.getElem?_range
def Fy:=@Nat.le_of_eq
def Uh:=@List.length_replicate
def Fx:=@Int.zero_mul
def Qc:=@List.pairwise_map
def Pn:=@List.length_nil
def RZ:=@Nat.lt_of_le_of_ne
def ycx:=@List.take_succ_eq_append_getElem
def Yd:=@Int.eq_of_mul_eq_mul_right
def Xh:=@List.filter_eq_nil_iff
def Xg:=@List.take_of_length_le
def Ug:=@Array.length_toList
def Ue:=@List.replicate_succ
def RX:=@Nat.le_of_lt_succ
def Ud:=@List.map_congr_left
def Xf:=@List.getElem?_eq_none
def Uc:=@Nat.eq_zero_or_pos
def Qa:=@PySem.Heap.size_push
def J1:=@Int.le_of_lt
def P0:=@Int.natAbs_mul
def Yc:=@List.pairwise_lt_range
def ydl:=@List.getElem?_append_right
def PX:=@Nat.le_of_dvd
def Xe:=@Int.natCast_nonneg
def Yb:=@Nat.sub_one_lt_of_le
def Xd:=@List.any_eq_false
def Ub:=@Nat.le_antisymm
def ydr:=@Nat.succ_add_eq_add_succ
def Ua:=@Nat.not_lt_zero
def T9:=@Int.natCast_mul
def Pk:=@Nat.le_succ
def RW:=@Int.mul_assoc
def ydw:=@List.filter_cons_of_pos
def ydx:=@List.filter_cons_of_neg
def Xc:=@Nat.dvd_mul_left
def X8:=@List.zip_cons_cons
def RV:=@Nat.lt_trans
def yeb:=@List.cons_lt_cons_iff
def X7:=@List.flatten_cons
def X6:=@Nat.gcd_dvd_right
def yee:=@Array.perm_iff_toList_perm
def yef:=@List.mem_append_left
def yeg:=@Nat.le_sub_one_of_lt
def yeh:=@List.getElem?_append_left
def yei:=@List.filter_sublist
def T8:=@Nat.ne_of_gt
def T7:=@Nat.mul_comm
def T6:=@Int.ofNat_lt
def T5:=@Int.le_trans
def Xb:=@List.any_cons
def yeo:=@List.map_singleton
def T3:=@Int.mul_pos
def Xa:=@Int.zero_add
def W9:=@Int.le_of_eq
def yes:=@List.all_map
namespace Hd
open PySem PySem.W PySem.Calls PyProof.Rows
-- a run of the text's top over the heap as a tree, as one fold
noncomputable def U3(tb:String->Option Builtin)(p:ξ)(w:τ)(m:Nat)(ann:Option ζ)(n:Nat):SharedT->Thread->Option SharedT:=
 @Nat.rec (fun _=>SharedT->Thread->Option SharedT) (fun _ _=>none)
  (fun _ ih s t=> @Bool.rec (fun _=>Option SharedT)
   (@Bool.rec (fun _=>Option SharedT) none
    (@Option.rec (SharedT×Thread) (fun _=>Option SharedT) none (fun r=>ih r.1 r.2) (stepT (denote tb) p w s t)) (stepOk m ann t))
   (some s) (through t)) n
theorem Qp{tb:String->Option Builtin}{p:ξ}{w:τ}{m:Nat}{ann:Option ζ}:∀(n:Nat) (s s':SharedT) (t:Thread),
  U3 tb p w m ann n s t=some s'->topRun tb p w m ann n s.abs t=some s'.abs:=by
 intro n
 induction n with
 |zero=>intro s s' t h;exact absurd h (by intro h;cases h)
 |succ n ih=>
  intro s s' t h;have h1: @Bool.rec (fun _=>Option SharedT) (@Bool.rec (fun _=>Option SharedT) none
    (@Option.rec (SharedT×Thread) (fun _=>Option SharedT) none (fun r=>U3 tb p w m ann n r.1 r.2) (stepT (denote tb) p w s t)) (stepOk m ann t))
    (some s) (through t)=some s':=h
  unfold topRun;cases e1:through t with
  |true=>rw[e1]at h1;injection h1 with h1;rw[h1]
  |false=>
   rw[e1]at h1;cases e2:stepOk m ann t with
   |false=>rw[e2]at h1;cases h1
   |true=>
    rw[e2]at h1;cases e3:stepT (denote tb) p w s t with
    |none=>rw[e3]at h1;cases h1
    |some r=>
     rw[e3]at h1;have e4:=stepT_spec (s':=r.1) (t':=r.2) e3;show(match step (denote tb) p w s.abs t with | .go a b=>topRun tb p w m ann n a b| .halt _ _=>none)=_;rw[e4];exact ih _ _ _ h1
noncomputable def treeOf(l:List Obj):BT:=(l.foldl (fun x o=>(x.1.ins x.2 o,x.2+1)) ((BT.nil,0):BT×Nat)).1
-- the run from the start that the kit has laid
noncomputable def ran(p:ξ)(N:Nat)(w:τ)(os:OsState):Option SharedT:=
 U3 treeTable p w 11 (some (.ref 6)) N ⟨treeOf (boot_heap w.params).objs.toList,11,{},Array.mk [],boot_drawn,boot_toks,os⟩ (topStub p)
-- what is looked at behind the run
noncomputable def looked(p q:ξ)(loose:List Str)(Xt:η->Bool)(g0:Bool)(h:Heap)(s:η):=
 ((staticsOk (importedModules p.main.body) h s.heap&&namesBound p s.heap&&gensDone s&&laidKept h s.heap),openSeen q loose (importedModules p.main.body) Xt g0 s)
noncomputable def qZ(p q:ξ)(loose:List Str)(Xt:η->Bool)(g0:Bool)(N:Nat):Prop:=
 ∀(w:τ) (os:OsState),(ran p N w os).map (fun s=>looked p q loose Xt g0 (boot_heap w.params) s.abs)=some (true,openGood q loose)
theorem Rf{p q:ξ}{loose:List Str}{Xt:η->Bool}{α:Type}{Yf:η->α}{Ya:τ->α}{N:Nat}{g0:Bool}(r:qZ p q loose Xt g0 N)(e:opening p=plainProg p.main.scope.names)(hN:Nat.ble 600 N=true)(f:∀s,fenceModules? p s=some s)(y:∀(w:τ) (os:OsState),(ran p N w os).map (fun s=>Yf s.abs)=some (Ya w)):
  LeftO p q loose Xt Yf Ya N g0:=fun w=>by
 have b:((boot_heap w.params).isNs mainGlobals&&(Array.mk []:Array GenState).size==0,(boot_heap w.params).objs.size,(boot_heap w.params).nsMap mainGlobals "__annotations__")=(true,11,some (.ref 6)):=by kernel_rfl
 have c:absHeap (treeOf (boot_heap w.params).objs.toList) 11 {}=boot_heap w.params:=by kernel_rfl
 obtain⟨⟨h,gs',d',k',os⟩,e1,e'⟩:=Option.map_eq_some_iff.mp (boot_open e hN f w);obtain⟨rfl,rfl,rfl,rfl⟩:h=boot_heap w.params/\gs'=Array.mk []/\d'=boot_drawn/\k'=boot_toks:=by simpa using e'
 obtain⟨b1,b2,b3⟩:_/\_/\_:=by simpa only[Prod.mk.injEq]using b
 obtain⟨s,r1,r2⟩:=Option.map_eq_some_iff.mp (r w os);obtain⟨s',y1,y2⟩:=Option.map_eq_some_iff.mp (y w os);have es:s'=s:=by rw[r1]at y1;injection y1 with y1;exact y1.symm
 subst es;obtain⟨l1,l2⟩:_/\_:=by simpa only[looked,Prod.mk.injEq]using r2
 have t1:=Qp N _ _ _ r1;have ab:SharedT.abs ⟨treeOf (boot_heap w.params).objs.toList,11,{},Array.mk [],boot_drawn,boot_toks,os⟩=⟨boot_heap w.params,Array.mk [],boot_drawn,boot_toks,os⟩:=by unfold SharedT.abs;rw[c]
 rw[ab]at t1;have t:topFrom treeTable p w N ⟨boot_heap w.params,Array.mk [],boot_drawn,boot_toks,os⟩=some s'.abs:=by
  unfold topFrom;dsimp only;rw[b1,b2,b3,t1];show(match staticsOk (importedModules p.main.body) (boot_heap w.params) s'.abs.heap&&namesBound p s'.abs.heap&&gensDone s'.abs&&laidKept (boot_heap w.params) s'.abs.heap with |true=>_|false=>_)=_;rw[l1]
 unfold openEnds;rw[e1];show(topFrom treeTable p w N _).map _=_;rw[t];show some (_,_)=_;rw[l2,y2]
-- what is looked at behind the run, in five groups: a run for each, so that none needs the memory of all
theorem two{α β γ:Type}{o:Option α}{f:α->β}{g:α->γ}{a:β}{b:γ}(h:o.map f=some a)(h':o.map g=some b):o.map (fun s=>(f s,g s))=some (a,b):=by
 cases o with
 |none=>cases h
 |some s=>
  injection h with h
  injection h' with h'
  show some (f s,g s)=_;rw[h,h']
theorem J8{α β γ:Type}{o:Option α}{f:α->β}{g:α->γ}{a:β}{b:γ}(h:o.map (fun s=>(f s,g s))=some (a,b)):o.map f=some a/\o.map g=some b:=by
 cases o with
 |none=>cases h
 |some s=>
  injection h with h
  injection h with h h'
  exact⟨kO some h,kO some h'⟩
theorem both{α:Type}{o:Option α}{f g:α->Bool}(h:o.map f=some true)(h':o.map g=some true):o.map (fun s=>f s&&g s)=some true:=by
 cases o with
 |none=>cases h
 |some s=>
  injection h with h
  injection h' with h'
  show some (f s&&g s)=_;rw[h,h'];rfl
section
variable(p q:ξ)(Xt:η->Bool)(N:Nat)
noncomputable abbrev GA:Prop:=∀(w:τ) (os:OsState),(ran p N w os).map (fun s=>(seen ((recsOf q).map (·.name)) (ownsOf q) [] {s.abs with gens:=#[]},s.abs.heap.bltView,s.abs.heap.isNs mainGlobals,s.abs.heap.isNs builtinsNs,tablesOk q s.abs.heap,s.abs.gens.size==0))=some (expectedOf q,bltViewBooted,true,true,true,true)
noncomputable abbrev GB:Prop:=∀(w:τ) (os:OsState),(ran p N w os).map (fun s=>(s.abs.heap.keysOk (looseW q []) ((recsOf q).map (·.name)) ((litsOf q).map (·.1)) ((clssOf q (looseW q [])).map (·.name)),(staticsOk (importedModules p.main.body) (boot_heap w.params) s.abs.heap&&namesBound p s.abs.heap&&gensDone s.abs&&laidKept (boot_heap w.params) s.abs.heap),s.abs.heap.accountedOkI (importedModules p.main.body),Xt s.abs,plainSeenD q [] s.abs))=some (true,true,true,true,plainGoodD q [])
noncomputable abbrev GC:Prop:=∀(w:τ) (os:OsState),(ran p N w os).map (fun s=>(tabsOk q s.abs,pinSeenD q (drecsOf q) s.abs))=some (true,pinGoodD (drecsOf q))
noncomputable abbrev GD:Prop:=∀(w:τ) (os:OsState),(ran p N w os).map (fun s=>plainSeenE q (looseW q []) s.abs)=some (plainGoodE q (looseW q []))
noncomputable abbrev GE:Prop:=∀(w:τ) (os:OsState),(ran p N w os).map (fun s=>(wideSeen q s.abs,clsSeenW q [] s.abs))=some (wideGood q,clsGoodW q [])
end
theorem MJ{p q:ξ}{Xt:η->Bool}{N:Nat}(ga:GA p q N)(gb:GB p q Xt N)(gc:GC p q N)(gd:GD p q N)(ge:GE p q N):qZ p q [] Xt true N:=fun w os=>by
 obtain⟨h1,a2⟩:=J8 (ga w os);obtain⟨h2,a3⟩:=J8 a2;obtain⟨h5,a4⟩:=J8 a3;obtain⟨h6,a5⟩:=J8 a4;obtain⟨h7,h9⟩:=J8 a5;obtain⟨h3,b2⟩:=J8 (gb w os);obtain⟨h0,b3⟩:=J8 b2;obtain⟨h4,b4⟩:=J8 b3;obtain⟨h8,k4⟩:=J8 b4;obtain⟨k1,k2⟩:=J8 (gc w os);obtain⟨k5,k6⟩:=J8 (ge w os);exact two h0 (two h1 (two h2 (two (both (both (both (both (both (both h3 h4) h5) h6) h7) h8) h9) (two k1 (two k2 (two (gd w os) (two k4 (two k5 k6))))))))
end Hd
section
open PySem PySem.W PyProof.Rows
namespace Hd
noncomputable abbrev L:=PySem.Challenge.rw_hueshare_k52_two_sharings_by_turns
noncomputable def Q:ξ:=view L.row.toRowW.prog [1,2,3,4,5,6,8,9,10,11,12,13,14,15,16,17,18,19,20,21,23,24,25,26,27,28,30,31,33,34,35,36,37,39,40,41,42,43,44,45,46,48,49,50,51,52,53,55,56,57,58,59,60,61,62,63,64,65,66,67,68,69,70,71,72]
noncomputable abbrev X:η->Bool:=fun s=>xlAt Q [] s&&recOk (RowW.records L.row.toRowW) s
set_option maxRecDepth 100000 in
theorem g0:GA L.row.toRowW.prog Q 8138:=fun w os=>by kernel_rfl
set_option maxRecDepth 100000 in
theorem g1:GB L.row.toRowW.prog Q X 8138:=fun w os=>by kernel_rfl
set_option maxRecDepth 100000 in
theorem g2:GC L.row.toRowW.prog Q 8138:=fun w os=>by kernel_rfl
set_option maxRecDepth 100000 in
theorem g3:GD L.row.toRowW.prog Q 8138:=fun w os=>by kernel_rfl
set_option maxRecDepth 100000 in
theorem g4:GE L.row.toRowW.prog Q 8138:=fun w os=>by kernel_rfl
theorem looks:qZ L.row.toRowW.prog Q [] X true 8138:=MJ g0 g1 g2 g3 g4
end Hd
local macro_rules
 |`(tactic|o_head $H)=>`(tactic|
  refine holds_open (q:=Hd.Q) (loose:=[]) (N:=8138) (Xt:=Hd.X) (XP:=XL Hd.Q [])
   (Yf:=Hook.obs $H) (Ya:=Hook.val $H) (YP:=Hook.says $H)
   (Hd.Rf Hd.looks (by kernel_rfl) rfl (fun _=>by kernel_rfl) (fun _ _=>by kernel_rfl))
   (Hook.of $H) (Hook.keeps $H) (fun s e=>xl_of s (Bool.and_eq_true_iff.mp e).1) XL.keeps
   (by rfl) (by rfl) (by rfl) (fun s e=>recFacts_of (Bool.and_eq_true_iff.mp e).2) (by rfl)
   (by first |assumption|decide+kernel) (by decide+kernel) ⟨rfl,rfl,rfl,rfl,rfl,by decide+kernel⟩ ?hw ?hc)
set_option maxRecDepth 100000 in
set_option maxHeartbeats 0 in
noncomputable def Hd.early:PSigma fun P:Prop=>P->PySem.Challenge.rw_hueshare_k52_two_sharings_by_turns.Holds:=by
 refine⟨?P,fun W=> ?_⟩
 rotate_left
 w_on;o_law;k_head;(case hw=>w_witness2)
 exact W
end
namespace L2
open PySem PySem.Spec PyProof.Rows
noncomputable abbrev Key:=Sum Int Str
noncomputable def keyIs:Key->ζ->Bool
 | .inl k,v=>Value.isInt k v
 | .inr x,v=>Value.isStrOf x v
noncomputable def keyH(w:τ):Key->Int
 | .inl k=>hashInt k
 | .inr x=>hashStr w x
theorem Pj:∀{k:Key} {v:ζ},keyIs k v=true->(∃i t,k=Sum.inl i/\v=Value.int i t)\/(∃x t,k=Sum.inr x/\v=Value.str x t)
 | .inl i,v,h=>by
  obtain⟨t,e⟩:=Value.isInt_shape (k:=i) (v:=v) h;exact .inl ⟨i,t,rfl,e⟩
 | .inr x,v,h=>by
  obtain⟨t,e⟩:=Value.isStrOf_shape (x:=x) (v:=v) h;exact .inr ⟨x,t,rfl,e⟩
theorem key_ll(a b:Int):decide ((Sum.inl a:Key)=Sum.inl b)=(a==b):=by
 by_cases e:a=b
 ·subst e;simp
 ·have h:¬(Sum.inl a:Key)=Sum.inl b:=fun q=>e (Sum.inl.inj q);rw[fW h];exact(beq_eq_false_iff_ne.mpr e).symm
theorem key_rr(a b:Str):decide ((Sum.inr a:Key)=Sum.inr b)=decide (a=b):=by
 by_cases e:a=b
 ·subst e;simp
 ·have h:¬(Sum.inr a:Key)=Sum.inr b:=fun q=>e (Sum.inr.inj q);rw[fW h,fW e]
theorem key_lr(a:Int)(b:Str):decide ((Sum.inl a:Key)=Sum.inr b)=false:=fW (fun q=>nomatch q)
theorem key_rl(a:Str)(b:Int):decide ((Sum.inr a:Key)=Sum.inl b)=false:=fW (fun q=>nomatch q)
noncomputable def mixKind(prog:ξ)(w:τ):PySem.KeyKind prog w Key where
 is:=keyIs
 hash:=keyH w
 inj:=fun v a b ha hb=>by
  rcases Pj ha with⟨i,t,rfl,rfl⟩|⟨x,t,rfl,rfl⟩
  ·rcases Pj hb with⟨j,u,rfl,e⟩|⟨y,u,rfl,e⟩
   ·injection e with e1 _;rw[e1]
   ·exact nomatch e
  ·rcases Pj hb with⟨j,u,rfl,e⟩|⟨y,u,rfl,e⟩
   ·exact nomatch e
   ·injection e with e1 _;rw[e1]
 byValue:=fun k v h=>by
  rcases Pj h with⟨i,t,rfl,rfl⟩|⟨x,t,rfl,rfl⟩<;>rfl
 pyHash:=fun hv h=>by
  rcases Pj hv with⟨i,t,rfl,rfl⟩|⟨x,t,rfl,rfl⟩
  ·exact wpAny_pyHash_int h
  ·exact wpAny_pyHash_str h
 eqBool:=fun hu hv h=>by
  rcases Pj hu with⟨i,t,rfl,rfl⟩|⟨x,t,rfl,rfl⟩
  ·rcases Pj hv with⟨j,u,rfl,rfl⟩|⟨y,u,rfl,rfl⟩
   ·rw[key_ll]at h;exact wpAny_eqBool_int h
   ·rw[key_lr]at h;exact SeqAt.EqAt.int_str i t y u _ _ _ _ h
  ·rcases Pj hv with⟨j,u,rfl,rfl⟩|⟨y,u,rfl,rfl⟩
   ·rw[key_rl]at h;exact SeqAt.EqAt.str_int x t j u _ _ _ _ h
   ·rw[key_rr]at h;exact wpAny_eqBool_str h
 «strs»:=fun k x t v h=>by
  rcases Pj h with⟨i,u,rfl,e⟩|⟨y,u,rfl,e⟩
  ·exact nomatch e
  ·injection e with e1 _
   subst e1;cases v<;>rfl
inductive V where
 |non|bl (b:Bool)|int (i:Int)|str (x:Str)|byt (b:Array UInt8)|flt (b:UInt64)|ref (a:Addr)|ty (n:String)
 deriving DecidableEq
noncomputable def RelV:V->ζ->Prop
 | .non,u=>u=Value.none
 | .bl b,u=>u=Value.bool b
 | .int i,u=>∃t,u=Value.int i t
 | .str x,u=>∃t,u=Value.str x t
 | .byt b,u=>∃t,u=Value.bytes b t
 | .flt b,u=>∃t,u=Value.float b t
 | .ref a,u=>u=Value.ref a
 | .ty n,u=>u=Value.type n
noncomputable abbrev Vals:List V->List ζ->Prop:=Paired RelV
theorem Vals.length{xs:List V}{us:List ζ}(r:Vals xs us):xs.length=us.length:=Um r
theorem Vals.get:∀{xs:List V} {us:List ζ} {i:Nat} {x:V},Vals xs us->xs[i]? =some x->∃u,us[i]? =some u/\RelV x u
 |_,_,_,_,.nil,e=>by simp at e
 |_,_,0,_,.cons r _,e=>by simp at e;subst e;exact⟨_,rfl,r⟩
 |_,_,i+1,x,.cons _ t,e=>by
  obtain⟨u,h1,h2⟩:=Vals.get (i:=i) (x:=x) t (by simpa using e);exact⟨u,by simpa using h1,h2⟩
theorem Vals.set{x:V}{u:ζ}(r:RelV x u):∀{xs:List V} {us:List ζ} (i:Nat),Vals xs us->Vals (xs.set i x) (us.set i u)
 |_,_,_,.nil=> .nil
 |_,_,0,.cons _ t=> .cons r t
 |_,_,i+1,.cons q t=> .cons q (Vals.set r i t)
theorem Vals.append:∀{xs ys:List V} {us ws:List ζ},Vals xs us->Vals ys ws->Vals (xs++ys) (us++ws)
 |_,_,_,_,.nil,s=>s
 |_,_,_,_,.cons r t,s=> .cons r (Vals.append t s)
theorem Vals.take:∀{xs:List V} {us:List ζ} (n:Nat),Vals xs us->Vals (xs.take n) (us.take n)
 |_,_,0,_=> .nil
 |_,_,_+1,.nil=> .nil
 |_,_,n+1,.cons r t=> .cons r (Vals.take n t)
theorem Vals.drop:∀{xs:List V} {us:List ζ} (n:Nat),Vals xs us->Vals (xs.drop n) (us.drop n)
 |_,_,0,r=>r
 |_,_,_+1,.nil=> .nil
 |_,_,n+1,.cons _ t=>Vals.drop n t
noncomputable def RelO:Option V->Option ζ->Prop
 |some v,some u=>RelV v u
 |none,none=>True
 |_,_=>False
noncomputable def KV{κ:Type}:List (κ×V)->List (κ×ζ)->Prop:=Paired fun(p:κ×V) (q:κ×ζ)=>p.1=q.1/\RelV p.2 q.2
noncomputable def kV:Key->V
 | .inl i=> .int i
 | .inr x=> .str x
inductive HO where
 /-- a list -/
 |lst (xs:List V)
 /-- a tuple (never changes) -/
 |tup (xs:List V)
 /-- a dict whose keys are ints and texts; one whose keys are tuples of ints and texts (the empty one is both) -/
 |dK (kvs:List (Key×V))|dT (kvs:List (List Key×V))
 /-- a set of ints: its members, its size -/
 |set (S:Int->Bool) (n:Nat)
 /-- an instance of the class at C, its dict at dx, its attributes -/
 |ins (C dx:Addr) (fs:List (Str×V))
 /-- the dict of the instance at x -/
 |own (x:Addr)
 /-- the dict of an exception -/
 |xd (fs:List (Str×V))
 /-- a bound method, f of x -/
 |met (f x:Addr)
 /-- a range object lo, lo + 1, .. below hi -/
 |rng (lo hi:Int)
 /-- a thing that is known to the object (the script; a dict while a loop walks it): read, never written while it is so -/
 |frz (o:Obj) (u:HO)
 /-- a code object's table -/
 |tbl (ps:Array ζ)
 /-- any other thing, by what is true of its one object (a def of one's own: SetO a S n := HO.ext fun h => ..) -/
 |ext (φ:Heap->Prop)
noncomputable abbrev Hp:=Addr->Option HO
noncomputable def upd(H:Hp)(a:Addr)(o:HO):Hp:=fun b=>if b=a then some o else H b
theorem aF{H:Hp}{a:Addr}{o:HO}:upd H a o a=some o:=by unfold upd;rw[aD rfl]
theorem cY{H:Hp}{a b:Addr}{o:HO}(h:b≠a):upd H a o b=H b:=by unfold upd;rw[aA h]
theorem upd_upd{H:Hp}{a:Addr}{o u:HO}:upd (upd H a o) a u=upd H a u:=by
 funext b;unfold upd;split<;>rfl
theorem ne_of{H:Hp}{a b:Addr}{o u:HO}(h:H a=some o)(h':H b=some u)(d:o≠u):a≠b:=by
 intro e;subst e;rw[h]at h';exact d (sV h')
theorem sS{H:Hp}{a b:Addr}{o:HO}(h:H a=some o)(h':H b=none):a≠b:=by
 intro e;subst e;rw[h]at h';cases h'
section
variable(P:ξ)(w:τ)
noncomputable def ObjOk(H:Hp)(h:Heap)(a:Addr):HO->Prop
 | .lst xs=>xs.length<=sizeLine/\∃(its:List ζ) (n:Nat),Vals xs its/\h.get? a=some {cls:= .type "list",data:= .seq its.toArray n}
 | .tup xs=>xs.length<=sizeLine/\∃its:List ζ,Vals xs its/\IsTup h a its.toArray
 | .dK kvs=>kvs.length<=sizeLine/\(a==sysModules)=false/\∃vs,KV kvs vs/\h.DictOf (mixKind P w) a vs
 | .dT kvs=>kvs.length<=sizeLine/\(a==sysModules)=false/\∃xs:List (List Key×Addr×ζ),
   Paired (fun(p:List Key×V) (q:List Key×Addr×ζ)=>p.1=q.1/\H q.2.1=some (.tup (p.1.map kV))/\RelV p.2 q.2.2) kvs xs/\
   ∃o es ep,h.get? a=some o/\o.ExactDict/\o.data= .dict es ep/\es.toList=xs.map (entryOfKey (tupleKind (mixKind P w)))/\(xs.map (·.1)).Nodup
 | .set S n=>h.SetOf (intKind P w) a S n
 | .ins C dx fs=>H dx=some (.own a)/\fs.length<=1000/\dx≠a/\h.get? a=some (PySem.W.instObj C dx)/\
   ∃mA,h.Ns1 dx mA/\(∀f,RelO (fs.lookup f) (mA f))/\PySem.Within mA (fs.map (·.1))
 | .own _=>∃o,h.get? a=some o
 | .xd fs=>∃mA,h.Ns1 a mA/\∀f,RelO (fs.lookup f) (mA f)
 | .rng lo hi=>∃t u v,h.get? a=some {cls:= .type "range",data:= .fields #[.int lo t,.int hi u,.int 1 v]}
 | .frz o u=>h.get? a=some o/\ObjOk H h a u
 | .tbl ps=>h.get? a=some {cls:= .none,data:= .fields ps}
 | .met f x=>h.get? a=some (PySem.W.methodObj (.ref f) (.ref x))
 | .ext φ=>φ h/\(∃o,h.get? a=some o)/\∀h1 h2:Heap,φ h1->(∀o,h1.get? a=some o->h2.get? a=some o)->φ h2
noncomputable def HOk(H:Hp)(h:Heap):Prop:=∀a o,H a=some o->ObjOk P w H h a o
end
section
variable{P:ξ}{w:τ}{H H':Hp}{h h':Heap}{a:Addr}{o:HO}
theorem ObjOk.lt(x:ObjOk P w H h a o):a<h.objs.size:=by
 cases o with
 |lst xs=>obtain⟨_,_,_,_,e⟩:=x;exact gP e
 |tup xs=>obtain⟨_,_,_,p⟩:=x;exact p.lt
 |dK kvs=>obtain⟨_,_,_,_,o,_,_,e,_⟩:=x;exact gP e
 |dT kvs=>obtain⟨_,_,_,_,o,_,_,e,_⟩:=x;exact gP e
 |set S n=>obtain⟨o,_,_,_,e,_⟩:=x;exact gP e
 |ins C dx fs=>obtain⟨_,_,_,e,_⟩:=x;exact gP e
 |own y=>obtain⟨_,e⟩:=x;exact gP e
 |xd fs=>obtain⟨_,⟨_,_,_,e,_⟩,_⟩:=x;exact gP e
 |rng lo hi=>obtain⟨_,_,_,e⟩:=x;exact gP e
 |frz ob u=>obtain⟨e,_⟩:=x;exact gP e
 |tbl ps=>exact gP (show h.get? a=some _ from x)
 |met f y=>exact gP (show h.get? a=some _ from x)
 |ext φ=>obtain⟨_,⟨_,e⟩,_⟩:=x;exact gP e
theorem Paired.mapP{α β:Type}{F G:α->β->Prop}:∀{l₁:List α} {l₂:List β},Paired F l₁ l₂->(∀a b,F a b->G a b)->Paired G l₁ l₂
 |_,_,.nil,_=> .nil
 |_,_,.cons r t,f=> .cons (f _ _ r) (Paired.mapP t f)
theorem ObjOk.stay(x:ObjOk P w H h a o)(k:∀b u,(b=a\/H b=some (.own a))->h.get? b=some u->h'.get? b=some u)(ho:∀b,H b=some (.own a)->H' b=some (.own a))(ht:∀b xs,H b=some (.tup xs)->H' b=some (.tup xs)):ObjOk P w H' h' a o:=by
 induction o with
 |lst xs=>obtain⟨z,its,n,r,e⟩:=x;exact⟨z,its,n,r,k _ _ (.inl rfl) e⟩
 |tup xs=>obtain⟨z,its,r,ob,e,c⟩:=x;exact⟨z,its,r,ob,k _ _ (.inl rfl) e,c⟩
 |dK kvs=>obtain⟨z,y,vs,r,ob,es,ep,e,c⟩:=x;exact⟨z,y,vs,r,ob,es,ep,k _ _ (.inl rfl) e,c⟩
 |dT kvs=>
  obtain⟨z,y,xs,r,ob,es,ep,e,c⟩:=x;exact⟨z,y,xs,Paired.mapP r fun p q z=>⟨z.1,ht _ _ z.2.1,z.2.2⟩,ob,es,ep,k _ _ (.inl rfl) e,c⟩
 |set S n=>obtain⟨ob,es,ep,t,e,c⟩:=x;exact⟨ob,es,ep,t,k _ _ (.inl rfl) e,c⟩
 |ins C dx fs=>
  obtain⟨d,z,ne,e,mA,⟨od,es,ep,e2,c⟩,r⟩:=x;exact⟨ho _ d,z,ne,k _ _ (.inl rfl) e,mA,⟨od,es,ep,k _ _ (.inr d) e2,c⟩,r⟩
 |own y=>obtain⟨ob,e⟩:=x;exact⟨ob,k _ _ (.inl rfl) e⟩
 |xd fs=>obtain⟨mA,⟨od,es,ep,e,c⟩,r⟩:=x;exact⟨mA,⟨od,es,ep,k _ _ (.inl rfl) e,c⟩,r⟩
 |rng lo hi=>obtain⟨t,u,v,e⟩:=x;exact⟨t,u,v,k _ _ (.inl rfl) e⟩
 |frz ob u ih=>obtain⟨e,q⟩:=x;exact⟨k _ _ (.inl rfl) e,ih q⟩
 |tbl ps=>
  have e:h.get? a=some {cls:= .none,data:= .fields ps}:=x;show h'.get? a=some {cls:= .none,data:= .fields ps};exact k a _ (.inl rfl) e
 |met f y=>
  have e:h.get? a=some (PySem.W.methodObj (.ref f) (.ref y)):=x;show h'.get? a=some (PySem.W.methodObj (.ref f) (.ref y));exact k a _ (.inl rfl) e
 |ext φ=>obtain⟨p,⟨o,e⟩,st⟩:=x;exact⟨st _ _ p fun o q=>k _ _ (.inl rfl) q,⟨o,k _ _ (.inl rfl) e⟩,st⟩
theorem HOk.lt(x:HOk P w H h)(e:H a=some o):a<h.objs.size:=(x a o e).lt
theorem HOk.fresh(x:HOk P w H h)(e:h.objs.size<=a):H a=none:=by
 cases q:H a with
 |none=>rfl
 |some u=>exact absurd (mH (x.lt q) e) (wj _)
theorem HOk.kept(x:HOk P w H h)(k:∀b u,h.get? b=some u->h'.get? b=some u):HOk P w H h':=fun a o e=>
 (x a o e).stay (fun b u _ q=>k b u q) (fun _ q=>q) fun _ _ q=>q
theorem HOk.laid(x:HOk P w H h)(k:∀b u,h.get? b=some u->h'.get? b=some u)(hp:h.objs.size<=a)(new:ObjOk P w (upd H a o) h' a o):HOk P w (upd H a o) h':=fun b u e=>by
 have hn:=x.fresh hp;by_cases hb:b=a
 ·subst hb;rw[aF]at e;cases e;exact new
 ·rw[cY hb]at e;exact(x b u e).stay (fun c v _ q=>k c v q) (fun c q=>by rw[cY (sS q hn)];exact q) fun c xs q=>by rw[cY (sS q hn)];exact q
end
noncomputable def Rd(H:Hp)(a:Addr)(u:HO):Prop:=H a=some u\/∃o,H a=some (.frz o u)
theorem Rd.ok{P:ξ}{w:τ}{H:Hp}{h:Heap}{a:Addr}{u:HO}(r:Rd H a u)(x:HOk P w H h):ObjOk P w H h a u:=by
 rcases r with r|⟨o,r⟩
 ·exact x a u r
 ·obtain⟨_,q⟩:=x a _ r;exact q
noncomputable def Mut:Option HO->Prop
 |some (.lst _)=>True
 |some (.dK _)=>True
 |some (.dT _)=>True
 |some (.set _ _)=>True
 |some (.ins _ _ _)=>True
 |some (.ext _)=>True
 |_=>False
section
variable{P:ξ}{w:τ}{H:Hp}{h h':Heap}{x e:Addr}{o':HO}
theorem HOk.write(ok:HOk P w H h)(mu:Mut (H x))(he:e=x\/H e=some (.own x))(k:∀b u,b≠e->h.get? b=some u->h'.get? b=some u)(heo:∃u,h'.get? e=some u)(new:ObjOk P w (upd H x o') h' x o'):HOk P w (upd H x o') h':=fun b u q=>by
 have nown:∀c y,H c=some (.own y)->c≠x:=fun c y r z=>by subst z;rw[r]at mu;exact mu
 have ntup:∀c xs,H c=some (.tup xs)->c≠x:=fun c xs r z=>by subst z;rw[r]at mu;exact mu
 by_cases hb:b=x
 ·subst hb;rw[aF]at q;cases q;exact new
 ·rw[cY hb]at q;by_cases hbe:b=e
  ·have q':H b=some (.own x):=by
    rcases he with z|z
    ·exact absurd (hbe.trans z) hb
    ·rw[hbe];exact z
   rw[q]at q';cases q';obtain⟨v,hv⟩:=heo;exact⟨v,by rw[hbe];exact hv⟩
  ·refine(ok b u q).stay (fun c v hc r=>k c v ?_ r) (fun c r=>by rw[cY (nown c b r)];exact r) fun c xs r=>by rw[cY (ntup c xs r)];exact r
   rcases hc with rfl|hc
   ·exact hbe
   ·rintro rfl;rcases he with z|z
    ·exact nown c b hc z
    ·rw[hc]at z;cases z;exact hb rfl
end
structure Un(fs ex:List Addr)(H H':Hp)(h h':Heap):Prop where
 keep:∀b o,h.get? b=some o->H b=none->b∉fs->b∉ex->h'.get? b=some o
 slot:∀b o,h.get? b=some o->H b=none->b∈fs->b∉ex->∃sl,h'.get? b=some {o with slots:=sl}
 free:∀b o,h.get? b=some o->H b=none->b∉ex->H' b=none
 there:∀b o,h.get? b=some o->b∉ex->∃o',h'.get? b=some o'
 tups:∀b xs,H b=some (.tup xs)->H' b=some (.tup xs)
 frzs:∀b o u,H b=some (.frz o u)->H' b=some (.frz o u)
 tbls:∀b ps,H b=some (.tbl ps)->∃more,H' b=some (.tbl (ps++more))
section
variable{fs ex:List Addr}{H H1:Hp}{h h1 h':Heap}{a x e:Addr}{o:HO}
theorem Un.any(u:Un fs ex H H1 h h1){b:Addr}{ob:Obj}(q:h.get? b=some ob)(n:H b=none)(hx:b∉ex):∃sl,h1.get? b=some {ob with slots:=sl}:=by
 by_cases hb:b∈fs
 ·exact u.slot b ob q n hb hx
 ·exact⟨ob.slots,u.keep b ob q n hb hx⟩
theorem Un.kept(k:∀b u,h.get? b=some u->h'.get? b=some u):Un fs ex H H h h':=
 ⟨fun b ob q _ _ _=>k b ob q,fun b ob q _ _ _=>⟨ob.slots,k b ob q⟩,fun _ _ _ n _=>n,fun b ob q _=>⟨ob,k b ob q⟩,fun _ _ q=>q,fun _ _ _ q=>q,fun _ ps q=>⟨#[],by rw[q];simp⟩⟩
theorem Un.refl:Un fs ex H H h h:=Un.kept fun _ _ q=>q
theorem Un.laid(k:∀b u,h.get? b=some u->h'.get? b=some u)(hp:h.objs.size<=a)(hn:H a=none):Un fs ex H (upd H a o) h h' where
 keep:=fun b u q _ _ _=>k b u q
 slot:=fun b u q _ _ _=>⟨u.slots,k b u q⟩
 free:=fun b u q n _=>by rw[cY (jy (mH (gP q) hp))];exact n
 there:=fun b u q _=>⟨u,k b u q⟩
 tups:=fun b xs q=>by rw[cY (sS q hn)];exact q
 frzs:=fun b u xs q=>by rw[cY (sS q hn)];exact q
 tbls:=fun b ps q=>⟨#[],by rw[cY (sS q hn),q];simp⟩
theorem Un.write(mu:Mut (H x))(he:e=x\/H e=some (.own x))(k:∀b u,b≠e->h.get? b=some u->h'.get? b=some u)(heo:∃u,h'.get? e=some u):Un fs ex H (upd H x o) h h':=by
 have hx:∀b,H b=none->b≠x:=fun b n z=>by subst z;rw[n]at mu;exact mu
 have hb:∀b,H b=none->b≠e:=fun b n z=>by
  subst z;rcases he with r|r
  ·exact hx b n r
  ·rw[n]at r;cases r
 have hm:∀b u,H b=some u->¬Mut (some u)->b≠x:=fun b u q nm z=>by subst z;rw[q]at mu;exact nm mu
 refine⟨fun b u q n _ _=>k b u (hb b n) q,fun b u q n _ _=>⟨u.slots,k b u (hb b n) q⟩,fun b u q n _=>by rw[cY (hx b n)];exact n,fun b u q _=> ?_,
  fun b xs q=>by rw[cY (hm b _ q fun z=>z)];exact q,fun b u xs q=>by rw[cY (hm b _ q fun z=>z)];exact q,fun b ps q=>⟨#[],by rw[cY (hm b _ q fun z=>z),q];simp⟩⟩
 by_cases hbe:b=e
 ·subst hbe;exact heo
 ·exact⟨u,k b u hbe q⟩
end
noncomputable def trk(h:Heap)(H:Hp):List Addr:=(List.range h.objs.size).filter fun a=>(H a).isSome
noncomputable def hidT(h:Heap)(H:Hp):Heap:=PySem.W.hideAll h (trk h H)
theorem hidT_size(h:Heap)(H:Hp):(hidT h H).objs.size=h.objs.size:=PySem.W.hideAll_size _ _
theorem hidT_get{h:Heap}{H:Hp}{b:Addr}{o:Obj}(e:h.get? b=some o)(n:H b=none):(hidT h H).get? b=some o:=
 PySem.W.hideAll_get _ e fun hm=>by
  have q:(H b).isSome=true:=(fL.mp hm).2;rw[n]at q;simp at q
theorem of_hidT{h:Heap}{H:Hp}{b:Addr}{o:Obj}(e:(hidT h H).get? b=some o):h.get? b=some o/\H b=none:=by
 have e':h.get? b=some o:=PySem.W.of_hideAll (trk h H) e;refine⟨e',?_⟩;cases q:H b with
 |none=>rfl
 |some x=>
  have hm:b∈trk h H:=fL.mpr ⟨jz.mpr (gP e'),by simp[q]⟩;have z:(hidT h H).get? b=none:=PySem.W.hideAll_none (trk h H) hm;rw[z]at e;cases e
structure Mod(K:W.Frag)(mg:L4)(base:Heap):Prop where
 kin:K.In base
 glob:base.Ns mainGlobals mg
 blt:∃mb,base.Ns builtinsNs mb/\∀x:Str,x≠"__name__"->mb x=bootBuiltins x
 nolimit:base.NoLimit
structure Cx where
 prog:ξ
 w:τ
 K:W.Frag
 mg:Str->Option ζ
 base:Heap
 A:Around
 N:List Str
 s₀:η
 H₀:Hp
 env:Env
 outer:List Env
 stack:List Env
 ex:List Addr
 fn:Str->Bool
 calm:Bool
 pn:L1
 xe:ζ->η->Prop
noncomputable def frs(l:List Env):List Addr:=l.filterMap (·.frame)
noncomputable abbrev Cx.fs(X:Cx):List Addr:=frs X.outer
noncomputable def Vis(sc:Scope)(x:Str):Prop:=sc.names.lookup x=some .local\/sc.names.lookup x=some .cell\/sc.names.lookup x=some .free
noncomputable def Loc(sc:Scope)(x:Str):Prop:=sc.names.lookup x=some .local\/sc.names.lookup x=some .cell
noncomputable def Look(env:Env)(h:Heap)(m:L4)(x:Str)(u:ζ):Prop:=
 (env.kindOf x=some .local/\m x=some u)\/((env.kindOf x=some .cell\/env.kindOf x=some .free)/\∃c,env.cells.lookup x=some c/\h.IsCell c (some u))
structure Cx.Ok(X:Cx):Prop where
 mod:Mod X.K X.mg X.base
 kind:X.env.scope.kind= .function
 glob:X.env.globals=mainGlobals
 blt:X.env.builtins=builtinsNs
 above:X.s₀.heap.objs.size<=X.env.locals
 inj:∀x y c,X.env.cells.lookup x=some c->X.env.cells.lookup y=some c->x=y
 has:∀x,(X.env.kindOf x=some .cell\/X.env.kindOf x=some .free)->∃c,X.env.cells.lookup x=some c
 cab:∀x c,X.fn x=true->X.env.cells.lookup x=some c->X.s₀.heap.objs.size<=c
 hd:X.calm=true->X.A.handled=none
 frames:X.A.frames=some X.stack
 stk:X.stack=X.outer\/(X.stack=X.env::X.outer/\X.env.frame=some X.env.locals)
 exf:∀b∈X.ex,b≠X.env.locals/\∀x c,X.env.cells.lookup x=some c->c≠b
 bs:∀b o,X.base.get? b=some o->X.s₀.heap.get? b=some o/\X.H₀ b=none
 bsz:X.base.objs.size<=X.s₀.heap.objs.size
 noex:∀b o,X.base.get? b=some o->b∉X.ex
 exfs:∀b∈X.ex,b∉X.fs
 funs:X.s₀.heap.FunFrames X.base X.outer
 frf:∀b∈X.fs,X.H₀ b=none
structure Inv(X:Cx)(pins:L1)(σ:List (Option V))(H:Hp)(s:η):Prop where
 ok:X.Ok
 os:s.os=X.s₀.os
 bare:AllBare s.gens
 base:Un X.fs X.ex X.H₀ H X.s₀.heap s.heap
 loc:∃m,s.heap.Ns X.env.locals m/\∀(i:Nat) (x:Str) (v:V),X.N[i]? =some x->σ[i]? =some (some v)->Vis X.env.scope x->∃u,RelV v u/\Look X.env s.heap m x u
 cell:∀x c,X.env.cells.lookup x=some c->∃v,s.heap.IsCell c v
 free:H X.env.locals=none
 freeC:∀x c,X.env.cells.lookup x=some c->H c=none
 pin:∀p∈X.pn++pins,s.heap.get? p.1=some p.2/\H p.1=none/\p.1≠X.env.locals/\p.1∉X.fs/\∀v,p.2.data≠.cell v
 hok:HOk X.prog X.w H s.heap
 len:σ.length=X.N.length
section
variable{X:Cx}{pins:L1}{σ:List (Option V)}{H H':Hp}{s:η}{h':Heap}
theorem Cx.Ok.nofr(ok:X.Ok){b:Addr}{o:Obj}(e:X.base.get? b=some o):b∉X.fs:=fun hb=>by
 have:=(ok.funs.mem hb).1;rw[e]at this;cases this
theorem Inv.bs(I:Inv X pins σ H s):∀b o,X.base.get? b=some o->s.heap.get? b=some o/\H b=none:=fun b o e=>
 ⟨I.base.keep b o (I.ok.bs b o e).1 (I.ok.bs b o e).2 (I.ok.nofr e) (I.ok.noex b o e),I.base.free b o (I.ok.bs b o e).1 (I.ok.bs b o e).2 (I.ok.noex b o e)⟩
theorem Inv.bk(I:Inv X pins σ H s):∀b o,X.base.get? b=some o->s.heap.get? b=some o:=fun b o e=>(I.bs b o e).1
theorem Inv.mod(I:Inv X pins σ H s):Mod X.K X.mg X.base:=I.ok.mod
theorem Inv.kIn(I:Inv X pins σ H s):X.K.In s.heap:=I.ok.mod.kin.keeps I.bk
theorem Inv.lt(I:Inv X pins σ H s):X.env.locals<s.heap.objs.size:=let⟨_,hn,_⟩:=I.loc;hn.lt
theorem Inv.sz(I:Inv X pins σ H s):X.s₀.heap.objs.size<=s.heap.objs.size:=cV I.ok.above (dH I.lt)
theorem Inv.nofs(I:Inv X pins σ H s){a:Addr}(h:s.heap.objs.size<=a):a∉X.fs:=fun hb=>by
 obtain⟨_,o,ho,_⟩:=I.ok.funs.mem hb;exact absurd (mH (gP ho) (cV I.sz h)) (wj _)
theorem Inv.cne(I:Inv X pins σ H s):∀x c,X.env.cells.lookup x=some c->c≠X.env.locals:=fun x c e z=>by
 obtain⟨v,o,ho,hd⟩:=I.cell x c e;obtain⟨m,⟨o',es,ep,ho',hd',_⟩,_⟩:=I.loc;rw[z,ho']at ho;cases ho;rw[hd']at hd;cases hd
theorem Inv.funs(I:Inv X pins σ H s):s.heap.FunFrames X.base X.outer:=by
 have all:∀(l:List Env),(∀b∈frs l,b∈X.fs)->X.s₀.heap.FunFrames X.base l->s.heap.FunFrames X.base l:=by
  intro l
  induction l with
  |nil=>intro _ _;trivial
  |cons env r ih=>
   intro hs hl;obtain⟨hk,⟨L,o,hf,hn,ho,hd⟩,hr⟩:=hl;have hL:L∈X.fs:=hs L (by unfold frs;rw[wco,hf];exact iW);obtain⟨sl,e⟩:=I.base.slot L o ho (I.ok.frf L hL) hL fun z=>I.ok.exfs L z hL;exact⟨hk,⟨L,_,hf,hn,e,hd⟩,ih (fun b hb=>hs b (by unfold frs;rw[wco,hf];exact iG _ hb)) hr⟩
 exact all X.outer (fun _ hb=>hb) I.ok.funs
theorem Inv.stack(I:Inv X pins σ H s):s.heap.FunFrames X.base X.stack:=by
 rcases I.ok.stk with e|⟨e,hf⟩
 ·rw[e];exact I.funs
 ·rw[e];obtain⟨m,hn,_⟩:=I.loc;refine .cons (by rw[I.ok.kind];decide) hf hn ?_ I.funs;exact Heap.get?_none_of_le (cV I.ok.bsz I.ok.above)
theorem Inv.stkSub(I:Inv X pins σ H s):∀b∈frs X.stack,b∈X.env.locals::X.fs:=fun b hb=>by
 rcases I.ok.stk with e|⟨e,hf⟩
 ·rw[e]at hb;exact iG _ hb
 ·rw[e]at hb;unfold frs at hb;rw[wco,hf]at hb;exact hb
theorem Inv.stkFree(I:Inv X pins σ H s):∀b∈frs X.stack,H b=none:=fun b hb=>by
 rcases dg.mp (I.stkSub b hb)with e|hb
 ·rw[e];exact I.free
 ·obtain⟨_,o,ho,_⟩:=I.ok.funs.mem hb;exact I.base.free b o ho (I.ok.frf b hb) fun z=>I.ok.exfs b z hb
theorem Inv.step{g':Array GenState}{t':Nat}{d':Drawn}{ch:List Addr}(I:Inv X pins σ H s)(hch:∀b∈ch,(b∈X.ex\/X.s₀.heap.objs.size<=b)/\b≠X.env.locals/\(∀x c,X.env.cells.lookup x=some c->c≠b)/\∀p∈X.pn++pins,p.1≠b)(keep:∀b o,b≠X.env.locals->b∉X.fs->b∉ch->s.heap.get? b=some o->H b=none->h'.get? b=some o)(slot:∀b o,b≠X.env.locals->b∈X.fs->b∉ch->s.heap.get? b=some o->H b=none->∃sl,h'.get? b=some {o with slots:=sl})(free:∀b o,b∉ch->s.heap.get? b=some o->H b=none->H' b=none)(there:∀b o,b∉ch->s.heap.get? b=some o->∃o',h'.get? b=some o')(tups:∀b xs,H b=some (.tup xs)->H' b=some (.tup xs))(frzs:∀b o u,H b=some (.frz o u)->H' b=some (.frz o u))(tbls:∀b ps,H b=some (.tbl ps)->∃more,H' b=some (.tbl (ps++more)))(ns:∀m,s.heap.Ns X.env.locals m->h'.Ns X.env.locals m)(hok:HOk X.prog X.w H' h')(hg:AllBare g'):
  Inv X pins σ H' {s with heap:=h',gens:=g',drawn:=d',toks:=t'}:=by
 have neL:∀b o,X.s₀.heap.get? b=some o->b≠X.env.locals:=fun b o e=>jy (mH (gP e) I.ok.above);have neC:∀b o,X.s₀.heap.get? b=some o->b∉X.ex->b∉ch:=fun b o e hx hb=>by
  rcases(hch b hb).1 with z|z
  ·exact hx z
  ·exact absurd (mH (gP e) z) (wj _)
 have cellK:∀x c,X.env.cells.lookup x=some c->∀v,s.heap.IsCell c v->h'.IsCell c v:=fun x c e v ⟨o,ho,hd⟩=>by
  have nch:c∉ch:=fun z=>(hch c z).2.2.1 x c e rfl;by_cases hc:c∈X.fs
  ·obtain⟨sl,q⟩:=slot c o (I.cne x c e) hc nch ho (I.freeC x c e);exact⟨_,q,hd⟩
  ·exact⟨o,keep c o (I.cne x c e) hc nch ho (I.freeC x c e),hd⟩
 refine⟨I.ok,I.os,hg,⟨fun b o e n hb hx=> ?_,fun b o e n hb hx=> ?_,fun b o e n hx=> ?_,fun b o e hx=> ?_,fun b xs e=>tups b xs (I.base.tups b xs e),fun b o xs e=>frzs b o xs (I.base.frzs b o xs e),fun b ps e=> ?_⟩,?_,fun x c e=> ?_,?_,fun x c e=> ?_,fun p hp=> ?_,hok,I.len⟩
 ·exact keep b o (neL b o e) hb (neC b o e hx) (I.base.keep b o e n hb hx) (I.base.free b o e n hx)
 ·obtain⟨sl,e1⟩:=I.base.slot b o e n hb hx;obtain⟨sl',e2⟩:=slot b _ (neL b o e) hb (neC b o e hx) e1 (I.base.free b o e n hx);exact⟨sl',e2⟩
 ·obtain⟨o',e1⟩:=I.base.there b o e hx;exact free b o' (neC b o e hx) e1 (I.base.free b o e n hx)
 ·obtain⟨o',e1⟩:=I.base.there b o e hx;exact there b o' (neC b o e hx) e1
 ·obtain⟨m1,e1⟩:=I.base.tbls b ps e;obtain⟨m2,e2⟩:=tbls b _ e1;exact⟨m1++m2,by rw[e2,Array.append_assoc]⟩
 ·obtain⟨m,hn,hl⟩:=I.loc;refine⟨m,ns m hn,fun i x v e1 e2 e3=> ?_⟩;obtain⟨u,r,l⟩:=hl i x v e1 e2 e3;refine⟨u,r,?_⟩;rcases l with l|⟨k,c,e,z⟩
  ·exact .inl l
  ·exact .inr ⟨k,c,e,cellK x c e _ z⟩
 ·obtain⟨v,z⟩:=I.cell x c e;exact⟨v,cellK x c e v z⟩
 ·obtain⟨m,⟨o,_,_,ho,_⟩,_⟩:=I.loc;exact free _ o (fun z=>(hch _ z).2.1 rfl) ho I.free
 ·obtain⟨v,o,ho,hd⟩:=I.cell x c e;exact free c o (fun z=>(hch c z).2.2.1 x c e rfl) ho (I.freeC x c e)
 ·obtain⟨e,n,ne,nf,d⟩:=I.pin p hp;have nch:p.1∉ch:=fun z=>(hch p.1 z).2.2.2 p hp rfl;exact⟨keep p.1 p.2 ne nf nch e n,free p.1 p.2 nch e n,ne,nf,d⟩
theorem Inv.un{t':Nat}(I:Inv X pins σ H s)(u:Un X.fs [] H H' s.heap h')(hok:HOk X.prog X.w H' h'):Inv X pins σ H' {s with heap:=h',toks:=t'}:=by
 obtain⟨m,⟨o,es,ep,ho,r⟩,_⟩:=id I.loc;obtain⟨sl,hL⟩:=u.any ho I.free (by simp);exact I.step (g':=s.gens) (d':=s.drawn) (ch:=[]) (fun _ z=>nomatch z) (fun b o _ hb _ e n=>u.keep b o e n hb (by simp)) (fun b o _ hb _ e n=>u.slot b o e n hb (by simp)) (fun b o _ e n=>u.free b o e n (by simp)) (fun b o _ e=>u.there b o e (by simp)) u.tups u.frzs u.tbls (fun m' hm=>by
  obtain⟨o',es',ep',ho',r'⟩:=hm;rw[ho]at ho';cases ho';exact⟨_,es',ep',hL,r'⟩) hok I.bare
theorem Inv.call{g':Array GenState}{t':Nat}{d':Drawn}{ch:List Addr}(I:Inv X pins σ H s)(u:Un (frs X.stack) ch H H' s.heap h')(hok:HOk X.prog X.w H' h')(hg:AllBare g')(hch:∀b∈ch,(b∈X.ex\/X.s₀.heap.objs.size<=b)/\b≠X.env.locals/\(∀x c,X.env.cells.lookup x=some c->c≠b)/\∀p∈X.pn++pins,p.1≠b):
  Inv X pins σ H' {s with heap:=h',gens:=g',drawn:=d',toks:=t'}:=by
 obtain⟨m,⟨o,es,ep,ho,r⟩,_⟩:=id I.loc;obtain⟨sl,hL⟩:=u.any ho I.free fun z=>(hch _ z).2.1 rfl;exact I.step (ch:=ch) hch (fun b o hL hb hc e n=>u.keep b o e n (fun z=>(dg.mp (I.stkSub b z)).elim hL hb) hc) (fun b o _ _ hc e n=>u.any e n hc) (fun b o hc e n=>u.free b o e n hc) (fun b o hc e=>u.there b o e hc) u.tups u.frzs u.tbls (fun m' hm=>by
  obtain⟨o',es',ep',ho',r'⟩:=hm;rw[ho]at ho';cases ho';exact⟨_,es',ep',hL,r'⟩) hok hg
theorem Inv.turned{t':Nat}{it:Addr}(I:Inv X pins σ H s)(k:∀b o,b≠it->s.heap.get? b=some o->h'.get? b=some o)(hn:H it=none)(hL:it≠X.env.locals)(h1:it∈X.ex\/X.s₀.heap.objs.size<=it)(h2:∀x c,X.env.cells.lookup x=some c->c≠it)(h3:∀p∈X.pn++pins,p.1≠it):Inv X pins σ H {s with heap:=h',toks:=t'}:=by
 have nit:∀b u,H b=some u->b≠it:=fun b u e z=>by rw[z,hn]at e;cases e
 refine I.step (g':=s.gens) (d':=s.drawn) (ch:=[it]) (fun b hb=> ?_) (fun b o _ _ hc e _=>k b o (fun z=>hc (by simp[z])) e) (fun b o _ _ hc e _=>⟨o.slots,k b o (fun z=>hc (by simp[z])) e⟩) (fun _ _ _ _ n=>n)
  (fun b o hc e=>⟨o,k b o (fun z=>hc (by simp[z])) e⟩) (fun _ _ e=>e) (fun _ _ _ e=>e) (fun b ps e=>⟨#[],by rw[e];simp⟩) (fun m hm=> ?_) (fun b u e=> ?_) I.bare
 ·have e:b=it:=by simpa using hb
  subst e;exact⟨h1,hL,h2,h3⟩
 ·obtain⟨o,es,ep,ho,r⟩:=hm;exact⟨o,es,ep,k _ o (lA hL) ho,r⟩
 ·refine(I.hok b u e).stay (fun c v hc q=>k c v ?_ q) (fun _ q=>q) fun _ _ q=>q;rcases hc with z|z
  ·rw[z];exact nit b u e
  ·exact nit c _ z
theorem Inv.tok(I:Inv X pins σ H s)(t:Nat):Inv X pins σ H {s with toks:=t}:=I.un (h':=s.heap) (t':=t) Un.refl I.hok
theorem Inv.kept{t':Nat}(I:Inv X pins σ H s)(k:∀b u,s.heap.get? b=some u->h'.get? b=some u):Inv X pins σ H {s with heap:=h',toks:=t'}:=I.un (Un.kept k) (I.hok.kept k)
theorem Inv.laid{a:Addr}{o:HO}{t':Nat}(I:Inv X pins σ H s)(k:∀b u,s.heap.get? b=some u->h'.get? b=some u)(hp:s.heap.objs.size<=a)(new:ObjOk X.prog X.w (upd H a o) h' a o):
  Inv X pins σ (upd H a o) {s with heap:=h',toks:=t'}:=I.un (Un.laid k hp (I.hok.fresh hp)) (I.hok.laid k hp new)
theorem Inv.write{x e:Addr}{o:HO}{t':Nat}(I:Inv X pins σ H s)(mu:Mut (H x))(he:e=x\/H e=some (.own x))(k:∀b u,b≠e->s.heap.get? b=some u->h'.get? b=some u)(heo:∃u,h'.get? e=some u)(new:ObjOk X.prog X.w (upd H x o) h' x o):Inv X pins σ (upd H x o) {s with heap:=h',toks:=t'}:=I.un (Un.write mu he k heo) (I.hok.write mu he k heo new)
theorem Inv.pins_of{pins':L1}(I:Inv X pins σ H s)(h:∀p∈pins',s.heap.get? p.1=some p.2/\H p.1=none/\p.1≠X.env.locals/\p.1∉X.fs/\∀v,p.2.data≠.cell v):Inv X pins' σ H s:=
 ⟨I.ok,I.os,I.bare,I.base,I.loc,I.cell,I.free,I.freeC,fun p hp=>(oY.mp hp).elim (fun z=>I.pin p (yef _ z)) (h p),I.hok,I.len⟩
theorem nodup_ix{N:List Str}(hN:N.Nodup){i j:Nat}{x:Str}(a:N[i]? =some x)(b:N[j]? =some x):i=j:=by
 obtain⟨h1,e1⟩:=nF.mp a;obtain⟨h2,e2⟩:=nF.mp b;exact(List.getElem_inj hN).mp (e1.trans e2.symm)
theorem store_ok2{M:Model}{A:Around}{E:L3}{i:Nat}{x:Str}{v:V}{u:ζ}{Q:Unit->η->Prop}(I:Inv X pins σ H s)(hN:X.N.Nodup)(hi:X.N[i]? =some x)(hx:Loc X.env.scope x)(r:RelV v u)(h:∀s',Inv X pins (σ.set i (some v)) H s'->(∃a,Heap.SameBut a s.heap s'.heap/\(a=X.env.locals\/X.env.cells.lookup x=some a))->Q () s')(hf:X.fn x=true\/X.env.scope.names.lookup x=some .local:=by first |exact .inl rfl|exact .inr rfl|assumption):wpAny M A (storeName X.env x u) Q E s:=by
 obtain⟨m,hn,hl⟩:=id I.loc;have hcls:(X.env.scope.kind== .class||(X.env.scope.kind== .module&&X.env.locals !=X.env.globals))=false:=by rw[I.ok.kind];rfl
 have hiσ:i<σ.length:=by rw[I.len];exact(nF.mp hi).1
 have cne:=I.cne;have tracked:∀{a:Addr} {h':Heap},(∃o,s.heap.get? a=some o/\H a=none)->Heap.SameBut a s.heap h'->HOk X.prog X.w H h':=fun{a h'} ha hs b ob e=>by
  obtain⟨_,_,hfree⟩:=ha;refine(I.hok b ob e).stay (fun c w' hc q=>(hs.2 c ?_).trans q) (fun _ q=>q) fun _ _ q=>q;rintro rfl;rcases hc with rfl|hc
  ·rw[hfree]at e;cases e
  ·rw[hfree]at hc;cases hc
 rcases hx with hk|hk
 ·refine wpAny_storeName_local hk hn (fun h' hn' hs=> ?_) hcls;obtain⟨oL,_,_,hoL,_⟩:=id hn;refine h _ ⟨I.ok,I.os,I.bare,⟨fun b o e n hb hx=> ?_,fun b o e n hb hx=> ?_,I.base.free,fun b o e hx=> ?_,I.base.tups,I.base.frzs,I.base.tbls⟩,⟨_,hn',fun j y v' e1 e2 e3=> ?_⟩,fun y c e=> ?_,I.free,I.freeC,fun p hp=> ?_,tracked ⟨oL,hoL,I.free⟩ hs,by simpa using I.len⟩ ⟨_,hs,.inl rfl⟩
  ·exact(hs.2 b (jy (mH (gP e) I.ok.above))).trans (I.base.keep b o e n hb hx)
  ·obtain⟨sl,e1⟩:=I.base.slot b o e n hb hx;exact⟨sl,(hs.2 b (jy (mH (gP e) I.ok.above))).trans e1⟩
  ·obtain⟨o',e1⟩:=I.base.there b o e hx;exact⟨o',(hs.2 b (jy (mH (gP e) I.ok.above))).trans e1⟩
  ·by_cases hj:j=i
   ·subst hj;rw[hi]at e1;cases e1;rw[weh hiσ]at e2;cases e2;exact⟨u,r,.inl ⟨hk,by simp⟩⟩
   ·rw[List.getElem?_set_ne (lA hj)]at e2;obtain⟨u',r',q⟩:=hl j y v' e1 e2 e3;refine⟨u',r',?_⟩;rcases q with⟨k,e⟩|⟨k,c,e,z⟩
    ·refine .inl ⟨k,?_⟩;have:y≠x:=fun e=>hj (nodup_ix hN e1 (e▸hi));simp[this,e]
    ·exact .inr ⟨k,c,e,z.sameBut hs (cne y c e)⟩
  ·obtain⟨w',z⟩:=I.cell y c e;exact⟨w',z.sameBut hs (cne y c e)⟩
  ·obtain⟨e,n,ne,nf,d⟩:=I.pin p hp;exact⟨(hs.2 p.1 ne).trans e,n,ne,nf,d⟩
 ·have hfn:X.fn x=true:=by
   rcases hf with z|z
   ·exact z
   ·rw[z]at hk;cases hk
  obtain⟨c,hc⟩:=I.ok.has x (.inl hk);obtain⟨w',z⟩:=I.cell x c hc;refine wpAny_storeName_cell I.ok.kind hk hc z (fun h' hc' hs=> ?_);obtain⟨oc,hoc,hocd⟩:=id z;refine h {s with heap:=h'} ⟨I.ok,I.os,I.bare,⟨fun b o e n hb hx=> ?_,fun b o e n hb hx=> ?_,I.base.free,fun b o e hx=> ?_,I.base.tups,I.base.frzs,I.base.tbls⟩,⟨m,hn.sameBut hs (lA (cne x c hc)),fun j y v' e1 e2 e3=> ?_⟩,fun y c' e=> ?_,I.free,I.freeC,fun p hp=> ?_,tracked ⟨oc,hoc,I.freeC x c hc⟩ hs,by simpa using I.len⟩ ⟨c,hs,.inr hc⟩
  ·exact(hs.2 b (jy (mH (gP e) (I.ok.cab x c hfn hc)))).trans (I.base.keep b o e n hb hx)
  ·obtain⟨sl,e1⟩:=I.base.slot b o e n hb hx;exact⟨sl,(hs.2 b (jy (mH (gP e) (I.ok.cab x c hfn hc)))).trans e1⟩
  ·obtain⟨o',e1⟩:=I.base.there b o e hx;exact⟨o',(hs.2 b (jy (mH (gP e) (I.ok.cab x c hfn hc)))).trans e1⟩
  ·by_cases hj:j=i
   ·subst hj;rw[hi]at e1;cases e1;rw[weh hiσ]at e2;cases e2;exact⟨u,r,.inr ⟨.inl hk,c,hc,hc'⟩⟩
   ·rw[List.getElem?_set_ne (lA hj)]at e2;obtain⟨u',r',q⟩:=hl j y v' e1 e2 e3;refine⟨u',r',?_⟩;rcases q with q|⟨k,c',e,z'⟩
    ·exact .inl q
    ·refine .inr ⟨k,c',e,z'.sameBut hs ?_⟩;rintro rfl;exact hj (nodup_ix hN e1 (I.ok.inj _ _ _ e hc▸hi))
  ·by_cases hcc:c'=c
   ·subst hcc;exact⟨_,hc'⟩
   ·obtain⟨w2,z2⟩:=I.cell y c' e;exact⟨w2,z2.sameBut hs hcc⟩
  ·obtain⟨e,n,ne,nf,d⟩:=I.pin p hp;refine⟨(hs.2 p.1 ?_).trans e,n,ne,nf,d⟩;intro q;rw[q,hoc]at e;have q':oc=p.2:=sV e;exact d w' (by rw[<-q'];exact hocd)
theorem store_ok{M:Model}{A:Around}{E:L3}{i:Nat}{x:Str}{v:V}{u:ζ}{Q:Unit->η->Prop}(I:Inv X pins σ H s)(hN:X.N.Nodup)(hi:X.N[i]? =some x)(hx:Loc X.env.scope x)(r:RelV v u)(h:∀s',Inv X pins (σ.set i (some v)) H s'->Q () s')(hf:X.fn x=true\/X.env.scope.names.lookup x=some .local:=by first |exact .inl rfl|exact .inr rfl|assumption):wpAny M A (storeName X.env x u) Q E s:=
 store_ok2 I hN hi hx r (fun s' I' _=>h s' I') hf
theorem Inv.call'{s':η}{ch:List Addr}(I:Inv X pins σ H s)(ho:s'.os=s.os)(u:Un (frs X.stack) ch H H' s.heap s'.heap)(hok:HOk X.prog X.w H' s'.heap)(hg:AllBare s'.gens)(hch:∀b∈ch,(b∈X.ex\/X.s₀.heap.objs.size<=b)/\b≠X.env.locals/\(∀x c,X.env.cells.lookup x=some c->c≠b)/\∀p∈X.pn++pins,p.1≠b):Inv X pins σ H' s':=by
 obtain⟨h',g',d',t',o'⟩:=s';have e:o'=s.os:=ho;subst e;exact I.call (g':=g') (t':=t') (d':=d') u hok hg hch
end
noncomputable abbrev XK:=ζ->Option Addr->Hp->Prop
noncomputable abbrev St:=List (Option V)
noncomputable abbrev VK:=V->Hp->Prop
noncomputable abbrev TE:=St->Hp->VK->Prop
noncomputable abbrev TT:=St->Hp->(Bool->Hp->Prop)->Prop
noncomputable abbrev TA:=St->Hp->(List V->Hp->Prop)->Prop
structure Ends where
 nx:St->Hp->Prop
 rt:VK
 bk:St->Hp->Prop:=fun _ _=>False
 ct:St->Hp->Prop:=fun _ _=>False
noncomputable abbrev TS:=Ends->St->Hp->Prop
noncomputable def EP(X:Cx)(pins:L1)(σ:St)(Q:VK)(u:ζ)(s':η):Prop:=∃v H',Inv X pins σ H' s'/\RelV v u/\Q v H'
noncomputable def TP(X:Cx)(pins:L1)(σ:St)(Q:Bool->Hp->Prop)(b:Bool)(s':η):Prop:=∃H',Inv X pins σ H' s'/\Q b H'
noncomputable def AP(X:Cx)(pins:L1)(σ:St)(Q:List V->Hp->Prop)(us:List ζ)(s':η):Prop:=∃vs H',Inv X pins σ H' s'/\Vals vs us/\Q vs H'
noncomputable def SP(X:Cx)(pins:L1)(D:Ends)(f:Flow)(s':η):Prop:=
 match f with
 | .next=>∃σ' H',Inv X pins σ' H' s'/\D.nx σ' H'
 | .brk=>∃σ' H',Inv X pins σ' H' s'/\D.bk σ' H'
 | .cont=>∃σ' H',Inv X pins σ' H' s'/\D.ct σ' H'
 | .ret u=>∃v σ' H',Inv X pins σ' H' s'/\RelV v u/\D.rt v H'
noncomputable def PE(X:Cx)(e:Expr)(t:TE):Prop:=
 ∀(pins:L1) (s:η) (σ:St) (H:Hp) (Q:VK),Inv X pins σ H s->t σ H Q->wpAny (model X.prog X.w) X.A (eval e X.env) (EP X pins σ Q) X.xe s
noncomputable def PT(X:Cx)(e:Expr)(t:TT):Prop:=
 ∀(pins:L1) (s:η) (σ:St) (H:Hp) (Q:Bool->Hp->Prop),Inv X pins σ H s->t σ H Q->wpAny (model X.prog X.w) X.A (isTrue e X.env (eval e X.env)) (TP X pins σ Q) X.xe s
noncomputable def PW(X:Cx)(e:Expr)(t:TT):Prop:=
 ∀(whole:Sem ζ) (pins:L1) (s:η) (σ:St) (H:Hp) (Q:Bool->Hp->Prop),Inv X pins σ H s->t σ H Q->wpAny (model X.prog X.w) X.A (isTrue e X.env whole) (TP X pins σ Q) X.xe s
theorem PW.pt{X:Cx}{e:Expr}{t:TT}(h:PW X e t):PT X e t:=h _
noncomputable def PA(X:Cx)(es:List Expr)(t:TA):Prop:=
 ∀(pos:Pos) (pins:L1) (s:η) (σ:St) (H:Hp) (Q:List V->Hp->Prop),Inv X pins σ H s->t σ H Q->wpAny (model X.prog X.w) X.A (spliced (backTo pos (starEach es X.env))) (AP X pins σ Q) X.xe s
noncomputable def PS(X:Cx)(st:Stmt)(t:TS):Prop:=
 ∀(pins:L1) (s:η) (σ:St) (H:Hp) (D:Ends),Inv X pins σ H s->t D σ H->wpAny (model X.prog X.w) X.A (exec st X.env) (SP X pins D) X.xe s
noncomputable def PSs(X:Cx)(st:List Stmt)(t:TS):Prop:=
 ∀(pins:L1) (s:η) (σ:St) (H:Hp) (D:Ends),Inv X pins σ H s->t D σ H->wpAny (model X.prog X.w) X.A (execs st X.env) (SP X pins D) X.xe s
theorem thn{α:Type}{t:Sem α}{Q Q':α->η->Prop}{M:Model}{A:Around}{E:L3}{s:η}(h:wpAny M A t Q E s)(hQ:∀a s,Q a s->Q' a s):wpAny M A t Q' E s:=Ul h hQ fun _ _ x=>x
section
variable{X:Cx}
noncomputable def tVar(i:Nat):TE:=fun σ H Q=>∃v,σ[i]? =some (some v)/\Q v H
noncomputable def tC(v:V):TE:=fun _ H Q=>Q v H
theorem pe_var{i:Nat}{x:Str}{pos:Pos}(hN:X.N[i]? =some x)(hv:Vis X.env.scope x)(hd:(x==("__debug__":Str))=false:=by decide)(hcd:(x==("__classdict__":Str))=false:=by decide):PE X (.Name x pos) (tVar i):=by
 intro pins s σ H Q I h;obtain⟨v,e,h⟩:=h;obtain⟨m,hn,hl⟩:=I.loc;obtain⟨u,r,l⟩:=hl i x v hN e hv;have fin:EP X pins σ Q u s:=⟨v,H,I,r,h⟩;rcases l with⟨hk,hm⟩|⟨hk,c,hc,hcell⟩
 ·exact wpAny_Name (wpAny_loadName_local I.ok.kind hk hn hm fin) hd
 ·rcases hk with hk|hk
  ·exact wpAny_Name (wpAny_loadName_cell I.ok.kind hk hc hcell fin) hd
  ·exact wpAny_Name (wpAny_loadName_free I.ok.kind hk hc hcell fin hcd) hd
theorem aB{i j pos}:PE X (.Constant (.int i) j pos) (tC (.int i)):=fun _ _ _ H _ I h=>wpAny_Constant_int ⟨.int i,H,I.tok _,⟨_,rfl⟩,h⟩
theorem rB{b j pos}:PE X (.Constant (.bool b) j pos) (tC (.bl b)):=fun _ _ _ H _ I h=>Constant_bool ⟨.bl b,H,I,rfl,h⟩
theorem pe_non{j pos}:PE X (.Constant .none j pos) (tC .non):=fun _ _ _ H _ I h=>Constant_none ⟨.non,H,I,rfl,h⟩
theorem pe_str{x j pos}:PE X (.Constant (.str x) j pos) (tC (.str x)):=fun _ _ _ H _ I h=>Calls.Constant_str ⟨.str x,H,I.tok _,⟨_,rfl⟩,h⟩
noncomputable def Gl(X:Cx)(x:Str):Prop:=X.env.kindOf x=some .globalImplicit
theorem ld_glob{E:L3}{pins:L1}{s:η}{σ:St}{H:Hp}{x:Str}{u:ζ}{pos:Pos}{Q:L3}(I:Inv X pins σ H s)(hg:Gl X x)(hm:X.mg x=some u)(h:Q u s)(hd:(x==("__debug__":Str))=false:=by decide):wpAny (model X.prog X.w) X.A (eval (.Name x pos) X.env) Q E s:=
 Calls.Name_function_global I.ok.kind hg (Calls.loadGlobal_global (by rw[I.ok.glob];exact I.mod.glob.keeps I.bk) hm h) hd
theorem ld_blt{E:L3}{pins:L1}{s:η}{σ:St}{H:Hp}{x:Str}{u:ζ}{pos:Pos}{Q:L3}(I:Inv X pins σ H s)(hg:Gl X x)(hm:X.mg x=none)(hv:bootBuiltins x=some u)(h:Q u s)(hn:x≠"__name__":=by decide)(hd:(x==("__debug__":Str))=false:=by decide):wpAny (model X.prog X.w) X.A (eval (.Name x pos) X.env) Q E s:=by
 obtain⟨mb,h1,h2⟩:=I.mod.blt;exact Calls.Name_function_global I.ok.kind hg (Calls.loadGlobal_builtin (by rw[I.ok.glob];exact I.mod.glob.keeps I.bk) hm (by rw[I.ok.blt];exact h1.keeps I.bk) ((h2 x hn).trans hv) h) hd
theorem pe_glob{x:Str}{v:V}{u:ζ}{pos:Pos}(hg:Gl X x)(hm:X.mg x=some u)(r:RelV v u)(hd:(x==("__debug__":Str))=false:=by decide):PE X (.Name x pos) (tC v):=
 fun _ _ _ H _ I h=>ld_glob I hg hm ⟨v,H,I,r,h⟩ hd
theorem pe_bltn{x:Str}{v:V}{u:ζ}{pos:Pos}(hg:Gl X x)(hm:X.mg x=none)(hv:bootBuiltins x=some u)(r:RelV v u)(hn:x≠"__name__":=by decide)(hd:(x==("__debug__":Str))=false:=by decide):PE X (.Name x pos) (tC v):=
 fun _ _ _ H _ I h=>ld_blt I hg hm hv ⟨v,H,I,r,h⟩ hn hd
theorem pN{x:Str}{pos:Pos}(T:String)(hm:X.mg x=none)(hv:bootBuiltins x=some (.type T):=by decide+kernel)(hg:Gl X x:=by rfl)(hn:x≠"__name__":=by decide)(hd:(x==("__debug__":Str))=false:=by decide):PE X (.Name x pos) (tC (.ty T)):=pe_bltn hg hm hv rfl hn hd
variable{a b:Expr}{ta tb:TE}{pos:Pos}
noncomputable def tB(t:TE):TT:=fun σ H Q=>t σ H fun x H1=>∃c,x= .bl c/\Q c H1
theorem j9{e:Expr}{t:TE}(h:PE X e t)(he:∀whole,isTrue e X.env whole=(do let v<-whole;standAt e.pos;holding [v] (truthy v)):=by intro _;rfl):PT X e (tB t):=by
 intro pins s σ H Q I hw;refine isTrue_plain (thn (h pins s σ H _ I hw) fun v s1 ⟨x,H1,I1,r1,q1⟩=> ?_) (he _);obtain⟨d,rfl,q⟩:=q1;cases r1;exact Qg ⟨H1,I1,q⟩
variable{tA tB':TT}{rest:List Expr}
noncomputable def tAnd(t u:TT):TT:=fun σ H Q=>t σ H fun c H1=>if c=true then u σ H1 Q else Q false H1
noncomputable def tOr(t u:TT):TT:=fun σ H Q=>t σ H fun c H1=>if c=true then Q true H1 else u σ H1 Q
noncomputable def tNot(t:TT):TT:=fun σ H Q=>t σ H fun c H1=>Q (!c) H1
theorem pw_and1(ha:PT X a tA):PW X (.BoolOp .And [a] pos) tA:=by
 intro wh pins s σ H Q I h;refine isTrue_and (thn (ha pins s σ H Q I h) fun c s1 e=> ?_);cases c with
 |true=>exact isTrue_and_nil e
 |false=>exact e
theorem zj(ha:PT X a tA):PW X (.BoolOp .Or [a] pos) tA:=by
 intro wh pins s σ H Q I h;refine isTrue_or (thn (ha pins s σ H Q I h) fun c s1 e=> ?_);cases c with
 |false=>exact isTrue_or_nil e
 |true=>exact e
theorem pw_and(ha:PT X a tA)(hb:PW X (.BoolOp .And (b::rest) pos) tB'):PW X (.BoolOp .And (a::b::rest) pos) (tAnd tA tB'):=by
 intro wh pins s σ H Q I h;refine isTrue_and (thn (ha pins s σ H _ I h) fun c s1 ⟨H1,I1,q1⟩=> ?_);cases c with
 |true=>exact hb wh pins s1 σ H1 Q I1 q1
 |false=>exact⟨H1,I1,q1⟩
theorem rC(ha:PT X a tA)(hb:PW X (.BoolOp .Or (b::rest) pos) tB'):PW X (.BoolOp .Or (a::b::rest) pos) (tOr tA tB'):=by
 intro wh pins s σ H Q I h;refine isTrue_or (thn (ha pins s σ H _ I h) fun c s1 ⟨H1,I1,q1⟩=> ?_);cases c with
 |true=>exact⟨H1,I1,q1⟩
 |false=>exact hb wh pins s1 σ H1 Q I1 q1
theorem lC(ha:PT X a tA):PT X (.UnaryOp .Not a pos) (tNot tA):=by
 intro pins s σ H Q I h;exact isTrue_not (ha pins s σ H (fun c H1=>Q (!c) H1) I h)
noncomputable def tAndV(ta tb:TE):TE:=fun σ H Q=>ta σ H fun x H1=>∃c,x= .bl c/\if c=true then tb σ H1 Q else Q (.bl false) H1
noncomputable def tOrV(ta tb:TE):TE:=fun σ H Q=>ta σ H fun x H1=>∃c,x= .bl c/\if c=true then Q (.bl true) H1 else tb σ H1 Q
noncomputable def tNotV(ta:TE):TE:=fun σ H Q=>ta σ H fun x H1=>∃c,x= .bl c/\Q (.bl (!c)) H1
theorem pe_one{op}{t:TE}(h:PE X a t):PE X (.BoolOp op [a] pos) t:=fun pins s σ H Q I hw=>BoolOp_one (h pins s σ H Q I hw)
theorem pe_and(ha:PE X a ta)(hb:PE X (.BoolOp .And (b::rest) pos) tb):PE X (.BoolOp .And (a::b::rest) pos) (tAndV ta tb):=by
 intro pins s σ H Q I h;refine BoolOp_and (thn (ha pins s σ H _ I h) fun v s1 ⟨x,H1,I1,r1,q1⟩=> ?_);obtain⟨c,rfl,q1⟩:=q1;cases r1;refine Qg ?_;cases c with
 |true=>exact hb pins s1 σ H1 Q I1 q1
 |false=>exact⟨.bl false,H1,I1,rfl,q1⟩
theorem pe_or(ha:PE X a ta)(hb:PE X (.BoolOp .Or (b::rest) pos) tb):PE X (.BoolOp .Or (a::b::rest) pos) (tOrV ta tb):=by
 intro pins s σ H Q I h;refine BoolOp_or (thn (ha pins s σ H _ I h) fun v s1 ⟨x,H1,I1,r1,q1⟩=> ?_);obtain⟨c,rfl,q1⟩:=q1;cases r1;refine Qg ?_;cases c with
 |false=>exact hb pins s1 σ H1 Q I1 q1
 |true=>exact⟨.bl true,H1,I1,rfl,q1⟩
theorem pe_not(ha:PE X a ta):PE X (.UnaryOp .Not a pos) (tNotV ta):=by
 intro pins s σ H Q I h;refine UnaryOp_ (thn (ha pins s σ H _ I h) fun v s1 ⟨x,H1,I1,r1,q1⟩=> ?_);obtain⟨c,rfl,q1⟩:=q1;cases r1;exact not_of (Qg ⟨.bl (!c),H1,I1,rfl,q1⟩)
noncomputable def tIf(t:TT)(ta tb:TE):TE:=fun σ H Q=>t σ H fun c H1=>if c=true then ta σ H1 Q else tb σ H1 Q
theorem pe_ifExp{c:Expr}(hc:PT X c tA)(ha:PE X a ta)(hb:PE X b tb):PE X (.IfExp c a b pos) (tIf tA ta tb):=by
 intro pins s σ H Q I h;refine wpAny_IfExp (thn (hc pins s σ H _ I h) fun d s1 ⟨H1,I1,q1⟩=> ?_);cases d with
 |true=>exact ha pins s1 σ H1 Q I1 q1
 |false=>exact hb pins s1 σ H1 Q I1 q1
end
noncomputable def SqL(K:W.Frag)(H:Hp)(a:Addr)(xs:List V):Prop:=
 Rd H a (.lst xs)\/
  ∃(o:Obj) (its:Array ζ) (n:Nat),K.lookup a=some o/\o.cls= .type "list"/\o.dict=none/\o.data= .seq its n/\its.size<=sizeLine/\Vals xs its.toList
noncomputable def SqT(K:W.Frag)(H:Hp)(a:Addr)(xs:List V):Prop:=
 Rd H a (.tup xs)\/
  ∃(o:Obj) (its:Array ζ) (n:Nat),K.lookup a=some o/\o.cls= .type "tuple"/\o.data= .seq its n/\its.size<=sizeLine/\Vals xs its.toList
noncomputable def absV:ζ->Option V
 | .none=>some .non
 | .bool b=>some (.bl b)
 | .int i _=>some (.int i)
 | .str x _=>some (.str x)
 | .bytes b _=>some (.byt b)
 | .float b _=>some (.flt b)
 | .ref a=>some (.ref a)
 | .type n=>some (.ty n)
 |_=>none
theorem RelV.abs{x:V}{u:ζ}(r:RelV x u):absV u=some x:=by
 cases x with
 |non=>cases r;rfl
 |bl _=>cases r;rfl
 |int _=>obtain⟨t,rfl⟩:=r;rfl
 |str _=>obtain⟨t,rfl⟩:=r;rfl
 |byt _=>obtain⟨t,rfl⟩:=r;rfl
 |flt _=>obtain⟨t,rfl⟩:=r;rfl
 |ref _=>cases r;rfl
 |ty _=>cases r;rfl
theorem RelV.inj{x y:V}{u:ζ}(r:RelV x u)(q:RelV y u):x=y:=sV (r.abs.symm.trans q.abs)
theorem Vals.inj{xs ys:List V}{us:List ζ}(h:Vals xs us)(h':Vals ys us):xs=ys:=by
 induction h generalizing ys with
 |nil=>cases h';rfl
 |cons r _ ih=>cases h' with |cons r' t'=>rw[r.inj r',ih t']
section
variable{X:Cx}{pins:L1}{σ:St}{H:Hp}{s:η}{a:Addr}{xs ys:List V}
theorem SqL.of{K:W.Frag}(h:H a=some (.lst xs)):SqL K H a xs:= .inl (.inl h)
theorem SqT.of{K:W.Frag}(h:H a=some (.tup xs)):SqT K H a xs:= .inl (.inl h)
theorem Inv.list(I:Inv X pins σ H s)(h:SqL X.K H a xs):∃its:List ζ,Vals xs its/\PlainL s.heap a its.toArray/\xs.length<=sizeLine:=by
 rcases h with h|⟨o,its,n,hk,hc,hd,hs,hz,r⟩
 ·obtain⟨z,its,n,r,e⟩:=h.ok I.hok;exact⟨its,r,⟨_,n,e,rfl,rfl,rfl⟩,z⟩
 ·refine⟨its.toList,r,⟨o,n,I.kIn a o hk,hc,hd,by simpa using hs⟩,?_⟩;have e:=r.length;simp only[Ug]at e;omega
theorem Inv.tuple(I:Inv X pins σ H s)(h:SqT X.K H a xs):∃its:List ζ,Vals xs its/\IsTup s.heap a its.toArray/\xs.length<=sizeLine:=by
 rcases h with h|⟨o,its,n,hk,hc,hs,hz,r⟩
 ·obtain⟨z,its,r,p⟩:=h.ok I.hok;exact⟨its,r,p,z⟩
 ·refine⟨its.toList,r,⟨o,I.kIn a o hk,hc,n,by simpa using hs⟩,?_⟩;have e:=r.length;simp only[Ug]at e;omega
theorem Inv.list_inj(I:Inv X pins σ H s)(h:SqL X.K H a xs)(h':SqL X.K H a ys):xs=ys:=by
 obtain⟨its,r,⟨o,n,e,_,_,d⟩,_⟩:=I.list h;obtain⟨its',r',⟨o',n',e',_,_,d'⟩,_⟩:=I.list h';rw[e]at e';cases e';rw[d]at d';injection d' with d1 _
 have:its=its':=by simpa using kO Array.toList d1
 subst this;exact r.inj r'
theorem Inv.tuple_inj(I:Inv X pins σ H s)(h:SqT X.K H a xs)(h':SqT X.K H a ys):xs=ys:=by
 obtain⟨its,r,⟨o,e,_,n,d⟩,_⟩:=I.tuple h;obtain⟨its',r',⟨o',e',_,n',d'⟩,_⟩:=I.tuple h';rw[e]at e';cases e';rw[d]at d';injection d' with d1 _
 have:its=its':=by simpa using kO Array.toList d1
 subst this;exact r.inj r'
end
noncomputable abbrev Cx.wish(X:Cx)(E:L3):Cx:={X with xe:=E}
noncomputable abbrev Cx.nox(X:Cx):Cx:=X.wish fun _ _=>False
theorem Cx.Ok.wish{X:Cx}(ok:X.Ok)(E:L3):(X.wish E).Ok:=
 ⟨ok.mod,ok.kind,ok.glob,ok.blt,ok.above,ok.inj,ok.has,ok.cab,ok.hd,ok.frames,ok.stk,ok.exf,ok.bs,ok.bsz,ok.noex,ok.exfs,ok.funs,ok.frf⟩
theorem Cx.Ok.unwish{X:Cx}{E:L3}(ok:(X.wish E).Ok):X.Ok:=
 ⟨ok.mod,ok.kind,ok.glob,ok.blt,ok.above,ok.inj,ok.has,ok.cab,ok.hd,ok.frames,ok.stk,ok.exf,ok.bs,ok.bsz,ok.noex,ok.exfs,ok.funs,ok.frf⟩
section
variable{X:Cx}{pins:L1}{σ:St}{H:Hp}{s:η}{E:L3}
theorem Inv.wish(I:Inv X pins σ H s)(E:L3):Inv (X.wish E) pins σ H s:=⟨I.ok.wish E,I.os,I.bare,I.base,I.loc,I.cell,I.free,I.freeC,I.pin,I.hok,I.len⟩
theorem Inv.unwish(I:Inv (X.wish E) pins σ H s):Inv X pins σ H s:=⟨I.ok.unwish,I.os,I.bare,I.base,I.loc,I.cell,I.free,I.freeC,I.pin,I.hok,I.len⟩
theorem SP.unwish{D:Ends}{f:Flow}{s':η}(h:SP (X.wish E) pins D f s'):SP X pins D f s':=by
 cases f with
 |next=>obtain⟨σ',H',I,q⟩:=h;exact⟨σ',H',I.unwish,q⟩
 |brk=>obtain⟨σ',H',I,q⟩:=h;exact⟨σ',H',I.unwish,q⟩
 |cont=>obtain⟨σ',H',I,q⟩:=h;exact⟨σ',H',I.unwish,q⟩
 |ret u=>obtain⟨v,σ',H',I,r,q⟩:=h;exact⟨v,σ',H',I.unwish,r,q⟩
theorem PSs.nox{st:List Stmt}{t:TS}(h:PSs X.nox st t):PSs X st t:=fun pins s σ H D I hw=>
 Ul (h pins s σ H D (I.wish _) hw) (fun _ _ q=>q.unwish) fun _ _ z=>False.elim z
end
section
variable{X:Cx}{st:Stmt}{rest:List Stmt}{t u:TS}{e:Expr}{te:TE}{pos:Pos}
noncomputable def tNext:TS:=fun D σ H=>D.nx σ H
noncomputable def tSeq(t u:TS):TS:=fun D σ H=>t {D with nx:=u D} σ H
theorem gO:PSs X [] tNext:=fun _ _ σ H _ I h=>wcp ⟨σ,H,I,h⟩
theorem aP(h1:PS X st t)(h2:PSs X rest u):PSs X (st::rest) (tSeq t u):=by
 intro pins s σ H D I h;refine wpAny_execs_cons (thn (h1 pins s σ H {D with nx:=u D} I h) fun f s1 q=> ?_);cases f with
 |next=>
  obtain⟨σ',H',I',q⟩:=q;exact h2 pins s1 σ' H' D I' q
 |ret v=>exact q
 |brk=>exact q
 |cont=>exact q
theorem aV(h1:PS X st t):PSs X [st] t:=by
 intro pins s σ H D I h;refine wpAny_execs_cons (thn (h1 pins s σ H D I h) fun f s1 q=> ?_);cases f with
 |next=>exact wcp q
 |ret v=>exact q
 |brk=>exact q
 |cont=>exact q
theorem Inv.quiet{pins:L1}{σ:St}{H:Hp}{s:η}(I:Inv X pins σ H s):interactive X.env=false:=by simp[interactive,I.ok.kind]
noncomputable def tDrop(te:TE):TS:=fun D σ H=>te σ H fun _ H1=>D.nx σ H1
theorem oO(he:PE X e te)(hs:swapsWith e none pos.line X.env=pure false:=by rfl):PS X (.Expr e pos) (tDrop te):=by
 intro pins s σ H D I h;exact wpAny_Expr_any (thn (he pins s σ H _ I h) fun v s1 ⟨x,H1,I1,r1,q1⟩=>⟨σ,H1,I1,q1⟩) I.quiet hs
noncomputable def tRet(te:TE):TS:=fun D σ H=>te σ H D.rt
theorem bK(he:PE X e te):PS X (.Return (some e) pos) (tRet te):=by
 intro pins s σ H D I h;exact wpAny_Return_some (thn (he pins s σ H _ I h) fun v s1 ⟨x,H1,I1,r1,q1⟩=>⟨x,σ,H1,I1,r1,q1⟩)
noncomputable def tIfS(c:TT)(t u:TS):TS:=fun D σ H=>c σ H fun b H1=>if b=true then t D σ H1 else u D σ H1
theorem fQ{c:Expr}{a b:List Stmt}{tc:TT}(hc:PT X c tc)(ha:PSs X a t)(hb:PSs X b u):PS X (.If c a b pos) (tIfS tc t u):=by
 intro pins s σ H D I h;refine wpAny_If (thn (hc pins s σ H _ I h) fun d s1 ⟨H1,I1,q1⟩=> ?_);cases d with
 |true=>exact ha pins s1 σ H1 D I1 q1
 |false=>exact hb pins s1 σ H1 D I1 q1
noncomputable def tNever:TS:=fun _ _ _=>False
theorem Ph{sts:List Stmt}:PSs X sts tNever:=fun _ _ _ _ _ _ h=>h.elim
end
noncomputable abbrev TG:=V->St->Hp->(St->Hp->Prop)->Prop
noncomputable abbrev TGs:=List V->St->Hp->(St->Hp->Prop)->Prop
noncomputable def PG(X:Cx)(target:Expr)(t:TG):Prop:=
 ∀(pins:L1) (s:η) (σ:St) (H:Hp) (v:V) (u:ζ) (Q:St->Hp->Prop),Inv X pins σ H s->RelV v u->t v σ H Q->
  wpAny (model X.prog X.w) X.A (assign target X.env u) (fun _ s'=>∃σ' H',Inv X pins σ' H' s'/\Q σ' H') X.xe s
noncomputable def PGs(X:Cx)(ts:List Expr)(t:TGs):Prop:=
 ∀(pins:L1) (s:η) (σ:St) (H:Hp) (vs:List V) (us:List ζ) (Q:St->Hp->Prop),Inv X pins σ H s->Vals vs us->t vs σ H Q->
  wpAny (model X.prog X.w) X.A (assignInOrder ((assignEach ts X.env).map (·.2)) us) (fun _ s'=>∃σ' H',Inv X pins σ' H' s'/\Q σ' H') X.xe s
noncomputable abbrev TSet:=V->V->V->Hp->(Hp->Prop)->Prop
noncomputable def PSet(X:Cx)(t:TSet):Prop:=
 ∀(pins:L1) (s:η) (σ:St) (H:Hp) (o i v:V) (ov iv u:ζ) (Q:Hp->Prop),Inv X pins σ H s->RelV o ov->RelV i iv->RelV v u->t o i v H Q->
  wpAny (model X.prog X.w) X.A (setItem ov iv u) (fun _ s'=>∃H',Inv X pins σ H' s'/\Q H') X.xe s
section
variable{X:Cx}{pos:Pos}
noncomputable def gName(i:Nat):TG:=fun v σ H Q=>Q (σ.set i (some v)) H
theorem pg_name{i:Nat}{x:Str}(hN:X.N.Nodup)(hi:X.N[i]? =some x)(hx:Loc X.env.scope x)(hf:X.fn x=true\/X.env.scope.names.lookup x=some .local:=by first |exact .inl rfl|exact .inr rfl|assumption):PG X (.Name x pos) (gName i):=by
 intro pins s σ H v u Q I r h;exact wpAny_assign_Name (store_ok I hN hi hx r (fun s' I'=>⟨_,H,I',h⟩) hf)
theorem pG{X:Cx}{x:Str}{pos:Pos}(i:Nat)(hN:decide X.N.Nodup=true:=by kernel_rfl)(hi:X.N[i]? =some x:=by rfl)(hx:Loc X.env.scope x:=by first |exact Or.inl rfl|exact Or.inr rfl)(hf:X.fn x=true\/X.env.scope.names.lookup x=some .local:=by first |exact .inl rfl|exact .inr rfl|assumption):PG X (.Name x pos) (gName i):=pg_name (fJ hN) hi hx hf
noncomputable def gNil:TGs:=fun vs σ H Q=>vs=[]/\Q σ H
noncomputable def gCons(t:TG)(u:TGs):TGs:=fun vs σ H Q=>∃v r,vs=v::r/\t v σ H fun σ' H'=>u r σ' H' Q
theorem Ci:PGs X [] gNil:=by
 intro pins s σ H vs us Q I r h;obtain⟨e,h⟩:=h;subst e;cases r;exact assignInOrder_nil ⟨σ,H,I,h⟩
theorem oU{e:Expr}{es:List Expr}{t:TG}{u:TGs}(h1:PG X e t)(h2:PGs X es u)(hs:(assignEach (e::es) X.env).map (·.2)=assign e X.env::(assignEach es X.env).map (·.2):=by rfl):PGs X (e::es) (gCons t u):=by
 intro pins s σ H vs us Q I r h;obtain⟨v,vr,e1,h⟩:=h;subst e1;cases r with
 |cons r rr=>
  rw[hs];refine wcy (thn (h1 pins s σ H _ _ _ I r h) fun _ s1 ⟨σ1,H1,I1,q1⟩=> ?_);exact h2 pins s1 σ1 H1 _ _ Q I1 rr q1
noncomputable def gTup(K:W.Frag)(n:Nat)(t:TGs):TG:=fun v σ H Q=>∃a xs,v= .ref a/\SqT K H a xs/\xs.length=n/\t xs σ H Q
theorem pg_tup{es:List Expr}{k:Nat}{t:TGs}{n:Nat}(hc:X.calm=true)(h:PGs X es t)(hn:(assignEach es X.env).length=n:=by rfl)(hst:(assignEach es X.env).findIdx? (·.1)=none:=by rfl):PG X (.Tuple es k pos) (gTup X.K n t):=by
 intro pins s σ H v u Q I r hw;obtain⟨a,xs,e1,hq,hl,hw⟩:=hw;subst e1;cases r;obtain⟨its,rv,ht,hz⟩:=I.tuple hq;refine assign_Tuple_tuple (I.ok.hd hc) ht (by simp[hn,<-hl,rv.length]) hst fun h' hx=> ?_;have I1:Inv X pins σ H {s with heap:=h'}:=I.kept (t':=s.toks) fun b o e=>hx b o (jy (gP e)) e;exact h pins _ σ H xs _ Q I1 (by simpa using rv) hw
noncomputable def gSub(to ti:TE)(t:TSet):TG:=fun v σ H Q=>to σ H fun o H1=>ti σ H1 fun i H2=>t o i v H2 fun H3=>Q σ H3
theorem pg_sub{o i:Expr}{to ti:TE}{t:TSet}(ho:PE X o to)(hi:PE X i ti)(hs:PSet X t)(ha:∀v,assign (.Subscript o i pos) X.env v=(do
   let ov<-holding [v] (eval o X.env);let iv<-holding [v,ov] (eval i X.env)
   standAt pos
   holding [v,ov,iv] (setItem ov iv v)
   release [v,ov,iv] []):=by intro _;rfl):PG X (.Subscript o i pos) (gSub to ti t):=by
 intro pins s σ H v u Q I r h;rw[ha];refine bW (Xl (thn (ho pins s σ H _ I h) fun ov s1 ⟨x,H1,I1,r1,q1⟩=> ?_));refine bW (Xl (thn (hi pins s1 σ H1 _ I1 q1) fun iv s2 ⟨y,H2,I2,r2,q2⟩=> ?_));refine bW (wdq (bW (Xl (thn (hs pins s2 σ H2 x y v ov iv u _ I2 r1 r2 r q2) fun _ s3 ⟨H3,I3,q3⟩=> ?_))));exact wpAny_release ⟨σ,H3,I3,q3⟩
noncomputable def tAsg(te:TE)(g:TG):TS:=fun D σ H=>te σ H fun x H1=>g x σ H1 D.nx
theorem ps_asg{tg e:Expr}{te:TE}{g:TG}(he:PE X e te)(hg:PG X tg g)(hs:swapsWithSole [tg] e pos.line X.env=pure false:=by rfl)(hw:swappedStores [tg] e X.env=pure none:=by rfl)(h1:(assignEach [tg] X.env).map (·.2)=[assign tg X.env]:=by rfl):PS X (.Assign [tg] e pos) (tAsg te g):=by
 intro pins s σ H D I h;refine wpAny_Assign_stores (thn (he pins s σ H _ I h) fun v s1 ⟨x,H1,I1,r1,q1⟩=> ?_) hs hw;rw[h1];exact thn (hg pins s1 σ H1 x v _ I1 r1 q1) fun _ s2 q=>q
theorem ps_set{i:Nat}{x:Str}{e:Expr}{te:TE}{pos':Pos}(hN:X.N.Nodup)(hi:X.N[i]? =some x)(hx:Loc X.env.scope x)(he:PE X e te)(hs:swapsWith e (some (.Name x pos')) pos.line X.env=pure false:=by rfl)(hf:X.fn x=true\/X.env.scope.names.lookup x=some .local:=by first |exact .inl rfl|exact .inr rfl|assumption):
  PS X (.Assign [.Name x pos'] e pos) (tAsg te (gName i)):=by
 intro pins s σ H D I h;refine wpAny_Assign_Name (thn (he pins s σ H _ I h) fun v s1 ⟨y,H1,I1,r1,q1⟩=> ?_) hs;exact store_ok I1 hN hi hx r1 (fun s2 I2=>⟨_,H1,I2,q1⟩) hf
theorem pS{X:Cx}{x:Str}{e:Expr}{te:TE}{pos pos':Pos}(i:Nat)(he:PE X e te)(hN:decide X.N.Nodup=true:=by kernel_rfl)(hi:X.N[i]? =some x:=by rfl)(hx:Loc X.env.scope x:=by first |exact Or.inl rfl|exact Or.inr rfl)(hs:swapsWith e (some (.Name x pos')) pos.line X.env=pure false:=by rfl)(hf:X.fn x=true\/X.env.scope.names.lookup x=some .local:=by first |exact .inl rfl|exact .inr rfl|assumption):PS X (.Assign [.Name x pos'] e pos) (tAsg te (gName i)):=ps_set (fJ hN) hi hx he hs hf
noncomputable def tPar(i j:Nat)(ta:TA):TS:=fun D σ H=>ta σ H fun vs H1=>∃v w,vs=[v,w]/\D.nx ((σ.set i (some v)).set j (some w)) H1
theorem ps_par{i j:Nat}{x y:Str}{a b:Expr}{ta:TA}{px py pt:Pos}{kt k2 pt2}(hc:X.calm=true)(hN:X.N.Nodup)(hi:X.N[i]? =some x)(hj:X.N[j]? =some y)(hij:i≠j)(hx:X.env.scope.names.lookup x=some .local)(hy:X.env.scope.names.lookup y=some .local)(ha:PA X [a,b] ta)(hw:swappedStores [.Tuple [.Name x px,.Name y py] kt pt] (.Tuple [a,b] k2 pt2) X.env=pure (some [x,y]))(hs:swapsWithSole [.Tuple [.Name x px,.Name y py] kt pt] (.Tuple [a,b] k2 pt2) pos.line X.env=pure false:=by rfl):
  PS X (.Assign [.Tuple [.Name x px,.Name y py] kt pt] (.Tuple [a,b] k2 pt2) pos) (tPar i j ta):=by
 intro pins s σ H D I h;rw[exec_Assign_arm];refine bW (wdq ?_);rw[hs];refine bW (iY ?_);rw[aA (by decide)];refine bW (Tuple_ (thn (ha _ pins s σ H _ I h) fun us s1 ⟨vs,H1,I1,r1,q1⟩=> ?_));obtain⟨v,w,e1,q1⟩:=q1;subst e1;obtain⟨u1,u2,rfl,rv,rw'⟩:∃u1 u2,us=[u1,u2]/\RelV v u1/\RelV w u2:=by
  cases r1 with
  |cons p q=>
   cases q with
   |cons p' q'=>
    cases q';exact⟨_,_,rfl,p,p'⟩
 refine Uq ?_ (by show 2<=sizeLine;decide);have I2:Inv X pins σ H1 {s1 with heap:=s1.heap.push {cls:= .type "tuple",data:= .seq [u1,u2].toArray}}:=I1.kept (t':=s1.toks) fun b o e=>mJ _ e;rw[hw];refine bW (iY ?_);show wpAny (model X.prog X.w) X.A (do rule "assign.swapped-stores";let items<-unpackItems (.ref s1.heap.objs.size) 2 none;assignInOrder [fun v=>bindName X.env y v,fun v=>bindName X.env x v] items.reverse;pure Flow.next) _ _ _;refine bW (wpAny_rule (bW (unpackItems_tuple (items:=#[u1,u2]) (I.ok.hd hc) (Xk s1.heap _) fun h' hx'=> ?_)));have I3:=I2.kept (h':=h') (t':=s1.toks) fun b o e=>hx' b o (jy (gP e)) e;show wpAny _ _ (assignInOrder [fun v=>bindName X.env y v,fun v=>bindName X.env x v] [u2,u1]>>=fun _=>pure Flow.next) _ _ _;refine bW (wcy (wpAny_bindName (store_ok I3 hN hj (.inl hy) rw' (fun s2 I4=> ?_) (.inr hy))));refine wcy (wpAny_bindName (store_ok I4 hN hi (.inl hx) rv (fun s3 I5=>assignInOrder_nil (iY ?_)) (.inr hx)));rw[List.set_comm _ _ (lA hij)]at I5;exact⟨_,H1,I5,q1⟩
noncomputable def tWhile(c:TT)(tb:TS):TS:=fun D σ H=>∃W:Nat->St->Hp->Prop,(∃m,W m σ H)/\∀m σ H,W m σ H->
 c σ H fun b H1=>if b=true then∃N:St->Hp->Prop,(∀σ' H',N σ' H'->∃m',m'<m/\W m' σ' H')/\tb {D with nx:=N,ct:=N,bk:=D.nx} σ H1 else D.nx σ H1
theorem ps_while{c:Expr}{body:List Stmt}{tc:TT}{tb:TS}(hp:PassesOwn (model X.prog X.w) X.A X.env X.xe)(hc:PT X c tc)(hb:PSs X body tb):PS X (.While c body [] pos) (tWhile tc tb):=by
 intro pins s σ H D I h;obtain⟨W,⟨m0,w0⟩,turn⟩:=h;refine wpAny_While (codeAny_whileLoop (fun n s'=>∃σ' H',Inv X pins σ' H' s'/\W n σ' H') ?_ m0 ⟨σ,H,I,w0⟩);rintro n s1 ⟨σ1,H1,I1,w1⟩;refine Uo hp (thn (hc pins s1 σ1 H1 _ I1 (turn n σ1 H1 w1)) fun b s2 ⟨H2,I2,q2⟩=> ?_);cases b with
 |true=>
  obtain⟨N,hN,q2⟩:=q2;rw[aD rfl];refine Uo hp (thn (hb pins s2 σ1 H2 _ I2 q2) fun f s3 q3=> ?_);cases f with
  |next=>
   obtain⟨σ3,H3,I3,n3⟩:=q3;obtain⟨m',hm,w3⟩:=hN σ3 H3 n3;exact⟨m',hm,σ3,H3,I3,w3⟩
  |cont=>
   obtain⟨σ3,H3,I3,n3⟩:=q3;obtain⟨m',hm,w3⟩:=hN σ3 H3 n3;exact⟨m',hm,σ3,H3,I3,w3⟩
  |brk=>exact q3
  |ret v=>exact q3
 |false=>
  rw[aA vD];exact wcp ⟨σ1,H2,I2,q2⟩
end
structure It where
 go:Nat->Hp->Prop
 yld:Nat->Hp->V->Hp->Prop
 stop:Nat->Hp->Prop
noncomputable def FpOk(X:Cx)(pins:L1)(H:Hp)(b:Addr):Prop:=
 H b=none/\b≠X.env.locals/\b∉X.fs/\(b∈X.ex\/X.s₀.heap.objs.size<=b)/\(∀x c,X.env.cells.lookup x=some c->c≠b)/\∀p∈X.pn++pins,p.1≠b
theorem Inv.fpOk{X:Cx}{pins:L1}{σ:St}{H H':Hp}{s:η}{b:Addr}(I:Inv X pins σ H s)(hb:s.heap.objs.size<=b)(hn:H' b=none):FpOk X pins H' b:=by
 refine⟨hn,T8 (mH I.lt hb),I.nofs hb,.inr (cV I.sz hb),fun x c e z=> ?_,fun p hp z=> ?_⟩
 ·obtain⟨v,q⟩:=I.cell x c e;exact absurd (mH q.lt (by rw[z];exact hb)) (wj _)
 ·exact absurd (mH (gP (I.pin p hp).1) (by rw[z];exact hb)) (wj _)
structure Turn(P:ξ)(w:τ)(K:W.Frag)(tg:Expr)(J:It)(fp:List Addr)(it:Addr)(tn:Nat->Heap->Prop):Prop where
 mem:it∈fp
 obj:∀i h,tn i h->∀b∈fp,∃o,h.get? b=some o/\∀v,o.data≠.cell v
 keep:∀i h h',tn i h->(∀b∈fp,∀o,h.get? b=some o->h'.get? b=some o)->tn i h'
 item:∀(X:Cx),X.prog=P->X.w=w->X.K=K->X.calm=true->∀(i:Nat) (pins:L1) (s:η) (σ:St) (H:Hp) (E:L3),Inv X pins σ H s->(∀b∈fp,FpOk X pins H b)->tn i s.heap->J.go i H->
  wpAny (model P w) X.A (pyNext (.ref it)) (fun r s1=>∃u,r=some u/\
   wpAny (model P w) X.A (letOwnedTupleGo tg (.ref it) u) (fun _ s2=>∃x H',Inv X pins σ H' s2/\RelV x u/\J.yld i H x H'/\tn (i+1) s2.heap/\∀b∈fp,H' b=none) E s1) E s
 done:∀(X:Cx),X.prog=P->X.w=w->X.K=K->X.calm=true->∀(i:Nat) (pins:L1) (s:η) (σ:St) (H:Hp) (E:L3),Inv X pins σ H s->(∀b∈fp,FpOk X pins H b)->tn i s.heap->J.stop i H->
  wpAny (model P w) X.A (pyNext (.ref it)) (fun r s1=>r=none/\Inv X pins σ H s1) E s
 self:∀(A:Around) (i:Nat) (s:η) (Q:L3) (E:L3),tn i s.heap->Q (.ref it) s->wpAny (model P w) A (pyIter (.ref it)) Q E s
noncomputable abbrev TI:=St->Hp->(It->Hp->Prop)->Prop
noncomputable def PIE(X:Cx)(pins:L1)(σ:St)(tg:Expr)(R:It->Hp->Prop)(itv:ζ)(s2:η):Prop:=
 ∃(it:Addr) (fp:List Addr) (tn:Nat->Heap->Prop) (J:It) (H':Hp),itv= .ref it/\Inv X pins σ H' s2/\Turn X.prog X.w X.K tg J fp it tn/\tn 0 s2.heap/\(∀b∈fp,FpOk X pins H' b)/\R J H'
noncomputable def PI(X:Cx)(tg iter:Expr)(wi:TI):Prop:=
 ∀(pins:L1) (s:η) (σ:St) (H:Hp) (R:It->Hp->Prop),Inv X pins σ H s->wi σ H R->
  wpAny (model X.prog X.w) X.A (eval iter X.env) (fun v s1=>wpAny (model X.prog X.w) X.A (pyIter v) (PIE X pins σ tg R) X.xe s1) X.xe s
theorem go_of{M:Model}{A:Around}{E:L3}{s:η}{tg:Expr}{it:Addr}{u:ζ}{o:Obj}{n:String}{vs:Array ζ}{Q:Unit->η->Prop}(ho:s.heap.get? it=some o)(hc:o.cls= .type n)(hd:o.data= .fields vs)(hn:["enumerate","zip","dict_itemiterator","dict_reverseitemiterator","odict_iterator","itertools.zip_longest","itertools.pairwise"].contains n=false)(hQ:Q () s):wpAny M A (letOwnedTupleGo tg (.ref it) u) Q E s:=by
 unfold letOwnedTupleGo;cases tg<;>first
  |exact iY hQ
  |(cases u<;>first
    |exact iY hQ
    |(refine bW (wpAny_load ho ?_)
      rw[hc,hd];show wpAny M A (if(["enumerate","zip","dict_itemiterator","dict_reverseitemiterator","odict_iterator","itertools.zip_longest","itertools.pairwise"].contains n&&vs[0]? ==some (rawInt _))=true then _ else _) Q E s;rw[aA (by intro h;rw[hn,wev]at h;cases h)];exact iY hQ))
noncomputable def Itl(K:W.Frag)(a:Addr):It:=
 ⟨fun i H=>∃xs x,SqL K H a xs/\xs[i]? =some x,fun i H x H'=>H'=H/\∀xs,SqL K H a xs->xs[i]? =some x,fun i H=>∃xs,SqL K H a xs/\xs.length<=i⟩
noncomputable def Itt(K:W.Frag)(a:Addr):It:=
 ⟨fun i H=>∃xs x,SqT K H a xs/\xs[i]? =some x,fun i H x H'=>H'=H/\∀xs,SqT K H a xs->xs[i]? =some x,fun i H=>∃xs,SqT K H a xs/\xs.length<=i⟩
noncomputable def Itr(lo:Int)(n:Nat):It:=⟨fun i _=>i<n,fun i H x H'=>H'=H/\x= .int (lo+i),fun i _=>n<=i⟩
theorem turn_list{P:ξ}{w:τ}{K:W.Frag}{tg:Expr}(a it:Addr):Turn P w K tg (Itl K a) [it] it (fun i h=>h.IsListIter it a i) where
 mem:=by simp
 obj:=fun i h st b hb=>by
  have e:b=it:=by simpa using hb
  subst e;obtain⟨o,e,c,d⟩:=st;exact⟨o,e,fun v z=>by rw[d]at z;cases z⟩
 keep:=fun i h h' st k=>st.at fun o e=>k it (by simp) o e
 item:=by
  intro X hP hw hK hc i pins s σ H E I hf st hg;subst hP hw hK;obtain⟨xs,x,hq,hx⟩:=hg;obtain⟨its,rv,p,hz⟩:=I.list hq;obtain⟨u,hu,ru⟩:=rv.get hx;obtain⟨f0,f1,f2,f3,f4,f5⟩:=hf it (by simp);refine wpAny_pyNext_list_item st p.isList (x:=u) (by simpa using hu) fun h' st' sb=> ?_;have I1:Inv X pins σ H {s with heap:=h'}:=I.turned (t':=s.toks) (fun b o hb e=>(sb.2 b hb).trans e) f0 f1 f3 f4 f5;obtain⟨o,e,c,d⟩:=id st';exact⟨u,rfl,go_of (s:={s with heap:=h'}) e c d (by decide) ⟨x,H,I1,ru,⟨rfl,fun ys hy=>by rw[I.list_inj hy hq];exact hx⟩,st',fun b hb=>(hf b hb).1⟩⟩
 done:=by
  intro X hP hw hK hc i pins s σ H E I hf st hg;subst hP hw hK;obtain⟨xs,hq,hx⟩:=hg;obtain⟨its,rv,p,hz⟩:=I.list hq;obtain⟨f0,f1,f2,f3,f4,f5⟩:=hf it (by simp);have hl:=rv.length;exact wpAny_pyNext_list_end (I.ok.hd hc) st p.isList (by simp;omega) fun h' eb=>⟨rfl,I.turned (t':=s.toks) (fun b o hb e=>eb b o hb e) f0 f1 f3 f4 f5⟩
 self:=fun _ _ _ _ _ st h=>wpAny_pyIter_listiter st h
theorem turn_tuple{P:ξ}{w:τ}{K:W.Frag}{tg:Expr}(a it:Addr):Turn P w K tg (Itt K a) [it] it (fun i h=>h.IsTupleIter it a i) where
 mem:=by simp
 obj:=fun i h st b hb=>by
  have e:b=it:=by simpa using hb
  subst e;obtain⟨o,e,c,d⟩:=st;exact⟨o,e,fun v z=>by rw[d]at z;cases z⟩
 keep:=fun i h h' st k=>st.at fun o e=>k it (by simp) o e
 item:=by
  intro X hP hw hK hc i pins s σ H E I hf st hg;subst hP hw hK;obtain⟨xs,x,hq,hx⟩:=hg;obtain⟨its,rv,p,hz⟩:=I.tuple hq;obtain⟨u,hu,ru⟩:=rv.get hx;obtain⟨f0,f1,f2,f3,f4,f5⟩:=hf it (by simp);refine wpAny_pyNext_tuple_item st (show s.heap.IsTuple a its.toArray from p) (x:=u) (by simpa using hu) fun h' st' sb=> ?_;have I1:Inv X pins σ H {s with heap:=h'}:=I.turned (t':=s.toks) (fun b o hb e=>(sb.2 b hb).trans e) f0 f1 f3 f4 f5;obtain⟨o,e,c,d⟩:=id st';exact⟨u,rfl,go_of (s:={s with heap:=h'}) e c d (by decide) ⟨x,H,I1,ru,⟨rfl,fun ys hy=>by rw[I.tuple_inj hy hq];exact hx⟩,st',fun b hb=>(hf b hb).1⟩⟩
 done:=by
  intro X hP hw hK hc i pins s σ H E I hf st hg;subst hP hw hK;obtain⟨xs,hq,hx⟩:=hg;obtain⟨its,rv,p,hz⟩:=I.tuple hq;obtain⟨f0,f1,f2,f3,f4,f5⟩:=hf it (by simp);have hl:=rv.length;exact wpAny_pyNext_tuple_end (I.ok.hd hc) st (show s.heap.IsTuple a its.toArray from p) (by simp;omega) fun h' eb=>⟨rfl,I.turned (t':=s.toks) (fun b o hb e=>eb b o hb e) f0 f1 f3 f4 f5⟩
 self:=fun _ _ _ _ _ st h=>wpAny_pyIter_tupleiter st h
theorem turn_range{P:ξ}{w:τ}{K:W.Frag}{tg:Expr}(it:Addr)(lo:Int)(n:Nat):Turn P w K tg (Itr lo n) [it] it (fun i h=>IsRangeIter h it (lo+(i:Nat)*1) ((n:Int)-(i:Nat)) 1) where
 mem:=by simp
 obj:=fun i h st b hb=>by
  have e:b=it:=by simpa using hb
  subst e;exact⟨_,st,fun v z=>by
   have z':Data.fields _=Data.cell v:=z;cases z'⟩
 keep:=fun i h h' st k=>k it (by simp) _ st
 item:=by
  intro X hP hw hK hc i pins s σ H E I hf st hg;subst hP hw hK;obtain⟨f0,f1,f2,f3,f4,f5⟩:=hf it (by simp);have W:=Walks.range (prog:=X.prog) (w:=X.w) (I.ok.hd hc) it lo 1 n;refine W.item i s _ _ hg st fun v h' tk hv st' kk=> ?_;obtain⟨t,rfl⟩:=hv;have I1:Inv X pins σ H {s with heap:=h',toks:=tk}:=I.turned (fun b o hb e=>kk b o (by simpa using hb) e) f0 f1 f3 f4 f5;refine⟨_,rfl,go_of (s:={s with heap:=h',toks:=tk}) (n:="range_iterator") st' rfl rfl (by decide) ⟨.int (lo+i),H,I1,⟨t,?_⟩,⟨rfl,rfl⟩,st',fun b hb=>(hf b hb).1⟩⟩;rw[Yk]
 done:=by
  intro X hP hw hK hc i pins s σ H E I hf st hg;subst hP hw hK;obtain⟨f0,f1,f2,f3,f4,f5⟩:=hf it (by simp);exact wpAny_pyNext_range_end (I.ok.hd hc) st (by have:n<=i:=hg;omega) fun h' eb=>⟨rfl,I.turned (t':=s.toks) (fun b o hb e=>eb b o hb e) f0 f1 f3 f4 f5⟩
 self:=fun _ _ _ _ _ st h=>wpAny_pyIter_rangeiter st h
section
variable{X:Cx}{tg:Expr}
theorem range_it{pins:L1}{σ:St}{H:Hp}{s:η}{R:It->Hp->Prop}{E:L3}{lo hi:Int}{t u v:Tok}{tk:Nat}(I:Inv X pins σ H s)(h1: -(2^62)<=lo)(h2:lo<2^62)(h3: -(2^62)<=hi)(h4:hi<2^62)(q:R (Itr lo (hi-lo).toNat) H):wpAny (model X.prog X.w) X.A (pyIter (.ref s.heap.objs.size)) (PIE X pins σ tg R) E {s with heap:=s.heap.push {cls:= .type "range",data:= .fields #[.int lo t,.int hi u,.int 1 v]},toks:=tk}:=by
 refine wpAny_pyIter_range (wex ..) (small_one h1 h2 h3 h4) ?_;have I1:Inv X pins σ H {s with heap:=s.heap.push {cls:= .type "range",data:= .fields #[.int lo t,.int hi u,.int 1 v]},toks:=tk}:=I.kept fun b o e=>mJ _ e;refine⟨(s.heap.push {cls:= .type "range",data:= .fields #[.int lo t,.int hi u,.int 1 v]}).objs.size,[(s.heap.push {cls:= .type "range",data:= .fields #[.int lo t,.int hi u,.int 1 v]}).objs.size],_,_,H,rfl,
  I1.kept (t':=tk) fun b o e=>mJ _ e,turn_range _ lo (hi-lo).toNat,?_,fun b hb=> ?_,q⟩
 ·have e1:lo+((0:Nat):Int)*1=lo:=by simp
  have e2:(((hi-lo).toNat:Nat):Int)-((0:Nat):Int)=Builtin.Range.rangeSize lo hi 1:=by rw[wds];split<;>omega
  show IsRangeIter _ _ (lo+((0:Nat):Int)*1) ((((hi-lo).toNat:Nat):Int)-((0:Nat):Int)) 1;rw[e1,e2];exact sU _ rfl
 ·have e:b=(s.heap.push {cls:= .type "range",data:= .fields #[.int lo t,.int hi u,.int 1 v]}).objs.size:=by simpa using hb
  subst e;exact I1.fpOk (aY _) (I1.hok.fresh (aY _))
noncomputable def iRng1(ta:TA):TI:=fun σ H R=>ta σ H fun vs H1=>∃j:Int,vs=[.int j]/\ -(2^62)<=j/\j<2^62/\R (Itr 0 j.toNat) H1
noncomputable def iRng2(ta:TA):TI:=fun σ H R=>ta σ H fun vs H1=>∃i j:Int,vs=[.int i,.int j]/\(-(2^62)<=i/\i<2^62/\ -(2^62)<=j/\j<2^62)/\R (Itr i (j-i).toNat) H1
theorem JM{a:Expr}{ta:TA}{p pos:Pos}(hg:Gl X "range")(hm:X.mg "range"=none)(ha:PA X [a] ta)(hs:starEach [a] X.env=[(false,eval a X.env)]:=by rfl):PI X tg (.Call (.Name "range" p) [a] [] pos) (iRng1 ta):=by
 intro pins s σ H R I h;refine Call_ (ld_blt I hg hm Yg (Py (thn (ha pos pins s σ H _ I h) fun us s1 ⟨vs,H1,I1,r1,q1⟩=> ?_) hs rfl));obtain⟨j,e,q1,q2,q⟩:=q1;subst e;cases r1 with
 |cons r rr=>
  cases rr;obtain⟨t,rfl⟩:=r;exact call_range_1 (range_it I1 (by omega) (by omega) q1 q2 (by simpa using q))
theorem pi_range2{a b:Expr}{ta:TA}{p pos:Pos}(hg:Gl X "range")(hm:X.mg "range"=none)(ha:PA X [a,b] ta)(hs:starEach [a,b] X.env=[(false,eval a X.env),(false,eval b X.env)]:=by rfl)(hs2:starEach [b] X.env=[(false,eval b X.env)]:=by rfl):
  PI X tg (.Call (.Name "range" p) [a,b] [] pos) (iRng2 ta):=by
 intro pins s σ H R I h;refine Call_ (ld_blt I hg hm Yg (Py (thn (ha pos pins s σ H _ I h) fun us s1 ⟨vs,H1,I1,r1,q1⟩=> ?_) (by rw[hs,hs2]) (by rw[hs2];rfl)));obtain⟨i,j,e,⟨q1,q2,q3,q4⟩,q⟩:=q1;subst e;cases r1 with
 |cons r rr=>
  cases rr with
  |cons r' rr=>
   cases rr;obtain⟨t,rfl⟩:=r;obtain⟨t',rfl⟩:=r';exact call_range_2 (range_it I1 q1 q2 q3 q4 q)
noncomputable def tFor(wi:TI)(g:TG)(tb:TS):TS:=fun D σ H=>wi σ H fun J H1=>∃W:Nat->Nat->St->Hp->Prop,(∃m,W 0 m σ H1)/\∀i m σ H,W i m σ H->
 (J.stop i H/\D.nx σ H)\/(J.go i H/\∃N:St->Hp->Prop,(∀σ' H',N σ' H'->∃m',m'<m/\W (i+1) m' σ' H')/\∀x H',J.yld i H x H'->g x σ H' fun σ2 H2=>tb {D with nx:=N,ct:=N,bk:=D.nx} σ2 H2)
noncomputable def pinsAt(fp:List Addr)(h:Heap):L1:=fp.filterMap fun b=>(h.get? b).map fun o=>(b,o)
theorem mem_pinsAt{fp:List Addr}{h:Heap}{b:Addr}{o:Obj}(hb:b∈fp)(e:h.get? b=some o):(b,o)∈pinsAt fp h:=List.mem_filterMap.mpr ⟨b,hb,by rw[e];rfl⟩
theorem of_pinsAt{fp:List Addr}{h:Heap}{p:Addr×Obj}(hp:p∈pinsAt fp h):p.1∈fp/\h.get? p.1=some p.2:=by
 obtain⟨b,hb,e⟩:=List.mem_filterMap.mp hp;cases q:h.get? b with
 |none=>rw[q]at e;cases e
 |some o=>
  rw[q]at e;have e':(b,o)=p:=sV e;subst e';exact⟨hb,q⟩
theorem Inv.pinned{pins:L1}{σ:St}{H:Hp}{s:η}{fp:List Addr}(I:Inv X pins σ H s)(hf:∀b∈fp,FpOk X pins H b)(ho:∀b∈fp,∃o,s.heap.get? b=some o/\∀v,o.data≠.cell v):Inv X (pins++pinsAt fp s.heap) σ H s:=
 I.pins_of fun p hp=>(oY.mp hp).elim (fun z=>I.pin p (Ir _ z)) fun z=>by
  obtain⟨hb,e⟩:=of_pinsAt z;obtain⟨f0,f1,f2,_⟩:=hf p.1 hb;obtain⟨o,e',d⟩:=ho p.1 hb;rw[e]at e';cases e';exact⟨e,f0,f1,f2,d⟩
theorem Inv.unpinned{pins pl:L1}{σ:St}{H:Hp}{s:η}(I:Inv X (pins++pl) σ H s):Inv X pins σ H s:=I.pins_of fun p hp=>I.pin p (Ir _ (yef _ hp))
theorem ps_for{iter:Expr}{body:List Stmt}{wi:TI}{g:TG}{tb:TS}{pos:Pos}(hp:PassesOwn (model X.prog X.w) X.A X.env X.xe)(hc:X.calm=true)(hi:PI X tg iter wi)(hg:PG X tg g)(hb:PSs X body tb)(hs:∀x,foldedSetIterable iter X.env x=pure x:=by intro _;rfl):PS X (.For tg iter body [] pos) (tFor wi g tb):=by
 intro pins s σ H D I h;refine wpAny_For (thn (hi pins s σ H _ I h) fun v s1 h1=>thn h1 fun itv s2 h2=> ?_) hs;obtain⟨it,fp,tn,J,H2,e,I2,T,st2,f2,W,⟨m0,w0⟩,turn⟩:=h2;subst e
 -- what stays true of the iterator's objects through the loop
 have stat:∀{H':Hp},(∀b∈fp,H' b=none)->∀b∈fp,FpOk X pins H' b:=fun hn b hb=>⟨hn b hb,(f2 b hb).2⟩;refine codeAny_forLoop_any (fun n s'=>∃i σ' H',Inv X pins σ' H' s'/\tn i s'.heap/\(∀b∈fp,H' b=none)/\W i n σ' H') ?_ m0 ⟨0,σ,H2,I2,st2,fun b hb=>(f2 b hb).1,w0⟩;rintro n s3 ⟨i,σ3,H3,I3,st3,fr3,w3⟩;rcases turn i n σ3 H3 w3 with⟨stop,qn⟩|⟨go,N,hN,step⟩
 ·refine Uo hp (thn (T.done X rfl rfl rfl hc i pins s3 σ3 H3 X.xe I3 (stat fr3) st3 stop) fun r s4 ⟨hr,I4⟩=> ?_);subst hr;exact wcp ⟨σ3,H3,I4,qn⟩
 ·refine Uo hp (thn (T.item X rfl rfl rfl hc i pins s3 σ3 H3 X.xe I3 (stat fr3) st3 go) fun r s4 ⟨u,hr,h4⟩=> ?_);subst hr;refine Uo hp (thn h4 fun _ s5 ⟨x,H5,I5,r5,y5,st5,fr5⟩=> ?_);have I5':=I5.pinned (stat fr5) (T.obj _ _ st5);refine Uo hp (thn (hg _ s5 σ3 H5 x u _ I5' r5 (step x H5 y5)) fun _ s6 ⟨σ6,H6,I6,q6⟩=> ?_);refine Uo hp (thn (hb _ s6 σ6 H6 _ I6 q6) fun f s7 q7=> ?_);have again:∀{σ7:St} {H7:Hp},Inv X (pins++pinsAt fp s5.heap) σ7 H7 s7->N σ7 H7->∃m,m<n/\∃i σ' H',Inv X pins σ' H' s7/\tn i s7.heap/\(∀b∈fp,H' b=none)/\W i m σ' H':=fun{σ7 H7} I7 n7=>by
   obtain⟨m',hm,w7⟩:=hN σ7 H7 n7;refine⟨m',hm,i+1,σ7,H7,I7.unpinned,T.keep _ _ _ st5 fun b hb o e=>(I7.pin (b,o) (Ir _ (Ir _ (mem_pinsAt hb e)))).1,fun b hb=> ?_,w7⟩;obtain⟨o,e,d⟩:=T.obj _ _ st5 b hb;exact(I7.pin (b,o) (Ir _ (Ir _ (mem_pinsAt hb e)))).2.1
  cases f with
  |next=>obtain⟨σ7,H7,I7,n7⟩:=q7;exact again I7 n7
  |cont=>obtain⟨σ7,H7,I7,n7⟩:=q7;exact again I7 n7
  |brk=>obtain⟨σ7,H7,I7,q7⟩:=q7;exact⟨σ7,H7,I7.unpinned,q7⟩
  |ret v=>obtain⟨x7,σ7,H7,I7,r7,q7⟩:=q7;exact⟨x7,σ7,H7,I7.unpinned,r7,q7⟩
end
theorem for_list{K:W.Frag}{a:Addr}{xs:List V}{g:TG}{tb:TS}{D:Ends}{σ:St}{H:Hp}(Pv:Nat->St->Hp->Prop)(h0:Pv 0 σ H)(hl:∀i σ H,i<=xs.length->Pv i σ H->SqL K H a xs)(hs:∀i x σ H,xs[i]? =some x->Pv i σ H->g x σ H fun σ2 H2=>tb {D with nx:=Pv (i+1),ct:=Pv (i+1),bk:=D.nx} σ2 H2)(hd:∀σ H,Pv xs.length σ H->D.nx σ H):
  ∃W:Nat->Nat->St->Hp->Prop,(∃m,W 0 m σ H)/\∀i m σ H,W i m σ H->
   ((Itl K a).stop i H/\D.nx σ H)\/((Itl K a).go i H/\∃N:St->Hp->Prop,(∀σ' H',N σ' H'->∃m',m'<m/\W (i+1) m' σ' H')/\∀x H',(Itl K a).yld i H x H'->g x σ H' fun σ2 H2=>tb {D with nx:=N,ct:=N,bk:=D.nx} σ2 H2):=by
 refine⟨fun i m σ H=>m=xs.length-i/\i<=xs.length/\Pv i σ H,⟨xs.length,by simp,dY _,h0⟩,?_⟩;rintro i m σ H ⟨rfl,hi,p⟩;have q:=hl i σ H hi p;by_cases hlt:i<xs.length
 ·refine .inr ⟨⟨xs,xs[i],q,by simp[hlt]⟩,Pv (i+1),fun σ' H' p'=>⟨xs.length-(i+1),by omega,rfl,hlt,p'⟩,fun x H' y=> ?_⟩;obtain⟨e,y⟩:=y;subst e;exact hs i x σ _ (y xs q) p
 ·have e:i=xs.length:=by omega
  subst e;exact .inl ⟨⟨xs,q,aY _⟩,hd σ H p⟩
theorem RP{lo:Int}{n:Nat}{g:TG}{tb:TS}{D:Ends}{σ:St}{H:Hp}(Pv:Nat->St->Hp->Prop)(h0:Pv 0 σ H)(hs:∀i σ H,i<n->Pv i σ H->g (.int (lo+i)) σ H fun σ2 H2=>tb {D with nx:=Pv (i+1),ct:=Pv (i+1),bk:=D.nx} σ2 H2)(hd:∀σ H,Pv n σ H->D.nx σ H):
  ∃W:Nat->Nat->St->Hp->Prop,(∃m,W 0 m σ H)/\∀i m σ H,W i m σ H->
   ((Itr lo n).stop i H/\D.nx σ H)\/((Itr lo n).go i H/\∃N:St->Hp->Prop,(∀σ' H',N σ' H'->∃m',m'<m/\W (i+1) m' σ' H')/\∀x H',(Itr lo n).yld i H x H'->g x σ H' fun σ2 H2=>tb {D with nx:=N,ct:=N,bk:=D.nx} σ2 H2):=by
 refine⟨fun i m σ H=>m=n-i/\i<=n/\Pv i σ H,⟨n,by simp,dY _,h0⟩,?_⟩;rintro i m σ H ⟨rfl,hi,p⟩;by_cases hlt:i<n
 ·refine .inr ⟨hlt,Pv (i+1),fun σ' H' p'=>⟨n-(i+1),by omega,rfl,hlt,p'⟩,fun x H' y=> ?_⟩;obtain⟨e,y⟩:=y;subst e y;exact hs i σ _ hlt p
 ·have e:i=n:=by omega
  subst e;exact .inl ⟨aY _,hd σ H p⟩
noncomputable abbrev R2:=V->V->Hp->VK->Prop
noncomputable def OpR(X:Cx)(f:ζ->ζ->Sem ζ)(r:R2):Prop:=
 ∀(pins:L1) (s:η) (σ:St) (H:Hp) (x y:V) (v u:ζ) (Q:VK),Inv X pins σ H s->RelV x v->RelV y u->r x y H Q->
  wpAny (model X.prog X.w) X.A (f v u) (EP X pins σ Q) X.xe s
noncomputable def UnR(X:Cx)(f:ζ->Sem ζ)(r:V->Hp->VK->Prop):Prop:=
 ∀(pins:L1) (s:η) (σ:St) (H:Hp) (x:V) (v:ζ) (Q:VK),Inv X pins σ H s->RelV x v->r x H Q->
  wpAny (model X.prog X.w) X.A (f v) (EP X pins σ Q) X.xe s
noncomputable def CallR(X:Cx)(f:ζ)(r:List V->Hp->VK->Prop):Prop:=
 ∀(pins:L1) (s:η) (σ:St) (H:Hp) (xs:List V) (us:List ζ) (Q:VK),Inv X pins σ H s->Vals xs us->r xs H Q->
  wpAny (model X.prog X.w) X.A (call f us) (EP X pins σ Q) X.xe s
noncomputable def TruR(X:Cx)(r:V->Hp->(Bool->Hp->Prop)->Prop):Prop:=
 ∀(pins:L1) (s:η) (σ:St) (H:Hp) (x:V) (v:ζ) (Q:Bool->Hp->Prop),Inv X pins σ H s->RelV x v->r x H Q->
  wpAny (model X.prog X.w) X.A (truthy v) (TP X pins σ Q) X.xe s
noncomputable def tOp(r:R2)(ta tb:TE):TE:=fun σ H Q=>ta σ H fun x H1=>tb σ H1 fun y H2=>r x y H2 Q
noncomputable def tUn(r:V->Hp->VK->Prop)(ta:TE):TE:=fun σ H Q=>ta σ H fun x H1=>r x H1 Q
noncomputable def rI(C:Int->Int->Prop)(g:Int->Int->V):R2:=fun x y H Q=>∃i j,x= .int i/\y= .int j/\C i j/\Q (g i j) H
noncomputable def rI0(g:Int->Int->V):R2:=fun x y H Q=>∃i j,x= .int i/\y= .int j/\Q (g i j) H
noncomputable def rU(g:Int->V):V->Hp->VK->Prop:=fun x H Q=>∃i,x= .int i/\Q (g i) H
section
variable{X:Cx}{a b:Expr}{ta tb:TE}{pos:Pos}
theorem binT(ha:PE X a ta)(hb:PE X b tb){pins:L1}{s:η}{σ:St}{H:Hp}{R:V->V->Hp->Prop}(I:Inv X pins σ H s)(h:ta σ H fun x H1=>tb σ H1 fun y H2=>R x y H2){Q:L3}{f:ζ->ζ->Sem ζ}(hf:∀v u s2 x y H2,Inv X pins σ H2 s2->RelV x v->RelV y u->R x y H2->wpAny (model X.prog X.w) X.A (f v u) Q X.xe s2):
  wpAny (model X.prog X.w) X.A (eval a X.env) (fun v s₁=>wpAny (model X.prog X.w) X.A (eval b X.env) (fun u s₂=>wpAny (model X.prog X.w) X.A (f v u) Q X.xe s₂) X.xe s₁) X.xe s:=by
 refine thn (ha pins s σ H _ I h) fun v s1 ⟨x,H1,I1,r1,q1⟩=> ?_;refine thn (hb pins s1 σ H1 _ I1 q1) fun u s2 ⟨y,H2,I2,r2,q2⟩=> ?_;exact hf v u s2 x y H2 I2 r1 r2 q2
theorem bC{op:Operator}{r:R2}(ho:OpR X (binaryOp op) r)(ha:PE X a ta)(hb:PE X b tb):PE X (.BinOp a op b pos) (tOp r ta tb):=by
 intro pins s σ H Q I h;exact wpAny_BinOp (binT ha hb I h fun v u s2 x y H2 I2 rx ry q=>ho pins s2 σ H2 x y v u Q I2 rx ry q)
theorem pe_un{op:UnaryOp}{r:V->Hp->VK->Prop}(ho:UnR X (unaryOp op) r)(ha:PE X a ta):PE X (.UnaryOp op a pos) (tUn r ta):=by
 intro pins s σ H Q I h;exact UnaryOp_ (thn (ha pins s σ H _ I h) fun v s1 ⟨x,H1,I1,r1,q1⟩=>ho pins s1 σ H1 x v Q I1 r1 q1)
theorem opI{f:ζ->ζ->Sem ζ}{C:Int->Int->Prop}{g:Int->Int->Int}(rule:∀(i j:Int) (t u:Tok) (s:η) (Q:L3) (E:L3),C i j->Q (.int (g i j) s.toks) {s with toks:=s.toks+1}->wpAny (model X.prog X.w) X.A (f (.int i t) (.int j u)) Q E s):
  OpR X f (rI C fun i j=> .int (g i j)):=by
 intro pins s σ H x y v u Q I rx ry h;obtain⟨i,j,rfl,rfl,hc,q⟩:=h;obtain⟨t,rfl⟩:=rx;obtain⟨t',rfl⟩:=ry;exact rule i j t t' s _ _ hc ⟨.int (g i j),H,I.tok _,⟨_,rfl⟩,q⟩
theorem opI0{f:ζ->ζ->Sem ζ}{g:Int->Int->Int}(rule:∀(i j:Int) (t u:Tok) (s:η) (Q:L3) (E:L3),Q (.int (g i j) s.toks) {s with toks:=s.toks+1}->wpAny (model X.prog X.w) X.A (f (.int i t) (.int j u)) Q E s):
  OpR X f (rI0 fun i j=> .int (g i j)):=by
 intro pins s σ H x y v u Q I rx ry h;obtain⟨i,j,rfl,rfl,q⟩:=h;obtain⟨t,rfl⟩:=rx;obtain⟨t',rfl⟩:=ry;exact rule i j t t' s _ _ ⟨.int (g i j),H,I.tok _,⟨_,rfl⟩,q⟩
theorem opB0{f:ζ->ζ->Sem ζ}{g:Int->Int->Bool}(rule:∀(i j:Int) (t u:Tok) (s:η) (Q:L3) (E:L3),Q (.bool (g i j)) s->wpAny (model X.prog X.w) X.A (f (.int i t) (.int j u)) Q E s):
  OpR X f (rI0 fun i j=> .bl (g i j)):=by
 intro pins s σ H x y v u Q I rx ry h;obtain⟨i,j,rfl,rfl,q⟩:=h;obtain⟨t,rfl⟩:=rx;obtain⟨t',rfl⟩:=ry;exact rule i j t t' s _ _ ⟨.bl (g i j),H,I,rfl,q⟩
noncomputable def CPow(i j:Int):Prop:=0<=j/\j<=1000000/\i.natAbs<2^64
noncomputable def CMul(i j:Int):Prop:=(-(2^64)<i/\i<2^64)\/(-(2^64)<j/\j<2^64)
theorem CMul.ok{i j:Int}(h:CMul i j):IntMulOk i j:=by
 rcases h with⟨h1,h2⟩|⟨h1,h2⟩
 ·exact .of_left (intBits_le_64 h1 h2)
 ·exact .of_right (intBits_le_64 h1 h2)
theorem oX:OpR X (binaryOp .Add) (rI0 fun i j=> .int (i+j)):=opI0 fun _ _ _ _ _ _ _ q=>add_int q
theorem op_sub:OpR X (binaryOp .Sub) (rI0 fun i j=> .int (i-j)):=opI0 fun _ _ _ _ _ _ _ q=>sub_int q
theorem sJ:OpR X (binaryOp .Mult) (rI CMul fun i j=> .int (i*j)):=opI fun _ _ _ _ _ _ _ hc q=>mul_int q hc.ok
theorem op_mod:OpR X (binaryOp .Mod) (rI (fun _ j=>0<j) fun i j=> .int (i %j)):=opI fun i j _ _ _ _ _ hc q=>by
 have h1:(0:Int)<j:=hc;exact mod_int' (by omega) (by rw[Int.fmod_eq_emod_of_nonneg i (by omega)];exact q)
theorem op_pow:OpR X (binaryOp .Pow) (rI CPow fun i j=> .int (i^j.toNat)):=opI fun _ _ _ _ _ _ _ hc q=>pow_int_small hc.1 hc.2.1 hc.2.2 q
theorem unI{f:ζ->Sem ζ}{g:Int->Int}(rule:∀(i:Int) (t:Tok) (s:η) (Q:L3) (E:L3),Q (.int (g i) s.toks) {s with toks:=s.toks+1}->wpAny (model X.prog X.w) X.A (f (.int i t)) Q E s):
  UnR X f (rU fun i=> .int (g i)):=by
 intro pins s σ H x v Q I rx h;obtain⟨i,rfl,q⟩:=h;obtain⟨t,rfl⟩:=rx;exact rule i t s _ _ ⟨.int (g i),H,I.tok _,⟨_,rfl⟩,q⟩
theorem un_neg:UnR X (unaryOp .USub) (rU fun i=> .int (-i)):=unI fun _ _ _ _ _ q=>neg_int q
end
noncomputable def scal:V->V->Bool
 | .non,.non=>true| .non,.int _=>true| .int _,.non=>true| .non,.bl _=>true| .bl _,.non=>true| .non,.str _=>true| .str _,.non=>true
 | .int _,.int _=>true| .bl _,.bl _=>true| .str _,.str _=>true| .byt _,.byt _=>true
 | .int _,.str _=>true| .str _,.int _=>true| .bl _,.str _=>true| .str _,.bl _=>true
 |_,_=>false
noncomputable def rEq:R2:=fun x y H Q=>scal x y=true/\Q (.bl (decide (x=y))) H
noncomputable def rNe:R2:=fun x y H Q=>scal x y=true/\Q (.bl (!decide (x=y))) H
theorem dec_int{i j:Int}:decide (V.int i=V.int j)=(i==j):=by
 rw[vC];simp
theorem dec_bl{i j:Bool}:decide (V.bl i=V.bl j)=(i==j):=by
 rw[vC];simp
theorem dec_str{i j:Str}:decide (V.str i=V.str j)=(i==j):=by
 rw[vC];simp
theorem dec_byt{i j:Array UInt8}:decide (V.byt i=V.byt j)=(i.toList==j.toList):=by
 rw[vC];cases i;cases j;simp
section
variable{X:Cx}{a b c:Expr}{ta tb tc:TE}{pos:Pos}
theorem nA{pins:L1}{σ:St}{H:Hp}{s:η}{Q:VK}{k k':Bool}(I:Inv X pins σ H s)(q:Q (.bl k) H)(e:k=k'):EP X pins σ Q (.bool k') s:=by
 subst e;exact⟨.bl k,H,I,rfl,q⟩
theorem op_eq:OpR X (compareOp .Eq) rEq:=by
 intro pins s σ H x y v u Q I rx ry h;obtain⟨hs,q⟩:=h;cases x with
 |non=>
  cases rx;cases y with
  |non=>cases ry;exact PySem.EqNone.eq_none_none (nA I q (by simp))
  |bl j=>cases ry;exact PySem.EqNone.eq_none_bool (nA I q (by simp))
  |int j=>obtain⟨t',rfl⟩:=ry;exact PySem.EqNone.eq_none_int (nA I q (by simp))
  |str j=>obtain⟨t',rfl⟩:=ry;exact PySem.EqNone.eq_none_str (nA I q (by simp))
  |_=>exact absurd (show false=true from hs) vD
 |bl i=>
  cases rx;cases y with
  |non=>cases ry;exact PySem.EqNone.eq_bool_none (nA I q (by simp))
  |bl j=>cases ry;exact eq_bool (nA I q dec_bl)
  |str j=>obtain⟨t',rfl⟩:=ry;exact PySem.EqMixed.eq_bool_str (nA I q (by simp))
  |_=>exact absurd (show false=true from hs) vD
 |int i=>
  obtain⟨t,rfl⟩:=rx;cases y with
  |non=>cases ry;exact PySem.EqNone.eq_int_none (nA I q (by simp))
  |int j=>obtain⟨t',rfl⟩:=ry;exact eq_int (nA I q dec_int)
  |str j=>obtain⟨t',rfl⟩:=ry;exact PySem.EqMixed.eq_int_str (nA I q (by simp))
  |_=>exact absurd (show false=true from hs) vD
 |str i=>
  obtain⟨t,rfl⟩:=rx;cases y with
  |non=>cases ry;exact PySem.EqNone.eq_str_none (nA I q (by simp))
  |bl j=>cases ry;exact PySem.EqMixed.eq_str_bool (nA I q (by simp))
  |int j=>obtain⟨t',rfl⟩:=ry;exact PySem.EqMixed.eq_str_int (nA I q (by simp))
  |str j=>obtain⟨t',rfl⟩:=ry;exact eq_str (nA I q dec_str)
  |_=>exact absurd (show false=true from hs) vD
 |byt i=>
  obtain⟨t,rfl⟩:=rx;cases y with
  |byt j=>obtain⟨t',rfl⟩:=ry;exact PySem.W.eq_bytes (nA I q dec_byt)
  |_=>exact absurd (show false=true from hs) vD
 |_=>cases y<;>exact absurd (show false=true from hs) vD
theorem op_ne:OpR X (compareOp .NotEq) rNe:=by
 intro pins s σ H x y v u Q I rx ry h;obtain⟨hs,q⟩:=h;cases x with
 |non=>
  cases rx;cases y with
  |non=>cases ry;exact PySem.EqNone.ne_none_none (nA I q (by simp))
  |bl j=>cases ry;exact PySem.EqNone.ne_none_bool (nA I q (by simp))
  |int j=>obtain⟨t',rfl⟩:=ry;exact PySem.EqNone.ne_none_int (nA I q (by simp))
  |str j=>obtain⟨t',rfl⟩:=ry;exact PySem.EqNone.ne_none_str (nA I q (by simp))
  |_=>exact absurd (show false=true from hs) vD
 |bl i=>
  cases rx;cases y with
  |non=>cases ry;exact PySem.EqNone.ne_bool_none (nA I q (by simp))
  |bl j=>cases ry;exact ne_bool (nA I q (kO not dec_bl))
  |str j=>obtain⟨t',rfl⟩:=ry;exact PySem.EqMixed.ne_bool_str (nA I q (by simp))
  |_=>exact absurd (show false=true from hs) vD
 |int i=>
  obtain⟨t,rfl⟩:=rx;cases y with
  |non=>cases ry;exact PySem.EqNone.ne_int_none (nA I q (by simp))
  |int j=>obtain⟨t',rfl⟩:=ry;exact ne_int (nA I q (kO not dec_int))
  |str j=>obtain⟨t',rfl⟩:=ry;exact PySem.EqMixed.ne_int_str (nA I q (by simp))
  |_=>exact absurd (show false=true from hs) vD
 |str i=>
  obtain⟨t,rfl⟩:=rx;cases y with
  |non=>cases ry;exact PySem.EqNone.ne_str_none (nA I q (by simp))
  |bl j=>cases ry;exact PySem.EqMixed.ne_str_bool (nA I q (by simp))
  |int j=>obtain⟨t',rfl⟩:=ry;exact PySem.EqMixed.ne_str_int (nA I q (by simp))
  |str j=>obtain⟨t',rfl⟩:=ry;exact ne_str (nA I q (kO not dec_str))
  |_=>exact absurd (show false=true from hs) vD
 |byt i=>
  obtain⟨t,rfl⟩:=rx;cases y with
  |byt j=>obtain⟨t',rfl⟩:=ry;exact PySem.W.ne_bytes (nA I q (kO not dec_byt))
  |_=>exact absurd (show false=true from hs) vD
 |_=>cases y<;>exact absurd (show false=true from hs) vD
theorem op_lt:OpR X (compareOp .Lt) (rI0 fun i j=> .bl (decide (i<j))):=opB0 fun _ _ _ _ _ _ _ q=>lt_int q
theorem op_le:OpR X (compareOp .LtE) (rI0 fun i j=> .bl (decide (i<=j))):=opB0 fun _ _ _ _ _ _ _ q=>le_int q
theorem op_gt:OpR X (compareOp .Gt) (rI0 fun i j=> .bl (decide (j<i))):=opB0 fun _ _ _ _ _ _ _ q=>gt_int q
theorem op_ge:OpR X (compareOp .GtE) (rI0 fun i j=> .bl (decide (j<=i))):=opB0 fun _ _ _ _ _ _ _ q=>ge_int q
theorem op_isN:OpR X (compareOp .Is) (fun x y H Q=>y= .non/\Q (.bl (decide (x= .non))) H):=by
 intro pins s σ H x y v u Q I rx ry h;obtain⟨rfl,q⟩:=h;cases ry;refine is_none_gen (nA I q ?_);cases x<;>first
  |(cases rx;rfl)
  |(obtain⟨t,rfl⟩:=rx;rfl)
theorem op_notN:OpR X (compareOp .IsNot) (fun x y H Q=>y= .non/\Q (.bl (!decide (x= .non))) H):=by
 intro pins s σ H x y v u Q I rx ry h;obtain⟨rfl,q⟩:=h;cases ry;refine isnot_none_gen (nA I q ?_);cases x<;>first
  |(cases rx;rfl)
  |(obtain⟨t,rfl⟩:=rx;rfl)
theorem OpR.or{f:ζ->ζ->Sem ζ}{r r':R2}(h:OpR X f r)(h':OpR X f r'):OpR X f (fun x y H Q=>r x y H Q\/r' x y H Q):=by
 intro pins s σ H x y v u Q I rx ry q;rcases q with q|q
 ·exact h pins s σ H x y v u Q I rx ry q
 ·exact h' pins s σ H x y v u Q I rx ry q
theorem nomark(b:Expr){op:CmpOp}(h:op≠.In:=by decide)(h2:op≠.NotIn:=by decide):behindInMarks op b=false:=by
 have e1:(op==CmpOp.In)=false:=by cases op<;>first |rfl|exact absurd rfl h
 have e2:(op==CmpOp.NotIn)=false:=by cases op<;>first |rfl|exact absurd rfl h2
 cases b<;>simp[behindInMarks,e1,e2]
theorem Ca{op:CmpOp}{r:R2}(ho:OpR X (compareOp op) r)(ha:PE X a ta)(hb:PE X b tb)(hm:behindInMarks op b=false:=by exact nomark _):PE X (.Compare a [op] [b] pos) (tOp r ta tb):=by
 intro pins s σ H Q I h;exact wpAny_Compare1 (binT ha hb I h fun v u s2 x y H2 I2 rx ry q=>ho pins s2 σ H2 x y v u Q I2 rx ry q) hm
noncomputable def tTest(t:TE):TT:=fun σ H Q=>t σ H fun x H'=>∃k,x= .bl k/\Q k H'
theorem dR{op:CmpOp}{r:R2}(ho:OpR X (compareOp op) r)(ha:PE X a ta)(hb:PE X b tb)(hm:behindInMarks op b=false:=by exact nomark _):PT X (.Compare a [op] [b] pos) (tTest (tOp r ta tb)):=by
 intro pins s σ H Q I h;refine wpAny_isTrue_Compare1 (thn (ha pins s σ H _ I h) fun v s1 ⟨x,H1,I1,r1,q1⟩=>thn (hb pins s1 σ H1 _ I1 q1) fun u s2 ⟨y,H2,I2,r2,q2⟩=>
  thn (ho pins s2 σ H2 x y v u _ I2 r1 r2 q2) fun c s3 ⟨z,H3,I3,r3,k,e,q3⟩=> ?_) hm
 subst e;cases r3;exact Qg ⟨H3,I3,q3⟩
noncomputable def tChain(r r':R2)(ta tb tc:TE):TE:=fun σ H Q=>ta σ H fun x H1=>tb σ H1 fun y H2=>r x y H2 fun z H3=>∃k,z= .bl k/\
 (if k=true then tc σ H3 fun w' H4=>r' y w' H4 Q else Q (.bl false) H3)
theorem pe_chain{op op':CmpOp}{r r':R2}(ho:OpR X (compareOp op) r)(ho':OpR X (compareOp op') r')(ha:PE X a ta)(hb:PE X b tb)(hc:PE X c tc)(hm:lastMarks [op,op'] [b,c]=false:=by with_unfolding_all rfl):PE X (.Compare a [op,op'] [b,c] pos) (tChain r r' ta tb tc):=by
 intro pins s σ H Q I h;refine Compare_chain (thn (ha pins s σ H _ I h) fun v s1 ⟨x,H1,I1,r1,q1⟩=>chain_link (thn (hb pins s1 σ H1 _ I1 q1) fun u s2 ⟨y,H2,I2,r2,q2⟩=>
  thn (ho pins s2 σ H2 x y v u _ I2 r1 r2 q2) fun d s3 ⟨z,H3,I3,r3,k,e,q3⟩=> ?_)) hm
 subst e;cases r3;refine Qg ?_;cases k with
 |false=>exact ite_ff ⟨.bl false,H3,I3,rfl,q3⟩
 |true=>exact ite_tt (chain_last (thn (hc pins s3 σ H3 _ I3 q3) fun w' s4 ⟨z',H4,I4,r4,q4⟩=>ho' pins s4 σ H4 y z' u w' Q I4 r2 r4 q4))
noncomputable def TruV(K:W.Frag)(x:V)(H:Hp)(k:Bool):Prop:=
 match x with
 | .non=>k=false
 | .bl b=>k=b
 | .int i=>k=(i !=0)
 | .str y=>y.length<=sizeLine/\k=((y.length:Int) !=0)
 | .byt y=>y.size<=sizeLine/\k=((y.size:Int) !=0)
 | .ref p=>(∃xs,SqL K H p xs/\k= !xs.isEmpty)\/(∃xs,SqT K H p xs/\k= !xs.isEmpty)\/∃kvs,H p=some (.dK kvs)/\k= !kvs.isEmpty
 |_=>False
theorem isEmpty_kv{κ:Type}{kvs:List (κ×V)}{vs:List (κ×ζ)}(r:KV kvs vs):(!vs.isEmpty)= !kvs.isEmpty:=by
 cases r<;>rfl
theorem isEmpty_of{xs:List V}{its:List ζ}(r:Vals xs its):(!its.toArray.isEmpty)= !xs.isEmpty:=by
 cases r<;>simp
theorem line63:(sizeLine:Nat)<2^63:=by rw[gU];decide
theorem tru_ok:TruR X (fun x H Q=>∃k,TruV X.K x H k/\Q k H):=by
 intro pins s σ H x v Q I rx h;obtain⟨k,e,q⟩:=h;have hl:=line63;have hs:sizeLine=16777216:=gU;cases x with
 |non=>
  cases rx;have e':k=false:=e;subst e';exact truthy_none ⟨H,I,q⟩
 |bl b=>
  cases rx;have e':k=b:=e;subst e';exact Qg ⟨H,I,q⟩
 |int i=>
  obtain⟨t,rfl⟩:=rx;have e':k=(i !=0):=e;subst e';exact PySem.P.truthy_int ⟨H,I,q⟩
 |str y=>
  obtain⟨t,rfl⟩:=rx;obtain⟨hy,e'⟩:y.length<=sizeLine/\k=((y.length:Int) !=0):=e;subst e';exact PySem.P.truthy_str (by omega) ⟨H,I.tok _,q⟩
 |byt y=>
  obtain⟨t,rfl⟩:=rx;obtain⟨hy,e'⟩:y.size<=sizeLine/\k=((y.size:Int) !=0):=e;subst e';exact PySem.W.truthy_bytes (by omega) ⟨H,I.tok _,q⟩
 |ref p=>
  cases rx;have e':(∃xs,SqL X.K H p xs/\k= !xs.isEmpty)\/(∃xs,SqT X.K H p xs/\k= !xs.isEmpty)\/∃kvs,H p=some (.dK kvs)/\k= !kvs.isEmpty:=e;rcases e' with⟨xs,hx,e'⟩|⟨xs,hx,e'⟩|⟨kvs,hx,e'⟩
  ·subst e';obtain⟨its,r,pl,hz⟩:=I.list hx;have hlen:=r.length;exact wpAny_truthy_list pl.isList (by simp only[iC];omega) ⟨H,I.tok _,by rw[isEmpty_of r];exact q⟩
  ·subst e';obtain⟨its,r,pl,hz⟩:=I.tuple hx;have hlen:=r.length;exact truthy_tuple pl (by simp only[iC];omega) ⟨H,I.tok _,by rw[isEmpty_of r];exact q⟩
  ·subst e';obtain⟨hz,hS,vs,r,m⟩:kvs.length<=sizeLine/\(p==sysModules)=false/\∃vs,KV kvs vs/\s.heap.DictOf (mixKind X.prog X.w) p vs:=I.hok p _ hx;have hlen:kvs.length=vs.length:=Um r;exact wpAny_truthy_dict hS m (by omega) ⟨H,I.tok _,by rw[isEmpty_kv r];exact q⟩
 |_=>exact(show False from e).elim
theorem pt_truth(ha:PE X a ta)(he:∀whole,isTrue a X.env whole=(do let v<-whole;standAt a.pos;holding [v] (truthy v))):
  PT X a (fun σ H Q=>ta σ H fun x H'=>∃k,TruV X.K x H' k/\Q k H'):=by
 intro pins s σ H Q I h;exact isTrue_plain (thn (ha pins s σ H _ I h) fun v s1 ⟨x,H1,I1,r1,q1⟩=>tru_ok pins s1 σ H1 x v Q I1 r1 q1) (he _)
theorem vals1{x:V}{us:List ζ}(r:Vals [x] us):∃u,us=[u]/\RelV x u:=by
 cases r with
 |cons r1 r2=>cases r2;exact⟨_,rfl,r1⟩
theorem vals2{x y:V}{us:List ζ}(r:Vals [x,y] us):∃u w',us=[u,w']/\RelV x u/\RelV y w':=by
 cases r with
 |cons r1 r2=>
  cases r2 with
  |cons r3 r4=>cases r4;exact⟨_,_,rfl,r1,r3⟩
theorem call_abs:CallR X (.builtin "abs") (fun xs H Q=>∃i,xs=[.int i]/\Q (.int (if i<0 then -i else i)) H):=by
 intro pins s σ H xs us Q I r h;obtain⟨i,rfl,q⟩:=h;obtain⟨u,rfl,t,rfl⟩:=vals1 r;exact call_abs_int fun u tk=>⟨.int (if i<0 then -i else i),H,I.tok _,⟨_,rfl⟩,q⟩
theorem call_max2(hc:X.calm=true):CallR X (.builtin "max") (fun xs H Q=>∃i j,xs=[.int i,.int j]/\Q (.int (if j>i then j else i)) H):=by
 intro pins s σ H xs us Q I r h;obtain⟨i,j,rfl,q⟩:=h;obtain⟨u,w',rfl,⟨t,rfl⟩,⟨t',rfl⟩⟩:=vals2 r;refine max_two_ints (I.ok.hd hc) fun h' tk k=>⟨_,H,I.kept k,?_,q⟩;by_cases hj:j>i
 ·rw[aD hj,aD hj];exact⟨_,rfl⟩
 ·rw[aA hj,aA hj];exact⟨_,rfl⟩
theorem call_min2(hc:X.calm=true):CallR X (.builtin "min") (fun xs H Q=>∃i j,xs=[.int i,.int j]/\Q (.int (if j<i then j else i)) H):=by
 intro pins s σ H xs us Q I r h;obtain⟨i,j,rfl,q⟩:=h;obtain⟨u,w',rfl,⟨t,rfl⟩,⟨t',rfl⟩⟩:=vals2 r;refine min_two_ints (I.ok.hd hc) fun h' tk k=>⟨_,H,I.kept k,?_,q⟩;by_cases hj:j<i
 ·rw[aD hj,aD hj];exact⟨_,rfl⟩
 ·rw[aA hj,aA hj];exact⟨_,rfl⟩
end
structure ObjM(h:Heap)(x dx C:Addr)(mA:L4):Prop where
 obj:h.get? x=some (PySem.W.instObj C dx)
 ns:h.Ns1 dx mA
 ne:dx≠x
theorem lookIn_ns{h:Heap}{dx:Addr}{mA:L4}(n:h.Ns1 dx mA):∃od,h.get? dx=some od/\∀name,PySem.W.lookIn name od=some (mA name):=by
 obtain⟨o,es,ep,ho,hd,hk,_,hm⟩:=n;refine⟨o,ho,fun name=> ?_⟩;have e:=hm name;unfold nsFind findBy at e;rw[<-Array.find?_toList]at e;unfold PySem.W.lookIn;rw[hd];dsimp only;split
 ·rename_i y q;rw[q]at e;exact kO some e
 ·rename_i q;rw[q]at e;have a:es.toList.any (·.refKey)=false:=by
   rw[Xd];intro y hy;obtain⟨z,t,hkey⟩:=hk y (Array.mem_toList_iff.mp hy);simp[DictEntry.refKey,hkey]
  have a':¬es.toList.any (·.refKey)=true:=by rw[a];exact vD
  rw[aA a'];exact kO some e
theorem ObjM.look{h:Heap}{x dx C:Addr}{mA:L4}(I:ObjM h x dx C mA):∃od,PySem.W.InstAt h x (PySem.W.instObj C dx) C (some od)/\∀name,PySem.W.lookIn name od=some (mA name):=
 let⟨od,ho,hl⟩:=lookIn_ns I.ns
 ⟨od,⟨I.obj,rfl,rfl,ho⟩,hl⟩
section
variable{prog:ξ}{w:τ}{A:Around}{E:L3}{s:η}{K:W.Frag}{x dx C f:Addr}{mA:L4}{name:Str}{v:ζ}
theorem get_map{expr:Bool}{Q:L3}(X:K.In s.heap)(I:ObjM s.heap x dx C mA)(hg:PySem.W.plainGet K C name=true)(hh:PySem.W.hasDictIn K C=true)(ha:PySem.W.findIn K (.ref C) name=some none)(hv:mA name=some v)(hv':PySem.W.handedIn v=true)(h:Q v {s with toks:=s.toks+1}):
  wpAny (model prog w) A (getAttr (.ref x) name expr) Q E s:=by
 obtain⟨od,J,hl⟩:=I.look;exact PySem.W.get_value X J (wcq hg).1 (PySem.W.findObj_own hh ha rfl (by rw[hl,hv])) hv' h
theorem get_meth{pl:Sem Bool}{Q:ζ×List ζ->η->Prop}(X:K.In s.heap)(I:ObjM s.heap x dx C mA)(hg:PySem.W.plainGet K C name=true)(hf:PySem.W.findIn K (.ref C) name=some (some (.ref f)))(ht:PySem.W.isFn K (.ref f)=true)(hv:mA name=none)(h:Q (.ref f,[.ref x]) s):
  wpAny (model prog w) A (getMethod (.ref x) name pl) Q E s:=by
 obtain⟨od,J,hl⟩:=I.look;exact PySem.W.method_fn X J (wcq hg).1 (wcq hg).2 hf (beq_iff_eq.mp ht) (by show(PySem.W.lookIn name od).map (·.isSome)=some false;rw[hl,hv];rfl) h
theorem set_map{ns:List Str}{Q:Unit->η->Prop}(X:K.In s.heap)(I:ObjM s.heap x dx C mA)(hs:PySem.W.findIn K (.ref C) "__setattr__"=some (some (.builtin "object.__setattr__")))(hp:PySem.W.plainOver K C=true)(ht:PySem.W.takerIn K C name=some none)(hh:PySem.W.hasDictIn K C=true)(hw:PySem.Within mA ns)(hsz:ns.length<=sizeLine)(h:∀h',ObjM h' x dx C (fun y=>if y=name then some v else mA y)->Heap.SameBut dx s.heap h'->Q () {s with heap:=h',toks:=s.toks+2}):
  wpAny (model prog w) A (setAttr (.ref x) name v) Q E s:=by
 obtain⟨od,J,hl⟩:=I.look;refine PySem.W.set_plain X J hs (PySem.W.osa_open (s:={s with toks:=s.toks+1}) (r:=none) X J hp ht fun b=> ?_);obtain⟨cd,hc,hd'⟩:=PySem.W.any_some hh;have hx:s.heap.get? x=some ⟨.ref C,some dx,.plain,#[]⟩:=I.obj;refine bW (iY (bW (bW (wpAny_loadPart hx (bW (PySem.W.Looks.here (s:={s with toks:=s.toks+1}) (PySem.W.looks_clsIn X hc) ?_))))));rw[hd'];refine iY (a:=some dx) (bW (iY (bW ?_)));refine wpAny_nsSet1 (s:={s with toks:=s.toks+1}) I.ns fun h' hn2 hs2=> ?_;obtain⟨oD,esD,epD,hoD,hdD,hcD⟩:=hn2.count (PySem.Within.cons name v hw);refine bW (wpAny_lookBehind hoD (by rw[hdD];exact pastItsLine_dict (cV hcD (by rw[yV];omega))) ?_);exact iY (h _ ⟨(hs2.2 _ (lA I.ne)).trans I.obj,hn2,I.ne⟩ hs2)
theorem make_map{R:Result->η->Prop}{vs:List ζ}{kw:List (Str×ζ)}(X:K.In s.heap)(hm:PySem.W.makesIn K C=true)(hi:PySem.W.findIn K (.ref C) "__init__"=some (some (.ref f)))(hf:PySem.W.typeIn K (.ref f)=some (.type "function"))(h:codeAny (model prog w) (A.under (.builtin "type.__call__" ⟨.ref C::vs,kw⟩)) (.call (.ref f) ⟨.ref (s.heap.objs.size+1)::vs,kw⟩) (PySem.W.InitBack (s.heap.objs.size+1) R)
   {s with heap:=(s.heap.push PySem.W.emptyDict).push (PySem.W.instObj C s.heap.objs.size)}):
  codeAny (model prog w) A (.call (.ref C) ⟨vs,kw⟩) R s:=by
 obtain⟨hh,g,d,t,os⟩:=s;exact PySem.W.make_core (PySem.W.makes_of X hm) (PySem.W.looks_findIn X hi) (fun self=>PySem.W.bind_fn X self hf) (.inl rfl) h
end
noncomputable def putF(f:Str)(v:V):List (Str×V)->List (Str×V)
 |[]=>[(f,v)]
 |(g,x)::r=>if g=f then(g,v)::r else(g,x)::putF f v r
theorem lookup_putF(f g:Str)(v:V):∀fs:List (Str×V),(putF f v fs).lookup g=if g=f then some v else fs.lookup g
 |[]=>by
  show List.lookup g [(f,v)]=_;by_cases h:g=f
  ·have hb:(g==f)=true:=beq_iff_eq.mpr h;simp only[List.lookup,hb,aD h]
  ·have hb:(g==f)=false:=beq_eq_false_iff_ne.mpr h;simp only[List.lookup,hb,aA h]
 |(k,x)::r=>by
  have ih:=lookup_putF f g v r;rw[show putF f v ((k,x)::r)=(if k=f then(k,v)::r else(k,x)::putF f v r)from rfl];by_cases hk:k=f
  ·rw[aD hk];by_cases h:g=k
   ·have hb:(g==k)=true:=beq_iff_eq.mpr h;simp only[List.lookup,hb,aD (h.trans hk)]
   ·have hb:(g==k)=false:=beq_eq_false_iff_ne.mpr h;simp only[List.lookup,hb,aA (fun e:g=f=>h (e.trans hk.symm))]
  ·rw[aA hk];by_cases h:g=k
   ·have hb:(g==k)=true:=beq_iff_eq.mpr h;simp only[List.lookup,hb,aA (fun e:g=f=>hk (h.symm.trans e))]
   ·have hb:(g==k)=false:=beq_eq_false_iff_ne.mpr h;simp only[List.lookup,hb];exact ih
theorem keys_putF(f:Str)(v:V):∀fs:List (Str×V),f∈(putF f v fs).map (·.1)/\∀g,g∈fs.map (·.1)->g∈(putF f v fs).map (·.1)
 |[]=>⟨by simp[putF],fun g h=>by simp at h⟩
 |(k,x)::r=>by
  obtain⟨i1,i2⟩:=keys_putF f v r;rw[show putF f v ((k,x)::r)=(if k=f then(k,v)::r else(k,x)::putF f v r)from rfl];by_cases hk:k=f
  ·rw[aD hk];subst hk;exact⟨by simp,fun g h=>by simpa using h⟩
  ·rw[aA hk];refine⟨?_,fun g h=> ?_⟩
   ·rw[yS];exact iG _ i1
   ·rw[yS]at h⊢;rcases dg.mp h with e|e
    ·exact dg.mpr (.inl e)
    ·exact iG _ (i2 g e)
theorem length_putF(f:Str)(v:V):∀fs:List (Str×V),(putF f v fs).length<=fs.length+1
 |[]=>by simp[putF]
 |(k,x)::r=>by
  have ih:=length_putF f v r;rw[show putF f v ((k,x)::r)=(if k=f then(k,v)::r else(k,x)::putF f v r)from rfl];by_cases hk:k=f
  ·rw[aD hk,yV,yV];omega
  ·rw[aA hk,yV,yV];omega
theorem RelO.some_of{v:V}{o:Option ζ}(r:RelO (some v) o):∃u,o=some u/\RelV v u:=by
 cases o with
 |none=>exact(show False from r).elim
 |some u=>exact⟨u,rfl,r⟩
theorem RelO.none_of{o:Option ζ}(r:RelO none o):o=none:=by
 cases o with
 |none=>rfl
 |some u=>exact(show False from r).elim
theorem handed_of{v:V}{u:ζ}(r:RelV v u):PySem.W.handedIn u=true:=by
 cases v with
 |non=>cases(show u=Value.none from r);rfl
 |bl b=>cases(show u=Value.bool b from r);rfl
 |int i=>obtain⟨t,e⟩:=(show∃t,u=Value.int i t from r);cases e;rfl
 |str x=>obtain⟨t,e⟩:=(show∃t,u=Value.str x t from r);cases e;rfl
 |byt b=>obtain⟨t,e⟩:=(show∃t,u=Value.bytes b t from r);cases e;rfl
 |flt b=>obtain⟨t,e⟩:=(show∃t,u=Value.float b t from r);cases e;rfl
 |ref a=>cases(show u=Value.ref a from r);rfl
 |ty n=>cases(show u=Value.type n from r);rfl
section
variable{P:ξ}{w:τ}{H:Hp}{h:Heap}{a C dx:Addr}{fs:List (Str×V)}
theorem ins_get(hok:HOk P w H h)(e:H a=some (.ins C dx fs)):∃mA,ObjM h a dx C mA/\(∀f,RelO (fs.lookup f) (mA f))/\PySem.Within mA (fs.map (·.1))/\fs.length<=1000/\H dx=some (.own a):=by
 obtain⟨d,z,ne,ob,mA,n,r,q⟩:=(show ObjOk P w H h a (.ins C dx fs)from hok a _ e);exact⟨mA,⟨ob,n,ne⟩,r,q,z,d⟩
end
structure Cls(K:W.Frag)(C:Addr):Prop where
 pg:PySem.W.plainGet K C Str.empty=true
 hd:PySem.W.hasDictIn K C=true
 po:PySem.W.plainOver K C=true
 sa:PySem.W.findIn K (.ref C) "__setattr__"=some (some (.builtin "object.__setattr__"))
theorem Cls.get{K:W.Frag}{C:Addr}(c:Cls K C)(f:Str):PySem.W.plainGet K C f=true:=c.pg
noncomputable def NoAttr(K:W.Frag)(C:Addr)(f:Str):Prop:=PySem.W.findIn K (.ref C) f=some none
theorem NoAttr.taker{K:W.Frag}{C:Addr}{f:Str}(n:NoAttr K C f):PySem.W.takerIn K C f=some none:=by
 unfold PySem.W.takerIn;rw[show PySem.W.findIn K (.ref C) f=some none from n];rfl
structure Meth(K:W.Frag)(C:Addr)(m:Str)(f:Addr):Prop where
 at_:PySem.W.findIn K (.ref C) m=some (some (.ref f))
 fn:PySem.W.isFn K (.ref f)=true
 kp:PySem.W.keepIn K (.ref f)=true
section
variable{X:Cx}{pins:L1}{σ:St}{H:Hp}{s:η}{a C dx:Addr}{fs:List (Str×V)}{f:Str}{v:V}{A:Around}{E:L3}
theorem getattr_ok{b:Bool}{Q:L3}(I:Inv X pins σ H s)(e:H a=some (.ins C dx fs))(c:Cls X.K C)(n:NoAttr X.K C f)(l:fs.lookup f=some v)(h:∀u s',Inv X pins σ H s'->RelV v u->Q u s'):wpAny (model X.prog X.w) A (getAttr (.ref a) f b) Q E s:=by
 obtain⟨mA,O,r,_,_,_⟩:=ins_get I.hok e;obtain⟨u,hu,ru⟩:=RelO.some_of (v:=v) (o:=mA f) (by rw[<-l];exact r f);exact get_map I.kIn O (c.get f) c.hd n hu (handed_of ru) (h u _ (I.tok _) ru)
theorem getmeth_ok{m:Str}{g:Addr}{pl:Sem Bool}{Q:ζ×List ζ->η->Prop}(I:Inv X pins σ H s)(e:H a=some (.ins C dx fs))(c:Cls X.K C)(k:Meth X.K C m g)(l:fs.lookup m=none)(h:Q (.ref g,[.ref a]) s):wpAny (model X.prog X.w) A (getMethod (.ref a) m pl) Q E s:=by
 obtain⟨mA,O,r,_,_,_⟩:=ins_get I.hok e;have hn:mA m=none:=RelO.none_of (by rw[<-l];exact r m);exact get_meth I.kIn O (c.get m) k.at_ k.fn hn h
theorem setattr_ok{y:V}{u:ζ}{Q:Unit->η->Prop}(I:Inv X pins σ H s)(e:H a=some (.ins C dx fs))(c:Cls X.K C)(n:NoAttr X.K C f)(hl:fs.length<1000)(ry:RelV y u)(h:∀s',Inv X pins σ (upd H a (.ins C dx (putF f y fs))) s'->Q () s'):wpAny (model X.prog X.w) A (setAttr (.ref a) f u) Q E s:=by
 obtain⟨mA,O,r,wi,_,ho⟩:=ins_get I.hok e;have hz:(fs.map (·.1)).length<=sizeLine:=by rw[aL,gU];omega
 refine set_map I.kIn O c.sa c.po n.taker c.hd wi hz fun h' O' sb=>h _ ?_;have hd:∃o,h'.get? dx=some o:=let⟨o,_,_,e',_⟩:=O'.ns;⟨o,e'⟩;refine I.write (x:=a) (e:=dx) (by rw[e];exact True.intro) (.inr ho) (fun b q hb z=>(sb.2 b hb).trans z) hd ?_;refine⟨by rw[cY O.ne];exact ho,?_,O.ne,O'.obj,_,O'.ns,fun g=> ?_,fun g hg=> ?_⟩
 ·have:=length_putF f y fs;omega
 ·show RelO ((putF f y fs).lookup g) (if g=f then some u else mA g);rw[lookup_putF];by_cases q:g=f
  ·rw[aD q,aD q];exact ry
  ·rw[aA q,aA q];exact r g
 ·by_cases q:g=f
  ·rw[q];exact(keys_putF f y fs).1
  ·refine(keys_putF f y fs).2 g (wi g fun z=>hg ?_);show(if g=f then some u else mA g)=none;rw[aA q];exact z
theorem Inv.made(I:Inv X pins σ H s):Inv X pins σ (upd (upd H s.heap.objs.size (.own (s.heap.objs.size+1))) (s.heap.objs.size+1) (.ins C s.heap.objs.size []))
  {s with heap:=(s.heap.push PySem.W.emptyDict).push (PySem.W.instObj C s.heap.objs.size)}:=by
 have e1:(s.heap.push PySem.W.emptyDict).get? s.heap.objs.size=some PySem.W.emptyDict:=sU s.heap rfl;have e2:((s.heap.push PySem.W.emptyDict).push (PySem.W.instObj C s.heap.objs.size)).get? (s.heap.objs.size+1)=some (PySem.W.instObj C s.heap.objs.size):=by
  have:=sU (s.heap.push PySem.W.emptyDict) (o:=PySem.W.instObj C s.heap.objs.size) rfl
  rwa [Qa]at this
 have e3:(s.heap.push PySem.W.emptyDict).Ns s.heap.objs.size (fun _=>none):=⟨PySem.W.emptyDict,#[],_,e1,rfl,(fun e he=>absurd he (by simp)),fun _=>rfl⟩;have I1:=I.laid (a:=s.heap.objs.size) (o:= .own (s.heap.objs.size+1)) (h':=s.heap.push PySem.W.emptyDict) (t':=s.toks) (fun b u q=>mJ _ q) (aY _) ⟨_,e1⟩;refine I1.laid (a:=s.heap.objs.size+1) (o:= .ins C s.heap.objs.size []) (t':=s.toks) (fun b u q=>mJ _ q) (Fy (Qa _ _)) ?_;have ne:s.heap.objs.size≠s.heap.objs.size+1:=jy (wR _);refine⟨by rw[cY ne,aF],dY _,ne,e2,fun _=>none,(Heap.Ns1.of_empty e3).at fun o q=>mJ _ q,fun _=>True.intro,fun y hy=>absurd rfl hy⟩
theorem attr_of{prog:ξ}{w:τ}{env:Env}{e:Expr}{f:Str}{pos:Pos}{s:η}{Q:L3}(hb:attributeBase e f env (eval e env)=eval e env)(h:wpAny (model prog w) A (eval e env) (fun o s₁=>wpAny (model prog w) A (getAttr o f true) Q E s₁) E s):wpAny (model prog w) A (eval (.Attribute e f pos) env) Q E s:=
 Attribute_any_ h (by rw[arm_eval_Attribute,hb])
end
noncomputable def tFld(K:W.Frag)(ta:TE)(f:Str):TE:=fun σ H Q=>ta σ H fun x H1=>∃a C dx fs v,x= .ref a/\H1 a=some (.ins C dx fs)/\Cls K C/\NoAttr K C f/\fs.lookup f=some v/\Q v H1
noncomputable def sFld(K:W.Frag)(ta tv:TE)(f:Str):TS:=fun D σ H=>tv σ H fun y H1=>ta σ H1 fun x H2=>∃a C dx fs,x= .ref a/\H2 a=some (.ins C dx fs)/\Cls K C/\NoAttr K C f/\fs.length<1000/\
 D.nx σ (upd H2 a (.ins C dx (putF f y fs)))
noncomputable def InOp(X:Cx)(op:Operator)(rd:V->V->Hp->VK->Prop):Prop:=
 ∀(pins:L1) (s:η) (σ:St) (H:Hp) (x y:V) (u v:ζ) (Q:VK),Inv X pins σ H s->RelV x u->RelV y v->rd x y H Q->wpAny (model X.prog X.w) X.A (inplaceOp op u v) (EP X pins σ Q) X.xe s
noncomputable def sFldAug(K:W.Frag)(ta tv:TE)(rd:V->V->Hp->VK->Prop)(f:Str):TS:=fun D σ H=>ta σ H fun x H1=>∃a C dx fs v,x= .ref a/\H1 a=some (.ins C dx fs)/\Cls K C/\NoAttr K C f/\fs.lookup f=some v/\
 tv σ H1 fun y H2=>rd v y H2 fun z H3=>∃dx' fs',H3 a=some (.ins C dx' fs')/\fs'.length<1000/\D.nx σ (upd H3 a (.ins C dx' (putF f z fs')))
section
variable{X:Cx}{o e value:Expr}{f:Str}{pos pos' tpos:Pos}{ta tv:TE}
theorem gM(he:PE X e ta)(hb:attributeBase e f X.env (eval e X.env)=eval e X.env):PE X (.Attribute e f pos) (tFld X.K ta f):=by
 intro pins s σ H Q I h;refine attr_of hb (thn (he pins s σ H _ I h) fun u s1 ⟨x,H1,I1,rx,a,C,dx,fs,v,ex,ea,c,n,l,q⟩=> ?_);subst ex;obtain rfl:u=Value.ref a:=rx;exact getattr_ok I1 ea c n l fun u' s2 I2 ru=>⟨v,H1,I2,ru,q⟩
theorem ps_fld(ha:PE X o ta)(hv:PE X value tv)(hs:swapsWith value (some (.Attribute o f pos')) pos.line X.env=pure false):PS X (.Assign [.Attribute o f pos'] value pos) (sFld X.K ta tv f):=by
 intro pins s σ H D I h;refine plainObj_wpAny_Assign_Attribute (thn (hv pins s σ H _ I h) fun u s1 ⟨y,H1,I1,ry,q⟩=>thn (ha pins s1 σ H1 _ I1 q) fun ov s2 ⟨x,H2,I2,rx,a,C,dx,fs,ex,ea,c,n,l,q2⟩=> ?_) hs;subst ex;obtain rfl:ov=Value.ref a:=rx;exact setattr_ok I2 ea c n l ry fun s3 I3=>⟨σ,_,I3,q2⟩
theorem ps_fldaug{op:Operator}{rd:V->V->Hp->VK->Prop}(ha:PE X o ta)(hv:PE X value tv)(hop:InOp X op rd):PS X (.AugAssign (.Attribute o f tpos) op value pos) (sFldAug X.K ta tv rd f):=by
 intro pins s σ H D I h;refine wpAny_AugAssign_AttributeAny (thn (ha pins s σ H _ I h) fun ov s1 ⟨x,H1,I1,rx,a,C,dx,fs,v,ex,ea,c,n,l,q⟩=> ?_);subst ex;obtain rfl:ov=Value.ref a:=rx;refine getattr_ok I1 ea c n l fun u s2 I2 ru=>thn (hv pins s2 σ H1 _ I2 q) fun w3 s3 ⟨y,H2,I3,ry,q3⟩=>thn (hop pins s3 σ H2 v y u w3 _ I3 ru ry q3) fun w4 s4 ⟨z,H3,I4,rz,dx',fs',ea',l',q4⟩=> ?_;exact setattr_ok I4 ea' c n l' rz fun s5 I5=>⟨σ,_,I5,q4⟩
noncomputable def rAdd:V->V->Hp->VK->Prop:=fun x y H Q=>∃i j,x= .int i/\y= .int j/\Q (.int (i+j)) H
theorem in_add:InOp X .Add rAdd:=by
 rintro pins s σ H x y u v Q I rx ry ⟨i,j,rfl,rfl,q⟩;obtain⟨t,rfl⟩:=(show∃t,u=Value.int i t from rx);obtain⟨t',rfl⟩:=(show∃t',v=Value.int j t' from ry);exact PyProof.Rows.iadd_int ⟨.int (i+j),H,I.tok _,⟨_,rfl⟩,q⟩
end
structure Room(k:Nat)(A:Around):Prop where
 hd:A.handled=none
 dp:A.depth+3*k+5<recursionLimit
 un:A.units+16*k+200<cLine
 gd:A.guards=some []
theorem Room.mono{j k:Nat}{A:Around}(r:Room k A)(h:j<=k):Room j A:=⟨r.hd,by have:=r.dp;omega,by have:=r.un;omega,r.gd⟩
theorem Room.deeper{k:Nat}{A:Around}(r:Room (k+1) A)(env:Env):Room k (A.deeper env):=
 ⟨r.hd,by have:=r.dp;show A.depth+1+3*k+5<_;omega,by have:=r.un;show A.units+3+16*k+200<_;omega,r.gd⟩
theorem make_depth{A:Around}{C:Addr}{us:List ζ}{kw:List (Str×ζ)}:(A.under (.builtin "type.__call__" ⟨.ref C::us,kw⟩)).depth=A.depth+1:=by
 first |rfl|simp[Around.under,Code.weight,Code.isCreation,Code.isGuard,Code.isCaller,Code.frames,Code.isFrame,guardIds]
theorem make_units{A:Around}{C:Addr}{us:List ζ}{kw:List (Str×ζ)}:(A.under (.builtin "type.__call__" ⟨.ref C::us,kw⟩)).units=A.units+1:=by
 first |rfl|simp[Around.under,Code.cUnits,Code.frames,Code.isFrame]
theorem Room.make{k:Nat}{A:Around}(r:Room (k+1) A)(C:Addr)(us:List ζ)(kw:List (Str×ζ)):Room k (A.under (.builtin "type.__call__" ⟨.ref C::us,kw⟩)):=
 ⟨r.hd,by have:=r.dp;rw[make_depth];omega,by have:=r.un;rw[make_units];omega,by
  have q:=r.gd
  first |exact q|(simp[Around.under,Code.isGuard,guardIds];exact q)|(unfold Around.under;simp[Code.isGuard,guardIds,q])⟩
theorem Room.depth{k:Nat}{A:Around}(r:Room k A):A.depth<recursionLimit:=by have:=r.dp;omega
theorem Room.units{k:Nat}{A:Around}(r:Room k A):A.units+64<cLine:=by have:=r.un;omega
theorem Room.units0{k:Nat}{A:Around}(r:Room k A):A.units<cLine:=by have:=r.un;omega
noncomputable def tNil:TA:=fun _ H Q=>Q [] H
noncomputable def tCons(ta:TE)(tr:TA):TA:=fun σ H Q=>ta σ H fun x H1=>tr σ H1 fun xs H2=>Q (x::xs) H2
section
variable{X:Cx}{e:Expr}{es:List Expr}{te:TE}{t:TA}{pos:Pos}
theorem ak:PA X [] tNil:=fun _ _ _ _ H Q I h=>wby ⟨[],H,I,.nil,h⟩
theorem aj(ha:PE X e te)(hr:PA X es t)(hs:starEach (e::es) X.env=(false,eval e X.env)::starEach es X.env:=by rfl):PA X (e::es) (tCons te t):=by
 intro pos pins s σ H Q I h;rw[hs];show wpAny _ _ (spliced ((false,eval e X.env)::backTo pos (starEach es X.env))) _ _ s;refine wbp (thn (ha pins s σ H _ I h) fun u s1 ⟨x,H1,I1,r1,q1⟩=> ?_);exact thn (hr pos pins s1 σ H1 _ I1 q1) fun us s2 ⟨xs,H2,I2,r2,q2⟩=>⟨x::xs,H2,I2,.cons r1 r2,q2⟩
noncomputable def tTup(t:TA):TE:=fun σ H Q=>t σ H fun xs H1=>xs.length<=sizeLine/\∀p,H1 p=none->Q (.ref p) (upd H1 p (.tup xs))
noncomputable def tLst(t:TA):TE:=fun σ H Q=>t σ H fun xs H1=>xs.length<=sizeLine/\∀p,H1 p=none->Q (.ref p) (upd H1 p (.lst xs))
theorem fU{x1}(h:PA X es t):PE X (.Tuple es x1 pos) (tTup t):=by
 intro pins s σ H Q I hq;refine wpAny_Tuple_spliced (thn (h pos pins s σ H _ I hq) fun us s1 ⟨xs,H1,I1,r,z,q⟩=>⟨by rw[<-r.length];exact z,?_⟩);have hf:H1 s1.heap.objs.size=none:=I1.hok.fresh (aY _);refine⟨.ref s1.heap.objs.size,upd H1 s1.heap.objs.size (.tup xs),I1.laid (t':=s1.toks) (fun b u e=>mJ _ e) (aY _) ?_,rfl,q _ hf⟩;exact⟨z,us,r,⟨_,sU _ rfl,rfl,_,rfl⟩⟩
theorem pe_lst(h:PA X es t):PE X (.List es pos) (tLst t):=by
 intro pins s σ H Q I hq;refine wpAny_List_spliced (thn (h pos pins s σ H _ I hq) fun us s1 ⟨xs,H1,I1,r,z,q⟩=>⟨by rw[<-r.length];exact z,?_⟩);have hf:H1 s1.heap.objs.size=none:=I1.hok.fresh (aY _);refine⟨.ref s1.heap.objs.size,upd H1 s1.heap.objs.size (.lst xs),I1.laid (t':=s1.toks) (fun b u e=>mJ _ e) (aY _) ?_,rfl,q _ hf⟩;exact⟨z,us,0,r,sU _ rfl⟩
end
noncomputable abbrev Sp:=List V->Hp->VK->XK->Prop
noncomputable abbrev CXT:=List Env->Hp->η->XK->ζ->η->Prop
structure Env0(P:ξ)(w:τ)(K:W.Frag)(mg:L4)(base:Heap)(A:Around)(outer:List Env)(s:η)(H:Hp):Prop where
 frames:A.frames=some outer
 mod:Mod K mg base
 bs:∀b o,base.get? b=some o->s.heap.get? b=some o/\H b=none
 bsz:base.objs.size<=s.heap.objs.size
 funs:s.heap.FunFrames base outer
 frf:∀b∈frs outer,H b=none
 hok:HOk P w H s.heap
 bare:AllBare s.gens
noncomputable def CE(outer:List Env)(P:ξ)(w:τ)(H:Hp)(s:η)(Q:VK)(u:ζ)(s':η):Prop:=
 ∃v H',s'.os=s.os/\AllBare s'.gens/\Un (frs outer) [] H H' s.heap s'.heap/\HOk P w H' s'.heap/\RelV v u/\Q v H'
noncomputable def CR(CX:CXT)(outer:List Env)(P:ξ)(w:τ)(H:Hp)(s:η)(Q:VK)(E:XK)(r:Result)(s':η):Prop:=
 match r with
 | .ok (.ret u)=>CE outer P w H s Q u s'
 | .ok _=>False
 | .error e=>CX outer H s E e s'
structure FnOk(P:ξ)(w:τ)(K:W.Frag)(mg:L4)(base:Heap)(CX:CXT)(k:Nat)(f:Addr)(fd:ρ)(ps:List Str)(sp:Sp):Prop where
 len:∀vs H Q E,sp vs H Q E->vs.length=ps.length
 run:∀(A:Around) (outer:List Env) (s:η) (H:Hp) (args:Args) (us:List ζ) (vs:List V) (Q:VK) (E:XK),Room k A->Env0 P w K mg base A outer s H->BindsTo s fd args (ps.zip us)->Vals vs us->sp vs H Q E->
  codeAny (model P w) A (.call (.ref f) args) (CR CX outer P w H s Q E) s
theorem FnOk.mono{P:ξ}{w:τ}{K:W.Frag}{mg:L4}{base:Heap}{CX:CXT}{j k:Nat}{f:Addr}{fd:ρ}{ps:List Str}{sp:Sp}(F:FnOk P w K mg base CX j f fd ps sp)(h:j<=k):
  FnOk P w K mg base CX k f fd ps sp:=⟨F.len,fun A outer s H args us vs Q E hr=>F.run A outer s H args us vs Q E (hr.mono h)⟩
theorem Env0.make{P:ξ}{w:τ}{K:W.Frag}{mg:L4}{base:Heap}{A:Around}{outer:List Env}{s:η}{H:Hp}(e:Env0 P w K mg base A outer s H)(C:Addr)(us:List ζ)(kw:List (Str×ζ)):
  Env0 P w K mg base (A.under (.builtin "type.__call__" ⟨.ref C::us,kw⟩)) outer s H:=⟨by first |exact e.frames|(simpa[Around.under,Code.envs,Code.isFrame,pushEnvs]using e.frames),e.mod,e.bs,e.bsz,e.funs,e.frf,e.hok,e.bare⟩
section
variable{X:Cx}{pins:L1}{σ:St}{H:Hp}{s s':η}
theorem Inv.env0(I:Inv X pins σ H s):Env0 X.prog X.w X.K X.mg X.base X.A X.stack s H:=
 ⟨I.ok.frames,I.ok.mod,I.bs,cV I.ok.bsz I.sz,I.stack,I.stkFree,I.hok,I.bare⟩
theorem Inv.after{Q:VK}{u:ζ}(I:Inv X pins σ H s)(h:CE X.stack X.prog X.w H s Q u s'):EP X pins σ Q u s':=by
 obtain⟨v,H',os,bare,un,hok,r,q⟩:=h;obtain⟨hh,g,d,t,os'⟩:=s';obtain rfl:os'=s.os:=os;exact⟨v,H',I.call (h':=hh) (g':=g) (d':=d) (t':=t) (ch:=[]) un hok bare (fun b z=>absurd z (by simp)),r,q⟩
end
noncomputable def tCall(sp:Sp)(dvs:List V)(E:XK)(t:TA):TE:=fun σ H Q=>t σ H fun vs H1=>sp (vs++dvs) H1 Q E
noncomputable def tMeth(C:Addr)(m:Str)(sp:Sp)(dvs:List V)(E:XK)(ta:TE)(t:TA):TE:=fun σ H Q=>ta σ H fun x H1=>∃a dx fs,x= .ref a/\H1 a=some (.ins C dx fs)/\fs.lookup m=none/\
 t σ H1 fun vs H2=>sp (x::(vs++dvs)) H2 Q E
noncomputable def tMake(C:Addr)(sp:Sp)(dvs:List V)(E:XK)(t:TA):TE:=fun σ H Q=>t σ H fun vs H1=>∀x dx,H1 x=none->H1 dx=none->dx≠x->
 sp (.ref x::(vs++dvs)) (upd (upd H1 dx (.own x)) x (.ins C dx [])) (fun v H2=>v= .non/\Q (.ref x) H2) E
noncomputable def Binds(K:W.Frag)(fd:ρ)(ps:List Str)(ds:List ζ):Prop:=
 ∀(s:η) (us:List ζ),K.In s.heap->(us++ds).length=ps.length->BindsTo s fd ⟨us,[]⟩ (ps.zip (us++ds))
theorem Binds.all{K:W.Frag}{fd:ρ}{ps:List Str}(h:∀us:List ζ,us.length=ps.length->bindArgs fd ⟨us,[]⟩=pure (ps.zip us)):Binds K fd ps []:=fun s us _ hl=>by
 rw[Cr]at hl⊢;exact .of_eq (h us hl)
noncomputable def Passes(CX:CXT)(X:Cx)(E:XK):Prop:=∀(pins:L1) (σ:St) (H:Hp) (s:η) (e:ζ) (s':η),Inv X pins σ H s->CX X.stack H s E e s'->X.xe e s'
section
variable{X:Cx}{CX:CXT}{k:Nat}{f C:Addr}{fd:ρ}{ps:List Str}{sp:Sp}{dvs:List V}{ds:List ζ}{E:XK}{x m:Str}{p pos apos:Pos}{e o:Expr}{es:List Expr}{ta:TE}{t:TA}
theorem run_fn{pins:L1}{σ:St}{H:Hp}{s:η}{Q:VK}{us:List ζ}{vs:List V}(F:FnOk X.prog X.w X.K X.mg X.base CX k f fd ps sp)(hr:Room k X.A)(hb:Binds X.K fd ps ds)(hd:Vals dvs ds)(hx:Passes CX X E)
  (I:Inv X pins σ H s)(r:Vals vs us)(h:sp (vs++dvs) H Q E):wpAny (model X.prog X.w) X.A (call (.ref f) us) (EP X pins σ Q) X.xe s:=by
 have r2:Vals (vs++dvs) (us++ds):=r.append hd;have hl:(us++ds).length=ps.length:=by rw[<-r2.length];exact F.len _ _ _ _ h
 refine wpAny_call (Ym (F.run X.A X.stack s H ⟨us,[]⟩ (us++ds) (vs++dvs) Q E hr I.env0 (hb s us I.kIn hl) r2 h) fun r s' hq=> ?_);cases r with
 |error e=>exact hx pins σ H s e s' I hq
 |ok fl=>
  cases fl with
  |ret u=>exact I.after hq
  |next=>exact False.elim hq
  |brk=>exact False.elim hq
  |cont=>exact False.elim hq
theorem pe_call(F:FnOk X.prog X.w X.K X.mg X.base CX k f fd ps sp)(hr:Room k X.A)(hg:Gl X x)(hm:X.mg x=some (.ref f))(hk:PySem.W.keepIn X.K (.ref f)=true)(hb:Binds X.K fd ps ds)(hd:Vals dvs ds)(hx:Passes CX X E)(ha:PA X (e::es) t)(hdb:(x==("__debug__":Str))=false:=by decide)(he:starEach (e::es) X.env=(false,eval e X.env)::starEach es X.env:=by rfl)(hpl:(backTo pos (starEach es X.env)).any (·.1)=false:=by rfl):
  PE X (.Call (.Name x p) (e::es) [] pos) (tCall sp dvs E t):=by
 intro pins s σ H Q I h;refine Ur (ld_glob I hg hm ?_ hdb);refine wda (h₀:=X.base) I.ok.mod.kin hk (thn (ha pos pins s σ H _ I h) fun us s1 ⟨vs,H1,I1,r,q⟩=>⟨I1.kIn,?_⟩) he hpl;exact run_fn F hr hb hd hx I1 r q
theorem v7{pl:Sem Bool}(he:PE X o ta)(c:Cls X.K C)(hm:Meth X.K C m f)(F:FnOk X.prog X.w X.K X.mg X.base CX k f fd ps sp)(hr:Room k X.A)(hb:Binds X.K fd ps ds)(hd:Vals dvs ds)(hx:Passes CX X E)(ha:PA X (e::es) t)(hst:starEach (e::es) X.env=(false,eval e X.env)::starEach es X.env:=by rfl)(hpl:(backTo pos (starEach es X.env)).any (·.1)=false:=by rfl)(ht:eval (.Call (.Attribute o m apos) (e::es) [] pos) X.env=(do
   let ov<-eval o X.env
   standAt apos.atName
   let(f,first)<-holding [ov] (getMethod ov m pl)
   callWith pos f first (backTo pos (starEach (e::es) X.env)) (backToKw pos (keywordEach [] X.env))):=by rfl):
  PE X (.Call (.Attribute o m apos) (e::es) [] pos) (tMeth C m sp dvs E ta t):=by
 intro pins s σ H Q I h;refine wel (pl:=pl) (thn (he pins s σ H _ I h) fun u s1 ⟨x,H1,I1,rx,a,dx,fs,ex,ea,l,q⟩=> ?_) ht;subst ex;obtain rfl:u=Value.ref a:=rx;refine getmeth_ok I1 ea c hm l ?_;refine wda (first:=[.ref a]) (h₀:=X.base) I.ok.mod.kin hm.kp (thn (ha pos pins s1 σ H1 _ I1 q) fun us s2 ⟨vs,H2,I2,r,q2⟩=>⟨I2.kIn,?_⟩) hst hpl;exact run_fn (us:= .ref a::us) (vs:= .ref a::vs) F hr hb hd hx I2 (.cons rfl r) q2
theorem zm{pl:Sem Bool}(he:PE X o ta)(c:Cls X.K C)(hm:Meth X.K C m f)(F:FnOk X.prog X.w X.K X.mg X.base CX k f fd ps sp)(hr:Room k X.A)(hb:Binds X.K fd ps ds)(hd:Vals dvs ds)(hx:Passes CX X E)(ht:eval (.Call (.Attribute o m apos) [] [] pos) X.env=(do
   let ov<-eval o X.env
   standAt apos.atName
   let(f,first)<-holding [ov] (getMethod ov m pl)
   callWith pos f first (backTo pos (starEach [] X.env)) (backToKw pos (keywordEach [] X.env))):=by rfl):
  PE X (.Call (.Attribute o m apos) [] [] pos) (tMeth C m sp dvs E ta tNil):=by
 intro pins s σ H Q I h;refine wel (pl:=pl) (thn (he pins s σ H _ I h) fun u s1 ⟨x,H1,I1,rx,a,dx,fs,ex,ea,l,q⟩=> ?_) ht;subst ex;obtain rfl:u=Value.ref a:=rx;refine getmeth_ok I1 ea c hm l ?_;exact PySem.W.callWith_K0 (first:=[.ref a]) I1.kIn hm.kp (run_fn (us:=[.ref a]) (vs:=[.ref a]) F hr hb hd hx I1 (.cons rfl .nil) q)
structure Mk(K:W.Frag)(C f:Addr):Prop where
 makes:PySem.W.makesIn K C=true
 init:PySem.W.findIn K (.ref C) "__init__"=some (some (.ref f))
 fn:PySem.W.isFn K (.ref f)=true
 kp:PySem.W.keepIn K (.ref C)=true
theorem run_make{pins:L1}{σ:St}{H:Hp}{s:η}{Q:VK}{us:List ζ}{vs:List V}(M:Mk X.K C f)(F:FnOk X.prog X.w X.K X.mg X.base CX k f fd ps sp)(hr:Room (k+1) X.A)(hb:Binds X.K fd ps ds)(hd:Vals dvs ds)(hx:Passes CX X E)(I:Inv X pins σ H s)(r:Vals vs us)(h:∀x dx,H x=none->H dx=none->dx≠x->sp (.ref x::(vs++dvs)) (upd (upd H dx (.own x)) x (.ins C dx [])) (fun v H2=>v= .non/\Q (.ref x) H2) E):
  wpAny (model X.prog X.w) X.A (call (.ref C) us) (EP X pins σ Q) X.xe s:=by
 have hq:=h (s.heap.objs.size+1) s.heap.objs.size (I.hok.fresh (Pk _)) (I.hok.fresh (aY _)) (jy (wR _));have I2:=Inv.made (C:=C) I;have r2:Vals (V.ref (s.heap.objs.size+1)::(vs++dvs)) (Value.ref (s.heap.objs.size+1)::(us++ds)):= .cons rfl (r.append hd);have hl:(Value.ref (s.heap.objs.size+1)::us++ds).length=ps.length:=by
  have e:=r2.length;rw[F.len _ _ _ _ hq]at e;exact e.symm
 refine wpAny_call (make_map (f:=f) I.kIn M.makes M.init (beq_iff_eq.mp M.fn) (Ym (F.run _ X.stack _ _ ⟨Value.ref (s.heap.objs.size+1)::us,[]⟩ (Value.ref (s.heap.objs.size+1)::(us++ds)) _ _ E (hr.make C us [])
  (I2.env0.make C us []) (hb _ (Value.ref (s.heap.objs.size+1)::us) I2.kIn hl) r2 hq) fun r s' hq'=> ?_))
 cases r with
 |error e=>exact hx pins σ _ _ e s' I2 hq'
 |ok fl=>
  cases fl with
  |ret u=>
   obtain⟨v,H',I3,rv,ev,q3⟩:=I2.after hq';subst ev;exact⟨rv,⟨V.ref (s.heap.objs.size+1),H',I3,rfl,q3⟩⟩
  |next=>exact False.elim hq'
  |brk=>exact False.elim hq'
  |cont=>exact False.elim hq'
theorem pe_make(M:Mk X.K C f)(F:FnOk X.prog X.w X.K X.mg X.base CX k f fd ps sp)(hr:Room (k+1) X.A)(hg:Gl X x)(hm:X.mg x=some (.ref C))(hb:Binds X.K fd ps ds)(hd:Vals dvs ds)(hx:Passes CX X E)(ha:PA X (e::es) t)(hdb:(x==("__debug__":Str))=false:=by decide)(he:starEach (e::es) X.env=(false,eval e X.env)::starEach es X.env:=by rfl)(hpl:(backTo pos (starEach es X.env)).any (·.1)=false:=by rfl):
  PE X (.Call (.Name x p) (e::es) [] pos) (tMake C sp dvs E t):=by
 intro pins s σ H Q I h;refine Ur (ld_glob I hg hm ?_ hdb);refine wda (h₀:=X.base) I.ok.mod.kin M.kp (thn (ha pos pins s σ H _ I h) fun us s1 ⟨vs,H1,I1,r,q⟩=>⟨I1.kIn,?_⟩) he hpl;exact run_make M F hr hb hd hx I1 r q
end
structure FnScope(N P:List Str)(sc:Scope):Prop where
 kind:sc.kind= .function
 co:sc.isCoroutine=false
 gen:sc.isGenerator=false
 nd:N.Nodup
 pre:N.take P.length=P
 par:∀x∈P,sc.names.lookup x=some .local\/sc.names.lookup x=some .cell
 nofree:∀y∈sc.names,y.2≠.free
theorem bindL_out{kindOf:Str->Option NameKind}{x:Str}:∀{binds:List (Str×ζ)} {m:L4},(∀v,(x,v)∉binds)->bindL kindOf binds m x=m x
 |[],_,_=>rfl
 |(n,v)::r,m,h=>by
  unfold bindL;rw[bindL_out fun w hw=>h w (iG _ hw)];split
  ·have:x≠n:=by rintro rfl;exact h v iW
   simp[this]
  ·rfl
theorem bindC_out{kindOf:Str->Option NameKind}{x:Str}:∀{binds:List (Str×ζ)} {m:L4},(∀v,(x,v)∉binds)->bindC kindOf binds m x=m x
 |[],_,_=>rfl
 |(n,v)::r,m,h=>by
  unfold bindC;rw[bindC_out fun w hw=>h w (iG _ hw)];split
  ·rfl
  ·have:x≠n:=by rintro rfl;exact h v iW
   simp[this]
theorem bindL_get{kindOf:Str->Option NameKind}{x:Str}{v:ζ}:∀{P:List Str} {vs:List ζ} {i:Nat} {m:L4},P.Nodup->P[i]? =some x->vs[i]? =some v->kindOf x=some .local->
  bindL kindOf (P.zip vs) m x=some v
 |[],_,_,_,_,h,_,_=>by simp at h
 |_::_,[],_,_,_,_,h,_=>by simp at h
 |p::P,w::vs,0,m,nd,h1,h2,hk=>by
  simp at h1 h2;subst h1;subst h2;show bindL kindOf ((p,w)::P.zip vs) m p=_;unfold bindL;rw[bindL_out fun v hv=>(J2.mp nd).1 (wem hv).1,aD hk];simp
 |p::P,w::vs,i+1,m,nd,h1,h2,hk=>by
  show bindL kindOf ((p,w)::P.zip vs) m x=_;unfold bindL;exact bindL_get (i:=i) (J2.mp nd).2 (by simpa using h1) (by simpa using h2) hk
theorem bindC_get{kindOf:Str->Option NameKind}{x:Str}{v:ζ}:∀{P:List Str} {vs:List ζ} {i:Nat} {m:L4},P.Nodup->P[i]? =some x->vs[i]? =some v->kindOf x≠some .local->
  bindC kindOf (P.zip vs) m x=some v
 |[],_,_,_,_,h,_,_=>by simp at h
 |_::_,[],_,_,_,_,h,_=>by simp at h
 |p::P,w::vs,0,m,nd,h1,h2,hk=>by
  simp at h1 h2;subst h1;subst h2;show bindC kindOf ((p,w)::P.zip vs) m p=_;unfold bindC;rw[bindC_out fun v hv=>(J2.mp nd).1 (wem hv).1,aA hk];simp
 |p::P,w::vs,i+1,m,nd,h1,h2,hk=>by
  show bindC kindOf ((p,w)::P.zip vs) m x=_;unfold bindC;exact bindC_get (i:=i) (J2.mp nd).2 (by simpa using h1) (by simpa using h2) hk
noncomputable def start(N:List Str)(vs:List V):St:=vs.map some++List.replicate (N.length-vs.length) none
noncomputable def cxOf(CX:CXT)(P:ξ)(w:τ)(K:W.Frag)(mg:L4)(base:Heap)(N:List Str)(qual:Str)(scope:Scope)(f:Addr)(cd:ζ)(A:Around)(outer:List Env)(s:η)(H:Hp)(E:XK):Cx where
 prog:=P
 w:=w
 K:=K
 mg:=mg
 base:=base
 A:=A.deeper (envOfC qual scope s.heap.objs.size f cd)
 N:=N
 s₀:=s
 H₀:=H
 env:=envOfC qual scope s.heap.objs.size f cd
 outer:=outer
 stack:=envOfC qual scope s.heap.objs.size f cd::outer
 ex:=[]
 calm:=true
 fn:=fun _=>true
 pn:=[]
 xe:=fun e s'=>wpAny (model P w) (A.deeper (envOfC qual scope s.heap.objs.size f cd)) (leaving (envOfC qual scope s.heap.objs.size f cd) e) (fun _ s''=>CX outer H s E e s'') (fun e' s''=>CX outer H s E e' s'') s'
theorem cell_has{sc:Scope}{n:Nat}{x:Str}(h:sc.names.lookup x=some .cell):∃c,(cellsFrom n sc.names []).lookup x=some c:=by
 have q:=wei sc.names n [] (.inl h);exact Option.isSome_iff_exists.mp q
theorem inv_start{CX:CXT}{P:ξ}{w:τ}{K:W.Frag}{mg:L4}{base:Heap}{N ps:List Str}{qual:Str}{scope:Scope}{f:Addr}{cd:ζ}{A:Around}{outer:List Env}{s s1:η}{H:Hp}{E:XK}{us:List ζ}{vs:List V}
  (S:FnScope N ps scope)(hd:A.handled=none)(e0:Env0 P w K mg base A outer s H)(hl:vs.length=ps.length)(r:Vals vs us)(x:InCallC s s.heap.objs.size (bindL (envOfC qual scope s.heap.objs.size f cd).kindOf (ps.zip us) fun _=>none) (cellsFrom (s.heap.objs.size+1) scope.names []) (bindC (envOfC qual scope s.heap.objs.size f cd).kindOf (ps.zip us) fun _=>none) s1):
  Inv (cxOf CX P w K mg base N qual scope f cd A outer s H E) [] (start N vs) H s1:=by
 have hpl:ps.length<=N.length:=by have:=kO List.length S.pre;rw[tL]at this;omega
 obtain⟨h1,tk,rfl,hk⟩:=x.done;have noA:∀b:Addr,b∉(cxOf CX P w K mg base N qual scope f cd A outer s H E).ex:=fun b z=>absurd (show b∈([]:List Addr)from z) (by simp);refine⟨⟨e0.mod,S.kind,rfl,rfl,aY _,fun y z c h1 h2=> ?_,fun y hy=> ?_,fun y c _ h=> ?_,fun _=>hd,Around.frames_deeper e0.frames,.inr ⟨rfl,rfl⟩,fun b z=>absurd z (noA b),e0.bs,e0.bsz,fun b _ _=>noA b,fun b z=>absurd z (noA b),e0.funs,e0.frf⟩,
  rfl,e0.bare,Un.kept hk,⟨_,x.toInCall.ns,fun i y v h1 h2 h3=> ?_⟩,fun y c h=>⟨_,x.cell y c h⟩,e0.hok.fresh (aY _),fun y c h=> ?_,fun p hp=>absurd (show p∈([]:L1)from hp) (by simp),e0.hok.kept hk,?_⟩
 ·exact name_of_addr x.apart (J6 h1) (J6 h2)
 ·have hy:scope.names.lookup y=some .cell\/scope.names.lookup y=some .free:=hy;rcases hy with hy|hy
  ·exact cell_has hy
  ·exact absurd rfl (S.nofree _ (J6 hy))
 ·exact dH (x.above y c (J6 h))
 ·have hi:i<vs.length:=by
   unfold start at h2;by_cases hi:i<vs.length
   ·exact hi
   ·rw[ydl (by simpa using hi)]at h2;rw[wdt]at h2;split at h2<;>cases h2
  have ha:vs[i]? =some v:=by
   unfold start at h2;rw[yeh (by simpa using hi),dU]at h2;cases e:vs[i]? with
   |none=>rw[e]at h2;cases h2
   |some a=>rw[e]at h2;cases h2;rfl
  obtain⟨u,hu,rv⟩:=r.get ha;have hp:ps[i]? =some y:=by
   rw[<-S.pre,List.getElem?_take_of_lt (by omega)];exact h1
  have ndP:ps.Nodup:=by rw[<-S.pre];exact S.nd.sublist (List.take_sublist _ _)
  refine⟨u,rv,?_⟩;rcases S.par y (tM hp)with k|k
  ·exact .inl ⟨k,bindL_get ndP hp hu k⟩
  ·obtain⟨c,e⟩:=cell_has (n:=s.heap.objs.size+1) k;refine .inr ⟨.inl k,c,e,?_⟩;have q:=x.cell y c e;rw[bindC_get ndP hp hu (by show scope.names.lookup y≠_;rw[k];decide)]at q;exact q
 ·exact e0.hok.fresh (dH (x.above y c (J6 h)))
 ·unfold start;show _=N.length;rw[qz,aL,Uh];omega
theorem fn_of{CX:CXT}{P:ξ}{w:τ}{K:W.Frag}{mg:L4}{base:Heap}{k:Nat}{f:Addr}{name qual:Str}{params:Arguments}{body:List Stmt}{scope:Scope}{dV kV doc pm cdv ct oc:ζ}{an od:Option Addr}{osl:Array (Option ζ)}{N ps:List Str}{sp:Sp}(lk:K.lookup f=some ⟨oc,od,.func (PySem.W.fnOf name qual params body scope dV kV doc pm an cdv ct),osl⟩)(hcd:PySem.W.codeIn K cdv qual=true)(S:FnScope N ps scope)(len:∀vs H Q E,sp vs H Q E->vs.length=ps.length)(hbody:∀(A:Around) (outer:List Env) (s:η) (H:Hp) (vs:List V) (Q:VK) (E:XK),Room k (A.deeper (envOfC qual scope s.heap.objs.size f cdv))->sp vs H Q E->
   ∃t,PSs (cxOf CX P w K mg base N qual scope f cdv A outer s H E) body t/\t {nx:=fun _ H'=>Q .non H',rt:=Q} (start N vs) H):
  FnOk P w K mg base CX (k+1) f (PySem.W.fnOf name qual params body scope dV kV doc pm an cdv ct) ps sp:=by
 refine⟨len,fun A outer s H args us vs Q E hr e0 hb r hsp=> ?_⟩;have hl:=len _ _ _ _ hsp;have KX:K.In s.heap:=e0.mod.kin.keeps fun b o e=>(e0.bs b o e).1;have lim:s.heap.NoLimit:=e0.mod.nolimit.keeps fun b o e=>(e0.bs b o e).1;have hkind:∀y∈ps.zip us,scope.names.lookup y.1=some .local\/(scope.names.lookup y.1=some .cell/\((cellsFrom (s.heap.objs.size+1) scope.names []).lookup y.1).isSome=true):=fun⟨n,v⟩ hy=>by
  rcases S.par n (wem hy).1 with q|q
  ·exact .inl q
  ·exact .inr ⟨q,wei _ _ _ (.inl q)⟩
 refine codeAny_call_function hr.depth (KX _ _ lk) rfl S.co S.gen rfl (PySem.W.codeRec_of KX hcd) (hb _ _ _ _ ?_);refine wpAny_newFunctionEnv_cells S.kind hkind fun env he s1 x=> ?_;subst he;refine⟨lim.keeps x.toInCall.keep,codeAny_func ?_⟩;obtain⟨t,ht,hq⟩:=hbody A outer s H vs Q E (hr.deeper _) hsp;have I:Inv (cxOf CX P w K mg base N qual scope f cdv A outer s H E) [] (start N vs) H s1:=inv_start S hr.hd e0 hl r x;refine Ul (ht [] s1 (start N vs) H _ I hq) (fun fl s' hs=> ?_) fun e s' hs=>hs;have fin:∀{σ':St} {H':Hp} {v:V} {u:ζ},Inv (cxOf CX P w K mg base N qual scope f cdv A outer s H E) [] σ' H' s'->RelV v u->Q v H'->CE outer P w H s Q u s':=
  fun{σ' H' v u} J rv q=>⟨v,H',J.os,J.bare,J.base,J.hok,rv,q⟩
 cases fl with
 |ret u=>
  obtain⟨v,σ',H',J,rv,q⟩:=hs;exact fin J rv q
 |next=>
  obtain⟨σ',H',J,q⟩:=hs;exact fin (v:=V.non) (u:=Value.none) J rfl q
 |brk=>
  obtain⟨_,_,_,q⟩:=hs;exact False.elim q
 |cont=>
  obtain⟨_,_,_,q⟩:=hs;exact False.elim q
section
variable{X:Cx}{x:Str}{p pos:Pos}{e:Expr}{es:List Expr}{t:TA}{id T:String}{r:List V->Hp->VK->Prop}
noncomputable def tCB(r:List V->Hp->VK->Prop)(t:TA):TE:=fun σ H Q=>t σ H fun vs H1=>r vs H1 Q
theorem pe_callB(hc:CallR X (.builtin id) r)(hg:Gl X x)(hm:X.mg x=none)(hv:bootBuiltins x=some (.builtin id))(ha:PA X (e::es) t)(hn:x≠"__name__":=by decide)(hdb:(x==("__debug__":Str))=false:=by decide)(he:starEach (e::es) X.env=(false,eval e X.env)::starEach es X.env:=by rfl)(hpl:(backTo pos (starEach es X.env)).any (·.1)=false:=by rfl):PE X (.Call (.Name x p) (e::es) [] pos) (tCB r t):=by
 intro pins s σ H Q I h;refine Ur (ld_blt I hg hm hv ?_ hn hdb);exact PyProof.Rows.callWith_builtin1 (thn (ha pos pins s σ H _ I h) fun us s1 ⟨vs,H1,I1,r1,q1⟩=>hc pins s1 σ H1 vs us Q I1 r1 q1) he hpl
theorem pB{X:Cx}{x:Str}{id:String}{r:List V->Hp->VK->Prop}{e:Expr}{es:List Expr}{t:TA}{p pos:Pos}(hc:CallR X (.builtin id) r)(hm:X.mg x=none)(ha:PA X (e::es) t)(hg:Gl X x:=by rfl)(hv:bootBuiltins x=some (.builtin id):=by decide+kernel)(hn:x≠"__name__":=by decide)(hdb:(x==("__debug__":Str))=false:=by decide)(he:starEach (e::es) X.env=(false,eval e X.env)::starEach es X.env:=by rfl)(hpl:(backTo pos (starEach es X.env)).any (·.1)=false:=by rfl):PE X (.Call (.Name x p) (e::es) [] pos) (tCB r t):=pe_callB hc hg hm hv ha hn hdb he hpl
theorem pe_callTy(hc:CallR X (.type T) r)(hg:Gl X x)(hm:X.mg x=none)(hv:bootBuiltins x=some (.type T))(ha:PA X (e::es) t)(hn:x≠"__name__":=by decide)(hdb:(x==("__debug__":Str))=false:=by decide)(he:starEach (e::es) X.env=(false,eval e X.env)::starEach es X.env:=by rfl)(hpl:(backTo pos (starEach es X.env)).any (·.1)=false:=by rfl):PE X (.Call (.Name x p) (e::es) [] pos) (tCB r t):=by
 intro pins s σ H Q I h;refine Ur (ld_blt I hg hm hv ?_ hn hdb);exact Py (thn (ha pos pins s σ H _ I h) fun us s1 ⟨vs,H1,I1,r1,q1⟩=>hc pins s1 σ H1 vs us Q I1 r1 q1) he hpl
theorem pT{X:Cx}{x:Str}{T:String}{r:List V->Hp->VK->Prop}{e:Expr}{es:List Expr}{t:TA}{p pos:Pos}(hc:CallR X (.type T) r)(hm:X.mg x=none)(ha:PA X (e::es) t)(hg:Gl X x:=by rfl)(hv:bootBuiltins x=some (.type T):=by decide+kernel)(hn:x≠"__name__":=by decide)(hdb:(x==("__debug__":Str))=false:=by decide)(he:starEach (e::es) X.env=(false,eval e X.env)::starEach es X.env:=by rfl)(hpl:(backTo pos (starEach es X.env)).any (·.1)=false:=by rfl):PE X (.Call (.Name x p) (e::es) [] pos) (tCB r t):=pe_callTy hc hg hm hv ha hn hdb he hpl
end
end L2
namespace HT
open PySem PyProof.Rows
noncomputable def lexLt:List Int->List Int->Bool
 |[],[]=>false
 |[],_::_=>true
 |_::_,[]=>false
 |x::xs,y::ys=>if x=y then lexLt xs ys else decide (x<y)
theorem lexLt_cons(x y:Int)(xs ys:List Int):lexLt (x::xs) (y::ys)=if x=y then lexLt xs ys else decide (x<y):=rfl
theorem lexLt_nil_nil:lexLt [] []=false:=rfl
theorem lexLt_nil_cons(y:Int)(ys:List Int):lexLt [] (y::ys)=true:=rfl
theorem lexLt_cons_nil(x:Int)(xs:List Int):lexLt (x::xs) []=false:=rfl
theorem eqAt_int(A:Around)(s:η)(a:Int)(t:Tok)(c:Int)(u:Tok):∃e,SeqAt.EqAt A s (.int a t) (.int c u) e/\(e=true↔a=c):=
 ⟨(a==c),SeqAt.EqAt.int_int a t c u,by simp⟩
theorem rcLt_int(A:Around)(s:η)(a:Int)(t:Tok)(c:Int)(u:Tok)(prog:ξ)(w:τ)(E:L3)(Q:L3)(h:Q (.bool (decide (a<c))) s):
  wpAny (model prog w) A (richCompare .Lt (.int a t) (.int c u)) Q E s:=
 (PyProof.Rows.lt_int h:wpAny (model prog w) A (compareOp .Lt (.int a t) (.int c u)) Q E s)
section
open PySem.SeqAt
open PySem.AutoSeq1 (wpAny_loadPart')
open PySem.MeetsSeq PySem.MeetsSeq2 PySem.MeetsSeq3
theorem tuple_lt_ints(l b:Addr)(items items2:Array ζ)(n n2:Nat)(dd dd2:Option Addr)(sl sl2:Array (Option ζ))(ns ms:List Int)(hi:IntsAre items.toList ns)(hj:IntsAre items2.toList ms):
  Meets (Builtin.«tuple.__lt__» ⟨[.ref l,.ref b],[]⟩)
   (fun _ R s=>s.heap.get? l=some {cls:= .type "tuple",dict:=dd,data:= .seq items n,slots:=sl}/\s.heap.get? b=some {cls:= .type "tuple",dict:=dd2,data:= .seq items2 n2,slots:=sl2}/\
    R (.ok (.ret (.bool (lexLt ns ms)))) s):=
 .of_wp fun prog w A R s h=>by
  obtain⟨hp,g,d,tk,os⟩:=s;obtain⟨hl,hb,h⟩:=h;have f2:=AutoSeq1.sub_tuple_tuple;have z1:items.size=ns.length:=by rw[<-hi.length];simp
  have z2:items2.size=ms.length:=by rw[<-hj.length];simp
  wp_walk using wpAny_loadPart' hl,wpAny_loadPart' hb,wpAny_forIn_list _ (fun rest b s'=>b.1=none/\s'=⟨hp,g,d,tk,os⟩/\∃(vs ws:List ζ) (ns' ms':List Int),rest=vs.zip ws/\
   IntsAre vs ns'/\IntsAre ws ms'/\ns'.length+items2.size=ms'.length+items.size/\R (.ok (.ret (.bool (lexLt ns' ms')))) ⟨hp,g,d,tk,os⟩) _
  case turn=>
   rintro⟨y,x⟩ rest b s' ⟨hb',rfl,vs,ws,ns',ms',hz,hvi,hwi,hlen,hR⟩;cases hvi with
   |nil=>rw[wdj]at hz;cases hz
   |cons a t hvi'=>
    cases hwi with
    |nil=>rw[wdb]at hz;cases hz
    |cons c u hwi'=>
     rw[X8]at hz;injection hz with hyx hrest
     injection hyx with hy hx
     subst hy hx;rw[lexLt_cons]at hR;simp only[yV]at hlen;obtain⟨e,he,hiff⟩:=eqAt_int A.in1 ⟨hp,g,d,tk,os⟩ a t c u;refine bW (he prog w _ _ ?_);cases e with
     |true=>
      rw[aD (hiff.mp rfl)]at hR
      wp_walk
      exact⟨rfl,rfl,_,_,_,_,hrest,hvi',hwi',by omega,hR⟩
     |false=>
      rw[aA (fun q=>absurd (hiff.mpr q) vD)]at hR;have hri:=rcLt_int A.in1 ⟨hp,g,d,tk,os⟩ a t c u prog w
      wp_walk using hri
      exact⟨_,rfl,by simpa using hR⟩
  case fin=>
   rintro⟨b1,b2⟩ s' ⟨hb',rfl,vs,ws,ns',ms',hz,hvi,hwi,hlen,hR⟩;simp only at hb';subst hb';have hv:lexLt ns' ms'=decide (items.size<items2.size):=by
    cases hvi with
    |nil=>
     cases hwi with
     |nil=>
      simp only[Pn]at hlen;rw[lexLt_nil_nil];exact(fW (by omega)).symm
     |cons c u hw=>
      simp only[Pn,yV]at hlen;rw[lexLt_nil_cons];exact(cW (by omega)).symm
    |cons a t hv=>
     cases hwi with
     |nil=>
      simp only[Pn,yV]at hlen;rw[lexLt_cons_nil];exact(fW (by omega)).symm
     |cons c u hw=>
      rw[X8]at hz;cases hz
   rw[hv]at hR
   wp_walk
   exact⟨_,rfl,by simpa[Builtin.Tuple.tupleCompareSizes]using hR⟩
  case h=>
   exact⟨rfl,rfl,items.toList,items2.toList,ns,ms,rfl,hi,hj,by omega,h⟩
end
section
variable{prog:ξ}{w:τ}{A:Around}{E:L3}{s:η}
theorem lt_tupInts{l b:Addr}{items items2:Array ζ}{ns ms:List Int}{Q:L3}(hl:IsTup s.heap l items)(hb:IsTup s.heap b items2)(hi:IntsAre items.toList ns)(hj:IntsAre items2.toList ms)(hu:A.units<cLine)(h:Q (.bool (lexLt ns ms)) s):wpAny (model prog w) A (compareOp .Lt (.ref l) (.ref b)) Q E s:=by
 obtain⟨⟨cls,dd,data,sl⟩,ho,hc,n,hd⟩:=id hl;obtain⟨⟨cls2,dd2,data2,sl2⟩,ho2,hc2,n2,hd2⟩:=id hb;simp only at hc hd hc2 hd2;subst hc hd hc2 hd2;exact richCompare_meets_room (op:= .Lt) ⟨_,ho,rfl⟩ ⟨_,ho2,rfl⟩ PySem.F.slot_tuple_lt PySem.F.entry_tuple_lt (PySem.F.args_tuple_lt_2 _ _) (tuple_lt_ints l b items items2 n n2 dd dd2 sl sl2 ns ms hi hj)
  ⟨ho,ho2,show Value.bool (lexLt ns ms)≠Value.notImplemented/\Q (.bool (lexLt ns ms)) s from⟨(fun x=>nomatch x),h⟩⟩ hu
theorem cat_tup{t b:Addr}{vs ws:List ζ}{Q:L3}(ht:IsTup s.heap t vs.toArray)(hb:IsTup s.heap b ws.toArray)(hv:vs≠[])(h1:ws=[]->Q (.ref t) s)(h2:ws≠[]->Q (.ref s.heap.objs.size) {s with heap:=s.heap.push {cls:= .type "tuple",data:= .seq (vs++ws).toArray}})(hsz:vs.length+ws.length<=sizeLine):wpAny (model prog w) A (binaryOp .Add (.ref t) (.ref b)) Q E s:=by
 obtain⟨⟨cls,dd,data,sl⟩,ho,hc,n,hd⟩:=id ht;obtain⟨⟨cls2,dd2,data2,sl2⟩,ho2,hc2,n2,hd2⟩:=id hb;simp only at hc hd hc2 hd2;subst hc hd hc2 hd2;have e:vs.toArray++ws.toArray=(vs++ws).toArray:=by simp
 by_cases hw:ws=[]
 ·exact concat_meets ⟨_,ho,rfl⟩ ⟨_,ho2,rfl⟩ wdz seq_tuple_add wbv wbq (wbl _ _)
   (tuple_addW1 t b vs.toArray ws.toArray n n2 dd dd2 sl sl2 (by simpa using hv) (by simp[hw])) ⟨ho,ho2,h1 hw⟩
 ·refine concat_meets ⟨_,ho,rfl⟩ ⟨_,ho2,rfl⟩ wdz seq_tuple_add wbv wbq (wbl _ _)
   (tuple_addW2 t b vs.toArray ws.toArray n n2 dd dd2 sl sl2 (by simpa using hv) (by simpa using hw) (by rw[iC,iC];exact hsz)) ⟨ho,ho2,?_⟩
  rw[e];exact h2 hw
noncomputable def sIx(n d:Nat):Option Int->Nat
 |none=>d
 |some v=>if v<0 then(v+(n:Int)).toNat else min v.toNat n
theorem sIx_none(n d:Nat):sIx n d none=d:=rfl
theorem sIx_nat(n d k:Nat):sIx n d (some (k:Int))=min k n:=by
 show(if(k:Int)<0 then((k:Int)+(n:Int)).toNat else min (k:Int).toNat n)=min k n;rw[aA (by omega),Im]
end
end HT
namespace L2
open PySem PySem.Spec PyProof.Rows
noncomputable abbrev TO:=St->Hp->(Option Int->Hp->Prop)->Prop
noncomputable def PO(X:Cx)(e:Option Expr)(t:TO):Prop:=
 ∀(pins:L1) (s:η) (σ:St) (H:Hp) (Q:Option Int->Hp->Prop),Inv X pins σ H s->t σ H Q->
  wpAny (model X.prog X.w) X.A (evalPart e X.env) (fun u s'=>∃o H',Inv X pins σ H' s'/\IsPart u o/\Q o H') X.xe s
noncomputable def tNoPart:TO:=fun _ H Q=>Q none H
noncomputable def tPart(t:TE):TO:=fun σ H Q=>t σ H fun x H1=>∃i,x= .int i/\Q (some i) H1
theorem TV{ns:List Int}:∀{us:List ζ},Vals (ns.map V.int) us->IntsAre us ns:=by
 induction ns with
 |nil=>intro us r;rw[Yl]at r;cases r;exact .nil
 |cons n ns ih=>
  intro us r;rw[yS]at r;cases r with
  |cons r1 r2=>
   obtain⟨t,e⟩:=r1;subst e;exact .cons n t (ih r2)
section
variable{X:Cx}{e:Expr}{te:TE}{lo hi:Option Expr}{tl th:TO}{pos p2:Pos}
theorem po_none:PO X none tNoPart:=by
 intro pins s σ H Q I h;rw[evalPart_none];exact iY ⟨none,H,I,.none,h⟩
theorem po_some(h:PE X e te):PO X (some e) (tPart te):=by
 intro pins s σ H Q I hw;rw[evalPart_some];refine thn (h pins s σ H _ I hw) fun u s1 ⟨x,H1,I1,r1,q1⟩=> ?_;obtain⟨i,rfl,q⟩:=q1;obtain⟨t,rfl⟩:=r1;exact⟨some i,H1,I1,.int i t,q⟩
noncomputable def SlR(X:Cx)(r:V->Option Int->Option Int->Hp->VK->Prop):Prop:=
 ∀(pins:L1) (s:η) (σ:St) (H:Hp) (x:V) (v vl vu:ζ) (lo hi:Option Int) (sl:Addr) (Q:VK),Inv X pins σ H s->RelV x v->s.heap.IsSliceOf sl vl vu .none->IsPart vl lo->IsPart vu hi->r x lo hi H Q->
  ∃T id,typeLookup (.type T) "__getitem__"=pure (some (.builtin id))/\s.TypeIs v T/\wpAny (model X.prog X.w) X.A (getItem v (.ref sl)) (EP X pins σ Q) X.xe s
noncomputable def tSl(r:V->Option Int->Option Int->Hp->VK->Prop)(te:TE)(tl th:TO):TE:=fun σ H Q=>te σ H fun x H1=>tl σ H1 fun l H2=>th σ H2 fun u H3=>r x l u H3 Q
theorem pe_slice{r:V->Option Int->Option Int->Hp->VK->Prop}(hr:SlR X r)(he:PE X e te)(hl:PO X lo tl)(hu:PO X hi th):PE X (.Subscript e (.Slice lo hi none p2) pos) (tSl r te tl th):=by
 intro pins s σ H Q I h;refine Subscript_ (thn (he pins s σ H _ I h) fun v s1 ⟨x,H1,I1,r1,q1⟩=> ?_);refine wpAny_Slice (thn (hl pins s1 σ H1 _ I1 q1) fun vl s2 ⟨l,H2,I2,pl,q2⟩=>thn (hu pins s2 σ H2 _ I2 q2) fun vu s3 ⟨u,H3,I3,pu,q3⟩=> ?_);rw[evalPart_none];refine iY ?_;have I4:Inv X pins σ H3 {s3 with heap:=s3.heap.push {cls:= .type "slice",data:= .fields #[vl,vu,.none]}}:=I3.kept (t':=s3.toks) fun b ob q=>mJ _ q;obtain⟨T,id,hT,ht,hg⟩:=hr pins {s3 with heap:=s3.heap.push {cls:= .type "slice",data:= .fields #[vl,vu,.none]}} σ H3 x v vl vu l u s3.heap.objs.size Q I4 r1 (Heap.IsSliceOf.new ..) pl pu q3;show wpAny (model X.prog X.w) X.A (subscriptTail e (.Slice lo hi none p2) v (.ref s3.heap.objs.size)) (EP X pins σ Q) X.xe {s3 with heap:=s3.heap.push {cls:= .type "slice",data:= .fields #[vl,vu,.none]}};exact tail_any (ops:=[.ref s3.heap.objs.size,v]) ht hT hg (by with_unfolding_all rfl)
noncomputable def cutV(xs:List V)(lo hi:Option Int):List V:=(xs.drop (HT.sIx xs.length 0 lo)).take (HT.sIx xs.length xs.length hi-HT.sIx xs.length 0 lo)
theorem cutV_length(xs:List V)(lo hi:Option Int):(cutV xs lo hi).length<=xs.length:=by
 unfold cutV;rw[tL,List.length_drop];omega
noncomputable def rLtT(K:W.Frag):R2:=fun x y H Q=>∃a b ns ms,x= .ref a/\y= .ref b/\SqT K H a (ns.map V.int)/\SqT K H b (ms.map V.int)/\Q (.bl (HT.lexLt ns ms)) H
theorem op_ltT(hu:X.A.units<cLine):OpR X (compareOp .Lt) (rLtT X.K):=by
 intro pins s σ H x y v u Q I rx ry h;obtain⟨a,b,ns,ms,rfl,rfl,ha,hb,q⟩:=h;cases rx;cases ry;obtain⟨its,r1,p1,_⟩:=I.tuple ha;obtain⟨its2,r2,p2,_⟩:=I.tuple hb;have i1:IntsAre its.toArray.toList ns:=TV r1;have i2:IntsAre its2.toArray.toList ms:=TV r2;exact HT.lt_tupInts p1 p2 i1 i2 hu ⟨.bl (HT.lexLt ns ms),H,I,rfl,q⟩
noncomputable def rCatT(K:W.Frag):R2:=fun x y H Q=>∃a b xs ys,x= .ref a/\y= .ref b/\SqT K H a xs/\SqT K H b ys/\xs≠[]/\xs.length+ys.length<=sizeLine/\
 (ys=[]->Q (.ref a) H)/\(ys≠[]->∀p,H p=none->Q (.ref p) (upd H p (.tup (xs++ys))))
theorem Vals.nil_iff{xs:List V}{us:List ζ}(r:Vals xs us):us=[]↔xs=[]:=by
 cases r with
 |nil=>simp
 |cons _ _=>simp
theorem op_catT:OpR X (binaryOp .Add) (rCatT X.K):=by
 intro pins s σ H x y v u Q I rx ry h;obtain⟨a,b,xs,ys,rfl,rfl,ha,hb,hx,hz,q1,q2⟩:=h;cases rx;cases ry;obtain⟨its,r1,p1,_⟩:=I.tuple ha;obtain⟨its2,r2,p2,_⟩:=I.tuple hb;refine HT.cat_tup p1 p2 (fun z=>hx (r1.nil_iff.mp z)) (fun z=>⟨.ref a,H,I,rfl,q1 (r2.nil_iff.mp z)⟩) (fun z=> ?_) (by rw[<-r1.length,<-r2.length];exact hz);refine⟨.ref s.heap.objs.size,_,I.laid (t':=s.toks) (o:= .tup (xs++ys)) (fun b ob q=>mJ _ q) (aY _) ?_,rfl,q2 (fun w=>z (r2.nil_iff.mpr w)) _ (I.hok.fresh (aY _))⟩;exact⟨by rw[qz];exact hz,_,r1.append r2,Xk _ _⟩
end
noncomputable def ixN(n:Nat)(i:Int):Option Nat:=if 0<=i then(if i<n then some i.toNat else none)else if -(n:Int)<=i then some (i+n).toNat else none
noncomputable def atI{α:Type}(xs:List α)(i:Int):Option α:=(ixN xs.length i).bind fun j=>xs[j]?
theorem ixN_seq{n:Nat}{i:Int}{j:Nat}(h:ixN n i=some j):seqIndex? i n=some j/\j<n/\ -(n:Int)<=i/\i<n:=by
 unfold ixN at h;by_cases h0:0<=i
 ·rw[aD h0]at h;by_cases h1:i<n
  ·rw[aD h1]at h;have e:i.toNat=j:=sV h;exact⟨by rw[seqIndex_of h0 h1,e],by omega,by omega,h1⟩
  ·rw[aA h1]at h;cases h
 ·rw[aA h0]at h;by_cases h1: -(n:Int)<=i
  ·rw[aD h1]at h;have e:(i+n).toNat=j:=sV h;exact⟨by rw[seqIndex_neg (by omega) h1,e],by omega,h1,by omega⟩
  ·rw[aA h1]at h;cases h
theorem atI_get{α:Type}{xs:List α}{i:Int}{v:α}(h:atI xs i=some v):∃j,seqIndex? i xs.length=some j/\xs[j]? =some v/\j<xs.length/\ -(xs.length:Int)<=i/\i<xs.length:=by
 unfold atI at h;cases e:ixN xs.length i with
 |none=>rw[e]at h;cases h
 |some j=>
  rw[e]at h;obtain⟨h1,h2,h3,h4⟩:=ixN_seq e;exact⟨j,h1,h,h2,h3,h4⟩
theorem atI_nat{α:Type}{xs:List α}{j:Nat}{v:α}(h:xs[j]? =some v):atI xs (j:Int)=some v:=by
 have hj:j<xs.length:=(nF.mp h).1;have e:ixN xs.length (j:Int)=some j:=by
  unfold ixN;rw[aD (by omega),aD (by omega)];simp
 unfold atI;rw[e];exact h
noncomputable def PlainIx(b:Expr):Prop:=∀o i,subscripted b false o i=operate [o,i] (getItem o i)
noncomputable def IxR(X:Cx)(r:R2):Prop:=
 ∀(value slice:Expr) (pins:L1) (s:η) (σ:St) (H:Hp) (x y:V) (v u:ζ) (Q:VK),Inv X pins σ H s->RelV x v->RelV y u->r x y H Q->
  subscripted slice false v u=operate [v,u] (getItem v u)->wpAny (model X.prog X.w) X.A (subscriptTail value slice v u) (EP X pins σ Q) X.xe s
noncomputable def MtR(X:Cx)(id:String)(r:V->List V->Hp->VK->Prop):Prop:=
 ∀(pins:L1) (s:η) (σ:St) (H:Hp) (x:V) (xs:List V) (v:ζ) (us:List ζ) (Q:VK),Inv X pins σ H s->RelV x v->Vals xs us->r x xs H Q->
  wpAny (model X.prog X.w) X.A (call (.builtin id) (v::us)) (EP X pins σ Q) X.xe s
section
variable{X:Cx}{a b:Expr}{ta tb:TE}{pos:Pos}
theorem aR{r:R2}(hr:IxR X r)(ha:PE X a ta)(hb:PE X b tb)(hs:PlainIx b:=by exact fun _ _=>rfl):PE X (.Subscript a b pos) (tOp r ta tb):=by
 intro pins s σ H Q I h;exact Subscript_ (binT ha hb I h fun v u s2 x y H2 I2 rx ry q=>hr a b pins s2 σ H2 x y v u Q I2 rx ry q (hs _ _))
noncomputable def rIxL(K:W.Frag):R2:=fun x y H Q=>∃p xs i v,x= .ref p/\y= .int i/\SqL K H p xs/\atI xs i=some v/\Q v H
noncomputable def rIxT(K:W.Frag):R2:=fun x y H Q=>∃p xs i v,x= .ref p/\y= .int i/\SqT K H p xs/\atI xs i=some v/\Q v H
theorem eF:IxR X (rIxL X.K):=by
 intro value slice pins s σ H x y v u Q I rx ry h hs;obtain⟨p,xs,i,z,rfl,rfl,hq,he,q⟩:=h;cases rx;obtain⟨t,rfl⟩:=ry;obtain⟨its,r,pl,hz⟩:=I.list hq;obtain⟨j,h1,h2,h3,h4,h5⟩:=atI_get he;obtain⟨w,ew,rw'⟩:=r.get h2;have hl:=r.length;have hn:=line63;have fin:EP X pins σ Q w s:=⟨z,H,I,rw',q⟩;by_cases h0:0<=i
 ·have hj:i.toNat=j:=by
   rw[seqIndex_of h0 h5]at h1;exact sV h1
  exact item_listR pl.isList h0 (by omega) (by rw[hj];simpa using ew) fin hs
 ·have hj:(i+(its.toArray.size:Int)).toNat=j:=by
   rw[seqIndex_neg (by omega) h4]at h1;rw[iC,<-hl];exact sV h1
  exact subscriptTail_builtinR (x:=w) pl.isList.typeIs slot_list_getitem.lookup
   (wpAny_getItem_list_neg (Q:=fun r s'=>r=w/\EP X pins σ Q r s') pl.isList (by omega) (by rw[iC]<;>omega) (by omega) (by rw[hj];simpa using ew) ⟨rfl,fin⟩) hs
theorem cI:IxR X (rIxT X.K):=by
 intro value slice pins s σ H x y v u Q I rx ry h hs;obtain⟨p,xs,i,z,rfl,rfl,hq,he,q⟩:=h;cases rx;obtain⟨t,rfl⟩:=ry;obtain⟨its,r,pl,hz⟩:=I.tuple hq;obtain⟨j,h1,h2,h3,h4,h5⟩:=atI_get he;obtain⟨w,ew,rw'⟩:=r.get h2;have hl:=r.length;have hn:=line63;have fin:EP X pins σ Q w s:=⟨z,H,I,rw',q⟩;exact subscriptTail_builtinR (x:=w) pl.typeIs slot_tuple_getitem.lookup
  (getItem_tuple (j:=j) (Q:=fun r s'=>r=w/\EP X pins σ Q r s') pl (by omega) (by omega) (by rw[iC,<-hl];exact h1) (by simpa using ew) ⟨rfl,fin⟩) hs
theorem mapSeq_set(its:List ζ)(n j:Nat)(u:ζ):Obj.mapSeq (·.setIfInBounds j u) {cls:= .type "list",data:= .seq its.toArray n}={cls:= .type "list",data:= .seq (its.set j u).toArray n}:=by
 simp[Obj.mapSeq]
theorem Inv.lst{pins:L1}{σ:St}{H:Hp}{s:η}{p:Addr}{xs:List V}(I:Inv X pins σ H s)(h:H p=some (.lst xs)):
  ∃(its:List ζ) (n:Nat),Vals xs its/\s.heap.get? p=some {cls:= .type "list",data:= .seq its.toArray n}/\xs.length<=sizeLine:=by
 obtain⟨z,its,n,r,e⟩:=I.hok p _ h;exact⟨its,n,r,e,z⟩
theorem Inv.lstUpd{pins:L1}{σ:St}{H:Hp}{s:η}{p:Addr}{xs ys:List V}{its its':List ζ}{n n':Nat}{f:Obj->Obj}(I:Inv X pins σ H s)(h:H p=some (.lst xs))(ho:s.heap.get? p=some {cls:= .type "list",data:= .seq its.toArray n})(hf:f {cls:= .type "list",data:= .seq its.toArray n}={cls:= .type "list",data:= .seq its'.toArray n'})(r:Vals ys its')(hz:ys.length<=sizeLine)(t:Nat):
  Inv X pins σ (upd H p (.lst ys)) {s with heap:=s.heap.update p f,toks:=t}:=by
 have e:(s.heap.update p f).get? p=some {cls:= .type "list",data:= .seq its'.toArray n'}:=by
  rw[Heap.get?_update_self f ho (by rw[hf]<;>rfl),hf]
 refine I.write (x:=p) (e:=p) (by rw[h];trivial) (.inl rfl) (fun b u hb q=>(wbw _ _ (lA hb)).trans q) ⟨_,e⟩ ?_;exact⟨hz,its',n',r,e⟩
noncomputable def rSetL:V->V->V->Hp->(Hp->Prop)->Prop:=fun o i v H Q=>∃p xs k j,o= .ref p/\i= .int k/\H p=some (.lst xs)/\ixN xs.length k=some j/\Q (upd H p (.lst (xs.set j v)))
theorem PL:PSet X rSetL:=by
 intro pins s σ H o i v ov iv u Q I ro ri rv h;obtain⟨p,xs,k,j,rfl,rfl,hp,hj,q⟩:=h;cases ro;obtain⟨t,rfl⟩:=ri;obtain⟨its,n,r,ho,hz⟩:=I.lst hp;obtain⟨h1,h2,h3,h4⟩:=ixN_seq hj;have hl:=r.length;have hn:=line63;have I':Inv X pins σ (upd H p (.lst (xs.set j v))) {s with heap:=s.heap.update p (Obj.mapSeq (·.setIfInBounds j u))}:=
  I.lstUpd hp ho (mapSeq_set its n j u) (r.set rv j) (by rw[List.length_set];exact hz) s.toks
 by_cases h0:0<=k
 ·have hk:k.toNat=j:=by
   rw[seqIndex_of h0 h4]at h1;exact sV h1
  exact PySem.W.ki_setAt ho h0 (by omega) (by rw[iC,<-hl];exact h4) (by rw[hk];exact⟨_,I',q⟩)
 ·have hk:(k+(its.toArray.size:Int)).toNat=j:=by
   rw[seqIndex_neg (by omega) h3]at h1;rw[iC,<-hl];exact sV h1
  exact PySem.W.ki_setBack ho (by omega) (by rw[iC,<-hl];exact h3) (by omega) (by rw[hk];exact⟨_,I',q⟩)
theorem slice_bounds(lo hi:Option Int)(n:Nat):(sliceBounds lo hi none n).1=((HT.sIx n 0 lo:Nat):Int)/\(sliceBounds lo hi none n).2.1=((HT.sIx n n hi:Nat):Int)/\(sliceBounds lo hi none n).2.2=1:=by
 refine⟨?_,?_,rfl⟩
 ·cases lo with
  |none=>simp[sliceBounds,HT.sIx]
  |some i=>
   simp only[sliceBounds,HT.sIx,Option.getD_none,show(1:Int)>0 by decide,if_true];by_cases h:i<0
   ·simp only[h,if_true]<;>omega
   ·simp only[h,if_false]<;>omega
 ·cases hi with
  |none=>simp[sliceBounds,HT.sIx]
  |some i=>
   simp only[sliceBounds,HT.sIx,Option.getD_none,show(1:Int)>0 by decide,if_true];by_cases h:i<0
   ·simp only[h,if_true]<;>omega
   ·simp only[h,if_false]<;>omega
theorem slicePick_cut(its:List ζ)(lo hi:Option Int):slicePick its.toArray lo hi none=((its.drop (HT.sIx its.length 0 lo)).take (HT.sIx its.length its.length hi-HT.sIx its.length 0 lo)).toArray:=by
 obtain⟨h1,h2,h3⟩:=slice_bounds lo hi its.toArray.size;unfold slicePick;rw[h1,h2,h3];simp only[sliceRange_one,pick_run,iC]<;>rfl
noncomputable def rSlL(K:W.Frag):V->Option Int->Option Int->Hp->VK->Prop:=fun x lo hi H Q=>∃a xs,x= .ref a/\SqL K H a xs/\∀p,H p=none->Q (.ref p) (upd H p (.lst (cutV xs lo hi)))
theorem sl_list:SlR X (rSlL X.K):=by
 intro pins s σ H x v vl vu lo hi sl Q I rx hs pl pu h;obtain⟨a,xs,rfl,hx,q⟩:=h;cases rx;obtain⟨its,r,ht,hz⟩:=I.list hx;have hlen:=r.length;refine⟨"list",_,slot_list_getitem.lookup,ht.isList.typeIs,?_⟩;refine wpAny_getItem_list_slice ht.isList hs pl pu .none (by simp) ?_ (by rw[iC]<;>omega);rw[slicePick_cut,<-hlen];refine⟨.ref s.heap.objs.size,_,I.laid (t':=s.toks) (o:= .lst (cutV xs lo hi)) (fun b ob q=>mJ _ q) (aY _) ?_,rfl,q _ (I.hok.fresh (aY _))⟩;exact⟨cV (cutV_length xs lo hi) hz,_,0,(r.drop (HT.sIx xs.length 0 lo)).take (HT.sIx xs.length xs.length hi-HT.sIx xs.length 0 lo),sU _ rfl⟩
theorem call_len_seq:CallR X (.builtin "len") (fun xs H Q=>∃p ys,xs=[.ref p]/\(SqL X.K H p ys\/SqT X.K H p ys)/\Q (.int ys.length) H):=by
 intro pins s σ H xs us Q I r h;obtain⟨p,ys,rfl,hq,q⟩:=h;obtain⟨u,rfl,rx⟩:=vals1 r;cases rx;have hn:=line63;rcases hq with hq|hq
 ·obtain⟨its,r',pl,hz⟩:=I.list hq;have hlen:=r'.length;exact Calls.call_len_list pl.isList (by simp only[iC]<;>omega) ⟨.int ys.length,H,I.tok _,⟨s.toks+1,by rw[iC,hlen]⟩,q⟩
 ·obtain⟨its,r',pl,hz⟩:=I.tuple hq;have hlen:=r'.length;exact len_tuple pl (by simp only[iC]<;>omega) ⟨.int ys.length,H,I.tok _,⟨s.toks+1,by rw[iC,hlen]⟩,q⟩
theorem call_list_of:CallR X (.type "list") (fun xs H Q=>∃p ys,xs=[.ref p]/\(SqL X.K H p ys\/SqT X.K H p ys)/\∀l,H l=none->Q (.ref l) (upd H l (.lst ys))):=by
 intro pins s σ H xs us Q I r h;obtain⟨p,ys,rfl,hq,q⟩:=h;obtain⟨u,rfl,rx⟩:=vals1 r;cases rx;have fin:∀(its:List ζ),Vals ys its->ys.length<=sizeLine->∀(h':Heap) (c':Nat),(∀b o',s.heap.get? b=some o'->h'.get? b=some o')->
   h'.get? s.heap.objs.size=some {cls:= .type "list",dict:=none,data:= .seq its.toArray c',slots:=#[]}->EP X pins σ Q (.ref s.heap.objs.size) {s with heap:=h'}:=fun its r' hz h' c' kp e=>
  ⟨.ref s.heap.objs.size,_,I.laid (t':=s.toks) kp (aY _) (show ObjOk X.prog X.w _ h' _ (.lst ys)from⟨hz,its,c',r',e⟩),rfl,q _ (I.hok.fresh (aY _))⟩
 rcases hq with hq|hq
 ·obtain⟨its,r',pl,hz⟩:=I.list hq;have hlen:=r'.length;obtain⟨o,ho,hc,n,hd⟩:=pl.isList;exact call_list_seq p (.inl rfl) ho hc hd (fun h' c' kp e=>fin its r' hz h' c' kp e) (by simp only[iC]<;>omega)
 ·obtain⟨its,r',pl,hz⟩:=I.tuple hq;have hlen:=r'.length;obtain⟨o,ho,hc,n,hd⟩:=pl;exact call_list_seq p (.inr rfl) ho hc hd (fun h' c' kp e=>fin its r' hz h' c' kp e) (by simp only[iC]<;>omega)
theorem JN:CallR X (.type "tuple") (fun xs H Q=>∃p ys,xs=[.ref p]/\((SqL X.K H p ys/\∀l,H l=none->Q (.ref l) (upd H l (.tup ys)))\/(SqT X.K H p ys/\Q (.ref p) H))):=by
 intro pins s σ H xs us Q I r h;obtain⟨p,ys,rfl,h⟩:=h;obtain⟨u,rfl,rx⟩:=vals1 r;cases rx;rcases h with⟨hq,q⟩|⟨hq,q⟩
 ·obtain⟨its,r',pl,hz⟩:=I.list hq;have hlen:=r'.length;refine call_tuple_list pl.isList (fun h' kp=> ?_) (by simp only[iC]<;>omega);have I1:Inv X pins σ H {s with heap:=h'}:=I.kept (t':=s.toks) kp;have I2:Inv X pins σ (upd H h'.objs.size (.tup ys)) {s with heap:=h'.push {cls:= .type "tuple",data:= .seq its.toArray}}:=
   I1.laid (t':=s.toks) (fun b o e=>mJ _ e) (aY _) (show ObjOk X.prog X.w _ _ _ (.tup ys)from⟨hz,its,r',Xk _ _⟩)
  exact⟨.ref h'.objs.size,_,I2,rfl,q _ (I1.hok.fresh (aY _))⟩
 ·obtain⟨its,r',pl,hz⟩:=I.tuple hq;exact call_tuple_same pl ⟨.ref p,H,I,rfl,q⟩
noncomputable def tyV(K:W.Frag)(T:String)(x:V)(H:Hp):Prop:=match x with
 | .str _=>T="str"
 | .int _=>T="int"
 | .ref p=>(T="list"/\∃xs,SqL K H p xs)\/(T="tuple"/\∃o,K.lookup p=some o/\o.cls= .type "tuple"/\o.dict=none)\/
   (T="dict"/\((∃kvs,H p=some (.dK kvs))\/∃kvs,H p=some (.dT kvs)))\/(T="set"/\∃S n,H p=some (.set S n))
 |_=>False
theorem tyV_is{pins:L1}{σ:St}{H:Hp}{s:η}{T:String}{x:V}{v:ζ}(I:Inv X pins σ H s)(r:RelV x v)(ty:tyV X.K T x H):
  s.TypeIs v T/\∀a,v= .ref a->∃ob,s.heap.get? a=some ob/\ob.dict=none:=by
 cases x with
 |str z=>
  obtain⟨t,rfl⟩:=r;cases(show T="str" from ty);exact⟨typeIs_str s z t,fun _ e=>nomatch e⟩
 |int i=>
  obtain⟨t,rfl⟩:=r;cases(show T="int" from ty);exact⟨typeIs_int s i t,fun _ e=>nomatch e⟩
 |ref p=>
  cases r;rcases ty with⟨rfl,xs,hq⟩|⟨rfl,o,hk,hc,hd⟩|⟨rfl,hk⟩|⟨rfl,S,n,hk⟩
  ·obtain⟨its,_,pl,_⟩:=I.list hq;refine⟨pl.isList.typeIs,fun a e=> ?_⟩;cases e;obtain⟨o,n,e,c,hd,_⟩:=pl;exact⟨o,e,hd⟩
  ·refine⟨⟨o,I.kIn p o hk,hc⟩,fun a e=> ?_⟩;cases e;exact⟨o,I.kIn _ o hk,hd⟩
  ·have z:∃o,s.heap.get? p=some o/\o.ExactDict:=by
    rcases hk with⟨kvs,hk⟩|⟨kvs,hk⟩
    ·obtain⟨_,_,_,_,o,_,_,e,ex,_⟩:=I.hok p _ hk;exact⟨o,e,ex⟩
    ·obtain⟨_,_,_,_,o,_,_,e,ex,_⟩:=I.hok p _ hk;exact⟨o,e,ex⟩
   obtain⟨o,e,ex⟩:=z;refine⟨⟨o,e,ex.1⟩,fun a e2=> ?_⟩;cases e2;exact⟨o,e,ex.2.1⟩
  ·obtain⟨o,_,_,_,e,ex,_⟩:=I.hok p _ hk;refine⟨⟨o,e,ex.1⟩,fun a e2=> ?_⟩;cases e2;exact⟨o,e,ex.2.1⟩
 |_=>exact False.elim ty
noncomputable def tBM0(K:W.Frag)(T:String)(r:V->List V->Hp->VK->Prop)(to:TE):TE:=fun σ H Q=>to σ H fun x H1=>tyV K T x H1/\r x [] H1 Q
noncomputable def tBM(K:W.Frag)(T:String)(r:V->List V->Hp->VK->Prop)(to:TE)(t:TA):TE:=fun σ H Q=>to σ H fun x H1=>tyV K T x H1/\t σ H1 fun xs H2=>r x xs H2 Q
variable{o e:Expr}{es:List Expr}{to:TE}{t:TA}{name:Str}{apos cpos:Pos}{T id:String}{r:V->List V->Hp->VK->Prop}
theorem pe_bm0(pa:PlainAttrs T)(slot:Slot T name id)(hty:typeOf (.builtin id)=pure (.type "method_descriptor"))(hm:MtR X id r)(ho:PE X o to)(hbase:attributeBase o name X.env (eval o X.env)=eval o X.env:=by rfl)(hline:(apos.endLine==cpos.line)=true:=by rfl):PE X (.Call (.Attribute o name apos) [] [] cpos) (tBM0 X.K T r to):=by
 intro pins s σ H Q I h;refine wpAny_Call_method0_late hbase hline (thn (ho pins s σ H _ I h) fun v s1 ⟨x,H1,I1,r1,ty,q1⟩=> ?_);obtain⟨h1,h2⟩:=tyV_is I1 r1 ty;exact⟨T,id,pa,slot,hty,h1,h2,Calls.callWith_builtin rfl (PySem.evalArgs_none (hm pins s1 σ H1 x [] v [] Q I1 r1 .nil q1))⟩
theorem pe_bm(pa:PlainAttrs T)(slot:Slot T name id)(hty:typeOf (.builtin id)=pure (.type "method_descriptor"))(hm:MtR X id r)(ho:PE X o to)(ha:PA X (e::es) t)(hbase:attributeBase o name X.env (eval o X.env)=eval o X.env:=by rfl)(hfew:((backTo cpos (starEach (e::es) X.env)).all (fun x=> !x.1)&&(backToKw cpos (keywordEach [] X.env)).all (fun x=>x.1.isSome)
   &&decide ((e::es).length+([]:List Keyword).length+(if([]:List Keyword).isEmpty then 0 else 1)<30))=true:=by rfl)(hline:(apos.endLine==cpos.line)=true:=by rfl)(hs:starEach (e::es) X.env=(false,eval e X.env)::starEach es X.env:=by rfl)(hplain:(backTo cpos (starEach es X.env)).any (·.1)=false:=by rfl):
  PE X (.Call (.Attribute o name apos) (e::es) [] cpos) (tBM X.K T r to t):=by
 intro pins s σ H Q I h;refine wpAny_Call_method_late hbase hfew hline rfl (thn (ho pins s σ H _ I h) fun v s1 ⟨x,H1,I1,r1,ty,q1⟩=> ?_);obtain⟨h1,h2⟩:=tyV_is I1 r1 ty;refine⟨T,id,pa,slot,hty,h1,h2,?_⟩;have hA:=ha cpos pins s1 σ H1 _ I1 q1;rw[hs]at hA⊢;refine Calls.callWith_builtin (by show(false||(backTo cpos (starEach es X.env)).any (·.1))=false;rw[hplain]<;>rfl) (Calls.evalArgs_plain ?_);exact thn hA fun us s2 ⟨vs,H2,I2,r2,q2⟩=>hm pins s2 σ H2 x vs v us Q I2 r1 r2 q2
end
noncomputable def MtM(X:Cx)(id:String)(r:V->List V->Hp->VK->Prop):Prop:=
 ∀(pins:L1) (s:η) (σ:St) (H:Hp) (x:V) (xs:List V) (v:ζ) (us:List ζ) (Q:VK),Inv X pins σ H s->RelV x v->Vals xs us->r x xs H Q->
  wpAny (model X.prog X.w) X.A (call (.builtin id) (v::us)) (EP X pins σ Q) X.xe s
theorem Vals.one{x:V}{us:List ζ}(h:Vals [x] us):∃u,us=[u]/\RelV x u:=by
 cases h with
 |cons r h=>cases h;exact⟨_,rfl,r⟩
theorem Vals.two{x y:V}{us:List ζ}(h:Vals [x,y] us):∃u v,us=[u,v]/\RelV x u/\RelV y v:=by
 cases h with
 |cons r h=>obtain⟨v,rfl,q⟩:=Vals.one h;exact⟨_,_,rfl,r,q⟩
theorem Vals.zero:∀{us:List ζ},Vals [] us->us=[]
 |_,.nil=>rfl
theorem foldl_rep(its:List ζ):∀(k:Nat) (acc:List ζ),
  List.foldl (fun x1 x2=>x1++x2) acc.toArray (List.replicate k its.toArray)=(acc++(List.replicate k its).flatten).toArray
 |0,acc=>by simp
 |k+1,acc=>by
  have e:acc.toArray++its.toArray=(acc++its).toArray:=by simp
  have e2:(acc++its)++(List.replicate k its).flatten=acc++(List.replicate (k+1) its).flatten:=by
   rw[Ue,X7,wdk]
  rw[<-e2,<-foldl_rep its k (acc++its),<-e,Ue,List.foldl_cons]
section
variable{X:Cx}{pins:L1}{σ:St}{H:Hp}{s:η}{l:Addr}{xs ys:List V}
theorem Inv.lset{its its':List ζ}{n:Nat}{f:Array ζ->Array ζ}{t':Nat}(I:Inv X pins σ H s)(hH:H l=some (.lst xs))(e:s.heap.get? l=some {cls:= .type "list",data:= .seq its.toArray n})(hf:f its.toArray=its'.toArray)(hv:Vals ys its')(hz:ys.length<=sizeLine):
  Inv X pins σ (upd H l (.lst ys)) {s with heap:=s.heap.update l (Obj.mapSeq f),toks:=t'}:=by
 have q:=PySem.IsL.update e f;rw[hf]at q;refine I.write (x:=l) (e:=l) (by rw[hH];exact trivial) (.inl rfl) (fun b' u hb hu=>(wbw s.heap (Obj.mapSeq f) (lA hb)).trans hu) ⟨_,q⟩ ?_;exact⟨hz,its',_,hv,q⟩
theorem Inv.lnew{its:List ζ}{t':Nat}(I:Inv X pins σ H s)(hv:Vals ys its)(hz:ys.length<=sizeLine):
  Inv X pins σ (upd H s.heap.objs.size (.lst ys)) {s with heap:=s.heap.push {cls:= .type "list",data:= .seq its.toArray},toks:=t'}:=
 I.laid (fun _ _ q=>mJ _ q) (aY _) ⟨hz,its,0,hv,sU _ rfl⟩
theorem Inv.fresh(I:Inv X pins σ H s):H s.heap.objs.size=none:=I.hok.fresh (aY _)
theorem Inv.lstM(I:Inv X pins σ H s)(hH:H l=some (.lst xs)):xs.length<=sizeLine/\∃(its:List ζ) (n:Nat),Vals xs its/\xs.length=its.length/\s.heap.get? l=some {cls:= .type "list",data:= .seq its.toArray n}:=by
 obtain⟨z,its,n,r,e⟩:=I.hok l _ hH;exact⟨z,its,n,r,r.length,e⟩
theorem notLongL{n:Nat}(h:n<=sizeLine):Builtin.List.listTooLong n=false:=by
 unfold Builtin.List.listTooLong;exact fW (by omega)
end
section
variable{X:Cx}
noncomputable def rAppend:V->List V->Hp->VK->Prop:=fun x vs H Q=>∃l xs y,x= .ref l/\vs=[y]/\H l=some (.lst xs)/\xs.length<sizeLine/\Q .non (upd H l (.lst (xs++[y])))
theorem mt_append:MtM X "list.append" rAppend:=by
 intro pins s σ H x vs v us Q I rx rv h;obtain⟨l,xs,y,rfl,rfl,hH,hz,q⟩:=h;cases rx;obtain⟨u,rfl,ru⟩:=rv.one;obtain⟨z,its,n,r,hl,e⟩:=I.lstM hH;refine Uk F.slot_list_append ⟨_,e,rfl⟩ F.entry_list_append (F.args_list_append_2 _ _) (PySem.list_append l its.toArray n u (by rw[iC];omega)) ⟨e,?_⟩;refine⟨.non,_,I.lset (its':=its++[u]) hH e (by simp) (r.append (.cons ru .nil)) ?_,rfl,q⟩;rw[qz,List.length_singleton];omega
noncomputable def rExtend:V->List V->Hp->VK->Prop:=fun x vs H Q=>∃l b xs zs,x= .ref l/\vs=[.ref b]/\H l=some (.lst xs)/\H b=some (.lst zs)/\xs.length+zs.length<=sizeLine/\Q .non (upd H l (.lst (xs++zs)))
theorem mt_extend:MtM X "list.extend" rExtend:=by
 intro pins s σ H x vs v us Q I rx rv h;obtain⟨l,b,xs,zs,rfl,rfl,hH,hB,hz,q⟩:=h;cases rx;obtain⟨u,rfl,ru⟩:=rv.one;cases ru;obtain⟨z,its,n,r,hl,e⟩:=I.lstM hH;obtain⟨z2,its2,n2,r2,hl2,e2⟩:=I.lstM hB;have hsz:its.toArray.size+its2.toArray.size<=sizeLine:=by rw[iC,iC];omega
 have hlong:¬(!its.toArray.isEmpty&&Builtin.List.listTooLong (its.toArray.size+its2.toArray.size))=true:=by
  rw[notLongL hsz,Bool.and_false];exact vD
 refine Uk F.slot_list_extend ⟨_,e,rfl⟩ F.entry_list_extend (F.args_list_extend_2 _ _)
  (AutoSeq1.list_extend_list_list_0 l its.toArray n b its2.toArray n2 hlong (by rw[iC];omega) (by omega)) ⟨e,e2,?_⟩
 refine⟨.non,_,I.lset (its':=its++its2) hH e (by simp) (r.append r2) ?_,rfl,q⟩;rw[qz];omega
noncomputable def rClear:V->List V->Hp->VK->Prop:=fun x vs H Q=>∃l xs,x= .ref l/\vs=[]/\H l=some (.lst xs)/\Q .non (upd H l (.lst []))
theorem mt_clear:MtM X "list.clear" rClear:=by
 intro pins s σ H x vs v us Q I rx rv h;obtain⟨l,xs,rfl,rfl,hH,q⟩:=h;cases rx;have hus:=rv.zero;subst hus;obtain⟨z,its,n,r,hl,e⟩:=I.lstM hH;refine Uk F.slot_list_clear ⟨_,e,rfl⟩ F.entry_list_clear (F.args_list_clear_1 _) (AutoSeq1.list_clear_list_0 l its.toArray n (by rw[iC];omega)) ⟨e,?_⟩;exact⟨.non,_,I.lset (its':=[]) (ys:=[]) hH e rfl .nil (dY _),rfl,q⟩
noncomputable def rCat:R2:=fun x y H Q=>∃l b xs zs,x= .ref l/\y= .ref b/\H l=some (.lst xs)/\H b=some (.lst zs)/\xs.length+zs.length<=sizeLine/\∀p,H p=none->Q (.ref p) (upd H p (.lst (xs++zs)))
theorem op_cat:OpR X (binaryOp .Add) rCat:=by
 intro pins s σ H x y v u Q I rx ry h;obtain⟨l,b,xs,zs,rfl,rfl,hH,hB,hz,q⟩:=h;cases rx;cases ry;obtain⟨z,its,n,r,hl,e⟩:=I.lstM hH;obtain⟨z2,its2,n2,r2,hl2,e2⟩:=I.lstM hB;refine PySem.P.add_list e e2 ?_ (by rw[iC,iC];omega);have ea:its.toArray++its2.toArray=(its++its2).toArray:=by simp
 rw[ea];exact⟨.ref _,_,I.lnew (t':=s.toks) (r.append r2) (by rw[qz];omega),rfl,q _ I.fresh⟩
theorem len_rep{α:Type}(xs:List α)(k:Nat):(List.replicate k xs).flatten.length=k*xs.length:=by
 induction k with
 |zero=>simp
 |succ k ih=>rw[Ue,X7,qz,ih,Nat.succ_mul,Nat.add_comm]
end
end L2
namespace Att
open PySem PySem.W PySem.Calls PyProof.Rows
theorem ints_of_wellAll{P:Params}{h:Heap}:∀(ns:List Int) (vs:List ζ),WellAll P h vs (ns.map WData.int)->IntsAre vs ns:=by
 intro ns
 induction ns with
 |nil=>
  intro vs w;rw[Yl]at w;cases w;exact .nil
 |cons n ns ih=>
  intro vs w;rw[yS]at w;cases w with
  |cons a b=>
   cases a;exact .cons _ _ (ih _ b)
theorem script_of{l:OpenLaw}{n:Nat}(hn:l.most=some n){P:Params}{h:Heap}{args:List WData}{vals:List ζ}(hpre:l.row.toRowW.claim.pre args=true)(hwl:WellAll P h vals args):
  ∃a vs ns,vals=[Value.ref a]/\args=[WData.list (ns.map WData.int)]/\h.get? a=some {cls:= .type "list",data:= .seq vs.toArray}/\IntsAre vs ns/\ns.length<=n:=by
 have hsh:WShape.hasAll [] args [.list .int]=true:=(pre_splitW hpre).1;have hc:l.pre.holds [] {args:=args}=true:=(pre_splitW hpre).2;obtain⟨d,r,rfl,h1,h2⟩:=hasAllW_cons hsh;obtain rfl:=hasAllW_nil h2;obtain⟨xs,rfl,h3⟩:=hasW_list h1;obtain⟨ns,rfl⟩:=items_int h3;have hlen:ns.length<=n:=by
  unfold OpenLaw.pre at hc;have h4:(WTm.not (.lt (.lit (.int (n:Int))) (.len (.arg 0)))).holds [] {args:=[.list (ns.map .int)]}=true:=by
   have h4:=(holds_andW hc).1;rw[hn]at h4;exact h4
  have h5:=condW_of h4 (w_not (w_lt w_lit (w_len_list (w_arg rfl))));rw[aL]at h5;refine Nat.le_of_not_lt fun q=> ?_;have q':(n:Int)<((ns.length:Nat):Int):=by omega
  first
   |(rw[cW q']at h5;exact absurd h5 (by decide))
   |(simp at h5;omega)
 cases hwl with
 |cons w1 w2=>
  cases w2;cases w1 with
  |list ho hall=>exact⟨_,_,ns,rfl,rfl,ho,ints_of_wellAll ns _ hall,hlen⟩
theorem post_true(l:OpenLaw)(args:List WData):l.row.toRowW.claim.post args (.bool true) args=true:=
 postW_of (r:=l.row.toRowW) (X:=(true==true))
  (show WShape.has [] (.bool true) .bool=true by first |rfl|decide|simp[WShape.has,WShape.arms,WShape.armsAll])
  (show(WTm.eq .res (.lit (.bool true))).value [] {args:=args,res:=some (.bool true),after:=args}=some (.bool (true==true))from w_eq_bool (w_res rfl) w_lit) rfl
theorem attach_call{l:OpenLaw}{n:Nat}{q:ξ}{loose:List Str}{XP:(L4)->Heap->Prop}{YP:τ->Heap->Prop}{d:DefRec}(hn:l.most=some n)(hdf:d.params.defaults=[])(call:∀(w:τ) (s₀ s₁:η) (mg mb:L4) (fa:Addr) (o:Obj) (pm cd doc:ζ) (a:Addr) (vs:List ζ) (ns:List Int),
   Ground q loose [] XP w s₀ mg mb s₁.heap->YP w s₁.heap->
   s₁.heap.get? fa=some o->o.data= .func (docDef d.name d.params d.body d.scope pm cd doc)->s₁.heap.CodeRec cd d.name->mg d.name=some (.ref fa)->
   s₁.heap.get? a=some {cls:= .type "list",data:= .seq vs.toArray}->IntsAre vs ns->ns.length<=n->s₁.gens=#[]->
   codeAny (model l.prog w) callerA (.call (.ref fa) ⟨[.ref a],[]⟩) (fun r s'=>r= .ok (.ret (.bool true))/\OldK s₁.heap s'.heap/\s'.os=s₁.os/\AllBare s'.gens) s₁):
  WalkO q loose XP YP l.row.toRowW d [] (fun f vs=>PySem.call f vs):=by
 intro w s₀ s₁ mg mb G Y fa o pm cd doc dV kV ho hd hcd hD hmg hg args vals as hpre hlay hrd hwl hlo;obtain rfl:dV= .none:=Dflts.none hD hdf;obtain rfl:kV= .none:=Dflts.noKw hD;obtain⟨a,vs,ns,rfl,rfl,hobj,hints,hlen⟩:=script_of hn hpre hwl;refine enter_call (Ym (call w s₀ s₁ mg mb fa o pm cd doc a vs ns G Y ho (fd_plain hd) hcd hmg hobj hints hlen hg) fun r s' hq=> ?_);obtain⟨rfl,h2,h3,h4⟩:=hq;exact⟨.inl ⟨.bool true,.bool true,[],rfl,fun _=>rfl,.bool true,post_true l _,fun _=>⟨List.Pairwise.nil,fun _ hm=>(nomatch hm)⟩⟩,h2,h3,h4⟩
end Att
namespace L2
open PySem PySem.Spec PyProof.Rows
theorem vals_ints:∀{vs:List ζ} {ns:List Int},IntsAre vs ns->Vals (ns.map V.int) vs
 |_,_,.nil=> .nil
 |_,_,.cons n t h=> .cons ⟨t,rfl⟩ (vals_ints h)
noncomputable def Only(H:Hp):Prop:=∀b,H b=none\/∃o xs,H b=some (.frz o (.lst xs))
theorem law_call{P:ξ}{w:τ}{K:W.Frag}{mg mb:L4}{CX:CXT}{k:Nat}{fa a:Addr}{fd:ρ}{x:Str}{sp:Sp}{s₁:η}{vs:List ζ}{ns:List Int}
  (KX:K.In s₁.heap)(hns:s₁.heap.Ns mainGlobals mg)(hb:s₁.heap.Ns builtinsNs mb)(hbb:∀x:Str,x≠"__name__"->mb x=bootBuiltins x)(hlim:s₁.heap.NoLimit)(hg:s₁.gens=#[])(ha:s₁.heap.get? a=some {cls:= .type "list",data:= .seq vs.toArray})(hi:IntsAre vs ns)(hl:ns.length<=sizeLine)(hr:Room k callerA)
  (F:∀base:Heap,K.In base->base.Ns mainGlobals mg->FnOk P w K mg base CX k fa fd [x] sp)(hbind:∀(s:η) (u:ζ),BindsTo s fd ⟨[u],[]⟩ [(x,u)])(hsp:∀H:Hp,Only H->SqL K H a (ns.map V.int)->sp [.ref a] H (fun v _=>v= .bl true) fun _ _ _=>False)(hCX:∀H e s',CX [] H s₁ (fun _ _ _=>False) e s'->False):
  codeAny (model P w) callerA (.call (.ref fa) ⟨[.ref a],[]⟩) (fun r s'=>r= .ok (.ret (.bool true))/\OldK s₁.heap s'.heap/\s'.os=s₁.os/\AllBare s'.gens) s₁:=by
 have rv:=vals_ints hi;have lenV:=hi.length
 -- from an abstract heap in which nothing but the script may be tracked
 have core:∀H:Hp,Only H->SqL K H a (ns.map V.int)->HOk P w H s₁.heap->(∀b,H b≠none->b=a)->(H a≠none->K.lookup a=none)->
   codeAny (model P w) callerA (.call (.ref fa) ⟨[.ref a],[]⟩) (fun r s'=>r= .ok (.ret (.bool true))/\OldK s₁.heap s'.heap/\s'.os=s₁.os/\AllBare s'.gens) s₁:=by
  intro H hO hS hok hA hK;have base_of:∀{b:Addr} {o:Obj},s₁.heap.get? b=some o->H b=none->(hidT s₁.heap H).get? b=some o:=fun e n=>hidT_get e n;have noA:∀{b:Addr} {o:Obj} {es:Array DictEntry} {ep:Nat},s₁.heap.get? b=some o->o.data= .dict es ep->H b=none:=fun{b o es ep} e d=>by
   cases q:H b with
   |none=>rfl
   |some u=>
    have e':b=a:=hA b (by rw[q];simp);subst e';rw[ha]at e;cases e;have d':Data.seq vs.toArray _=Data.dict es ep:=d;cases d'
  have nsK:∀{b:Addr} {m:L4},s₁.heap.Ns b m->(hidT s₁.heap H).Ns b m:=fun{b m} ⟨o,es,ep,e,d,r⟩=>⟨o,es,ep,base_of e (noA e d),d,r⟩;have hKb:K.In (hidT s₁.heap H):=fun b o e=>base_of (KX b o e) (by
   cases q:H b with
   |none=>rfl
   |some u=>
    have e':b=a:=hA b (by rw[q];simp);subst e';rw[hK (by rw[q];simp)]at e;cases e)
  have hM:Mod K mg (hidT s₁.heap H):=⟨hKb,nsK hns,⟨mb,nsK hb,hbb⟩,let⟨mc,h1,h2⟩:=hlim;⟨mc,nsK h1,h2⟩⟩;have e0:Env0 P w K mg (hidT s₁.heap H) callerA [] s₁ H:=⟨rfl,hM,fun b o e=>of_hidT e,Fy (hidT_size _ _),trivial,fun b hb=>absurd (show b∈([]:List Addr)from hb) (by simp),hok,.of_eq hg⟩;refine Ym ((F _ hKb (nsK hns)).run callerA [] s₁ H ⟨[.ref a],[]⟩ [.ref a] [.ref a] _ _ hr e0 (hbind s₁ (.ref a)) (.cons rfl .nil) (hsp H hO hS)) fun r s' h=> ?_;cases r with
  |error e=>exact(hCX H e s' h).elim
  |ok fl=>
   cases fl with
   |next=>exact False.elim h
   |brk=>exact False.elim h
   |cont=>exact False.elim h
   |ret u=>
    obtain⟨v,H',os,bare,un,hok',r',q⟩:=h;have q':v= .bl true:=q;subst q';obtain rfl:u=Value.bool true:=r';refine⟨rfl,OldK.of_keep fun b o e=> ?_,os,bare⟩;cases q:H b with
    |none=>exact un.keep b o e q (by intro z;exact absurd (show b∈([]:List Addr)from z) (by simp)) (by simp)
    |some u=>
     rcases hO b with z|⟨ob,xs,z⟩
     ·rw[q]at z;cases z
     ·have z2:=un.frzs b ob _ z;obtain⟨e1,_⟩:=hok b _ z;obtain⟨e2,_⟩:=hok' b _ z2;rw[e]at e1;cases e1;exact e2
 cases hk:K.lookup a with
 |some o=>
  -- the script is one of the module's own objects
  have e:=KX a o hk;rw[ha]at e;cases e;refine core (fun _=>none) (fun _=> .inl rfl) (.inr ⟨_,vs.toArray,_,hk,rfl,rfl,rfl,by rw[iC,lenV];exact hl,by simpa using rv⟩) (fun b u z=>by have z':(none:Option HO)=some u:=z;cases z') (fun b z=>absurd rfl z) fun z=>absurd rfl z
 |none=>
  refine core (fun b=>if b=a then some (.frz {cls:= .type "list",data:= .seq vs.toArray} (.lst (ns.map V.int)))else none) (fun b=> ?_) (.inl (.inr ⟨{cls:= .type "list",data:= .seq vs.toArray},aD rfl⟩)) (fun b u z=> ?_) (fun b z=> ?_) fun _=>hk
  ·by_cases hb:b=a
   ·exact .inr ⟨_,_,aD hb⟩
   ·exact .inl (aA hb)
  ·by_cases hb:b=a
   ·have z':=(aD hb).symm.trans z;cases z';subst hb;exact⟨ha,by rw[aL];exact hl,vs,_,rv,ha⟩
   ·have z':=(aA hb).symm.trans z;cases z'
  ·by_cases hb:b=a
   ·exact hb
   ·exact absurd (aA hb) z
theorem walk_of{l:PySem.W.OpenLaw}{n k:Nat}{q:ξ}{loose:List Str}{XP:(L4)->Heap->Prop}{YP:τ->Heap->Prop}{d:DefRec}{K:Params->PySem.W.Frag}{CX:τ->CXT}{sp:τ->Sp}{x:Str}(hn:l.most=some n)(hn2:n<=sizeLine)(hdf:d.params.defaults=[])(hr:Room k callerA)(hY:∀(w:τ) (h:Heap),YP w h->(K w.params).In h)
  (F:∀(w:τ) (mg:L4) (fa:Addr) (h:Heap),(K w.params).In h->h.Ns mainGlobals mg->mg d.name=some (.ref fa)->
   ∃fd:ρ,(∀(s:η) (u:ζ),BindsTo s fd ⟨[u],[]⟩ [(x,u)])/\
    ∀base:Heap,(K w.params).In base->base.Ns mainGlobals mg->FnOk l.prog w (K w.params) mg base (CX w) k fa fd [x] (sp w))(hsp:∀(w:τ) (H:Hp) (a:Addr) (ns:List Int),ns.length<=n->Only H->SqL (K w.params) H a (ns.map V.int)->sp w [.ref a] H (fun v _=>v= .bl true) fun _ _ _=>False)(hCX:∀(w:τ) (H:Hp) (s:η) (e:ζ) (s':η),CX w [] H s (fun _ _ _=>False) e s'->False):
  PySem.W.WalkO q loose XP YP l.row.toRowW d [] (fun f vs=>PySem.call f vs):=by
 refine Att.attach_call hn hdf fun w s₀ s₁ mg mb fa o pm cd doc a vs ns G Y ho hd hcd hmg hobj hints hlen hg=> ?_;have KX:=hY w _ Y;obtain⟨fd,hb,hF⟩:=F w mg fa _ KX G.T.g hmg;exact law_call KX G.T.g G.T.b G.T.builtins G.T.nolimit hg hobj hints (cV hlen hn2) hr hF hb (fun H hO hS=>hsp w H a ns hlen hO hS) fun H e s'=>hCX w H s₁ e s'
noncomputable def inClass(s:Stmt)(j:Nat):Stmt:=match s with
 | .ClassDef _ _ _ body _ _ _ _ _ _ _=>body.getD j (.Pass ⟨0,0,0,0⟩)
 |_=> .Pass ⟨0,0,0,0⟩
noncomputable def defArgs(s:Stmt):Arguments:=match s with
 | .FunctionDef _ a _ _ _ _ _ _ _ _=>a
 |_=>{posonlyargs:=[],args:=[],vararg:=none,kwonlyargs:=[],kw_defaults:=[],kwarg:=none,defaults:=[]}
noncomputable def defBody(s:Stmt):List Stmt:=match s with
 | .FunctionDef _ _ b _ _ _ _ _ _ _=>b
 |_=>[]
noncomputable def defScope(s:Stmt):Scope:=match s with
 | .FunctionDef _ _ _ _ _ _ sc _ _ _=>sc
 |_=>{kind:= .function,names:=[],isGenerator:=false,isCoroutine:=false}
noncomputable abbrev CX0:CXT:=fun _ _ _ _ _ _=>False
noncomputable abbrev E0:XK:=fun _ _ _=>False
theorem pass0{X:Cx}:Passes CX0 X E0:=fun _ _ _ _ _ _ _ h=>h.elim
structure Fun(K:W.Frag)(x qual:Str)(st:Stmt)(f:Addr)(fd:ρ):Prop where
 ex:∃(oc:ζ) (od:Option Addr) (kV doc pm:ζ) (an:Option Addr) (cdv ct:ζ) (osl:Array (Option ζ)),
  fd=PySem.W.fnOf x qual (defArgs st) (defBody st) (defScope st) .none kV doc pm an cdv ct/\K.lookup f=some ⟨oc,od,.func fd,osl⟩/\PySem.W.codeIn K cdv qual=true
 kp:PySem.W.keepIn K (.ref f)=true
section
variable{P:ξ}{w:τ}{K:W.Frag}{mg:L4}{base:Heap}
theorem Fun.ok{x qual:Str}{st:Stmt}{f:Addr}{fd:ρ}{N ps:List Str}{k:Nat}{sp:Sp}(F:Fun K x qual st f fd)(S:FnScope N ps (defScope st))(len:∀vs H Q E,sp vs H Q E->vs.length=ps.length)(hbody:∀(cdv:ζ) (A:Around) (outer:List Env) (s:η) (H:Hp) (vs:List V) (Q:VK) (E:XK),Room k (A.deeper (envOfC qual (defScope st) s.heap.objs.size f cdv))->sp vs H Q E->
   ∃t,PSs (cxOf CX0 P w K mg base N qual (defScope st) f cdv A outer s H E).nox (defBody st) t/\t {nx:=fun _ H'=>Q .non H',rt:=Q} (start N vs) H):FnOk P w K mg base CX0 (k+1) f fd ps sp:=by
 obtain⟨oc,od,kV,doc,pm,an,cdv,ct,osl,rfl,lk,hcd⟩:=F.ex;refine fn_of lk hcd S len fun A outer s H vs Q E hr hsp=> ?_;obtain⟨t,h,q⟩:=hbody cdv A outer s H vs Q E hr hsp;exact⟨t,h.nox,q⟩
theorem Fun.binds{x qual:Str}{st:Stmt}{f:Addr}{fd:ρ}{ps:List Str}(F:Fun K x qual st f fd)(h:∀(kV doc pm:ζ) (an:Option Addr) (cdv ct:ζ) (us:List ζ),us.length=ps.length->bindArgs (PySem.W.fnOf x qual (defArgs st) (defBody st) (defScope st) .none kV doc pm an cdv ct) ⟨us,[]⟩=pure (ps.zip us)):Binds K fd ps []:=by
 obtain⟨oc,od,kV,doc,pm,an,cdv,ct,osl,rfl,lk,hcd⟩:=F.ex;exact .all (h kV doc pm an cdv ct)
theorem fun_mk{x qual:Str}{st:Stmt}{f:Addr}{oc:ζ}{od an:Option Addr}{osl:Array (Option ζ)}{kV doc pm cdv ct:ζ}(l:K.lookup f=some ⟨oc,od,.func (PySem.W.fnOf x qual (defArgs st) (defBody st) (defScope st) .none kV doc pm an cdv ct),osl⟩)(c:PySem.W.codeIn K cdv qual=true)(k:PySem.W.keepIn K (.ref f)=true):Fun K x qual st f (PySem.W.fnOf x qual (defArgs st) (defBody st) (defScope st) .none kV doc pm an cdv ct):=⟨⟨oc,od,kV,doc,pm,an,cdv,ct,osl,rfl,l,c⟩,k⟩
end
theorem small1000{n:Nat}(h:n<=1000):n<sizeLine:=Io h (by decide)
section
variable{X:Cx}
theorem pv(i:Nat){x:Str}{pos:Pos}(hN:X.N[i]? =some x:=by rfl)(hv:Vis X.env.scope x:=by first |exact Or.inl rfl|exact Or.inr (Or.inl rfl)|exact Or.inr (Or.inr rfl))(hd:(x==("__debug__":Str))=false:=by decide)(hcd:(x==("__classdict__":Str))=false:=by decide):PE X (.Name x pos) (tVar i):=pe_var hN hv hd hcd
end
theorem iteF{A B:Prop}(h:B):if false=true then A else B:=by
 rw[aA vD];exact h
theorem iteT{A B:Prop}(h:A):if true=true then A else B:=by
 rw[aD rfl];exact h
theorem ite2{c A B:Prop} [Decidable c](h1:c->A)(h2:¬c->B):if c then A else B:=by
 by_cases h:c
 ·rw[aD h];exact h1 h
 ·rw[aA h];exact h2 h
noncomputable def Same(H H':Hp):Prop:=∀b o,H b=some o->H' b=some o
theorem Same.refl(H:Hp):Same H H:=fun _ _ h=>h
theorem Same.trans{H H1 H2:Hp}(a:Same H H1)(b:Same H1 H2):Same H H2:=fun c o h=>b c o (a c o h)
theorem Same.free{H H':Hp}(e:Same H H'){l:Addr}(h:H' l=Option.none):H l=Option.none:=by
 cases q:H l with
 |none=>rfl
 |some o=>
  rw[e l o q]at h;cases h
theorem Same.seq{K:W.Frag}{H H':Hp}{a:Addr}{xs:List V}(e:Same H H')(h:SqL K H a xs):SqL K H' a xs:=by
 rcases h with(h|⟨o,h⟩)|h
 ·exact .inl (.inl (e _ _ h))
 ·exact .inl (.inr ⟨o,e _ _ h⟩)
 ·exact .inr h
end L2
set_option maxHeartbeats 4000000
namespace L2
open PySem PySem.Spec PyProof.Rows
noncomputable def m8(cells:List (Str×Addr)):List (Str×NameKind)->List (Str×Addr)->List (Str×Addr)
 |[],acc=>acc
 |p::r,acc=>m8 cells r (if(p.2==NameKind.free)=true then(p.1,(cells.lookup p.1).getD 0)::acc else acc)
theorem qg{cells:List (Str×Addr)}:∀{names:List (Str×NameKind)} {acc:List (Str×Addr)} {x:Str} {c:Addr},(x,c)∈m8 cells names acc->(x,c)∈acc\/c=(cells.lookup x).getD 0/\(x,NameKind.free)∈names
 |[],_,_,_,h=> .inl h
 |(n,k)::r,acc,x,c,h=>by
  rcases qg (names:=r) h with q|⟨q,m⟩
  ·dsimp only at q;split at q
   ·rename_i hk;rcases dg.mp q with e|e
    ·cases e;have:k=NameKind.free:=by simpa using hk
     subst this;exact .inr ⟨rfl,iW⟩
    ·exact .inl e
   ·exact .inl q
  ·exact .inr ⟨q,iG _ m⟩
theorem Bo{cells:List (Str×Addr)}:∀{names:List (Str×NameKind)} {acc:List (Str×Addr)} {p:Str×Addr},p∈acc->p∈m8 cells names acc
 |[],_,_,h=>h
 |(n,k)::r,acc,p,h=>by
  refine Bo (names:=r) ?_;split
  ·exact iG _ h
  ·exact h
theorem Bm{cells:List (Str×Addr)}:∀{names:List (Str×NameKind)} {acc:List (Str×Addr)} {x:Str},(x,NameKind.free)∈names->∃c,(x,c)∈m8 cells names acc
 |(n,k)::r,acc,x,h=>by
  rcases dg.mp h with e|e
  ·cases e;refine⟨(cells.lookup n).getD 0,Bo (names:=r) ?_⟩;rw[aD (show(NameKind.free==NameKind.free)=true from rfl)];exact iW
  ·exact Bm (names:=r) e
theorem zbw{β:Type}:∀{l:List (Str×β)} {x:Str} {c:β},(x,c)∈l->∃d,l.lookup x=some d/\(x,d)∈l
 |(n,k)::r,x,c,h=>by
  cases hx:x==n with
  |true=>
   have e:x=n:=by simpa using hx
   subst e;exact⟨k,by simp[JQ],iW⟩
  |false=>
   rcases dg.mp h with e|e
   ·cases e;simp at hx
   ·obtain⟨d,h1,h2⟩:=zbw e;exact⟨d,by simp only[JQ,hx];exact h1,iG _ h2⟩
theorem uT{scope:Scope}{env:Env}(h:∀x,(x,NameKind.free)∈scope.names->∃c,env.cells.lookup x=some c):closureFor scope env=pure (m8 env.cells scope.names []):=by
 have key:∀(names:List (Str×NameKind)) (acc:List (Str×Addr)),(∀x,(x,NameKind.free)∈names->∃c,env.cells.lookup x=some c)->
   (forIn names acc fun(x:Str×NameKind) (cs:List (Str×Addr))=>if(x.2==NameKind.free)=true then(do let y<-cellOf env x.1;pure (ForInStep.yield ((x.1,y)::cs)))else pure (ForInStep.yield cs):Sem (List (Str×Addr)))=pure (m8 env.cells names acc):=by
  intro names
  induction names with
  |nil=>intro acc _;rfl
  |cons p r ih=>
   intro acc hh;obtain⟨n,k⟩:=p;rw[List.forIn_cons];dsimp only;by_cases hk:(k==NameKind.free)=true
   ·have e:k=NameKind.free:=by simpa using hk
    subst e;obtain⟨c,hc⟩:=hh n iW;rw[aD hk];unfold cellOf;rw[hc];simp only[pure_bind];refine Eq.trans (ih _ fun x hx=>hh x (iG _ hx)) ?_;show _=pure (m8 env.cells r (if(NameKind.free==NameKind.free)=true then(n,(env.cells.lookup n).getD 0)::acc else acc));rw[aD hk,hc];rfl
   ·rw[aA hk];simp only[pure_bind];refine Eq.trans (ih _ fun x hx=>hh x (iG _ hx)) ?_;show _=pure (m8 env.cells r (if(k==NameKind.free)=true then(n,(env.cells.lookup n).getD 0)::acc else acc));rw[aA hk]
 have q:=key scope.names [] h;unfold closureFor;simp only[bind_pure];exact q
theorem ou{env:Env}:∀{names:List (Str×NameKind)} {x:Str} {k:NameKind},names.lookup x=some k->
  (names.map fun(n,k)=>if(k==NameKind.free&&env.scope.kind== .function&&env.kindOf n==some .cell)then(n,NameKind.cell)else(n,k)).lookup x=some (if(k==NameKind.free&&env.scope.kind== .function&&env.kindOf x==some .cell)=true then .cell else k)
 |[],_,_,h=>by simp at h
 |(n,k)::r,x,k',h=>by
  have ih:= @ou env r x k';show List.lookup x ((if(k==NameKind.free&&env.scope.kind== .function&&env.kindOf n==some .cell)=true then(n,NameKind.cell)else(n,k))::_)=_;cases hx:x==n with
  |true=>
   have e:x=n:=by simpa using hx
   subst e;simp only[JQ,hx]at h;cases h;by_cases hc:(k==NameKind.free&&env.scope.kind== .function&&env.kindOf x==some .cell)=true
   ·rw[aD hc,aD hc];simp[JQ]
   ·rw[aA hc,aA hc];simp[JQ]
  |false=>
   simp only[JQ,hx]at h;by_cases hc:(k==NameKind.free&&env.scope.kind== .function&&env.kindOf n==some .cell)=true
   ·rw[aD hc];simp only[JQ,hx];exact ih h
   ·rw[aA hc];simp only[JQ,hx];exact ih h
theorem uq{env:Env}:∀{names:List (Str×NameKind)} {x:Str},names.lookup x=none->
  (names.map fun(n,k)=>if(k==NameKind.free&&env.scope.kind== .function&&env.kindOf n==some .cell)then(n,NameKind.cell)else(n,k)).lookup x=none
 |[],_,_=>rfl
 |(n,k)::r,x,h=>by
  have ih:= @uq env r x;show List.lookup x ((if(k==NameKind.free&&env.scope.kind== .function&&env.kindOf n==some .cell)=true then(n,NameKind.cell)else(n,k))::_)=_;cases hx:x==n with
  |true=>simp only[JQ,hx]at h;cases h
  |false=>
   simp only[JQ,hx]at h;by_cases hc:(k==NameKind.free&&env.scope.kind== .function&&env.kindOf n==some .cell)=true
   ·rw[aD hc];simp only[JQ,hx];exact ih h
   ·rw[aA hc];simp only[JQ,hx];exact ih h
theorem Dh{scope:Scope}{env:Env}{x:Str}(h:scope.names.lookup x=some .free):(relabel scope env).names.lookup x=some .cell\/(relabel scope env).names.lookup x=some .free:=by
 have q:=ou (env:=env) h;by_cases hc:((NameKind.free==NameKind.free)&&env.scope.kind== .function&&env.kindOf x==some .cell)=true
 ·rw[aD hc]at q;exact .inl q
 ·rw[aA hc]at q;exact .inr q
inductive j8(X:Cx)(scope:Scope):List Str->List Nat->Prop
 |nil:j8 X scope [] []
 |cons {x:Str} {j:Nat} {xs:List Str} {js:List Nat} (hN:X.N[j]? =some x) (hf:scope.names.lookup x=some .free) (t:j8 X scope xs js):j8 X scope (x::xs) (j::js)
theorem j8.get{X:Cx}{scope:Scope}:∀{xs:List Str} {js:List Nat} {k:Nat} {x:Str},j8 X scope xs js->xs[k]? =some x->∃j,js[k]? =some j/\X.N[j]? =some x/\scope.names.lookup x=some .free
 |_,_,k,x,.nil,h=>by simp at h
 |_,_,0,x,.cons h1 h2 _,h=>by simp at h;subst h;exact⟨_,rfl,h1,h2⟩
 |_,_,k+1,x,.cons _ _ t,h=>by
  obtain⟨j,a,b⟩:=j8.get (k:=k) t (by simpa using h);exact⟨j,by simpa using a,b⟩
theorem j8.len{X:Cx}{scope:Scope}:∀{xs:List Str} {js:List Nat},j8 X scope xs js->xs.length=js.length
 |_,_,.nil=>rfl
 |_,_,.cons _ _ t=>by simp[j8.len t]
noncomputable def Ar(own:List Str)(ix:List Nat)(σ:St):St:=own.map (fun _=>none)++ix.map fun j=>(σ[j]?).join
noncomputable def TJ(X:Cx)(ifs:List Expr)(t:TT):Prop:=
 ∀(pins:L1) (s:η) (σ:St) (H:Hp) (Q:Bool->Hp->Prop),Inv X pins σ H s->t σ H Q->
  wpAny (model X.prog X.w) X.A (forIn ifs true fun c r=>if r=true then do let ok<-isTrue c X.env (eval c X.env);pure (ForInStep.yield ok)else pure (ForInStep.yield r)) (TP X pins σ Q) X.xe s
theorem oR{X:Cx}:TJ X [] (fun _ H Q=>Q true H):=fun _ _ _ H _ I h=>wpAny_tests_nil ⟨H,I,h⟩
theorem Ck{X:Cx}{c:Expr}{t:TT}(h:PT X c t):TJ X [c] t:=fun pins s σ H Q I hq=>wpAny_tests_one (h pins s σ H Q I hq)
theorem HOk.add{P:ξ}{w:τ}{H:Hp}{h:Heap}{a:Addr}{o:HO}(x:HOk P w H h)(hn:H a=none)(new:ObjOk P w (upd H a o) h a o):HOk P w (upd H a o) h:=fun b u e=>by
 by_cases hb:b=a
 ·subst hb;rw[aF]at e;cases e;exact new
 ·rw[cY hb]at e;exact(x b u e).stay (fun c v _ q=>q) (fun c q=>by rw[cY (sS q hn)];exact q) fun c xs q=>by rw[cY (sS q hn)];exact q
theorem Un.add{fs ex:List Addr}{H H':Hp}{h h':Heap}{a:Addr}{o:HO}(u:Un fs ex H H' h h')(ha:h.objs.size<=a)(hn:H' a=none):Un fs ex H (upd H' a o) h h' where
 keep:=u.keep
 slot:=u.slot
 free:=fun b ob q n hx=>by rw[cY (jy (mH (gP q) ha))];exact u.free b ob q n hx
 there:=u.there
 tups:=fun b xs q=>by have:=u.tups b xs q;rw[cY (sS this hn)];exact this
 frzs:=fun b ob xs q=>by have:=u.frzs b ob xs q;rw[cY (sS this hn)];exact this
 tbls:=fun b ps q=>by obtain⟨m,e⟩:=u.tbls b ps q;exact⟨m,by rw[cY (sS e hn)];exact e⟩
noncomputable def BZ(J:It)(ini:St)(H:Hp)(g:TG)(tc:TT)(te:TE)(Fin:List V->Hp->Prop):Prop:=
 ∃W:Nat->Nat->List V->St->Hp->Prop,(∃m,W 0 m [] ini H)/\∀i m acc σ H,W i m acc σ H->
  (J.stop i H/\acc.length<=sizeLine/\Fin acc H)\/(J.go i H/\acc.length<sizeLine/\∃N:List V->St->Hp->Prop,(∀acc' σ' H',N acc' σ' H'->∃m',m'<m/\W (i+1) m' acc' σ' H')/\∀x H',J.yld i H x H'->g x σ H' fun σ2 H2=>tc σ2 H2 fun b H3=>
   if b=true then te σ2 H3 fun v H4=>N (acc++[v]) σ2 H4 else N acc σ2 H3)
noncomputable def Gf(wi:TI)(own:List Str)(ix:List Nat)(g:TG)(tc:TT)(te:TE):TE:=fun σ H Q=>wi σ H fun J H1=>
 BZ J (Ar own ix σ) H1 g tc te fun acc H'=>∀p,H' p=none->Q (.ref p) (upd H' p (.lst acc))
section
variable{K:W.Frag}{a:Addr}{xs:List V}{g:TG}{tc:TT}{te:TE}{Fin:List V->Hp->Prop}{ini:St}{H:Hp}
theorem yQ(Pv:Nat->List V->St->Hp->Prop)(h0:Pv 0 [] ini H)(hl:∀(i:Nat) acc σ H,i<=xs.length->Pv i acc σ H->SqL K H a xs)(hz:∀(i:Nat) acc σ H,i<=xs.length->Pv i acc σ H->acc.length<=i)(hx:xs.length<=sizeLine)(hs:∀(i:Nat) x acc σ H,xs[i]? =some x->Pv i acc σ H->g x σ H fun σ2 H2=>tc σ2 H2 fun b H3=>if b=true then te σ2 H3 fun v H4=>Pv (i+1) (acc++[v]) σ2 H4 else Pv (i+1) acc σ2 H3)(hd:∀acc σ H,Pv xs.length acc σ H->Fin acc H):BZ (Itl K a) ini H g tc te Fin:=by
 refine⟨fun i m acc σ H=>m=xs.length-i/\i<=xs.length/\Pv i acc σ H,⟨xs.length,by simp,dY _,h0⟩,?_⟩;rintro i m acc σ H ⟨rfl,hi,p⟩;have q:=hl i acc σ H hi p;have z:=hz i acc σ H hi p;by_cases hlt:i<xs.length
 ·refine .inr ⟨⟨xs,xs[i],q,by simp[hlt]⟩,by omega,fun acc σ H=>Pv (i+1) acc σ H,fun acc' σ' H' r=>⟨_,by omega,rfl,hlt,r⟩,fun x H' y=> ?_⟩;obtain⟨e,y⟩:=y;subst e;exact hs i x acc σ _ (y xs q) p
 ·have e:i=xs.length:=by omega
  subst e;exact .inl ⟨⟨xs,q,aY _⟩,by omega,hd acc σ H p⟩
theorem Cm(Pv:Nat->List V->St->Hp->Prop)(h0:Pv 0 [] ini H)(hl:∀(i:Nat) acc σ H,i<=xs.length->Pv i acc σ H->SqT K H a xs)(hz:∀(i:Nat) acc σ H,i<=xs.length->Pv i acc σ H->acc.length<=i)(hx:xs.length<=sizeLine)(hs:∀(i:Nat) x acc σ H,xs[i]? =some x->Pv i acc σ H->g x σ H fun σ2 H2=>tc σ2 H2 fun b H3=>if b=true then te σ2 H3 fun v H4=>Pv (i+1) (acc++[v]) σ2 H4 else Pv (i+1) acc σ2 H3)(hd:∀acc σ H,Pv xs.length acc σ H->Fin acc H):BZ (Itt K a) ini H g tc te Fin:=by
 refine⟨fun i m acc σ H=>m=xs.length-i/\i<=xs.length/\Pv i acc σ H,⟨xs.length,by simp,dY _,h0⟩,?_⟩;rintro i m acc σ H ⟨rfl,hi,p⟩;have q:=hl i acc σ H hi p;have z:=hz i acc σ H hi p;by_cases hlt:i<xs.length
 ·refine .inr ⟨⟨xs,xs[i],q,by simp[hlt]⟩,by omega,fun acc σ H=>Pv (i+1) acc σ H,fun acc' σ' H' r=>⟨_,by omega,rfl,hlt,r⟩,fun x H' y=> ?_⟩;obtain⟨e,y⟩:=y;subst e;exact hs i x acc σ _ (y xs q) p
 ·have e:i=xs.length:=by omega
  subst e;exact .inl ⟨⟨xs,q,aY _⟩,by omega,hd acc σ H p⟩
theorem RQ{lo:Int}{n:Nat}(Pv:Nat->List V->St->Hp->Prop)(h0:Pv 0 [] ini H)(hz:∀(i:Nat) acc σ H,i<=n->Pv i acc σ H->acc.length<=i)(hx:n<=sizeLine)(hs:∀(i:Nat) acc σ H,i<n->Pv i acc σ H->g (.int (lo+i)) σ H fun σ2 H2=>tc σ2 H2 fun b H3=>if b=true then te σ2 H3 fun v H4=>Pv (i+1) (acc++[v]) σ2 H4 else Pv (i+1) acc σ2 H3)(hd:∀acc σ H,Pv n acc σ H->Fin acc H):BZ (Itr lo n) ini H g tc te Fin:=by
 refine⟨fun i m acc σ H=>m=n-i/\i<=n/\Pv i acc σ H,⟨n,by simp,dY _,h0⟩,?_⟩;rintro i m acc σ H ⟨rfl,hi,p⟩;have z:=hz i acc σ H hi p;by_cases hlt:i<n
 ·refine .inr ⟨hlt,by omega,fun acc σ H=>Pv (i+1) acc σ H,fun acc' σ' H' r=>⟨_,by omega,rfl,hlt,r⟩,fun x H' y=> ?_⟩;obtain⟨e,y⟩:=y;subst e y;exact hs i acc σ _ hlt p
 ·have e:i=n:=by omega
  subst e;exact .inl ⟨aY _,by omega,hd acc σ H p⟩
end
end L2
namespace uW
open PySem PySem.W PyProof.Rows
section
variable{O:KeyOrd}{key:Nat->O.α}{N:Nat}{cmp:Nat->Nat->(Bool->η->Prop)->η->Prop}{s:η}
noncomputable def mF(O:KeyOrd)(key:Nat->O.α)(N:Nat)(cmp:Nat->Nat->(Bool->η->Prop)->η->Prop)(s:η):Prop:=
 ∀i j (C:Bool->η->Prop),i<N->j<N->C (O.blt (key i) (key j)) s->cmp i j C s
noncomputable def KN(key:Nat->O.α)(p:Array Nat)(i:Nat):O.α:=key (p.getD i 0)
noncomputable def So(key:Nat->O.α)(p:Array Nat)(k:Nat):Prop:=∀i j,i<=j->j<k->O.kle (KN key p i) (KN key p j)
noncomputable def Ni(key:Nat->O.α)(p:Array Nat)(k:Nat):Prop:=∀i j,i<=j->j<k->O.kle (KN key p j) (KN key p i)
structure Ord(N:Nat)(p:Array Nat):Prop where
 perm:p.Perm (List.toArray (List.range N))
theorem Ord.size{p:Array Nat}(h:Ord N p):p.size=N:=by have:=h.perm.size_eq;simpa using this
theorem Ord.lt{p:Array Nat}(h:Ord N p){i:Nat}(hi:i<N):p.getD i 0<N:=by
 have hi':i<p.size:=by rw[h.size];exact hi
 have e:p.getD i 0=p[i]:=by simp[Array.getD,hi']
 rw[e];have m:p[i]∈p.toList:=by simp
 have:=(yee.mp h.perm).mem_iff.mp m;simpa using this
theorem Ord.rev{p:Array Nat}(h:Ord N p)(i j:Nat):Ord N (kas_rev p i j):=⟨(mirror_perm _ _ _ _).trans h.perm⟩
theorem Ord.bub{p:Array Nat}(h:Ord N p)(i j:Nat):Ord N (bubble p i j):=⟨(bubble_perm _ _ _).trans h.perm⟩
theorem uN(p:Array Nat)(i:Nat):p.getD i 0=(p[i]?).getD 0:=by simp
theorem Fg{p:Array Nat}{i j:Nat}(hj:j<=p.size)(k:Nat):KN key (kas_rev p i j) k=if i<=k/\k<j then KN key p (i+j-1-k)else KN key p k:=by
 have e:=getElem?_mirror_all (i:=i) hj k;unfold KN kas_rev;rw[uN,e];split
 ·rw[uN]
 ·rw[uN]
theorem XM{p:Array Nat}{i j:Nat}(hj:j<=p.size)(heq:∀k,i<=k->k<j->KN key p k=KN key p (j-1))(k:Nat):KN key (kas_rev p i j) k=KN key p k:=by
 rw[Fg hj];split
 ·rename_i h;rw[heq k h.1 h.2,heq _ (by omega) (by omega)]
 ·rfl
theorem O1{p:Array Nat}{src d:Nat}(hs:src<p.size)(hd:d<=src)(k:Nat):KN key (bubble p src d) k=if k=src-d then KN key p src else if src-d<k/\k<=src then KN key p (k-1)else KN key p k:=by
 have e:=getElem?_bubble hs d hd k;have q:KN key (bubble p src d) k=key (((bubble p src d)[k]?).getD 0):=kO key (uN _ _);have q2:∀i,KN key p i=key ((p[i]?).getD 0):=fun i=>kO key (uN _ _);rw[q,e,q2,q2,q2];by_cases h1:k=src-d
 ·rw[aD h1,aD h1]
 ·rw[aA h1,aA h1];by_cases h2:src-d<k/\k<=src
  ·rw[aD h2,aD h2]
  ·rw[aA h2,aA h2]
theorem Hl{i j:Nat}(h:i<=j)(hn:¬i=j):i<=j-1:=yeg (RZ h hn)
theorem Ed{j n:Nat}(h:j<n+1)(hn:¬j<n):j=n:=Ub (RX h) (Nat.not_lt.mp hn)
theorem lM{x k:Nat}(h:1<=x)(hk:x<=k):x-1<k:=Yb h hk
theorem Dw{x f N:Nat}(h:x+(f+1)<=N):x<N:=mH (Nat.lt_add_of_pos_right (yR f)) h
theorem wX{x f N:Nat}(h:x+(f+1)<=N):x+1+f<=N:=cV (Fy (ydr x f)) h
theorem Ss{x f m:Nat}(h:m<=x+1+f):m<=x+(f+1):=cV h (Fy (ydr x f))
theorem U6{i j n:Nat}(h:i<=j):0+n-1-j<=0+n-1-i:=Nat.sub_le_sub_left h _
theorem U5{i n:Nat}(h:i<n):0+n-1-i<n:=by
 rw[Nat.zero_add];exact Io (wfc _ _) (Yb (Io (dY _) h) (aY _))
theorem asc(ok:mF O key N cmp s){p:Array Nat}(hp:Ord N p){Q:Nat->η->Prop}:∀(f n:Nat),1<=n->n+f<=N->So key p n->(∀m,n<=m->m<=n+f->So key p m->(m=n+f\/O.klt (KN key p m) (KN key p (m-1)))->Q m s)->(kas_asc p f n).kasWp cmp Q s
 |0,n,_,_,hs,h=>h n (aY _) (aY _) hs (.inl rfl)
 |f+1,n,h1,hn,hs,h=>by
  have V8:n<N:=Dw hn;refine ok _ _ _ (hp.lt V8) (hp.lt (lM h1 (dH V8))) ?_;cases hless:O.blt (key (p.getD n 0)) (key (p.getD (n-1) 0))with
  |true=>
   show Q n s;exact h n (aY _) (wea _ _) hs (.inr hless)
  |false=>
   show(kas_asc p f (n+1)).kasWp cmp Q s;refine asc ok hp f (n+1) (yR _) (wX hn) (fun i j hij hj=> ?_) fun m a b c d=>h m (wdl a) (Ss b) c (d.imp (fun z=>z.trans (ydr n f)) id);by_cases hjn:j<n
   ·exact hs i j hij hjn
   ·have hj':j=n:=Ed hj hjn;subst hj';by_cases hi':i=j
    ·subst hi';exact Qf _
    ·exact wcd (hs i (j-1) (Hl hij hi') (lM h1 (aY _))) hless
theorem tail3(ok:mF O key N cmp s){p:Array Nat}(hp:Ord N p){n:Nat}{Q:Nat×Array Nat->η->Prop}(h1:1<=n)(hn:n<=N)(hs:Ni key p n)(h:∀m p',Ord N p'->1<=m->m<=N->So key p' m->Q (m,p') s):(kas_tail3 n N p).kasWp cmp Q s:=by
 unfold kas_tail3;rw[Yp];have hsz:n<=p.size:=by rw[hp.size];exact hn
 have hN:n+(N-n)=N:=wcr hn;refine asc ok (hp.rev 0 n) (N-n) n h1 (Fy hN) (fun i j hij hj=> ?_) fun m a b c _=>h m _ (hp.rev 0 n) (cV h1 a) (cV b (Fy hN)) c;rw[Fg hsz,Fg hsz,aD ⟨dY _,Io hij hj⟩,aD ⟨dY _,hj⟩];exact hs _ _ (U6 hij) (U5 (Io hij hj))
theorem Oq{p p':Array Nat}{x:Nat}(h1:1<=x)(hs:Ni key p x)(hless:O.kle (KN key p x) (KN key p (x-1)))(hk:∀k,KN key p' k=KN key p k):Ni key p' (x+1):=by
 intro i j hij hj;rw[hk,hk];by_cases hjx:j<x
 ·exact hs i j hij hjx
 ·have hj':j=x:=Ed hj hjx;subst hj';by_cases hi':i=j
  ·subst hi';exact Qf _
  ·exact wcd hless (hs i (j-1) (Hl hij hi') (lM h1 (aY _)))
theorem one_eq{p:Array Nat}{x i:Nat}(h1:x+1-(0+1)<=i)(h2:i<x+1):KN key p i=KN key p (x+1-1):=kO _ (Ub (RX h2) h1)
theorem desc(ok:mF O key N cmp s){Q:Array Nat×Nat×Nat->η->Prop}:∀(f:Nat) (p:Array Nat) (x neq:Nat),Ord N p->1<=x->x+f<=N->Ni key p x->neq+1<=x->(∀i,x-(neq+1)<=i->i<x->KN key p i=KN key p (x-1))->
  (∀p' m q,Ord N p'->x<=m->m<=x+f->Ni key p' m->q+1<=m->(∀i,m-(q+1)<=i->i<m->KN key p' i=KN key p' (m-1))->Q (p',m,q) s)->(kas_desc f p x neq).kasWp cmp Q s
 |0,p,x,neq,hp,_,_,hs,hq,he,h=>h p x neq hp (aY _) (aY _) hs hq he
 |f+1,p,x,neq,hp,h1,hn,hs,hq,he,h=>by
  have hxN:x<N:=Dw hn;have hsz:x<=p.size:=by rw[hp.size];exact dH hxN
  have hx1:x-1<N:=lM h1 (dH hxN);have hh:∀p' m q,Ord N p'->x+1<=m->m<=x+1+f->Ni key p' m->q+1<=m->(∀i,m-(q+1)<=i->i<m->KN key p' i=KN key p' (m-1))->Q (p',m,q) s:=fun p' m q a b c d e g=>h p' m q a (wdl b) (Ss c) d e g;refine ok _ _ _ (hp.lt hxN) (hp.lt hx1) ?_;cases hless:O.blt (key (p.getD x 0)) (key (p.getD (x-1) 0))with
  |true=>
   show(if neq>0 then kas_desc f (kas_rev p (x-(neq+1)) x) (x+1) 0 else kas_desc f p (x+1) 0).kasWp cmp Q s;by_cases hneq:neq>0
   ·rw[aD hneq];exact desc ok f _ (x+1) 0 (hp.rev _ _) (yR _) (wX hn) (Oq h1 hs (Yq hless) (XM hsz he)) (yR _) (fun i h1 h2=>one_eq h1 h2) hh
   ·rw[aA hneq];exact desc ok f _ (x+1) 0 hp (yR _) (wX hn) (Oq h1 hs (Yq hless) fun _=>rfl) (yR _) (fun i h1 h2=>one_eq h1 h2) hh
  |false=>
   show(KasT.ask (p.getD (x-1) 0) (p.getD x 0) fun d=>if d=true then KasT.ret (p,x,neq)else kas_desc f p (x+1) (neq+1)).kasWp cmp Q s;refine ok _ _ _ (hp.lt hx1) (hp.lt hxN) ?_;cases hl:O.blt (key (p.getD (x-1) 0)) (key (p.getD x 0))with
   |true=>exact h p x neq hp (aY _) (wea _ _) hs hq he
   |false=>
    show(kas_desc f p (x+1) (neq+1)).kasWp cmp Q s;have heqx:KN key p x=KN key p (x-1):=KeyOrd.kle_antisymm hl hless;refine desc ok f _ (x+1) (neq+1) hp (yR _) (wX hn) (Oq h1 hs (by rw[heqx];exact Qf _) fun _=>rfl) (Nat.succ_le_succ hq) (fun i h1 h2=> ?_) hh;show KN key p i=KN key p x;by_cases hix:i=x
    ·subst hix;rfl
    ·rw[heqx];exact he i (cV (Fy (Nat.succ_sub_succ x (neq+1)).symm) h1) (RZ (RX h2) hix)
theorem descPart(ok:mF O key N cmp s){p:Array Nat}(hp:Ord N p){n:Nat}{Q:Nat×Array Nat->η->Prop}(hn:n+1<=N)(hs:Ni key p (n+1))(h:∀m p',Ord N p'->1<=m->m<=N->So key p' m->Q (m,p') s):(kas_descPart n N p).kasWp cmp Q s:=by
 unfold kas_descPart;rw[Yp];have hN:n+1+(N-(n+1))<=N:=Fy (wcr hn);refine desc ok _ _ _ _ hp (yR _) hN hs (yR _) (fun i h1 h2=>one_eq h1 h2) fun p' m q a b c d e g=> ?_;have hm:m<=N:=cV c hN;have hm1:1<=m:=cV (yR _) b;have hsz:m<=p'.size:=by rw[a.size];exact hm
 dsimp only;by_cases hq:q>0
 ·rw[aD hq];refine tail3 ok (a.rev _ _) hm1 hm (fun i j hij hj=> ?_) h;rw[XM hsz g,XM hsz g];exact d i j hij hj
 ·rw[aA hq];exact tail3 ok a hm1 hm d h
theorem count(ok:mF O key N cmp s){p:Array Nat}(hp:Ord N p){Q:Nat×Array Nat->η->Prop}(h1:1<=N)(h:∀m p',Ord N p'->1<=m->m<=N->So key p' m->Q (m,p') s):(kas_count N p).kasWp cmp Q s:=by
 unfold kas_count;rw[Yp];have hN:1+(N-1)=N:=wcr h1;refine asc ok hp (N-1) 1 (aY _) (Fy hN) (fun i j hij hj=>by
  have hj0:j=0:=Nat.lt_one_iff.mp hj;subst hj0;have hi0:i=0:=Nat.le_zero.mp hij;subst hi0;exact Qf _) fun n a b hsn hor=> ?_
 have V8:n<=N:=cV b (Fy hN);by_cases hnn:n=N
 ·rw[aD (by simpa using hnn)];exact h n p hp a V8 hsn
 ·rw[aA (by simpa using hnn)];have hlt:O.klt (KN key p n) (KN key p (n-1)):=hor.resolve_left fun z=>hnn (z.trans hN);have hln:n<N:=RZ V8 hnn;by_cases hgt:n>1
  ·rw[aD hgt];have hn1:n-1<n:=lM a (aY _);refine ok _ _ _ (hp.lt h1) (hp.lt (RV hn1 hln)) ?_;cases hrose:O.blt (key (p.getD 0 0)) (key (p.getD (n-1) 0))with
   |true=>exact h n p hp a V8 hsn
   |false=>
    show(kas_descPart n N (kas_rev p 0 n)).kasWp cmp Q s;have hsz:n<=p.size:=by rw[hp.size];exact V8
    have hall:∀k,0<=k->k<n->KN key p k=KN key p (n-1):=fun k _ hk=>
     KeyOrd.kle_antisymm (hsn k (n-1) (yeg hk) hn1) (wcd hrose (hsn 0 k (dY _) hk))
    refine descPart ok (hp.rev 0 n) hln (fun i j hij hj=> ?_) h;rw[XM hsz hall,XM hsz hall];by_cases hjn:j<n
    ·rw[hall i (dY _) (Io hij hjn),hall j (dY _) hjn];exact Qf _
    ·have hj':j=n:=Ed hj hjn;subst hj';by_cases hi':i=j
     ·subst hi';exact Qf _
     ·rw[hall i (dY _) (RZ hij hi')];exact Yq hlt
  ·rw[aA hgt];have hn1':n=1:=Ub (Nat.not_lt.mp hgt) a;subst hn1';refine descPart ok hp hln (fun i j hij hj=> ?_) h;by_cases hi':i=j
   ·subst hi';exact Qf _
   ·have hij':i<j:=RZ hij hi';have hj1:j=1:=Ub (RX hj) (Io (dY i) hij');subst hj1;have hi0:i=0:=Nat.lt_one_iff.mp hij';subst hi0;exact Yq hlt
theorem half_lt{l r:Nat}(h:l<r):(l+r)/2<r:=by omega
theorem Rj{l r:Nat}(h:l<r):l<=(l+r)/2:=by omega
theorem place(ok:mF O key N cmp s){p:Array Nat}(hp:Ord N p){k:Nat}{Q:Nat->η->Prop}(hk:k<N)(hs:So key p k):∀(f l r:Nat),l<=r->r<=k->r-l<=f->(∀i,i<l->O.kle (KN key p i) (KN key p k))->(∀i,r<=i->i<k->O.klt (KN key p k) (KN key p i))->
  (∀l,l<=k->(∀i,i<l->O.kle (KN key p i) (KN key p k))->(∀i,l<=i->i<k->O.klt (KN key p k) (KN key p i))->Q l s)->(kas_place p k f l r).kasWp cmp Q s
 |0,l,r,hlr,hrk,hm,hlo,hhi,h=>by
  have e:l=r:=Ub hlr (Nat.sub_eq_zero_iff_le.mp (Nat.le_zero.mp hm));subst e;exact h l hrk hlo hhi
 |f+1,l,r,hlr,hrk,hm,hlo,hhi,h=>by
  show(if l≥r then KasT.ret l else KasT.ask (p.getD k 0) (p.getD ((l+r)/2) 0) fun c=>if c=true then kas_place p k f l ((l+r)/2)else kas_place p k f ((l+r)/2+1) r).kasWp cmp Q s;by_cases hge:l≥r
  ·rw[aD hge];have e:l=r:=Ub hlr hge;subst e;exact h l hrk hlo hhi
  ·rw[aA hge];have hc:(l+r)/2<r:=half_lt (Nat.not_le.mp hge);have hd:l<=(l+r)/2:=Rj (Nat.not_le.mp hge);generalize (l+r)/2=c at hc hd⊢;refine ok _ _ _ (hp.lt hk) (hp.lt (RV (mH hc hrk) hk)) ?_;cases hless:O.blt (key (p.getD k 0)) (key (p.getD c 0))with
   |true=>
    refine place ok hp hk hs f l c hd (dH (mH hc hrk)) (RX (mH (Nat.sub_lt_sub_right hd hc) hm)) hlo (fun i h1 h2=> ?_) h;by_cases hi:i=c
    ·subst hi;exact hless
    ·exact KeyOrd.klt_of_klt_of_kle hless (hs c i h1 h2)
   |false=>
    refine place ok hp hk hs f (c+1) r hc hrk (RX (mH (Nat.sub_lt_sub_left (Io hd hc) (Nat.lt_succ_of_le hd)) hm)) (fun i h1=> ?_) hhi h;by_cases hi:i=c
    ·subst hi;exact hless
    ·exact wcd (hs i c (RX h1) (mH hc hrk)) hless
theorem aai{p:Array Nat}{k l:Nat}(hs:So key p k)(hl:l<=k)(hsz:k<p.size)(hlo:∀i,i<l->O.kle (KN key p i) (KN key p k))(hhi:∀i,l<=i->i<k->O.klt (KN key p k) (KN key p i)):So key (bubble p k (k-l)) (k+1):=by
 intro i j hij hj;have e:k-(k-l)=l:=Nat.sub_sub_self hl;rw[O1 hsz (wfc _ _),O1 hsz (wfc _ _),e];have hjk:j<=k:=RX hj;by_cases hi1:i=l
 ·rw[aD hi1];by_cases hj1:j=l
  ·rw[aD hj1];exact Qf _
  ·have lj:l<j:=RZ (hi1▸hij) (lA hj1);rw[aA hj1,aD ⟨lj,hjk⟩];exact Yq (hhi (j-1) (yeg lj) (Yb (Io (dY _) lj) hjk))
 ·rw[aA hi1];by_cases hi2:l<i/\i<=k
  ·have lj:l<j:=mH hi2.1 hij;rw[aD hi2,aA (lA (jy lj)),aD ⟨lj,hjk⟩];exact hs _ _ (Nat.sub_le_sub_right hij 1) (Yb (Io (dY _) lj) hjk)
  ·rw[aA hi2];have il:i<l:=RZ (Nat.not_lt.mp fun z=>hi2 ⟨z,cV hij hjk⟩) hi1;by_cases hj1:j=l
   ·rw[aD hj1];exact hlo i il
   ·rw[aA hj1];by_cases hj2:l<j/\j<=k
    ·rw[aD hj2];exact hs _ _ (yeg (RV il hj2.1)) (Yb (Io (dY _) hj2.1) hjk)
    ·rw[aA hj2];exact hs _ _ hij (mH (RZ (Nat.not_lt.mp fun z=>hj2 ⟨z,hjk⟩) hj1) hl)
theorem bins(ok:mF O key N cmp s){Q:Array Nat->η->Prop}:∀(f:Nat) (p:Array Nat) (k:Nat),Ord N p->1<=k->k+f=N->So key p k->(∀p',Ord N p'->So key p' N->Q p' s)->(kas_bin f p k).kasWp cmp Q s
 |0,p,k,hp,_,hf,hs,h=>h p hp ((show k=N from hf)▸hs)
 |f+1,p,k,hp,h1,hf,hs,h=>by
  show((kas_place p k k 0 k).bind fun l=>kas_bin f (bubble p k (k-l)) (k+1)).kasWp cmp Q s;rw[Yp];have hk:k<N:=Dw (Fy hf);have hsz:k<p.size:=by rw[hp.size];exact hk
  refine place ok hp hk hs k 0 k (dY _) (aY _) (wfc _ _) (fun i hi=>absurd hi (Ua _)) (fun i h1 h2=>absurd h2 (Nat.not_lt.mpr h1)) fun l hl hlo hhi=> ?_;exact bins ok f _ (k+1) (hp.bub _ _) (yR _) ((ydr k f).trans hf) (aai hs hl hsz hlo hhi) h
theorem sort(ok:mF O key N cmp s){Q:Array Nat->η->Prop}(h1:1<=N)(h:∀p',Ord N p'->So key p' N->Q p' s):(kas_sort N).kasWp cmp Q s:=by
 unfold kas_sort;rw[Yp];refine count ok ⟨Array.Perm.refl _⟩ h1 fun m p' hp hm1 hm2 hs=> ?_;dsimp only;by_cases hlt:m<N
 ·rw[aD hlt];have e:max m 1=m:=by omega
  rw[e];exact bins ok _ _ _ hp hm1 (by omega) hs h
 ·rw[aA hlt];have e:m=N:=by omega
  subst e;exact h p' hp hs
end
end uW
namespace uW
open PySem PySem.W PyProof.Rows PySem.Calls
noncomputable def OD{O:KeyOrd}(key:Nat->O.α)(vs out:List ζ):Prop:=∃p:Array Nat,Ord vs.length p/\So key p vs.length/\out=p.toList.map fun i=>vs.getD i Value.none
section
variable{prog:ξ}{w:τ}{A:Around}{E:L3}{s:η}{O:KeyOrd}{key:Nat->O.α}{κ:SortKind}{vs:List ζ}
theorem Dj(h2:vs.length<2):OD key vs vs:=by
 refine⟨List.toArray (List.range vs.length),⟨Array.Perm.refl _⟩,fun i j hij hj=> ?_,?_⟩
 ·have e:i=j:=by omega
  subst e;exact Qf _
 ·match vs,h2 with
  |[],_=>rfl
  |[v],_=>rfl
  |_::_::_,h=>simp at h;omega
theorem nH{a:Addr}{n:Nat}{P:PySem.Fin->η->Prop}(ho:s.heap.get? a=some (seqObj "list" vs.toArray n))(h64:vs.length<64)(hkind:2<=vs.length->∀h',(∀b o,b≠a->s.heap.get? b=some o->h'.get? b=some o)->∀Q:SortKind->η->Prop,Q κ {s with heap:=h'}->wpAny (model prog w) A (keyKind' vs.toArray) Q E {s with heap:=h'})(Nj:2<=vs.length->∀h',(∀b o,b≠a->s.heap.get? b=some o->h'.get? b=some o)->mF O key vs.length (kas_ask prog w A κ vs) {s with heap:=h'})(h:∀h' out c,OD key vs out->(∀b o,b≠a->s.heap.get? b=some o->h'.get? b=some o)->h'.get? a=some (seqObj "list" (List.toArray out) c)->P (.done (.ret .none)) {s with heap:=h'}):
  wpAny (model prog w) A (Builtin.«list.sort» ⟨[.ref a],[]⟩) P E s:=by
 have ha:a<s.heap.objs.size:=gP ho;have s1:=Yr s.heap a (Obj.mapSeq fun _=>(#[]:Array ζ));obtain⟨e1,ho1⟩:∃e1,(s.heap.update a (Obj.mapSeq fun _=>(#[]:Array ζ))).get? a=some (seqObj "list" #[] e1):=⟨_,wcs ho fun _=>#[]⟩;have keep:∀b o,b≠a->s.heap.get? b=some o->(((s.heap.update a (Obj.mapSeq fun _=>(#[]:Array ζ))).push (seqObj "tuple" vs.toArray 0)).push (seqObj "list" #[] 0)).get? b=some o:=fun b o hb e=>
  mJ _ (mJ _ ((s1.2 b hb).trans e))
 have ho6:(((s.heap.update a (Obj.mapSeq fun _=>(#[]:Array ζ))).push (seqObj "tuple" vs.toArray 0)).push (seqObj "list" #[] 0)).get? a=some (seqObj "list" #[] e1):=mJ _ (mJ _ ho1);rw[list_sort_plain];refine bW (listItems_at ho rfl ?_);refine bW (wdu ho rfl ?_ (by rw[iC,gU];omega) (dY _));refine bW (seqEpoch_at ho1 rfl ?_);refine bW (wpAny_newTuple ?_ (by show vs.length<=_;rw[gU];omega));refine bW (wdv ?_ (dY _));refine Xl ?_;show wpAny (model prog w) A _ P E {s with heap:=((s.heap.update a (Obj.mapSeq fun _=>(#[]:Array ζ))).push (seqObj "tuple" vs.toArray 0)).push (seqObj "list" #[] 0)};dsimp only;by_cases h2:vs.toArray.size<2
 ·have h2':vs.length<2:=by simpa using h2
  rw[aD h2,aD h2];refine bW (iY ?_);rw[StateT.run_pure];refine bW (iY ?_);dsimp only;refine bW (seqEpoch_at ho6 rfl ?_);refine bW (wdu ho6 rfl ?_ (dY _) (by rw[Array.size_map];show(pairsOf vs).size<=_;rw[pairsOf_size,gU];omega));simp only[bne_self_eq_false,Bool.false_eq_true,if_false];refine iY ?_;have eo:(vs.toArray.zip vs.toArray).map (·.2)=List.toArray vs:=by
   apply Array.toList_inj.mp;simp[List.map_snd_zip]
  have s2:=Yr (((s.heap.update a (Obj.mapSeq fun _=>(#[]:Array ζ))).push (seqObj "tuple" vs.toArray 0)).push (seqObj "list" #[] 0)) a (Obj.mapSeq fun _=>List.toArray vs);obtain⟨c2,hc2⟩:∃c2,((((s.heap.update a (Obj.mapSeq fun _=>(#[]:Array ζ))).push (seqObj "tuple" vs.toArray 0)).push (seqObj "list" #[] 0)).update a (Obj.mapSeq fun _=>List.toArray vs)).get? a=some (seqObj "list" (List.toArray vs) c2):=⟨_,wcs ho6 fun _=>List.toArray vs⟩;have fin:=h _ vs c2 (Dj h2') (fun b o hb e=>(s2.2 b hb).trans (keep b o hb e)) hc2
  first
   |exact fin
   |(rw[<-eo]at fin;exact fin)
   |(show P _ {s with heap:=Heap.update _ a (Obj.mapSeq fun _=>(vs.toArray.zip vs.toArray).map (·.2))};rw[eo];exact fin)
 ·have h2':2<=vs.length:=by rw[iC]at h2;omega
  rw[aA h2,aA h2];refine bW (hkind h2' _ keep _ ?_);refine bW (Ul (kat_run (Q:=fun st' s'=>s'={s with heap:=((s.heap.update a (Obj.mapSeq fun _=>(#[]:Array ζ))).push (seqObj "tuple" vs.toArray 0)).push (seqObj "list" #[] 0)}/\∃p:Array Nat,p.size=vs.length/\arrOf st'=p.map (kas_item (vs.toArray.zip vs.toArray))/\failedOf st'=none/\Ord vs.length p/\So key p vs.length)
   (G:=fun p s'=>s'={s with heap:=((s.heap.update a (Obj.mapSeq fun _=>(#[]:Array ζ))).push (seqObj "tuple" vs.toArray 0)).push (seqObj "list" #[] 0)}/\Ord vs.length p/\So key p vs.length)
   rfl h2' h64 (fun p' st' s' a1 a2 a3 a4=>⟨a4.1,p',a1,a2,a3,a4.2.1,a4.2.2⟩) (sort (Nj h2' _ keep) (by omega) fun p' hp hs=>⟨rfl,hp,hs⟩)) ?_ fun _ _ e=>e)
  rintro⟨⟨⟩,st'⟩ s' ⟨rfl,p,hp,har,hf,hor,hso⟩;dsimp only;have hout:=kat_snds rfl har;have hsz:(List.toArray (p.toList.map fun i=>vs.getD i Value.none)).size=vs.length:=by rw[iC,aL,Ug,hp]
  rw[hout];refine bW (seqEpoch_at ho6 rfl ?_);refine bW (wdu ho6 rfl ?_ (dY _) (cV (Fy hsz) (by rw[gU];omega)));rw[hf];simp only[bne_self_eq_false,Bool.false_eq_true,if_false];have s2:=Yr (((s.heap.update a (Obj.mapSeq fun _=>(#[]:Array ζ))).push (seqObj "tuple" vs.toArray 0)).push (seqObj "list" #[] 0)) a (Obj.mapSeq fun _=>List.toArray (p.toList.map fun i=>vs.getD i Value.none));obtain⟨c2,hc2⟩:∃c2,((((s.heap.update a (Obj.mapSeq fun _=>(#[]:Array ζ))).push (seqObj "tuple" vs.toArray 0)).push (seqObj "list" #[] 0)).update a (Obj.mapSeq fun _=>List.toArray (p.toList.map fun i=>vs.getD i Value.none))).get? a=some (seqObj "list" (List.toArray (p.toList.map fun i=>vs.getD i Value.none)) c2):=⟨_,wcs ho6 fun _=>_⟩;exact iY (h _ _ c2 ⟨p,hor,hso,rfl⟩ (fun b o hb e=>(s2.2 b hb).trans (keep b o hb e)) hc2)
theorem uc{l:Addr}{Q:L3}(hl:s.heap.IsList l vs.toArray)(h64:vs.length<64)(hkind:2<=vs.length->∀h',(∀b o,s.heap.get? b=some o->h'.get? b=some o)->∀(E:L3) (Q:SortKind->η->Prop),Q κ {s with heap:=h'}->wpAny (model prog w) A.in1.in1 (keyKind' vs.toArray) Q E {s with heap:=h'})(Nj:2<=vs.length->∀h',(∀b o,s.heap.get? b=some o->h'.get? b=some o)->mF O key vs.length (kas_ask prog w A.in1.in1 κ vs) {s with heap:=h'})(h:∀D h' out c,OD key vs out->s.heap.objs.size<=D->(∀b o,s.heap.get? b=some o->h'.get? b=some o)->h'.get? D=some (seqObj "list" (List.toArray out) c)->Q (.ref D) {s with heap:=h'}):
  wpAny (model prog w) A (call (.builtin "sorted") [.ref l]) Q E s:=by
 refine Calls.call_function_entry kind_sorted plain_sorted entry_sorted (args_sorted1 _) ?_;unfold Builtin.«sorted»;refine bW (m:=checkCount "sorted" 1 1 _) (iY ?_);refine bW (collect_list hl ?_ (by rw[gU];omega));refine bW (wdv ?_ (by rw[gU];omega));have hsz:((s.heap.push (seqObj "list" #[] 0)).update s.heap.objs.size (Obj.mapSeq (· ++vs.toArray))).objs.size=s.heap.objs.size+1:=by
  rw[Heap.size_update,size_push']
 have hoL:(((s.heap.push (seqObj "list" #[] 0)).update s.heap.objs.size (Obj.mapSeq (· ++vs.toArray))).push (seqObj "list" vs.toArray 0)).get? (s.heap.objs.size+1)=some (seqObj "list" vs.toArray 0):=by
  rw[<-hsz];exact sU _ rfl
 have keep:∀b o,s.heap.get? b=some o->(((s.heap.push (seqObj "list" #[] 0)).update s.heap.objs.size (Obj.mapSeq (· ++vs.toArray))).push (seqObj "list" vs.toArray 0)).get? b=some o:=fun b o q=>by
  have hlt:b<s.heap.objs.size:=gP q;rw[wbz _ _ _ (by rw[hsz];exact jy (vA hlt)),Heap.get?_update_ne _ _ _ _ (jy hlt),wbz _ _ _ (jy hlt)];exact q
 have ne:∀b o,s.heap.get? b=some o->b≠s.heap.objs.size+1:=fun b o q=>jy (vA (gP q));show wpAny _ _ _ _ _ {s with heap:=((s.heap.push (seqObj "list" #[] 0)).update s.heap.objs.size (Obj.mapSeq (· ++vs.toArray))).push (seqObj "list" vs.toArray 0)};rw[hsz];refine bW (Xl (wce slot_list_sort ⟨_,hoL,rfl⟩ entry_list_sort ?body (args_list_sort _)))
 case body=>
  refine nH (key:=key) (κ:=κ) (s:={s with heap:=((s.heap.push (seqObj "list" #[] 0)).update s.heap.objs.size (Obj.mapSeq (· ++vs.toArray))).push (seqObj "list" vs.toArray 0)}) hoL h64
   (fun h2 h' k Q hq=>hkind h2 h' (fun b o q=>k b o (ne b o q) (keep b o q)) _ Q hq) (fun h2 h' k=>Nj h2 h' fun b o q=>k b o (ne b o q) (keep b o q)) fun h' out c ho k hc=> ?_
  exact⟨_,rfl,iY ⟨_,rfl,h _ h' out c ho (Pk _) (fun b o q=>k b o (ne b o q) (keep b o q)) hc⟩⟩
end
end uW
namespace HT
open PySem PyProof.Rows
theorem cu:∀(a b:List Int),lexLt a b=decide (a<b)
 |[],[]=>by simp[lexLt]
 |[],_::_=>by simp[lexLt]
 |_::_,[]=>by simp[lexLt]
 |x::xs,y::ys=>by
  rw[lexLt_cons,cu xs ys];by_cases e:x=y
  ·subst e;simp
  ·rw[aA e];by_cases l:x<y
   ·simp[l,yeb]
   ·have:¬(x::xs<y::ys):=by rw[yeb];simp[l,e]
    simp[l,this]
end HT
namespace uW
open PySem PySem.W PyProof.Rows PySem.Calls
noncomputable def lexOrd:KeyOrd where
 α:=List Int
 blt a b:=decide (a<b)
 irrefl a:=by simpa using List.lt_irrefl a
 trans a b c h1 h2:=by simp only[Px]at *;exact List.lt_trans h1 h2
 negTrans a b c h:=by
  simp only[Px]at *;by_cases hab:a<b
  ·exact .inl hab
  ·exact .inr (List.lt_of_le_of_lt (List.not_lt.mp hab) h)
 total a b h1 h2:=by simp only[Yt]at *;exact List.le_antisymm (List.not_lt.mp h2) (List.not_lt.mp h1)
section
variable{prog:ξ}{w:τ}{A:Around}{s:η}{Q:Bool->η->Prop}
theorem uM{na nb:Nat}{xs ys:List ζ}{ns ms:List Int}(i:Nat)(hx:IntsAre xs ns)(hy:IntsAre ys ms)(hl:ns.length+nb=ms.length+na)(h:Q (HT.lexLt ns ms) s):KatLex prog w A true (decide (na<nb)) Q (xs.zip ys) i s:=by
 induction hx generalizing ys ms i with
 |nil=>
  rw[wdj];refine kat_nil ?_;cases hy with
  |nil=>
   rw[HT.lexLt_nil_nil]at h;rw[fW (by simp only[Pn]at hl;omega)];exact h
  |cons c u hw=>
   rw[HT.lexLt_nil_cons]at h;rw[cW (by simp only[Pn,yV]at hl;omega)];exact h
 |cons a t hv ih=>
  cases hy with
  |nil=>
   rw[wdb];refine kat_nil ?_;rw[HT.lexLt_cons_nil]at h;rw[fW (by simp only[Pn,yV]at hl;omega)];exact h
  |cons c u hw=>
   rw[X8];rw[HT.lexLt_cons]at h;refine kat_cons (wpAny_eqBool_int ?_);refine kat_go (fun e=> ?_) fun e=> ?_
   ·have e':a=c:=by simpa using e
    rw[aD e']at h;exact kat_yes (ih (i+1) hw (by simp only[yV]at hl;omega) h)
   ·have e':a≠c:=by simpa using e
    rw[aA e']at h;refine kat_no ?_;cases i with
    |zero=>exact oneLt_int h
    |succ i=>exact kat_one _ _ (lt_int (show PySem.W.BoolBack Q (.bool (decide (a<c))) s from h))
end
theorem xP{O:KeyOrd}{key:Nat->O.α}{α:Type}{vs out:List ζ}{its:List α}{d:α}{f:α->O.α}{R:α->ζ->Prop}(hR:Paired R its vs)(hk:∀i (hi:i<its.length),key i=f its[i])(h:OD key vs out):
  ∃its':List α,its'.Perm its/\Paired R its' out/\its'.Pairwise fun x y=>O.kle (f x) (f y):=by
 obtain⟨p,hp,hs,rfl⟩:=h;have hl:=hR.length;have get:∀{l₁:List α} {l₂:List ζ} {i:Nat},Paired R l₁ l₂->(h:i<l₁.length)->∃v,l₂[i]? =some v/\R l₁[i] v:=by
  intro l₁ l₂ i q
  induction q generalizing i with
  |nil=>intro h;simp at h
  |cons r t ih=>
   intro h;cases i with
   |zero=>exact⟨_,rfl,r⟩
   |succ i=>
    obtain⟨v,e,rv⟩:=ih (i:=i) (by simpa using h);exact⟨v,by simpa using e,by simpa using rv⟩
 have hlt:∀i∈p.toList,i<its.length:=fun i hi=>by
  have:=(yee.mp hp.perm).mem_iff.mp hi;rw[hl];simpa using this
 refine⟨p.toList.map fun i=>its.getD i d,?_,?_,?_⟩
 ·have q:=(yee.mp hp.perm).map (fun i=>its.getD i d);refine q.trans ?_;have e:(List.toArray (List.range vs.length)).toList.map (fun i=>its.getD i d)=its:=by
   rw[<-hl];apply wca;intro i;simp only[dU];by_cases hi:i<its.length
   ·simp[hi]
   ·simp[hi]
  rw[e]
 ·have mk:∀l:List Nat,(∀i∈l,i<its.length)->Paired R (l.map fun i=>its.getD i d) (l.map fun i=>vs.getD i Value.none):=by
   intro l
   induction l with
   |nil=>intro _;exact .nil
   |cons i l ih=>
    intro hb;refine .cons ?_ (ih fun j hj=>hb j (iG _ hj));have hi:=hb i iW;obtain⟨v,e,r⟩:=get hR hi;have e1:its.getD i d=its[i]:=by simp[hi]
    have e2:vs.getD i Value.none=v:=by rw[lq,e];rfl
    show R (its.getD i d) (vs.getD i Value.none);rw[e1,e2];exact r
  exact mk _ hlt
 ·rw[Ui];intro i j hi hj hij;simp only[aL,Ug]at hi hj;simp only[List.getElem_map];have hsz:=hp.size;have q:=hs i j (by omega) (by omega);have e:∀k (hk':k<p.size),KN key p k=f (its.getD p.toList[k] d):=fun k hk'=>by
   have e1:p.getD k 0=p.toList[k]:=by simp[Array.getD,hk']
   have hb:=hlt p.toList[k] (zx _);have e2:its.getD p.toList[k] d=its[p.toList[k]]:=by simp only[lq,dG hb,wec]
   unfold KN;rw[e1,e2];exact hk _ hb
  rw[e i hi,e j hj]at q;exact q
end uW
namespace L2
open PySem PySem.Spec PyProof.Rows PySem.W
section
variable{X:Cx}
theorem jX:CallR X (.builtin "sorted") (fun xs H Q=>∃(a:Addr) (its:List (Addr×List Int)),xs=[.ref a]/\SqL X.K H a (its.map fun p=>V.ref p.1)/\(∀p∈its,SqT X.K H p.1 (p.2.map V.int)/\p.2≠[])/\its.length<64/\
  ∀(l:Addr) (its':List (Addr×List Int)),H l=none->its'.Perm its->its'.Pairwise (fun p q=>HT.lexLt q.2 p.2=false)->Q (.ref l) (upd H l (.lst (its'.map fun p=>V.ref p.1)))):=by
 intro pins s σ H xs us Q I r h;obtain⟨a,its,rfl,hS,hT,h64,q⟩:=h;obtain⟨u,rfl,ru⟩:=r.one;cases ru;obtain⟨vs,rv,pl,hz⟩:=I.list hS;have hlen:its.length=vs.length:=by have:=rv.length;simpa using this
 -- the values beside the tuples
 have pr:Paired (fun(p:Addr×List Int) (v:ζ)=>v= .ref p.1) its vs:=by
  have go:∀(l:List (Addr×List Int)) (us:List ζ),Vals (l.map fun p=>V.ref p.1) us->Paired (fun(p:Addr×List Int) (v:ζ)=>v= .ref p.1) l us:=by
   intro l
   induction l with
   |nil=>intro us h;cases h;exact .nil
   |cons p l ih=>
    intro us h;cases h with
    |cons r t=>exact .cons r (ih _ t)
  exact go its vs rv
 have tup:∀p∈its,∃(items:List ζ),IntsAre items p.2/\IsTup s.heap p.1 items.toArray:=fun p hp=>by
  obtain⟨its',r',t',_⟩:=I.tuple (hT p hp).1;exact⟨its',TV r',t'⟩
 refine uW.uc (O:=uW.lexOrd) (key:=fun i=>(its.getD i (0,[])).2) (κ:=tuples' true) (s:=s) pl.isList (by omega) (fun h2 h' k E' Q' hq=> ?_) (fun h2 h' k=> ?_) (fun D h' out c ho hD k hc=> ?_)
 ·have kt:∀(l:List (Addr×List Int)) (us:List ζ),Paired (fun(p:Addr×List Int) (v:ζ)=>v= .ref p.1) l us->(∀p∈l,p∈its)->∃fs:List ζ,KatTups h' us fs/\fs.length=us.length/\∀v∈fs,∃i t,v=Value.int i t:=by
   intro l us h
   induction h with
   |nil=>intro _;exact⟨[],trivial,rfl,fun _ hv=>nomatch hv⟩
   | @cons p v l us r t ih=>
    intro hs;obtain⟨fs,k1,k2,k3⟩:=ih fun p hp=>hs p (iG _ hp);obtain⟨items,hi,o,e,hc,n,hd⟩:=tup p (hs p iW);have hne:=(hT p (hs p iW)).2;obtain⟨pa,pn⟩:=p;dsimp only at hi hne e r;cases hi with
    |nil=>exact absurd rfl hne
    |cons i t hi'=>
     rw[r];refine⟨Value.int i t::fs,KatTups.cons (k _ _ e) hc hd (by simp) k1,by simp[k2],fun v hv=> ?_⟩;rcases dg.mp hv with e|e
     ·exact⟨i,t,e⟩
     ·exact k3 v e
  obtain⟨fs,k1,k2,k3⟩:=kt its vs pr fun _ hp=>hp;refine kat_kind (s:={s with heap:=h'}) (T:= .type "int") k1 (by omega) (fun v hv=> ?_) (by rfl) hq;obtain⟨i,t,rfl⟩:=k3 v hv;exact fun A Q E s _ q=>iY q
 ·intro i j C hi hj hC;rw[<-hlen]at hi hj;have get:∀i (hi:i<its.length),vs.getD i Value.none= .ref its[i].1:=by
   have go:∀(l:List (Addr×List Int)) (us:List ζ),Paired (fun(p:Addr×List Int) (v:ζ)=>v= .ref p.1) l us->∀i (hi:i<l.length),us.getD i Value.none= .ref l[i].1:=by
    intro l us h
    induction h with
    |nil=>intro i hi;simp at hi
    |cons r t ih=>
     intro i hi;cases i with
     |zero=>exact r
     |succ i=>simpa using ih i (by simpa using hi)
   exact go its vs pr
  unfold kas_ask;rw[get i hi,get j hj];obtain⟨xi,hxi,oi,ei,ci,ni,di⟩:=tup its[i] (zx _);obtain⟨xj,Tq,oj,ej,cj,nj,dj⟩:=tup its[j] (zx _);refine kat_lt (s:={s with heap:=h'}) (k _ _ ei) di (k _ _ ej) dj ?_;refine uW.uM 0 hxi Tq ?_ ?_
  ·have:=hxi.length;have:=Tq.length;simp only[iC];omega
  ·rw[HT.cu];have e1:its.getD i (0,[])=its[i]:=by simp[hi]
   have e2:its.getD j (0,[])=its[j]:=by simp[hj]
   have hC':C (decide ((its.getD i (0,[])).2<(its.getD j (0,[])).2)) {s with heap:=h'}:=hC;rw[e1,e2]at hC';exact hC'
 ·obtain⟨its',hp,hr,hw⟩:=uW.xP (d:=((0,[]):Addr×List Int)) (f:=fun p=>p.2) pr (fun i hi=>by show(its.getD i (0,[])).2=_;simp[hi]) ho;have hn:H D=none:=I.hok.fresh hD;have rv':Vals (its'.map fun p=>V.ref p.1) out:=by
   have go:∀(l:List (Addr×List Int)) (us:List ζ),Paired (fun(p:Addr×List Int) (v:ζ)=>v= .ref p.1) l us->Vals (l.map fun p=>V.ref p.1) us:=by
    intro l us h
    induction h with
    |nil=>exact .nil
    |cons r t ih=>exact .cons r ih
   exact go its' out hr
  have zl:(its'.map fun p=>V.ref p.1).length<=sizeLine:=by
   have:=hp.length_eq;rw[aL];exact dH (small1000 (by omega))
  have J:Inv X pins σ (upd H D (.lst (its'.map fun p=>V.ref p.1))) {s with heap:=h',toks:=s.toks}:=I.laid k hD ⟨zl,out,c,rv',hc⟩;refine⟨.ref D,_,J,rfl,q D its' hn hp (hw.imp fun{x y} hxy=> ?_)⟩;rw[HT.cu];exact hxy
end
end L2
namespace L2
open PySem PySem.Spec PyProof.Rows
section
variable{X:Cx}
theorem uU:∀{bs:List Bool} {us:List ζ},Vals (bs.map V.bl) us->us=bs.map Value.bool
 |[],_,h=>by cases h;rfl
 |b::bs,_,h=>by
  cases h with
  |cons r t=>rw[yS,uU t];exact kO (· ::_) r
theorem eX(hc:X.calm=true):CallR X (.builtin "all") (fun xs H Q=>∃(a:Addr) (bs:List Bool),xs=[.ref a]/\SqL X.K H a (bs.map V.bl)/\Q (.bl (bs.all id)) H):=by
 intro pins s σ H xs us Q I r h;obtain⟨a,bs,rfl,hS,q⟩:=h;obtain⟨u,rfl,ru⟩:=r.one;cases ru;obtain⟨vs,rv,pl,hz⟩:=I.list hS;have hv:=uU rv;have hl:=pl.isList;have hlt:a<s.heap.objs.size:=by obtain⟨_,e,_⟩:=hl;exact gP e
 refine call_all_walk (wcb hl ?_);refine⟨s.heap.objs.size,[s.heap.objs.size,a],[s.heap.objs.size],vs.toArray.size,_,_,fun i=>(bs[i]?).getD true,rfl,Walks.list (A:=X.A.in1) (I.ok.hd hc) _ a (jy hlt) vs.toArray,
  ⟨⟨_,sU _ rfl,rfl,rfl⟩,hl.push _⟩,fun i v s' Q' E' hP hQ=> ?_,fun h' tk hk=> ?_⟩
 ·have hP':vs[i]? =some v:=by simpa using hP
  rw[hv,dU]at hP';cases e:bs[i]? with
  |none=>rw[e]at hP';cases hP'
  |some b=>
   rw[e]at hP';cases hP';simp only[e,wec]at hQ;exact Qg hQ
 ·have e:((List.range vs.toArray.size).all fun i=>(bs[i]?).getD true)=bs.all id:=by
   rw[iC,hv,aL];exact LSm.range_all bs
  rw[e];exact⟨.bl _,H,I.kept (LSm.kept_iter hk),rfl,q⟩
theorem Bp(hc:X.calm=true):CallR X (.builtin "any") (fun xs H Q=>∃(a:Addr) (bs:List Bool),xs=[.ref a]/\SqL X.K H a (bs.map V.bl)/\Q (.bl (bs.any id)) H):=by
 intro pins s σ H xs us Q I r h;obtain⟨a,bs,rfl,hS,q⟩:=h;obtain⟨u,rfl,ru⟩:=r.one;cases ru;obtain⟨vs,rv,pl,hz⟩:=I.list hS;have hv:=uU rv;have hl:=pl.isList;have hlt:a<s.heap.objs.size:=by obtain⟨_,e,_⟩:=hl;exact gP e
 refine call_any_walk (wcb hl ?_);refine⟨s.heap.objs.size,[s.heap.objs.size,a],[s.heap.objs.size],vs.toArray.size,_,_,fun i=>(bs[i]?).getD false,rfl,Walks.list (A:=X.A.in1) (I.ok.hd hc) _ a (jy hlt) vs.toArray,
  ⟨⟨_,sU _ rfl,rfl,rfl⟩,hl.push _⟩,fun i v s' Q' E' hP hQ=> ?_,fun h' tk hk=> ?_⟩
 ·have hP':vs[i]? =some v:=by simpa using hP
  rw[hv,dU]at hP';cases e:bs[i]? with
  |none=>rw[e]at hP';cases hP'
  |some b=>
   rw[e]at hP';cases hP';simp only[e,wec]at hQ;exact Qg hQ
 ·have e:((List.range vs.toArray.size).any fun i=>(bs[i]?).getD false)=bs.any id:=by
   rw[iC,hv,aL];exact LSm.range_any bs
  rw[e];exact⟨.bl _,H,I.kept (LSm.kept_iter hk),rfl,q⟩
noncomputable def OJ(K:W.Frag)(H:Hp):V->String->Prop
 | .non,T=>T="NoneType"
 | .bl _,T=>T="bool"
 | .int _,T=>T="int"
 | .str _,T=>T="str"
 | .ref a,T=>(T="tuple"/\∃xs,SqT K H a xs)\/(T="list"/\∃xs,SqL K H a xs)\/(T="dict"/\∃kvs,H a=some (.dK kvs))
 |_,_=>False
noncomputable def p8(T C:String):Bool:=T==C||(T=="bool"&&C=="int")
theorem Cd:CallR X (.builtin "isinstance") (fun xs H Q=>∃(x:V) (T C:String),xs=[x,.ty C]/\OJ X.K H x T/\(C="int"\/C="bool"\/C="tuple"\/C="list")/\Q (.bl (p8 T C)) H):=by
 intro pins s σ H xs us Q I r h;obtain⟨x,T,C,rfl,hk,hC,q⟩:=h;obtain⟨u,v,rfl,ru,rv⟩:=r.two;cases rv;have Oe:∀b,b=p8 T C->EP X pins σ Q (.bool b) s:=fun b e=>⟨.bl b,H,I,rfl,by rw[e];exact q⟩;have gB:∀b,b=p8 T C->EP X pins σ Q (.bool b) {s with toks:=s.toks+1}:=fun b e=>⟨.bl b,H,I.tok _,rfl,by rw[e];exact q⟩;cases x with
 |non=>
  cases ru;cases hk;rcases hC with rfl|rfl|rfl|rfl
  ·exact IsiPair.NoneType_int (gB _ rfl)
  ·exact IsiPair.NoneType_bool (gB _ rfl)
  ·exact IsiPair.NoneType_tuple (gB _ rfl)
  ·exact IsiPair.NoneType_list (gB _ rfl)
 |bl b=>
  cases ru;cases hk;rcases hC with rfl|rfl|rfl|rfl
  ·exact IsiPair.bool_int (Oe _ rfl)
  ·exact IsiPair.bool_bool (Oe _ rfl)
  ·exact IsiPair.bool_tuple (gB _ rfl)
  ·exact IsiPair.bool_list (gB _ rfl)
 |int i=>
  obtain⟨t,rfl⟩:=ru;cases hk;rcases hC with rfl|rfl|rfl|rfl
  ·exact IsiPair.int_int (Oe _ rfl)
  ·exact IsiPair.int_bool (gB _ rfl)
  ·exact IsiPair.int_tuple (gB _ rfl)
  ·exact IsiPair.int_list (gB _ rfl)
 |str z=>
  obtain⟨t,rfl⟩:=ru;cases hk;rcases hC with rfl|rfl|rfl|rfl
  ·exact IsiPair.str_int (gB _ rfl)
  ·exact IsiPair.str_bool (gB _ rfl)
  ·exact IsiPair.str_tuple (gB _ rfl)
  ·exact IsiPair.str_list (gB _ rfl)
 |ref a=>
  cases ru;rcases hk with⟨rfl,xs,hS⟩|⟨rfl,xs,hS⟩|⟨rfl,kvs,hS⟩
  ·obtain⟨its,_,⟨o,e,c,n,d⟩,_⟩:=I.tuple hS;rcases hC with rfl|rfl|rfl|rfl
   ·exact IsiPair.tuple_int e c (gB _ rfl)
   ·exact IsiPair.tuple_bool e c (gB _ rfl)
   ·exact IsiPair.tuple_tuple e c (Oe _ rfl)
   ·exact IsiPair.tuple_list e c (gB _ rfl)
  ·obtain⟨its,_,⟨o,n,e,c,d,_⟩,_⟩:=I.list hS;rcases hC with rfl|rfl|rfl|rfl
   ·exact IsiPair.list_int e c (gB _ rfl)
   ·exact IsiPair.list_bool e c (gB _ rfl)
   ·exact IsiPair.list_tuple e c (gB _ rfl)
   ·exact IsiPair.list_list e c (Oe _ rfl)
  ·obtain⟨_,_,vs,_,o,es,ep,e,c,_⟩:=I.hok a _ hS;have c':o.cls= .type "dict":=c.1;rcases hC with rfl|rfl|rfl|rfl
   ·exact IsiPair.dict_int e c' (gB _ rfl)
   ·exact IsiPair.dict_bool e c' (gB _ rfl)
   ·exact IsiPair.dict_tuple e c' (gB _ rfl)
   ·exact IsiPair.dict_list e c' (gB _ rfl)
 |_=>exact hk.elim
end
mutual
inductive DV(K:W.Frag)(H:Hp):V->θ->Prop
 |non:DV K H .non .none
 |bl (b:Bool):DV K H (.bl b) (.bool b)
 |int (i:Int):DV K H (.int i) (.int i)
 |str (x:Str):DV K H (.str x) (.str x)
 |tup {a:Addr} {xs:List V} {ds:List θ} (h:SqT K H a xs) (t:cQ K H xs ds):DV K H (.ref a) (.tuple ds)
 |lst {a:Addr} {xs:List V} {ds:List θ} (h:SqL K H a xs) (t:cQ K H xs ds):DV K H (.ref a) (.list ds)
 |dc0 {a:Addr} (h:H a=some (.dK [])):DV K H (.ref a) (.dict [])
 |dc1 {a b:Addr} {i:Int} (h:H a=some (.dK [(Sum.inl i,.ref b)])) (t:SqT K H b []):DV K H (.ref a) (.dict [(.int i,.tuple [])])
inductive cQ(K:W.Frag)(H:Hp):List V->List θ->Prop
 |nil:cQ K H [] []
 |cons {x:V} {d:θ} {xs:List V} {ds:List θ} (h:DV K H x d) (t:cQ K H xs ds):cQ K H (x::xs) (d::ds)
end
theorem Same.tup{K:W.Frag}{H H':Hp}{a:Addr}{xs:List V}(e:Same H H')(h:SqT K H a xs):SqT K H' a xs:=by
 rcases h with(h|⟨o,h⟩)|h
 ·exact .inl (.inl (e _ _ h))
 ·exact .inl (.inr ⟨o,e _ _ h⟩)
 ·exact .inr h
theorem cQ.same{K:W.Frag}{H H':Hp}(e:Same H H'){xs:List V}{ds:List θ}(h:cQ K H xs ds):cQ K H' xs ds:=
 cQ.rec (motive_1:=fun x d _=>DV K H' x d) (motive_2:=fun xs ds _=>cQ K H' xs ds) .non (fun b=> .bl b) (fun i=> .int i) (fun x=> .str x) (fun h _ t=> .tup (e.tup h) t) (fun h _ t=> .lst (e.seq h) t) (fun h=> .dc0 (e _ _ h)) (fun h t=> .dc1 (e _ _ h) (e.tup t)) .nil (fun _ _ h t=> .cons h t) h
theorem Jg{P:ξ}{w:τ}{es:List DictEntry}(h:Pairs (mixKind P w) es []):es=[]:=by
 cases h;rfl
theorem Jf{P:ξ}{w:τ}{es:List DictEntry}{k:Key}{u:ζ}(h:Pairs (mixKind P w) es [(k,u)]):∃e,es=[e]/\keyIs k e.key=true/\e.val=u:=by
 cases h with
 |cons h1 h2 h3=>
  cases h3;exact⟨_,rfl,h1,h2⟩
section
variable{X:Cx}{pins:L1}{σ:St}{H:Hp}{s:η}
theorem Jy(I:Inv X pins σ H s){a:Addr}(h:H a=some (.dK [])):Reads s.heap (.ref a) (.dict []) (a::[]++[])/\(a==sysModules)=false:=by
 obtain⟨_,hne,vs,r0,o,es,ep,e,c,d,_,pr,_⟩:=I.hok _ _ h;cases r0;have hes:es.toList=[]:=Jg pr;refine⟨.dict (kvs:=[]) (as:=[]) (bs:=[]) e c.1 d ?_ ?_,hne⟩
 ·rw[hes];exact .nil
 ·rw[hes];exact .nil
theorem Jx(I:Inv X pins σ H s){a b:Addr}{i:Int}(h:H a=some (.dK [(Sum.inl i,.ref b)]))(t:SqT X.K H b []):Reads s.heap (.ref a) (.dict [(.int i,.tuple [])]) (a::([]++[])++([]++[]))/\(a==sysModules)=false:=by
 obtain⟨_,hne,vs,r0,o,es,ep,e,c,d,_,pr,_⟩:=I.hok _ _ h;obtain⟨its,rv,⟨o2,e2,c2,n2,d2⟩,_⟩:=I.tuple t;cases rv;cases r0 with
 | @cons p q ps qs hq tl=>
  cases tl;obtain⟨en,he,hk,hv⟩:=Jf pr;obtain⟨k,u⟩:=q;dsimp only at hq;obtain⟨hk1,hu1⟩:=hq;subst hk1;cases hu1;obtain⟨tk,ek⟩:∃tk,en.key=Value.int i tk:=by
   rcases Pj hk with⟨i',t',e3,e4⟩|⟨x,t',e3,e4⟩
   ·cases e3;exact⟨t',e4⟩
   ·cases e3
  refine⟨.dict (kvs:=[(.int i,.tuple [])]) (as:=[]++[]) (bs:=[]++[]) e c.1 d ?_ ?_,hne⟩
  ·rw[he];show ReadsAll s.heap [en.key] [PyData.int i] _;rw[ek];exact .cons (.int i tk) .nil
  ·rw[he];show ReadsAll s.heap [en.val] [PyData.tuple []] _;rw[hv];exact .cons (.tuple e2 c2 d2 .nil) .nil
theorem Jc(I:Inv X pins σ H s){a:Addr}{xs:List V}{ds:List θ}(h:SqT X.K H a xs)(t:∀{us:List ζ},Vals xs us->∃as,ReadsAll s.heap us ds as){u:ζ}(r:RelV (.ref a) u):∃as,Reads s.heap u (.tuple ds) as:=by
 cases r;obtain⟨its,rv,⟨o,e,c,n,d⟩,_⟩:=I.tuple h;obtain⟨as,ra⟩:=t rv;exact⟨_,.tuple e c d (by simpa using ra)⟩
theorem Jd(I:Inv X pins σ H s){a:Addr}{xs:List V}{ds:List θ}(h:SqL X.K H a xs)(t:∀{us:List ζ},Vals xs us->∃as,ReadsAll s.heap us ds as){u:ζ}(r:RelV (.ref a) u):∃as,Reads s.heap u (.list ds) as:=by
 cases r;obtain⟨its,rv,⟨o,n,e,c,_,d⟩,_⟩:=I.list h;obtain⟨as,ra⟩:=t rv;exact⟨_,.list e c d (by simpa using ra)⟩
theorem DV.reads(I:Inv X pins σ H s){x:V}{d:θ}{u:ζ}(h:DV X.K H x d)(r:RelV x u):∃as,Reads s.heap u d as:=
 DV.rec (motive_1:=fun x d _=>∀{u:ζ},RelV x u->∃as,Reads s.heap u d as) (motive_2:=fun xs ds _=>∀{us:List ζ},Vals xs us->∃as,ReadsAll s.heap us ds as)
  (fun r=>by cases r;exact⟨_,.none⟩) (fun b _ r=>by cases r;exact⟨_,.bool b⟩) (fun i _ r=>by obtain⟨t,rfl⟩:=r;exact⟨_,.int i t⟩) (fun x _ r=>by obtain⟨t,rfl⟩:=r;exact⟨_,.str x t⟩)
  (fun h _ t _ r=>Jc I h t r) (fun h _ t _ r=>Jd I h t r) (fun h _ r=>by cases r;exact⟨_,(Jy I h).1⟩) (fun h t _ r=>by cases r;exact⟨_,(Jx I h t).1⟩)
  (fun r=>by cases r;exact⟨_,.nil⟩) (fun _ _ h t _ r=>by
   cases r with
   |cons r rr=>
    obtain⟨as,ra⟩:=h r;obtain⟨bs,rb⟩:=t rr;exact⟨_,.cons ra rb⟩) h r
theorem cQ.reads(I:Inv X pins σ H s){xs:List V}{ds:List θ}{us:List ζ}(h:cQ X.K H xs ds)(r:Vals xs us):∃as,ReadsAll s.heap us ds as:=
 cQ.rec (motive_1:=fun _ _ _=>True) (motive_2:=fun xs ds _=>∀{us:List ζ},Vals xs us->∃as,ReadsAll s.heap us ds as) trivial (fun _=>trivial) (fun _=>trivial) (fun _=>trivial) (fun _ _ _=>trivial) (fun _ _ _=>trivial) (fun _=>trivial) (fun _ _=>trivial)
  (fun r=>by cases r;exact⟨_,.nil⟩) (fun h _ _ t _ r=>by
   cases r with
   |cons r rr=>
    obtain⟨as,ra⟩:=DV.reads I h r;obtain⟨bs,rb⟩:=t rr;exact⟨_,.cons ra rb⟩) h r
end
mutual
def noL:θ->Bool
 | .list _=>false
 | .tuple ds=>YT ds
 |_=>true
def YT:List θ->Bool
 |[]=>true
 |d::ds=>noL d&&YT ds
end
theorem cQ.ints{K:W.Frag}{H:Hp}:∀(ns:List Int),cQ K H (ns.map V.int) (ns.map PyData.int)
 |[]=> .nil
 |n::ns=> .cons (.int n) (cQ.ints ns)
theorem cQ.len{K:W.Frag}{H:Hp}{xs:List V}{ds:List θ}(h:cQ K H xs ds):xs.length=ds.length:=
 cQ.rec (motive_1:=fun _ _ _=>True) (motive_2:=fun xs ds _=>xs.length=ds.length) trivial (fun _=>trivial) (fun _=>trivial) (fun _=>trivial) (fun _ _ _=>trivial) (fun _ _ _=>trivial) (fun _=>trivial) (fun _ _=>trivial) rfl (fun _ _ _ t=>kO Nat.succ t) h
section
variable{X:Cx}
theorem xU(hu:X.A.units+64<cLine):OpR X (compareOp .Eq) (fun x y H Q=>∃da db,DV X.K H x da/\DV X.K H y db/\da.canLay0=true/\db.canLay0=true/\min da.depth db.depth<=64/\Q (.bl (PyData.eqv da db)) H):=by
 intro pins s σ H x y v u Q I rx ry h;obtain⟨da,db,hx,hy,ca,cb,hd,q⟩:=h;obtain⟨as,ra⟩:=DV.reads I hx rx;obtain⟨bs,rb⟩:=DV.reads I hy ry;exact SeqAt.rcAt_reads ra rb ca cb (by omega) _ _ _ _ ⟨.bl _,H,I,rfl,q⟩
theorem xQ(hu:X.A.units+64<cLine):OpR X (compareOp .NotEq) (fun x y H Q=>∃da db,DV X.K H x da/\DV X.K H y db/\da.canLay0=true/\db.canLay0=true/\min da.depth db.depth<=64/\Q (.bl (!PyData.eqv da db)) H):=by
 intro pins s σ H x y v u Q I rx ry h;obtain⟨da,db,hx,hy,ca,cb,hd,q⟩:=h;obtain⟨as,ra⟩:=DV.reads I hx rx;obtain⟨bs,rb⟩:=DV.reads I hy ry;exact SeqAt.rcNeAt_reads ra rb ca cb (by omega) _ _ _ _ ⟨.bl _,H,I,rfl,q⟩
theorem Fd:∀{ds:List θ},PyData.canLayAll0 ds=true->∀d∈ds,d.canLay0=true
 |[],_,d,h=>nomatch h
 |e::ds,h,d,hd=>by
  have h':(e.canLay0&&PyData.canLayAll0 ds)=true:=h;rw[kj]at h';rcases dg.mp hd with rfl|hd
  ·exact h'.1
  ·exact Fd h'.2 d hd
open Classical in
theorem xT(hu:X.A.units+64<cLine):OpR X (compareOp .In) (fun x y H Q=>∃(p:Addr) (xs:List V) (ds:List θ) (dx:θ),y= .ref p/\(SqL X.K H p xs\/SqT X.K H p xs)/\cQ X.K H xs ds/\DV X.K H x dx/\PyData.canLayAll0 ds=true/\dx.canLay0=true/\dx.depth<=60/\
  Q (.bl (ds.any fun d=>PyData.eqv d dx)) H):=by
 intro pins s σ H x y v u Q I rx ry h;obtain⟨p,xs,ds,dx,rfl,hq,hds,hx,ca,cb,hd,q⟩:=h;cases ry;obtain⟨bs,rb⟩:=DV.reads I hx rx;have key:∀{its:List ζ},Vals xs its->(∀y∈its,SeqAt.EqAt X.A.in1 s y v (decide (∃d as,Reads s.heap y d as/\d∈ds/\PyData.eqv d dx=true)))/\(its.any fun y=>decide (∃d as,Reads s.heap y d as/\d∈ds/\PyData.eqv d dx=true))=ds.any fun d=>PyData.eqv d dx:=by
  intro its rv;obtain⟨as,ra⟩:=cQ.reads I hds rv;have each:∀{us:List ζ} {es:List θ} {as:List Addr},ReadsAll s.heap us es as->(∀e∈es,e∈ds)->(∀y∈us,SeqAt.EqAt X.A.in1 s y v (decide (∃d as,Reads s.heap y d as/\d∈ds/\PyData.eqv d dx=true)))/\(us.any fun y=>decide (∃d as,Reads s.heap y d as/\d∈ds/\PyData.eqv d dx=true))=es.any fun d=>PyData.eqv d dx:=by
   intro us
   induction us with
   |nil=>intro es as h _;cases h;exact⟨(fun y hy=>(nomatch hy)),rfl⟩
   |cons y us ih=>
    intro es as h hs;cases h with
    | @cons _ _ d ds' as' bs' r rr=>
     obtain⟨i1,i2⟩:=ih rr fun e he=>hs e (iG _ he);have cl:=Fd ca d (hs d iW);have e:decide (∃d as,Reads s.heap y d as/\d∈ds/\PyData.eqv d dx=true)=PyData.eqv d dx:=by
      rw[vC,Px];constructor
      ·rintro⟨d',as'',r',_,q'⟩;obtain⟨rfl,_⟩:=(PySem.Reads.unique r _ _ r');exact q'
      ·intro q';exact⟨d,_,r,hs d iW,q'⟩
     refine⟨fun z hz=> ?_,?_⟩
     ·rcases dg.mp hz with rfl|hz
      ·rw[e];exact SeqAt.eqAt_reads d dx _ s _ _ _ _ r rb cl cb (by show X.A.units+1+min d.depth dx.depth<cLine;omega)
      ·exact i1 z hz
     ·rw[Xb,Xb,i2,e]
  exact each ra fun e he=>he
 rcases hq with hq|hq
 ·obtain⟨its,r,pl,hz⟩:=I.list hq;obtain⟨k1,k2⟩:=key r;refine SeqAt.in_listAt _ pl.isList (fun w hw=>k1 w (by simpa using hw)) ⟨.bl _,H,I,rfl,?_⟩;rw[show∀f:ζ->Bool,its.toArray.any f=its.any f from fun f=>by simp,k2];exact q
 ·obtain⟨its,r,pl,hz⟩:=I.tuple hq;obtain⟨k1,k2⟩:=key r;refine SeqAt.in_tupleAt _ pl (fun w hw=>k1 w (by simpa using hw)) ⟨.bl _,H,I,rfl,?_⟩;rw[show∀f:ζ->Bool,its.toArray.any f=its.any f from fun f=>by simp,k2];exact q
theorem lN:OpR X (binaryOp .FloorDiv) (rI (fun _ j=>0<j/\j<1000000000000000000000000000000) fun i j=> .int (i/j)):=opI fun i j _ _ _ _ _ hc q=>by
 have h1:(0:Int)<j:=hc.1;have h2:j<1000000000000000000000000000000:=hc.2;refine floordiv_int (by omega) ?_ (Or.inl (wdm ?_))
 ·rw[wcw _ (by omega)];exact q
 ·have h3:j.natAbs≠0:=by omega
  have h4:j.natAbs<2^100:=by
   have:(2:Nat)^100=1267650600228229401496703205376:=by decide
   omega
  have:=(Nat.log2_lt h3).mpr h4;omega
noncomputable def Te(K:W.Frag):R2:=fun x y H Q=>∃a b xs ys,x= .ref a/\y= .ref b/\SqT K H a xs/\SqT K H b ys/\xs.length+ys.length<=sizeLine/\∀r H',Same H H'->SqT K H' r (xs++ys)->Q (.ref r) H'
theorem GR:OpR X (binaryOp .Add) (Te X.K):=by
 intro pins s σ H x y v u Q I rx ry h;obtain⟨a,b,xs,ys,rfl,rfl,ha,hb,hz,q⟩:=h;by_cases hx:xs=[]
 ·subst hx;cases rx;cases ry;obtain⟨its,r1,p1,_⟩:=I.tuple ha;obtain⟨its2,r2,p2,_⟩:=I.tuple hb;cases r1;obtain⟨⟨cls,dd,data,sl⟩,ho,hc,n,hd⟩:=id p1;obtain⟨⟨cls2,dd2,data2,sl2⟩,ho2,hc2,n2,hd2⟩:=id p2;simp only at hc hd hc2 hd2;subst hc hd hc2 hd2;exact concat_meets ⟨_,ho,rfl⟩ ⟨_,ho2,rfl⟩ wdz seq_tuple_add wbv wbq (wbl _ _)
   (tuple_addW0 a b _ _ n n2 dd dd2 sl sl2 (by simp)) ⟨ho,ho2,⟨.ref b,H,I,rfl,q b H (Same.refl _) hb⟩⟩
 ·refine op_catT pins s σ H _ _ v u Q I rx ry ⟨a,b,xs,ys,rfl,rfl,ha,hb,hx,hz,fun e=> ?_,fun e p hp=> ?_⟩
  ·subst e;exact q a H (Same.refl _) (by rw[Cr];exact ha)
  ·exact q p _ (fun c o e=>by rw[cY (sS e hp)];exact e) (SqT.of aF)
end
section
variable{X:Cx}{tg:Expr}
noncomputable def V6(K:W.Frag)(tl:TE):TI:=fun σ H R=>tl σ H fun x H1=>∃a xs,x= .ref a/\SqL K H1 a xs/\(xs.length<=sizeLine->R (Itl K a) H1)
noncomputable def Tp(K:W.Frag)(tl:TE):TI:=fun σ H R=>tl σ H fun x H1=>∃a xs,x= .ref a/\SqT K H1 a xs/\(xs.length<=sizeLine->R (Itt K a) H1)
theorem sO{l:Expr}{tl:TE}(hl:PE X l tl):PI X tg l (V6 X.K tl):=by
 intro pins s σ H R I h;refine thn (hl pins s σ H _ I h) fun v s1 ⟨x,H1,I1,r1,q1⟩=> ?_;obtain⟨a,xs,e,hq,q⟩:=q1;subst e;cases r1;obtain⟨its,rv,p,hz⟩:=I1.list hq;refine wcb p.isList ?_;refine⟨s1.heap.objs.size,[s1.heap.objs.size],_,_,H1,rfl,I1.kept (t':=s1.toks) fun b o e=>mJ _ e,turn_list a _,⟨_,sU _ rfl,rfl,rfl⟩,fun b hb=> ?_,q hz⟩;have e:b=s1.heap.objs.size:=by simpa using hb
 subst e;exact I1.fpOk (aY _) (I1.hok.fresh (aY _))
theorem Cj{l:Expr}{tl:TE}(hl:PE X l tl):PI X tg l (Tp X.K tl):=by
 intro pins s σ H R I h;refine thn (hl pins s σ H _ I h) fun v s1 ⟨x,H1,I1,r1,q1⟩=> ?_;obtain⟨a,xs,e,hq,q⟩:=q1;subst e;cases r1;obtain⟨its,rv,p,hz⟩:=I1.tuple hq;refine wbs (show s1.heap.IsTuple a its.toArray from p) ?_;refine⟨s1.heap.objs.size,[s1.heap.objs.size],_,_,H1,rfl,I1.kept (t':=s1.toks) fun b o e=>mJ _ e,turn_tuple a _,⟨_,sU _ rfl,rfl,rfl⟩,fun b hb=> ?_,q hz⟩;have e:b=s1.heap.objs.size:=by simpa using hb
 subst e;exact I1.fpOk (aY _) (I1.hok.fresh (aY _))
theorem vq:CallR X (.builtin "len") (fun xs H Q=>∃p ys,xs=[.ref p]/\(SqL X.K H p ys\/SqT X.K H p ys)/\(ys.length<=16777216->Q (.int ys.length) H)):=by
 intro pins s σ H xs us Q I r h;obtain⟨p,ys,rfl,hq,q⟩:=h;have hz:ys.length<=16777216:=by
  rw[<-gU];rcases hq with hq|hq
  ·exact(I.list hq).choose_spec.2.2
  ·exact(I.tuple hq).choose_spec.2.2
 exact call_len_seq pins s σ H _ us Q I r ⟨p,ys,rfl,hq,q hz⟩
end
mutual
inductive DX(K:W.Frag)(H:Hp):V->θ->Prop
 |non:DX K H .non .none
 |bl (b:Bool):DX K H (.bl b) (.bool b)
 |int (i:Int):DX K H (.int i) (.int i)
 |str (x:Str):DX K H (.str x) (.str x)
 |tup {a:Addr} {xs:List V} {ds:List θ} (h:SqT K H a xs) (t:oW K H xs ds):DX K H (.ref a) (.tuple ds)
 |lst {a:Addr} {xs:List V} {ds:List θ} (h:SqL K H a xs) (t:oW K H xs ds):DX K H (.ref a) (.list ds)
 |dct {a:Addr} {kvs:List (Key×V)} (ds:List (θ×θ)) (h:H a=some (.dK kvs)):DX K H (.ref a) (.dict ds)
inductive oW(K:W.Frag)(H:Hp):List V->List θ->Prop
 |nil:oW K H [] []
 |cons {x:V} {d:θ} {xs:List V} {ds:List θ} (h:DX K H x d) (t:oW K H xs ds):oW K H (x::xs) (d::ds)
end
theorem DX.same{K:W.Frag}{H H':Hp}(e:Same H H'){x:V}{d:θ}(h:DX K H x d):DX K H' x d:=
 DX.rec (motive_1:=fun x d _=>DX K H' x d) (motive_2:=fun xs ds _=>oW K H' xs ds) .non (fun b=> .bl b) (fun i=> .int i) (fun x=> .str x) (fun h _ t=> .tup (e.tup h) t) (fun h _ t=> .lst (e.seq h) t) (fun ds h=> .dct ds (e _ _ h)) .nil (fun _ _ h t=> .cons h t) h
theorem oW.same{K:W.Frag}{H H':Hp}(e:Same H H'){xs:List V}{ds:List θ}(h:oW K H xs ds):oW K H' xs ds:=
 oW.rec (motive_1:=fun x d _=>DX K H' x d) (motive_2:=fun xs ds _=>oW K H' xs ds) .non (fun b=> .bl b) (fun i=> .int i) (fun x=> .str x) (fun h _ t=> .tup (e.tup h) t) (fun h _ t=> .lst (e.seq h) t) (fun ds h=> .dct ds (e _ _ h)) .nil (fun _ _ h t=> .cons h t) h
theorem DV.dx{K:W.Frag}{H:Hp}{x:V}{d:θ}(h:DV K H x d):DX K H x d:=
 DV.rec (motive_1:=fun x d _=>DX K H x d) (motive_2:=fun xs ds _=>oW K H xs ds) .non (fun b=> .bl b) (fun i=> .int i) (fun x=> .str x) (fun h _ t=> .tup h t) (fun h _ t=> .lst h t) (fun h=> .dct [] h) (fun h _=> .dct _ h) .nil (fun _ _ h t=> .cons h t) h
theorem cQ.dx{K:W.Frag}{H:Hp}{xs:List V}{ds:List θ}(h:cQ K H xs ds):oW K H xs ds:=
 cQ.rec (motive_1:=fun _ _ _=>True) (motive_2:=fun xs ds _=>oW K H xs ds) trivial (fun _=>trivial) (fun _=>trivial) (fun _=>trivial) (fun _ _ _=>trivial) (fun _ _ _=>trivial) (fun _=>trivial) (fun _ _=>trivial) .nil (fun h _ _ t=> .cons h.dx t) h
noncomputable def lO:θ->String
 | .none=>"NoneType"
 | .bool _=>"bool"
 | .int _=>"int"
 | .str _=>"str"
 | .list _=>"list"
 | .tuple _=>"tuple"
 | .dict _=>"dict"
theorem DX.kind{K:W.Frag}{H:Hp}:∀{x:V} {d:θ},DX K H x d->OJ K H x (lO d)
 |_,_,.non=>rfl
 |_,_,.bl _=>rfl
 |_,_,.int _=>rfl
 |_,_,.str _=>rfl
 |_,_,.tup h _=> .inl ⟨rfl,_,h⟩
 |_,_,.lst h _=> .inr (.inl ⟨rfl,_,h⟩)
 |_,_,.dct _ h=> .inr (.inr ⟨rfl,_,h⟩)
theorem oW.len{K:W.Frag}{H:Hp}{xs:List V}{ds:List θ}(h:oW K H xs ds):xs.length=ds.length:=
 oW.rec (motive_1:=fun _ _ _=>True) (motive_2:=fun xs ds _=>xs.length=ds.length) trivial (fun _=>trivial) (fun _=>trivial) (fun _=>trivial) (fun _ _ _=>trivial) (fun _ _ _=>trivial) (fun _ _=>trivial) rfl (fun _ _ _ t=>kO Nat.succ t) h
theorem oW.get{K:W.Frag}{H:Hp}:∀{xs:List V} {ds:List θ} {i:Nat} {x:V},oW K H xs ds->xs[i]? =some x->∃d,ds[i]? =some d/\DX K H x d
 |_,_,_,_,.nil,e=>by simp at e
 |_,_,0,_,.cons h _,e=>by simp at e;subst e;exact⟨_,rfl,h⟩
 |_,_,i+1,x,.cons _ t,e=>by
  obtain⟨d,h1,h2⟩:=oW.get (i:=i) t (by simpa using e);exact⟨d,by simpa using h1,h2⟩
structure bL(K:W.Frag)(mg:L4)(x:Str)(st:Stmt)(ps:List Str)(f:Addr)(fd:ρ):Prop where
 F:Fun K x x st f fd
 b:Binds K fd ps []
 m:mg x=some (.ref f)
theorem pc{X:Cx}{x:Str}{st:Stmt}{ps:List Str}{f:Addr}{fd:ρ}{j k:Nat}{sp:Sp}{E:XK}{e:Expr}{es:List Expr}{t:TA}{p pos:Pos}(F:FnOk X.prog X.w X.K X.mg X.base CX0 j f fd ps sp)(hr:Room k X.A)(D:bL X.K X.mg x st ps f fd)(ha:PA X (e::es) t)(hj:j<=k:=by first |decide|omega)(hg:Gl X x:=by rfl)(hx:Passes CX0 X E:=by exact pass0)(hdb:(x==("__debug__":Str))=false:=by decide)(he:starEach (e::es) X.env=(false,eval e X.env)::starEach es X.env:=by rfl)(hpl:(backTo pos (starEach es X.env)).any (·.1)=false:=by rfl):PE X (.Call (.Name x p) (e::es) [] pos) (tCall sp [] E t):=pe_call (F.mono hj) hr hg D.m D.F.kp D.b .nil hx ha hdb he hpl
theorem fsc{N P:List Str}{sc:Scope}(a:sc.kind= .function:=by rfl)(b:sc.isCoroutine=false:=by rfl)(c:sc.isGenerator=false:=by rfl)(d:N.Nodup:=by decide+kernel)(e:N.take P.length=P:=by rfl)(f:∀x∈P,sc.names.lookup x=some .local\/sc.names.lookup x=some .cell:=by decide+kernel)(g:∀y∈sc.names,y.2≠.free:=by decide+kernel):FnScope N P sc:=⟨a,b,c,d,e,f,g⟩
theorem Fun.cH{P:ξ}{w:τ}{K:W.Frag}{mg:L4}{base:Heap}{x qual:Str}{st:Stmt}{f:Addr}{fd:ρ}{ps:List Str}{k:Nat}{sp:Sp}(F:Fun K x qual st f fd)(N:List Str)(hb:∀(cdv:ζ) (A:Around) (outer:List Env) (s:η) (H:Hp) (vs:List V) (Q:VK) (E:XK),Room k (A.deeper (PyProof.Rows.envOfC qual (defScope st) s.heap.objs.size f cdv))->sp vs H Q E->
   ∃t,PSs (cxOf CX0 P w K mg base N qual (defScope st) f cdv A outer s H E).nox (defBody st) t/\t {nx:=fun _ H'=>Q .non H',rt:=Q} (start N vs) H)(S:FnScope N ps (defScope st):=by exact fsc)(len:∀vs H Q E,sp vs H Q E->vs.length=ps.length:=by intro _ _ _ _ h;repeat(first |(obtain⟨rfl,_⟩:=h;rfl)|obtain⟨_,h⟩:=h)):FnOk P w K mg base CX0 (k+1) f fd ps sp:=F.ok S len hb
theorem aO{H:Hp}{p:Addr}(h:H p=none)(o:HO):Same H (upd H p o):=fun b u q=>by rw[cY (sS q h)];exact q
end L2
namespace oV
open PySem L2
noncomputable def fV:θ->Bool
 | .int _=>true
 |_=>false
noncomputable def bO(n:Int):θ->Bool
 | .int i=>decide (0<=i)&&decide (i<n)
 |_=>false
noncomputable def intD:θ->Int
 | .int i=>i
 |_=>0
noncomputable def kids:θ->List θ
 | .tuple ds=>ds
 |_=>[]
noncomputable def dI(ns:List Int):Bool:=(List.range (ns.length-1)).all fun k=>decide (ns.getD k 0<ns.getD (k+1) 0)
noncomputable def dw(ts:List (List Int)):Bool:=(List.range (ts.length-1)).all fun k=>HT.lexLt (ts.getD k []) (ts.getD (k+1) [])
noncomputable def gQ(n:Int):θ->Bool
 | .tuple ds=>ds.all (bO n)&&dI (ds.map intD)
 |_=>false
noncomputable def nQ(n:Int)(d:θ):Bool:=gQ n d&&decide ((kids d).length=2)
noncomputable def pA(n:Int):θ->Bool
 | .tuple ds=>ds.all (nQ n)&&dw (ds.map fun t=>(kids t).map intD)
 |_=>false
noncomputable def vB:θ->Bool
 | .tuple [n,t]=>fV n&&(decide (0<=intD n)&&decide (intD n<=10))&&pA (intD n) t
 |_=>false
theorem uz{n:Int}:∀{d:θ},bO n d=true->∃i,d= .int i/\0<=i/\i<n
 | .int i,h=>⟨i,rfl,by simpa[bO]using h⟩
end oV
namespace L2
open PySem PySem.Spec PyProof.Rows
section
variable{X:Cx}
theorem Cg(K:W.Frag)(h:X.K=K:=by rfl):IxR X (rIxT K):=by subst h;exact cI
theorem gA(K:W.Frag)(h:X.K=K:=by rfl):IxR X (rIxL K):=by subst h;exact eF
theorem JD(K:W.Frag)(h:X.K=K:=by rfl):CallR X (.builtin "len") (fun xs H Q=>∃p ys,xs=[.ref p]/\(SqL K H p ys\/SqT K H p ys)/\(ys.length<=16777216->Q (.int ys.length) H)):=by subst h;exact vq
theorem GQ(K:W.Frag)(hu:X.A.units<cLine)(h:X.K=K:=by rfl):OpR X (compareOp .Lt) (rLtT K):=by subst h;exact op_ltT hu
theorem JF(K:W.Frag)(h:X.K=K:=by rfl):CallR X (.builtin "isinstance") (fun xs H Q=>∃(x:V) (T C:String),xs=[x,.ty C]/\OJ K H x T/\(C="int"\/C="bool"\/C="tuple"\/C="list")/\Q (.bl (p8 T C)) H):=by subst h;exact Cd
theorem jR(K:W.Frag)(hu:X.A.units+64<cLine)(h:X.K=K:=by rfl):OpR X (compareOp .In) (fun x y H Q=>∃(p:Addr) (xs:List V) (ds:List θ) (dx:θ),y= .ref p/\(SqL K H p xs\/SqT K H p xs)/\cQ K H xs ds/\DV K H x dx/\PyData.canLayAll0 ds=true/\dx.canLay0=true/\dx.depth<=60/\
  Q (.bl (ds.any fun d=>PyData.eqv d dx)) H):=by subst h;exact xT hu
theorem dJ(K:W.Frag){es:List Expr}{k:Nat}{t:TGs}{n:Nat}{pos:Pos}(hc:X.calm=true)(h:PGs X es t)(hn:(assignEach es X.env).length=n:=by rfl)(hst:(assignEach es X.env).findIdx? (·.1)=none:=by rfl)(hK:X.K=K:=by rfl):PG X (.Tuple es k pos) (gTup K n t):=by subst hK;exact pg_tup hc h hn hst
end
end L2
namespace PySem
open Sem (wp)
open AutoSeq1 (wpAny_loadPart')
section
variable{prog:ξ}{w:τ}{A:Around}{E:L3}{s:η}
theorem m5{Q:List ζ->η->Prop}{r:Addr}{a b c:Int}{t u v:Tok}{n:Nat}(hh:A.handled=none)(hr:IsRange s.heap r a b c t u v)(hsmall:Builtin.Range.small a b c=true)(hn:Builtin.Range.rangeSize a b c=n)(hlen:n<=2^24)(hQ:∀h' tk acc,(∀b o',s.heap.get? b=some o'->h'.get? b=some o')->ItemsOf (fun i v=>∃t,v= .int (a+i*c) t) acc n->Q acc.toList {s with heap:=h',toks:=tk}):
  wpAny (model prog w) A (collect (.ref r)) Q E s:=by
 unfold collect;refine bW (wpAny_runValue (wct F.entry_proto_collect ?_));rw[Around.under_plainId F.plain_proto_collect _];show wpAny _ A.in1 (newList []>>=fun l=>again (.builtin "list.__iadd__" ⟨[l,.ref r],[]⟩)) _ _ s;refine bW (Uq ?_);refine iY ⟨plainId_quiet F.plain_list_iadd _,wct F.entry_list_iadd ?_⟩;rw[Around.under_plainId F.plain_list_iadd _];show wpAny _ A.in1 (Builtin.List.listExtendWith (.ref s.heap.objs.size) (.ref r) (.ref s.heap.objs.size)) _ _ _;have hS:(s.heap.push {cls:= .type "list",data:= .seq ([]:List ζ).toArray}).get? s.heap.objs.size=some {cls:= .type "list",data:= .seq #[] 0}:=sU _ rfl;have fin':∀h' tk acc' c',(∀b o,b≠s.heap.objs.size->(s.heap.push {cls:= .type "list",data:= .seq ([]:List ζ).toArray}).get? b=some o->h'.get? b=some o)->
   h'.get? s.heap.objs.size=some {cls:= .type "list",dict:=none,data:= .seq acc' c',slots:=#[]}->ItemsOf (fun i v=>∃t,v= .int (a+i*c) t) acc' n->wpAny (model prog w) A (match Value.ref s.heap.objs.size with
   |Value.ref a=>do
    match(<-load a).data with
     |Data.seq xs _=>pure xs.toList
     |_=>unsupported "internal:collect"
   |_=>unsupported "internal:collect") Q E {s with heap:=h',toks:=tk}:=fun h' tk acc' c' hk hS' hacc=>by
  show wpAny _ A (load s.heap.objs.size>>=_) _ _ _;refine bW (wpAny_load hS' ?_);refine iY ?_;exact hQ h' tk acc' (fun b o e=>hk b o (jy (gP e)) (mJ _ e)) hacc
 refine Ul (wpAny_extend_range (A:=A) (R:=fun r s'=>r= .ok (.ret (.ref s.heap.objs.size))/\∃h' tk acc' c',s'={s with heap:=h',toks:=tk}/\(∀b o,b≠s.heap.objs.size->(s.heap.push {cls:= .type "list",data:= .seq ([]:List ζ).toArray}).get? b=some o->h'.get? b=some o)/\
   h'.get? s.heap.objs.size=some {cls:= .type "list",dict:=none,data:= .seq acc' c',slots:=#[]}/\ItemsOf (fun i v=>∃t,v= .int (a+i*c) t) acc' n) (s:={s with heap:=s.heap.push {cls:= .type "list",data:= .seq ([]:List ζ).toArray}}) hh (mJ _ hr) hsmall hn hlen s.heap.objs.size (.ref s.heap.objs.size) 0 hS (fun h' tk acc' c' hk hS' hacc=>⟨rfl,h',tk,acc',c',rfl,hk,hS',hacc⟩)) (fun fin s' h=> ?_) (fun e s' h=> ?_)
 ·cases fin with
  |done f=>
   obtain⟨e,h',tk,acc',c',rfl,h1,h2,h3⟩:=h;cases e;exact fin' h' tk acc' c' h1 h2 h3
  |again c'=>exact⟨h.1,Ym h.2 fun r s'' hr=>by obtain⟨rfl,h',tk,acc',c',rfl,h1,h2,h3⟩:=hr;exact fin' h' tk acc' c' h1 h2 h3⟩
 ·exact absurd h.1 (by simp)
end
theorem kW(r:Addr)(a b c:Int)(t u v:Tok)(n:Nat)(hsmall:Builtin.Range.small a b c=true)(hn:Builtin.Range.rangeSize a b c=n)(hlen:n<=2^24):
  Meets (Builtin.«tuple.__new__» ⟨[.type "tuple",.ref r],[]⟩)
   (fun A R s=>A.handled=none/\IsRange s.heap r a b c t u v/\∀(h':Heap) tk acc,(∀b o',s.heap.get? b=some o'->h'.get? b=some o')->ItemsOf (fun i v=>∃t,v= .int (a+i*c) t) acc n->R (.ok (.ret (.ref h'.objs.size))) {s with heap:=h'.push {cls:= .type "tuple",data:= .seq acc},toks:=tk}):=
 .of_wp fun prog w A R s h=>by
  obtain⟨hp,g,d,tk,os⟩:=s;obtain⟨hh,ht,h⟩:=h;have hsub:=sub_tuple_self;have hinit:=init_tuple_lookup;have hmh:=madeHere_tuple;have hT:Shared.TypeIs ⟨hp,g,d,tk,os⟩ (.ref r) "range":=⟨_,ht,rfl⟩
  wp_walk using wpAny_loadPart' ht,wpAny_typeOf hT,m5 (A:=A.in1) hh ht hsmall hn hlen
  intro h' tk' acc hk hacc;show wpAny _ _ (Builtin.Tuple.tupleExact acc.toList.toArray>>=fun v=>ret v) _ _ _;unfold Builtin.Tuple.tupleExact;refine bW (Uq ?_ (by show acc.toList.toArray.size<=sizeLine;rw[gU];simp;rw[hacc.1];omega));refine iY ⟨_,rfl,?_⟩;have e:acc.toList.toArray=acc:=by simp
  rw[e];exact h h' tk' acc hk hacc
section
variable{prog:ξ}{w:τ}{A:Around}{E:L3}{s:η}
theorem qW{Q:L3}{r:Addr}{a b c:Int}{t u v:Tok}{n:Nat}(hh:A.handled=none)(hr:IsRange s.heap r a b c t u v)(hsmall:Builtin.Range.small a b c=true)(hn:Builtin.Range.rangeSize a b c=n)(hlen:n<=2^24)(h:∀(h':Heap) tk acc,(∀b o',s.heap.get? b=some o'->h'.get? b=some o')->ItemsOf (fun i v=>∃t,v= .int (a+i*c) t) acc n->Q (.ref h'.objs.size) {s with heap:=h'.push {cls:= .type "tuple",data:= .seq acc},toks:=tk}):
  wpAny (model prog w) A (call (.type "tuple") [.ref r]) Q E s:=
 callType_new F.called_tuple (by decide) (F.typeCall_tuple_1 _) (F.newCall_tuple_1 _) (fun obj=>F.args_object_init_2 obj _) F.entry_tuple_new
  (kW r a b c t u v n hsmall hn hlen) ⟨hh,hr,fun h' tk acc hk hacc=>⟨⟨_,sU _ rfl,rfl⟩,h h' tk acc hk hacc⟩⟩
end
end PySem
namespace L2
open PySem PySem.Spec PyProof.Rows
section
variable{X:Cx}{p p' pos pos':Pos}{a:Expr}{ta:TA}
noncomputable def dh(n:Nat):List V:=(List.range n).map fun(k:Nat)=>V.int (k:Int)
noncomputable def Yw(ta:TA):TE:=fun σ H Q=>ta σ H fun vs H1=>∃j:Int,vs=[.int j]/\0<=j/\j<=16777216/\∀l,H1 l=none->Q (.ref l) (upd H1 l (.tup (dh j.toNat)))
theorem tO:∀{n:Nat} {us:List ζ},us.length=n->(∀(j:Nat) (u:ζ),us[j]? =some u->∃t:Tok,u=Value.int (0+((j:Nat):Int)*1) t)->Vals (dh n) us:=by
 intro n us hl hi;have go:∀(us:List ζ) (k:Nat),(∀(j:Nat) (u:ζ),us[j]? =some u->∃t:Tok,u=Value.int (0+((j+k:Nat):Int)*1) t)->Vals ((List.range' k us.length).map fun(k:Nat)=>V.int (k:Int)) us:=by
  intro us
  induction us with
  |nil=>intro k _;exact .nil
  |cons u us ih=>
   intro k h;obtain⟨t,e⟩:=h 0 u rfl;refine .cons ⟨t,?_⟩ (ih (k+1) fun j u' hj=> ?_)
   ·rw[e];congr 1;omega
   ·obtain⟨t',e'⟩:=h (j+1) u' (by simpa using hj);refine⟨t',?_⟩;rw[e'];congr 1;omega
 have:=go us 0 (fun j u hj=>by obtain⟨t,e⟩:=hi j u hj;exact⟨t,by rw[e];rfl⟩);unfold dh;rw[List.range_eq_range',<-hl];exact this
theorem zZ(hc:X.calm=true)(Zn:Gl X "tuple")(Zh:X.mg "tuple"=none)(hg:Gl X "range")(hm:X.mg "range"=none)(ha:PA X [a] ta)(hs:starEach [a] X.env=[(false,eval a X.env)]:=by rfl)(hs2:starEach [Expr.Call (.Name "range" p') [a] [] pos'] X.env=[(false,eval (Expr.Call (.Name "range" p') [a] [] pos') X.env)]:=by rfl):
  PE X (.Call (.Name "tuple" p) [.Call (.Name "range" p') [a] [] pos'] [] pos) (Yw ta):=by
 intro pins s σ H Q I h;refine Ur (ld_blt I Zn Zh (show bootBuiltins "tuple"=some (.type "tuple")from by decide+kernel) ?_ (by decide) (by decide));refine Py ?_ hs2 rfl;rw[hs2];refine wbp ?_;refine Call_ (ld_blt I hg hm Yg (Py (thn (ha pos' pins s σ H _ I h) fun us s1 ⟨vs,H1,I1,r1,q1⟩=> ?_) hs rfl));obtain⟨j,e,q1,q2,q⟩:=q1;subst e;cases r1 with
 |cons r rr=>
  cases rr;obtain⟨t,rfl⟩:=r;refine call_range_1 ?_;refine wby ?_;have hn:Builtin.Range.rangeSize 0 j 1=((j.toNat:Nat):Int):=by rw[wds];split<;>omega
  refine qW (I.ok.hd hc) (wex ..) (small_one (by decide) (by decide) (by omega) (by omega)) hn (by omega) fun h' tk acc hk hacc=> ?_;have I2:Inv X pins σ H1 {s1 with heap:=h',toks:=tk}:=I1.kept fun b o e=>hk b o (mJ _ e);have hv:Vals (dh j.toNat) acc.toList:=tO (by rw[Ug];exact hacc.1) (fun i u hu=>hacc.2 i u (by simpa using hu));have hz:(dh j.toNat).length<=sizeLine:=by unfold dh;rw[gU];simp;omega
  have I3:Inv X pins σ (upd H1 h'.objs.size (.tup (dh j.toNat))) {s1 with heap:=h'.push {cls:= .type "tuple",data:= .seq acc},toks:=tk}:=
   I2.laid (t':=tk) (fun b o e=>mJ _ e) (aY _) (show ObjOk X.prog X.w _ _ _ (.tup (dh j.toNat))from⟨hz,acc.toList,hv,by rw[show acc=acc.toList.toArray by simp];exact Xk _ _⟩)
  exact⟨.ref h'.objs.size,_,I3,rfl,q _ (I2.hok.fresh (aY _))⟩
open Classical in
theorem qL(hu:X.A.units+64<cLine):OpR X (compareOp .NotIn) (fun x y H Q=>∃(p:Addr) (xs:List V) (ds:List θ) (dx:θ),y= .ref p/\(SqL X.K H p xs\/SqT X.K H p xs)/\cQ X.K H xs ds/\DV X.K H x dx/\PyData.canLayAll0 ds=true/\dx.canLay0=true/\dx.depth<=60/\
  Q (.bl (!(ds.any fun d=>PyData.eqv d dx))) H):=by
 intro pins s σ H x y v u Q I rx ry h;obtain⟨p,xs,ds,dx,rfl,hq,hds,hx,ca,cb,hd,q⟩:=h;cases ry;obtain⟨bs,rb⟩:=DV.reads I hx rx;have key:∀{its:List ζ},Vals xs its->(∀y∈its,SeqAt.EqAt X.A.in1 s y v (decide (∃d as,Reads s.heap y d as/\d∈ds/\PyData.eqv d dx=true)))/\(its.any fun y=>decide (∃d as,Reads s.heap y d as/\d∈ds/\PyData.eqv d dx=true))=ds.any fun d=>PyData.eqv d dx:=by
  intro its rv;obtain⟨as,ra⟩:=cQ.reads I hds rv;have each:∀{us:List ζ} {es:List θ} {as:List Addr},ReadsAll s.heap us es as->(∀e∈es,e∈ds)->(∀y∈us,SeqAt.EqAt X.A.in1 s y v (decide (∃d as,Reads s.heap y d as/\d∈ds/\PyData.eqv d dx=true)))/\(us.any fun y=>decide (∃d as,Reads s.heap y d as/\d∈ds/\PyData.eqv d dx=true))=es.any fun d=>PyData.eqv d dx:=by
   intro us
   induction us with
   |nil=>intro es as h _;cases h;exact⟨(fun y hy=>(nomatch hy)),rfl⟩
   |cons y us ih=>
    intro es as h hs;cases h with
    | @cons _ _ d ds' as' bs' r rr=>
     obtain⟨i1,i2⟩:=ih rr fun e he=>hs e (iG _ he);have cl:=Fd ca d (hs d iW);have e:decide (∃d as,Reads s.heap y d as/\d∈ds/\PyData.eqv d dx=true)=PyData.eqv d dx:=by
      rw[vC,Px];constructor
      ·rintro⟨d',as'',r',_,q'⟩;obtain⟨rfl,_⟩:=(PySem.Reads.unique r _ _ r');exact q'
      ·intro q';exact⟨d,_,r,hs d iW,q'⟩
     refine⟨fun z hz=> ?_,?_⟩
     ·rcases dg.mp hz with rfl|hz
      ·rw[e];exact SeqAt.eqAt_reads d dx _ s _ _ _ _ r rb cl cb (by show X.A.units+1+min d.depth dx.depth<cLine;omega)
      ·exact i1 z hz
     ·rw[Xb,Xb,i2,e]
  exact each ra fun e he=>he
 rcases hq with hq|hq
 ·obtain⟨its,r,pl,hz⟩:=I.list hq;obtain⟨k1,k2⟩:=key r;refine SeqAt.notIn_listAt _ pl.isList (fun w hw=>k1 w (by simpa using hw)) ⟨.bl _,H,I,rfl,?_⟩;rw[show∀f:ζ->Bool,its.toArray.any f=its.any f from fun f=>by simp,k2];exact q
 ·obtain⟨its,r,pl,hz⟩:=I.tuple hq;obtain⟨k1,k2⟩:=key r;refine SeqAt.notIn_tupleAt _ pl (fun w hw=>k1 w (by simpa using hw)) ⟨.bl _,H,I,rfl,?_⟩;rw[show∀f:ζ->Bool,its.toArray.any f=its.any f from fun f=>by simp,k2];exact q
end
end L2
namespace PySem
open Sem (wp)
open Builtin
open AutoSeq1 (wpAny_loadPart')
theorem qN:fillsNumberSlot (.type "tuple") "mul"=pure false:=
 fillsNumberSlot_seq (id:="tuple.__mul__") (r:=some (.builtin "tuple.__rmul__")) F.slot_tuple_mul.lookup (by decide+kernel) F.slot_tuple_rmul.lookup (by decide+kernel)
theorem xK:seqRepeat? (.type "tuple")=pure (some (.builtin "tuple.__mul__")):=by
 unfold seqRepeat?;rw[seqSlot_of (T:="tuple") (name:="__mul__") (id:="tuple.__mul__") F.slot_tuple_mul.lookup (by decide+kernel),seqSlot_of (T:="tuple") (name:="__rmul__") (id:="tuple.__rmul__") F.slot_tuple_rmul.lookup (by decide+kernel)];rfl
theorem yg(a:Int)(t:Tok)(l:Addr)(items:Array ζ)(n:Nat)(d:Option Addr)(sl:Array (Option ζ)):
  Meets (Builtin.«int.__rmul__» ⟨[.int a t,.ref l],[]⟩) (fun _ R s=>s.heap.get? l=some {cls:= .type "tuple",dict:=d,data:= .seq items n,slots:=sl}/\R (.ok (.ret Value.notImplemented)) s):=
 .of_wp fun prog w A R s h=>by obtain⟨hp,g,d,tk,os⟩:=s;obtain⟨hl,h⟩:=h;wp_walk;exact⟨_,rfl,h⟩
theorem tup_mul_1(l:Addr)(items:Array ζ)(n:Nat)(d:Option Addr)(sl:Array (Option ζ))(x:Int)(u:Tok)(hx:x=1):
  Meets (Builtin.«tuple.__mul__» ⟨[.ref l,.int x u],[]⟩) (fun _ R s=>s.heap.get? l=some {cls:= .type "tuple",dict:=d,data:= .seq items n,slots:=sl}/\R (.ok (.ret (Value.ref l))) s):=
 .of_wp fun prog w A R s h=>by
  subst hx;obtain⟨hp,g,d,tk,os⟩:=s;obtain⟨hl,h⟩:=h;have f1:=wed
  wp_walk using wpAny_loadPart' hl;exact⟨_,rfl,h⟩
theorem tup_mul_0(l:Addr)(items:Array ζ)(n:Nat)(d:Option Addr)(sl:Array (Option ζ))(x:Int)(u:Tok)(hx:x<=0)(hlo: -(2^63)<=x)(hne:items.isEmpty=false):
  Meets (Builtin.«tuple.__mul__» ⟨[.ref l,.int x u],[]⟩) (fun _ R s=>s.heap.get? l=some {cls:= .type "tuple",dict:=d,data:= .seq items n,slots:=sl}/\R (.ok (.ret (Value.ref s.heap.objs.size))) {s with heap:=s.heap.push {cls:=Value.type "tuple",data:=Data.seq #[]},toks:=s.toks}):=
 .of_wp fun prog w A R s h=>by
  obtain⟨hp,g,d,tk,os⟩:=s;obtain⟨hl,h⟩:=h;have f1:=wed;have c1:¬((decide (x< -(2^63))||decide (x≥2^63))=true):=by simp;omega
  have c2:¬((items.isEmpty||x==1)=true):=by rw[hne];simp;omega
  have c3:(decide (x<=0)||items.isEmpty)=true:=by rw[hne];simp;omega
  wp_walk using wpAny_loadPart' hl;rw[aA c1];wp_walk using wpAny_loadPart' hl;rw[aA c2];wp_walk using wpAny_loadPart' hl;exact⟨_,rfl,h⟩
theorem Iz(l:Addr)(items:Array ζ)(n:Nat)(d:Option Addr)(sl:Array (Option ζ))(x:Int)(u:Tok)(hx:1<x)(hhi:x<2^63)(hne:items.isEmpty=false)(hsz:items.size*x.toNat<=1000):
  Meets (Builtin.«tuple.__mul__» ⟨[.ref l,.int x u],[]⟩) (fun _ R s=>s.heap.get? l=some {cls:= .type "tuple",dict:=d,data:= .seq items n,slots:=sl}/\R (.ok (.ret (Value.ref s.heap.objs.size))) {s with heap:=s.heap.push {cls:=Value.type "tuple",data:=Data.seq (List.foldl (fun x1 x2=>x1++x2) #[] (List.replicate x.toNat items))},toks:=s.toks}):=
 .of_wp fun prog w A R s h=>by
  obtain⟨hp,g,d,tk,os⟩:=s;obtain⟨hl,h⟩:=h;have f1:=wed;have c1:¬((decide (x< -(2^63))||decide (x≥2^63))=true):=by simp;omega
  have c2:¬((items.isEmpty||x==1)=true):=by rw[hne];simp;omega
  have c3:¬((decide (x<=0)||items.isEmpty)=true):=by rw[hne];simp;omega
  have hxs:(items.size:Int)*x=((items.size*x.toNat:Nat):Int):=by rw[T9,R3 (by omega)]
  have c4:¬((items.size:Int)*x>(2^63-1)/8):=by rw[hxs];omega
  have c5:¬(Builtin.Tuple.tupleTooMany ((items.size:Int)*x)=true):=by
   rw[hxs];intro z;have z':((items.size*x.toNat:Nat):Int)>(sizeLine:Int):=fJ z;have:=gU;generalize items.size*x.toNat=m at *;omega
  have htake:(List.foldl (fun x1 x2=>x1++x2) #[] (List.replicate x.toNat items)).size<=sizeLine:=by
   have e:List.foldl (fun x1 x2=>x1++x2) #[] (List.replicate x.toNat items)=(List.replicate x.toNat items.toList).flatten.toArray:=by
    have:=PyProof.Rows.listMul_foldl_if items x.toNat;rw[aA (by rw[hne];simp)]at this;exact this
   rw[e,iC];have:(List.replicate x.toNat items.toList).flatten.length=x.toNat*items.size:=by simp
   rw[this,T7,gU];omega
  wp_walk using wpAny_loadPart' hl;rw[aA c1];wp_walk using wpAny_loadPart' hl;rw[aA c2];wp_walk using wpAny_loadPart' hl;rw[aA c3]
  try dsimp only
  rw[aA c4]
  try dsimp only
  rw[aA c5]
  try dsimp only
  unfold Builtin.Tuple.tupleExact;refine bW (Uq (iY ?_) htake);exact⟨_,rfl,h⟩
end PySem
namespace L2
open PySem PySem.Spec PyProof.Rows
section
variable{X:Cx}{p p' pos pos':Pos}{a:Expr}{ta:TA}
theorem Vals.YH{xs:List V}{us:List ζ}(h:Vals xs us):∀k:Nat,Vals (List.replicate k xs).flatten (List.replicate k us).flatten
 |0=> .nil
 |k+1=>by rw[Ue,Ue,X7,X7];exact h.append (Vals.YH h k)
noncomputable def YK(K:W.Frag):R2:=fun x y H Q=>∃a k xs,x= .ref a/\y= .int k/\SqT K H a xs/\xs≠[]/\ -(2^63)<=k/\k<2^63/\xs.length*k.toNat<=1000/\∀r H',Same H H'->SqT K H' r (List.replicate k.toNat xs).flatten->Q (.ref r) H'
theorem Qw:OpR X (binaryOp .Mult) (YK X.K):=by
 intro pins s σ H x y v u Q I rx ry h;obtain⟨a,k,xs,rfl,rfl,ha,hne,h1,h2,hz,q⟩:=h;cases rx;obtain⟨t,rfl⟩:=ry;obtain⟨its,r1,p1,_⟩:=I.tuple ha;obtain⟨⟨cls,dd,data,sl⟩,ho,hc,n,hd⟩:=id p1;simp only at hc hd;subst hc hd;have hlen:=r1.length;have hem:its.toArray.isEmpty=false:=by
  cases its with
  |nil=>cases r1;exact absurd rfl hne
  |cons _ _=>rfl
 have road:∀{S:PySem.Spec},Meets (Builtin.«tuple.__mul__» ⟨[.ref a,.int k t],[]⟩) S->S X.A (wants (EP X pins σ Q) X.xe) s->wpAny (model X.prog X.w) X.A (binaryOp .Mult (.ref a) (.int k t)) (EP X pins σ Q) X.xe s:=fun M hS=>
  wpAny_binaryOp_repeat_ref (T:="tuple") (U:="int") (by decide) ⟨_,ho,rfl⟩ (fun s'=>typeIs_int s' k t) qN F.fills_int_mul F.slot_int_rmul xK F.slot_int_index.lookup
   (Uk F.slot_int_rmul (typeIs_int s k t) F.entry_int_rmul (F.args_int_rmul_2 _ _) (yg k t a its.toArray n dd sl)
    ⟨ho,rfl,⟨_,ho,rfl⟩,Uk F.slot_tuple_mul ⟨_,ho,rfl⟩ F.entry_tuple_mul (F.args_tuple_mul_2 _ _) M hS⟩)
 by_cases c1:k=1
 ·refine road (tup_mul_1 a its.toArray n dd sl k t c1) ⟨ho,⟨.ref a,H,I,rfl,q a H (Same.refl _) ?_⟩⟩;subst c1;have:(List.replicate (1:Int).toNat xs).flatten=xs:=by simp
  rw[this];exact ha
 by_cases c0:k<=0
 ·refine road (tup_mul_0 a its.toArray n dd sl k t c0 h1 hem) ⟨ho,?_⟩;have e0:k.toNat=0:=by omega
  refine⟨.ref s.heap.objs.size,_,I.laid (t':=s.toks) (o:= .tup []) (fun b ob q=>mJ _ q) (aY _) ⟨dY _,[],.nil,Xk _ _⟩,rfl,q _ _ (fun c o e=>by rw[cY (sS e (I.hok.fresh (aY _)))];exact e) ?_⟩;rw[e0];exact SqT.of aF
 ·have hsz:its.toArray.size*k.toNat<=1000:=by rw[iC,<-hlen];exact hz
  refine road (Iz a its.toArray n dd sl k t (by omega) h2 hem hsz) ⟨ho,?_⟩;have hnew:List.foldl (fun x1 x2=>x1++x2) #[] (List.replicate k.toNat its.toArray)=(List.replicate k.toNat its).flatten.toArray:=by
   have:=foldl_rep its k.toNat [];rw[List.nil_append]at this;exact this
  rw[hnew];have hz':(List.replicate k.toNat xs).flatten.length<=sizeLine:=by
   rw[len_rep,T7];exact cV hz (by rw[gU];decide)
  refine⟨.ref s.heap.objs.size,_,I.laid (t':=s.toks) (o:= .tup (List.replicate k.toNat xs).flatten) (fun b ob q=>mJ _ q) (aY _) ⟨hz',_,Vals.YH r1 k.toNat,Xk _ _⟩,rfl,q _ _ (fun c o e=>by rw[cY (sS e (I.hok.fresh (aY _)))];exact e) (SqT.of aF)⟩
noncomputable def Yx(ta:TA):TE:=fun σ H Q=>ta σ H fun vs H1=>∃j:Int,vs=[.int j]/\0<=j/\j<=16777216/\∀l,H1 l=none->Q (.ref l) (upd H1 l (.lst (dh j.toNat)))
theorem gZ(hc:X.calm=true)(Zn:Gl X "list")(Zh:X.mg "list"=none)(hg:Gl X "range")(hm:X.mg "range"=none)(ha:PA X [a] ta)(hs:starEach [a] X.env=[(false,eval a X.env)]:=by rfl)(hs2:starEach [Expr.Call (.Name "range" p') [a] [] pos'] X.env=[(false,eval (Expr.Call (.Name "range" p') [a] [] pos') X.env)]:=by rfl):
  PE X (.Call (.Name "list" p) [.Call (.Name "range" p') [a] [] pos'] [] pos) (Yx ta):=by
 intro pins s σ H Q I h;refine Ur (ld_blt I Zn Zh (show bootBuiltins "list"=some (.type "list")from by decide+kernel) ?_ (by decide) (by decide));refine Py ?_ hs2 rfl;rw[hs2];refine wbp ?_;refine Call_ (ld_blt I hg hm Yg (Py (thn (ha pos' pins s σ H _ I h) fun us s1 ⟨vs,H1,I1,r1,q1⟩=> ?_) hs rfl));obtain⟨j,e,q1,q2,q⟩:=q1;subst e;cases r1 with
 |cons r rr=>
  cases rr;obtain⟨t,rfl⟩:=r;refine call_range_1 ?_;refine wby ?_;have hn:Builtin.Range.rangeSize 0 j 1=((j.toNat:Nat):Int):=by rw[wds];split<;>omega
  refine call_list_range (I.ok.hd hc) (wex ..) (small_one (by decide) (by decide) (by omega) (by omega)) hn (by omega) fun h' tk acc c hk hS hacc=> ?_;have hv:Vals (dh j.toNat) acc.toList:=tO (by rw[Ug];exact hacc.1) (fun i u hu=>hacc.2 i u (by simpa using hu));have hz:(dh j.toNat).length<=sizeLine:=by unfold dh;rw[gU];simp;omega
  have I2:Inv X pins σ H1 {s1 with heap:=s1.heap.push {cls:=Value.type "range",data:=Data.fields #[Value.int 0 s1.toks,Value.int j t,Value.int 1 (s1.toks+1)]},toks:=s1.toks+1+1}:=I1.kept fun b o e=>mJ _ e;exact⟨.ref _,_,I2.laid (t':=tk) (o:= .lst (dh j.toNat)) hk (aY _) ⟨hz,acc.toList,c,hv,by simpa using hS⟩,rfl,q _ (I2.hok.fresh (aY _))⟩
end
end L2
namespace PySem
open Sem (wp)
open AutoSeq1 (wpAny_loadPart')
theorem yr(l:Addr)(items:Array ζ)(n:Nat)(dct:Option Addr)(sl:Array (Option ζ)):
  Meets (Builtin.«enumerate.__new__» ⟨[.type "enumerate",.ref l],[]⟩) (fun _ R s=>s.heap.get? l=some {cls:= .type "tuple",dict:=dct,data:= .seq items n,slots:=sl}/\
   R (.ok (.ret (.ref (s.heap.push {cls:= .type "tuple_iterator",data:= .fields #[.ref l,.int 0 0]}).objs.size)))
    {s with heap:=(s.heap.push {cls:= .type "tuple_iterator",data:= .fields #[.ref l,.int 0 0]}).push {cls:= .type "enumerate",data:= .fields #[.none,.bool false,.ref s.heap.objs.size,rawInt 0,.none,.none]}}):=
 .of_wp fun prog w A R s h=>by
  obtain⟨hp,g,d,tk,os⟩:=s;obtain⟨hl,h⟩:=h;have hsub:=sub_enumerate;have hL:Heap.IsTuple (Shared.heap ⟨hp,g,d,tk,os⟩) l items:=⟨_,hl,rfl,n,rfl⟩
  wp_walk using wpAny_loadPart' hl
  refine wpAny_stack_any fun st=>iY ?_;split
  ·rename_i c _ _ _ _ _;cases(c==Value.type "enumerate")
   ·wp_walk using wpAny_loadPart' hl,wbs hL;exact⟨_,rfl,h⟩
   ·wp_walk using wpAny_loadPart' hl,wbs hL;exact⟨_,rfl,h⟩
  ·wp_walk using wpAny_loadPart' hl,wbs hL;exact⟨_,rfl,h⟩
section
variable{prog:ξ}{w:τ}{A:Around}{E:L3}{s:η}
theorem Dt{it t:Addr}{i:Nat}{items:Array ζ}{x:ζ}{Q:L3}(hit:s.heap.IsTupleIter it t i)(ht:s.heap.IsTuple t items)(hx:items[i]? =some x)(hQ:∀h',h'.IsTupleIter it t (i+1)->Heap.SameBut it s.heap h'->Q x {s with heap:=h'}):wpAny (model prog w) A (Builtin.SmallTypes.nextOf (.ref it)) Q E s:=by
 obtain⟨o,ho,hc,hd⟩:=id hit;obtain⟨ol,hol,_,nl,hdl⟩:=ht;unfold Builtin.SmallTypes.nextOf;refine bW (wpAny_callSpecial?_slot (name:=Str.ofString "__next__") hit.typeIs wbd (wce wbd hit.typeIs wcu ?_ (wci _)));show wpAny _ _ (field (.ref it) 0>>=_) _ _ s;refine bW (wey ho hd (x:= .ref t) rfl ?_);show wpAny _ _ (if(Value.ref t==Value.none)=true then _ else _) _ _ s;rw[aA (show¬((Value.ref t==Value.none)=true)from vD)];show wpAny _ _ (field (.ref it) 1>>=_) _ _ s;refine bW (wey ho hd (x:= .int i 0) rfl ?_);show wpAny _ _ (seqItems? (.ref t)>>=_) _ _ s;refine bW (wpAny_seqItems hol hdl ?_);simp only[Im,hx];refine bW (wpAny_setField ho hd (by simp) (iY ⟨x,rfl,iY (hQ _ ?_ (Yr ..))⟩));exact⟨_,Heap.get?_update_self _ ho (Obj.isFreed_of_fields (Obj.data_mapFields hd _)),(Obj.cls_mapFields ..).trans hc,by rw[Obj.data_mapFields hd];simp[rawInt]⟩
theorem uF{it t:Addr}{i:Nat}{items:Array ζ}{Q:L3}(hh:A.handled=none)(hit:s.heap.IsTupleIter it t i)(ht:s.heap.IsTuple t items)(hx:items[i]? =none)(hE:∀h' e,Heap.ExtBut it s.heap h'->(∃o,h'.get? e=some o/\o.cls= .type "StopIteration")->E (.ref e) {s with heap:=h'}):wpAny (model prog w) A (Builtin.SmallTypes.nextOf (.ref it)) Q E s:=by
 obtain⟨o,ho,hc,hd⟩:=id hit;obtain⟨ol,hol,_,nl,hdl⟩:=ht;unfold Builtin.SmallTypes.nextOf;refine bW (wpAny_callSpecial?_slot (name:=Str.ofString "__next__") hit.typeIs wbd (wce wbd hit.typeIs wcu ?_ (wci _)));show wpAny _ _ (field (.ref it) 0>>=_) _ _ s;refine bW (wey ho hd (x:= .ref t) rfl ?_);show wpAny _ _ (if(Value.ref t==Value.none)=true then _ else _) _ _ s;rw[aA (show¬((Value.ref t==Value.none)=true)from vD)];show wpAny _ _ (field (.ref it) 1>>=_) _ _ s;refine bW (wey ho hd (x:= .int i 0) rfl ?_);show wpAny _ _ (seqItems? (.ref t)>>=_) _ _ s;refine bW (wpAny_seqItems hol hdl ?_);simp only[Im,hx];refine bW (wpAny_rule (bW (wpAny_setField ho hd (by simp) ?_)));show wpAny _ _ (newExc (.type "StopIteration") []>>=_) _ _ _;refine bW ?_;simp only[newExc,newTuple];refine bW (Uq ?_ (by size_fits));refine bW (m:=firstArgMember _ _) (wpAny_of_eq (a:=Value.none) (by first |rfl|(simp only[firstArgMember];rfl)) ?_);refine Uq ?_ (by size_fits);simp only[raiseNew];refine bW (wpAny_handled ?_);first |rw[show A.in1.handled=none from hh]|rw[hh]
 refine bW (iY (wpAny_throw ?_));exact hE _ _ (((Yr ..).extBut.push _).push _) ⟨_,sU _ rfl,rfl⟩
end
theorem Draws.tup{prog:ξ}{w:τ}{A:Around}(hh:A.handled=none)(it l:Addr)(hne:l≠it)(items:Array ζ):
  Draws prog w A it [it,l] items.size (fun i v=>items[i]? =some v) (fun i h=>h.IsTupleIter it l i/\h.IsTuple l items) where
 live:=fun i h st=>by obtain⟨⟨o,e,_⟩,_⟩:=st;exact⟨o,e⟩
 frame:=fun i h h' st k=>⟨st.1.at fun o e=>k it (by simp) o e,st.2.at fun o e=>k l (by simp) o e⟩
 item:=fun i s Q E hi st hQ=>by
  have hx:items[i]? =some items[i]:=Array.getElem?_eq_getElem hi;exact Dt st.1 st.2 hx fun h' hit' hs=>hQ _ h' s.toks hx ⟨hit',st.2.at fun o e=>(hs.2 l hne).trans e⟩ hs
 done:=fun s Q E st hE=>uF hh st.1 st.2 (Array.getElem?_eq_none (aY _)) hE
section
variable{prog:ξ}{w:τ}{A:Around}{E:L3}{s:η}
theorem vO{l:Addr}{items:Array ζ}{Q:L3}(hL:s.heap.IsTuple l items)(h:∀h',IsEnum h' (s.heap.objs.size+1) s.heap.objs.size 0 .none->h'.IsTupleIter s.heap.objs.size l 0->h'.objs.size=s.heap.objs.size+2->(∀b o,s.heap.get? b=some o->h'.get? b=some o)->Q (.ref (s.heap.objs.size+1)) {s with heap:=h'}):
  wpAny (model prog w) A (call (.type "enumerate") [.ref l]) Q E s:=by
 obtain⟨⟨c,dct,dt,sl⟩,hl,hc,n,hd⟩:=hL;replace hc:c= .type "tuple":=hc;replace hd:dt= .seq items n:=hd;subst hc hd;refine callType_new F.called_enumerate (by decide) (F.typeCall_enumerate_1 _) (F.newCall_enumerate_1 _) (fun obj=>F.args_object_init_2 obj _) F.entry_enumerate_new (yr l items n dct sl) ⟨hl,?_⟩;have hz:(s.heap.push {cls:= .type "tuple_iterator",data:= .fields #[.ref l,.int 0 0]}).objs.size=s.heap.objs.size+1:=Qa ..;show _/\_;rw[hz];have he:IsEnum ((s.heap.push {cls:= .type "tuple_iterator",data:= .fields #[.ref l,.int 0 0]}).push {cls:= .type "enumerate",data:= .fields #[.none,.bool false,.ref s.heap.objs.size,rawInt 0,.none,.none]}) (s.heap.objs.size+1) s.heap.objs.size 0 .none:=by
  have:=sU (s.heap.push {cls:= .type "tuple_iterator",data:= .fields #[.ref l,.int 0 0]}) (o:={cls:= .type "enumerate",data:= .fields #[.none,.bool false,.ref s.heap.objs.size,rawInt 0,.none,.none]}) rfl;rw[hz]at this;exact this
 exact⟨⟨_,he,rfl⟩,h _ he ⟨_,mJ _ (sU _ rfl),rfl,rfl⟩ (by rw[Qa,hz]) fun b o x=>mJ _ (mJ _ x)⟩
end
end PySem
namespace L2
open PySem PySem.Spec PyProof.Rows
section
variable{X:Cx}{pins:L1}{σ:St}{H:Hp}{s:η}{h':Heap}
theorem Inv.wA{t':Nat}{fp:List Addr}{T:Addr}{o:HO}(I:Inv X pins σ H s)(k:∀b o,b∉fp->s.heap.get? b=some o->h'.get? b=some o)(hf:∀b∈fp,FpOk X pins H b)(hT:s.heap.objs.size<=T)(new:ObjOk X.prog X.w (upd H T o) h' T o):
  Inv X pins σ (upd H T o) {s with heap:=h',toks:=t'}:=by
 have hTn:H T=none:=I.hok.fresh hT;have YW:∀b u,H b=some u->b∉fp:=fun b u e z=>by rw[(hf b z).1]at e;cases e
 have neT:∀b o,s.heap.get? b=some o->b≠T:=fun b o e=>jy (mH (gP e) hT);have YX:∀b u,H b=some u->b≠T:=fun b u e z=>by rw[z,hTn]at e;cases e
 refine I.step (g':=s.gens) (d':=s.drawn) (ch:=fp) (fun b hb=> ?_) (fun b o _ _ hc e _=>k b o hc e) (fun b o _ _ hc e _=>⟨o.slots,k b o hc e⟩) (fun b o _ e n=>by rw[cY (neT b o e)];exact n)
  (fun b o hc e=>⟨o,k b o hc e⟩) (fun b xs e=>by rw[cY (YX b _ e)];exact e) (fun b o u e=>by rw[cY (YX b _ e)];exact e) (fun b ps e=>⟨#[],by rw[cY (YX b _ e),e];simp⟩) (fun m hm=> ?_) (fun b u e=> ?_) I.bare
 ·obtain⟨f0,f1,f2,f3,f4,f5⟩:=hf b hb;exact⟨f3,f1,f4,f5⟩
 ·obtain⟨o,es,ep,ho,r⟩:=hm;exact⟨o,es,ep,k _ o (fun z=>(hf _ z).2.1 rfl) ho,r⟩
 ·by_cases hb:b=T
  ·subst hb;rw[aF]at e;cases e;exact new
  ·rw[cY hb]at e;refine(I.hok b u e).stay (fun c v hc q=>k c v ?_ q) (fun c q=>by rw[cY (YX c _ q)];exact q) fun c xs q=>by rw[cY (YX c _ q)];exact q
   rcases hc with z|z
   ·rw[z];exact YW b u e
   ·exact YW c _ z
theorem Inv.turns{t':Nat}{fp:List Addr}(I:Inv X pins σ H s)(k:∀b o,b∉fp->s.heap.get? b=some o->h'.get? b=some o)(hf:∀b∈fp,FpOk X pins H b):Inv X pins σ H {s with heap:=h',toks:=t'}:=by
 have YW:∀b u,H b=some u->b∉fp:=fun b u e z=>by rw[(hf b z).1]at e;cases e
 refine I.step (g':=s.gens) (d':=s.drawn) (ch:=fp) (fun b hb=> ?_) (fun b o _ _ hc e _=>k b o hc e) (fun b o _ _ hc e _=>⟨o.slots,k b o hc e⟩) (fun b o _ e n=>n)
  (fun b o hc e=>⟨o,k b o hc e⟩) (fun b xs e=>e) (fun b o u e=>e) (fun b ps e=>⟨#[],by rw[e];simp⟩) (fun m hm=> ?_) (fun b u e=> ?_) I.bare
 ·obtain⟨f0,f1,f2,f3,f4,f5⟩:=hf b hb;exact⟨f3,f1,f4,f5⟩
 ·obtain⟨o,es,ep,ho,r⟩:=hm;exact⟨o,es,ep,k _ o (fun z=>(hf _ z).2.1 rfl) ho,r⟩
 ·refine(I.hok b u e).stay (fun c v hc q=>k c v ?_ q) (fun c q=>q) fun c xs q=>q;rcases hc with z|z
  ·rw[z];exact YW b u e
  ·exact YW c _ z
end
noncomputable def PJ(K:W.Frag)(b:Bool)(H:Hp)(a:Addr)(xs:List V):Prop:=match b with
 |false=>SqL K H a xs
 |true=>SqT K H a xs
noncomputable def Ite(K:W.Frag)(b:Bool)(a:Addr)(xs:List V):It:=
 ⟨fun i H=>PJ K b H a xs/\i<xs.length,fun i H x H'=>∃t v,x= .ref t/\H t=none/\H'=upd H t (.tup [.int (i:Int),v])/\xs[i]? =some v,fun i H=>PJ K b H a xs/\i=xs.length⟩
theorem CG{P:ξ}{w:τ}{K:W.Frag}{es:List Expr}{k:Nat}{pos:Pos}(a e it:Addr)(xs:List V)(hne:e≠it):
  Turn P w K (.Tuple es k pos) (Ite K false a xs) [e,it] e (fun i h=>(∃old,IsEnum h e it (i:Int) old)/\h.IsListIter it a i) where
 mem:=by simp
 obj:=fun i h st b hb=>by
  obtain⟨⟨old,he⟩,o,e1,c,d⟩:=st;rcases dg.mp hb with z|hb
  ·subst z;exact⟨_,he,fun v z=>by cases z⟩
  ·have z:b=it:=by simpa using hb
   subst z;exact⟨o,e1,fun v z=>by rw[d]at z;cases z⟩
 keep:=fun i h h' st k=>⟨st.1.imp fun old he=>k e (by simp) _ he,st.2.at fun o e=>k it (by simp) o e⟩
 item:=by
  intro X hP hw hK hc i pins s σ H E I hf st hg;subst hP hw hK;obtain⟨hq0,hi⟩:=hg;have hq:SqL X.K H a xs:=hq0;obtain⟨its,rv,p,hz⟩:=I.list hq;have hx:xs[i]? =some xs[i]:=dG hi;obtain⟨u,hu,ru⟩:=rv.get hx;obtain⟨⟨old,he⟩,hit⟩:=st;refine wpAny_pyNext_enum_item he hit p.isList (x:=u) (by simpa using hu) hne fun h1 ho hit1 hT hsz hk=>⟨_,rfl,?_⟩;refine wpAny_letOwnedTupleGo_enum ho fun h2 he2 hs2=> ?_;have DN:Heap.SameBut e h1 h2:=hs2;have Y4:s.heap.objs.size≠e:=fun z=>absurd (gP he) (by rw[<-z];exact wj _);have keep:∀b o,b∉[e,it]->s.heap.get? b=some o->h2.get? b=some o:=fun b o hb q=>(DN.2 b fun z=>hb (by simp[z])).trans (hk b o (fun z=>hb (by simp[z])) (fun z=>hb (by simp[z])) q);have hT2:h2.get? s.heap.objs.size=some {cls:= .type "tuple",data:= .seq #[.int i s.toks,u]}:=(DN.2 _ Y4).trans hT;have I2:=I.wA (h':=h2) (t':=s.toks+1) (o:= .tup [.int (i:Int),xs[i]]) keep hf (aY _) ⟨(by show 2<=sizeLine;decide),[.int i s.toks,u],.cons ⟨_,rfl⟩ (.cons ru .nil),_,hT2,rfl,_,rfl⟩;exact⟨.ref s.heap.objs.size,_,I2,rfl,⟨_,_,rfl,I.hok.fresh (aY _),rfl,hx⟩,⟨⟨_,by simpa using he2⟩,hit1.at fun o q=>(DN.2 it hne.symm).trans q⟩,fun b hb=>by
   rw[cY (fun z=> ?_)]
   ·exact(hf b hb).1
   ·obtain⟨_,q1,_⟩:=hit;rcases dg.mp hb with y|y
    ·exact Y4 (z.symm.trans y)
    ·have y:b=it:=by simpa using y
     rw[<-y,z]at q1;exact absurd (gP q1) (wj _)⟩
 done:=by
  intro X hP hw hK hc i pins s σ H E I hf st hg;subst hP hw hK;obtain⟨hq0,hi⟩:=hg;have hq:SqL X.K H a xs:=hq0;obtain⟨its,rv,p,hz⟩:=I.list hq;have hl:=rv.length;obtain⟨⟨old,he⟩,hit⟩:=st;exact wpAny_pyNext_enum_end (I.ok.hd hc) he hit p.isList (by simp;omega) fun h' eb=>⟨rfl,I.turns (t':=s.toks) (fp:=[e,it]) (fun b o hb q=>eb b o (fun z=>hb (by simp[z])) q) hf⟩
 self:=fun _ _ _ _ _ st h=>by
  obtain⟨⟨old,he⟩,_⟩:=st;exact wcc he h
theorem Cz{P:ξ}{w:τ}{K:W.Frag}{es:List Expr}{k:Nat}{pos:Pos}(a e it:Addr)(xs:List V)(hne:e≠it)(hat:a≠it)(hae:a≠e):
  Turn P w K (.Tuple es k pos) (Ite K true a xs) [e,it] e (fun i h=>(∃old,IsEnum h e it (i:Int) old)/\h.IsTupleIter it a i) where
 mem:=by simp
 obj:=fun i h st b hb=>by
  obtain⟨⟨old,he⟩,o,e1,c,d⟩:=st;rcases dg.mp hb with z|hb
  ·subst z;exact⟨_,he,fun v z=>by cases z⟩
  ·have z:b=it:=by simpa using hb
   subst z;exact⟨o,e1,fun v z=>by rw[d]at z;cases z⟩
 keep:=fun i h h' st k=>⟨st.1.imp fun old he=>k e (by simp) _ he,st.2.at fun o e=>k it (by simp) o e⟩
 item:=by
  intro X hP hw hK hc i pins s σ H E I hf st hg;subst hP hw hK;obtain⟨hq0,hi⟩:=hg;have hq:SqT X.K H a xs:=hq0;obtain⟨its,rv,p,hz⟩:=I.tuple hq;have hx:xs[i]? =some xs[i]:=dG hi;obtain⟨u,hu,ru⟩:=rv.get hx;obtain⟨⟨old,he⟩,hit⟩:=st;have hl:=rv.length;have pt:s.heap.IsTuple a its.toArray:=p;have D:=Draws.tup (prog:=X.prog) (w:=X.w) (A:=X.A.in1) (I.ok.hd hc) it a hat its.toArray;refine wpAny_pyNext_enum_itemD D he ⟨hit,pt⟩ (by simp;omega) hne (by simp;exact⟨hne,fun z=>hae z.symm⟩) fun y h1 tk hy ho aa5 hT hsz hk=>⟨_,rfl,?_⟩;have ey:y=u:=by
   have hu':its.toArray[i]? =some u:=by simpa using hu
   rw[hu']at hy;exact(sV hy).symm
  subst ey;refine wpAny_letOwnedTupleGo_enum ho fun h2 he2 hs2=> ?_;have DN:Heap.SameBut e h1 h2:=hs2;have Y4:s.heap.objs.size≠e:=fun z=>absurd (gP he) (by rw[<-z];exact wj _);have keep:∀b o,b∉[e,it]->s.heap.get? b=some o->h2.get? b=some o:=fun b o hb q=>(DN.2 b fun z=>hb (by simp[z])).trans (hk b o (fun z=>hb (by simp[z])) (fun z=>hb (by simp[z])) q);have hT2:h2.get? s.heap.objs.size=some {cls:= .type "tuple",data:= .seq #[.int i tk,y]}:=(DN.2 _ Y4).trans hT;have I2:=I.wA (h':=h2) (t':=tk+1) (o:= .tup [.int (i:Int),xs[i]]) keep hf (aY _) ⟨(by show 2<=sizeLine;decide),[.int i tk,y],.cons ⟨_,rfl⟩ (.cons ru .nil),_,hT2,rfl,_,rfl⟩;exact⟨.ref s.heap.objs.size,_,I2,rfl,⟨_,_,rfl,I.hok.fresh (aY _),rfl,hx⟩,⟨⟨_,by simpa using he2⟩,aa5.1.at fun o q=>(DN.2 it hne.symm).trans q⟩,fun b hb=>by
   rw[cY (fun z=> ?_)]
   ·exact(hf b hb).1
   ·obtain⟨_,q1,_⟩:=hit;rcases dg.mp hb with y|y
    ·exact Y4 (z.symm.trans y)
    ·have y:b=it:=by simpa using y
     rw[<-y,z]at q1;exact absurd (gP q1) (wj _)⟩
 done:=by
  intro X hP hw hK hc i pins s σ H E I hf st hg;subst hP hw hK;obtain⟨hq0,hi⟩:=hg;have hq:SqT X.K H a xs:=hq0;obtain⟨its,rv,p,hz⟩:=I.tuple hq;have hl:=rv.length;obtain⟨⟨old,he⟩,hit⟩:=st;have pt:s.heap.IsTuple a its.toArray:=p;have ei:i=its.toArray.size:=by rw[iC];omega
  subst ei;have D:=Draws.tup (prog:=X.prog) (w:=X.w) (A:=X.A.in1) (I.ok.hd hc) it a hat its.toArray;exact wpAny_pyNext_enum_endD D he ⟨hit,pt⟩ fun h' eb=>⟨rfl,I.turns (t':=s.toks) (fp:=[e,it]) (fun b o hb q=>eb b o (fun z=>hb (by simp[z])) q) hf⟩
 self:=fun _ _ _ _ _ st h=>by
  obtain⟨⟨old,he⟩,_⟩:=st;exact wcc he h
section
variable{X:Cx}{es:List Expr}{k:Nat}{Qt:Pos}
noncomputable def Zb(K:W.Frag)(ta:TA):TI:=fun σ H R=>ta σ H fun vs H1=>∃(b:Bool) (a:Addr) (xs:List V),vs=[.ref a]/\PJ K b H1 a xs/\(xs.length<=sizeLine->R (Ite K b a xs) H1)
theorem pR{a:Expr}{ta:TA}{p pos:Pos}(hg:Gl X "enumerate")(hm:X.mg "enumerate"=none)(ha:PA X [a] ta)(hs:starEach [a] X.env=[(false,eval a X.env)]:=by rfl):
  PI X (.Tuple es k Qt) (.Call (.Name "enumerate" p) [a] [] pos) (Zb X.K ta):=by
 intro pins s σ H R I h;refine Call_ (ld_blt I hg hm (show bootBuiltins "enumerate"=some (.type "enumerate")from by decide+kernel) (Py (thn (ha pos pins s σ H _ I h) fun us s1 ⟨vs,H1,I1,r1,q1⟩=> ?_) hs rfl));obtain⟨b,l,xs,e,hq,q⟩:=q1;subst e;cases r1 with
 |cons r rr=>
  cases rr;cases r;cases b with
  |false=>
   obtain⟨its,rv,pl,hz⟩:=I1.list (show SqL X.K H1 l xs from hq);refine call_enumerate_list pl.isList fun h' he hit hsz hk=> ?_;refine wcc he ?_;have I2:Inv X pins σ H1 {s1 with heap:=h'}:=I1.kept (t':=s1.toks) hk;have hne:s1.heap.objs.size+1≠s1.heap.objs.size:=Nat.succ_ne_self _;refine⟨s1.heap.objs.size+1,[s1.heap.objs.size+1,s1.heap.objs.size],_,_,H1,rfl,I2,CG l _ _ xs hne,⟨⟨_,he⟩,hit⟩,fun c hc=> ?_,q hz⟩;rcases dg.mp hc with z|z
   ·subst z;exact I1.fpOk (Pk _) (I1.hok.fresh (Pk _))
   ·have z:c=s1.heap.objs.size:=by simpa using z
    subst z;exact I1.fpOk (aY _) (I1.hok.fresh (aY _))
  |true=>
   obtain⟨its,rv,pl,hz⟩:=I1.tuple (show SqT X.K H1 l xs from hq);have pt:s1.heap.IsTuple l its.toArray:=pl;have hlt:l<s1.heap.objs.size:=by obtain⟨_,e,_⟩:=id pt;exact gP e
   refine vO pt fun h' he hit hsz hk=> ?_;refine wcc he ?_;have I2:Inv X pins σ H1 {s1 with heap:=h'}:=I1.kept (t':=s1.toks) hk;have hne:s1.heap.objs.size+1≠s1.heap.objs.size:=Nat.succ_ne_self _;refine⟨s1.heap.objs.size+1,[s1.heap.objs.size+1,s1.heap.objs.size],_,_,H1,rfl,I2,Cz l _ _ xs hne (jy hlt) (jy (vA hlt)),⟨⟨_,he⟩,hit⟩,fun c hc=> ?_,q hz⟩;rcases dg.mp hc with z|z
   ·subst z;exact I1.fpOk (Pk _) (I1.hok.fresh (Pk _))
   ·have z:c=s1.heap.objs.size:=by simpa using z
    subst z;exact I1.fpOk (aY _) (I1.hok.fresh (aY _))
end
theorem Od{K:W.Frag}{b:Bool}{a:Addr}{xs:List V}{g:TG}{tb:TS}{D:Ends}{σ:St}{H:Hp}(Pv:Nat->St->Hp->Prop)(h0:Pv 0 σ H)(hl:∀i σ H,i<=xs.length->Pv i σ H->PJ K b H a xs)(hs:∀i v t σ H,xs[i]? =some v->Pv i σ H->H t=none->g (.ref t) σ (upd H t (.tup [.int (i:Int),v])) fun σ2 H2=>tb {D with nx:=Pv (i+1),ct:=Pv (i+1),bk:=D.nx} σ2 H2)(hd:∀σ H,Pv xs.length σ H->D.nx σ H):
  ∃W:Nat->Nat->St->Hp->Prop,(∃m,W 0 m σ H)/\∀i m σ H,W i m σ H->
   ((Ite K b a xs).stop i H/\D.nx σ H)\/((Ite K b a xs).go i H/\∃N:St->Hp->Prop,(∀σ' H',N σ' H'->∃m',m'<m/\W (i+1) m' σ' H')/\∀x H',(Ite K b a xs).yld i H x H'->g x σ H' fun σ2 H2=>tb {D with nx:=N,ct:=N,bk:=D.nx} σ2 H2):=by
 refine⟨fun i m σ H=>m=xs.length-i/\i<=xs.length/\Pv i σ H,⟨xs.length,by simp,dY _,h0⟩,?_⟩;rintro i m σ H ⟨rfl,hi,p⟩;have q:=hl i σ H hi p;by_cases e:i=xs.length
 ·subst e;exact .inl ⟨⟨q,rfl⟩,hd σ H p⟩
 ·refine .inr ⟨⟨q,by omega⟩,Pv (i+1),fun σ' H' w=>⟨xs.length-(i+1),by omega,rfl,by omega,w⟩,fun x H' y=> ?_⟩;obtain⟨t,v,rfl,ht,rfl,hv⟩:=y;exact hs i v t σ H hv p ht
section
variable{ini:St}{H:Hp}{g:TG}{tc:TT}{te:TE}{Fin:List V->Hp->Prop}{K:W.Frag}{b:Bool}{a:Addr}{xs:List V}
theorem mX(Pv:Nat->List V->St->Hp->Prop)(h0:Pv 0 [] ini H)(hl:∀(i:Nat) acc σ H,i<=xs.length->Pv i acc σ H->PJ K b H a xs)(hz:∀(i:Nat) acc σ H,i<=xs.length->Pv i acc σ H->acc.length<=i)(hx:xs.length<=sizeLine)(hs:∀(i:Nat) v t acc σ H,xs[i]? =some v->Pv i acc σ H->H t=none->g (.ref t) σ (upd H t (.tup [.int (i:Int),v])) fun σ2 H2=>tc σ2 H2 fun b H3=>if b=true then te σ2 H3 fun v H4=>Pv (i+1) (acc++[v]) σ2 H4 else Pv (i+1) acc σ2 H3)(hd:∀acc σ H,Pv xs.length acc σ H->Fin acc H):BZ (Ite K b a xs) ini H g tc te Fin:=by
 refine⟨fun i m acc σ H=>m=xs.length-i/\i<=xs.length/\Pv i acc σ H,⟨xs.length,by simp,dY _,h0⟩,?_⟩;rintro i m acc σ H ⟨rfl,hi,p⟩;have q:=hl i acc σ H hi p;have z:=hz i acc σ H hi p;by_cases hlt:i<xs.length
 ·refine .inr ⟨⟨q,hlt⟩,by omega,fun acc σ H=>Pv (i+1) acc σ H,fun acc' σ' H' r=>⟨_,by omega,rfl,hlt,r⟩,fun x H' y=> ?_⟩;obtain⟨t,v,rfl,ht,rfl,hv⟩:=y;exact hs i v t acc σ H hv p ht
 ·have e:i=xs.length:=by omega
  subst e;exact .inl ⟨⟨q,rfl⟩,by omega,hd acc σ H p⟩
end
section
variable{X:Cx}{a:Expr}
theorem JG(K:W.Frag)(hc:X.calm=true)(h:X.K=K:=by rfl):CallR X (.builtin "any") (fun xs H Q=>∃(a:Addr) (bs:List Bool),xs=[.ref a]/\SqL K H a (bs.map V.bl)/\Q (.bl (bs.any id)) H):=by subst h;exact Bp hc
theorem Ly(K:W.Frag){tg l:Expr}{tl:TE}(hl:PE X l tl)(h:X.K=K:=by rfl):PI X tg l (Tp K tl):=by subst h;exact Cj hl
theorem Aa(K:W.Frag)(h:X.K=K:=by rfl):OpR X (binaryOp .Add) (Te K):=by subst h;exact GR
theorem GK(K:W.Frag)(hu:X.A.units+64<cLine)(h:X.K=K:=by rfl):OpR X (compareOp .NotEq) (fun x y H Q=>∃da db,DV K H x da/\DV K H y db/\da.canLay0=true/\db.canLay0=true/\min da.depth db.depth<=64/\Q (.bl (!PyData.eqv da db)) H):=by subst h;exact xQ hu
end
theorem PJ.same{K:W.Frag}{b:Bool}{H H':Hp}{a:Addr}{xs:List V}(h:PJ K b H a xs)(e:Same H H'):PJ K b H' a xs:=by
 cases b with
 |false=>exact e.seq (show SqL K H a xs from h)
 |true=>exact e.tup (show SqT K H a xs from h)
theorem Fv{s u:TS}{D:Ends}{σ:St}{H:Hp}(I:St->Hp->Prop)(h1:∀N:St->Hp->Prop,(∀σ' H',I σ' H'->N σ' H')->s {D with nx:=N} σ H)(h2:∀σ' H',I σ' H'->u D σ' H'):tSeq s u D σ H:=h1 (u D) h2
theorem Ei:∀(names:List (Str×NameKind)) (n:Nat) (acc:List (Str×Addr)) {x:Str} {c:Addr},(x,c)∈cellsFrom n names acc->(x,c)∈acc\/((x,NameKind.cell)∈names/\n<=c)
 |[],_,_,_,_,h=> .inl h
 |(nm,k)::r,n,acc,x,c,h=>by
  unfold cellsFrom at h;split at h
  ·rename_i hk;have ek:k=NameKind.cell:=by simpa using hk
   rcases Ei r _ _ h with q|⟨q,m⟩
   ·rcases dg.mp q with e|e
    ·cases e;subst ek;exact .inr ⟨iW,aY _⟩
    ·exact .inl e
   ·exact .inr ⟨iG _ q,by omega⟩
  ·rcases Ei r _ _ h with q|⟨q,m⟩
   ·exact .inl q
   ·exact .inr ⟨iG _ q,m⟩
theorem yC:∀(names:List (Str×NameKind)) (n:Nat) (acc:List (Str×Addr)) {p:Str×Addr},p∈acc->p∈cellsFrom n names acc
 |[],_,_,_,h=>h
 |(nm,k)::r,n,acc,p,h=>by
  unfold cellsFrom;split
  ·exact yC r _ _ (iG _ h)
  ·exact yC r _ _ h
theorem Ek:∀(names:List (Str×NameKind)) (n:Nat) (acc:List (Str×Addr)) {x:Str},(x,NameKind.cell)∈names->∃c,(x,c)∈cellsFrom n names acc
 |(nm,k)::r,n,acc,x,h=>by
  unfold cellsFrom;rcases dg.mp h with e|e
  ·cases e;rw[aD (show(NameKind.cell==NameKind.cell)=true from rfl)];exact⟨n,yC r _ _ iW⟩
  ·split
   ·exact Ek r _ _ e
   ·exact Ek r _ _ e
theorem Ej{n0:Nat}:∀(names:List (Str×NameKind)) (n:Nat) (acc:List (Str×Addr)),n0<=n->(∀x y c,(x,c)∈acc->(y,c)∈acc->n0<=c->x=y)->(∀x c,(x,c)∈acc->c<n)->∀x y c,(x,c)∈cellsFrom n names acc->(y,c)∈cellsFrom n names acc->n0<=c->x=y
 |[],_,_,_,h,_=>h
 |(nm,k)::r,n,acc,hn,h,hl=>by
  unfold cellsFrom;split
  ·refine Ej r (n+1) ((nm,n)::acc) (by omega) (fun x y c hx hy hc=> ?_) (fun x c hx=> ?_)
   ·rcases dg.mp hx with e1|e1<;>rcases dg.mp hy with e2|e2
    ·cases e1;cases e2;rfl
    ·cases e1;exact absurd (hl _ _ e2) (wj _)
    ·cases e2;exact absurd (hl _ _ e1) (wj _)
    ·exact h x y c e1 e2 hc
   ·rcases dg.mp hx with e1|e1
    ·cases e1;exact wR _
    ·exact vA (hl _ _ e1)
  ·exact Ej r n acc hn h hl
theorem yx:∀(names:List (Str×NameKind)) (h:Heap) (acc:List (Str×Addr)) {x:Str} {c:Addr},(x,c)∈cellsFrom h.objs.size names acc->(x,c)∈acc\/(pushCells h names).IsCell c none
 |[],_,_,_,_,h=> .inl h
 |(nm,k)::r,h,acc,x,c,hm=>by
  unfold cellsFrom at hm;unfold pushCells;split at hm
  ·rename_i hk;rw[aD hk];have hm':(x,c)∈cellsFrom (h.push {cls:= .type "cell",data:= .cell none}).objs.size r ((nm,h.objs.size)::acc):=by rw[Qa];exact hm
   rcases yx r (h.push {cls:= .type "cell",data:= .cell none}) _ hm' with q|q
   ·rcases dg.mp q with e|e
    ·cases e;exact .inr ⟨_,wcv _ _ _ _ (sU _ rfl),rfl⟩
    ·exact .inl e
   ·exact .inr q
  ·rename_i hk;rw[aA hk];exact yx r h acc hm
theorem Q9{M:Model}{A:Around}{E:L3}{s:η}{scope:Scope}{globals:Addr}{closure:List (Str×Addr)}{qual:Str}{env:Env}{Q:Env->η->Prop}(hQ:Q (newEnv scope s.heap.objs.size globals (cellsFrom (s.heap.objs.size+1) scope.names closure) qual none Value.none (some env) 0) {s with heap:=pushCells (s.heap.push {cls:= .type "dict",data:= .dict #[]}) scope.names}):
  wpAny M A (newFunctionEnv scope globals closure [] qual none .none (some env)) Q E s:=by
 simp only[newFunctionEnv,Option.isSome_some,if_true];refine bW (wpAny_alloc ?_);refine bW (wpAny_layCells _ (fun name kind cells=>by cases hkc:kind==NameKind.cell<;>simp[hkc]) _ _ _ _ ?_);rw[List.forIn_nil];refine bW (iY (iY ?_));rw[show({s with heap:=s.heap.push {cls:= .type "dict",data:= .dict #[]}}:η).heap.objs.size=s.heap.objs.size+1 from Qa ..];exact hQ
noncomputable def aX(sc scope:Scope):Bool:=scope.names.all fun p=>(p.2 !=NameKind.cell||scope.names.lookup p.1==some NameKind.cell)&&(p.2 !=NameKind.local||scope.names.lookup p.1==some NameKind.local)&&
 (p.2 !=NameKind.free||(scope.names.lookup p.1==some NameKind.free&&(sc.names.lookup p.1==some NameKind.cell||sc.names.lookup p.1==some NameKind.free)))
section
variable{sc scope:Scope}
theorem aX.cell(h:aX sc scope=true){x:Str}(hy:(x,NameKind.cell)∈scope.names):scope.names.lookup x=some .cell:=by
 have q:=kh.mp h _ hy;simpa using q
theorem aX.names(h:aX sc scope=true):∀y∈scope.names,y.2= .local->scope.names.lookup y.1=some .local:=fun y hy e=>by
 have q:=kh.mp h y hy;simpa[e]using q
theorem aX.free(h:aX sc scope=true){x:Str}(hy:(x,NameKind.free)∈scope.names):scope.names.lookup x=some .free/\(sc.names.lookup x=some .cell\/sc.names.lookup x=some .free):=by
 have q:=kh.mp h _ hy;simpa using q
end
theorem zX{scope:Scope}{env:Env}{x:Str}(h:(relabel scope env).names.lookup x=some .cell\/(relabel scope env).names.lookup x=some .free):(x,NameKind.free)∈scope.names\/(x,NameKind.cell)∈scope.names:=by
 cases e:scope.names.lookup x with
 |none=>
  have q:=uq (env:=env) e;rcases h with h|h
  ·rw[show(relabel scope env).names.lookup x=none from q]at h;cases h
  ·rw[show(relabel scope env).names.lookup x=none from q]at h;cases h
 |some k=>
  have q:=ou (env:=env) e;have m:=J6 e;by_cases hk:k= .free
  ·subst hk;exact .inl m
  ·have q':(relabel scope env).names.lookup x=some k:=by
    refine Eq.trans q ?_;have:(k==NameKind.free)=false:=by simpa using hk
    simp[this]
   rw[q']at h;rcases h with h|h
   ·cases h;exact .inr m
   ·cases h;exact absurd rfl hk
noncomputable def bJ(X:Cx)(scope:Scope)(N:List Str)(s:η)(H:Hp)(cl:List (Str×Addr))(C:Addr)(ex:List Addr):Cx:=
 {X with N:=N,s₀:=s,H₀:=H,env:=compEnvC scope cl C X.env,outer:=X.stack,ex:=ex,fn:=fun x=>scope.names.lookup x==some NameKind.cell,pn:=[],xe:=fun _ _=>False}
section
variable{X:Cx}{tg iter elt:Expr}{ifs:List Expr}{scope:Scope}{pos:Pos}{own caps:List Str}{ix:List Nat}{g:TG}{tc:TT}{te:TE}
noncomputable abbrev JW(X:Cx)(scope:Scope)(C:Addr):List (Str×Addr):=cellsFrom (C+1) scope.names (m8 X.env.cells scope.names [])
theorem yw{pins:L1}{s:η}{σ:St}{H:Hp}{C:Addr}(ck:aX X.env.scope scope=true)(I:Inv X pins σ H s){x:Str}{c:Addr}(e:(JW X scope C).lookup x=some c):
  (X.env.cells.lookup x=some c/\(x,NameKind.free)∈scope.names)\/((x,NameKind.cell)∈scope.names/\C<c/\(x,c)∉m8 X.env.cells scope.names []):=by
 have old:(x,c)∈m8 X.env.cells scope.names []->X.env.cells.lookup x=some c/\(x,NameKind.free)∈scope.names:=fun q=>by
  rcases qg q with q|⟨q,mm⟩
  ·cases q
  ·obtain⟨d,hd⟩:=I.ok.has x (aX.free ck mm).2;rw[hd]at q;have q:c=d:=q;rw[q];exact⟨hd,mm⟩
 rcases Ei _ _ _ (J6 e)with q|⟨q,m⟩
 ·exact .inl (old q)
 ·refine .inr ⟨q,m,fun z=> ?_⟩;have h1:=aX.cell ck q;have h2:=(aX.free ck (old z).2).1;rw[h1]at h2;cases h2
theorem Bk{pins:L1}{s s':η}{σ:St}{H:Hp}{fp:List Addr}{C:Addr}{m:L4}(ck:aX X.env.scope scope=true)(hkind:scope.kind= .function)(hcap:j8 X scope caps ix)
  (I:Inv X pins σ H s)(f2:∀b∈fp,FpOk X pins H b)(hlt:∀b∈fp,b<s.heap.objs.size)(hC:s.heap.objs.size<=C)(hos:s'.os=s.os)(hg:AllBare s'.gens)(hk:∀b o,s.heap.get? b=some o->s'.heap.get? b=some o)(hn:s'.heap.Ns C m)(hcl:∀x c,(JW X scope C).lookup x=some c->(x,c)∉m8 X.env.cells scope.names []->s'.heap.IsCell c none):
  Inv (bJ X scope (own++caps) s H (JW X scope C) C fp) [] (Ar own ix σ) H s':=by
 have cl1:=fun x c e=>yw (C:=C) (x:=x) (c:=c) ck I e;have GX:∀x c,X.env.cells.lookup x=some c->c<s.heap.objs.size:=fun x c e=>by
  obtain⟨v,o,ho,_⟩:=I.cell x c e;exact gP ho
 have cl2:∀x,(x,NameKind.free)∈scope.names\/(x,NameKind.cell)∈scope.names->∃c,(JW X scope C).lookup x=some c:=fun x mm=>by
  rcases mm with mm|mm
  ·obtain⟨c,hc⟩:=Bm (cells:=X.env.cells) (acc:=[]) mm;obtain⟨d,hd,_⟩:=zbw (yC scope.names (C+1) _ hc);exact⟨d,hd⟩
  ·obtain⟨c,hc⟩:=Ek scope.names (C+1) (m8 X.env.cells scope.names []) mm;obtain⟨d,hd,_⟩:=zbw hc;exact⟨d,hd⟩
 have inj:∀x y c,(JW X scope C).lookup x=some c->(JW X scope C).lookup y=some c->x=y:=fun x y c h1 h2=>by
  rcases cl1 x c h1 with⟨q1,_⟩|⟨q1,m1,_⟩<;>rcases cl1 y c h2 with⟨q2,_⟩|⟨q2,m2,_⟩
  ·exact I.ok.inj x y c q1 q2
  ·exact absurd (RV (mH (GX x c q1) hC) m2) (wj _)
  ·exact absurd (RV (mH (GX y c q2) hC) m1) (wj _)
  ·refine Ej (n0:=C+1) scope.names (C+1) _ (aY _) (fun x y c hx hy hc=> ?_) (fun x c hx=> ?_) x y c (J6 h1) (J6 h2) m1
   ·obtain⟨d,hd,_⟩:=zbw hx;rcases qg hx with q|⟨q,mm⟩
    ·cases q
    ·obtain⟨d,hd⟩:=I.ok.has x (aX.free ck mm).2;rw[hd]at q;have q:c=d:=q;subst q;exact absurd (mH (mH (GX x c hd) hC) (dH hc)) (wj _)
   ·rcases qg hx with q|⟨q,mm⟩
    ·cases q
    ·obtain⟨d,hd⟩:=I.ok.has x (aX.free ck mm).2;rw[hd]at q;have q:c=d:=q;subst q;exact vA (mH (GX x c hd) hC)
 have bsz:X.base.objs.size<=s.heap.objs.size:=cV I.ok.bsz I.sz;refine⟨⟨I.ok.mod,hkind,I.ok.glob,I.ok.blt,hC,inj,fun x hx=>cl2 x (zX hx),fun x c h e=> ?cab,I.ok.hd,I.ok.frames,.inl rfl,fun b hb=>⟨jy (mH (hlt b hb) hC),fun x c e=> ?exf⟩,I.bs,bsz,
  fun b o e hb=> ?_,fun b hb hz=> ?_,I.stack,I.stkFree⟩,?_,hg,Un.kept hk,⟨m,hn,fun i x v h1 h2 h3=> ?_⟩,fun x c e=> ?_,I.hok.fresh hC,fun x c e=> ?frc,fun p hp=>absurd (show p∈([]:L1)from hp) (by simp),I.hok.kept hk,?_⟩
 case cab=>
  rcases cl1 x c e with⟨_,q⟩|⟨_,q,_⟩
  ·have y1:=(aX.free ck q).1;have y2:(scope.names.lookup x==some NameKind.cell)=true:=h;rw[y1]at y2;exact absurd y2 (by decide)
  ·exact cV hC (dH q)
 case exf=>
  rcases cl1 x c e with⟨q,_⟩|⟨_,q,_⟩
  ·exact(f2 b hb).2.2.2.2.1 x c q
  ·exact lA (jy (RV (mH (hlt b hb) hC) q))
 case frc=>
  rcases cl1 x c e with⟨q,_⟩|⟨_,q,_⟩
  ·exact I.freeC x c q
  ·exact I.hok.fresh (cV hC (dH q))
 ·rcases(f2 b hb).2.2.2.1 with z|z
  ·exact I.ok.noex b o e z
  ·exact absurd (mH (gP e) (cV I.ok.bsz z)) (wj _)
 ·rcases dg.mp (I.stkSub b hz)with z|z
  ·exact(f2 b hb).2.1 z
  ·exact(f2 b hb).2.2.1 z
 ·exact hos
 ·have h1:(own++caps)[i]? =some x:=h1;have h2:(own.map (fun _=>(none:Option V))++ix.map fun j=>(σ[j]?).join)[i]? =some (some v):=h2;by_cases hi:i<own.length
  ·rw[yeh (by simpa using hi),dU]at h2;cases e:own[i]? <;>rw[e]at h2<;>simp at h2
  ·rw[ydl (by simpa using hi)]at h2;rw[ydl (by omega)]at h1;rw[aL]at h2;obtain⟨j,e1,e2,e3⟩:=hcap.get h1;rw[dU,e1]at h2;have h2':(σ[j]?).join=some v:=by simpa using h2
   have h4:σ[j]? =some (some v):=by
    cases q:σ[j]? with
    |none=>rw[q]at h2';cases h2'
    |some w=>rw[q]at h2';exact kO some h2'
   obtain⟨m0,hn0,hl0⟩:=I.loc;have mm:=J6 e3;have vis:=(aX.free ck mm).2;obtain⟨u,r,l⟩:=hl0 j x v e2 h4 (.inr vis);refine⟨u,r,.inr ?_⟩;rcases l with⟨k,_⟩|⟨k,c,e,z⟩
   ·rcases vis with q|q
    ·rw[show X.env.kindOf x=some .cell from q]at k;cases k
    ·rw[show X.env.kindOf x=some .free from q]at k;cases k
   ·obtain⟨d,hd⟩:=cl2 x (.inl mm);rcases cl1 x d hd with⟨this,_⟩|⟨qc,_⟩
    ·rw[e]at this;cases this;exact⟨Dh e3,c,hd,z.keeps hk⟩
    ·have y1:=aX.cell ck qc;rw[e3]at y1;cases y1
 ·rcases cl1 x c e with⟨q,_⟩|⟨_,_,q⟩
  ·obtain⟨v,z⟩:=I.cell x c q;exact⟨v,z.keeps hk⟩
  ·exact⟨none,hcl x c e q⟩
 ·show(own.map (fun _=>(none:Option V))++ix.map fun j=>(σ[j]?).join).length=(own++caps).length;simp[hcap.len]
theorem uR(ck:aX X.env.scope scope=true)(hkind:scope.kind= .function)(hcap:j8 X scope caps ix)(hc:X.calm=true)(hg:∀s H cl C ex,PG (bJ X scope (own++caps) s H cl C ex) tg g)(ht:∀s H cl C ex,TJ (bJ X scope (own++caps) s H cl C ex) ifs tc)(he:∀s H cl C ex,PE (bJ X scope (own++caps) s H cl C ex) elt te){pins:L1}{s2:η}{σ:St}{H2:Hp}{E:L3}(I2:Inv X pins σ H2 s2){it:Addr}{fp:List Addr}{tn:Nat->Heap->Prop}{J:It}(T:Turn X.prog X.w X.K tg J fp it tn)(st2:tn 0 s2.heap)(f2:∀b∈fp,FpOk X pins H2 b)
  {W:Nat->Nat->List V->St->Hp->Prop}{m0:Nat}(w0:W 0 m0 [] (Ar own ix σ) H2){Fin:List V->Hp->Prop}(turn:∀i m acc σ H,W i m acc σ H->(J.stop i H/\acc.length<=sizeLine/\Fin acc H)\/(J.go i H/\acc.length<sizeLine/\∃N:List V->St->Hp->Prop,(∀acc' σ' H',N acc' σ' H'->∃m',m'<m/\W (i+1) m' acc' σ' H')/\∀x H',J.yld i H x H'->g x σ H' fun σ2 H2=>tc σ2 H2 fun b H3=>
   if b=true then te σ2 H3 fun v H4=>N (acc++[v]) σ2 H4 else N acc σ2 H3))
  {RR:ζ->Addr->Result->η->Prop}(hRR:∀D C s' acc Hf m,Inv X pins σ (upd Hf D (.lst acc)) s'->Hf D=none->s'.heap.Ns C m->FpOk X pins (upd Hf D (.lst acc)) C->Fin acc Hf->RR (.ref D) C (.ok .next) s'):
  wpAny (model X.prog X.w) X.A (newList []) (fun acc s₃=>wpAny (model X.prog X.w) X.A (newFunctionEnv scope X.env.globals (m8 X.env.cells scope.names []) [] X.env.qual none .none (some X.env)) (fun cenv s₄=>
   codeAny (model X.prog X.w) X.A (.compStart (.ListComp elt [⟨tg,iter,ifs,0⟩] scope pos) 0 (.ref it) acc {cenv with scope:=relabel scope X.env}) (RR acc cenv.locals) s₄) E s₃) E s2:=by
 refine Uq (Q9 ?_);generalize hP:s2.heap.push {cls:= .type "list",dict:=none,data:= .seq ([]:List ζ).toArray}=P1;have hC:P1.objs.size=s2.heap.objs.size+1:=by rw[<-hP,Qa]
 have hlt:∀b∈fp,b<s2.heap.objs.size:=fun b hb=>by
  obtain⟨o,e,_⟩:=T.obj _ _ st2 b hb;exact gP e
 generalize hh1:pushCells (P1.push {cls:= .type "dict",data:= .dict #[]}) scope.names=h₁;have hns₁:h₁.Ns P1.objs.size (fun _=>none):=by rw[<-hh1];exact(Heap.Ns.new P1 (.type "dict")).keeps (wcv _ _)
 have old:∀b o,s2.heap.get? b=some o->h₁.get? b=some o:=fun b o e=>by
  rw[<-hh1];exact wcv _ _ b o (mJ _ (hP▸mJ _ e))
 have hD1:h₁.get? s2.heap.objs.size=some {cls:= .type "list",data:= .seq ([]:List ζ).toArray 0}:=by
  rw[<-hh1];exact wcv _ _ _ _ (mJ _ (hP▸sU _ rfl))
 have Zo:∀x c,(JW X scope P1.objs.size).lookup x=some c->(x,c)∉m8 X.env.cells scope.names []->h₁.IsCell c none:=fun x c e n=>by
  have e':(x,c)∈cellsFrom (P1.objs.size+1) scope.names (m8 X.env.cells scope.names []):=J6 e;rw[show P1.objs.size+1=(P1.push {cls:= .type "dict",data:= .dict #[]}).objs.size from(Qa ..).symm]at e';rcases yx _ _ _ e' with q|q
  ·exact absurd q n
  ·rw[<-hh1];exact q
 show codeAny (model X.prog X.w) X.A (.compStart (.ListComp elt [⟨tg,iter,ifs,0⟩] scope pos) 0 (.ref it) (.ref s2.heap.objs.size) {newEnv scope P1.objs.size X.env.globals (JW X scope P1.objs.size) X.env.qual none Value.none (some X.env) 0 with scope:=relabel scope X.env}) (RR (.ref s2.heap.objs.size) P1.objs.size) {s2 with heap:=h₁};generalize Rk:s2.heap.objs.size=D at *;rw[hC]at hns₁ Zo⊢;have entry:Inv (bJ X scope (own++caps) s2 H2 (JW X scope (D+1)) (D+1) fp) [] (Ar own ix σ) H2 {s2 with heap:=h₁}:=
  Bk ck hkind hcap I2 f2 (by rw[Rk];exact hlt) (by rw[Rk];exact Pk _) rfl I2.bare old hns₁ Zo
 generalize hX':bJ X scope (own++caps) s2 H2 (JW X scope (D+1)) (D+1) fp=X' at entry;have eP:X'.prog=X.prog:=by rw[<-hX'];rfl
 have ew:X'.w=X.w:=by rw[<-hX'];rfl
 have eK:X'.K=X.K:=by rw[<-hX'];rfl
 have eA:X'.A=X.A:=by rw[<-hX'];rfl
 have Tv:X'.calm=true:=by rw[<-hX'];exact hc
 have efs:X'.fs=frs X.stack:=by rw[<-hX'];rfl
 have eex:X'.ex=fp:=by rw[<-hX'];rfl
 have epn:X'.pn=[]:=by rw[<-hX'];rfl
 have es0:X'.s₀=s2:=by rw[<-hX'];rfl
 have eH0:X'.H₀=H2:=by rw[<-hX'];rfl
 have exe:X'.xe=fun _ _=>False:=by rw[<-hX'];rfl
 have Rz:X'.env=compEnvC scope (JW X scope (D+1)) (D+1) X.env:=by rw[<-hX'];rfl
 have Ol:X'.env.locals=D+1:=by rw[Rz];rfl
 have hg':PG X' tg g:=by rw[<-hX'];exact hg _ _ _ _ _
 have ht':TJ X' ifs tc:=by rw[<-hX'];exact ht _ _ _ _ _
 have he':PE X' elt te:=by rw[<-hX'];exact he _ _ _ _ _
 have ecl:∀x c,X'.env.cells.lookup x=some c->c≠D:=fun x c e=>by
  rw[Rz]at e;rcases yw (C:=D+1) ck I2 e with⟨q,_⟩|⟨_,q,_⟩
  ·obtain⟨v',o',ho',_⟩:=I2.cell x c q;exact jy (by rw[<-Rk];exact gP ho')
  ·exact lA (jy (RV (wR D) q))
 have dfs:D∉frs X.stack:=fun hb=>by
  rcases dg.mp (I2.stkSub D hb)with z|z
  ·exact absurd (Nat.lt_of_lt_of_eq I2.lt Rk) (by rw[z];exact wj _)
  ·exact I2.nofs (Fy Rk) z
 have fpn:∀{H':Hp} {o:Obj},(∀b∈fp,H' b=none)->∀b∈fp,FpOk X' [(D,o)] H' b:=fun{H' o} hn b hb=>by
  have hbl:=hlt b hb;refine⟨hn b hb,by rw[Ol];exact jy (vA hbl),?_,.inl (by rw[eex];exact hb),fun x c e=> ?_,fun p hp=> ?_⟩
  ·rw[efs];intro z;rcases dg.mp (I2.stkSub b z)with z|z
   ·exact(f2 b hb).2.1 z
   ·exact(f2 b hb).2.2.1 z
  ·rw[Rz]at e;rcases yw (C:=D+1) ck I2 e with⟨q,_⟩|⟨_,q,_⟩
   ·exact(f2 b hb).2.2.2.2.1 x c q
   ·exact lA (jy (RV (vA hbl) q))
  ·rw[epn]at hp;have:p=(D,o):=by simpa using hp
   rw[this];exact T8 hbl
 have aaK:∀{σ':St} {H':Hp} {s':η} {o:Obj},Inv X' [] σ' H' s'->s'.heap.get? D=some o->H' D=none->(∀v,o.data≠.cell v)->Inv X' [(D,o)] σ' H' s':=fun{σ' H' s' o} I e n d=>
  I.pins_of fun p hp=>by
   have:p=(D,o):=by simpa using hp
   subst this;exact⟨e,n,by rw[Ol];exact jy (wR D),by rw[efs];exact dfs,d⟩
 have loop:∀s₃:η,s₃={s2 with heap:=h₁}->
   codeAny (model X.prog X.w) X.A (.compLoop (.ListComp elt [⟨tg,iter,ifs,0⟩] scope pos) 0 (.ref it) (.ref D) X'.env) (RR (.ref D) (D+1)) s₃:=by
  intro s₃ hs₃;refine codeAny_loop rfl (fun n s'=>∃i acc its k σ' H',Inv X' [] σ' H' s'/\tn i s'.heap/\(∀b∈fp,H' b=none)/\s'.heap.get? D=some {cls:= .type "list",data:= .seq (List.toArray its) k}/\Vals acc its/\H' D=none/\W i n acc σ' H') ?_ m0
   ⟨0,[],[],0,Ar own ix σ,H2,by rw[hs₃];exact entry,by rw[hs₃];exact T.keep _ _ _ st2 fun b _ o e=>old b o e,fun b hb=>(f2 b hb).1,by rw[hs₃];exact hD1,.nil,I2.hok.fresh (Fy Rk),w0⟩
  rintro n s3 ⟨i,acc,its,k,σ3,H3,I3,st3,fr3,eD,rv,nD,w3⟩;show wpAny _ X.A ((compTurn (.ListComp elt [⟨tg,iter,ifs,0⟩] scope pos) 0 (.ref it) (.ref D) X'.env).onRaise (fun x=>do noteFrame x X'.env;theTreesLotGoes x)) _ _ s3;refine wpAny_noted ?_;rw[compTurn_list];have noE:∀{α:Type} {t:Sem α} {Q:α->η->Prop} {E':L3} {s:η},wpAny (model X'.prog X'.w) X'.A t Q X'.xe s->wpAny (model X.prog X.w) X.A t Q E' s:=fun{α t Q E' s} h=>by
   rw[eP,ew,eA,exe]at h;exact Ul h (fun _ _ q=>q) fun _ _ z=>z.elim
  have I3':=aaK (o:={cls:= .type "list",data:= .seq (List.toArray its) k}) I3 eD nD (fun v z=>by
   have z':Data.seq (List.toArray its) k=Data.cell v:=z;cases z')
  refine bW (wdq (bW ?_));rcases turn i n acc σ3 H3 w3 with⟨stop,hz,fin⟩|⟨go,hz,Nn,hN,step⟩
  ·have q:=T.done X' eP ew eK Tv i [(D,_)] s3 σ3 H3 (notedBy (model X.prog X.w) X.A X'.env fun e s'=>RR (.ref D) (D+1) (.error e) s') I3' (fpn fr3) st3 stop;rw[eA]at q;refine thn q fun r s4 ⟨hr,I4⟩=> ?_;subst hr;refine iY ?_;obtain⟨e4,_⟩:=I4.pin (D,_) (Ir _ iW);obtain⟨mC,hnC,_⟩:=I4.loc;have u4:=I4.base;rw[efs,eex,eH0,es0]at u4;have ok4:=I4.hok;rw[eP,ew]at ok4;have nC:H3 (D+1)=none:=by have:=I4.free;rw[Ol]at this;exact this
   have hok:HOk X.prog X.w (upd H3 D (.lst acc)) s4.heap:=ok4.add nD ⟨hz,its,k,rv,e4⟩;refine hRR D (D+1) s4 acc H3 mC ?_ nD (by rw[Ol]at hnC;exact hnC) ?_ fin
   ·refine I2.call' (s':=s4) (ch:=fp) ?_ (u4.add (by rw[Rk];exact aY _) nD) hok I4.bare fun b hb=> ?_
    ·have:=I4.os;rw[es0]at this;exact this
    ·obtain⟨f0,f1,f3,f4,f5,f6⟩:=f2 b hb;exact⟨f4,f1,f5,f6⟩
   ·refine I2.fpOk (by rw[Rk];exact Pk _) ?_;rw[cY (T8 (wR D))];exact nC
  ·have q:=T.item X' eP ew eK Tv i [(D,_)] s3 σ3 H3 (notedBy (model X.prog X.w) X.A X'.env fun e s'=>RR (.ref D) (D+1) (.error e) s') I3' (fpn fr3) st3 go;rw[eA]at q;refine thn q fun r s4 ⟨u,hr,h4⟩=> ?_;subst hr;dsimp only;refine bW (thn h4 fun _ s5 ⟨x,H5,I5,r5,y5,st5,fr5⟩=> ?_);have I5':=I5.pinned (fpn fr5) (T.obj _ _ st5);have again:∀{σ7:St} {H7:Hp} {s7:η},Inv X' ([(D,{cls:= .type "list",data:= .seq (List.toArray its) k})]++pinsAt fp s5.heap) σ7 H7 s7->tn (i+1) s7.heap/\(∀b∈fp,H7 b=none)/\s7.heap.get? D=some {cls:= .type "list",data:= .seq (List.toArray its) k}/\H7 D=none:=fun{σ7 H7 s7} I7=>by
    refine⟨T.keep _ _ _ st5 fun b hb o e=>(I7.pin (b,o) (Ir _ (Ir _ (mem_pinsAt hb e)))).1,fun b hb=> ?_,?_⟩
    ·obtain⟨o,e,d⟩:=T.obj _ _ st5 b hb;exact(I7.pin (b,o) (Ir _ (Ir _ (mem_pinsAt hb e)))).2.1
    ·have:=I7.pin (D,_) (Ir _ (yef _ iW));exact⟨this.1,this.2.1⟩
   refine bW (thn (noE (hg' _ s5 σ3 H5 x u _ I5' r5 (step x H5 y5))) fun _ s6 ⟨σ6,H6,I6,q6⟩=> ?_);refine bW (thn (noE (ht' _ s6 σ6 H6 _ I6 q6)) fun ok s7 ⟨H7,I7,q7⟩=> ?_);cases ok with
   |false=>
    rw[aA vD]at q7;obtain⟨m',hm,w7⟩:=hN _ _ _ q7;obtain⟨a1,a2,a3,a4⟩:=again I7;exact iY ⟨rfl,m',hm,i+1,acc,its,k,σ6,H7,I7.pins_of (fun p hp=>nomatch hp),a1,a2,a3,rv,a4,w7⟩
   |true=>
    rw[aD rfl]at q7;refine bW (bW (thn (noE (he' _ s7 σ6 H7 _ I7 q7)) fun v s8 ⟨y,H8,I8,r8,q8⟩=> ?_));obtain⟨m',hm,w8⟩:=hN _ _ _ q8;obtain⟨a1,a2,a3,a4⟩:=again I8;have hl:=rv.length;refine bW (Uk F.slot_list_append ⟨_,a3,rfl⟩ F.entry_list_append (F.args_list_append_2 _ _) (PySem.list_append D its.toArray k v (by rw[iC];omega)) ⟨a3,?_⟩);refine iY (iY ⟨rfl,m',hm,i+1,acc++[y],its++[v],?_⟩);have qD:=PySem.IsL.update a3 (fun a:Array ζ=>a.push v);rw[List.push_toArray]at qD;have kp:∀b o,b≠D->s8.heap.get? b=some o->(s8.heap.update D (Obj.mapSeq fun a=>a.push v)).get? b=some o:=fun b o hb e=>(wbw s8.heap _ (lA hb)).trans e;have I8':Inv X' [] σ6 H8 {s8 with heap:=s8.heap.update D (Obj.mapSeq fun a=>a.push v)}:=by
     refine(I8.pins_of (pins':=[]) (fun p hp=>nomatch hp)).turned (t':=s8.toks) (it:=D) kp a4 (by rw[Ol];exact jy (wR D)) (.inr (by rw[es0,Rk];exact aY _)) (fun x c e=>ecl x c e) (fun p hp=> ?_);rw[epn]at hp;exact nomatch hp
    exact⟨_,σ6,H8,I8',T.keep _ _ _ a1 fun b hb o e=>kp b o (jy (hlt b hb)) e,a2,qD,rv.append (.cons r8 .nil),a4,w8⟩
 have Z8:({newEnv scope (D+1) X.env.globals (JW X scope (D+1)) X.env.qual none Value.none (some X.env) 0 with scope:=relabel scope X.env}:Env)=X'.env:=by rw[Rz];rfl
 have L:=loop _ rfl;rw[<-Z8]at L;exact codeAny_compStart_list L (T.self X.A 0 _ _ _ (T.keep _ _ _ st2 fun b _ o e=>old b o e) L)
end
section
variable{X:Cx}{tg iter elt:Expr}{ifs:List Expr}{scope:Scope}{pos:Pos}{own caps:List Str}{ix:List Nat}{wi:TI}{g:TG}{tc:TT}{te:TE}
theorem Lz(hc:X.calm=true)(hi:PI X tg iter wi)(ck:aX X.env.scope scope=true)(hkind:scope.kind= .function)(hcap:j8 X scope caps ix)(hg:∀s H cl C ex,PG (bJ X scope (own++caps) s H cl C ex) tg g)(ht:∀s H cl C ex,TJ (bJ X scope (own++caps) s H cl C ex) ifs tc)(he:∀s H cl C ex,PE (bJ X scope (own++caps) s H cl C ex) elt te)(hs:∀x,foldedSetIterable iter X.env x=pure x:=by intro _;rfl):PE X (.ListComp elt [⟨tg,iter,ifs,0⟩] scope pos) (Gf wi own ix g tc te):=by
 intro pins s σ H Q I h;rw[eval_ListComp];refine wpAny_comprehension_free (use:=none) rfl hs (uT fun x hx=>I.ok.has x ((aX.free ck hx).2)) hkind (aX.names ck) (thn (hi pins s σ H _ I h) fun xv s1 h1=>thn h1 fun itv s2 h2=> ?_);obtain⟨it,fp,tn,J,H2,e,I2,T,st2,f2,W,⟨m0,w0⟩,turn⟩:=h2;subst e;refine uR (RR:=fun acc C=>compPost (model X.prog X.w) X.A X.xe none (EP X pins σ Q) acc C) ck hkind hcap hc hg ht he I2 T st2 f2 w0 turn ?_;intro D C s' acc Hf m I' nD hn fC fin;refine⟨m,hn,fun h' sb=> ?_⟩;obtain⟨f0,f1,f3,f4,f5,f6⟩:=fC;exact⟨.ref D,_,I'.turned (t':=s'.toks) (it:=C) (fun b o hb e=>(sb.2 b hb).trans e) f0 f1 f4 f5 f6,rfl,fin D nD⟩
theorem pK{X:Cx}{tg iter elt:Expr}{ifs:List Expr}{scope:Scope}{pos:Pos}{wi:TI}{g:TG}{tc:TT}{te:TE}(own caps:List Str)(ix:List Nat)(hi:PI X tg iter wi)(hg:∀{s H cl C ex},PG (bJ X scope (own++caps) s H cl C ex) tg g)(ht:∀{s H cl C ex},TJ (bJ X scope (own++caps) s H cl C ex) ifs tc)(he:∀{s H cl C ex},PE (bJ X scope (own++caps) s H cl C ex) elt te)(hcap:j8 X scope caps ix:=by repeat(first |exact j8.nil|refine j8.cons rfl rfl ?_))(hc:X.calm=true:=by rfl)(ck:aX X.env.scope scope=true:=by rfl)(hkind:scope.kind= .function:=by rfl)(hs:∀x,foldedSetIterable iter X.env x=pure x:=by intro _;rfl):PE X (.ListComp elt [⟨tg,iter,ifs,0⟩] scope pos) (Gf wi own ix g tc te):=Lz hc hi ck hkind hcap (fun _ _ _ _ _=>hg) (fun _ _ _ _ _=>ht) (fun _ _ _ _ _=>he) hs
theorem zY{i:Nat}{y:Str}{py spos:Pos}(hN:X.N.Nodup)(hiN:X.N[i]? =some y)(hx:Loc X.env.scope y)(hc:X.calm=true)(hi:PI X tg iter wi)(ck:aX X.env.scope scope=true)(hkind:scope.kind= .function)(hcap:j8 X scope caps ix)(hg:∀s H cl C ex,PG (bJ X scope (own++caps) s H cl C ex) tg g)(ht:∀s H cl C ex,TJ (bJ X scope (own++caps) s H cl C ex) ifs tc)(he:∀s H cl C ex,PE (bJ X scope (own++caps) s H cl C ex) elt te)(hsw:swapsWith (.ListComp elt [⟨tg,iter,ifs,0⟩] scope pos) (some (.Name y py)) spos.line X.env=pure true:=by rfl)(hf:X.fn y=true\/X.env.scope.names.lookup y=some .local:=by first |exact .inl rfl|exact .inr rfl|assumption)(hs:∀x,foldedSetIterable iter X.env x=pure x:=by intro _;rfl):PS X (.Assign [.Name y py] (.ListComp elt [⟨tg,iter,ifs,0⟩] scope pos) spos) (tAsg (Gf wi own ix g tc te) (gName i)):=by
 intro pins s σ H Dn I h;rw[exec_Assign_Name_used _ _ _ _ hsw];refine bW (wdq (bW ?_));show wpAny _ X.A (do let _<-comprehension (.ListComp elt [⟨tg,iter,ifs,0⟩] scope pos) scope X.env _ (newList []) false (eval iter X.env) (some (assign (.Name y py) X.env))) _ _ s;refine bW (Ul (wpAny_comprehension_free (use:=some (assign (.Name y py) X.env)) (Q:=fun _ s'=>SP X pins Dn .next s') rfl hs (uT fun x hx=>I.ok.has x ((aX.free ck hx).2)) hkind (aX.names ck)
  (thn (hi pins s σ H _ I h) fun xv s1 h1=>thn h1 fun itv s2 h2=> ?_)) (fun _ s' hq=>iY (iY hq)) fun _ _ e=>e)
 obtain⟨it,fp,tn,J,H2,e,I2,T,st2,f2,W,⟨m0,w0⟩,turn⟩:=h2;subst e;refine uR (RR:=fun acc C=>compPost (model X.prog X.w) X.A X.xe (some (assign (.Name y py) X.env)) (fun _ s'=>SP X pins Dn .next s') acc C) ck hkind hcap hc hg ht he I2 T st2 f2 w0 turn ?_;intro D C s' acc Hf m I' nD hn fC fin;obtain⟨f0,f1,f3,f4,f5,f6⟩:=fC;show wpAny _ X.A (assign (.Name y py) X.env (.ref D)) _ _ _;refine wpAny_assign_Name (store_ok2 I' hN hiN hx (show RelV (.ref D) (.ref D)from rfl) (fun s'' I'' ⟨a,sb,ha⟩=> ?_) hf);have hCa:C≠a:=by
  rcases ha with ha|ha
  ·rw[ha];exact f1
  ·exact fun z=>f5 y a ha z.symm
 refine⟨m,hn.sameBut sb hCa,fun h' sb'=> ?_⟩;exact⟨_,_,I''.turned (t':=s''.toks) (it:=C) (fun b o hb e=>(sb'.2 b hb).trans e) f0 f1 f4 f5 f6,fin D nD⟩
theorem pX{X:Cx}{tg iter elt:Expr}{ifs:List Expr}{scope:Scope}{pos:Pos}{wi:TI}{g:TG}{tc:TT}{te:TE}{y:Str}{py spos:Pos}(i:Nat)(own caps:List Str)(ix:List Nat)(hi:PI X tg iter wi)(hg:∀{s H cl C ex},PG (bJ X scope (own++caps) s H cl C ex) tg g)(ht:∀{s H cl C ex},TJ (bJ X scope (own++caps) s H cl C ex) ifs tc)(he:∀{s H cl C ex},PE (bJ X scope (own++caps) s H cl C ex) elt te)(hcap:j8 X scope caps ix:=by repeat(first |exact j8.nil|refine j8.cons rfl rfl ?_))(hc:X.calm=true:=by rfl)(ck:aX X.env.scope scope=true:=by rfl)(hkind:scope.kind= .function:=by rfl)(hN:decide X.N.Nodup=true:=by kernel_rfl)(hi_:X.N[i]? =some y:=by rfl)(hx:Loc X.env.scope y:=by first |exact Or.inl rfl|exact Or.inr rfl)(hsw:swapsWith (.ListComp elt [⟨tg,iter,ifs,0⟩] scope pos) (some (.Name y py)) spos.line X.env=pure true:=by rfl)(hf:X.fn y=true\/X.env.scope.names.lookup y=some .local:=by first |exact .inl rfl|exact .inr rfl|assumption)(hs:∀x,foldedSetIterable iter X.env x=pure x:=by intro _;rfl):PS X (.Assign [.Name y py] (.ListComp elt [⟨tg,iter,ifs,0⟩] scope pos) spos) (tAsg (Gf wi own ix g tc te) (gName i)):=zY (fJ hN) hi_ hx hc hi ck hkind hcap (fun _ _ _ _ _=>hg) (fun _ _ _ _ _=>ht) (fun _ _ _ _ _=>he) hsw hf hs
end
end L2
namespace uW
open PySem PySem.W PyProof.Rows PySem.Calls
section
variable{prog:ξ}{w:τ}{A:Around}{E:L3}{s:η}{O:KeyOrd}{key:Nat->O.α}{κ:SortKind}{vs:List ζ}
theorem Bl{t:Addr}{Q:List ζ->η->Prop}(ht:s.heap.IsTuple t vs.toArray)(h:Q vs {s with heap:=(s.heap.push (seqObj "list" #[] 0)).update s.heap.objs.size (Obj.mapSeq (· ++vs.toArray))})(hz:vs.length<=sizeLine):
  wpAny (model prog w) A (collect (.ref t)) Q E s:=by
 obtain⟨o,ho,hc,n,hd⟩:=id ht;unfold collect;refine bW (wpAny_runValue (wct entry_proto_collect' ?_));show wpAny _ _ (do again (.builtin "list.__iadd__" ⟨[<-newList [],.ref t],[]⟩)) _ _ s;refine bW (wdv (iY ⟨Code.quiet_builtin _ (by decide+kernel),wct entry_list_iadd' ?_⟩));show wpAny _ _ (Builtin.List.listExtendWith (.ref s.heap.objs.size) (.ref t) (.ref s.heap.objs.size)) _ _ {s with heap:=s.heap.push (seqObj "list" #[] 0)};unfold Builtin.List.listExtendWith;have h1:(s.heap.push (seqObj "list" #[] 0)).get? t=some o:=mJ _ ho;have h2:(Value.type "tuple"==Value.type "tuple")=true:=by rfl
 refine bW (wpAny_typeOf (T:="tuple") ⟨o,h1,hc⟩ ?_);rw[aD (by rw[h2];simp)];refine bW (listItems_at h1 hd (bW (listItems_at (xs:=#[]) (n:=0) (sU _ rfl) rfl ?_)));rw[aA (by simp)];refine bW (wdu (xs:=#[]) (n:=0) (sU _ rfl) rfl (iY ?_) (dY _) (by show(#[]++vs.toArray).size<=sizeLine+1;simp only[Array.size_append,iC,Pn];omega));show wpAny (model prog w) A (load s.heap.objs.size>>=_) Q E {s with heap:=(s.heap.push (seqObj "list" #[] 0)).update s.heap.objs.size (Obj.mapSeq (· ++vs.toArray))};refine bW (wpAny_load (wcs (sU _ rfl) _) ?_);show wpAny _ _ (pure ((#[]:Array ζ)++vs.toArray).toList) Q E _;have e:((#[]:Array ζ)++vs.toArray).toList=vs:=by simp
 rw[e];exact iY h
theorem CV{l:Addr}{Q:L3}(hl:s.heap.IsTuple l vs.toArray)(h64:vs.length<64)(hkind:2<=vs.length->∀h',(∀b o,s.heap.get? b=some o->h'.get? b=some o)->∀(E:L3) (Q:SortKind->η->Prop),Q κ {s with heap:=h'}->wpAny (model prog w) A.in1.in1 (keyKind' vs.toArray) Q E {s with heap:=h'})(Nj:2<=vs.length->∀h',(∀b o,s.heap.get? b=some o->h'.get? b=some o)->mF O key vs.length (kas_ask prog w A.in1.in1 κ vs) {s with heap:=h'})(h:∀D h' out c,OD key vs out->s.heap.objs.size<=D->(∀b o,s.heap.get? b=some o->h'.get? b=some o)->h'.get? D=some (seqObj "list" (List.toArray out) c)->Q (.ref D) {s with heap:=h'}):
  wpAny (model prog w) A (call (.builtin "sorted") [.ref l]) Q E s:=by
 refine Calls.call_function_entry kind_sorted plain_sorted entry_sorted (args_sorted1 _) ?_;unfold Builtin.«sorted»;refine bW (m:=checkCount "sorted" 1 1 _) (iY (bW (Bl hl (bW (wdv ?_ (by rw[gU];omega))) (by rw[gU];omega))));have hsz:((s.heap.push (seqObj "list" #[] 0)).update s.heap.objs.size (Obj.mapSeq (· ++vs.toArray))).objs.size=s.heap.objs.size+1:=by
  rw[Heap.size_update,size_push']
 have hoL:(((s.heap.push (seqObj "list" #[] 0)).update s.heap.objs.size (Obj.mapSeq (· ++vs.toArray))).push (seqObj "list" vs.toArray 0)).get? (s.heap.objs.size+1)=some (seqObj "list" vs.toArray 0):=by
  rw[<-hsz];exact sU _ rfl
 have keep:∀b o,s.heap.get? b=some o->(((s.heap.push (seqObj "list" #[] 0)).update s.heap.objs.size (Obj.mapSeq (· ++vs.toArray))).push (seqObj "list" vs.toArray 0)).get? b=some o:=fun b o q=>by
  have hlt:b<s.heap.objs.size:=gP q;rw[wbz _ _ _ (by rw[hsz];exact jy (vA hlt)),Heap.get?_update_ne _ _ _ _ (jy hlt),wbz _ _ _ (jy hlt)];exact q
 have ne:∀b o,s.heap.get? b=some o->b≠s.heap.objs.size+1:=fun b o q=>jy (vA (gP q));show wpAny _ _ _ _ _ {s with heap:=((s.heap.push (seqObj "list" #[] 0)).update s.heap.objs.size (Obj.mapSeq (· ++vs.toArray))).push (seqObj "list" vs.toArray 0)};rw[hsz];refine bW (Xl (wce slot_list_sort ⟨_,hoL,rfl⟩ entry_list_sort ?body (args_list_sort _)))
 case body=>
  refine nH (key:=key) (κ:=κ) (s:={s with heap:=((s.heap.push (seqObj "list" #[] 0)).update s.heap.objs.size (Obj.mapSeq (· ++vs.toArray))).push (seqObj "list" vs.toArray 0)}) hoL h64
   (fun h2 h' k Q hq=>hkind h2 h' (fun b o q=>k b o (ne b o q) (keep b o q)) _ Q hq) (fun h2 h' k=>Nj h2 h' fun b o q=>k b o (ne b o q) (keep b o q)) fun h' out c ho k hc=> ?_
  exact⟨_,rfl,iY ⟨_,rfl,h _ h' out c ho (Pk _) (fun b o q=>k b o (ne b o q) (keep b o q)) hc⟩⟩
end
end uW
namespace L2
open PySem PySem.W PySem.Spec PyProof.Rows
section
variable{X:Cx}
theorem yD:CallR X (.builtin "sorted") (fun xs H Q=>∃(a:Addr) (its:List (Addr×List Int)),xs=[.ref a]/\SqL X.K H a (its.map fun p=>V.ref p.1)/\(∀p∈its,SqT X.K H p.1 (p.2.map V.int)/\(2<=its.length->p.2≠[]))/\its.length<64/\
  ∀(l:Addr) (its':List (Addr×List Int)),H l=none->its'.Perm its->its'.Pairwise (fun p q=>HT.lexLt q.2 p.2=false)->Q (.ref l) (upd H l (.lst (its'.map fun p=>V.ref p.1)))):=by
 intro pins s σ H xs us Q I r h;obtain⟨a,its,rfl,hS,hT,h64,q⟩:=h;obtain⟨u,rfl,ru⟩:=r.one;cases ru;obtain⟨vs,rv,pl,hz⟩:=I.list hS;have hlen:its.length=vs.length:=by have:=rv.length;simpa using this
 -- the values beside the tuples
 have pr:Paired (fun(p:Addr×List Int) (v:ζ)=>v= .ref p.1) its vs:=by
  have go:∀(l:List (Addr×List Int)) (us:List ζ),Vals (l.map fun p=>V.ref p.1) us->Paired (fun(p:Addr×List Int) (v:ζ)=>v= .ref p.1) l us:=by
   intro l
   induction l with
   |nil=>intro us h;cases h;exact .nil
   |cons p l ih=>
    intro us h;cases h with
    |cons r t=>exact .cons r (ih _ t)
  exact go its vs rv
 have tup:∀p∈its,∃(items:List ζ),IntsAre items p.2/\IsTup s.heap p.1 items.toArray:=fun p hp=>by
  obtain⟨its',r',t',_⟩:=I.tuple (hT p hp).1;exact⟨its',TV r',t'⟩
 refine uW.uc (O:=uW.lexOrd) (key:=fun i=>(its.getD i (0,[])).2) (κ:=tuples' true) (s:=s) pl.isList (by omega) (fun h2 h' k E' Q' hq=> ?_) (fun h2 h' k=> ?_) (fun D h' out c ho hD k hc=> ?_)
 ·have kt:∀(l:List (Addr×List Int)) (us:List ζ),Paired (fun(p:Addr×List Int) (v:ζ)=>v= .ref p.1) l us->(∀p∈l,p∈its)->∃fs:List ζ,KatTups h' us fs/\fs.length=us.length/\∀v∈fs,∃i t,v=Value.int i t:=by
   intro l us h
   induction h with
   |nil=>intro _;exact⟨[],trivial,rfl,fun _ hv=>nomatch hv⟩
   | @cons p v l us r t ih=>
    intro hs;obtain⟨fs,k1,k2,k3⟩:=ih fun p hp=>hs p (iG _ hp);obtain⟨items,hi,o,e,hc,n,hd⟩:=tup p (hs p iW);have hne:=(hT p (hs p iW)).2 (by omega);obtain⟨pa,pn⟩:=p;dsimp only at hi hne e r;cases hi with
    |nil=>exact absurd rfl hne
    |cons i t hi'=>
     rw[r];refine⟨Value.int i t::fs,KatTups.cons (k _ _ e) hc hd (by simp) k1,by simp[k2],fun v hv=> ?_⟩;rcases dg.mp hv with e|e
     ·exact⟨i,t,e⟩
     ·exact k3 v e
  obtain⟨fs,k1,k2,k3⟩:=kt its vs pr fun _ hp=>hp;refine kat_kind (s:={s with heap:=h'}) (T:= .type "int") k1 (by omega) (fun v hv=> ?_) (by rfl) hq;obtain⟨i,t,rfl⟩:=k3 v hv;exact fun A Q E s _ q=>iY q
 ·intro i j C hi hj hC;rw[<-hlen]at hi hj;have get:∀i (hi:i<its.length),vs.getD i Value.none= .ref its[i].1:=by
   have go:∀(l:List (Addr×List Int)) (us:List ζ),Paired (fun(p:Addr×List Int) (v:ζ)=>v= .ref p.1) l us->∀i (hi:i<l.length),us.getD i Value.none= .ref l[i].1:=by
    intro l us h
    induction h with
    |nil=>intro i hi;simp at hi
    |cons r t ih=>
     intro i hi;cases i with
     |zero=>exact r
     |succ i=>simpa using ih i (by simpa using hi)
   exact go its vs pr
  unfold kas_ask;rw[get i hi,get j hj];obtain⟨xi,hxi,oi,ei,ci,ni,di⟩:=tup its[i] (zx _);obtain⟨xj,Tq,oj,ej,cj,nj,dj⟩:=tup its[j] (zx _);refine kat_lt (s:={s with heap:=h'}) (k _ _ ei) di (k _ _ ej) dj ?_;refine uW.uM 0 hxi Tq ?_ ?_
  ·have:=hxi.length;have:=Tq.length;simp only[iC];omega
  ·rw[HT.cu];have e1:its.getD i (0,[])=its[i]:=by simp[hi]
   have e2:its.getD j (0,[])=its[j]:=by simp[hj]
   have hC':C (decide ((its.getD i (0,[])).2<(its.getD j (0,[])).2)) {s with heap:=h'}:=hC;rw[e1,e2]at hC';exact hC'
 ·obtain⟨its',hp,hr,hw⟩:=uW.xP (d:=((0,[]):Addr×List Int)) (f:=fun p=>p.2) pr (fun i hi=>by show(its.getD i (0,[])).2=_;simp[hi]) ho;have hn:H D=none:=I.hok.fresh hD;have rv':Vals (its'.map fun p=>V.ref p.1) out:=by
   have go:∀(l:List (Addr×List Int)) (us:List ζ),Paired (fun(p:Addr×List Int) (v:ζ)=>v= .ref p.1) l us->Vals (l.map fun p=>V.ref p.1) us:=by
    intro l us h
    induction h with
    |nil=>exact .nil
    |cons r t ih=>exact .cons r ih
   exact go its' out hr
  have zl:(its'.map fun p=>V.ref p.1).length<=sizeLine:=by
   have:=hp.length_eq;rw[aL];exact dH (small1000 (by omega))
  have J:Inv X pins σ (upd H D (.lst (its'.map fun p=>V.ref p.1))) {s with heap:=h',toks:=s.toks}:=I.laid k hD ⟨zl,out,c,rv',hc⟩;refine⟨.ref D,_,J,rfl,q D its' hn hp (hw.imp fun{x y} hxy=> ?_)⟩;rw[HT.cu];exact hxy
theorem Je(K:W.Frag){a:Expr}{ta:TE}(ha:PE X a ta)(he:∀whole,isTrue a X.env whole=(do let v<-whole;standAt a.pos;holding [v] (truthy v)))(h:X.K=K:=by rfl):
  PT X a (fun σ H Q=>ta σ H fun x H'=>∃k,TruV K x H' k/\Q k H'):=by subst h;exact pt_truth ha he
end
end L2
namespace L2
open PySem PySem.Spec PyProof.Rows
mutual
def aa0:Nat->Expr->Option θ
 |0,_=>none
 |n+1,e=>match e with
  | .Constant (.int i) _ _=>some (.int i)
  | .Constant (.bool b) _ _=>some (.bool b)
  | .Constant .none _ _=>some .none
  | .Constant (.str x) _ _=>some (.str x)
  | .UnaryOp .USub (.Constant (.int i) _ _) _=>some (.int (-i))
  | .Tuple es _ _=>(MK n es).map .tuple
  | .List es _=>(MK n es).map .list
  | .Dict [] [] _=>some (.dict [])
  |_=>none
def MK:Nat->List Expr->Option (List θ)
 |0,_=>none
 |_+1,[]=>some []
 |n+1,e::es=>match aa0 n e,MK n es with
  |some d,some ds=>some (d::ds)
  |_,_=>none
end
section
variable{X:Cx}
theorem JC(hc:X.calm=true):CallR X (.builtin "min") (fun xs H Q=>∃(a:Addr) (ns:List Int),xs=[.ref a]/\SqL X.K H a (ns.map V.int)/\ns≠[]/\∀m∈ns,(∀n∈ns,m<=n)->Q (.int m) H):=by
 intro pins s σ H xs us Q I r h;obtain⟨a,ns,rfl,hS,hne,q⟩:=h;obtain⟨u,rfl,ru⟩:=r.one;cases ru;obtain⟨vs,rv,pl,hz⟩:=I.list hS;have hl:=pl.isList;have hlt:a<s.heap.objs.size:=by obtain⟨_,e,_⟩:=hl;exact gP e
 have hlen:=rv.length;rw[aL]at hlen;have hI:∀(i:Nat) (v:ζ),vs.toArray[i]? =some v->∃t,v= .int (ns.getD i 0) t:=fun i v hv=>by
  have hv':vs[i]? =some v:=by simpa using hv
  have hi:i<ns.length:=by have:=(nF.mp hv').1;omega
  have hn:(ns.map V.int)[i]? =some (.int (ns.getD i 0)):=by rw[dU,dG hi,lq,dG hi];rfl
  obtain⟨u,hu,ru⟩:=rv.get hn;rw[hv']at hu;cases hu;obtain⟨t,rfl⟩:=ru;exact⟨t,rfl⟩
 refine call_min_walk (wcb hl ?_);refine⟨s.heap.objs.size,[s.heap.objs.size,a],[s.heap.objs.size],vs.toArray.size,_,_,_,rfl,Walks.list (A:=X.A.in1) (I.ok.hd hc) _ a (jy hlt) vs.toArray,
  ⟨⟨_,sU _ rfl,rfl,rfl⟩,hl.push _⟩,?_,?_,CmpOf.ints_lt (fun i=>ns.getD i 0) hI,fun v h' tk hP hk=> ?_⟩
 ·intro b hb;show b<(s.heap.push _).objs.size;rw[Qa];rcases dg.mp hb with rfl|hb
  ·exact wR _
  ·rw[iD.mp hb];exact vA hlt
 ·rw[iC,<-hlen];exact List.length_pos_iff.mpr hne
 ·obtain⟨t,rfl⟩:=hI _ v hP;obtain⟨h1,h2⟩:=argBest_lt (fun i=>ns.getD i 0) (vs.toArray.size-1);have hn0:0<ns.length:=List.length_pos_iff.mpr hne;have hb:argBest (fun i j=>decide (ns.getD i 0<ns.getD j 0)) (vs.toArray.size-1)<ns.length:=by
   have:vs.toArray.size=ns.length:=by rw[iC];omega
   omega
  refine⟨.int _,H,I.kept (LSm.kept_iter hk),⟨t,rfl⟩,q _ ?_ fun n hn=> ?_⟩
  ·rw[lq,dG hb];exact zx hb
  ·obtain⟨j,hj,rfl⟩:=Ip hn;have:=h2 j (by rw[iC];omega);rw[lq (i:=j),dG hj]at this;exact this
end
noncomputable def isK(k:Int):ζ->Bool
 | .int i _=>i==k
 |_=>false
theorem Iu{i:Int}:∀{n:Nat} {us:List ζ},us.length=n->(∀(j:Nat) (u:ζ),us[j]? =some u->∃t:Tok,u=Value.int (i+((j:Nat):Int)*1) t)->Vals (((List.range n).map fun(k:Nat)=>i+(k:Int)).map V.int) us:=by
 intro n us hl hi;have go:∀(us:List ζ) (k:Nat),(∀(j:Nat) (u:ζ),us[j]? =some u->∃t:Tok,u=Value.int (i+((j+k:Nat):Int)*1) t)->Vals (((List.range' k us.length).map fun(k:Nat)=>i+(k:Int)).map V.int) us:=by
  intro us
  induction us with
  |nil=>intro k _;exact .nil
  |cons u us ih=>
   intro k h;obtain⟨t,e⟩:=h 0 u rfl;refine .cons ⟨t,?_⟩ ?_
   ·rw[e];show Value.int (i+((0+k:Nat):Int)*1) t=Value.int (i+(k:Int)) t;congr 1;omega
   ·refine ih (k+1) fun j u hu=> ?_;obtain⟨t,e⟩:=h (j+1) u (by simpa using hu);exact⟨t,by rw[e];congr 1;omega⟩
 have:=go us 0 fun j u hu=>hi j u hu;rw[hl,<-List.range_eq_range']at this;exact this
section
variable{X:Cx}{e:Expr}{ta:TE}{f:Str}{pos:Pos}
theorem Qu(K:W.Frag)(he:PE X e ta)(hb:attributeBase e f X.env (eval e X.env)=eval e X.env)(h:X.K=K:=by rfl):PE X (.Attribute e f pos) (tFld K ta f):=by subst h;exact gM he hb
theorem qO:MtM X "list.index" (fun x vs H Q=>∃(l:Addr) (ns:List Int) (k:Int) (j:Nat),x= .ref l/\vs=[.int k]/\H l=some (.lst (ns.map V.int))/\ns[j]? =some k/\(∀i,i<j->ns[i]? ≠some k)/\ns.length<=1000/\Q (.int (j:Nat)) H):=by
 intro pins s σ H x vs v us Q I rx rv h;obtain⟨l,ns,k,j,rfl,rfl,hH,hj,hno,hb,q⟩:=h;cases rx;obtain⟨u,rfl,ru⟩:=rv.one;obtain⟨t,rfl⟩:=ru;obtain⟨z,its,n,r,hl,e⟩:=I.lstM hH;rw[aL]at z hl;have hI:∀(i:Nat) (v:ζ),its[i]? =some v->∃t,v= .int (ns.getD i 0) t/\ns[i]? =some (ns.getD i 0):=fun i v hv=>by
  have hi:i<ns.length:=by have:=(nF.mp hv).1;omega
  have e0:ns[i]? =some (ns.getD i 0):=by rw[lq,dG hi];rfl
  obtain⟨u,hu,ru⟩:=r.get (show(ns.map V.int)[i]? =some (.int (ns.getD i 0)) by rw[dU,e0];rfl);rw[hv]at hu;cases hu;obtain⟨t,rfl⟩:=ru;exact⟨t,rfl,e0⟩
 have hj':j<its.length:=by have:=(nF.mp hj).1;omega
 refine Uk F.slot_list_index ⟨_,e,rfl⟩ F.entry_list_index (F.args_list_index_2 _ _)
  (MeetsSeq.list_index l its.toArray n (.int k t) (isK k) (fun y hy=> ?_) j (by simpa using hj') (by omega) ?_ (fun i hi hlt=> ?_)) ⟨e,?_⟩
 ·obtain⟨i,hi,rfl⟩:=Ip (show y∈its by simpa using hy);obtain⟨t',e',_⟩:=hI i its[i] (dG hi);rw[e'];exact MeetsSeq.EqGives.int _ _ _ _
 ·obtain⟨t',e',e0⟩:=hI j its[j] (dG hj');show isK k its[j]=true;rw[e'];rw[hj]at e0;have:k=ns.getD j 0:=sV e0;show(ns.getD j 0==k)=true;rw[<-this];exact beq_self_eq_true _
 ·have hi':i<its.length:=by simpa using hi
  obtain⟨t',e',e0⟩:=hI i its[i] (dG hi');show isK k its[i]=false;rw[e'];show(ns.getD i 0==k)=false;refine beq_eq_false_iff_ne.mpr fun z=>hno i hlt ?_;rw[e0,z]
 ·exact⟨.int (j:Nat),H,I.tok _,⟨s.toks,rfl⟩,q⟩
end
section
variable{X:Cx}{a b:Expr}{ta:TA}{p pos p' pos':Pos}
noncomputable def pQ(i:Int)(n:Nat):List Int:=(List.range n).map fun(k:Nat)=>i+(k:Int)
noncomputable def Uw(ta:TA):TE:=fun σ H Q=>ta σ H fun vs H1=>∃i j:Int,vs=[.int i,.int j]/\0<=i/\i<=j/\j<=1000000/\∀l,H1 l=none->Q (.ref l) (upd H1 l (.lst ((pQ i (j-i).toNat).map V.int)))
theorem xO(hc:X.calm=true)(Zn:Gl X "list")(Zh:X.mg "list"=none)(hg:Gl X "range")(hm:X.mg "range"=none)(ha:PA X [a,b] ta)(hs:starEach [a,b] X.env=[(false,eval a X.env),(false,eval b X.env)]:=by rfl)(hs':starEach [b] X.env=[(false,eval b X.env)]:=by rfl)(hs2:starEach [Expr.Call (.Name "range" p') [a,b] [] pos'] X.env=[(false,eval (Expr.Call (.Name "range" p') [a,b] [] pos') X.env)]:=by rfl):
  PE X (.Call (.Name "list" p) [.Call (.Name "range" p') [a,b] [] pos'] [] pos) (Uw ta):=by
 intro pins s σ H Q I h;refine Ur (ld_blt I Zn Zh (show bootBuiltins "list"=some (.type "list")from by decide+kernel) ?_ (by decide) (by decide));refine Py ?_ hs2 rfl;rw[hs2];refine wbp ?_;refine Call_ (ld_blt I hg hm Yg (Py (thn (ha pos' pins s σ H _ I h) fun us s1 ⟨vs,H1,I1,r1,q1⟩=> ?_) (by rw[hs,hs']) (by rw[hs'];rfl)));obtain⟨i,j,e,q0,q1,q2,q⟩:=q1;subst e;cases r1 with
 |cons r rr=>
  cases rr with
  |cons r' rr=>
   cases rr;obtain⟨t,rfl⟩:=r;obtain⟨t',rfl⟩:=r';refine call_range_2 ?_;refine wby ?_;have hn:Builtin.Range.rangeSize i j 1=(((j-i).toNat:Nat):Int):=by rw[wds];split<;>omega
   refine call_list_range (I.ok.hd hc) (wex ..) (small_one (by omega) (by omega) (by omega) (by omega)) hn (by omega) fun h' tk acc c hk hS hacc=> ?_;have hv:Vals ((pQ i (j-i).toNat).map V.int) acc.toList:=Iu (by rw[Ug];exact hacc.1) (fun k u hu=>hacc.2 k u (by simpa using hu));have hz:((pQ i (j-i).toNat).map V.int).length<=sizeLine:=by unfold pQ;rw[gU];simp;omega
   have I2:Inv X pins σ H1 {s1 with heap:=s1.heap.push {cls:=Value.type "range",data:=Data.fields #[Value.int i t,Value.int j t',Value.int 1 s1.toks]},toks:=s1.toks+1}:=I1.kept fun b o e=>mJ _ e;exact⟨.ref _,_,I2.laid (t':=tk) (o:= .lst ((pQ i (j-i).toNat).map V.int)) hk (aY _) ⟨hz,acc.toList,c,hv,by simpa using hS⟩,rfl,q _ (I2.hok.fresh (aY _))⟩
end
structure lY(K:W.Frag)(C:Addr)(x qual:Str)(st:Stmt)(ps:List Str)(f:Addr)(fd:ρ):Prop where
 F:Fun K x qual st f fd
 b:Binds K fd ps []
 m:Meth K C x f
end L2
namespace Sx
noncomputable abbrev Vec:=Nat->Int
noncomputable abbrev vR:=Nat->Vec
noncomputable def sm:Nat->(Nat->Int)->Int
 |0,_=>0
 |k+1,f=>sm k f+f k
theorem aW{f g:Nat->Int}:∀k,(∀i,i<k->f i=g i)->sm k f=sm k g
 |0,_=>rfl
 |k+1,h=>by
  show sm k f+f k=sm k g+g k;rw[aW k fun i hi=>h i (vA hi),h k (wR k)]
theorem iH(f g:Nat->Int):∀k,sm k (fun i=>f i+g i)=sm k f+sm k g
 |0=>rfl
 |k+1=>by
  show sm k (fun i=>f i+g i)+(f k+g k)=sm k f+f k+(sm k g+g k);rw[iH f g k];omega
theorem cT(a:Int)(f:Nat->Int):∀k,sm k (fun i=>a*f i)=a*sm k f
 |0=>by show(0:Int)=a*0;rw[wQ]
 |k+1=>by
  show sm k (fun i=>a*f i)+a*f k=a*(sm k f+f k);rw[cT a f k,Int.mul_add]
theorem cO{f:Nat->Int}:∀k,(∀i,i<k->f i=0)->sm k f=0
 |0,_=>rfl
 |k+1,h=>by
  show sm k f+f k=0;rw[cO k fun i hi=>h i (vA hi),h k (wR k)];rfl
theorem cR{f:Nat->Int}{j:Nat}:∀k,j<k->(∀i,i<k->i≠j->f i=0)->sm k f=f j
 |k+1,hj,h=>by
  show sm k f+f k=f j;by_cases e:j=k
  ·subst e;rw[cO j fun i hi=>h i (vA hi) (jy hi),Xa]
  ·rw[cR k (by omega) fun i hi=>h i (vA hi),h k (wR k) (lA e),wen]
theorem K5{f:Nat->Int}{j:Nat}:∀k,j+1<k->(∀i,i<k->i≠j->i≠j+1->f i=0)->f j+f (j+1)=0->sm k f=0
 |k+1,hj,h,z=>by
  show sm k f+f k=0;by_cases e:j+1=k
  ·subst e;rw[cR (j:=j) (j+1) (wR _) fun i hi hn=>h i (vA hi) hn (jy hi)];exact z
  ·rw[K5 k (by omega) (fun i hi=>h i (vA hi)) z,h k (wR k) (by omega) (lA e)];rfl
theorem xH(f:Nat->Nat->Int)(m:Nat):∀k,sm k (fun i=>sm m (fun j=>f i j))=sm m (fun j=>sm k (fun i=>f i j))
 |0=>by show(0:Int)=sm m fun _=>0;rw[cO m fun _ _=>rfl]
 |k+1=>by
  show sm k (fun i=>sm m (fun j=>f i j))+sm m (fun j=>f k j)=sm m (fun j=>sm k (fun i=>f i j)+f k j);rw[xH f m k,iH]
theorem uf{f:Nat->Int}:∀k,(∀i,i<k->0<=f i)->0<=sm k f
 |0,_=>rP _
 |k+1,h=>Int.add_nonneg (uf k fun i hi=>h i (vA hi)) (h k (wR k))
theorem K6{f:Nat->Int}:∀k,sm k f<0->∃i,i<k/\f i<0
 |0,h=>absurd h (wez 0)
 |k+1,h=>by
  by_cases c:f k<0
  ·exact⟨k,wR k,c⟩
  ·have h':sm k f+f k<0:=h;obtain⟨i,hi,hf⟩:=K6 k (f:=f) (by omega);exact⟨i,vA hi,hf⟩
theorem Gw{f:Nat->Int}:∀k,(∀i,i<k->0<=f i)->sm k f<=0->∀i,i<k->f i=0
 |0,_,_,i,hi=>absurd hi (Ua i)
 |k+1,h,z,i,hi=>by
  have h1:=uf k fun i hi=>h i (vA hi);have h2:=h k (wR k);have z':sm k f+f k<=0:=z;by_cases e:i=k
  ·subst e;omega
  ·exact Gw k (fun i hi=>h i (vA hi)) (by omega) i (by omega)
noncomputable def sg(i:Nat):Int:=if i %2=0 then 1 else -1
theorem Ql(i:Nat):sg (i+1)= -sg i:=by
 unfold sg;rcases Nat.mod_two_eq_zero_or_one i with h|h
 ·rw[aD h,aA (by omega)]
 ·rw[aD (by omega),aA (by omega)];rfl
theorem UW(i:Nat):sg i=1\/sg i= -1:=by unfold sg;split;exact .inl rfl;exact .inr rfl
noncomputable def JT(i r:Nat):Nat:=if r<i then r else r+1
noncomputable def Pz(i r:Nat):Nat:=if r<i then r else r-1
theorem K9(i r:Nat):JT i r≠i:=by unfold JT;split<;>omega
theorem sX{i r j:Nat}(h:j≠i):JT i r=j↔r=Pz i j:=by unfold JT Pz;split<;>split<;>omega
theorem CW{i r k:Nat}(hi:i<k+1)(hr:r<k):JT i r<k+1:=by unfold JT;split<;>omega
theorem Ut{i j k:Nat}(h:j≠i)(hi:i<k+1)(hj:j<k+1):Pz i j<k:=by unfold Pz;split<;>omega
noncomputable def uI(M:vR)(i:Nat):vR:=fun r c=>M (JT i r) (c+1)
noncomputable def det:Nat->vR->Int
 |0,_=>1
 |k+1,M=>sm (k+1) fun i=>sg i*M i 0*det k (uI M i)
noncomputable def put(M:vR)(r:Nat)(v:Vec):vR:=fun i=>if i=r then v else M i
theorem put_same(M:vR)(r:Nat)(v:Vec):put M r v r=v:=by unfold put;rw[aD rfl]
theorem iT(M:vR){r i:Nat}(v:Vec)(h:i≠r):put M r v i=M i:=by unfold put;rw[aA h]
theorem ur(M:vR)(r:Nat):put M r (M r)=M:=by funext i;unfold put;split;rename_i h;rw[h];rfl
theorem jc(M:vR){r t:Nat}(u v:Vec)(h:r≠t):put (put M r u) t v=put (put M t v) r u:=by
 funext i;unfold put;by_cases h1:i=t
 ·by_cases h2:i=r
  ·exact absurd (h2.symm.trans h1) h
  ·rw[aD h1,aA h2,aD h1]
 ·rw[aA h1];by_cases h2:i=r
  ·rw[aD h2,aD h2]
  ·rw[aA h2,aA h2,aA h1]
theorem jV(M:vR)(i:Nat)(v:Vec):uI (put M i v) i=uI M i:=by
 funext r c;unfold uI;rw[iT _ _ (K9 i r)]
theorem xZ(M:vR){i j:Nat}(v:Vec)(h:j≠i):uI (put M j v) i=put (uI M i) (Pz i j) (fun c=>v (c+1)):=by
 funext r c;unfold uI put;by_cases e:r=Pz i j
 ·rw[aD e,aD ((sX h).mpr e)]
 ·rw[aA e,aA fun z=>e ((sX h).mp z)]
theorem wM:∀k {M N:vR},(∀i,i<k->∀j,j<k->M i j=N i j)->det k M=det k N
 |0,_,_,_=>rfl
 |k+1,M,N,h=>aW (k+1) fun i hi=>by
  rw[h i hi 0 (yR k),wM k (M:=uI M i) (N:=uI N i) fun r hr c hc=>h _ (CW hi hr) _ (Nat.succ_lt_succ hc)]
theorem yt:∀k (M:vR) (r:Nat) (a b:Int) (u v:Vec),r<k->det k (put M r fun c=>a*u c+b*v c)=a*det k (put M r u)+b*det k (put M r v)
 |k+1,M,r,a,b,u,v,hr=>by
  unfold det;rw[<-cT,<-cT,<-iH];refine aW (k+1) fun i hi=> ?_;by_cases e:r=i
  ·subst e;rw[jV,jV,jV,put_same,put_same,put_same]
   grind
  ·rw[xZ _ _ e,xZ _ _ e,xZ _ _ e,iT _ _ (lA e),iT _ _ (lA e),iT _ _ (lA e),yt k (uI M i) (Pz i r) a b (fun c=>u (c+1)) (fun c=>v (c+1)) (Ut e hi hr)]
   grind
theorem tH:∀k (M:vR) (r:Nat),r+1<k->M r=M (r+1)->det k M=0
 |k+1,M,r,hr,e=>by
  unfold det;refine K5 (j:=r) (k+1) hr (fun i hi h1 h2=> ?_) ?_
  ·have z:det k (uI M i)=0:=by
    by_cases c:i<r
    ·refine tH k (uI M i) (r-1) (by omega) ?_;funext x;unfold uI JT;rw[aA (by omega),aA (by omega),show r-1+1=r by omega,e]
    ·refine tH k (uI M i) r (by omega) ?_;funext x;unfold uI JT;rw[aD (by omega),aD (by omega),e]
   rw[z,wQ]
  ·have z:uI M r=uI M (r+1):=by
    funext x c;unfold uI JT;by_cases h1:x<r
    ·rw[aD h1,aD (by omega)]
    ·rw[aA h1];by_cases h2:x=r
     ·subst h2;rw[aD (by omega),e]
     ·rw[aA (by omega)]
   rw[z,e,Ql]
   grind
theorem Oo(k:Nat)(M:vR)(t:Nat)(u v:Vec)(h:t+1<k):det k (put (put M t u) (t+1) v)= -det k (put (put M t v) (t+1) u):=by
 have n1:t≠t+1:=by omega
 have z:∀w:Vec,det k (put (put M t w) (t+1) w)=0:=fun w=>tH k _ t h (by rw[iT _ _ n1,put_same,put_same]);have V3:∀(N:vR) (r:Nat) (a b:Vec),r<k->det k (put N r fun c=>a c+b c)=det k (put N r a)+det k (put N r b):=fun N r a b hr=>by
  have:=yt k N r 1 1 a b hr;simp only[zp]at this;exact this
 have z1:=z fun c=>u c+v c;rw[V3 _ (t+1) u v h,jc M _ _ n1,jc M _ _ n1,V3 _ t u v (by omega),V3 _ t u v (by omega),<-jc M _ _ n1,<-jc M _ _ n1,<-jc M _ _ n1,<-jc M _ _ n1,z u,z v]at z1;omega
theorem qU:∀(d k:Nat) (M:vR) (r:Nat),r+d+1<k->M r=M (r+d+1)->det k M=0
 |0,k,M,r,h,e=>tH k M r h e
 |d+1,k,M,r,h,e=>by
  have f:=Oo k M (r+d+1) (M (r+d+1)) (M (r+d+1+1)) h;rw[ur,ur]at f;rw[f,qU d k _ r (by omega) (by rw[iT _ _ (by omega),iT _ _ (by omega),iT _ _ (by omega),put_same,e];rfl)];rfl
theorem Om{k:Nat}{M:vR}{r t:Nat}(hr:r<k)(ht:t<k)(h:r≠t)(e:M r=M t):det k M=0:=by
 by_cases c:r<t
 ·exact qU (t-r-1) k M r (by omega) (by rw[e];congr 1;omega)
 ·exact qU (r-t-1) k M t (by omega) (by rw[<-e];congr 1;omega)
theorem Bj:∀k (M:vR),(∀i,i<k->∀j,j<k->M i j=if i=j then 1 else 0)->det k M=1
 |0,_,_=>rfl
 |k+1,M,h=>by
  unfold det;rw[cR (j:=0) (k+1) (yR k) fun i hi hn=>by rw[h i hi 0 (yR k),aA hn];grind];rw[h 0 (yR k) 0 (yR k),aD rfl,Bj k (uI M 0) fun i hi j hj=> ?_]
  ·rfl
  ·unfold uI JT;rw[aA (by omega),h _ (by omega) _ (by omega)];by_cases e:i=j
   ·rw[aD e,aD (by omega)]
   ·rw[aA e,aA (by omega)]
noncomputable def fct:Nat->Int
 |0=>1
 |k+1=>(k+1:Int)*fct k
theorem K8{f:Nat->Int}{b:Int}:∀k,(∀i,i<k-> -b<=f i/\f i<=b)-> -((k:Int)*b)<=sm k f/\sm k f<=(k:Int)*b
 |0,_=>by
  show -((0:Int)*b)<=0/\(0:Int)<=0*b;omega
 |k+1,h=>by
  have ih:=K8 k fun i hi=>h i (vA hi);have hk:=h k (wR k);show -((k+1:Nat)*b)<=sm k f+f k/\sm k f+f k<=(k+1:Nat)*b;rw[show(((k+1:Nat):Int))*b=(k:Int)*b+b by rw[Int.natCast_succ,Yj,zp]];omega
theorem Hg{x y a b:Int}(hx: -a<=x/\x<=a)(hy: -b<=y/\y<=b): -(a*b)<=x*y/\x*y<=a*b:=by
 have h1:0<=(a-x)*(b-y):=Cq (by omega) (by omega);have h2:0<=(a+x)*(b+y):=Cq (by omega) (by omega);have h3:0<=(a-x)*(b+y):=Cq (by omega) (by omega);have h4:0<=(a+x)*(b-y):=Cq (by omega) (by omega);constructor<;>grind
theorem yu:∀k (M:vR) (c:Nat) (B:Int),1<=B->(∀i,i<k->∀j,j<k->i≠c-> -1<=M i j/\M i j<=1)->(∀j,j<k->c<k-> -B<=M c j/\M c j<=B)-> -(fct k*B)<=det k M/\det k M<=fct k*B
 |0,M,c,B,hB,_,_=>by
  show -(1*B)<=1/\(1:Int)<=1*B;omega
 |k+1,M,c,B,hB,h1,h2=>by
  unfold det;have e:fct (k+1)*B=((k+1:Nat):Int)*(fct k*B):=by show((k:Int)+1)*fct k*B=_;rw[RW];rfl
  rw[e];refine K8 (k+1) fun i hi=> ?_;have hs:∀x y:Int, -y<=x/\x<=y-> -y<=sg i*x/\sg i*x<=y:=fun x y h=>by
   rcases UW i with s|s
   ·rw[s,zp];exact h
   ·rw[s];omega
  rw[RW];refine hs _ _ ?_;by_cases ci:i=c
  ·subst ci;have a:=yu k (uI M i) k 1 (by decide) (fun r hr x hx _=>h1 _ (CW hi hr) _ (by omega) (K9 i r)) (fun x hx hk=>absurd hk (wj k));have b:=h2 0 (yR k) hi;rw[Yk]at a;have:=Hg b a;rw[zq (fct k) B];exact this
  ·have a:=yu k (uI M i) (Pz i c) B hB (fun r hr x hx hn=>h1 _ (CW hi hr) _ (by omega) fun z=>hn ((sX (lA ci)).mp z)) (fun x hx hk=>by
    have hc:JT i (Pz i c)=c:=(sX (lA ci)).mpr rfl;have hlt:c<k+1:=by unfold Pz at hk;split at hk<;>omega
    have:=h2 (x+1) (by omega) hlt;unfold uI;rw[hc];exact this)
   have b:=h1 i hi 0 (yR k) ci;have:=Hg b a;rw[zp]at this;exact this
structure Tab where
 col:Nat->Nat
 row:Nat->Nat
 cell:Nat->Nat->Int
 over:Int
 s:Int
noncomputable def one:Vec:=fun j=>if j=0 then 1 else 0
section
variable(n m:Nat)(S:Nat->Nat->Bool)(w:Nat->Int)
noncomputable def nv(a:Nat):Vec:=fun j=>if a<n then(if j=a+1 then 1 else 0)else(if j=0 then 1 else if S (a-n) (j-1)=true then -1 else 0)
noncomputable def zv:Vec:=fun j=>if j=0 then 0 else w (j-1)
noncomputable def rv(T:Tab)(r:Nat):Vec:=if r<m then nv n S (T.row r)else zv w
noncomputable def vP(T:Tab):vR:=fun i=>if i=0 then one else nv n S (T.col (i-1))
noncomputable def Fn(T:Tab)(c:Nat)(v:Vec):Int:=T.s*det (n+1) (put (vP n S T) c v)
structure Good(T:Tab):Prop where
 pos:0<T.over
 eq:∀r,r<=m->∀j,j<=n->T.over*rv n m S w T r j=T.cell r n*one j-sm n (fun c=>T.cell r c*nv n S (T.col c) j)
 sg:T.s=1\/T.s= -1
 dt:T.over=T.s*det (n+1) (vP n S T)
 Eh:∀c c',c<n->c'<n->T.col c=T.col c'->c=c'
 Ln:∀r r',r<m->r'<m->T.row r=T.row r'->r=r'
 dis:∀c r,c<n->r<m->T.col c≠T.row r
 RK:∀c,c<n->T.col c<n+m
 rlt:∀r,r<m->T.row r<n+m
 all:∀a,a<n+m->(∃c,c<n/\T.col c=a)\/∃r,r<m/\T.row r=a
 XC:∀r,r<m->0<=T.cell r n
end
section
variable{n m:Nat}{S:Nat->Nat->Bool}{w:Nat->Int}{T:Tab}
theorem fD{r:Nat}(h:r<m):rv n m S w T r=nv n S (T.row r):=aD h
theorem gY:rv n m S w T m=zv w:=aA (wj m)
theorem Br:vP n S T 0=one:=rfl
theorem Ie(c:Nat):vP n S T (c+1)=nv n S (T.col c):=by unfold vP;rw[aA (zu c)];rfl
theorem yG{c:Nat}(hc:c<=n)(a b:Int)(u v:Vec):Fn n S T c (fun j=>a*u j+b*v j)=a*Fn n S T c u+b*Fn n S T c v:=by
 unfold Fn;rw[yt (n+1) (vP n S T) c a b u v (by omega)];grind
theorem J0{c:Nat}{u v:Vec}(h:∀j,j<=n->u j=v j):Fn n S T c u=Fn n S T c v:=by
 unfold Fn;rw[wM (n+1) (M:=put (vP n S T) c u) (N:=put (vP n S T) c v) fun i _ j hj=> ?_];unfold put;split
 ·exact h j (by omega)
 ·rfl
theorem j4{c:Nat}(hc:c<=n)(x:Int)(a:Vec)(y:Nat->Int)(W:Nat->Vec):∀k,Fn n S T c (fun j=>x*a j-sm k (fun i=>y i*W i j))=x*Fn n S T c a-sm k (fun i=>y i*Fn n S T c (W i))
 |0=>by
  have h:=yG (T:=T) (S:=S) hc x 0 a a;rw[J0 (v:=fun j=>x*a j+0*a j) fun j _=>by show x*a j-0=_;omega,h];show _=_-0;omega
 |k+1=>by
  have h:=yG (T:=T) (S:=S) hc 1 (-(y k)) (fun j=>x*a j-sm k (fun i=>y i*W i j)) (W k);rw[J0 (v:=fun j=>1*(x*a j-sm k (fun i=>y i*W i j))+ -(y k)*W k j) fun j _=>by show x*a j-(sm k _+y k*W k j)=_;grind,h,j4 hc x a y W k];show _=x*Fn n S T c a-(sm k _+y k*Fn n S T c (W k))
  grind
theorem ql{c:Nat}(hc:c<=n)(a:Int)(u:Vec):Fn n S T c (fun j=>a*u j)=a*Fn n S T c u:=by
 have h:=yG (T:=T) (S:=S) hc a 0 u u;rw[J0 (v:=fun j=>a*u j+0*u j) fun j _=>by omega,h];omega
theorem Pa(g:T.over=T.s*det (n+1) (vP n S T)){c i:Nat}(hc:c<=n)(hi:i<=n):Fn n S T c (vP n S T i)=if i=c then T.over else 0:=by
 unfold Fn;by_cases e:i=c
 ·subst e;rw[aD rfl,ur,<-g]
 ·rw[aA e,Om (r:=c) (t:=i) (by omega) (by omega) (lA e) (by rw[put_same,iT _ _ e]),wQ]
theorem lZ(g:T.over=T.s*det (n+1) (vP n S T)){c:Nat}(hc:c<=n):Fn n S T c one=if c=0 then T.over else 0:=by
 have:=Pa g hc (dY n);rw[Br]at this;rw[this];by_cases e:c=0
 ·rw[aD e,aD e.symm]
 ·rw[aA e,aA (lA e)]
theorem zf(g:T.over=T.s*det (n+1) (vP n S T)){c i:Nat}(hc:c<=n)(hi:i<n):Fn n S T c (nv n S (T.col i))=if i+1=c then T.over else 0:=by
 have:=Pa g hc (show i+1<=n by omega);rw[Ie]at this;exact this
theorem XR{a x y:Int}(h:0<a)(e:a*x=a*y):x=y:=wdd (by omega) e
theorem Good.base(G:Good n m S w T){r:Nat}(hr:r<=m):Fn n S T 0 (rv n m S w T r)=T.cell r n:=by
 have h1:=ql (T:=T) (S:=S) (c:=0) (dY n) T.over (rv n m S w T r);rw[J0 fun j hj=>G.eq r hr j hj,j4 (dY n) _ _ (T.cell r) (fun c=>nv n S (T.col c)),lZ G.dt (dY n),aD rfl,cO n fun c hc=>by rw[zf G.dt (dY n) hc,aA (zu c),wQ]]at h1;refine XR G.pos ?_;rw[<-h1,zq];omega
theorem Good.dir(G:Good n m S w T){r c:Nat}(hr:r<=m)(hc:c<n):Fn n S T (c+1) (rv n m S w T r)= -T.cell r c:=by
 have h1:=ql (T:=T) (S:=S) (c:=c+1) hc T.over (rv n m S w T r);rw[J0 fun j hj=>G.eq r hr j hj,j4 hc _ _ (T.cell r) (fun c=>nv n S (T.col c)),lZ G.dt hc,aA (zu c),cR (j:=c) n hc fun i hi hn=>by rw[zf G.dt hc hi,aA (by omega),wQ],zf G.dt hc hc,aD rfl]at h1;refine XR G.pos ?_;rw[<-h1];grind
noncomputable def turn(T:Tab)(p q:Nat):Tab where
 col:=fun c=>if c=q then T.row p else T.col c
 row:=fun r=>if r=p then T.col q else T.row r
 over:=T.cell p q
 s:= -T.s
 cell:=fun r c=>if r=p then(if c=q then T.over else T.cell p c)else if c=q then -T.cell r q else(T.cell r c*T.cell p q-T.cell r q*T.cell p c)/T.over
theorem Kc{p q:Nat}:vP n S (turn T p q)=put (vP n S T) (q+1) (nv n S (T.row p)):=by
 funext i;unfold vP put turn;dsimp only;by_cases h0:i=0
 ·rw[aD h0,aA (by omega),aD h0]
 ·rw[aA h0];by_cases h1:i=q+1
  ·rw[aD h1,aD (by omega)]
  ·rw[aA h1,aA (by omega),aA h0]
theorem Qi{p q r:Nat}(h:r≠p):rv n m S w (turn T p q) r=rv n m S w T r:=by
 unfold rv turn;dsimp only;rw[aA h]
theorem Good.wB(G:Good n m S w T){p q:Nat}(hp:p<m)(hq:q<n):(turn T p q).over=(turn T p q).s*det (n+1) (vP n S (turn T p q)):=by
 have h:=G.dir (r:=p) (dH hp) hq;rw[fD hp]at h;unfold Fn at h;rw[Kc];show T.cell p q= -T.s*_
 grind
theorem Good.exact(G:Good n m S w T){p q r c:Nat}(hp:p<m)(hq:q<n)(hb:0<T.cell p q)(hr:r<=m)(hrp:r≠p)(hc:c<=n)(Wb:c≠q):
  T.over*(turn T p q).cell r c=T.cell r c*T.cell p q-T.cell r q*T.cell p c:=by
 have g':=G.wB hp hq;have aaN:∀j,j<=n->T.cell p q*T.over*rv n m S w T r j=(T.cell r n*T.cell p q-T.cell r q*T.cell p n)*one j-sm n (fun c=>(T.cell r c*T.cell p q-T.cell r q*T.cell p c)*nv n S (T.col c) j)+T.over*T.cell r q*nv n S (T.row p) j:=fun j hj=>by
  have e1:=G.eq r hr j hj;have e2:=G.eq p (dH hp) j hj;rw[fD hp]at e2;have e3:sm n (fun c=>(T.cell r c*T.cell p q-T.cell r q*T.cell p c)*nv n S (T.col c) j)=T.cell p q*sm n (fun c=>T.cell r c*nv n S (T.col c) j)+ -(T.cell r q)*sm n (fun c=>T.cell p c*nv n S (T.col c) j):=by
   rw[<-cT,<-cT,<-iH];exact aW n fun c _=>by grind
  rw[e3];generalize sm n (fun c=>T.cell r c*nv n S (T.col c) j)=A at *;generalize sm n (fun c=>T.cell p c*nv n S (T.col c) j)=B at *
  grind
 have app:∀d,d<=n->T.cell p q*T.over*Fn n S (turn T p q) d (rv n m S w T r)=(T.cell r n*T.cell p q-T.cell r q*T.cell p n)*Fn n S (turn T p q) d one-sm n (fun c=>(T.cell r c*T.cell p q-T.cell r q*T.cell p c)*Fn n S (turn T p q) d (nv n S (T.col c)))+T.over*T.cell r q*Fn n S (turn T p q) d (nv n S (T.row p)):=fun d hd=>by
  rw[<-ql hd,J0 aaN,<-j4 hd _ _ (fun c=>T.cell r c*T.cell p q-T.cell r q*T.cell p c) (fun c=>nv n S (T.col c))];have h:=yG (T:=turn T p q) (S:=S) hd 1 (T.over*T.cell r q) (fun j=>(T.cell r n*T.cell p q-T.cell r q*T.cell p n)*one j-sm n (fun c=>(T.cell r c*T.cell p q-T.cell r q*T.cell p c)*nv n S (T.col c) j)) (nv n S (T.row p));simp only[zp]at h;exact h
 have aae:nv n S ((turn T p q).col q)=nv n S (T.row p):=by unfold turn;dsimp only;rw[aD rfl]
 have Wy:∀c,c≠q->nv n S ((turn T p q).col c)=nv n S (T.col c):=fun c h=>by unfold turn;dsimp only;rw[aA h]
 have ov:(turn T p q).over=T.cell p q:=rfl;have key:∃x,T.cell r c*T.cell p q-T.cell r q*T.cell p c=T.over*x:=by
  by_cases hl:c=n
  ·subst hl;have h:=app 0 (dY _);have f1:=lZ g' (dY c);have f2:=zf g' (dY c) hq;rw[aD rfl,ov]at f1;rw[aae,aA (zu q)]at f2;rw[f1,f2,cO c fun i hi=> ?_]at h
   ·refine⟨Fn c S (turn T p q) 0 (rv c m S w T r),XR hb ?_⟩
    grind
   ·by_cases Zk:i=q
    ·subst Zk;rw[Int.sub_self,Fx]
    ·have f3:=zf g' (dY c) hi;rw[Wy i Zk,aA (zu i)]at f3;rw[f3,wQ]
  ·have hc':c<n:=by omega
   have h:=app (c+1) hc';have f1:=lZ g' (show c+1<=n from hc');have f2:=zf g' (show c+1<=n from hc') hq;have f3:=zf g' (show c+1<=n from hc') hc';rw[aA (zu c)]at f1;rw[aae,aA (by omega)]at f2;rw[Wy c Wb,aD rfl,ov]at f3;rw[f1,f2,cR (j:=c) n hc' fun i hi hn=> ?_,f3]at h
   ·refine⟨-Fn n S (turn T p q) (c+1) (rv n m S w T r),XR hb ?_⟩
    grind
   ·by_cases Zk:i=q
    ·subst Zk;rw[Int.sub_self,Fx]
    ·have f4:=zf g' (show c+1<=n from hc') hi;rw[Wy i Zk,aA (by omega)]at f4;rw[f4,wQ]
 obtain⟨x,hx⟩:=key;show T.over*(if r=p then _ else if c=q then _ else(T.cell r c*T.cell p q-T.cell r q*T.cell p c)/T.over)=_;rw[aA hrp,aA Wb,hx,wbm _ (Int.ne_of_gt G.pos)]
theorem Good.turn(G:Good n m S w T){p q:Nat}(hp:p<m)(hq:q<n)(hb:0<T.cell p q)(ra:∀r,r<m->0<T.cell r q->T.cell p n*T.cell r q<=T.cell r n*T.cell p q):Good n m S w (turn T p q):=by
 have hqn:n≠q:=by omega
 have c1:∀r,r≠p->(Sx.turn T p q).cell r q= -T.cell r q:=fun r h=>by unfold Sx.turn;dsimp only;rw[aA h,aD rfl]
 have c2:(Sx.turn T p q).cell p q=T.over:=by unfold Sx.turn;dsimp only;rw[aD rfl,aD rfl]
 have c3:∀c,c≠q->(Sx.turn T p q).cell p c=T.cell p c:=fun c h=>by unfold Sx.turn;dsimp only;rw[aD rfl,aA h]
 have k1:(Sx.turn T p q).col q=T.row p:=by unfold Sx.turn;dsimp only;rw[aD rfl]
 have k2:∀c,c≠q->(Sx.turn T p q).col c=T.col c:=fun c h=>by unfold Sx.turn;dsimp only;rw[aA h]
 have r1:(Sx.turn T p q).row p=T.col q:=by unfold Sx.turn;dsimp only;rw[aD rfl]
 have r2:∀r,r≠p->(Sx.turn T p q).row r=T.row r:=fun r h=>by unfold Sx.turn;dsimp only;rw[aA h]
 refine⟨hb,fun r hr j hj=> ?_,?_,G.wB hp hq,fun c c' hc hc' e=> ?_,fun r r' hr hr' e=> ?_,fun c r hc hr e=> ?_,fun c hc=> ?_,fun r hr=> ?_,fun a ha=> ?_,fun r hr=> ?_⟩
 ·have e2:=G.eq p (dH hp) j hj;rw[fD hp]at e2;by_cases h:r=p
  ·subst h;rw[fD hp,r1,c3 n hqn];have e3:sm n (fun c=>(Sx.turn T r q).cell r c*nv n S ((Sx.turn T r q).col c) j)=sm n (fun c=>T.cell r c*nv n S (T.col c) j)+(T.over*nv n S (T.row r) j-T.cell r q*nv n S (T.col q) j):=by
    have:sm n (fun c=>if c=q then T.over*nv n S (T.row r) j-T.cell r q*nv n S (T.col q) j else 0)=T.over*nv n S (T.row r) j-T.cell r q*nv n S (T.col q) j:=by
     rw[cR (j:=q) n hq fun i _ hn=>aA hn,aD rfl]
    rw[<-this,<-iH];refine aW n fun c _=> ?_;by_cases hc:c=q
    ·subst hc;rw[c2,k1,aD rfl];omega
    ·rw[c3 c hc,k2 c hc,aA hc];omega
   rw[e3];show T.cell r q*nv n S (T.col q) j=_;omega
  ·rw[Qi h];have e1:=G.eq r hr j hj;have e3:T.over*sm n (fun c=>(Sx.turn T p q).cell r c*nv n S ((Sx.turn T p q).col c) j)=T.cell p q*sm n (fun c=>T.cell r c*nv n S (T.col c) j)+ -(T.cell r q)*sm n (fun c=>T.cell p c*nv n S (T.col c) j)+ -(T.over*T.cell r q*nv n S (T.row p) j):=by
    have:sm n (fun c=>if c=q then -(T.over*T.cell r q*nv n S (T.row p) j)else 0)= -(T.over*T.cell r q*nv n S (T.row p) j):=by
     rw[cR (j:=q) n hq fun i _ hn=>aA hn,aD rfl]
    rw[<-this,<-cT,<-cT,<-cT,<-iH,<-iH];refine aW n fun c hc=> ?_;by_cases Wb:c=q
    ·subst Wb;rw[c1 r h,k1,aD rfl];grind
    ·have:=G.exact hp hq hb hr h (dH hc) Wb;rw[k2 c Wb,aA Wb,<-RW,this];grind
   have e4:=G.exact hp hq hb hr h (aY n) hqn;refine XR G.pos ?_;show T.over*(T.cell p q*rv n m S w T r j)=_;rw[Int.mul_sub,e3,<-RW T.over ((Sx.turn T p q).cell r n),e4];generalize sm n (fun c=>T.cell r c*nv n S (T.col c) j)=A at *;generalize sm n (fun c=>T.cell p c*nv n S (T.col c) j)=B at *
   grind
 ·rcases G.sg with e|e
  ·exact .inr (by show -T.s= -1;rw[e])
  ·exact .inl (by show -T.s=1;rw[e];rfl)
 ·by_cases h1:c=q
  ·by_cases h2:c'=q
   ·rw[h1,h2]
   ·rw[h1,k1,k2 c' h2]at e;exact absurd e.symm (G.dis c' p hc' hp)
  ·by_cases h2:c'=q
   ·rw[h2,k1,k2 c h1]at e;exact absurd e (G.dis c p hc hp)
   ·rw[k2 c h1,k2 c' h2]at e;exact G.Eh c c' hc hc' e
 ·by_cases h1:r=p
  ·by_cases h2:r'=p
   ·rw[h1,h2]
   ·rw[h1,r1,r2 r' h2]at e;exact absurd e (G.dis q r' hq hr')
  ·by_cases h2:r'=p
   ·rw[h2,r1,r2 r h1]at e;exact absurd e.symm (G.dis q r hq hr)
   ·rw[r2 r h1,r2 r' h2]at e;exact G.Ln r r' hr hr' e
 ·by_cases h1:c=q
  ·by_cases h2:r=p
   ·rw[h1,h2,k1,r1]at e;exact G.dis q p hq hp e.symm
   ·rw[h1,k1,r2 r h2]at e;exact h2 (G.Ln p r hp hr e).symm
  ·by_cases h2:r=p
   ·rw[h2,k2 c h1,r1]at e;exact h1 (G.Eh c q hc hq e)
   ·rw[k2 c h1,r2 r h2]at e;exact G.dis c r hc hr e
 ·by_cases h1:c=q
  ·rw[h1,k1];exact G.rlt p hp
  ·rw[k2 c h1];exact G.RK c hc
 ·by_cases h1:r=p
  ·rw[h1,r1];exact G.RK q hq
  ·rw[r2 r h1];exact G.rlt r hr
 ·rcases G.all a ha with⟨c,hc,e⟩|⟨r,hr,e⟩
  ·by_cases h1:c=q
   ·exact .inr ⟨p,hp,by rw[r1,<-h1,e]⟩
   ·exact .inl ⟨c,hc,by rw[k2 c h1,e]⟩
  ·by_cases h1:r=p
   ·exact .inl ⟨q,hq,by rw[k1,<-h1,e]⟩
   ·exact .inr ⟨r,hr,by rw[r2 r h1,e]⟩
 ·by_cases h1:r=p
  ·rw[h1,c3 n hqn];exact G.XC p hp
  ·have e:=G.exact hp hq hb (dH hr) h1 (aY n) hqn;have f1:=G.XC r hr;have f2:=G.XC p hp;have z:0<=T.cell r n*T.cell p q-T.cell r q*T.cell p n:=by
    by_cases hc:0<T.cell r q
    ·have:=ra r hr hc;rw[zq (T.cell r q)];omega
    ·have a1:0<=T.cell r n*T.cell p q:=Cq f1 (by omega);have a2:0<= -(T.cell r q)*T.cell p n:=Cq (by omega) f2
     grind
   rw[<-e]at z;have:=G.pos;refine Int.not_lt.mp fun hn=> ?_;have:T.over*(Sx.turn T p q).cell r n<0:=Int.mul_neg_of_pos_of_neg G.pos hn;omega
end
structure Step(n m:Nat)(T:Tab)(p q:Nat):Prop where
 hp:p<m
 hq:q<n
 neg:T.cell m q<0
 ent:∀c,c<n->T.cell m c<0->T.col q<=T.col c
 by_:0<T.cell p q
 lev:∀r,r<m->0<T.cell r q->T.cell p n*T.cell r q<T.cell r n*T.cell p q\/(T.cell p n*T.cell r q=T.cell r n*T.cell p q/\T.row p<=T.row r)
noncomputable def inC(n:Nat)(T:Tab)(a:Nat):Prop:=∃c,c<n/\T.col c=a
section
variable{n m:Nat}{S:Nat->Nat->Bool}{w:Nat->Int}
theorem Step.good{T:Tab}{p q:Nat}(s:Step n m T p q)(G:Good n m S w T):Good n m S w (turn T p q):=
 G.turn s.hp s.hq s.by_ fun r hr h=>(s.lev r hr h).elim J1 fun e=>W9 e.1
theorem Step.worth{T:Tab}{p q:Nat}(s:Step n m T p q)(G:Good n m S w T):T.over*(turn T p q).cell m n-(turn T p q).over*T.cell m n= -(T.cell m q)*T.cell p n:=by
 have h:=G.exact s.hp s.hq s.by_ (aY m) (T8 s.hp) (aY n) (T8 s.hq);rw[h];show _-T.cell p q*_=_
 grind
theorem Step.le{T:Tab}{p q:Nat}(s:Step n m T p q)(G:Good n m S w T):(turn T p q).over*T.cell m n<=T.over*(turn T p q).cell m n:=by
 have h:=s.worth G;have:=Cq (a:= -(T.cell m q)) (b:=T.cell p n) (by have:=s.neg;omega) (G.XC p s.hp);omega
theorem yp{a b c d e f:Int}(hd:0<d)(hb:0<b)(hf:0<f)(h1:d*a<=b*c)(h2:f*c<=d*e):f*a<=b*e:=by
 have x:=J3 h1 (J1 hf);have y:=J3 h2 (J1 hb);refine Int.le_of_mul_le_mul_left (a:=d) ?_ hd
 grind
theorem yj{a b c d e f:Int}(hd:0<d)(hb:0<b)(hf:0<f)(h1:d*a<=b*c)(h2:f*c<d*e):f*a<b*e:=by
 have x:=J3 h1 (J1 hf);have y:=wcx h2 hb;refine wde (a:=d) ?_ (J1 hd)
 grind
theorem Bf{a b c d e f:Int}(hd:0<d)(hb:0<b)(hf:0<f)(h1:d*a<b*c)(h2:f*c<=d*e):f*a<b*e:=by
 have x:=wcx h1 hf;have y:=J3 h2 (J1 hb);refine wde (a:=d) ?_ (J1 hd)
 grind
theorem goes{P:Nat->Prop}{s:Nat}:∀d,P s->¬P (s+d)->∃t,s<=t/\t<s+d/\P t/\¬P (t+1)
 |0,h,h'=>absurd h h'
 |d+1,h,h'=>by
  by_cases c:P (s+d)
  ·exact⟨s+d,by omega,by omega,c,h'⟩
  ·obtain⟨t,a,b,x⟩:=goes d h c;exact⟨t,a,by omega,x⟩
theorem Ay{P:Nat->Prop}{s e:Nat}(hse:s<=e)(h:P s)(h':¬P e):∃t,s<=t/\t<e/\P t/\¬P (t+1):=by
 obtain⟨t,a,b,x⟩:=goes (s:=s) (e-s) h (by rw[show s+(e-s)=e by omega];exact h');exact⟨t,a,by omega,x⟩
theorem most{P:Nat->Prop}:∀N,(∃a,P a)->(∀a,P a->a<N)->∃a,P a/\∀b,P b->b<=a
 |0,⟨a,h⟩,hb=>absurd (hb a h) (Ua a)
 |N+1,h,hb=>by
  by_cases c:P N
  ·exact⟨N,c,fun b hP=>by have:=hb b hP;omega⟩
  ·exact most N h fun a hP=>by
    have:=hb a hP;have:a≠N:=fun e=>c (e▸hP);omega
structure Run(n m:Nat)(S:Nat->Nat->Bool)(w:Nat->Int)(T:Nat->Tab)(p q:Nat->Nat)(L:Nat):Prop where
 first:Good n m S w (T 0)
 step:∀t,t<L->Step n m (T t) (p t) (q t)
 next:∀t,t<L->T (t+1)=turn (T t) (p t) (q t)
variable{T:Nat->Tab}{p q:Nat->Nat}{L:Nat}
theorem Run.good(R:Run n m S w T p q L):∀t,t<=L->Good n m S w (T t)
 |0,_=>R.first
 |t+1,h=>by rw[R.next t h];exact(R.step t h).good (R.good t (wdl h))
theorem Run.worth(R:Run n m S w T p q L){i:Nat}:∀d,i+d<=L->(T (i+d)).over*(T i).cell m n<=(T i).over*(T (i+d)).cell m n
 |0,_=>rP _
 |d+1,h=>by
  have ih:=R.worth d (i:=i) (by omega);have g1:=R.good (i+d) (by omega);have st:=(R.step (i+d) (by omega)).le g1;rw[<-R.next (i+d) (by omega)]at st;exact yp g1.pos (R.good i (by omega)).pos (R.good (i+d+1) h).pos ih st
theorem Run.J5(R:Run n m S w T p q L){i j:Nat}(hij:i<=j)(hj:j<=L):(T j).over*(T i).cell m n<=(T i).over*(T j).cell m n:=by
 have:=R.worth (i:=i) (j-i) (by omega)
 rwa [show i+(j-i)=j by omega]at this
theorem Dd{A B:Tab}(GA:Good n m S w A)(GB:Good n m S w B)(h:∀a,inC n B a->inC n A a):B.over*A.cell m n=A.over*B.cell m n:=by
 have h1:=ql (T:=A) (S:=S) (c:=0) (dY n) B.over (zv w);have e:=GB.eq m (aY m);rw[gY]at e;have b:=GA.base (aY m);rw[gY]at b;rw[J0 e,j4 (dY n) _ _ (B.cell m) (fun c=>nv n S (B.col c)),lZ GA.dt (dY n),aD rfl,cO n fun c hc=> ?_,b]at h1
 ·rw[<-h1,zq];omega
 ·obtain⟨c',hc',e'⟩:=h _ ⟨c,hc,rfl⟩;rw[<-e',zf GA.dt (dY n) hc',aA (zu c'),wQ]
theorem Ka{T:Tab}{p q:Nat}(G:Good n m S w T)(hp:p<m)(hq:q<n)(a:Nat):inC n (turn T p q) a↔(inC n T a/\a≠T.col q)\/a=T.row p:=by
 constructor
 ·rintro⟨c,hc,e⟩;have e':(if c=q then T.row p else T.col c)=a:=e;by_cases h:c=q
  ·rw[aD h]at e';exact .inr e'.symm
  ·rw[aA h]at e';exact .inl ⟨⟨c,hc,e'⟩,fun z=>h (G.Eh c q hc hq (e'.trans z))⟩
 ·rintro(⟨⟨c,hc,e⟩,hn⟩|e)
  ·have h:c≠q:=fun z=>hn (by rw[<-e,z]);exact⟨c,hc,by show(if c=q then _ else _)=a;rw[aA h];exact e⟩
  ·exact⟨q,hq,by show(if q=q then _ else _)=a;rw[aD rfl];exact e.symm⟩
theorem flat{T:Tab}{p q:Nat}(G:Good n m S w T)(G':Good n m S w (turn T p q))(s:Step n m T p q)(h0:T.cell p n=0){a:Nat}(ha:a<n+m):Fn n S (turn T p q) 0 (nv n S a)=0↔Fn n S T 0 (nv n S a)=0:=by
 have z0:=dY n;rcases G'.all a ha with⟨c,hc,e⟩|⟨r,hr,e⟩
 ·have f1:=zf G'.dt z0 hc;rw[e,aA (zu c)]at f1;refine⟨fun _=> ?_,fun _=>f1⟩;have e':(if c=q then T.row p else T.col c)=a:=e;by_cases h:c=q
  ·rw[aD h]at e';have:=G.base (dH s.hp);rw[fD s.hp,e']at this;rw[this,h0]
  ·rw[aA h]at e';have:=zf G.dt z0 hc;rw[e',aA (zu c)]at this;exact this
 ·have f1:=G'.base (dH hr);rw[fD hr,e]at f1;have e':(if r=p then T.col q else T.row r)=a:=e;rw[f1];by_cases h:r=p
  ·rw[aD h]at e';have f2:=zf G.dt z0 s.hq;rw[e',aA (zu q)]at f2;have f3:(turn T p q).cell r n=T.cell p n:=by
    show(if r=p then(if n=q then _ else _)else _)=_;rw[aD h,aA (T8 s.hq)]
   rw[f3,h0];exact⟨fun _=>f2,fun _=>rfl⟩
  ·rw[aA h]at e';have f2:=G.base (dH hr);rw[fD hr,e']at f2;rw[f2];have x:=G.exact s.hp s.hq s.by_ (dH hr) h (aY n) (T8 s.hq);rw[h0,wQ,Int.sub_zero]at x;constructor
   ·intro z;rw[z,wQ]at x;rcases Int.mul_eq_zero.mp x.symm with y|y
    ·exact y
    ·have:=s.by_;omega
   ·intro z;rw[z,Fx]at x;rcases Int.mul_eq_zero.mp x with y|y
    ·have:=G.pos;omega
    ·exact y
theorem Run.Jo(R:Run n m S w T p q L){i j:Nat}(hij:i<j)(hj:j<=L):¬∀a,inC n (T i) a↔inC n (T j) a:=by
 intro same;have Gt:∀t,i<=t->t<=j->Good n m S w (T t):=fun t _ h=>R.good t (cV h hj);have D:=Dd (Gt i (aY i) (dH hij)) (Gt j (dH hij) (aY j)) fun a=>(same a).mpr;have St:∀t,t<j->Step n m (T t) (p t) (q t):=fun t h=>R.step t (mH h hj);have nx:∀t,t<j->T (t+1)=turn (T t) (p t) (q t):=fun t h=>R.next t (mH h hj)
 -- every turn of these is flat
 have fl:∀t,i<=t->t<j->(T t).cell (p t) n=0:=fun t hi ht=>by
  have g:=Gt t hi (dH ht);have W:=(St t ht).worth g;have F:=g.XC (p t) (St t ht).hp;have N:=(St t ht).neg;by_cases z:(T t).cell (p t) n=0
  ·exact z
  ·exfalso;have B:(turn (T t) (p t) (q t)).over*(T t).cell m n<(T t).over*(turn (T t) (p t) (q t)).cell m n:=by
    have:=T3 (a:= -((T t).cell m (q t))) (b:=(T t).cell (p t) n) (by omega) (by omega);omega
   rw[<-nx t ht]at B;have A:=R.J5 (i:=i) (j:=t) hi (by omega);have C:=R.J5 (i:=t+1) (j:=j) ht hj;have o1:=(Gt i (aY i) (dH hij)).pos;have o2:=g.pos;have o3:=(Gt (t+1) (by omega) ht).pos;have o4:=(Gt j (dH hij) (aY j)).pos;have x:=yj o2 o1 o3 A B;have y:=Bf o3 o1 o4 x C;omega
 have ic:∀t,t<j->i<=t->∀a,inC n (T (t+1)) a↔(inC n (T t) a/\a≠(T t).col (q t))\/a=(T t).row (p t):=fun t ht hi a=>by
  rw[nx t ht];exact Ka (Gt t hi (dH ht)) (St t ht).hp (St t ht).hq a
 have zeros:∀{a:Nat},a<n+m->∀d s,i<=s->s+d<=j->(Fn n S (T (s+d)) 0 (nv n S a)=0↔Fn n S (T s) 0 (nv n S a)=0):=fun{a} ha d=>by
  induction d with
  |zero=>intro s _ _;exact Iff.rfl
  |succ d ih=>
   intro s hs hd;have f:=flat (Gt (s+d) (by omega) (by omega)) (by rw[<-nx (s+d) (by omega)];exact Gt (s+d+1) (by omega) hd) (St (s+d) (by omega)) (fl (s+d) (by omega) (by omega)) ha;rw[<-nx (s+d) (by omega)]at f;exact f.trans (ih s hs (by omega))
 have XJ:∀{a s t:Nat},a<n+m->i<=s->s<=j->i<=t->t<=j->Fn n S (T s) 0 (nv n S a)=0->Fn n S (T t) 0 (nv n S a)=0:=fun{a s t} ha h1 h2 h3 h4 z=>by
  by_cases c:s<=t
  ·have:=zeros ha (t-s) s h1 (by omega);rw[show s+(t-s)=t by omega]at this;exact this.mpr z
  ·have:=zeros ha (s-t) t h3 (by omega);rw[show t+(s-t)=s by omega]at this;exact this.mp z
 -- the greatest name that comes and goes
 let Fk:Nat->Prop:=fun a=>∃t,i<=t/\t<j/\((inC n (T t) a/\¬inC n (T (t+1)) a)\/(¬inC n (T t) a/\inC n (T (t+1)) a));have fkc:∀t,i<=t->t<j->Fk ((T t).col (q t)):=fun t hi ht=>by
  have g:=Gt t hi (dH ht);refine⟨t,hi,ht,.inl ⟨⟨q t,(St t ht).hq,rfl⟩,fun z=> ?_⟩⟩;rcases(ic t ht hi _).mp z with⟨_,z⟩|z
  ·exact z rfl
  ·exact g.dis (q t) (p t) (St t ht).hq (St t ht).hp z
 have lt:∀a,Fk a->a<n+m:=fun a h=>by
  obtain⟨t,hi,ht,(⟨⟨c,hc,e⟩,_⟩|⟨_,⟨c,hc,e⟩⟩)⟩:=h
  ·rw[<-e];exact(Gt t hi (dH ht)).RK c hc
  ·rw[<-e];exact(Gt (t+1) (by omega) ht).RK c hc
 obtain⟨tt,hF,hmax⟩:=most (n+m) ⟨_,fkc i (aY i) hij⟩ lt;have diff:∀{a s e:Nat},i<=s->s<=j->i<=e->e<=j->inC n (T s) a->¬inC n (T e) a->Fk a:=fun{a s e} h1 h2 h3 h4 x y=>by
  by_cases c:s<=e
  ·obtain⟨t,a1,a2,a3,a4⟩:=Ay (P:=fun t=>inC n (T t) a) c x y;exact⟨t,by omega,by omega,.inl ⟨a3,a4⟩⟩
  ·obtain⟨t,a1,a2,a3,a4⟩:=Ay (P:=fun t=>¬inC n (T t) a) (s:=e) (e:=s) (by omega) y (fun z=>z x);exact⟨t,by omega,by omega,.inr ⟨a3,Classical.not_not.mp a4⟩⟩
 obtain⟨t1,Zx,Xz,h1a,h1b⟩:∃t,i<=t/\t<j/\inC n (T t) tt/\¬inC n (T (t+1)) tt:=by
  obtain⟨t,hi,ht,(⟨x,y⟩|⟨x,y⟩)⟩:=hF
  ·exact⟨t,hi,ht,x,y⟩
  ·by_cases c:inC n (T j) tt
   ·obtain⟨u,a1,a2,a3,a4⟩:=Ay (P:=fun t=>inC n (T t) tt) hi ((same tt).mpr c) x;exact⟨u,a1,by omega,a3,a4⟩
   ·obtain⟨u,a1,a2,a3,a4⟩:=Ay (P:=fun t=>inC n (T t) tt) (s:=t+1) (e:=j) ht y c;exact⟨u,by omega,a2,a3,a4⟩
 obtain⟨t2,Xy,Wc,h2a,h2b⟩:∃t,i<=t/\t<j/\¬inC n (T t) tt/\inC n (T (t+1)) tt:=by
  have up:∀s e,i<=s->s<=e->e<=j->¬inC n (T s) tt->inC n (T e) tt->∃t,i<=t/\t<j/\¬inC n (T t) tt/\inC n (T (t+1)) tt:=fun s e a b c x y=>by
   obtain⟨u,a1,a2,a3,a4⟩:=Ay (P:=fun t=>¬inC n (T t) tt) b x (fun z=>z y);exact⟨u,by omega,by omega,a3,Classical.not_not.mp a4⟩
  by_cases c:inC n (T j) tt
  ·exact up (t1+1) j (by omega) Xz (aY j) h1b c
  ·exact up i t1 (aY i) Zx (by omega) (fun z=>c ((same tt).mp z)) h1a
 have e1:tt=(T t1).col (q t1):=by
  refine Xn fun hn=>h1b ((ic t1 Xz Zx tt).mpr (.inl ⟨h1a,hn⟩))
 have e2:tt=(T t2).row (p t2):=by
  rcases(ic t2 Wc Xy tt).mp h2b with⟨z,_⟩|z
  ·exact absurd z h2a
  ·exact z
 have G1:=Gt t1 Zx (dH Xz);have G2:=Gt t2 Xy (dH Wc);have S1:=St t1 Xz;have S2:=St t2 Wc
 -- along the column that enters at t2
 have hq2:q t2+1<=n:=S2.hq;have dz:=G2.dir (aY m) S2.hq;rw[gY]at dz;have sum:=ql (T:=T t2) (S:=S) hq2 (T t1).over (zv w);have eq1:=G1.eq m (aY m);rw[gY]at eq1;rw[J0 eq1,j4 hq2 _ _ ((T t1).cell m) (fun c=>nv n S ((T t1).col c)),lZ G2.dt hq2,aA (zu _),dz]at sum;have neg:sm n (fun c=>(T t1).cell m c*Fn n S (T t2) (q t2+1) (nv n S ((T t1).col c)))<0:=by
  have:=T3 G1.pos (b:= -((T t2).cell m (q t2))) (by have:=S2.neg;omega);omega
 obtain⟨c,hc,hlt⟩:=K6 n neg;have hnm:=G1.RK c hc;rcases G2.all _ hnm with⟨c0,hc0,e0⟩|⟨r0,hr0,e0⟩
 ·have f:=zf G2.dt hq2 hc0;rw[e0]at f;by_cases z:c0=q t2
  ·rw[aD (by omega)]at f;rw[f]at hlt;have cn:(T t1).cell m c<0:=by
    refine Int.not_le.mp fun h=> ?_;have:=Cq h (J1 G2.pos);omega
   have a:=S1.ent c hc cn;rw[<-e1,<-e0,z]at a;have b:=hmax _ (fkc t2 Xy Wc);have:tt=(T t2).col (q t2):=Ub a b;exact G2.dis (q t2) (p t2) S2.hq S2.hp (this.symm.trans e2)
  ·rw[aA (by omega)]at f;rw[f,wQ]at hlt;exact absurd hlt (wez 0)
 ·have f:=G2.dir (dH hr0) S2.hq;rw[fD hr0,e0]at f;rw[f]at hlt;have fk:Fk ((T t1).col c):=diff Zx (dH Xz) Xy (dH Wc) ⟨c,hc,rfl⟩ (fun⟨c',hc',e'⟩=>G2.dis c' r0 hc' hr0 (e'.trans e0.symm));have le:=hmax _ fk;by_cases z:(T t1).col c=tt
  ·have cq:c=q t1:=G1.Eh c (q t1) hc S1.hq (z.trans e1);have rp:r0=p t2:=G2.Ln r0 (p t2) hr0 S2.hp (e0.trans (z.trans e2));subst cq rp;have a:=S1.neg;have b:=S2.by_;have:=T3 (a:= -((T t1).cell m (q t1))) (b:=(T t2).cell (p t2) (q t2)) (by omega) b
   grind
  ·have cn:¬(T t1).cell m c<0:=fun h=>by
    have:=S1.ent c hc h;omega
   have Qt:0<(T t2).cell r0 (q t2):=by
    refine Int.not_le.mp fun h=> ?_;have:=Cq (a:=(T t1).cell m c) (b:= -((T t2).cell r0 (q t2))) (by omega) (by omega);omega
   have v1:Fn n S (T t1) 0 (nv n S ((T t1).col c))=0:=by rw[zf G1.dt (dY n) hc,aA (zu c)]
   have v2:=XJ hnm Zx (dH Xz) Xy (dH Wc) v1;have b:=G2.base (dH hr0);rw[fD hr0,e0,v2]at b;have k:=fl t2 Xy Wc;rcases S2.lev r0 hr0 Qt with h|⟨_,h⟩
   ·rw[k,<-b,Fx,Fx]at h;exact absurd h (wez 0)
   ·rw[<-e2,e0]at h;omega
noncomputable def enc:List Bool->Nat
 |[]=>0
 |b::l=>(if b=true then 1 else 0)+2*enc l
theorem Oj:∀l:List Bool,enc l<2^l.length
 |[]=>by decide
 |b::l=>by
  have:=Oj l;show(if b=true then 1 else 0)+2*enc l<2^(l.length+1);rw[wfd];split<;>omega
theorem Ia:∀{l l':List Bool},l.length=l'.length->enc l=enc l'->l=l'
 |[],[],_,_=>rfl
 |b::l,b'::l',h,e=>by
  have e':(if b=true then 1 else 0)+2*enc l=(if b'=true then 1 else 0)+2*enc l':=e;have hb:b=b':=by cases b<;>cases b'<;>simp at e'⊢<;>omega
  subst hb;rw[Ia (l:=l) (l':=l') (by simpa using h) (by omega)]
theorem few:∀(K:Nat) (l:List Nat),l.Nodup->(∀x∈l,x<K)->l.length<=K
 |0,[],_,_=>aY 0
 |0,x::_,_,h=>absurd (h x iW) (Ua x)
 |K+1,l,nd,h=>by
  have a:=few K (l.filter fun x=>decide (x≠K)) (nd.filter _) fun x hx=>by
   obtain⟨h1,h2⟩:=fL.mp hx;have:=h x h1;have:=fJ h2;omega
  have b:l.length<=(l.filter fun x=>decide (x≠K)).length+1:=by
   clear a h
   induction l with
   |nil=>exact dY _
   |cons y l ih=>
    have nd':=J2.mp nd;rw[FJ];by_cases c:y=K
    ·subst c;rw[aA (by simp)];have:l.filter (fun x=>decide (x≠y))=l:=List.filter_eq_self.mpr fun x hx=>cW fun e=>nd'.1 (e▸hx);rw[this];exact aY _
    ·rw[aD (cW c)];have:=ih nd'.2;simp only[yV];omega
  omega
open Classical in
noncomputable def code(n m:Nat)(T:Tab):Nat:=enc ((List.range (n+m)).map fun a=>decide (inC n T a))
theorem Run.short(R:Run n m S w T p q L):L<2^(n+m):=by
 have inj:∀i j,i<=L->j<=L->code n m (T i)=code n m (T j)->i=j:=by
  have one:∀i j,i<j->j<=L->code n m (T i)≠code n m (T j):=fun i j hij hj e=>by
   have l:=Ia (by simp) e;refine R.Jo hij hj fun a=> ?_;by_cases ha:a<n+m
   ·have:=kO (fun l:List Bool=>l[a]?) l;simp only[dU,R0 ha,Option.map_some,Option.some.injEq,decide_eq_decide]at this;exact this
   ·exact⟨fun⟨c,hc,e⟩=>absurd ((R.good i (by omega)).RK c hc) (by omega),fun⟨c,hc,e⟩=>absurd ((R.good j hj).RK c hc) (by omega)⟩
  intro i j hi hj e;rcases Nat.lt_trichotomy i j with h|h|h
  ·exact absurd e (one i j h hj)
  ·exact h
  ·exact absurd e.symm (one j i h hi)
 have nd:((List.range (L+1)).map fun t=>code n m (T t)).Nodup:=by
  refine Qc.mpr (List.nodup_range.imp_of_mem fun{a b} ha hb hab e=>hab (inj a b ?_ ?_ e))
  ·have:=jz.mp ha;omega
  ·have:=jz.mp hb;omega
 have:=few (2^(n+m)) _ nd fun x hx=>by
  obtain⟨t,_,rfl⟩:=jC.mp hx;have:=Oj ((List.range (n+m)).map fun a=> @decide (inC n (T t) a) (Classical.propDecidable _));rw[aL,vo]at this;exact this
 rw[aL,vo]at this;omega
end
section
variable{n m:Nat}{S:Nat->Nat->Bool}{w:Nat->Int}{T:Tab}
theorem oA{a j:Nat}(h:a<n):nv n S a j=if j=a+1 then 1 else 0:=aD h
theorem xY{k j:Nat}:nv n S (n+k) j=if j=0 then 1 else if S k (j-1)=true then -1 else 0:=by
 unfold nv;rw[aA (by omega),show n+k-n=k by omega]
theorem Gv{y:Nat->Int}{j:Nat}(hj:j<=n):sm n (fun c=>y c*nv n S c j)=if j=0 then 0 else y (j-1):=by
 by_cases h:j=0
 ·rw[aD h];exact cO n fun c hc=>by rw[oA hc,aA (by omega),wQ]
 ·rw[aA h,cR (j:=j-1) n (by omega) fun c hc hn=>by rw[oA hc,aA (by omega),wQ],oA (by omega),aD (by omega),Yk]
theorem Ds{k j:Nat}(hj:j<=n):nv n S (n+k) j=1*one j-sm n (fun c=>(if S k c=true then 1 else 0)*nv n S c j):=by
 rw[xY,Gv hj];unfold one;by_cases h:j=0
 ·rw[aD h,aD h,aD h];rfl
 ·rw[aA h,aA h,aA h];split<;>rfl
theorem JZ{j:Nat}(hj:j<=n):zv w j=0*one j-sm n (fun c=> -(w c)*nv n S c j):=by
 rw[Gv hj];unfold zv;by_cases h:j=0
 ·rw[aD h,aD h];omega
 ·rw[aA h,aA h];omega
noncomputable def start(n m:Nat)(S:Nat->Nat->Bool)(w:Nat->Int):Tab where
 col:=fun c=>c
 row:=fun r=>n+r
 cell:=fun r c=>if r=m then(if c=n then 0 else -(w c))else if c=n then 1 else if S r c=true then 1 else 0
 over:=1
 s:=1
theorem CJ:Good n m S w (start n m S w):=by
 refine⟨Int.one_pos,fun r hr j hj=> ?_,.inl rfl,?_,fun c c' _ _ e=>e,fun r r' _ _ e=>by have:n+r=n+r':=e;omega,fun c r hc _ e=>by have:c=n+r:=e;omega,fun c hc=>by show c<n+m;omega,fun r hr=>by show n+r<n+m;omega,fun a ha=> ?_,fun r hr=> ?_⟩
 ·show 1*rv n m S w (start n m S w) r j=(start n m S w).cell r n*one j-sm n (fun c=>(start n m S w).cell r c*nv n S c j);by_cases h:r<m
  ·rw[fD h];show 1*nv n S (n+r) j=_;rw[zp,Ds hj];have e1:(start n m S w).cell r n=1:=by show(if r=m then _ else if n=n then(1:Int)else _)=1;rw[aA (by omega),aD rfl]
   rw[e1,aW n fun c hc=> ?_];show _=(if r=m then _ else if c=n then(1:Int)else if S r c=true then 1 else 0)*_;rw[aA (show¬r=m by omega),aA (show¬c=n by omega)]
  ·have e:r=m:=by omega
   subst e;rw[gY,zp,JZ (n:=n) (S:=S) hj];have e1:(start n r S w).cell r n=0:=by show(if r=r then(if n=n then(0:Int)else _)else _)=0;rw[aD rfl,aD rfl]
   rw[e1,aW n fun c hc=> ?_];show _=(if r=r then(if c=n then(0:Int)else -(w c))else _)*_;rw[aD rfl,aA (show¬c=n by omega)]
 ·show(1:Int)=1*det (n+1) _;rw[Bj (n+1) _ fun i hi j hj=> ?_]; · rfl
  by_cases h:i=0
  ·subst h;rw[Br];unfold one;by_cases e:j=0
   ·rw[aD e,aD e.symm]
   ·rw[aA e,aA (lA e)]
  ·obtain⟨c,rfl⟩:∃c,i=c+1:=⟨i-1,by omega⟩;rw[Ie];show nv n S c j=_;rw[oA (by omega)];by_cases e:j=c+1
   ·rw[aD e,aD e.symm]
   ·rw[aA e,aA (lA e)]
 ·by_cases h:a<n
  ·exact .inl ⟨a,h,rfl⟩
  ·exact .inr ⟨a-n,by omega,by show n+(a-n)=a;omega⟩
 ·show 0<=(if r=m then _ else if n=n then(1:Int)else _);rw[aA (by omega),aD rfl];decide
theorem Good.bounded(G:Good n m S w T)(cov:∀p,p<n->∃k,k<m/\S k p=true){q:Nat}(hq:q<n):∃r,r<m/\0<T.cell r q:=by
 refine Xn fun no=> ?_;have no':∀r,r<m->T.cell r q<=0:=fun r hr=>Int.not_lt.mp fun h=>no ⟨r,hr,h⟩;have hq':q+1<=n:=hq;have nn:∀a,a<n+m->0<=Fn n S T (q+1) (nv n S a):=fun a ha=>by
  rcases G.all a ha with⟨c,hc,e⟩|⟨r,hr,e⟩
  ·rw[<-e,zf G.dt hq' hc];split
   ·exact J1 G.pos
   ·exact rP 0
  ·have:=G.dir (dH hr) hq;rw[fD hr,e]at this;rw[this];have:=no' r hr;omega
 have set:∀k,Fn n S T (q+1) (nv n S (n+k))= -sm n (fun p=>(if S k p=true then 1 else 0)*Fn n S T (q+1) (nv n S p)):=fun k=>by
  rw[J0 fun j hj=>Ds hj,j4 hq' _ _ (fun c=>if S k c=true then 1 else 0) (fun c=>nv n S c),lZ G.dt hq',aA (zu q)];omega
 have low:∀p,p<n->Fn n S T (q+1) (nv n S p)=0:=fun p hp=>by
  obtain⟨k,hk,hs⟩:=cov p hp;have a:=nn (n+k) (by omega);rw[set k]at a;have:=Gw n (f:=fun p=>(if S k p=true then 1 else 0)*Fn n S T (q+1) (nv n S p)) (fun i hi=> ?_) (by omega) p hp
  ·rw[aD hs,zp]at this;exact this
  ·have:=nn i (by omega);split<;>omega
 have z:Fn n S T (q+1) (nv n S (T.col q))=0:=by
  have hc:=G.RK q hq;by_cases h:T.col q<n
  ·exact low _ h
  ·have e:T.col q=n+(T.col q-n):=by omega
   rw[e,set,cO n fun p hp=>by rw[low p hp,wQ]];rfl
 rw[zf G.dt hq' hq,aD rfl]at z;have:=G.pos;omega
theorem Mu(a j:Nat): -1<=nv n S a j/\nv n S a j<=1:=by
 unfold nv;split
 ·split<;>decide
 ·split
  ·decide
  ·split<;>decide
theorem Ig(i j:Nat): -1<=vP n S T i j/\vP n S T i j<=1:=by
 unfold vP;split
 ·unfold one;split<;>decide
 ·exact Mu _ _
theorem Fi(G:Good n m S w T){c:Nat}{v:Vec}{B:Int}(hB:1<=B)(h:∀j,j<=n-> -B<=v j/\v j<=B): -(fct (n+1)*B)<=Fn n S T c v/\Fn n S T c v<=fct (n+1)*B:=by
 have d:=yu (n+1) (put (vP n S T) c v) c B hB (fun i _ j _ hn=>by rw[iT _ _ hn];exact Ig i j) (fun j hj _=>by rw[put_same];exact h j (by omega));unfold Fn;rcases G.sg with s|s
 ·rw[s,zp];exact d
 ·rw[s];omega
theorem Good.Qv(G:Good n m S w T):T.over<=fct (n+1):=by
 have d:=Fi G (c:=0) (v:=vP n S T 0) (B:=1) (by decide) fun j _=>Ig 0 j;rw[Pa G.dt (dY n) (dY n),aD rfl]at d;omega
theorem Good.Ou(G:Good n m S w T)(hw:∀p,p<n->0<=w p/\w p<=99){r c:Nat}(hr:r<=m)(hc:c<=n): -(fct (n+1)*99)<=T.cell r c/\T.cell r c<=fct (n+1)*99:=by
 have hv:∀j,j<=n-> -99<=rv n m S w T r j/\rv n m S w T r j<=99:=fun j hj=>by
  unfold rv;split
  ·have:=Mu (n:=n) (S:=S) (T.row r) j;omega
  ·unfold zv;split
   ·decide
   ·have:=hw (j-1) (by omega);omega
 by_cases h:c=n
 ·subst h;have d:=Fi G (c:=0) (B:=99) (by decide) hv;rw[G.base hr]at d;exact d
 ·have d:=Fi G (c:=c+1) (B:=99) (by decide) hv;rw[G.dir hr (by omega)]at d;omega
theorem Og:∀{k:Nat},k<=11->fct k<=39916800
 |0,_|1,_|2,_|3,_|4,_|5,_|6,_|7,_|8,_|9,_|10,_|11,_=>by decide
noncomputable def Ys(n m:Nat)(T:Tab)(a:Nat):Int:=sm n fun c=>if T.col c=a then T.cell m c else 0
noncomputable def Xs(n m:Nat)(T:Tab)(a:Nat):Int:=sm m fun r=>if T.row r=a then T.cell r n else 0
theorem Good.X5(G:Good n m S w T){c:Nat}(hc:c<n):Ys n m T (T.col c)=T.cell m c:=by
 unfold Ys;rw[cR (j:=c) n hc fun i hi hn=>aA fun e=>hn (G.Eh i c hi hc e),aD rfl]
theorem X4{a:Nat}(h:∀c,c<n->T.col c≠a):Ys n m T a=0:=cO n fun c hc=>aA (h c hc)
theorem Good.Sq(G:Good n m S w T){r:Nat}(hr:r<m):Xs n m T (T.row r)=T.cell r n:=by
 unfold Xs;rw[cR (j:=r) m hr fun i hi hn=>aA fun e=>hn (G.Ln i r hi hr e),aD rfl]
theorem R9{a:Nat}(h:∀r,r<m->T.row r≠a):Xs n m T a=0:=cO m fun r hr=>aA (h r hr)
theorem Good.J4(G:Good n m S w T){a:Nat}(ha:a<n+m):Fn n S T 0 (nv n S a)=Xs n m T a:=by
 rcases G.all a ha with⟨c,hc,e⟩|⟨r,hr,e⟩
 ·rw[<-e,zf G.dt (dY n) hc,aA (zu c),R9 fun r hr z=>G.dis c r hc hr z.symm]
 ·rw[<-e,G.Sq hr];have:=G.base (dH hr);rw[fD hr]at this;exact this
theorem Good.Sg(G:Good n m S w T)(a:Nat):0<=Xs n m T a:=uf m fun r hr=>by
 have:=G.XC r hr;split
 ·exact this
 ·exact rP 0
theorem RT(h:∀c,c<n->0<=T.cell m c)(a:Nat):0<=Ys n m T a:=uf n fun c hc=>by
 have:=h c hc;split
 ·exact this
 ·exact rP 0
theorem zL(f:Nat->Int)(a:Nat):∀b,sm (a+b) f=sm a f+sm b fun k=>f (a+k)
 |0=>by show sm a f=sm a f+0;omega
 |b+1=>by
  show sm (a+b) f+f (a+b)=_;rw[zL f a b];show _=sm a f+(sm b (fun k=>f (a+k))+f (a+b));omega
theorem Good.YJ(G:Good n m S w T)(g:Nat->Int):sm n (fun c=>T.cell m c*g (T.col c))=sm n (fun a=>Ys n m T a*g a)+sm m (fun k=>Ys n m T (n+k)*g (n+k)):=by
 rw[<-zL (fun a=>Ys n m T a*g a)];have e:∀a,Ys n m T a*g a=sm n fun c=>(if T.col c=a then T.cell m c else 0)*g a:=fun a=>by
  unfold Ys;rw[zq,<-cT];exact aW n fun c _=>zq _ _
 rw[aW (n+m) fun a _=>e a,xH (fun a c=>(if T.col c=a then T.cell m c else 0)*g a)];refine aW n fun c hc=> ?_;rw[cR (j:=T.col c) (n+m) (G.RK c hc) fun a _ hn=>by rw[aA (lA hn),Fx],aD rfl]
theorem Good.total(G:Good n m S w T):sm m (fun k=>Ys n m T (n+k))=T.cell m n:=by
 have e:=G.eq m (aY m) 0 (dY n);rw[gY,G.YJ (fun a=>nv n S a 0),cO n fun a ha=>by rw[oA ha,aA (by omega),wQ]]at e;have z:zv w 0=0:=rfl;have o:one 0=1:=rfl;rw[z,o,aW m fun k _=>show Ys n m T (n+k)*nv n S (n+k) 0=Ys n m T (n+k) by rw[xY,aD rfl,Yk]]at e;omega
theorem Good.enough(G:Good n m S w T){p:Nat}(hp:p<n):sm m (fun k=>if S k p=true then Ys n m T (n+k)else 0)=T.over*w p+Ys n m T p:=by
 have e:=G.eq m (aY m) (p+1) hp;rw[gY,G.YJ (fun a=>nv n S a (p+1)),cR (j:=p) n hp fun a ha hn=>by rw[oA ha,aA (by omega),wQ],oA hp,aD rfl]at e;have z:zv w (p+1)=w p:=by unfold zv;rw[aA (zu p)];rfl
 have o:one (p+1)=0:=aA (zu p);rw[z,o,aW m fun k _=>show Ys n m T (n+k)*nv n S (n+k) (p+1)= -1*(if S k p=true then Ys n m T (n+k)else 0) by
  rw[xY,aA (zu p),Nat.add_sub_cancel];split<;>omega,cT]at e
 omega
theorem Good.light(G:Good n m S w T){k:Nat}(hk:k<m):sm n (fun p=>if S k p=true then Xs n m T p else 0)<=T.over:=by
 have h:Fn n S T 0 (nv n S (n+k))=1*Fn n S T 0 one-sm n (fun p=>(if S k p=true then 1 else 0)*Fn n S T 0 (nv n S p)):=by
  rw[J0 fun j hj=>Ds hj,j4 (dY n) _ _ (fun c=>if S k c=true then 1 else 0) (fun c=>nv n S c)]
 rw[lZ G.dt (dY n),aD rfl,G.J4 (by omega),aW n fun p hp=>show(if S k p=true then(1:Int)else 0)*Fn n S T 0 (nv n S p)=if S k p=true then Xs n m T p else 0 by
  rw[G.J4 (by omega)];split<;>omega]at h
 have:=G.Sg (n+k);omega
theorem Good.prices(G:Good n m S w T):sm n (fun p=>w p*Xs n m T p)=T.cell m n:=by
 have h:=G.base (aY m);rw[gY,J0 fun j hj=>JZ (n:=n) (S:=S) hj,j4 (dY n) _ _ (fun c=> -(w c)) (fun c=>nv n S c),aW n fun p hp=>show -(w p)*Fn n S T 0 (nv n S p)= -1*(w p*Xs n m T p) by rw[G.J4 (by omega)];grind,cT]at h;omega
end
end Sx
namespace HT
open PySem PyProof.Rows
noncomputable def jg:List Int->List Int->Bool
 |_,[]=>true
 |[],_::_=>false
 |x::xs,y::ys=>if x=y then jg xs ys else decide (y<=x)
theorem Dz(x y:Int)(xs ys:List Int):jg (x::xs) (y::ys)=if x=y then jg xs ys else decide (y<=x):=rfl
theorem Lq(A:Around)(s:η)(a:Int)(t:Tok)(c:Int)(u:Tok)(prog:ξ)(w:τ)(E:L3)(Q:L3)(h:Q (.bool (decide (c<=a))) s):
  wpAny (model prog w) A (richCompare .GtE (.int a t) (.int c u)) Q E s:=
 (PyProof.Rows.ge_int h:wpAny (model prog w) A (compareOp .GtE (.int a t) (.int c u)) Q E s)
section
open PySem.SeqAt
open PySem.AutoSeq1 (wpAny_loadPart')
open PySem.MeetsSeq PySem.MeetsSeq2 PySem.MeetsSeq3
theorem vI(l b:Addr)(items items2:Array ζ)(n n2:Nat)(dd dd2:Option Addr)(sl sl2:Array (Option ζ))(ns ms:List Int)(hi:IntsAre items.toList ns)(hj:IntsAre items2.toList ms):
  Meets (Builtin.«tuple.__ge__» ⟨[.ref l,.ref b],[]⟩)
   (fun _ R s=>s.heap.get? l=some {cls:= .type "tuple",dict:=dd,data:= .seq items n,slots:=sl}/\s.heap.get? b=some {cls:= .type "tuple",dict:=dd2,data:= .seq items2 n2,slots:=sl2}/\
    R (.ok (.ret (.bool (jg ns ms)))) s):=
 .of_wp fun prog w A R s h=>by
  obtain⟨hp,g,d,tk,os⟩:=s;obtain⟨hl,hb,h⟩:=h;have f2:=AutoSeq1.sub_tuple_tuple;have z1:items.size=ns.length:=by rw[<-hi.length];simp
  have z2:items2.size=ms.length:=by rw[<-hj.length];simp
  wp_walk using wpAny_loadPart' hl,wpAny_loadPart' hb,wpAny_forIn_list _ (fun rest b s'=>b.1=none/\s'=⟨hp,g,d,tk,os⟩/\∃(vs ws:List ζ) (ns' ms':List Int),rest=vs.zip ws/\
   IntsAre vs ns'/\IntsAre ws ms'/\ns'.length+items2.size=ms'.length+items.size/\R (.ok (.ret (.bool (jg ns' ms')))) ⟨hp,g,d,tk,os⟩) _
  case turn=>
   rintro⟨y,x⟩ rest b s' ⟨hb',rfl,vs,ws,ns',ms',hz,hvi,hwi,hlen,hR⟩;cases hvi with
   |nil=>rw[wdj]at hz;cases hz
   |cons a t hvi'=>
    cases hwi with
    |nil=>rw[wdb]at hz;cases hz
    |cons c u hwi'=>
     rw[X8]at hz;injection hz with hyx hrest
     injection hyx with hy hx
     subst hy hx;rw[Dz]at hR;simp only[yV]at hlen;obtain⟨e,he,hiff⟩:=eqAt_int A.in1 ⟨hp,g,d,tk,os⟩ a t c u;refine bW (he prog w _ _ ?_);cases e with
     |true=>
      rw[aD (hiff.mp rfl)]at hR
      wp_walk
      exact⟨rfl,rfl,_,_,_,_,hrest,hvi',hwi',by omega,hR⟩
     |false=>
      rw[aA (fun q=>absurd (hiff.mpr q) vD)]at hR;have hri:=Lq A.in1 ⟨hp,g,d,tk,os⟩ a t c u prog w
      wp_walk using hri
      exact⟨_,rfl,by simpa using hR⟩
  case fin=>
   rintro⟨b1,b2⟩ s' ⟨hb',rfl,vs,ws,ns',ms',hz,hvi,hwi,hlen,hR⟩;simp only at hb';subst hb';have hv:jg ns' ms'=decide (items2.size<=items.size):=by
    cases hvi with
    |nil=>
     cases hwi with
     |nil=>
      simp only[Pn]at hlen;show true=_;exact(cW (by omega)).symm
     |cons c u hw=>
      simp only[Pn,yV]at hlen;show false=_;exact(fW (by omega)).symm
    |cons a t hv=>
     cases hwi with
     |nil=>
      simp only[Pn,yV]at hlen;show true=_;exact(cW (by omega)).symm
     |cons c u hw=>
      rw[X8]at hz;cases hz
   rw[hv]at hR
   wp_walk
   exact⟨_,rfl,by simpa[Builtin.Tuple.tupleCompareSizes]using hR⟩
  case h=>
   exact⟨rfl,rfl,items.toList,items2.toList,ns,ms,rfl,hi,hj,by omega,h⟩
end
section
variable{prog:ξ}{w:τ}{A:Around}{E:L3}{s:η}
theorem DR{l b:Addr}{items items2:Array ζ}{ns ms:List Int}{Q:L3}(hl:IsTup s.heap l items)(hb:IsTup s.heap b items2)(hi:IntsAre items.toList ns)(hj:IntsAre items2.toList ms)(hu:A.units<cLine)(h:Q (.bool (jg ns ms)) s):wpAny (model prog w) A (compareOp .GtE (.ref l) (.ref b)) Q E s:=by
 obtain⟨⟨cls,dd,data,sl⟩,ho,hc,n,hd⟩:=id hl;obtain⟨⟨cls2,dd2,data2,sl2⟩,ho2,hc2,n2,hd2⟩:=id hb;simp only at hc hd hc2 hd2;subst hc hd hc2 hd2;exact richCompare_meets_room (op:= .GtE) ⟨_,ho,rfl⟩ ⟨_,ho2,rfl⟩ PySem.F.slot_tuple_ge PySem.F.entry_tuple_ge (PySem.F.args_tuple_ge_2 _ _) (vI l b items items2 n n2 dd dd2 sl sl2 ns ms hi hj)
  ⟨ho,ho2,show Value.bool (jg ns ms)≠Value.notImplemented/\Q (.bool (jg ns ms)) s from⟨(fun x=>nomatch x),h⟩⟩ hu
end
end HT
namespace L2
open PySem PySem.Spec PyProof.Rows
section
variable{X:Cx}
noncomputable def aaI(K:W.Frag):R2:=fun x y H Q=>∃a b ns ms,x= .ref a/\y= .ref b/\SqT K H a (ns.map V.int)/\SqT K H b (ms.map V.int)/\Q (.bl (HT.jg ns ms)) H
theorem U9(hu:X.A.units<cLine):OpR X (compareOp .GtE) (aaI X.K):=by
 intro pins s σ H x y v u Q I rx ry h;obtain⟨a,b,ns,ms,rfl,rfl,ha,hb,q⟩:=h;cases rx;cases ry;obtain⟨its,r1,p1,_⟩:=I.tuple ha;obtain⟨its2,r2,p2,_⟩:=I.tuple hb;have i1:IntsAre its.toArray.toList ns:=TV r1;have i2:IntsAre its2.toArray.toList ms:=TV r2;exact HT.DR p1 p2 i1 i2 hu ⟨.bl (HT.jg ns ms),H,I,rfl,q⟩
end
end L2
namespace Hs
open PySem L2 oV
noncomputable def top(i:Nat):Stmt:=PySem.Challenge.pw_hueshare_k52_two_sharings_by_turns.main.body.getD i (.Pass ⟨0,0,0,0⟩)
noncomputable abbrev eE:Stmt:=top 9
noncomputable abbrev jO:Stmt:=top 10
noncomputable abbrev jQ:Stmt:=top 11
noncomputable abbrev WY:Stmt:=top 12
noncomputable abbrev lG:Stmt:=top 13
noncomputable abbrev nZ:Stmt:=top 14
noncomputable abbrev um:Stmt:=top 15
noncomputable abbrev TX:Stmt:=top 16
noncomputable abbrev jH:Stmt:=top 17
noncomputable abbrev jG:Stmt:=top 18
noncomputable abbrev nT:Stmt:=top 19
noncomputable abbrev xJ:Stmt:=top 20
noncomputable abbrev fO:Stmt:=top 21
noncomputable abbrev zbs:Stmt:=top 24
noncomputable abbrev iZ:Stmt:=top 25
noncomputable abbrev mQ:Stmt:=top 26
noncomputable abbrev iJ:Stmt:=top 27
noncomputable abbrev pI:Stmt:=top 28
noncomputable abbrev jJ:Stmt:=top 30
noncomputable abbrev nY:Stmt:=top 31
noncomputable abbrev eZ:Stmt:=top 33
noncomputable abbrev eY:Stmt:=top 34
noncomputable abbrev qJ:Stmt:=top 35
noncomputable abbrev lK:Stmt:=top 36
noncomputable abbrev jP:Stmt:=top 37
noncomputable abbrev gk:Stmt:=inClass (top 40) 0
noncomputable abbrev zbx:Stmt:=inClass (top 40) 1
noncomputable abbrev zca:Stmt:=inClass (top 40) 2
noncomputable abbrev zcu:Stmt:=inClass (top 40) 3
noncomputable abbrev zdk:Stmt:=inClass (top 40) 4
noncomputable abbrev gj:Stmt:=inClass (top 40) 5
noncomputable abbrev fj:Stmt:=inClass (top 40) 6
noncomputable abbrev X3:Stmt:=inClass (top 40) 7
noncomputable abbrev zct:Stmt:=inClass (top 40) 8
noncomputable abbrev zcs:Stmt:=inClass (top 40) 9
noncomputable abbrev fK:Stmt:=top 41
noncomputable abbrev pJ:Stmt:=top 42
noncomputable abbrev nW:Stmt:=top 43
noncomputable abbrev lH:Stmt:=top 44
noncomputable abbrev Df:Stmt:=top 45
noncomputable abbrev lJ:Stmt:=top 46
noncomputable abbrev jF:Stmt:=top 48
noncomputable abbrev iK:Stmt:=top 49
noncomputable abbrev XS:Stmt:=top 50
noncomputable abbrev iM:Stmt:=top 51
noncomputable abbrev pL:Stmt:=top 52
noncomputable abbrev gn:Stmt:=inClass (top 53) 0
noncomputable abbrev zdd:Stmt:=inClass (top 53) 1
noncomputable abbrev W8:Stmt:=inClass (top 53) 2
noncomputable abbrev zbt:Stmt:=inClass (top 53) 3
noncomputable abbrev iR:Stmt:=inClass (top 53) 4
noncomputable abbrev iQ:Stmt:=inClass (top 53) 5
noncomputable abbrev fu:Stmt:=inClass (top 53) 6
noncomputable abbrev gq:Stmt:=inClass (top 53) 7
noncomputable abbrev eG:Stmt:=inClass (top 53) 8
noncomputable abbrev zcv:Stmt:=inClass (top 53) 9
noncomputable abbrev zcf:Stmt:=inClass (top 53) 10
noncomputable abbrev zce:Stmt:=inClass (top 53) 11
noncomputable abbrev fB:Stmt:=inClass (top 53) 12
noncomputable abbrev jL:Stmt:=top 55
noncomputable abbrev W6:Stmt:=top 56
noncomputable abbrev fY:Stmt:=top 57
noncomputable abbrev lF:Stmt:=top 58
noncomputable abbrev jK:Stmt:=top 59
noncomputable abbrev zbr:Stmt:=top 60
noncomputable abbrev W7:Stmt:=top 61
noncomputable abbrev jN:Stmt:=top 62
noncomputable abbrev XQ:Stmt:=top 63
noncomputable abbrev gW:Stmt:=top 64
noncomputable abbrev zcy:Stmt:=top 65
noncomputable abbrev zcz:Stmt:=top 66
noncomputable abbrev zcr:Stmt:=top 67
noncomputable abbrev iI:Stmt:=top 68
noncomputable abbrev jM:Stmt:=top 69
noncomputable abbrev nU:Stmt:=top 70
noncomputable abbrev fZ:Stmt:=top 71
noncomputable abbrev rG:Stmt:=top 72
end Hs
namespace Hs
open PySem L2
theorem bf{X:Cx}{b:List Stmt}{R:TS->Prop}(h:let Y:=X;∃t,PSs Y b t/\R t):∃t,PSs X b t/\R t:=h
theorem lQ{t1 t2:TS}{D:Ends}{σ:St}{H:Hp}(h:let c2:=t2;tSeq t1 c2 D σ H):(tSeq t1 t2) D σ H:=h
theorem iw{t1 t2 t3:TS}{D:Ends}{σ:St}{H:Hp}(h:let c3:=t3;let c2:=tSeq t2 c3;tSeq t1 c2 D σ H):(tSeq t1 (tSeq t2 t3)) D σ H:=h
theorem wH{t1 t2 t3 t4:TS}{D:Ends}{σ:St}{H:Hp}(h:let c4:=t4;let c3:=tSeq t3 c4;let c2:=tSeq t2 c3;tSeq t1 c2 D σ H):(tSeq t1 (tSeq t2 (tSeq t3 t4))) D σ H:=h
theorem Nh{t1 t2 t3 t4 t5:TS}{D:Ends}{σ:St}{H:Hp}(h:let c5:=t5;let c4:=tSeq t4 c5;let c3:=tSeq t3 c4;let c2:=tSeq t2 c3;tSeq t1 c2 D σ H):(tSeq t1 (tSeq t2 (tSeq t3 (tSeq t4 t5)))) D σ H:=h
theorem Ng{t1 t2 t3 t4 t5 t6:TS}{D:Ends}{σ:St}{H:Hp}(h:let c6:=t6;let c5:=tSeq t5 c6;let c4:=tSeq t4 c5;let c3:=tSeq t3 c4;let c2:=tSeq t2 c3;tSeq t1 c2 D σ H):(tSeq t1 (tSeq t2 (tSeq t3 (tSeq t4 (tSeq t5 t6))))) D σ H:=h
theorem Zm{t1 t2 t3 t4 t5 t6 t7 t8:TS}{D:Ends}{σ:St}{H:Hp}(h:let c8:=t8;let c7:=tSeq t7 c8;let c6:=tSeq t6 c7;let c5:=tSeq t5 c6;let c4:=tSeq t4 c5;let c3:=tSeq t3 c4;let c2:=tSeq t2 c3;tSeq t1 c2 D σ H):(tSeq t1 (tSeq t2 (tSeq t3 (tSeq t4 (tSeq t5 (tSeq t6 (tSeq t7 t8))))))) D σ H:=h
theorem Tr{t1 t2 t3 t4 t5 t6 t7 t8 t9:TS}{D:Ends}{σ:St}{H:Hp}(h:let c9:=t9;let c8:=tSeq t8 c9;let c7:=tSeq t7 c8;let c6:=tSeq t6 c7;let c5:=tSeq t5 c6;let c4:=tSeq t4 c5;let c3:=tSeq t3 c4;let c2:=tSeq t2 c3;tSeq t1 c2 D σ H):(tSeq t1 (tSeq t2 (tSeq t3 (tSeq t4 (tSeq t5 (tSeq t6 (tSeq t7 (tSeq t8 t9)))))))) D σ H:=h
theorem Wa{t1 t2 t3 t4 t5 t6 t7 t8 t9 t10:TS}{D:Ends}{σ:St}{H:Hp}(h:let c10:=t10;let c9:=tSeq t9 c10;let c8:=tSeq t8 c9;let c7:=tSeq t7 c8;let c6:=tSeq t6 c7;let c5:=tSeq t5 c6;let c4:=tSeq t4 c5;let c3:=tSeq t3 c4;let c2:=tSeq t2 c3;tSeq t1 c2 D σ H):(tSeq t1 (tSeq t2 (tSeq t3 (tSeq t4 (tSeq t5 (tSeq t6 (tSeq t7 (tSeq t8 (tSeq t9 t10))))))))) D σ H:=h
end Hs
namespace Hs
open PySem L2 oV
section
variable{P:ξ}{w:τ}{K:W.Frag}{mg:L4}{base:Heap}
noncomputable def pC(K:W.Frag):Sp:=fun vs H Q _=>∃x d,vs=[x]/\DX K H x d/\Q (.bl (fV d)) H
theorem LK{f:Addr}{fd:ρ}(F:Fun K "is_whole" "is_whole" eE f fd)(mi:mg "isinstance"=none)(mI:mg "int"=none)(mB:mg "bool"=none):FnOk P w K mg base CX0 1 f fd ["thing"] (pC K):=by
 refine F.cH ["thing"] fun cdv A outer s H vs Q E hr h=> ?_;obtain⟨x,d,rfl,hx,q⟩:=h;refine⟨_,aV (bK (pe_and (pB Cd mi (aj (pv 0) (aj (pN "int" mI) ak)))
  (pe_one (pe_not (pB Cd mi (aj (pv 0) (aj (pN "bool" mB) ak))))))),?_⟩
 refine⟨_,rfl,x,_,_,rfl,hx.kind,.inl rfl,_,rfl,?_⟩;refine ite2 (fun c=> ?_) (fun c=> ?_)
 ·refine⟨_,rfl,x,_,_,rfl,hx.kind,.inr (.inl rfl),_,rfl,?_⟩;cases d<;>first |exact q|(simp[p8,lO]at c;done)
 ·cases d<;>first |exact q|(exfalso;exact c rfl)
noncomputable def xq(K:W.Frag):Sp:=fun vs H Q _=>∃(n:Int) (x:V) (d:θ),vs=[.int n,x]/\DX K H x d/\Q (.bl (bO n d)) H
theorem Mh{f g:Addr}{fd gd:ρ}(F:Fun K "is_place" "is_place" jO f fd)(D:bL K mg "is_whole" eE ["thing"] g gd)(G:FnOk P w K mg base CX0 1 g gd ["thing"] (pC K)):FnOk P w K mg base CX0 2 f fd ["n","thing"] (xq K):=by
 refine F.cH ["n","thing"] fun cdv A outer s H vs Q E hr h=> ?_;obtain⟨n,x,d,rfl,hx,q⟩:=h;refine⟨_,aV (bK (pe_and (pe_call G hr rfl D.m D.F.kp D.b .nil pass0 (aj (pv 1) ak)) (pe_one (pe_chain op_le op_lt aB (pv 1) (pv 0))))),?_⟩;refine⟨_,rfl,x,d,rfl,hx,_,rfl,?_⟩;refine ite2 (fun c=> ?_) (fun c=> ?_)
 ·cases hx with
  |int i=>
   refine⟨_,rfl,_,_,rfl,rfl,_,rfl,?_⟩;refine ite2 (fun c2=> ?_) (fun c2=> ?_)
   ·refine⟨_,rfl,_,_,rfl,rfl,?_⟩;have e:bO n (.int i)=decide (i<n):=by show(decide (0<=i)&&decide (i<n))=_;rw[c2];rfl
    rw[e]at q;exact q
   ·have e:bO n (.int i)=false:=by show(decide (0<=i)&&decide (i<n))=_;rw[Bool.eq_false_iff.mpr c2];rfl
    rw[e]at q;exact q
  |_=>simp[fV]at c
 ·have e:bO n d=false:=by
   cases d<;>first |rfl|(exfalso;exact c rfl)
  rw[e]at q;exact q
noncomputable def zF(K:W.Frag):Sp:=fun vs H Q _=>∃(n:Int) (a:Addr) (xs:List V) (ds:List θ),vs=[.int n,.ref a]/\SqT K H a xs/\oW K H xs ds/\∀H',Same H H'->Q (.bl (ds.all (bO n))) H'
theorem jo{α:Type}(ds:List α)(p:α->Bool):(ds.map p).all id=ds.all p:=by rw[yes];rfl
theorem Jk{f g:Addr}{fd gd:ρ}(F:Fun K "are_places" "are_places" jQ f fd)(D:bL K mg "is_place" jO ["n","thing"] g gd)(G:FnOk P w K mg base CX0 2 g gd ["n","thing"] (xq K))(mA:mg "all"=none):FnOk P w K mg base CX0 3 f fd ["n","things"] (zF K):=by
 refine F.cH ["n","things"] fun cdv A outer s H vs Q E hr h=> ?_;obtain⟨n,a,xs,ds,rfl,hS,hd,q⟩:=h;refine⟨_,aV (bK (pB (eX rfl) mA (aj (pK ["thing"] ["n"] [0] (Cj (pv 1)) (pG 0) oR (pe_call G hr rfl D.m D.F.kp D.b .nil pass0 (aj (pv 1) (aj (pv 0) ak)))) ak))),?_⟩;refine⟨_,rfl,a,xs,rfl,hS,fun hz=> ?_⟩;have hl:=hd.len;let gR:Nat->List V->St->Hp->Prop:=fun i acc σ H'=>acc=((ds.take i).map (bO n)).map V.bl/\Same H H'/\∃o,σ=[o,some (.int n)];refine Cm (xs:=xs) gR ⟨rfl,Same.refl _,_,rfl⟩ (fun i acc σ H' _ p=>p.2.1.tup hS) (fun i acc σ H' hi p=> ?_) hz (fun i x acc σ H' hx p=> ?_) (fun acc σ H' p=> ?_)
 ·rw[p.1];simp;omega
 ·obtain⟨rfl,sm,o,rfl⟩:=p;obtain⟨d,e1,e2⟩:=hd.get hx;refine⟨_,rfl,_,rfl,n,x,d,rfl,DX.same sm e2,?_,sm,_,rfl⟩;rw[vm,e1];simp
 ·intro p1 hp1;obtain⟨rfl,sm,_⟩:=p;refine⟨p1,(ds.map (bO n)),rfl,SqL.of (by rw[aF,hl,rQ]),?_⟩;rw[jo];exact q _ (sm.trans (aO hp1 _))
noncomputable def WQ(K:W.Frag)(H:Hp)(x y:V)(b:Bool):Prop:=(∃i j,x= .int i/\y= .int j/\b=decide (i<j))\/(∃p q ns ms,x= .ref p/\y= .ref q/\SqT K H p (ns.map V.int)/\SqT K H q (ms.map V.int)/\b=HT.lexLt ns ms)
noncomputable def tY(K:W.Frag):Sp:=fun vs H Q _=>∃(a:Addr) (xs:List V) (bs:Nat->Bool),vs=[.ref a]/\SqT K H a xs/\(∀k,k+1<xs.length->∃x y,xs[k]? =some x/\xs[k+1]? =some y/\WQ K H x y (bs k))/\
 ∀H',Same H H'->Q (.bl ((List.range (xs.length-1)).all bs)) H'
theorem Jj{f:Addr}{fd:ρ}(F:Fun K "is_rising" "is_rising" WY f fd)(mA:mg "all"=none)(mR:mg "range"=none)(mL:mg "len"=none):FnOk P w K mg base CX0 1 f fd ["things"] (tY K):=by
 refine F.cH ["things"] fun cdv A outer s H vs Q E hr h=> ?_;obtain⟨a,xs,bs,rfl,hS,hb,q⟩:=h;refine⟨_,aV (bK (pB (eX rfl) mA (aj (pK ["k"] ["things"] [0] (pi_range2 rfl mR (aj aB (aj (pB vq mL (aj (pv 0) ak)) ak))) (pG 0) oR (Ca (op_lt.or (GQ K hr.units0)) (aR (Cg K) (pv 1) (bC op_sub (pv 0) aB)) (aR (Cg K) (pv 1) (pv 0)))) ak))),?_⟩;refine⟨_,rfl,a,xs,rfl,.inr hS,fun hz=>⟨1,_,rfl,⟨by omega,by omega,by omega,by omega⟩,?_⟩⟩;have en:((xs.length:Int)-1).toNat=xs.length-1:=by omega
 rw[en];let gR:Nat->List V->St->Hp->Prop:=fun i acc σ H'=>acc=((List.range i).map bs).map V.bl/\Same H H'/\∃o,σ=[o,some (.ref a)];refine RQ gR ⟨rfl,Same.refl _,_,rfl⟩ (fun i acc σ H' hi p=>by rw[p.1];simp) (by rw[gU];omega) (fun i acc σ H' hi p=> ?_) (fun acc σ H' p=> ?_)
 ·obtain⟨rfl,sm,o,rfl⟩:=p;obtain⟨x,y,hx,hy,hxy⟩:=hb i (by omega);have e1:(1+(i:Int))-1=((i:Nat):Int):=by omega
  have e2:(1+(i:Int))=((i+1:Nat):Int):=by omega
  have a1:atI xs (1+(i:Int)-1)=some x:=by rw[e1];exact atI_nat hx
  have a2:atI xs (1+(i:Int))=some y:=by rw[e2];exact atI_nat hy
  refine⟨_,rfl,_,rfl,_,_,rfl,rfl,a,xs,_,x,rfl,rfl,sm.tup hS,a1,_,rfl,_,rfl,a,xs,_,y,rfl,rfl,sm.tup hS,a2,?_⟩;have ea:((List.range i).map bs).map V.bl++[V.bl (bs i)]=((List.range (i+1)).map bs).map V.bl:=by rw[yU];simp
  rcases hxy with⟨u,v,rfl,rfl,e⟩|⟨p,p',ns,ms,rfl,rfl,h1,h2,e⟩
  ·refine .inl ⟨u,v,rfl,rfl,?_,sm,_,rfl⟩;show _++[V.bl (decide (u<v))]=_;rw[<-e];exact ea
  ·refine .inr ⟨p,p',ns,ms,rfl,rfl,sm.tup h1,sm.tup h2,?_,sm,_,rfl⟩;show _++[V.bl (HT.lexLt ns ms)]=_;rw[<-e];exact ea
 ·intro p1 hp1;obtain⟨rfl,sm,_⟩:=p;refine⟨p1,(List.range (xs.length-1)).map bs,rfl,SqL.of aF,?_⟩;rw[jo];exact q _ (sm.trans (aO hp1 _))
theorem ints_of{H:Hp}{n:Int}{xs:List V}{ds:List θ}(h:oW K H xs ds)(hp:ds.all (bO n)=true):xs=(ds.map intD).map V.int:=by
 induction ds generalizing xs with
 |nil=>cases h;rfl
 |cons d ds ih=>
  rw[wfa,kj]at hp;cases h with
  |cons h t=>
   obtain⟨i,rfl,_⟩:=uz hp.1;cases h;rw[yS,yS,<-ih t hp.2];rfl
theorem Jb{H:Hp}(ns:List Int):∀k,k+1<(ns.map V.int).length->∃x y,(ns.map V.int)[k]? =some x/\(ns.map V.int)[k+1]? =some y/\WQ K H x y (decide (ns.getD k 0<ns.getD (k+1) 0)):=fun k hk=>by
 rw[aL]at hk;have h1:k<ns.length:=by omega
 refine⟨.int (ns.getD k 0),.int (ns.getD (k+1) 0),by simp[h1],by simp[hk],.inl ⟨_,_,rfl,rfl,rfl⟩⟩
noncomputable def Gi(K:W.Frag):Sp:=fun vs H Q _=>∃(n:Int) (x:V) (d:θ),vs=[.int n,x]/\DX K H x d/\∀H',Same H H'->Q (.bl (gQ n d)) H'
theorem Vk{f f1 f2:Addr}{fd d1 d2:ρ}(F:Fun K "is_set" "is_set" lG f fd)(D1:bL K mg "are_places" jQ ["n","things"] f1 d1)(G1:FnOk P w K mg base CX0 3 f1 d1 ["n","things"] (zF K))(D2:bL K mg "is_rising" WY ["things"] f2 d2)(G2:FnOk P w K mg base CX0 1 f2 d2 ["things"] (tY K))(mi:mg "isinstance"=none)(mT:mg "tuple"=none):FnOk P w K mg base CX0 4 f fd ["n","thing"] (Gi K):=by
 refine F.cH ["n","thing"] fun cdv A outer s H vs Q E hr h=> ?_;obtain⟨n,x,d,rfl,hx,q⟩:=h;refine⟨_,aV (bK (pe_and (pB Cd mi (aj (pv 1) (aj (pN "tuple" mT) ak)))
  (pe_and (pc G1 hr D1 (aj (pv 0) (aj (pv 1) ak))) (pe_one (pc G2 hr D2 (aj (pv 1) ak)))))),?_⟩
 refine⟨_,rfl,x,_,_,rfl,hx.kind,.inr (.inr (.inl rfl)),_,rfl,?_⟩;refine ite2 (fun c=> ?_) (fun c=> ?_)
 ·cases hx with
  | @tup a xs ds h t=>
   refine⟨_,rfl,_,rfl,n,a,xs,ds,rfl,h,t,fun H1 sm=>⟨_,rfl,?_⟩⟩;refine ite2 (fun c2=> ?_) (fun c2=> ?_)
   ·have ex:=ints_of t c2;refine⟨_,rfl,a,xs,fun k=>decide ((ds.map intD).getD k 0<(ds.map intD).getD (k+1) 0),rfl,sm.tup h,?_,fun H2 sm2=> ?_⟩
    ·rw[ex];exact Jb _
    ·have e:gQ n (.tuple ds)=(List.range (xs.length-1)).all fun k=>decide ((ds.map intD).getD k 0<(ds.map intD).getD (k+1) 0):=by
      show(ds.all (bO n)&&dI (ds.map intD))=_;rw[c2,t.len];show dI (ds.map intD)=_;unfold dI;rw[aL]
     have:=q H2 (sm.trans sm2);rw[e]at this;exact this
   ·have e:gQ n (.tuple ds)=false:=by
     show(ds.all (bO n)&&dI (ds.map intD))=_;rw[Bool.eq_false_iff.mpr c2];rfl
    have:=q H1 sm;rw[e]at this;exact this
  |_=>simp[p8,lO]at c
 ·have e:gQ n d=false:=by
   cases d<;>first |rfl|(exfalso;exact c rfl)
  have:=q H (Same.refl _);rw[e]at this;exact this
noncomputable def Km(K:W.Frag):Sp:=fun vs H Q _=>∃(n:Int) (x:V) (d:θ),vs=[.int n,x]/\DX K H x d/\∀H',Same H H'->Q (.bl (pA n d)) H'
theorem Ge{H:Hp}{n:Int}{x:V}{d:θ}(h:DX K H x d)(ht:nQ n d=true):∃p,x= .ref p/\SqT K H p (((kids d).map intD).map V.int):=by
 cases h with
 | @tup a xs ds h t=>
  have q:(ds.all (bO n)&&dI (ds.map intD)&&decide (ds.length=2))=true:=ht;rw[kj,kj]at q;exact⟨a,rfl,by rw[ints_of t q.1.1]at h;exact h⟩
 |_=>simp[nQ,gQ]at ht
theorem Ja{H:Hp}{n:Int}{xs:List V}{ds:List θ}(t:oW K H xs ds)(ha:ds.all (nQ n)=true):∀k,k+1<xs.length->∃x y,xs[k]? =some x/\xs[k+1]? =some y/\
  WQ K H x y (HT.lexLt ((ds.map fun t=>(kids t).map intD).getD k []) ((ds.map fun t=>(kids t).map intD).getD (k+1) [])):=fun k hk=>by
 have hl:=t.len;have h1:k<xs.length:=by omega
 obtain⟨d1,e1,x1⟩:=t.get (i:=k) (x:=xs[k]) (by simp[h1]);obtain⟨d2,e2,x2⟩:=t.get (i:=k+1) (x:=xs[k+1]) (by simp[hk]);have m1:=kh.mp ha d1 (tM e1);have m2:=kh.mp ha d2 (tM e2);obtain⟨p1,q1,s1⟩:=Ge x1 m1;obtain⟨p2,q2,s2⟩:=Ge x2 m2;refine⟨xs[k],xs[k+1],by simp[h1],by simp[hk],.inr ⟨p1,p2,_,_,q1,q2,s1,s2,?_⟩⟩;have g1:(ds.map fun t=>(kids t).map intD).getD k []=(kids d1).map intD:=by rw[lq,dU,e1];rfl
 have g2:(ds.map fun t=>(kids t).map intD).getD (k+1) []=(kids d2).map intD:=by rw[lq,dU,e2];rfl
 rw[g1,g2]
theorem Qy{f f1 f2:Addr}{fd d1 d2:ρ}(F:Fun K "are_ties" "are_ties" nZ f fd)(D1:bL K mg "is_set" lG ["n","thing"] f1 d1)(G1:FnOk P w K mg base CX0 4 f1 d1 ["n","thing"] (Gi K))(D2:bL K mg "is_rising" WY ["things"] f2 d2)(G2:FnOk P w K mg base CX0 1 f2 d2 ["things"] (tY K))(mi:mg "isinstance"=none)(mT:mg "tuple"=none)(mA:mg "all"=none)(mL:mg "len"=none):FnOk P w K mg base CX0 5 f fd ["n","thing"] (Km K):=by
 refine F.cH ["n","thing"] fun cdv A outer s H vs Q E hr h=> ?_;obtain⟨n,x,d,rfl,hx,q⟩:=h;refine bf ?_;intro Y;refine⟨_,aP (fQ (lC (j9 (pB Cd mi (aj (pv 1) (aj (pN "tuple" mT) ak))))) (aV (bK rB)) gO) (aV (bK (pe_and (pB (eX rfl) mA (aj (pK ["tie"] ["n"] [0] (Cj (pv 1)) (pG 0) oR (pe_and (pc G1 hr D1 (aj (pv 1) (aj (pv 0) ak))) (pe_one (Ca op_eq (pB (JD K) mL (aj (pv 0) ak)) aB)))) ak))
  (pe_one (pc G2 hr D2 (aj (pv 1) ak)))))),?_⟩
 refine lQ ?_;intro c2;refine⟨_,rfl,x,_,_,rfl,hx.kind,.inr (.inr (.inl rfl)),_,rfl,?_⟩;refine ite2 (fun c=> ?_) (fun c=> ?_)
 ·have e:pA n d=false:=by
   cases d<;>first |rfl|(exfalso;simp[p8,lO]at c;done)
  have:=q H (Same.refl _);rw[e]at this;exact this
 ·cases hx with
  | @tup a xs ds h t=>
   refine⟨_,rfl,a,xs,rfl,h,fun hz=> ?_⟩;have hl:=t.len;let qj:Nat->List V->St->Hp->Prop:=fun i acc σ H'=>acc=((ds.take i).map (nQ n)).map V.bl/\Same H H'/\∃o,σ=[o,some (.int n)];refine Cm (xs:=xs) qj ⟨rfl,Same.refl _,_,rfl⟩ (fun i acc σ H' _ p=>p.2.1.tup h) (fun i acc σ H' hi p=> ?_) hz (fun i x acc σ H' hx p=> ?_) (fun acc σ H' p=> ?_)
   ·rw[p.1];simp;omega
   ·obtain⟨rfl,sm,o,rfl⟩:=p;obtain⟨d,e1,e2⟩:=t.get hx;refine⟨_,rfl,_,rfl,n,x,d,rfl,DX.same sm e2,fun H1 sm1=>⟨_,rfl,?_⟩⟩;have ea:∀b,b=nQ n d->((ds.take i).map (nQ n)).map V.bl++[V.bl b]=((ds.take (i+1)).map (nQ n)).map V.bl:=fun b hb=>by
     rw[vm,e1,hb];simp
    refine ite2 (fun c2=> ?_) (fun c2=> ?_)
    ·cases e2 with
     | @tup a2 xs2 ds2 h2 t2=>
      refine⟨_,rfl,a2,xs2,rfl,.inr (sm1.tup (sm.tup h2)),fun hz2=>⟨rfl,ea _ ?_,sm.trans sm1,_,rfl⟩⟩;show decide (V.int (xs2.length:Int)=V.int 2)=(gQ n (.tuple ds2)&&decide (ds2.length=2));rw[c2,t2.len];by_cases e3:ds2.length=2
      ·rw[e3];rfl
      ·rw[fW e3,fW (by intro z;injection z with z;exact e3 (by omega))];rfl
     |_=>simp[gQ]at c2
    ·refine⟨ea _ ?_,sm.trans sm1,_,rfl⟩;show false=(gQ n d&&decide ((kids d).length=2));rw[Bool.eq_false_iff.mpr c2];rfl
   ·intro p1 hp1;obtain⟨rfl,sm,_⟩:=p;have sm':Same H (upd H' p1 (.lst (((ds.take xs.length).map (nQ n)).map V.bl))):=sm.trans (aO hp1 _);refine⟨p1,(ds.map (nQ n)),rfl,SqL.of (by rw[aF,hl,rQ]),_,rfl,?_⟩;rw[jo];refine ite2 (fun c2=> ?_) (fun c2=> ?_)
    ·refine⟨_,rfl,a,xs,fun k=>HT.lexLt ((ds.map fun t=>(kids t).map intD).getD k []) ((ds.map fun t=>(kids t).map intD).getD (k+1) []),rfl,sm'.tup h,?_,fun H2 sm2=> ?_⟩
     ·exact Ja (oW.same sm' t) c2
     ·have e:pA n (.tuple ds)=(List.range (xs.length-1)).all fun k=>HT.lexLt ((ds.map fun t=>(kids t).map intD).getD k []) ((ds.map fun t=>(kids t).map intD).getD (k+1) []):=by
       show(ds.all (nQ n)&&dw (ds.map fun t=>(kids t).map intD))=_;rw[c2,hl];show dw (ds.map fun t=>(kids t).map intD)=_;unfold dw;rw[aL]
      have:=q H2 (sm'.trans sm2);rw[e]at this;exact this
    ·have e:pA n (.tuple ds)=false:=by
      show(ds.all (nQ n)&&dw (ds.map fun t=>(kids t).map intD))=_;rw[Bool.eq_false_iff.mpr c2];rfl
     have:=q _ sm';rw[e]at this;exact this
  |_=>exfalso;exact c rfl
end
end Hs
namespace oV
open PySem L2
noncomputable def pairD(p:Int×Int):θ:= .tuple [.int p.1,.int p.2]
noncomputable def jD(n:Int)(ts:L0):θ:= .tuple [.int n,.tuple (ts.map pairD)]
noncomputable def rZ(K:W.Frag)(H:Hp)(a:Addr)(n:Int)(ts:L0):Prop:=∃t rs,SqT K H a [.int n,.ref t]/\SqT K H t rs/\cQ K H rs (ts.map pairD)
theorem rZ.dv{K:W.Frag}{H:Hp}{a:Addr}{n:Int}{ts:L0}(h:rZ K H a n ts):DV K H (.ref a) (jD n ts):=by
 obtain⟨t,rs,h1,h2,h3⟩:=h;exact .tup h1 (.cons (.int n) (.cons (.tup h2 h3) .nil))
theorem rZ.same{K:W.Frag}{H H':Hp}{a:Addr}{n:Int}{ts:L0}(h:rZ K H a n ts)(e:Same H H'):rZ K H' a n ts:=by
 obtain⟨t,rs,h1,h2,h3⟩:=h;exact⟨t,rs,e.tup h1,e.tup h2,cQ.same e h3⟩
noncomputable def bQ(ts:L0)(i j:Int):Bool:=decide ((if j<i then j else i,if j>i then j else i)∈ts)
theorem lV(p q:Int×Int):PyData.eqv (pairD p) (pairD q)=decide (p=q):=by
 obtain⟨a,b⟩:=p;obtain⟨c,d⟩:=q;show((a==c)&&((b==d)&&true))=_;rw[vC];simp
theorem jh:∀ts:L0,PyData.canLayAll0 (ts.map pairD)=true
 |[]=>rfl
 |p::ts=>by
  show(PyData.canLay0 (pairD p)&&PyData.canLayAll0 (ts.map pairD))=true;rw[jh ts];rfl
theorem uV(ts:L0)(q:Int×Int):((ts.map pairD).any fun d=>PyData.eqv d (pairD q))=decide (q∈ts):=by
 rw[List.any_map,vC,List.any_eq_true];constructor
 ·rintro⟨p,hp,h⟩;have h':PyData.eqv (pairD p) (pairD q)=true:=h;rw[lV]at h';have e:p=q:=fJ h';subst e;exact cW hp
 ·intro h;refine⟨q,fJ h,?_⟩;show PyData.eqv (pairD q) (pairD q)=true;rw[lV];exact cW rfl
end oV
namespace Hs
open PySem L2 oV
section
variable{P:ξ}{w:τ}{K:W.Frag}{mg:L4}{base:Heap}
noncomputable def Sw(K:W.Frag):Sp:=fun vs H Q _=>∃(x:V) (d:θ),vs=[x]/\DX K H x d/\∀H',Same H H'->Q (.bl (vB d)) H'
theorem Va{f f1 f2:Addr}{fd d1 d2:ρ}{tk:Tok}(F:Fun K "is_web" "is_web" um f fd)(D1:bL K mg "is_whole" eE ["thing"] f1 d1)(G1:FnOk P w K mg base CX0 1 f1 d1 ["thing"] (pC K))(D2:bL K mg "are_ties" nZ ["n","thing"] f2 d2)(G2:FnOk P w K mg base CX0 5 f2 d2 ["n","thing"] (Km K))(mi:mg "isinstance"=none)(mT:mg "tuple"=none)(mL:mg "len"=none)(mM:mg "MOST_PLACES"=some (.int 10 tk)):FnOk P w K mg base CX0 6 f fd ["thing"] (Sw K):=by
 refine F.cH ["thing","n"] fun cdv A outer s H vs Q E hr h=> ?_;obtain⟨x,d,rfl,hx,q⟩:=h;refine bf ?_;intro Y;refine⟨_,aP (fQ (PW.pt (rC (lC (j9 (pB Cd mi (aj (pv 0) (aj (pN "tuple" mT) ak)))))
   (zj (dR op_ne (pB vq mL (aj (pv 0) ak)) aB)))) (aV (bK rB)) gO) (aP (pS 1 (aR cI (pv 0) aB)) (aV (bK (pe_and (pc G1 hr D1 (aj (pv 1) ak)) (pe_and (pe_chain op_le op_le aB (pv 1) (pe_glob rfl mM (v:= .int 10) ⟨_,rfl⟩))
   (pe_one (pc G2 hr D2 (aj (pv 1) (aj (aR cI (pv 0) aB) ak))))))))),?_⟩
 refine iw ?_;intro c3 c2;refine⟨_,rfl,x,_,_,rfl,hx.kind,.inr (.inr (.inl rfl)),_,rfl,?_⟩;refine ite2 (fun c=> ?_) (fun c=> ?_)
 ·have e:vB d=false:=by
   cases d<;>first |rfl|(exfalso;simp[p8,lO]at c;done)
  have:=q H (Same.refl _);rw[e]at this;exact this
 ·cases hx with
  | @tup a xs ds h t=>
   have hl:=t.len;refine⟨_,rfl,a,xs,rfl,.inr h,fun hz=>⟨rfl,_,rfl,?_⟩⟩;refine ite2 (fun c2=> ?_) (fun c2=> ?_)
   ·have e:vB (.tuple ds)=false:=by
     match ds,hl with
     |[],_=>rfl
     |[_],_=>rfl
     |[_,_],hl=>
      exfalso;have e2:(!decide (V.int (xs.length:Int)=V.int 2))=true:=c2;rw[hl]at e2;simp at e2
     |_::_::_::_,_=>rfl
    have:=q H (Same.refl _);rw[e]at this;exact this
   ·have e2:xs.length=2:=by
     have e2:¬(!decide (V.int (xs.length:Int)=V.int 2))=true:=c2;simp at e2;omega
    cases t with
    |nil=>simp at e2
    |cons h0 t0=>
     cases t0 with
     |nil=>simp at e2
     | @cons x1 XD xs1 ds1 h1 t1=>
      cases t1 with
      |cons _ _=>simp at e2
      |nil=>
       rename_i x0 XF;refine⟨_,rfl,a,_,_,x0,rfl,rfl,h,by rfl,?_⟩;refine⟨_,rfl,x0,XF,rfl,h0,_,rfl,?_⟩;refine ite2 (fun c3=> ?_) (fun c3=> ?_)
       ·cases h0 with
        |int n=>
         refine⟨_,rfl,_,_,rfl,rfl,_,rfl,?_⟩;have fin:∀b,b=vB (.tuple [.int n,XD])->∀H',Same H H'->Q (.bl b) H':=fun b hb H' sm=>by rw[hb];exact q H' sm
         have wd:vB (.tuple [.int n,XD])=((decide (0<=n)&&decide (n<=10))&&pA n XD):=rfl;refine ite2 (fun c4=> ?_) (fun c4=> ?_)
         ·refine⟨_,_,rfl,rfl,_,rfl,?_⟩;refine ite2 (fun c5=> ?_) (fun c5=> ?_)
          ·refine⟨_,rfl,_,rfl,a,_,_,x1,rfl,rfl,h,by rfl,n,x1,XD,rfl,h1,fun H' sm=>fin _ ?_ H' sm⟩;rw[wd,c4,c5];rfl
          ·refine fin _ ?_ H (Same.refl _);rw[wd,Bool.eq_false_iff.mpr c5,Bool.and_false];rfl
         ·refine⟨_,rfl,?_⟩;refine iteF (fin _ ?_ H (Same.refl _));rw[wd,Bool.eq_false_iff.mpr c4];rfl
        |_=>simp[fV]at c3
       ·have e:vB (.tuple [XF,XD])=false:=by
         show(fV XF&&(decide (0<=intD XF)&&decide (intD XF<=10))&&pA (intD XF) XD)=false;rw[Bool.eq_false_iff.mpr c3];rfl
        have:=q H (Same.refl _);rw[e]at this;exact this
  |_=>exfalso;exact c rfl
noncomputable def fM(K:W.Frag):Sp:=fun vs H Q _=>∃(x:V) (d:θ),vs=[x]/\DX K H x d/\vB d=true/\∀H',Same H H'->Q .non H'
theorem Dl{f f1:Addr}{fd d1:ρ}(F:Fun K "need_web" "need_web" TX f fd)(D1:bL K mg "is_web" um ["thing"] f1 d1)(G1:FnOk P w K mg base CX0 6 f1 d1 ["thing"] (Sw K)):FnOk P w K mg base CX0 7 f fd ["thing"] (fM K):=by
 refine F.cH ["thing"] fun cdv A outer s H vs Q E hr h=> ?_;obtain⟨x,d,rfl,hx,hw,q⟩:=h;refine⟨_,aV (fQ (lC (j9 (pc G1 hr D1 (aj (pv 0) ak)))) Ph gO),?_⟩;refine⟨_,rfl,x,d,rfl,hx,fun H' sm=>⟨_,rfl,?_⟩⟩;rw[hw];exact iteF (q H' sm)
noncomputable def rE(K:W.Frag):Sp:=fun vs H Q _=>∃(a:Addr) (n i j:Int) (ts:L0),vs=[.ref a,.int i,.int j]/\rZ K H a n ts/\∀H',Same H H'->Q (.bl (bQ ts i j)) H'
theorem Vo{f:Addr}{fd:ρ}(F:Fun K "has_tie" "has_tie" fO f fd)(mi:mg "min"=none)(ma:mg "max"=none):FnOk P w K mg base CX0 1 f fd ["web","one","other"] (rE K):=by
 refine F.cH ["web","one","other"] fun cdv A outer s H vs Q E hr h=> ?_;obtain⟨a,n,i,j,ts,rfl,hW,q⟩:=h;refine⟨_,aV (bK (Ca (xT hr.units) (fU (aj (pB (call_min2 rfl) mi (aj (pv 1) (aj (pv 2) ak))) (aj (pB (call_max2 rfl) ma (aj (pv 1) (aj (pv 2) ak))) ak)))
  (aR cI (pv 0) aB) (by with_unfolding_all rfl))),?_⟩
 refine⟨_,rfl,_,rfl,_,_,rfl,_,rfl,_,rfl,_,_,rfl,(by show 2<=sizeLine;decide),fun p hp=> ?_⟩;have sm:=aO hp (.tup [.int (if j<i then j else i),.int (if j>i then j else i)]);obtain⟨t,rs,h1,h2,h3⟩:=hW.same sm;refine⟨_,rfl,a,_,_,.ref t,rfl,rfl,h1,rfl,t,rs,_,pairD (if j<i then j else i,if j>i then j else i),rfl,.inr h2,h3,.tup (SqT.of aF) (.cons (.int _) (.cons (.int _) .nil)),jh ts,rfl,(by show max 0 (max 0 0)+1<=60;decide),?_⟩;rw[uV];exact q _ sm
end
noncomputable def Bv(n:Int)(ts:L0):Prop:=vB (jD n ts)=true
end Hs
namespace L2
open PySem
noncomputable def au(t:Addr)(H H':Hp):Prop:=∀b o,b≠t->H b=some o->H' b=some o
theorem au.refl(t:Addr)(H:Hp):au t H H:=fun _ _ _ h=>h
theorem au.trans{t:Addr}{H H1 H2:Hp}(a:au t H H1)(b:au t H1 H2):au t H H2:=fun c o n h=>b c o n (a c o n h)
noncomputable def su(K:W.Frag)(H:Hp)(bU:Addr)(ns:List Int):Prop:=(∃o,H bU=some (.frz o (.lst (ns.map V.int))))\/
 ∃(o:Obj) (its:Array ζ) (n:Nat),K.lookup bU=some o/\o.cls= .type "list"/\o.dict=none/\o.data= .seq its n/\its.size<=sizeLine/\Vals (ns.map V.int) its.toList
theorem su.same{K:W.Frag}{H H':Hp}{bU:Addr}{ns:List Int}(h:su K H bU ns)(e:Same H H'):su K H' bU ns:=by
 rcases h with⟨o,h⟩|h
 ·exact .inl ⟨o,e _ _ h⟩
 ·exact .inr h
theorem Cp:∀ns:List Int,PyData.canLayAll0 (ns.map PyData.int)=true
 |[]=>rfl
 |n::ns=>by
  show(true&&PyData.canLayAll0 (ns.map PyData.int))=true;rw[Cp ns];rfl
theorem au.free{t:Addr}{H H':Hp}{a:Addr}(e:au t H H')(n:a≠t)(h:H' a=none):H a=none:=by
 cases q:H a with
 |none=>rfl
 |some o=>rw[e a o n q]at h;cases h
theorem cQ.append{K:W.Frag}{H:Hp}{xs ys:List V}{ds es:List θ}(h:cQ K H xs ds)(h':cQ K H ys es):cQ K H (xs++ys) (ds++es):=
 cQ.rec (motive_1:=fun _ _ _=>True) (motive_2:=fun xs ds _=>cQ K H (xs++ys) (ds++es)) trivial (fun _=>trivial) (fun _=>trivial) (fun _=>trivial) (fun _ _ _=>trivial) (fun _ _ _=>trivial) (fun _=>trivial) (fun _ _=>trivial) h' (fun h _ _ t=> .cons h t) h
theorem au.tup{K:W.Frag}{t:Addr}{H H':Hp}{a:Addr}{xs zs:List V}(e:au t H H')(n:H t=some (.lst zs))(h:SqT K H a xs):SqT K H' a xs:=by
 rcases h with(h|⟨o,h⟩)|h
 ·exact .inl (.inl (e _ _ (ne_of h n (by intro z;cases z)) h))
 ·exact .inl (.inr ⟨o,e _ _ (ne_of h n (by intro z;cases z)) h⟩)
 ·exact .inr h
end L2
namespace oV
open PySem L2
theorem g8{K:W.Frag}{t:Addr}{H H':Hp}{zs:List V}(e:au t H H')(n:H t=some (.lst zs)){rs:List V}{ps:L0}(h:cQ K H rs (ps.map pairD)):cQ K H' rs (ps.map pairD):=by
 induction ps generalizing rs with
 |nil=>cases h;exact .nil
 |cons p ps ih=>
  cases h with
  |cons h tl=>
   refine .cons ?_ (ih tl);cases h with
   |tup h hd=>
    cases hd with
    |cons a1 t1=>
     cases a1;cases t1 with
     |cons a2 t2=>
      cases a2;cases t2;exact .tup (e.tup n h) (.cons (.int _) (.cons (.int _) .nil))
structure Sub(j:Nat)(l:List Int):Prop where
 nd:l.Nodup
 lt:∀i∈l,0<=i/\i<(j:Int)
theorem je{α:Type} [DecidableEq α]:∀{l m:List α},l.Nodup->(∀a∈l,a∈m)->l.length<=m.length
 |[],m,_,_=>dY _
 |a::l,m,nd,h=>by
  have ha:=h a iW;have nd':=J2.mp nd;have q:∀b∈l,b∈m.erase a:=fun b hb=>by
   have hne:b≠a:=fun e=>nd'.1 (e▸hb);exact(List.mem_erase_of_ne hne).mpr (h b (iG _ hb))
  have:=je nd'.2 q;have e:=List.length_erase_of_mem ha;have:0<m.length:=wbx ha;simp only[yV];omega
theorem Sub.len{j:Nat}{l:List Int}(h:Sub j l):l.length<=j:=by
 have q:=je (m:=(List.range j).map fun(k:Nat)=>(k:Int)) h.nd fun i hi=>by
  have:=h.lt i hi;exact jC.mpr ⟨i.toNat,jz.mpr (by omega),by omega⟩
 simpa using q
structure aM(n:Int)(ps:L0):Prop where
 nd:ps.Nodup
 lt:∀p∈ps,0<=p.1/\p.1<p.2/\p.2<n
noncomputable def aal(n:Nat):L0:=((List.range n).map fun(j:Nat)=>(List.range j).map fun(i:Nat)=>((i:Int),(j:Int))).flatten
theorem pairs_len{n:Int}{ps:L0}(h:aM n ps)(hn:n<=10):ps.length<=45:=by
 have q:=je (m:=aal 10) h.nd fun p hp=>by
  obtain⟨h0,h1,h2⟩:=h.lt p hp;obtain⟨a,b⟩:=p;dsimp only at h0 h1 h2;refine List.mem_flatten.mpr ⟨(List.range b.toNat).map fun(i:Nat)=>((i:Int),((b.toNat:Nat):Int)),jC.mpr ⟨b.toNat,jz.mpr (by omega),rfl⟩,jC.mpr ⟨a.toNat,jz.mpr (by omega),?_⟩⟩;have e1:((a.toNat:Nat):Int)=a:=by omega
  have e2:((b.toNat:Nat):Int)=b:=by omega
  rw[e1,e2]
 have e:(aal 10).length=45:=by decide
 omega
noncomputable def pl(p:Int×Int):List Int:=[p.1,p.2]
noncomputable def bA(ts:L0)(i j:Int):Bool:=decide ((i,j)∈ts)||decide ((j,i)∈ts)
theorem tied_eq{n:Int}{ts:L0}(h:aM n ts)(i j:Int):bQ ts i j=bA ts i j:=by
 unfold bQ bA;have no:∀{a b:Int},b<=a->decide ((a,b)∈ts)=false:=fun{a b} hab=>fW fun hm=>by
  have:=(h.lt _ hm).2.1;dsimp only at this;omega
 rcases Int.lt_trichotomy i j with c|c|c
 ·rw[aA (show¬j<i by omega),aD (show j>i by omega),no (show i<=j by omega),Bool.or_false]
 ·subst c;rw[aA (show¬i<i by omega),Bool.or_self]
  try rw[aA (show¬i>i by omega)]
 ·rw[aD (show j<i by omega),aA (show¬j>i by omega),no (show j<=i by omega),wfb]
end oV
namespace Hs
open PySem L2 oV
noncomputable def jB(p q:Int×Int):Prop:=p.1<q.1\/(p.1=q.1/\p.2<q.2)
theorem jB.trans{p q r:Int×Int}(a:jB p q)(b:jB q r):jB p r:=by
 unfold jB at *;omega
theorem Ht{p q:Int×Int}(h:HT.lexLt (pl p) (pl q)=true):jB p q:=by
 rw[HT.cu]at h;have:=fJ h;unfold pl at this;rw[yeb]at this;rcases this with a|⟨a,b⟩
 ·exact .inl a
 ·rw[yeb]at b;rcases b with b|⟨_,b⟩
  ·exact .inr ⟨a,b⟩
  ·exact absurd b (by simp)
theorem rT{l:L0}(h:∀k,(hk:k+1<l.length)->jB l[k] l[k+1]):l.Pairwise jB:=by
 rw[Ui];intro i j hi hj hij;have go:∀d:Nat,(hd:i+1+d<l.length)->jB l[i] l[i+1+d]:=by
  intro d
  induction d with
  |zero=>intro hd;exact h i hd
  |succ d ih=>intro hd;exact(ih (by omega)).trans (h (i+1+d) hd)
 have e:j=i+1+(j-i-1):=by omega
 have:=go (j-i-1) (by omega);simpa[<-e]using this
theorem Cu{n:Int}{ts:L0}(h:Bv n ts):ts.Pairwise jB:=by
 have h1:pA n (.tuple (ts.map pairD))=true:=by
  unfold Bv jD vB at h;rw[kj]at h;exact h.2
 unfold pA at h1;rw[kj]at h1;have h2:=h1.2;unfold dw at h2;rw[kh]at h2;refine rT fun k hk=> ?_;have e:(List.map (fun t=>(kids t).map intD) (ts.map pairD))=ts.map pl:=by
  rw[wg];rfl
 rw[e,aL]at h2;have h3:=h2 k (by rw[jz];omega);have g:∀j,(hj:j<ts.length)->(ts.map pl).getD j []=pl ts[j]:=fun j hj=>by
  rw[lq,dU,dG hj];rfl
 rw[g k (by omega),g (k+1) hk]at h3;exact Ht h3
noncomputable def row(so:Int->Int->Bool)(i:Int)(k:Nat):L0:=((List.range k).map fun(t:Nat)=>(i,i+1+(t:Int))).filter fun p=>so p.1 p.2
noncomputable def rows(so:Int->Int->Bool)(m:Int)(i:Nat):L0:=((List.range i).map fun(t:Nat)=>row so (0+(t:Int)) (m-(0+(t:Int)+1)).toNat).flatten
end Hs
namespace L2
open PySem
theorem cQ.get'{K:W.Frag}{H:Hp}:∀{xs:List V} {ds:List θ} {i:Nat},cQ K H xs ds->i<ds.length->∃x d,xs[i]? =some x/\ds[i]? =some d/\DV K H x d
 |_,_,i,.nil,h=>by simp at h
 |_,_,0,.cons h _,_=>⟨_,_,rfl,rfl,h⟩
 |_,_,i+1,.cons _ t,h=>by
  obtain⟨x,d,h1,h2,h3⟩:=cQ.get' (i:=i) t (by simpa using h);exact⟨x,d,by simpa using h1,by simpa using h2,h3⟩
end L2
namespace Hs
open PySem L2 oV
structure aQ(K:W.Frag)(H:Hp)(a:Addr)(n:Int)(ts:L0):Prop where
 web:rZ K H a n ts
 h0:0<=n
 h1:n<=10
 pk:aM n ts
 ok:Bv n ts
theorem aQ.same{K:W.Frag}{H H':Hp}{a:Addr}{n:Int}{ts:L0}(h:aQ K H a n ts)(e:Same H H'):aQ K H' a n ts:=⟨h.web.same e,h.h0,h.h1,h.pk,h.ok⟩
theorem aQ.len{K:W.Frag}{H:Hp}{a:Addr}{n:Int}{ts:L0}(h:aQ K H a n ts):ts.length<=45:=pairs_len h.pk h.h1
theorem aQ.wZ{K:W.Frag}{H:Hp}{a:Addr}{n:Int}{ts:L0}(h:aQ K H a n ts):ts.Pairwise jB:=Cu h.ok
theorem GJ{K:W.Frag}{H:Hp}{rs:List V}{ps:L0}{i:Nat}{x:V}(h:cQ K H rs (ps.map pairD))(hx:rs[i]? =some x):∃(t:Addr) (hi:i<ps.length),x= .ref t/\SqT K H t [.int (ps[i]).1,.int (ps[i]).2]:=by
 have hlen:=h.len;rw[aL]at hlen;have hi:i<ps.length:=by rw[<-hlen];exact(nF.mp hx).1
 obtain⟨x',d,e1,e2,e3⟩:=cQ.get' (i:=i) h (by rw[aL];exact hi);rw[hx]at e1;cases e1;rw[dU,dG hi]at e2;cases e2;cases e3 with
 |tup hp tp=>
  cases tp with
  |cons ta tb=>
   cases tb with
   |cons tc td=>
    cases td;cases ta;cases tc;exact⟨_,hi,rfl,hp⟩
noncomputable def iz(K:W.Frag)(H:Hp)(l:Addr)(R:L0)(P:Int×Int->Prop):Prop:=∃(rs:List V) (ts:L0),H l=some (.lst rs)/\cQ K H rs (ts.map pairD)/\ts.Sublist R/\∀p∈ts,P p
theorem iz.nil{K:W.Frag}{H:Hp}{l:Addr}{R:L0}{P:Int×Int->Prop}(h:H l=some (.lst [])):iz K H l R P:=⟨[],[],h,.nil,List.nil_sublist _,fun p hp=>(nomatch hp)⟩
theorem iz.step{K:W.Frag}{H H':Hp}{l c:Addr}{R:L0}{P:Int×Int->Prop}{zs:List V}(h:iz K H l R P)(e:au c H H')(hc:H c=some (.lst zs))(n:l≠c):iz K H' l R P:=by
 obtain⟨rs,ts,h1,h2,h3⟩:=h;exact⟨rs,ts,e _ _ n h1,g8 e hc h2,h3⟩
theorem iz.mono{K:W.Frag}{H:Hp}{l:Addr}{R R':L0}{P:Int×Int->Prop}(h:iz K H l R P)(e:R.Sublist R'):iz K H l R' P:=by
 obtain⟨rs,ts,h1,h2,h3,h4⟩:=h;exact⟨rs,ts,h1,h2,h3.trans e,h4⟩
structure jr(n:Int)(xs:List Int):Prop where
 wZ:xs.Pairwise (· < ·)
 lt:∀x∈xs,0<=x/\x<n
theorem jr.len{n:Int}{xs:List Int}(h:jr n xs)(hn:n<=10):xs.length<=10:=by
 have h1:Sub n.toNat xs:=⟨h.wZ.imp fun h e=>by omega,fun i hi=>by have:=h.lt i hi;omega⟩;have:=h1.len;omega
end Hs
namespace Hs
open oV
noncomputable def inB(xs:List Int)(p:Int×Int):Bool:=decide (p.1∈xs)&&decide (p.2∈xs)
end Hs
namespace Hs
noncomputable def ff:Nat->Nat
 |0=>1
 |1=>1
 |2=>2
 |3=>3
 |4=>4
 |5=>6
 |6=>9
 |7=>12
 |8=>18
 |9=>27
 |_=>36
theorem yq:∀m n:Nat,m<=n->n<=10->ff m<=ff n:=by
 have h:∀n:Fin 11,∀m:Fin 11,m.val<=n.val->ff m.val<=ff n.val:=by decide
 intro m n hm hn;exact h ⟨n,by omega⟩ ⟨m,by omega⟩ hm
theorem Ry:∀n d:Nat,0<d->d<=n->n<=10->d*ff (n-d)<=ff n:=by
 have h:∀n:Fin 11,∀d:Fin 11,0<d.val->d.val<=n.val->d.val*ff (n.val-d.val)<=ff n.val:=by decide
 intro n d h0 hd hn;exact h ⟨n,by omega⟩ ⟨d,by omega⟩ h0 hd
structure Full(r:Int->Int->Bool)(V:List Int)(s:List Int):Prop where
 up:s.Pairwise (· < ·)
 sub:∀x∈s,x∈V
 ind:∀x∈s,∀y∈s,x≠y->r x y=false
 max:∀v∈V,v∉s->∃x∈s,r x v=true
theorem Aq(g:Int->Nat):∀V:List Int,V≠[]->∃v∈V,∀u∈V,g v<=g u
 |[],h=>absurd rfl h
 |[x],_=>⟨x,by simp,fun u hu=>by rw[iD.mp hu];exact aY _⟩
 |x::y::V,_=>by
  obtain⟨v,hv,hm⟩:=Aq g (y::V) (by simp);by_cases c:g x<=g v
  ·refine⟨x,by simp,fun u hu=> ?_⟩;rcases dg.mp hu with e|e
   ·rw[e];exact aY _
   ·exact cV c (hm u e)
  ·refine⟨v,iG _ hv,fun u hu=> ?_⟩;rcases dg.mp hu with e|e
   ·rw[e];omega
   ·exact hm u e
theorem oE{α:Type}(p:α->Bool):∀l:List α,(l.filter p).length+(l.filter fun x=> !p x).length=l.length
 |[]=>rfl
 |x::l=>by
  have ih:=oE p l;rw[FJ,FJ];cases p x<;>simp <;>omega
theorem wN{α β:Type}(p:β->α->Bool)(m:Nat):∀(us:List β) (fs:List α),(∀s∈fs,∃u∈us,p u s=true)->(∀u∈us,∀gs:List α,gs.Sublist fs->(∀s∈gs,p u s=true)->gs.length<=m)->fs.length<=us.length*m
 |[],fs,h,_=>by
  cases fs with
  |nil=>simp
  |cons s fs=>obtain⟨u,hu,_⟩:=h s (by simp);cases hu
 |u::us,fs,h,hm=>by
  have e:=oE (p u) fs;have a:=hm u (by simp) (fs.filter (p u)) yei (fun s hs=>(fL.mp hs).2);have b:=wN p m us (fs.filter fun x=> !p u x) (fun s hs=>by
   obtain⟨h1,h2⟩:=fL.mp hs;obtain⟨w,hw,hp⟩:=h s h1;rcases dg.mp hw with z|z
   ·rw[z]at hp;rw[hp]at h2;cases h2
   ·exact⟨w,z,hp⟩) (fun w hw gs hg hp=>hm w (iG _ hw) gs (hg.trans yei) hp)
  rw[yV,Nat.succ_mul];omega
theorem Gd:∀{xs ys:List Int},xs.Pairwise (· < ·)->ys.Pairwise (· < ·)->(∀k,k∈xs↔k∈ys)->xs=ys
 |[],[],_,_,_=>rfl
 |[],y::ys,_,_,h=>by have:=(h y).mpr (by simp);simp at this
 |x::xs,[],_,_,h=>by have:=(h x).mp (by simp);simp at this
 |x::xs,y::ys,hx,hy,h=>by
  rw[Qd]at hx hy;have e:x=y:=by
   have a:=(h x).mp (by simp);have b:=(h y).mpr (by simp);rcases dg.mp a with a|a
   ·exact a
   ·rcases dg.mp b with b|b
    ·exact b.symm
    ·have:=hy.1 x a;have:=hx.1 y b;omega
  subst e;rw[Gd hx.2 hy.2 fun k=> ?_];constructor
  ·intro hk;rcases dg.mp ((h k).mp (iG _ hk))with a|a
   ·have:=hx.1 k hk;omega
   ·exact a
  ·intro hk;rcases dg.mp ((h k).mpr (iG _ hk))with a|a
   ·have:=hy.1 k hk;omega
   ·exact a
theorem qQ{α β:Type}{g:α->β}:∀{l:List α},l.Nodup->(∀a∈l,∀b∈l,g a=g b->a=b)->(l.map g).Nodup
 |[],_,_=>List.nodup_nil
 |a::l,h,hi=>by
  rw[J2]at h;rw[yS,J2];refine⟨fun hm=> ?_,qQ h.2 fun x hx y hy=>hi x (iG _ hx) y (iG _ hy)⟩;obtain⟨b,hb,e⟩:=jC.mp hm;have:=hi b (iG _ hb) a (by simp) e;rw[this]at hb;exact h.1 hb
noncomputable def cF(r:Int->Int->Bool)(v u:Int):Bool:=decide (u=v)||r u v
theorem Ec{r:Int->Int->Bool}(sym:∀i j,r i j=r j i):∀(n:Nat) (V:List Int),V.length=n->n<=10->∀fs:List (List Int),fs.Nodup->(∀s∈fs,Full r V s)->fs.length<=ff n:=by
 intro n
 induction n using Nat.strongRecOn with
 |ind n ih=>
  intro V hV hn fs nd hf;by_cases hz:V=[]
  ·have e:∀s∈fs,s=[]:=fun s hs=>by
    cases s with
    |nil=>rfl
    |cons x s=>have:=(hf _ hs).sub x (by simp);rw[hz]at this;cases this
   have l1:fs.length<=1:=by
    match fs,nd,e with
    |[],_,_=>simp
    |[_],_,_=>simp
    |a::b::fs,nd,e=>
     exfalso;rw[J2]at nd;apply nd.1;rw[e a (by simp),e b (by simp)];simp
   have:1<=ff n:=by
    have:=yq 0 n (dY _) hn;exact this
   omega
  obtain⟨v,hv,hmin⟩:=Aq (fun u=>(V.filter (cF r u)).length) V hz;have key:=wN (fun(u:Int) (s:List Int)=>decide (u∈s)) (ff (n-(V.filter (cF r v)).length)) (V.filter (cF r v)) fs (fun s hs=> ?_) (fun u hu gs hg hp=> ?_)
  ·have hle:(V.filter (cF r v)).length<=n:=by rw[<-hV];exact wk _ _
   have hpos:0<(V.filter (cF r v)).length:=wbx (fL.mpr ⟨hv,by unfold cF;simp⟩);exact cV key (Ry n _ hpos hle hn)
  ·by_cases c:v∈s
   ·exact⟨v,fL.mpr ⟨hv,by unfold cF;simp⟩,cW c⟩
   ·obtain⟨x,hx,hr⟩:=(hf s hs).max v hv c;exact⟨x,fL.mpr ⟨(hf s hs).sub x hx,by unfold cF;rw[hr];simp⟩,cW hx⟩
  ·have huV:u∈V:=(fL.mp hu).1;have fg:∀s∈gs,Full r V s/\u∈s:=fun s hs=>⟨hf s (hg.subset hs),fJ (hp s hs)⟩;have hle:(V.filter (cF r u)).length<=n:=by rw[<-hV];exact wk _ _
   have hge:=hmin u huV;have hpos:0<(V.filter (cF r u)).length:=wbx (fL.mpr ⟨huV,by unfold cF;simp⟩);have hV2:(V.filter fun x=> !cF r u x).length=n-(V.filter (cF r u)).length:=by have:=oE (cF r u) V;omega
   have Du:∀(s:List Int) (x:Int),x∈s.filter (fun x=> !decide (x=u))↔x∈s/\x≠u:=fun s x=>by rw[fL];simp
   have h1:=ih (n-(V.filter (cF r u)).length) (by omega) (V.filter fun x=> !cF r u x) hV2 (by omega) (gs.map fun s=>s.filter fun x=> !decide (x=u)) (qQ (nd.sublist hg) fun s hs t ht e=> ?_) (fun t ht=> ?_)
   ·rw[aL]at h1;exact cV h1 (yq _ _ (by omega) (by omega))
   ·obtain⟨a1,a2⟩:=fg s hs;obtain⟨b1,b2⟩:=fg t ht;refine Gd a1.up b1.up fun k=> ?_;have hk:k∈s.filter (fun x=> !decide (x=u))↔k∈t.filter (fun x=> !decide (x=u)):=by rw[show s.filter (fun x=> !decide (x=u))=t.filter (fun x=> !decide (x=u))from e]
    rw[Du,Du]at hk;by_cases c:k=u
    ·rw[c];exact⟨fun _=>b2,fun _=>a2⟩
    ·exact⟨fun z=>(hk.mp ⟨z,c⟩).1,fun z=>(hk.mpr ⟨z,c⟩).1⟩
   ·obtain⟨s,hs,rfl⟩:=jC.mp ht;obtain⟨a1,a2⟩:=fg s hs;refine⟨a1.up.sublist yei,fun x hx=> ?_,fun x hx y hy=> ?_,fun w hw hn=> ?_⟩
    ·obtain⟨x1,x2⟩:=(Du s x).mp hx;refine fL.mpr ⟨a1.sub x x1,?_⟩;unfold cF;rw[a1.ind x x1 u a2 x2,fW x2];rfl
    ·exact a1.ind x ((Du s x).mp hx).1 y ((Du s y).mp hy).1
    ·obtain⟨w1,w2⟩:=fL.mp hw;have w3:cF r u w=false:=by simpa using w2
     unfold cF at w3;rw[Bool.or_eq_false_iff]at w3;have wu:w≠u:=was w3.1;have ws:w∉s:=fun z=>hn ((Du s w).mpr ⟨z,wu⟩);obtain⟨x,hx,hr⟩:=a1.max w w1 ws;have xu:x≠u:=fun z=>by rw[z,sym u w,w3.2]at hr;cases hr
     exact⟨x,(Du s x).mpr ⟨hx,xu⟩,hr⟩
end Hs
namespace Hs
open PySem oV
noncomputable def rng(n:Nat):List Int:=(List.range n).map fun k=>((k:Nat):Int)
theorem ig{n:Nat}{x:Int}:x∈rng n↔0<=x/\x<(n:Int):=by
 unfold rng;rw[jC];constructor
 ·rintro⟨k,hk,rfl⟩;have:=jz.mp hk;omega
 ·rintro⟨h0,h1⟩;exact⟨x.toNat,jz.mpr (by omega),by omega⟩
theorem PN(ts:L0)(i j:Int):bA ts i j=bA ts j i:=by unfold bA;rw[Bool.or_comm]
noncomputable def goB(ts:L0)(w:Bool)(s:List Int)(p:Int):Bool:=s.all fun q=>bA ts p q==w
noncomputable def bR(ts:L0)(w:Bool):Nat->List (List Int)
 |0=>[[]]
 |k+1=>bR ts w k++((bR ts w k).filter fun s=>goB ts w s (k:Int)).map fun s=>s++[(k:Int)]
noncomputable def qd(ts:L0)(w:Bool)(n:Nat)(s:List Int):Bool:= !((rng n).any fun p=> !decide (p∈s)&&goB ts w s p)
noncomputable def lU(ts:L0)(w:Bool)(n:Nat):List (List Int):=(bR ts w n).filter (qd ts w n)
structure iV(ts:L0)(w:Bool)(k:Nat)(s:List Int):Prop where
 up:s.Pairwise (· < ·)
 lt:∀x∈s,0<=x/\x<(k:Int)
 all:∀x∈s,∀y∈s,x≠y->(bA ts x y==w)=true
theorem nR{ts:L0}{w:Bool}:∀(k:Nat) (s:List Int),s∈bR ts w k->iV ts w k s
 |0,s,h=>by
  rw[iD.mp (show s∈[[]]from h)];exact⟨List.Pairwise.nil,fun x hx=>(nomatch hx),fun x hx=>(nomatch hx)⟩
 |k+1,s,h=>by
  rcases oY.mp (show s∈bR ts w k++((bR ts w k).filter fun s=>goB ts w s (k:Int)).map fun s=>s++[(k:Int)]from h)with q|q
  ·have S:=nR k s q;exact⟨S.up,fun x hx=>by have:=S.lt x hx;omega,S.all⟩
  ·obtain⟨t,ht,rfl⟩:=jC.mp q;obtain⟨t1,t2⟩:=fL.mp ht;have S:=nR k t t1;have g:∀y∈t,(bA ts (k:Int) y==w)=true:=fun y hy=>kh.mp t2 y hy;refine⟨?_,fun x hx=> ?_,fun x hx y hy hne=> ?_⟩
   ·rw[R6];refine⟨S.up,Pu _ _,fun x hx y hy=> ?_⟩;rw[iD.mp hy];exact(S.lt x hx).2
   ·rcases oY.mp hx with z|z
    ·have:=S.lt x z;omega
    ·rw[iD.mp z];omega
   ·rcases oY.mp hx with z|z
    ·rcases oY.mp hy with z'|z'
     ·exact S.all x z y z' hne
     ·rw[iD.mp z',PN];exact g x z
    ·rw[iD.mp z]at hne⊢;rcases oY.mp hy with z'|z'
     ·exact g y z'
     ·exact absurd (iD.mp z').symm hne
theorem jE{ts:L0}{w:Bool}:∀k:Nat,(bR ts w k).Nodup
 |0=>by show([[]]:List (List Int)).Nodup;simp
 |k+1=>by
  show(bR ts w k++((bR ts w k).filter fun s=>goB ts w s (k:Int)).map fun s=>s++[(k:Int)]).Nodup;refine List.nodup_append.mpr ⟨jE k,qQ ((jE k).filter _) (fun a _ b _ e=>List.append_cancel_right e),fun a ha b hb e=> ?_⟩;obtain⟨t,_,rfl⟩:=jC.mp hb;have:=(nR k a ha).lt (k:Int) (by rw[e];simp);omega
theorem zP{ts:L0}{w:Bool}:∀k:Nat,(bR ts w k).length<=2^k
 |0=>aY _
 |k+1=>by
  show(bR ts w k++((bR ts w k).filter fun s=>goB ts w s (k:Int)).map fun s=>s++[(k:Int)]).length<=2^(k+1);rw[qz,aL,wfd];have a:=zP (ts:=ts) (w:=w) k;have b:=wk (fun s=>goB ts w s (k:Int)) (bR ts w k);omega
theorem HS{ts:L0}{w:Bool}{n:Nat}{s:List Int}(h:s∈lU ts w n):Full (fun i j=> !(bA ts i j==w)) (rng n) s:=by
 obtain⟨h1,h2⟩:=fL.mp h;have S:=nR n s h1;refine⟨S.up,fun x hx=>ig.mpr (S.lt x hx),fun x hx y hy hne=>by rw[S.all x hx y hy hne];rfl,fun v hv hn=> ?_⟩;unfold qd at h2;apply Xn;intro hc;have h3:((rng n).any fun p=> !decide (p∈s)&&goB ts w s p)=false:=by simpa using h2
 rw[Xd]at h3;apply h3 v hv;rw[fW hn];show goB ts w s v=true;unfold goB;rw[kh];intro q hq;cases e:(bA ts v q==w)with
 |true=>rfl
 |false=>exact absurd ⟨q,hq,by show(!(bA ts q v==w))=true;rw[PN,e];rfl⟩ hc
theorem wJ{ts:L0}{w:Bool}{n:Nat}(hn:n<=10):(lU ts w n).length<=36:=by
 have h:=Ec (r:=fun i j=> !(bA ts i j==w)) (fun i j=>by rw[PN]) n (rng n) (by unfold rng;simp) hn (lU ts w n) ((jE n).filter _) (fun s hs=>HS hs);have:=yq n 10 hn (aY _);exact cV h this
noncomputable def kI(ts:L0)(w:Bool)(n:Nat)(s:List Int):List Int:=(rng n).filter fun p=>s.all fun q=> !decide (p=q)&&(bA ts q p==w)
noncomputable def qe(ts:L0)(w:Bool)(n:Nat)(q:Int):List Int:=(rng n).filter fun p=> !decide (p=q)&&(bA ts q p==w)
theorem MP(ts:L0)(w:Bool)(n:Nat):kI ts w n []=rng n:=by unfold kI;exact List.filter_eq_self.mpr fun _ _=>rfl
theorem Jr(ts:L0)(w:Bool)(n:Nat)(s:List Int)(k:Int):kI ts w n (s++[k])=(kI ts w n s).filter fun p=>decide (p∈qe ts w n k):=by
 unfold kI;rw[List.filter_filter];refine List.filter_congr fun p hp=> ?_;rw[List.all_append,Bool.and_comm];congr 1;unfold qe;rw[vC,Px,fL];simp[hp]
theorem Rh{ts:L0}{w:Bool}{n k:Nat}{s:List Int}(hs:iV ts w k s)(hk:k<n):decide ((k:Int)∈kI ts w n s)=goB ts w s (k:Int):=by
 unfold kI goB;rw[vC,Px,fL,kh,kh];constructor
 ·rintro⟨_,h⟩ q hq;have:=h q hq;rw[kj]at this;rw[PN];exact this.2
 ·intro h;refine⟨ig.mpr ⟨by omega,by omega⟩,fun q hq=> ?_⟩;have:=(hs.lt q hq).2;rw[kj];refine⟨?_,by rw[PN];exact h q hq⟩;rw[fW (by omega)];rfl
theorem Js(ts:L0)(w:Bool)(n:Nat)(s:List Int):decide (kI ts w n s=[])=qd ts w n s:=by
 unfold kI qd;rw[vC,Px,Xh,way,Xd];constructor
 ·intro h p hp hc;rw[kj]at hc;apply h p hp;rw[kh];intro q hq;have h1:p∉s:=by simpa using hc.1
  have h2:=kh.mp hc.2 q hq;rw[kj];refine⟨?_,by rw[PN];exact h2⟩;have ne:¬p=q:=fun e=>h1 (by rw[e];exact hq);rw[fW ne];rfl
 ·intro h p hp hc;apply h p hp;rw[kh]at hc;rw[kj];refine⟨?_,?_⟩
  ·have:p∉s:=fun z=>by
    have:=hc p z;simp at this
   rw[fW this];rfl
  ·unfold goB;rw[kh];intro q hq;have:=hc q hq;rw[kj]at this;rw[PN];exact this.2
theorem rH:∀{xs ys:List Int},xs.Pairwise (· < ·)->ys.Pairwise (· < ·)->(∀k,k∈xs↔k∈ys)->xs=ys
 |[],[],_,_,_=>rfl
 |[],y::ys,_,_,h=>by have:=(h y).mpr (by simp);simp at this
 |x::xs,[],_,_,h=>by have:=(h x).mp (by simp);simp at this
 |x::xs,y::ys,hx,hy,h=>by
  rw[Qd]at hx hy;have e:x=y:=by
   have a:=(h x).mp (by simp);have b:=(h y).mpr (by simp);rcases dg.mp a with a|a
   ·exact a
   ·rcases dg.mp b with b|b
    ·exact b.symm
    ·have:=hy.1 x a;have:=hx.1 y b;omega
  subst e;rw[rH hx.2 hy.2 fun k=> ?_];constructor
  ·intro hk;rcases dg.mp ((h k).mp (iG _ hk))with a|a
   ·have:=hx.1 k hk;omega
   ·exact a
  ·intro hk;rcases dg.mp ((h k).mpr (iG _ hk))with a|a
   ·have:=hy.1 k hk;omega
   ·exact a
theorem pH{ts:L0}{w:Bool}:∀(k:Nat) (s:List Int),iV ts w k s->s∈bR ts w k
 |0,s,h=>by
  cases s with
  |nil=>show([]:List Int)∈[[]];simp
  |cons x s=>have:=h.lt x (by simp);omega
 |k+1,s,h=>by
  show s∈bR ts w k++((bR ts w k).filter fun s=>goB ts w s (k:Int)).map fun s=>s++[(k:Int)];by_cases c:(k:Int)∈s
  ·have hm:∀x,x∈s.filter (fun x=> !decide (x=(k:Int)))↔x∈s/\x≠(k:Int):=fun x=>by rw[fL];simp
   refine Ir _ (jC.mpr ⟨s.filter (fun x=> !decide (x=(k:Int))),fL.mpr ⟨pH k _ ⟨h.up.filter _,fun x hx=> ?_,fun x hx y hy hne=> ?_⟩,?_⟩,?_⟩)
   ·have a:=(hm x).mp hx;have b:=h.lt x a.1;have:=a.2;omega
   ·exact h.all x ((hm x).mp hx).1 y ((hm y).mp hy).1 hne
   ·unfold goB;rw[kh];intro q hq;have a:=(hm q).mp hq;exact h.all _ c q a.1 (fun e=>a.2 e.symm)
   ·refine rH ?_ h.up fun x=> ?_
    ·rw[R6];refine⟨h.up.filter _,Pu _ _,fun x hx y hy=> ?_⟩;rw[iD.mp hy];have a:=(hm x).mp hx;have b:=h.lt x a.1;have:=a.2;omega
    ·rw[oY,hm,iD];constructor
     ·rintro(a|a)
      ·exact a.1
      ·rw[a];exact c
     ·intro a;by_cases e:x=(k:Int)
      ·exact .inr e
      ·exact .inl ⟨a,e⟩
  ·refine yef _ (pH k s ⟨h.up,fun x hx=> ?_,h.all⟩);have b:=h.lt x hx;have:x≠(k:Int):=fun e=>c (by rw[<-e];exact hx);omega
theorem iV.of{ts:L0}{w:Bool}{n:Nat}{s:List Int}(F:Full (fun i j=> !(bA ts i j==w)) (rng n) s):iV ts w n s:=
 ⟨F.up,fun x hx=>ig.mp (F.sub x hx),fun x hx y hy hne=>by
  have:=F.ind x hx y hy hne
  try dsimp only at this
  cases e:(bA ts x y==w)with
  |true=>rfl
  |false=>rw[e]at this;cases this⟩
theorem Rw{ts:L0}{w:Bool}{n:Nat}{s:List Int}(F:Full (fun i j=> !(bA ts i j==w)) (rng n) s):s∈lU ts w n:=by
 refine fL.mpr ⟨pH n s (iV.of F),?_⟩;unfold qd;rw[way,Xd];intro p hp hc;rw[kj]at hc;have hn:p∉s:=by simpa using hc.1
 obtain⟨x,hx,hr⟩:=F.max p hp hn;have:=kh.mp hc.2 x hx
 try dsimp only at hr this
 rw[PN,this]at hr;cases hr
theorem Hh{α:Type}(g:α->Nat):∀V:List α,V≠[]->∃v∈V,∀u∈V,g u<=g v
 |[],h=>absurd rfl h
 |[x],_=>⟨x,by simp,fun u hu=>by rw[iD.mp hu];exact aY _⟩
 |x::y::V,_=>by
  obtain⟨v,hv,hm⟩:=Hh g (y::V) (by simp);by_cases c:g v<=g x
  ·refine⟨x,by simp,fun u hu=> ?_⟩;rcases dg.mp hu with e|e
   ·rw[e];exact aY _
   ·exact cV (hm u e) c
  ·refine⟨v,iG _ hv,fun u hu=> ?_⟩;rcases dg.mp hu with e|e
   ·rw[e];omega
   ·exact hm u e
theorem uO{ts:L0}{w:Bool}{n:Nat}{s:List Int}(hs:iV ts w n s):∃t∈lU ts w n,∀x∈s,x∈t:=by
 let C:=(bR ts w n).filter fun t=>s.all fun x=>decide (x∈t);have mC:∀t,t∈C↔t∈bR ts w n/\∀x∈s,x∈t:=fun t=>by
  show t∈(bR ts w n).filter _↔_;rw[fL,kh];simp
 have hne:C≠[]:=fun e=>by
  have:s∈C:=(mC s).mpr ⟨pH n s hs,fun x hx=>hx⟩;rw[e]at this;cases this
 obtain⟨t,ht,hm⟩:=Hh List.length C hne;obtain⟨h1,h2⟩:=(mC t).mp ht;have T:=nR n t h1;refine⟨t,Rw ⟨T.up,fun x hx=>ig.mpr (T.lt x hx),fun x hx y hy hne=> ?_,fun v hv hn=> ?_⟩,h2⟩
 ·show(!(bA ts x y==w))=false;rw[T.all x hx y hy hne];rfl
 ·apply Xn;intro hc;have go:∀x∈t,(bA ts x v==w)=true:=fun x hx=>by
   cases e:(bA ts x v==w)with
   |true=>rfl
   |false=>exact absurd ⟨x,hx,by show(!(bA ts x v==w))=true;rw[e];rfl⟩ hc
  have mU:∀x,x∈(rng n).filter (fun x=>decide (x∈t)||decide (x=v))↔x∈t\/x=v:=fun x=>by
   rw[fL,weo,Px,Px];constructor
   ·exact fun z=>z.2
   ·rintro(z|z)
    ·exact⟨ig.mpr (T.lt x z),.inl z⟩
    ·exact⟨by rw[z];exact hv,.inr z⟩
  have up:((rng n).filter (fun x=>decide (x∈t)||decide (x=v))).Pairwise (· < ·):=by
   refine List.Pairwise.filter _ ?_;unfold rng;rw[Qc];exact Yc.imp fun{a b} h=>by omega
  have U:iV ts w n ((rng n).filter (fun x=>decide (x∈t)||decide (x=v))):=⟨up,fun x hx=>ig.mp (fL.mp hx).1,fun x hx y hy hne=>by
   rcases(mU x).mp hx with a|a
   ·rcases(mU y).mp hy with b|b
    ·exact T.all x a y b hne
    ·rw[b];exact go x a
   ·rcases(mU y).mp hy with b|b
    ·rw[a,PN];exact go y b
    ·exact absurd (a.trans b.symm) hne⟩
  have inC:=(mC _).mpr ⟨pH n _ U,fun x hx=>(mU x).mpr (.inl (h2 x hx))⟩;have l1:=hm _ inC;have l2:=je (l:=v::t) (m:=(rng n).filter (fun x=>decide (x∈t)||decide (x=v))) (J2.mpr ⟨hn,T.up.imp fun{a b} h=>by omega⟩) (fun x hx=>by
   rcases dg.mp hx with z|z
   ·exact(mU x).mpr (.inr z)
   ·exact(mU x).mpr (.inl z))
  rw[yV]at l2;omega
end Hs
namespace Hs
open PySem L2 oV
section
variable{P:ξ}{w:τ}{K:W.Frag}{mg:L4}{base:Heap}
theorem blV_eq(a b:Bool):decide (V.bl a=V.bl b)=(a==b):=by cases a<;>cases b<;>rfl
theorem intV_eq(a b:Int):decide (V.int a=V.int b)=decide (a=b):=by
 by_cases e:a=b
 ·subst e;simp
 ·rw[fW e,fW (by intro z;injection z with z;exact e z)]
theorem Rg{a b:Int}:(!decide (V.int a=V.int b))= !decide (a=b):=by rw[intV_eq]
theorem any_ints(xs:List Int)(k:Int):((xs.map PyData.int).any fun d=>PyData.eqv d (.int k))=decide (k∈xs):=by
 induction xs with
 |nil=>simp
 |cons x xs ih=>
  rw[yS,Xb,ih];have e:PyData.eqv (.int x) (.int k)=decide (k=x):=by
   show(x==k)=_;rw[vC];simp;exact⟨fun h=>h.symm,fun h=>h.symm⟩
  rw[e,vC];simp
theorem zcg{α:Type}{p:α->Bool}{l:List α}{i:Nat}(hi:i<l.length):(l.take (i+1)).filter p=(l.take i).filter p++(if p l[i]=true then[l[i]]else[]):=by
 rw[vm,dG hi,FN];congr 1;show[l[i]].filter p=_;rw[FJ];rfl
theorem Lj(k:Nat):rng (k+1)=rng k++[(k:Int)]:=by unfold rng;rw[yU,bV];rfl
theorem Kd(n:Nat):dh n=(rng n).map V.int:=by unfold dh rng;rw[wg];rfl
noncomputable def zH(K:W.Frag):Sp:=fun vs H Q _=>∃(l m:Addr) (xs ys:List Int),vs=[.ref l,.ref m]/\SqL K H l (xs.map V.int)/\SqL K H m (ys.map V.int)/\∀r H',Same H H'->H' r=some (.lst ((xs.filter fun p=>decide (p∈ys)).map V.int))->H r=none->Q (.ref r) H'
theorem Jl{f:Addr}{fd:ρ}(F:Fun K "in_both" "in_both" qJ f fd):
  FnOk P w K mg base CX0 1 f fd ["ones","others"] (zH K):=by
 refine F.cH ["ones","others"] fun cdv A outer s H vs Q E hr h=> ?_;obtain⟨l,m,xs,ys,rfl,hL,hM,q⟩:=h;refine⟨_,(aV (bK (pK ["place"] ["others"] [1] (sO (pv 0)) (pG 0) (Ck (dR (jR K hr.units) (pv 0) (pv 1) (by with_unfolding_all rfl))) (pv 0)))),?_⟩;refine⟨_,rfl,l,_,rfl,hL,fun hz=> ?_⟩;let gR:Nat->List V->St->Hp->Prop:=fun k acc σ H'=>acc=((xs.take k).filter fun p=>decide (p∈ys)).map V.int/\Same H H'/\∃o,σ=[o,some (.ref m)];refine yQ (xs:=xs.map V.int) gR ⟨rfl,Same.refl _,_,rfl⟩ (fun k acc σ H' _ p=>p.2.1.seq hL) (fun k acc σ H' hk p=> ?_) hz (fun k x acc σ H' hx p=> ?_) (fun acc σ H' p=> ?_)
 ·rw[p.1,aL];exact cV (wk _ _) (by rw[tL];exact Fz _ _)
 ·obtain⟨rfl,sm,o,rfl⟩:=p;rw[dU]at hx;cases ex:xs[k]? with
  |none=>rw[ex]at hx;cases hx
  |some y=>
   rw[ex]at hx;cases hx;obtain⟨hk,ey⟩:=nF.mp ex;have e:=zcg (p:=fun p=>decide (p∈ys)) hk;rw[ey]at e;refine⟨_,rfl,_,rfl,m,_,_,.int y,rfl,.inl (sm.seq hM),cQ.ints ys,.int _,Cp ys,rfl,(by show 0<=60;decide),_,rfl,?_⟩;rw[any_ints];refine ite2 (fun c=> ?_) (fun c=> ?_)
   ·exact⟨_,rfl,by rw[e,aD c,bV];rfl,sm,_,rfl⟩
   ·exact⟨by rw[e,aA c,Cr],sm,_,rfl⟩
 ·intro p1 hp1;obtain⟨rfl,sm,_⟩:=p;rw[aL,rQ];exact q p1 _ (sm.trans (aO hp1 _)) aF (sm.free hp1)
noncomputable def Gu(K:W.Frag):Sp:=fun vs H Q _=>∃(a:Addr) (n i:Int) (ts:L0) (w:Bool),vs=[.ref a,.int i,.bl w]/\aQ K H a n ts/\∀r H',Same H H'->H' r=some (.lst ((qe ts w n.toNat i).map V.int))->H r=none->Q (.ref r) H'
theorem Mt{f f1:Addr}{fd d1:ρ}(F:Fun K "places_by_tie" "places_by_tie" eY f fd)(D1:bL K mg "has_tie" fO ["web","one","other"] f1 d1)(G1:FnOk P w K mg base CX0 1 f1 d1 ["web","one","other"] (rE K))(aN:mg "range"=none):
  FnOk P w K mg base CX0 2 f fd ["web","place","tied"] (Gu K):=by
 refine F.cH ["web","place","tied"] fun cdv A outer s H vs Q E hr h=> ?_;obtain⟨a,n,i,ts,w,rfl,hA,q⟩:=h;refine⟨_,(aV (bK (pK ["other"] ["place","web","tied"] [1,0,2] (JM rfl aN (aj (aR cI (pv 0) aB) ak)) (pG 0) (Ck (PW.pt (pw_and (dR op_ne (pv 0) (pv 1)) (pw_and1 (dR op_eq (pc G1 hr D1 (aj (pv 2) (aj (pv 1) (aj (pv 0) ak)))) (pv 3)))))) (pv 0)))),?_⟩;have h0:=hA.h0;have h10:=hA.h1;obtain⟨ta,ra,a1,a2,a3⟩:=id hA.web;refine⟨_,rfl,a,_,_,.int n,rfl,rfl,a1,rfl,n,rfl,by omega,by omega,?_⟩;let qj:Nat->List V->St->Hp->Prop:=fun k acc σ H'=>acc=((rng k).filter fun p=> !decide (p=i)&&(bA ts i p==w)).map V.int/\Same H H'/\∃o,σ=[o,some (.int i),some (.ref a),some (.bl w)];refine RQ (n:=n.toNat) qj ⟨rfl,Same.refl _,_,rfl⟩ (fun k acc σ H' hk p=> ?_) (by rw[gU];omega) (fun k acc σ H' hk p=> ?_) (fun acc σ H' p=> ?_)
 ·rw[p.1,aL];exact cV (wk _ _) (by unfold rng;simp)
 ·obtain⟨rfl,sm,o,rfl⟩:=p;have ek:(0+(k:Int))=(k:Int):=by omega
  rw[ek];have e:∀b,b=(!decide ((k:Int)=i)&&(bA ts i (k:Int)==w))->((rng (k+1)).filter fun p=> !decide (p=i)&&(bA ts i p==w))=((rng k).filter fun p=> !decide (p=i)&&(bA ts i p==w))++(if b=true then[(k:Int)]else[]):=fun b hb=>by
   rw[Lj,FN,FJ,hb];rfl
  refine⟨_,rfl,_,rfl,rfl,_,rfl,?_⟩;rw[Rg];refine ite2 (fun c=> ?_) (fun c=> ?_)
  ·refine⟨_,rfl,_,rfl,_,rfl,a,n,_,_,ts,rfl,(hA.same sm).web,fun H5 s5=>⟨_,rfl,rfl,_,rfl,?_⟩⟩;rw[blV_eq,tied_eq hA.pk];refine ite2 (fun c2=> ?_) (fun c2=> ?_)
   ·exact⟨_,rfl,by rw[e true (by rw[c,c2];rfl),bV];rfl,sm.trans s5,_,rfl⟩
   ·exact⟨by rw[e false (by rw[c,Bool.eq_false_iff.mpr c2];rfl)];simp,sm.trans s5,_,rfl⟩
  ·exact⟨by rw[e false (by rw[Bool.eq_false_iff.mpr c];rfl)];simp,sm,_,rfl⟩
 ·intro p1 hp1;obtain⟨rfl,sm,_⟩:=p;exact q p1 _ (sm.trans (aO hp1 _)) aF (sm.free hp1)
noncomputable def uX(K:W.Frag)(H:Hp)(r:Addr)(ss:List (List Int)):Prop:=∃its:List (Addr×List Int),H r=some (.lst (its.map fun p=>V.ref p.1))/\(∀p∈its,SqT K H p.1 (p.2.map V.int))/\its.map (fun p=>p.2)=ss
noncomputable def bB(ss:List (List Int))(ts:L0)(w:Bool)(n:Nat):Prop:=ss.Perm (lU ts w n)/\ss.Pairwise fun a b=>HT.lexLt b a=false
theorem Rv{ts:L0}{w:Bool}{n:Nat}(h2:2<=(lU ts w n).length):∀s∈lU ts w n,s≠[]:=by
 intro s hs e;subst e;have F:=HS hs;cases n with
 |zero=>
  have:(lU ts w 0).length<=1:=by
   show(([[]]:List (List Int)).filter (qd ts w 0)).length<=1;exact wk _ _
  omega
 |succ n=>
  obtain⟨x,hx,_⟩:=F.max 0 (ig.mpr ⟨by omega,by omega⟩) (by simp);cases hx
structure Fit(K:W.Frag)(H:Hp)(ts:L0)(w:Bool)(n:Nat)(q:Addr×Addr×Addr×List Int):Prop where
 pr:SqT K H q.1 [.ref q.2.1,.ref q.2.2.1]
 so:SqT K H q.2.1 (q.2.2.2.map V.int)
 le:H q.2.2.1=some (.lst ((kI ts w n q.2.2.2).map V.int))
theorem Fit.same{H H':Hp}{ts:L0}{w:Bool}{n:Nat}{q:Addr×Addr×Addr×List Int}(h:Fit K H ts w n q)(e:Same H H'):Fit K H' ts w n q:=⟨e.tup h.pr,e.tup h.so,e _ _ h.le⟩
noncomputable def O9(K:W.Frag)(H:Hp)(fd:Addr)(ts:L0)(w:Bool)(n:Nat)(ss:List (List Int)):Prop:=∃its:List (Addr×Addr×Addr×List Int),H fd=some (.lst (its.map fun q=>V.ref q.1))/\(∀q∈its,Fit K H ts w n q)/\its.map (fun q=>q.2.2.2)=ss
noncomputable def tZ(K:W.Frag):Sp:=fun vs H Q _=>∃(fl:Addr) (fas:List Addr) (ts:L0) (w:Bool) (n:Nat),vs=[.ref fl]/\H fl=some (.lst (fas.map V.ref))/\fas.length=n/\n<=10/\(∀(i:Nat) f,fas[i]? =some f->H f=some (.lst ((qe ts w n (i:Int)).map V.int)))/\
 ∀r ss H',Same H H'->uX K H' r ss->bB ss ts w n->H r=none->Q (.ref r) H'
theorem Ad{f f1:Addr}{fd d1:ρ}(F:Fun K "full_sets" "full_sets" lK f fd)(D1:bL K mg "in_both" qJ ["ones","others"] f1 d1)(G1:FnOk P w K mg base CX0 1 f1 d1 ["ones","others"] (zH K))(bZ:mg "list"=none)(aN:mg "range"=none)(cg:mg "len"=none)(eU:mg "sorted"=none):
  FnOk P w K mg base CX0 2 f fd ["friends"] (tZ K):=by
 refine F.cH ["friends","found","place","wider"] fun cdv A outer s H vs Q E hr h=> ?_;obtain⟨fl,fas,ts,w,n,rfl,hF,hn,h10,hfr,q⟩:=h;refine bf ?_;intro Y;refine⟨_,(aP (pS 1 (pe_lst (aj (fU (aj (fU ak) (aj (gZ rfl rfl bZ rfl aN (aj (pB vq cg (aj (pv 0) ak)) ak)) ak))) ak))) (aP (ps_for yW rfl (JM rfl aN (aj (pB vq cg (aj (pv 0) ak)) ak)) (pG 2) (aP (pX 3 ["some","left"] ["place","friends"] [2,0] (sO (pv 1)) (dJ K (n:=2) rfl (oU (pG 0) (oU (pG 1) Ci))) (Ck (dR (jR K hr.units) (pv 2) (pv 1) (by with_unfolding_all rfl))) (fU (aj (bC (Aa K) (pv 0) (fU (aj (pv 2) ak))) (aj (pc G1 hr D1 (aj (pv 1) (aj (aR (gA K) (pv 3) (pv 2)) ak))) ak)))) (aV (pS 1 (bC op_cat (pv 1) (pv 3)))))) (aV (bK (pB yD eU (aj (pK ["some","left"] [] [] (sO (pv 1)) (dJ K (n:=2) rfl (oU (pG 0) (oU (pG 1) Ci))) (Ck (lC (Je K (pv 1) (fun _=>rfl)))) (pv 0)) ak)))))),?_⟩;refine iw ?_;intro c3 c2;have el:((fas.map V.ref).length:Int)=(n:Int):=by rw[aL,hn]
 refine⟨(by show 0<=sizeLine;decide),fun e1 he1=> ?_⟩;have s1:=aO he1 (.tup []);have t1:SqT K (upd H e1 (.tup [])) e1 []:=SqT.of aF;generalize (upd H e1 (.tup []))=H1 at *;refine⟨_,rfl,fl,_,rfl,.inl (SqL.of (s1 _ _ hF)),fun _=>⟨_,rfl,by omega,by rw[el];omega,fun rl hrl=> ?_⟩⟩;have er:dh ((fas.map V.ref).length:Int).toNat=(rng n).map V.int:=by rw[el,Im,Kd]
 rw[er];have s2:=aO hrl (.lst ((rng n).map V.int));have t2:(upd H1 rl (.lst ((rng n).map V.int))) rl=some (.lst ((rng n).map V.int)):=aF;generalize (upd H1 rl (.lst ((rng n).map V.int)))=H2 at *;refine⟨(by show 2<=sizeLine;decide),fun e3 he3=> ?_⟩;have s3:=aO he3 (.tup [.ref e1,.ref rl]);have t3:SqT K (upd H2 e3 (.tup [.ref e1,.ref rl])) e3 [.ref e1,.ref rl]:=SqT.of aF;generalize (upd H2 e3 (.tup [.ref e1,.ref rl]))=H3 at *;refine⟨(by show 1<=sizeLine;decide),fun fd hfd=> ?_⟩;have s4:=aO hfd (.lst [.ref e3]);have F4:O9 K (upd H3 fd (.lst [.ref e3])) fd ts w n (bR ts w 0):=by
  refine⟨[(e3,e1,rl,[])],aF,fun q hq=> ?_,rfl⟩;rw[iD.mp hq];exact⟨s4.tup t3,s4.tup (s3.tup (s2.tup t1)),by rw[MP];exact s4 _ _ (s3 _ _ t2)⟩
 have s04:=s1.trans (s2.trans (s3.trans s4));generalize (upd H3 fd (.lst [.ref e3]))=H4 at *;refine⟨_,rfl,fl,_,rfl,.inl (SqL.of (s04 _ _ hF)),fun _=>⟨_,rfl,by omega,by rw[el];omega,?_⟩⟩;have en:((fas.map V.ref).length:Int).toNat=n:=by rw[el,Im]
 rw[en];let gR:Nat->St->Hp->Prop:=fun k σ H'=>Same H H'/\∃fd b2 b3,O9 K H' fd ts w n (bR ts w k)/\σ=[some (.ref fl),some (.ref fd),b2,b3];refine RP (n:=n) gR ⟨s04,fd,_,_,F4,rfl⟩ (fun k σ H' hk p=> ?_) (fun σ H' p=> ?_)
 ·obtain⟨s5,fd,b2,b3,F5,rfl⟩:=p;have ek:(0+(k:Int))=(k:Int):=by omega
  rw[ek];obtain⟨its,f1,f2,f3⟩:=F5;have hlen:its.length<=1024:=by
   have a:=zP (ts:=ts) (w:=w) k;rw[<-f3,aL]at a;have b:2^k<=2^10:=Nat.pow_le_pow_right (by decide) (by omega);have c:2^10=1024:=by decide
   omega
  have hkf:k<fas.length:=by omega
  have hfk:(fas.map V.ref)[k]? =some (.ref fas[k]):=by rw[dU,dG hkf];rfl
  have hgk:=hfr k fas[k] (dG hkf);refine⟨_,rfl,fd,_,rfl,SqL.of f1,fun hzf=> ?_⟩;let qj:Nat->List V->St->Hp->Prop:=fun i acc σ Ij=>(∃its2:List (Addr×Addr×Addr×List Int),acc=its2.map (fun q=>V.ref q.1)/\(∀q∈its2,Fit K Ij ts w n q)/\its2.map (fun q=>q.2.2.2)=(((bR ts w k).take i).filter fun s=>goB ts w s (k:Int)).map fun s=>s++[(k:Int)])/\Same H' Ij/\∃o1 o2,σ=[o1,o2,some (.int (k:Int)),some (.ref fl)];refine yQ (xs:=its.map fun q=>V.ref q.1) qj ⟨⟨[],rfl,fun q hq=>(nomatch hq),rfl⟩,Same.refl _,_,_,rfl⟩ (fun i acc σ Ij _ p=>p.2.1.seq (SqL.of f1)) (fun i acc σ Ij hi p=> ?_) hzf (fun i x acc σ Ij hx p=> ?_) (fun acc σ Ij p=> ?_)
  ·obtain⟨⟨its2,rfl,g2,g3⟩,_⟩:=p;have a:=kO List.length g3;rw[aL,aL]at a;rw[aL,a];exact cV (wk _ _) (by rw[tL];exact Fz _ _)
  ·obtain⟨⟨its2,rfl,g2,g3⟩,sm,o1,o2,rfl⟩:=p;rw[dU]at hx;cases ex:its[i]? with
   |none=>rw[ex]at hx;cases hx
   |some v=>
    rw[ex]at hx;cases hx;have fv:=(f2 v (tM ex)).same sm;have hsv:(bR ts w k)[i]? =some v.2.2.2:=by rw[<-f3,dU,ex];rfl
    obtain⟨hi,esv⟩:=nF.mp hsv;have Sv:=nR k v.2.2.2 (tM hsv);have e:=zcg (p:=fun s=>goB ts w s (k:Int)) hi;rw[esv]at e;refine⟨v.1,_,rfl,fv.pr,rfl,_,_,rfl,_,_,rfl,rfl,?_⟩;refine⟨_,rfl,_,rfl,v.2.2.1,_,_,.int (k:Int),rfl,.inl (SqL.of fv.le),cQ.ints _,.int _,Cp _,rfl,(by show 0<=60;decide),_,rfl,?_⟩;rw[any_ints,Rh Sv hk];refine ite2 (fun c=> ?_) (fun c=> ?_)
    ·refine⟨_,rfl,_,rfl,(by show 1<=sizeLine;decide),fun e5 he5=> ?_⟩;have s6:=aO he5 (.tup [.int (k:Int)]);have t6:SqT K (upd Ij e5 (.tup [.int (k:Int)])) e5 [.int (k:Int)]:=SqT.of aF;generalize (upd Ij e5 (.tup [.int (k:Int)]))=H6 at *;have hvl:v.2.2.2.length<=10:=by
      have a:=je (l:=v.2.2.2) (m:=rng n) (Sv.up.imp fun{x y} h=>by omega) (fun x hx=>ig.mpr (by have:=Sv.lt x hx;omega));have b:(rng n).length=n:=by unfold rng;simp
      omega
     refine⟨v.2.1,e5,_,_,rfl,rfl,s6.tup fv.so,t6,(by rw[aL,gU];show v.2.2.2.length+1<=_;omega),fun r7 H7 s7 h7=> ?_⟩;have s67:=s6.trans s7;refine⟨_,rfl,_,rfl,_,rfl,fl,_,_,.ref fas[k],rfl,rfl,SqL.of ((s5.trans (sm.trans s67)) _ _ hF),atI_nat hfk,v.2.2.1,fas[k],_,_,rfl,SqL.of (s67 _ _ fv.le),SqL.of ((s5.trans (sm.trans s67)) _ _ hgk),fun r8 H8 s8 h8 n8=> ?_⟩;refine⟨(by show 2<=sizeLine;decide),fun e9 he9=> ?_⟩;have s9:=aO he9 (.tup [.ref r7,.ref r8]);have s69:=s67.trans (s8.trans s9);refine⟨⟨its2++[(e9,r7,r8,v.2.2.2++[(k:Int)])],by rw[bV];rfl,fun q hq=> ?_,by rw[bV,g3,e,aD c,bV];rfl⟩,sm.trans s69,_,_,rfl⟩;rcases oY.mp hq with z|z
     ·exact(g2 q z).same s69
     ·rw[iD.mp z];refine⟨SqT.of aF,s9.tup (s8.tup ?_),by rw[Jr];exact s9 _ _ h8⟩;rw[bV];exact h7
    ·exact⟨⟨its2,rfl,g2,by rw[g3,e,aA c,Cr]⟩,sm,_,_,rfl⟩
  ·intro p1 hp1;obtain⟨⟨its2,rfl,g2,g3⟩,sm,o1,o2,rfl⟩:=p;have hle:(its.map fun q=>V.ref q.1).length=(bR ts w k).length:=by rw[aL,<-f3,aL]
   rw[hle,rQ]at g3;have s6:=aO hp1 (.lst (its2.map fun q=>V.ref q.1));have l2:its2.length<=1024:=by
    have a:=kO List.length g3;rw[aL,aL]at a;have b:=wk (fun s=>goB ts w s (k:Int)) (bR ts w k);rw[<-f3,aL]at b;rw[<-f3]at a;omega
   refine⟨_,rfl,_,rfl,fd,p1,_,_,rfl,rfl,(sm.trans s6) _ _ f1,aF,by rw[aL,aL,gU];omega,fun p2 hp2=> ?_⟩;have s7:=aO hp2 (.lst ((its.map fun q=>V.ref q.1)++(its2.map fun q=>V.ref q.1)));refine⟨s5.trans (sm.trans (s6.trans s7)),p2,_,_,⟨its++its2,by rw[aF,bV],fun q hq=> ?_,by rw[bV,f3,g3];rfl⟩,rfl⟩;rcases oY.mp hq with z|z
   ·exact(f2 q z).same (sm.trans (s6.trans s7))
   ·exact(g2 q z).same (s6.trans s7)
 ·obtain⟨s5,fd,b2,b3,⟨its,f1,f2,f3⟩,rfl⟩:=p;refine⟨_,rfl,fd,_,rfl,SqL.of f1,fun hzf=> ?_⟩;let Bw:Nat->List V->St->Hp->Prop:=fun i acc σ Ij=>(∃its2:List (Addr×List Int),acc=its2.map (fun q=>V.ref q.1)/\(∀q∈its2,SqT K H' q.1 (q.2.map V.int))/\its2.map (fun q=>q.2)=((bR ts w n).take i).filter (qd ts w n))/\Same H' Ij/\∃o1 o2,σ=[o1,o2];refine yQ (xs:=its.map fun q=>V.ref q.1) Bw ⟨⟨[],rfl,fun q hq=>(nomatch hq),rfl⟩,Same.refl _,_,_,rfl⟩ (fun i acc σ Ij _ p=>p.2.1.seq (SqL.of f1)) (fun i acc σ Ij hi p=> ?_) hzf (fun i x acc σ Ij hx p=> ?_) (fun acc σ Ij p=> ?_)
  ·obtain⟨⟨its2,rfl,g2,g3⟩,_⟩:=p;have a:=kO List.length g3;rw[aL]at a;rw[aL,a];exact cV (wk _ _) (by rw[tL];exact Fz _ _)
  ·obtain⟨⟨its2,rfl,g2,g3⟩,sm,o1,o2,rfl⟩:=p;rw[dU]at hx;cases ex:its[i]? with
   |none=>rw[ex]at hx;cases hx
   |some v=>
    rw[ex]at hx;cases hx;have fv:=f2 v (tM ex);have hsv:(bR ts w n)[i]? =some v.2.2.2:=by rw[<-f3,dU,ex];rfl
    obtain⟨hi,esv⟩:=nF.mp hsv;have e:=zcg (p:=qd ts w n) hi;rw[esv]at e;refine⟨v.1,_,rfl,sm.tup fv.pr,rfl,_,_,rfl,_,_,rfl,rfl,?_⟩;refine⟨_,rfl,_,.inl ⟨_,SqL.of (sm _ _ fv.le),rfl⟩,?_⟩;have eb:(!!((kI ts w n v.2.2.2).map V.int).isEmpty)=qd ts w n v.2.2.2:=by
     rw[Bool.not_not,<-Js];cases kI ts w n v.2.2.2<;>rfl
    dsimp only;rw[eb];refine ite2 (fun c=> ?_) (fun c=> ?_)
    ·refine⟨_,rfl,⟨its2++[(v.2.1,v.2.2.2)],by rw[bV];rfl,fun q hq=> ?_,by rw[bV,g3,e,aD c];rfl⟩,sm,_,_,rfl⟩;rcases oY.mp hq with z|z
     ·exact g2 q z
     ·rw[iD.mp z];exact fv.so
    ·exact⟨⟨its2,rfl,g2,by rw[g3,e,aA c,Cr]⟩,sm,_,_,rfl⟩
  ·intro p1 hp1;obtain⟨⟨its2,rfl,g2,g3⟩,sm,_⟩:=p;have hle:(its.map fun q=>V.ref q.1).length=(bR ts w n).length:=by rw[aL,<-f3,aL]
   rw[hle,rQ]at g3;have g4:its2.map (fun q=>q.2)=lU ts w n:=g3;have hl2:its2.length=(lU ts w n).length:=by rw[<-g4,aL]
   have h36:=wJ (ts:=ts) (w:=w) h10;have s6:=aO hp1 (.lst (its2.map fun q=>V.ref q.1));refine⟨p1,its2,rfl,SqL.of aF,fun p hp=>⟨(sm.trans s6).tup (g2 p hp),fun h2=> ?_⟩,by omega,fun l its' hl hpm hpw=> ?_⟩
   ·exact Rv (ts:=ts) (w:=w) (n:=n) (by omega) p.2 (by rw[<-g4];exact jC.mpr ⟨p,hp,rfl⟩)
   ·have s7:=aO hl (.lst (its'.map fun q=>V.ref q.1));have s57:=s5.trans (sm.trans (s6.trans s7));refine q l (its'.map fun q=>q.2) _ s57 ⟨its',aF,fun p hp=>(sm.trans (s6.trans s7)).tup (g2 p (hpm.mem_iff.mp hp)),rfl⟩ ⟨?_,?_⟩ ((s5.trans (sm.trans s6)).free hl)
    ·rw[<-g4];exact hpm.map _
    ·rw[Qc];exact hpw
noncomputable def rF(K:W.Frag):Sp:=fun vs H Q _=>∃(a:Addr) (n:Int) (ts:L0),vs=[.ref a]/\aQ K H a n ts/\∀r ss H',Same H H'->uX K H' r ss->bB ss ts false n.toNat->H r=none->Q (.ref r) H'
theorem xX{f f1 f2 f3:Addr}{fd d1 d2 d3:ρ}(F:Fun K "full_apart" "full_apart" jP f fd)(D1:bL K mg "need_web" TX ["thing"] f1 d1)(G1:FnOk P w K mg base CX0 7 f1 d1 ["thing"] (fM K))(D2:bL K mg "full_sets" lK ["friends"] f2 d2)(G2:FnOk P w K mg base CX0 2 f2 d2 ["friends"] (tZ K))(D3:bL K mg "places_by_tie" eY ["web","place","tied"] f3 d3)(G3:FnOk P w K mg base CX0 2 f3 d3 ["web","place","tied"] (Gu K))(aN:mg "range"=none):
  FnOk P w K mg base CX0 8 f fd ["web"] (rF K):=by
 refine F.cH ["web"] fun cdv A outer s H vs Q E hr h=> ?_;obtain⟨a,n,ts,rfl,hA,q⟩:=h;refine bf ?_;intro Y;refine⟨_,(aP (oO (pc G1 hr D1 (aj (pv 0) ak))) (aV (bK (pc G2 hr D2 (aj (pK ["place"] ["web"] [0] (JM rfl aN (aj (aR cI (pv 0) aB) ak)) (pG 0) oR (pc G3 hr D3 (aj (pv 1) (aj (pv 0) (aj rB ak))))) ak))))),?_⟩;refine lQ ?_;intro c2;have h0:=hA.h0;have h10:=hA.h1;refine⟨_,rfl,_,_,rfl,hA.web.dv.dx,hA.ok,fun H1 s1=> ?_⟩;have hA1:=hA.same s1;obtain⟨ta,ra,a1,a2,a3⟩:=id hA1.web;refine⟨_,rfl,a,_,_,.int n,rfl,rfl,a1,rfl,n,rfl,by omega,by omega,?_⟩;let gR:Nat->List V->St->Hp->Prop:=fun k acc σ H'=>(∃fas:List Addr,acc=fas.map V.ref/\fas.length=k/\∀(i:Nat) f,fas[i]? =some f->H' f=some (.lst ((qe ts false n.toNat (i:Int)).map V.int)))/\Same H1 H'/\∃o,σ=[o,some (.ref a)];refine RQ (n:=n.toNat) gR ⟨⟨[],rfl,rfl,fun i f h=>by simp at h⟩,Same.refl _,_,rfl⟩ (fun k acc σ H' hk p=> ?_) (by rw[gU];omega) (fun k acc σ H' hk p=> ?_) (fun acc σ H' p=> ?_)
 ·obtain⟨⟨fas,rfl,hl,_⟩,_⟩:=p;rw[aL];omega
 ·obtain⟨⟨fas,rfl,hl,hf⟩,sm,o,rfl⟩:=p;have ek:(0+(k:Int))=(k:Int):=by omega
  rw[ek];refine⟨_,rfl,_,rfl,a,n,_,ts,false,rfl,hA1.same sm,fun r H5 s5 h5 n5=>⟨⟨fas++[r],by rw[bV];rfl,by rw[qz,hl];rfl,fun i f hi=> ?_⟩,sm.trans s5,_,rfl⟩⟩;by_cases c:i<fas.length
  ·rw[yeh c]at hi;exact s5 _ _ (hf i f hi)
  ·have hb:i<(fas++[r]).length:=(nF.mp hi).1;rw[qz]at hb;have e:i=fas.length:=by have:[r].length=1:=rfl;omega
   rw[e,ydl (aY _),Nat.sub_self]at hi;cases hi;rw[e,hl];exact h5
 ·intro p1 hp1;obtain⟨⟨fas,rfl,hl,hf⟩,sm,_⟩:=p;have s6:=aO hp1 (.lst (fas.map V.ref));exact⟨p1,fas,ts,false,n.toNat,rfl,aF,hl,by omega,fun i f hi=>s6 _ _ (hf i f hi),fun r ss H7 s7 h7 h8 n7=>q r ss H7 (s1.trans (sm.trans (s6.trans s7))) h7 h8 ((s1.trans (sm.trans s6)).free n7)⟩
end
end Hs
namespace L2
open PySem PySem.Spec PyProof.Rows
theorem Ov{n:Nat}(h:n<=10^200):n<2^700:=Io h (by decide+kernel)
section
variable{X:Cx}
theorem pU:OpR X (binaryOp .FloorDiv) (rI (fun _ j=>0<j/\j.natAbs<=10^200) fun i j=> .int (i/j)):=opI fun i j _ _ _ _ _ hc q=>by
 have h1:(0:Int)<j:=hc.1;refine floordiv_int (by omega) ?_ (Or.inl (wdm ?_))
 ·rw[wcw _ (by omega)];exact q
 ·have h3:j.natAbs≠0:=by omega
  have h4:=(Nat.log2_lt h3).mpr (Ov hc.2);omega
end
end L2
namespace Hs
open PySem L2 oV
theorem Az(m n:Nat):Nat.gcd n (m %n)=Nat.gcd m n:=by
 rw[Nat.gcd_comm m n,Nat.gcd_rec n m,Nat.gcd_comm]
structure Low(a:Int)(b:Nat)(u:Int)(v:Nat):Prop where
 pos:0<v
 cop:Nat.gcd u.natAbs v=1
 eq:u*(b:Int)=a*(v:Int)
 lu:u.natAbs<=a.natAbs
 lv:v<=b
 nn:0<=a->0<=u
theorem yc(a:Int)(b:Nat)(hb:0<b):Low a b (a/((Nat.gcd a.natAbs b:Nat):Int)) (b/Nat.gcd a.natAbs b):=by
 have hg:0<Nat.gcd a.natAbs b:=wbn _ hb;obtain⟨x,hx⟩:((Nat.gcd a.natAbs b:Nat):Int)∣a:=Int.natAbs_dvd_natAbs.mp (by rw[Pq];exact Nat.gcd_dvd_left _ _);obtain⟨y,hy⟩:=X6 a.natAbs b;generalize hgg:Nat.gcd a.natAbs b=g at *;have e1:a/(g:Int)=x:=by rw[hx];exact wbm _ (by omega)
 have e2:b/g=y:=by rw[hy];exact Pr _ hg
 rw[e1,e2];have hna:a.natAbs=g*x.natAbs:=by rw[hx,P0];rfl
 have hy0:0<y:=by
  rcases Uc y with h|h
  ·subst h;simp at hy;omega
  ·exact h
 refine⟨hy0,?_,?_,?_,?_,fun h=> ?_⟩
 ·have h2:Nat.gcd (g*x.natAbs) (g*y)=g:=by rw[<-hna,<-hy];exact hgg
  rw[Nat.gcd_mul_left]at h2;have h3:g*Nat.gcd x.natAbs y=g*1:=by omega
  exact wdf hg h3
 ·rw[hx];have:(b:Int)=(g:Int)*(y:Int):=by rw[hy];exact T9 _ _
  rw[this,zq (g:Int) x,RW]
 ·rw[hna];exact wej _ hg
 ·rw[hy];exact wej _ hg
 ·rw[<-e1];exact wep h (by omega)
theorem abs_eq(i:Int):(if i<0 then -i else i)=((i.natAbs:Nat):Int):=by split<;>omega
theorem Nq(a:Int)(b:Nat)(hb:0<b):Nat.gcd a.natAbs b<=b:=PX hb (X6 _ _)
section
variable{P:ξ}{w:τ}{K:W.Frag}{mg:L4}{base:Heap}
noncomputable def UJ(K:W.Frag):Sp:=fun vs H Q _=>∃(m n:Nat),vs=[.int m,.int n]/\Q (.int ((Nat.gcd m n:Nat):Int)) H
theorem YQ{f:Addr}{fd:ρ}(F:Fun K "greatest_divisor" "greatest_divisor" zbs f fd):FnOk P w K mg base CX0 1 f fd ["one","other"] (UJ K):=by
 refine F.cH ["one","other","rest"] fun cdv A outer s H vs Q E hr h=> ?_;obtain⟨m,n,rfl,q⟩:=h;refine bf ?_;intro Y;refine⟨_,aP (ps_while yW (pt_truth (pv 1) (fun _=>rfl)) (aP (pS 2 (bC op_mod (pv 0) (pv 1))) (aP (pS 0 (pv 1)) (aV (pS 1 (pv 2)))))) (aV (bK (pv 0))),?_⟩;refine lQ ?_;intro c2;refine⟨fun k σ H'=>H'=H/\∃(m':Nat) (r:Option V),σ=[some (.int (m':Int)),some (.int (k:Int)),r]/\Nat.gcd m' k=Nat.gcd m n,⟨n,rfl,m,_,rfl,rfl⟩,?_⟩;rintro k σ H' ⟨rfl,m',r,rfl,hg⟩;refine⟨_,rfl,_,rfl,?_⟩;refine ite2 (fun c=> ?_) (fun c=> ?_)
 ·have hk:0<k:=by
   rcases Uc k with h|h
   ·subst h;exact absurd c (by decide)
   ·exact h
  refine⟨fun σ' H2=>H2=H'/\∃r',σ'=[some (.int (k:Int)),some (.int ((m' %k:Nat):Int)),r'],fun σ' H2 ⟨e1,r',e2⟩=>⟨m' %k,Nat.mod_lt _ hk,e1,k,r',e2,?_⟩,?_⟩
  ·rw[Az];exact hg
  ·exact⟨_,rfl,_,rfl,_,_,rfl,rfl,T6.mpr hk,_,rfl,_,rfl,rfl,_,rfl⟩
 ·have hk:k=0:=by
   rcases Uc k with h|h
   ·exact h
   ·exfalso;apply c;show((k:Int) !=0)=true;simp;omega
  subst hk;rw[Nat.gcd_zero_right]at hg;refine⟨_,rfl,?_⟩;rw[hg];exact q
noncomputable def zG(K:W.Frag):Sp:=fun vs H Q _=>∃(a:Int) (b:Nat),vs=[.int a,.int b]/\0<b/\b<=10^200/\∀p H' u v,Same H H'->H' p=some (.tup [.int u,.int ((v:Nat):Int)])->Low a b u v->Q (.ref p) H'
theorem Hr{H:Hp}{a:Int}{b:Nat}{p:Addr}(hp:H p=none):(upd H p (.tup [.int (a/((Nat.gcd a.natAbs b:Nat):Int)),.int ((b:Int)/((Nat.gcd a.natAbs b:Nat):Int))])) p=some (.tup [.int (a/((Nat.gcd a.natAbs b:Nat):Int)),.int (((b/Nat.gcd a.natAbs b:Nat)):Int)]):=by
 rw[aF,wee]
theorem Vn{f f1:Addr}{fd d1:ρ}(F:Fun K "lowest" "lowest" iZ f fd)(D1:bL K mg "greatest_divisor" zbs ["one","other"] f1 d1)(G1:FnOk P w K mg base CX0 1 f1 d1 ["one","other"] (UJ K))(mA:mg "abs"=none):
  FnOk P w K mg base CX0 2 f fd ["a","b"] (zG K):=by
 refine F.cH ["a","b","by"] fun cdv A outer s H vs Q E hr h=> ?_;obtain⟨a,b,rfl,hb,hB,q⟩:=h;refine bf ?_;intro Y;refine⟨_,aP (pS 2 (pc G1 hr D1 (aj (pB call_abs mA (aj (pv 0) ak)) (aj (pv 1) ak)))) (aV (bK (fU (aj (bC pU (pv 0) (pv 2)) (aj (bC pU (pv 1) (pv 2)) ak))))),?_⟩;refine lQ ?_;intro c2;refine⟨_,rfl,a,rfl,_,rfl,a.natAbs,b,?_,?_⟩
 ·rw[abs_eq];rfl
 have hg:0<Nat.gcd a.natAbs b:=wbn _ hb;have hg2:(((Nat.gcd a.natAbs b:Nat):Int)).natAbs<=10^200:=cV (Nq a b hb) hB;refine⟨_,rfl,_,rfl,_,_,rfl,rfl,⟨T6.mpr hg,hg2⟩,_,rfl,_,rfl,_,_,rfl,rfl,⟨T6.mpr hg,hg2⟩,(by show 2<=sizeLine;decide),fun p hp=> ?_⟩;exact q p _ _ _ (aO hp _) (Hr hp) (yc a b hb)
noncomputable def bh(n:Nat)(X:Nat->Int):List V:=((List.range (n+1)).map X).map V.int
noncomputable def cD(n:Nat)(c:Nat->Nat):List Int:=(List.range n).map fun k=>((c k:Nat):Int)
noncomputable def flds(cl co ro:Addr)(o:Int):List (Str×V):=[("cells",.ref cl),("over",.int o),("columns",.ref co),("rows",.ref ro)]
structure cL(K:W.Frag)(C:Addr)(H0 H:Hp)(o dx cl co ro:Addr)(rws:List Addr)(n m:Nat)(T:Sx.Tab):Prop where
 same:Same H0 H
 o0:H0 o=none
 Wz:H0 cl=none
 Tz:H0 co=none
 Td:H0 ro=none
 ne:co≠ro
 nc:co∉rws
 nr:ro∉rws
 at_:H o=some (.ins C dx (flds cl co ro T.over))
 cells:H cl=some (.lst (rws.map V.ref))
 len:rws.length=m+1
 row:∀r a,rws[r]? =some a->H a=some (.lst (bh n (T.cell r)))
 cols:H co=some (.lst ((cD n T.col).map V.int))
 rows:H ro=some (.lst ((cD m T.row).map V.int))
noncomputable def lX(K:W.Frag)(C:Addr)(H0 H:Hp)(o:Addr)(n m:Nat)(T:Sx.Tab):Prop:=∃dx cl co ro rws,cL K C H0 H o dx cl co ro rws n m T
theorem cL.sm{C:Addr}{H0 H H':Hp}{o dx cl co ro:Addr}{rws:List Addr}{n m:Nat}{T:Sx.Tab}(h:cL K C H0 H o dx cl co ro rws n m T)(s:Same H H'):cL K C H0 H' o dx cl co ro rws n m T:=
 ⟨h.same.trans s,h.o0,h.Wz,h.Tz,h.Td,h.ne,h.nc,h.nr,s _ _ h.at_,s _ _ h.cells,h.len,fun r a e=>s _ _ (h.row r a e),s _ _ h.cols,s _ _ h.rows⟩
theorem lX.sm{C:Addr}{H0 H H':Hp}{o:Addr}{n m:Nat}{T:Sx.Tab}(h:lX K C H0 H o n m T)(s:Same H H'):lX K C H0 H' o n m T:=by
 obtain⟨dx,cl,co,ro,rws,h⟩:=h;exact⟨dx,cl,co,ro,rws,h.sm s⟩
structure TG(n m:Nat)(S:Nat->Nat->Bool)(wt:Nat->Int)(T:Sx.Tab):Prop where
 good:Sx.Good n m S wt T
 n10:n<=10
 Y8:m<=40
 wb:∀p,p<n->0<=wt p/\wt p<=99
 cov:∀p,p<n->∃k,k<m/\S k p=true
theorem TG.cell{n m:Nat}{S:Nat->Nat->Bool}{wt:Nat->Int}{T:Sx.Tab}(h:TG n m S wt T){r c:Nat}(hr:r<=m)(hc:c<=n): -4000000000<=T.cell r c/\T.cell r c<=4000000000:=by
 have a:=h.good.Ou h.wb hr hc;have b:=Sx.Og (k:=n+1) (by have:=h.n10;omega);omega
theorem TG.over{n m:Nat}{S:Nat->Nat->Bool}{wt:Nat->Int}{T:Sx.Tab}(h:TG n m S wt T):0<T.over/\T.over<=39916800:=by
 have a:=h.good.Qv;have b:=Sx.Og (k:=n+1) (by have:=h.n10;omega);exact⟨h.good.pos,by omega⟩
theorem Ik(n:Nat)(X:Nat->Int):(bh n X).length=n+1:=by unfold bh;rw[aL,aL,vo]
theorem pO{n c:Nat}(X:Nat->Int)(h:c<=n):(bh n X)[c]? =some (.int (X c)):=by
 unfold bh;rw[dU,dU,R0 (by omega)];rfl
theorem eN{n c:Nat}(X:Nat->Int)(h:c<=n):atI (bh n X) (c:Int)=some (.int (X c)):=atI_nat (pO X h)
theorem atI_last{xs:List V}{v:V}(h:xs[xs.length-1]? =some v)(h0:0<xs.length):atI xs (-1)=some v:=by
 have e:ixN xs.length (-1)=some (xs.length-1):=by
  unfold ixN;rw[aA (by decide),aD (by omega)];congr 1;omega
 unfold atI;rw[e];exact h
theorem qK(n:Nat)(X:Nat->Int):atI (bh n X) (-1)=some (.int (X n)):=atI_last (by rw[Ik];exact pO X (aY n)) (by rw[Ik];omega)
theorem Il(n:Nat)(c:Nat->Nat):(cD n c).length=n:=by unfold cD;rw[aL,vo]
theorem Fw{n k:Nat}(c:Nat->Nat)(h:k<n):(cD n c)[k]? =some ((c k:Nat):Int):=by
 unfold cD;rw[dU,R0 h];rfl
theorem pW{n k:Nat}(c:Nat->Nat)(h:k<n):atI ((cD n c).map V.int) (k:Int)=some (.int ((c k:Nat):Int)):=atI_nat (by rw[dU,Fw c h];rfl)
theorem wF{n k:Nat}(c:Nat->Nat)(v:Nat)(h:k<n):(cD n c).set k (v:Int)=cD n (fun i=>if i=k then v else c i):=by
 refine wca fun i=> ?_;rw[wdn];by_cases hi:i<n
 ·rw[Fw _ hi,Fw _ hi,Il];by_cases e:k=i
  ·rw[aD e,aD h,aD e.symm]
  ·rw[aA e,aA (lA e)]
 ·rw[Xf (by rw[Il];omega),Xf (by rw[Il];omega),aA (by omega)]
theorem cL.IW{C:Addr}{H0 H:Hp}{o dx cl co ro:Addr}{rws:List Addr}{n m:Nat}{T:Sx.Tab}(h:cL K C H0 H o dx cl co ro rws n m T){r:Nat}(hr:r<=m):∃a,rws[r]? =some a/\atI (rws.map V.ref) (r:Int)=some (.ref a)/\H a=some (.lst (bh n (T.cell r))):=by
 have hl:=h.len;have e:rws[r]? =some rws[r]:=dG (by omega);exact⟨rws[r],e,atI_nat (by rw[dU,e];rfl),h.row r _ e⟩
theorem cL.YG{C:Addr}{H0 H:Hp}{o dx cl co ro:Addr}{rws:List Addr}{n m:Nat}{T:Sx.Tab}(h:cL K C H0 H o dx cl co ro rws n m T):∃a,rws[m]? =some a/\atI (rws.map V.ref) (-1)=some (.ref a)/\H a=some (.lst (bh n (T.cell m))):=by
 obtain⟨a,e,_,f⟩:=h.IW (aY m);exact⟨a,e,atI_last (by rw[aL,h.len,dU,Nat.add_sub_cancel,e];rfl) (by rw[aL,h.len];omega),f⟩
noncomputable def Kr(K:W.Frag)(C:Addr):Sp:=fun vs H Q _=>∃(o:Addr) (H0:Hp) (n m:Nat) (S:Nat->Nat->Bool) (wt:Nat->Int) (T:Sx.Tab),vs=[.ref o]/\lX K C H0 H o n m T/\TG n m S wt T/\
 ((∀c,c<n->0<=T.cell m c)->∀H',Same H H'->Q .non H')/\∀(q:Nat) H',q<n->T.cell m q<0->(∀c,c<n->T.cell m c<0->T.col q<=T.col c)->Same H H'->Q (.int (q:Int)) H'
theorem Vi{f C:Addr}{fd:ρ}(F:Fun K "next_column" "Tableau.next_column" zbx f fd)
  (Cc:Cls K C)(bx:NoAttr K C "cells")(dB:NoAttr K C "over")(aZ:NoAttr K C "columns")(cJ:NoAttr K C "rows")(bN:mg "enumerate"=none)(uJ:mg "min"=none):
  FnOk P w K mg base CX0 1 f fd ["self"] (Kr K C):=by
 refine F.cH ["self","worth","names"] fun cdv A outer s H vs Q E hr h=> ?_;obtain⟨o,H0,n,m,S,wt,T,rfl,⟨dx,cl,co,ro,rws,hT⟩,hG,q1,q2⟩:=h;refine bf ?_;intro Y;refine⟨_,(aP (pS 1 (aR eF (gM (pv 0) rfl) (pe_un un_neg aB))) (aP (pX 2 ["k","name"] ["worth"] [1] (pR rfl bN (aj (gM (pv 0) rfl) ak)) (dJ K (n:=2) rfl (oU (pG 0) (oU (pG 1) Ci))) (Ck (dR op_lt (aR (gA K) (pv 2) (pv 0)) aB)) (pv 1)) (aV (bK (pe_ifExp (pt_truth (pv 2) (fun _=>rfl)) (pe_bm Qh wbt wbu qO (gM (pv 0) rfl) (aj (pB (JC rfl) uJ (aj (pv 2) ak)) ak)) pe_non))))),?_⟩;refine iw ?_;intro c3 c2;obtain⟨za,ze,zi,zr⟩:=hT.YG;refine⟨_,rfl,o,C,dx,_,_,rfl,hT.at_,Cc,bx,rfl,_,rfl,cl,_,_,_,rfl,rfl,SqL.of hT.cells,zi,?_⟩;refine⟨_,rfl,o,C,dx,_,_,rfl,hT.at_,Cc,aZ,rfl,false,co,_,rfl,SqL.of hT.cols,fun hz=> ?_⟩;let gR:Nat->List V->St->Hp->Prop:=fun i acc σ H'=>acc=(((List.range i).filter fun c=>decide (T.cell m c<0)).map fun c=>((T.col c:Nat):Int)).map V.int/\Same H H'/\∃o1 o2,σ=[o1,o2,some (.ref za)];refine mX (K:=K) (b:=false) (a:=co) (xs:=(cD n T.col).map V.int) gR ⟨rfl,Same.refl _,_,_,rfl⟩ (fun i acc σ H' _ p=>p.2.1.seq (SqL.of hT.cols)) (fun i acc σ H' _ p=> ?_) hz (fun i v t acc σ H' hv p ht=> ?_) (fun acc σ H' p=> ?_)
 ·rw[p.1,aL,aL];exact cV (wk _ _) (by rw[vo];exact aY _)
 ·obtain⟨rfl,sm,o1,o2,rfl⟩:=p;have hi:i<n:=by
   have:=(nF.mp hv).1;rw[aL,Il]at this;exact this
  rw[dU,Fw _ hi]at hv;cases hv;have s1:=aO ht (.tup [.int (i:Int),.int ((T.col i:Nat):Int)]);refine⟨t,_,rfl,SqT.of aF,rfl,_,_,rfl,_,_,rfl,rfl,?_⟩;refine⟨_,rfl,_,rfl,za,_,_,_,rfl,rfl,SqL.of ((sm.trans s1) _ _ zr),eN _ (dH hi),_,_,rfl,rfl,_,rfl,?_⟩;have go:((List.range (i+1)).filter fun c=>decide (T.cell m c<0))=((List.range i).filter fun c=>decide (T.cell m c<0))++(if decide (T.cell m i<0)=true then[i]else[]):=by
   rw[yU,FN];congr 1;rw[FJ];split<;>rfl
  refine ite2 (fun c=> ?_) (fun c=> ?_)
  ·exact⟨_,rfl,by rw[go,aD c,bV,bV];rfl,sm.trans s1,_,_,rfl⟩
  ·exact⟨by rw[go,aA c,Cr],sm.trans s1,_,_,rfl⟩
 ·intro p1 hp1;obtain⟨rfl,sm,_⟩:=p;rw[aL,Il];have s1:=aO hp1 (.lst ((((List.range n).filter fun c=>decide (T.cell m c<0)).map fun c=>((T.col c:Nat):Int)).map V.int));have e1:(upd H' p1 (.lst ((((List.range n).filter fun c=>decide (T.cell m c<0)).map fun c=>((T.col c:Nat):Int)).map V.int))) p1=some (.lst ((((List.range n).filter fun c=>decide (T.cell m c<0)).map fun c=>((T.col c:Nat):Int)).map V.int)):=aF;have s2:=sm.trans s1;generalize (upd H' p1 (.lst ((((List.range n).filter fun c=>decide (T.cell m c<0)).map fun c=>((T.col c:Nat):Int)).map V.int)))=H1 at *;have hT1:=hT.sm s2;refine⟨_,rfl,_,.inl ⟨_,SqL.of e1,rfl⟩,?_⟩;cases hl:(List.range n).filter fun c=>decide (T.cell m c<0)with
  |nil=>
   refine iteF ?_;refine q1 (fun c hc=>Int.not_lt.mp fun hn=> ?_) _ s2;have:c∈(List.range n).filter fun c=>decide (T.cell m c<0):=fL.mpr ⟨jz.mpr hc,cW hn⟩;rw[hl]at this;cases this
  |cons c0 rest=>
   rw[hl]at e1;refine iteT ?_;refine⟨_,rfl,o,C,dx,_,_,rfl,hT1.at_,Cc,aZ,rfl,.inl ⟨rfl,_,SqL.of hT1.cols⟩,_,rfl,p1,_,rfl,SqL.of e1,(fun e=>nomatch e),fun mn hmn hle=> ?_⟩;rw[<-hl]at hmn hle;obtain⟨c,hc,rfl⟩:=jC.mp hmn;obtain⟨hc1,hc2⟩:=fL.mp hc;have hcn:=jz.mp hc1;refine⟨co,cD n T.col,_,c,rfl,rfl,hT1.cols,Fw _ hcn,fun i hi e=> ?_,by rw[Il];have:=hG.n10;omega,?_⟩
   ·rw[Fw _ (by omega)]at e;have:T.col i=T.col c:=Yo (sV e);have:=hG.good.Eh i c (by omega) hcn this;omega
   ·refine q2 c _ hcn (fJ hc2) (fun c' hc' hn=> ?_) s2;have:=hle _ (jC.mpr ⟨c',fL.mpr ⟨jz.mpr hc',cW hn⟩,rfl⟩);omega
noncomputable def Xo(n q:Nat)(T:Sx.Tab)(r t:Nat):Bool:=decide (T.cell r n*T.cell t q<T.cell t n*T.cell r q)||(decide (T.cell r n*T.cell t q=T.cell t n*T.cell r q)&&decide (T.row r<T.row t))
noncomputable def SJ(K:W.Frag)(C:Addr):Sp:=fun vs H Q _=>∃(o:Addr) (H0:Hp) (n m q r t:Nat) (S:Nat->Nat->Bool) (wt:Nat->Int) (T:Sx.Tab),vs=[.ref o,.int (q:Int),.int (r:Int),.int (t:Int)]/\lX K C H0 H o n m T/\TG n m S wt T/\q<n/\r<m/\t<m/\Q (.bl (Xo n q T r t)) H
theorem Vc{f C:Addr}{fd:ρ}(F:Fun K "is_tighter" "Tableau.is_tighter" zca f fd)
  (Cc:Cls K C)(bx:NoAttr K C "cells")(dB:NoAttr K C "over")(aZ:NoAttr K C "columns")(cJ:NoAttr K C "rows"):
  FnOk P w K mg base CX0 1 f fd ["self","column","row","other"] (SJ K C):=by
 refine F.cH ["self","column","row","other","one","two"] fun cdv A outer s H vs Q E hr h=> ?_;obtain⟨o,H0,n,m,q,r,t,S,wt,T,rfl,⟨dx,cl,co,ro,rws,hT⟩,hG,hq,hr0,ht,qq⟩:=h;refine bf ?_;intro Y;refine⟨_,(aP (pS 4 (bC sJ (aR eF (aR eF (gM (pv 0) rfl) (pv 2)) (pe_un un_neg aB)) (aR eF (aR eF (gM (pv 0) rfl) (pv 3)) (pv 1)))) (aP (pS 5 (bC sJ (aR eF (aR eF (gM (pv 0) rfl) (pv 3)) (pe_un un_neg aB)) (aR eF (aR eF (gM (pv 0) rfl) (pv 2)) (pv 1)))) (aV (bK (pe_or (Ca op_lt (pv 4) (pv 5)) (pe_one (pe_and (Ca op_eq (pv 4) (pv 5)) (pe_one (Ca op_lt (aR eF (gM (pv 0) rfl) (pv 2)) (aR eF (gM (pv 0) rfl) (pv 3))))))))))),?_⟩;refine iw ?_;intro c3 c2;obtain⟨ra,re,ri,rr⟩:=hT.IW (dH hr0);obtain⟨ta,te,ti,tr⟩:=hT.IW (dH ht);have b1:=hG.cell (dH hr0) (aY n);have b2:=hG.cell (dH ht) (aY n);refine⟨_,rfl,o,C,dx,_,_,rfl,hT.at_,Cc,bx,rfl,_,rfl,cl,_,_,_,rfl,rfl,SqL.of hT.cells,ri,_,rfl,ra,_,_,_,rfl,rfl,SqL.of rr,qK _ _,?_⟩;refine⟨_,rfl,o,C,dx,_,_,rfl,hT.at_,Cc,bx,rfl,_,rfl,cl,_,_,_,rfl,rfl,SqL.of hT.cells,ti,_,rfl,ta,_,_,_,rfl,rfl,SqL.of tr,eN _ (dH hq),_,_,rfl,rfl,.inl ⟨by omega,by omega⟩,?_⟩;refine⟨_,rfl,o,C,dx,_,_,rfl,hT.at_,Cc,bx,rfl,_,rfl,cl,_,_,_,rfl,rfl,SqL.of hT.cells,ti,_,rfl,ta,_,_,_,rfl,rfl,SqL.of tr,qK _ _,?_⟩;refine⟨_,rfl,o,C,dx,_,_,rfl,hT.at_,Cc,bx,rfl,_,rfl,cl,_,_,_,rfl,rfl,SqL.of hT.cells,ri,_,rfl,ra,_,_,_,rfl,rfl,SqL.of rr,eN _ (dH hq),_,_,rfl,rfl,.inl ⟨by omega,by omega⟩,?_⟩;refine⟨_,rfl,_,rfl,_,_,rfl,rfl,_,rfl,?_⟩;unfold Xo at qq;refine ite2 (fun c=> ?_) (fun c=> ?_)
 ·rw[c,Bool.true_or]at qq;exact qq
 ·rw[eq_false_of_ne_true c,wfb]at qq;refine⟨_,rfl,_,rfl,rfl,_,rfl,?_⟩;refine ite2 (fun c2=> ?_) (fun c2=> ?_)
  ·have c2':decide (T.cell r n*T.cell t q=T.cell t n*T.cell r q)=true:=cW (V.int.inj (fJ c2));rw[c2',Bool.true_and]at qq;refine⟨_,rfl,o,C,dx,_,_,rfl,hT.at_,Cc,cJ,rfl,_,rfl,ro,_,_,_,rfl,rfl,SqL.of hT.rows,pW _ hr0,?_⟩;refine⟨_,rfl,o,C,dx,_,_,rfl,hT.at_,Cc,cJ,rfl,_,rfl,ro,_,_,_,rfl,rfl,SqL.of hT.rows,pW _ ht,_,_,rfl,rfl,?_⟩;rw[<-show decide (((T.row r:Nat):Int)<((T.row t:Nat):Int))=decide (T.row r<T.row t)from decide_eq_decide.mpr T6]at qq;exact qq
  ·have c2':decide (T.cell r n*T.cell t q=T.cell t n*T.cell r q)=false:=fW fun e=>c2 (cW (kO V.int e));rw[c2',wev]at qq;exact qq
noncomputable def TQ(n q:Nat)(T:Sx.Tab)(p r:Nat):Prop:=T.cell p n*T.cell r q<T.cell r n*T.cell p q\/(T.cell p n*T.cell r q=T.cell r n*T.cell p q/\T.row p<=T.row r)
theorem Jq{n q:Nat}{T:Sx.Tab}{a b c:Nat}(ha:0<T.cell a q)(hb:0<T.cell b q)(hc:0<T.cell c q)(h1:TQ n q T a b)(h2:TQ n q T b c):TQ n q T a c:=by
 have cm:∀x y:Nat,T.cell x n*T.cell y q=T.cell y q*T.cell x n:=fun x y=>zq _ _;have cn:∀x y:Nat,T.cell y n*T.cell x q=T.cell x q*T.cell y n:=fun x y=>zq _ _;unfold TQ at *;rw[cm a b,cn a b]at h1;rw[cm b c,cn b c]at h2;rw[cm a c,cn a c];rcases h1 with h1|⟨h1,l1⟩
 ·rcases h2 with h2|⟨h2,_⟩
  ·exact .inl (Sx.yj hb ha hc (J1 h1) h2)
  ·exact .inl (Sx.Bf hb ha hc h1 (W9 h2))
 ·rcases h2 with h2|⟨h2,l2⟩
  ·exact .inl (Sx.yj hb ha hc (W9 h1) h2)
  ·exact .inr ⟨weq (Sx.yp hb ha hc (W9 h1) (W9 h2)) (Sx.yp hb hc ha (by rw[<-h2];exact rP _) (by rw[<-h1];exact rP _)),cV l1 l2⟩
theorem Uv{n q:Nat}{T:Sx.Tab}{r t:Nat}(h:Xo n q T r t=true):TQ n q T r t:=by
 unfold Xo at h;rw[weo,kj]at h;rcases h with h|⟨h1,h2⟩
 ·exact .inl (fJ h)
 ·exact .inr ⟨fJ h1,dH (fJ h2)⟩
theorem Yv{n q:Nat}{T:Sx.Tab}{r t:Nat}(h:Xo n q T r t=false):TQ n q T t r:=by
 unfold Xo at h;rw[Bool.or_eq_false_iff,Bool.and_eq_false_iff]at h;have h1:=was h.1;by_cases c:T.cell r n*T.cell t q=T.cell t n*T.cell r q
 ·refine .inr ⟨c.symm,?_⟩;rcases h.2 with z|z
  ·exact absurd c (was z)
  ·exact Nat.not_lt.mp (was z)
 ·exact .inl (by omega)
noncomputable def SN(K:W.Frag)(C:Addr):Sp:=fun vs H Q _=>∃(o:Addr) (H0:Hp) (n m q:Nat) (S:Nat->Nat->Bool) (wt:Nat->Int) (T:Sx.Tab),vs=[.ref o,.int (q:Int)]/\lX K C H0 H o n m T/\TG n m S wt T/\q<n/\
 ∀p:Nat,p<m->0<T.cell p q->(∀r,r<m->0<T.cell r q->TQ n q T p r)->Q (.int (p:Int)) H
theorem Vh{f f1 C:Addr}{fd d1:ρ}(F:Fun K "next_row" "Tableau.next_row" zcu f fd)
  (Cc:Cls K C)(bx:NoAttr K C "cells")(dB:NoAttr K C "over")(aZ:NoAttr K C "columns")(cJ:NoAttr K C "rows")(D1:lY K C "is_tighter" "Tableau.is_tighter" zca ["self","column","row","other"] f1 d1)(G1:FnOk P w K mg base CX0 1 f1 d1 ["self","column","row","other"] (SJ K C))(aN:mg "range"=none)(cg:mg "len"=none):
  FnOk P w K mg base CX0 2 f fd ["self","column"] (SN K C):=by
 refine F.cH ["self","column","tightest","row"] fun cdv A outer s H vs Q E hr h=> ?_;obtain⟨o,H0,n,m,q,S,wt,T,rfl,⟨dx,cl,co,ro,rws,hT⟩,hG,hq,qq⟩:=h;refine⟨_,(aP (pS 2 pe_non) (aP (ps_for yW rfl (JM rfl aN (aj (pB vq cg (aj (gM (pv 0) rfl) ak)) ak)) (pG 3) (aV (fQ (PW.pt (pw_and (dR op_gt (aR eF (aR eF (gM (pv 0) rfl) (pv 3)) (pv 1)) aB) (pw_and1 (PW.pt (rC (dR op_isN (pv 2) pe_non) (zj (j9 (v7 (pv 0) Cc D1.m G1 hr D1.b .nil pass0 (aj (pv 1) (aj (pv 3) (aj (pv 2) ak))))))))))) (aV (pS 2 (pv 3))) gO))) (aV (bK (pv 2))))),?_⟩;refine⟨_,rfl,o,C,dx,_,_,rfl,hT.at_,Cc,cJ,rfl,ro,_,rfl,.inl (SqL.of hT.rows),fun _=> ?_⟩;rw[aL,Il];refine⟨_,rfl,by have:=hG.Y8;omega,by have:=hG.Y8;omega,?_⟩;refine RP (n:=m) (fun i σ H'=>H'=H/\∃(x:V) (o3:Option V),σ=[some (.ref o),some (.int (q:Int)),some x,o3]/\((x= .non/\∀r,r<i->T.cell r q<=0)\/∃p:Nat,p<i/\x= .int (p:Int)/\0<T.cell p q/\∀r,r<i->0<T.cell r q->TQ n q T p r)) ⟨rfl,_,_,rfl,.inl ⟨rfl,fun r hr=>absurd hr (Ua r)⟩⟩ (fun i σ H' hi p=> ?_) (fun σ H' p=> ?_)
 ·obtain⟨rfl,x,o3,rfl,hx⟩:=p;rw[Xa];obtain⟨ra,re,ri,rr⟩:=hT.IW (dH hi);refine⟨_,rfl,o,C,dx,_,_,rfl,hT.at_,Cc,bx,rfl,_,rfl,cl,_,_,_,rfl,rfl,SqL.of hT.cells,ri,_,rfl,ra,_,_,_,rfl,rfl,SqL.of rr,eN _ (dH hq),_,_,rfl,rfl,_,rfl,?_⟩;refine ite2 (fun c=> ?_) (fun c=> ?_)
  ·have c':0<T.cell i q:=fJ c;rcases hx with⟨rfl,hx⟩|⟨p,hp,rfl,hp0,hlev⟩
   ·refine⟨_,rfl,rfl,_,rfl,?_⟩;refine iteT ?_;refine iteT ?_;refine⟨_,rfl,rfl,_,_,rfl,.inr ⟨i,wR i,rfl,c',fun r hr h0=> ?_⟩⟩;by_cases e:r=i
    ·subst e;exact .inr ⟨rfl,aY _⟩
    ·have:=hx r (by omega);omega
   ·refine⟨_,rfl,rfl,_,rfl,?_⟩;refine iteF ?_;refine⟨_,rfl,o,dx,_,rfl,hT.at_,rfl,_,rfl,_,rfl,_,rfl,o,H0,n,m,q,i,p,S,wt,T,rfl,⟨dx,cl,co,ro,rws,hT⟩,hG,hq,hi,by omega,_,rfl,?_⟩;refine ite2 (fun z=> ?_) (fun z=> ?_)
    ·refine⟨_,rfl,rfl,_,_,rfl,.inr ⟨i,wR i,rfl,c',fun r hr h0=> ?_⟩⟩;by_cases e:r=i
     ·subst e;exact .inr ⟨rfl,aY _⟩
     ·exact Jq c' hp0 h0 (Uv z) (hlev r (by omega) h0)
    ·refine⟨rfl,_,_,rfl,.inr ⟨p,by omega,rfl,hp0,fun r hr h0=> ?_⟩⟩;by_cases e:r=i
     ·subst e;exact Yv (eq_false_of_ne_true z)
     ·exact hlev r (by omega) h0
  ·refine iteF ?_;have c':T.cell i q<=0:=Int.not_lt.mp fun h=>c (cW h);refine⟨rfl,_,_,rfl,?_⟩;rcases hx with⟨rfl,hx⟩|⟨p,hp,rfl,hp0,hlev⟩
   ·refine .inl ⟨rfl,fun r hr=> ?_⟩;by_cases e:r=i
    ·subst e;exact c'
    ·exact hx r (by omega)
   ·refine .inr ⟨p,by omega,rfl,hp0,fun r hr h0=> ?_⟩;by_cases e:r=i
    ·subst e;omega
    ·exact hlev r (by omega) h0
 ·obtain⟨rfl,x,o3,rfl,hx⟩:=p;rcases hx with⟨rfl,hx⟩|⟨p,hp,rfl,hp0,hlev⟩
  ·obtain⟨r,hr0,h0⟩:=hG.good.bounded hG.cov hq;have:=hx r hr0;omega
  ·exact⟨_,rfl,qq p hp hp0 hlev⟩
noncomputable def tdF(ov:Int)(X Y:Nat->Int)(q c:Nat):Int:=if c=q then -X q else(X c*Y q-X q*Y c)/ov
theorem zW{n q:Nat}(X:Nat->Int)(v:Int)(h:q<=n):(bh n X).set q (.int v)=bh n fun c=>if c=q then v else X c:=by
 refine wca fun i=> ?_;rw[wdn];by_cases hi:i<=n
 ·rw[pO _ hi,pO _ hi,Ik];by_cases e:q=i
  ·rw[aD e,aD (by omega),aD e.symm]
  ·rw[aA e,aA (lA e)]
 ·rw[Xf (by rw[Ik];omega),Xf (by rw[Ik];omega),aA (by omega)]
theorem oh{n:Nat}{X Y:Nat->Int}(h:∀c,c<=n->X c=Y c):bh n X=bh n Y:=by
 unfold bh;rw[Ud fun c hc=>h c (by have:=jz.mp hc;omega)]
noncomputable def SM(K:W.Frag)(C:Addr):Sp:=fun vs H Q _=>∃(o xa ya:Addr) (H0:Hp) (n m q:Nat) (X Y:Nat->Int) (T:Sx.Tab),vs=[.ref o,.ref xa,.ref ya,.int (q:Int)]/\lX K C H0 H o n m T/\n<=10/\(0<T.over/\T.over<=39916800)/\q<=n/\H xa=some (.lst (bh n X))/\H ya=some (.lst (bh n Y))/\
 (∀c,c<=n->(-4000000000<=X c/\X c<=4000000000)/\(-4000000000<=Y c/\Y c<=4000000000))/\∀r H',Same H H'->H r=none->H' r=some (.lst (bh n (tdF T.over X Y q)))->Q (.ref r) H'
theorem Vd{f C:Addr}{fd:ρ}(F:Fun K "turned" "Tableau.turned" zdk f fd)
  (Cc:Cls K C)(bx:NoAttr K C "cells")(dB:NoAttr K C "over")(aZ:NoAttr K C "columns")(cJ:NoAttr K C "rows")(bN:mg "enumerate"=none):
  FnOk P w K mg base CX0 1 f fd ["self","cells","pivots","column"] (SM K C):=by
 refine F.cH ["self","cells","pivots","column","by","fresh"] fun cdv A outer s H vs Q E hr h=> ?_;obtain⟨o,xa,ya,H0,n,m,q,X,Y,T,rfl,⟨dx,cl,co,ro,rws,hT⟩,hn,⟨V7,ho1⟩,hq,hX,hY,hb,qq⟩:=h;refine⟨_,(aP (pS 4 (aR eF (pv 2) (pv 3))) (aP (pX 5 ["k","cell"] ["by","cells","column","pivots","self"] [4,1,3,2,0] (pR rfl bN (aj (pv 1) ak)) (dJ K (n:=2) rfl (oU (pG 0) (oU (pG 1) Ci))) oR (bC lN (bC op_sub (bC sJ (pv 1) (pv 2)) (bC sJ (aR (gA K) (pv 3) (pv 4)) (aR (gA K) (pv 5) (pv 0)))) (Qu K (pv 6) rfl))) (aP (ps_asg (pe_un un_neg (aR eF (pv 1) (pv 3))) (pg_sub (pv 5) (pv 3) PL)) (aV (bK (pv 5)))))),?_⟩;refine⟨_,rfl,_,rfl,ya,_,_,_,rfl,rfl,SqL.of hY,eN _ hq,?_⟩;refine⟨_,rfl,false,xa,_,rfl,SqL.of hX,fun hz=> ?_⟩;refine mX (K:=K) (b:=false) (a:=xa) (xs:=bh n X) (fun i acc σ H'=>acc=((List.range i).map fun c=>(X c*Y q-X q*Y c)/T.over).map V.int/\Same H H'/\∃o1 o2,σ=[o1,o2,some (.int (Y q)),some (.ref xa),some (.int (q:Int)),some (.ref ya),some (.ref o)]) ⟨rfl,Same.refl _,_,_,rfl⟩ (fun i acc σ H' _ p=>p.2.1.seq (SqL.of hX)) (fun i acc σ H' _ p=> ?_) hz (fun i v t acc σ H' hv p ht=> ?_) (fun acc σ H' p=> ?_)
 ·rw[p.1,aL,aL,vo];exact aY _
 ·obtain⟨rfl,sm,o1,o2,rfl⟩:=p;have hi:i<=n:=by
   have:=(nF.mp hv).1;rw[Ik]at this;omega
  rw[pO _ hi]at hv;cases hv;have s1:=aO ht (.tup [.int (i:Int),.int (X i)]);have s2:=sm.trans s1;have bi:=(hb i hi).1;have bq:=(hb q hq).1;refine⟨t,_,rfl,SqT.of aF,rfl,_,_,rfl,_,_,rfl,rfl,?_⟩;refine⟨_,rfl,_,rfl,_,_,rfl,rfl,.inl ⟨by omega,by omega⟩,?_⟩;refine⟨_,rfl,_,rfl,xa,_,_,_,rfl,rfl,SqL.of (s2 _ _ hX),eN _ hq,_,rfl,_,rfl,ya,_,_,_,rfl,rfl,SqL.of (s2 _ _ hY),eN _ hi,_,_,rfl,rfl,.inl ⟨by omega,by omega⟩,_,_,rfl,rfl,?_⟩;refine⟨_,rfl,o,C,dx,_,_,rfl,s2 _ _ hT.at_,Cc,dB,rfl,_,_,rfl,rfl,⟨V7,by omega⟩,?_⟩;exact⟨by rw[yU,bV,bV];rfl,s2,_,_,rfl⟩
 ·intro p1 hp1;obtain⟨rfl,sm,_⟩:=p;rw[Ik];have s1:=aO hp1 (.lst (bh n fun c=>(X c*Y q-X q*Y c)/T.over));have s2:=sm.trans s1;have h0:H p1=none:=by
   cases e:H p1 with
   |none=>rfl
   |some u=>rw[sm _ _ e]at hp1;cases hp1
  refine⟨_,rfl,_,rfl,xa,_,_,_,rfl,rfl,SqL.of (s2 _ _ hX),eN _ hq,_,rfl,?_⟩;refine⟨_,rfl,_,rfl,p1,_,_,q,rfl,rfl,aF,?_,?_⟩
  ·have e:ixN (bh n fun c=>(X c*Y q-X q*Y c)/T.over).length (q:Int)=some q:=by
    rw[Ik];unfold ixN;rw[aD (by omega),aD (by omega)];rfl
   exact e
  ·refine⟨_,rfl,qq p1 _ (fun b u hb=> ?_) h0 ?_⟩
   ·have nb:b≠p1:=fun e=>by rw[e,h0]at hb;cases hb
    rw[cY nb];exact s2 _ _ hb
   ·rw[aF];have e:=zW (fun c=>(X c*Y q-X q*Y c)/T.over) (-X q) hq;exact kO (fun l=>some (HO.lst l)) e
theorem RG{xs:List V}{k:Nat}(hk:k<=xs.length):cutV xs none (some (k:Int))=xs.take k:=by
 unfold cutV;rw[HT.sIx_nat,HT.sIx_none,Nat.min_eq_left hk,List.drop_zero,Nat.sub_zero]
theorem Jz{xs:List V}{k:Nat}(hk:k<=xs.length):cutV xs (some (k:Int)) none=xs.drop k:=by
 unfold cutV;rw[HT.sIx_nat,HT.sIx_none,Nat.min_eq_left hk,Xg (by rw[List.length_drop];omega)]
theorem _root_.L2.Same.vH{H0 H:Hp}{a:Addr}{u:HO}(s:Same H0 H)(h:H0 a=none):Same H0 (upd H a u):=fun b o hb=>by
 have nb:b≠a:=fun e=>by rw[e,h]at hb;cases hb
 rw[cY nb];exact s _ _ hb
theorem _root_.L2.Same.none{H0 H:Hp}{a:Addr}(s:Same H0 H)(h:H a=none):H0 a=none:=by
 cases e:H0 a with
 |none=>rfl
 |some u=>rw[s _ _ e]at h;cases h
section
variable{C:Addr}{H0 H:Hp}{o dx cl co ro:Addr}{rws:List Addr}{n m:Nat}{T:Sx.Tab}
theorem cL.ocl(h:cL K C H0 H o dx cl co ro rws n m T):o≠cl:=ne_of h.at_ h.cells fun e=>nomatch e
theorem cL.oco(h:cL K C H0 H o dx cl co ro rws n m T):o≠co:=ne_of h.at_ h.cols fun e=>nomatch e
theorem cL.oro(h:cL K C H0 H o dx cl co ro rws n m T):o≠ro:=ne_of h.at_ h.rows fun e=>nomatch e
theorem mW{rws:List Addr}{xs:List Int}(h:0<rws.length)(e:rws.map V.ref=xs.map V.int):False:=by
 cases rws with
 |nil=>exact absurd h (wj 0)
 |cons a r=>
  cases xs with
  |nil=>cases e
  |cons x xs=>injection e with e1 _;cases e1
theorem cL.aah(h:cL K C H0 H o dx cl co ro rws n m T):cl≠co:=fun e=>by
 have z:=h.cols;rw[<-e,h.cells]at z;exact mW (by rw[h.len];omega) (HO.lst.inj (sV z))
theorem cL.aag(h:cL K C H0 H o dx cl co ro rws n m T):cl≠ro:=fun e=>by
 have z:=h.rows;rw[<-e,h.cells]at z;exact mW (by rw[h.len];omega) (HO.lst.inj (sV z))
theorem cL.aaf(h:cL K C H0 H o dx cl co ro rws n m T){r:Nat}{a:Addr}(e:rws[r]? =some a):a≠cl:=fun z=>by
 have y:=h.row r a e;rw[z,h.cells]at y;exact mW (by rw[h.len];omega) (HO.lst.inj (sV y))
theorem cL.orow(h:cL K C H0 H o dx cl co ro rws n m T){r:Nat}{a:Addr}(e:rws[r]? =some a):a≠o:=fun z=>by
 have y:=h.row r a e;rw[z,h.at_]at y;cases y
theorem cL.Lf(h:cL K C H0 H o dx cl co ro rws n m T){XH:Addr}{Dg:List Addr}{X:Nat->Nat->Int}(h0:H0 XH=none)(hc:H XH=some (.lst (Dg.map V.ref)))(hl:Dg.length=m+1)(hr:∀r a,Dg[r]? =some a->H a=some (.lst (bh n (X r))))(n1:co∉Dg)(n2:ro∉Dg):
  cL K C H0 (upd H o (.ins C dx (putF "cells" (.ref XH) (flds cl co ro T.over)))) o dx XH co ro Dg n m {T with cell:=X}:=by
 have k:∀b,b≠o->∀u,H b=some u->(upd H o (.ins C dx (putF "cells" (.ref XH) (flds cl co ro T.over)))) b=some u:=fun b hb u e=>by rw[cY hb];exact e
 refine⟨h.same.vH h.o0,h.o0,h0,h.Tz,h.Td,h.ne,n1,n2,aF,k _ (fun e=> ?_) _ hc,hl,fun r a e=>k _ (fun z=> ?_) _ (hr r a e),k _ h.oco.symm _ h.cols,k _ h.oro.symm _ h.rows⟩
 ·rw[e,h.at_]at hc;cases hc
 ·have y:=hr r a e;rw[z,h.at_]at y;cases y
theorem cL.U0(h:cL K C H0 H o dx cl co ro rws n m T){p:Nat}{a:Addr}{X:Nat->Int}(hp:p<=m)(ha:H a=some (.lst (bh n X)))(n1:co≠a)(n2:ro≠a):
  cL K C H0 (upd H cl (.lst ((rws.map V.ref).set p (.ref a)))) o dx cl co ro (rws.set p a) n m {T with cell:=fun r c=>if r=p then X c else T.cell r c}:=by
 have k:∀b,b≠cl->∀u,H b=some u->(upd H cl (.lst ((rws.map V.ref).set p (.ref a)))) b=some u:=fun b hb u e=>by rw[cY hb];exact e
 have hac:a≠cl:=fun z=>by
  rw[z,h.cells]at ha;exact mW (by rw[h.len];omega) (HO.lst.inj (sV ha))
 refine⟨h.same.vH h.Wz,h.o0,h.Wz,h.Tz,h.Td,h.ne,fun z=> ?_,fun z=> ?_,k _ h.ocl _ h.at_,by rw[aF,wfe],by rw[List.length_set];exact h.len,fun r b e=> ?_,k _ h.aah.symm _ h.cols,k _ h.aag.symm _ h.rows⟩
 ·rcases wdg z with z|z
  ·exact h.nc z
  ·exact n1 z
 ·rcases wdg z with z|z
  ·exact h.nr z
  ·exact n2 z
 ·rw[wdn]at e;by_cases c:p=r
  ·rw[aD c,aD (by rw[h.len];omega)]at e;cases e;rw[k _ hac _ ha];exact kO (fun l=>some (HO.lst l)) (oh fun c' _=>by show X c'=if r=p then X c' else T.cell r c';rw[aD c.symm])
  ·rw[aA c]at e;rw[k _ (h.aaf e) _ (h.row r b e)];exact kO (fun l=>some (HO.lst l)) (oh fun c' _=>by show T.cell r c'=if r=p then X c' else T.cell r c';rw[aA (lA c)])
theorem cL.setOver(h:cL K C H0 H o dx cl co ro rws n m T)(v:Int):cL K C H0 (upd H o (.ins C dx (putF "over" (.int v) (flds cl co ro T.over)))) o dx cl co ro rws n m {T with over:=v}:=by
 have k:∀b,b≠o->∀u,H b=some u->(upd H o (.ins C dx (putF "over" (.int v) (flds cl co ro T.over)))) b=some u:=fun b hb u e=>by rw[cY hb];exact e
 exact⟨h.same.vH h.o0,h.o0,h.Wz,h.Tz,h.Td,h.ne,h.nc,h.nr,aF,k _ h.ocl.symm _ h.cells,h.len,fun r a e=>k _ (h.orow e) _ (h.row r a e),k _ h.oco.symm _ h.cols,k _ h.oro.symm _ h.rows⟩
theorem cL.Qm(h:cL K C H0 H o dx cl co ro rws n m T){p:Nat}(v:Nat)(hp:p<m):cL K C H0 (upd H ro (.lst (((cD m T.row).map V.int).set p (.int (v:Int))))) o dx cl co ro rws n m {T with row:=fun r=>if r=p then v else T.row r}:=by
 have k:∀b,b≠ro->∀u,H b=some u->(upd H ro (.lst (((cD m T.row).map V.int).set p (.int (v:Int))))) b=some u:=fun b hb u e=>by rw[cY hb];exact e
 refine⟨h.same.vH h.Td,h.o0,h.Wz,h.Tz,h.Td,h.ne,h.nc,h.nr,k _ h.oro _ h.at_,k _ h.aag _ h.cells,h.len,fun r a e=>k _ (fun z=>h.nr (z▸tM e)) _ (h.row r a e),k _ h.ne _ h.cols,?_⟩;rw[aF,<-wfe,wF _ _ hp]
theorem cL.Qn(h:cL K C H0 H o dx cl co ro rws n m T){q:Nat}(v:Nat)(hq:q<n):cL K C H0 (upd H co (.lst (((cD n T.col).map V.int).set q (.int (v:Int))))) o dx cl co ro rws n m {T with col:=fun c=>if c=q then v else T.col c}:=by
 have k:∀b,b≠co->∀u,H b=some u->(upd H co (.lst (((cD n T.col).map V.int).set q (.int (v:Int))))) b=some u:=fun b hb u e=>by rw[cY hb];exact e
 refine⟨h.same.vH h.Tz,h.o0,h.Wz,h.Tz,h.Td,h.ne,h.nc,h.nr,k _ h.oco _ h.at_,k _ h.aah _ h.cells,h.len,fun r a e=>k _ (fun z=>h.nc (z▸tM e)) _ (h.row r a e),?_,k _ h.ne.symm _ h.rows⟩;rw[aF,<-wfe,wF _ _ hq]
end
theorem Li{n q:Nat}(X:Nat->Int)(v:Int)(h:q<=n):((bh n X).take q++[.int v])++(bh n X).drop (q+1)=bh n fun c=>if c=q then v else X c:=by
 rw[<-zW X v h,List.set_eq_take_append_cons_drop,aD (by rw[Ik];omega),wdk];rfl
noncomputable def Sy(K:W.Frag)(C:Addr):Sp:=fun vs H Q _=>∃(o:Addr) (H0:Hp) (n m p q:Nat) (S:Nat->Nat->Bool) (wt:Nat->Int) (T:Sx.Tab),vs=[.ref o,.int (p:Int),.int (q:Int)]/\lX K C H0 H o n m T/\TG n m S wt T/\p<m/\q<n/\∀H',lX K C H0 H' o n m (Sx.turn T p q)->Q .non H'
theorem Vb{f f1 C:Addr}{fd d1:ρ}(F:Fun K "turn" "Tableau.turn" gj f fd)
  (Cc:Cls K C)(bx:NoAttr K C "cells")(dB:NoAttr K C "over")(aZ:NoAttr K C "columns")(cJ:NoAttr K C "rows")(D1:lY K C "turned" "Tableau.turned" zdk ["self","cells","pivots","column"] f1 d1)(G1:FnOk P w K mg base CX0 1 f1 d1 ["self","cells","pivots","column"] (SM K C)):
  FnOk P w K mg base CX0 2 f fd ["self","row","column"] (Sy K C):=by
 refine F.cH ["self","row","column","pivots","by","name"] fun cdv A outer s H vs Q E hr h=> ?_;obtain⟨o,H0,n,m,p,q,S,wt,T,rfl,⟨dx,cl,co,ro,rws,hT⟩,hG,hp,hq,qq⟩:=h;refine bf ?_;intro Y;refine⟨_,(aP (pS 3 (aR eF (gM (pv 0) rfl) (pv 1))) (aP (pS 4 (aR eF (pv 3) (pv 2))) (aP (ps_fld (pv 0) (pK ["cells"] ["self","pivots","column"] [0,3,2] (sO (gM (pv 0) rfl)) (pG 0) oR (v7 (pv 1) Cc D1.m G1 hr D1.b .nil pass0 (aj (pv 0) (aj (pv 2) (aj (pv 3) ak))))) rfl) (aP (ps_asg (bC op_cat (bC op_cat (pe_slice sl_list (pv 3) po_none (po_some (pv 2))) (pe_lst (aj (gM (pv 0) rfl) ak))) (pe_slice sl_list (pv 3) (po_some (bC oX (pv 2) aB)) po_none)) (pg_sub (gM (pv 0) rfl) (pv 1) PL)) (aP (ps_fld (pv 0) (pv 4) rfl) (aP (pS 5 (aR eF (gM (pv 0) rfl) (pv 1))) (aP (ps_asg (aR eF (gM (pv 0) rfl) (pv 2)) (pg_sub (gM (pv 0) rfl) (pv 1) PL)) (aV (ps_asg (pv 5) (pg_sub (gM (pv 0) rfl) (pv 2) PL)))))))))),?_⟩;refine Zm ?_;intro c8 c7 c6 c5 c4 c3 c2;obtain⟨pa,pe,pi,pr⟩:=hT.IW (dH hp);refine⟨_,rfl,o,C,dx,_,_,rfl,hT.at_,Cc,bx,rfl,_,rfl,cl,_,_,_,rfl,rfl,SqL.of hT.cells,pi,?_⟩;refine⟨_,rfl,_,rfl,pa,_,_,_,rfl,rfl,SqL.of pr,eN _ (dH hq),?_⟩;refine⟨_,rfl,o,C,dx,_,_,rfl,hT.at_,Cc,bx,rfl,cl,_,rfl,SqL.of hT.cells,fun hz=> ?_⟩;let gR:Nat->List V->St->Hp->Prop:=fun i acc σ H'=>∃as:List Addr,acc=as.map V.ref/\as.length=i/\Same H H'/\(∀r a,as[r]? =some a->H a=none/\H' a=some (.lst (bh n (tdF T.over (T.cell r) (T.cell p) q))))/\∃o1,σ=[o1,some (.ref o),some (.ref pa),some (.int (q:Int))];refine yQ (xs:=rws.map V.ref) gR ⟨[],rfl,rfl,Same.refl _,fun r a e=>(nomatch e),_,rfl⟩ (fun i acc σ H' _ x=> ?_) (fun i acc σ H' _ x=> ?_) hz (fun i v acc σ H' hv x=> ?_) (fun acc σ H' x=> ?_)
 ·obtain⟨_,_,_,sm,_⟩:=x;exact sm.seq (SqL.of hT.cells)
 ·obtain⟨as,rfl,hl,_⟩:=x;rw[aL,hl];exact aY _
 ·obtain⟨as,rfl,hl,sm,has,o1,rfl⟩:=x;rw[dU]at hv;cases er:rws[i]? with
  |none=>rw[er]at hv;cases hv
  |some ra=>
   rw[er]at hv;cases hv;have him:i<=m:=by have:=(nF.mp er).1;rw[hT.len]at this;omega
   refine⟨_,rfl,o,dx,_,rfl,sm _ _ hT.at_,rfl,_,rfl,_,rfl,_,rfl,o,ra,pa,H0,n,m,q,T.cell i,T.cell p,T,rfl,⟨dx,cl,co,ro,rws,hT.sm sm⟩,hG.n10,hG.over,dH hq,sm _ _ (hT.row i ra er),sm _ _ pr,fun c hc=>⟨hG.cell him hc,hG.cell (dH hp) hc⟩,fun r1 H1 s1 h1 e1=> ?_⟩;refine⟨as++[r1],by rw[bV];rfl,by rw[qz,hl];rfl,sm.trans s1,fun r a e=> ?_,_,rfl⟩;rw[wcg]at e;by_cases c:r<as.length
   ·rw[aD c]at e;exact⟨(has r a e).1,s1 _ _ (has r a e).2⟩
   ·rw[aA c]at e;have Z0:r-as.length=0:=by
     have:=(nF.mp e).1;have:r-as.length<1:=this;omega
    rw[Z0]at e;cases e;have:r=i:=by omega
    subst this;exact⟨sm.none h1,e1⟩
 ·intro p1 hp1;obtain⟨as,rfl,hl,sm,has,_⟩:=x;rw[aL,hT.len]at hl;have s1:=aO hp1 (.lst (as.map V.ref));have hT1:=hT.sm (sm.trans s1);have h10:H0 p1=none:=hT.same.none (sm.none hp1);have nas:∀b u,H b=some u->b∉as:=fun b u hb hm=>by
   obtain⟨r,hr1,rfl⟩:=Ip hm;have:=(has r _ (dG hr1)).1;rw[hb]at this;cases this
  have hT2:=hT1.Lf (XH:=p1) (Dg:=as) (X:=fun r=>tdF T.over (T.cell r) (T.cell p) q) h10 aF hl (fun r a e=>s1 _ _ (has r a e).2) (nas _ _ hT.cols) (nas _ _ hT.rows);refine⟨_,rfl,o,C,dx,_,rfl,hT1.at_,Cc,bx,(by show 4<1000;decide),?_⟩;have YS:pa≠o:=hT.orow pe;have pr2:=(sm.trans s1) _ _ pr;have pr3:(upd (upd H' p1 (.lst (as.map V.ref))) o (.ins C dx (putF "cells" (.ref p1) (flds cl co ro T.over)))) pa=some (.lst (bh n (T.cell p))):=by rw[cY YS];exact pr2
  generalize (upd (upd H' p1 (.lst (as.map V.ref))) o (.ins C dx (putF "cells" (.ref p1) (flds cl co ro T.over))))=H2 at *
  -- the row of the turn
  refine⟨_,rfl,_,rfl,_,rfl,pa,_,rfl,SqL.of pr3,fun l1 hl1=> ?_⟩;have t1:=aO hl1 (.lst (cutV (bh n (T.cell p)) none (some (q:Int))));have f1:(upd H2 l1 (.lst (cutV (bh n (T.cell p)) none (some (q:Int))))) l1=some (.lst (cutV (bh n (T.cell p)) none (some (q:Int)))):=aF;generalize (upd H2 l1 (.lst (cutV (bh n (T.cell p)) none (some (q:Int)))))=H3 at *;refine⟨_,rfl,o,C,dx,_,_,rfl,t1 _ _ hT2.at_,Cc,dB,rfl,(by show 1<=sizeLine;decide),fun l2 hl2=> ?_⟩;have t2:=aO hl2 (.lst [.int T.over]);have f2:(upd H3 l2 (.lst [.int T.over])) l2=some (.lst [.int T.over]):=aF;have f1':=t2 _ _ f1;refine⟨l1,l2,_,_,rfl,rfl,f1',f2,?_,fun l3 hl3=> ?_⟩
  ·have:=cutV_length (bh n (T.cell p)) none (some (q:Int));rw[Ik]at this;have:=hG.n10;rw[gU];show _+1<=_;omega
  have t3:=aO hl3 (.lst (cutV (bh n (T.cell p)) none (some (q:Int))++[.int T.over]));have f3:(upd (upd H3 l2 (.lst [.int T.over])) l3 (.lst (cutV (bh n (T.cell p)) none (some (q:Int))++[.int T.over]))) l3=some (.lst (cutV (bh n (T.cell p)) none (some (q:Int))++[.int T.over])):=aF;have t13:=t1.trans (t2.trans t3);generalize (upd (upd H3 l2 (.lst [.int T.over])) l3 (.lst (cutV (bh n (T.cell p)) none (some (q:Int))++[.int T.over])))=H5 at *;refine⟨_,rfl,_,rfl,_,_,rfl,rfl,_,rfl,pa,_,rfl,SqL.of (t13 _ _ pr3),fun l4 V9=> ?_⟩;have t4:=aO V9 (.lst (cutV (bh n (T.cell p)) (some ((q:Int)+1)) none));refine⟨l3,l4,_,_,rfl,rfl,t4 _ _ f3,aF,?_,fun l5 Zj=> ?_⟩
  ·have a1:=cutV_length (bh n (T.cell p)) none (some (q:Int));have a2:=cutV_length (bh n (T.cell p)) (some ((q:Int)+1)) none;rw[Ik]at a1 a2;have:=hG.n10;rw[qz,gU];show _+1+_<=_;omega
  have t5:=aO Zj (.lst ((cutV (bh n (T.cell p)) none (some (q:Int))++[.int T.over])++cutV (bh n (T.cell p)) (some ((q:Int)+1)) none));have abj:(cutV (bh n (T.cell p)) none (some (q:Int))++[.int T.over])++cutV (bh n (T.cell p)) (some ((q:Int)+1)) none=bh n fun c=>if c=q then T.over else T.cell p c:=by
   rw[RG (by rw[Ik];omega),show(q:Int)+1=((q+1:Nat):Int)from by omega,Jz (by rw[Ik];omega)];exact Li _ _ (dH hq)
  rw[abj]at t5⊢;have hT3:=hT2.sm (t13.trans (t4.trans t5));have f5:(upd (upd H5 l4 (.lst (cutV (bh n (T.cell p)) (some ((q:Int)+1)) none))) l5 (.lst (bh n fun c=>if c=q then T.over else T.cell p c))) l5=some (.lst (bh n fun c=>if c=q then T.over else T.cell p c)):=aF;have g1:co≠l5:=sS ((t13.trans t4) _ _ hT2.cols) Zj;have g2:ro≠l5:=sS ((t13.trans t4) _ _ hT2.rows) Zj;generalize (upd (upd H5 l4 (.lst (cutV (bh n (T.cell p)) (some ((q:Int)+1)) none))) l5 (.lst (bh n fun c=>if c=q then T.over else T.cell p c)))=H6 at *;have Xx:=hT3.U0 (p:=p) (dH hp) f5 g1 g2;refine⟨_,rfl,o,C,dx,_,_,rfl,hT3.at_,Cc,bx,rfl,_,rfl,p1,_,_,p,rfl,rfl,hT3.cells,?_,?_⟩
  ·have e:ixN (as.map V.ref).length (p:Int)=some p:=by
    rw[aL,hl];unfold ixN;rw[aD (by omega),aD (by omega)];rfl
   exact e
  generalize (upd H6 p1 (.lst ((as.map V.ref).set p (.ref l5))))=H7 at *;have hT5:=Xx.setOver (T.cell p q);refine⟨_,rfl,_,rfl,o,C,dx,_,rfl,Xx.at_,Cc,dB,(by show 4<1000;decide),?_⟩;generalize (upd H7 o (.ins C dx (putF "over" (.int (T.cell p q)) (flds p1 co ro T.over))))=H8 at *;refine⟨_,rfl,o,C,dx,_,_,rfl,hT5.at_,Cc,cJ,rfl,_,rfl,ro,_,_,_,rfl,rfl,SqL.of hT5.rows,pW _ hp,?_⟩;refine⟨_,rfl,o,C,dx,_,_,rfl,hT5.at_,Cc,aZ,rfl,_,rfl,co,_,_,_,rfl,rfl,SqL.of hT5.cols,pW _ hq,?_⟩;have Xw:=hT5.Qm (p:=p) (T.col q) hp;refine⟨_,rfl,o,C,dx,_,_,rfl,hT5.at_,Cc,cJ,rfl,_,rfl,ro,_,_,p,rfl,rfl,hT5.rows,?_,?_⟩
  ·have e:ixN ((cD m T.row).map V.int).length (p:Int)=some p:=by
    rw[aL,Il];unfold ixN;rw[aD (by omega),aD (by omega)];rfl
   exact e
  generalize (upd H8 ro (.lst (((cD m T.row).map V.int).set p (.int ((T.col q:Nat):Int)))))=H9 at *;have Ax:=Xw.Qn (q:=q) (T.row p) hq;refine⟨_,rfl,_,rfl,o,C,dx,_,_,rfl,Xw.at_,Cc,aZ,rfl,_,rfl,co,_,_,q,rfl,rfl,Xw.cols,?_,?_⟩
  ·have e:ixN ((cD n T.col).map V.int).length (q:Int)=some q:=by
    rw[aL,Il];unfold ixN;rw[aD (by omega),aD (by omega)];rfl
   exact e
  refine qq _ ⟨dx,p1,co,ro,_,Ax.same,Ax.o0,Ax.Wz,Ax.Tz,Ax.Td,Ax.ne,Ax.nc,Ax.nr,Ax.at_,Ax.cells,Ax.len,fun r a e=> ?_,Ax.cols,Ax.rows⟩;rw[Ax.row r a e];refine kO (fun l=>some (HO.lst l)) (oh fun c _=> ?_);show(if r=p then(if c=q then T.over else T.cell p c)else tdF T.over (T.cell r) (T.cell p) q c)=_;rfl
theorem Lh{n m:Nat}{S:Nat->Nat->Bool}{wt:Nat->Int}{Ts:Nat->Sx.Tab}{ps qs:Nat->Nat}{L p q:Nat}(R:Sx.Run n m S wt Ts ps qs L)(s:Sx.Step n m (Ts L) p q):
  Sx.Run n m S wt (fun t=>if t<=L then Ts t else Sx.turn (Ts L) p q) (fun t=>if t<L then ps t else p) (fun t=>if t<L then qs t else q) (L+1):=by
 refine⟨by rw[aD (dY L)];exact R.first,fun t ht=> ?_,fun t ht=> ?_⟩
 ·by_cases c:t<L
  ·rw[aD (dH c),aD c,aD c];exact R.step t c
  ·have e:t=L:=by omega
   subst e;rw[aD (aY t),aA c,aA c];exact s
 ·by_cases c:t<L
  ·rw[aD (show t+1<=L from c),aD (dH c),aD c,aD c];exact R.next t c
  ·have e:t=L:=by omega
   subst e;rw[aA (by omega),aD (aY t),aA c,aA c]
structure Sta(n m:Nat)(S:Nat->Nat->Bool)(wt:Nat->Int):Prop where
 n10:n<=10
 Y8:m<=40
 wb:∀p,p<n->0<=wt p/\wt p<=99
 cov:∀p,p<n->∃k,k<m/\S k p=true
theorem Sta.tg{n m:Nat}{S:Nat->Nat->Bool}{wt:Nat->Int}{T:Sx.Tab}(h:Sta n m S wt)(g:Sx.Good n m S wt T):TG n m S wt T:=⟨g,h.n10,h.Y8,h.wb,h.cov⟩
noncomputable def NcV(n m:Nat)(T:Sx.Tab)(x:V):Prop:=(x= .non/\∀c,c<n->0<=T.cell m c)\/∃q:Nat,x= .int (q:Int)/\q<n/\T.cell m q<0/\∀c,c<n->T.cell m c<0->T.col q<=T.col c
noncomputable def Oz(K:W.Frag)(C o:Addr)(H0:Hp)(n m:Nat)(S:Nat->Nat->Bool)(wt:Nat->Int)(k:Nat)(σ:St)(H:Hp):Prop:=
 ∃(Ts:Nat->Sx.Tab) (ps qs:Nat->Nat) (L:Nat) (x:V),Sx.Run n m S wt Ts ps qs L/\L+k=2^(n+m)/\lX K C H0 H o n m (Ts L)/\σ=[some (.ref o),some x]/\NcV n m (Ts L) x
noncomputable def Ko(K:W.Frag)(C:Addr):Sp:=fun vs H Q _=>∃(o:Addr) (H0:Hp) (n m:Nat) (S:Nat->Nat->Bool) (wt:Nat->Int) (T:Sx.Tab),vs=[.ref o]/\lX K C H0 H o n m T/\Sta n m S wt/\Sx.Good n m S wt T/\
 ∀T' H',lX K C H0 H' o n m T'->Sx.Good n m S wt T'->(∀c,c<n->0<=T'.cell m c)->Q .non H'
theorem Ve{f f1 f2 f3 C:Addr}{fd d1 d2 d3:ρ}(F:Fun K "solve" "Tableau.solve" fj f fd)
  (Cc:Cls K C)(bx:NoAttr K C "cells")(dB:NoAttr K C "over")(aZ:NoAttr K C "columns")(cJ:NoAttr K C "rows")(D1:lY K C "next_column" "Tableau.next_column" zbx ["self"] f1 d1)(WW:FnOk P w K mg base CX0 1 f1 d1 ["self"] (Kr K C))(D2:lY K C "turn" "Tableau.turn" gj ["self","row","column"] f2 d2)(G2:FnOk P w K mg base CX0 2 f2 d2 ["self","row","column"] (Sy K C))(D3:lY K C "next_row" "Tableau.next_row" zcu ["self","column"] f3 d3)(G3:FnOk P w K mg base CX0 2 f3 d3 ["self","column"] (SN K C)):
  FnOk P w K mg base CX0 3 f fd ["self"] (Ko K C):=by
 have G1:FnOk P w K mg base CX0 2 f1 d1 ["self"] (Kr K C):=WW.mono (by decide);refine F.cH ["self","column"] fun cdv A outer s H vs Q E hr h=> ?_;obtain⟨o,H0,n,m,S,wt,T,rfl,hT,hS,hg,qq⟩:=h;refine bf ?_;intro Y;refine⟨_,(aP (pS 1 (zm (pv 0) Cc D1.m G1 hr D1.b .nil pass0)) (aV (ps_while yW (dR op_notN (pv 1) pe_non) (aP (oO (v7 (pv 0) Cc D2.m G2 hr D2.b .nil pass0 (aj (v7 (pv 0) Cc D3.m G3 hr D3.b .nil pass0 (aj (pv 1) ak)) (aj (pv 1) ak)))) (aV (pS 1 (zm (pv 0) Cc D1.m G1 hr D1.b .nil pass0))))))),?_⟩;refine lQ ?_;intro c2;have key:∀(x:V) (H1:Hp),lX K C H0 H1 o n m T->NcV n m T x->∃k,Oz K C o H0 n m S wt k [some (.ref o),some x] H1:=fun x H1 h1 h2=>
  ⟨2^(n+m),fun _=>T,fun _=>0,fun _=>0,0,x,⟨hg,fun t ht=>absurd ht (Ua t),fun t ht=>absurd ht (Ua t)⟩,Nat.zero_add _,h1,rfl,h2⟩
 obtain⟨dx,cl,co,ro,rws,hA0⟩:=id hT;refine⟨_,rfl,o,dx,_,rfl,hA0.at_,rfl,o,H0,n,m,S,wt,T,rfl,hT,hS.tg hg,?a,?b⟩
 case' a=>
  intro h H1 s1;have w0:=key _ _ (hT.sm s1) (.inl ⟨rfl,h⟩);refine⟨Oz K C o H0 n m S wt,w0,?_⟩;clear w0 s1 h
 case' b=>
  intro q H1 hq hn he s1;have w0:=key _ _ (hT.sm s1) (.inr ⟨q,rfl,hq,hn,he⟩);refine⟨Oz K C o H0 n m S wt,w0,?_⟩;clear w0 s1 he hn hq q
 all_goals
  clear H1;intro k σ H1 h;obtain⟨Ts,ps,qs,L,x,R,hk,⟨dx',cl,co,ro,rws,hA⟩,rfl,hx⟩:=h;have hgL:=R.good L (aY L);have hG:=hS.tg hgL;have hsh:=R.short;rcases hx with⟨rfl,hx⟩|⟨q,rfl,hq,hn,he⟩
  ·refine⟨_,rfl,rfl,_,rfl,?_⟩;refine iteF ?_;exact qq (Ts L) H1 ⟨dx',cl,co,ro,rws,hA⟩ hgL hx
  ·refine⟨_,rfl,rfl,_,rfl,?_⟩;refine iteT ?_;refine⟨Oz K C o H0 n m S wt (k-1),fun σ' H' z=>⟨k-1,by omega,z⟩,?_⟩;refine⟨_,rfl,o,dx',_,rfl,hA.at_,rfl,_,rfl,o,dx',_,rfl,hA.at_,rfl,_,rfl,o,H0,n,m,q,S,wt,Ts L,rfl,⟨dx',cl,co,ro,rws,hA⟩,hG,hq,fun p hp h0 hlev=> ?_⟩;have st:Sx.Step n m (Ts L) p q:=⟨hp,hq,hn,he,h0,hlev⟩;refine⟨_,rfl,o,H0,n,m,p,q,S,wt,Ts L,rfl,⟨dx',cl,co,ro,rws,hA⟩,hG,hp,hq,fun H2 hT2=> ?_⟩;have R2:=Lh R st;have g2:=st.good hgL;obtain⟨dx2,cl2,co2,ro2,abt,hA2⟩:=id hT2;have fin:∀(x:V) (H3:Hp),Same H2 H3->NcV n m (Sx.turn (Ts L) p q) x->Oz K C o H0 n m S wt (k-1) [some (.ref o),some x] H3:=fun x H3 s3 hx=>by
    refine⟨_,_,_,L+1,x,R2,by omega,?_,rfl,?_⟩
    ·rw[aA (by omega)];exact hT2.sm s3
    ·rw[aA (by omega)];exact hx
   exact⟨_,rfl,o,dx2,_,rfl,hA2.at_,rfl,o,H0,n,m,S,wt,_,rfl,hT2,hS.tg g2,fun h H3 s3=>fin _ H3 s3 (.inl ⟨rfl,h⟩),fun q' H3 hq' hn' he' s3=>fin _ H3 s3 (.inr ⟨q',rfl,hq',hn',he'⟩)⟩
noncomputable def aap(k:Nat)(i:Int)(r:Nat):Prop:=(i=(r:Int)/\r<=k)\/(i= -1/\r=k)
noncomputable def zB(K:W.Frag)(C:Addr):Sp:=fun vs H Q _=>∃(o:Addr) (H0:Hp) (n m r c:Nat) (i j:Int) (S:Nat->Nat->Bool) (wt:Nat->Int) (T:Sx.Tab),vs=[.ref o,.int i,.int j]/\lX K C H0 H o n m T/\TG n m S wt T/\aap m i r/\aap n j c/\
 ∀p H' u v,Same H H'->H' p=some (.tup [.int u,.int ((v:Nat):Int)])->Low (T.cell r c) T.over.toNat u v->Q (.ref p) H'
theorem Vj{f f1 C:Addr}{fd d1:ρ}(F:Fun K "fraction_at" "Tableau.fraction_at" X3 f fd)
  (Cc:Cls K C)(bx:NoAttr K C "cells")(dB:NoAttr K C "over")(aZ:NoAttr K C "columns")(cJ:NoAttr K C "rows")(D1:bL K mg "lowest" iZ ["a","b"] f1 d1)(G1:FnOk P w K mg base CX0 2 f1 d1 ["a","b"] (zG K)):
  FnOk P w K mg base CX0 3 f fd ["self","row","column"] (zB K C):=by
 refine F.cH ["self","row","column"] fun cdv A outer s H vs Q E hr h=> ?_;obtain⟨o,H0,n,m,r,c,i,j,S,wt,T,rfl,⟨dx,cl,co,ro,rws,hT⟩,hG,hi,hj,qq⟩:=h;refine⟨_,(aV (bK (pc G1 hr D1 (aj (aR eF (aR eF (gM (pv 0) rfl) (pv 1)) (pv 2)) (aj (gM (pv 0) rfl) ak))))),?_⟩;have hri:∃a,atI (rws.map V.ref) i=some (.ref a)/\H a=some (.lst (bh n (T.cell r))):=by
  rcases hi with⟨rfl,h⟩|⟨rfl,rfl⟩
  ·obtain⟨a,_,h1,h2⟩:=hT.IW h;exact⟨a,h1,h2⟩
  ·obtain⟨a,_,h1,h2⟩:=hT.YG;exact⟨a,h1,h2⟩
 have hcj:atI (bh n (T.cell r)) j=some (.int (T.cell r c)):=by
  rcases hj with⟨rfl,h⟩|⟨rfl,rfl⟩
  ·exact eN _ h
  ·exact qK _ _
 obtain⟨a,h1,h2⟩:=hri;have ho:=hG.over;refine⟨_,rfl,o,C,dx,_,_,rfl,hT.at_,Cc,bx,rfl,_,rfl,cl,_,_,_,rfl,rfl,SqL.of hT.cells,h1,_,rfl,a,_,_,_,rfl,rfl,SqL.of h2,hcj,?_⟩;refine⟨_,rfl,o,C,dx,_,_,rfl,hT.at_,Cc,dB,rfl,T.cell r c,T.over.toNat,?_,by omega,cV (show T.over.toNat<=39916800 by omega) (by decide),fun p H' u v s e l=>qq p H' u v s e l⟩;rw[show((T.over.toNat:Nat):Int)=T.over by omega];rfl
theorem Ak{u:Int}{v b:Nat}(hb:0<b)(h:Low 0 1 u v):Low 0 b u v:=by
 have e:=h.eq;have hu:u=0:=by omega
 subst hu;have c:=h.cop;rw[show(0:Int).natAbs=0 from rfl,Nat.gcd_zero_left]at c;subst c;exact⟨by decide,rfl,by omega,aY _,hb,fun _=>rP _⟩
noncomputable def Kq(K:W.Frag)(C:Addr):Sp:=fun vs H Q _=>∃(o:Addr) (H0:Hp) (n m a:Nat) (S:Nat->Nat->Bool) (wt:Nat->Int) (T:Sx.Tab),vs=[.ref o,.int (a:Int)]/\lX K C H0 H o n m T/\TG n m S wt T/\
 ∀p H' u v,Same H H'->H' p=some (.tup [.int u,.int ((v:Nat):Int)])->Low (Sx.Xs n m T a) T.over.toNat u v->Q (.ref p) H'
theorem Vg{f f1 f2 C:Addr}{fd d1 d2:ρ}(F:Fun K "price_of" "Tableau.price_of" zct f fd)
  (Cc:Cls K C)(bx:NoAttr K C "cells")(dB:NoAttr K C "over")(aZ:NoAttr K C "columns")(cJ:NoAttr K C "rows")(D1:bL K mg "lowest" iZ ["a","b"] f1 d1)(G1:FnOk P w K mg base CX0 2 f1 d1 ["a","b"] (zG K))(D2:lY K C "fraction_at" "Tableau.fraction_at" X3 ["self","row","column"] f2 d2)(G2:FnOk P w K mg base CX0 3 f2 d2 ["self","row","column"] (zB K C)):
  FnOk P w K mg base CX0 4 f fd ["self","name"] (Kq K C):=by
 refine F.cH ["self","name"] fun cdv A outer s H vs Q E hr h=> ?_;obtain⟨o,H0,n,m,a,S,wt,T,rfl,⟨dx,cl,co,ro,rws,hT⟩,hG,qq⟩:=h;refine bf ?_;intro Y;refine⟨_,(aP (fQ (dR (qL hr.units) (pv 1) (gM (pv 0) rfl) (by with_unfolding_all rfl)) (aV (bK (pc G1 hr D1 (aj aB (aj aB ak))))) gO) (aV (bK (v7 (pv 0) Cc D2.m G2 hr D2.b .nil pass0 (aj (pe_bm Qh wbt wbu qO (gM (pv 0) rfl) (aj (pv 1) ak)) (aj (pe_un un_neg aB) ak)))))),?_⟩;refine lQ ?_;intro c2;have ho:=hG.over;refine⟨_,rfl,_,rfl,o,C,dx,_,_,rfl,hT.at_,Cc,cJ,rfl,ro,_,_,.int (a:Int),rfl,.inl (SqL.of hT.rows),cQ.ints _,.int _,Cp _,rfl,(by show 0<=60;decide),_,rfl,?_⟩;rw[any_ints];refine ite2 (fun c=> ?_) (fun c=> ?_)
 ·have c':((a:Nat):Int)∉cD m T.row:=by
   intro hm;rw[cW hm]at c;cases c
  refine⟨0,1,rfl,by decide,by decide,fun p H' u v s e l=>qq p H' u v s e ?_⟩;rw[Sx.R9 fun r hr z=>c' (by
   have:=Fw T.row hr;rw[z]at this;exact tM this)]
  exact Ak (by omega) l
 ·have c':((a:Nat):Int)∈cD m T.row:=by
   refine Xn fun hm=>c ?_;rw[fW hm];rfl
  obtain⟨r,hr1,er⟩:=Ip c';have hr0:r<m:=by rw[Il]at hr1;exact hr1
  have e0:=dG hr1;rw[er]at e0;have ea:T.row r=a:=by
   rw[Fw _ hr0]at e0;exact Yo (sV e0)
  subst ea;refine⟨_,rfl,o,dx,_,rfl,hT.at_,rfl,_,rfl,o,C,dx,_,_,rfl,hT.at_,Cc,cJ,rfl,.inl ⟨rfl,_,SqL.of hT.rows⟩,_,rfl,ro,cD m T.row,_,r,rfl,rfl,hT.rows,Fw _ hr0,fun i hi e=> ?_,by rw[Il];have:=hG.Y8;omega,?_⟩
  ·rw[Fw _ (by omega)]at e;have:=hG.good.Ln i r (by omega) hr0 (Yo (sV e));omega
  ·refine⟨_,rfl,o,H0,n,m,r,n,_,_,S,wt,T,rfl,⟨dx,cl,co,ro,rws,hT⟩,hG,.inl ⟨rfl,dH hr0⟩,.inr ⟨rfl,rfl⟩,fun p H' u v s e l=>qq p H' u v s e ?_⟩;rw[hG.good.Sq hr0];exact l
noncomputable def Kp(K:W.Frag)(C:Addr):Sp:=fun vs H Q _=>∃(o:Addr) (H0:Hp) (n m a:Nat) (S:Nat->Nat->Bool) (wt:Nat->Int) (T:Sx.Tab),vs=[.ref o,.int (a:Int)]/\lX K C H0 H o n m T/\TG n m S wt T/\
 ∀p H' u v,Same H H'->H' p=some (.tup [.int u,.int ((v:Nat):Int)])->Low (Sx.Ys n m T a) T.over.toNat u v->Q (.ref p) H'
theorem Vf{f f1 f2 C:Addr}{fd d1 d2:ρ}(F:Fun K "share_of" "Tableau.share_of" zcs f fd)
  (Cc:Cls K C)(bx:NoAttr K C "cells")(dB:NoAttr K C "over")(aZ:NoAttr K C "columns")(cJ:NoAttr K C "rows")(D1:bL K mg "lowest" iZ ["a","b"] f1 d1)(G1:FnOk P w K mg base CX0 2 f1 d1 ["a","b"] (zG K))(D2:lY K C "fraction_at" "Tableau.fraction_at" X3 ["self","row","column"] f2 d2)(G2:FnOk P w K mg base CX0 3 f2 d2 ["self","row","column"] (zB K C)):
  FnOk P w K mg base CX0 4 f fd ["self","name"] (Kp K C):=by
 refine F.cH ["self","name"] fun cdv A outer s H vs Q E hr h=> ?_;obtain⟨o,H0,n,m,a,S,wt,T,rfl,⟨dx,cl,co,ro,rws,hT⟩,hG,qq⟩:=h;refine bf ?_;intro Y;refine⟨_,(aP (fQ (dR (qL hr.units) (pv 1) (gM (pv 0) rfl) (by with_unfolding_all rfl)) (aV (bK (pc G1 hr D1 (aj aB (aj aB ak))))) gO) (aV (bK (v7 (pv 0) Cc D2.m G2 hr D2.b .nil pass0 (aj (pe_un un_neg aB) (aj (pe_bm Qh wbt wbu qO (gM (pv 0) rfl) (aj (pv 1) ak)) ak)))))),?_⟩;refine lQ ?_;intro c2;have ho:=hG.over;refine⟨_,rfl,_,rfl,o,C,dx,_,_,rfl,hT.at_,Cc,aZ,rfl,co,_,_,.int (a:Int),rfl,.inl (SqL.of hT.cols),cQ.ints _,.int _,Cp _,rfl,(by show 0<=60;decide),_,rfl,?_⟩;rw[any_ints];refine ite2 (fun c=> ?_) (fun c=> ?_)
 ·have c':((a:Nat):Int)∉cD n T.col:=by
   intro hm;rw[cW hm]at c;cases c
  refine⟨0,1,rfl,by decide,by decide,fun p H' u v s e l=>qq p H' u v s e ?_⟩;rw[Sx.X4 fun r hr z=>c' (by
   have:=Fw T.col hr;rw[z]at this;exact tM this)]
  exact Ak (by omega) l
 ·have c':((a:Nat):Int)∈cD n T.col:=by
   refine Xn fun hm=>c ?_;rw[fW hm];rfl
  obtain⟨r,hr1,er⟩:=Ip c';have hr0:r<n:=by rw[Il]at hr1;exact hr1
  have e0:=dG hr1;rw[er]at e0;have ea:T.col r=a:=by
   rw[Fw _ hr0]at e0;exact Yo (sV e0)
  subst ea;refine⟨_,rfl,o,dx,_,rfl,hT.at_,rfl,_,rfl,_,rfl,o,C,dx,_,_,rfl,hT.at_,Cc,aZ,rfl,.inl ⟨rfl,_,SqL.of hT.cols⟩,_,rfl,co,cD n T.col,_,r,rfl,rfl,hT.cols,Fw _ hr0,fun i hi e=> ?_,by rw[Il];have:=hG.n10;omega,?_⟩
  ·rw[Fw _ (by omega)]at e;have:=hG.good.Eh i r (by omega) hr0 (Yo (sV e));omega
  ·refine⟨o,H0,n,m,m,r,_,_,S,wt,T,rfl,⟨dx,cl,co,ro,rws,hT⟩,hG,.inr ⟨rfl,rfl⟩,.inl ⟨rfl,dH hr0⟩,fun p H' u v s e l=>qq p H' u v s e ?_⟩;rw[hG.good.X5 hr0];exact l
noncomputable def dZ(L:List (List Int))(k p:Nat):Bool:=decide (((p:Nat):Int)∈L.getD k [])
noncomputable def oZ(wl:List Int)(p:Nat):Int:=wl.getD p 0
theorem U4{n m r:Nat}{L:List (List Int)}{wt:Nat->Int}(hr:r<m):((List.range n).map fun(p:Nat)=>if decide (((p:Nat):Int)∈L.getD r [])=true then(1:Int)else 0).map V.int++[.int 1]=bh n ((Sx.start n m (dZ L) wt).cell r):=by
 unfold bh;rw[yU,bV,bV];congr 1
 ·refine kO _ (Ud fun c hc=> ?_);have hc':=jz.mp hc;show _=if r=m then _ else if c=n then(1:Int)else if dZ L r c=true then 1 else 0
  rw[aA (show¬r=m by omega),aA (show¬c=n by omega)];rfl
 ·show[V.int 1]=[V.int (if r=m then _ else if n=n then(1:Int)else _)];rw[aA (by omega),aD rfl]
theorem Qq{m:Nat}{L:List (List Int)}{wl:List Int}:(wl.map fun x=> -x).map V.int++[.int 0]=bh wl.length ((Sx.start wl.length m (dZ L) (oZ wl)).cell m):=by
 unfold bh;rw[yU,bV,bV];congr 1
 ·refine kO _ (wca fun i=> ?_);rw[dU,dU];by_cases hi:i<wl.length
  ·rw[dG hi,R0 hi];show some (-wl[i])=some (if m=m then(if i=wl.length then(0:Int)else -(wl.getD i 0))else _);rw[aD rfl,aA (by omega),lq,dG hi];rfl
  ·rw[Xf (by omega),Xf (by rw[vo];omega)];rfl
 ·show[V.int 0]=[V.int (if m=m then(if wl.length=wl.length then(0:Int)else _)else _)];rw[aD rfl,aD rfl]
theorem _root_.L2.SqT.Iv{H:Hp}{a o C dx:Addr}{fs:List (Str×V)}{u:HO}{xs:List V}(hO:H o=some (.ins C dx fs))(h:SqT K H a xs):SqT K (upd H o u) a xs:=by
 rcases h with(h|⟨ob,h⟩)|h
 ·exact .inl (.inl (by rw[cY (ne_of h hO fun e=>nomatch e)];exact h))
 ·exact .inl (.inr ⟨ob,by rw[cY (ne_of h hO fun e=>nomatch e)];exact h⟩)
 ·exact .inr h
noncomputable def CK(K:W.Frag)(C:Addr):Sp:=fun vs H Q _=>∃(o dx sl wa:Addr) (H0:Hp) (its:List (Addr×List Int)) (wl:List Int),vs=[.ref o,.ref sl,.ref wa]/\H o=some (.ins C dx [])/\Same H0 H/\H0 o=none/\H sl=some (.lst (its.map fun p=>V.ref p.1))/\(∀p∈its,SqT K H p.1 (p.2.map V.int))/\SqT K H wa (wl.map V.int)/\wl.length<=10/\its.length<=40/\
 ∀H',lX K C H0 H' o wl.length its.length (Sx.start wl.length its.length (dZ (its.map (·.2))) (oZ wl))->Q .non H'
theorem Qz{f C:Addr}{fd:ρ}(F:Fun K "__init__" "Tableau.__init__" gk f fd)
  (Cc:Cls K C)(bx:NoAttr K C "cells")(dB:NoAttr K C "over")(aZ:NoAttr K C "columns")(cJ:NoAttr K C "rows")(cg:mg "len"=none)(aN:mg "range"=none)(bZ:mg "list"=none):
  FnOk P w K mg base CX0 1 f fd ["self","sets","wants"] (CK K C):=by
 refine F.cH ["self","sets","wants","n"] fun cdv A outer s H vs Q E hr h=> ?_;obtain⟨o,dx,sl,wa,H0,its,wl,rfl,hO,hS0,h0,hS,hP,hW,hn,hm,qq⟩:=h;refine bf ?_;intro Y;refine⟨_,(aP (pS 3 (pB vq cg (aj (pv 2) ak))) (aP (ps_fld (pv 0) (pK ["some"] ["n"] [3] (sO (pv 1)) (pG 0) oR (bC op_cat (pK ["place"] ["some"] [0] (JM rfl aN (aj (pv 1) ak)) (pG 0) oR (pe_ifExp (dR (jR K hr.units) (pv 0) (pv 1) (by with_unfolding_all rfl)) aB aB)) (pe_lst (aj aB ak)))) rfl) (aP (oO (pe_bm Qh wbf wbg mt_append (gM (pv 0) rfl) (aj (bC op_cat (pK ["want"] [] [] (Cj (pv 2)) (pG 0) oR (pe_un un_neg (pv 0))) (pe_lst (aj aB ak))) ak))) (aP (ps_fld (pv 0) aB rfl) (aP (ps_fld (pv 0) (gZ rfl rfl bZ rfl aN (aj (pv 3) ak)) rfl) (aV (ps_fld (pv 0) (xO rfl rfl bZ rfl aN (aj (pv 3) (aj (bC oX (pv 3) (pB vq cg (aj (pv 1) ak))) ak))) rfl))))))),?_⟩;refine Ng ?_;intro c6 c5 c4 c3 c2;refine⟨_,rfl,wa,_,rfl,.inr hW,fun _=> ?_⟩;rw[aL];refine⟨_,rfl,sl,_,rfl,SqL.of hS,fun hz=> ?_⟩;let gR:Nat->List V->St->Hp->Prop:=fun i acc σ H'=>∃as:List Addr,acc=as.map V.ref/\as.length=i/\Same H H'/\(∀r a,as[r]? =some a->H' a=some (.lst (bh wl.length ((Sx.start wl.length its.length (dZ (its.map (·.2))) (oZ wl)).cell r))))/\∃o1,σ=[o1,some (.int (wl.length:Int))];refine yQ (xs:=its.map fun p=>V.ref p.1) gR ⟨[],rfl,rfl,Same.refl _,fun r a e=>(nomatch e),_,rfl⟩ (fun i acc σ H' _ x=> ?_) (fun i acc σ H' _ x=> ?_) hz (fun i v acc σ H1 hv x=> ?_) (fun acc σ H1 x=> ?_)
 ·obtain⟨_,_,_,sm,_⟩:=x;exact sm.seq (SqL.of hS)
 ·obtain⟨as,rfl,hl,_⟩:=x;rw[aL,hl];exact aY _
 ·obtain⟨as,rfl,hl,sm,has,o1,rfl⟩:=x;rw[dU]at hv;cases ev:its[i]? with
  |none=>rw[ev]at hv;cases hv
  |some it=>
   rw[ev]at hv;cases hv;have him:i<its.length:=(nF.mp ev).1;have hit:=hP it (tM ev);have eg:(its.map (·.2)).getD i []=it.2:=by rw[lq,dU,ev];rfl
   refine⟨_,rfl,_,rfl,by omega,by omega,?_⟩;let qj:Nat->List V->St->Hp->Prop:=fun c acc σ H'=>acc=((List.range c).map fun(p:Nat)=>if decide (((p:Nat):Int)∈it.2)=true then(1:Int)else 0).map V.int/\H'=H1/\∃o2,σ=[o2,some (.ref it.1)];refine RQ (n:=wl.length) qj ⟨rfl,rfl,_,rfl⟩ (fun c acc σ H' hc y=> ?_) (by rw[gU];omega) (fun c acc σ H' hc y=> ?_) (fun acc σ H' y=> ?_)
   ·rw[y.1,aL,aL,vo];exact aY _
   ·obtain⟨rfl,rfl,o2,rfl⟩:=y;refine⟨_,rfl,_,rfl,it.1,_,_,.int (0+(c:Int)),rfl,.inr (sm.tup hit),cQ.ints _,.int _,Cp _,rfl,(by show 0<=60;decide),_,rfl,?_⟩;rw[any_ints,Xa];refine ite2 (fun z=> ?_) (fun z=> ?_)
    ·exact⟨by rw[yU,bV,bV];show _=_++[V.int (if _ then _ else _)];rw[aD z],rfl,_,rfl⟩
    ·exact⟨by rw[yU,bV,bV];show _=_++[V.int (if _ then _ else _)];rw[aA z],rfl,_,rfl⟩
   ·intro p1 hp1;obtain⟨rfl,rfl,_⟩:=y;have s1:=aO hp1 (.lst (((List.range wl.length).map fun(p:Nat)=>if decide (((p:Nat):Int)∈it.2)=true then(1:Int)else 0).map V.int));refine⟨(by show 1<=sizeLine;decide),fun p2 hp2=> ?_⟩;have s2:=aO hp2 (.lst [.int 1]);refine⟨p1,p2,_,_,rfl,rfl,s2 _ _ aF,aF,(by rw[aL,aL,vo,gU];show _+1<=_;omega),fun p3 hp3=> ?_⟩;have s3:=aO hp3 (.lst (((List.range wl.length).map fun(p:Nat)=>if decide (((p:Nat):Int)∈it.2)=true then(1:Int)else 0).map V.int++[.int 1]));have qC:=s1.trans (s2.trans s3);refine⟨as++[p3],by rw[bV];rfl,by rw[qz,hl];rfl,sm.trans qC,fun r a e=> ?_,_,rfl⟩;rw[wcg]at e;by_cases c:r<as.length
    ·rw[aD c]at e;exact qC _ _ (has r a e)
    ·rw[aA c]at e;have Z0:r-as.length=0:=by
      have:=(nF.mp e).1;have:r-as.length<1:=this;omega
     rw[Z0]at e;cases e;have:r=i:=by omega
     subst this;rw[aF,<-U4 (wt:=oZ wl) him,eg]
 ·intro p1 hp1;obtain⟨as,rfl,hl,sm,has,_⟩:=x;rw[aL]at hl;have s1:=aO hp1 (.lst (as.map V.ref));have hO1:=(sm.trans s1) _ _ hO;refine⟨_,rfl,o,C,dx,_,rfl,hO1,Cc,bx,(by show 0<1000;decide),?_⟩
  -- what lies beside the object
  have np:p1≠o:=(sS (sm _ _ hO) hp1).symm;have h10:H p1=none:=sm.none hp1;have Ox:∀r a,as[r]? =some a->a≠o/\a≠p1:=fun r a e=>⟨fun z=>(by have y:=has r a e;rw[z,sm _ _ hO]at y;cases y),fun z=>(by have y:=has r a e;rw[z,hp1]at y;cases y)⟩;have W2:SqT K (upd (upd H1 p1 (.lst (as.map V.ref))) o (.ins C dx (putF "cells" (.ref p1) []))) wa (wl.map V.int):=((sm.trans s1).tup hW).Iv hO1;have S2:(upd (upd H1 p1 (.lst (as.map V.ref))) o (.ins C dx (putF "cells" (.ref p1) []))) sl=some (.lst (its.map fun p=>V.ref p.1)):=by
   rw[cY (ne_of ((sm.trans s1) _ _ hS) hO1 fun e=>nomatch e)];exact(sm.trans s1) _ _ hS
  have A2:∀r a,as[r]? =some a->(upd (upd H1 p1 (.lst (as.map V.ref))) o (.ins C dx (putF "cells" (.ref p1) []))) a=some (.lst (bh wl.length ((Sx.start wl.length its.length (dZ (its.map (·.2))) (oZ wl)).cell r))):=fun r a e=>by
   rw[cY (Ox r a e).1];exact s1 _ _ (has r a e)
  have P2:(upd (upd H1 p1 (.lst (as.map V.ref))) o (.ins C dx (putF "cells" (.ref p1) []))) p1=some (.lst (as.map V.ref)):=by rw[cY np,aF]
  have O2:(upd (upd H1 p1 (.lst (as.map V.ref))) o (.ins C dx (putF "cells" (.ref p1) []))) o=some (.ins C dx [("cells",.ref p1)]):=aF;have Z2:Same H0 (upd (upd H1 p1 (.lst (as.map V.ref))) o (.ins C dx (putF "cells" (.ref p1) []))):=Same.vH (hS0.trans (sm.trans s1)) h0;generalize (upd (upd H1 p1 (.lst (as.map V.ref))) o (.ins C dx (putF "cells" (.ref p1) [])))=H2 at *;refine⟨_,rfl,o,C,dx,_,_,rfl,O2,Cc,bx,rfl,.inl ⟨rfl,_,SqL.of P2⟩,_,rfl,wa,_,rfl,W2,fun hz2=> ?_⟩;let Bw:Nat->List V->St->Hp->Prop:=fun i acc σ H'=>acc=((wl.take i).map fun x=> -x).map V.int/\H'=H2/\∃o2,σ=[o2];refine Cm (xs:=wl.map V.int) Bw ⟨rfl,rfl,_,rfl⟩ (fun i acc σ H' _ y=>by rw[y.2.1];exact W2) (fun i acc σ H' _ y=> ?_) hz2 (fun i v acc σ H' hv y=> ?_) (fun acc σ H' y=> ?_)
  ·rw[y.1,aL,aL,tL];exact Fz _ _
  ·obtain⟨rfl,rfl,o2,rfl⟩:=y;rw[dU]at hv;cases ev:wl[i]? with
   |none=>rw[ev]at hv;cases hv
   |some x=>
    rw[ev]at hv;cases hv;exact⟨_,rfl,_,rfl,by rw[vm,ev,bV,bV];rfl,rfl,_,rfl⟩
  intro p2 hp2;obtain⟨rfl,rfl,_⟩:=y;rw[aL,rQ];have s2:=aO hp2 (.lst ((wl.map fun x=> -x).map V.int));refine⟨(by show 1<=sizeLine;decide),fun p3 hp3=> ?_⟩;have s3:=aO hp3 (.lst [.int 0]);refine⟨p2,p3,_,_,rfl,rfl,s3 _ _ aF,aF,(by rw[aL,aL,gU];show _+1<=_;omega),fun p4 hp4=> ?_⟩;have s4:=aO hp4 (.lst ((wl.map fun x=> -x).map V.int++[.int 0]));have yX:=s2.trans (s3.trans s4);rw[Qq (m:=its.length) (L:=its.map (·.2))]at yX s4⊢;have e4:(upd (upd (upd H' p2 (.lst ((wl.map fun x=> -x).map V.int))) p3 (.lst [.int 0])) p4 (.lst (bh wl.length ((Sx.start wl.length its.length (dZ (its.map (·.2))) (oZ wl)).cell its.length)))) p4=some (.lst (bh wl.length ((Sx.start wl.length its.length (dZ (its.map (·.2))) (oZ wl)).cell its.length))):=aF;have n4:p4≠p1:=(sS (s3 _ _ (s2 _ _ P2)) hp4).symm;have n4o:p4≠o:=(sS (s3 _ _ (s2 _ _ O2)) hp4).symm;have P3:=yX _ _ P2;have O3:=yX _ _ O2;have S3:=yX _ _ S2;have Z3:=Z2.trans yX;have A3:∀r a,as[r]? =some a->_:=fun r a e=>yX _ _ (A2 r a e);generalize (upd (upd (upd H' p2 (.lst ((wl.map fun x=> -x).map V.int))) p3 (.lst [.int 0])) p4 (.lst (bh wl.length ((Sx.start wl.length its.length (dZ (its.map (·.2))) (oZ wl)).cell its.length))))=H3 at *;refine⟨p1,_,_,rfl,rfl,P3,(by rw[aL,gU];omega),?_⟩
  -- all rows
  have h1n:H0 p1=none:=hS0.none h10;have nos:o≠p1:=np.symm;have nsl:sl≠p1:=(sS hS h10);have C4:(upd H3 p1 (.lst (as.map V.ref++[.ref p4]))) p1=some (.lst ((as++[p4]).map V.ref)):=by rw[aF,bV];rfl
  have O4:(upd H3 p1 (.lst (as.map V.ref++[.ref p4]))) o=some (.ins C dx [("cells",.ref p1)]):=by rw[cY nos];exact O3
  have S4:(upd H3 p1 (.lst (as.map V.ref++[.ref p4]))) sl=some (.lst (its.map fun p=>V.ref p.1)):=by rw[cY nsl];exact S3
  have Z4:Same H0 (upd H3 p1 (.lst (as.map V.ref++[.ref p4]))):=Same.vH Z3 h1n;have R4:∀r a,(as++[p4])[r]? =some a->(upd H3 p1 (.lst (as.map V.ref++[.ref p4]))) a=some (.lst (bh wl.length ((Sx.start wl.length its.length (dZ (its.map (·.2))) (oZ wl)).cell r)))/\a≠o:=fun r a e=>by
   rw[wcg]at e;by_cases c:r<as.length
   ·rw[aD c]at e;refine⟨?_,(Ox r a e).1⟩;rw[cY (Ox r a e).2];exact A3 r a e
   ·rw[aA c]at e;have Z0:r-as.length=0:=by
     have:=(nF.mp e).1;have:r-as.length<1:=this;omega
    rw[Z0]at e;cases e;have:r=its.length:=by omega
    subst this;refine⟨?_,n4o⟩;rw[cY n4];exact e4
  generalize (upd H3 p1 (.lst (as.map V.ref++[.ref p4])))=H4 at *;refine⟨_,rfl,o,C,dx,_,rfl,O4,Cc,dB,(by show 1<1000;decide),?_⟩;have O5:(upd H4 o (.ins C dx (putF "over" (.int 1) [("cells",.ref p1)]))) o=some (.ins C dx [("cells",.ref p1),("over",.int 1)]):=aF;have k5:∀b u,b≠o->H4 b=some u->(upd H4 o (.ins C dx (putF "over" (.int 1) [("cells",.ref p1)]))) b=some u:=fun b u hb e=>by rw[cY hb];exact e
  have nso:sl≠o:=ne_of S4 O4 fun e=>nomatch e
  have C5:=k5 _ _ np C4;have S5:=k5 _ _ nso S4;have Z5:Same H0 (upd H4 o (.ins C dx (putF "over" (.int 1) [("cells",.ref p1)]))):=Same.vH Z4 h0;have R5:∀r a,(as++[p4])[r]? =some a->_:=fun r a e=>k5 _ _ (R4 r a e).2 (R4 r a e).1;generalize (upd H4 o (.ins C dx (putF "over" (.int 1) [("cells",.ref p1)])))=H5 at *;refine⟨_,rfl,(wl.length:Int),rfl,by omega,by omega,fun co hco=> ?_⟩;have s6:=aO hco (.lst (dh (wl.length:Int).toNat));have O6:=s6 _ _ O5;refine⟨_,rfl,o,C,dx,_,rfl,O6,Cc,aZ,(by show 2<1000;decide),?_⟩;have nco:co≠o:=(sS O5 hco).symm;have k7:∀b u,b≠o->(upd H5 co (.lst (dh (wl.length:Int).toNat))) b=some u->(upd (upd H5 co (.lst (dh (wl.length:Int).toNat))) o (.ins C dx (putF "columns" (.ref co) [("cells",.ref p1),("over",.int 1)]))) b=some u:=fun b u hb e=>by rw[cY hb];exact e
  have O7:(upd (upd H5 co (.lst (dh (wl.length:Int).toNat))) o (.ins C dx (putF "columns" (.ref co) [("cells",.ref p1),("over",.int 1)]))) o=some (.ins C dx [("cells",.ref p1),("over",.int 1),("columns",.ref co)]):=aF;have C7:=k7 _ _ np (s6 _ _ C5);have S7:=k7 _ _ nso (s6 _ _ S5);have L7:=k7 _ _ nco aF;have R7:∀r a,(as++[p4])[r]? =some a->_:=fun r a e=>k7 _ _ (R4 r a e).2 (s6 _ _ (R5 r a e));have Z7:Same H0 (upd (upd H5 co (.lst (dh (wl.length:Int).toNat))) o (.ins C dx (putF "columns" (.ref co) [("cells",.ref p1),("over",.int 1)]))):=Same.vH (Z5.trans s6) h0;have c0:H0 co=none:=Z5.none hco;have ncr:co∉as++[p4]:=fun hm=>by
   obtain⟨r,hr1,e⟩:=Ip hm;have:=R5 r _ (dG hr1);rw[e,hco]at this;cases this
  generalize (upd (upd H5 co (.lst (dh (wl.length:Int).toNat))) o (.ins C dx (putF "columns" (.ref co) [("cells",.ref p1),("over",.int 1)])))=H7 at *;refine⟨_,rfl,_,rfl,_,rfl,sl,_,rfl,.inl (SqL.of S7),fun _=>⟨_,_,rfl,rfl,_,_,rfl,by omega,?_,?_,fun ro Zg=> ?_⟩⟩
  ·rw[aL];omega
  ·rw[aL];omega
  rw[aL];have s8:=aO Zg (.lst ((pQ (wl.length:Int) ((wl.length:Int)+(its.length:Int)-(wl.length:Int)).toNat).map V.int));have O8:=s8 _ _ O7;refine⟨_,rfl,o,C,dx,_,rfl,O8,Cc,cJ,(by show 3<1000;decide),?_⟩;have nro:ro≠o:=(sS O7 Zg).symm;have k9:∀b u,b≠o->(upd H7 ro (.lst ((pQ (wl.length:Int) ((wl.length:Int)+(its.length:Int)-(wl.length:Int)).toNat).map V.int))) b=some u->(upd (upd H7 ro (.lst ((pQ (wl.length:Int) ((wl.length:Int)+(its.length:Int)-(wl.length:Int)).toNat).map V.int))) o (.ins C dx (putF "rows" (.ref ro) [("cells",.ref p1),("over",.int 1),("columns",.ref co)]))) b=some u:=fun b u hb e=>by rw[cY hb];exact e
  refine qq _ ⟨dx,p1,co,ro,as++[p4],Same.vH (Z7.trans s8) h0,h0,h1n,c0,Z7.none Zg,sS L7 Zg,ncr,fun hm=> ?_,aF,k9 _ _ np (s8 _ _ C7),by rw[qz,hl];rfl,fun r a e=>k9 _ _ (R4 r a e).2 (s8 _ _ (R7 r a e)),?_,?_⟩
  ·obtain⟨r,hr1,e⟩:=Ip hm;have:=R7 r _ (dG hr1);rw[e,Zg]at this;cases this
  ·rw[k9 _ _ nco (s8 _ _ L7)];congr 2;unfold dh cD;rw[wg,show(wl.length:Int).toNat=wl.length by omega];rfl
  ·rw[k9 _ _ nro aF];congr 2;unfold pQ cD;rw[show((wl.length:Int)+(its.length:Int)-(wl.length:Int)).toNat=its.length by omega];refine kO _ (Ud fun k _=> ?_);show(wl.length:Int)+(k:Int)=((wl.length+k:Nat):Int);omega
end
noncomputable def aH(a:Int)(b:Nat):Int×Nat:=(a/((Nat.gcd a.natAbs b:Nat):Int),b/Nat.gcd a.natAbs b)
theorem yP(a:Int){b:Nat}(hb:0<b):Low a b (aH a b).1 (aH a b).2:=yc a b hb
theorem Aj{a:Int}{b:Nat}{u u':Int}{v v':Nat}(hb:0<b)(h:Low a b u v)(h':Low a b u' v'):u=u'/\v=v':=by
 have e1:=h.eq;have e2:=h'.eq;have bi:(0:Int)<(b:Int):=by omega
 have cr:u*(v':Int)=u'*(v:Int):=by
  refine wdd (a:=(b:Int)) (by omega) ?_;have x:(b:Int)*(u*(v':Int))=u*(b:Int)*(v':Int):=by grind
  have y:(b:Int)*(u'*(v:Int))=u'*(b:Int)*(v:Int):=by grind
  rw[x,y,e1,e2];grind
 have cn:u.natAbs*v'=u'.natAbs*v:=by
  have:=kO Int.natAbs cr
  rwa [P0,P0,Pq,Pq]at this
 have d1:v∣v':=by
  have:v∣u.natAbs*v':=by rw[cn];exact Xc _ _
  exact(Xm h.cop).dvd_of_dvd_mul_left this
 have d2:v'∣v:=by
  have:v'∣u'.natAbs*v:=by rw[<-cn];exact Xc _ _
  exact(Xm h'.cop).dvd_of_dvd_mul_left this
 have ev:=wef d1 d2;subst ev;refine⟨?_,rfl⟩;have hv:=h.pos;exact Yd (a:=(v:Int)) (by omega) cr
theorem Dy{a:Int}{b:Nat}{u:Int}{v:Nat}(hb:0<b)(h:Low a b u v):(u,v)=aH a b:=by
 obtain⟨e1,e2⟩:=Aj hb h (yP a hb);rw[e1,e2]
theorem ux{x y:Int}(h:0<x*y)(hy:0<y):0<x:=by
 refine Int.not_le.mp fun hn=> ?_;have:=Cq (a:= -x) (b:=y) (by omega) (by omega)
 grind
theorem Al{a:Int}{b:Nat}(hb:0<b):0<(aH a b).1↔0<a:=by
 have l:=yP a hb;have e:=l.eq;have hv:(0:Int)<((aH a b).2:Int):=by have:=l.pos;omega
 have bi:(0:Int)<(b:Int):=by omega
 constructor
 ·intro h;have:0<(aH a b).1*(b:Int):=T3 h bi;rw[e]at this;exact ux this hv
 ·intro h;have:0<a*((aH a b).2:Int):=T3 h hv;rw[<-e]at this;exact ux this bi
structure Sh(n:Nat)(L:List (List Int))(wl:List Int)(ov:Nat)(Z:Int)(Y X:Nat->Int):Prop where
 pos:0<ov
 big:ov<=39916800
 yn:∀k,0<=Y k
 xn:∀p,0<=X p
 tot:Sx.sm L.length Y=Z
 eno:∀p,p<n->(ov:Int)*oZ wl p<=Sx.sm L.length fun k=>if dZ L k p=true then Y k else 0
 lig:∀k,k<L.length->(Sx.sm n fun p=>if dZ L k p=true then X p else 0)<=(ov:Int)
 Ye:(Sx.sm n fun p=>oZ wl p*X p)=Z
theorem YB{n:Nat}{L:List (List Int)}{wl:List Int}{T:Sx.Tab}(hg:TG n L.length (dZ L) (oZ wl) T)(hz:∀c,c<n->0<=T.cell L.length c):
  Sh n L wl T.over.toNat (T.cell L.length n) (fun k=>Sx.Ys n L.length T (n+k)) (fun p=>Sx.Xs n L.length T p):=by
 have ho:=hg.over;have eo:((T.over.toNat:Nat):Int)=T.over:=by omega
 refine⟨by omega,by omega,fun k=>Sx.RT hz _,fun p=>hg.good.Sg _,hg.good.total,fun p hp=> ?_,fun k hk=> ?_,hg.good.prices⟩
 ·rw[eo,hg.good.enough hp];have:=Sx.RT hz p;omega
 ·rw[eo];exact hg.good.light hk
theorem Wx{ts:L0}{n:Nat}{ss:List (List Int)}(h:bB ss ts false n){p:Nat}(hp:p<n):∃k,k<ss.length/\dZ ss k p=true:=by
 have sk:iV ts false n [(p:Int)]:=⟨Pu _ _,fun x hx=>by rw[iD.mp hx];omega,fun x hx y hy hn=>absurd ((iD.mp hx).trans (iD.mp hy).symm) hn⟩;obtain⟨t,ht,hx⟩:=uO sk;have ht':=h.1.mem_iff.mpr ht;obtain⟨k,hk,rfl⟩:=Ip ht';refine⟨k,hk,?_⟩;unfold dZ;rw[lq,dG hk];exact cW (hx _ iW)
theorem ud{ts:L0}{n:Nat}{ss:List (List Int)}(h:bB ss ts false n)(hn:n<=10):ss.length<=36:=by rw[h.1.length_eq];exact wJ hn
noncomputable def iu(ss:List (List Int))(ov:Nat)(Y:Nat->Int):List (List Int×(Int×Nat)):=((List.range ss.length).filter fun k=>decide (0<Y k)).map fun k=>(ss.getD k [],aH (Y k) ov)
noncomputable def gw(n ov:Nat)(X:Nat->Int):List (Int×Nat):=(List.range n).map fun p=>aH (X p) ov
section
variable{K:W.Frag}
noncomputable def qF(K:W.Frag)(H:Hp)(a:Addr)(f:Int×Nat):Prop:=SqT K H a [.int f.1,.int ((f.2:Nat):Int)]
noncomputable def Fe(K:W.Frag)(H:Hp)(v:V)(q:List Int×(Int×Nat)):Prop:=∃t sa fa,v= .ref t/\SqT K H t [.ref sa,.ref fa]/\SqT K H sa (q.1.map V.int)/\qF K H fa q.2
noncomputable def dD(K:W.Frag)(H:Hp):List V->List (List Int×(Int×Nat))->Prop:=Paired (Fe K H)
noncomputable def dX(K:W.Frag)(H:Hp):List V->List (Int×Nat)->Prop:=Paired fun v f=>∃a,v= .ref a/\qF K H a f
theorem Fe.same{H H':Hp}{v:V}{q:List Int×(Int×Nat)}(h:Fe K H v q)(s:Same H H'):Fe K H' v q:=by
 obtain⟨t,sa,fa,e,h1,h2,h3⟩:=h;exact⟨t,sa,fa,e,s.tup h1,s.tup h2,s.tup h3⟩
theorem dD.same{H H':Hp}{vs:List V}{l:List (List Int×(Int×Nat))}(h:dD K H vs l)(s:Same H H'):dD K H' vs l:=Paired.mapP h fun _ _ z=>z.same s
theorem dX.same{H H':Hp}{vs:List V}{l:List (Int×Nat)}(h:dX K H vs l)(s:Same H H'):dX K H' vs l:=Paired.mapP h fun _ _ ⟨a,e,z⟩=>⟨a,e,s.tup z⟩
theorem Paired.snoc{α β:Type}{R:α->β->Prop}:∀{l:List α} {m:List β} {a:α} {b:β},Paired R l m->R a b->Paired R (l++[a]) (m++[b])
 |_,_,_,_,.nil,h=> .cons h .nil
 |_,_,_,_,.cons r t,h=> .cons r (Paired.snoc t h)
theorem Paired.at_{α β:Type}{R:α->β->Prop}:∀{l:List α} {m:List β} {i:Nat} {a:α},Paired R l m->l[i]? =some a->∃b,m[i]? =some b/\R a b
 |_,_,_,_,.nil,e=>by simp at e
 |_,_,0,_,.cons r _,e=>by simp at e;subst e;exact⟨_,rfl,r⟩
 |_,_,i+1,a,.cons _ t,e=>by
  obtain⟨b,h1,h2⟩:=Paired.at_ (i:=i) (a:=a) t (by simpa using e);exact⟨b,by simpa using h1,h2⟩
theorem Paired.eV{α β:Type}{R:α->β->Prop}:∀{l:List α} {m:List β},Paired R l m->l.length=m.length
 |_,_,.nil=>rfl
 |_,_,.cons _ t=>by simp[Paired.eV t]
end
section
variable{P:ξ}{w:τ}{K:W.Frag}{mg:L4}{base:Heap}
noncomputable def yF(n:Int)(wl:List Int):Prop:=(wl.length:Int)=n/\∀x∈wl,0<=x/\x<=99
theorem all_true(k:Nat):(List.replicate k true).all id=true:=by
 rw[kh];intro b hb;rw[(List.mem_replicate.mp hb).2];rfl
noncomputable def lE(K:W.Frag):Sp:=fun vs H Q _=>∃(a wa:Addr) (n:Int) (t:V) (wl:List Int),vs=[.ref a,.ref wa]/\SqT K H a [.int n,t]/\SqT K H wa (wl.map V.int)/\yF n wl/\∀H',Same H H'->Q .non H'
theorem xV{f f1:Addr}{fd d1:ρ}{tk0:Tok}(F:Fun K "need_wants" "need_wants" fK f fd)(D1:bL K mg "is_whole" eE ["thing"] f1 d1)(G1:FnOk P w K mg base CX0 1 f1 d1 ["thing"] (pC K))(cg:mg "len"=none)(aK:mg "isinstance"=none)(aU:mg "tuple"=none)(pZ:mg "all"=none)(Ai:mg "MOST_WANT"=some (.int 99 tk0)):
  FnOk P w K mg base CX0 2 f fd ["web","thing"] (lE K):=by
 refine F.cH ["web","thing"] fun cdv A outer s H vs Q E hr h=> ?_;obtain⟨a,wa,n,t,wl,rfl,hA,hW,⟨hl,hb⟩,qq⟩:=h;refine bf ?_;intro Y;refine⟨_,(aP (fQ (PW.pt (rC (lC (j9 (pB Cd aK (aj (pv 1) (aj (pN "tuple" aU) ak))))) (zj (dR op_ne (pB vq cg (aj (pv 1) ak)) (aR cI (pv 0) aB))))) Ph gO) (aV (fQ (lC (j9 (pB (eX rfl) pZ (aj (pK ["want"] [] [] (Cj (pv 1)) (pG 0) oR (pe_and (pc G1 hr D1 (aj (pv 0) ak)) (pe_one (pe_chain op_le op_le aB (pv 0) (pe_glob rfl Ai (v:= .int 99) ⟨_,rfl⟩))))) ak)))) Ph gO))),?_⟩;refine lQ ?_;intro c2;refine⟨_,rfl,.ref wa,"tuple",_,rfl,.inl ⟨rfl,_,hW⟩,.inr (.inr (.inl rfl)),_,rfl,?_⟩;refine iteF ?_;refine⟨_,rfl,wa,_,rfl,.inr hW,fun hz=>⟨_,rfl,a,_,_,.int n,rfl,rfl,hA,rfl,rfl,_,rfl,?_⟩⟩;have e1:(!decide (V.int (((wl.map V.int).length:Nat):Int)=V.int n))=false:=by rw[aL,hl];simp
 rw[e1];refine iteF ?_;refine⟨_,rfl,wa,_,rfl,hW,fun hz=> ?_⟩;let gR:Nat->List V->St->Hp->Prop:=fun i acc σ H'=>acc=(List.replicate i true).map V.bl/\H'=H/\∃o,σ=[o];refine Cm (xs:=wl.map V.int) gR ⟨rfl,rfl,_,rfl⟩ (fun i acc σ H' _ p=>by rw[p.2.1];exact hW) (fun i acc σ H' _ p=>by rw[p.1,aL,Uh];exact aY _) hz (fun i x acc σ H' hx p=> ?_) (fun acc σ H' p=> ?_)
 ·obtain⟨rfl,rfl,o,rfl⟩:=p;rw[dU]at hx;cases ex:wl[i]? with
  |none=>rw[ex]at hx;cases hx
  |some y=>
   rw[ex]at hx;cases hx;have hy:=hb y (tM ex);refine⟨_,rfl,.int y,.int y,rfl,.int _,_,rfl,iteT ?_⟩;refine⟨_,rfl,_,_,rfl,rfl,_,rfl,?_⟩;rw[cW hy.1];refine iteT ?_;refine⟨_,_,rfl,rfl,?_,rfl,_,rfl⟩;show _++[V.bl (decide (y<=99))]=_;rw[cW hy.2,wch,bV];rfl
 ·intro p1 hp1;obtain⟨rfl,rfl,_⟩:=p;refine⟨p1,_,rfl,SqL.of aF,_,rfl,?_⟩;rw[all_true];exact iteF (qq _ (aO hp1 _))
noncomputable def tQ(K:W.Frag):Sp:=fun vs H Q _=>∃(a wa:Addr) (n:Int) (ts:L0) (wl:List Int),vs=[.ref a,.ref wa]/\aQ K H a n ts/\SqT K H wa (wl.map V.int)/\yF n wl/\
 ∀(r va la pa:Addr) (lrefs Tg:List V) (ss:List (List Int)) (ov:Nat) (Z:Int) (Y X:Nat->Int) H',Same H H'->H' r=some (.tup [.ref va,.ref la,.ref pa])->qF K H' va (aH Z ov)->H' la=some (.lst lrefs)->dD K H' lrefs (iu ss ov Y)->H' pa=some (.lst Tg)->dX K H' Tg (gw n.toNat ov X)->
  bB ss ts false n.toNat->Sh n.toNat ss wl ov Z Y X->H la=none->H pa=none->la≠pa->Q (.ref r) H'
theorem Ji{f f1 f2 f3 f4 f5 f6 f7 f8 C:Addr}{fd d1 d2 d3 d4 d5 d6 d7 d8:ρ}(F:Fun K "shares" "shares" pJ f fd)
  (Cc:Cls K C)(bx:NoAttr K C "cells")(dB:NoAttr K C "over")(aZ:NoAttr K C "columns")(cJ:NoAttr K C "rows")(qR:mg "Tableau"=some (.ref C))(D1:bL K mg "need_web" TX ["thing"] f1 d1)(G1:FnOk P w K mg base CX0 7 f1 d1 ["thing"] (fM K))(D2:bL K mg "need_wants" fK ["web","thing"] f2 d2)(G2:FnOk P w K mg base CX0 2 f2 d2 ["web","thing"] (lE K))(D3:bL K mg "full_apart" jP ["web"] f3 d3)(G3:FnOk P w K mg base CX0 8 f3 d3 ["web"] (rF K))(D4:lY K C "__init__" "Tableau.__init__" gk ["self","sets","wants"] f4 d4)(Mk4:Mk K C f4)(abm:FnOk P w K mg base CX0 1 f4 d4 ["self","sets","wants"] (CK K C))(D5:lY K C "solve" "Tableau.solve" fj ["self"] f5 d5)(G5':FnOk P w K mg base CX0 3 f5 d5 ["self"] (Ko K C))(D6:lY K C "share_of" "Tableau.share_of" zcs ["self","name"] f6 d6)(G6':FnOk P w K mg base CX0 4 f6 d6 ["self","name"] (Kp K C))(D7:lY K C "price_of" "Tableau.price_of" zct ["self","name"] f7 d7)(G7':FnOk P w K mg base CX0 4 f7 d7 ["self","name"] (Kq K C))(D8:lY K C "fraction_at" "Tableau.fraction_at" X3 ["self","row","column"] f8 d8)(G8':FnOk P w K mg base CX0 3 f8 d8 ["self","row","column"] (zB K C))(bN:mg "enumerate"=none)(aN:mg "range"=none):
  FnOk P w K mg base CX0 9 f fd ["web","wants"] (tQ K):=by
 have G4m:FnOk P w K mg base CX0 7 f4 d4 ["self","sets","wants"] (CK K C):=abm.mono (by decide);have G5:FnOk P w K mg base CX0 8 f5 d5 ["self"] (Ko K C):=G5'.mono (by decide);have G6:FnOk P w K mg base CX0 8 f6 d6 ["self","name"] (Kp K C):=G6'.mono (by decide);have G7:FnOk P w K mg base CX0 8 f7 d7 ["self","name"] (Kq K C):=G7'.mono (by decide);have G8:FnOk P w K mg base CX0 8 f8 d8 ["self","row","column"] (zB K C):=G8'.mono (by decide);refine F.cH ["web","wants","n","sets","tableau","given","laying","prices"] fun cdv A outer s H vs Q E hr h=> ?_;obtain⟨a,wa,n,ts,wl,rfl,hA,hW,hwl,qq⟩:=h;refine bf ?_;intro Y;refine⟨_,(aP (oO (pc G1 hr D1 (aj (pv 0) ak))) (aP (oO (pc G2 hr D2 (aj (pv 0) (aj (pv 1) ak)))) (aP (pS 2 (aR cI (pv 0) aB)) (aP (pS 3 (pc G3 hr D3 (aj (pv 0) ak))) (aP (pS 4 (pe_make Mk4 G4m hr rfl qR D4.b .nil pass0 (aj (pv 3) (aj (pv 1) ak)))) (aP (oO (zm (pv 4) Cc D5.m G5 hr D5.b .nil pass0)) (aP (pX 5 ["k","some"] ["tableau","n"] [4,2] (pR rfl bN (aj (pv 3) ak)) (dJ K (n:=2) rfl (oU (pG 0) (oU (pG 1) Ci))) oR (fU (aj (pv 1) (aj (v7 (pv 2) Cc D6.m G6 hr D6.b .nil pass0 (aj (bC oX (pv 3) (pv 0)) ak)) ak)))) (aP (pX 6 ["share"] [] [] (sO (pv 5)) (pG 0) (Ck (dR op_gt (aR (Cg K) (aR (Cg K) (pv 0) aB) aB) aB)) (pv 0)) (aP (pX 7 ["place"] ["tableau"] [4] (JM rfl aN (aj (pv 2) ak)) (pG 0) oR (v7 (pv 1) Cc D7.m G7 hr D7.b .nil pass0 (aj (pv 0) ak))) (aV (bK (fU (aj (v7 (pv 4) Cc D8.m G8 hr D8.b .nil pass0 (aj (pe_un un_neg aB) (aj (pe_un un_neg aB) ak))) (aj (pv 6) (aj (pv 7) ak))))))))))))))),?_⟩;refine Wa ?_;intro c10 c9 c8 c7 c6 c5 c4 c3 c2;have h0:=hA.h0;have h10:=hA.h1;refine⟨_,rfl,.ref a,_,rfl,hA.web.dv.dx,hA.ok,fun H1 s1=> ?_⟩;obtain⟨tt1,rr1,w1,w2,w3⟩:=id (hA.same s1).web;refine⟨_,rfl,_,rfl,a,wa,n,_,wl,rfl,w1,s1.tup hW,hwl,fun H2 s2=> ?_⟩;have s12:=s1.trans s2;have hA2:=hA.same s12;obtain⟨tt2,rr2,x1,x2,x3⟩:=id hA2.web;refine⟨_,rfl,a,_,_,.int n,rfl,rfl,x1,rfl,?_⟩;refine⟨_,rfl,a,n,ts,rfl,hA2,fun sl ss H3 s3 abg Nk hsl=> ?_⟩;obtain⟨its,hS,hP,hss⟩:=abg;have qC:=s12.trans s3;have hm:its.length=ss.length:=by rw[<-hss,aL]
 have abK:=ud Nk (by omega);have hwn:wl.length=n.toNat:=by have:=hwl.1;omega
 refine⟨_,rfl,_,rfl,fun o dx ho hdx hne=> ?_⟩;have sM:Same H3 (upd (upd H3 dx (.own o)) o (.ins C dx [])):=(aO hdx _).trans (aO (by rw[cY (lA hne)];exact ho) _);refine⟨o,dx,sl,wa,H3,its,wl,rfl,aF,sM,ho,sM _ _ hS,fun p hp=>sM.tup (hP p hp),sM.tup (qC.tup hW),by omega,by omega,fun H4 Xx=>⟨rfl,?_⟩⟩;rw[hss,hm,hwn]at Xx;have Zq:Sta n.toNat ss.length (dZ ss) (oZ wl):=by
  refine⟨by omega,by omega,fun p hp=> ?_,fun p hp=>Wx Nk hp⟩;unfold oZ;rw[lq,dG (by omega)];exact hwl.2 _ (zx _)
 obtain⟨dx4,cl4,co4,ro4,rw4,hA4⟩:=id Xx;refine⟨_,rfl,o,dx4,_,rfl,hA4.at_,rfl,o,H3,n.toNat,ss.length,dZ ss,oZ wl,_,rfl,Xx,Zq,Sx.CJ,fun T H5 hT5 hg5 hz5=> ?_⟩;have hG:=Zq.tg hg5;have hSh:=YB hG hz5;obtain⟨dx5,cl5,co5,ro5,rw5,hA5⟩:=id hT5;have Xq:=hA5.same;have Di:=hSh.pos;generalize hY:(fun k=>Sx.Ys n.toNat ss.length T (n.toNat+k))=Y at *;generalize hX:(fun p=>Sx.Xs n.toNat ss.length T p)=X at *
 -- given
 refine⟨_,rfl,false,sl,_,rfl,SqL.of (Xq _ _ hS),fun hz=> ?_⟩;let qj:Nat->List V->St->Hp->Prop:=fun i acc σ H'=>dD K H' acc ((List.range i).map fun k=>(ss.getD k [],aH (Y k) T.over.toNat))/\Same H5 H'/\∃o1 o2,σ=[o1,o2,some (.ref o),some (.int n)];refine mX (K:=K) (b:=false) (a:=sl) (xs:=its.map fun p=>V.ref p.1) qj ⟨.nil,Same.refl _,_,_,rfl⟩ (fun i acc σ H' _ p=>p.2.1.seq (SqL.of (Xq _ _ hS))) (fun i acc σ H' _ p=> ?_) hz (fun i v t acc σ H' hv p ht=> ?_) (fun acc σ H' p=> ?_)
 ·rw[Paired.eV p.1,aL,vo];exact aY _
 ·obtain⟨hl,sm,o1,o2,rfl⟩:=p;rw[dU]at hv;cases ev:its[i]? with
  |none=>rw[ev]at hv;cases hv
  |some it=>
   rw[ev]at hv;cases hv;have eg:ss.getD i []=it.2:=by rw[<-hss,lq,dU,ev];rfl
   have t1:=aO ht (.tup [.int (i:Int),.ref it.1]);have Xw:=hT5.sm (sm.trans t1);obtain⟨RB,cl6,co6,ro6,rw6,hA6⟩:=id Xw;refine⟨t,_,rfl,SqT.of aF,rfl,_,_,rfl,_,_,rfl,rfl,?_⟩;refine⟨_,rfl,_,rfl,o,RB,_,rfl,hA6.at_,rfl,_,rfl,_,rfl,_,_,rfl,rfl,o,H3,n.toNat,ss.length,n.toNat+i,dZ ss,oZ wl,T,?_,Xw,hG,fun fa H7 u v' s7 e7 l7=> ?_⟩
   ·rw[show(((n.toNat+i:Nat)):Int)=n+(i:Int) by omega];rfl
   ·refine⟨(by show 2<=sizeLine;decide),fun tp htp=> ?_⟩;have s8:=aO htp (.tup [.ref it.1,.ref fa]);have s68:=t1.trans (s7.trans s8);have hlow:(u,v')=aH (Y i) T.over.toNat:=by rw[<-hY];exact Dy Di l7
    refine⟨?_,sm.trans s68,_,_,rfl⟩;rw[yU,bV];refine Paired.snoc (dD.same hl s68) ⟨tp,it.1,fa,rfl,SqT.of aF,?_,?_⟩
    ·show SqT K _ it.1 ((ss.getD i []).map V.int);rw[eg];exact(Xq.trans (sm.trans s68)).tup (hP it (tM ev))
    ·show qF K _ fa (aH (Y i) T.over.toNat);rw[<-hlow];exact s8.tup (SqT.of e7)
 intro gl hgl;obtain⟨hl,sm5,_⟩:=p;rw[aL,hm]at hl;have g1:=aO hgl (.lst acc);have s6:=sm5.trans g1;have eg1:(upd H' gl (.lst acc)) gl=some (.lst acc):=aF;have hl6:=dD.same hl g1;generalize (upd H' gl (.lst acc))=H6 at *
 -- laying
 refine⟨_,rfl,gl,_,rfl,SqL.of eg1,fun hz=> ?_⟩;let Bw:Nat->List V->St->Hp->Prop:=fun i acc' σ H'=>H'=H6/\dD K H6 acc' (((List.range i).filter fun k=>decide (0<Y k)).map fun k=>(ss.getD k [],aH (Y k) T.over.toNat))/\∃o1,σ=[o1];refine yQ (xs:=acc) Bw ⟨rfl,.nil,_,rfl⟩ (fun i acc' σ H' _ p=>by rw[p.1];exact SqL.of eg1) (fun i acc' σ H' _ p=> ?_) hz (fun i v acc' σ H' hv p=> ?_) (fun acc' σ H' p=> ?_)
 ·rw[Paired.eV p.2.1,aL];exact cV (wk _ _) (by rw[vo];exact aY _)
 ·obtain⟨rfl,hl',o1,rfl⟩:=p;obtain⟨qv,eq1,hv1⟩:=Paired.at_ hl6 hv;have hi:i<ss.length:=by
   have:=(nF.mp hv).1;rw[Paired.eV hl6,aL,vo]at this;exact this
  rw[dU,R0 hi]at eq1;have eq2:qv=(ss.getD i [],aH (Y i) T.over.toNat):=(sV eq1).symm;obtain⟨t,sa,fa,rfl,h1,h2,h3⟩:=id hv1;have h3':qF K H' fa (aH (Y i) T.over.toNat):=by rw[eq2]at h3;exact h3
  refine⟨_,rfl,t,_,_,.ref fa,rfl,rfl,h1,rfl,fa,_,_,.int (aH (Y i) T.over.toNat).1,rfl,rfl,h3',rfl,_,_,rfl,rfl,_,rfl,?_⟩;have go:((List.range (i+1)).filter fun k=>decide (0<Y k))=((List.range i).filter fun k=>decide (0<Y k))++(if decide (0<Y i)=true then[i]else[]):=by
   rw[yU,FN];congr 1;rw[FJ];split<;>rfl
  have ed:decide (0<(aH (Y i) T.over.toNat).1)=decide (0<Y i):=decide_eq_decide.mpr (Al Di);refine ite2 (fun c=> ?_) (fun c=> ?_)
  ·have c':decide (0<Y i)=true:=by rw[<-ed];exact c
   refine⟨_,rfl,rfl,?_,_,rfl⟩;rw[go,aD c',bV];refine Paired.snoc hl' ?_;rw[eq2]at hv1;exact hv1
  ·have c':¬decide (0<Y i)=true:=by rw[<-ed];exact c
   refine⟨rfl,?_,_,rfl⟩;rw[go,aA c',Cr];exact hl'
 intro la hla;obtain⟨rfl,hlay,_⟩:=p;rw[Paired.eV hl6,aL,vo]at hlay;have g2:=aO hla (.lst acc');have s7:=s6.trans g2;have ela:(upd H' la (.lst acc')) la=some (.lst acc'):=aF;have Zi:=dD.same hlay g2;have Ax:=hT5.sm s7;generalize (upd H' la (.lst acc'))=H7 at *
 -- prices
 refine⟨_,rfl,n,rfl,by omega,by omega,?_⟩;let WR:Nat->List V->St->Hp->Prop:=fun i yE σ H2=>dX K H2 yE ((List.range i).map fun p=>aH (X p) T.over.toNat)/\Same H7 H2/\∃o1,σ=[o1,some (.ref o)];refine RQ (n:=n.toNat) WR ⟨.nil,Same.refl _,_,rfl⟩ (fun i yE σ H2 hi p=> ?_) (by rw[gU];omega) (fun i yE σ H2 hi p=> ?_) (fun yE σ H2 p=> ?_)
 ·rw[Paired.eV p.1,aL,vo];exact aY _
 ·obtain⟨hf,sm,o1,rfl⟩:=p;have hT8:=Ax.sm sm;obtain⟨dx8,cl8,co8,ro8,rw8,hA8⟩:=id hT8;refine⟨_,rfl,o,dx8,_,rfl,hA8.at_,rfl,_,rfl,o,H3,n.toNat,ss.length,i,dZ ss,oZ wl,T,by rw[Xa];rfl,hT8,hG,fun fa H9 u v' s9 e9 l9=> ?_⟩;have hlow:(u,v')=aH (X i) T.over.toNat:=by rw[<-hX];exact Dy Di l9
  refine⟨?_,sm.trans s9,_,rfl⟩;rw[yU,bV];refine Paired.snoc (dX.same hf s9) ⟨fa,rfl,?_⟩;show qF K H9 fa (aH (X i) T.over.toNat);rw[<-hlow];exact SqT.of e9
 intro pa hpa;obtain⟨hf,sm7,_⟩:=p;have g3:=aO hpa (.lst yE);have s8:=sm7.trans g3;have epa:(upd H2 pa (.lst yE)) pa=some (.lst yE):=aF;have hf8:=dX.same hf g3;have hT8:=Ax.sm s8;have nlp:la≠pa:=sS (sm7 _ _ ela) hpa;generalize (upd H2 pa (.lst yE))=H8 at *;obtain⟨dx8,cl8,co8,ro8,rw8,hA8⟩:=id hT8;refine⟨_,rfl,o,dx8,_,rfl,hA8.at_,rfl,_,rfl,_,rfl,o,H3,n.toNat,ss.length,ss.length,n.toNat,_,_,dZ ss,oZ wl,T,rfl,hT8,hG,.inr ⟨rfl,rfl⟩,.inr ⟨rfl,rfl⟩,fun va H9 u v' s9 e9 l9=> ?_⟩;refine⟨_,rfl,_,rfl,(by show 3<=sizeLine;decide),fun r hr'=> ?_⟩;have Qo:=aO hr' (.tup [.ref va,.ref la,.ref pa]);have Lg:=s9.trans Qo;have hlow:(u,v')=aH (T.cell ss.length n.toNat) T.over.toNat:=Dy Di l9;refine qq r va la pa acc' yE ss T.over.toNat (T.cell ss.length n.toNat) Y X _ (qC.trans (Xq.trans (s7.trans (s8.trans Lg)))) aF ?_ ((s8.trans Lg) _ _ ela) (dD.same Zi (s8.trans Lg)) (Lg _ _ epa) (dX.same hf8 Lg) Nk hSh ?_ ?_ nlp
 ·rw[<-hlow];exact Qo.tup (SqT.of e9)
 ·exact(qC.trans (Xq.trans s6)).none hla
 ·exact(qC.trans (Xq.trans (s7.trans sm7))).none hpa
theorem UG{b:Bool}{H:Hp}{a:Addr}{xs:List V}(h:PJ K b H a xs):SqL K H a xs\/SqT K H a xs:=by
 cases b with
 |false=>exact .inl h
 |true=>exact .inr h
noncomputable def Gs(K:W.Frag):Sp:=fun vs H Q _=>∃(b:Bool) (a l:Addr) (n:Int) (ts:L0) (xs:List Int),vs=[.ref a,.ref l]/\aQ K H a n ts/\PJ K b H l (xs.map V.int)/\∀H',Same H H'->Q (.int ((ts.filter (inB xs)).length:Int)) H'
theorem Ms{f:Addr}{fd:ρ}(F:Fun K "count_ties_in" "count_ties_in" eZ f fd)(cg:mg "len"=none):
  FnOk P w K mg base CX0 1 f fd ["web","some"] (Gs K):=by
 refine F.cH ["web","some"] fun cdv A outer s H vs Q E hr h=> ?_;obtain⟨b,a,l,n,ts,xs,rfl,hA,hL,q⟩:=h;refine⟨_,(aV (bK (pB vq cg (aj (pK ["tie"] ["some"] [1] (Cj (aR cI (pv 0) aB)) (pG 0) (Ck (PW.pt (pw_and (dR (jR K hr.units) (aR (Cg K) (pv 0) aB) (pv 1) (by with_unfolding_all rfl)) (pw_and1 (dR (jR K hr.units) (aR (Cg K) (pv 0) aB) (pv 1) (by with_unfolding_all rfl)))))) (pv 0)) ak)))),?_⟩;obtain⟨ta,ra,a1,a2,a3⟩:=id hA.web;have hra:=a3.len;rw[aL]at hra;have Zw:=hA.len;refine⟨_,rfl,a,_,_,.ref ta,rfl,rfl,a1,rfl,ta,ra,rfl,a2,fun hz=> ?_⟩;let gR:Nat->List V->St->Hp->Prop:=fun i acc σ H'=>acc.length=((ts.take i).filter (inB xs)).length/\Same H H'/\∃o,σ=[o,some (.ref l)];refine Cm (xs:=ra) gR ⟨rfl,Same.refl _,_,rfl⟩ (fun i acc σ H' _ p=>p.2.1.tup a2) (fun i acc σ H' hi p=> ?_) hz (fun i x acc σ H' hx p=> ?_) (fun acc σ H' p=> ?_)
 ·rw[p.1];exact cV (wk _ _) (by rw[tL];exact Fz _ _)
 ·obtain⟨ea,sm,o,rfl⟩:=p;obtain⟨t,hi,rfl,ht⟩:=GJ a3 hx;have hl:=UG (hL.same sm);have e:∀(acc':List V) (c:Bool),c=inB xs ts[i]->acc'.length=acc.length+(if c=true then 1 else 0)->acc'.length=((ts.take (i+1)).filter (inB xs)).length:=fun acc' c hc hl=>by
   rw[zcg hi,qz,<-ea,hl,<-hc];cases c<;>rfl
  refine⟨_,rfl,t,_,_,.int (ts[i]).1,rfl,rfl,sm.tup ht,rfl,_,rfl,l,_,_,.int (ts[i]).1,rfl,hl,cQ.ints xs,.int _,Cp xs,rfl,(by show 0<=60;decide),_,rfl,?_⟩;rw[any_ints];refine ite2 (fun c=> ?_) (fun c=> ?_)
  ·refine⟨_,rfl,t,_,_,.int (ts[i]).2,rfl,rfl,sm.tup ht,rfl,_,rfl,l,_,_,.int (ts[i]).2,rfl,hl,cQ.ints xs,.int _,Cp xs,rfl,(by show 0<=60;decide),_,rfl,?_⟩;rw[any_ints];refine ite2 (fun c2=> ?_) (fun c2=> ?_)
   ·exact⟨_,rfl,e _ true (by unfold inB;rw[c,c2];rfl) (by rw[qz];rfl),sm,_,rfl⟩
   ·exact⟨e _ false (by unfold inB;rw[c,Bool.eq_false_iff.mpr c2];rfl) rfl,sm,_,rfl⟩
  ·exact⟨e _ false (by unfold inB;rw[Bool.eq_false_iff.mpr c];rfl) rfl,sm,_,rfl⟩
 ·intro p1 hp1;obtain⟨ea,sm,_⟩:=p;refine⟨p1,acc,rfl,.inl (SqL.of aF),fun _=> ?_⟩;rw[ea,hra,rQ];exact q _ (sm.trans (aO hp1 (.lst acc)))
theorem uD{b:Bool}(h:(!b)=true):b=false:=by cases b<;>first |rfl|cases h
theorem uE{b:Bool}(h:¬(!b)=true):b=true:=by cases b<;>first |rfl|exact absurd rfl h
noncomputable def frB:θ->Bool
 | .tuple [x,y]=>fV x&&(fV y&&(decide (0<=intD x)&&(decide (1<=intD y)&&decide (intD y<=1000000000))))
 |_=>false
theorem mK:∀{d:θ},fV d=true->∃i,d= .int i
 | .int i,_=>⟨i,rfl⟩
theorem Ob{d:θ}(h:frB d=true):∃(u:Int) (v:Nat),d= .tuple [.int u,.int ((v:Nat):Int)]/\0<=u/\0<v/\v<=1000000000:=by
 unfold frB at h;split at h
 ·rename_i x y;simp only[kj,Px]at h;obtain⟨h1,h2,h3,h4,h5⟩:=h;obtain⟨u,rfl⟩:=mK h1;obtain⟨v,rfl⟩:=mK h2;have h4':1<=v:=h4;have h5':v<=1000000000:=h5;refine⟨u,v.toNat,?_,h3,by omega,by omega⟩;rw[show((v.toNat:Nat):Int)=v by omega]
 ·cases h
theorem _root_.L2.DX.ints{H:Hp}{x:V}{i:Int}(h:DX K H x (.int i)):x= .int i:=by cases h;rfl
theorem J9{H:Hp}{x:V}{d:θ}(hx:DX K H x d):(∃a x0 x1 d0 d1,x= .ref a/\d= .tuple [d0,d1]/\SqT K H a [x0,x1]/\DX K H x0 d0/\DX K H x1 d1)\/(∃a xs ds,x= .ref a/\d= .tuple ds/\SqT K H a xs/\xs.length=ds.length/\ds.length≠2)\/lO d≠"tuple":=by
 cases hx with
 | @tup a xs ds h t=>
  have hl:=t.len;by_cases e:ds.length=2
  ·cases t with
   |nil=>simp at e
   |cons h0 t0=>
    cases t0 with
    |nil=>simp at e
    |cons h1 t1=>
     cases t1 with
     |cons _ _=>simp at e
     |nil=>exact .inl ⟨a,_,_,_,_,rfl,rfl,h,h0,h1⟩
  ·exact .inr (.inl ⟨a,xs,ds,rfl,rfl,h,by omega,e⟩)
 |_=>exact .inr (.inr (by simp[lO]))
theorem Rx{ds:List θ}(h:ds.length≠2):frB (.tuple ds)=false:=by
 match ds,h with
 |[],_=>rfl
 |[_],_=>rfl
 |[_,_],h=>exact absurd rfl h
 |_::_::_::_,_=>rfl
theorem Oc{d:θ}(h:lO d≠"tuple"):frB d=false:=by
 cases d<;>first |rfl|exact absurd rfl h
noncomputable def SX(K:W.Frag):Sp:=fun vs H Q _=>∃(x:V) (d:θ),vs=[x]/\DX K H x d/\Q (.bl (frB d)) H
theorem QT{f f1:Addr}{fd d1:ρ}{tk0:Tok}(F:Fun K "is_fraction" "is_fraction" iJ f fd)(D1:bL K mg "is_whole" eE ["thing"] f1 d1)(G1:FnOk P w K mg base CX0 1 f1 d1 ["thing"] (pC K))(cg:mg "len"=none)(aK:mg "isinstance"=none)(aU:mg "tuple"=none)(vL:mg "MOST_BOTTOM"=some (.int 1000000000 tk0)):
  FnOk P w K mg base CX0 2 f fd ["thing"] (SX K):=by
 refine F.cH ["thing"] fun cdv A outer s H vs Q E hr h=> ?_;obtain⟨x,d,rfl,hx,q⟩:=h;refine bf ?_;intro Y;refine⟨_,(aP (fQ (PW.pt (rC (lC (j9 (pB Cd aK (aj (pv 0) (aj (pN "tuple" aU) ak))))) (rC (dR op_ne (pB vq cg (aj (pv 0) ak)) aB) (rC (lC (j9 (pc G1 hr D1 (aj (aR cI (pv 0) aB) ak)))) (zj (lC (j9 (pc G1 hr D1 (aj (aR cI (pv 0) aB) ak))))))))) (aV (bK rB)) gO) (aV (bK (pe_and (Ca op_ge (aR cI (pv 0) aB) aB) (pe_one (pe_chain op_le op_le aB (aR cI (pv 0) aB) (pe_glob rfl vL (v:= .int 1000000000) ⟨_,rfl⟩))))))),?_⟩;refine lQ ?_;intro c2;have no:frB d=false->Q (.bl false) H:=fun e=>by rw[e]at q;exact q
 refine⟨_,rfl,x,_,_,rfl,hx.kind,.inr (.inr (.inl rfl)),_,rfl,?_⟩;rcases J9 hx with⟨a,x0,x1,d0,d1,rfl,rfl,h,h0,h1⟩|⟨a,xs,ds,rfl,rfl,h,el,hn⟩|hk
 ·refine iteF ?_;refine⟨_,rfl,a,_,rfl,.inr h,fun hz=>⟨rfl,_,rfl,?_⟩⟩;refine iteF ?_;refine⟨_,rfl,a,_,_,x0,rfl,rfl,h,rfl,x0,d0,rfl,h0,_,rfl,?_⟩;refine ite2 (fun c=> ?_) (fun c=> ?_)
  ·exact no (by show(fV d0&&_)=false;rw[uD c];rfl)
  have c:=uE c;refine⟨_,rfl,a,_,_,x1,rfl,rfl,h,rfl,x1,d1,rfl,h1,_,rfl,?_⟩;refine ite2 (fun c2=> ?_) (fun c2=> ?_)
  ·exact no (by show(fV d0&&(fV d1&&_))=false;rw[c,uD c2];rfl)
  have c2:=uE c2;obtain⟨u,rfl⟩:=mK c;obtain⟨v,rfl⟩:=mK c2;obtain rfl:=h0.ints;obtain rfl:=h1.ints;have e:frB (.tuple [.int u,.int v])=(decide (0<=u)&&(decide (1<=v)&&decide (v<=1000000000))):=rfl;rw[e]at q no;refine⟨_,rfl,a,_,_,.int u,rfl,rfl,h,rfl,_,_,rfl,rfl,_,rfl,?_⟩;refine ite2 (fun c3=> ?_) (fun c3=> ?_)
  ·have c3:0<=u:=fJ c3;rw[cW c3]at q no;refine⟨_,rfl,a,_,_,.int v,rfl,rfl,h,rfl,_,_,rfl,rfl,_,rfl,?_⟩;refine ite2 (fun c4=> ?_) (fun c4=> ?_)
   ·have c4:1<=v:=fJ c4;rw[cW c4]at q;exact⟨_,_,rfl,rfl,q⟩
   ·exact no (by rw[Bool.eq_false_iff.mpr c4];rfl)
  ·exact no (by rw[fW (fun z=>c3 (cW z))];rfl)
 ·refine iteF ?_;refine⟨_,rfl,a,_,rfl,.inr h,fun hz=>⟨rfl,_,rfl,?_⟩⟩;refine ite2 (fun c=>no (Rx hn)) (fun c=> ?_);exfalso;have c:¬(!decide (V.int (xs.length:Int)=V.int 2))=true:=c;simp at c;omega
 ·refine ite2 (fun c=>no (Oc hk)) (fun c=> ?_);exfalso;cases d<;>first |exact hk rfl|(simp[p8,lO]at c;done)
noncomputable def Kz(K:W.Frag):Sp:=fun vs H Q _=>∃(a:Addr) (xs:List V) (ls:List (List Int)),vs=[.ref a]/\SqL K H a xs/\Paired (fun v l=>∃p,v= .ref p/\SqT K H p (l.map V.int)) xs ls/\∀H',Same H H'->Q (.bl (dw ls)) H'
theorem Dk{f:Addr}{fd:ρ}(F:Fun K "is_rising" "is_rising" WY f fd)(pZ:mg "all"=none)(aN:mg "range"=none)(cg:mg "len"=none):
  FnOk P w K mg base CX0 1 f fd ["things"] (Kz K):=by
 refine F.cH ["things"] fun cdv A outer s H vs Q E hr h=> ?_;obtain⟨a,xs,ls,rfl,hS,hP,q⟩:=h;refine⟨_,(aV (bK (pB (eX rfl) pZ (aj (pK ["k"] ["things"] [0] (pi_range2 rfl aN (aj aB (aj (pB vq cg (aj (pv 0) ak)) ak))) (pG 0) oR (Ca (GQ K hr.units0) (aR (gA K) (pv 1) (bC op_sub (pv 0) aB)) (aR (gA K) (pv 1) (pv 0)))) ak)))),?_⟩;have hl:=Paired.eV hP;refine⟨_,rfl,a,xs,rfl,.inl hS,fun hz=>⟨1,_,rfl,⟨by omega,by omega,by omega,by omega⟩,?_⟩⟩;have en:((xs.length:Int)-1).toNat=ls.length-1:=by omega
 rw[en];let gR:Nat->List V->St->Hp->Prop:=fun i acc σ H'=>acc=((List.range i).map fun k=>HT.lexLt (ls.getD k []) (ls.getD (k+1) [])).map V.bl/\Same H H'/\∃o,σ=[o,some (.ref a)];refine RQ gR ⟨rfl,Same.refl _,_,rfl⟩ (fun i acc σ H' hi p=>by rw[p.1];simp) (by rw[gU];omega) (fun i acc σ H' hi p=> ?_) (fun acc σ H' p=> ?_)
 ·obtain⟨rfl,sm,o,rfl⟩:=p;have e1:(1+(i:Int))-1=((i:Nat):Int):=by omega
  have e2:(1+(i:Int))=((i+1:Nat):Int):=by omega
  have x1:xs[i]? =some xs[i]:=dG (by omega);have x2:xs[i+1]? =some xs[i+1]:=dG (by omega);obtain⟨l1,m1,p1,q1,t1⟩:=Paired.at_ hP x1;obtain⟨l2,m2,p2,q2,t2⟩:=Paired.at_ hP x2;have a1:atI xs (1+(i:Int)-1)=some (.ref p1):=by rw[e1,<-q1];exact atI_nat x1
  have a2:atI xs (1+(i:Int))=some (.ref p2):=by rw[e2,<-q2];exact atI_nat x2
  refine⟨_,rfl,_,rfl,_,_,rfl,rfl,a,xs,_,_,rfl,rfl,sm.seq hS,a1,_,rfl,_,rfl,a,xs,_,_,rfl,rfl,sm.seq hS,a2,?_⟩;refine⟨p1,p2,l1,l2,rfl,rfl,sm.tup t1,sm.tup t2,?_,sm,_,rfl⟩;show _++[V.bl (HT.lexLt l1 l2)]=_;rw[yU,bV,bV,yeo,yeo,show ls.getD i []=l1 by rw[lq,m1];rfl,show ls.getD (i+1) []=l2 by rw[lq,m2];rfl]
 ·intro p1 hp1;obtain⟨rfl,sm,_⟩:=p;refine⟨p1,_,rfl,SqL.of aF,?_⟩;rw[jo];exact q _ (sm.trans (aO hp1 _))
noncomputable def Dc(n:Int)(ts:L0):θ->Bool
 | .tuple [s,f]=>gQ n s&&(frB f&&(decide (ts.filter (inB ((kids s).map intD))=[])&&decide (0<intD ((kids f).headD .none))))
 |_=>false
theorem Qk{n:Int}{ts:L0}{ds:List θ}(h:ds.length≠2):Dc n ts (.tuple ds)=false:=by
 match ds,h with
 |[],_=>rfl
 |[_],_=>rfl
 |[_,_],h=>exact absurd rfl h
 |_::_::_::_,_=>rfl
theorem Lb{n:Int}{ts:L0}{d:θ}(h:lO d≠"tuple"):Dc n ts d=false:=by
 cases d<;>first |rfl|exact absurd rfl h
theorem uy{n:Int}:∀{ds:List θ},ds.all (bO n)=true->ds=(ds.map intD).map PyData.int/\∀x∈ds.map intD,0<=x/\x<n
 |[],_=>⟨rfl,fun x hx=>(nomatch hx)⟩
 |d::ds,h=>by
  rw[wfa,kj]at h;obtain⟨i,rfl,h0,h1⟩:=uz h.1;obtain⟨e,f⟩:=uy h.2;refine⟨by rw[yS,yS,<-e];rfl,fun x hx=> ?_⟩;rcases dg.mp hx with rfl|hx
  ·exact⟨h0,h1⟩
  ·exact f x hx
theorem Le{n:Int}{s:θ}(h:gQ n s=true):∃xs:List Int,s= .tuple (xs.map PyData.int)/\(∀x∈xs,0<=x/\x<n)/\dI xs=true/\(kids s).map intD=xs:=by
 cases s with
 |tuple ds=>
  have h:(ds.all (bO n)&&dI (ds.map intD))=true:=h;rw[kj]at h;obtain⟨e,f⟩:=uy h.1;exact⟨ds.map intD,by rw[<-e],f,h.2,rfl⟩
 |_=>cases h
theorem Bh{H:Hp}:∀{xs:List Int} {vs:List V},oW K H vs (xs.map PyData.int)->vs=xs.map V.int
 |[],_,h=>by cases h;rfl
 |x::xs,_,h=>by
  cases h with
  |cons h t=>rw[DX.ints h,Bh t];rfl
theorem _root_.L2.DX.tupI{H:Hp}{x:V}{xs:List Int}(h:DX K H x (.tuple (xs.map PyData.int))):∃a,x= .ref a/\SqT K H a (xs.map V.int):=by
 cases h with
 |tup h t=>exact⟨_,rfl,by rw[<-Bh t];exact h⟩
theorem _root_.L2.DX.fr{H:Hp}{x:V}{u:Int}{v:Nat}(h:DX K H x (.tuple [.int u,.int ((v:Nat):Int)])):∃a,x= .ref a/\qF K H a (u,v):=DX.tupI (xs:=[u,((v:Nat):Int)]) h
noncomputable def SQ(K:W.Frag):Sp:=fun vs H Q _=>∃(a:Addr) (n:Int) (ts:L0) (x:V) (d:θ),vs=[.ref a,x]/\aQ K H a n ts/\DX K H x d/\∀H',Same H H'->Q (.bl (Dc n ts d)) H'
theorem Dr{f f1 f2 f3:Addr}{fd d1 d2 d3:ρ}(F:Fun K "is_share" "is_share" nW f fd)(D1:bL K mg "is_fraction" iJ ["thing"] f1 d1)(G1:FnOk P w K mg base CX0 2 f1 d1 ["thing"] (SX K))(D2:bL K mg "is_set" lG ["n","thing"] f2 d2)(G2:FnOk P w K mg base CX0 4 f2 d2 ["n","thing"] (Gi K))(D3:bL K mg "count_ties_in" eZ ["web","some"] f3 d3)(G3:FnOk P w K mg base CX0 1 f3 d3 ["web","some"] (Gs K))(cg:mg "len"=none)(aK:mg "isinstance"=none)(aU:mg "tuple"=none):
  FnOk P w K mg base CX0 5 f fd ["web","thing"] (SQ K):=by
 refine F.cH ["web","thing"] fun cdv A outer s H vs Q E hr h=> ?_;obtain⟨a,n,ts,x,d,rfl,hA,hx,q⟩:=h;refine bf ?_;intro Y;refine⟨_,(aP (fQ (PW.pt (rC (lC (j9 (pB Cd aK (aj (pv 1) (aj (pN "tuple" aU) ak))))) (zj (dR op_ne (pB vq cg (aj (pv 1) ak)) aB)))) (aV (bK rB)) gO) (aP (fQ (PW.pt (rC (lC (j9 (pc G2 hr D2 (aj (aR cI (pv 0) aB) (aj (aR cI (pv 1) aB) ak))))) (zj (lC (j9 (pc G1 hr D1 (aj (aR cI (pv 1) aB) ak))))))) (aV (bK rB)) gO) (aV (bK (pe_and (Ca op_eq (pc G3 hr D3 (aj (pv 0) (aj (aR cI (pv 1) aB) ak))) aB) (pe_one (Ca op_gt (aR cI (aR cI (pv 1) aB) aB) aB))))))),?_⟩;refine iw ?_;intro c3 c2;have no:Dc n ts d=false->∀H',Same H H'->Q (.bl false) H':=fun e H' sm=>by have:=q H' sm;rw[e]at this;exact this
 obtain⟨tt1,rr1,w1,w2,w3⟩:=id hA.web;refine⟨_,rfl,x,_,_,rfl,hx.kind,.inr (.inr (.inl rfl)),_,rfl,?_⟩;rcases J9 hx with⟨t,x0,x1,d0,d1,rfl,rfl,h,h0,h1⟩|⟨t,xs,ds,rfl,rfl,h,el,hn⟩|hk
 ·refine iteF ?_;refine⟨_,rfl,t,_,rfl,.inr h,fun hz=>⟨rfl,_,rfl,?_⟩⟩;refine iteF ?_;refine⟨_,rfl,a,_,_,.int n,rfl,rfl,w1,rfl,_,rfl,t,_,_,x0,rfl,rfl,h,rfl,n,x0,d0,rfl,h0,fun H1 s1=>⟨_,rfl,?_⟩⟩;refine ite2 (fun c=> ?_) (fun c=> ?_)
  ·exact no (by show(gQ n d0&&_)=false;rw[uD c];rfl) _ s1
  have c:=uE c;refine⟨_,rfl,t,_,_,x1,rfl,rfl,s1.tup h,rfl,x1,d1,rfl,h1.same s1,_,rfl,?_⟩;refine ite2 (fun c2=> ?_) (fun c2=> ?_)
  ·exact no (by show(gQ n d0&&(frB d1&&_))=false;rw[c,uD c2];rfl) _ s1
  have c2:=uE c2;have e:Dc n ts (.tuple [d0,d1])=(decide (ts.filter (inB ((kids d0).map intD))=[])&&decide (0<intD ((kids d1).headD .none))):=by
   show(gQ n d0&&(frB d1&&_))=_;rw[c,c2];rfl
  rw[e]at no;rw[e]at q;obtain⟨xs,rfl,hlt,hri,ek⟩:=Le c;obtain⟨u,v,rfl,hu,hv,hvb⟩:=Ob c2;rw[ek]at no q;obtain⟨sa,rfl,h2⟩:=h0.tupI;obtain⟨fa,rfl,h3⟩:=h1.fr;refine⟨_,rfl,_,rfl,t,_,_,.ref sa,rfl,rfl,s1.tup h,rfl,true,a,sa,n,ts,xs,rfl,hA.same s1,s1.tup h2,fun H2 s2=> ?_⟩;have s12:=s1.trans s2;refine⟨rfl,_,rfl,?_⟩;by_cases hc:ts.filter (inB xs)=[]
  ·rw[hc];refine iteT ?_;rw[cW hc]at q;refine⟨_,rfl,t,_,_,.ref fa,rfl,rfl,s12.tup h,rfl,fa,_,_,.int u,rfl,rfl,s12.tup h3,rfl,_,_,rfl,rfl,?_⟩;exact q _ s12
  ·refine ite2 (fun c3=> ?_) (fun c3=> ?_)
   ·exfalso;have c3:decide (V.int ((ts.filter (inB xs)).length:Int)=V.int 0)=true:=c3;simp at c3;exact hc (Xh.mpr fun p hp=>by have:=c3 p.1 p.2 hp;simpa using this)
   ·have:=no (by rw[fW hc];rfl) _ s12;exact this
 ·refine iteF ?_;refine⟨_,rfl,t,_,rfl,.inr h,fun hz=>⟨rfl,_,rfl,?_⟩⟩;refine ite2 (fun c=>no (Qk hn) _ (Same.refl _)) (fun c=> ?_);exfalso;have c:¬(!decide (V.int (xs.length:Int)=V.int 2))=true:=c;simp at c;omega
 ·refine ite2 (fun c=>no (Lb hk) _ (Same.refl _)) (fun c=> ?_);exfalso;cases d<;>first |exact hk rfl|(simp[p8,lO]at c;done)
structure ShG(n:Int)(ts:L0)(q:List Int×(Int×Nat)):Prop where
 rise:dI q.1=true
 lt:∀x∈q.1,0<=x/\x<n
 no:ts.filter (inB q.1)=[]
 pos:0<q.2.1
 bot:0<q.2.2
 big:q.2.2<=1000000000
noncomputable def jA(q:List Int×(Int×Nat)):θ:= .tuple [.tuple (q.1.map PyData.int),.tuple [.int q.2.1,.int ((q.2.2:Nat):Int)]]
noncomputable def setOf(d:θ):List Int:=(kids ((kids d).headD .none)).map intD
theorem wD(q:List Int×(Int×Nat)):setOf (jA q)=q.1:=by
 show((q.1.map PyData.int).map intD)=q.1;rw[wg];exact wff q.1
theorem CZ{n:Int}{ts:L0}{d:θ}(h:Dc n ts d=true):∃q,d=jA q/\ShG n ts q:=by
 unfold Dc at h;split at h
 ·rename_i s f;simp only[kj]at h;obtain⟨h1,h2,h3,h4⟩:=h;obtain⟨xs,rfl,hlt,hri,ek⟩:=Le h1;obtain⟨u,v,rfl,hu,hv,hvb⟩:=Ob h2;rw[ek]at h3;exact⟨(xs,(u,v)),rfl,hri,hlt,fJ h3,fJ h4,hv,hvb⟩
 ·cases h
theorem _root_.L2.DX.sh{H:Hp}{x:V}{q:List Int×(Int×Nat)}(h:DX K H x (jA q)):Fe K H x q:=by
 unfold jA at h;cases h with
 |tup h t=>
  cases t with
  |cons h0 t0=>
   cases t0 with
   |cons h1 t1=>
    cases t1 with
    |nil=>
     obtain⟨sa,rfl,h2⟩:=h0.tupI;obtain⟨fa,rfl,h3⟩:=h1.fr;exact⟨_,sa,fa,rfl,h,h2,h3⟩
theorem lay_of{n:Int}{ts:L0}{H:Hp}:∀{rs:List V} {ds:List θ},oW K H rs ds->ds.all (Dc n ts)=true->∃l,ds=l.map jA/\dD K H rs l/\∀q∈l,ShG n ts q
 |[],_,h,_=>by cases h;exact⟨[],rfl,.nil,fun q hq=>(nomatch hq)⟩
 |_::_,_,h,ha=>by
  cases h with
  |cons h t=>
   rw[wfa,kj]at ha;obtain⟨q,rfl,hq⟩:=CZ ha.1;obtain⟨l,rfl,hl,hg⟩:=lay_of t ha.2;refine⟨q::l,rfl,.cons h.sh hl,fun p hp=> ?_⟩;rcases dg.mp hp with rfl|hp
   ·exact hq
   ·exact hg p hp
noncomputable def layB(n:Int)(ts:L0)(ds:List θ):Bool:=ds.all (Dc n ts)&&dw (ds.map setOf)
theorem ug(l:List (List Int×(Int×Nat))):(l.map jA).map setOf=l.map (·.1):=by
 rw[wg];exact Ud fun q _=>wD q
noncomputable def KD(K:W.Frag):Sp:=fun vs H Q _=>∃(a la:Addr) (n:Int) (ts:L0) (rs:List V) (ds:List θ),vs=[.ref a,.ref la]/\aQ K H a n ts/\SqL K H la rs/\oW K H rs ds/\∀H',Same H H'->Q (.bl (layB n ts ds)) H'
theorem Ab{f f1 f2:Addr}{fd d1 d2:ρ}(F:Fun K "is_laying" "is_laying" lH f fd)(D1:bL K mg "is_share" nW ["web","thing"] f1 d1)(G1:FnOk P w K mg base CX0 5 f1 d1 ["web","thing"] (SQ K))(D2:bL K mg "is_rising" WY ["things"] f2 d2)(G2:FnOk P w K mg base CX0 1 f2 d2 ["things"] (Kz K))(pZ:mg "all"=none)(aK:mg "isinstance"=none)(bZ:mg "list"=none):
  FnOk P w K mg base CX0 6 f fd ["web","thing"] (KD K):=by
 refine F.cH ["web","thing"] fun cdv A outer s H vs Q E hr h=> ?_;obtain⟨a,la,n,ts,rs,ds,rfl,hA,hL,hd,q⟩:=h;refine bf ?_;intro Y;refine⟨_,(aP (fQ (PW.pt (rC (lC (j9 (pB Cd aK (aj (pv 1) (aj (pN "list" bZ) ak))))) (zj (lC (j9 (pB (eX rfl) pZ (aj (pK ["share"] ["web"] [0] (sO (pv 1)) (pG 0) oR (pc G1 hr D1 (aj (pv 1) (aj (pv 0) ak)))) ak))))))) (aV (bK rB)) gO) (aV (bK (pc G2 hr D2 (aj (pK ["share"] [] [] (sO (pv 1)) (pG 0) oR (aR (Cg K) (pv 0) aB)) ak))))),?_⟩;refine lQ ?_;intro c2;have hlen:=hd.len;refine⟨_,rfl,.ref la,"list",_,rfl,.inr (.inl ⟨rfl,_,hL⟩),.inr (.inr (.inr rfl)),_,rfl,?_⟩;refine iteF ?_;refine⟨_,rfl,la,rs,rfl,hL,fun hz=> ?_⟩;let qj:Nat->List V->St->Hp->Prop:=fun i acc σ H'=>acc=((ds.take i).map (Dc n ts)).map V.bl/\Same H H'/\∃o,σ=[o,some (.ref a)];refine yQ (xs:=rs) qj ⟨rfl,Same.refl _,_,rfl⟩ (fun i acc σ H' _ p=>p.2.1.seq hL) (fun i acc σ H' hi p=> ?_) hz (fun i x acc σ H' hx p=> ?_) (fun acc σ H' p=> ?_)
 ·rw[p.1];simp;omega
 ·obtain⟨rfl,sm,o,rfl⟩:=p;obtain⟨d,e1,e2⟩:=hd.get hx;refine⟨_,rfl,_,rfl,a,n,ts,x,d,rfl,hA.same sm,DX.same sm e2,fun H2 s2=>⟨?_,sm.trans s2,_,rfl⟩⟩;rw[vm,e1];simp
 intro p1 hp1;obtain⟨rfl,sm,_⟩:=p;have s1:=sm.trans (aO hp1 (.lst (((ds.take rs.length).map (Dc n ts)).map V.bl)));refine⟨p1,ds.map (Dc n ts),rfl,SqL.of (by rw[aF,hlen,rQ]),_,rfl,?_⟩;rw[jo];refine ite2 (fun c=> ?_) (fun c=> ?_)
 ·have:=q _ s1;unfold layB at this;rw[uD c]at this;exact this
 have c:=uE c;generalize upd H' p1 (.lst (((ds.take rs.length).map (Dc n ts)).map V.bl))=H1 at *;obtain⟨l,rfl,hv,hg⟩:=lay_of hd c;have hv1:=dD.same hv s1;have hll:=Paired.eV hv;refine⟨_,rfl,la,rs,rfl,s1.seq hL,fun hz=> ?_⟩;let Bw:Nat->List V->St->Hp->Prop:=fun i acc σ H'=>H'=H1/\Paired (fun v l=>∃p,v= .ref p/\SqT K H1 p (l.map V.int)) acc ((l.take i).map (·.1))/\∃o,σ=[o];refine yQ (xs:=rs) Bw ⟨rfl,.nil,_,rfl⟩ (fun i acc σ H' _ p=>by rw[p.1];exact s1.seq hL) (fun i acc σ H' _ p=> ?_) hz (fun i x acc σ H' hx p=> ?_) (fun acc σ H' p=> ?_)
 ·rw[Paired.eV p.2.1,aL,tL];exact Fz _ _
 ·obtain⟨rfl,hp,o,rfl⟩:=p;obtain⟨q,hq,t,sa,fa,rfl,h1,h2,h3⟩:=Paired.at_ hv1 hx;refine⟨_,rfl,t,_,_,.ref sa,rfl,rfl,h1,rfl,rfl,?_,_,rfl⟩;obtain⟨hi,rfl⟩:=nF.mp hq;rw[ycx hi,bV];exact Paired.snoc hp ⟨sa,rfl,h2⟩
 intro p2 hp2;obtain⟨rfl,hp,_⟩:=p;have s2:=aO hp2 (.lst acc);rw[Xg (by omega)]at hp;refine⟨p2,acc,l.map (·.1),rfl,SqL.of aF,Paired.mapP hp fun _ _ ⟨p,e,z⟩=>⟨p,e,s2.tup z⟩,fun H3 s3=> ?_⟩;have:=q _ (s1.trans (s2.trans s3));unfold layB at this;rw[c,ug]at this;exact this
noncomputable def dW(D:Nat):List (Int×Nat)->Int
 |[]=>0
 |f::fs=>f.1*((D/f.2:Nat):Int)+dW D fs
theorem jW(D:Nat):∀(l m:List (Int×Nat)),dW D (l++m)=dW D l+dW D m
 |[],m=>by simp[dW]
 |f::l,m=>by simp[dW,jW D l m,Int.add_assoc]
theorem tE(D:Nat)(f:Int×Nat):dW D [f]=f.1*((D/f.2:Nat):Int):=by simp[dW]
structure Ft(D:Nat)(fs:List (Int×Nat)):Prop where
 pos:0<D
 le:D<=1000000000000000000
 all:∀f∈fs,0<=f.1/\0<f.2/\f.2∣D
structure nO(D:Nat)(S:Int)(a:Int)(b:Nat):Prop where
 pos:0<b
 dvd:b∣D
 eq:a*((D/b:Nat):Int)=S
theorem nO.le{D b:Nat}{S a:Int}(h:nO D S a b)(hD:0<D):b<=D:=PX hD h.dvd
theorem Kl{D b v:Nat}{S a u:Int}(hD:0<D)(h:nO D S a b)(hv:0<v)(dv:v∣D):
  nO D (S+u*((D/v:Nat):Int)) (a*((v/Nat.gcd b v:Nat):Int)+u*((b*(v/Nat.gcd b v)/v:Nat):Int)) (b*(v/Nat.gcd b v)):=by
 obtain⟨hb,db,he⟩:=h;have hg:0<Nat.gcd b v:=wdx _ hb;obtain⟨b1,eb⟩:=Nat.gcd_dvd_left b v;obtain⟨v1,ev⟩:=X6 b v;have dl:Nat.lcm b v∣D:=Nat.lcm_dvd db dv;have e1:v/Nat.gcd b v=v1:=by
  conv=>lhs;arg 1;rw[ev]
  exact Pr _ hg
 have el:Nat.lcm b v=b*v1:=by
  unfold Nat.lcm;rw[Nat.mul_div_assoc _ (X6 b v),e1]
 rw[el]at dl;rw[e1];obtain⟨e,eD⟩:=dl;have hv1:0<v1:=Nat.pos_of_ne_zero fun z=>by rw[z,wfg]at ev;omega
 have hbv:0<b*v1:=Yi hb hv1;have c1:b*v1=v*b1:=by
  have:b*v1*Nat.gcd b v=v*b1*Nat.gcd b v:=by
   have h1:b*v1*Nat.gcd b v=b*(Nat.gcd b v*v1):=by rw[Yn,T7 v1]
   have h2:v*b1*Nat.gcd b v=v*(Nat.gcd b v*b1):=by rw[Yn,T7 b1]
   rw[h1,h2,<-ev,<-eb,T7]
  exact Nat.eq_of_mul_eq_mul_right hg this
 have c2:b*v1/v=b1:=by rw[c1];exact Pr _ hv
 have c3:D/(b*v1)=e:=by rw[eD];exact Pr _ hbv
 have c4:D/b=v1*e:=by rw[eD,Yn];exact Pr _ hb
 have c5:D/v=b1*e:=by rw[eD,c1,Yn];exact Pr _ hv
 refine⟨hbv,⟨e,eD⟩,?_⟩;rw[c2,c3,c5,<-he,c4]
 push_cast
 grind
noncomputable def CQ(K:W.Frag):Sp:=fun vs H Q _=>∃(p p':Addr) (u u':Int) (v v':Nat),vs=[.ref p,.ref p']/\SqT K H p [.int u,.int ((v:Nat):Int)]/\SqT K H p' [.int u',.int ((v':Nat):Int)]/\v<=1000000000000000000/\v'<=1000000000000000000/\Q (.bl (decide (u*(v':Int)<u'*(v:Int)))) H
theorem QS{f:Addr}{fd:ρ}(F:Fun K "is_less" "is_less" mQ f fd):
  FnOk P w K mg base CX0 1 f fd ["one","other"] (CQ K):=by
 refine F.cH ["one","other"] fun cdv A outer s H vs Q E hr h=> ?_;obtain⟨p,p1,u,u1,v,v1,rfl,h1,h2,b1,b2,q⟩:=h;refine⟨_,(aV (bK (Ca op_lt (bC sJ (aR cI (pv 0) aB) (aR cI (pv 1) aB)) (bC sJ (aR cI (pv 1) aB) (aR cI (pv 0) aB))))),?_⟩;exact⟨_,rfl,p,_,_,.int u,rfl,rfl,h1,rfl,_,rfl,p1,_,_,.int v1,rfl,rfl,h2,rfl,_,_,rfl,rfl,.inr ⟨by omega,by omega⟩,_,rfl,p1,_,_,.int u1,rfl,rfl,h2,rfl,_,rfl,p,_,_,.int v,rfl,rfl,h1,rfl,_,_,rfl,rfl,.inr ⟨by omega,by omega⟩,_,_,rfl,rfl,q⟩
theorem Mv{k:Nat}(h:k<=1000000000000000000)(x:Int):CMul x ((k:Nat):Int):= .inr ⟨by omega,by omega⟩
noncomputable def xg(K:W.Frag):Sp:=fun vs H Q _=>∃(la:Addr) (rs:List V) (fs:List (Int×Nat)) (D:Nat),vs=[.ref la]/\SqL K H la rs/\dX K H rs fs/\Ft D fs/\rs.length<=1000/\
 ∀(p:Addr) (a:Int) (b:Nat) H',Same H H'->H' p=some (.tup [.int a,.int ((b:Nat):Int)])->nO D (dW D fs) a b->Q (.ref p) H'
theorem LR{f f1:Addr}{fd d1:ρ}(F:Fun K "sum_of" "sum_of" pI f fd)(D1:bL K mg "greatest_divisor" zbs ["one","other"] f1 d1)(G1:FnOk P w K mg base CX0 1 f1 d1 ["one","other"] (UJ K)):
  FnOk P w K mg base CX0 2 f fd ["fractions"] (xg K):=by
 refine F.cH ["fractions","a","b","top","bottom","by"] fun cdv A outer s H vs Q E hr h=> ?_;obtain⟨la,rs,fs,D,rfl,hL,hF,hD,hlen,q⟩:=h;refine bf ?_;intro Y;refine⟨_,(aP (pS 1 aB) (aP (pS 2 aB) (aP (ps_for yW rfl (sO (pv 0)) (pg_tup rfl (oU (pG 3) (oU (pG 4) Ci))) (aP (pS 5 (bC lN (pv 4) (pc G1 hr D1 (aj (pv 2) (aj (pv 4) ak))))) (aP (pS 1 (bC oX (bC sJ (pv 1) (pv 5)) (bC sJ (pv 3) (bC lN (bC sJ (pv 2) (pv 5)) (pv 4))))) (aV (pS 2 (bC sJ (pv 2) (pv 5))))))) (aV (bK (fU (aj (pv 1) (aj (pv 2) ak)))))))),?_⟩;refine wH ?_;intro c4 c3 c2;have hl:=Paired.eV hF;have hD0:=hD.pos;have hD1:=hD.le;refine⟨_,rfl,la,rs,rfl,hL,fun hz=> ?_⟩;let gR:Nat->St->Hp->Prop:=fun i σ H'=>H'=H/\∃(a:Int) (b:Nat) (o1 o2 o3:Option V),nO D (dW D (fs.take i)) a b/\σ=[some (.ref la),some (.int a),some (.int ((b:Nat):Int)),o1,o2,o3];refine for_list (xs:=rs) gR ⟨rfl,0,1,_,_,_,⟨by omega,Nat.one_dvd _,by simp[dW]⟩,rfl⟩ (fun i σ H' _ p=>by rw[p.1];exact hL) (fun i x σ H' hx p=> ?_) (fun σ H' p=> ?_)
 ·obtain⟨rfl,a,b,o1,o2,o3,hs,rfl⟩:=p;obtain⟨f,hf,t,rfl,ht⟩:=Paired.at_ hF hx;obtain⟨f0,f1,f2⟩:=hD.all f (tM hf);have hb:=hs.pos;have hbD:=hs.le hD0;have hfD:=PX hD0 f2;have st:=Kl (u:=f.1) hD0 hs f1 f2;have hg:0<Nat.gcd b f.2:=wdx _ hb;have hg2:Nat.gcd b f.2<=b:=Nat.gcd_le_left _ hb;have hby:f.2/Nat.gcd b f.2<=f.2:=wer _ _;have hbb:=st.le hD0;refine⟨t,_,rfl,ht,rfl,_,_,rfl,_,_,rfl,rfl,?_⟩;refine⟨_,rfl,_,rfl,_,rfl,b,f.2,rfl,_,_,rfl,rfl,⟨by omega,by omega⟩,?_⟩;have eby:((f.2:Nat):Int)/((Nat.gcd b f.2:Nat):Int)=((f.2/Nat.gcd b f.2:Nat):Int):=(wee _ _).symm;have eb2:((b:Nat):Int)*((f.2/Nat.gcd b f.2:Nat):Int)=((b*(f.2/Nat.gcd b f.2):Nat):Int):=(T9 _ _).symm;have eb3:((b*(f.2/Nat.gcd b f.2):Nat):Int)/((f.2:Nat):Int)=((b*(f.2/Nat.gcd b f.2)/f.2:Nat):Int):=(wee _ _).symm;have hq:b*(f.2/Nat.gcd b f.2)/f.2<=b*(f.2/Nat.gcd b f.2):=wer _ _;have c1:∀x:Int,CMul x (((f.2:Nat):Int)/((Nat.gcd b f.2:Nat):Int)):=fun x=>by rw[eby];exact Mv (cV hby (cV hfD hD1)) x
  have c2:∀x:Int,CMul x (((b:Nat):Int)*(((f.2:Nat):Int)/((Nat.gcd b f.2:Nat):Int))/((f.2:Nat):Int)):=fun x=>by rw[eby,eb2,eb3];exact Mv (cV hq (cV hbb hD1)) x
  refine⟨_,rfl,_,rfl,_,_,rfl,rfl,c1 _,_,rfl,_,rfl,_,rfl,_,_,rfl,rfl,c1 _,_,rfl,_,_,rfl,rfl,⟨by omega,by omega⟩,_,_,rfl,rfl,c2 _,_,_,rfl,rfl,?_⟩;refine⟨_,rfl,_,rfl,_,_,rfl,rfl,c1 _,?_⟩;refine⟨rfl,a*((f.2/Nat.gcd b f.2:Nat):Int)+f.1*((b*(f.2/Nat.gcd b f.2)/f.2:Nat):Int),b*(f.2/Nat.gcd b f.2),some (.int f.1),some (.int ((f.2:Nat):Int)),some (.int ((f.2/Nat.gcd b f.2:Nat):Int)),?_,?_⟩
  rotate_left
  ·show[some (V.ref la),some (.int (a*(((f.2:Nat):Int)/((Nat.gcd b f.2:Nat):Int))+f.1*(((b:Nat):Int)*(((f.2:Nat):Int)/((Nat.gcd b f.2:Nat):Int))/((f.2:Nat):Int)))),some (.int (((b:Nat):Int)*(((f.2:Nat):Int)/((Nat.gcd b f.2:Nat):Int)))),some (.int f.1),some (.int ((f.2:Nat):Int)),some (.int (((f.2:Nat):Int)/((Nat.gcd b f.2:Nat):Int)))]=_;rw[eby,eb2,eb3]
  obtain⟨hi,rfl⟩:=nF.mp hf;rw[ycx hi,jW,tE];exact st
 ·obtain⟨rfl,a,b,o1,o2,o3,hs,rfl⟩:=p;refine⟨_,rfl,_,rfl,(by show 2<=sizeLine;decide),fun r hr'=> ?_⟩;refine q r a b _ (aO hr' _) aF ?_;rw[Xg (by omega)]at hs;exact hs
theorem wK{α:Type}{l:List α}{i:Nat}(h:i<l.length)(g:α->Bool):(l.take (i+1)).filter g=(l.take i).filter g++(if g l[i]=true then[l[i]]else[]):=by
 rw[ycx h,FN,FJ];split<;>rfl
theorem zN{H:Hp}{rs:List V}{l:List (List Int×(Int×Nat))}(hv:dD K H rs l){i:Nat}{x:V}(hx:rs[i]? =some x):∃(hi:i<l.length) (t sa fa:Addr),x= .ref t/\SqT K H t [.ref sa,.ref fa]/\SqT K H sa (l[i].1.map V.int)/\qF K H fa l[i].2:=by
 obtain⟨q,hq,t,sa,fa,e,h1,h2,h3⟩:=Paired.at_ hv hx;obtain⟨hi,rfl⟩:=nF.mp hq;exact⟨hi,t,sa,fa,e,h1,h2,h3⟩
theorem nO.cmp{D b:Nat}{S a u:Int}{v:Nat}(h:nO D S a b)(hD:0<D):a*(v:Int)<=u*(b:Int)↔S*(v:Int)<=u*(D:Int):=by
 obtain⟨hb,⟨k,rfl⟩,rfl⟩:=h;have hk:0<k:=by
  rcases Uc k with z|z
  ·rw[z,wfg]at hD;cases hD
  ·exact z
 rw[Pr _ hb,Int.mul_right_comm a (k:Int) (v:Int),T9,<-RW];exact⟨fun h=>Uj h (by omega),fun h=>Xi h (by omega)⟩
theorem nO.abk{D b:Nat}{S a x:Int}(h:nO D S a b)(hD:0<D):x*(b:Int)<=a↔x*(D:Int)<=S:=by
 obtain⟨hb,⟨k,rfl⟩,rfl⟩:=h;have hk:0<k:=by
  rcases Uc k with z|z
  ·rw[z,wfg]at hD;cases hD
  ·exact z
 rw[Pr _ hb,T9,<-RW];exact⟨fun h=>Uj h (by omega),fun h=>Xi h (by omega)⟩
theorem dec_not{a b:Int}:(!decide (a<b))=decide (b<=a):=by
 by_cases h:a<b
 ·rw[cW h,fW (by omega)];rfl
 ·rw[fW h,cW (by omega)];rfl
theorem Ft.sub{D:Nat}{fs gs:List (Int×Nat)}(h:Ft D fs)(s:∀f∈gs,f∈fs):Ft D gs:=⟨h.pos,h.le,fun f hf=>h.all f (s f hf)⟩
noncomputable def DQ(D:Nat)(l:List (List Int×(Int×Nat)))(p w:Int):Bool:=decide (w*(D:Int)<=dW D ((l.filter fun q=>decide (p∈q.1)).map (·.2)))
noncomputable def Gm(K:W.Frag):Sp:=fun vs H Q _=>∃(la:Addr) (p w:Int) (rs:List V) (l:List (List Int×(Int×Nat))) (D:Nat),vs=[.ref la,.int p,.int w]/\SqL K H la rs/\dD K H rs l/\l.length<=1000/\Ft D (l.map (·.2))/\∀H',Same H H'->Q (.bl (DQ D l p w)) H'
theorem QV{f f1 f2:Addr}{fd d1 d2:ρ}(F:Fun K "gets" "gets" Df f fd)(D1:bL K mg "is_less" mQ ["one","other"] f1 d1)(G1:FnOk P w K mg base CX0 1 f1 d1 ["one","other"] (CQ K))(D2:bL K mg "sum_of" pI ["fractions"] f2 d2)(G2:FnOk P w K mg base CX0 2 f2 d2 ["fractions"] (xg K)):
  FnOk P w K mg base CX0 3 f fd ["laying","place","want"] (Gm K):=by
 refine F.cH ["laying","place","want"] fun cdv A outer s H vs Q E hr h=> ?_;obtain⟨la,p,w,rs,l,D,rfl,hL,hv,h1k,hD,qq⟩:=h;refine⟨_,(aV (bK (pe_not (pc G1 hr D1 (aj (pc G2 hr D2 (aj (pK ["share"] ["place"] [1] (sO (pv 0)) (pG 0) (Ck (dR (jR K hr.units) (pv 1) (aR (Cg K) (pv 0) aB) (by with_unfolding_all rfl))) (aR (Cg K) (pv 0) aB)) ak)) (aj (fU (aj (pv 2) (aj aB ak))) ak)))))),?_⟩;have hlen:=Paired.eV hv;refine⟨_,rfl,la,rs,rfl,hL,fun hz=> ?_⟩;let qj:Nat->List V->St->Hp->Prop:=fun i acc σ H'=>H'=H/\dX K H acc (((l.take i).filter fun q=>decide (p∈q.1)).map (·.2))/\∃o,σ=[o,some (.int p)];refine yQ (xs:=rs) qj ⟨rfl,.nil,_,rfl⟩ (fun i acc σ H' _ p=>by rw[p.1];exact hL) (fun i acc σ H' _ p=> ?_) hz (fun i x acc σ H' hx p'=> ?_) (fun acc σ H' p'=> ?_)
 ·rw[Paired.eV p.2.1,aL];exact cV (wk _ _) (by rw[tL];exact Fz _ _)
 ·obtain⟨rfl,hf,o,rfl⟩:=p';obtain⟨hi,t,sa,fa,rfl,h1,h2,h3⟩:=zN hv hx;refine⟨_,rfl,_,rfl,t,_,_,.ref sa,rfl,rfl,h1,rfl,sa,_,_,.int p,rfl,.inr h2,cQ.ints _,.int _,Cp _,rfl,(by show 0<=60;decide),_,rfl,?_⟩;rw[any_ints];refine ite2 (fun c=> ?_) (fun c=> ?_)
  ·refine⟨_,rfl,t,_,_,.ref fa,rfl,rfl,h1,rfl,rfl,?_,_,rfl⟩;rw[wK hi,aD c,bV];exact Paired.snoc hf ⟨fa,rfl,h3⟩
  ·refine⟨rfl,?_,_,rfl⟩;rw[wK hi,aA c,Cr];exact hf
 intro p1 hp1;obtain⟨rfl,hf,_⟩:=p';rw[Xg (by omega)]at hf;have s1:=aO hp1 (.lst acc);have hal:acc.length<=1000:=by
  rw[Paired.eV hf,aL];exact cV (wk _ _) h1k
 have hDf:Ft D ((l.filter fun q=>decide (p∈q.1)).map (·.2)):=hD.sub fun f hf=>by
  obtain⟨q,hq,rfl⟩:=jC.mp hf;exact List.mem_map_of_mem (fL.mp hq).1
 refine⟨p1,acc,_,D,rfl,SqL.of aF,dX.same hf s1,hDf,by omega,fun r a b H2 s2 hr2 hs=> ?_⟩;refine⟨_,rfl,(by show 2<=sizeLine;decide),fun r2 Xv=> ?_⟩;have s3:=aO Xv (.tup [.int w,.int 1]);have hbD:=hs.le hD.pos;have hD1:=hD.le;refine⟨r,r2,a,w,b,1,rfl,s3.tup (SqT.of hr2),SqT.of aF,by omega,by omega,_,rfl,?_⟩;have e:=hs.abk hD.pos (x:=w);show Q (.bl (!decide (a*((1:Nat):Int)<w*(b:Int)))) _;rw[dec_not,show a*((1:Nat):Int)=a by rw[show((1:Nat):Int)=1 from rfl,Yk],decide_eq_decide.mpr e];exact qq _ (s1.trans (s2.trans s3))
noncomputable def Iw(d:θ):List Int×(Int×Nat):=(setOf d,(intD ((kids ((kids d).getD 1 .none)).getD 0 .none),(intD ((kids ((kids d).getD 1 .none)).getD 1 .none)).toNat))
theorem lD(q:List Int×(Int×Nat)):Iw (jA q)=q:=by
 show(setOf (jA q),(q.2.1,(((q.2.2:Nat):Int)).toNat))=q;rw[wD,Im]
theorem pq(l:List (List Int×(Int×Nat))):(l.map jA).map Iw=l:=by
 rw[wg];exact(Ud fun q _=>lD q).trans (wff l)
noncomputable def hasB(D:Nat)(wl:List Int)(l:List (List Int×(Int×Nat))):Bool:=(List.range wl.length).all fun i=>DQ D l ((i:Nat):Int) (wl.getD i 0)
noncomputable def vM(n:Int)(ts:L0)(wl:List Int)(D:Nat)(ds:List θ)(u:Int)(v:Nat):Bool:=layB n ts ds&&(hasB D wl (ds.map Iw)&&decide (dW D ((ds.map Iw).map (·.2))*(v:Int)<=u*(D:Int)))
noncomputable def KJ(K:W.Frag):Sp:=fun vs H Q _=>∃(a wa la na:Addr) (n:Int) (ts:L0) (wl:List Int) (rs:List V) (ds:List θ) (D:Nat) (u:Int) (v:Nat),vs=[.ref a,.ref wa,.ref la,.ref na]/\aQ K H a n ts/\SqT K H wa (wl.map V.int)/\yF n wl/\SqL K H la rs/\oW K H rs ds/\rs.length<=1000/\qF K H na (u,v)/\v<=1000000000000000000/\(layB n ts ds=true->Ft D ((ds.map Iw).map (·.2)))/\∀H',Same H H'->Q (.bl (vM n ts wl D ds u v)) H'
theorem Ac{f f1 f2 f3 f4 f5 f6:Addr}{fd d1 d2 d3 d4 d5 d6:ρ}(F:Fun K "is_enough" "is_enough" lJ f fd)(D1:bL K mg "need_web" TX ["thing"] f1 d1)(G1:FnOk P w K mg base CX0 7 f1 d1 ["thing"] (fM K))(D2:bL K mg "need_wants" fK ["web","thing"] f2 d2)(G2:FnOk P w K mg base CX0 2 f2 d2 ["web","thing"] (lE K))(D3:bL K mg "is_laying" lH ["web","thing"] f3 d3)(G3:FnOk P w K mg base CX0 6 f3 d3 ["web","thing"] (KD K))(D4:bL K mg "gets" Df ["laying","place","want"] f4 d4)(G4:FnOk P w K mg base CX0 3 f4 d4 ["laying","place","want"] (Gm K))(D5:bL K mg "is_less" mQ ["one","other"] f5 d5)(G5:FnOk P w K mg base CX0 1 f5 d5 ["one","other"] (CQ K))(D6:bL K mg "sum_of" pI ["fractions"] f6 d6)(G6:FnOk P w K mg base CX0 2 f6 d6 ["fractions"] (xg K))(pZ:mg "all"=none)(bN:mg "enumerate"=none):
  FnOk P w K mg base CX0 8 f fd ["web","wants","laying","number"] (KJ K):=by
 refine F.cH ["web","wants","laying","number"] fun cdv A outer s H vs Q E hr h=> ?_;obtain⟨a,wa,la,na,n,ts,wl,rs,ds,D,u,v,rfl,hA,hW,hwl,hL,hd,hrs,hN,aa3,hD,q⟩:=h;refine bf ?_;intro Y;refine⟨_,(aP (oO (pc G1 hr D1 (aj (pv 0) ak))) (aP (oO (pc G2 hr D2 (aj (pv 0) (aj (pv 1) ak)))) (aP (fQ (lC (j9 (pc G3 hr D3 (aj (pv 0) (aj (pv 2) ak))))) (aV (bK rB)) gO) (aP (fQ (lC (j9 (pB (eX rfl) pZ (aj (pK ["place","want"] ["laying"] [2] (pR rfl bN (aj (pv 1) ak)) (dJ K (n:=2) rfl (oU (pG 0) (oU (pG 1) Ci))) oR (pc G4 hr D4 (aj (pv 2) (aj (pv 0) (aj (pv 1) ak))))) ak)))) (aV (bK rB)) gO) (aV (bK (pe_not (pc G5 hr D5 (aj (pv 3) (aj (pc G6 hr D6 (aj (pK ["share"] [] [] (sO (pv 2)) (pG 0) oR (aR (Cg K) (pv 0) aB)) ak)) ak)))))))))),?_⟩;refine Nh ?_;intro c5 c4 c3 c2;have no:(layB n ts ds&&hasB D wl (ds.map Iw))=false->∀H',Same H H'->Q (.bl false) H':=fun e H' sm=>by
  have:=q H' sm;unfold vM at this;rw[<-Bool.and_assoc,e]at this;exact this
 have h0:=hA.h0;have h10:=hA.h1;have hwn:wl.length=n.toNat:=by have:=hwl.1;omega
 refine⟨_,rfl,.ref a,_,rfl,hA.web.dv.dx,hA.ok,fun H1 s1=> ?_⟩;obtain⟨tt1,rr1,w1,w2,w3⟩:=id (hA.same s1).web;refine⟨_,rfl,_,rfl,a,wa,n,_,wl,rfl,w1,s1.tup hW,hwl,fun H2 s2=> ?_⟩;have s12:=s1.trans s2;refine⟨_,rfl,_,rfl,a,la,n,ts,rs,ds,rfl,hA.same s12,s12.seq hL,oW.same s12 hd,fun H3 s3=>⟨_,rfl,?_⟩⟩;have qC:=s12.trans s3;refine ite2 (fun c=>no (by rw[uD c];rfl) _ qC) (fun c=> ?_);have c:=uE c;have hD:=hD c;have ca:ds.all (Dc n ts)=true:=by
  have c':=c;unfold layB at c';exact(Bool.and_eq_true_iff.mp c').1
 obtain⟨l,rfl,hv,hg⟩:=lay_of hd ca;unfold vM at q;rw[c]at no q;rw[pq]at no q hD;have hlen:=Paired.eV hv;refine⟨_,rfl,true,wa,_,rfl,qC.tup hW,fun hz=> ?_⟩;let Bw:Nat->List V->St->Hp->Prop:=fun i acc σ H'=>acc=((List.range i).map fun i=>DQ D l ((i:Nat):Int) (wl.getD i 0)).map V.bl/\Same H3 H'/\∃o1 o2,σ=[o1,o2,some (.ref la)];refine mX (K:=K) (b:=true) (a:=wa) (xs:=wl.map V.int) Bw ⟨rfl,Same.refl _,_,_,rfl⟩ (fun i acc σ H' _ p=>(qC.trans p.2.1).tup hW) (fun i acc σ H' _ p=>by rw[p.1,aL,aL,vo];exact aY _) hz (fun i v' t acc σ H' hv' p ht=> ?_) (fun acc σ H' p=> ?_)
 ·obtain⟨rfl,sm,o1,o2,rfl⟩:=p;rw[dU]at hv';cases ev:wl[i]? with
  |none=>rw[ev]at hv';cases hv'
  |some y=>
   rw[ev]at hv';cases hv';have t1:=aO ht (.tup [.int (i:Int),.int y]);have st:=qC.trans (sm.trans t1);have hwy:wl.getD i 0=y:=by rw[lq,ev];rfl
   refine⟨t,_,rfl,SqT.of aF,rfl,_,_,rfl,_,_,rfl,rfl,?_⟩;refine⟨_,rfl,_,rfl,_,rfl,la,(i:Int),y,rs,l,D,rfl,st.seq hL,dD.same hv st,by omega,hD,fun H5 s5=>⟨?_,sm.trans (t1.trans s5),_,_,rfl⟩⟩;rw[yU,bV,bV,yeo,yeo,hwy]
 intro p1 hp1;obtain⟨rfl,sm,_⟩:=p;rw[aL]at *;have yZ:=qC.trans (sm.trans (aO hp1 (.lst (((List.range wl.length).map fun i=>DQ D l ((i:Nat):Int) (wl.getD i 0)).map V.bl))));refine⟨p1,_,rfl,SqL.of aF,_,rfl,?_⟩;rw[jo];refine ite2 (fun c2=>no (by show hasB D wl l=false;exact uD c2) _ yZ) (fun c2=> ?_);have c2:hasB D wl l=true:=uE c2;rw[c2]at q;generalize upd H' p1 (.lst (((List.range wl.length).map fun i=>DQ D l ((i:Nat):Int) (wl.getD i 0)).map V.bl))=H4 at *;have hv4:=dD.same hv yZ;refine⟨_,rfl,_,rfl,la,rs,rfl,yZ.seq hL,fun hz=> ?_⟩;let WR:Nat->List V->St->Hp->Prop:=fun i acc σ H'=>H'=H4/\dX K H4 acc ((l.take i).map (·.2))/\∃o,σ=[o];refine yQ (xs:=rs) WR ⟨rfl,.nil,_,rfl⟩ (fun i acc σ H' _ p=>by rw[p.1];exact yZ.seq hL) (fun i acc σ H' _ p=> ?_) hz (fun i x acc σ H' hx p=> ?_) (fun acc σ H' p=> ?_)
 ·rw[Paired.eV p.2.1,aL,tL];exact Fz _ _
 ·obtain⟨rfl,hp,o,rfl⟩:=p;obtain⟨hi,t,sa,fa,rfl,h1,h2,h3⟩:=zN hv4 hx;refine⟨_,rfl,t,_,_,.ref fa,rfl,rfl,h1,rfl,rfl,?_,_,rfl⟩;rw[ycx hi,bV];exact Paired.snoc hp ⟨fa,rfl,h3⟩
 intro p2 hp2;obtain⟨rfl,hp,_⟩:=p;rw[Xg (by omega)]at hp;have s2':=aO hp2 (.lst acc);have hal:acc.length<=1000:=by rw[Paired.eV hp,aL];omega
 refine⟨p2,acc,_,D,rfl,SqL.of aF,dX.same hp s2',hD,hal,fun r a' b' H5 s5 hr5 hs=> ?_⟩;have hbD:=hs.le hD.pos;have hD1:=hD.le;refine⟨na,r,u,a',v,b',rfl,(yZ.trans (s2'.trans s5)).tup hN,SqT.of hr5,aa3,by omega,_,rfl,?_⟩;have e:=hs.cmp hD.pos (u:=u) (v:=v);show Q (.bl (!decide (u*((b':Nat):Int)<a'*((v:Nat):Int)))) _;rw[dec_not,decide_eq_decide.mpr e];exact q _ (yZ.trans (s2'.trans s5))
end
theorem Gx{n:Nat}{ts:L0}{ss:List (List Int)}(hS:bB ss ts false n){s:List Int}(h:s∈ss):iV ts false n s:=nR n s (fL.mp (hS.1.mem_iff.mp h)).1
section
variable{P:ξ}{w:τ}{K:W.Frag}{mg:L4}{base:Heap}
noncomputable def mO(K:W.Frag):Sp:=fun vs H Q _=>∃(a:Addr) (n:Int) (t x:V) (d:θ),vs=[.ref a,x]/\SqT K H a [.int n,t]/\DX K H x d/\gQ n d=true/\∀H',Same H H'->Q .non H'
theorem Dm{f f1:Addr}{fd d1:ρ}(F:Fun K "need_set" "need_set" jG f fd)(D1:bL K mg "is_set" lG ["n","thing"] f1 d1)(G1:FnOk P w K mg base CX0 4 f1 d1 ["n","thing"] (Gi K)):FnOk P w K mg base CX0 5 f fd ["web","thing"] (mO K):=by
 refine F.cH ["web","thing"] fun cdv A outer s H vs Q E hr h=> ?_;obtain⟨a,n,t,x,d,rfl,ha,hx,hd,q⟩:=h;refine⟨_,aV (fQ (lC (j9 (pc G1 hr D1 (aj (aR cI (pv 0) aB) (aj (pv 1) ak))))) Ph gO),?_⟩;refine⟨_,rfl,a,_,_,.int n,rfl,rfl,ha,rfl,_,rfl,n,x,d,rfl,hx,fun H' sm=>⟨_,rfl,?_⟩⟩;rw[hd];exact iteF (q H' sm)
end
end Hs
namespace L2
open PySem
theorem Same.x{H H':Hp}(h:Same H H')(t:Addr):au t H H':=fun b o _ e=>h b o e
theorem au.upd{t:Addr}{H H':Hp}{o:HO}(h:au t H H'):au t H (upd H' t o):=fun b u n e=>by rw[cY n];exact h b u n e
theorem su.sq{K:W.Frag}{H:Hp}{bU:Addr}{ns:List Int}(h:su K H bU ns):SqL K H bU (ns.map V.int):=by
 rcases h with⟨o,h⟩|h
 ·exact .inl (.inr ⟨o,h⟩)
 ·exact .inr h
theorem su.fX{K:W.Frag}{H H':Hp}{bU t:Addr}{ns:List Int}{zs:List V}(h:su K H bU ns)(e:au t H H')(n:H t=some (.lst zs)):su K H' bU ns:=by
 rcases h with⟨o,h⟩|h
 ·exact .inl ⟨o,e _ _ (ne_of h n (by intro z;cases z)) h⟩
 ·exact .inr h
structure rN(K:W.Frag)(H:Hp)(tp bU:Addr)(ns:List Int):Prop where
 at_:∃(i r:Int),H tp=some (.lst [.ref bU,.int i,.int r])/\0<=i/\0<=r
 abr:su K H bU ns
 len:ns.length<=63
theorem rN.same{K:W.Frag}{H H':Hp}{tp bU:Addr}{ns:List Int}(h:rN K H tp bU ns)(e:Same H H'):rN K H' tp bU ns:=by
 obtain⟨⟨i,r,h1,h2,h3⟩,h4,h5⟩:=h;exact⟨⟨i,r,e _ _ h1,h2,h3⟩,h4.same e,h5⟩
theorem rN.other{K:W.Frag}{H H':Hp}{tp bU c:Addr}{ns:List Int}{zs:List V}(h:rN K H tp bU ns)(e:au c H H')(hc:H c=some (.lst zs))(n:tp≠c):rN K H' tp bU ns:=by
 obtain⟨⟨i,r,h1,h2,h3⟩,h4,h5⟩:=h;exact⟨⟨i,r,e _ _ n h1,h2,h3⟩,h4.fX e hc,h5⟩
structure cZ(K:W.Frag)(H:Hp)(tp bU:Addr)(ns:List Int)(b:Int):Prop where
 tv:rN K H tp bU ns
 le:∃(i r:Int),H tp=some (.lst [.ref bU,.int i,.int r])/\i<=b
theorem cZ.same{K:W.Frag}{H H':Hp}{tp bU:Addr}{ns:List Int}{b:Int}(h:cZ K H tp bU ns b)(e:Same H H'):cZ K H' tp bU ns b:=by
 obtain⟨i,r,h1,h2⟩:=h.le;exact⟨h.tv.same e,i,r,e _ _ h1,h2⟩
theorem cZ.mono{K:W.Frag}{H:Hp}{tp bU:Addr}{ns:List Int}{b c:Int}(h:cZ K H tp bU ns b)(e:b<=c):cZ K H tp bU ns c:=by
 obtain⟨i,r,h1,h2⟩:=h.le;exact⟨h.tv,i,r,h1,by omega⟩
theorem cZ.other{K:W.Frag}{H H':Hp}{tp bU c:Addr}{ns:List Int}{b:Int}{zs:List V}(h:cZ K H tp bU ns b)(e:au c H H')(hc:H c=some (.lst zs))(n:tp≠c):cZ K H' tp bU ns b:=by
 obtain⟨i,r,h1,h2⟩:=h.le;exact⟨h.tv.other e hc n,i,r,e _ _ n h1,h2⟩
theorem cZ.lst{K:W.Frag}{H:Hp}{tp bU:Addr}{ns:List Int}{b:Int}(h:cZ K H tp bU ns b):∃zs,H tp=some (.lst zs):=by
 obtain⟨i,r,h1,_⟩:=h.le;exact⟨_,h1⟩
theorem aJ{H:Hp}{a b:Addr}{o:HO}(h:H a=some o)(n:H b=none):b≠a:=fun e=>by rw[e,h]at n;cases n
end L2
namespace Hs
open PySem L2 oV
section
variable{P:ξ}{w:τ}{K:W.Frag}{mg:L4}{base:Heap}
theorem qP(a:Int){b:Int}(h:0<b):0<=a %b:=Int.emod_nonneg _ (by omega)
theorem mod_lt(a:Int){b:Int}(h:0<b):a %b<b:=Int.emod_lt_of_pos _ h
theorem Ih{ns:List Int}{k:Int}(h0:0<=k)(h1:k<(ns.length:Int)):∃v:Int,atI (ns.map V.int) k=some (.int v)/\ns[k.toNat]? =some v:=by
 have hk:k.toNat<ns.length:=by omega
 have ek:((k.toNat:Nat):Int)=k:=by omega
 have q:atI (ns.map V.int) ((k.toNat:Nat):Int)=some (.int ns[k.toNat]):=atI_nat (by rw[dU,dG hk];rfl);rw[ek]at q;exact⟨_,q,dG hk⟩
noncomputable def Gn(K:W.Frag):Sp:=fun vs H Q _=>∃(c i:Int),vs=[.int c,.int i]/\0<=i/\i<=1000000000/\∀r,0<=r->Q (.int r) H
theorem Ml{f:Addr}{fd:ρ}(F:Fun K "_law_e_stir" "_law_e_stir" jL f fd):
  FnOk P w K mg base CX0 1 f fd ["cell","at"] (Gn K):=by
 refine F.cH ["cell","at","one","two","three"] fun cdv A outer s H vs Q E hr h=> ?_;obtain⟨c,i,rfl,hi0,hi1,q⟩:=h;refine bf ?_;intro Y;refine⟨_,(aP (fQ (dR op_ge (pv 0) (bC op_pow aB aB)) (aV (bK (pv 0))) gO) (aP (pS 2 (bC op_mod (bC oX (bC oX (bC sJ (bC op_mod (pv 0) aB) aB) (bC sJ (pv 1) aB)) aB) aB)) (aP (pS 3 (bC op_mod (bC oX (bC oX (bC oX (bC sJ (pv 2) (pv 2)) (bC sJ (bC sJ aB (pv 1)) (pv 1))) (bC sJ aB (pv 2))) aB) aB)) (aP (pS 4 (bC op_mod (bC oX (bC oX (bC oX (bC sJ (pv 3) (pv 3)) (bC sJ aB (pv 3))) (pv 2)) (pv 1)) aB)) (aV (bK (bC oX (bC sJ (pv 3) aB) (pv 4)))))))),?_⟩;refine Nh ?_;intro c5 c4 c3 c2;refine⟨_,rfl,_,_,rfl,rfl,⟨by decide,by decide,by decide⟩,_,_,rfl,rfl,_,rfl,?_⟩;refine ite2 (fun c1=> ?_) (fun c1=> ?_)
 ·have c2:(10:Int)^(18:Int).toNat<=c:=fJ c1;have c3:(0:Int)<=10^(18:Int).toNat:=by decide
  exact⟨_,rfl,q c (by omega)⟩
 ·refine⟨_,rfl,_,_,rfl,rfl,(by show(0:Int)<2147483549;decide),_,_,rfl,rfl,.inr ⟨by decide,by decide⟩,_,rfl,_,_,rfl,rfl,.inr ⟨by decide,by decide⟩,_,_,rfl,rfl,_,_,rfl,rfl,_,_,rfl,rfl,(by show(0:Int)<2147483543;decide),?_⟩;generalize hfirst:((fun i j=>V.int (i %j)) _ _:V)=vf;obtain⟨a1,e1,a2,a3⟩:∃a:Int,vf= .int a/\0<=a/\a<2147483543:=⟨_,hfirst.symm,qP _ (by decide),mod_lt _ (by decide)⟩;rw[e1];refine⟨_,rfl,_,rfl,_,_,rfl,rfl,.inl ⟨by omega,by omega⟩,_,rfl,_,_,rfl,rfl,.inl ⟨by decide,by decide⟩,_,rfl,_,_,rfl,rfl,.inr ⟨by omega,by omega⟩,_,_,rfl,rfl,_,rfl,_,_,rfl,rfl,.inl ⟨by decide,by decide⟩,_,_,rfl,rfl,_,_,rfl,rfl,_,_,rfl,rfl,(by show(0:Int)<2147483497;decide),?_⟩;generalize aa6:((fun i j=>V.int (i %j)) _ _:V)=vs;obtain⟨b1,f1,b2,b3⟩:∃a:Int,vs= .int a/\0<=a/\a<2147483497:=⟨_,aa6.symm,qP _ (by decide),mod_lt _ (by decide)⟩;rw[f1];refine⟨_,rfl,_,rfl,_,_,rfl,rfl,.inl ⟨by omega,by omega⟩,_,rfl,_,_,rfl,rfl,.inl ⟨by decide,by decide⟩,_,_,rfl,rfl,_,rfl,_,_,rfl,rfl,_,rfl,_,_,rfl,rfl,_,_,rfl,rfl,(by show(0:Int)<2147483489;decide),?_⟩;generalize aa4:((fun i j=>V.int (i %j)) _ _:V)=vt;obtain⟨c1',g1,c2,c3⟩:∃a:Int,vt= .int a/\0<=a/\a<2147483489:=⟨_,aa4.symm,qP _ (by decide),mod_lt _ (by decide)⟩;rw[g1];refine⟨_,rfl,_,_,rfl,rfl,.inr ⟨by decide,by decide⟩,_,rfl,_,_,rfl,rfl,q _ ?_⟩;have:=Cq b2 (show(0:Int)<=2147483489 by decide);omega
noncomputable def zK(K:W.Frag):Sp:=fun vs H Q _=>∃(tp bU:Addr) (ns:List Int) (m b:Int),vs=[.ref tp,.int m]/\cZ K H tp bU ns b/\b<=1000000000/\0<m/\m<1000000000000000000000000000000/\
 ∀r H',0<=r->r<m->au tp H H'->cZ K H' tp bU ns (b+1)->Q (.int r) H'
theorem Vp{f f1:Addr}{fd d1:ρ}(F:Fun K "_law_e_dip" "_law_e_dip" W6 f fd)(D1:bL K mg "_law_e_stir" jL ["cell","at"] f1 d1)(G1:FnOk P w K mg base CX0 1 f1 d1 ["cell","at"] (Gn K))(cg:mg "len"=none):
  FnOk P w K mg base CX0 2 f fd ["cup","many"] (zK K):=by
 refine F.cH ["cup","many","at","cell","found"] fun cdv A outer s H vs Q E hr h=> ?_;obtain⟨tp,bU,ns,m,b,rfl,hC,hb,hm0,hm1,q⟩:=h;refine bf ?_;intro Y;refine⟨_,(aP (fQ (dR op_lt (aR eF (pv 0) aB) (pv 1)) (aP (pS 2 (aR eF (pv 0) aB)) (aP (pS 3 (bC oX (bC sJ aB (pv 2)) aB)) (aP (fQ (dR op_lt (pv 2) (pB vq cg (aj (aR eF (pv 0) aB) ak))) (aV (pS 3 (aR eF (aR eF (pv 0) aB) (pv 2)))) (aV (fQ (dR op_gt (pB vq cg (aj (aR eF (pv 0) aB) ak)) aB) (aV (pS 3 (bC oX (bC op_mod (aR eF (aR eF (pv 0) aB) (bC op_mod (bC oX (bC sJ aB (pv 2)) aB) (pB vq cg (aj (aR eF (pv 0) aB) ak)))) aB) (bC sJ (pv 2) aB)))) gO))) (aP (ps_asg (bC oX (pv 2) aB) (pg_sub (pv 0) aB PL)) (aV (ps_asg (pc G1 hr D1 (aj (pv 3) (aj (pv 2) ak))) (pg_sub (pv 0) aB PL))))))) gO) (aP (pS 4 (bC op_mod (aR eF (pv 0) aB) (pv 1))) (aP (ps_asg (bC lN (aR eF (pv 0) aB) (pv 1)) (pg_sub (pv 0) aB PL)) (aV (bK (pv 4)))))),?_⟩;refine wH ?_;intro c4 c3 c2;obtain⟨⟨⟨i,r,hH,hi,hr0⟩,hS0,h63⟩,i',r',hH',hle⟩:=hC;have ei:i'=i/\r'=r:=by
  rw[hH]at hH';injection hH' with e1
  injection e1 with e2
  injection e2 with _ e3
  injection e3 with e4 e5
  injection e5 with e6 _
  injection e4 with e4
  injection e6 with e6
  exact⟨e4.symm,e6.symm⟩
 obtain⟨rfl,rfl⟩:=ei;have hS:=hS0.sq;refine⟨_,rfl,tp,_,_,.int r',rfl,rfl,SqL.of hH,rfl,_,rfl,_,_,rfl,rfl,_,rfl,?_⟩;refine ite2 (fun c=> ?_) (fun c=> ?_)
 ·refine⟨_,rfl,tp,_,_,.int i',rfl,rfl,SqL.of hH,rfl,?_⟩;refine⟨_,rfl,_,_,rfl,rfl,.inl ⟨by decide,by decide⟩,_,_,rfl,rfl,?_⟩;refine⟨_,rfl,_,rfl,tp,_,_,.ref bU,rfl,rfl,SqL.of hH,rfl,bU,_,rfl,.inl hS,fun hz=>⟨_,_,rfl,rfl,_,rfl,?_⟩⟩;have go:∀r2,0<=r2->∀q',q'=r2/m->
    ((0:Int)<=r2 %m/\r2 %m<m)/\au tp H (upd (upd (upd H tp (.lst [.ref bU,.int (i'+1),.int r'])) tp (.lst [.ref bU,.int (i'+1),.int r2])) tp (.lst [.ref bU,.int (i'+1),.int q']))/\
    cZ K (upd (upd (upd H tp (.lst [.ref bU,.int (i'+1),.int r'])) tp (.lst [.ref bU,.int (i'+1),.int r2])) tp (.lst [.ref bU,.int (i'+1),.int q'])) tp bU ns (b+1):=fun r2 h0 q' hq=>by
   have sx:au tp H (upd (upd (upd H tp (.lst [.ref bU,.int (i'+1),.int r'])) tp (.lst [.ref bU,.int (i'+1),.int r2])) tp (.lst [.ref bU,.int (i'+1),.int q'])):=(au.refl _ _).upd.upd.upd;have hq0:0<=q':=by rw[hq];exact wep h0 (by omega)
   exact⟨⟨qP _ hm0,mod_lt _ hm0⟩,sx,⟨⟨i'+1,q',aF,by omega,hq0⟩,hS0.fX sx hH,h63⟩,i'+1,q',aF,by omega⟩
  refine ite2 (fun c2=> ?_) (fun c2=> ?_)
  ·have c3:i'<((ns.map V.int).length:Int):=fJ c2;rw[aL]at c3;obtain⟨v,hx,_⟩:=Ih hi c3;refine⟨_,rfl,tp,_,_,.ref bU,rfl,rfl,SqL.of hH,rfl,_,rfl,bU,_,_,_,rfl,rfl,hS,hx,?_⟩;refine⟨_,rfl,_,_,rfl,rfl,_,rfl,tp,_,_,1,rfl,rfl,hH,rfl,?_⟩;refine⟨_,rfl,_,rfl,_,_,rfl,hi,by omega,fun r2 h0=>⟨_,rfl,tp,_,_,2,rfl,rfl,aF,rfl,?_⟩⟩;obtain⟨⟨g1,g2⟩,g3,g4⟩:=go r2 h0 _ rfl;refine⟨_,rfl,tp,_,_,.int r2,rfl,rfl,SqL.of aF,rfl,_,rfl,_,_,rfl,rfl,hm0,?_⟩;refine⟨_,rfl,tp,_,_,.int r2,rfl,rfl,SqL.of aF,rfl,_,rfl,_,_,rfl,rfl,⟨hm0,hm1⟩,_,rfl,tp,_,_,2,rfl,rfl,aF,rfl,?_⟩;exact⟨_,rfl,q _ _ g1 g2 g3 g4⟩
  ·refine⟨_,rfl,tp,_,_,.ref bU,rfl,rfl,SqL.of hH,rfl,bU,_,rfl,.inl hS,fun hz2=>⟨_,_,rfl,rfl,_,rfl,?_⟩⟩;refine ite2 (fun c4=> ?_) (fun c4=> ?_)
   ·have e3:(0:Int)<((ns.map V.int).length:Int):=fJ c4;have hk1:=qP (5*i'+2) e3;have hk2:=mod_lt (5*i'+2) e3;rw[aL]at hk1 hk2;obtain⟨v,hx,_⟩:=Ih hk1 hk2;rw[<-aL (f:=V.int)]at hx;refine⟨_,rfl,tp,_,_,.ref bU,rfl,rfl,SqL.of hH,rfl,_,rfl,_,_,rfl,rfl,.inl ⟨by decide,by decide⟩,_,_,rfl,rfl,_,rfl,tp,_,_,.ref bU,rfl,rfl,SqL.of hH,rfl,bU,_,rfl,.inl hS,fun hz2=>⟨_,_,rfl,rfl,e3,bU,_,_,_,rfl,rfl,hS,hx,?_⟩⟩;refine⟨_,_,rfl,rfl,(by show(0:Int)<777777769;decide),_,rfl,_,_,rfl,rfl,.inr ⟨by decide,by decide⟩,_,_,rfl,rfl,?_⟩;refine⟨_,rfl,_,_,rfl,rfl,_,rfl,tp,_,_,1,rfl,rfl,hH,rfl,?_⟩;refine⟨_,rfl,_,rfl,_,_,rfl,hi,by omega,fun r2 h0=>⟨_,rfl,tp,_,_,2,rfl,rfl,aF,rfl,?_⟩⟩;obtain⟨⟨g1,g2⟩,g3,g4⟩:=go r2 h0 _ rfl;refine⟨_,rfl,tp,_,_,.int r2,rfl,rfl,SqL.of aF,rfl,_,rfl,_,_,rfl,rfl,hm0,?_⟩;refine⟨_,rfl,tp,_,_,.int r2,rfl,rfl,SqL.of aF,rfl,_,rfl,_,_,rfl,rfl,⟨hm0,hm1⟩,_,rfl,tp,_,_,2,rfl,rfl,aF,rfl,?_⟩;exact⟨_,rfl,q _ _ g1 g2 g3 g4⟩
   ·refine⟨_,rfl,_,_,rfl,rfl,_,rfl,tp,_,_,1,rfl,rfl,hH,rfl,?_⟩;refine⟨_,rfl,_,rfl,_,_,rfl,hi,by omega,fun r2 h0=>⟨_,rfl,tp,_,_,2,rfl,rfl,aF,rfl,?_⟩⟩;obtain⟨⟨g1,g2⟩,g3,g4⟩:=go r2 h0 _ rfl;refine⟨_,rfl,tp,_,_,.int r2,rfl,rfl,SqL.of aF,rfl,_,rfl,_,_,rfl,rfl,hm0,?_⟩;refine⟨_,rfl,tp,_,_,.int r2,rfl,rfl,SqL.of aF,rfl,_,rfl,_,_,rfl,rfl,⟨hm0,hm1⟩,_,rfl,tp,_,_,2,rfl,rfl,aF,rfl,?_⟩;exact⟨_,rfl,q _ _ g1 g2 g3 g4⟩
 ·refine⟨_,rfl,tp,_,_,.int r',rfl,rfl,SqL.of hH,rfl,_,rfl,_,_,rfl,rfl,hm0,?_⟩;refine⟨_,rfl,tp,_,_,.int r',rfl,rfl,SqL.of hH,rfl,_,rfl,_,_,rfl,rfl,⟨hm0,hm1⟩,_,rfl,tp,_,_,2,rfl,rfl,hH,rfl,?_⟩;have sx:au tp H (upd H tp (.lst [.ref bU,.int i',.int (r'/m)])):=(au.refl _ _).upd;have hq0:0<=r'/m:=wep hr0 (by omega);exact⟨_,rfl,q _ _ (qP _ hm0) (mod_lt _ hm0) sx ⟨⟨⟨i',r'/m,aF,hi,hq0⟩,hS0.fX sx hH,h63⟩,i',r'/m,aF,by omega⟩⟩
end
end Hs
namespace oV
open PySem L2
theorem rZ.fX{K:W.Frag}{t:Addr}{H H':Hp}{zs:List V}{a:Addr}{n:Int}{ts:L0}(h:rZ K H a n ts)(e:au t H H')(hn:H t=some (.lst zs)):rZ K H' a n ts:=by
 obtain⟨u,rs,h1,h2,h3⟩:=h;exact⟨u,rs,e.tup hn h1,e.tup hn h2,g8 e hn h3⟩
theorem U8{p q:Int×Int}(h:pl p=pl q):p=q:=by
 obtain⟨a,b⟩:=p;obtain⟨c,d⟩:=q;unfold pl at h;simp at h;rw[h.1,h.2]
theorem MN{a b:List Int}(h:HT.lexLt b a=false)(ne:a≠b):HT.lexLt a b=true:=by
 rw[HT.cu]at h⊢;have h1:¬b<a:=was h;have h2:a<=b:=List.not_lt.mp h1;refine cW ?_;rcases Classical.em (a<b)with h3|h3
 ·exact h3
 ·exact absurd (List.le_antisymm h2 (List.not_lt.mp h3)) ne
theorem Kf{n:Int}{p:Int×Int}(h0:0<=p.1)(h1:p.1<p.2)(h2:p.2<n):nQ n (pairD p)=true:=by
 show((bO n (.int p.1)&&(bO n (.int p.2)&&true))&&dI [p.1,p.2]&&decide (([PyData.int p.1,PyData.int p.2]).length=2))=true;have e1:bO n (.int p.1)=true:=by
  show(decide (0<=p.1)&&decide (p.1<n))=true;rw[cW h0,cW (by omega)];rfl
 have e2:bO n (.int p.2)=true:=by
  show(decide (0<=p.2)&&decide (p.2<n))=true;rw[cW (by omega),cW h2];rfl
 have e3:dI [p.1,p.2]=true:=by
  show(decide (p.1<p.2)&&true)=true;rw[cW h1];rfl
 rw[e1,e2,e3];rfl
theorem Cv{n:Int}{ts:L0}(hn0:0<=n)(hn1:n<=10)(h:aM n ts)(hs:ts.Pairwise fun p q=>HT.lexLt (pl q) (pl p)=false):vB (jD n ts)=true:=by
 show(true&&(decide (0<=n)&&decide (n<=10))&&((ts.map pairD).all (nQ n)&&dw ((ts.map pairD).map fun t=>(kids t).map intD)))=true;have e1:(ts.map pairD).all (nQ n)=true:=by
  rw[yes,kh];intro p hp;obtain⟨h0,h1,h2⟩:=h.lt p hp;exact Kf h0 h1 h2
 have e2:(ts.map pairD).map (fun t=>(kids t).map intD)=ts.map pl:=by rw[wg];rfl
 have e3:dw (ts.map pl)=true:=by
  unfold dw;rw[kh];intro k hk;have hk':k<ts.length-1:=by simpa using hk
  have g1:(ts.map pl).getD k []=pl ts[k]:=by rw[lq,dU,dG (by omega)];rfl
  have g2:(ts.map pl).getD (k+1) []=pl ts[k+1]:=by rw[lq,dU,dG (by omega)];rfl
  rw[g1,g2];refine MN (Ui.mp hs k (k+1) (by omega) (by omega) (by omega)) fun e=> ?_;have:=(List.getElem_inj h.nd).mp (U8 e);omega
 rw[cW hn0,cW hn1,e1,e2,e3];rfl
end oV
namespace Hs
open PySem L2 oV
theorem jB.JV{p:Int×Int}(a:jB p p):False:=by
 unfold jB at a;omega
theorem eq_of_sorted:∀{l m:L0},l.Pairwise jB->m.Pairwise jB->(∀p,p∈l↔p∈m)->l=m
 |[],[],_,_,_=>rfl
 |[],q::m,_,_,h=>absurd ((h q).mpr (iW ..)) (by simp)
 |p::l,[],_,_,h=>absurd ((h p).mp (iW ..)) (by simp)
 |p::l,q::m,hl,hm,h=>by
  rw[Qd]at hl hm;have e:p=q:=by
   rcases dg.mp ((h p).mp (iW ..))with e|e
   ·exact e
   rcases dg.mp ((h q).mpr (iW ..))with e'|e'
   ·exact e'.symm
   exact(jB.JV ((hl.1 _ e').trans (hm.1 _ e))).elim
  subst e;have:l=m:=eq_of_sorted hl.2 hm.2 (fun r=>by
   have hr:=h r;rw[dg,dg]at hr;constructor
   ·intro hi;rcases hr.mp (.inr hi)with e|e
    ·subst e;exact(jB.JV (hl.1 _ hi)).elim
    ·exact e
   ·intro hi;rcases hr.mpr (.inr hi)with e|e
    ·subst e;exact(jB.JV (hm.1 _ hi)).elim
    ·exact e)
  rw[this]
theorem zV(so:Int->Int->Bool)(i:Int)(k:Nat):row so i (k+1)=row so i k++(if so i (i+1+(k:Int))=true then[(i,i+1+(k:Int))]else[]):=by
 unfold row;rw[yU,bV,FN];congr 1;show List.filter _ [(i,i+1+(k:Int))]=_;rw[FJ];rfl
theorem mV(so:Int->Int->Bool)(m:Int)(i:Nat):rows so m (i+1)=rows so m i++row so (0+(i:Int)) (m-(0+(i:Int)+1)).toNat:=by
 unfold rows;rw[yU,bV,List.flatten_append];simp
theorem sY{so:Int->Int->Bool}{i:Int}{k:Nat}{p:Int×Int}:p∈row so i k↔p.1=i/\i<p.2/\p.2<i+1+(k:Int)/\so p.1 p.2=true:=by
 unfold row;rw[fL,jC];constructor
 ·rintro⟨⟨t,ht,rfl⟩,h⟩;rw[jz]at ht;exact⟨rfl,by show i<i+1+(t:Int);omega,by show i+1+(t:Int)<_;omega,h⟩
 ·rintro⟨h1,h2,h3,h4⟩;refine⟨⟨(p.2-i-1).toNat,by rw[jz];omega,?_⟩,h4⟩;apply Prod.ext
  ·exact h1.symm
  ·show i+1+(((p.2-i-1).toNat:Nat):Int)=p.2;omega
theorem dO{so:Int->Int->Bool}{m:Int}:∀{i:Nat} {p:Int×Int},p∈rows so m i↔0<=p.1/\p.1<(i:Int)/\p.1<p.2/\p.2<m/\so p.1 p.2=true
 |0,p=>by
  constructor
  ·intro h;simp[rows]at h
  ·intro h;omega
 |i+1,p=>by
  rw[mV,oY,dO (i:=i),sY];constructor
  ·rintro(h|h)
   ·exact⟨h.1,by omega,h.2.2⟩
   ·exact⟨by omega,by omega,by omega,by omega,h.2.2.2⟩
  ·rintro⟨h1,h2,h3,h4,h5⟩;by_cases e:p.1<(i:Int)
   ·exact .inl ⟨h1,e,h3,h4,h5⟩
   ·exact .inr ⟨by omega,by omega,by omega,h5⟩
theorem uo(so:Int->Int->Bool)(i:Int)(k:Nat):(row so i k).Pairwise jB:=by
 unfold row;refine List.Pairwise.filter _ ?_;rw[Qc];exact Yc.imp fun h=> .inr ⟨rfl,by show i+1+_<i+1+_;omega⟩
theorem TY(so:Int->Int->Bool)(m:Int):∀i:Nat,(rows so m i).Pairwise jB
 |0=>by unfold rows;exact List.Pairwise.nil
 |i+1=>by
  rw[mV,R6];refine⟨TY so m i,uo so _ _,fun p hp q hq=> ?_⟩;rw[dO]at hp;rw[sY]at hq;exact .inl (by omega)
theorem Gy{so:Int->Int->Bool}{m:Int}{i:Nat}:aM m (rows so m i):=
 ⟨(TY so m i).imp fun h e=>by subst e;exact jB.JV h,fun p hp=>by rw[dO]at hp;exact⟨hp.1,hp.2.2.1,hp.2.2.2.1⟩⟩
theorem qM{l:L0}(h:l.Pairwise jB):l.Nodup:=h.imp fun h e=>by subst e;exact jB.JV h
theorem aQ.fX{K:W.Frag}{H H':Hp}{t a:Addr}{zs:List V}{n:Int}{ts:L0}(h:aQ K H a n ts)(e:au t H H')(hn:H t=some (.lst zs)):aQ K H' a n ts:=⟨h.web.fX e hn,h.h0,h.h1,h.pk,h.ok⟩
noncomputable def tt(_ _:Int):Bool:=true
theorem Ho{p q:Int×Int}(h:jB p q):HT.lexLt (pl q) (pl p)=false:=by
 rw[HT.cu];refine fW fun z=> ?_;have:jB q p:=Ht (by rw[HT.cu];exact cW z);exact jB.JV (h.trans this)
theorem Cw{n:Int}{ts:L0}{i:Nat}(h0:0<=n)(h1:n<=10)(h:ts.Sublist (rows tt n i)):aM n ts/\Bv n ts:=by
 have hs:ts.Pairwise jB:=(TY tt n i).sublist h;have ho:aM n ts:=⟨qM hs,fun p hp=>(Gy (so:=tt) (m:=n) (i:=i)).lt p (h.subset hp)⟩;exact⟨ho,Cv h0 h1 ho (hs.imp Ho)⟩
theorem Ow{xs:List Int}{i:Int}(h0:0<=i)(h1:i<(xs.length:Int)):atI (xs.map V.int) i=some (.int (xs.getD i.toNat 0)):=by
 have hk:i.toNat<xs.length:=by omega
 have ek:((i.toNat:Nat):Int)=i:=by omega
 have q:atI (xs.map V.int) ((i.toNat:Nat):Int)=some (.int (xs.getD i.toNat 0)):=atI_nat (by rw[dU,dG hk,lq,dG hk];rfl);rw[ek]at q;exact q
theorem iz.push{K:W.Frag}{H:Hp}{l p:Addr}{R:L0}{P:Int×Int->Prop}{i j:Int}{rs:List V}{ts:L0}(h1:H l=some (.lst rs))(h2:cQ K H rs (ts.map pairD))(h3:ts.Sublist R)(h4:∀p∈ts,P p)(hp:SqT K H p [.int i,.int j])(hP:P (i,j)):iz K (upd H l (.lst (rs++[.ref p]))) l (R++[(i,j)]) P:=by
 have x:au l H (upd H l (.lst (rs++[.ref p]))):=(au.refl _ _).upd;refine⟨_,ts++[(i,j)],aF,?_,h3.append (wdo _),fun q hq=> ?_⟩
 ·rw[bV];exact(g8 x h1 h2).append (.cons (.tup (x.tup h1 hp) (.cons (.int _) (.cons (.int _) .nil))) .nil)
 ·rcases oY.mp hq with q'|q'
  ·exact h4 q q'
  ·rw[iD.mp q'];exact hP
theorem sub_len{n:Int}{ts:L0}{i k:Nat}(h1:n<=10)(hk:0+(i:Int)+1+(k:Int)<=n)(h:ts.Sublist (rows tt n i++row tt (0+(i:Int)) k)):ts.length<=45:=by
 refine pairs_len (n:=n) ⟨?_,fun p hp=> ?_⟩ h1
 ·refine qM (List.Pairwise.sublist h ?_);rw[R6];refine⟨TY _ _ _,uo _ _ _,fun p hp q hq=> ?_⟩;rw[dO]at hp;rw[sY]at hq;exact .inl (by omega)
 ·rcases oY.mp (h.subset hp)with q|q
  ·rw[dO]at q;exact⟨q.1,q.2.2.1,q.2.2.2.1⟩
  ·rw[sY]at q;exact⟨by omega,by omega,by omega⟩
section
variable{P:ξ}{w:τ}{K:W.Frag}{mg:L4}{base:Heap}
noncomputable def Gh(K:W.Frag):Sp:=fun vs H Q _=>∃(cp bU:Addr) (ns:List Int) (n b:Int),vs=[.ref cp,.int n]/\cZ K H cp bU ns b/\b<=900000000/\0<=n/\n<=10/\
 ∀r ts H',au cp H H'->cZ K H' cp bU ns (b+120)->aQ K H' r n ts->Q (.ref r) H'
theorem LQ{f f1:Addr}{fd d1:ρ}(F:Fun K "_law_e_web_of" "_law_e_web_of" fY f fd)(D1:bL K mg "_law_e_dip" W6 ["cup","many"] f1 d1)(G1:FnOk P w K mg base CX0 2 f1 d1 ["cup","many"] (zK K))(aN:mg "range"=none)(aU:mg "tuple"=none):
  FnOk P w K mg base CX0 3 f fd ["cup","n"] (Gh K):=by
 refine F.cH ["cup","n","often","ties","i","j"] fun cdv A outer s H vs Q E hr h=> ?_;obtain⟨cp,bU,ns,n,b,rfl,hC,hb,hn0,hn1,q⟩:=h;refine⟨_,(aP (pS 2 (pc G1 hr D1 (aj (pv 0) (aj aB ak)))) (aP (pS 3 (pe_lst ak)) (aP (ps_for yW rfl (JM rfl aN (aj (pv 1) ak)) (pG 4) (aV (ps_for yW rfl (pi_range2 rfl aN (aj (bC oX (pv 4) aB) (aj (pv 1) ak))) (pG 5) (aV (fQ (dR op_lt (pc G1 hr D1 (aj (pv 0) (aj aB ak))) (pv 2)) (aV (oO (pe_bm Qh wbf wbg mt_append (pv 3) (aj (fU (aj (pv 4) (aj (pv 5) ak))) ak)))) gO))))) (aV (bK (fU (aj (pv 1) (aj (pT JN aU (aj (pv 3) ak)) ak)))))))),?_⟩;refine⟨_,rfl,cp,bU,ns,7,b,rfl,hC,by omega,by decide,by decide,fun o H1 V7 ho1 x1 c1=> ?_⟩;refine⟨(by show 0<=sizeLine;decide),fun tl htl=> ?_⟩;obtain⟨zs,hz⟩:=c1.lst;have s2:=aO htl (.lst []);have ntc:tl≠cp:=aJ hz htl;have tl0:H tl=none:=x1.free ntc htl;refine⟨_,rfl,n,rfl,by omega,by omega,?_⟩;refine RP (n:=n.toNat) (fun i σ H'=>au cp H H'/\cZ K H' cp bU ns (b+1+10*(i:Int))/\iz K H' tl (rows tt n i) (fun _=>True)/\∃a4 a5,σ=[some (.ref cp),some (.int n),some (.int o),some (.ref tl),a4,a5])
  ⟨x1.trans (s2.x _),(c1.same s2).mono (by omega),iz.nil aF,_,_,rfl⟩ (fun i σ H' hi p=> ?_) (fun σ H' p=> ?_)
 ·obtain⟨x,c,tl1,a4,a5,rfl⟩:=p;refine⟨_,rfl,_,_,rfl,rfl,_,rfl,_,_,rfl,⟨by omega,by omega,by omega,by omega⟩,?_⟩;refine RP (n:=(n-(0+(i:Int)+1)).toNat) (fun k σ H'=>au cp H H'/\cZ K H' cp bU ns (b+1+10*(i:Int)+(k:Int))/\iz K H' tl (rows tt n i++row tt (0+(i:Int)) k) (fun _=>True)/\∃a5,σ=[some (.ref cp),some (.int n),some (.int o),some (.ref tl),some (.int (0+(i:Int))),a5])
   ⟨x,c.mono (by omega),by rw[show row tt (0+(i:Int)) 0=[]from rfl,Cr];exact tl1,_,rfl⟩ (fun k σ H' hk p=> ?_) (fun σ H' p=> ?_)
  ·obtain⟨x,c,tl1,a5,rfl⟩:=p;refine⟨_,rfl,cp,bU,ns,6,_,rfl,c,by omega,by decide,by decide,fun d H2 hd0 hd1 x2 c2=>⟨_,rfl,_,_,rfl,rfl,_,rfl,?_⟩⟩;obtain⟨zs,hz⟩:=c.lst;have tl2:=tl1.step x2 hz ntc;have er:rows tt n i++row tt (0+(i:Int)) (k+1)=(rows tt n i++row tt (0+(i:Int)) k)++[(0+(i:Int),0+(i:Int)+1+(k:Int))]:=by rw[zV,aD (show tt _ _=true from rfl),wdk]
   have ec:b+1+10*(i:Int)+((k+1:Nat):Int)=b+1+10*(i:Int)+(k:Int)+1:=by omega
   rw[er,ec];refine ite2 (fun cc=> ?_) (fun cc=> ?_)
   ·obtain⟨rs,ts,h1,h2,h3,h4⟩:=tl2;have hl:=sub_len hn1 (by omega) h3;have hrl:=h2.len;rw[aL]at hrl;refine⟨_,rfl,.inl ⟨rfl,_,SqL.of h1⟩,_,rfl,_,rfl,(by show 2<=sizeLine;decide),fun p hp=> ?_⟩;have s3:=aO hp (.tup [.int (0+(i:Int)),.int (0+(i:Int)+1+(k:Int))]);refine⟨tl,rs,_,rfl,rfl,s3 _ _ h1,(by rw[gU];omega),?_⟩;have xw:au tl (upd H2 p (.tup [.int (0+(i:Int)),.int (0+(i:Int)+1+(k:Int))])) (upd (upd H2 p (.tup [.int (0+(i:Int)),.int (0+(i:Int)+1+(k:Int))])) tl (.lst (rs++[.ref p]))):=(au.refl _ _).upd;refine⟨fun q o hq e=> ?_,(c2.same s3).other xw (s3 _ _ h1) ntc.symm,iz.push (s3 _ _ h1) (h2.same s3) h3 h4 (SqT.of aF) trivial,_,rfl⟩;have nq:q≠tl:=fun z=>by rw[z,tl0]at e;cases e
    exact xw _ _ nq (s3 _ _ (x2 _ _ hq (x _ _ hq e)))
   ·exact⟨x.trans x2,c2,tl2.mono (wdp _ _),_,rfl⟩
  ·obtain⟨x,c,tl1,a5,rfl⟩:=p;rw[<-mV]at tl1;exact⟨x,c.mono (by omega),tl1,_,_,rfl⟩
 ·obtain⟨x,c,⟨rs,ts,h1,h2,h3,h4⟩,a4,a5,rfl⟩:=p;refine⟨_,rfl,_,rfl,tl,rs,rfl,.inl ⟨SqL.of h1,fun t ht=>⟨(by show 2<=sizeLine;decide),fun wb Av=> ?_⟩⟩⟩;have s3:=aO ht (.tup rs);have s4:=aO Av (.tup [.int n,.ref t]);have s34:=s3.trans s4;obtain⟨g1,g2⟩:=Cw hn0 hn1 h3;exact q wb ts _ (x.trans (s34.x _)) ((c.same s34).mono (by omega)) ⟨⟨t,rs,SqT.of aF,SqT.of (s4 _ _ aF),h2.same s34⟩,hn0,hn1,g1,g2⟩
noncomputable def KQ(K:W.Frag):Sp:=fun vs H Q _=>∃(cp bU:Addr) (ns:List Int) (m b:Int),vs=[.ref cp,.int m]/\cZ K H cp bU ns b/\b<=800000000/\0<=m/\m<=10/\
 ∀r n ts H',au cp H H'->cZ K H' cp bU ns (b+121)->aQ K H' r n ts->Q (.ref r) H'
theorem QW{f f1 f2:Addr}{fd d1 d2:ρ}(F:Fun K "_law_e_web" "_law_e_web" lF f fd)(D1:bL K mg "_law_e_dip" W6 ["cup","many"] f1 d1)(G1:FnOk P w K mg base CX0 2 f1 d1 ["cup","many"] (zK K))(D2:bL K mg "_law_e_web_of" fY ["cup","n"] f2 d2)(G2:FnOk P w K mg base CX0 3 f2 d2 ["cup","n"] (Gh K)):
  FnOk P w K mg base CX0 4 f fd ["cup","most"] (KQ K):=by
 refine F.cH ["cup","most","n"] fun cdv A outer s H vs Q E hr h=> ?_;obtain⟨cp,bU,ns,m,b,rfl,hC,hb,hm0,hm1,q⟩:=h;refine⟨_,(aP (pS 2 (pc G1 hr D1 (aj (pv 0) (aj (bC oX (pv 1) aB) ak)))) (aV (bK (pc G2 hr D2 (aj (pv 0) (aj (pv 2) ak)))))),?_⟩;refine⟨_,rfl,_,rfl,_,_,rfl,rfl,cp,bU,ns,_,b,rfl,hC,by omega,by omega,by omega,fun o H1 V7 ho1 x1 c1=> ?_⟩;refine⟨_,rfl,_,rfl,cp,bU,ns,o,b+1,rfl,c1,by omega,V7,by omega,fun r ts H2 x2 c2 W=>q r o ts H2 (x1.trans x2) (c2.mono (by omega)) W⟩
end
theorem zU{so:Int->Int->Bool}{m:Int}{i:Nat}:(rows tt m i).filter (fun p=>so p.1 p.2)=rows so m i:=by
 refine eq_of_sorted ((TY _ _ _).filter _) (TY _ _ _) fun p=> ?_;rw[fL,dO,dO];constructor
 ·rintro⟨⟨a,b,c,d,_⟩,e⟩;exact⟨a,b,c,d,e⟩
 ·rintro⟨a,b,c,d,e⟩;exact⟨⟨a,b,c,d,rfl⟩,e⟩
section
variable{P:ξ}{w:τ}{K:W.Frag}{mg:L4}{base:Heap}
structure aan(K:W.Frag)(H:Hp)(l:Addr)(ps:L0):Prop where
 ex:∃rs,H l=some (.lst rs)/\cQ K H rs (ps.map pairD)
noncomputable def K4(K:W.Frag):Sp:=fun vs H Q _=>∃(n:Int),vs=[.int n]/\0<=n/\n<=10/\∀l H',Same H H'->aan K H' l (rows tt n n.toNat)->Q (.ref l) H'
theorem Q7{f:Addr}{fd:ρ}(F:Fun K "pairs" "pairs" xJ f fd)(mR:mg "range"=none):FnOk P w K mg base CX0 1 f fd ["n"] (K4 K):=by
 refine F.cH ["n","found","one"] fun cdv A outer s H vs Q E hr h=> ?_;obtain⟨n,rfl,hn0,hn1,q⟩:=h;refine bf ?_;intro Y;refine⟨_,aP (pS 1 (pe_lst ak)) (aP (ps_for yW rfl (JM rfl mR (aj (pv 0) ak)) (pG 2) (aV (oO (pe_bm Qh PySem.F.slot_list_extend PySem.F.type_list_extend mt_extend (pv 1) (aj
    (pK ["other"] ["one"] [2] (pi_range2 rfl mR (aj (bC oX (pv 2) aB) (aj (pv 0) ak))) (pG 0) oR (fU (aj (pv 1) (aj (pv 0) ak)))) ak))))) (aV (bK (pv 1)))),?_⟩
 refine iw ?_;intro c3 c2;refine⟨(by show 0<=sizeLine;decide),fun l hl=> ?_⟩;refine⟨_,rfl,n,rfl,by omega,by omega,?_⟩;let gR:Nat->St->Hp->Prop:=fun i σ H'=>Same H H'/\(∃rs,H' l=some (.lst rs)/\cQ K H' rs ((rows tt n i).map pairD))/\∃o,σ=[some (.int n),some (.ref l),o];refine RP (n:=n.toNat) gR ⟨aO hl _,⟨[],aF,.nil⟩,_,rfl⟩ (fun i σ H' hi p=> ?_) (fun σ H' p=> ?_)
 ·obtain⟨sm,⟨rs,hr1,hr2⟩,o,rfl⟩:=p;have hlen:=hr2.len;rw[aL]at hlen;have Zw:=pairs_len (Gy (so:=tt) (m:=n) (i:=i)) hn1;refine⟨_,rfl,.inl ⟨rfl,_,SqL.of hr1⟩,_,rfl,_,_,rfl,rfl,_,rfl,_,_,rfl,⟨by omega,by omega,by omega,by omega⟩,?_⟩;let qj:Nat->List V->St->Hp->Prop:=fun k acc σ H2=>Same H' H2/\acc.length=k/\cQ K H2 acc ((row tt (0+(i:Int)) k).map pairD)/\∃o1,σ=[o1,some (.int (0+(i:Int)))];refine RQ (n:=(n-(0+(i:Int)+1)).toNat) qj ⟨Same.refl _,rfl,.nil,_,rfl⟩ (fun k acc σ H2 hk p=>by rw[p.2.1];exact aY _) (by rw[gU];omega) (fun k acc σ H2 hk p=> ?_) (fun acc σ H2 p=> ?_)
  ·obtain⟨s2,hl2,hd,o1,rfl⟩:=p;refine⟨_,rfl,_,rfl,(by show 2<=sizeLine;decide),fun p hp=> ?_⟩;have s3:=aO hp (.tup [.int (0+(i:Int)),.int (0+(i:Int)+1+(k:Int))]);refine⟨s2.trans s3,by rw[qz,hl2];rfl,?_,_,rfl⟩;rw[zV,bV,aD (show tt (0+(i:Int)) (0+(i:Int)+1+(k:Int))=true from rfl)];exact(hd.same s3).append (.cons (.tup (SqT.of aF) (.cons (.int _) (.cons (.int _) .nil))) .nil)
  ·intro p1 hp1;obtain⟨s2,hl2,hd,_⟩:=p;have s3:=aO hp1 (.lst acc);have Xv:=s3 _ _ (s2 _ _ hr1);refine⟨l,p1,rs,acc,rfl,rfl,Xv,aF,?_,?_⟩
   ·rw[gU];omega
   ·have x4:au l (upd H2 p1 (.lst acc)) (upd (upd H2 p1 (.lst acc)) l (.lst (rs++acc))):=(au.refl _ _).upd;refine⟨?_,⟨_,aF,?_⟩,_,rfl⟩
    ·intro b o hb;have nb:b≠l:=fun e=>by rw[e,hl]at hb;cases hb
     exact x4 _ _ nb (s3 _ _ (s2 _ _ (sm _ _ hb)))
    ·rw[mV];exact g8 x4 Xv (by rw[bV];exact((hr2.same s2).same s3).append (hd.same s3))
 ·obtain⟨sm,⟨rs,hr1,hr2⟩,o,rfl⟩:=p;exact⟨_,rfl,q l _ sm ⟨rs,hr1,hr2⟩⟩
theorem Bg{so:Int×Int->Bool}{ps:L0}{i:Nat}(hi:i<ps.length):(ps.take (i+1)).filter so=(ps.take i).filter so++(if so ps[i]=true then[ps[i]]else[]):=by
 rw[vm,dG hi,FN];congr 1;show List.filter so [ps[i]]=_;rw[FJ];rfl
end
theorem jr.gQ{n:Int}{xs:List Int}(h:jr n xs):oV.gQ n (.tuple (xs.map PyData.int))=true:=by
 unfold oV.gQ;rw[kj];refine⟨?_,?_⟩
 ·rw[yes,kh];intro x hx;have:=h.lt x hx;show(decide (0<=x)&&decide (x<n))=true;rw[cW this.1,cW this.2];rfl
 ·rw[wg];have e:xs.map (intD∘PyData.int)=xs:=(Ud fun x _=>rfl).trans (List.map_id xs);rw[e];unfold dI;rw[kh];intro k hk;rw[jz]at hk;have h2:=Ui.mp h.wZ k (k+1) (by omega) (by omega) (by omega);have g:∀j,(hj:j<xs.length)->xs.getD j 0=xs[j]:=fun j hj=>by rw[lq,dG hj];rfl
  rw[g k (by omega),g (k+1) (by omega)];exact cW h2
noncomputable def UL(xs:List Int)(ts:L0)(i j:Int):Bool:=bQ ts (xs.getD i.toNat 0) (xs.getD j.toNat 0)
section
variable{P:ξ}{w:τ}{K:W.Frag}{mg:L4}{base:Heap}
noncomputable def S6(K:W.Frag):Sp:=fun vs H Q _=>∃(a sm:Addr) (n:Int) (ts:L0) (xs:List Int),vs=[.ref a,.ref sm]/\aQ K H a n ts/\SqT K H sm (xs.map V.int)/\jr n xs/\
 ∀r H',Same H H'->rZ K H' r (xs.length:Int) (rows (UL xs ts) (xs.length:Int) (xs.length:Int).toNat)->Q (.ref r) H'
theorem Vq{f f1 f2 f3 f4:Addr}{fd d1 d2 d3 d4:ρ}(F:Fun K "cut_down" "cut_down" nY f fd)(D1:bL K mg "need_web" TX ["thing"] f1 d1)(G1:FnOk P w K mg base CX0 7 f1 d1 ["thing"] (fM K))(D2:bL K mg "need_set" jG ["web","thing"] f2 d2)(G2:FnOk P w K mg base CX0 5 f2 d2 ["web","thing"] (mO K))(D3:bL K mg "pairs" xJ ["n"] f3 d3)(G3:FnOk P w K mg base CX0 1 f3 d3 ["n"] (K4 K))(D4:bL K mg "has_tie" fO ["web","one","other"] f4 d4)(G4:FnOk P w K mg base CX0 1 f4 d4 ["web","one","other"] (rE K))(mT:mg "tuple"=none)(mL:mg "len"=none):
  FnOk P w K mg base CX0 8 f fd ["web","some"] (S6 K):=by
 refine F.cH ["web","some","kept"] fun cdv A outer s H vs Q E hr h=> ?_;obtain⟨a,sm,n,ts,xs,rfl,hA,hX,hok,q⟩:=h;refine⟨_,aP (oO (pc G1 hr D1 (aj (pv 0) ak))) (aP (oO (pc G2 hr D2 (aj (pv 0) (aj (pv 1) ak)))) (aP (pX 2 ["i","j"] ["web","some"] [0,1] (sO (pc G3 hr D3 (aj (pB vq mL (aj (pv 1) ak)) ak))) (dJ K (n:=2) rfl (oU (pG 0) (oU (pG 1) Ci))) (Ck (j9 (pc G4 hr D4 (aj (pv 2) (aj (aR (Cg K) (pv 3) (pv 0)) (aj (aR (Cg K) (pv 3) (pv 1)) ak)))))) (fU (aj (pv 0) (aj (pv 1) ak)))) (aV (bK (fU (aj (pB vq mL (aj (pv 1) ak)) (aj (pT JN mT (aj (pv 2) ak)) ak))))))),?_⟩;have hA1:=hA.h1;have h10:=hok.len hA1;refine⟨_,rfl,_,_,rfl,hA.web.dv.dx,hA.ok,fun H1 s1=> ?_⟩;obtain⟨ta,ra,a1,a2,a3⟩:=id (hA.same s1).web;have hDX:DX K H1 (.ref sm) (.tuple (xs.map PyData.int)):=(DV.tup (s1.tup hX) (cQ.ints xs)).dx;refine⟨_,rfl,_,rfl,a,n,_,_,_,rfl,a1,hDX,hok.gQ,fun H2 s2=> ?_⟩;have s12:=s1.trans s2;refine⟨_,rfl,sm,_,rfl,.inr (s12.tup hX),fun _=>⟨_,rfl,by omega,by rw[aL];omega,fun l H3 s3 p1=> ?_⟩⟩;rw[aL]at p1;obtain⟨rs,e1,v1⟩:=p1.ex;refine⟨l,rs,rfl,SqL.of e1,fun hz=> ?_⟩;have hlen:=v1.len;rw[aL]at hlen;have qC:=s12.trans s3;generalize hR:rows tt (xs.length:Int) (xs.length:Int).toNat=R at *;have hR':∀p∈R,0<=p.1/\p.1<p.2/\p.2<(xs.length:Int):=fun p hp=>by rw[<-hR,dO]at hp;exact⟨hp.1,hp.2.2.1,hp.2.2.2.1⟩
 refine yQ (xs:=rs) (fun i acc σ H'=>Same H3 H'/\acc.length<=i/\cQ K H' acc ((R.take i).filter (fun p=>UL xs ts p.1 p.2)|>.map pairD)/\∃o1 o2,σ=[o1,o2,some (.ref a),some (.ref sm)]) ⟨Same.refl _,aY _,.nil,_,_,rfl⟩ (fun i acc σ H' _ p=>p.1.seq (SqL.of e1)) (fun i acc σ H' hi p=>p.2.1) hz (fun i x acc σ H' hx p=> ?_) (fun acc σ H' p=> ?_)
 ·obtain⟨sm',hl,hd,o1,o2,rfl⟩:=p;obtain⟨t,hi,rfl,ht⟩:=GJ v1 hx;have sA:=qC.trans sm';have hb:=hR' _ (zx hi);refine⟨t,_,rfl,sm'.tup ht,rfl,_,_,rfl,_,_,rfl,rfl,?_⟩;refine⟨_,rfl,_,rfl,_,rfl,sm,_,_,_,rfl,rfl,sA.tup hX,Ow hb.1 (by omega),_,rfl,_,rfl,sm,_,_,_,rfl,rfl,sA.tup hX,Ow (by omega) hb.2.2,?_⟩;refine⟨a,n,_,_,ts,rfl,(hA.same sA).web,fun H5 s5=>⟨_,rfl,?_⟩⟩;rw[Bg hi];refine ite2 (fun c=> ?_) (fun c=> ?_)
  ·refine⟨_,rfl,_,rfl,(by show 2<=sizeLine;decide),fun p hp=> ?_⟩;have s6:=aO hp (.tup [.int (R[i]).1,.int (R[i]).2]);refine⟨sm'.trans (s5.trans s6),by rw[qz];show acc.length+1<=i+1;omega,?_,_,_,rfl⟩;rw[aD (show UL xs ts _ _=true from c),bV];exact(hd.same (s5.trans s6)).append (.cons (.tup (SqT.of aF) (.cons (.int _) (.cons (.int _) .nil))) .nil)
  ·refine⟨sm'.trans s5,by omega,?_,_,_,rfl⟩;rw[aA (show¬UL xs ts _ _=true from c),Cr];exact hd.same s5
 ·intro p1 hp1;obtain⟨sm',hl,hd,_⟩:=p;rw[hlen,rQ,<-hR,zU]at hd;have s5:=aO hp1 (.lst acc);have sA:=qC.trans (sm'.trans s5);refine⟨_,rfl,sm,_,rfl,.inr (sA.tup hX),fun _=>⟨_,rfl,p1,_,rfl,.inl ⟨SqL.of aF,fun t ht=> ?_⟩⟩⟩;have s6:=aO ht (.tup acc);refine⟨(by show 2<=sizeLine;decide),fun r hr'=> ?_⟩;rw[aL];have s7:=aO hr' (.tup [.int (xs.length:Int),.ref t]);exact q r _ (sA.trans (s6.trans s7)) ⟨t,acc,SqT.of aF,SqT.of (s7 _ _ aF),hd.same (s5.trans (s6.trans s7))⟩
end
noncomputable def vp(n:Nat):List Int:=(List.range n).map fun(t:Nat)=>(t:Int)
theorem Hj{n:Nat}{x:Int}:x∈vp n↔0<=x/\x<(n:Int):=by
 unfold vp;rw[jC];constructor
 ·rintro⟨t,ht,rfl⟩;have:=jz.mp ht;omega
 ·intro h;exact⟨x.toNat,jz.mpr (by omega),by omega⟩
noncomputable def cX(n:Nat):List Int:=List.replicate n 1
section
variable{P:ξ}{w:τ}{K:W.Frag}{mg:L4}{base:Heap}
noncomputable def qI(K:W.Frag):Sp:=fun vs H Q _=>∃(n:Int),vs=[.int n]/\n<=10/\Q .non H
theorem Dq{f:Addr}{fd:ρ}{tk:Tok}(F:Fun K "need_few" "need_few" nT f fd)(mM:mg "MOST_PLACES"=some (.int 10 tk)):FnOk P w K mg base CX0 1 f fd ["n"] (qI K):=by
 refine F.cH ["n"] fun cdv A outer s H vs Q E hr h=> ?_;obtain⟨n,rfl,hn,q⟩:=h;refine⟨_,aV (fQ (dR op_gt (pv 0) (pe_glob rfl mM (v:= .int 10) ⟨_,rfl⟩)) Ph gO),?_⟩;refine⟨_,rfl,_,_,rfl,rfl,_,rfl,?_⟩;rw[fW (show¬(10:Int)<n by omega)];exact iteF q
end
noncomputable def sh(b:Int)(p:Int×Int):Int×Int:=(p.1+b,p.2+b)
section
variable{P:ξ}{w:τ}{K:W.Frag}{mg:L4}{base:Heap}
noncomputable def Gk(K:W.Frag):Sp:=fun vs H Q _=>∃(a:Addr) (n b:Int) (ts:L0),vs=[.ref a,.int b]/\rZ K H a n ts/\∀l H',Same H H'->aan K H' l (ts.map (sh b))->H l=none->Q (.ref l) H'
theorem Mi{f:Addr}{fd:ρ}(F:Fun K "moved_ties" "moved_ties" jJ f fd):FnOk P w K mg base CX0 1 f fd ["web","by"] (Gk K):=by
 refine F.cH ["web","by"] fun cdv A outer s H vs Q E hr h=> ?_;obtain⟨a,n,b,ts,rfl,hW,q⟩:=h;refine⟨_,aV (bK (pK ["one","other"] ["by"] [1] (Cj (aR cI (pv 0) aB)) (dJ K (n:=2) rfl (oU (pG 0) (oU (pG 1) Ci))) oR (fU (aj (bC oX (pv 0) (pv 2)) (aj (bC oX (pv 1) (pv 2)) ak))))),?_⟩;obtain⟨t,rs,h1,h2,h3⟩:=hW;refine⟨_,rfl,a,_,_,.ref t,rfl,rfl,h1,rfl,t,rs,rfl,h2,fun hz=> ?_⟩;have hlen:=h3.len;rw[aL]at hlen;let gR:Nat->List V->St->Hp->Prop:=fun i acc σ H'=>Same H H'/\acc.length=i/\cQ K H' acc (((ts.take i).map (sh b)).map pairD)/\∃o1 o2,σ=[o1,o2,some (.int b)];refine Cm (xs:=rs) gR ⟨Same.refl _,rfl,.nil,_,_,rfl⟩ (fun i acc σ H' _ p=>p.1.tup h2) (fun i acc σ H' hi p=>by rw[p.2.1];exact aY _) hz (fun i x acc σ H' hx p=> ?_) (fun acc σ H' p=> ?_)
 ·obtain⟨sm,hl,hd,o1,o2,rfl⟩:=p;have hi:i<ts.length:=by rw[<-hlen];exact(nF.mp hx).1
  obtain⟨x',d,e1,e2,e3⟩:=cQ.get' (i:=i) h3 (by rw[aL];exact hi);rw[hx]at e1;cases e1;rw[dU,dG hi]at e2;cases e2;cases e3 with
  |tup hp tp=>
   cases tp with
   |cons ta tb=>
    cases tb with
    |cons tc td=>
     cases td;cases ta;cases tc;refine⟨_,_,rfl,sm.tup hp,rfl,_,_,rfl,_,_,rfl,rfl,?_⟩;refine⟨_,rfl,_,rfl,_,_,rfl,rfl,_,rfl,_,rfl,_,_,rfl,rfl,(by show 2<=sizeLine;decide),fun p hp'=> ?_⟩;have s2:=aO hp' (.tup [.int (ts[i].1+b),.int (ts[i].2+b)]);refine⟨sm.trans s2,by rw[qz,hl];rfl,?_,_,_,rfl⟩;rw[vm,dG hi];simp only[Option.toList_some,bV];refine(hd.same s2).append (.cons (.tup (SqT.of aF) (.cons (.int _) (.cons (.int _) .nil))) .nil)
 ·intro p1 hp1;obtain⟨sm,hl,hd,_⟩:=p;rw[hlen,rQ]at hd;have s2:=aO hp1 (.lst acc);exact q p1 _ (sm.trans s2) ⟨acc,aF,hd.same s2⟩ (sm.free hp1)
noncomputable def rD(K:W.Frag):Sp:=fun vs H Q _=>∃(a:Addr) (n i:Int) (t:V),vs=[.ref a,.int i]/\SqT K H a [.int n,t]/\0<=i/\i<n/\Q .non H
theorem xW{f f1:Addr}{fd d1:ρ}(F:Fun K "need_place" "need_place" jH f fd)(D1:bL K mg "is_place" jO ["n","thing"] f1 d1)(G1:FnOk P w K mg base CX0 2 f1 d1 ["n","thing"] (xq K)):FnOk P w K mg base CX0 3 f fd ["web","thing"] (rD K):=by
 refine F.cH ["web","thing"] fun cdv A outer s H vs Q E hr h=> ?_;obtain⟨a,n,i,t,rfl,hS,h0,h1,q⟩:=h;refine⟨_,aV (fQ (lC (j9 (pc G1 hr D1 (aj (aR cI (pv 0) aB) (aj (pv 1) ak))))) Ph gO),?_⟩;refine⟨_,rfl,a,_,_,.int n,rfl,rfl,hS,rfl,_,rfl,n,.int i,.int i,rfl,.int i,_,rfl,?_⟩;have e:bO n (.int i)=true:=by show(decide (0<=i)&&decide (i<n))=true;rw[cW h0,cW h1];rfl
 rw[e];exact iteF q
end
theorem Am{a:Int}{D:Nat}(hD:0<D):(aH a D).2∣D:=⟨Nat.gcd a.natAbs D,(Nat.div_mul_cancel (X6 _ _)).symm⟩
theorem uL{a:Int}{D:Nat}(hD:0<D):(aH a D).1*((D/(aH a D).2:Nat):Int)=a:=by
 have l:=yP a hD;have e:=l.eq;have hv:=l.pos;obtain⟨c,hc⟩:=Am (a:=a) hD;generalize (aH a D).1=u at *;generalize (aH a D).2=v at *;have:D/v=c:=by rw[hc];exact Pr _ hv
 rw[this];rw[hc]at e
 push_cast at e
 refine Yd (a:=(v:Int)) (by omega) ?_
 grind
theorem Rb{a:Int}{D:Nat}(hD:0<D)(ha:0<=a):0<=(aH a D).1:=(yP a hD).nn ha
theorem p7{a:Int}{D:Nat}(hD:0<D)(ha:0<=a):0<=(aH a D).1/\0<(aH a D).2/\(aH a D).2∣D:=⟨Rb hD ha,(yP a hD).pos,Am hD⟩
theorem yd{ss:List (List Int)}{D:Nat}{Y:Nat->Int}(hD:0<D)(hY:∀k,0<=Y k)(g:List Int->Bool):∀m,dW D (((((List.range m).filter fun k=>decide (0<Y k)).map fun k=>(ss.getD k [],aH (Y k) D)).filter fun q=>g q.1).map (·.2))=Sx.sm m fun k=>if g (ss.getD k [])=true then Y k else 0
 |0=>rfl
 |m+1=>by
  have ih:=yd (ss:=ss) hD hY g m;rw[yU,FN,bV,FN,bV,jW,ih];show _=Sx.sm m _+(if g (ss.getD m [])=true then Y m else 0);congr 1;by_cases hy:0<Y m
  ·rw[ydw (by simpa using hy)];by_cases hg:g (ss.getD m [])=true
   ·rw[List.filter_nil,yS,Yl,ydw (by exact hg),aD hg];exact(tE D _).trans (uL hD)
   ·rw[List.filter_nil,yS,Yl,ydx (by exact hg),aA hg];rfl
  ·rw[ydx (by simpa using hy)];have:Y m=0:=by have:=hY m;omega
   rw[this];show(0:Int)=_;split<;>rfl
theorem xM{D:Nat}{X:Nat->Int}(hD:0<D):∀xs:List Int,dW D (xs.map fun x=>aH (X x.toNat) D)=(xs.map fun x=>X x.toNat).sum
 |[]=>rfl
 |x::xs=>by
  show _*_+dW D (xs.map _)=_;rw[xM hD xs,uL hD];rfl
theorem Hi{n:Nat}{X:Nat->Int}:∀{xs:List Int},xs.Nodup->(∀x∈xs,0<=x/\x<(n:Int))->(xs.map fun x=>X x.toNat).sum=Sx.sm n fun p=>if decide (((p:Nat):Int)∈xs)=true then X p else 0
 |[],_,_=>(Sx.cO n fun i _=>by simp).symm
 |x::xs,nd,hb=>by
  obtain⟨nx,nd'⟩:=J2.mp nd;have hx:=hb x iW;have ih:=Hi (X:=X) nd' fun y hy=>hb y (iG _ hy);show X x.toNat+(xs.map fun x=>X x.toNat).sum=_;rw[ih];have e1:Sx.sm n (fun p=>if p=x.toNat then X p else 0)=X x.toNat:=by
   rw[Sx.cR (j:=x.toNat) n (by omega) fun i _ hi=>aA hi,aD rfl]
  rw[<-e1,<-Sx.iH];refine Sx.aW n fun p hp=> ?_;by_cases h:p=x.toNat
  ·have h1:((p:Nat):Int)=x:=by omega
   rw[aD h,aA (by rw[h1];simpa using nx),aD (by rw[h1];simp)];omega
  ·have h1:((p:Nat):Int)≠x:=by omega
   rw[aA h];have:decide (((p:Nat):Int)∈x::xs)=decide (((p:Nat):Int)∈xs):=by
    refine decide_eq_decide.mpr ⟨fun z=> ?_,iG _⟩;rcases dg.mp z with z|z
    ·exact absurd z h1
    ·exact z
   rw[this];omega
theorem wC{f g:Nat->Int}:∀k,(∀i,i<k->f i<=g i)->Sx.sm k f<=Sx.sm k g
 |0,_=>rP _
 |k+1,h=>wdh (wC k fun i hi=>h i (by omega)) (h k (by omega))
theorem FQ{wl:List Int}{D:Nat}{X:Nat->Int}(hD:0<D):∀n,dW D ((List.range n).map fun p=>(oZ wl p*(aH (X p) D).1,(aH (X p) D).2))=Sx.sm n fun p=>oZ wl p*X p
 |0=>rfl
 |n+1=>by
  rw[yU,bV,jW,FQ hD n];show _=Sx.sm n _+_;congr 1;rw[yS,Yl,tE];show oZ wl n*(aH (X n) D).1*_=_;rw[RW,uL hD]
theorem Bt{n:Nat}{ts:L0}{ss:List (List Int)}{wl:List Int}{ov:Nat}{Z:Int}{Y X:Nat->Int}(hS:bB ss ts false n)(h:Sh n ss wl ov Z Y X){xs:List Int}(hk:iV ts false n xs):
  dW ov (xs.map fun x=>aH (X x.toNat) ov)<=1*(ov:Int):=by
 have nd:xs.Nodup:=hk.up.imp fun h e=>by omega
 rw[xM h.pos,Hi nd hk.lt,zp];obtain⟨t,ht,hx⟩:=uO hk;obtain⟨k,hk',rfl⟩:=Ip (hS.1.mem_iff.mpr ht);refine T5 (wC n fun p hp=> ?_) (h.lig k hk');have hxn:=h.xn p;by_cases c:decide (((p:Nat):Int)∈xs)=true
 ·rw[aD c,aD]
  ·exact rP _
  ·unfold dZ;rw[lq,dG hk'];exact cW (hx _ (fJ c))
 ·rw[aA c];split
  ·exact hxn
  ·exact rP _
structure aam(n:Int)(ts:L0)(q:List Int×(Int×Nat)):Prop where
 up:q.1.Pairwise (· < ·)
 lt:∀x∈q.1,0<=x/\x<n
 no:ts.filter (inB q.1)=[]
 pos:0<q.2.1
 bot:0<q.2.2
 big:q.2.2<=39916800
 low:Nat.gcd q.2.1.natAbs q.2.2=1
structure aao(n:Int)(ts:L0)(l:List (List Int×(Int×Nat))):Prop where
 all:∀q∈l,aam n ts q
 rise:(l.map (·.1)).Pairwise fun p q=>HT.lexLt p q=true
 len:l.length<=36
theorem Q8{n:Int}{k:Nat}{ts:L0}(hp:aM n ts){s:List Int}(h:iV ts false k s):ts.filter (inB s)=[]:=by
 refine Xh.mpr fun p hp1 hc=> ?_;unfold inB at hc;rw[kj]at hc;have m1:=fJ hc.1;have m2:=fJ hc.2;have hlt:=hp.2 p hp1;have hz:=h.all p.1 m1 p.2 m2 (by omega);unfold bA at hz;rw[cW (show(p.1,p.2)∈ts from hp1)]at hz;cases hz
theorem DG{n:Nat}{ts:L0}{ss:List (List Int)}{wl:List Int}{ov:Nat}{Z:Int}{Y X:Nat->Int}(hp:aM (n:Int) ts)(hn:n<=10)(hS:bB ss ts false n)(h:Sh n ss wl ov Z Y X):aao (n:Int) ts (iu ss ov Y):=by
 have nd:ss.Nodup:=hS.1.nodup_iff.mpr ((jE n).filter _);have up:ss.Pairwise fun p q=>HT.lexLt p q=true:=(hS.2.and nd).imp fun⟨a,b⟩=>MN a b;have m36:=ud hS hn;refine⟨fun q hq=> ?_,?_,?_⟩
 ·obtain⟨k,hk,rfl⟩:=jC.mp hq;obtain⟨hk1,hk2⟩:=fL.mp hk;have hk3:=jz.mp hk1;have e:ss.getD k []=ss[k]:=by rw[lq,dG hk3];rfl
  have K1:=Gx hS (zx hk3);have hy:=fJ hk2;have l:=yP (Y k) h.pos;refine⟨by rw[e];exact K1.up,by rw[e];exact K1.lt,by rw[e];exact Q8 hp K1,(Al h.pos).mpr hy,l.pos,cV l.lv h.big,l.cop⟩
 ·unfold iu;rw[wg];have:((List.range ss.length).filter fun k=>decide (0<Y k)).Pairwise (· < ·):=Yc.filter _;refine Qc.mpr (this.imp_of_mem fun{a b} ha hb hab=> ?_);have hb3:=jz.mp (fL.mp hb).1;have e:∀k,(hk:k<ss.length)->ss.getD k []=ss[k]:=fun k hk=>by rw[lq,dG hk];rfl
  show HT.lexLt (ss.getD a []) (ss.getD b [])=true;rw[e a (by omega),e b hb3];exact Ui.mp up a b (by omega) hb3 hab
 ·unfold iu;rw[aL];exact cV (wk _ _) (by rw[vo];exact m36)
noncomputable def upto(n:Nat):List Int:=(List.range n).map fun(k:Nat)=>(k:Int)
theorem wW(n:Int):jr n (upto n.toNat):=by
 unfold upto;refine⟨?_,fun x hx=> ?_⟩
 ·rw[Qc];exact Yc.imp fun h=>by omega
 ·obtain⟨k,hk,rfl⟩:=jC.mp hx;rw[jz]at hk;omega
theorem jk{n:Nat}{ts:L0}{ss:List (List Int)}{wl:List Int}{ov:Nat}{Z:Int}{Y X:Nat->Int}(hS:bB ss ts false n)(h:Sh n ss wl ov Z Y X){xs:List Int}(hk:iV ts false n xs):
  (Sx.sm n fun p=>if decide (((p:Nat):Int)∈xs)=true then X p else 0)<=(ov:Int):=by
 obtain⟨t,ht,hx⟩:=uO hk;obtain⟨k,hk',rfl⟩:=Ip (hS.1.mem_iff.mpr ht);refine T5 (wC n fun p hp=> ?_) (h.lig k hk');have hxn:=h.xn p;by_cases c:decide (((p:Nat):Int)∈xs)=true
 ·rw[aD c,aD]
  ·exact rP _
  ·unfold dZ;rw[lq,dG hk'];exact cW (hx _ (fJ c))
 ·rw[aA c];split
  ·exact hxn
  ·exact rP _
theorem qG{n p:Nat}(hp:p<n):oZ (cX n) p=1:=by
 unfold oZ cX;rw[lq,List.getElem?_replicate_of_lt hp];rfl
theorem wd{n n':Nat}{ts:L0}{ss:List (List Int)}{wl:List Int}{ov:Nat}{Z:Int}{Y X:Nat->Int}(hS:bB ss ts false n)(h:Sh n ss wl ov Z Y X)(φ:Nat->Nat)(x:Nat->Int)(c:Int)(E:Nat->Bool)(hx:∀q,0<=x q)(hφ:∀q,q<n'->E q=true->φ q<n)(hc:∀s,iV ts false n s->(Sx.sm n' fun q=>if(E q&&decide (((φ q:Nat):Int)∈s))=true then x q else 0)<=c):(ov:Int)*(Sx.sm n' fun q=>if E q=true then oZ wl (φ q)*x q else 0)<=Z*c:=by
 rw[<-Sx.cT];have a2:(Sx.sm n' fun q=>(ov:Int)*(if E q=true then oZ wl (φ q)*x q else 0))<=Sx.sm n' fun q=>Sx.sm ss.length fun k=>Y k*(if(E q&&dZ ss k (φ q))=true then x q else 0):=by
  refine wC n' fun q hq=> ?_;by_cases e:E q=true
  ·rw[aD e];have:=J3 (h.eno (φ q) (hφ q hq e)) (hx q);rw[<-Sx.cT]at this;have e1:(Sx.sm ss.length fun k=>x q*(if dZ ss k (φ q)=true then Y k else 0))=Sx.sm ss.length fun k=>Y k*(if(E q&&dZ ss k (φ q))=true then x q else 0):=Sx.aW _ fun k _=>by
    rw[e,Bool.true_and];split<;>grind
   rw[<-e1];have e2:(ov:Int)*(oZ wl (φ q)*x q)=x q*((ov:Int)*oZ wl (φ q)):=by grind
   rw[e2];exact this
  ·rw[aA e,wQ];exact Sx.uf _ fun k _=>by
    rw[Bool.eq_false_iff.mpr e,wev,aA (by decide),wQ];exact rP _
 refine T5 a2 ?_;rw[Sx.xH (fun q k=>Y k*(if(E q&&dZ ss k (φ q))=true then x q else 0)) ss.length n'];have a4:(Sx.sm ss.length fun k=>Sx.sm n' fun q=>Y k*(if(E q&&dZ ss k (φ q))=true then x q else 0))<=Sx.sm ss.length fun k=>c*Y k:=by
  refine wC _ fun k hk=> ?_;rw[Sx.cT,zq c];refine J3 ?_ (h.yn k);exact hc (ss.getD k []) (Gx hS (by rw[lq,dG hk];exact zx hk))
 refine T5 a4 ?_;rw[Sx.cT,h.tot,zq];exact rP _
theorem Vx{n:Nat}{q:Nat}:((q:Nat):Int)∈upto n↔q<n:=by
 unfold upto;refine⟨fun h=> ?_,fun h=>jC.mpr ⟨q,jz.mpr h,rfl⟩⟩;obtain⟨k,hk,e⟩:=jC.mp h;have:=jz.mp hk;omega
theorem Yu{n n':Nat}{ts ts':L0}{ss ss':List (List Int)}{ov ov':Nat}{Z Z':Int}{Y X Y' X':Nat->Int}(e:Nat)(JV:∀i,bA ts i i=false)(hn:∀q,q<n'->q≠e->q<n)(hom:∀i j:Nat,i<n'->j<n'->i≠e->j≠e->bA ts' i j=true->bA ts i j=true)(hS:bB ss ts false n)(hS':bB ss' ts' false n')(h:Sh n ss (cX n) ov Z Y X)(h':Sh n' ss' (cX n') ov' Z' Y' X'):(ov:Int)*Z'<=Z*(ov':Int)+(if e<n' then(ov:Int)*(ov':Int)else 0):=by
 have k:=wd (n':=n') hS h (fun q=>q) X' (ov':Int) (fun q=>decide (q≠e)) h'.xn (fun q hq he=>hn q hq (fJ he)) (fun s hs=>by
  have sk:iV ts' false n' ((upto n').filter fun q=>decide (q≠(e:Int))&&decide (q∈s)):=by
   have mu:∀x∈((upto n').filter fun q=>decide (q≠(e:Int))&&decide (q∈s)),(0<=x/\x<(n':Int))/\x≠(e:Int)/\x∈s:=fun x hx=>by
    obtain⟨h1,h2⟩:=fL.mp hx;rw[kj]at h2;exact⟨(wW (n':Int)).lt x h1,fJ h2.1,fJ h2.2⟩
   refine⟨(wW (n':Int)).wZ.filter _,fun x hx=>(mu x hx).1,fun x hx y hy hne=> ?_⟩;obtain⟨⟨x0,x1⟩,x2,x3⟩:=mu x hx;obtain⟨⟨y0,y1⟩,y2,y3⟩:=mu y hy;cases c:bA ts' x y with
   |false=>rfl
   |true=>
    have:=hom x.toNat y.toNat (by omega) (by omega) (by omega) (by omega) (by rw[R3 x0,R3 y0];exact c);rw[R3 x0,R3 y0]at this;have a:=hs.all x x3 y y3 hne;rw[this]at a;cases a
  refine T5 (W9 (Sx.aW n' fun q hq=> ?_)) (jk hS' h' sk);have:(decide (q≠e)&&decide (((q:Nat):Int)∈s))=decide (((q:Nat):Int)∈(upto n').filter fun q=>decide (q≠(e:Int))&&decide (q∈s)):=by
   rw[vC,Gb,fL,kj,kj,Gb,Gb,Gb];exact⟨fun z=>⟨Vx.mpr hq,by omega,z.2⟩,fun z=>⟨by omega,z.2.2⟩⟩
  rw[this])
 have z:Z'=(Sx.sm n' fun q=>if decide (q≠e)=true then oZ (cX n) q*X' q else 0)+(if e<n' then X' e else 0):=by
  have t:(Sx.sm n' fun q=>if q=e then X' q else 0)=if e<n' then X' e else 0:=by
   by_cases c:e<n'
   ·rw[aD c,Sx.cR (j:=e) n' c fun i _ hi=>aA hi,aD rfl]
   ·rw[aA c];exact Sx.cO n' fun i hi=>aA (by omega)
  rw[<-t,<-Sx.iH,<-h'.Ye];refine Sx.aW n' fun q hq=> ?_;rw[qG hq,zp];by_cases c:q=e
  ·rw[aA (by simpa using c),aD c];omega
  ·rw[aD (by simpa using c),aA c,qG (hn q hq c)];omega
 have le:(if e<n' then X' e else 0)<=if e<n' then(ov':Int)else 0:=by
  by_cases c:e<n'
  ·rw[aD c,aD c];have sk:iV ts' false n' [(e:Int)]:=⟨Pu _ _,fun x hx=>by rw[iD.mp hx];omega,fun x hx y hy hn=>absurd ((iD.mp hx).trans (iD.mp hy).symm) hn⟩;have:=jk hS' h' sk;rw[Sx.cR (j:=e) n' c fun i _ hi=>aA (by simp;omega),aD (by simp)]at this;exact this
  ·rw[aA c,aA c];exact rP _
 rw[z,Int.mul_add];have le2:=J3 le (Xe ov);have e3:(ov:Int)*(if e<n' then(ov':Int)else 0)=if e<n' then(ov:Int)*(ov':Int)else 0:=by split<;>grind
 rw[e3]at le2;exact wdh k le2
theorem Ra{Z Z' c:Int}{ov ov':Nat}(p:0<ov)(p':0<ov')(k:(ov:Int)*Z'<=Z*(ov':Int)+c*((ov:Int)*(ov':Int))):(aH Z' ov').1*((aH Z ov).2:Int)<=((aH Z ov).1+c*((aH Z ov).2:Int))*((aH Z' ov').2:Int):=by
 have l:=yP Z p;have l':=yP Z' p';have e1:=l.eq;have e2:=l'.eq;have v1:=l.pos;have v2:=l'.pos;generalize (aH Z ov).1=u at *;generalize (aH Z ov).2=v at *;generalize (aH Z' ov').1=u' at *;generalize (aH Z' ov').2=v' at *;refine Xi (a:=(ov:Int)*(ov':Int)) ?_ (T3 (by omega) (by omega));have x1:u'*(v:Int)*((ov:Int)*(ov':Int))=(u'*(ov':Int))*((v:Int)*(ov:Int)):=by grind
 have x2:(u+c*(v:Int))*(v':Int)*((ov:Int)*(ov':Int))=(u*(ov:Int))*((v':Int)*(ov':Int))+c*((ov:Int)*(ov':Int))*((v:Int)*(v':Int)):=by grind
 rw[x1,x2,e1,e2];have x3:Z'*(v':Int)*((v:Int)*(ov:Int))=((ov:Int)*Z')*((v:Int)*(v':Int)):=by grind
 have x4:Z*(v:Int)*((v':Int)*(ov':Int))+c*((ov:Int)*(ov':Int))*((v:Int)*(v':Int))=(Z*(ov':Int)+c*((ov:Int)*(ov':Int)))*((v:Int)*(v':Int)):=by grind
 rw[x3,x4];exact Uj k (Cq (by omega) (by omega))
noncomputable def gD(n:Int)(ts:L0)(f:Int×Nat):Prop:=∃(ss:List (List Int)) (ov:Nat) (Z:Int) (Y X:Nat->Int),bB ss ts false n.toNat/\Sh n.toNat ss (cX n.toNat) ov Z Y X/\f=aH Z ov
theorem gD.cmp{n n':Int}{ts ts':L0}{f f':Int×Nat}(h:gD n ts f)(h':gD n' ts' f')(e:Nat)(c:Int)(hc:if e<n'.toNat then c=1 else c=0)(JV:∀i,bA ts i i=false)(hn:∀q,q<n'.toNat->q≠e->q<n.toNat)(hom:∀i j:Nat,i<n'.toNat->j<n'.toNat->i≠e->j≠e->bA ts' i j=true->bA ts i j=true):f'.1*(f.2:Int)<=(f.1+c*(f.2:Int))*(f'.2:Int):=by
 obtain⟨ss,ov,Z,Y,X,a,b,rfl⟩:=h;obtain⟨ss',ov',Z',Y',X',a',b',rfl⟩:=h';refine Ra b.pos b'.pos ?_;have k:=Yu e JV hn hom a a' b b';by_cases z:e<n'.toNat
 ·rw[aD z]at k hc;rw[hc,zp];exact k
 ·rw[aA z]at k hc;rw[hc,Fx];exact k
theorem Qe{n:Int}{ts:L0}(h:aM n ts)(i:Int):bA ts i i=false:=by
 unfold bA;have:¬(i,i)∈ts:=fun z=>by have:=(h.lt _ z).2.1;omega
 rw[fW this];rfl
end Hs
namespace oV
open PySem L2
theorem aM.perm{n:Int}{ps qs:L0}(h:aM n ps)(e:qs.Perm ps):aM n qs:=⟨e.nodup_iff.mpr h.nd,fun p hp=>h.lt p (e.mem_iff.mp hp)⟩
theorem ji{K:W.Frag}{H:Hp}{rs:List V}{ps:L0}(h:cQ K H rs (ps.map pairD)):∃its:List (Addr×(Int×Int)),rs=its.map (fun p=>V.ref p.1)/\its.map (·.2)=ps/\∀p∈its,SqT K H p.1 ((pl p.2).map V.int):=by
 induction ps generalizing rs with
 |nil=>cases h;exact⟨[],rfl,rfl,fun p h=>(nomatch h)⟩
 |cons p ps ih=>
  cases h with
  |cons h tl=>
   obtain⟨its,e1,e2,e3⟩:=ih tl;cases h with
   | @tup a _ _ h hd=>
    cases hd with
    |cons a1 t1=>
     cases a1;cases t1 with
     |cons a2 t2=>
      cases a2;cases t2;refine⟨(a,p)::its,by rw[e1];rfl,by rw[<-e2];rfl,fun q hq=> ?_⟩;rcases dg.mp hq with e|e
      ·rw[e];exact h
      ·exact e3 q e
theorem jd{K:W.Frag}{H:Hp}:∀(its:List (Addr×(Int×Int))),(∀p∈its,SqT K H p.1 ((pl p.2).map V.int))->cQ K H (its.map fun p=>V.ref p.1) ((its.map (·.2)).map pairD)
 |[],_=> .nil
 |p::its,h=> .cons (.tup (h p iW) (.cons (.int _) (.cons (.int _) .nil))) (jd its fun q hq=>h q (iG _ hq))
end oV
namespace Hs
open PySem L2 oV
section
variable{P:ξ}{w:τ}{K:W.Frag}{mg:L4}{base:Heap}
noncomputable def TK(K:W.Frag)(H H':Hp):Prop:=∀a xs,SqT K H a xs->SqT K H' a xs
theorem _root_.L2.Same.tk{H H':Hp}(e:Same H H'):TK K H H':=fun _ _ h=>e.tup h
theorem _root_.L2.au.tk{H H':Hp}{c:Addr}{zs:List V}(e:au c H H')(hc:H c=some (.lst zs)):TK K H H':=fun _ _ h=>e.tup hc h
theorem _root_.L2.au.JR{H H':Hp}{o C dx:Addr}{fs:List (Str×V)}(e:au o H H')(hO:H o=some (.ins C dx fs)):TK K H H':=fun a xs h=>by
 rcases h with(h|⟨ob,h⟩)|h
 ·exact .inl (.inl (e _ _ (fun z=>by rw[z,hO]at h;cases h) h))
 ·exact .inl (.inr ⟨ob,e _ _ (fun z=>by rw[z,hO]at h;cases h) h⟩)
 ·exact .inr h
theorem LC{H H':Hp}(e:TK K H H'){rs:List V}{ps:L0}(h:cQ K H rs (ps.map pairD)):cQ K H' rs (ps.map pairD):=by
 induction ps generalizing rs with
 |nil=>cases h;exact .nil
 |cons p ps ih=>
  cases h with
  |cons h tl=>
   refine .cons ?_ (ih tl);cases h with
   |tup h hd=>
    cases hd with
    |cons a1 t1=>
     cases a1;cases t1 with
     |cons a2 t2=>
      cases a2;cases t2;exact .tup (e _ _ h) (.cons (.int _) (.cons (.int _) .nil))
theorem aQ.tk{H H':Hp}{a:Addr}{n:Int}{ts:L0}(h:aQ K H a n ts)(e:TK K H H'):aQ K H' a n ts:=by
 obtain⟨⟨t,rs,h1,h2,h3⟩,h4,h5,h6,h7⟩:=h;exact⟨⟨t,rs,e _ _ h1,e _ _ h2,LC e h3⟩,h4,h5,h6,h7⟩
theorem dD.tk{H H':Hp}{vs:List V}{l:List (List Int×(Int×Nat))}(h:dD K H vs l)(e:TK K H H'):dD K H' vs l:=Paired.mapP h fun _ _ ⟨t,sa,fa,e0,h1,h2,h3⟩=>⟨t,sa,fa,e0,e _ _ h1,e _ _ h2,e _ _ h3⟩
theorem dX.tk{H H':Hp}{vs:List V}{l:List (Int×Nat)}(h:dX K H vs l)(e:TK K H H'):dX K H' vs l:=Paired.mapP h fun _ _ ⟨a,e0,z⟩=>⟨a,e0,e _ _ z⟩
noncomputable def Lw(f:Int×Nat):Prop:=0<f.2/\f.2<=39916800/\Nat.gcd f.1.natAbs f.2=1
structure Sd where
 n:Int
 ts:L0
 t:Int
 l:List (List Int×(Int×Nat))
 D:Nat
 f:Int×Nat
 ps:List (Int×Nat)
 la:Addr
 pa:Addr
noncomputable def zO(la t wb va pa:V):List (Str×V):=[("kept_laying",la),("times_anew",t),("kept_web",wb),("kept_value",va),("kept_prices",pa)]
structure RL(K:W.Frag)(C:Addr)(H:Hp)(o dx wb va:Addr)(lr pr:List V)(S:Sd):Prop where
 at_:H o=some (.ins C dx (zO (.ref S.la) (.int S.t) (.ref wb) (.ref va) (.ref S.pa)))
 web:aQ K H wb S.n S.ts
 val:qF K H va S.f
 lay:H S.la=some (.lst lr)
 lv:dD K H lr S.l
 U7:H S.pa=some (.lst pr)
 pv:dX K H pr S.ps
noncomputable def cM(K:W.Frag)(C:Addr)(H:Hp)(o:Addr)(S:Sd):Prop:=∃(dx wb va:Addr) (lr pr:List V),RL K C H o dx wb va lr pr S
theorem cM.same{C o:Addr}{H H':Hp}{S:Sd}(h:cM K C H o S)(e:Same H H'):cM K C H' o S:=by
 obtain⟨dx,wb,va,lr,pr,h1,h2,h3,h4,h5,h6,h7⟩:=h;exact⟨dx,wb,va,lr,pr,e _ _ h1,h2.same e,e.tup h3,e _ _ h4,h5.same e,e _ _ h6,h7.same e⟩
theorem cM.fX{C o c:Addr}{H H':Hp}{S:Sd}{zs:List V}(h:cM K C H o S)(e:au c H H')(hc:H c=some (.lst zs))(n1:S.la≠c)(n2:S.pa≠c):cM K C H' o S:=by
 obtain⟨dx,wb,va,lr,pr,h1,h2,h3,h4,h5,h6,h7⟩:=h;have k:TK K H H':=e.tk hc;exact⟨dx,wb,va,lr,pr,e _ _ (fun z=>by rw[z,hc]at h1;cases h1) h1,h2.tk k,k _ _ h3,e _ _ n1 h4,h5.tk k,e _ _ n2 h6,h7.tk k⟩
theorem cM.ins{C o:Addr}{H:Hp}{S:Sd}(h:cM K C H o S):∃dx fs,H o=some (.ins C dx fs):=let⟨dx,_,_,_,_,h⟩:=h;⟨dx,_,h.at_⟩
structure Bx(K:W.Frag)(C:Addr):Prop where
 c:Cls K C
 la:NoAttr K C "kept_laying"
 ti:NoAttr K C "times_anew"
 wb:NoAttr K C "kept_web"
 va:NoAttr K C "kept_value"
 pr:NoAttr K C "kept_prices"
structure cG(S:Sd):Prop where
 Tw:Ft S.D (S.l.map (·.2))
 low:∀q∈S.l,Lw q.2
 len:S.l.length<=36
 val:gD S.n S.ts S.f
 U7:∃(ss:List (List Int)) (ov:Nat) (Z:Int) (Y X:Nat->Int),bB ss S.ts false S.n.toNat/\Sh S.n.toNat ss (cX S.n.toNat) ov Z Y X/\S.f=aH Z ov/\S.ps=gw S.n.toNat ov X
 eno:vM S.n S.ts (cX S.n.toNat) S.D (S.l.map jA) S.f.1 S.f.2=true
theorem qH{n:Int}(h:0<=n):yF n (cX n.toNat):=⟨by unfold cX;rw[Uh];omega,fun x hx=>by unfold cX at hx;rw[(List.mem_replicate.mp hx).2];decide⟩
theorem YC{H:Hp}{x:V}{q:List Int×(Int×Nat)}(h:Fe K H x q):DX K H x (jA q):=by
 obtain⟨t,sa,fa,rfl,h1,h2,h3⟩:=h;exact .tup h1 (.cons (.tup h2 (cQ.ints _).dx) (.cons (.tup h3 (.cons (.int _) (.cons (.int _) .nil))) .nil))
theorem M5{H:Hp}:∀{vs:List V} {l:List (List Int×(Int×Nat))},dD K H vs l->oW K H vs (l.map jA)
 |_,_,.nil=> .nil
 |_,_,.cons h t=> .cons (YC h) (M5 t)
noncomputable def CP(K:W.Frag):Sp:=fun vs H Q _=>∃(a:Addr) (n:Int) (t:V),vs=[.ref a]/\SqT K H a [.int n,t]/\0<=n/\n<=10/\∀wa H',Same H H'->SqT K H' wa ((cX n.toNat).map V.int)->Q (.ref wa) H'
theorem QM{f:Addr}{fd:ρ}(F:Fun K "ones_for" "ones_for" jF f fd):
  FnOk P w K mg base CX0 1 f fd ["web"] (CP K):=by
 refine F.cH ["web"] fun cdv A outer s H vs Q E hr h=> ?_;obtain⟨a,n,t,rfl,w1,h0,h10,qq⟩:=h;refine⟨_,(aV (bK (bC Qw (fU (aj aB ak)) (aR cI (pv 0) aB)))),?_⟩;refine⟨(by show 1<=sizeLine;decide),fun p1 hp1=> ?_⟩;have s2:=aO hp1 (.tup [.int 1]);refine⟨_,rfl,a,_,_,.int n,rfl,rfl,s2.tup w1,rfl,p1,n,_,rfl,rfl,SqT.of aF,(fun e=>nomatch e),by omega,by omega,?_,fun wa H3 s3 h3=> ?_⟩
 ·show 1*n.toNat<=1000;omega
 have ew:(List.replicate n.toNat [V.int 1]).flatten=(cX n.toNat).map V.int:=by
  unfold cX;generalize n.toNat=k
  induction k with
  |zero=>rfl
  |succ k ih=>rw[Ue,X7,ih,Ue];rfl
 rw[ew]at h3;exact qq wa H3 (s2.trans s3) h3
theorem Qj(ts:L0):ts.map (sh 0)=ts:=by
 rw[show sh 0=id from funext fun p=>by unfold sh;rw[wen,wen];rfl,List.map_id]
noncomputable def S8(K:W.Frag):Sp:=fun vs H Q _=>∃(a:Addr) (n:Int) (ts:L0),vs=[.ref a]/\aQ K H a n ts/\∀r H',Same H H'->aQ K H' r n ts->Q (.ref r) H'
theorem Vr{f f1:Addr}{fd d1:ρ}(F:Fun K "copy_of_web" "copy_of_web" iK f fd)(D1:bL K mg "moved_ties" jJ ["web","by"] f1 d1)(G1:FnOk P w K mg base CX0 1 f1 d1 ["web","by"] (Gk K))(aU:mg "tuple"=none):
  FnOk P w K mg base CX0 2 f fd ["web"] (S8 K):=by
 refine F.cH ["web"] fun cdv A outer s H vs Q E hr h=> ?_;obtain⟨a,n,ts,rfl,hW,qq⟩:=h;refine⟨_,(aV (bK (fU (aj (aR cI (pv 0) aB) (aj (pT JN aU (aj (pc G1 hr D1 (aj (pv 0) (aj aB ak))) ak)) ak))))),?_⟩;obtain⟨t0,YF,w1,_,_⟩:=id hW.web;refine⟨_,rfl,a,_,_,.int n,rfl,rfl,w1,rfl,_,rfl,a,n,0,ts,rfl,hW.web,fun l H1 s1 hl _=> ?_⟩;rw[Qj]at hl;obtain⟨rs,hl1,hl2⟩:=hl.ex;refine⟨l,rs,rfl,.inl ⟨SqL.of hl1,fun t ht=> ?_⟩⟩;have s2:=aO ht (.tup rs);refine⟨(by show 2<=sizeLine;decide),fun r hr=> ?_⟩;have s3:=aO hr (.tup [.int n,.ref t]);exact qq r _ (s1.trans (s2.trans s3)) ⟨⟨t,rs,SqT.of aF,s3.tup (SqT.of aF),hl2.same (s2.trans s3)⟩,hW.h0,hW.h1,hW.pk,hW.ok⟩
theorem Lw.one{f:Int×Nat}(h:Lw f){u:Int}{v:Nat}(l:Low f.1 f.2 u v):(u,v)=f:=by
 obtain⟨a,b⟩:=Aj h.1 l ⟨h.1,h.2.2,rfl,aY _,aY _,id⟩;exact Prod.ext a b
noncomputable def Gq(K:W.Frag):Sp:=fun vs H Q _=>∃(a:Addr) (f:Int×Nat),vs=[.ref a]/\qF K H a f/\Lw f/\∀r H',Same H H'->qF K H' r f->Q (.ref r) H'
theorem Vt{f f1:Addr}{fd d1:ρ}(F:Fun K "copy_of_fraction" "copy_of_fraction" XS f fd)(D1:bL K mg "lowest" iZ ["a","b"] f1 d1)(G1:FnOk P w K mg base CX0 2 f1 d1 ["a","b"] (zG K)):
  FnOk P w K mg base CX0 3 f fd ["fraction"] (Gq K):=by
 refine F.cH ["fraction"] fun cdv A outer s H vs Q E hr h=> ?_;obtain⟨a,f,rfl,hF,hL,qq⟩:=h;refine⟨_,(aV (bK (pc G1 hr D1 (aj (aR cI (pv 0) aB) (aj (aR cI (pv 0) aB) ak))))),?_⟩;refine⟨_,rfl,a,_,_,.int f.1,rfl,rfl,hF,rfl,_,rfl,a,_,_,.int ((f.2:Nat):Int),rfl,rfl,hF,rfl,f.1,f.2,rfl,hL.1,cV hL.2.1 (by decide),fun p H' u v s e l=>qq p H' s ?_⟩;have:=hL.one l;unfold qF;rw[<-this];exact SqT.of e
noncomputable def S9(K:W.Frag):Sp:=fun vs H Q _=>∃(a:Addr) (ys:List V),vs=[.ref a]/\SqT K H a ys/\∀r H',Same H H'->SqT K H' r ys->Q (.ref r) H'
theorem Vs{f:Addr}{fd:ρ}(F:Fun K "copy_of_set" "copy_of_set" iM f fd)(aU:mg "tuple"=none):
  FnOk P w K mg base CX0 1 f fd ["some"] (S9 K):=by
 refine F.cH ["some"] fun cdv A outer s H vs Q E hr h=> ?_;obtain⟨a,ys,rfl,hT,qq⟩:=h;refine⟨_,(aV (bK (pT JN aU (aj (pK ["place"] [] [] (Cj (pv 0)) (pG 0) oR (pv 0)) ak)))),?_⟩;refine⟨_,rfl,a,_,rfl,hT,fun hz=> ?_⟩;let gR:Nat->List V->St->Hp->Prop:=fun i acc σ H'=>acc=ys.take i/\H'=H/\∃o,σ=[o];refine Cm (xs:=ys) gR ⟨rfl,rfl,_,rfl⟩ (fun i acc σ H' _ p=>by rw[p.2.1];exact hT) (fun i acc σ H' hi p=>by rw[p.1,tL];omega) hz (fun i x acc σ H' hx p=> ?_) (fun acc σ H' p=> ?_)
 ·obtain⟨rfl,rfl,o,rfl⟩:=p;exact⟨_,rfl,by rw[vm,hx];rfl,rfl,_,rfl⟩
 ·obtain⟨rfl,rfl,o,rfl⟩:=p;intro l hl;rw[rQ];have s1:=aO hl (.lst ys);refine⟨l,_,rfl,.inl ⟨SqL.of aF,fun t ht=> ?_⟩⟩;exact qq t _ (s1.trans (aO ht (.tup ys))) (SqT.of aF)
noncomputable def lo2(i j:Int):Int:=if j<i then j else i
noncomputable def hi2(i j:Int):Int:=if j>i then j else i
noncomputable def K3(K:W.Frag):Sp:=fun vs H Q _=>∃(i j:Int),vs=[.int i,.int j]/\∀r H',Same H H'->SqT K H' r [.int (lo2 i j),.int (hi2 i j)]->Q (.ref r) H'
theorem Vu{f:Addr}{fd:ρ}(F:Fun K "as_tie" "as_tie" pL f fd)(uJ:mg "min"=none)(Ah:mg "max"=none):
  FnOk P w K mg base CX0 1 f fd ["one","other"] (K3 K):=by
 refine F.cH ["one","other"] fun cdv A outer s H vs Q E hr h=> ?_;obtain⟨i,j,rfl,qq⟩:=h;refine⟨_,(aV (bK (fU (aj (pB (call_min2 rfl) uJ (aj (pv 0) (aj (pv 1) ak))) (aj (pB (call_max2 rfl) Ah (aj (pv 0) (aj (pv 1) ak))) ak))))),?_⟩;refine⟨_,rfl,_,rfl,i,j,rfl,_,rfl,_,rfl,i,j,rfl,(by show 2<=sizeLine;decide),fun r hr=> ?_⟩;exact qq r _ (aO hr _) (SqT.of aF)
end
theorem uK(a:Int){b:Nat}(h:0<b)(hb:b<=39916800):Lw (aH a b):=⟨(yP a h).pos,cV (yP a h).lv hb,(yP a h).cop⟩
theorem RD{n:Nat}{ss:List (List Int)}{wl:List Int}{ov:Nat}{Z:Int}{Y X:Nat->Int}(h:Sh n ss wl ov Z Y X):Ft ov ((iu ss ov Y).map (·.2)):=⟨h.pos,cV h.big (by decide),fun f hf=>by
 obtain⟨q,hq,rfl⟩:=jC.mp hf;obtain⟨k,hk,rfl⟩:=jC.mp hq;exact p7 h.pos (h.yn k)⟩
theorem La{n:Int}{ts:L0}{q:List Int×(Int×Nat)}(h:aam n ts q):Dc n ts (jA q)=true:=by
 show(gQ n (.tuple (q.1.map PyData.int))&&((true&&(true&&(decide (0<=q.2.1)&&(decide (1<=((q.2.2:Nat):Int))&&decide (((q.2.2:Nat):Int)<=1000000000)))))&&(decide (ts.filter (inB ((q.1.map PyData.int).map intD))=[])&&decide (0<q.2.1))))=true;have e:(q.1.map PyData.int).map intD=q.1:=by rw[wg];exact wff q.1
 have a:=h.pos;have b:=h.bot;have c:=h.big;rw[jr.gQ ⟨h.up,h.lt⟩,e,cW h.no,cW (show(0:Int)<=q.2.1 by omega),cW (show(1:Int)<=((q.2.2:Nat):Int) by omega),cW (show((q.2.2:Nat):Int)<=1000000000 by omega),cW a];rfl
theorem Lk{l:List (List Int)}(h:l.Pairwise fun p q=>HT.lexLt p q=true):dw l=true:=by
 unfold dw;refine kh.mpr fun k hk=> ?_;have hk':=jz.mp hk;have e:∀k,(hk:k<l.length)->l.getD k []=l[k]:=fun k hk=>by rw[lq,dG hk];rfl
 rw[e k (by omega),e (k+1) (by omega)];exact Ui.mp h k (k+1) (by omega) (by omega) (by omega)
theorem Qx{n p:Nat}(h:p<n):(cX n).getD p 0=1:=by
 unfold cX;rw[lq,wdt,aD h];rfl
theorem Oi{n:Nat}{ts:L0}{ss:List (List Int)}{ov:Nat}{Z:Int}{Y X:Nat->Int}(hp:aM (n:Int) ts)(hn:n<=10)(hS:bB ss ts false n)(h:Sh n ss (cX n) ov Z Y X):vM (n:Int) ts (cX n) ov ((iu ss ov Y).map jA) (aH Z ov).1 (aH Z ov).2=true:=by
 have L:=DG hp hn hS h;unfold vM;rw[pq,kj,kj];refine⟨?_,?_,?_⟩
 ·unfold layB;rw[ug,kj];refine⟨?_,Lk L.rise⟩;rw[yes,kh];exact fun q hq=>La (L.all q hq)
 ·unfold hasB;refine kh.mpr fun p hp'=> ?_;have hp2:=jz.mp hp';rw[show(cX n).length=n from Uh]at hp2;unfold DQ;have a:=h.eno p hp2;have b:=yd (ss:=ss) h.pos h.yn (fun s=>decide (((p:Nat):Int)∈s)) ss.length;refine cW ?_;show(cX n).getD p 0*(ov:Int)<=dW ov (((iu ss ov Y).filter fun q=>decide (((p:Nat):Int)∈q.1)).map (·.2));unfold iu;rw[b];unfold oZ at a;rw[zq];exact a
 ·have b:=yd (ss:=ss) h.pos h.yn (fun _=>true) ss.length;rw[List.filter_eq_self.mpr (fun _ _=>rfl)]at b;have b':dW ov ((iu ss ov Y).map (·.2))=Z:=by
   unfold iu;rw[b,<-h.tot];exact Sx.aW _ fun k _=>aD rfl
  rw[b',(yP Z h.pos).eq];exact cW (rP _)
theorem cG.told{n:Nat}{ts:L0}{ss:List (List Int)}{ov:Nat}{Z:Int}{Y X:Nat->Int}{t:Int}{la pa:Addr}(hp:aM (n:Int) ts)(hn:n<=10)(hS:bB ss ts false n)(h:Sh n ss (cX n) ov Z Y X):cG ⟨n,ts,t,iu ss ov Y,ov,aH Z ov,gw n ov X,la,pa⟩:=
 ⟨RD h,fun q hq=>by
  obtain⟨k,hk,rfl⟩:=jC.mp (show q∈iu ss ov Y from hq);exact uK _ h.pos h.big,(DG hp hn hS h).len,⟨ss,ov,Z,Y,X,hS,h,rfl⟩,⟨ss,ov,Z,Y,X,hS,h,rfl,rfl⟩,Oi hp hn hS h⟩
theorem wV:∀{l m:L0},l.Pairwise jB->m.Pairwise jB->(∀p,p∈l↔p∈m)->l=m
 |[],[],_,_,_=>rfl
 |[],b::m,_,_,h=>nomatch (h b).mpr iW
 |a::l,[],_,_,h=>nomatch (h a).mp iW
 |a::l,b::m,hl,hm,h=>by
  obtain⟨l1,l2⟩:=Qd.mp hl;obtain⟨m1,m2⟩:=Qd.mp hm;have e:a=b:=by
   rcases dg.mp ((h a).mp iW)with e|e
   ·exact e
   ·rcases dg.mp ((h b).mpr iW)with e2|e2
    ·exact e2.symm
    ·exact absurd (jB.trans (m1 a e) (l1 b e2)) jB.JV
  subst e;congr 1;refine wV l2 m2 fun p=>⟨fun hp=> ?_,fun hp=> ?_⟩
  ·rcases dg.mp ((h p).mp (iG _ hp))with e|e
   ·exact absurd (e▸l1 p hp) jB.JV
   ·exact e
  ·rcases dg.mp ((h p).mpr (iG _ hp))with e|e
   ·exact absurd (e▸m1 p hp) jB.JV
   ·exact e
theorem Gg{K:W.Frag}{H:Hp}{its:List (Addr×(Int×Int))}{its':List (Addr×List Int)}{n:Int}{t1 wb:Addr}(h0:0<=n)(h1:n<=10)(hq:aM n (its.map (·.2)))(hperm:its'.Perm (its.map fun p=>(p.1,pl p.2)))(qb:its'.Pairwise fun p q=>HT.lexLt q.2 p.2=false)(e3:∀p∈its,SqT K H p.1 ((pl p.2).map V.int))(Av:SqT K H wb [.int n,.ref t1])(ht1:SqT K H t1 (its'.map fun p=>V.ref p.1)):∃us,aQ K H wb n us/\us.Perm (its.map (·.2)):=by
 let un:List Int->Int×Int:=fun l=>(l.getD 0 0,l.getD 1 0);have back:∀p∈its',∃q∈its,p=(q.1,pl q.2):=fun p hp=>by
  obtain⟨q,hq,e⟩:=jC.mp (hperm.mem_iff.mp hp);exact⟨q,hq,e.symm⟩
 have pts:(its'.map fun p=>un p.2).Perm (its.map (·.2)):=by
  have h1:=hperm.map (fun p:Addr×List Int=>un p.2);rw[wg]at h1;have h2:its.map ((fun p:Addr×List Int=>un p.2)∘fun p=>(p.1,pl p.2))=its.map (·.2):=rfl;rw[h2]at h1;exact h1
 have pok:=hq.perm pts;have YL:(its'.map fun p=>un p.2).Pairwise fun p q=>HT.lexLt (pl q) (pl p)=false:=by
  rw[Qc];refine qb.imp_of_mem fun{x y} hx hy hxy=> ?_;obtain⟨qx,_,rfl⟩:=back x hx;obtain⟨qy,_,rfl⟩:=back y hy;exact hxy
 refine⟨its'.map fun p=>un p.2,⟨⟨t1,its'.map (fun p=>V.ref p.1),Av,ht1,?_⟩,h0,h1,pok,Cv h0 h1 pok YL⟩,pts⟩;have h1:=jd (K:=K) (H:=H) (its'.map fun p=>(p.1,un p.2)) (fun p hp=>by
  obtain⟨p',hp',rfl⟩:=jC.mp hp;obtain⟨q',hq',rfl⟩:=back p' hp';exact e3 q' hq')
 have h2:(its'.map fun p=>(p.1,un p.2)).map (fun p=>V.ref p.1)=its'.map fun p=>V.ref p.1:=by rw[wg];rfl
 have h3:(its'.map fun p=>(p.1,un p.2)).map (·.2)=its'.map fun p=>un p.2:=by rw[wg];rfl
 rw[h2,h3]at h1;exact h1
section
variable{P:ξ}{w:τ}{K:W.Frag}{mg:L4}{base:Heap}
theorem uw(f:Str)(v:V):∀fs:List (Str×V),(putF f v fs).length<=fs.length+1
 |[]=>aY _
 |(g,x)::r=>by
  unfold putF;split
  ·exact Pk _
  ·exact Nat.succ_le_succ (uw f v r)
theorem RL.same{C o dx wb va:Addr}{lr pr:List V}{H H':Hp}{S:Sd}(h:RL K C H o dx wb va lr pr S)(e:Same H H'):RL K C H' o dx wb va lr pr S:=by
 obtain⟨h1,h2,h3,h4,h5,h6,h7⟩:=h;exact⟨e _ _ h1,h2.same e,e.tup h3,e _ _ h4,h5.same e,e _ _ h6,h7.same e⟩
noncomputable def pF(K:W.Frag)(C:Addr):Sp:=fun vs H Q _=>∃(o dx wb tp va la pa:Addr) (fs:List (Str×V)),vs=[.ref o,.ref wb,.ref tp]/\H o=some (.ins C dx fs)/\fs.length<=5/\SqT K H tp [.ref va,.ref la,.ref pa]/\
 Q .non (upd H o (.ins C dx (putF "kept_prices" (.ref pa) (putF "kept_value" (.ref va) (putF "kept_web" (.ref wb) fs)))))
theorem Mf{f C:Addr}{fd:ρ}(F:Fun K "keep" "Sharing.keep" zdd f fd)
  (Na:Bx K C):
  FnOk P w K mg base CX0 1 f fd ["self","web","told"] (pF K C):=by
 refine F.cH ["self","web","told"] fun cdv A outer s H vs Q E hr h=> ?_;obtain⟨o,dx,wb,tp,va,la,pa,fs,rfl,hO,h5,hT,qq⟩:=h;refine bf ?_;intro Y;refine⟨_,(aP (ps_fld (pv 0) (pv 1) rfl) (aP (ps_fld (pv 0) (aR cI (pv 2) aB) rfl) (aV (ps_fld (pv 0) (aR cI (pv 2) aB) rfl)))),?_⟩;refine iw ?_;intro c3 c2;have l1:=uw "kept_web" (.ref wb) fs;have l2:=uw "kept_value" (.ref va) (putF "kept_web" (.ref wb) fs);refine⟨_,rfl,_,rfl,o,C,dx,fs,rfl,hO,Na.c,Na.wb,by omega,?_⟩;refine⟨_,rfl,tp,_,_,.ref va,rfl,rfl,SqT.Iv hO hT,rfl,_,rfl,o,C,dx,_,rfl,aF,Na.c,Na.va,by omega,?_⟩;refine⟨_,rfl,tp,_,_,.ref pa,rfl,rfl,SqT.Iv aF (SqT.Iv hO hT),rfl,_,rfl,o,C,dx,_,rfl,aF,Na.c,Na.pr,by omega,?_⟩;rw[upd_upd,upd_upd];exact qq
noncomputable def vQ(S S':Sd)(H:Hp):Prop:=(S'.la=S.la\/H S'.la=none)/\H S'.pa=none/\((S'.t=S.t/\S'.l=S.l/\S'.D=S.D/\vM S'.n S'.ts (cX S'.n.toNat) S.D (S.l.map jA) S'.f.1 S'.f.2=true)\/(S'.t=S.t+1/\vM S'.n S'.ts (cX S'.n.toNat) S.D (S.l.map jA) S'.f.1 S'.f.2=false))
noncomputable def pD(K:W.Frag)(C:Addr):Sp:=fun vs H Q _=>∃(o wb:Addr) (S:Sd) (n:Int) (ts:L0),vs=[.ref o,.ref wb]/\cM K C H o S/\cG S/\aQ K H wb n ts/\
 ∀S' H',au o H H'->cM K C H' o S'->cG S'->S'.n=n->S'.ts=ts->vQ S S' H->Q .non H'
theorem Ma{f f1 f2 f3 f4 C:Addr}{fd d1 d2 d3 d4:ρ}(F:Fun K "move_to" "Sharing.move_to" W8 f fd)
  (Na:Bx K C)(D1:bL K mg "shares" pJ ["web","wants"] f1 d1)(G1:FnOk P w K mg base CX0 9 f1 d1 ["web","wants"] (tQ K))(D2:bL K mg "ones_for" jF ["web"] f2 d2)(G2:FnOk P w K mg base CX0 1 f2 d2 ["web"] (CP K))(D3:bL K mg "is_enough" lJ ["web","wants","laying","number"] f3 d3)(G3:FnOk P w K mg base CX0 9 f3 d3 ["web","wants","laying","number"] (KJ K))(D4:lY K C "keep" "Sharing.keep" zdd ["self","web","told"] f4 d4)(WT:FnOk P w K mg base CX0 1 f4 d4 ["self","web","told"] (pF K C)):
  FnOk P w K mg base CX0 11 f fd ["self","web"] (pD K C):=by
 have G4:FnOk P w K mg base CX0 10 f4 d4 ["self","web","told"] (pF K C):=WT.mono (by decide);refine F.cH ["self","web","told"] fun cdv A outer s H vs Q E hr h=> ?_;obtain⟨o,wb,S,n,ts,rfl,hS,hok,hW,qq⟩:=h;refine bf ?_;intro Y;refine⟨_,(aP (pS 2 (pc G1 hr D1 (aj (pv 1) (aj (pc G2 hr D2 (aj (pv 1) ak)) ak)))) (aP (fQ (lC (j9 (pc G3 hr D3 (aj (pv 1) (aj (pc G2 hr D2 (aj (pv 1) ak)) (aj (gM (pv 0) rfl) (aj (aR cI (pv 2) aB) ak))))))) (aP (ps_fld (pv 0) (aR cI (pv 2) aB) rfl) (aV (ps_fldaug (pv 0) aB in_add))) gO) (aV (oO (v7 (pv 0) Na.c D4.m G4 hr D4.b .nil pass0 (aj (pv 1) (aj (pv 2) ak))))))),?_⟩;refine iw ?_;intro c3 c2;obtain⟨m,rfl⟩:=R8 hW.h0;have h0:=hW.h0;have h1:=hW.h1;have hp:aM ((m:Nat):Int) ts:=hW.pk;obtain⟨t0,YF,w1,_,_⟩:=id hW.web;obtain⟨dx,wb0,va0,lr0,pr0,A⟩:=id hS;refine⟨_,rfl,_,rfl,wb,_,_,rfl,w1,h0,h1,fun wa H1 s1 hwa=> ?_⟩;have A1:=A.same s1;refine⟨wb,wa,_,ts,cX m,rfl,hW.same s1,hwa,qH h0,fun tp va la pa lr pr ss ov Z Y X H2 s2 e1 e2 e3 e4 e5 e6 Zr hSh nl np nlp=> ?_⟩;have nlo:la≠o:=aJ A1.at_ nl;have YS:pa≠o:=aJ A1.at_ np;have nl0:=s1.free nl;have np0:=s1.free np;have Nm:bB ss ts false m:=Zr;have DP:Sh m ss (cX m) ov Z Y X:=hSh;have s12:=s1.trans s2;refine⟨_,rfl,_,rfl,wb,_,_,rfl,s12.tup w1,h0,h1,fun wa2 H3 s3 aa2=> ?_⟩;have A3:=(A.same s12).same s3;have qC:=s12.trans s3;have lf:=yP Z DP.pos;have big:=DP.big;refine⟨_,rfl,o,C,dx,_,_,rfl,A3.at_,Na.c,Na.la,rfl,_,rfl,tp,_,_,.ref va,rfl,rfl,SqT.of (s3 _ _ e1),rfl,?_⟩;refine⟨wb,wa2,S.la,va,_,ts,cX m,lr0,S.l.map jA,S.D,(aH Z ov).1,(aH Z ov).2,rfl,hW.same qC,aa2,qH h0,SqL.of A3.lay,M5 A3.lv,?_,s3.tup e2,?_,(fun _=>by rw[pq];exact hok.Tw),fun H4 s4=>⟨_,rfl,?_⟩⟩
 ·have:=Um A3.lv;have:=hok.len;omega
 ·have:=lf.lv;omega
 have A4:=A3.same s4;have yZ:=qC.trans s4;have W4:=hW.same yZ;have yX:=s3.trans s4;have T4:SqT K H4 tp [.ref va,.ref la,.ref pa]:=SqT.of (yX _ _ e1);have x5:∀u,au o H4 (upd H4 o u):=fun u=>(au.refl _ _).upd;have pan:∀u,(upd H4 o u) pa=some (.lst pr):=fun u=>by rw[cY YS];exact yX _ _ e5
 have lao:S.la≠o:=fun z=>by have a:=A4.lay;rw[z,A4.at_]at a;cases a
 cases hb:vM ((m:Nat):Int) ts (cX m) S.D (S.l.map jA) (aH Z ov).1 (aH Z ov).2 with
 |true=>
  refine iteF ?_;refine⟨_,rfl,o,dx,_,rfl,A4.at_,rfl,_,rfl,_,rfl,o,dx,wb,tp,va,la,pa,_,rfl,A4.at_,(by show 5<=5;decide),T4,?_⟩;have k:TK K H4 (upd H4 o (.ins C dx (zO (.ref S.la) (.int S.t) (.ref wb) (.ref va) (.ref pa)))):=(x5 _).JR A4.at_;refine qq ⟨m,ts,S.t,S.l,S.D,aH Z ov,gw m ov X,S.la,pa⟩ _ ((yZ.x o).trans (x5 _)) ⟨dx,wb,va,lr0,pr,aF,W4.tk k,k _ _ (yX.tup e2),?_,A4.lv.tk k,pan _,(e6.same yX).tk k⟩ ⟨hok.Tw,hok.low,hok.len,⟨ss,ov,Z,Y,X,Nm,DP,rfl⟩,⟨ss,ov,Z,Y,X,Nm,DP,rfl,rfl⟩,hb⟩ rfl rfl ⟨.inl rfl,np0,.inl ⟨rfl,rfl,rfl,hb⟩⟩;show(upd H4 o _) S.la=_;rw[cY lao];exact A4.lay
 |false=>
  refine iteT ?_;refine⟨_,rfl,tp,_,_,.ref la,rfl,rfl,T4,rfl,_,rfl,o,C,dx,_,rfl,A4.at_,Na.c,Na.la,(by show 5<1000;decide),?_⟩;refine⟨_,rfl,o,C,dx,_,_,rfl,aF,Na.c,Na.ti,rfl,_,_,rfl,rfl,dx,_,aF,(by show 5<1000;decide),?_⟩;rw[upd_upd];refine⟨_,rfl,o,dx,_,rfl,aF,rfl,_,rfl,_,rfl,o,dx,wb,tp,va,la,pa,_,rfl,aF,(by show 5<=5;decide),SqT.Iv A4.at_ T4,?_⟩;rw[upd_upd];have k:TK K H4 (upd H4 o (.ins C dx (zO (.ref la) (.int (S.t+1)) (.ref wb) (.ref va) (.ref pa)))):=(x5 _).JR A4.at_;refine qq ⟨m,ts,S.t+1,iu ss ov Y,ov,aH Z ov,gw m ov X,la,pa⟩ _ ((yZ.x o).trans (x5 _)) ⟨dx,wb,va,lr,pr,aF,W4.tk k,k _ _ (yX.tup e2),?_,(e4.same yX).tk k,pan _,(e6.same yX).tk k⟩ (cG.told hp (by omega) Nm DP) rfl rfl ⟨.inr nl0,np0,.inr ⟨rfl,hb⟩⟩;show(upd H4 o _) la=_;rw[cY nlo];exact yX _ _ e3
noncomputable def CN(K:W.Frag)(C:Addr):Sp:=fun vs H Q _=>∃(o dx wb:Addr) (n:Int) (ts:L0),vs=[.ref o,.ref wb]/\H o=some (.ins C dx [])/\aQ K H wb n ts/\
 ∀S H',au o H H'->cM K C H' o S->cG S->S.n=n->S.ts=ts->S.t=0->H S.la=none->H S.pa=none->Q .non H'
theorem QL{f f1 f2 f3 f4 C:Addr}{fd d1 d2 d3 d4:ρ}(F:Fun K "__init__" "Sharing.__init__" gn f fd)
  (Na:Bx K C)(D1:bL K mg "need_web" TX ["thing"] f1 d1)(G1:FnOk P w K mg base CX0 7 f1 d1 ["thing"] (fM K))(D2:bL K mg "shares" pJ ["web","wants"] f2 d2)(G2:FnOk P w K mg base CX0 9 f2 d2 ["web","wants"] (tQ K))(D3:bL K mg "ones_for" jF ["web"] f3 d3)(G3:FnOk P w K mg base CX0 1 f3 d3 ["web"] (CP K))(D4:lY K C "keep" "Sharing.keep" zdd ["self","web","told"] f4 d4)(WT:FnOk P w K mg base CX0 1 f4 d4 ["self","web","told"] (pF K C)):
  FnOk P w K mg base CX0 12 f fd ["self","web"] (CN K C):=by
 have G4:FnOk P w K mg base CX0 11 f4 d4 ["self","web","told"] (pF K C):=WT.mono (by decide);refine F.cH ["self","web","told"] fun cdv A outer s H vs Q E hr h=> ?_;obtain⟨o,dx,wb,n,ts,rfl,hO,hW,qq⟩:=h;refine bf ?_;intro Y;refine⟨_,(aP (oO (pc G1 hr D1 (aj (pv 1) ak))) (aP (pS 2 (pc G2 hr D2 (aj (pv 1) (aj (pc G3 hr D3 (aj (pv 1) ak)) ak)))) (aP (ps_fld (pv 0) (aR cI (pv 2) aB) rfl) (aP (ps_fld (pv 0) aB rfl) (aV (oO (v7 (pv 0) Na.c D4.m G4 hr D4.b .nil pass0 (aj (pv 1) (aj (pv 2) ak))))))))),?_⟩;refine Nh ?_;intro c5 c4 c3 c2;obtain⟨m,rfl⟩:=R8 hW.h0;have h0:=hW.h0;have h1:=hW.h1;have hp:aM ((m:Nat):Int) ts:=hW.pk;obtain⟨t0,YF,w1,_,_⟩:=id hW.web;refine⟨_,rfl,.ref wb,_,rfl,hW.web.dv.dx,hW.ok,fun H0 s0=> ?_⟩;refine⟨_,rfl,_,rfl,wb,_,_,rfl,s0.tup w1,h0,h1,fun wa H1 s1' hwa=> ?_⟩;have s1:=s0.trans s1';refine⟨wb,wa,_,ts,cX m,rfl,hW.same s1,hwa,qH h0,fun tp va la pa lr pr ss ov Z Y X H2 s2 e1 e2 e3 e4 e5 e6 Zr hSh nl np nlp=> ?_⟩;have nlo:la≠o:=aJ (s1 _ _ hO) nl;have YS:pa≠o:=aJ (s1 _ _ hO) np;have Nm:bB ss ts false m:=Zr;have DP:Sh m ss (cX m) ov Z Y X:=hSh;have s12:=s1.trans s2;have hO2:=s12 _ _ hO;have T2:SqT K H2 tp [.ref va,.ref la,.ref pa]:=SqT.of e1;refine⟨_,rfl,tp,_,_,.ref la,rfl,rfl,T2,rfl,_,rfl,o,C,dx,_,rfl,hO2,Na.c,Na.la,(by show 0<1000;decide),?_⟩;refine⟨_,rfl,o,C,dx,_,rfl,aF,Na.c,Na.ti,(by show 1<1000;decide),?_⟩;rw[upd_upd];refine⟨_,rfl,o,dx,_,rfl,aF,rfl,_,rfl,_,rfl,o,dx,wb,tp,va,la,pa,_,rfl,aF,(by show 2<=5;decide),SqT.Iv hO2 T2,?_⟩;rw[upd_upd];have x5:au o H2 (upd H2 o (.ins C dx (zO (.ref la) (.int 0) (.ref wb) (.ref va) (.ref pa)))):=(au.refl _ _).upd;have k:TK K H2 (upd H2 o (.ins C dx (zO (.ref la) (.int 0) (.ref wb) (.ref va) (.ref pa)))):=x5.JR hO2;refine qq ⟨m,ts,0,iu ss ov Y,ov,aH Z ov,gw m ov X,la,pa⟩ _ ((s12.x o).trans x5) ⟨dx,wb,va,lr,pr,aF,(hW.same s12).tk k,k _ _ e2,?_,e4.tk k,?_,e6.tk k⟩ (cG.told hp (by omega) Nm DP) rfl rfl rfl (s1.free nl) (s1.free np)
 ·show(upd H2 o _) la=_;rw[cY nlo];exact e3
 ·show(upd H2 o _) pa=_;rw[cY YS];exact e5
theorem vQ.back{S S':Sd}{H H1:Hp}(e:Same H H1)(h:vQ S S' H1):vQ S S' H:=⟨h.1.imp id e.free,e.free h.2.1,h.2.2⟩
theorem wU{n:Int}{ts:L0}(h0:0<=n)(h1:n<=10)(hs:ts.Pairwise jB)(hl:∀p∈ts,0<=p.1/\p.1<p.2/\p.2<n):aM n ts/\Bv n ts:=by
 have ho:aM n ts:=⟨qM hs,hl⟩;exact⟨ho,Cv h0 h1 ho (hs.imp Ho)⟩
theorem zA{n i:Nat}(h:i<n):(upto n).getD i 0=(i:Int):=by
 unfold upto;rw[lq,dU,R0 h];rfl
theorem J7(n:Nat):(upto n).length=n:=by unfold upto;rw[aL,vo]
theorem IK(n:Nat):dh n=(upto n).map V.int:=by unfold dh upto;rw[wg];rfl
theorem Ot{n:Int}{ts:L0}(hp:aM n ts)(hs:ts.Pairwise jB)(k:Nat):rows (UL (upto k) ts) (k:Int) k=ts.filter fun p=>decide (p.2<(k:Int)):=by
 refine wV (TY _ _ _) (hs.filter _) fun p=> ?_;rw[dO,fL,Gb];have key:0<=p.1->p.1<p.2->p.2<(k:Int)->(UL (upto k) ts p.1 p.2=true↔p∈ts):=fun a b c=>by
  unfold UL bQ;rw[zA (show p.1.toNat<k by omega),zA (show p.2.toNat<k by omega),R3 a,R3 (by omega),aA (by omega),aD (by omega),Gb]
 refine⟨fun⟨a,b,c,d,e⟩=>⟨(key a c d).mp e,d⟩,fun⟨a,b⟩=> ?_⟩;obtain⟨c,d,e⟩:=hp.lt p a;exact⟨c,by omega,d,b,(key c d b).mpr a⟩
noncomputable def tV(K:W.Frag)(C:Addr):Sp:=fun vs H Q _=>∃(o:Addr) (i j:Int) (S:Sd),vs=[.ref o,.int i,.int j]/\cM K C H o S/\0<=i/\i<S.n/\0<=j/\j<S.n/\i≠j/\Q .non H
theorem QF{f f1 C:Addr}{fd d1:ρ}(F:Fun K "need_two" "Sharing.need_two" zbt f fd)
  (Na:Bx K C)(D1:bL K mg "need_place" jH ["web","thing"] f1 d1)(G1:FnOk P w K mg base CX0 3 f1 d1 ["web","thing"] (rD K)):
  FnOk P w K mg base CX0 4 f fd ["self","one","other"] (tV K C):=by
 refine F.cH ["self","one","other"] fun cdv A outer s H vs Q E hr h=> ?_;obtain⟨o,i,j,S,rfl,hS,i0,i1,j0,j1,ne,qq⟩:=h;refine bf ?_;intro Y;refine⟨_,(aP (oO (pc G1 hr D1 (aj (gM (pv 0) rfl) (aj (pv 1) ak)))) (aP (oO (pc G1 hr D1 (aj (gM (pv 0) rfl) (aj (pv 2) ak)))) (aV (fQ (dR op_eq (pv 1) (pv 2)) Ph gO)))),?_⟩;refine iw ?_;intro c3 c2;obtain⟨dx,wb,va,lr,pr,A⟩:=id hS;obtain⟨t0,YF,w1,_,_⟩:=id A.web.web;refine⟨_,rfl,o,C,dx,_,_,rfl,A.at_,Na.c,Na.wb,rfl,_,rfl,wb,S.n,i,_,rfl,w1,i0,i1,?_⟩;refine⟨_,rfl,o,C,dx,_,_,rfl,A.at_,Na.c,Na.wb,rfl,_,rfl,wb,S.n,j,_,rfl,w1,j0,j1,?_⟩;refine⟨_,rfl,_,rfl,rfl,_,rfl,?_⟩;rw[fW (show¬V.int i=V.int j from fun e=>ne (V.int.inj e))];exact iteF qq
noncomputable def putL(n:Int)(xs:List Int):L0:=xs.map fun x=>(x,n)
theorem Lx{n:Int}{ts:L0}{xs:List Int}(h:aM n ts)(hx:jr n xs):aM (n+1) (ts++putL n xs):=by
 have lt:∀p∈putL n xs,0<=p.1/\p.1<n/\p.2=n:=fun p hp=>by
  obtain⟨x,hx',rfl⟩:=jC.mp hp;have:=hx.lt x hx';exact⟨this.1,this.2,rfl⟩
 refine⟨List.nodup_append.mpr ⟨h.nd,?_,fun x hx y hy e=> ?_⟩,fun p hp=> ?_⟩
 ·refine Qc.mpr (hx.wZ.imp fun{a b} hab e=> ?_);have:=(Prod.mk.inj e).1;omega
 ·have a1:=h.lt x hx;have a2:=lt y hy;rw[e]at a1;omega
 ·rcases oY.mp hp with z|z
  ·have:=h.lt p z;omega
  ·have:=lt p z;omega
noncomputable def Kv(K:W.Frag)(C:Addr):Sp:=fun vs H Q _=>∃(o sa:Addr) (S:Sd) (xs:List Int),vs=[.ref o,.ref sa]/\cM K C H o S/\cG S/\SqT K H sa (xs.map V.int)/\jr S.n xs/\S.n<10/\
 ∀S' H',au o H H'->cM K C H' o S'->cG S'->S'.n=S.n+1->S'.ts.Perm (S.ts++putL S.n xs)->vQ S S' H->Q (.int S.n) H'
theorem QH{f f1 f2 f3 C:Addr}{fd d1 d2 d3:ρ}(F:Fun K "put" "Sharing.put" iR f fd)
  (Na:Bx K C)(D1:bL K mg "need_set" jG ["web","thing"] f1 d1)(WW:FnOk P w K mg base CX0 5 f1 d1 ["web","thing"] (mO K))(D2:bL K mg "need_few" nT ["n"] f2 d2)(G2':FnOk P w K mg base CX0 1 f2 d2 ["n"] (qI K))(D3:lY K C "move_to" "Sharing.move_to" W8 ["self","web"] f3 d3)(G3:FnOk P w K mg base CX0 11 f3 d3 ["self","web"] (pD K C))(aU:mg "tuple"=none)(eU:mg "sorted"=none)(bZ:mg "list"=none):
  FnOk P w K mg base CX0 12 f fd ["self","ties"] (Kv K C):=by
 have G1:FnOk P w K mg base CX0 11 f1 d1 ["web","thing"] (mO K):=WW.mono (by decide);have G2:FnOk P w K mg base CX0 11 f2 d2 ["n"] (qI K):=G2'.mono (by decide);refine F.cH ["self","ties","n","added"] fun cdv A outer s H vs Q E hr h=> ?_;obtain⟨o,sa,S,xs,rfl,hS,hok,hX,hx,h9,qq⟩:=h;refine bf ?_;intro Y;refine⟨_,(aP (oO (pc G1 hr D1 (aj (gM (pv 0) rfl) (aj (pv 1) ak)))) (aP (pS 2 (aR cI (gM (pv 0) rfl) aB)) (aP (oO (pc G2 hr D2 (aj (bC oX (pv 2) aB) ak))) (aP (pX 3 ["place"] ["n"] [2] (Cj (pv 1)) (pG 0) oR (fU (aj (pv 0) (aj (pv 1) ak)))) (aP (oO (v7 (pv 0) Na.c D3.m G3 hr D3.b .nil pass0 (aj (fU (aj (bC oX (pv 2) aB) (aj (pT JN aU (aj (pB jX eU (aj (bC op_cat (pT call_list_of bZ (aj (aR cI (gM (pv 0) rfl) aB) ak)) (pv 3)) ak)) ak)) ak))) ak))) (aV (bK (pv 2)))))))),?_⟩;refine Ng ?_;intro c6 c5 c4 c3 c2;obtain⟨dx,wb,va,lr,pr,A⟩:=id hS;have h0:=A.web.h0;have h10:=A.web.h1;have Zw:=A.web.len;have hxl:=hx.len h10;obtain⟨t0,YF,w1,_,_⟩:=id A.web.web;refine⟨_,rfl,o,C,dx,_,_,rfl,A.at_,Na.c,Na.wb,rfl,_,rfl,wb,S.n,_,_,_,rfl,w1,(DV.tup hX (cQ.ints xs)).dx,hx.gQ,fun H1 s1=> ?_⟩;have A1:=A.same s1;refine⟨_,rfl,o,C,dx,_,_,rfl,A1.at_,Na.c,Na.wb,rfl,wb,_,_,.int S.n,rfl,rfl,s1.tup w1,rfl,?_⟩;refine⟨_,rfl,_,_,rfl,rfl,_,rfl,by omega,?_⟩;have hX1:=s1.tup hX;refine⟨_,rfl,sa,_,rfl,hX1,fun hz=> ?_⟩;let gR:Nat->List V->St->Hp->Prop:=fun i acc σ H'=>Same H1 H'/\cQ K H' acc ((putL S.n (xs.take i)).map pairD)/\∃o,σ=[o,some (.int S.n)];refine Cm (xs:=xs.map V.int) gR ⟨Same.refl _,.nil,_,rfl⟩ (fun i acc σ H' _ p=>p.1.tup hX1) (fun i acc σ H' hi p=> ?_) hz (fun i x acc σ H' hx' p=> ?_) (fun acc σ H' p=> ?_)
 ·have:=p.2.1.len;unfold putL at this;rw[aL,aL,tL]at this;omega
 ·obtain⟨sm,hd,o',rfl⟩:=p;rw[dU]at hx';cases ex:xs[i]? with
  |none=>rw[ex]at hx';cases hx'
  |some x0=>
   rw[ex]at hx';cases hx';refine⟨_,rfl,_,rfl,(by show 2<=sizeLine;decide),fun q2 hq2=> ?_⟩;have n2:=aO hq2 (.tup [.int x0,.int S.n]);refine⟨sm.trans n2,?_,_,rfl⟩;have e:putL S.n (xs.take (i+1))=putL S.n (xs.take i)++[(x0,S.n)]:=by unfold putL;rw[vm,ex,bV];rfl
   rw[e,bV];exact(hd.same n2).append (.cons (.tup (SqT.of aF) (.cons (.int _) (.cons (.int _) .nil))) .nil)
 ·intro p1 hp1;obtain⟨sm,hd,_⟩:=p;rw[aL,rQ]at hd;have n1:=aO hp1 (.lst acc);have hacc:(upd H' p1 (.lst acc)) p1=some (.lst acc):=aF;have hd1:=hd.same n1;have s2:=s1.trans (sm.trans n1);generalize (upd H' p1 (.lst acc))=G1 at *;have A2:=A.same s2;obtain⟨tt,rr,w1,w2,w3⟩:=id A2.web.web;obtain⟨its,rfl,m7,w4⟩:=ji w3;obtain⟨jq,Z6,Z1,jqT⟩:=ji hd1;have lits:its.length=S.ts.length:=by rw[<-m7,aL]
  have ljq:jq.length=xs.length:=by
   have:=kO List.length Z1;unfold putL at this;rw[aL,aL]at this;exact this
  refine⟨_,rfl,o,dx,_,rfl,A2.at_,rfl,_,rfl,_,_,rfl,rfl,?_⟩;refine⟨_,rfl,o,C,dx,_,_,rfl,A2.at_,Na.c,Na.wb,rfl,wb,_,_,.ref tt,rfl,rfl,w1,rfl,tt,_,rfl,.inr w2,fun l2 hl2=> ?_⟩;have n2:=aO hl2 (.lst (its.map fun p=>V.ref p.1));refine⟨_,rfl,l2,p1,_,_,rfl,rfl,aF,n2 _ _ hacc,by rw[Z6,aL,aL,gU];omega,fun l3 hl3=> ?_⟩;have n3:=aO hl3 (.lst ((its.map fun p=>V.ref p.1)++acc));have Nf:(upd (upd G1 l2 (.lst (its.map fun p=>V.ref p.1))) l3 (.lst ((its.map fun p=>V.ref p.1)++acc))) l3=some (.lst ((its++jq).map fun p=>V.ref p.1)):=by rw[aF,Z6,bV]
  have n23:=n2.trans n3;generalize (upd (upd G1 l2 (.lst (its.map fun p=>V.ref p.1))) l3 (.lst ((its.map fun p=>V.ref p.1)++acc)))=G2 at *;have jT:∀p∈its++jq,SqT K G2 p.1 ((pl p.2).map V.int):=fun p hp'=>by
   rcases oY.mp hp' with z|z
   ·exact n23.tup (w4 p z)
   ·exact n23.tup (jqT p z)
  have PB:((its++jq).map (·.2))=S.ts++putL S.n xs:=by rw[bV,m7,Z1]
  have hq2:aM (S.n+1) ((its++jq).map (·.2)):=by
   rw[PB];exact Lx A.web.pk hx
  have ejl:(its++jq).length<=55:=by rw[qz];omega
  generalize its++jq=jts at *;refine⟨l3,jts.map (fun p=>(p.1,pl p.2)),rfl,by rw[wg];exact SqL.of Nf,fun p hp'=> ?_,by rw[aL];omega,fun l4 its' V9 hperm qb=> ?_⟩
  ·obtain⟨p',hp'',rfl⟩:=jC.mp hp';exact⟨jT p' hp'',by unfold pl;simp⟩
  have n4:=aO V9 (.lst (its'.map fun p=>V.ref p.1));refine⟨l4,_,rfl,.inl ⟨SqL.of aF,fun t1 ht1=>⟨(by show 2<=sizeLine;decide),fun wz Av=> ?_⟩⟩⟩;have n5:=aO ht1 (.tup (its'.map fun p=>V.ref p.1));have n6:=aO Av (.tup [.int (S.n+1),.ref t1]);have n46:=n4.trans (n5.trans n6);obtain⟨us,W,Ls⟩:=Gg (K:=K) (n:=S.n+1) (by omega) (by omega) hq2 hperm qb (fun p hp'=>n46.tup (jT p hp')) (SqT.of aF) (SqT.of (n6 _ _ aF));rw[PB]at Ls;have n26:=s2.trans (n23.trans n46);refine⟨o,wz,S,S.n+1,us,rfl,hS.same n26,hok,W,fun S' H' x' hS' hok' en et hw=>⟨_,rfl,?_⟩⟩;exact qq S' H' ((n26.x o).trans x') hS' hok' en (by rw[et];exact Ls) (hw.back n26)
noncomputable def Ku(K:W.Frag)(C:Addr):Sp:=fun vs H Q _=>∃(o:Addr) (i j:Int) (S:Sd),vs=[.ref o,.int i,.int j]/\cM K C H o S/\cG S/\0<=i/\i<S.n/\0<=j/\j<S.n/\i≠j/\(lo2 i j,hi2 i j)∉S.ts/\
 ∀S' H',au o H H'->cM K C H' o S'->cG S'->S'.n=S.n->S'.ts.Perm (S.ts++[(lo2 i j,hi2 i j)])->vQ S S' H->Q .non H'
theorem Y9{i j n:Int}(i0:0<=i)(i1:i<n)(j0:0<=j)(j1:j<n)(ne:i≠j):0<=lo2 i j/\lo2 i j<hi2 i j/\hi2 i j<n:=by
 unfold lo2 hi2;split<;>split<;>omega
theorem QG{f f1 f2 f3 f4 C:Addr}{fd d1 d2 d3 d4:ρ}(F:Fun K "tie" "Sharing.tie" iQ f fd)
  (Na:Bx K C)(D1:lY K C "need_two" "Sharing.need_two" zbt ["self","one","other"] f1 d1)(WW:FnOk P w K mg base CX0 4 f1 d1 ["self","one","other"] (tV K C))(D2:bL K mg "has_tie" fO ["web","one","other"] f2 d2)(G2':FnOk P w K mg base CX0 1 f2 d2 ["web","one","other"] (rE K))(D3:bL K mg "as_tie" pL ["one","other"] f3 d3)(G3:FnOk P w K mg base CX0 1 f3 d3 ["one","other"] (K3 K))(D4:lY K C "move_to" "Sharing.move_to" W8 ["self","web"] f4 d4)(G4:FnOk P w K mg base CX0 11 f4 d4 ["self","web"] (pD K C))(bZ:mg "list"=none)(aU:mg "tuple"=none)(eU:mg "sorted"=none):
  FnOk P w K mg base CX0 12 f fd ["self","one","other"] (Ku K C):=by
 have G1:FnOk P w K mg base CX0 11 f1 d1 ["self","one","other"] (tV K C):=WW.mono (by decide);have G2:FnOk P w K mg base CX0 11 f2 d2 ["web","one","other"] (rE K):=G2'.mono (by decide);refine F.cH ["self","one","other","ties"] fun cdv A outer s H vs Q E hr h=> ?_;obtain⟨o,i,j,S,rfl,hS,hok,i0,i1,j0,j1,ne,ht,qq⟩:=h;refine bf ?_;intro Y;refine⟨_,(aP (oO (v7 (pv 0) Na.c D1.m G1 hr D1.b .nil pass0 (aj (pv 1) (aj (pv 2) ak)))) (aP (fQ (j9 (pc G2 hr D2 (aj (gM (pv 0) rfl) (aj (pv 1) (aj (pv 2) ak))))) Ph gO) (aP (pS 3 (bC op_cat (pT call_list_of bZ (aj (aR cI (gM (pv 0) rfl) aB) ak)) (pe_lst (aj (pc G3 hr D3 (aj (pv 1) (aj (pv 2) ak))) ak)))) (aV (oO (v7 (pv 0) Na.c D4.m G4 hr D4.b .nil pass0 (aj (fU (aj (aR cI (gM (pv 0) rfl) aB) (aj (pT JN aU (aj (pB jX eU (aj (pv 3) ak)) ak)) ak))) ak))))))),?_⟩;refine wH ?_;intro c4 c3 c2;obtain⟨dx,wb,va,lr,pr,A⟩:=id hS;have h0:=A.web.h0;have h10:=A.web.h1;have Zw:=A.web.len;refine⟨_,rfl,o,dx,_,rfl,A.at_,rfl,_,rfl,_,rfl,o,i,j,S,rfl,hS,i0,i1,j0,j1,ne,?_⟩;refine⟨_,rfl,o,C,dx,_,_,rfl,A.at_,Na.c,Na.wb,rfl,_,rfl,_,rfl,wb,S.n,i,j,S.ts,rfl,A.web.web,fun H1 s1=>⟨_,rfl,?_⟩⟩;rw[show bQ S.ts i j=false from fW ht];refine iteF ?_;have A1:=A.same s1;obtain⟨tt,rr,w1,w2,w3⟩:=id A1.web.web;obtain⟨its,rfl,m7,w4⟩:=ji w3;have lits:its.length=S.ts.length:=by rw[<-m7,aL]
 refine⟨_,rfl,o,C,dx,_,_,rfl,A1.at_,Na.c,Na.wb,rfl,wb,_,_,.ref tt,rfl,rfl,w1,rfl,tt,_,rfl,.inr w2,fun l2 hl2=> ?_⟩;have n2:=aO hl2 (.lst (its.map fun p=>V.ref p.1));refine⟨_,rfl,_,rfl,i,j,rfl,fun r H2 s2 hr2=>⟨(by show 1<=sizeLine;decide),fun l5 Zj=> ?_⟩⟩;have n5:=aO Zj (.lst [.ref r]);have hr5:=n5.tup hr2;have n25:=s2.trans n5;refine⟨l2,l5,_,_,rfl,rfl,n25 _ _ aF,aF,by rw[aL,gU];show _+1<=_;omega,fun l3 hl3=> ?_⟩;have n3:=aO hl3 (.lst ((its.map fun p=>V.ref p.1)++[.ref r]));have Nf:(upd (upd H2 l5 (.lst [.ref r])) l3 (.lst ((its.map fun p=>V.ref p.1)++[.ref r]))) l3=some (.lst ((its++[(r,(lo2 i j,hi2 i j))]).map fun p=>V.ref p.1)):=by rw[aF,bV];rfl
 have n23:=n2.trans (n25.trans n3);have Xv:=n3.tup hr5;generalize (upd (upd H2 l5 (.lst [.ref r])) l3 (.lst ((its.map fun p=>V.ref p.1)++[.ref r])))=G2 at *;have jT:∀p∈its++[(r,(lo2 i j,hi2 i j))],SqT K G2 p.1 ((pl p.2).map V.int):=fun p hp'=>by
  rcases oY.mp hp' with z|z
  ·exact n23.tup (w4 p z)
  ·rw[iD.mp z];exact Xv
 have PB:((its++[(r,(lo2 i j,hi2 i j))]).map (·.2))=S.ts++[(lo2 i j,hi2 i j)]:=by rw[bV,m7];rfl
 have hq2:aM S.n ((its++[(r,(lo2 i j,hi2 i j))]).map (·.2)):=by
  rw[PB];refine⟨List.nodup_append.mpr ⟨A.web.pk.nd,Pu _ _,fun x hx y hy e=> ?_⟩,fun p hp=> ?_⟩
  ·rw[e,iD.mp hy]at hx;exact ht hx
  ·rcases oY.mp hp with z|z
   ·exact A.web.pk.lt p z
   ·rw[iD.mp z];exact Y9 i0 i1 j0 j1 ne
 have ejl:(its++[(r,(lo2 i j,hi2 i j))]).length<=55:=by rw[qz];show _+1<=_;omega
 generalize its++[(r,(lo2 i j,hi2 i j))]=jts at *;have A3:=A1.same n23;obtain⟨t3,r3,x1,x2,x3⟩:=id A3.web.web;refine⟨_,rfl,o,dx,_,rfl,A3.at_,rfl,_,rfl,o,C,dx,_,_,rfl,A3.at_,Na.c,Na.wb,rfl,wb,_,_,.int S.n,rfl,rfl,x1,rfl,?_⟩;refine⟨_,rfl,l3,jts.map (fun p=>(p.1,pl p.2)),rfl,by rw[wg];exact SqL.of Nf,fun p hp'=> ?_,by rw[aL];omega,fun l4 its' V9 hperm qb=> ?_⟩
 ·obtain⟨p',hp'',rfl⟩:=jC.mp hp';exact⟨jT p' hp'',by unfold pl;simp⟩
 have n4:=aO V9 (.lst (its'.map fun p=>V.ref p.1));refine⟨l4,_,rfl,.inl ⟨SqL.of aF,fun t1 ht1=>⟨(by show 2<=sizeLine;decide),fun wz Av=> ?_⟩⟩⟩;have n5:=aO ht1 (.tup (its'.map fun p=>V.ref p.1));have n6:=aO Av (.tup [.int S.n,.ref t1]);have n46:=n4.trans (n5.trans n6);obtain⟨us,W,Ls⟩:=Gg (K:=K) (n:=S.n) h0 h10 hq2 hperm qb (fun p hp'=>n46.tup (jT p hp')) (SqT.of aF) (SqT.of (n6 _ _ aF));rw[PB]at Ls;have n26:=s1.trans (n23.trans n46);refine⟨o,wz,S,S.n,us,rfl,hS.same n26,hok,W,fun S' H' x' hS' hok' en et hw=> ?_⟩;exact qq S' H' ((n26.x o).trans x') hS' hok' en (by rw[et];exact Ls) (hw.back n26)
noncomputable def Ks(K:W.Frag)(C:Addr):Sp:=fun vs H Q _=>∃(o:Addr) (i j:Int) (S:Sd),vs=[.ref o,.int i,.int j]/\cM K C H o S/\cG S/\0<=i/\i<S.n/\0<=j/\j<S.n/\i≠j/\(lo2 i j,hi2 i j)∈S.ts/\
 ∀S' H',au o H H'->cM K C H' o S'->cG S'->S'.n=S.n->S'.ts=(S.ts.filter fun p=> !decide (p=(lo2 i j,hi2 i j)))->vQ S S' H->Q .non H'
theorem QD{f f1 f2 f3 f4 C:Addr}{fd d1 d2 d3 d4:ρ}(F:Fun K "untie" "Sharing.untie" fu f fd)
  (Na:Bx K C)(D1:lY K C "need_two" "Sharing.need_two" zbt ["self","one","other"] f1 d1)(WW:FnOk P w K mg base CX0 4 f1 d1 ["self","one","other"] (tV K C))(D2:bL K mg "has_tie" fO ["web","one","other"] f2 d2)(G2:FnOk P w K mg base CX0 1 f2 d2 ["web","one","other"] (rE K))(D3:bL K mg "as_tie" pL ["one","other"] f3 d3)(G3:FnOk P w K mg base CX0 1 f3 d3 ["one","other"] (K3 K))(D4:lY K C "move_to" "Sharing.move_to" W8 ["self","web"] f4 d4)(G4:FnOk P w K mg base CX0 11 f4 d4 ["self","web"] (pD K C))(aU:mg "tuple"=none):
  FnOk P w K mg base CX0 12 f fd ["self","one","other"] (Ks K C):=by
 have G1:FnOk P w K mg base CX0 11 f1 d1 ["self","one","other"] (tV K C):=WW.mono (by decide);refine F.cH ["self","one","other","ties"] fun cdv A outer s H vs Q E hr h=> ?_;obtain⟨o,i,j,S,rfl,hS,hok,i0,i1,j0,j1,ne,ht,qq⟩:=h;refine bf ?_;intro Y;refine⟨_,(aP (oO (v7 (pv 0) Na.c D1.m G1 hr D1.b .nil pass0 (aj (pv 1) (aj (pv 2) ak)))) (aP (fQ (lC (j9 (pc G2 hr D2 (aj (gM (pv 0) rfl) (aj (pv 1) (aj (pv 2) ak)))))) Ph gO) (aP (pX 3 ["tie"] ["one","other"] [1,2] (Cj (aR cI (gM (pv 0) rfl) aB)) (pG 0) (Ck (dR (GK K hr.units) (pv 0) (pc G3 hr D3 (aj (pv 1) (aj (pv 2) ak))))) (pv 0)) (aV (oO (v7 (pv 0) Na.c D4.m G4 hr D4.b .nil pass0 (aj (fU (aj (aR cI (gM (pv 0) rfl) aB) (aj (pT JN aU (aj (pv 3) ak)) ak))) ak))))))),?_⟩;refine wH ?_;intro c4 c3 c2;obtain⟨dx,wb,va,lr,pr,A⟩:=id hS;have h0:=A.web.h0;have h10:=A.web.h1;have Zw:=A.web.len;refine⟨_,rfl,o,dx,_,rfl,A.at_,rfl,_,rfl,_,rfl,o,i,j,S,rfl,hS,i0,i1,j0,j1,ne,?_⟩;refine⟨_,rfl,o,C,dx,_,_,rfl,A.at_,Na.c,Na.wb,rfl,_,rfl,_,rfl,wb,S.n,i,j,S.ts,rfl,A.web.web,fun H1 s1=>⟨_,rfl,?_⟩⟩;rw[show bQ S.ts i j=true from cW ht];refine iteF ?_;have A1:=A.same s1;obtain⟨tt,rr,w1,w2,w3⟩:=id A1.web.web;obtain⟨its,rfl,m7,w4⟩:=ji w3;have lits:its.length=S.ts.length:=by rw[<-m7,aL]
 generalize hP:(lo2 i j,hi2 i j)=pp at *;refine⟨_,rfl,o,C,dx,_,_,rfl,A1.at_,Na.c,Na.wb,rfl,wb,_,_,.ref tt,rfl,rfl,w1,rfl,tt,_,rfl,w2,fun hz=> ?_⟩;let qj:Nat->List V->St->Hp->Prop:=fun k acc σ H'=>acc=((its.take k).filter fun p=> !decide (p.2=pp)).map (fun p=>V.ref p.1)/\Same H1 H'/\∃o,σ=[o,some (.int i),some (.int j)];refine Cm (xs:=its.map fun p=>V.ref p.1) qj ⟨rfl,Same.refl _,_,rfl⟩ (fun i acc σ H' _ p=>by exact p.2.1.tup w2) (fun i acc σ H' hi p=> ?_) hz (fun k x acc σ H' hx p=> ?_) (fun acc σ H' p=> ?_)
 ·rw[p.1,aL];exact cV (wk _ _) (by rw[tL];exact Fz _ _)
 ·obtain⟨rfl,sm,o',rfl⟩:=p;rw[dU]at hx;cases ex:its[k]? with
  |none=>rw[ex]at hx;cases hx
  |some it=>
   rw[ex]at hx;cases hx;have hit:=w4 it (tM ex);have go:(its.take (k+1)).filter (fun p=> !decide (p.2=pp))=(its.take k).filter (fun p=> !decide (p.2=pp))++(if(!decide (it.2=pp))=true then[it]else[]):=by
    rw[vm,ex,FN];congr 1;show List.filter _ [it]=_;rw[FJ];rfl
   refine⟨_,rfl,_,rfl,_,rfl,i,j,rfl,fun r H5 s5 h5=> ?_⟩;refine⟨pairD it.2,pairD (lo2 i j,hi2 i j),.tup ((sm.trans s5).tup hit) (.cons (.int _) (.cons (.int _) .nil)),.tup h5 (.cons (.int _) (.cons (.int _) .nil)),rfl,rfl,(by show min (max 0 (max 0 0)+1) (max 0 (max 0 0)+1)<=64;decide),_,rfl,?_⟩;rw[lV,hP];refine ite2 (fun c=> ?_) (fun c=> ?_)
   ·exact⟨_,rfl,by rw[go,aD c,bV];rfl,sm.trans s5,_,rfl⟩
   ·exact⟨by rw[go,aA c,Cr],sm.trans s5,_,rfl⟩
 intro p1 hp1;obtain⟨rfl,sm,_⟩:=p;rw[aL,rQ];generalize Aw:its.filter (fun p=> !decide (p.2=pp))=jts at *;have jm:jts.map (·.2)=S.ts.filter fun p=> !decide (p=pp):=by
  rw[<-Aw,<-m7,wes];rfl
 have n1:=aO hp1 (.lst (jts.map fun p=>V.ref p.1));have sA:=sm.trans n1;have A2:=A1.same sA;obtain⟨t3,r3,x1,x2,x3⟩:=id A2.web.web;refine⟨_,rfl,o,dx,_,rfl,A2.at_,rfl,_,rfl,o,C,dx,_,_,rfl,A2.at_,Na.c,Na.wb,rfl,wb,_,_,.int S.n,rfl,rfl,x1,rfl,?_⟩;refine⟨_,rfl,p1,_,rfl,.inl ⟨SqL.of aF,fun t1 ht1=>⟨(by show 2<=sizeLine;decide),fun wz Av=> ?_⟩⟩⟩;have n2:=aO ht1 (.tup (jts.map fun p=>V.ref p.1));have n3:=aO Av (.tup [.int S.n,.ref t1]);have n13:=sA.trans (n2.trans n3);have Dv:=jd (K:=K) jts (fun p hp=>n13.tup (w4 p (by rw[<-Aw]at hp;exact(fL.mp hp).1)));rw[jm]at Dv;have ok:=wU (n:=S.n) h0 h10 (A.web.wZ.filter _) fun p (hp:p∈S.ts.filter fun p=> !decide (p=pp))=>A.web.pk.lt p (fL.mp hp).1;have qC:=s1.trans n13;refine⟨o,wz,S,S.n,_,rfl,hS.same qC,hok,⟨⟨t1,_,SqT.of aF,SqT.of (n3 _ _ aF),Dv⟩,h0,h10,ok.1,ok.2⟩,fun S' H' x' hS' hok' en et hw=> ?_⟩;exact qq S' H' ((qC.x o).trans x') hS' hok' en et (hw.back qC)
noncomputable def Gj(K:W.Frag)(C:Addr):Sp:=fun vs H Q _=>∃(o:Addr) (S:Sd),vs=[.ref o]/\cM K C H o S/\cG S/\0<S.n/\
 ∀S' H',au o H H'->cM K C H' o S'->cG S'->S'.n=S.n-1->S'.ts=(S.ts.filter fun p=>decide (p.2<S.n-1))->vQ S S' H->Q .non H'
theorem Mg{f f1 f2 C:Addr}{fd d1 d2:ρ}(F:Fun K "drop" "Sharing.drop" gq f fd)
  (Na:Bx K C)(D1:lY K C "move_to" "Sharing.move_to" W8 ["self","web"] f1 d1)(G1:FnOk P w K mg base CX0 11 f1 d1 ["self","web"] (pD K C))(D2:bL K mg "cut_down" nY ["web","some"] f2 d2)(G2:FnOk P w K mg base CX0 8 f2 d2 ["web","some"] (S6 K))(aU:mg "tuple"=none)(aN:mg "range"=none):
  FnOk P w K mg base CX0 12 f fd ["self"] (Gj K C):=by
 refine F.cH ["self","n"] fun cdv A outer s H vs Q E hr h=> ?_;obtain⟨o,S,rfl,hS,hok,n0,qq⟩:=h;refine bf ?_;intro Y;refine⟨_,(aP (pS 1 (aR cI (gM (pv 0) rfl) aB)) (aP (fQ (dR op_eq (pv 1) aB) Ph gO) (aV (oO (v7 (pv 0) Na.c D1.m G1 hr D1.b .nil pass0 (aj (pc G2 hr D2 (aj (gM (pv 0) rfl) (aj (zZ rfl rfl aU rfl aN (aj (bC op_sub (pv 1) aB) ak)) ak))) ak)))))),?_⟩;refine iw ?_;intro c3 c2;obtain⟨dx,wb,va,lr,pr,A⟩:=id hS;have h10:=A.web.h1;obtain⟨t0,YF,w1,_,_⟩:=id A.web.web;refine⟨_,rfl,o,C,dx,_,_,rfl,A.at_,Na.c,Na.wb,rfl,wb,_,_,.int S.n,rfl,rfl,w1,rfl,?_⟩;refine⟨_,rfl,rfl,_,rfl,?_⟩;rw[fW (show¬V.int S.n=V.int 0 from fun e=>by have:=V.int.inj e;omega)];refine iteF ?_;refine⟨_,rfl,o,dx,_,rfl,A.at_,rfl,?_⟩;refine⟨_,rfl,o,C,dx,_,_,rfl,A.at_,Na.c,Na.wb,rfl,_,rfl,_,_,rfl,rfl,_,rfl,by omega,by omega,fun l hl=> ?_⟩;rw[IK];obtain⟨k,ek⟩:=R8 (show 0<=S.n-1 by omega);have ek':(S.n-1).toNat=k:=by omega
 rw[ek'];have s1:=aO hl (.tup ((upto k).map V.int));have so:jr S.n (upto k):=by
  have a:=wW ((k:Nat):Int);rw[Im]at a;exact⟨a.wZ,fun x hx=>by have:=a.lt x hx;omega⟩
 refine⟨wb,l,S.n,S.ts,upto k,rfl,(A.same s1).web,SqT.of aF,so,fun r H2 s2 hW=> ?_⟩;rw[J7,Im,Ot A.web.pk A.web.wZ]at hW;have ok:=wU (n:=(k:Int)) (by omega) (by omega) (A.web.wZ.filter _) fun p (hp:p∈S.ts.filter fun p=>decide (p.2<(k:Int)))=>by
  obtain⟨m1,m2⟩:=fL.mp hp;have:=A.web.pk.lt p m1;have:=fJ m2;omega
 have s12:=s1.trans s2;refine⟨o,r,S,k,_,rfl,hS.same s12,hok,⟨hW,by omega,by omega,ok.1,ok.2⟩,fun S' H' x' hS' hok' en et hw=> ?_⟩;exact qq S' H' ((s12.x o).trans x') hS' hok' (by omega) (by rw[et,<-ek]) (hw.back s12)
theorem cG.lw{S:Sd}(h:cG S):Lw S.f:=by
 obtain⟨ss,ov,Z,Y,X,a,b,e⟩:=h.val;rw[e];exact uK Z b.pos b.big
theorem cG.pl{S:Sd}(h:cG S):∀q∈S.ps,Lw q:=fun q hq=>by
 obtain⟨ss,ov,Z,Y,X,a,b,e,e2⟩:=h.U7;rw[e2]at hq;obtain⟨k,hk,rfl⟩:=jC.mp hq;exact uK _ b.pos b.big
noncomputable def tR(K:W.Frag)(C:Addr):Sp:=fun vs H Q _=>∃(o:Addr) (S:Sd),vs=[.ref o]/\cM K C H o S/\∀r H',Same H H'->aQ K H' r S.n S.ts->Q (.ref r) H'
theorem QB{f f1 C:Addr}{fd d1:ρ}(F:Fun K "web" "Sharing.web" eG f fd)
  (Na:Bx K C)(D1:bL K mg "copy_of_web" iK ["web"] f1 d1)(G1:FnOk P w K mg base CX0 2 f1 d1 ["web"] (S8 K)):
  FnOk P w K mg base CX0 3 f fd ["self"] (tR K C):=by
 refine F.cH ["self"] fun cdv A outer s H vs Q E hr h=> ?_;obtain⟨o,S,rfl,hS,qq⟩:=h;refine⟨_,(aV (bK (pc G1 hr D1 (aj (gM (pv 0) rfl) ak)))),?_⟩;obtain⟨dx,wb,va,lr,pr,A⟩:=id hS;exact⟨_,rfl,o,C,dx,_,_,rfl,A.at_,Na.c,Na.wb,rfl,wb,S.n,S.ts,rfl,A.web,fun r H' s h=>qq r H' s h⟩
noncomputable def tU(K:W.Frag)(C:Addr):Sp:=fun vs H Q _=>∃(o:Addr) (S:Sd),vs=[.ref o]/\cM K C H o S/\cG S/\∀r H',Same H H'->qF K H' r S.f->Q (.ref r) H'
theorem QC{f f1 C:Addr}{fd d1:ρ}(F:Fun K "value" "Sharing.value" zcv f fd)
  (Na:Bx K C)(D1:bL K mg "copy_of_fraction" XS ["fraction"] f1 d1)(G1:FnOk P w K mg base CX0 3 f1 d1 ["fraction"] (Gq K)):
  FnOk P w K mg base CX0 4 f fd ["self"] (tU K C):=by
 refine F.cH ["self"] fun cdv A outer s H vs Q E hr h=> ?_;obtain⟨o,S,rfl,hS,hok,qq⟩:=h;refine⟨_,(aV (bK (pc G1 hr D1 (aj (gM (pv 0) rfl) ak)))),?_⟩;obtain⟨dx,wb,va,lr,pr,A⟩:=id hS;exact⟨_,rfl,o,C,dx,_,_,rfl,A.at_,Na.c,Na.va,rfl,va,S.f,rfl,A.val,hok.lw,fun r H' s h=>qq r H' s h⟩
noncomputable def tX(K:W.Frag)(C:Addr):Sp:=fun vs H Q _=>∃(o:Addr) (S:Sd),vs=[.ref o]/\cM K C H o S/\cG S/\∀r vs' H',Same H H'->H' r=some (.lst vs')->dD K H' vs' S.l->H r=none->Q (.ref r) H'
theorem QK{f f1 f2 C:Addr}{fd d1 d2:ρ}(F:Fun K "laying" "Sharing.laying" zcf f fd)
  (Na:Bx K C)(D1:bL K mg "copy_of_set" iM ["some"] f1 d1)(G1:FnOk P w K mg base CX0 1 f1 d1 ["some"] (S9 K))(D2:bL K mg "copy_of_fraction" XS ["fraction"] f2 d2)(G2:FnOk P w K mg base CX0 3 f2 d2 ["fraction"] (Gq K)):
  FnOk P w K mg base CX0 4 f fd ["self"] (tX K C):=by
 refine F.cH ["self"] fun cdv A outer s H vs Q E hr h=> ?_;obtain⟨o,S,rfl,hS,hok,qq⟩:=h;refine⟨_,(aV (bK (pK ["some","share"] [] [] (sO (gM (pv 0) rfl)) (dJ K (n:=2) rfl (oU (pG 0) (oU (pG 1) Ci))) oR (fU (aj (pc G1 hr D1 (aj (pv 0) ak)) (aj (pc G2 hr D2 (aj (pv 1) ak)) ak)))))),?_⟩;obtain⟨dx,wb,va,lr,pr,A⟩:=id hS;have hll:=Um A.lv;have h36:=hok.len;refine⟨_,rfl,o,C,dx,_,_,rfl,A.at_,Na.c,Na.la,rfl,S.la,_,rfl,SqL.of A.lay,fun hz=> ?_⟩;let gR:Nat->List V->St->Hp->Prop:=fun i acc σ H'=>dD K H' acc (S.l.take i)/\Same H H'/\∃o1 o2,σ=[o1,o2];refine yQ (xs:=lr) gR ⟨.nil,Same.refl _,_,_,rfl⟩ (fun i acc σ H' _ p=>p.2.1.seq (SqL.of A.lay)) (fun i acc σ H' hi p=> ?_) hz (fun i x acc σ H' hx p=> ?_) (fun acc σ H' p=> ?_)
 ·have:=Um p.1;rw[tL]at this;omega
 ·obtain⟨hd,sm,o1,o2,rfl⟩:=p;have hi:i<S.l.length:=by rw[<-hll];exact(nF.mp hx).1
  obtain⟨q0,hq0,hR⟩:=Paired.at_ A.lv hx;rw[dG hi]at hq0;cases hq0;obtain⟨t,sa,fa,rfl,h1,h2,h3⟩:=hR;refine⟨t,_,rfl,sm.tup h1,rfl,_,_,rfl,_,_,rfl,rfl,?_⟩;refine⟨_,rfl,sa,_,rfl,sm.tup h2,fun r1 H1 s1 k1=> ?_⟩;refine⟨_,rfl,fa,S.l[i].2,rfl,(sm.trans s1).tup h3,hok.low _ (zx hi),fun r2 H2 s2 k2=>⟨(by show 2<=sizeLine;decide),fun q hq=> ?_⟩⟩;have n1:=aO hq (.tup [.ref r1,.ref r2]);refine⟨?_,sm.trans (s1.trans (s2.trans n1)),_,_,rfl⟩;rw[vm,dG hi];exact Paired.snoc (hd.same (s1.trans (s2.trans n1))) ⟨q,r1,r2,rfl,SqT.of aF,(s2.trans n1).tup k1,n1.tup k2⟩
 ·intro p1 hp1;obtain⟨hd,sm,_⟩:=p;rw[hll,rQ]at hd;have n1:=aO hp1 (.lst acc);exact qq p1 acc _ (sm.trans n1) aF (hd.same n1) (sm.free hp1)
noncomputable def tW(K:W.Frag)(C:Addr):Sp:=fun vs H Q _=>∃(o:Addr) (S:Sd),vs=[.ref o]/\cM K C H o S/\cG S/\∀r vs' H',Same H H'->H' r=some (.lst vs')->dX K H' vs' S.ps->H r=none->Q (.ref r) H'
theorem QJ{f f1 C:Addr}{fd d1:ρ}(F:Fun K "prices" "Sharing.prices" zce f fd)
  (Na:Bx K C)(D1:bL K mg "copy_of_fraction" XS ["fraction"] f1 d1)(G1:FnOk P w K mg base CX0 3 f1 d1 ["fraction"] (Gq K)):
  FnOk P w K mg base CX0 4 f fd ["self"] (tW K C):=by
 refine F.cH ["self"] fun cdv A outer s H vs Q E hr h=> ?_;obtain⟨o,S,rfl,hS,hok,qq⟩:=h;refine⟨_,(aV (bK (pK ["price"] [] [] (sO (gM (pv 0) rfl)) (pG 0) oR (pc G1 hr D1 (aj (pv 0) ak))))),?_⟩;obtain⟨dx,wb,va,lr,pr,A⟩:=id hS;have hll:=Um A.pv;refine⟨_,rfl,o,C,dx,_,_,rfl,A.at_,Na.c,Na.pr,rfl,S.pa,_,rfl,SqL.of A.U7,fun hz=> ?_⟩;let qj:Nat->List V->St->Hp->Prop:=fun i acc σ H'=>dX K H' acc (S.ps.take i)/\Same H H'/\∃o1,σ=[o1];refine yQ (xs:=pr) qj ⟨.nil,Same.refl _,_,rfl⟩ (fun i acc σ H' _ p=>p.2.1.seq (SqL.of A.U7)) (fun i acc σ H' hi p=> ?_) hz (fun i x acc σ H' hx p=> ?_) (fun acc σ H' p=> ?_)
 ·have:=Um p.1;rw[tL]at this;omega
 ·obtain⟨hd,sm,o1,rfl⟩:=p;have hi:i<S.ps.length:=by rw[<-hll];exact(nF.mp hx).1
  obtain⟨q0,hq0,hR⟩:=Paired.at_ A.pv hx;rw[dG hi]at hq0;cases hq0;obtain⟨fa,rfl,h3⟩:=hR;refine⟨_,rfl,fa,S.ps[i],rfl,sm.tup h3,hok.pl _ (zx hi),fun r2 H2 s2 k2=> ?_⟩;refine⟨?_,sm.trans s2,_,rfl⟩;rw[vm,dG hi];exact Paired.snoc (hd.same s2) ⟨r2,rfl,k2⟩
 ·intro p1 hp1;obtain⟨hd,sm,_⟩:=p;rw[hll,rQ]at hd;have n1:=aO hp1 (.lst acc);exact qq p1 acc _ (sm.trans n1) aF (hd.same n1) (sm.free hp1)
noncomputable def Kw(K:W.Frag)(C:Addr):Sp:=fun vs H Q _=>∃(o:Addr) (S:Sd),vs=[.ref o]/\cM K C H o S/\Q (.int S.t) H
theorem Vl{f C:Addr}{fd:ρ}(F:Fun K "again" "Sharing.again" fB f fd)
  (Na:Bx K C):
  FnOk P w K mg base CX0 1 f fd ["self"] (Kw K C):=by
 refine F.cH ["self"] fun cdv A outer s H vs Q E hr h=> ?_;obtain⟨o,S,rfl,hS,qq⟩:=h;refine⟨_,(aV (bK (gM (pv 0) rfl))),?_⟩;obtain⟨dx,wb,va,lr,pr,A⟩:=id hS;exact⟨_,rfl,o,C,dx,_,_,rfl,A.at_,Na.c,Na.ti,rfl,qq⟩
end
inductive j7 where
 |put (xs:List Int)
 |drop
 |tie (i j:Int)
 |Us (i j:Int)
noncomputable def jx(K:W.Frag)(H:Hp)(a:Addr):j7->Prop
 | .put xs=>∃t,SqT K H a [.str "put",.ref t]/\SqT K H t (xs.map V.int)
 | .drop=>SqT K H a [.str "drop"]
 | .tie i j=>SqT K H a [.str "tie",.int i,.int j]
 | .Us i j=>SqT K H a [.str "untie",.int i,.int j]
theorem jx.tk{K:W.Frag}{H H':Hp}{a:Addr}(e:TK K H H'):∀{d:j7},jx K H a d->jx K H' a d
 | .put _,⟨t,h1,h2⟩=>⟨t,e _ _ h1,e _ _ h2⟩
 | .drop,h=>e _ _ h
 | .tie _ _,h=>e _ _ h
 | .Us _ _,h=>e _ _ h
noncomputable def Two(n i j:Int):Prop:=0<=i/\i<n/\0<=j/\j<n/\i≠j
noncomputable def Pb(n:Int)(ts:L0):j7->Prop
 | .put xs=>jr n xs/\n<10
 | .drop=>0<n
 | .tie i j=>Two n i j/\(lo2 i j,hi2 i j)∉ts
 | .Us i j=>Two n i j/\(lo2 i j,hi2 i j)∈ts
noncomputable def TF(n n':Int)(ts ts':L0):j7->Prop
 | .put xs=>n'=n+1/\∀p,p∈ts'↔p∈ts\/p∈putL n xs
 | .drop=>n'=n-1/\∀p,p∈ts'↔p∈ts/\p.2<n-1
 | .tie i j=>n'=n/\∀p,p∈ts'↔p∈ts\/p=(lo2 i j,hi2 i j)
 | .Us i j=>n'=n/\∀p,p∈ts'↔p∈ts/\p≠(lo2 i j,hi2 i j)
theorem TF.uniq{n n1 n2:Int}{ts Ke Uu:L0}{d:j7}(h:TF n n1 ts Ke d)(h':TF n n2 ts Uu d)(s1:Ke.Pairwise jB)(s2:Uu.Pairwise jB):n1=n2/\Ke=Uu:=by
 cases d<;>exact⟨h.1.trans h'.1.symm,wV s1 s2 fun p=>(h.2 p).trans (h'.2 p).symm⟩
theorem gD.uniq{n:Int}{ts:L0}{f g:Int×Nat}(hf:gD n ts f)(hg:gD n ts g)(hp:aM n ts):f=g:=by
 have lw:∀{f},gD n ts f->Lw f:=fun h=>by
  obtain⟨ss,ov,Z,Y,X,a,b,rfl⟩:=h;exact uK Z b.pos b.big
 have key:∀{f g},gD n ts f->gD n ts g->g.1*(f.2:Int)<=f.1*(g.2:Int):=fun{f g} hf hg=>by
  have a:=hf.cmp hg n.toNat 0 (by rw[aA (wj _)]) (Qe hp) (fun q hq _=>hq) (fun i j _ _ _ _ t=>t);rw[Fx,wen]at a;exact a
 have cr:f.1*(g.2:Int)=g.1*(f.2:Int):=weq (key hg hf) (key hf hg);obtain⟨p1,_,c1⟩:=lw hf;obtain⟨p2,_,c2⟩:=lw hg;have d1:f.2∣g.2:=by
  have h1:f.2∣f.1.natAbs*g.2:=by
   have:=kO Int.natAbs cr;rw[P0,P0,Pq,Pq]at this;rw[this];exact Xc _ _
  exact(Xm c1).dvd_of_dvd_mul_left h1
 have d2:g.2∣f.2:=by
  have h1:g.2∣g.1.natAbs*f.2:=by
   have:=kO Int.natAbs cr;rw[P0,P0,Pq,Pq]at this;rw[<-this];exact Xc _ _
  exact(Xm c2).dvd_of_dvd_mul_left h1
 have e:f.2=g.2:=wef d1 d2;rw[e]at cr;exact Prod.ext (Yd (by omega) cr) e
theorem uP:∀ts:L0,PyData.eqvAll (ts.map pairD) (ts.map pairD)=true
 |[]=>by simp[PyData.eqvAll]
 |p::ts=>by
  show(PyData.eqv (pairD p) (pairD p)&&PyData.eqvAll (ts.map pairD) (ts.map pairD))=true;rw[uP ts,lV,cW rfl];rfl
theorem HX(n:Int)(ts:L0):PyData.eqv (jD n ts) (jD n ts)=true:=by
 show(PyData.eqv (.int n) (.int n)&&(PyData.eqvAll (ts.map pairD) (ts.map pairD)&&PyData.eqvAll [] []))=true;rw[uP ts];have e:PyData.eqv (.int n) (.int n)=true:=by show(n==n)=true;simp
 rw[e];simp[PyData.eqvAll]
theorem sZ(n:Int)(ts:L0):(jD n ts).canLay0=true:=by
 show(true&&(PyData.canLayAll0 (ts.map pairD)&&true))=true;rw[jh ts];rfl
theorem rJ:∀ts:L0,PyData.depthAll (ts.map pairD)<=1
 |[]=>dY _
 |p::ts=>by
  show max (max 0 (max 0 0)+1) (PyData.depthAll (ts.map pairD))<=1;have:=rJ ts;omega
theorem Ga(n:Int)(ts:L0):min (jD n ts).depth (jD n ts).depth<=64:=by
 have h:=rJ ts;show min (max 0 (max (PyData.depthAll (ts.map pairD)+1) 0)+1) _<=64;omega
section
variable{P:ξ}{w:τ}{K:W.Frag}{mg:L4}{base:Heap}
noncomputable def HW(f:Int×Nat):θ:= .tuple ([f.1,((f.2:Nat):Int)].map PyData.int)
theorem qF.dv{H:Hp}{a:Addr}{f:Int×Nat}(h:qF K H a f):DV K H (.ref a) (HW f):= .tup (xs:=[f.1,((f.2:Nat):Int)].map V.int) h (cQ.ints _)
theorem Oh(i:Int):PyData.eqv (.int i) (.int i)=true:=by show(i==i)=true;simp
theorem frD_eq(f:Int×Nat):PyData.eqv (HW f) (HW f)=true:=by
 show(PyData.eqv (.int f.1) (.int f.1)&&(PyData.eqv (.int ((f.2:Nat):Int)) (.int ((f.2:Nat):Int))&&PyData.eqvAll [] []))=true;rw[Oh,Oh];simp[PyData.eqvAll]
theorem tG(f g:Int×Nat):min (HW f).depth (HW g).depth<=64:=by
 show min (max 0 (max 0 0)+1) (max 0 (max 0 0)+1)<=64;decide
theorem iy(f:Int×Nat):(HW f).canLay0=true:=rfl
noncomputable def Yy(K:W.Frag)(C:Addr):Sp:=fun vs H Q _=>∃(o da:Addr) (S:Sd) (d:j7),vs=[.ref o,.ref da]/\cM K C H o S/\cG S/\jx K H da d/\Pb S.n S.ts d/\
 ∀v S' H',au o H H'->cM K C H' o S'->cG S'->TF S.n S'.n S.ts S'.ts d->vQ S S' H->Q v H'
theorem Vv{f f1 f2 f3 f4 C:Addr}{fd d1 d2 d3 d4:ρ}(F:Fun K "_law_e_do" "_law_e_do" nU f fd)
  (Na:Bx K C)(D1:lY K C "put" "Sharing.put" iR ["self","ties"] f1 d1)(G1:FnOk P w K mg base CX0 12 f1 d1 ["self","ties"] (Kv K C))(D2:lY K C "drop" "Sharing.drop" gq ["self"] f2 d2)(G2:FnOk P w K mg base CX0 12 f2 d2 ["self"] (Gj K C))(D3:lY K C "tie" "Sharing.tie" iQ ["self","one","other"] f3 d3)(G3:FnOk P w K mg base CX0 12 f3 d3 ["self","one","other"] (Ku K C))(D4:lY K C "untie" "Sharing.untie" fu ["self","one","other"] f4 d4)(G4:FnOk P w K mg base CX0 12 f4 d4 ["self","one","other"] (Ks K C)):
  FnOk P w K mg base CX0 13 f fd ["sharing","deed"] (Yy K C):=by
 refine F.cH ["sharing","deed"] fun cdv A outer s H vs Q E hr h=> ?_;obtain⟨o,da,S,d,rfl,hS,hok,hD,hF,qq⟩:=h;refine bf ?_;intro Y;refine⟨_,(aP (fQ (dR op_eq (aR cI (pv 1) aB) pe_str) (aV (bK (v7 (pv 0) Na.c D1.m G1 hr D1.b .nil pass0 (aj (aR cI (pv 1) aB) ak)))) gO) (aP (fQ (dR op_eq (aR cI (pv 1) aB) pe_str) (aV (bK (zm (pv 0) Na.c D2.m G2 hr D2.b .nil pass0))) gO) (aP (fQ (dR op_eq (aR cI (pv 1) aB) pe_str) (aV (bK (v7 (pv 0) Na.c D3.m G3 hr D3.b .nil pass0 (aj (aR cI (pv 1) aB) (aj (aR cI (pv 1) aB) ak))))) gO) (aV (bK (v7 (pv 0) Na.c D4.m G4 hr D4.b .nil pass0 (aj (aR cI (pv 1) aB) (aj (aR cI (pv 1) aB) ak)))))))),?_⟩;refine wH ?_;intro c4 c3 c2;obtain⟨dx,wb,va,lr,pr,A⟩:=id hS;cases d with
 |put xs=>
  obtain⟨t,h1,h2⟩:=hD;refine⟨_,rfl,da,_,_,.str "put",rfl,rfl,h1,rfl,rfl,_,rfl,?_⟩;refine ite2 (fun _=> ?_) (fun c=>absurd rfl (was (weg _▸c)));refine⟨_,rfl,o,dx,_,rfl,A.at_,rfl,_,rfl,da,_,_,.ref t,rfl,rfl,h1,rfl,?_⟩;exact⟨o,t,S,xs,rfl,hS,hok,h2,hF.1,hF.2,fun S' H' x hS' hok' en et hw=>qq _ S' H' x hS' hok' ⟨en,fun p=>et.mem_iff.trans oY⟩ hw⟩
 |drop=>
  refine⟨_,rfl,da,_,_,.str "drop",rfl,rfl,hD,rfl,rfl,_,rfl,?_⟩;refine ite2 (fun c=>absurd (fJ c) (by decide+kernel)) (fun _=> ?_);refine⟨_,rfl,da,_,_,.str "drop",rfl,rfl,hD,rfl,rfl,_,rfl,?_⟩;refine ite2 (fun _=> ?_) (fun c=>absurd rfl (was (weg _▸c)));refine⟨_,rfl,o,dx,_,rfl,A.at_,rfl,?_⟩;exact⟨o,S,rfl,hS,hok,hF,fun S' H' x hS' hok' en et hw=>qq _ S' H' x hS' hok' ⟨en,fun p=>by rw[et,fL,Gb]⟩ hw⟩
 |tie i j=>
  obtain⟨⟨a,b,c,e,f⟩,g⟩:=hF;refine⟨_,rfl,da,_,_,.str "tie",rfl,rfl,hD,rfl,rfl,_,rfl,?_⟩;refine ite2 (fun c=>absurd (fJ c) (by decide+kernel)) (fun _=> ?_);refine⟨_,rfl,da,_,_,.str "tie",rfl,rfl,hD,rfl,rfl,_,rfl,?_⟩;refine ite2 (fun c=>absurd (fJ c) (by decide+kernel)) (fun _=> ?_);refine⟨_,rfl,da,_,_,.str "tie",rfl,rfl,hD,rfl,rfl,_,rfl,?_⟩;refine ite2 (fun _=> ?_) (fun c=>absurd rfl (was (weg _▸c)));refine⟨_,rfl,o,dx,_,rfl,A.at_,rfl,_,rfl,da,_,_,.int i,rfl,rfl,hD,rfl,_,rfl,da,_,_,.int j,rfl,rfl,hD,rfl,?_⟩;exact⟨o,i,j,S,rfl,hS,hok,a,b,c,e,f,g,fun S' H' x hS' hok' en et hw=>qq _ S' H' x hS' hok' ⟨en,fun p=>et.mem_iff.trans (oY.trans (or_congr_right iD))⟩ hw⟩
 |Us i j=>
  obtain⟨⟨a,b,c,e,f⟩,g⟩:=hF;refine⟨_,rfl,da,_,_,.str "untie",rfl,rfl,hD,rfl,rfl,_,rfl,?_⟩;refine ite2 (fun c=>absurd (fJ c) (by decide+kernel)) (fun _=> ?_);refine⟨_,rfl,da,_,_,.str "untie",rfl,rfl,hD,rfl,rfl,_,rfl,?_⟩;refine ite2 (fun c=>absurd (fJ c) (by decide+kernel)) (fun _=> ?_);refine⟨_,rfl,da,_,_,.str "untie",rfl,rfl,hD,rfl,rfl,_,rfl,?_⟩;refine ite2 (fun c=>absurd (fJ c) (by decide+kernel)) (fun _=> ?_);refine⟨_,rfl,o,dx,_,rfl,A.at_,rfl,_,rfl,da,_,_,.int i,rfl,rfl,hD,rfl,_,rfl,da,_,_,.int j,rfl,rfl,hD,rfl,?_⟩;exact⟨o,i,j,S,rfl,hS,hok,a,b,c,e,f,g,fun S' H' x hS' hok' en et hw=>qq _ S' H' x hS' hok' ⟨en,fun p=>by rw[et,fL,way,Yt]⟩ hw⟩
end
theorem GF{n ov:Nat}{X:Nat->Int}{p:Nat}(h:p<n):(gw n ov X)[p]? =some (aH (X p) ov):=by
 unfold gw;rw[dU,R0 h];rfl
theorem Gz(n ov:Nat)(X:Nat->Int):(gw n ov X).length=n:=by unfold gw;rw[aL,vo]
end Hs
namespace L2
open PySem PySem.Spec PyProof.Rows PySem.W
section
variable{X:Cx}
theorem vN:CallR X (.builtin "sorted") (fun xs H Q=>∃(a:Addr) (its:List (Addr×List Int)),xs=[.ref a]/\SqT X.K H a (its.map fun p=>V.ref p.1)/\(∀p∈its,SqT X.K H p.1 (p.2.map V.int)/\p.2≠[])/\its.length<64/\
  ∀(l:Addr) (its':List (Addr×List Int)),H l=none->its'.Perm its->its'.Pairwise (fun p q=>HT.lexLt q.2 p.2=false)->Q (.ref l) (upd H l (.lst (its'.map fun p=>V.ref p.1)))):=by
 intro pins s σ H xs us Q I r h;obtain⟨a,its,rfl,hS,hT,h64,q⟩:=h;obtain⟨u,rfl,ru⟩:=r.one;cases ru;obtain⟨vs,rv,pl,hz⟩:=I.tuple hS;have hlen:its.length=vs.length:=by have:=rv.length;simpa using this
 -- the values beside the tuples
 have pr:Paired (fun(p:Addr×List Int) (v:ζ)=>v= .ref p.1) its vs:=by
  have go:∀(l:List (Addr×List Int)) (us:List ζ),Vals (l.map fun p=>V.ref p.1) us->Paired (fun(p:Addr×List Int) (v:ζ)=>v= .ref p.1) l us:=by
   intro l
   induction l with
   |nil=>intro us h;cases h;exact .nil
   |cons p l ih=>
    intro us h;cases h with
    |cons r t=>exact .cons r (ih _ t)
  exact go its vs rv
 have tup:∀p∈its,∃(items:List ζ),IntsAre items p.2/\IsTup s.heap p.1 items.toArray:=fun p hp=>by
  obtain⟨its',r',t',_⟩:=I.tuple (hT p hp).1;exact⟨its',TV r',t'⟩
 refine uW.CV (O:=uW.lexOrd) (key:=fun i=>(its.getD i (0,[])).2) (κ:=tuples' true) (s:=s) pl (by omega) (fun h2 h' k E' Q' hq=> ?_) (fun h2 h' k=> ?_) (fun D h' out c ho hD k hc=> ?_)
 ·have kt:∀(l:List (Addr×List Int)) (us:List ζ),Paired (fun(p:Addr×List Int) (v:ζ)=>v= .ref p.1) l us->(∀p∈l,p∈its)->∃fs:List ζ,KatTups h' us fs/\fs.length=us.length/\∀v∈fs,∃i t,v=Value.int i t:=by
   intro l us h
   induction h with
   |nil=>intro _;exact⟨[],trivial,rfl,fun _ hv=>nomatch hv⟩
   | @cons p v l us r t ih=>
    intro hs;obtain⟨fs,k1,k2,k3⟩:=ih fun p hp=>hs p (iG _ hp);obtain⟨items,hi,o,e,hc,n,hd⟩:=tup p (hs p iW);have hne:=(hT p (hs p iW)).2;obtain⟨pa,pn⟩:=p;dsimp only at hi hne e r;cases hi with
    |nil=>exact absurd rfl hne
    |cons i t hi'=>
     rw[r];refine⟨Value.int i t::fs,KatTups.cons (k _ _ e) hc hd (by simp) k1,by simp[k2],fun v hv=> ?_⟩;rcases dg.mp hv with e|e
     ·exact⟨i,t,e⟩
     ·exact k3 v e
  obtain⟨fs,k1,k2,k3⟩:=kt its vs pr fun _ hp=>hp;refine kat_kind (s:={s with heap:=h'}) (T:= .type "int") k1 (by omega) (fun v hv=> ?_) (by rfl) hq;obtain⟨i,t,rfl⟩:=k3 v hv;exact fun A Q E s _ q=>iY q
 ·intro i j C hi hj hC;rw[<-hlen]at hi hj;have get:∀i (hi:i<its.length),vs.getD i Value.none= .ref its[i].1:=by
   have go:∀(l:List (Addr×List Int)) (us:List ζ),Paired (fun(p:Addr×List Int) (v:ζ)=>v= .ref p.1) l us->∀i (hi:i<l.length),us.getD i Value.none= .ref l[i].1:=by
    intro l us h
    induction h with
    |nil=>intro i hi;simp at hi
    |cons r t ih=>
     intro i hi;cases i with
     |zero=>exact r
     |succ i=>simpa using ih i (by simpa using hi)
   exact go its vs pr
  unfold kas_ask;rw[get i hi,get j hj];obtain⟨xi,hxi,oi,ei,ci,ni,di⟩:=tup its[i] (zx _);obtain⟨xj,Tq,oj,ej,cj,nj,dj⟩:=tup its[j] (zx _);refine kat_lt (s:={s with heap:=h'}) (k _ _ ei) di (k _ _ ej) dj ?_;refine uW.uM 0 hxi Tq ?_ ?_
  ·have:=hxi.length;have:=Tq.length;simp only[iC];omega
  ·rw[HT.cu];have e1:its.getD i (0,[])=its[i]:=by simp[hi]
   have e2:its.getD j (0,[])=its[j]:=by simp[hj]
   have hC':C (decide ((its.getD i (0,[])).2<(its.getD j (0,[])).2)) {s with heap:=h'}:=hC;rw[e1,e2]at hC';exact hC'
 ·obtain⟨its',hp,hr,hw⟩:=uW.xP (d:=((0,[]):Addr×List Int)) (f:=fun p=>p.2) pr (fun i hi=>by show(its.getD i (0,[])).2=_;simp[hi]) ho;have hn:H D=none:=I.hok.fresh hD;have rv':Vals (its'.map fun p=>V.ref p.1) out:=by
   have go:∀(l:List (Addr×List Int)) (us:List ζ),Paired (fun(p:Addr×List Int) (v:ζ)=>v= .ref p.1) l us->Vals (l.map fun p=>V.ref p.1) us:=by
    intro l us h
    induction h with
    |nil=>exact .nil
    |cons r t ih=>exact .cons r ih
   exact go its' out hr
  have zl:(its'.map fun p=>V.ref p.1).length<=sizeLine:=by
   have:=hp.length_eq;rw[aL];exact dH (small1000 (by omega))
  have J:Inv X pins σ (upd H D (.lst (its'.map fun p=>V.ref p.1))) {s with heap:=h',toks:=s.toks}:=I.laid k hD ⟨zl,out,c,rv',hc⟩;refine⟨.ref D,_,J,rfl,q D its' hn hp (hw.imp fun{x y} hxy=> ?_)⟩;rw[HT.cu];exact hxy
end
end L2
namespace Hs
open PySem L2 oV
section
variable{P:ξ}{w:τ}{K:W.Frag}{mg:L4}{base:Heap}
theorem Hv{t:TT}{s u w:TS}{D:Ends}{σ:St}{H:Hp}(I:Bool->Hp->Prop)(h1:∀N:Bool->Hp->Prop,(∀b H',I b H'->N b H')->t σ H N)(h2:∀b H',I b H'->if b=true then s {D with nx:=w D} σ H' else u {D with nx:=w D} σ H'):tSeq (tIfS t s u) w D σ H:=h1 _ h2
noncomputable def KC(K:W.Frag):Sp:=fun vs H Q _=>∃(cp bU wb:Addr) (ns:List Int) (b n mo:Int) (ts:L0),vs=[.ref cp,.ref wb,.int mo]/\mo<=10/\cZ K H cp bU ns b/\b<=900000000/\aQ K H wb n ts/\
 ∀r da wa d n' ts' H',au cp H H'->cZ K H' cp bU ns (b+20)->SqT K H' r [.ref da,.ref wa]->jx K H' da d->Pb n ts d->aQ K H' wa n' ts'->TF n n' ts ts' d->Q (.ref r) H'
theorem Vm{f f1:Addr}{fd d1:ρ}(F:Fun K "_law_e_next" "_law_e_next" jM f fd)(D1:bL K mg "_law_e_dip" W6 ["cup","many"] f1 d1)(G1:FnOk P w K mg base CX0 2 f1 d1 ["cup","many"] (zK K))(aU:mg "tuple"=none)(aN:mg "range"=none)(eU:mg "sorted"=none)(bZ:mg "list"=none)(uJ:mg "min"=none)(Ah:mg "max"=none):
  FnOk P w K mg base CX0 3 f fd ["cup","web","most"] (KC K):=by
 refine F.cH ["cup","web","most","n","ties","sort","some","i","j","pair"] fun cdv A outer s H vs Q E hr h=> ?_;obtain⟨cp,bU,wb,ns,b,n,mo,ts,rfl,hmo,hC,hb,hW,qq⟩:=h;refine bf ?_;intro Y;refine⟨_,(aP (ps_asg (pv 1) (pg_tup rfl (oU (pG 3) (oU (pG 4) Ci)))) (aP (pS 5 (pc G1 hr D1 (aj (pv 0) (aj aB ak)))) (aP (fQ (PW.pt (rC (dR op_eq (pv 3) aB) (zj (PW.pt (pw_and (dR op_lt (pv 5) aB) (pw_and1 (dR op_lt (pv 3) (pv 2)))))))) (aP (pS 6 (pT JN aU (aj (pK ["place"] ["cup"] [0] (JM rfl aN (aj (pv 3) ak)) (pG 0) (Ck (dR op_eq (pc G1 hr D1 (aj (pv 1) (aj aB ak))) aB)) (pv 0)) ak))) (aV (bK (fU (aj (fU (aj pe_str (aj (pv 6) ak))) (aj (fU (aj (bC oX (pv 3) aB) (aj (pT JN aU (aj (pB jX eU (aj (bC op_cat (pT call_list_of bZ (aj (pv 4) ak)) (pK ["place"] ["n"] [3] (Cj (pv 6)) (pG 0) oR (fU (aj (pv 0) (aj (pv 1) ak))))) ak)) ak)) ak))) ak)))))) gO) (aP (fQ (PW.pt (rC (dR op_lt (pv 3) aB) (zj (PW.pt (pw_and (dR op_eq (pv 5) aB) (pw_and1 (dR op_gt (pv 3) aB))))))) (aV (bK (fU (aj (fU (aj pe_str ak)) (aj (fU (aj (bC op_sub (pv 3) aB) (aj (pT JN aU (aj (pK ["tie"] ["n"] [3] (Cj (pv 4)) (pG 0) (Ck (dR op_lt (aR (Cg K) (pv 0) aB) (bC op_sub (pv 1) aB))) (pv 0)) ak)) ak))) ak))))) gO) (aP (pS 7 (pc G1 hr D1 (aj (pv 0) (aj (pv 3) ak)))) (aP (pS 8 (bC op_mod (bC oX (bC oX (pv 7) aB) (pc G1 hr D1 (aj (pv 0) (aj (bC op_sub (pv 3) aB) ak)))) (pv 3))) (aP (pS 9 (fU (aj (pB (call_min2 rfl) uJ (aj (pv 7) (aj (pv 8) ak))) (aj (pB (call_max2 rfl) Ah (aj (pv 7) (aj (pv 8) ak))) ak)))) (aP (fQ (dR (xT hr.units) (pv 9) (pv 4) (by with_unfolding_all rfl)) (aV (bK (fU (aj (fU (aj pe_str (aj (pv 7) (aj (pv 8) ak)))) (aj (fU (aj (pv 3) (aj (pT JN aU (aj (pK ["tie"] ["pair"] [9] (Cj (pv 4)) (pG 0) (Ck (dR (GK K hr.units) (pv 0) (pv 1))) (pv 0)) ak)) ak))) ak))))) gO) (aV (bK (fU (aj (fU (aj pe_str (aj (pv 7) (aj (pv 8) ak)))) (aj (fU (aj (pv 3) (aj (pT JN aU (aj (pB vN eU (aj (bC GR (pv 4) (fU (aj (pv 9) ak))) ak)) ak)) ak))) ak))))))))))))),?_⟩;refine Tr ?_;intro c9 c8 c7 c6 c5 c4 c3 c2;have h0:=hW.h0;have h10:=hW.h1;have Zw:=hW.len;obtain⟨z0,hz0⟩:=hC.lst;obtain⟨tt,rr,w1,w2,w3⟩:=id hW.web;refine⟨_,rfl,wb,_,rfl,w1,rfl,_,_,rfl,_,_,rfl,rfl,?_⟩;refine⟨_,rfl,cp,bU,ns,8,b,rfl,hC,by omega,by decide,by decide,fun so H1 so0 so1 x1 c1=> ?_⟩;have k1:TK K H H1:=x1.tk hz0;obtain⟨z1,hz1⟩:=c1.lst;have W1:=hW.fX x1 hz0;have w21:=k1 _ _ w2;obtain⟨its,rfl,m7,w4⟩:=ji w3;have w41:∀p∈its,SqT K H1 p.1 ((pl p.2).map V.int):=fun p hp=>k1 _ _ (w4 p hp);have lits:its.length=ts.length:=by rw[<-m7,aL]
 dsimp only[gName];refine Hv (fun b H'=>H'=H1/\(b=true->n<10)/\(b=false->n≠0)) (fun N hN=> ?_) ?_
 ·refine⟨_,rfl,rfl,_,rfl,?_⟩;refine ite2 (fun c=> ?_) (fun c=> ?_)
  ·have:n=0:=V.int.inj (fJ c);exact hN _ _ ⟨rfl,fun _=>by omega,fun z=>nomatch z⟩
  ·have n0:n≠0:=fun z=>c (cW (kO V.int z));refine⟨_,rfl,_,_,rfl,rfl,_,rfl,?_⟩;refine ite2 (fun c2=> ?_) (fun c2=>hN _ _ ⟨rfl,fun z=>absurd z (by decide),fun _=>n0⟩);refine⟨_,rfl,_,rfl,_,_,rfl,rfl,_,rfl,hN _ _ ⟨rfl,fun z=> ?_,fun _=>n0⟩⟩;have:=fJ z;omega
 rintro b1 H1' ⟨rfl,hlt,hne⟩;cases b1 with
 |true=>
  refine iteT ?_;have n9:=hlt rfl;refine⟨_,rfl,n,rfl,by omega,by omega,?_⟩;let gR:Nat->List V->St->Hp->Prop:=fun i acc σ H'=>(∃xs:List Int,acc=xs.map V.int/\xs.Pairwise (· < ·)/\(∀x∈xs,0<=x/\x<(i:Int))/\xs.length<=i)/\au cp H1' H'/\cZ K H' cp bU ns (b+1+(i:Int))/\∃o,σ=[o,some (.ref cp)];refine RQ (n:=n.toNat) gR ⟨⟨[],rfl,.nil,fun x hx=>(nomatch hx),aY _⟩,au.refl _ _,c1.mono (by omega),_,rfl⟩ (fun i acc σ H' hi p=> ?_) (by rw[gU];omega) (fun i acc σ H' hi p=> ?_) (fun acc σ H' p=> ?_)
  ·obtain⟨⟨xs,rfl,_,_,hl⟩,_⟩:=p;rw[aL];exact hl
  ·obtain⟨⟨xs,rfl,hxs,Zd,hl⟩,x2,c2,o,rfl⟩:=p;refine⟨_,rfl,cp,bU,ns,2,_,rfl,c2,by omega,by decide,by decide,fun r H3 r0 r1 x3 c3=>⟨rfl,_,rfl,?_⟩⟩;refine ite2 (fun c=> ?_) (fun c=> ?_)
   ·refine⟨_,rfl,⟨xs++[0+(i:Int)],by rw[bV];rfl,?_,fun x hx=> ?_,by rw[qz];show _+1<=_;omega⟩,x2.trans x3,c3.mono (by omega),_,rfl⟩
    ·refine R6.mpr ⟨hxs,Pu _ _,fun x hx y hy=> ?_⟩;rw[iD.mp hy];have:=Zd x hx;omega
    ·rcases oY.mp hx with z|z
     ·have:=Zd x z;omega
     ·rw[iD.mp z];omega
   ·exact⟨⟨xs,rfl,hxs,fun x hx=>by have:=Zd x hx;omega,by omega⟩,x2.trans x3,c3.mono (by omega),_,rfl⟩
  intro p1 hp1;obtain⟨⟨xs,rfl,hxs,Zd,hl⟩,x2,c2,_⟩:=p;have hx:jr n xs:=⟨hxs,fun x hx=>by have:=Zd x hx;omega⟩;have n1:=aO hp1 (.lst (xs.map V.int));refine⟨p1,_,rfl,.inl ⟨SqL.of aF,fun t ht=> ?_⟩⟩;have n2:=aO ht (.tup (xs.map V.int));have hX:SqT K (upd (upd H' p1 (.lst (xs.map V.int))) t (.tup (xs.map V.int))) t (xs.map V.int):=SqT.of aF;have n12:=n1.trans n2;have xA:au cp H1' (upd (upd H' p1 (.lst (xs.map V.int))) t (.tup (xs.map V.int))):=x2.trans (n12.x cp);have cA:=c2.same n12;generalize (upd (upd H' p1 (.lst (xs.map V.int))) t (.tup (xs.map V.int)))=G0 at *;have kA:TK K H1' G0:=xA.tk hz1;refine⟨_,rfl,(by show 2<=sizeLine;decide),fun q1 hq1=> ?_⟩;have m1:=aO hq1 (.tup [.str "put",.ref t]);have hD:jx K (upd G0 q1 (.tup [.str "put",.ref t])) q1 (.put xs):=⟨t,SqT.of aF,m1.tup hX⟩;have w22:=m1.tup (kA _ _ w21);have w42:∀p∈its,SqT K (upd G0 q1 (.tup [.str "put",.ref t])) p.1 ((pl p.2).map V.int):=fun p hp=>m1.tup (kA _ _ (w41 p hp));have hX2:=m1.tup hX;have cB:=cA.same m1;have xB:au cp H1' (upd G0 q1 (.tup [.str "put",.ref t])):=xA.trans (m1.x cp);generalize (upd G0 q1 (.tup [.str "put",.ref t]))=G1 at *;refine⟨_,rfl,_,_,rfl,rfl,_,rfl,tt,_,rfl,.inr w22,fun l2 hl2=> ?_⟩;have n2:=aO hl2 (.lst (its.map fun p=>V.ref p.1));have hX3:=n2.tup hX2;refine⟨_,rfl,t,_,rfl,hX3,fun hz=> ?_⟩;let qj:Nat->List V->St->Hp->Prop:=fun i acc σ H'=>Same (upd G1 l2 (.lst (its.map fun p=>V.ref p.1))) H'/\cQ K H' acc ((putL n (xs.take i)).map pairD)/\∃o,σ=[o,some (.int n)];refine Cm (xs:=xs.map V.int) qj ⟨Same.refl _,.nil,_,rfl⟩ (fun i acc σ H' _ p=>by exact p.1.tup hX3) (fun i acc σ H' hi p=> ?_) hz (fun i x acc σ H' hx' p=> ?_) (fun acc σ H' p=> ?_)
  ·have:=p.2.1.len;unfold putL at this;rw[aL,aL,tL]at this;omega
  ·obtain⟨sm,hd,o',rfl⟩:=p;rw[dU]at hx';cases ex:xs[i]? with
   |none=>rw[ex]at hx';cases hx'
   |some x0=>
    rw[ex]at hx';cases hx';refine⟨_,rfl,_,rfl,(by show 2<=sizeLine;decide),fun q2 hq2=> ?_⟩;have n2:=aO hq2 (.tup [.int x0,.int n]);refine⟨sm.trans n2,?_,_,rfl⟩;have e:putL n (xs.take (i+1))=putL n (xs.take i)++[(x0,n)]:=by unfold putL;rw[vm,ex,bV];rfl
    rw[e,bV];exact(hd.same n2).append (.cons (.tup (SqT.of aF) (.cons (.int _) (.cons (.int _) .nil))) .nil)
  intro p1 hp1;obtain⟨sm,hd,_⟩:=p;rw[aL,rQ]at hd;have n1:=aO hp1 (.lst acc);have hacc:(upd H' p1 (.lst acc)) p1=some (.lst acc):=aF;have hd1:=hd.same n1;have s2:=sm.trans n1;have aa9:=s2 _ _ (aF (H:=G1) (a:=l2) (o:= .lst (its.map fun p=>V.ref p.1)));have s12:=n2.trans s2;generalize (upd H' p1 (.lst acc))=G2 at *;obtain⟨jq,Z6,Z1,jqT⟩:=ji hd1;have ljq:jq.length=xs.length:=by
   have:=kO List.length Z1;unfold putL at this;rw[aL,aL]at this;exact this
  refine⟨l2,p1,_,_,rfl,rfl,aa9,hacc,by rw[Z6,aL,aL,gU];omega,fun l3 hl3=> ?_⟩;have n3:=aO hl3 (.lst ((its.map fun p=>V.ref p.1)++acc));have Nf:(upd G2 l3 (.lst ((its.map fun p=>V.ref p.1)++acc))) l3=some (.lst ((its++jq).map fun p=>V.ref p.1)):=by rw[aF,Z6,bV]
  have n23:=s12.trans n3;have jq3:∀p∈jq,SqT K (upd G2 l3 (.lst ((its.map fun p=>V.ref p.1)++acc))) p.1 ((pl p.2).map V.int):=fun p hp=>n3.tup (jqT p hp);generalize (upd G2 l3 (.lst ((its.map fun p=>V.ref p.1)++acc)))=G3 at *;have jT:∀p∈its++jq,SqT K G3 p.1 ((pl p.2).map V.int):=fun p hp'=>by
   rcases oY.mp hp' with z|z
   ·exact n23.tup (w42 p z)
   ·exact jq3 p z
  have PB:((its++jq).map (·.2))=ts++putL n xs:=by rw[bV,m7,Z1]
  have hq2:aM (n+1) ((its++jq).map (·.2)):=by
   rw[PB];exact Lx hW.pk hx
  have ejl:(its++jq).length<=55:=by rw[qz];omega
  generalize its++jq=jts at *;refine⟨l3,jts.map (fun p=>(p.1,pl p.2)),rfl,by rw[wg];exact SqL.of Nf,fun p hp'=> ?_,by rw[aL];omega,fun l4 its' V9 hperm qb=> ?_⟩
  ·obtain⟨p',hp'',rfl⟩:=jC.mp hp';exact⟨jT p' hp'',by unfold pl;simp⟩
  have n4:=aO V9 (.lst (its'.map fun p=>V.ref p.1));refine⟨l4,_,rfl,.inl ⟨SqL.of aF,fun t1 ht1=>⟨(by show 2<=sizeLine;decide),fun wz Av=>⟨(by show 2<=sizeLine;decide),fun r hr=> ?_⟩⟩⟩⟩;have n5:=aO ht1 (.tup (its'.map fun p=>V.ref p.1));have n6:=aO Av (.tup [.int (n+1),.ref t1]);have n7:=aO hr (.tup [.ref q1,.ref wz]);have n46:=n4.trans (n5.trans n6);obtain⟨us,W,Ls⟩:=Gg (K:=K) (n:=n+1) (by omega) (by omega) hq2 hperm qb (fun p hp'=>n46.tup (jT p hp')) (SqT.of aF) (SqT.of (n6 _ _ aF));rw[PB]at Ls;have n27:=n23.trans (n46.trans n7);exact qq r q1 wz (.put xs) (n+1) us _ (x1.trans (xB.trans (n27.x cp))) ((cB.same n27).mono (by omega)) (SqT.of aF) (hD.tk n27.tk) ⟨hx,n9⟩ (W.same n7) ⟨rfl,fun p=>Ls.mem_iff.trans oY⟩
 |false=>
  refine iteF ?_;have n0:n≠0:=hne rfl
  try dsimp only[tNext]
  refine Hv (fun b H'=>H'=H1'/\(b=false->2<=n)) (fun N hN=> ?_) ?_
  ·refine⟨_,rfl,_,_,rfl,rfl,_,rfl,?_⟩;refine ite2 (fun c=>hN _ _ ⟨rfl,fun z=>nomatch z⟩) (fun c=> ?_);have n2:2<=n:=by
    have:¬n<2:=fun z=>c (cW z);omega
   refine⟨_,rfl,rfl,_,rfl,?_⟩;refine ite2 (fun c2=> ?_) (fun c2=>hN _ _ ⟨rfl,fun _=>n2⟩);exact⟨_,rfl,_,_,rfl,rfl,_,rfl,hN _ _ ⟨rfl,fun _=>n2⟩⟩
  rintro b2 RM ⟨rfl,hge⟩;cases b2 with
  |true=>
   refine iteT ?_;refine⟨(by show 1<=sizeLine;decide),fun q1 hq1=> ?_⟩;have m1:=aO hq1 (.tup [.str "drop"]);have hD:jx K (upd RM q1 (.tup [.str "drop"])) q1 .drop:=SqT.of aF;have cB:=c1.same m1;have w22:=m1.tup w21;have w42:∀p∈its,SqT K (upd RM q1 (.tup [.str "drop"])) p.1 ((pl p.2).map V.int):=fun p hp=>m1.tup (w41 p hp);generalize (upd RM q1 (.tup [.str "drop"]))=G1 at *;refine⟨_,rfl,_,_,rfl,rfl,_,rfl,tt,_,rfl,w22,fun hz=> ?_⟩;let Bw:Nat->List V->St->Hp->Prop:=fun i acc σ H'=>acc=((its.take i).filter fun p=>decide (p.2.2<n-1)).map (fun p=>V.ref p.1)/\H'=G1/\∃o,σ=[o,some (.int n)];refine Cm (xs:=its.map fun p=>V.ref p.1) Bw ⟨rfl,rfl,_,rfl⟩ (fun i acc σ H' _ p=>by rw[p.2.1];exact w22) (fun i acc σ H' hi p=> ?_) hz (fun i x acc σ H' hx p=> ?_) (fun acc σ H' p=> ?_)
   ·rw[p.1,aL];exact cV (wk _ _) (by rw[tL];exact Fz _ _)
   ·obtain⟨rfl,rfl,o,rfl⟩:=p;rw[dU]at hx;cases ex:its[i]? with
    |none=>rw[ex]at hx;cases hx
    |some it=>
     rw[ex]at hx;cases hx;have hit:=w42 it (tM ex);have go:(its.take (i+1)).filter (fun p=>decide (p.2.2<n-1))=(its.take i).filter (fun p=>decide (p.2.2<n-1))++(if decide (it.2.2<n-1)=true then[it]else[]):=by
      rw[vm,ex,FN];congr 1;show List.filter _ [it]=_;rw[FJ];rfl
     refine⟨_,rfl,it.1,_,_,.int it.2.2,rfl,rfl,hit,rfl,_,rfl,_,_,rfl,rfl,_,_,rfl,rfl,_,rfl,?_⟩;refine ite2 (fun c=> ?_) (fun c=> ?_)
     ·exact⟨_,rfl,by rw[go,aD c,bV];rfl,rfl,_,rfl⟩
     ·exact⟨by rw[go,aA c,Cr],rfl,_,rfl⟩
   intro p1 hp1;obtain⟨rfl,rfl,_⟩:=p;rw[aL,rQ];generalize Aw:its.filter (fun p=>decide (p.2.2<n-1))=jts at *;have jm:jts.map (·.2)=ts.filter fun p=>decide (p.2<n-1):=by
    rw[<-Aw,<-m7,wes];rfl
   have n1:=aO hp1 (.lst (jts.map fun p=>V.ref p.1));refine⟨p1,_,rfl,.inl ⟨SqL.of aF,fun t1 ht1=>⟨(by show 2<=sizeLine;decide),fun wz Av=>⟨(by show 2<=sizeLine;decide),fun r hr=> ?_⟩⟩⟩⟩;have n2:=aO ht1 (.tup (jts.map fun p=>V.ref p.1));have n3:=aO Av (.tup [.int (n-1),.ref t1]);have n4:=aO hr (.tup [.ref q1,.ref wz]);have n13:=n1.trans (n2.trans n3);have Dv:=jd (K:=K) jts (fun p hp=>n13.tup (w42 p (by rw[<-Aw]at hp;exact(fL.mp hp).1)));rw[jm]at Dv;have ok:=wU (n:=n-1) (by omega) (by omega) (hW.wZ.filter _) fun p (hp:p∈ts.filter fun p=>decide (p.2<n-1))=>by
    obtain⟨m1,m2⟩:=fL.mp hp;have:=hW.pk.lt p m1;have:=fJ m2;omega
   have n14:=n13.trans n4;have W:aQ K _ wz (n-1) _:=⟨⟨t1,_,SqT.of aF,SqT.of (n3 _ _ aF),Dv⟩,by omega,by omega,ok.1,ok.2⟩;exact qq r q1 wz .drop (n-1) _ _ (x1.trans ((m1.x cp).trans (n14.x cp))) ((cB.same n14).mono (by omega)) (SqT.of aF) (hD.tk n14.tk) (show 0<n by omega) (W.same n4) ⟨rfl,fun p=>by rw[fL,Gb]⟩
  |false=>
   refine iteF ?_;have n2:=hge rfl;refine⟨_,rfl,_,rfl,cp,bU,ns,n,_,rfl,c1,by omega,by omega,by omega,fun i H2 i0 i1 x2 c2=> ?_⟩;refine⟨_,rfl,_,_,rfl,rfl,_,rfl,_,rfl,_,_,rfl,rfl,cp,bU,ns,n-1,_,rfl,c2,by omega,by omega,by omega,fun j0 H3 j00 j01 x3 c3=>⟨_,_,rfl,rfl,_,rfl,_,_,rfl,rfl,by omega,?_⟩⟩;have hj0:0<=(i+1+j0) %n:=Int.emod_nonneg _ (by omega);have hj1:(i+1+j0) %n<n:=Int.emod_lt_of_pos _ (by omega);have hij:i≠(i+1+j0) %n:=fun e=>by
    by_cases c:i+1+j0<n
    ·rw[Int.emod_eq_of_lt (by omega) c]at e;omega
    ·have:(i+1+j0) %n=i+1+j0-n:=by
      rw[<-Int.sub_emod_right,Int.emod_eq_of_lt (by omega) (by omega)]
     omega
   show gName _ _ _ _ _
   try dsimp only
   generalize (i+1+j0) %n=j at *;have x13:=x2.trans x3;have k3:TK K RM H3:=x13.tk hz1;have w23:=k3 _ _ w21;have w43:∀p∈its,SqT K H3 p.1 ((pl p.2).map V.int):=fun p hp=>k3 _ _ (w41 p hp);have W3:=W1.fX x13 hz1;have two:Two n i j:=⟨i0,i1,hj0,hj1,hij⟩;have lh:=Y9 i0 i1 hj0 hj1 hij;refine⟨_,rfl,_,rfl,i,j,rfl,_,rfl,_,rfl,i,j,rfl,(by show 2<=sizeLine;decide),fun pp hpp=> ?_⟩;have m1:=aO hpp (.tup [.int (lo2 i j),.int (hi2 i j)]);have hP:SqT K (upd H3 pp (.tup [.int (lo2 i j),.int (hi2 i j)])) pp [.int (lo2 i j),.int (hi2 i j)]:=SqT.of aF;have cB:=c3.same m1;have w24:=m1.tup w23;have w44:∀p∈its,SqT K (upd H3 pp (.tup [.int (lo2 i j),.int (hi2 i j)])) p.1 ((pl p.2).map V.int):=fun p hp=>m1.tup (w43 p hp);have xB:au cp H (upd H3 pp (.tup [.int (lo2 i j),.int (hi2 i j)])):=x1.trans (x13.trans (m1.x cp));show gName _ _ _ (upd H3 pp (.tup [.int (lo2 i j),.int (hi2 i j)])) _;generalize (upd H3 pp (.tup [.int (lo2 i j),.int (hi2 i j)]))=G1 at *;have Dv1:=jd (K:=K) its w44;rw[m7]at Dv1;refine⟨_,rfl,_,rfl,tt,_,_,pairD (lo2 i j,hi2 i j),rfl,.inr w24,Dv1,.tup hP (.cons (.int _) (.cons (.int _) .nil)),jh ts,rfl,(by show max 0 (max 0 0)+1<=60;decide),_,rfl,?_⟩;rw[uV];refine ite2 (fun c=> ?_) (fun c=> ?_)
   ·have hin:=fJ c;refine⟨_,rfl,_,rfl,(by show 3<=sizeLine;decide),fun q1 hq1=> ?_⟩;have m2:=aO hq1 (.tup [.str "untie",.int i,.int j]);have hD:jx K (upd G1 q1 (.tup [.str "untie",.int i,.int j])) q1 (.Us i j):=SqT.of aF;have w25:=m2.tup w24;have w45:∀p∈its,SqT K (upd G1 q1 (.tup [.str "untie",.int i,.int j])) p.1 ((pl p.2).map V.int):=fun p hp=>m2.tup (w44 p hp);have hP2:=m2.tup hP;have cC:=cB.same m2;have xC:=xB.trans (m2.x cp);generalize (upd G1 q1 (.tup [.str "untie",.int i,.int j]))=G2 at *;refine⟨_,rfl,_,rfl,tt,_,rfl,w25,fun hz=> ?_⟩;let WR:Nat->List V->St->Hp->Prop:=fun k acc σ H'=>acc=((its.take k).filter fun p=> !decide (p.2=(lo2 i j,hi2 i j))).map (fun p=>V.ref p.1)/\H'=G2/\∃o,σ=[o,some (.ref pp)];refine Cm (xs:=its.map fun p=>V.ref p.1) WR ⟨rfl,rfl,_,rfl⟩ (fun i acc σ H' _ p=>by rw[p.2.1];exact w25) (fun i acc σ H' hi p=> ?_) hz (fun k x acc σ H' hx p=> ?_) (fun acc σ H' p=> ?_)
    ·rw[p.1,aL];exact cV (wk _ _) (by rw[tL];exact Fz _ _)
    ·obtain⟨rfl,rfl,o',rfl⟩:=p;rw[dU]at hx;cases ex:its[k]? with
     |none=>rw[ex]at hx;cases hx
     |some it=>
      rw[ex]at hx;cases hx;have hit:=w45 it (tM ex);have go:(its.take (k+1)).filter (fun p=> !decide (p.2=(lo2 i j,hi2 i j)))=(its.take k).filter (fun p=> !decide (p.2=(lo2 i j,hi2 i j)))++(if(!decide (it.2=(lo2 i j,hi2 i j)))=true then[it]else[]):=by
       rw[vm,ex,FN];congr 1;show List.filter _ [it]=_;rw[FJ];rfl
      refine⟨_,rfl,_,rfl,pairD it.2,pairD (lo2 i j,hi2 i j),.tup hit (.cons (.int _) (.cons (.int _) .nil)),.tup hP2 (.cons (.int _) (.cons (.int _) .nil)),rfl,rfl,(by show min (max 0 (max 0 0)+1) (max 0 (max 0 0)+1)<=64;decide),_,rfl,?_⟩;rw[lV];refine ite2 (fun c=> ?_) (fun c=> ?_)
      ·exact⟨_,rfl,by rw[go,aD c,bV];rfl,rfl,_,rfl⟩
      ·exact⟨by rw[go,aA c,Cr],rfl,_,rfl⟩
    intro p1 hp1;obtain⟨rfl,rfl,_⟩:=p;rw[aL,rQ];generalize Aw:its.filter (fun p=> !decide (p.2=(lo2 i j,hi2 i j)))=jts at *;have jm:jts.map (·.2)=ts.filter fun p=> !decide (p=(lo2 i j,hi2 i j)):=by
     rw[<-Aw,<-m7,wes];rfl
    have n1:=aO hp1 (.lst (jts.map fun p=>V.ref p.1));refine⟨p1,_,rfl,.inl ⟨SqL.of aF,fun t1 ht1=>⟨(by show 2<=sizeLine;decide),fun wz Av=>⟨(by show 2<=sizeLine;decide),fun r hr=> ?_⟩⟩⟩⟩;have n2:=aO ht1 (.tup (jts.map fun p=>V.ref p.1));have n3:=aO Av (.tup [.int n,.ref t1]);have n4:=aO hr (.tup [.ref q1,.ref wz]);have n13:=n1.trans (n2.trans n3);have Dv:=jd (K:=K) jts (fun p hp=>n13.tup (w45 p (by rw[<-Aw]at hp;exact(fL.mp hp).1)));rw[jm]at Dv;have ok:=wU (n:=n) h0 h10 (hW.wZ.filter _) fun p (hp:p∈ts.filter fun p=> !decide (p=(lo2 i j,hi2 i j)))=>hW.pk.lt p (fL.mp hp).1;have n14:=n13.trans n4;have W:aQ K _ wz n _:=⟨⟨t1,_,SqT.of aF,SqT.of (n3 _ _ aF),Dv⟩,h0,h10,ok.1,ok.2⟩;exact qq r q1 wz (.Us i j) n _ _ (xC.trans (n14.x cp)) ((cC.same n14).mono (by omega)) (SqT.of aF) (hD.tk n14.tk) ⟨two,hin⟩ (W.same n4) ⟨rfl,fun p=>by rw[fL,way,Yt]⟩
   ·have hin:(lo2 i j,hi2 i j)∉ts:=fun z=>c (cW z);refine⟨_,rfl,_,rfl,(by show 3<=sizeLine;decide),fun q1 hq1=> ?_⟩;have m2:=aO hq1 (.tup [.str "tie",.int i,.int j]);have hD:jx K (upd G1 q1 (.tup [.str "tie",.int i,.int j])) q1 (.tie i j):=SqT.of aF;have w25:=m2.tup w24;have w45:∀p∈its,SqT K (upd G1 q1 (.tup [.str "tie",.int i,.int j])) p.1 ((pl p.2).map V.int):=fun p hp=>m2.tup (w44 p hp);have hP2:=m2.tup hP;have cC:=cB.same m2;have xC:=xB.trans (m2.x cp);generalize (upd G1 q1 (.tup [.str "tie",.int i,.int j]))=G2 at *;refine⟨_,rfl,_,rfl,_,rfl,(by show 1<=sizeLine;decide),fun q3 hq3=> ?_⟩;have n2:=aO hq3 (.tup [.ref pp]);refine⟨tt,q3,_,_,rfl,rfl,n2.tup w25,SqT.of aF,by rw[aL,gU];show its.length+1<=_;omega,fun ca G4 n3 ec1=> ?_⟩;have n23:=n2.trans n3;have jT:∀p∈its++[(pp,(lo2 i j,hi2 i j))],SqT K G4 p.1 ((pl p.2).map V.int):=fun p hp'=>by
     rcases oY.mp hp' with z|z
     ·exact n23.tup (w45 p z)
     ·rw[iD.mp z];exact n23.tup hP2
    have hq:aM n ((its++[(pp,(lo2 i j,hi2 i j))]).map (·.2)):=by
     rw[bV,m7];refine⟨List.nodup_append.mpr ⟨hW.pk.nd,(Pu _ _),fun x hx y hy e=> ?_⟩,fun p hp'=> ?_⟩
     ·have:y=(lo2 i j,hi2 i j):=iD.mp hy;rw[e,this]at hx;exact hin hx
     ·rcases oY.mp hp' with z|z
      ·exact hW.pk.lt p z
      ·have:p=(lo2 i j,hi2 i j):=iD.mp z;rw[this];exact lh
    have ejl:(its++[(pp,(lo2 i j,hi2 i j))]).length<=46:=by rw[qz];show _+1<=_;omega
    have ej:(its.map (fun p=>V.ref p.1))++[V.ref pp]=(its++[(pp,(lo2 i j,hi2 i j))]).map fun p=>V.ref p.1:=by rw[bV];rfl
    rw[ej]at ec1;have PB:((its++[(pp,(lo2 i j,hi2 i j))]).map (·.2))=ts++[(lo2 i j,hi2 i j)]:=by rw[bV,m7];rfl
    generalize its++[(pp,(lo2 i j,hi2 i j))]=jts at *;refine⟨ca,jts.map (fun p=>(p.1,pl p.2)),rfl,by rw[wg];exact ec1,fun p hp'=> ?_,by rw[aL];omega,fun l1 its' hl1 hperm qb=> ?_⟩
    ·obtain⟨p',hp'',rfl⟩:=jC.mp hp';exact⟨jT p' hp'',by unfold pl;simp⟩
    have n4:=aO hl1 (.lst (its'.map fun p=>V.ref p.1));refine⟨l1,_,rfl,.inl ⟨SqL.of aF,fun t1 ht1=>⟨(by show 2<=sizeLine;decide),fun wz Av=>⟨(by show 2<=sizeLine;decide),fun r hr=> ?_⟩⟩⟩⟩;have n5:=aO ht1 (.tup (its'.map fun p=>V.ref p.1));have n6:=aO Av (.tup [.int n,.ref t1]);have n7:=aO hr (.tup [.ref q1,.ref wz]);have n46:=n4.trans (n5.trans n6);obtain⟨us,W,Ls⟩:=Gg (K:=K) (n:=n) h0 h10 hq hperm qb (fun p hp'=>n46.tup (jT p hp')) (SqT.of aF) (SqT.of (n6 _ _ aF));rw[PB]at Ls;have n27:=n23.trans (n46.trans n7);exact qq r q1 wz (.tie i j) n us _ (xC.trans (n27.x cp)) ((cC.same n27).mono (by omega)) (SqT.of aF) (hD.tk n27.tk) ⟨two,hin⟩ (W.same n7) ⟨rfl,fun p=>Ls.mem_iff.trans (oY.trans (or_congr_right iD))⟩
noncomputable def spLaw(K:W.Frag):Sp:=fun vs H Q _=>∃(a:Addr) (ns:List Int),vs=[.ref a]/\su K H a ns/\ns.length<=63/\∀H',Q (.bl true) H'
theorem KH{H:Hp}{a:Addr}{ns:List Int}(hl:ns.length<=63)(hO:Only H)(hS:SqL K H a (ns.map V.int)):spLaw K [.ref a] H (fun v _=>v= .bl true) fun _ _ _=>False:=by
 refine⟨a,ns,rfl,?_,hl,fun _=>rfl⟩;rcases hS with(h|⟨o,h⟩)|h
 ·rcases hO a with q|⟨o,xs,q⟩
  ·rw[q]at h;cases h
  ·rw[q]at h;cases h
 ·exact .inl ⟨o,h⟩
 ·exact .inr h
theorem Kh{H:Hp}{a p:Addr}{ns:List Int}(hS:su K H a ns)(h63:ns.length<=63)(hp:H p=none):rN K (upd H p (.lst [.ref a,.int 0,.int 0])) p a ns:=
 ⟨⟨0,0,aF,rP _,rP _⟩,hS.same (aO hp _),h63⟩
theorem RJ{H:Hp}{a p:Addr}{ns:List Int}(hS:su K H a ns)(h63:ns.length<=63)(hp:H p=none):cZ K (upd H p (.lst [.ref a,.int 0,.int 0])) p a ns 0:=
 ⟨Kh hS h63 hp,0,0,aF,rP _⟩
theorem _root_.L2.cZ.ins{H H':Hp}{tp bU o C dx:Addr}{ns:List Int}{b:Int}{fs:List (Str×V)}(h:cZ K H tp bU ns b)(e:au o H H')(hO:H o=some (.ins C dx fs)):cZ K H' tp bU ns b:=by
 obtain⟨⟨⟨i,r,h1,h2,h3⟩,h4,h5⟩,i',r',h6,h7⟩:=h;have ne:tp≠o:=fun z=>by rw[z,hO]at h1;cases h1
 refine⟨⟨⟨i,r,e _ _ ne h1,h2,h3⟩,?_,h5⟩,i',r',e _ _ ne h6,h7⟩;rcases h4 with⟨ob,h⟩|h
 ·exact .inl ⟨ob,e _ _ (fun z=>by rw[z,hO]at h;cases h) h⟩
 ·exact .inr h
theorem cM.other{C o c C' dx:Addr}{H H':Hp}{S:Sd}{fs:List (Str×V)}(h:cM K C H o S)(e:au c H H')(hc:H c=some (.ins C' dx fs))(ne:o≠c):cM K C H' o S:=by
 obtain⟨dx',wb,va,lr,pr,h1,h2,h3,h4,h5,h6,h7⟩:=h;have k:TK K H H':=e.JR hc;exact⟨dx',wb,va,lr,pr,e _ _ ne h1,h2.tk k,k _ _ h3,e _ _ (fun z=>by rw[z,hc]at h4;cases h4) h4,h5.tk k,e _ _ (fun z=>by rw[z,hc]at h6;cases h6) h6,h7.tk k⟩
theorem K7{f:Nat->Int}{c:Int}:∀k,(∀i,i<k->f i<=c)->Sx.sm k f<=(k:Int)*c
 |0,_=>by rw[show((0:Nat):Int)=0 from rfl,Fx];exact rP _
 |k+1,h=>by
  have a:=K7 k fun i hi=>h i (by omega);have b:=h k (by omega);have e:((k+1:Nat):Int)*c=(k:Int)*c+c:=by rw[Int.natCast_add,Yj];simp
  rw[e];exact wdh a b
theorem gD.num{n:Int}{ts:L0}{f:Int×Nat}(h:gD n ts f)(hn:n<=10):f.1.natAbs<=399168000:=by
 obtain⟨ss,ov,Z,Y,X,hS,h,rfl⟩:=h;have z0:0<=Z:=by rw[<-h.tot];exact Sx.uf _ fun k _=>h.yn k
 have z1:Z<=(n.toNat:Int)*(ov:Int):=by
  rw[<-h.Ye];refine K7 _ fun p hp=> ?_;rw[qG hp,zp];have sk:iV ts false n.toNat [(p:Int)]:=⟨Pu _ _,fun x hx=>by rw[iD.mp hx];omega,fun x hx y hy hn=>absurd ((iD.mp hx).trans (iD.mp hy).symm) hn⟩;have:=jk hS h sk;rw[Sx.cR (j:=p) _ hp fun i _ hi=>aA (by simp;omega),aD (by simp)]at this;exact this
 have big:=h.big;have z2:(n.toNat:Int)*(ov:Int)<=10*39916800:=wew (by omega) (by omega) (by omega) (by decide);have l:=(yP Z h.pos).lu;omega
theorem Mj{f:Addr}{fd:ρ}(F:Fun K "_law_e_tied" "_law_e_tied" jK f fd)(uJ:mg "min"=none)(Ah:mg "max"=none):
  FnOk P w K mg base CX0 1 f fd ["web","one","other"] (rE K):=by
 refine F.cH ["web","one","other"] fun cdv A outer s H vs Q E hr h=> ?_;obtain⟨a,n,i,j,ts,rfl,hW,q⟩:=h;refine⟨_,(aV (bK (Ca (xT hr.units) (fU (aj (pB (call_min2 rfl) uJ (aj (pv 1) (aj (pv 2) ak))) (aj (pB (call_max2 rfl) Ah (aj (pv 1) (aj (pv 2) ak))) ak))) (aR cI (pv 0) aB) (by with_unfolding_all rfl)))),?_⟩;refine⟨_,rfl,_,rfl,_,_,rfl,_,rfl,_,rfl,_,_,rfl,(by show 2<=sizeLine;decide),fun p hp=> ?_⟩;have sm:=aO hp (.tup [.int (if j<i then j else i),.int (if j>i then j else i)]);obtain⟨t,rs,h1,h2,h3⟩:=hW.same sm;refine⟨_,rfl,a,_,_,.ref t,rfl,rfl,h1,rfl,t,rs,_,pairD (if j<i then j else i,if j>i then j else i),rfl,.inr h2,h3,.tup (SqT.of aF) (.cons (.int _) (.cons (.int _) .nil)),jh ts,rfl,(by show max 0 (max 0 0)+1<=60;decide),?_⟩;rw[uV];exact q _ sm
end
noncomputable def iU(ts:L0)(xs:List Int):List (List Int):=xs.foldl (fun found p=>found++(found.filter fun s=> !s.any fun o=>bQ ts o p).map fun s=>s++[p]) [[]]
theorem qY(ts:L0)(xs:List Int)(p:Int):iU ts (xs++[p])=iU ts xs++((iU ts xs).filter fun s=> !s.any fun o=>bQ ts o p).map fun s=>s++[p]:=by
 unfold iU;rw[List.foldl_append];rfl
theorem sub_one{v:List Int}{p:Int}(h:v.Sublist [p]):v=[]\/v=[p]:=by
 cases h with
 |cons _ h=>exact .inl (List.sublist_nil.mp h)
 |cons_cons _ h=>exact .inr (by rw[List.sublist_nil.mp h])
structure ApS(ts:L0)(xs s:List Int):Prop where
 sub:s.Sublist xs
 ap:s.Pairwise fun a b=>bQ ts a b=false
theorem Ag{ts:L0}{s:List Int}:∀{k:Nat} {xs:List Int},xs.length=k->(s∈iU ts xs↔ApS ts xs s):=by
 intro k
 induction k generalizing s with
 |zero=>
  intro xs hl;have:xs=[]:=wcf hl;subst this;constructor
  ·intro h;rw[iD.mp (show s∈[[]]from h)];exact⟨wdo _,List.Pairwise.nil⟩
  ·intro h;rw[List.sublist_nil.mp h.sub];exact iD.mpr rfl
 |succ k ih=>
  intro xs hl;have hne:xs≠[]:=fun e=>by rw[e]at hl;cases hl
  obtain⟨ys,p,rfl⟩:∃ys p,xs=ys++[p]:=⟨xs.dropLast,xs.getLast hne,(wcl hne).symm⟩;have hk:ys.length=k:=by rw[qz]at hl;exact Nat.succ.inj hl
  rw[qY,oY];constructor
  ·rintro(h|h)
   ·have S:=(ih hk).mp h;exact⟨S.sub.trans (wdp _ _),S.ap⟩
   ·obtain⟨u,hu,rfl⟩:=jC.mp h;obtain⟨u1,u2⟩:=fL.mp hu;have S:=(ih hk).mp u1;refine⟨S.sub.append (wdo _),?_⟩;rw[R6];refine⟨S.ap,Pu _ _,fun a ha b hb=> ?_⟩;rw[iD.mp hb];rw[way,Xd]at u2;exact Bool.eq_false_iff.mpr (u2 a ha)
  ·intro S;obtain⟨u,v,rfl,hu,hv⟩:=List.sublist_append_iff.mp S.sub;rcases sub_one hv with rfl|rfl
   ·refine .inl ((ih hk).mpr ⟨by rw[Cr];exact hu,S.ap⟩)
   ·refine .inr (jC.mpr ⟨u,fL.mpr ⟨(ih hk).mpr ⟨hu,(R6.mp S.ap).1⟩,?_⟩,rfl⟩);rw[way,Xd];intro a ha;rw[(R6.mp S.ap).2.2 a ha p (iD.mpr rfl)];decide
theorem Bs(ts:L0):∀(k:Nat) (xs:List Int),xs.length=k->(iU ts xs).length<=2^k
 |0,xs,h=>by rw[wcf h];exact aY _
 |k+1,xs,h=>by
  have hne:xs≠[]:=fun e=>by rw[e]at h;cases h
  obtain⟨ys,p,rfl⟩:∃ys p,xs=ys++[p]:=⟨xs.dropLast,xs.getLast hne,(wcl hne).symm⟩;have hk:ys.length=k:=by rw[qz]at h;exact Nat.succ.inj h
  rw[qY,qz,aL,wfd];have h1:=Bs ts k ys hk;have h2:=wk (fun s:List Int=> !s.any fun o=>bQ ts o p) (iU ts ys);omega
section
variable{P:ξ}{w:τ}{K:W.Frag}{mg:L4}{base:Heap}
noncomputable def xr(K:W.Frag):Sp:=fun vs H Q _=>∃(a l:Addr) (n:Int) (ts:L0) (xs:List Int),vs=[.ref a,.ref l]/\aQ K H a n ts/\SqL K H l (xs.map V.int)/\xs.length<=10/\∀r H',Same H H'->uX K H' r (iU ts xs)->Q (.ref r) H'
theorem EY(ts:L0){xs:List Int}(h:xs.length<=10):(iU ts xs).length<=1024:=cV (Bs ts _ xs rfl) (Nat.pow_le_pow_right (by decide) h)
theorem JH{ts:L0}{xs s:List Int}(h:xs.length<=10)(hs:s∈iU ts xs):s.length<=10:=cV ((Ag rfl).mp hs).sub.length_le h
theorem Mp{f f1:Addr}{fd d1:ρ}(F:Fun K "_law_e_apart_sets" "_law_e_apart_sets" zbr f fd)(D1:bL K mg "_law_e_tied" jK ["web","one","other"] f1 d1)(G1:FnOk P w K mg base CX0 1 f1 d1 ["web","one","other"] (rE K))(Mz:mg "any"=none):
  FnOk P w K mg base CX0 2 f fd ["web","left"] (xr K):=by
 refine F.cH ["web","left","found","place","more"] fun cdv A outer s H vs Q E hr h=> ?_;obtain⟨a,l,n,ts,xs,rfl,hA,hL,abJ,q⟩:=h;refine⟨_,(aP (pS 2 (pe_lst (aj (fU ak) ak))) (aP (ps_for yW rfl (sO (pv 1)) (pG 3) (aP (pX 4 ["some"] ["web","place"] [0,3] (sO (pv 2)) (pG 0) (Ck (lC (j9 (pB (JG K rfl) Mz (aj (pK ["one"] ["web","place"] [1,2] (Ly K (pv 0)) (pG 0) oR (pc G1 hr D1 (aj (pv 1) (aj (pv 0) (aj (pv 2) ak))))) ak))))) (bC (Aa K) (pv 0) (fU (aj (pv 2) ak)))) (aV (pS 2 (bC op_cat (pv 2) (pv 4)))))) (aV (bK (pv 2))))),?_⟩;refine⟨(by show 0<=sizeLine;decide),fun e0 he0=>⟨(by show 1<=sizeLine;decide),fun fo hfo=> ?_⟩⟩;have s1:=(aO he0 (.tup [])).trans (aO hfo (.lst [.ref e0]));have f0:uX K (upd (upd H e0 (.tup [])) fo (.lst [.ref e0])) fo (iU ts []):=⟨[(e0,[])],aF,fun p hp=>by rw[iD.mp hp];exact(aO hfo (.lst [.ref e0])).tup (SqT.of aF),rfl⟩;generalize upd (upd H e0 (.tup [])) fo (.lst [.ref e0])=H1 at *;refine⟨_,rfl,l,_,rfl,s1.seq hL,fun _=> ?_⟩;refine for_list (K:=K) (a:=l) (xs:=xs.map V.int) (fun i σ H'=>Same H H'/\∃fo o3 o4,uX K H' fo (iU ts (xs.take i))/\σ=[some (.ref a),some (.ref l),some (.ref fo),o3,o4]) ⟨s1,fo,_,_,f0,rfl⟩ (fun i σ H' _ p=>p.1.seq hL) (fun i x σ H' hx p=> ?_) (fun σ H' p=> ?_)
 ·obtain⟨sm,fo,o3,o4,⟨its,i1,i2,i3⟩,rfl⟩:=p;rw[dU]at hx;cases ex:xs[i]? with
  |none=>rw[ex]at hx;cases hx
  |some p=>
   rw[ex]at hx;cases hx;have tl:(xs.take i).length<=10:=by rw[tL];omega
   have il:its.length<=1024:=by
    have e1:its.length=(iU ts (xs.take i)).length:=by rw[<-i3,aL]
    have:=EY ts tl;omega
   refine⟨_,rfl,fo,_,rfl,SqL.of i1,fun hz=> ?_⟩;refine yQ (xs:=its.map fun q=>V.ref q.1) (fun k acc σ H2=>Same H' H2/\acc.length<=k/\(∃jt:List (Addr×List Int),acc=jt.map (fun q=>V.ref q.1)/\(∀q∈jt,SqT K H2 q.1 (q.2.map V.int))/\jt.map (fun q=>q.2)=(((its.take k).map fun q=>q.2).filter fun s=> !s.any fun o=>bQ ts o p).map fun s=>s++[p])/\∃o,σ=[o,some (.ref a),some (.int p)])
    ⟨Same.refl _,aY _,⟨[],rfl,fun q hq=>(nomatch hq),rfl⟩,_,rfl⟩ (fun k acc σ H2 _ p=>p.1.seq (SqL.of i1)) (fun k acc σ H2 _ p=>p.2.1) hz (fun k x acc σ H2 hx pp=> ?_) (fun acc σ H2 pp=> ?_)
   ·obtain⟨s2,hk,⟨jt,rfl,j2,j3⟩,o,rfl⟩:=pp;rw[dU]at hx;cases ek:its[k]? with
    |none=>rw[ek]at hx;cases hx
    |some v=>
     rw[ek]at hx;cases hx;have hv:=i2 v (tM ek);have vl:v.2.length<=10:=JH tl (by rw[<-i3];exact jC.mpr ⟨v,tM ek,rfl⟩);have et:((its.take (k+1)).map fun q=>q.2)=((its.take k).map fun q=>q.2)++[v.2]:=by rw[vm,ek,bV];rfl
     refine⟨_,rfl,v.1,_,rfl,s2.tup hv,fun hz2=> ?_⟩;refine Cm (xs:=v.2.map V.int) (fun m acc σ H3=>acc=((v.2.take m).map fun o=>bQ ts o p).map V.bl/\Same H2 H3/\∃o,σ=[o,some (.ref a),some (.int p)]) ⟨rfl,Same.refl _,_,rfl⟩ (fun m acc σ H3 _ p=>p.2.1.tup (s2.tup hv)) (fun m acc σ H3 hm p=> ?_) hz2 (fun m x acc σ H3 hx p3=> ?_) (fun acc σ H3 p3=> ?_)
     ·rw[p.1,aL,aL,tL];exact Fz _ _
     ·obtain⟨rfl,s3,o,rfl⟩:=p3;rw[dU]at hx;cases em:v.2[m]? with
      |none=>rw[em]at hx;cases hx
      |some y=>
       rw[em]at hx;cases hx;refine⟨_,rfl,_,rfl,_,rfl,a,n,y,p,ts,rfl,(hA.same (sm.trans (s2.trans s3))).web,fun H4 s4=>⟨?_,s3.trans s4,_,rfl⟩⟩;rw[vm,em,bV,bV];rfl
     ·intro p1 hp1;obtain⟨rfl,s3,_⟩:=p3;rw[aL,rQ];refine⟨p1,v.2.map (fun o=>bQ ts o p),rfl,SqL.of aF,_,rfl,?_⟩;have s4:=s3.trans (aO hp1 (.lst ((v.2.map fun o=>bQ ts o p).map V.bl)));generalize upd H3 p1 (.lst ((v.2.map fun o=>bQ ts o p).map V.bl))=H4 at *;have eb:(v.2.map fun o=>bQ ts o p).any id=v.2.any fun o=>bQ ts o p:=by rw[List.any_map];rfl
      rw[eb,et,FN,bV];cases hb:v.2.any fun o=>bQ ts o p with
      |true=>
       refine iteF ⟨s2.trans s4,by omega,⟨jt,rfl,fun q hq=>s4.tup (j2 q hq),?_⟩,_,rfl⟩;rw[j3,ydx (by rw[hb];decide)];simp
      |false=>
       refine iteT ?_;refine⟨_,rfl,_,rfl,(by show 1<=sizeLine;decide),fun t ht=>⟨v.1,t,_,_,rfl,rfl,(aO ht _).tup ((s2.trans s4).tup hv),SqT.of aF,by rw[aL,gU];show v.2.length+1<=_;omega,fun r H6 s6 hr6=> ?_⟩⟩;have s7:=s4.trans ((aO ht (.tup [.int p])).trans s6);refine⟨s2.trans s7,by rw[qz];show _+1<=k+1;omega,⟨jt++[(r,v.2++[p])],by rw[bV];rfl,fun q hq=> ?_,?_⟩,_,rfl⟩
       ·rcases oY.mp hq with z|z
        ·exact s7.tup (j2 q z)
        ·rw[iD.mp z,bV];exact hr6
       ·rw[bV,j3,ydw (by rw[hb];decide)];rfl
   ·intro p1 hp1;obtain⟨s2,hk,⟨jt,rfl,j2,j3⟩,o,rfl⟩:=pp;have s3:=aO hp1 (.lst (jt.map fun q=>V.ref q.1));have i1':=(s2.trans s3) _ _ i1;have jl:jt.length<=1024:=by rw[aL]at hk;rw[aL]at hk;omega
    refine⟨_,rfl,_,rfl,fo,p1,_,_,rfl,rfl,i1',aF,by rw[aL,aL,gU];omega,fun r hr'=> ?_⟩;have s4:=(s2.trans s3).trans (aO hr' (.lst ((its.map fun q=>V.ref q.1)++jt.map fun q=>V.ref q.1)));refine⟨sm.trans s4,r,_,_,⟨its++jt,by rw[aF,bV],fun q hq=> ?_,?_⟩,rfl⟩
    ·rcases oY.mp hq with z|z
     ·exact s4.tup (i2 q z)
     ·exact(s3.trans (aO hr' _)).tup (j2 q z)
    ·rw[aL,rQ]at j3;rw[vm,ex,bV,j3,i3];exact(qY ts (xs.take i) p).symm
 ·obtain⟨sm,fo,o3,o4,hS,rfl⟩:=p;rw[aL,rQ]at hS;exact⟨_,rfl,q fo H' sm hS⟩
end
end Hs
namespace L2
open PySem PySem.Spec PyProof.Rows
theorem Bq{i:Int}(h:i.natAbs<=10^200):Builtin.Int.intBits i<=2^20:=by
 refine cV (intBits_le_iff.mpr (Ov h)) (by decide+kernel)
section
variable{X:Cx}
theorem xR:OpR X (binaryOp .Mult) (rI (fun i j=>i.natAbs<=10^200/\j.natAbs<=10^200) fun i j=> .int (i*j)):=
 opI fun i j _ _ _ _ _ hc q=>mul_int q (IntMulOk.of_bits (Bq hc.1) (Bq hc.2))
end
end L2
namespace Hs
open PySem L2 oV
section
variable{P:ξ}{w:τ}{K:W.Frag}{mg:L4}{base:Heap}
theorem WL{a:Nat}(h:a<=10^100):(a:Int).natAbs<=10^200:=cV (show a<=10^100 from h) (by decide+kernel)
noncomputable def sW(K:W.Frag):Sp:=fun vs H Q _=>∃(a b:Nat),vs=[.int (a:Int),.int (b:Int)]/\0<b/\b<=10^200/\∀p H' u v,Same H H'->SqT K H' p [.int u,.int ((v:Nat):Int)]->Low (a:Int) b u v->Q (.ref p) H'
theorem zT:FnScope ["top","bottom","one","other"] ["top","bottom"] (defScope W7):=fsc
theorem Mq{f:Addr}{fd:ρ}(F:Fun K "_law_e_part" "_law_e_part" W7 f fd):
  FnOk P w K mg base CX0 1 f fd ["top","bottom"] (sW K):=by
 refine F.cH ["top","bottom","one","other"] fun cdv A outer s H vs Q E hr h=> ?_;obtain⟨a,b,rfl,hb,hB,q⟩:=h;refine bf ?_;intro Y;refine⟨_,(aP (ps_par (i:=2) (j:=3) rfl zT.nd rfl rfl (by decide) rfl rfl (aj (pv 0) (aj (pv 1) ak)) rfl) (aP (ps_while yW (dR op_ne (pv 3) aB) (aV (ps_par (i:=2) (j:=3) rfl zT.nd rfl rfl (by decide) rfl rfl (aj (pv 3) (aj (bC op_mod (pv 2) (pv 3)) ak)) rfl))) (aV (bK (fU (aj (bC pU (pv 0) (pv 2)) (aj (bC pU (pv 1) (pv 2)) ak))))))),?_⟩;refine iw ?_;intro c3 c2;refine⟨_,rfl,_,rfl,_,_,rfl,?_⟩;refine⟨fun k σ H'=>H'=H/\∃(m':Nat),σ=[some (.int (a:Int)),some (.int (b:Int)),some (.int (m':Int)),some (.int (k:Int))]/\Nat.gcd m' k=Nat.gcd a b,⟨b,rfl,a,rfl,rfl⟩,?_⟩;rintro k σ H' ⟨rfl,m',rfl,hg⟩;refine⟨_,rfl,rfl,_,rfl,?_⟩;refine ite2 (fun c=> ?_) (fun c=> ?_)
 ·have hk:0<k:=by
   rcases Uc k with h|h
   ·subst h;exact absurd c (by decide)
   ·exact h
  refine⟨fun σ' H2=>H2=H'/\σ'=[some (.int (a:Int)),some (.int (b:Int)),some (.int (k:Int)),some (.int ((m' %k:Nat):Int))],fun σ' H2 ⟨e1,e2⟩=>⟨m' %k,Nat.mod_lt _ hk,e1,k,e2,?_⟩,?_⟩
  ·rw[Az];exact hg
  ·exact⟨_,rfl,_,rfl,_,rfl,_,_,rfl,rfl,T6.mpr hk,_,_,rfl,rfl,rfl⟩
 ·have hk:k=0:=by
   rcases Uc k with h|h
   ·exact h
   ·exfalso;apply c;show(!decide (V.int (k:Int)=V.int 0))=true;rw[fW (fun e=>by injection e with e;omega)];rfl
  subst hk;rw[Nat.gcd_zero_right]at hg;have hg1:0<Nat.gcd a b:=wbn _ hb;have hg2:(((Nat.gcd a b:Nat):Int)).natAbs<=10^200:=cV (Nq (a:Int) b hb) hB;rw[hg];refine⟨_,rfl,_,rfl,_,_,rfl,rfl,⟨T6.mpr hg1,hg2⟩,_,rfl,_,rfl,_,_,rfl,rfl,⟨T6.mpr hg1,hg2⟩,(by show 2<=sizeLine;decide),fun p hp=> ?_⟩;exact q p _ _ _ (aO hp _) (SqT.of (Hr (a:=(a:Int)) hp)) (yc (a:Int) b hb)
noncomputable def Gp(K:W.Frag):Sp:=fun vs H Q _=>∃(x y:Addr) (a b c d:Nat),vs=[.ref x,.ref y]/\SqT K H x [.int (a:Int),.int (b:Int)]/\SqT K H y [.int (c:Int),.int (d:Int)]/\0<b/\0<d/\a<=10^100/\b<=10^100/\c<=10^90/\d<=10^90/\
 ∀p H' u v,Same H H'->SqT K H' p [.int u,.int ((v:Nat):Int)]->Low ((a*d+c*b:Nat):Int) (b*d) u v->Q (.ref p) H'
theorem WK{a:Nat}(h:a<=10^90):(a:Int).natAbs<=10^200:=cV (show a<=10^90 from h) (by decide+kernel)
theorem Mr{f f1:Addr}{fd d1:ρ}(F:Fun K "_law_e_more" "_law_e_more" jN f fd)(D1:bL K mg "_law_e_part" W7 ["top","bottom"] f1 d1)(G1:FnOk P w K mg base CX0 1 f1 d1 ["top","bottom"] (sW K)):
  FnOk P w K mg base CX0 2 f fd ["one","other"] (Gp K):=by
 refine F.cH ["one","other"] fun cdv A outer s H vs Q E hr h=> ?_;obtain⟨x,y,a,b,c,d,rfl,hx,hy,hb,hd,la,lb,lc,ld,q⟩:=h;refine⟨_,(aV (bK (pc G1 hr D1 (aj (bC oX (bC xR (aR cI (pv 0) aB) (aR cI (pv 1) aB)) (bC xR (aR cI (pv 1) aB) (aR cI (pv 0) aB))) (aj (bC xR (aR cI (pv 0) aB) (aR cI (pv 1) aB)) ak))))),?_⟩;refine⟨_,rfl,x,_,_,.int (a:Int),rfl,rfl,hx,rfl,_,rfl,y,_,_,.int (d:Int),rfl,rfl,hy,rfl,_,_,rfl,rfl,⟨WL la,WK ld⟩,?_⟩;refine⟨_,rfl,y,_,_,.int (c:Int),rfl,rfl,hy,rfl,_,rfl,x,_,_,.int (b:Int),rfl,rfl,hx,rfl,_,_,rfl,rfl,⟨WK lc,WL lb⟩,_,_,rfl,rfl,?_⟩;refine⟨_,rfl,x,_,_,.int (b:Int),rfl,rfl,hx,rfl,_,rfl,y,_,_,.int (d:Int),rfl,rfl,hy,rfl,_,_,rfl,rfl,⟨WL lb,WK ld⟩,?_⟩;refine⟨a*d+c*b,b*d,?_,Yi hb hd,cV (Nat.mul_le_mul lb ld) (by decide+kernel),fun p H' u v s1 h1 L=>q p H' u v s1 h1 L⟩;simp only[Int.natCast_add,T9];rfl
end
end Hs
namespace L2
open PySem PySem.Spec PyProof.Rows
theorem wG:∀{ns:List Int} {vs:List ζ},Vals (ns.map V.int) vs->IntsAre vs ns
 |[],_,r=>by cases r;exact .nil
 |n::ns,_,r=>by
  cases r with
  |cons h t=>
   obtain⟨t0,rfl⟩:=h;exact .cons _ _ (wG t)
theorem JB{X:Cx}(hc:X.calm=true):CallR X (.builtin "sum") (fun xs H Q=>∃(a:Addr) (ns:List Int),xs=[.ref a]/\SqL X.K H a (ns.map V.int)/\Q (.int ns.sum) H):=by
 intro pins s σ H xs us Q I r h;obtain⟨a,ns,rfl,hS,q⟩:=h;obtain⟨u,rfl,ru⟩:=r.one;cases ru;obtain⟨vs,rv,pl,hz⟩:=I.list hS;have hl:=pl.isList;have hi:=wG rv;obtain⟨xs,e⟩:=hi.allInts.items;have hn:=hi.numsOf;rw[e]at hl;refine sum_intListG (I.ok.hd hc) hl fun h' tk t' hk=> ?_;refine⟨.int _,H,I.kept hk,⟨t',rfl⟩,?_⟩;have e2:preSum (numAt xs) xs.size=ns.sum:=by
  rw[preSum_eq,Xg (by simp),<-nums_intItems,<-e];rw[show vs.toArray.toList=vs from rfl,hn]
 rw[e2];exact q
end L2
namespace Hs
open PySem L2 oV
section
variable{P:ξ}{w:τ}{K:W.Frag}{mg:L4}{base:Heap}
theorem Jp{u u':Int}{v v':Nat}(hv:0<v)(c1:Nat.gcd u.natAbs v=1)(c2:Nat.gcd u'.natAbs v'=1)(cr:u*(v':Int)=u'*(v:Int)):u=u'/\v=v':=by
 have cn:u.natAbs*v'=u'.natAbs*v:=by
  have:=kO Int.natAbs cr
  rwa [P0,P0,Pq,Pq]at this
 have d1:v∣v':=(Xm c1).dvd_of_dvd_mul_left (by rw[cn];exact Xc _ _);have d2:v'∣v:=(Xm c2).dvd_of_dvd_mul_left (by rw[<-cn];exact Xc _ _);have ev:=wef d1 d2;subst ev;exact⟨Yd (a:=(v:Int)) (by omega) cr,rfl⟩
theorem M8:p8 "tuple" "tuple"=true:=by decide+kernel
theorem M9:p8 "list" "list"=true:=by decide+kernel
theorem Nb:p8 "int" "int"=true:=by decide+kernel
theorem V5:p8 "int" "bool"=false:=by decide+kernel
theorem Low.cross{a a':Int}{b b':Nat}{u:Int}{v:Nat}(l:Low a b u v)(h:0<b)(h':0<b')(e:a*(b':Int)=a'*(b:Int)):Low a' b' u v:=by
 have l2:=yc a' b' h';obtain⟨e1,e2⟩:=Jp l.pos l.cop l2.cop (by
  refine Yd (a:=(b:Int)*(b':Int)) (Int.ne_of_gt (T3 (by omega) (by omega))) ?_;have p1:=l.eq;have p2:=l2.eq;have q1:u*((b'/Nat.gcd a'.natAbs b':Nat):Int)*((b:Int)*(b':Int))=(u*(b:Int))*(((b'/Nat.gcd a'.natAbs b':Nat):Int)*(b':Int)):=by grind
  have q2:a'/((Nat.gcd a'.natAbs b':Nat):Int)*(v:Int)*((b:Int)*(b':Int))=(a'/((Nat.gcd a'.natAbs b':Nat):Int)*(b':Int))*((v:Int)*(b:Int)):=by grind
  rw[q1,q2,p1,p2];have q3:a*(v:Int)*(((b'/Nat.gcd a'.natAbs b':Nat):Int)*(b':Int))=(a*(b':Int))*((v:Int)*((b'/Nat.gcd a'.natAbs b':Nat):Int)):=by grind
  rw[q3,e];grind)
 rw[e1,e2];exact l2
theorem MF{S:Int}{D:Nat}{u:Int}{v:Nat}{c:Int}{d:Nat}(l:Low S D u v)(hD:0<D)(h0:0<d)(hd:d∣D){x:Int}{y:Nat}(l2:Low (u*(d:Int)+c*(v:Int)) (v*d) x y):Low (S+c*((D/d:Nat):Int)) D x y:=by
 obtain⟨k,rfl⟩:=hd;rw[Pr _ h0];refine l2.cross (Yi l.pos h0) hD ?_;have e:=l.eq
 push_cast at e⊢
 have q1:(u*(d:Int)+c*(v:Int))*((d:Int)*(k:Int))=(u*((d:Int)*(k:Int)))*(d:Int)+c*(k:Int)*((v:Int)*(d:Int)):=by grind
 rw[q1,e];grind
noncomputable def xG(K:W.Frag):Sp:=fun vs H Q _=>∃(p:Addr) (f:Int×Nat),vs=[.ref p]/\qF K H p f/\Lw f/\0<=f.1/\∀H',Same H H'->Q (.bl true) H'
theorem QZ{f f1:Addr}{fd d1:ρ}(F:Fun K "_law_e_lowest" "_law_e_lowest" XQ f fd)(D1:bL K mg "_law_e_part" W7 ["top","bottom"] f1 d1)(G1:FnOk P w K mg base CX0 1 f1 d1 ["top","bottom"] (sW K))(Mz:mg "any"=none)(aK:mg "isinstance"=none)(V0:mg "bool"=none)(cg:mg "len"=none)(aU:mg "tuple"=none)(Tn:mg "int"=none):
  FnOk P w K mg base CX0 2 f fd ["part"] (xG K):=by
 refine F.cH ["part"] fun cdv A outer s H vs Q E hr h=> ?_;obtain⟨p,f,rfl,hF,hL,h0,qq⟩:=h;refine bf ?_;intro Y;refine⟨_,(aP (fQ (PW.pt (rC (lC (j9 (pB Cd aK (aj (pv 0) (aj (pN "tuple" aU) ak))))) (rC (dR op_ne (pB vq cg (aj (pv 0) ak)) aB) (zj (j9 (pB (Bp rfl) Mz (aj (pK ["number"] [] [] (Cj (pv 0)) (pG 0) oR (pB (JF K) aK (aj (pv 0) (aj (pN "bool" V0) ak)))) ak))))))) (aV (bK rB)) gO) (aP (fQ (PW.pt (rC (lC (j9 (pB Cd aK (aj (aR cI (pv 0) aB) (aj (pN "int" Tn) ak))))) (rC (lC (j9 (pB Cd aK (aj (aR cI (pv 0) aB) (aj (pN "int" Tn) ak))))) (rC (dR op_lt (aR cI (pv 0) aB) aB) (zj (dR op_lt (aR cI (pv 0) aB) aB)))))) (aV (bK rB)) gO) (aV (bK (Ca (xU hr.units) (pc G1 hr D1 (aj (aR cI (pv 0) aB) (aj (aR cI (pv 0) aB) ak))) (pv 0)))))),?_⟩;refine iw ?_;intro c3 c2;obtain⟨f1,d⟩:=f;obtain⟨m,rfl⟩:=R8 h0;have hT:SqT K H p [.int ((m:Nat):Int),.int ((d:Nat):Int)]:=hF;have d0:0<d:=hL.1;refine⟨_,rfl,.ref p,"tuple","tuple",rfl,.inl ⟨rfl,_,hT⟩,.inr (.inr (.inl rfl)),_,rfl,?_⟩;rw[M8];refine iteF ?_;refine⟨_,rfl,p,_,rfl,.inr hT,fun _=>⟨rfl,_,rfl,?_⟩⟩;have e1:(!decide (V.int ((([V.int ((m:Nat):Int),V.int ((d:Nat):Int)].length:Nat)):Int)=V.int 2))=false:=by simp
 rw[e1];refine iteF ?_;refine⟨_,rfl,p,_,rfl,hT,fun hz=> ?_⟩;let gR:Nat->List V->St->Hp->Prop:=fun i acc σ H'=>acc=(List.replicate i false).map V.bl/\H'=H/\∃o,σ=[o];refine Cm (xs:=[V.int ((m:Nat):Int),V.int ((d:Nat):Int)]) gR ⟨rfl,rfl,_,rfl⟩ (fun i acc σ H' _ p=>by rw[p.2.1];exact hT) (fun i acc σ H' _ p=>by rw[p.1,aL,Uh];exact aY _) hz (fun i x acc σ H' hx p=> ?_) (fun acc σ H' p=> ?_)
 ·obtain⟨rfl,rfl,o,rfl⟩:=p;obtain⟨y,rfl⟩:∃y:Int,x= .int y:=by
   rcases i with _|_|i
   ·exact⟨_,(sV hx).symm⟩
   ·exact⟨_,(sV hx).symm⟩
   ·simp at hx
  refine⟨_,rfl,.int y,"int","bool",rfl,rfl,.inr (.inl rfl),?_⟩;rw[V5];exact⟨by rw[wch,bV];rfl,rfl,_,rfl⟩
 intro p1 hp1;obtain⟨rfl,rfl,_⟩:=p;have n1:=aO hp1 (.lst ((List.replicate 2 false).map V.bl));refine⟨p1,List.replicate 2 false,rfl,SqL.of aF,_,rfl,?_⟩;rw[show(List.replicate 2 false).any id=false from rfl];refine iteF ?_;have hT2:=n1.tup hT;refine⟨_,rfl,p,_,_,.int ((m:Nat):Int),rfl,rfl,hT2,rfl,.int ((m:Nat):Int),"int","int",rfl,rfl,.inl rfl,_,rfl,?_⟩;rw[Nb];refine iteF ?_;refine⟨_,rfl,p,_,_,.int ((d:Nat):Int),rfl,rfl,hT2,rfl,.int ((d:Nat):Int),"int","int",rfl,rfl,.inl rfl,_,rfl,?_⟩;rw[Nb];refine iteF ?_;refine⟨_,rfl,p,_,_,.int ((m:Nat):Int),rfl,rfl,hT2,rfl,_,_,rfl,rfl,_,rfl,?_⟩;rw[fW (by omega)];refine iteF ?_;refine⟨_,rfl,p,_,_,.int ((d:Nat):Int),rfl,rfl,hT2,rfl,_,_,rfl,rfl,_,rfl,?_⟩;rw[fW (by omega)];refine iteF ?_;refine⟨_,rfl,p,_,_,.int ((m:Nat):Int),rfl,rfl,hT2,rfl,_,rfl,p,_,_,.int ((d:Nat):Int),rfl,rfl,hT2,rfl,m,d,rfl,d0,cV hL.2.1 (by decide+kernel),fun q H' u v s hq l=> ?_⟩;obtain⟨e2,e3⟩:=Prod.mk.inj (hL.one l);have hq':qF K H' q ((m:Int),d):=by rw[<-e2,<-e3];exact hq
 refine⟨_,rfl,HW ((m:Int),d),HW ((m:Int),d),qF.dv hq',qF.dv (s.tup hT2),iy _,iy _,tG _ _,?_⟩;rw[frD_eq];exact qq H' (n1.trans s)
theorem qT{D:Nat}:∀{fs:List (Int×Nat)},(∀f∈fs,0<=f.1)->0<=dW D fs
 |[],_=>rP _
 |f::fs,h=>Int.add_nonneg (Cq (h f iW) (Xe _)) (qT fun g hg=>h g (iG _ hg))
theorem N8{D:Nat}{fs:List (Int×Nat)}(h:∀f∈fs,0<=f.1)(i:Nat):dW D (fs.take i)<=dW D fs:=by
 have e:dW D (fs.take i++fs.drop i)=dW D fs:=by rw[wet]
 rw[jW]at e;have:=qT (D:=D) (fs:=fs.drop i) fun f hf=>h f (List.mem_of_mem_drop hf);omega
theorem Wt{D:Nat}{fs:List (Int×Nat)}(hD:Ft D fs){f:Int×Nat}(hf:f∈fs):f.1<=dW D fs:=by
 obtain⟨h0,hp,hd⟩:=hD.all f hf;obtain⟨i,hi,rfl⟩:=Ip hf;have e:dW D (fs.take i++fs.drop i)=dW D fs:=by rw[wet]
 rw[jW,wdi hi]at e;have a:=qT (D:=D) (fs:=fs.take i) fun f hf=>(hD.all f (List.mem_of_mem_take hf)).1;have b:=qT (D:=D) (fs:=fs.drop (i+1)) fun f hf=>(hD.all f (List.mem_of_mem_drop hf)).1;have c:fs[i].1<=fs[i].1*((D/fs[i].2:Nat):Int):=by
  have k:1<=D/fs[i].2:=Nat.div_pos (PX hD.pos hd) hp;have:=J3 (show(1:Int)<=((D/fs[i].2:Nat):Int) by omega) h0;omega
 have e2:dW D (fs[i]::fs.drop (i+1))=fs[i].1*((D/fs[i].2:Nat):Int)+dW D (fs.drop (i+1)):=rfl;omega
noncomputable def CT(K:W.Frag):Sp:=fun vs H Q _=>∃(la:Addr) (rs:List V) (fs:List (Int×Nat)) (D:Nat),vs=[.ref la]/\SqL K H la rs/\dX K H rs fs/\Ft D fs/\dW D fs<=1000000000000000000000000000000/\
 ∀r H' u v,Same H H'->qF K H' r (u,v)->Low (dW D fs) D u v->Q (.ref r) H'
theorem QX{f f1:Addr}{fd d1:ρ}(F:Fun K "_law_e_sum" "_law_e_sum" gW f fd)(D1:bL K mg "_law_e_more" jN ["one","other"] f1 d1)(G1:FnOk P w K mg base CX0 2 f1 d1 ["one","other"] (Gp K)):
  FnOk P w K mg base CX0 3 f fd ["parts"] (CT K):=by
 refine F.cH ["parts","found","part"] fun cdv A outer s H vs Q E hr h=> ?_;obtain⟨la,rs,fs,D,rfl,hS,hF,hD,hb,qq⟩:=h;refine bf ?_;intro Y;refine⟨_,(aP (pS 1 (fU (aj aB (aj aB ak)))) (aP (ps_for yW rfl (sO (pv 0)) (pG 2) (aV (pS 1 (pc G1 hr D1 (aj (pv 1) (aj (pv 2) ak)))))) (aV (bK (pv 1))))),?_⟩;refine iw ?_;intro c3 c2;have hn:∀f∈fs,0<=f.1:=fun f hf=>(hD.all f hf).1;have hlen:=Paired.eV hF;refine⟨(by show 2<=sizeLine;decide),fun p0 hp0=> ?_⟩;have s0:=aO hp0 (.tup [.int 0,.int 1]);have e0:SqT K (upd H p0 (.tup [.int 0,.int 1])) p0 [.int 0,.int 1]:=SqT.of aF;generalize (upd H p0 (.tup [.int 0,.int 1]))=H0 at *;refine⟨_,rfl,la,_,rfl,s0.seq hS,fun hz=> ?_⟩;let qj:Nat->St->Hp->Prop:=fun i σ H'=>Same H H'/\∃(r:Addr) (u v:Nat) (o2:Option V),σ=[some (.ref la),some (.ref r),o2]/\SqT K H' r [.int (u:Int),.int ((v:Nat):Int)]/\Low (dW D (fs.take i)) D u v;refine for_list (K:=K) (a:=la) (xs:=rs) qj ⟨s0,p0,0,1,_,rfl,e0,Nat.one_pos,rfl,by rw[show((0:Nat):Int)=0 from rfl,Fx];exact(Fx _).symm,dY _,hD.pos,fun _=>rP _⟩ (fun i σ H' _ p=>p.1.seq hS) (fun i x σ H' hx p=> ?_) (fun σ H' p=> ?_)
 ·obtain⟨sm,r,u,v,o2,rfl,hr,l⟩:=p;obtain⟨f,ef,hR⟩:=Paired.at_ hF hx;obtain⟨fa,rfl,hfa⟩:=hR;obtain⟨c,d⟩:=f;have hm:=tM ef;obtain⟨c0,d0,dd⟩:=hD.all _ hm;have c1:=Wt hD hm;obtain⟨c,rfl⟩:=R8 c0;have t1:=N8 hn i (D:=D);have t0:=qT (D:=D) (fs:=fs.take i) fun f hf=>hn f (List.mem_of_mem_take hf);have lu:=l.lu;have lv:=l.lv;have dl:=PX hD.pos dd;have hDl:=hD.le;dsimp only at c1 d0 dd dl;have b1:u<=1000000000000000000000000000000:=by omega
  have b2:c<=1000000000000000000000000000000:=by omega
  have b3:v<=1000000000000000000:=by omega
  have b4:d<=1000000000000000000:=by omega
  refine⟨_,rfl,_,rfl,r,fa,u,v,c,d,rfl,hr,sm.tup hfa,l.pos,d0,cV b1 (by decide+kernel),cV b3 (by decide+kernel),cV b2 (by decide+kernel),cV b4 (by decide+kernel),fun q H2 x y s2 hq l2=> ?_⟩;have x0:0<=x:=l2.nn (Xe _);obtain⟨x,rfl⟩:=R8 x0;refine⟨sm.trans s2,q,x,y,_,rfl,hq,?_⟩;rw[vm,ef,jW];show Low (_+dW D [((c:Int),d)]) D _ _;rw[tE]
  push_cast at l2
  exact MF l hD.pos d0 dd l2
 ·obtain⟨sm,r,u,v,o2,rfl,hr,l⟩:=p;rw[hlen,rQ]at l;exact⟨_,rfl,qq r H' u v sm hr l⟩
theorem JK(xs:List Int)(y:Int):((xs.map PyData.int).any fun d=>PyData.eqv d (.int y))=decide (y∈xs):=by
 rw[vC,List.any_eq_true,Gb];constructor
 ·rintro⟨d,hd,e⟩;obtain⟨x,hx,rfl⟩:=jC.mp hd;have:x=y:=by simpa[PyData.eqv]using e
  rw[<-this];exact hx
 ·intro h;exact⟨.int y,List.mem_map_of_mem h,by simp[PyData.eqv]⟩
theorem wL(xs ys:List Int):PyData.eqv (.tuple (xs.map PyData.int)) (.tuple (ys.map PyData.int))=decide (xs=ys):=by
 have:∀(xs ys:List Int),PyData.eqvAll (xs.map PyData.int) (ys.map PyData.int)=decide (xs=ys):=by
  intro xs
  induction xs with
  |nil=>intro ys;cases ys<;>simp[PyData.eqvAll]
  |cons x xs ih=>intro ys;cases ys with
   |nil=>simp[PyData.eqvAll]
   |cons y ys=>
    have e:(x==y)=decide (x=y):=by rw[vC];simp
    simp[PyData.eqvAll,PyData.eqv,ih,e]
 simp[PyData.eqv,this]
theorem Cp:∀ns:List Int,PyData.canLayAll0 (ns.map PyData.int)=true
 |[]=>rfl
 |n::ns=>by
  show(true&&PyData.canLayAll0 (ns.map PyData.int))=true;rw[Cp ns];rfl
theorem uQ(l:List Int):PyData.depthAll (l.map PyData.int)<=0:=by
 induction l with
 |nil=>exact aY _
 |cons x l ih=>show max 0 (PyData.depthAll (l.map PyData.int))<=0;omega
noncomputable def tI(s:List Int):θ:= .tuple (s.map PyData.int)
theorem Uy(s:List Int):(tI s).depth<=60:=by
 have:=uQ s;show PyData.depthAll (s.map PyData.int)+1<=60;omega
theorem zR{H:Hp}:∀(its:List (Addr×List Int)),(∀p∈its,SqT K H p.1 (p.2.map V.int))->cQ K H (its.map fun p=>V.ref p.1) ((its.map (·.2)).map tI)
 |[],_=> .nil
 |p::its,h=> .cons (.tup (h p iW) (cQ.ints _)) (zR its fun q hq=>h q (iG _ hq))
theorem Bu(s:List Int):∀ss:List (List Int),((ss.map tI).any fun d=>PyData.eqv d (tI s))=decide (s∈ss)
 |[]=>rfl
 |t::ss=>by
  rw[yS,Xb,Bu s ss,show PyData.eqv (tI t) (tI s)=decide (t=s)from wL t s,vC,weo,Gb,Gb,Gb,dg];exact or_congr_left ⟨Eq.symm,Eq.symm⟩
theorem zQ:∀ss:List (List Int),PyData.canLayAll0 (ss.map tI)=true
 |[]=>rfl
 |t::ss=>by
  show((tI t).canLay0&&PyData.canLayAll0 (ss.map tI))=true;rw[zQ ss];show(PyData.canLayAll0 (t.map PyData.int)&&true)=true;rw[Cp];rfl
theorem Ux(s:List Int):(tI s).canLay0=true:=Cp s
theorem Ao:∀a b:List Int,HT.jg a b= !HT.lexLt a b
 |[],[]=>rfl
 |[],_::_=>rfl
 |_::_,[]=>rfl
 |x::xs,y::ys=>by
  show(if x=y then HT.jg xs ys else decide (y<=x))= !(if x=y then HT.lexLt xs ys else decide (x<y));by_cases c:x=y
  ·rw[aD c,aD c];exact Ao xs ys
  ·rw[aA c,aA c,vC,way,Gb,Yt];omega
noncomputable def lW(ss:List (List Int))(l:List (List Int))(i:Nat):Bool:=decide (l.getD i []∈ss)&&(decide (i=0)||HT.lexLt (l.getD (i-1) []) (l.getD i []))
noncomputable def nJ(n:Int)(ts:L0)(l:List (List Int)):Bool:=(List.range l.length).all (lW (iU ts (vp n.toNat)) l)
noncomputable def KR(K:W.Frag):Sp:=fun vs H Q _=>∃(a la:Addr) (n:Int) (ts:L0) (rs:List V) (l:List (List Int×(Int×Nat))),vs=[.ref a,.ref la]/\aQ K H a n ts/\SqL K H la rs/\dD K H rs l/\(∀q∈l,Lw q.2/\0<q.2.1)/\∀H',Same H H'->Q (.bl (nJ n ts (l.map (·.1)))) H'
theorem Q0{f f1 f2:Addr}{fd d1 d2:ρ}(F:Fun K "_law_e_is_laying" "_law_e_is_laying" zcy f fd)(D1:bL K mg "_law_e_apart_sets" zbr ["web","left"] f1 d1)(G1:FnOk P w K mg base CX0 2 f1 d1 ["web","left"] (xr K))(D2:bL K mg "_law_e_lowest" XQ ["part"] f2 d2)(G2:FnOk P w K mg base CX0 2 f2 d2 ["part"] (xG K))(aK:mg "isinstance"=none)(bZ:mg "list"=none)(aN:mg "range"=none)(bN:mg "enumerate"=none)(cg:mg "len"=none)(aU:mg "tuple"=none):
  FnOk P w K mg base CX0 3 f fd ["web","laying"] (KR K):=by
 refine F.cH ["web","laying","sets","at","row"] fun cdv A outer s H vs Q E hr h=> ?_;obtain⟨a,la,n,ts,rs,l,rfl,hW,hS,hL,hq,qq⟩:=h;refine bf ?_;intro Y;refine⟨_,(aP (fQ (lC (j9 (pB Cd aK (aj (pv 1) (aj (pN "list" bZ) ak))))) (aV (bK rB)) gO) (aP (pS 2 (pc G1 hr D1 (aj (pv 0) (aj (gZ rfl rfl bZ rfl aN (aj (aR cI (pv 0) aB) ak)) ak)))) (aP (ps_for yW rfl (pR rfl bN (aj (pv 1) ak)) (pg_tup rfl (oU (pG 3) (oU (pG 4) Ci))) (aP (fQ (PW.pt (rC (lC (j9 (pB Cd aK (aj (pv 4) (aj (pN "tuple" aU) ak))))) (rC (dR op_ne (pB vq cg (aj (pv 4) ak)) aB) (rC (dR (qL hr.units) (aR cI (pv 4) aB) (pv 2) (by with_unfolding_all rfl)) (zj (lC (j9 (pc G2 hr D2 (aj (aR cI (pv 4) aB) ak))))))))) (aV (bK rB)) gO) (aV (fQ (PW.pt (rC (dR op_eq (aR cI (aR cI (pv 4) aB) aB) aB) (zj (PW.pt (pw_and (dR op_gt (pv 3) aB) (pw_and1 (dR (U9 (Io (wea _ 64) hr.units)) (aR cI (aR eF (pv 1) (bC op_sub (pv 3) aB)) aB) (aR cI (pv 4) aB)))))))) (aV (bK rB)) gO)))) (aV (bK rB))))),?_⟩;refine wH ?_;intro c4 c3 c2;have h0:=hW.h0;have h10:=hW.h1;obtain⟨tt,rr,w1,w2,w3⟩:=id hW.web;have hlen:=Paired.eV hL;have gl:∀i,(hi:i<l.length)->(l.map (·.1)).getD i []=l[i].1:=fun i hi=>by rw[lq,dU,dG hi];rfl
 refine⟨_,rfl,.ref la,"list","list",rfl,.inr (.inl ⟨rfl,_,hS⟩),.inr (.inr (.inr rfl)),_,rfl,?_⟩;rw[M9];refine iteF ?_;refine⟨_,rfl,_,rfl,a,_,_,.int n,rfl,rfl,w1,rfl,n,rfl,by omega,by omega,fun lr hlr=> ?_⟩;have n1:=aO hlr (.lst (dh n.toNat));have er:dh n.toNat=(vp n.toNat).map V.int:=by unfold dh vp;rw[wg];rfl
 have V1:(vp n.toNat).length<=10:=by unfold vp;rw[aL,vo];omega
 refine⟨a,lr,n,ts,vp n.toNat,rfl,hW.same n1,by rw[<-er];exact SqL.of aF,V1,fun r H1 s1 Np=> ?_⟩;obtain⟨its,e1,e2,e3⟩:=Np;have s01:=n1.trans s1;refine⟨_,rfl,false,la,_,rfl,s01.seq hS,fun hz=> ?_⟩;let gR:Nat->St->Hp->Prop:=fun i σ H'=>Same H1 H'/\(∀j,j<i->lW (iU ts (vp n.toNat)) (l.map (·.1)) j=true)/\∃o3 o4,σ=[some (.ref a),some (.ref la),some (.ref r),o3,o4];refine Od (K:=K) (b:=false) (a:=la) (xs:=rs) gR ⟨Same.refl _,fun j hj=>(nomatch hj),_,_,rfl⟩ (fun i σ H' _ p=>(s01.trans p.1).seq hS) (fun i v t σ H' hv p ht=> ?_) (fun σ H' p=> ?_)
 ·obtain⟨sm,hg,o3,o4,rfl⟩:=p;have m1:=aO ht (.tup [.int (i:Int),v]);have hi:i<l.length:=by rw[<-hlen];exact(nF.mp hv).1
  obtain⟨q0,hq0,hR⟩:=Paired.at_ hL hv;rw[dG hi]at hq0;cases hq0;obtain⟨tr,sa,fa,rfl,k1,k2,k3⟩:=hR;have sA:=s01.trans (sm.trans m1);have k1':=sA.tup k1;have k2':=sA.tup k2;have k3':=sA.tup k3;have hqi:=hq _ (zx hi);have bad:lW (iU ts (vp n.toNat)) (l.map (·.1)) i=false->nJ n ts (l.map (·.1))=false:=fun z=>by
   unfold nJ;exact List.all_eq_false.mpr ⟨i,jz.mpr (by rw[aL];exact hi),by rw[z];decide⟩
  refine⟨t,_,rfl,SqT.of aF,rfl,_,_,rfl,_,_,rfl,rfl,?_⟩;refine⟨_,rfl,.ref tr,"tuple","tuple",rfl,.inl ⟨rfl,_,k1'⟩,.inr (.inr (.inl rfl)),_,rfl,?_⟩;rw[M8];refine iteF ?_;refine⟨_,rfl,tr,_,rfl,.inr k1',fun _=>⟨rfl,_,rfl,?_⟩⟩;have e1':(!decide (V.int ((([V.ref sa,V.ref fa].length:Nat)):Int)=V.int 2))=false:=by simp
  rw[e1'];refine iteF ?_;refine⟨_,rfl,tr,_,_,.ref sa,rfl,rfl,k1',rfl,_,rfl,r,_,_,tI l[i].1,rfl,.inl (SqL.of ((sm.trans m1) _ _ e1)),zR its (fun p hp=>(sm.trans m1).tup (e2 p hp)),.tup k2' (cQ.ints _),zQ _,Ux _,Uy _,_,rfl,?_⟩;rw[Bu,e3];refine ite2 (fun c=>iteT ?_) (fun c=> ?_)
  ·have c':l[i].1∉iU ts (vp n.toNat):=was (by simpa using c);have z:=bad (by unfold lW;rw[gl i hi,fW c'];rfl);rw[z]at qq;exact qq _ sA
  have c':l[i].1∈iU ts (vp n.toNat):=by simpa using c
  refine⟨_,rfl,tr,_,_,.ref fa,rfl,rfl,k1',rfl,fa,l[i].2,rfl,k3',hqi.1,J1 hqi.2,fun H2 s2=>⟨_,rfl,iteF ?_⟩⟩;have sB:=sA.trans s2;have k1'':=sB.tup k1;have k2'':=sB.tup k2;have aa1:SqT K H2 fa [.int l[i].2.1,.int ((l[i].2.2:Nat):Int)]:=sB.tup k3;refine⟨_,rfl,tr,_,_,.ref fa,rfl,rfl,k1'',rfl,fa,_,_,.int l[i].2.1,rfl,rfl,aa1,rfl,rfl,_,rfl,?_⟩;rw[fW (show¬V.int l[i].2.1=V.int 0 from fun e=>by have:=V.int.inj e;have:=hqi.2;omega)];refine iteF ?_;refine⟨_,rfl,_,_,rfl,rfl,_,rfl,?_⟩;refine ite2 (fun c2=> ?_) (fun c2=> ?_)
  ·have i0:0<i:=by have:=fJ c2;omega
   have hi1:i-1<l.length:=by omega
   obtain⟨q1,hq1,hR1⟩:=Paired.at_ hL (show rs[i-1]? =some rs[i-1]from dG (by omega));rw[dG hi1]at hq1;cases hq1;obtain⟨tr1,sa1,fa1,er1,j1,j2,j3⟩:=hR1;have j1':=sB.tup j1;have j2':=sB.tup j2;have hat:atI rs ((i:Int)-1)=some (.ref tr1):=by
    have:=atI_nat (xs:=rs) (j:=i-1) (v:=V.ref tr1) (by rw[dG (by omega),er1])
    rwa [show(((i-1:Nat)):Int)=(i:Int)-1 by omega]at this
   refine⟨_,rfl,_,rfl,_,_,rfl,rfl,la,_,_,.ref tr1,rfl,rfl,sB.seq hS,hat,tr1,_,_,.ref sa1,rfl,rfl,j1',rfl,_,rfl,tr,_,_,.ref sa,rfl,rfl,k1'',rfl,sa1,sa,l[i-1].1,l[i].1,rfl,rfl,j2',k2'',_,rfl,?_⟩;rw[Ao];refine ite2 (fun c3=> ?_) (fun c3=> ?_)
   ·have c4:HT.lexLt l[i-1].1 l[i].1=false:=by simpa using c3
    have z:=bad (by unfold lW;rw[gl i hi,gl (i-1) hi1,cW c',c4,fW (by omega)];rfl);rw[z]at qq;exact qq _ sB
   ·have c4:HT.lexLt l[i-1].1 l[i].1=true:=by simpa using c3
    refine⟨sm.trans (m1.trans s2),fun j hj=> ?_,_,_,rfl⟩;rcases Nat.lt_succ_iff_lt_or_eq.mp hj with z|rfl
    ·exact hg j z
    ·unfold lW;rw[gl j hi,gl (j-1) hi1,cW c',c4,Bool.or_true];rfl
  ·have i0:i=0:=by
    have:¬(0:Int)<(i:Int):=fun z=>c2 (cW z);omega
   refine⟨sm.trans (m1.trans s2),fun j hj=> ?_,_,_,rfl⟩;have j0:j=i:=by omega
   subst j0;unfold lW;rw[gl j hi,cW c',cW i0];rfl
 ·obtain⟨sm,hg,o3,o4,rfl⟩:=p;have z:nJ n ts (l.map (·.1))=true:=by
   unfold nJ;refine kh.mpr fun j hj=>hg j ?_;rw[hlen];have:=jz.mp hj
   rwa [aL]at this
  rw[z]at qq;exact qq _ (s01.trans sm)
theorem Oa{D:Nat}{fs gs:List (Int×Nat)}(h:fs.Sublist gs)(hn:∀f∈gs,0<=f.1):dW D fs<=dW D gs:=by
 induction h with
 |slnil=>exact rP _
 | @cons l1 l2 a _ ih=>
  have a0:=hn a iW;have:=Cq a0 (Xe (D/a.2));have i:=ih fun f hf=>hn f (iG _ hf);show _<=a.1*((D/a.2:Nat):Int)+dW D l2;omega
 | @cons_cons l1 l2 a _ ih=>
  have i:=ih fun f hf=>hn f (iG _ hf);show a.1*((D/a.2:Nat):Int)+dW D l1<=a.1*((D/a.2:Nat):Int)+dW D l2;omega
noncomputable def lR(p:Int)(l:List (List Int×(Int×Nat))):List (Int×Nat):=(l.filter fun q=>decide (p∈q.1)).map (·.2)
noncomputable def nM(n:Int)(D:Nat)(l:List (List Int×(Int×Nat))):Bool:=(List.range n.toNat).all fun p=>decide ((D:Int)<=dW D (lR ((p:Nat):Int) l))
theorem V2{S:Int}{D:Nat}{u:Int}{v:Nat}(l:Low S D u v)(hD:0<D):decide (u<(v:Int))= !decide ((D:Int)<=S):=by
 have e:=l.eq;have p:=l.pos;rw[vC,way,Gb,Yt];refine⟨fun h z=> ?_,fun h=> ?_⟩
 ·have a:=Int.mul_lt_mul_of_pos_right h (show(0:Int)<(D:Int) by omega);have b:=Uj z (show(0:Int)<=(v:Int) by omega);rw[e,zq (v:Int)]at a;omega
 ·refine Int.not_le.mp fun z=>h ?_;refine Xi (a:=(v:Int)) ?_ (by omega);rw[<-e,zq (D:Int)];exact Uj z (by omega)
noncomputable def KY(K:W.Frag):Sp:=fun vs H Q _=>∃(a la:Addr) (n:Int) (ts:L0) (rs:List V) (l:List (List Int×(Int×Nat))) (D:Nat),vs=[.ref a,.ref la]/\aQ K H a n ts/\SqL K H la rs/\dD K H rs l/\Ft D (l.map (·.2))/\dW D (l.map (·.2))<=1000000000000000000000000000000/\∀H',Same H H'->Q (.bl (nM n D l)) H'
theorem Q5{f f1:Addr}{fd d1:ρ}(F:Fun K "_law_e_is_enough" "_law_e_is_enough" zcz f fd)(D1:bL K mg "_law_e_sum" gW ["parts"] f1 d1)(G1:FnOk P w K mg base CX0 3 f1 d1 ["parts"] (CT K))(aN:mg "range"=none):
  FnOk P w K mg base CX0 4 f fd ["web","laying"] (KY K):=by
 refine F.cH ["web","laying","place","have"] fun cdv A outer s H vs Q E hr h=> ?_;obtain⟨a,la,n,ts,rs,l,D,rfl,hW,hS,hL,hD,hb,qq⟩:=h;refine bf ?_;intro Y;refine⟨_,(aP (ps_for yW rfl (JM rfl aN (aj (aR cI (pv 0) aB) ak)) (pG 2) (aP (pS 3 (pc G1 hr D1 (aj (pK ["some","part"] ["place"] [2] (sO (pv 1)) (dJ K (n:=2) rfl (oU (pG 0) (oU (pG 1) Ci))) (Ck (dR (jR K hr.units) (pv 2) (pv 0) (by with_unfolding_all rfl))) (pv 1)) ak))) (aV (fQ (dR op_lt (aR cI (pv 3) aB) (aR cI (pv 3) aB)) (aV (bK rB)) gO)))) (aV (bK rB))),?_⟩;refine lQ ?_;intro c2;have h0:=hW.h0;have h10:=hW.h1;obtain⟨tt,rr,w1,w2,w3⟩:=id hW.web;have hlen:=Paired.eV hL;have hn:∀f∈l.map (·.2),0<=f.1:=fun f hf=>(hD.all f hf).1;refine⟨_,rfl,a,_,_,.int n,rfl,rfl,w1,rfl,n,rfl,by omega,by omega,?_⟩;let qj:Nat->St->Hp->Prop:=fun i σ H'=>Same H H'/\(∀j,j<i->(D:Int)<=dW D (lR ((j:Nat):Int) l))/\∃o2 o3,σ=[some (.ref a),some (.ref la),o2,o3];refine RP (n:=n.toNat) qj ⟨Same.refl _,fun j hj=>(nomatch hj),_,_,rfl⟩ (fun i σ H' hi p=> ?_) (fun σ H' p=> ?_)
 ·obtain⟨sm,hg,o2,o3,rfl⟩:=p;have hS':=sm.seq hS;refine⟨_,rfl,la,_,rfl,hS',fun hz=> ?_⟩;let Bw:Nat->List V->St->Hp->Prop:=fun k acc σ H2=>dX K H' acc (lR (0+(i:Int)) (l.take k))/\H2=H'/\∃o1 o2,σ=[o1,o2,some (.int (0+(i:Int)))];refine yQ (xs:=rs) Bw ⟨.nil,rfl,_,_,rfl⟩ (fun k acc σ H2 _ p=>by rw[p.2.1];exact hS') (fun k acc σ H2 hk p=> ?_) hz (fun k x acc σ H2 hx p=> ?_) (fun acc σ H2 p=> ?_)
  ·have:=Paired.eV p.1;unfold lR at this;rw[aL]at this;rw[this];exact cV (wk _ _) (by rw[tL];exact Fz _ _)
  ·obtain⟨hd,rfl,o1,o2',rfl⟩:=p;have hk:k<l.length:=by rw[<-hlen];exact(nF.mp hx).1
   obtain⟨q0,hq0,hR⟩:=Paired.at_ hL hx;rw[dG hk]at hq0;cases hq0;obtain⟨tr,sa,fa,rfl,k1,k2,k3⟩:=hR;have go:lR (0+(i:Int)) (l.take (k+1))=lR (0+(i:Int)) (l.take k)++(if decide (0+(i:Int)∈l[k].1)=true then[l[k].2]else[]):=by
    unfold lR;rw[vm,dG hk,FN,bV];congr 1;show List.map _ (List.filter _ [l[k]])=_;rw[FJ];split<;>rfl
   refine⟨tr,_,rfl,sm.tup k1,rfl,_,_,rfl,_,_,rfl,rfl,?_⟩;refine⟨_,rfl,_,rfl,sa,_,_,.int (0+(i:Int)),rfl,.inr (sm.tup k2),cQ.ints _,.int _,Cp _,rfl,(by show 0<=60;decide),_,rfl,?_⟩;rw[JK];refine ite2 (fun c=> ?_) (fun c=> ?_)
   ·refine⟨_,rfl,?_,rfl,_,_,rfl⟩;rw[go,aD c];exact Paired.snoc hd ⟨fa,rfl,sm.tup k3⟩
   ·refine⟨?_,rfl,_,_,rfl⟩;rw[go,aA c,Cr];exact hd
  ·intro p1 hp1;obtain⟨hd,rfl,_⟩:=p;rw[hlen,rQ]at hd;have n1:=aO hp1 (.lst acc);have sub:(lR (0+(i:Int)) l).Sublist (l.map (·.2)):=List.Sublist.map _ yei;have hD2:Ft D (lR (0+(i:Int)) l):=hD.sub fun f hf=>sub.subset hf;have b2:=T5 (Oa sub hn) hb;refine⟨p1,acc,_,D,rfl,SqL.of aF,dX.same hd n1,hD2,b2,fun r H3 u v s3 hf l2=> ?_⟩;have hf':SqT K H3 r [.int u,.int ((v:Nat):Int)]:=hf;have sA:=sm.trans (n1.trans s3);refine⟨_,rfl,r,_,_,.int u,rfl,rfl,hf',rfl,_,rfl,r,_,_,.int ((v:Nat):Int),rfl,rfl,hf',rfl,_,_,rfl,rfl,_,rfl,?_⟩;rw[V2 l2 hD.pos];refine ite2 (fun c=> ?_) (fun c=> ?_)
   ·have c':¬(D:Int)<=dW D (lR (0+(i:Int)) l):=was (by simpa using c);have z:nM n D l=false:=by
     unfold nM;refine List.all_eq_false.mpr ⟨i,jz.mpr hi,?_⟩;rw[Xa]at c';simpa using c'
    rw[z]at qq;exact qq _ sA
   ·have c':(D:Int)<=dW D (lR (0+(i:Int)) l):=by simpa using c
    refine⟨sA,fun j hj=> ?_,_,_,rfl⟩;rcases Nat.lt_succ_iff_lt_or_eq.mp hj with z|rfl
    ·exact hg j z
    ·rw[Xa]at c';exact c'
 ·obtain⟨sm,hg,o2,o3,rfl⟩:=p;have z:nM n D l=true:=by
   unfold nM;exact kh.mpr fun j hj=>cW (hg j (jz.mp hj))
  rw[z]at qq;exact qq _ sm
end
theorem Lr{xs:List Int}(h:dI xs=true):xs.Pairwise (· < ·):=by
 unfold dI at h;rw[kh]at h;have st:∀k,(hk:k+1<xs.length)->xs[k]<xs[k+1]:=fun k hk=>by
  have:=fJ (h k (jz.mpr (by omega)));rw[lq,lq,dG (by omega),dG hk]at this;exact this
 refine Ui.mpr fun i j hi hj hij=> ?_;obtain⟨d,rfl⟩:∃d,j=i+1+d:=⟨j-i-1,by omega⟩
 induction d with
 |zero=>exact st i hj
 |succ d ih=>exact Int.lt_trans (ih (by omega) (by omega)) (st (i+1+d) hj)
theorem wY:∀{t s:List Int},s.Pairwise (· < ·)->t.Pairwise (· < ·)->(∀x∈s,x∈t)->s.Sublist t
 |[],[],_,_,_=> .slnil
 |[],x::_,_,_,h=>(nomatch h x iW)
 |_::_,[],_,_,_=>List.nil_sublist _
 |y::t,x::s,hs,ht,h=>by
  obtain⟨hs1,hs2⟩:=Qd.mp hs;obtain⟨ht1,ht2⟩:=Qd.mp ht;by_cases e:x=y
  ·subst e;refine .cons_cons _ (wY hs2 ht2 fun z hz=> ?_);rcases dg.mp (h z (iG _ hz))with e|e
   ·have:=hs1 z hz;omega
   ·exact e
  ·have hx:x∈t:=(dg.mp (h x iW)).resolve_left e;have hxy:=ht1 x hx;refine .cons _ (wY hs ht2 fun z hz=> ?_);rcases dg.mp (h z hz)with e'|e'
   ·rcases dg.mp hz with e2|e2
    ·omega
    ·have:=hs1 z e2;omega
   ·exact e'
theorem Tf{R:Int->Int->Prop}:∀{s:List Int},s.Pairwise (· < ·)->s.Pairwise R->∀{x y:Int},x∈s->y∈s->x<y->R x y
 |[],_,_,_,_,hx,_,_=>nomatch hx
 |a::s,hs,hr,x,y,hx,hy,hlt=>by
  obtain⟨h1,h2⟩:=Qd.mp hs;obtain⟨r1,r2⟩:=Qd.mp hr;rcases dg.mp hx with rfl|hx'
  ·rcases dg.mp hy with rfl|hy'
   ·omega
   ·exact r1 y hy'
  ·rcases dg.mp hy with rfl|hy'
   ·have:=h1 x hx';omega
   ·exact Tf h2 r2 hx' hy' hlt
theorem Lp(n:Nat):(vp n).Pairwise (· < ·):=by
 unfold vp;rw[Qc];exact Yc.imp fun h=>by omega
theorem Kg{ts:L0}{a b:Int}(h:a<b):bQ ts a b=decide ((a,b)∈ts):=by
 unfold bQ;rw[aA (by omega),aD (by omega)]
theorem Fb{n:Int}{ts:L0}(hp:aM n ts)(h0:0<=n)(s:List Int):s∈iU ts (vp n.toNat)↔jr n s/\ts.filter (inB s)=[]:=by
 rw[Ag rfl];constructor
 ·rintro⟨sub,ap⟩;have hs:s.Pairwise (· < ·):=(Lp _).sublist sub;refine⟨⟨hs,fun x hx=> ?_⟩,Xh.mpr fun p hq hc=> ?_⟩
  ·have:=Hj.mp (sub.subset hx);omega
  ·unfold inB at hc;rw[kj]at hc;have lt:=(hp.lt p hq).2.1;have:=Tf hs ap (fJ hc.1) (fJ hc.2) lt;rw[Kg lt]at this;exact was this hq
 ·rintro⟨hs,hf⟩;refine⟨wY hs.wZ (Lp _) fun x hx=>Hj.mpr (by have:=hs.lt x hx;omega),hs.wZ.imp_of_mem fun{a b} ha hb hab=> ?_⟩;rw[Kg hab];refine fW fun z=> ?_;have:=Xh.mp hf _ z;unfold inB at this;rw[kj]at this;exact this ⟨cW ha,cW hb⟩
theorem Ii{n:Nat}{ts:L0}(hp:aM (n:Int) ts){s:List Int}(h:s∈iU ts (vp n)):iV ts false n s:=by
 have k:=(Fb hp (by omega) s).mp (by rw[Im];exact h);refine⟨k.1.wZ,k.1.lt,fun x hx y hy hne=> ?_⟩;have key:∀{a b:Int},a∈s->b∈s->a<b->(a,b)∉ts:=fun{a b} ha hb hab z=>by
  have:=Xh.mp k.2 _ z;unfold inB at this;rw[kj]at this;exact this ⟨cW ha,cW hb⟩
 have no:∀{a b:Int},b<a->(a,b)∉ts:=fun{a b} hab z=>by have:=(hp.lt _ z).2.1;omega
 unfold bA;rcases Int.lt_or_gt_of_ne hne with c|c
 ·rw[fW (key hx hy c),fW (no c)];rfl
 ·rw[fW (no c),fW (key hy hx c)];rfl
theorem elay_eq{n:Int}{ts:L0}{l:List (List Int×(Int×Nat))}(hp:aM n ts)(h0:0<=n)(hq:∀q∈l,Lw q.2/\0<q.2.1):nJ n ts (l.map (·.1))=layB n ts (l.map jA):=by
 rw[vC];unfold nJ layB;rw[ug,kj,kh,yes,kh];have gl:∀i,(hi:i<l.length)->(l.map (·.1)).getD i []=l[i].1:=fun i hi=>by rw[lq,dU,dG hi];rfl
 constructor
 ·intro h;refine⟨fun q hq'=> ?_,?_⟩
  ·obtain⟨i,hi,rfl⟩:=Ip hq';have e:=h i (jz.mpr (by rw[aL];exact hi));unfold lW at e;rw[kj,gl i hi]at e;obtain⟨k1,k2⟩:=(Fb hp h0 _).mp (fJ e.1);obtain⟨⟨b1,b2,b3⟩,c⟩:=hq _ hq';exact La ⟨k1.wZ,k1.lt,k2,c,b1,b2,b3⟩
  ·unfold dw;refine kh.mpr fun k hk=> ?_;have hk':=jz.mp hk;have e:=h (k+1) (jz.mpr (by omega));unfold lW at e;rw[kj,fW (show¬k+1=0 by omega),wfb]at e;exact e.2
 ·rintro⟨h1,h2⟩ i hi;have hi':=jz.mp hi;rw[aL]at hi';unfold lW;rw[kj,gl i hi'];obtain⟨q',e,G⟩:=CZ (h1 _ (zx hi'));have e':l[i]=q':=by rw[<-lD l[i],<-lD q',e]
  refine⟨cW ((Fb hp h0 _).mpr ?_),?_⟩
  ·rw[e'];exact⟨⟨Lr G.rise,G.lt⟩,G.no⟩
  ·by_cases c:i=0
   ·rw[cW c];rfl
   ·unfold dw at h2;have:=kh.mp h2 (i-1) (jz.mpr (by rw[aL];omega));rw[show i-1+1=i by omega,gl i hi']at this;rw[this,Bool.or_true]
theorem eeno_eq{n:Int}{D:Nat}{l:List (List Int×(Int×Nat))}:nM n D l=hasB D (cX n.toNat) l:=by
 unfold nM hasB;rw[show(cX n.toNat).length=n.toNat from Uh,vC,kh,kh];refine forall_congr' fun p=>forall_congr' fun hp=> ?_;unfold DQ lR;rw[Qx (jz.mp hp),zp]
theorem Hx{n D:Nat}{ts:L0}{ss:List (List Int)}{wl:List Int}{ov:Nat}{Z:Int}{Y X:Nat->Int}(hS:bB ss ts false n)(h:Sh n ss wl ov Z Y X):∀{l:List (List Int×(Int×Nat))},(∀q∈l,iV ts false n q.1/\0<=q.2.1)->(Sx.sm n fun p=>X p*dW D (lR ((p:Nat):Int) l))<=dW D (l.map (·.2))*(ov:Int)
 |[],_=>by
  rw[Sx.cO n fun i _=>by show X i*0=0;rw[wQ]];show(0:Int)<=0*(ov:Int);rw[Fx];exact rP _
 |q::l,hq=>by
  have ih:=Hx (D:=D) hS h (l:=l) fun q' h'=>hq q' (iG _ h');obtain⟨k,q0⟩:=hq q iW;have a:=jk hS h k;have w0:0<=q.2.1*((D/q.2.2:Nat):Int):=Cq q0 (Xe _);have e:(Sx.sm n fun p=>X p*dW D (lR ((p:Nat):Int) (q::l)))=(Sx.sm n fun p=>(q.2.1*((D/q.2.2:Nat):Int))*(if decide (((p:Nat):Int)∈q.1)=true then X p else 0))+Sx.sm n fun p=>X p*dW D (lR ((p:Nat):Int) l):=by
   rw[<-Sx.iH];refine Sx.aW n fun p _=> ?_;unfold lR;by_cases c:decide (((p:Nat):Int)∈q.1)=true
   ·rw[ydw (by exact c),aD c,yS];show X p*(q.2.1*((D/q.2.2:Nat):Int)+_)=_
    grind
   ·rw[ydx (by exact c),aA c]
    grind
  rw[e,Sx.cT];have m:=J3 a w0;show _<=(q.2.1*((D/q.2.2:Nat):Int)+dW D (l.map (·.2)))*(ov:Int);rw[Yj];exact wdh m ih
theorem cG.lay{S:Sd}(h:cG S):layB S.n S.ts (S.l.map jA)=true/\hasB S.D (cX S.n.toNat) S.l=true/\dW S.D (S.l.map (·.2))*(S.f.2:Int)<=S.f.1*(S.D:Int):=by
 have e:=h.eno;unfold vM at e;rw[pq,kj,kj]at e;exact⟨e.1,e.2.1,fJ e.2.2⟩
theorem cG.pos{S:Sd}(h:cG S):∀q∈S.l,Lw q.2/\0<q.2.1:=fun q hq=>by
 refine⟨h.low q hq,?_⟩;have e:=h.lay.1;unfold layB at e;rw[kj,yes,kh]at e;obtain⟨q',e1,G⟩:=CZ (e.1 q hq);have e':q=q':=by rw[<-lD q,<-lD q',e1]
 rw[e'];exact G.pos
theorem Uz{n:Int}{ts:L0}{l:List (List Int×(Int×Nat))}{D:Nat}{f:Int×Nat}(hp:aM n ts)(h0:0<=n)(hv:gD n ts f)(hD:Ft D (l.map (·.2)))(h1:nJ n ts (l.map (·.1))=true)(h2:nM n D l=true):f.1*(D:Int)<=dW D (l.map (·.2))*(f.2:Int):=by
 obtain⟨m,rfl⟩:=R8 h0;obtain⟨ss,ov,Z,Y,X,hS,h,rfl⟩:=hv;rw[Im]at hS h;have hp':aM ((m:Nat):Int) ts:=hp;have ap:∀q∈l,iV ts false m q.1/\0<=q.2.1:=fun q hq=>by
  obtain⟨i,hi,rfl⟩:=Ip hq;unfold nJ at h1;have e:=kh.mp h1 i (jz.mpr (by rw[aL];exact hi));unfold lW at e;rw[kj,lq,dU,dG hi,Im]at e;exact⟨Ii hp' (fJ e.1),(hD.all _ (jC.mpr ⟨_,zx hi,rfl⟩)).1⟩
 have g:=Hx (D:=D) hS h ap;have zd:Z*(D:Int)<=Sx.sm m fun p=>X p*dW D (lR ((p:Nat):Int) l):=by
  rw[<-h.Ye,zq,<-Sx.cT];refine wC m fun p hp=> ?_;rw[qG hp,zp,zq (D:Int)];refine J3 ?_ (h.xn p);unfold nM at h2;exact fJ (kh.mp h2 p (jz.mpr (by rw[Im];exact hp)))
 have zz:=T5 zd g;have lf:=yP Z h.pos;have e:=lf.eq;have p1:=h.pos;have p2:=lf.pos;refine Xi (a:=(ov:Int)) ?_ (by omega);have e1:(aH Z ov).1*(D:Int)*(ov:Int)=((aH Z ov).1*(ov:Int))*(D:Int):=by grind
 have e2:dW D (l.map (·.2))*((aH Z ov).2:Int)*(ov:Int)=(dW D (l.map (·.2))*(ov:Int))*((aH Z ov).2:Int):=by grind
 rw[e1,e2,e];have e3:Z*((aH Z ov).2:Int)*(D:Int)=(Z*(D:Int))*((aH Z ov).2:Int):=by grind
 rw[e3];exact Uj zz (by omega)
theorem Hq{S:Int}{D:Nat}{f:Int×Nat}{u:Int}{v:Nat}(hl:Lw f)(hD:0<D)(l:Low S D u v)(e:S*(f.2:Int)=f.1*(D:Int)):(u,v)=f:=by
 have l2:=l.cross hD hl.1 e;exact hl.one l2
section
variable{P:ξ}{w:τ}{K:W.Frag}{mg:L4}{base:Heap}
theorem M4{b d:Nat}{u:Int}{v:Nat}(hb:0<b)(hd:0<d)(l:Low (d:Int) b u v):∃k:Nat,(b:Int)*u=(k:Int)/\0<k/\b∣k/\d∣k/\∀m,b∣m->d∣m->k∣m:=by
 have u0:=l.nn (Xe _);obtain⟨u,rfl⟩:=R8 u0;have e:u*b=d*v:=by have:=l.eq;exact Int.ofNat_inj.mp (by push_cast;exact this)
 have cop:Nat.gcd u v=1:=by have:=l.cop;rwa [Pq]at this
 refine⟨b*u,by push_cast;rfl,?_,Nat.dvd_mul_right _ _,⟨v,by rw[T7 b u,e]⟩,fun m ⟨k1,h1⟩ ⟨k2,h2⟩=> ?_⟩
 ·rw[T7,e];exact Yi hd l.pos
 ·have x:u*k2=v*k1:=by
   refine wdf (Yi hb hd) ?_;have y:d*k2=b*k1:=h2.symm.trans h1
   calc b*d*(u*k2)=(u*b)*(d*k2):=by grind
    _=(d*v)*(b*k1):=by rw[e,y]
    _=b*d*(v*k1):=by grind
  have dv:u∣k1:=(show Nat.Coprime u v from cop).dvd_of_dvd_mul_left ⟨k2,x.symm⟩;obtain⟨c,rfl⟩:=dv;exact⟨c,by rw[h1,Yn]⟩
noncomputable def FZ(ov b:Nat)(X:Nat->Int)(p:Nat):Int:=(aH (X p) ov).1*(b:Int)/((aH (X p) ov).2:Int)
theorem wgt_eq{ov b:Nat}{X:Nat->Int}{p:Nat}(h:0<ov)(hd:(aH (X p) ov).2∣b):FZ ov b X p*(ov:Int)=X p*(b:Int):=by
 have l:=yP (X p) h;obtain⟨m,rfl⟩:=hd;unfold FZ;have p0:=l.pos;have e:(aH (X p) ov).1*(((aH (X p) ov).2*m:Nat):Int)/((aH (X p) ov).2:Int)=(aH (X p) ov).1*(m:Int):=by
  rw[T9,show(aH (X p) ov).1*(((aH (X p) ov).2:Int)*(m:Int))=((aH (X p) ov).2:Int)*((aH (X p) ov).1*(m:Int)) by grind];exact wbm _ (by omega)
 rw[e];have q:=l.eq
 push_cast
 have z:(aH (X p) ov).1*(m:Int)*(ov:Int)=((aH (X p) ov).1*(ov:Int))*(m:Int):=by grind
 rw[z,q];grind
theorem FW{ov b:Nat}{X:Nat->Int}(h:0<ov):∀{s:List Int},(∀x∈s,(aH (X x.toNat) ov).2∣b)->(s.map fun x=>FZ ov b X x.toNat).sum*(ov:Int)=(s.map fun x=>X x.toNat).sum*(b:Int)
 |[],_=>by show(0:Int)*_=0*_;rw[Fx,Fx]
 |x::s,hs=>by
  have ih:=FW h (s:=s) fun y hy=>hs y (iG _ hy);have e:=wgt_eq h (hs x iW);rw[yS,yS,List.sum_cons,List.sum_cons,Yj,Yj,ih,e]
noncomputable def KZ(K:W.Frag):Sp:=fun vs H Q _=>∃(a ca:Addr) (n:Nat) (ts:L0) (rs:List V) (ss:List (List Int)) (ov:Nat) (Z:Int) (Y X:Nat->Int),vs=[.ref a,.ref ca]/\aQ K H a (n:Int) ts/\SqL K H ca rs/\dX K H rs (gw n ov X)/\bB ss ts false n/\Sh n ss (cX n) ov Z Y X/\∀H',Same H H'->Q (.bl true) H'
theorem Q6{f f1 f2 f3:Addr}{fd d1 d2 d3:ρ}(F:Fun K "_law_e_are_prices" "_law_e_are_prices" zcr f fd)(D1:bL K mg "_law_e_lowest" XQ ["part"] f1 d1)(G1:FnOk P w K mg base CX0 2 f1 d1 ["part"] (xG K))(D2:bL K mg "_law_e_part" W7 ["top","bottom"] f2 d2)(G2:FnOk P w K mg base CX0 1 f2 d2 ["top","bottom"] (sW K))(D3:bL K mg "_law_e_apart_sets" zbr ["web","left"] f3 d3)(G3:FnOk P w K mg base CX0 2 f3 d3 ["web","left"] (xr K))(pZ:mg "all"=none)(cg:mg "len"=none)(aK:mg "isinstance"=none)(bZ:mg "list"=none)(aN:mg "range"=none)(Y7:mg "sum"=none):
  FnOk P w K mg base CX0 3 f fd ["web","costs"] (KZ K):=by
 refine F.cH ["web","costs","bottom","cost","weights","some"] fun cdv A outer s H vs Q E hr h=> ?_;obtain⟨a,ca,n,ts,rs,ss,ov,Z,Y,X,rfl,hW,hS,hF,Zr,hSh,qq⟩:=h;refine bf ?_;intro Y;refine⟨_,(aP (fQ (PW.pt (rC (lC (j9 (pB Cd aK (aj (pv 1) (aj (pN "list" bZ) ak))))) (rC (dR op_ne (pB vq cg (aj (pv 1) ak)) (aR cI (pv 0) aB)) (zj (lC (j9 (pB (eX rfl) pZ (aj (pK ["cost"] [] [] (sO (pv 1)) (pG 0) oR (pc G1 hr D1 (aj (pv 0) ak))) ak)))))))) (aV (bK rB)) gO) (aP (pS 2 aB) (aP (ps_for yW rfl (sO (pv 1)) (pG 3) (aV (pS 2 (bC sJ (pv 2) (aR cI (pc G2 hr D2 (aj (aR cI (pv 3) aB) (aj (pv 2) ak))) aB))))) (aP (pS 4 (pK ["cost"] ["bottom"] [2] (sO (pv 1)) (pG 0) oR (bC lN (bC sJ (aR (Cg K) (pv 0) aB) (pv 1)) (aR (Cg K) (pv 0) aB)))) (aP (ps_for yW rfl (sO (pc G3 hr D3 (aj (pv 0) (aj (gZ rfl rfl bZ rfl aN (aj (aR cI (pv 0) aB) ak)) ak)))) (pG 5) (aV (fQ (dR op_gt (pB (JB rfl) Y7 (aj (pK ["place"] ["weights"] [4] (Cj (pv 5)) (pG 0) oR (aR (gA K) (pv 1) (pv 0))) ak)) (pv 2)) (aV (bK rB)) gO))) (aV (bK rB))))))),?_⟩;refine Ng ?_;intro c6 c5 c4 c3 c2;have h10:=hW.h1;obtain⟨tt,rr,w1,w2,w3⟩:=id hW.web;have hlen:rs.length=n:=(Paired.eV hF).trans (Gz n ov X);have Di:=hSh.pos;have ovb:=hSh.big;refine⟨_,rfl,.ref ca,"list","list",rfl,.inr (.inl ⟨rfl,_,hS⟩),.inr (.inr (.inr rfl)),_,rfl,?_⟩;rw[M9];refine iteF ?_;refine⟨_,rfl,ca,_,rfl,.inl hS,fun _=>⟨_,rfl,a,_,_,.int (n:Int),rfl,rfl,w1,rfl,rfl,_,rfl,?_⟩⟩;rw[hlen,cW rfl];refine iteF ?_;refine⟨_,rfl,ca,_,rfl,hS,fun hz=> ?_⟩;let gR:Nat->List V->St->Hp->Prop:=fun i acc σ H'=>acc=(List.replicate i true).map V.bl/\Same H H'/\∃o,σ=[o];refine yQ (xs:=rs) gR ⟨rfl,Same.refl _,_,rfl⟩ (fun i acc σ H' _ p=>by exact p.2.1.seq hS) (fun i acc σ H' _ p=>by rw[p.1,aL,Uh];exact aY _) hz (fun i x acc σ H' hx p=> ?_) (fun acc σ H' p=> ?_)
 ·obtain⟨rfl,sm,o,rfl⟩:=p;obtain⟨f,ef,hR⟩:=Paired.at_ hF hx;obtain⟨fa,rfl,hfa⟩:=hR;obtain⟨k,hk,rfl⟩:=jC.mp (show f∈(List.range n).map fun p=>aH (X p) ov from tM ef);refine⟨_,rfl,fa,_,rfl,sm.tup hfa,uK _ Di ovb,(p7 Di (hSh.xn k)).1,fun H2 s2=> ?_⟩;exact⟨by rw[wch,bV];rfl,sm.trans s2,_,rfl⟩
 intro p1 hp1;obtain⟨rfl,sm,_⟩:=p;have n1:=aO hp1 (.lst ((List.replicate rs.length true).map V.bl));refine⟨p1,_,rfl,SqL.of aF,_,rfl,?_⟩;rw[show(List.replicate rs.length true).all id=true from kh.mpr fun b hb=>by rw[(List.mem_replicate.mp hb).2];rfl];refine iteF ?_;have s1:=sm.trans n1;have hS1:=s1.seq hS;generalize (upd H' p1 (.lst ((List.replicate rs.length true).map V.bl)))=H1 at *;clear n1 sm hp1
 -- the common number
 refine⟨_,rfl,ca,_,rfl,hS1,fun hz=> ?_⟩;let qj:Nat->St->Hp->Prop:=fun i σ H'=>Same H1 H'/\∃(b:Nat) (o3:Option V),σ=[some (.ref a),some (.ref ca),some (.int (b:Int)),o3,none,none]/\0<b/\b∣ov/\∀j,j<i->(aH (X j) ov).2∣b;refine for_list (K:=K) (a:=ca) (xs:=rs) qj ⟨Same.refl _,1,_,rfl,Nat.one_pos,Nat.one_dvd _,fun j hj=>(nomatch hj)⟩ (fun i σ H' _ p=>p.1.seq hS1) (fun i x σ H' hx p=> ?_) (fun σ H' p=> ?_)
 ·obtain⟨sm,b,o3,rfl,b0,bd,hj⟩:=p;have hi:i<n:=by rw[<-hlen];exact(nF.mp hx).1
  obtain⟨f,ef,hR⟩:=Paired.at_ hF hx;obtain⟨fa,rfl,hfa⟩:=hR;rw[GF hi]at ef;cases ef;have hfa':SqT K H' fa [.int (aH (X i) ov).1,.int (((aH (X i) ov).2:Nat):Int)]:=(s1.trans sm).tup hfa;have ld:=p7 Di (hSh.xn i);have bl:=PX Di bd;have dl:=PX Di ld.2.2;refine⟨_,rfl,_,rfl,fa,_,_,.int (((aH (X i) ov).2:Nat):Int),rfl,rfl,hfa',rfl,_,rfl,(aH (X i) ov).2,b,rfl,b0,cV (cV bl ovb) (by decide+kernel),fun q H3 u v s3 hq l=>⟨q,_,_,.int u,rfl,rfl,hq,rfl,_,_,rfl,rfl,.inl ⟨by omega,by omega⟩,?_⟩⟩;obtain⟨k,ek,k0,kb,kd,kl⟩:=M4 b0 ld.2.1 l;refine⟨sm.trans s3,k,_,by rw[<-ek];rfl,k0,kl ov bd ld.2.2,fun j hj'=> ?_⟩;rcases Nat.lt_succ_iff_lt_or_eq.mp hj' with z|rfl
  ·exact Nat.dvd_trans (hj j z) kb
  ·exact kd
 obtain⟨sm,b,o3,rfl,b0,bd,hj⟩:=p;have hS2:=sm.seq hS1;have bl:=PX Di bd;rw[hlen]at hj
 -- the weights
 refine⟨_,rfl,ca,_,rfl,hS2,fun hz=> ?_⟩;let Bw:Nat->List V->St->Hp->Prop:=fun i acc σ H2=>acc=((List.range i).map (FZ ov b X)).map V.int/\H2=H'/\∃o,σ=[o,some (.int (b:Int))];refine yQ (xs:=rs) Bw ⟨rfl,rfl,_,rfl⟩ (fun i acc σ H2 _ p=>by rw[p.2.1];exact hS2) (fun i acc σ H2 _ p=>by rw[p.1,aL,aL,vo];exact aY _) hz (fun i x acc σ H2 hx p=> ?_) (fun acc σ H2 p=> ?_)
 ·obtain⟨rfl,rfl,o,rfl⟩:=p;have hi:i<n:=by rw[<-hlen];exact(nF.mp hx).1
  obtain⟨f,ef,hR⟩:=Paired.at_ hF hx;obtain⟨fa,rfl,hfa⟩:=hR;rw[GF hi]at ef;cases ef;have hfa':SqT K H2 fa [.int (aH (X i) ov).1,.int (((aH (X i) ov).2:Nat):Int)]:=(s1.trans sm).tup hfa;have ld:=p7 Di (hSh.xn i);have dl:=PX Di ld.2.2;refine⟨_,rfl,fa,_,_,.int (aH (X i) ov).1,rfl,rfl,hfa',rfl,_,rfl,_,_,rfl,rfl,.inr ⟨by omega,by omega⟩,_,rfl,fa,_,_,.int (((aH (X i) ov).2:Nat):Int),rfl,rfl,hfa',rfl,_,_,rfl,rfl,⟨by omega,by omega⟩,?_⟩;refine⟨?_,rfl,_,rfl⟩;rw[yU,bV,bV];rfl
 intro wl hwl;obtain⟨rfl,rfl,_⟩:=p;rw[hlen];have n2:=aO hwl (.lst (((List.range n).map (FZ ov b X)).map V.int));have DK:(upd H2 wl (.lst (((List.range n).map (FZ ov b X)).map V.int))) wl=some (.lst (((List.range n).map (FZ ov b X)).map V.int)):=aF;have s2:=s1.trans (sm.trans n2);generalize (upd H2 wl (.lst (((List.range n).map (FZ ov b X)).map V.int)))=G at *;have w1':=s2.tup w1;refine⟨_,rfl,_,rfl,a,_,_,.int (n:Int),rfl,rfl,w1',rfl,(n:Int),rfl,by omega,by omega,fun lr hlr=> ?_⟩;have n3:=aO hlr (.lst (dh ((n:Int)).toNat));have er:dh ((n:Int)).toNat=(vp n).map V.int:=by rw[Im];unfold dh vp;rw[wg];rfl
 have V1:(vp n).length<=10:=by unfold vp;rw[aL,vo];omega
 refine⟨a,lr,(n:Int),ts,vp n,rfl,(hW.same s2).same n3,by rw[<-er];exact SqL.of aF,V1,fun r H3 s3 Np=> ?_⟩;obtain⟨its,e1,e2,e3⟩:=Np;have s3':=n3.trans s3;refine⟨r,_,rfl,SqL.of e1,fun hz=> ?_⟩;let WR:Nat->St->Hp->Prop:=fun i σ H'=>Same H3 H'/\∃(o3 o5:Option V),σ=[some (.ref a),some (.ref ca),some (.int (b:Int)),o3,some (.ref wl),o5];refine for_list (K:=K) (a:=r) (xs:=its.map fun p=>V.ref p.1) WR ⟨Same.refl _,_,_,rfl⟩ (fun i σ H' _ p=>SqL.of (p.1 _ _ e1)) (fun i x σ H4 hx p=> ?_) (fun σ H4 p=> ?_)
 ·obtain⟨Yz,o3',o5,rfl⟩:=p;rw[dU]at hx;cases ex:its[i]? with
  |none=>rw[ex]at hx;cases hx
  |some it=>
   rw[ex]at hx;cases hx;have hm:=tM ex;have hit:=Yz.tup (e2 it hm);have ap:it.2∈iU ts (vp n):=by rw[<-e3];exact jC.mpr ⟨it,hm,rfl⟩
   have sk:=Ii hW.pk ap;have hw4:=(s3'.trans Yz) _ _ DK;refine⟨_,rfl,it.1,_,rfl,hit,fun hz=> ?_⟩;let Pv5:Nat->List V->St->Hp->Prop:=fun k acc σ H5=>acc=((it.2.take k).map fun x=>FZ ov b X x.toNat).map V.int/\H5=H4/\∃o,σ=[o,some (.ref wl)];refine Cm (xs:=it.2.map V.int) Pv5 ⟨rfl,rfl,_,rfl⟩ (fun i acc σ H' _ p=>by rw[p.2.1];exact hit) (fun k acc σ H' hk p=>by rw[p.1,aL,aL,tL];exact Fz _ _) hz (fun k x acc σ H5 hx p=> ?_) (fun acc σ H5 p=> ?_)
   ·obtain⟨rfl,rfl,o,rfl⟩:=p;rw[dU]at hx;cases ey:it.2[k]? with
    |none=>rw[ey]at hx;cases hx
    |some y=>
     rw[ey]at hx;cases hx;have hy:=sk.lt y (tM ey);have hat:atI (((List.range n).map (FZ ov b X)).map V.int) y=some (.int (FZ ov b X y.toNat)):=by
      have:=Ow (xs:=(List.range n).map (FZ ov b X)) hy.1 (by rw[aL,vo];exact hy.2);rw[this,lq,dU,R0 (by omega)];rfl
     refine⟨_,rfl,_,rfl,wl,_,_,_,rfl,rfl,SqL.of hw4,hat,?_⟩;exact⟨by rw[vm,ey,bV,bV];rfl,rfl,_,rfl⟩
   ·intro p1 hp1;obtain⟨rfl,rfl,_⟩:=p;rw[aL,rQ];have n5:=aO hp1 (.lst ((it.2.map fun x=>FZ ov b X x.toNat).map V.int));refine⟨p1,_,rfl,SqL.of aF,_,rfl,_,_,rfl,rfl,_,rfl,?_⟩;have le:(it.2.map fun x=>FZ ov b X x.toNat).sum<=(b:Int):=by
     have e:=FW (b:=b) (X:=X) Di (s:=it.2) fun x hx=>by
      have:=sk.lt x hx;exact hj x.toNat (by omega)
     have a1:=Bt Zr hSh sk;rw[xM Di]at a1;refine Xi (a:=(ov:Int)) ?_ (by omega);rw[e,zq (b:Int)];exact Uj (by omega) (by omega)
    rw[fW (by omega)];exact iteF ⟨Yz.trans n5,_,_,rfl⟩
 ·obtain⟨Yz,o3',o5,rfl⟩:=p;exact qq _ (s2.trans (s3'.trans Yz))
theorem gD.frc{n:Int}{ts:L0}{f:Int×Nat}(h:gD n ts f):0<=f.1/\0<f.2/\f.2<=39916800:=by
 obtain⟨ss,ov,Z,Y,X,a,b,rfl⟩:=h;have l:=yP Z b.pos;refine⟨l.nn ?_,l.pos,cV (wer _ _) b.big⟩;rw[<-b.tot];exact Sx.uf _ fun k _=>b.yn k
theorem Qs{n ov:Nat}{X:Nat->Int}(h0:0<ov)(hb:ov<=39916800)(hx:∀p,0<=X p):Ft ov (gw n ov X):=⟨h0,cV hb (by decide),fun f hf=>by
 obtain⟨k,_,rfl⟩:=jC.mp hf;exact p7 h0 (hx k)⟩
theorem cG.frs{S:Sd}(h:cG S)(h10:S.n<=10):dW S.D (S.l.map (·.2))<=1000000000000000000000000000000:=by
 obtain⟨_,_,c⟩:=h.lay;have l:=h.lw;have f1:=h.val.num h10;have f0:=h.val.frc.1;have d:=h.Tw.le;have v:=l.1;have nn:=qT (D:=S.D) (fs:=S.l.map (·.2)) fun f hf=>(h.Tw.all f hf).1;have a:dW S.D (S.l.map (·.2))*1<=dW S.D (S.l.map (·.2))*(S.f.2:Int):=J3 (by omega) nn;have b:S.f.1*(S.D:Int)<=399168000*1000000000000000000:=wew (by omega) (by omega) (by omega) (by decide);omega
noncomputable def zJ(K:W.Frag):Sp:=fun vs H Q _=>∃(a va la ca:Addr) (S:Sd) (lr pr:List V),vs=[.ref a,.ref va,.ref la,.ref ca]/\aQ K H a S.n S.ts/\qF K H va S.f/\SqL K H la lr/\dD K H lr S.l/\SqL K H ca pr/\dX K H pr S.ps/\cG S/\∀H',Same H H'->Q (.bl true) H'
theorem Jm{f f1 f2 f3 f4 f5:Addr}{fd d1 d2 d3 d4 d5:ρ}(F:Fun K "_law_e_shows" "_law_e_shows" iI f fd)(D1:bL K mg "_law_e_are_prices" zcr ["web","costs"] f1 d1)(G1:FnOk P w K mg base CX0 3 f1 d1 ["web","costs"] (KZ K))(D2:bL K mg "_law_e_is_laying" zcy ["web","laying"] f2 d2)(G2:FnOk P w K mg base CX0 3 f2 d2 ["web","laying"] (KR K))(D3:bL K mg "_law_e_lowest" XQ ["part"] f3 d3)(G3:FnOk P w K mg base CX0 2 f3 d3 ["part"] (xG K))(D4:bL K mg "_law_e_is_enough" zcz ["web","laying"] f4 d4)(G4:FnOk P w K mg base CX0 4 f4 d4 ["web","laying"] (KY K))(D5:bL K mg "_law_e_sum" gW ["parts"] f5 d5)(G5:FnOk P w K mg base CX0 3 f5 d5 ["parts"] (CT K)):
  FnOk P w K mg base CX0 5 f fd ["web","worth","laying","costs"] (zJ K):=by
 refine F.cH ["web","worth","laying","costs"] fun cdv A outer s H vs Q E hr h=> ?_;obtain⟨a,va,la,ca,S,lr,pr,rfl,hW,hV,hS,hL,hC,hP,hok,qq⟩:=h;refine bf ?_;intro Y;refine⟨_,(aP (fQ (PW.pt (rC (lC (j9 (pc G3 hr D3 (aj (pv 1) ak)))) (rC (lC (j9 (pc G2 hr D2 (aj (pv 0) (aj (pv 2) ak))))) (zj (lC (j9 (pc G1 hr D1 (aj (pv 0) (aj (pv 3) ak))))))))) (aV (bK rB)) gO) (aP (fQ (lC (j9 (pc G4 hr D4 (aj (pv 0) (aj (pv 2) ak))))) (aV (bK rB)) gO) (aV (bK (pe_and (Ca (xU hr.units) (pc G5 hr D5 (aj (pK ["some","part"] [] [] (sO (pv 2)) (dJ K (n:=2) rfl (oU (pG 0) (oU (pG 1) Ci))) oR (pv 1)) ak)) (pv 1)) (pe_one (Ca (xU hr.units) (pc G5 hr D5 (aj (pv 3) ak)) (pv 1)))))))),?_⟩;refine iw ?_;intro c3 c2;have h0:=hW.h0;have h10:=hW.h1;obtain⟨ss,ov,Z,Y,X,So,hSh,ef,ep⟩:=hok.U7;have hpos:=hok.pos;have e1:nJ S.n S.ts (S.l.map (·.1))=true:=by rw[elay_eq hW.pk h0 hpos];exact hok.lay.1
 have e2:nM S.n S.D S.l=true:=by rw[eeno_eq];exact hok.lay.2.1
 have lw:=hok.lw;have hlen:=Paired.eV hL;refine⟨_,rfl,va,S.f,rfl,hV,lw,hok.val.frc.1,fun H1 s1=>⟨_,rfl,iteF ?_⟩⟩;refine⟨_,rfl,_,rfl,a,la,S.n,S.ts,lr,S.l,rfl,hW.same s1,s1.seq hS,dD.same hL s1,hpos,fun H2 s2=>⟨_,rfl,?_⟩⟩;rw[e1];refine iteF ?_;have s12:=s1.trans s2;have W2:=hW.same s12;refine⟨_,rfl,_,rfl,a,ca,S.n.toNat,S.ts,pr,ss,ov,Z,Y,X,rfl,by rw[R3 h0];exact W2,s12.seq hC,by rw[<-ep];exact dX.same hP s12,So,hSh,fun H3 s3=>⟨_,rfl,iteF ?_⟩⟩;have qC:=s12.trans s3;have hb:=hok.frs h10;refine⟨_,rfl,_,rfl,a,la,S.n,S.ts,lr,S.l,S.D,rfl,hW.same qC,qC.seq hS,dD.same hL qC,hok.Tw,hb,fun H4 s4=>⟨_,rfl,?_⟩⟩;rw[e2];refine iteF ?_;have yZ:=qC.trans s4;have Zt:=yZ.seq hS;refine⟨_,rfl,la,_,rfl,Zt,fun hz=> ?_⟩;let gR:Nat->List V->St->Hp->Prop:=fun k acc σ H2=>dX K H4 acc ((S.l.take k).map (·.2))/\H2=H4/\∃o1 o2,σ=[o1,o2];refine yQ (xs:=lr) gR ⟨.nil,rfl,_,_,rfl⟩ (fun k acc σ H2 _ p=>by rw[p.2.1];exact Zt) (fun k acc σ H2 hk p=> ?_) hz (fun k x acc σ H2 hx p=> ?_) (fun acc σ H2 p=> ?_)
 ·have:=Paired.eV p.1;rw[aL,tL]at this;omega
 ·obtain⟨hd,rfl,o1,o2,rfl⟩:=p;have hk:k<S.l.length:=by rw[<-hlen];exact(nF.mp hx).1
  obtain⟨q0,hq0,hR⟩:=Paired.at_ hL hx;rw[dG hk]at hq0;cases hq0;obtain⟨tr,sa,fa,rfl,k1,k2,k3⟩:=hR;refine⟨tr,_,rfl,yZ.tup k1,rfl,_,_,rfl,_,_,rfl,rfl,?_⟩;refine⟨_,rfl,?_,rfl,_,_,rfl⟩;rw[vm,dG hk,bV];exact Paired.snoc hd ⟨fa,rfl,yZ.tup k3⟩
 intro p1 hp1;obtain⟨hd,rfl,_⟩:=p;rw[hlen,rQ]at hd;have n1:=aO hp1 (.lst acc);refine⟨p1,acc,_,S.D,rfl,SqL.of aF,dX.same hd n1,hok.Tw,hb,fun r H5 u v s5 hf l2=> ?_⟩;have lo:=Uz hW.pk h0 hok.val hok.Tw e1 e2;have up:=hok.lay.2.2;have ev:=Hq lw hok.Tw.pos l2 (weq up lo);rw[ev]at hf;have s15:=yZ.trans (n1.trans s5);have hV5:=s15.tup hV;refine⟨_,rfl,HW S.f,HW S.f,qF.dv hf,qF.dv hV5,iy _,iy _,tG _ _,?_⟩;rw[frD_eq];refine⟨_,rfl,iteT ?_⟩;have so:dW ov (gw S.n.toNat ov X)=Z:=by
  have e:=FQ (wl:=cX S.n.toNat) (X:=X) hSh.pos S.n.toNat;rw[hSh.Ye]at e;rw[<-e];unfold gw;congr 1;refine Ud fun p hp=> ?_;rw[qG (jz.mp hp),zp]
 have zb:Z<=1000000000000000000000000000000:=by
  have a1:Z<=(S.n.toNat:Int)*(ov:Int):=by
   rw[<-hSh.Ye];refine K7 _ fun p hp=> ?_;rw[qG hp,zp];have sk:iV S.ts false S.n.toNat [(p:Int)]:=⟨Pu _ _,fun x hx=>by rw[iD.mp hx];omega,fun x hx y hy hn=>absurd ((iD.mp hx).trans (iD.mp hy).symm) hn⟩;have:=jk So hSh sk;rw[Sx.cR (j:=p) _ hp fun i _ hi=>aA (by simp;omega),aD (by simp)]at this;exact this
  have big:=hSh.big;have z2:(S.n.toNat:Int)*(ov:Int)<=10*39916800:=wew (by omega) (by omega) (by omega) (by decide);omega
 refine⟨_,rfl,ca,pr,gw S.n.toNat ov X,ov,rfl,s15.seq hC,by rw[<-ep];exact dX.same hP s15,Qs hSh.pos hSh.big hSh.xn,by rw[so];exact zb,fun r2 H6 u2 v2 s6 hf2 l3=> ?_⟩;rw[so]at l3;have ev2:(u2,v2)=S.f:=by
  have lf:=yP Z hSh.pos;refine Hq lw hSh.pos l3 ?_;rw[ef,lf.eq]
 rw[ev2]at hf2;refine⟨_,rfl,HW S.f,HW S.f,qF.dv hf2,qF.dv (s6.tup hV5),iy _,iy _,tG _ _,?_⟩;rw[frD_eq];exact qq H6 (s15.trans s6)
noncomputable def zE(K:W.Frag)(C:Addr):Sp:=fun vs H Q _=>∃(o wb:Addr) (S:Sd),vs=[.ref o,.ref wb]/\cM K C H o S/\cG S/\aQ K H wb S.n S.ts/\∀H',Same H H'->Q (.bl true) H'
theorem Jh{f f1 f2 f3 f4 f5 C:Addr}{fd d1 d2 d3 d4 d5:ρ}(F:Fun K "_law_e_stands" "_law_e_stands" fZ f fd)
  (Na:Bx K C)(D1:bL K mg "_law_e_shows" iI ["web","worth","laying","costs"] f1 d1)(G1:FnOk P w K mg base CX0 5 f1 d1 ["web","worth","laying","costs"] (zJ K))(D2:lY K C "value" "Sharing.value" zcv ["self"] f2 d2)(G2':FnOk P w K mg base CX0 4 f2 d2 ["self"] (tU K C))(D3:lY K C "laying" "Sharing.laying" zcf ["self"] f3 d3)(G3':FnOk P w K mg base CX0 4 f3 d3 ["self"] (tX K C))(D4:lY K C "prices" "Sharing.prices" zce ["self"] f4 d4)(WT:FnOk P w K mg base CX0 4 f4 d4 ["self"] (tW K C))(D5:lY K C "web" "Sharing.web" eG ["self"] f5 d5)(G5':FnOk P w K mg base CX0 3 f5 d5 ["self"] (tR K C)):
  FnOk P w K mg base CX0 6 f fd ["sharing","web"] (zE K C):=by
 have G2:FnOk P w K mg base CX0 5 f2 d2 ["self"] (tU K C):=G2'.mono (by decide);have G3:FnOk P w K mg base CX0 5 f3 d3 ["self"] (tX K C):=G3'.mono (by decide);have G4:FnOk P w K mg base CX0 5 f4 d4 ["self"] (tW K C):=WT.mono (by decide);have G5:FnOk P w K mg base CX0 5 f5 d5 ["self"] (tR K C):=G5'.mono (by decide);refine F.cH ["sharing","web"] fun cdv A outer s H vs Q E hr h=> ?_;obtain⟨o,wb,S,rfl,hS,hok,hW,qq⟩:=h;refine⟨_,(aV (bK (pe_and (Ca (xU hr.units) (zm (pv 0) Na.c D5.m G5 hr D5.b .nil pass0) (pv 1)) (pe_one (pc G1 hr D1 (aj (pv 1) (aj (zm (pv 0) Na.c D2.m G2 hr D2.b .nil pass0) (aj (zm (pv 0) Na.c D3.m G3 hr D3.b .nil pass0) (aj (zm (pv 0) Na.c D4.m G4 hr D4.b .nil pass0) ak))))))))),?_⟩;obtain⟨dx,wb0,va,lr,pr,A⟩:=id hS;refine⟨_,rfl,o,dx,_,rfl,A.at_,rfl,o,S,rfl,hS,fun rw5 H1 s1 W5=>⟨_,rfl,?_⟩⟩;have W1:=hW.same s1;refine⟨_,_,W5.web.dv,W1.web.dv,sZ _ _,sZ _ _,Ga _ _,?_⟩;rw[HX];refine⟨_,rfl,iteT ?_⟩;have S1:=hS.same s1;have A1:=A.same s1;refine⟨_,rfl,_,rfl,o,dx,_,rfl,A1.at_,rfl,o,S,rfl,S1,hok,fun r2 H2 s2 F2=> ?_⟩;have S2:=S1.same s2;have A2:=A1.same s2;refine⟨_,rfl,o,dx,_,rfl,A2.at_,rfl,o,S,rfl,S2,hok,fun r3 v3 H3 s3 e3 l3 _=> ?_⟩;have S3:=S2.same s3;have A3:=A2.same s3;refine⟨_,rfl,o,dx,_,rfl,A3.at_,rfl,o,S,rfl,S3,hok,fun r4 v4 H4 s4 e4 l4 _=> ?_⟩;have yX:=s3.trans s4;have yZ:=s2.trans yX;exact⟨wb,r2,r3,r4,S,v3,v4,rfl,W1.same yZ,yX.tup F2,SqL.of (s4 _ _ e3),dD.same l3 s4,SqL.of e4,l4,hok,fun H5 s5=>qq H5 (s1.trans (yZ.trans s5))⟩
end
noncomputable def bI(k:Bool):Int:=if k then 1 else 0
noncomputable def two{α:Type}(f:Bool->α):List α:=[f false,f true]
noncomputable def bH{α:Type}(f:Bool->α)(k:Bool)(v:α):Bool->α:=fun j=>if j=k then v else f j
theorem v9{α:Type}(f:Bool->α)(k:Bool)(v:α):bH f k v k=v:=aD rfl
theorem Ce{α:Type}{f:Bool->α}{k j:Bool}{v:α}(h:j≠k):bH f k v j=f j:=aA h
theorem Vw(k:Bool):(!k)≠k:=by cases k<;>decide
theorem aaj{r:Int}(h0:0<=r)(h1:r<2):∃k,r=bI k:=by
 by_cases c:r=0
 ·exact⟨false,c⟩
 ·exact⟨true,by show r=1;omega⟩
theorem gC(f:Bool->V)(k:Bool):atI (two f) (bI k)=some (f k):=by cases k<;>rfl
theorem mY(f:Bool->V)(k:Bool):atI (two f) (1-bI k)=some (f (!k)):=by cases k<;>rfl
theorem V4(f:Bool->V)(k:Bool):ixN (two f).length (bI k)=some (cond k 1 0):=by cases k<;>rfl
noncomputable def rA(K:W.Frag)(H:Hp)(rs:List V)(ds:List j7):Prop:=Paired (fun v d=>∃a,v=V.ref a/\jx K H a d) rs ds
theorem rA.tk{K:W.Frag}{H H':Hp}{rs:List V}{ds:List j7}(h:rA K H rs ds)(e:TK K H H'):rA K H' rs ds:=Paired.mapP h fun _ _ ⟨a,e0,z⟩=>⟨a,e0,z.tk e⟩
noncomputable def Run:Int->L0->List j7->Int->L0->Prop
 |n,ts,[],n',ts'=>n'=n/\ts'=ts
 |n,ts,d::ds,n',ts'=>∃n1 Ke,Pb n ts d/\TF n n1 ts Ke d/\Ke.Pairwise jB/\Run n1 Ke ds n' ts'
theorem Run.snoc{d:j7}{n2:Int}{Uu:L0}:∀{ds:List j7} {n n1:Int} {ts Ke:L0},Run n ts ds n1 Ke->Pb n1 Ke d->TF n1 n2 Ke Uu d->Uu.Pairwise jB->Run n ts (ds++[d]) n2 Uu
 |[],_,_,_,_,⟨e1,e2⟩,hf,hs,hp=>by subst e1 e2;exact⟨_,_,hf,hs,hp,rfl,rfl⟩
 |_::_,_,_,_,_,⟨m,us,f,s,p,r⟩,hf,hs,hp=>⟨m,us,f,s,p,Run.snoc r hf hs hp⟩
structure Adr where
 cp:Addr
 wl:Addr
 fl:Addr
 pl:Addr
 dn:Addr
 dl:Bool->Addr
 o:Bool->Addr
 f0:Bool->Addr
 n0:Bool->Int
 t0:Bool->L0
structure qw(A:Adr):Prop where
 c1:A.wl≠A.cp
 c2:A.fl≠A.cp
 c3:A.pl≠A.cp
 c4:A.dn≠A.cp
 c5:∀k,A.dl k≠A.cp
 w2:A.fl≠A.wl
 w3:A.pl≠A.wl
 w4:A.dn≠A.wl
 w5:∀k,A.dl k≠A.wl
 d2:∀k,A.fl≠A.dl k
 d3:∀k,A.pl≠A.dl k
 d4:∀k,A.dn≠A.dl k
 d5:A.dl false≠A.dl true
 oo:A.o false≠A.o true
theorem qw.dd{A:Adr}(h:qw A){j k:Bool}(e:j≠k):A.dl j≠A.dl k:=by
 cases j<;>cases k
 ·exact absurd rfl e
 ·exact h.d5
 ·exact fun z=>h.d5 z.symm
 ·exact absurd rfl e
theorem qw.ok{A:Adr}(h:qw A){j k:Bool}(e:j≠k):A.o j≠A.o k:=by
 cases j<;>cases k
 ·exact absurd rfl e
 ·exact h.oo
 ·exact fun z=>h.oo z.symm
 ·exact absurd rfl e
noncomputable def Far(A:Adr)(x:Addr):Prop:=x≠A.cp/\x≠A.wl/\∀k,x≠A.dl k
structure W2(K:W.Frag)(C a:Addr)(ns:List Int)(A:Adr)(H:Hp)(b:Int)(w:Bool->Addr)(n:Bool->Int)(t:Bool->L0)(S:Bool->Sd)(ds:Bool->List j7):Prop where
 cup:cZ K H A.cp a ns b
 wl:H A.wl=some (.lst (two fun k=>V.ref (w k)))
 web:∀k,aQ K H (w k) (n k) (t k)
 fl:H A.fl=some (.lst (two fun k=>V.ref (A.f0 k)))
 fw:∀k,aQ K H (A.f0 k) (A.n0 k) (A.t0 k)
 pl:H A.pl=some (.lst (two fun k=>V.ref (A.o k)))
 rR:∀k,cM K C H (A.o k) (S k)
 ok:∀k,cG (S k)
 dn:H A.dn=some (.lst (two fun k=>V.ref (A.dl k)))
 dl:∀k,∃rs,H (A.dl k)=some (.lst rs)/\rA K H rs (ds k)
 far:∀k,Far A (S k).la/\Far A (S k).pa
section
variable{K:W.Frag}{C a:Addr}{ns:List Int}{A:Adr}{H H':Hp}{b c:Int}{w:Bool->Addr}{n:Bool->Int}{t:Bool->L0}{S:Bool->Sd}{ds:Bool->List j7}
theorem W2.same(h:W2 K C a ns A H b w n t S ds)(e:Same H H'):W2 K C a ns A H' b w n t S ds:=
 ⟨h.cup.same e,e _ _ h.wl,fun k=>(h.web k).same e,e _ _ h.fl,fun k=>(h.fw k).same e,e _ _ h.pl,fun k=>(h.rR k).same e,h.ok,e _ _ h.dn,fun k=>let⟨rs,h1,h2⟩:=h.dl k;⟨rs,e _ _ h1,h2.tk e.tk⟩,h.far⟩
theorem W2.mono(h:W2 K C a ns A H b w n t S ds)(e:b<=c):W2 K C a ns A H c w n t S ds:=
 ⟨h.cup.mono e,h.wl,h.web,h.fl,h.fw,h.pl,h.rR,h.ok,h.dn,h.dl,h.far⟩
theorem W2.dip(h:W2 K C a ns A H b w n t S ds)(ao:qw A)(x:au A.cp H H')(hc:cZ K H' A.cp a ns c):W2 K C a ns A H' c w n t S ds:=by
 obtain⟨z,hz⟩:=h.cup.lst;have k:TK K H H':=x.tk hz;exact⟨hc,x _ _ ao.c1 h.wl,fun j=>(h.web j).tk k,x _ _ ao.c2 h.fl,fun j=>(h.fw j).tk k,x _ _ ao.c3 h.pl,fun j=>(h.rR j).fX x hz (h.far j).1.1 (h.far j).2.1,h.ok,x _ _ ao.c4 h.dn,fun j=>let⟨rs,h1,h2⟩:=h.dl j;⟨rs,x _ _ (ao.c5 j) h1,h2.tk k⟩,h.far⟩
theorem W2.aaD(h:W2 K C a ns A H b w n t S ds)(ao:qw A)(k:Bool){wa:Addr}{n':Int}{t':L0}(hW:aQ K H wa n' t'):W2 K C a ns A (upd H A.wl (.lst (two fun j=>V.ref (bH w k wa j)))) b (bH w k wa) (bH n k n') (bH t k t') S ds:=by
 have x:au A.wl H (upd H A.wl (.lst (two fun j=>V.ref (bH w k wa j)))):=(au.refl _ _).upd;have e:TK K H (upd H A.wl (.lst (two fun j=>V.ref (bH w k wa j)))):=x.tk h.wl;refine⟨h.cup.other x h.wl (lA ao.c1),aF,fun j=> ?_,x _ _ ao.w2 h.fl,fun j=>(h.fw j).tk e,x _ _ ao.w3 h.pl,fun j=>(h.rR j).fX x h.wl (h.far j).1.2.1 (h.far j).2.2.1,h.ok,x _ _ ao.w4 h.dn,fun j=>let⟨rs,h1,h2⟩:=h.dl j;⟨rs,x _ _ (ao.w5 j) h1,h2.tk e⟩,h.far⟩;by_cases q:j=k
 ·subst q;rw[v9,v9,v9];exact hW.tk e
 ·rw[Ce q,Ce q,Ce q];exact(h.web j).tk e
theorem W2.deed(h:W2 K C a ns A H b w n t S ds)(ao:qw A)(k:Bool){S':Sd}(x:au (A.o k) H H')(hS:cM K C H' (A.o k) S')(ok:cG S')(wt:vQ (S k) S' H):W2 K C a ns A H' b w n t (bH S k S') ds:=by
 obtain⟨dx,fs,hO⟩:=(h.rR k).ins;obtain⟨z,hz⟩:=h.cup.lst;have e:TK K H H':=x.JR hO;have ne:∀{u:Addr} {zs:List V},H u=some (.lst zs)->u≠A.o k:=fun hu q=>by rw[q,hO]at hu;cases hu
 have fr:∀{u:Addr},H u=none->Far A u:=fun hu=>⟨aJ hz hu,aJ h.wl hu,fun j=>let⟨_,h1,_⟩:=h.dl j;aJ h1 hu⟩;refine⟨h.cup.ins x hO,x _ _ (ne h.wl) h.wl,fun j=>(h.web j).tk e,x _ _ (ne h.fl) h.fl,fun j=>(h.fw j).tk e,x _ _ (ne h.pl) h.pl,fun j=> ?_,fun j=> ?_,x _ _ (ne h.dn) h.dn,fun j=>let⟨rs,h1,h2⟩:=h.dl j;⟨rs,x _ _ (ne h1) h1,h2.tk e⟩,fun j=> ?_⟩
 ·by_cases q:j=k
  ·subst q;rw[v9];exact hS
  ·rw[Ce q];exact(h.rR j).other x hO (ao.ok q)
 ·by_cases q:j=k
  ·subst q;rw[v9];exact ok
  ·rw[Ce q];exact h.ok j
 ·by_cases q:j=k
  ·subst q;rw[v9];refine⟨?_,fr wt.2.1⟩;rcases wt.1 with r|r
   ·rw[r];exact(h.far j).1
   ·exact fr r
  ·rw[Ce q];exact h.far j
theorem W2.app(h:W2 K C a ns A H b w n t S ds)(ao:qw A)(k:Bool){rs:List V}{da:Addr}{d:j7}(hl:H (A.dl k)=some (.lst rs))(hr:rA K H rs (ds k))(hd:jx K H da d):W2 K C a ns A (upd H (A.dl k) (.lst (rs++[.ref da]))) b w n t S (bH ds k (ds k++[d])):=by
 have x:au (A.dl k) H (upd H (A.dl k) (.lst (rs++[.ref da]))):=(au.refl _ _).upd;have e:TK K H (upd H (A.dl k) (.lst (rs++[.ref da]))):=x.tk hl;refine⟨h.cup.other x hl (lA (ao.c5 k)),x _ _ (lA (ao.w5 k)) h.wl,fun j=>(h.web j).tk e,x _ _ (ao.d2 k) h.fl,fun j=>(h.fw j).tk e,x _ _ (ao.d3 k) h.pl,fun j=>(h.rR j).fX x hl ((h.far j).1.2.2 k) ((h.far j).2.2.2 k),h.ok,x _ _ (ao.d4 k) h.dn,fun j=> ?_,h.far⟩;by_cases q:j=k
 ·subst q;rw[v9];exact⟨_,aF,Paired.snoc (hr.tk e) ⟨da,rfl,hd.tk e⟩⟩
 ·rw[Ce q];obtain⟨rs',h1,h2⟩:=h.dl j;exact⟨rs',x _ _ (ao.dd q) h1,h2.tk e⟩
structure fH(K:W.Frag)(A:Adr)(H:Hp)(p r:Addr)(vs:List V)(l:List (List Int×(Int×Nat)))(u:Int):Prop where
 tp:SqT K H p [.ref r,.int u]
 ls:H r=some (.lst vs)
 lv:dD K H vs l
 far:Far A r
theorem fH.same{p r:Addr}{vs:List V}{l:List (List Int×(Int×Nat))}{u:Int}(h:fH K A H p r vs l u)(e:Same H H'):fH K A H' p r vs l u:=⟨e.tup h.tp,e _ _ h.ls,h.lv.same e,h.far⟩
theorem fH.x{p r q:Addr}{vs zs:List V}{l:List (List Int×(Int×Nat))}{u:Int}(h:fH K A H p r vs l u)(x:au q H H')(hq:H q=some (.lst zs))(ne:r≠q):fH K A H' p r vs l u:=⟨x.tk hq _ _ h.tp,x _ _ ne h.ls,h.lv.tk (x.tk hq),h.far⟩
theorem fH.i{p r q C dx:Addr}{vs:List V}{fs:List (Str×V)}{l:List (List Int×(Int×Nat))}{u:Int}(h:fH K A H p r vs l u)(x:au q H H')(hq:H q=some (.ins C dx fs)):fH K A H' p r vs l u:=⟨x.JR hq _ _ h.tp,x _ _ (fun z=>by have:=h.ls;rw[z,hq]at this;cases this) h.ls,h.lv.tk (x.JR hq),h.far⟩
theorem YD{x:V}{q:List Int×(Int×Nat)}(h:Fe K H x q):DV K H x (jA q):=by
 obtain⟨t,sa,fa,rfl,h1,h2,h3⟩:=h;exact .tup h1 (.cons (.tup h2 (cQ.ints _)) (.cons (.tup h3 (.cons (.int _) (.cons (.int _) .nil))) .nil))
theorem M6:∀{vs:List V} {l:List (List Int×(Int×Nat))},dD K H vs l->cQ K H vs (l.map jA)
 |_,_,.nil=> .nil
 |_,_,.cons h t=> .cons (YD h) (M6 t)
noncomputable def WM(l:List (List Int×(Int×Nat)))(u:Int):θ:= .tuple [.list (l.map jA),.int u]
theorem fH.dv{p r:Addr}{vs:List V}{l:List (List Int×(Int×Nat))}{u:Int}(h:fH K A H p r vs l u):DV K H (.ref p) (WM l u):= .tup h.tp (.cons (.lst (SqL.of h.ls) (M6 h.lv)) (.cons (.int _) .nil))
end
theorem Wu(q:List Int×(Int×Nat)):PyData.eqv (jA q) (jA q)=true:=by
 show(PyData.eqv (tI q.1) (tI q.1)&&(PyData.eqv (HW q.2) (HW q.2)&&PyData.eqvAll [] []))=true;rw[show PyData.eqv (tI q.1) (tI q.1)=decide (q.1=q.1)from wL q.1 q.1,cW rfl,frD_eq];simp[PyData.eqvAll]
theorem HY:∀l:List (List Int×(Int×Nat)),PyData.eqvAll (l.map jA) (l.map jA)=true
 |[]=>by simp[PyData.eqvAll]
 |q::l=>by
  show(PyData.eqv (jA q) (jA q)&&PyData.eqvAll (l.map jA) (l.map jA))=true;rw[Wu,HY l];rfl
theorem Wv(l:List (List Int×(Int×Nat)))(u:Int):PyData.eqv (WM l u) (WM l u)=true:=by
 show(PyData.eqvAll (l.map jA) (l.map jA)&&(PyData.eqv (.int u) (.int u)&&PyData.eqvAll [] []))=true;rw[HY,Oh];simp[PyData.eqvAll]
theorem Hu:∀l:List (List Int×(Int×Nat)),PyData.canLayAll0 (l.map jA)=true
 |[]=>rfl
 |q::l=>by
  show((jA q).canLay0&&PyData.canLayAll0 (l.map jA))=true;rw[Hu l];show((PyData.canLayAll0 (q.1.map PyData.int)&&true)&&true)=true;rw[Cp];rfl
theorem M7(l:List (List Int×(Int×Nat)))(u:Int):(WM l u).canLay0=true:=by
 show(PyData.canLayAll0 (l.map jA)&&true)=true;rw[Hu];rfl
theorem Ib:∀l:List (List Int×(Int×Nat)),PyData.depthAll (l.map jA)<=2
 |[]=>dY _
 |q::l=>by
  have:=Ib l;have d:=uQ q.1;show max (max (PyData.depthAll (q.1.map PyData.int)+1) (max (max 0 (max 0 0)+1) 0)+1) (PyData.depthAll (l.map jA))<=2;omega
theorem Ww(l l':List (List Int×(Int×Nat)))(u u':Int):min (WM l u).depth (WM l' u').depth<=64:=by
 have:=Ib l;have e:(WM l u).depth=max (PyData.depthAll (l.map jA)+1) (max 0 0)+1:=rfl;rw[e];omega
section
variable{P:ξ}{w:τ}{K:W.Frag}{mg:L4}{base:Heap}
theorem uh{H H1:Hp}{r:Addr}{o:HO}(s:Same H H1)(n:H r=none):Same H (upd H1 r o):=fun b u e=>by
 rw[cY (fun z=>by rw[z,n]at e;cases e)];exact s _ _ e
theorem Ld(w:Bool->Addr)(k:Bool)(v:Addr):(two fun j=>V.ref (w j)).set (cond k 1 0) (.ref v)=two fun j=>V.ref (bH w k v j):=by cases k<;>rfl
theorem W2.new{C a:Addr}{ns:List Int}{A:Adr}{H:Hp}{b:Int}{w:Bool->Addr}{n:Bool->Int}{t:Bool->L0}{S:Bool->Sd}{ds:Bool->List j7}(h:W2 K C a ns A H b w n t S ds){x:Addr}(hx:H x=none):Far A x:=by
 obtain⟨z,hz⟩:=h.cup.lst;exact⟨aJ hz hx,aJ h.wl hx,fun j=>let⟨_,h1,_⟩:=h.dl j;aJ h1 hx⟩
theorem W2.inst{C a:Addr}{ns:List Int}{A:Adr}{H H':Hp}{b:Int}{w:Bool->Addr}{n:Bool->Int}{t:Bool->L0}{S:Bool->Sd}{ds:Bool->List j7}(h:W2 K C a ns A H b w n t S ds){q C' dx:Addr}{fs:List (Str×V)}(x:au q H H')(hO:H q=some (.ins C' dx fs))(nq:∀k,A.o k≠q):W2 K C a ns A H' b w n t S ds:=by
 have e:TK K H H':=x.JR hO;have ne:∀{u:Addr} {zs:List V},H u=some (.lst zs)->u≠q:=fun hu z=>by rw[z,hO]at hu;cases hu
 exact⟨h.cup.ins x hO,x _ _ (ne h.wl) h.wl,fun j=>(h.web j).tk e,x _ _ (ne h.fl) h.fl,fun j=>(h.fw j).tk e,x _ _ (ne h.pl) h.pl,fun j=>(h.rR j).other x hO (nq j),h.ok,x _ _ (ne h.dn) h.dn,fun j=>let⟨rs,h1,h2⟩:=h.dl j;⟨rs,x _ _ (ne h1) h1,h2.tk e⟩,h.far⟩
theorem cG.aaJ{S:Sd}(h:cG S)(h10:S.n<=10):S.ps.length<=10:=by
 obtain⟨ss,ov,Z,Y,X,_,_,_,e⟩:=h.U7;rw[e,Gz];omega
theorem ok_law{f f1 f2 f3 f4 f5 f6 f7 f8 f9 ZX f11 C:Addr}{fd d1 d2 d3 d4 d5 d6 d7 d8 d9 d10 d11:ρ}(F:Fun K "law" "law" rG f fd)
  (Na:Bx K C)(jf:mg "Sharing"=some (.ref C))(D1:bL K mg "_law_e_web" lF ["cup","most"] f1 d1)(G1:FnOk P w K mg base CX0 4 f1 d1 ["cup","most"] (KQ K))(D2:bL K mg "_law_e_dip" W6 ["cup","many"] f2 d2)(G2:FnOk P w K mg base CX0 2 f2 d2 ["cup","many"] (zK K))(D3:lY K C "__init__" "Sharing.__init__" gn ["self","web"] f3 d3)(Mk3:Mk K C f3)(abn:FnOk P w K mg base CX0 12 f3 d3 ["self","web"] (CN K C))(D4:lY K C "laying" "Sharing.laying" zcf ["self"] f4 d4)(WT:FnOk P w K mg base CX0 4 f4 d4 ["self"] (tX K C))(D5:lY K C "again" "Sharing.again" fB ["self"] f5 d5)(G5':FnOk P w K mg base CX0 1 f5 d5 ["self"] (Kw K C))(D6:bL K mg "_law_e_next" jM ["cup","web","most"] f6 d6)(G6:FnOk P w K mg base CX0 3 f6 d6 ["cup","web","most"] (KC K))(D7:bL K mg "_law_e_do" nU ["sharing","deed"] f7 d7)(G7:FnOk P w K mg base CX0 13 f7 d7 ["sharing","deed"] (Yy K C))(D8:lY K C "prices" "Sharing.prices" zce ["self"] f8 d8)(G8':FnOk P w K mg base CX0 4 f8 d8 ["self"] (tW K C))(D9:bL K mg "_law_e_stands" fZ ["sharing","web"] f9 d9)(G9:FnOk P w K mg base CX0 6 f9 d9 ["sharing","web"] (zE K C))(D10:lY K C "value" "Sharing.value" zcv ["self"] ZX d10)(abp:FnOk P w K mg base CX0 4 ZX d10 ["self"] (tU K C))(D11:lY K C "web" "Sharing.web" eG ["self"] f11 d11)(abo:FnOk P w K mg base CX0 3 f11 d11 ["self"] (tR K C))(bZ:mg "list"=none)(aN:mg "range"=none):
  FnOk P w K mg base CX0 14 f fd ["script"] (spLaw K):=by
 have G3m:FnOk P w K mg base CX0 12 f3 d3 ["self","web"] (CN K C):=abn.mono (by decide);have G4:FnOk P w K mg base CX0 13 f4 d4 ["self"] (tX K C):=WT.mono (by decide);have G5:FnOk P w K mg base CX0 13 f5 d5 ["self"] (Kw K C):=G5'.mono (by decide);have G8:FnOk P w K mg base CX0 13 f8 d8 ["self"] (tW K C):=G8'.mono (by decide);have G10:FnOk P w K mg base CX0 13 ZX d10 ["self"] (tU K C):=abp.mono (by decide);have G11:FnOk P w K mg base CX0 13 f11 d11 ["self"] (tR K C):=abo.mono (by decide);refine F.cH ["script","cup","webs","first","pair","done","turn","at","ahead","deed","alone"] fun cdv A outer s H vs Q E hr h=> ?_;obtain⟨a,ns,rfl,hS,h63,q⟩:=h;refine bf ?_;intro Y;refine⟨_,(aP (pS 1 (pe_lst (aj (pv 0) (aj aB (aj aB ak))))) (aP (pS 2 (pe_lst (aj (pc G1 hr D1 (aj (pv 1) (aj aB ak))) (aj (pc G1 hr D1 (aj (pv 1) (aj aB ak))) ak)))) (aP (fQ (dR op_eq (pc G2 hr D2 (aj (pv 1) (aj aB ak))) aB) (aV (ps_asg (aR eF (pv 2) aB) (pg_sub (pv 2) aB PL))) gO) (aP (pS 3 (pT call_list_of bZ (aj (pv 2) ak))) (aP (pS 4 (pe_lst (aj (pe_make Mk3 G3m hr rfl jf D3.b .nil pass0 (aj (aR eF (pv 2) aB) ak)) (aj (pe_make Mk3 G3m hr rfl jf D3.b .nil pass0 (aj (aR eF (pv 2) aB) ak)) ak)))) (aP (pS 5 (pe_lst (aj (pe_lst ak) (aj (pe_lst ak) ak)))) (aP (ps_for yW rfl (JM rfl aN (aj (bC oX aB (pc G2 hr D2 (aj (pv 1) (aj aB ak)))) ak)) (pG 6) (aP (pS 7 (pc G2 hr D2 (aj (pv 1) (aj aB ak)))) (aP (pS 8 (fU (aj (zm (aR eF (pv 4) (bC op_sub aB (pv 7))) Na.c D4.m G4 hr D4.b .nil pass0) (aj (zm (aR eF (pv 4) (bC op_sub aB (pv 7))) Na.c D5.m G5 hr D5.b .nil pass0) ak)))) (aP (ps_asg (pc G6 hr D6 (aj (pv 1) (aj (aR eF (pv 2) (pv 7)) (aj aB ak)))) (pg_tup rfl (oU (pG 9) (oU (pg_sub (pv 2) (pv 7) PL) Ci)))) (aP (oO (pc G7 hr D7 (aj (aR eF (pv 4) (pv 7)) (aj (pv 9) ak)))) (aP (oO (pe_bm Qh wbf wbg mt_append (aR eF (pv 5) (pv 7)) (aj (pv 9) ak))) (aP (oO (pe_bm0 Qh PySem.F.slot_list_clear PySem.F.type_list_clear mt_clear (zm (aR eF (pv 4) (pv 7)) Na.c D4.m G4 hr D4.b .nil pass0))) (aP (oO (pe_bm Qh wbf wbg mt_append (zm (aR eF (pv 4) (pv 7)) Na.c D8.m G8 hr D8.b .nil pass0) (aj (fU (aj aB (aj aB ak))) ak))) (aP (fQ (dR (xQ hr.units) (fU (aj (zm (aR eF (pv 4) (bC op_sub aB (pv 7))) Na.c D4.m G4 hr D4.b .nil pass0) (aj (zm (aR eF (pv 4) (bC op_sub aB (pv 7))) Na.c D5.m G5 hr D5.b .nil pass0) ak))) (pv 8)) (aV (bK rB)) gO) (aV (fQ (PW.pt (rC (lC (j9 (pc G9 hr D9 (aj (aR eF (pv 4) (pv 7)) (aj (aR eF (pv 2) (pv 7)) ak))))) (zj (lC (j9 (pc G9 hr D9 (aj (aR eF (pv 4) (bC op_sub aB (pv 7))) (aj (aR eF (pv 2) (bC op_sub aB (pv 7))) ak)))))))) (aV (bK rB)) gO))))))))))) (aP (ps_for yW rfl (JM rfl aN (aj aB ak)) (pG 7) (aP (pS 10 (pe_make Mk3 G3m hr rfl jf D3.b .nil pass0 (aj (aR eF (pv 3) (pv 7)) ak))) (aP (ps_for yW rfl (sO (aR eF (pv 5) (pv 7))) (pG 9) (aV (oO (pc G7 hr D7 (aj (pv 10) (aj (pv 9) ak)))))) (aV (fQ (PW.pt (rC (dR (xQ hr.units) (zm (pv 10) Na.c D11.m G11 hr D11.b .nil pass0) (aR eF (pv 2) (pv 7))) (zj (dR (xQ hr.units) (zm (pv 10) Na.c D10.m G10 hr D10.b .nil pass0) (zm (aR eF (pv 4) (pv 7)) Na.c D10.m G10 hr D10.b .nil pass0))))) (aV (bK rB)) gO))))) (aV (bK rB)))))))))),?_⟩;refine Tr ?_;intro c9 c8 c7 c6 c5 c4 c3 c2;refine⟨_,rfl,(by show 3<=sizeLine;decide),fun cp hcp=> ?_⟩;have c0:=RJ hS h63 hcp;dsimp only[gName];refine Fv (fun σ' H'=>∃(wl:Addr) (w:Bool->Addr) (n:Bool->Int) (t:Bool->L0),σ'=[some (.ref a),some (.ref cp),some (.ref wl),none,none,none,none,none,none,none,none]/\cZ K H' cp a ns 250/\H' wl=some (.lst (two fun k=>V.ref (w k)))/\(∀k,aQ K H' (w k) (n k) (t k))/\wl≠cp) (fun N hN=> ?_) ?_
 ·refine⟨_,rfl,cp,a,ns,5,0,rfl,c0,by decide,by decide,by decide,fun w0 n0 t0 H1 x1 c1 W0=>⟨_,rfl,cp,a,ns,5,_,rfl,c1,by decide,by decide,by decide,fun w1 n1 t1 H2 x2 c2 W1=>⟨(by show 2<=sizeLine;decide),fun wl hwl=> ?_⟩⟩⟩;obtain⟨z1,hz1⟩:=c1.lst;obtain⟨z2,hz2⟩:=c2.lst;have m:=aO hwl (.lst [.ref w0,.ref w1]);refine hN _ _ ⟨wl,fun k=>cond k w1 w0,fun k=>cond k n1 n0,fun k=>cond k t1 t0,rfl,(c2.same m).mono (by decide),aF,fun k=> ?_,aJ hz2 hwl⟩;cases k
  ·exact(W0.fX x2 hz1).same m
  ·exact W1.same m
 rintro σ' H1 ⟨wl,w,n,t,rfl,c1,hwl,W1,nw⟩;clear c0 hcp
 try dsimp only
 refine Fv (fun σ' H'=>∃(w:Bool->Addr) (n:Bool->Int) (t:Bool->L0),σ'=[some (.ref a),some (.ref cp),some (.ref wl),none,none,none,none,none,none,none,none]/\cZ K H' cp a ns 260/\H' wl=some (.lst (two fun k=>V.ref (w k)))/\(∀k,aQ K H' (w k) (n k) (t k))) (fun N hN=> ?_) ?_
 ·obtain⟨z1,hz1⟩:=c1.lst;refine⟨_,rfl,cp,a,ns,3,_,rfl,c1,by decide,by decide,by decide,fun r H2 r0 r1 x2 c2=>⟨rfl,_,rfl,?_⟩⟩;have DK:=x2 _ _ nw hwl;have W2':∀k,aQ K H2 (w k) (n k) (t k):=fun k=>(W1 k).fX x2 hz1;refine ite2 (fun _=> ?_) (fun _=>hN _ _ ⟨w,n,t,rfl,c2.mono (by decide),DK,W2'⟩);refine⟨_,rfl,wl,_,_,.ref (w false),rfl,rfl,SqL.of DK,rfl,_,rfl,wl,_,_,1,rfl,rfl,DK,rfl,?_⟩;have x3:au wl H2 (upd H2 wl (.lst ((two fun k=>V.ref (w k)).set 1 (.ref (w false))))):=(au.refl _ _).upd;exact hN _ _ ⟨fun _=>w false,fun _=>n false,fun _=>t false,rfl,(c2.other x3 DK nw.symm).mono (by decide),aF,fun _=>(W2' false).fX x3 DK⟩
 clear W1 c1 hwl w n t;rintro σ' H2 ⟨w,n,t,rfl,c2,hwl,W2'⟩
 try dsimp only
 refine Fv (fun σ' H'=>∃(fl:Addr),σ'=[some (.ref a),some (.ref cp),some (.ref wl),some (.ref fl),none,none,none,none,none,none,none]/\cZ K H' cp a ns 260/\H' wl=some (.lst (two fun k=>V.ref (w k)))/\H' fl=some (.lst (two fun k=>V.ref (w k)))/\(∀k,aQ K H' (w k) (n k) (t k))/\fl≠cp/\fl≠wl) (fun N hN=> ?_) ?_
 ·obtain⟨z2,hz2⟩:=c2.lst;refine⟨_,rfl,wl,_,rfl,.inl (SqL.of hwl),fun fl hfl=> ?_⟩;have m:=aO hfl (.lst (two fun k=>V.ref (w k)));exact hN _ _ ⟨fl,rfl,c2.same m,m _ _ hwl,aF,fun k=>(W2' k).same m,aJ hz2 hfl,aJ hwl hfl⟩
 clear W2' c2 hwl;rintro σ' H3 ⟨fl,rfl,c3,hwl,hfl,W3,nfc,nfw⟩
 try dsimp only
 refine Fv (fun σ' H'=>∃(pl:Addr) (o:Bool->Addr) (S:Bool->Sd),σ'=[some (.ref a),some (.ref cp),some (.ref wl),some (.ref fl),some (.ref pl),none,none,none,none,none,none]/\cZ K H' cp a ns 260/\H' wl=some (.lst (two fun k=>V.ref (w k)))/\H' fl=some (.lst (two fun k=>V.ref (w k)))/\(∀k,aQ K H' (w k) (n k) (t k))/\H' pl=some (.lst (two fun k=>V.ref (o k)))/\(∀k,cM K C H' (o k) (S k)/\cG (S k)/\(S k).n=n k/\(S k).ts=t k/\((S k).la≠cp/\(S k).la≠wl)/\(S k).pa≠cp/\(S k).pa≠wl)/\o false≠o true/\pl≠cp/\pl≠wl) (fun N hN=> ?_) ?_
 ·refine⟨_,rfl,wl,_,_,.ref (w false),rfl,rfl,SqL.of hwl,rfl,fun o0 dx0 V7 abf hne0=> ?_⟩;have Xp:Same H3 (upd (upd H3 dx0 (.own o0)) o0 (.ins C dx0 [])):=(aO abf _).trans (aO (by rw[cY (lA hne0)];exact V7) _);have Ze:=Xp _ _ hwl;obtain⟨zM,hzM⟩:=(c3.same Xp).lst;refine⟨o0,dx0,w false,n false,t false,rfl,aF,(W3 false).same Xp,fun S0 H4 x4 Zt ok4 en4 et4 _ nl4 np4=>⟨rfl,?_⟩⟩;have c4:=(c3.same Xp).ins x4 aF;have e4:TK K (upd (upd H3 dx0 (.own o0)) o0 (.ins C dx0 [])) H4:=x4.JR aF;have n4:∀{u:Addr} {zs:List V},H3 u=some (.lst zs)->H4 u=some (.lst zs):=fun hu=>x4 _ _ (fun z=>by rw[z,V7]at hu;cases hu) (Xp _ _ hu);have Ri:=n4 hwl;have abb:=n4 hfl;have W4:∀k,aQ K H4 (w k) (n k) (t k):=fun k=>((W3 k).same Xp).tk e4;refine⟨_,rfl,wl,_,_,.ref (w true),rfl,rfl,SqL.of Ri,rfl,fun o1 Z9 ho1 abe aa8=> ?_⟩;have Tc:Same H4 (upd (upd H4 Z9 (.own o1)) o1 (.ins C Z9 [])):=(aO abe _).trans (aO (by rw[cY (lA aa8)];exact ho1) _);obtain⟨zM1,Zc⟩:=(c4.same Tc).lst;refine⟨o1,Z9,w true,n true,t true,rfl,aF,(W4 true).same Tc,fun S1 H5 x5 hS5 ok5 en5 et5 _ nl5 np5=>⟨rfl,?_⟩⟩;have c5:=(c4.same Tc).ins x5 aF;have e5:TK K (upd (upd H4 Z9 (.own o1)) o1 (.ins C Z9 [])) H5:=x5.JR aF;have n5:∀{u:Addr} {zs:List V},H4 u=some (.lst zs)->H5 u=some (.lst zs):=fun hu=>x5 _ _ (fun z=>by rw[z,ho1]at hu;cases hu) (Tc _ _ hu);have Zf:=n5 Ri;have aa':=n5 abb;have W5:∀k,aQ K H5 (w k) (n k) (t k):=fun k=>((W4 k).same Tc).tk e5;obtain⟨dxo,fso,hO4⟩:=Zt.ins;have oo:o0≠o1:=fun z=>by rw[z,ho1]at hO4;cases hO4
  have abh:cM K C H5 o0 S0:=(Zt.same Tc).other x5 aF oo;refine⟨(by show 2<=sizeLine;decide),fun pl hpl=> ?_⟩;obtain⟨z5,hz5⟩:=c5.lst;have m:=aO hpl (.lst [.ref o0,.ref o1]);refine hN _ _ ⟨pl,fun k=>cond k o1 o0,fun k=>cond k S1 S0,rfl,c5.same m,m _ _ Zf,m _ _ aa',fun k=>(W5 k).same m,aF,fun k=> ?_,oo,aJ hz5 hpl,aJ Zf hpl⟩;cases k
  ·exact⟨abh.same m,ok4,en4,et4,⟨aJ hzM nl4,aJ Ze nl4⟩,aJ hzM np4,aJ Ze np4⟩
  ·exact⟨hS5.same m,ok5,en5,et5,⟨aJ Zc nl5,aJ (Tc _ _ Ri) nl5⟩,aJ Zc np5,aJ (Tc _ _ Ri) np5⟩
 clear W3 c3 hwl hfl;rintro σ' H4 ⟨pl,o,S,rfl,c4,hwl,hfl,W4,hpl,hSh,oo,npc,npw⟩
 try dsimp only
 refine Fv (fun σ' H'=>∃(A:Adr),qw A/\A.cp=cp/\σ'=[some (.ref a),some (.ref A.cp),some (.ref A.wl),some (.ref A.fl),some (.ref A.pl),some (.ref A.dn),none,none,none,none,none]/\W2 K C a ns A H' 260 w n t S (fun _=>[])/\(∀k,A.n0 k=n k/\A.t0 k=t k)) (fun N hN=> ?_) ?_
 ·refine⟨(by show 0<=sizeLine;decide),fun d0 hd0=>⟨(by show 0<=sizeLine;decide),fun d1 hd1=>⟨(by show 2<=sizeLine;decide),fun dn hdn=> ?_⟩⟩⟩;have m0:=aO hd0 (.lst []);have m1:=aO hd1 (.lst []);have m2:=aO hdn (.lst [.ref d0,.ref d1]);have m:=m0.trans (m1.trans m2);have e0:(upd H4 d0 (.lst [])) d0=some (.lst []):=aF;have e1:(upd (upd H4 d0 (.lst [])) d1 (.lst [])) d1=some (.lst []):=aF;obtain⟨z,hz⟩:=c4.lst;have la:∀k,H4 (S k).la≠none:=fun k q=>by
   obtain⟨dx,wb,va,lr,pr,h⟩:=(hSh k).1;rw[h.lay]at q;cases q
  have pa:∀k,H4 (S k).pa≠none:=fun k q=>by
   obtain⟨dx,wb,va,lr,pr,h⟩:=(hSh k).1;rw[h.U7]at q;cases q
  have Xu:∀{u:Addr},H4 u≠none->u≠d0:=fun hu q=>hu (by rw[q];exact hd0);have Xr:∀{u:Addr},H4 u≠none->u≠d1:=fun{u} hu q=>hu (by
   have:=m0.none (q▸hd1);exact this)
  have ex:∀{u:Addr} {zs:List V},H4 u=some (.lst zs)->H4 u≠none:=fun hu q=>by rw[hu]at q;cases q
  refine hN _ _ ⟨⟨cp,wl,fl,pl,dn,fun k=>cond k d1 d0,o,w,n,t⟩,⟨nw,nfc,npc,aJ ((m0.trans m1) _ _ hz) hdn,fun k=> ?_,nfw,npw,aJ ((m0.trans m1) _ _ hwl) hdn,fun k=> ?_,fun k=> ?_,fun k=> ?_,fun k=> ?_,?_,oo⟩,rfl,rfl,⟨c4.same m,m _ _ hwl,fun k=>(W4 k).same m,m _ _ hfl,fun k=>(W4 k).same m,m _ _ hpl,fun k=>(hSh k).1.same m,fun k=>(hSh k).2.1,aF,fun k=> ?_,fun k=> ?_⟩,fun k=>⟨rfl,rfl⟩⟩
  ·cases k
   ·exact(Xu (ex hz)).symm
   ·exact(Xr (ex hz)).symm
  ·cases k
   ·exact(Xu (ex hwl)).symm
   ·exact(Xr (ex hwl)).symm
  ·cases k
   ·exact Xu (ex hfl)
   ·exact Xr (ex hfl)
  ·cases k
   ·exact Xu (ex hpl)
   ·exact Xr (ex hpl)
  ·cases k
   ·exact aJ (m1 _ _ e0) hdn
   ·exact aJ e1 hdn
  ·exact fun z=>(aJ e0 hd1) z.symm
  ·cases k
   ·exact⟨[],(m1.trans m2) _ _ e0,.nil⟩
   ·exact⟨[],m2 _ _ e1,.nil⟩
  ·obtain⟨_,_,_,_,a1,a2⟩:=hSh k;refine⟨⟨a1.1,a1.2,fun j=> ?_⟩,a2.1,a2.2,fun j=> ?_⟩
   ·cases j
    ·exact Xu (la k)
    ·exact Xr (la k)
   ·cases j
    ·exact Xu (pa k)
    ·exact Xr (pa k)
 have hSt:∀k,(S k).n=n k/\(S k).ts=t k:=fun k=>⟨(hSh k).2.2.1,(hSh k).2.2.2.1⟩;rintro σ' H5 ⟨A,ao,ecp,rfl,I,h0t⟩;clear c4 hwl hfl W4 hpl hSh oo npc npw nfc nfw nw ecp
 try dsimp only
 refine Fv (fun σ' H'=>∃(w:Bool->Addr) (n:Bool->Int) (t:Bool->L0) (S:Bool->Sd) (ds:Bool->List j7) (o6 o7 o8 o9:Option V),σ'=[some (.ref a),some (.ref A.cp),some (.ref A.wl),some (.ref A.fl),some (.ref A.pl),some (.ref A.dn),o6,o7,o8,o9,none]/\W2 K C a ns A H' 1000 w n t S ds/\(∀k,(S k).n=n k/\(S k).ts=t k)/\(∀k,Run (A.n0 k) (A.t0 k) (ds k) (n k) (t k))) (fun N hN=> ?_) ?_
 ·refine⟨_,rfl,A.cp,a,ns,11,_,rfl,I.cup,by decide,by decide,by decide,fun m H6 m0 m1 x6 c6=>⟨_,_,rfl,rfl,6+m,rfl,by omega,by omega,?_⟩⟩;let gR:Nat->St->Hp->Prop:=fun i σ H'=>∃(w:Bool->Addr) (n:Bool->Int) (t:Bool->L0) (S:Bool->Sd) (ds:Bool->List j7) (o6 o7 o8 o9:Option V),σ=[some (.ref a),some (.ref A.cp),some (.ref A.wl),some (.ref A.fl),some (.ref A.pl),some (.ref A.dn),o6,o7,o8,o9,none]/\W2 K C a ns A H' (261+30*(i:Int)) w n t S ds/\(∀k,(S k).n=n k/\(S k).ts=t k)/\(∀k,Run (A.n0 k) (A.t0 k) (ds k) (n k) (t k))/\∀k,(ds k).length<=i;refine RP (n:=(6+m).toNat) gR ⟨w,n,t,S,fun _=>[],_,_,_,_,rfl,(I.dip ao x6 c6).mono (by omega),hSt,fun k=>⟨((h0t k).1).symm,((h0t k).2).symm⟩,fun k=>aY _⟩ (fun i σ H' hi p=> ?_) (fun σ H' p=> ?_)
  ·clear I c6 x6 hSt h0t w n t S;obtain⟨w,n,t,S,ds,o6,o7,o8,o9,rfl,I,hSt,Jt,hLen⟩:=p;refine⟨_,rfl,A.cp,a,ns,2,_,rfl,I.cup,by omega,by decide,by decide,fun r H1 r0 r1 x1 c1=> ?_⟩;obtain⟨k,rfl⟩:=aaj r0 r1;have I1:=I.dip ao x1 c1;clear I x1 c1;obtain⟨dx,wb',va',lr',pr',A1⟩:=id (I1.rR (!k))
   -- ahead
   dsimp only[gName,List.set];refine Fv (fun σ' H'=>∃(pa ra:Addr) (va:List V),σ'=[some (.ref a),some (.ref A.cp),some (.ref A.wl),some (.ref A.fl),some (.ref A.pl),some (.ref A.dn),some (.int (0+(i:Int))),some (.int (bI k)),some (.ref pa),o9,none]/\W2 K C a ns A H' (262+30*(i:Int)) w n t S ds/\fH K A H' pa ra va (S (!k)).l (S (!k)).t) (fun N hN=> ?_) ?_
   ·refine⟨_,rfl,_,rfl,_,_,rfl,rfl,A.pl,_,_,.ref (A.o (!k)),rfl,rfl,SqL.of I1.pl,mY _ k,A.o (!k),dx,_,rfl,A1.at_,rfl,A.o (!k),S (!k),rfl,I1.rR (!k),I1.ok (!k),fun ra va H2 s2 e2 l2 n2=> ?_⟩;have I2:=I1.same s2;refine⟨_,rfl,_,rfl,_,_,rfl,rfl,A.pl,_,_,.ref (A.o (!k)),rfl,rfl,SqL.of I2.pl,mY _ k,A.o (!k),dx,_,rfl,(A1.same s2).at_,rfl,A.o (!k),S (!k),rfl,I2.rR (!k),?_⟩;refine⟨(by show 2<=sizeLine;decide),fun pa hpa=> ?_⟩;have n3:=aO hpa (.tup [.ref ra,.int (S (!k)).t]);exact hN _ _ ⟨pa,ra,va,rfl,(I2.same n3).mono (by omega),SqT.of aF,n3 _ _ e2,l2.same n3,I1.new n2⟩
   clear A1 I1;rintro σ' H3 ⟨pa,ra,va,rfl,I3,Hw⟩
   try dsimp only
   -- the deed
   refine Fv (fun σ' H'=>∃(da wa:Addr) (d:j7) (n':Int) (t':L0),σ'=[some (.ref a),some (.ref A.cp),some (.ref A.wl),some (.ref A.fl),some (.ref A.pl),some (.ref A.dn),some (.int (0+(i:Int))),some (.int (bI k)),some (.ref pa),some (.ref da),none]/\W2 K C a ns A H' (282+30*(i:Int)) (bH w k wa) (bH n k n') (bH t k t') S ds/\fH K A H' pa ra va (S (!k)).l (S (!k)).t/\jx K H' da d/\Pb (n k) (t k) d/\TF (n k) n' (t k) t' d) (fun N hN=> ?_) ?_
   ·refine⟨_,rfl,_,rfl,_,rfl,A.wl,_,_,.ref (w k),rfl,rfl,SqL.of I3.wl,gC _ k,A.cp,a,w k,ns,_,n k,5,t k,rfl,by decide,I3.cup,by omega,I3.web k,fun r da wa d n' t' H4 x4 c4 hr hD hF hW hst=> ?_⟩;obtain⟨zc,hzc⟩:=I3.cup.lst;have I4:=I3.dip ao x4 c4;have A4:=Hw.x x4 hzc Hw.far.1;refine⟨r,_,rfl,hr,rfl,_,_,rfl,_,_,rfl,_,rfl,_,rfl,A.wl,_,_,cond k 1 0,rfl,rfl,I4.wl,V4 _ k,rfl,?_⟩;rw[Ld];have x5:au A.wl H4 (upd H4 A.wl (.lst (two fun j=>V.ref (bH w k wa j)))):=(au.refl _ _).upd;exact hN _ _ ⟨da,wa,d,n',t',rfl,(I4.aaD ao k hW).mono (by omega),A4.x x5 I4.wl Hw.far.2.1,hD.tk (x5.tk I4.wl),hF,hst⟩
   clear I3 Hw;rintro σ' H4 ⟨da,wa,d,n',t',rfl,I4,Hw,hD,hF,hst⟩
   try dsimp only
   refine Fv (fun σ' H'=>∃(S':Sd),σ'=[some (.ref a),some (.ref A.cp),some (.ref A.wl),some (.ref A.fl),some (.ref A.pl),some (.ref A.dn),some (.int (0+(i:Int))),some (.int (bI k)),some (.ref pa),some (.ref da),none]/\W2 K C a ns A H' (282+30*(i:Int)) (bH w k wa) (bH n k n') (bH t k t') (bH S k S') ds/\fH K A H' pa ra va (S (!k)).l (S (!k)).t/\jx K H' da d/\S'.n=n'/\S'.ts=t') (fun N hN=> ?_) ?_
   ·refine⟨_,rfl,_,rfl,A.pl,_,_,.ref (A.o k),rfl,rfl,SqL.of I4.pl,gC _ k,_,rfl,A.o k,da,S k,d,rfl,I4.rR k,I4.ok k,hD,by rw[(hSt k).1,(hSt k).2];exact hF,fun v S' H6 x6 hS6 ok6 st6 w6=> ?_⟩;obtain⟨dxo,fso,hO⟩:=(I4.rR k).ins;obtain⟨RB,wb6,va6,lr6,pr6,A6⟩:=id hS6;rw[(hSt k).1,(hSt k).2]at st6;have W:=I4.web k;rw[v9,v9,v9]at W;obtain⟨q1,q2⟩:=st6.uniq hst A6.web.wZ W.wZ;exact hN _ _ ⟨S',rfl,I4.deed ao k x6 hS6 ok6 w6,Hw.i x6 hO,hD.tk (x6.JR hO),q1,q2⟩
   have W4:=I4.web k;rw[v9,v9,v9]at W4;have aaF:=W4.wZ;clear I4 Hw hD W4;rintro σ' H5 ⟨S',rfl,I5,Hw,hD,en',et'⟩
   try dsimp only
   refine Fv (fun σ' H'=>σ'=[some (.ref a),some (.ref A.cp),some (.ref A.wl),some (.ref A.fl),some (.ref A.pl),some (.ref A.dn),some (.int (0+(i:Int))),some (.int (bI k)),some (.ref pa),some (.ref da),none]/\W2 K C a ns A H' (282+30*(i:Int)) (bH w k wa) (bH n k n') (bH t k t') (bH S k S') (bH ds k (ds k++[d]))/\fH K A H' pa ra va (S (!k)).l (S (!k)).t) (fun N hN=> ?_) ?_
   ·obtain⟨rs,hl,hr⟩:=I5.dl k;have hrl:=Paired.eV hr;have hll:=hLen k;refine⟨_,rfl,_,rfl,A.dn,_,_,.ref (A.dl k),rfl,rfl,SqL.of I5.dn,gC _ k,.inl ⟨rfl,_,SqL.of hl⟩,_,rfl,A.dl k,rs,_,rfl,rfl,hl,by rw[gU];omega,?_⟩;have x6:au (A.dl k) H5 (upd H5 (A.dl k) (.lst (rs++[.ref da]))):=(au.refl _ _).upd;exact hN _ _ ⟨rfl,I5.app ao k hl hr hD,Hw.x x6 hl (Hw.far.2.2 k)⟩
   clear I5 Hw hD;rintro σ' H6 ⟨rfl,I6,Hw⟩
   try dsimp only
   refine Fv (fun σ' H'=>σ'=[some (.ref a),some (.ref A.cp),some (.ref A.wl),some (.ref A.fl),some (.ref A.pl),some (.ref A.dn),some (.int (0+(i:Int))),some (.int (bI k)),some (.ref pa),some (.ref da),none]/\Same H6 H') (fun N hN=> ?_) ?_
   ·obtain⟨RB,wb6,va6,lr6,pr6,A6⟩:=id (I6.rR k);refine⟨_,rfl,_,rfl,A.pl,_,_,.ref (A.o k),rfl,rfl,SqL.of I6.pl,gC _ k,A.o k,RB,_,rfl,A6.at_,rfl,A.o k,_,rfl,I6.rR k,I6.ok k,fun r8 v8 H8 s8 e8 l8 n8=>⟨.inl ⟨rfl,_,SqL.of e8⟩,r8,_,rfl,rfl,e8,?_⟩⟩;exact hN _ _ ⟨rfl,uh s8 n8⟩
   rintro σ' H7 ⟨rfl,s7⟩;have I7:=I6.same s7;have Zv:=Hw.same s7;clear I6 Hw s7
   try dsimp only
   refine Fv (fun σ' H'=>σ'=[some (.ref a),some (.ref A.cp),some (.ref A.wl),some (.ref A.fl),some (.ref A.pl),some (.ref A.dn),some (.int (0+(i:Int))),some (.int (bI k)),some (.ref pa),some (.ref da),none]/\Same H7 H') (fun N hN=> ?_) ?_
   ·obtain⟨RB,wb6,va6,lr6,pr6,A6⟩:=id (I7.rR k);have abu:=(I7.ok k).aaJ A6.web.h1;refine⟨_,rfl,_,rfl,A.pl,_,_,.ref (A.o k),rfl,rfl,SqL.of I7.pl,gC _ k,A.o k,RB,_,rfl,A6.at_,rfl,A.o k,_,rfl,I7.rR k,I7.ok k,fun r8 v8 H8 s8 e8 l8 n8=>⟨.inl ⟨rfl,_,SqL.of e8⟩,(by show 2<=sizeLine;decide),fun q9 hq9=> ?_⟩⟩;have m9:=aO hq9 (.tup [.int 1,.int 1]);have l9:=Paired.eV l8;refine⟨r8,_,_,rfl,rfl,m9 _ _ e8,by rw[gU];omega,?_⟩;exact hN _ _ ⟨rfl,uh (s8.trans m9) n8⟩
   rintro σ' H8 ⟨rfl,s8⟩;have I8:=I7.same s8;have Zu:=Zv.same s8;clear I7 Zv s8
   try dsimp only
   have eS:bH S k S' (!k)=S (!k):=Ce (Vw k);refine Fv (fun σ' H'=>σ'=[some (.ref a),some (.ref A.cp),some (.ref A.wl),some (.ref A.fl),some (.ref A.pl),some (.ref A.dn),some (.int (0+(i:Int))),some (.int (bI k)),some (.ref pa),some (.ref da),none]/\Same H8 H') (fun N hN=> ?_) ?_
   ·obtain⟨RB,wb6,va6,lr6,pr6,A6⟩:=id (I8.rR (!k));refine⟨_,rfl,_,rfl,_,_,rfl,rfl,A.pl,_,_,.ref (A.o (!k)),rfl,rfl,SqL.of I8.pl,mY _ k,A.o (!k),RB,_,rfl,A6.at_,rfl,A.o (!k),_,rfl,I8.rR (!k),I8.ok (!k),fun ra2 va2 H9 s9 e9 l9 n9=> ?_⟩;have I9:=I8.same s9;refine⟨_,rfl,_,rfl,_,_,rfl,rfl,A.pl,_,_,.ref (A.o (!k)),rfl,rfl,SqL.of I9.pl,mY _ k,A.o (!k),RB,_,rfl,(A6.same s9).at_,rfl,A.o (!k),_,rfl,I9.rR (!k),?_⟩;refine⟨(by show 2<=sizeLine;decide),fun pa2 aa7=> ?_⟩;have m3:=aO aa7 (.tup [.ref ra2,.int (bH S k S' (!k)).t]);have hB:fH K A (upd H9 pa2 (.tup [.ref ra2,.int (bH S k S' (!k)).t])) pa2 ra2 va2 (bH S k S' (!k)).l (bH S k S' (!k)).t:=⟨SqT.of aF,m3 _ _ e9,l9.same m3,I8.new n9⟩;have Qo:=s9.trans m3;refine⟨_,rfl,_,_,hB.dv,(Zu.same Qo).dv,M7 _ _,M7 _ _,Ww _ _ _ _,_,rfl,?_⟩;rw[eS,Wv];rw[eS]at Qo;exact iteF (hN _ _ ⟨rfl,Qo⟩)
   rintro σ' H9 ⟨rfl,s9⟩;have I9:=I8.same s9;clear I8 Zu s9
   try dsimp only
   have eqs:∀j,(bH S k S' j).n=bH n k n' j/\(bH S k S' j).ts=bH t k t' j:=fun j=>by
    by_cases q:j=k
    ·subst q;rw[v9,v9,v9];exact⟨en',et'⟩
    ·rw[Ce q,Ce q,Ce q];exact hSt j
   have Yh:∀(H:Hp),Same H9 H->∀j,aQ K H (bH w k wa j) (bH S k S' j).n (bH S k S' j).ts:=fun H s j=>by
    rw[(eqs j).1,(eqs j).2];exact(I9.web j).same s
   refine⟨_,rfl,_,rfl,A.pl,_,_,.ref (A.o k),rfl,rfl,SqL.of I9.pl,gC _ k,_,rfl,_,rfl,A.wl,_,_,.ref (bH w k wa k),rfl,rfl,SqL.of I9.wl,gC _ k,A.o k,bH w k wa k,bH S k S' k,rfl,I9.rR k,I9.ok k,Yh _ (Same.refl _) k,fun H10 Qo=>⟨_,rfl,iteF ?_⟩⟩;have I10:=I9.same Qo;refine⟨_,rfl,_,rfl,_,_,rfl,rfl,A.pl,_,_,.ref (A.o (!k)),rfl,rfl,SqL.of I10.pl,mY _ k,_,rfl,_,rfl,_,_,rfl,rfl,A.wl,_,_,.ref (bH w k wa (!k)),rfl,rfl,SqL.of I10.wl,mY _ k,A.o (!k),bH w k wa (!k),bH S k S' (!k),rfl,I10.rR (!k),I10.ok (!k),Yh _ Qo (!k),fun H11 s11=>⟨_,rfl,iteF ?_⟩⟩;refine⟨bH w k wa,bH n k n',bH t k t',bH S k S',bH ds k (ds k++[d]),_,_,_,_,rfl,(I10.same s11).mono (by omega),eqs,fun j=> ?_,fun j=> ?_⟩
   ·by_cases q:j=k
    ·subst q;rw[v9,v9,v9];exact(Jt j).snoc hF hst aaF
    ·rw[Ce q,Ce q,Ce q];exact Jt j
   ·by_cases q:j=k
    ·subst q;rw[v9,qz];have:=hLen j;show _+1<=_;omega
    ·rw[Ce q];have:=hLen j;omega
  ·obtain⟨w,n,t,S,ds,o6,o7,o8,o9,rfl,I,hSt,Jt,hLen⟩:=p;exact hN _ _ ⟨w,n,t,S,ds,o6,o7,o8,o9,rfl,I.mono (by omega),hSt,Jt⟩
 clear I hSt h0t w n t S;rintro σ' H6 ⟨w,n,t,S,ds,o6,o7,o8,o9,rfl,I,hSt,Jt⟩
 try dsimp only
 refine⟨2,rfl,by decide,by decide,?_⟩;let qj:Nat->St->Hp->Prop:=fun i σ H'=>W2 K C a ns A H' 1000 w n t S ds/\∃(o6 o7 o8 o9 o10:Option V),σ=[some (.ref a),some (.ref A.cp),some (.ref A.wl),some (.ref A.fl),some (.ref A.pl),some (.ref A.dn),o6,o7,o8,o9,o10];refine RP (n:=2) qj ⟨I,_,_,_,_,_,rfl⟩ (fun i σ H' hi p=> ?_) (fun σ H' p=>q H');clear I o6 o7 o8 o9;obtain⟨I,o6,o7,o8,o9,o10,rfl⟩:=p;obtain⟨k,ek⟩:∃k,(0+(i:Int))=bI k:=aaj (by omega) (by omega);rw[ek];refine⟨_,rfl,_,rfl,A.fl,_,_,.ref (A.f0 k),rfl,rfl,SqL.of I.fl,gC _ k,fun oq dxq hoq abd hneq=> ?_⟩;have sM:Same H' (upd (upd H' dxq (.own oq)) oq (.ins C dxq [])):=(aO abd _).trans (aO (by rw[cY (lA hneq)];exact hoq) _);have IM:=I.same sM;have nq:∀j,A.o j≠oq:=fun j z=>by
  obtain⟨dx,fs,hO⟩:=(I.rR j).ins;rw[z,hoq]at hO;cases hO
 refine⟨oq,dxq,A.f0 k,A.n0 k,A.t0 k,rfl,aF,IM.fw k,fun S0 H1 x1 hS1 ok1 en1 et1 _ _ _=>⟨rfl,?_⟩⟩;have I1:=IM.inst x1 aF nq;obtain⟨rs,hl,hr⟩:=I1.dl k;have hrl:=Paired.eV hr;dsimp only[gName,List.set];refine Fv (fun σ' H'=>∃(Sx:Sd) (o9:Option V),σ'=[some (.ref a),some (.ref A.cp),some (.ref A.wl),some (.ref A.fl),some (.ref A.pl),some (.ref A.dn),o6,some (.int (bI k)),o8,o9,some (.ref oq)]/\W2 K C a ns A H' 1000 w n t S ds/\cM K C H' oq Sx/\cG Sx/\Sx.n=n k/\Sx.ts=t k) (fun N hN=> ?_) ?_
 ·refine⟨_,rfl,_,rfl,A.dn,_,_,.ref (A.dl k),rfl,rfl,SqL.of I1.dn,gC _ k,A.dl k,_,rfl,SqL.of hl,fun hz=> ?_⟩;let Bw:Nat->St->Hp->Prop:=fun j σ H'=>∃(Sx:Sd) (o9:Option V),σ=[some (.ref a),some (.ref A.cp),some (.ref A.wl),some (.ref A.fl),some (.ref A.pl),some (.ref A.dn),o6,some (.int (bI k)),o8,o9,some (.ref oq)]/\W2 K C a ns A H' 1000 w n t S ds/\cM K C H' oq Sx/\cG Sx/\Run Sx.n Sx.ts ((ds k).drop j) (n k) (t k)/\H' (A.dl k)=some (.lst rs)/\rA K H' rs (ds k);refine for_list (K:=K) (a:=A.dl k) (xs:=rs) Bw ⟨S0,_,rfl,I1,hS1,ok1,by rw[en1,et1];exact Jt k,hl,hr⟩ (fun j σ H' _ p=>by obtain⟨_,_,_,_,_,_,_,h,_⟩:=p;exact SqL.of h) (fun j x σ H2 hx p=> ?_) (fun σ H2 p=> ?_)
  ·obtain⟨Sx,o9,rfl,I2,hS2,ok2,IV,hl2,hr2⟩:=p;have hj:j<(ds k).length:=by rw[<-hrl];exact(nF.mp hx).1
   obtain⟨d,ed,hR⟩:=Paired.at_ hr2 hx;rw[dG hj]at ed;cases ed;obtain⟨da,rfl,hD⟩:=hR;rw[wdi hj]at IV;obtain⟨n1,t1,fit,st,aaE,aaH⟩:=IV;refine⟨_,rfl,_,rfl,oq,da,Sx,_,rfl,hS2,ok2,hD,fit,fun v S' H3 x3 hS3 ok3 st3 w3=> ?_⟩;obtain⟨dxo,fso,hO⟩:=hS2.ins;obtain⟨dx3,wb3,va3,lr3,pr3,A3⟩:=id hS3;obtain⟨q1,q2⟩:=st3.uniq st A3.web.wZ aaE;refine⟨S',_,rfl,I2.inst x3 hO nq,hS3,ok3,by rw[q1,q2];exact aaH,x3 _ _ (fun z=>by rw[z,hO]at hl2;cases hl2) hl2,hr2.tk (x3.JR hO)⟩
  ·obtain⟨Sx,o9,rfl,I2,hS2,ok2,IV,_,_⟩:=p;rw[hrl,List.drop_length]at IV;exact hN _ _ ⟨Sx,o9,rfl,I2,hS2,ok2,IV.1.symm,IV.2.symm⟩
 clear I IM I1 hS1 hl hr;rintro σ' H2 ⟨Sx,o9',rfl,I2,hS2,ok2,en,et⟩
 try dsimp only
 obtain⟨dx2,wz,va2,lr2,pr2,A2⟩:=id hS2;refine⟨_,rfl,oq,dx2,_,rfl,A2.at_,rfl,oq,Sx,rfl,hS2,fun r1 H3 s3 W3=>⟨_,rfl,_,rfl,A.wl,_,_,.ref (w k),rfl,rfl,SqL.of (s3 _ _ I2.wl),gC _ k,?_⟩⟩;have I3:=I2.same s3;rw[en,et]at W3;refine⟨_,_,W3.web.dv,(I3.web k).web.dv,sZ _ _,sZ _ _,Ga _ _,_,rfl,?_⟩;rw[HX];refine iteF ?_;refine⟨_,rfl,oq,dx2,_,rfl,(A2.same s3).at_,rfl,oq,Sx,rfl,hS2.same s3,ok2,fun r2 H4 s4 F4=> ?_⟩;have I4:=I3.same s4;obtain⟨dx4,wb4,va4,lr4,pr4,A4⟩:=id (I4.rR k);refine⟨_,rfl,_,rfl,A.pl,_,_,.ref (A.o k),rfl,rfl,SqL.of I4.pl,gC _ k,A.o k,dx4,_,rfl,A4.at_,rfl,A.o k,S k,rfl,I4.rR k,I4.ok k,fun r3 H5 s5 F5=> ?_⟩;have ev:Sx.f=(S k).f:=by
  have v1:=ok2.val;have v2:=(I4.ok k).val;rw[en,et]at v1;rw[(hSt k).1,(hSt k).2]at v2;exact v1.uniq v2 (I4.web k).pk
 have F4':=s5.tup F4;refine⟨_,_,qF.dv F4',qF.dv F5,iy _,iy _,tG _ _,_,rfl,?_⟩;rw[ev,frD_eq];exact iteF ⟨I4.same s5,_,_,_,_,_,rfl⟩
end
end Hs
namespace L2
open PySem
section
variable{K:W.Frag}{x y:Str}{st:Stmt}{f C:Addr}{fd:ρ}{oc:ζ}{od an:Option Addr}{osl:Array (Option ζ)}{kV doc pm cdv ct:ζ}{mg:L4}{h:Heap}
noncomputable def DA(K:W.Frag)(x:Str)(st:Stmt)(f:Addr):Prop:=∃fd,Fun K x x st f fd/\PySem.W.nsIn K mainGlobals x=some (some (.ref f))
theorem DA.of(a:PySem.W.nsIn K mainGlobals x=some (some (.ref f)):=by k_is)(l:K.lookup f=some ⟨oc,od,.func (PySem.W.fnOf x x (defArgs st) (defBody st) (defScope st) .none kV doc pm an cdv ct),osl⟩:=by k_is)(c:PySem.W.codeIn K cdv x=true:=by k_is)(k:PySem.W.keepIn K (.ref f)=true:=by k_is):DA K x st f:=⟨_,fun_mk l c k,a⟩
noncomputable def MA(K:W.Frag)(C:Addr)(x y:Str)(st:Stmt)(f:Addr):Prop:=∃fd,Fun K x y st f fd/\PySem.W.findIn K (.ref C) x=some (some (.ref f))/\PySem.W.isFn K (.ref f)=true/\PySem.W.keepIn K (.ref f)=true
theorem MA.of(a:PySem.W.findIn K (.ref C) x=some (some (.ref f)):=by k_is)(l:K.lookup f=some ⟨oc,od,.func (PySem.W.fnOf x y (defArgs st) (defBody st) (defScope st) .none kV doc pm an cdv ct),osl⟩:=by k_is)(c:PySem.W.codeIn K cdv y=true:=by k_is)(k:PySem.W.keepIn K (.ref f)=true:=by k_is)(i:PySem.W.isFn K (.ref f)=true:=by k_is):MA K C x y st f:=⟨_,fun_mk l c k,a,i,k⟩
theorem DA.d{ps:List Str}(X:K.In h)(G:h.Ns mainGlobals mg)(F:Fun K x x st f fd)(a:PySem.W.nsIn K mainGlobals x=some (some (.ref f)))(b:∀(kV doc pm:ζ) (an:Option Addr) (cdv ct:ζ) (us:List ζ),us.length=ps.length->bindArgs (PySem.W.fnOf x x (defArgs st) (defBody st) (defScope st) .none kV doc pm an cdv ct) ⟨us,[]⟩=pure (ps.zip us)):bL K mg x st ps f fd:=⟨F,F.binds b,PySem.W.mg_of X G a⟩
theorem MA.d{ps:List Str}(F:Fun K x y st f fd)(a:PySem.W.findIn K (.ref C) x=some (some (.ref f))/\PySem.W.isFn K (.ref f)=true/\PySem.W.keepIn K (.ref f)=true)(b:∀(kV doc pm:ζ) (an:Option Addr) (cdv ct:ζ) (us:List ζ),us.length=ps.length->bindArgs (PySem.W.fnOf x y (defArgs st) (defBody st) (defScope st) .none kV doc pm an cdv ct) ⟨us,[]⟩=pure (ps.zip us)):lY K C x y st ps f fd:=⟨F,F.binds b,⟨a.1,a.2.1,a.2.2⟩⟩
theorem tK{p1:Str}{P:List ζ->Prop}(h:∀a,P [a])(us:List ζ)(hl:us.length=[p1].length):P us:=by
 match us,hl with
 |[a],_=>exact h a
theorem lB{p1 p2:Str}{P:List ζ->Prop}(h:∀a b,P [a,b])(us:List ζ)(hl:us.length=[p1,p2].length):P us:=by
 match us,hl with
 |[a,b],_=>exact h a b
theorem JX{p1 p2 p3:Str}{P:List ζ->Prop}(h:∀a b c,P [a,b,c])(us:List ζ)(hl:us.length=[p1,p2,p3].length):P us:=by
 match us,hl with
 |[a,b,c],_=>exact h a b c
theorem bn4{p1 p2 p3 p4:Str}{P:List ζ->Prop}(h:∀a b c d,P [a,b,c,d])(us:List ζ)(hl:us.length=[p1,p2,p3,p4].length):P us:=by
 match us,hl with
 |[a,b,c,d],_=>exact h a b c d
end
end L2
namespace Hs
open PySem L2 oV
theorem all_mk{l:W.OpenLaw}{w:τ}{K:W.Frag}{h:Heap}{mg:L4}{fa:Addr}(X:K.In h)(G:h.Ns mainGlobals mg)(hfa:mg "law"=some (.ref fa))
  {f0 f1 f2 f3 f4 f5 f6 f7 f8 f9 ZX f11 f12 f13 f14 f15 f16 f17 f18 f19 f20 f21 f22 f23 f24 f25 f26 f27 f28 f29 f30 f31 f32 f33 f34 f35 f36 f37 f38 f39 f40 f41 f42 f43 f44 f45 f46 f47 f48 f49 f50 f51 f52 mf0 mf1 mf2 mf3 mf4 mf5 mf6 mf7 mf8 mf9 Y5 aaZ aaY aaX aaW aaV aaU aaT aaS aaR aaQ aaP aaO:Addr}{f53:Addr}{aaL aak:Option Addr}{aaG:Array (Option ζ)}{aaM Za aac YM WD aad:ζ}{tk0:Tok}{tk1:Tok}{tk2:Tok}{aG:Addr}{aq:Addr}(a0:DA K "is_whole" eE f0)(a1:DA K "is_place" jO f1)(a2:DA K "are_places" jQ f2)(a3:DA K "is_rising" WY f3)(a4:DA K "is_set" lG f4)(a5:DA K "are_ties" nZ f5)(a6:DA K "is_web" um f6)(a7:DA K "need_web" TX f7)(a8:DA K "need_place" jH f8)(a9:DA K "need_set" jG f9)(a10:DA K "need_few" nT ZX)(a11:DA K "pairs" xJ f11)(a12:DA K "has_tie" fO f12)(a13:DA K "greatest_divisor" zbs f13)(a14:DA K "lowest" iZ f14)(a15:DA K "is_less" mQ f15)(a16:DA K "is_fraction" iJ f16)(a17:DA K "sum_of" pI f17)(a18:DA K "moved_ties" jJ f18)(a19:DA K "cut_down" nY f19)(a20:DA K "count_ties_in" eZ f20)(a21:DA K "places_by_tie" eY f21)(a22:DA K "in_both" qJ f22)(a23:DA K "full_sets" lK f23)(a24:DA K "full_apart" jP f24)(a25:DA K "need_wants" fK f25)(a26:DA K "shares" pJ f26)(a27:DA K "is_share" nW f27)(a28:DA K "is_laying" lH f28)(a29:DA K "gets" Df f29)(a30:DA K "is_enough" lJ f30)(a31:DA K "ones_for" jF f31)(a32:DA K "copy_of_web" iK f32)(a33:DA K "copy_of_fraction" XS f33)(a34:DA K "copy_of_set" iM f34)(a35:DA K "as_tie" pL f35)(a36:DA K "_law_e_stir" jL f36)(a37:DA K "_law_e_dip" W6 f37)(a38:DA K "_law_e_web_of" fY f38)(a39:DA K "_law_e_web" lF f39)(a40:DA K "_law_e_tied" jK f40)(a41:DA K "_law_e_apart_sets" zbr f41)(a42:DA K "_law_e_part" W7 f42)(a43:DA K "_law_e_more" jN f43)(a44:DA K "_law_e_lowest" XQ f44)(a45:DA K "_law_e_sum" gW f45)(a46:DA K "_law_e_is_laying" zcy f46)(a47:DA K "_law_e_is_enough" zcz f47)(a48:DA K "_law_e_are_prices" zcr f48)(a49:DA K "_law_e_shows" iI f49)(a50:DA K "_law_e_next" jM f50)(a51:DA K "_law_e_do" nU f51)(a52:DA K "_law_e_stands" fZ f52)(a53:W.nsIn K mainGlobals "law"=some (some (.ref f53)))(l53:K.lookup f53=some ⟨aaM,aaL,.func (W.fnOf "law" "law" (defArgs rG) (defBody rG) (defScope rG) .none Za aac YM aak WD aad),aaG⟩)(c53:W.codeIn K WD "law"=true)(k53:W.keepIn K (.ref f53)=true)(x0:W.nsIn K mainGlobals "MOST_PLACES"=some (some (.int 10 tk0)))(x1:W.nsIn K mainGlobals "MOST_BOTTOM"=some (some (.int 1000000000 tk1)))(x2:W.nsIn K mainGlobals "MOST_WANT"=some (some (.int 99 tk2)))(z0:W.nsIn K mainGlobals "abs"=some none)(z1:W.nsIn K mainGlobals "all"=some none)(z2:W.nsIn K mainGlobals "any"=some none)(z3:W.nsIn K mainGlobals "bool"=some none)(z4:W.nsIn K mainGlobals "enumerate"=some none)(z5:W.nsIn K mainGlobals "int"=some none)(z6:W.nsIn K mainGlobals "isinstance"=some none)(z7:W.nsIn K mainGlobals "len"=some none)(z8:W.nsIn K mainGlobals "list"=some none)(z9:W.nsIn K mainGlobals "max"=some none)(z10:W.nsIn K mainGlobals "min"=some none)(z11:W.nsIn K mainGlobals "range"=some none)(z12:W.nsIn K mainGlobals "sorted"=some none)(z13:W.nsIn K mainGlobals "sum"=some none)(z14:W.nsIn K mainGlobals "tuple"=some none)(y0:W.nsIn K mainGlobals "Tableau"=some (some (.ref aG)))(y1:W.nsIn K mainGlobals "Sharing"=some (some (.ref aq)))(Y6:MA K aG "__init__" "Tableau.__init__" gk mf0)(ma1:MA K aG "next_column" "Tableau.next_column" zbx mf1)(ma2:MA K aG "is_tighter" "Tableau.is_tighter" zca mf2)(ma3:MA K aG "next_row" "Tableau.next_row" zcu mf3)(ma4:MA K aG "turned" "Tableau.turned" zdk mf4)(ma5:MA K aG "turn" "Tableau.turn" gj mf5)(ma6:MA K aG "solve" "Tableau.solve" fj mf6)(ma7:MA K aG "fraction_at" "Tableau.fraction_at" X3 mf7)(ma8:MA K aG "price_of" "Tableau.price_of" zct mf8)(ma9:MA K aG "share_of" "Tableau.share_of" zcs mf9)(Mx:MA K aq "__init__" "Sharing.__init__" gn Y5)(VR:MA K aq "keep" "Sharing.keep" zdd aaZ)(VP:MA K aq "move_to" "Sharing.move_to" W8 aaY)(VN:MA K aq "need_two" "Sharing.need_two" zbt aaX)(VL:MA K aq "put" "Sharing.put" iR aaW)(VJ:MA K aq "tie" "Sharing.tie" iQ aaV)(VH:MA K aq "untie" "Sharing.untie" fu aaU)(VG:MA K aq "drop" "Sharing.drop" gq aaT)(VF:MA K aq "web" "Sharing.web" eG aaS)(VD:MA K aq "value" "Sharing.value" zcv aaR)(VB:MA K aq "laying" "Sharing.laying" zcf aaQ)(Vz:MA K aq "prices" "Sharing.prices" zce aaP)(Vy:MA K aq "again" "Sharing.again" fB aaO)(Ey:W.plainGet K aG Str.empty=true)(Eu:W.hasDictIn K aG=true)(Es:W.plainOver K aG=true)(Ep:W.findIn K (.ref aG) "__setattr__"=some (some (.builtin "object.__setattr__")))(En:W.makesIn K aG=true)(El:W.keepIn K (.ref aG)=true)(qX:W.findIn K (.ref aG) "cells"=some none)(rY:W.findIn K (.ref aG) "over"=some none)(oF:W.findIn K (.ref aG) "columns"=some none)(rW:W.findIn K (.ref aG) "rows"=some none)(Ez:W.plainGet K aq Str.empty=true)(Ew:W.hasDictIn K aq=true)(Et:W.plainOver K aq=true)(Er:W.findIn K (.ref aq) "__setattr__"=some (some (.builtin "object.__setattr__")))(Eo:W.makesIn K aq=true)(Em:W.keepIn K (.ref aq)=true)(jZ:W.findIn K (.ref aq) "kept_laying"=some none)(kY:W.findIn K (.ref aq) "times_anew"=some none)(nu:W.findIn K (.ref aq) "kept_web"=some none)(kZ:W.findIn K (.ref aq) "kept_value"=some none)(jY:W.findIn K (.ref aq) "kept_prices"=some none):
  ∃fd:ρ,(∀(s:η) (v:ζ),BindsTo s fd ⟨[v],[]⟩ [("script",v)])/\∀base:Heap,K.In base->base.Ns mainGlobals mg->FnOk l.prog w K mg base CX0 14 fa fd ["script"] (spLaw K):=by
 have e:=hfa.symm.trans (Xj X G a53);cases e;obtain⟨d0,F0,a0⟩:=a0;have j6:=DA.d (ps:=["thing"]) X G F0 a0 (fun _ _ _ _ _ _=>tK fun _=>rfl);obtain⟨d1,F1,a1⟩:=a1;have vd:=DA.d (ps:=["n","thing"]) X G F1 a1 (fun _ _ _ _ _ _=>lB fun _ _=>rfl);obtain⟨d2,F2,a2⟩:=a2;have yO:=DA.d (ps:=["n","things"]) X G F2 a2 (fun _ _ _ _ _ _=>lB fun _ _=>rfl);obtain⟨d3,F3,a3⟩:=a3;have mj:=DA.d (ps:=["things"]) X G F3 a3 (fun _ _ _ _ _ _=>tK fun _=>rfl);obtain⟨d4,F4,a4⟩:=a4;have u9:=DA.d (ps:=["n","thing"]) X G F4 a4 (fun _ _ _ _ _ _=>lB fun _ _=>rfl);obtain⟨d5,F5,a5⟩:=a5;have Fq:=DA.d (ps:=["n","thing"]) X G F5 a5 (fun _ _ _ _ _ _=>lB fun _ _=>rfl);obtain⟨d6,F6,a6⟩:=a6;have Pg:=DA.d (ps:=["thing"]) X G F6 a6 (fun _ _ _ _ _ _=>tK fun _=>rfl);obtain⟨d7,F7,a7⟩:=a7;have gF:=DA.d (ps:=["thing"]) X G F7 a7 (fun _ _ _ _ _ _=>tK fun _=>rfl);obtain⟨d8,F8,a8⟩:=a8;have yH:=DA.d (ps:=["web","thing"]) X G F8 a8 (fun _ _ _ _ _ _=>lB fun _ _=>rfl);obtain⟨d9,F9,a9⟩:=a9;have uZ:=DA.d (ps:=["web","thing"]) X G F9 a9 (fun _ _ _ _ _ _=>lB fun _ _=>rfl);obtain⟨d10,F10,a10⟩:=a10;have Fj:=DA.d (ps:=["n"]) X G F10 a10 (fun _ _ _ _ _ _=>tK fun _=>rfl);obtain⟨d11,F11,a11⟩:=a11;have RN:=DA.d (ps:=["n"]) X G F11 a11 (fun _ _ _ _ _ _=>tK fun _=>rfl);obtain⟨d12,F12,a12⟩:=a12;have mZ:=DA.d (ps:=["web","one","other"]) X G F12 a12 (fun _ _ _ _ _ _=>JX fun _ _ _=>rfl);obtain⟨d13,F13,a13⟩:=a13;have gJ:=DA.d (ps:=["one","other"]) X G F13 a13 (fun _ _ _ _ _ _=>lB fun _ _=>rfl);obtain⟨d14,F14,a14⟩:=a14;have qp:=DA.d (ps:=["a","b"]) X G F14 a14 (fun _ _ _ _ _ _=>lB fun _ _=>rfl);obtain⟨d15,F15,a15⟩:=a15;have wO:=DA.d (ps:=["one","other"]) X G F15 a15 (fun _ _ _ _ _ _=>lB fun _ _=>rfl);obtain⟨d16,F16,a16⟩:=a16;have vV:=DA.d (ps:=["thing"]) X G F16 a16 (fun _ _ _ _ _ _=>tK fun _=>rfl);obtain⟨d17,F17,a17⟩:=a17;have BJ:=DA.d (ps:=["fractions"]) X G F17 a17 (fun _ _ _ _ _ _=>tK fun _=>rfl);obtain⟨d18,F18,a18⟩:=a18;have yI:=DA.d (ps:=["web","by"]) X G F18 a18 (fun _ _ _ _ _ _=>lB fun _ _=>rfl);obtain⟨d19,F19,a19⟩:=a19;have Fp:=DA.d (ps:=["web","some"]) X G F19 a19 (fun _ _ _ _ _ _=>lB fun _ _=>rfl);obtain⟨d20,F20,a20⟩:=a20;have sE:=DA.d (ps:=["web","some"]) X G F20 a20 (fun _ _ _ _ _ _=>lB fun _ _=>rfl);obtain⟨d21,F21,a21⟩:=a21;have sy:=DA.d (ps:=["web","place","tied"]) X G F21 a21 (fun _ _ _ _ _ _=>JX fun _ _ _=>rfl);obtain⟨d22,F22,a22⟩:=a22;have JL:=DA.d (ps:=["ones","others"]) X G F22 a22 (fun _ _ _ _ _ _=>lB fun _ _=>rfl);obtain⟨d23,F23,a23⟩:=a23;have BW:=DA.d (ps:=["friends"]) X G F23 a23 (fun _ _ _ _ _ _=>tK fun _=>rfl);obtain⟨d24,F24,a24⟩:=a24;have yN:=DA.d (ps:=["web"]) X G F24 a24 (fun _ _ _ _ _ _=>tK fun _=>rfl);obtain⟨d25,F25,a25⟩:=a25;have qm:=DA.d (ps:=["web","thing"]) X G F25 a25 (fun _ _ _ _ _ _=>lB fun _ _=>rfl);obtain⟨d26,F26,a26⟩:=a26;have BK:=DA.d (ps:=["web","wants"]) X G F26 a26 (fun _ _ _ _ _ _=>lB fun _ _=>rfl);obtain⟨d27,F27,a27⟩:=a27;have Fo:=DA.d (ps:=["web","thing"]) X G F27 a27 (fun _ _ _ _ _ _=>lB fun _ _=>rfl);obtain⟨d28,F28,a28⟩:=a28;have BP:=DA.d (ps:=["web","thing"]) X G F28 a28 (fun _ _ _ _ _ _=>lB fun _ _=>rfl);obtain⟨d29,F29,a29⟩:=a29;have WX:=DA.d (ps:=["laying","place","want"]) X G F29 a29 (fun _ _ _ _ _ _=>JX fun _ _ _=>rfl);obtain⟨d30,F30,a30⟩:=a30;have BR:=DA.d (ps:=["web","wants","laying","number"]) X G F30 a30 (fun _ _ _ _ _ _=>bn4 fun _ _ _ _=>rfl);obtain⟨d31,F31,a31⟩:=a31;have uY:=DA.d (ps:=["web"]) X G F31 a31 (fun _ _ _ _ _ _=>tK fun _=>rfl);obtain⟨d32,F32,a32⟩:=a32;have vW:=DA.d (ps:=["web"]) X G F32 a32 (fun _ _ _ _ _ _=>tK fun _=>rfl);obtain⟨d33,F33,a33⟩:=a33;have dF:=DA.d (ps:=["fraction"]) X G F33 a33 (fun _ _ _ _ _ _=>tK fun _=>rfl);obtain⟨d34,F34,a34⟩:=a34;have vX:=DA.d (ps:=["some"]) X G F34 a34 (fun _ _ _ _ _ _=>tK fun _=>rfl);obtain⟨d35,F35,a35⟩:=a35;have BX:=DA.d (ps:=["one","other"]) X G F35 a35 (fun _ _ _ _ _ _=>lB fun _ _=>rfl);obtain⟨d36,F36,a36⟩:=a36;have yK:=DA.d (ps:=["cell","at"]) X G F36 a36 (fun _ _ _ _ _ _=>lB fun _ _=>rfl);obtain⟨d37,F37,a37⟩:=a37;have iB:=DA.d (ps:=["cup","many"]) X G F37 a37 (fun _ _ _ _ _ _=>lB fun _ _=>rfl);obtain⟨d38,F38,a38⟩:=a38;have u5:=DA.d (ps:=["cup","n"]) X G F38 a38 (fun _ _ _ _ _ _=>lB fun _ _=>rfl);obtain⟨d39,F39,a39⟩:=a39;have BL:=DA.d (ps:=["cup","most"]) X G F39 a39 (fun _ _ _ _ _ _=>lB fun _ _=>rfl);obtain⟨d40,F40,a40⟩:=a40;have yJ:=DA.d (ps:=["web","one","other"]) X G F40 a40 (fun _ _ _ _ _ _=>JX fun _ _ _=>rfl);obtain⟨d41,F41,a41⟩:=a41;have gH:=DA.d (ps:=["web","left"]) X G F41 a41 (fun _ _ _ _ _ _=>lB fun _ _=>rfl);obtain⟨d42,F42,a42⟩:=a42;have j5:=DA.d (ps:=["top","bottom"]) X G F42 a42 (fun _ _ _ _ _ _=>lB fun _ _=>rfl);obtain⟨d43,F43,a43⟩:=a43;have yM:=DA.d (ps:=["one","other"]) X G F43 a43 (fun _ _ _ _ _ _=>lB fun _ _=>rfl);obtain⟨d44,F44,a44⟩:=a44;have gG:=DA.d (ps:=["part"]) X G F44 a44 (fun _ _ _ _ _ _=>tK fun _=>rfl);obtain⟨d45,F45,a45⟩:=a45;have rO:=DA.d (ps:=["parts"]) X G F45 a45 (fun _ _ _ _ _ _=>tK fun _=>rfl);obtain⟨d46,F46,a46⟩:=a46;have qt:=DA.d (ps:=["web","laying"]) X G F46 a46 (fun _ _ _ _ _ _=>lB fun _ _=>rfl);obtain⟨d47,F47,a47⟩:=a47;have qu:=DA.d (ps:=["web","laying"]) X G F47 a47 (fun _ _ _ _ _ _=>lB fun _ _=>rfl);obtain⟨d48,F48,a48⟩:=a48;have oG:=DA.d (ps:=["web","costs"]) X G F48 a48 (fun _ _ _ _ _ _=>lB fun _ _=>rfl);obtain⟨d49,F49,a49⟩:=a49;have vU:=DA.d (ps:=["web","worth","laying","costs"]) X G F49 a49 (fun _ _ _ _ _ _=>bn4 fun _ _ _ _=>rfl);obtain⟨d50,F50,a50⟩:=a50;have yL:=DA.d (ps:=["cup","web","most"]) X G F50 a50 (fun _ _ _ _ _ _=>JX fun _ _ _=>rfl);obtain⟨d51,F51,a51⟩:=a51;have Fl:=DA.d (ps:=["sharing","deed"]) X G F51 a51 (fun _ _ _ _ _ _=>lB fun _ _=>rfl);obtain⟨d52,F52,a52⟩:=a52;have u6:=DA.d (ps:=["sharing","web"]) X G F52 a52 (fun _ _ _ _ _ _=>lB fun _ _=>rfl);have F53:=fun_mk (st:=rG) l53 c53 k53;have nG:=Xj X G x0;have vG:=Xj X G x1;have zy:=Xj X G x2;have Y0:=Cy X G z0;have rK:=Cy X G z1;have Tj:=Cy X G z2;have Mw:=Cy X G z3;have eO:=Cy X G z4;have Ti:=Cy X G z5;have bw:=Cy X G z6;have fG:=Cy X G z7;have jU:=Cy X G z8;have GZ:=Cy X G z9;have Af:=Cy X G z10;have bY:=Cy X G z11;have pY:=Cy X G z12;have YZ:=Cy X G z13;have bM:=Cy X G z14;have qR:=Xj X G y0;have jf:=Xj X G y1;obtain⟨md0,FM0,Y6⟩:=Y6;have oM:=MA.d (ps:=["self","sets","wants"]) FM0 Y6 (fun _ _ _ _ _ _=>JX fun _ _ _=>rfl);obtain⟨md1,FM1,ma1⟩:=ma1;have lg:=MA.d (ps:=["self"]) FM1 ma1 (fun _ _ _ _ _ _=>tK fun _=>rfl);obtain⟨md2,FM2,ma2⟩:=ma2;have mq:=MA.d (ps:=["self","column","row","other"]) FM2 ma2 (fun _ _ _ _ _ _=>bn4 fun _ _ _ _=>rfl);obtain⟨md3,FM3,ma3⟩:=ma3;have oK:=MA.d (ps:=["self","column"]) FM3 ma3 (fun _ _ _ _ _ _=>lB fun _ _=>rfl);obtain⟨md4,FM4,ma4⟩:=ma4;have rm:=MA.d (ps:=["self","cells","pivots","column"]) FM4 ma4 (fun _ _ _ _ _ _=>bn4 fun _ _ _ _=>rfl);obtain⟨md5,FM5,ma5⟩:=ma5;have vg:=MA.d (ps:=["self","row","column"]) FM5 ma5 (fun _ _ _ _ _ _=>JX fun _ _ _=>rfl);obtain⟨md6,FM6,ma6⟩:=ma6;have sG:=MA.d (ps:=["self"]) FM6 ma6 (fun _ _ _ _ _ _=>tK fun _=>rfl);obtain⟨md7,FM7,ma7⟩:=ma7;have cN:=MA.d (ps:=["self","row","column"]) FM7 ma7 (fun _ _ _ _ _ _=>JX fun _ _ _=>rfl);obtain⟨md8,FM8,ma8⟩:=ma8;have oJ:=MA.d (ps:=["self","name"]) FM8 ma8 (fun _ _ _ _ _ _=>lB fun _ _=>rfl);obtain⟨md9,FM9,ma9⟩:=ma9;have oH:=MA.d (ps:=["self","name"]) FM9 ma9 (fun _ _ _ _ _ _=>lB fun _ _=>rfl);obtain⟨abH,aaC,Mx⟩:=Mx;have oN:=MA.d (ps:=["self","web"]) aaC Mx (fun _ _ _ _ _ _=>lB fun _ _=>rfl);obtain⟨abG,aaB,VR⟩:=VR;have mD:=MA.d (ps:=["self","web","told"]) aaB VR (fun _ _ _ _ _ _=>JX fun _ _ _=>rfl);obtain⟨abF,aaA,VP⟩:=VP;have cP:=MA.d (ps:=["self","web"]) aaA VP (fun _ _ _ _ _ _=>lB fun _ _=>rfl);obtain⟨abE,aaz,VN⟩:=VN;have gK:=MA.d (ps:=["self","one","other"]) aaz VN (fun _ _ _ _ _ _=>JX fun _ _ _=>rfl);obtain⟨abD,aay,VL⟩:=VL;have vZ:=MA.d (ps:=["self","ties"]) aay VL (fun _ _ _ _ _ _=>lB fun _ _=>rfl);obtain⟨abC,aax,VJ⟩:=VJ;have vY:=MA.d (ps:=["self","one","other"]) aax VJ (fun _ _ _ _ _ _=>JX fun _ _ _=>rfl);obtain⟨abB,aaw,VH⟩:=VH;have sH:=MA.d (ps:=["self","one","other"]) aaw VH (fun _ _ _ _ _ _=>JX fun _ _ _=>rfl);obtain⟨abA,aav,VG⟩:=VG;have vh:=MA.d (ps:=["self"]) aav VG (fun _ _ _ _ _ _=>tK fun _=>rfl);obtain⟨abz,aau,VF⟩:=VF;have nP:=MA.d (ps:=["self"]) aau VF (fun _ _ _ _ _ _=>tK fun _=>rfl);obtain⟨aby,aat,VD⟩:=VD;have kJ:=MA.d (ps:=["self"]) aat VD (fun _ _ _ _ _ _=>tK fun _=>rfl);obtain⟨abx,aas,VB⟩:=VB;have jw:=MA.d (ps:=["self"]) aas VB (fun _ _ _ _ _ _=>tK fun _=>rfl);obtain⟨abw,aar,Vz⟩:=Vz;have ju:=MA.d (ps:=["self"]) aar Vz (fun _ _ _ _ _ _=>tK fun _=>rfl);obtain⟨abv,aaq,Vy⟩:=Vy;have sI:=MA.d (ps:=["self"]) aaq Vy (fun _ _ _ _ _ _=>tK fun _=>rfl);have bF:Cls K aG:=⟨Ey,Eu,Es,Ep⟩;have cU:NoAttr K aG "cells":=qX;have dN:NoAttr K aG "over":=rY;have bD:NoAttr K aG "columns":=oF;have dM:NoAttr K aG "rows":=rW;have mk_Tableau:Mk K aG mf0:=⟨En,Y6.1,Y6.2.1,El⟩;have Ef:Cls K aq:=⟨Ez,Ew,Et,Er⟩;have uH:NoAttr K aq "kept_laying":=jZ;have vJ:NoAttr K aq "times_anew":=kY;have Ae:NoAttr K aq "kept_web":=nu;have vK:NoAttr K aq "kept_value":=kZ;have uG:NoAttr K aq "kept_prices":=jY;have mk_Sharing:Mk K aq Y5:=⟨Eo,Mx.1,Mx.2.1,Em⟩;refine⟨W.fnOf "law" "law" (defArgs rG) (defBody rG) (defScope rG) .none Za aac YM aak WD aad,fun s v=> .of_eq rfl,fun base _ _=> ?_⟩;have m6:=Bx.mk Ef uH vJ Ae vK uG;have Rq:=Ml (P:=l.prog) (w:=w) (mg:=mg) (base:=base) F36;have HN:=Vp F37 yK Rq fG;have Rm:=LQ F38 iB HN bY bM;have Wn:=QW F39 iB HN u5 Rm;have tu:=LK (P:=l.prog) (w:=w) (base:=base) F0 bw Ti Mw;have HB:=Mh (P:=l.prog) (w:=w) (base:=base) F1 j6 tu;have NP:=Jk (P:=l.prog) (w:=w) (base:=base) F2 vd HB rK;have Bb:=Jj (P:=l.prog) (w:=w) (mg:=mg) (base:=base) F3 rK bY fG;have Nu:=Vk (P:=l.prog) (w:=w) (base:=base) F4 yO NP mj Bb bw bM;have Wd:=Qy (P:=l.prog) (w:=w) (base:=base) F5 u9 Nu mj Bb bw bM rK fG;have Zy:=Va (P:=l.prog) (w:=w) (base:=base) F6 j6 tu Fq Wd bw bM fG nG;have jj:=Dl (P:=l.prog) (w:=w) (base:=base) F7 Pg Zy;have rM:=xV F25 j6 tu fG bw bM rK zy;have NZ:=Jl (P:=l.prog) (w:=w) (mg:=mg) (base:=base) F22;have Ea:=Ad F23 JL NZ jU bY fG pY;have HF:=Vo (P:=l.prog) (w:=w) (mg:=mg) (base:=base) F12 Af GZ;have Ru:=Mt F21 mZ HF bY;have Bd:=xX F24 gF jj BW Ea sy Ru bY;have Wf:=Qz (P:=l.prog) (w:=w) (mg:=mg) (base:=base) FM0 bF cU dN bD dM fG bY jU;have ZL:=Vi (P:=l.prog) (w:=w) (mg:=mg) (base:=base) FM1 bF cU dN bD dM eO Af;have ZD:=Vd (P:=l.prog) (w:=w) (mg:=mg) (base:=base) FM4 bF cU dN bD dM eO;have Zz:=Vb FM5 bF cU dN bD dM rm ZD;have ZC:=Vc (P:=l.prog) (w:=w) (mg:=mg) (base:=base) FM2 bF cU dN bD dM;have ZK:=Vh FM3 bF cU dN bD dM mq ZC bY fG;have ZF:=Ve FM6 bF cU dN bD dM lg ZL vg Zz oK ZK;have ZQ:=YQ (P:=l.prog) (w:=w) (mg:=mg) (base:=base) F13;have HD:=Vn (P:=l.prog) (w:=w) (base:=base) F14 gJ ZQ Y0;have Nr:=Vj FM7 bF cU dN bD dM qp HD;have ZG:=Vf FM9 bF cU dN bD dM qp HD cN Nr;have ZJ:=Vg FM8 bF cU dN bD dM qp HD cN Nr;have Ba:=Ji F26 bF cU dN bD dM qR gF jj qm rM yN Bd oM mk_Tableau Wf sG ZF oH ZG oJ ZJ cN Nr eO bY;have NQ:=QM (P:=l.prog) (w:=w) (mg:=mg) (base:=base) F31;have Hz:=Mf (P:=l.prog) (w:=w) (mg:=mg) (base:=base) aaB m6;have Wj:=QL aaC m6 gF jj BK Ba uY NQ mD Hz;have ZV:=Vs (P:=l.prog) (w:=w) (mg:=mg) (base:=base) F34 bM;have N7:=Vt F33 qp HD;have NK:=QK aas m6 vX ZV dF N7;have ZM:=Vl (P:=l.prog) (w:=w) (mg:=mg) (base:=base) aaq m6;have ZP:=Vm F50 iB HN bM bY pY jU Af GZ;have wI:=Dm (P:=l.prog) (w:=w) (base:=base) F9 u9 Nu;have Jv:=Dq (P:=l.prog) (w:=w) (base:=base) F10 nG;have Wk:=QT F16 j6 tu fG bw bM vG;have Rt:=Ms (P:=l.prog) (w:=w) (mg:=mg) (base:=base) F20 fG;have Jw:=Dr F27 vV Wk u9 Nu sE Rt fG bw bM;have Ju:=Dk (P:=l.prog) (w:=w) (mg:=mg) (base:=base) F3 rK bY fG;have DW:=Ab F28 Fo Jw mj Ju rK bw jU;have NT:=QS (P:=l.prog) (w:=w) (mg:=mg) (base:=base) F15;have Hy:=LR F17 gJ ZQ;have Wm:=QV F29 wO NT BJ Hy;have DY:=Ac F30 gF jj qm rM BP DW WX Wm wO NT BJ Hy rK eO;have tD:=Ma aaA m6 BK Ba uY NQ BR (DY.mono (by decide)) mD Hz;have Wi:=QH aay m6 uZ wI Fj Jv cP tD bM pY jU;have Ws:=Q7 (P:=l.prog) (w:=w) (base:=base) F11 bY;have ZR:=Vq (P:=l.prog) (w:=w) (base:=base) F19 gF jj uZ wI RN Ws mZ HF bM fG;have Rn:=Mg aav m6 cP tD Fp ZR bM bY;have Bc:=xW (P:=l.prog) (w:=w) (base:=base) F8 vd HB;have Ny:=QF aaz m6 yH Bc;have Tt:=Vu (P:=l.prog) (w:=w) (mg:=mg) (base:=base) F35 Af GZ;have Wh:=QG aax m6 gK Ny mZ HF BX Tt cP tD jU bM pY;have Wg:=QD aaw m6 gK Ny mZ HF BX Tt cP tD bM;have ZW:=Vv F51 m6 vZ Wi vh Rn vY Wh sH Wg;have Nz:=QJ aar m6 dF N7;have yh:=Mq (P:=l.prog) (w:=w) (mg:=mg) (base:=base) F42;have Eb:=QZ F44 j5 yh Tj bw Mw fG bM Ti;have Rp:=Mj (P:=l.prog) (w:=w) (mg:=mg) (base:=base) F40 Af GZ;have HJ:=Mp F41 yJ Rp Tj;have Wr:=Q6 F48 gG Eb j5 yh gH HJ rK fG bw jU bY YZ;have Wo:=Q0 F46 gH HJ gG Eb bw jU bY eO fG bM;have Rr:=Mr F43 j5 yh;have N5:=QX F45 yM Rr;have Wq:=Q5 F47 rO N5 bY;have N6:=Jm F49 oG Wr qt Wo gG Eb qu Wq rO N5;have Nx:=QC aat m6 dF N7;have Ro:=Mi (P:=l.prog) (w:=w) (mg:=mg) (base:=base) F18;have ZS:=Vr F32 yI Ro bM;have Nv:=QB aau m6 vW ZS;have Nt:=Jh F52 m6 vU N6 kJ Nx jw NK ju Nz nP Nv;exact ok_law F53 m6 jf BL Wn iB HN oN mk_Sharing Wj jw NK sI ZM yL ZP Fl ZW ju Nz u6 Nt kJ Nx nP Nv jU bY
theorem walk{l:PySem.W.OpenLaw}{q:ξ}{loose:List Str}{XP:(L4)->Heap->Prop}{YP:τ->Heap->Prop}{d:DefRec}{K:Params->PySem.W.Frag}(hn:l.most=some 63)(hdf:d.params.defaults=[])(hY:∀(w:τ) (h:Heap),YP w h->(K w.params).In h)
  (F:∀(w:τ) (mg:L4) (fa:Addr) (h:Heap),(K w.params).In h->h.Ns mainGlobals mg->mg d.name=some (.ref fa)->
   ∃fd:ρ,(∀(s:η) (u:ζ),BindsTo s fd ⟨[u],[]⟩ [("script",u)])/\∀base:Heap,(K w.params).In base->base.Ns mainGlobals mg->FnOk l.prog w (K w.params) mg base CX0 14 fa fd ["script"] (spLaw (K w.params))):
  PySem.W.WalkO q loose XP YP l.row.toRowW d [] (fun f vs=>PySem.call f vs):=
 L2.walk_of (n:=63) (k:=14) (x:="script") (CX:=fun _=>CX0) (sp:=fun w=>spLaw (K w.params)) hn (by decide) hdf ⟨rfl,by decide,by decide,rfl⟩ hY F (fun _ _ a ns hl hO hS=>KH hl hO hS) fun _ _ _ _ _ z=>z
end Hs
open PySem PySem.W PyProof.Rows
set_option maxRecDepth 100000 in
set_option maxHeartbeats 0 in
theorem PySem.Challenge.cw_hueshare_k52_two_sharings_by_turns_holds : PySem.Challenge.rw_hueshare_k52_two_sharings_by_turns.Holds := by
 refine Hd.early.2 ?_;unfold Hd.early;dsimp only
 k_fill
 refine Hs.walk (l:=PySem.Challenge.rw_hueshare_k52_two_sharings_by_turns) rfl rfl (fun w h Y=>PySem.W.kIn_of Y) ?F
 case F=>
  intro w mg fa h KX G hmg
  refine' Hs.all_mk KX G hmg .of .of .of .of .of .of .of .of .of .of .of .of .of .of .of .of .of .of .of .of .of .of .of .of .of .of .of .of .of .of .of .of .of .of .of .of .of .of .of .of .of .of .of .of .of .of .of .of .of .of .of .of .of (by k_is) (by k_is) (by k_is) (by k_is) (by k_is) (by k_is) (by k_is) (by k_is) (by k_is) (by k_is) (by k_is) (by k_is) (by k_is) (by k_is) (by k_is) (by k_is) (by k_is) (by k_is) (by k_is) (by k_is) (by k_is) (by k_is) (by k_is) (by k_is) .of .of .of .of .of .of .of .of .of .of .of .of .of .of .of .of .of .of .of .of .of .of .of (by k_is) (by k_is) (by k_is) (by k_is) (by k_is) (by k_is) (by k_is) (by k_is) (by k_is) (by k_is) (by k_is) (by k_is) (by k_is) (by k_is) (by k_is) (by k_is) (by k_is) (by k_is) (by k_is) (by k_is) (by k_is)
