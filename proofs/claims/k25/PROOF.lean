import PyProof.Rows.All
import Wide.All
import OpenK.AllK
import Wide.FinOn
import Lean
import PyProof.EqAt
import PyProof.EqKinds
import PyProof.TupleCall
import PyProof.ListRange
import PyProof.TupleOfSeq
import PyProof.Draws
import PyProof.EnumMake
import PyProof.TupleIter
import PyProof.Rows.SetFrom
import PyProof.SetRoads
import PyProof.WalksMore
import PyProof.Rows.SortShell
import KE.KMinBuiltin
import PyProof.Rows.CallKwBuiltin
import KE.KRevIter
import PyProof.Rows.Tup
import PyProof.Rows.Range3
import PyProof.DictWalks
import PyProof.DictTruth
import PyProof.TupleKey
import PyProof.Rows.SeqMore2
import PyProof.FString
import PyProof.StrWalks
import PyProof.StrBlockH
import PyProof.StrCalls2
import PyProof.SliceStr2
import KE.KIntText
import PyProof.StrLawsTight
import KE.KDictList
import PyProof.DictRoadsH
import KE.KLam
import KE.KNestM
import PyProof.DictItems
import PyProof.IsiHeapPairs
import KE.KPairComp
import PyProof.MinMaxWalk
import PyProof.MeetsSeq
import PyProof.Rows.ZipGen
import KE.IntBitsLaws
import PyProof.FitsBits
import PyProof.MaxThree
import PySem.Challenge.RW_hueshare_k25_layings_and_prices_looked_a
set_option Elab.async false
set_option linter.all false
set_option maxRecDepth 100000

noncomputable section
abbrev L4:=PySem.Str->Option PySem.Value
abbrev L3:=PySem.Value->PySem.Shared->Prop
abbrev L1:=List (PySem.Addr×PySem.Obj)
abbrev L0:=List (Int×Int)
abbrev ao:=@PySem.wpAny_bind
abbrev aM:=@PySem.wpAny_pure
abbrev aA:=@if_neg
abbrev aB:=@if_pos
abbrev eY:=@decide_eq_true
abbrev jx:=@decide_eq_false
abbrev eX:=@PySem.sizeLine_eq
abbrev nM:=@of_decide_eq_true
abbrev pR:=@Bool.and_eq_true
abbrev uY:=@Bool.false_ne_true
abbrev rE:=@Option.some.inj
abbrev rD:=@PySem.PassesOwn.never
abbrev vO:=@PySem.wpAny_newObj_type
abbrev Mw:=@PyProof.Rows.callWith_type1
abbrev IK:=@PySem.wpAny_callSpecial?_slot
abbrev Iz:=@PySem.F.plainAttrs_list
abbrev Am:=@PySem.wpAny_call_entry
abbrev Gb:=@PySem.Heap.SameBut.update
abbrev Al:=@PySem.wpAny_ite_split
abbrev Ga:=@decide_eq_true_eq
abbrev Bb:=@Bool.eq_iff_iff
abbrev Iw:=@PySem.mem_of_lookup
abbrev QB:=@Classical.byContradiction
abbrev Vp:=@PyProof.Rows.slot_tuple_getitem
abbrev Qz:=@PySem.F.slot_list_append
abbrev Qy:=@PySem.F.type_list_append
abbrev lE:=@congrArg
abbrev Mv:=@PySem.Obj.data_mapFields
abbrev xX:=@PySem.wpAny_field
abbrev Ak:=@PySem.W.mg_none_of
abbrev Dz:=@PySem.wpAny_holding
abbrev Nq:=@of_decide_eq_false
abbrev lO:=@Ne.symm
abbrev Np:=@PySem.wpAny_truthy_bool
abbrev Nm:=@PyProof.Rows.KeyOrd.kle_refl
abbrev Nk:=@PySem.codeAny_builtin
abbrev RN:=@PySem.wpAny_Call_Name_kw
abbrev wbn:=@PyProof.Rows.F.plain_set_update_loop
abbrev ZL:=@PySem.F.slot_tuple_iterator_next
abbrev Vo:=@PySem.wpAny_pyIter_tuple
abbrev Ws:=@PySem.Obj.isFreed_of_fields
abbrev xW:=@or_false
abbrev Qx:=@PySem.wpAny_setField
abbrev RM:=@PySem.wpAny_passesOwn
abbrev Vm:=@PySem.wpAny_pyIter_list
abbrev Iv:=@PySem.wpAny_rule
abbrev RL:=@PySem.wpAny_seqItems
abbrev Wr:=@PySem.wpAny_setField_rec
abbrev Qw:=@PySem.codeAny_mono
abbrev Wq:=@PySem.Calls.spliced_nil
abbrev Wo:=@PyProof.Rows.KeyOrd.kle_of_klt
abbrev ZK:=@PySem.Around.under_plainId
abbrev wcc:=@PySem.Calls.call_function_entry
abbrev wcd:=@PyProof.Rows.F.entry_set_update_loop
abbrev wce:=@PySem.F.args_tuple_add_2
abbrev RK:=@PySem.wpAny_typeOf
abbrev wcg:=@List.length_erase_of_mem
abbrev wch:=@Nat.gcd_pos_of_pos_right
abbrev ZJ:=@PySem.Calls.spliced_cons
abbrev wcj:=@PySem.F.entry_tuple_add
abbrev Wn:=@PySem.W.KasT.kasWp_bind
abbrev Vl:=@PySem.wpAny_newList
abbrev ZG:=@PySem.Code.quiet_builtin
abbrev Vk:=@PySem.wpAny_attempt
abbrev wco:=@List.pairwise_singleton
abbrev wcp:=@PySem.F.slot_list_index
abbrev wcq:=@PySem.F.type_list_index
abbrev wcr:=@PySem.F.slot_tuple_add
abbrev ZF:=@List.any_eq_false
abbrev ZD:=@PySem.Heap.get?_push_ne
abbrev ZC:=@PySem.Obj.cls_mapFields
abbrev Zz:=@PySem.wpAny_pyIter_enum
abbrev wcw:=@PyProof.Rows.callWith_builtin1
abbrev wcx:=@Bool.and_eq_false_iff
abbrev Zy:=@Nat.le_of_not_lt
abbrev Zx:=@PyProof.Rows.KeyOrd.kle_trans
abbrev wda:=@List.eq_nil_of_length_eq_zero
abbrev Zw:=@PySem.wpAny_isInstance
abbrev Zv:=@Nat.Coprime.symm
abbrev wdd:=@List.mem_erase_of_ne
abbrev wde:=@Nat.pow_le_pow_right
abbrev wdf:=@List.getElem?_append
abbrev wdg:=@PySem.F.args_tuple_iterator_next_1
abbrev Wm:=@Int.ofNat.inj
abbrev Zu:=@PySem.wpAny_execs_nil
abbrev Vj:=@Int.mul_one
abbrev wdk:=@PySem.W.plainGet_of
abbrev wdl:=@PyProof.Rows.entry_tuple_getitem
abbrev wdm:=@Nat.add_sub_cancel'
abbrev Zt:=@PyProof.Rows.get?_update_seq
abbrev wdo:=@PySem.F.entry_tuple_iterator_next
abbrev Zr:=@PySem.pushCells_keeps
abbrev Zq:=@PySem.F.slot_zip_next
abbrev Vi:=@Int.mul_pos
abbrev wds:=@List.filter_sublist
abbrev wdt:=@Int.mul_lt_mul_of_pos_left
abbrev wdu:=@PyProof.Rows.assignInOrder_cons
abbrev wdv:=@PySem.W.callWith_K
abbrev wdw:=@List.zip_nil_right
abbrev wdx:=@List.filterMap_map
abbrev wdy:=@PyProof.Rows.args_tuple_getitem
abbrev wdz:=@PySem.Heap.IsSliceOf.new
abbrev wea:=@Bool.false_eq_true
abbrev wec:=@Nat.add_sub_cancel
abbrev wed:=@Int.le_of_eq
abbrev Zo:=@PySem.wpAny_runValue
abbrev Zn:=@PySem.wpAny_fieldsOf
abbrev weg:=@Int.lt_of_mul_lt_mul_left
abbrev weh:=@List.mem_or_eq_of_mem_set
abbrev wei:=@PySem.Value.isInt_shape
abbrev Vh:=@PySem.wpAny_mono
abbrev wek:=@List.zip_nil_left
abbrev wel:=@PySem.wpAny_sequenceKey
abbrev wem:=@Nat.le_of_succ_le
abbrev wen:=@PyProof.noPylong_of_log2
abbrev weo:=@List.append_assoc
abbrev wep:=@Int.mul_ediv_cancel_left
abbrev weq:=@List.pairwise_map
abbrev wer:=@List.getElem?_set
abbrev Zm:=@PySem.wpAny_standAt
abbrev Zk:=@PyProof.Rows.listUpdate_at
abbrev weu:=@decide_eq_false_iff_not
abbrev Zj:=@PyProof.Rows.firstMet_succ
abbrev wew:=@PySem.F.entry_type_call
abbrev Zi:=@Nat.le_of_dvd
abbrev wey:=@Nat.gcd_pos_of_pos_left
abbrev Zh:=@Nat.mul_assoc
abbrev wfa:=@PySem.noFill_tuple_add
abbrev wfb:=@List.length_drop
abbrev wfc:=@Option.getD_some
abbrev wfd:=@PySem.wpAny_askSetting
abbrev wfe:=@Int.natCast_ediv
abbrev wff:=@List.getElem?_set_self
abbrev wfg:=@PySem.W.cellsFrom_some
abbrev wfh:=@List.filterMap_reverse
abbrev wfi:=@Array.getElem?_eq_none
abbrev wfj:=@Nat.le_mul_of_pos_left
abbrev wfk:=@PySem.W.methodCall_KW
abbrev wfl:=@List.of_mem_zip
abbrev wfm:=@List.length_replicate
abbrev wfn:=@List.forIn_cons
abbrev wfo:=@Bool.or_eq_true
abbrev wfp:=@PySem.codeAny_of_tree
abbrev wfq:=@PySem.F.plain_set_new
abbrev Zg:=@List.map_id'
abbrev Zf:=@Nat.mul_zero
abbrev wfu:=@List.forIn_nil
abbrev wfv:=@Bool.and_false
abbrev Qv:=@if_true
abbrev Ze:=@PySem.wpAny_of_eq
abbrev Zd:=@Nat.mul_pos
abbrev Zc:=@Nat.one_dvd
abbrev Vg:=@if_false
abbrev wgb:=@Int.lt_irrefl
abbrev wgc:=@Bool.false_or
abbrev Zb:=@Nat.sub_le
abbrev Za:=@Nat.mod_lt
abbrev wgf:=@Int.ediv_one
abbrev wgg:=@Nat.zero_add
abbrev wgh:=@List.map_set
abbrev wgi:=@Nat.mul_comm
abbrev aJ:=@List.length_map
abbrev cL:=@PySem.Heap.get?_push_of_some
abbrev dD:=@List.getElem?_eq_getElem
abbrev aN:=@Nat.le_refl
abbrev iM:=@List.getD_eq_getElem?_getD
abbrev dW:=@List.getElem?_map
abbrev cO:=@List.map_append
abbrev gZ:=@List.mem_of_getElem?
abbrev gD:=@List.length_append
abbrev gY:=@PySem.Heap.get?_push_size
abbrev cJ:=@List.mem_cons
abbrev nH:=@List.getElem?_eq_some_iff
abbrev cC:=@Nat.le_trans
abbrev jr:=@List.mem_cons_of_mem
abbrev gW:=@List.size_toArray
abbrev ji:=@List.mem_singleton
abbrev cG:=@Nat.zero_le
abbrev cR:=@Nat.le_of_lt
abbrev jw:=@Nat.lt_of_lt_of_le
abbrev cU:=@PySem.Heap.lt_size
abbrev dB:=@Nat.ne_of_lt
abbrev jh:=@List.mem_append
abbrev nG:=@List.mem_cons_self
abbrev nF:=@List.all_eq_true
abbrev lN:=@List.mem_filter
abbrev pQ:=@Nat.lt_succ_of_lt
abbrev uX:=@List.length_filter_le
abbrev rC:=@List.length_range
abbrev uW:=@Array.length_toList
abbrev pO:=@List.mem_range
abbrev ur:=@Nat.lt_succ_self
abbrev lX:=@List.mem_map
abbrev uz:=@List.length_cons
abbrev rQ:=@PySem.Heap.size_push
abbrev xV:=@Int.toNat_natCast
abbrev vL:=@List.take_length
abbrev FZ:=@List.mem_append_right
abbrev xU:=@List.length_take
abbrev xT:=@List.not_mem_nil
abbrev Qq:=@List.take_succ_eq_append_getElem
abbrev yw:=@Nat.succ_ne_zero
abbrev Io:=@Nat.mul_div_cancel_left
abbrev uy:=@Nat.lt_irrefl
abbrev yu:=@List.range_succ
abbrev Mu:=@List.take_of_length_le
abbrev yt:=@Int.mul_nonneg
abbrev Ay:=@List.append_nil
abbrev HW:=@Nat.lt_of_le_of_lt
abbrev Ax:=@Nat.min_le_left
abbrev Qp:=@Array.getElem?_eq_getElem
abbrev Im:=@List.getElem_of_mem
abbrev HS:=@List.take_add_one
abbrev xR:=@Nat.succ_pos
abbrev Nj:=@List.getElem?_eq_none
abbrev HN:=@List.lookup_cons
abbrev Qo:=@PySem.Heap.get?_update_self
abbrev Nh:=@List.length_reverse
abbrev Aj:=@Int.mul_zero
abbrev Ng:=@List.mem_map_of_mem
abbrev Nf:=@Nat.lt_of_le_of_ne
abbrev Wj:=@Int.mul_le_mul_of_nonneg_right
abbrev Il:=@List.nodup_cons
abbrev Mt:=@List.filter_cons
abbrev Dy:=@Nat.le_of_eq
abbrev Dw:=@Int.le_of_lt
abbrev HJ:=@List.map_cons
abbrev Ms:=@List.length_nil
abbrev Nb:=@List.getElem_mem
abbrev RG:=@List.filterMap_cons
abbrev Qn:=@Nat.le_of_lt_succ
abbrev Dv:=@Int.le_refl
abbrev Wi:=@List.pairwise_iff_getElem
abbrev M9:=@Nat.not_lt_zero
abbrev Vf:=@Array.getElem?_toList
abbrev RD:=@List.filter_append
abbrev RB:=@Nat.eq_zero_or_pos
abbrev Y8:=@Int.mul_le_mul_of_nonneg_left
abbrev Ik:=@Nat.ne_of_gt
abbrev HF:=@Nat.le_succ
abbrev Ve:=@List.map_congr_left
abbrev Wh:=@PySem.Heap.get?_update_other
abbrev Wg:=@List.length_pos_of_mem
abbrev Y7:=@List.getElem?_append_right
abbrev Y6:=@Int.eq_of_mul_eq_mul_right
abbrev Rz:=@Nat.le_add_right
abbrev Ry:=@List.any_eq_true
abbrev Mr:=@Nat.lt_trans
abbrev Vd:=@List.pairwise_cons
abbrev Mq:=@Int.zero_add
abbrev Wf:=@Nat.sub_one_lt_of_le
abbrev Wd:=@List.pairwise_append
abbrev Rx:=@Nat.le_antisymm
abbrev Y5:=@Nat.succ_add_eq_add_succ
abbrev M8:=@Int.mul_comm
abbrev M7:=@Int.ofNat_lt
abbrev Qm:=@Int.mul_assoc
abbrev Wc:=@List.getElem?_range
abbrev Vc:=@Nat.dvd_mul_left
abbrev Y4:=@List.pairwise_lt_range
abbrev Y0:=@List.filter_eq_nil_iff
abbrev Wb:=@List.zip_cons_cons
abbrev Wa:=@Int.natAbs_natCast
abbrev YZ:=@List.cons_lt_cons_iff
abbrev M4:=@Int.one_mul
abbrev Ql:=@List.map_map
abbrev V9:=@List.ext_getElem?
abbrev Rw:=@List.all_cons
abbrev V8:=@Nat.gcd_dvd_right
abbrev yee:=@Int.fdiv_eq_ediv_of_nonneg
abbrev yef:=@Array.perm_iff_toList_perm
abbrev yeg:=@Int.le_of_mul_le_mul_right
abbrev YX:=@List.mem_append_left
abbrev YW:=@Nat.le_sub_one_of_lt
abbrev yej:=@List.getElem?_append_left
abbrev yek:=@Int.eq_of_mul_eq_mul_left
abbrev Vb:=@List.any_cons
abbrev V7:=@Int.natCast_mul
abbrev YT:=@List.map_singleton
abbrev V6:=@Int.natAbs_mul
abbrev Va:=@Int.zero_mul
namespace Hd
open PySem PySem.W PySem.Calls PyProof.Rows
-- a run of the text's top over the heap as a tree, as one fold
def R8(tb:String->Option Builtin)(p:Program)(w:World)(m:Nat)(ann:Option Value)(n:Nat):SharedT->Thread->Option SharedT:=
 @Nat.rec (fun _=>SharedT->Thread->Option SharedT) (fun _ _=>none)
  (fun _ ih s t=> @Bool.rec (fun _=>Option SharedT)
   (@Bool.rec (fun _=>Option SharedT) none
    (@Option.rec (SharedT×Thread) (fun _=>Option SharedT) none (fun r=>ih r.1 r.2) (stepT (denote tb) p w s t)) (stepOk m ann t))
   (some s) (through t)) n
theorem NQ{tb:String->Option Builtin}{p:Program}{w:World}{m:Nat}{ann:Option Value}:∀(n:Nat) (s s':SharedT) (t:Thread),
  R8 tb p w m ann n s t=some s'->topRun tb p w m ann n s.abs t=some s'.abs:=by
 intro n
 induction n with
 |zero=>intro s s' t h;exact absurd h (by intro h;cases h)
 |succ n ih=>
  intro s s' t h;have h1: @Bool.rec (fun _=>Option SharedT) (@Bool.rec (fun _=>Option SharedT) none
    (@Option.rec (SharedT×Thread) (fun _=>Option SharedT) none (fun r=>R8 tb p w m ann n r.1 r.2) (stepT (denote tb) p w s t)) (stepOk m ann t))
    (some s) (through t)=some s':=h
  unfold topRun;cases e1:through t with
  |true=>rw[e1]at h1;injection h1 with h1;rw[h1]
  |false=>
   rw[e1]at h1;cases e2:stepOk m ann t with
   |false=>rw[e2]at h1;cases h1
   |true=>
    rw[e2]at h1;cases e3:stepT (denote tb) p w s t with
    |none=>rw[e3]at h1;cases h1
    |some r=>
     rw[e3]at h1;have e4:=stepT_spec (s':=r.1) (t':=r.2) e3;show(match step (denote tb) p w s.abs t with | .go a b=>topRun tb p w m ann n a b| .halt _ _=>none)=_;rw[e4];exact ih _ _ _ h1
def treeOf(l:List Obj):BT:=(l.foldl (fun x o=>(x.1.ins x.2 o,x.2+1)) ((BT.nil,0):BT×Nat)).1
-- the run from the start that the kit has laid
def ran(p:Program)(N:Nat)(w:World)(os:OsState):Option SharedT:=
 R8 treeTable p w 11 (some (.ref 6)) N ⟨treeOf (boot_heap w.params).objs.toList,11,{},Array.mk [],boot_drawn,boot_toks,os⟩ (topStub p)
-- what is looked at behind the run
def looked(p q:Program)(loose:List Str)(Xt:Shared->Bool)(g0:Bool)(h:Heap)(s:Shared):=
 ((staticsOk (importedModules p.main.body) h s.heap&&namesBound p s.heap&&gensDone s&&laidKept h s.heap),openSeen q loose (importedModules p.main.body) Xt g0 s)
def vH(p q:Program)(loose:List Str)(Xt:Shared->Bool)(g0:Bool)(N:Nat):Prop:=
 ∀(w:World) (os:OsState),(ran p N w os).map (fun s=>looked p q loose Xt g0 (boot_heap w.params) s.abs)=some (true,openGood q loose)
theorem Ox{p q:Program}{loose:List Str}{Xt:Shared->Bool}{α:Type}{Yf:Shared->α}{Ya:World->α}{N:Nat}{g0:Bool}(r:vH p q loose Xt g0 N)(e:opening p=plainProg p.main.scope.names)(hN:Nat.ble 600 N=true)(f:∀s,fenceModules? p s=some s)(y:∀(w:World) (os:OsState),(ran p N w os).map (fun s=>Yf s.abs)=some (Ya w)):
  LeftO p q loose Xt Yf Ya N g0:=fun w=>by
 have b:((boot_heap w.params).isNs mainGlobals&&(Array.mk []:Array GenState).size==0,(boot_heap w.params).objs.size,(boot_heap w.params).nsMap mainGlobals "__annotations__")=(true,11,some (.ref 6)):=by kernel_rfl
 have c:absHeap (treeOf (boot_heap w.params).objs.toList) 11 {}=boot_heap w.params:=by kernel_rfl
 obtain⟨⟨h,gs',d',k',os⟩,e1,e'⟩:=Option.map_eq_some_iff.mp (boot_open e hN f w);obtain⟨rfl,rfl,rfl,rfl⟩:h=boot_heap w.params/\gs'=Array.mk []/\d'=boot_drawn/\k'=boot_toks:=by simpa using e'
 obtain⟨b1,b2,b3⟩:_/\_/\_:=by simpa only[Prod.mk.injEq]using b
 obtain⟨s,r1,r2⟩:=Option.map_eq_some_iff.mp (r w os);obtain⟨s',y1,y2⟩:=Option.map_eq_some_iff.mp (y w os);have es:s'=s:=by rw[r1]at y1;injection y1 with y1;exact y1.symm
 subst es;obtain⟨l1,l2⟩:_/\_:=by simpa only[looked,Prod.mk.injEq]using r2
 have t1:=NQ N _ _ _ r1;have ab:SharedT.abs ⟨treeOf (boot_heap w.params).objs.toList,11,{},Array.mk [],boot_drawn,boot_toks,os⟩=⟨boot_heap w.params,Array.mk [],boot_drawn,boot_toks,os⟩:=by unfold SharedT.abs;rw[c]
 rw[ab]at t1;have t:topFrom treeTable p w N ⟨boot_heap w.params,Array.mk [],boot_drawn,boot_toks,os⟩=some s'.abs:=by
  unfold topFrom;dsimp only;rw[b1,b2,b3,t1];show(match staticsOk (importedModules p.main.body) (boot_heap w.params) s'.abs.heap&&namesBound p s'.abs.heap&&gensDone s'.abs&&laidKept (boot_heap w.params) s'.abs.heap with |true=>_|false=>_)=_;rw[l1]
 unfold openEnds;rw[e1];show(topFrom treeTable p w N _).map _=_;rw[t];show some (_,_)=_;rw[l2,y2]
end Hd
section
open PySem PySem.W PyProof.Rows
namespace Hd
abbrev L:=PySem.Challenge.rw_hueshare_k25_layings_and_prices_looked_a
def Q:Program:=view L.row.toRowW.prog [1,2,3,5,6,7,8,9,10,11,12,13,14,16,17,18,19,20,22,23,24,25,26,27,29,30,31,32,33,34,35,36,37,38,40,41,42,43,44,45,46,47,48,49,50,51,52,53,54,55,56,57,58,59,60,61]
abbrev X:Shared->Bool:=fun s=>xlAt Q [] s&&recOk (RowW.records L.row.toRowW) s
set_option maxRecDepth 100000 in
theorem looks:vH L.row.toRowW.prog Q [] X true 5294:=fun w os=>by kernel_rfl
end Hd
local macro_rules
 |`(tactic|o_head $H)=>`(tactic|
  refine holds_open (q:=Hd.Q) (loose:=[]) (N:=5294) (Xt:=Hd.X) (XP:=XL Hd.Q [])
   (Yf:=Hook.obs $H) (Ya:=Hook.val $H) (YP:=Hook.says $H)
   (Hd.Ox Hd.looks (by kernel_rfl) rfl (fun _=>by kernel_rfl) (fun _ _=>by kernel_rfl))
   (Hook.of $H) (Hook.keeps $H) (fun s e=>xl_of s (Bool.and_eq_true_iff.mp e).1) XL.keeps
   (by rfl) (by rfl) (by rfl) (fun s e=>recFacts_of (Bool.and_eq_true_iff.mp e).2) (by rfl)
   (by first |assumption|decide+kernel) (by decide+kernel) ⟨rfl,rfl,rfl,rfl,rfl,by decide+kernel⟩ ?hw ?hc)
set_option maxRecDepth 100000 in
set_option maxHeartbeats 0 in
def Hd.early:PSigma fun P:Prop=>P->PySem.Challenge.rw_hueshare_k25_layings_and_prices_looked_a.Holds:=by
 refine⟨?P,fun W=> ?_⟩
 rotate_left
 w_on;o_law;k_head;(case hw=>w_witness2)
 exact W
end
namespace L2
open PySem PySem.Spec PyProof.Rows
abbrev Key:=Sum Int Str
def keyIs:Key->Value->Bool
 | .inl k,v=>Value.isInt k v
 | .inr x,v=>Value.isStrOf x v
def keyH(w:World):Key->Int
 | .inl k=>hashInt k
 | .inr x=>hashStr w x
theorem Ml:∀{k:Key} {v:Value},keyIs k v=true->(∃i t,k=Sum.inl i/\v=Value.int i t)\/(∃x t,k=Sum.inr x/\v=Value.str x t)
 | .inl i,v,h=>by
  obtain⟨t,e⟩:=wei (k:=i) (v:=v) h;exact .inl ⟨i,t,rfl,e⟩
 | .inr x,v,h=>by
  obtain⟨t,e⟩:=Value.isStrOf_shape (x:=x) (v:=v) h;exact .inr ⟨x,t,rfl,e⟩
theorem key_ll(a b:Int):decide ((Sum.inl a:Key)=Sum.inl b)=(a==b):=by
 by_cases e:a=b
 ·subst e;simp
 ·have h:¬(Sum.inl a:Key)=Sum.inl b:=fun q=>e (Sum.inl.inj q);rw[jx h];exact(beq_eq_false_iff_ne.mpr e).symm
theorem key_rr(a b:Str):decide ((Sum.inr a:Key)=Sum.inr b)=decide (a=b):=by
 by_cases e:a=b
 ·subst e;simp
 ·have h:¬(Sum.inr a:Key)=Sum.inr b:=fun q=>e (Sum.inr.inj q);rw[jx h,jx e]
theorem key_lr(a:Int)(b:Str):decide ((Sum.inl a:Key)=Sum.inr b)=false:=jx (fun q=>nomatch q)
theorem key_rl(a:Str)(b:Int):decide ((Sum.inr a:Key)=Sum.inl b)=false:=jx (fun q=>nomatch q)
def mixKind(prog:Program)(w:World):PySem.KeyKind prog w Key where
 is:=keyIs
 hash:=keyH w
 inj:=fun v a b ha hb=>by
  rcases Ml ha with⟨i,t,rfl,rfl⟩|⟨x,t,rfl,rfl⟩
  ·rcases Ml hb with⟨j,u,rfl,e⟩|⟨y,u,rfl,e⟩
   ·injection e with e1 _;rw[e1]
   ·exact nomatch e
  ·rcases Ml hb with⟨j,u,rfl,e⟩|⟨y,u,rfl,e⟩
   ·exact nomatch e
   ·injection e with e1 _;rw[e1]
 byValue:=fun k v h=>by
  rcases Ml h with⟨i,t,rfl,rfl⟩|⟨x,t,rfl,rfl⟩<;>rfl
 pyHash:=fun hv h=>by
  rcases Ml hv with⟨i,t,rfl,rfl⟩|⟨x,t,rfl,rfl⟩
  ·exact wpAny_pyHash_int h
  ·exact wpAny_pyHash_str h
 eqBool:=fun hu hv h=>by
  rcases Ml hu with⟨i,t,rfl,rfl⟩|⟨x,t,rfl,rfl⟩
  ·rcases Ml hv with⟨j,u,rfl,rfl⟩|⟨y,u,rfl,rfl⟩
   ·rw[key_ll]at h;exact wpAny_eqBool_int h
   ·rw[key_lr]at h;exact SeqAt.EqAt.int_str i t y u _ _ _ _ h
  ·rcases Ml hv with⟨j,u,rfl,rfl⟩|⟨y,u,rfl,rfl⟩
   ·rw[key_rl]at h;exact SeqAt.EqAt.str_int x t j u _ _ _ _ h
   ·rw[key_rr]at h;exact wpAny_eqBool_str h
 «strs»:=fun k x t v h=>by
  rcases Ml h with⟨i,u,rfl,e⟩|⟨y,u,rfl,e⟩
  ·exact nomatch e
  ·injection e with e1 _
   subst e1;cases v<;>rfl
inductive V where
 |non|bl (b:Bool)|int (i:Int)|str (x:Str)|byt (b:Array UInt8)|flt (b:UInt64)|ref (a:Addr)|ty (n:String)
 deriving DecidableEq
def RelV:V->Value->Prop
 | .non,u=>u=Value.none
 | .bl b,u=>u=Value.bool b
 | .int i,u=>∃t,u=Value.int i t
 | .str x,u=>∃t,u=Value.str x t
 | .byt b,u=>∃t,u=Value.bytes b t
 | .flt b,u=>∃t,u=Value.float b t
 | .ref a,u=>u=Value.ref a
 | .ty n,u=>u=Value.type n
abbrev Vals:List V->List Value->Prop:=Paired RelV
theorem Vals.length{xs:List V}{us:List Value}(r:Vals xs us):xs.length=us.length:=Paired.length r
theorem Vals.get:∀{xs:List V} {us:List Value} {i:Nat} {x:V},Vals xs us->xs[i]? =some x->∃u,us[i]? =some u/\RelV x u
 |_,_,_,_,.nil,e=>by simp at e
 |_,_,0,_,.cons r _,e=>by simp at e;subst e;exact⟨_,rfl,r⟩
 |_,_,i+1,x,.cons _ t,e=>by
  obtain⟨u,h1,h2⟩:=Vals.get (i:=i) (x:=x) t (by simpa using e);exact⟨u,by simpa using h1,h2⟩
theorem Vals.set{x:V}{u:Value}(r:RelV x u):∀{xs:List V} {us:List Value} (i:Nat),Vals xs us->Vals (xs.set i x) (us.set i u)
 |_,_,_,.nil=> .nil
 |_,_,0,.cons _ t=> .cons r t
 |_,_,i+1,.cons q t=> .cons q (Vals.set r i t)
theorem Vals.append:∀{xs ys:List V} {us ws:List Value},Vals xs us->Vals ys ws->Vals (xs++ys) (us++ws)
 |_,_,_,_,.nil,s=>s
 |_,_,_,_,.cons r t,s=> .cons r (Vals.append t s)
theorem Vals.take:∀{xs:List V} {us:List Value} (n:Nat),Vals xs us->Vals (xs.take n) (us.take n)
 |_,_,0,_=> .nil
 |_,_,_+1,.nil=> .nil
 |_,_,n+1,.cons r t=> .cons r (Vals.take n t)
theorem Vals.drop:∀{xs:List V} {us:List Value} (n:Nat),Vals xs us->Vals (xs.drop n) (us.drop n)
 |_,_,0,r=>r
 |_,_,_+1,.nil=> .nil
 |_,_,n+1,.cons _ t=>Vals.drop n t
def RelO:Option V->Option Value->Prop
 |some v,some u=>RelV v u
 |none,none=>True
 |_,_=>False
def KV{κ:Type}:List (κ×V)->List (κ×Value)->Prop:=Paired fun(p:κ×V) (q:κ×Value)=>p.1=q.1/\RelV p.2 q.2
def kV:Key->V
 | .inl i=> .int i
 | .inr x=> .str x
inductive HO where
 /-- a list -/
 |lst (xs:List V)
 /-- a tuple (never changes) -/
 |tup (xs:List V)
 /-- a dict whose keys are ints and texts; one whose keys are tuples of ints and texts (the empty one is both) -/
 |dK (kvs:List (Key×V))|dT (kvs:List (List Key×V))
 /-- a set of ints: its members, its size -/
 |set (S:Int->Bool) (n:Nat)
 /-- an instance of the class at C, its dict at dx, its attributes -/
 |ins (C dx:Addr) (fs:List (Str×V))
 /-- the dict of the instance at x -/
 |own (x:Addr)
 /-- the dict of an exception -/
 |xd (fs:List (Str×V))
 /-- a bound method, f of x -/
 |met (f x:Addr)
 /-- a range object lo, lo + 1, .. below hi -/
 |rng (lo hi:Int)
 /-- a thing that is known to the object (the script; a dict while a loop walks it): read, never written while it is so -/
 |frz (o:Obj) (u:HO)
 /-- a code object's table -/
 |tbl (ps:Array Value)
 /-- any other thing, by what is true of its one object (a def of one's own: SetO a S n := HO.ext fun h => ..) -/
 |ext (φ:Heap->Prop)
abbrev Hp:=Addr->Option HO
def upd(H:Hp)(a:Addr)(o:HO):Hp:=fun b=>if b=a then some o else H b
theorem aD{H:Hp}{a:Addr}{o:HO}:upd H a o a=some o:=by unfold upd;rw[aB rfl]
theorem cD{H:Hp}{a b:Addr}{o:HO}(h:b≠a):upd H a o b=H b:=by unfold upd;rw[aA h]
theorem upd_upd{H:Hp}{a:Addr}{o u:HO}:upd (upd H a o) a u=upd H a u:=by
 funext b;unfold upd;split<;>rfl
theorem ne_of{H:Hp}{a b:Addr}{o u:HO}(h:H a=some o)(h':H b=some u)(d:o≠u):a≠b:=by
 intro e;subst e;rw[h]at h';exact d (rE h')
theorem rB{H:Hp}{a b:Addr}{o:HO}(h:H a=some o)(h':H b=none):a≠b:=by
 intro e;subst e;rw[h]at h';cases h'
section
variable(P:Program)(w:World)
def ObjOk(H:Hp)(h:Heap)(a:Addr):HO->Prop
 | .lst xs=>xs.length<=sizeLine/\∃(its:List Value) (n:Nat),Vals xs its/\h.get? a=some {cls:= .type "list",data:= .seq its.toArray n}
 | .tup xs=>xs.length<=sizeLine/\∃its:List Value,Vals xs its/\IsTup h a its.toArray
 | .dK kvs=>kvs.length<=sizeLine/\(a==sysModules)=false/\∃vs,KV kvs vs/\h.DictOf (mixKind P w) a vs
 | .dT kvs=>kvs.length<=sizeLine/\(a==sysModules)=false/\∃xs:List (List Key×Addr×Value),
   Paired (fun(p:List Key×V) (q:List Key×Addr×Value)=>p.1=q.1/\H q.2.1=some (.tup (p.1.map kV))/\RelV p.2 q.2.2) kvs xs/\
   ∃o es ep,h.get? a=some o/\o.ExactDict/\o.data= .dict es ep/\es.toList=xs.map (entryOfKey (tupleKind (mixKind P w)))/\(xs.map (·.1)).Nodup
 | .set S n=>h.SetOf (intKind P w) a S n
 | .ins C dx fs=>H dx=some (.own a)/\fs.length<=1000/\dx≠a/\h.get? a=some (PySem.W.instObj C dx)/\
   ∃mA,h.Ns1 dx mA/\(∀f,RelO (fs.lookup f) (mA f))/\PySem.Within mA (fs.map (·.1))
 | .own _=>∃o,h.get? a=some o
 | .xd fs=>∃mA,h.Ns1 a mA/\∀f,RelO (fs.lookup f) (mA f)
 | .rng lo hi=>∃t u v,h.get? a=some {cls:= .type "range",data:= .fields #[.int lo t,.int hi u,.int 1 v]}
 | .frz o u=>h.get? a=some o/\ObjOk H h a u
 | .tbl ps=>h.get? a=some {cls:= .none,data:= .fields ps}
 | .met f x=>h.get? a=some (PySem.W.methodObj (.ref f) (.ref x))
 | .ext φ=>φ h/\(∃o,h.get? a=some o)/\∀h1 h2:Heap,φ h1->(∀o,h1.get? a=some o->h2.get? a=some o)->φ h2
def HOk(H:Hp)(h:Heap):Prop:=∀a o,H a=some o->ObjOk P w H h a o
end
section
variable{P:Program}{w:World}{H H':Hp}{h h':Heap}{a:Addr}{o:HO}
theorem ObjOk.lt(x:ObjOk P w H h a o):a<h.objs.size:=by
 cases o with
 |lst xs=>obtain⟨_,_,_,_,e⟩:=x;exact cU e
 |tup xs=>obtain⟨_,_,_,p⟩:=x;exact p.lt
 |dK kvs=>obtain⟨_,_,_,_,o,_,_,e,_⟩:=x;exact cU e
 |dT kvs=>obtain⟨_,_,_,_,o,_,_,e,_⟩:=x;exact cU e
 |set S n=>obtain⟨o,_,_,_,e,_⟩:=x;exact cU e
 |ins C dx fs=>obtain⟨_,_,_,e,_⟩:=x;exact cU e
 |own y=>obtain⟨_,e⟩:=x;exact cU e
 |xd fs=>obtain⟨_,⟨_,_,_,e,_⟩,_⟩:=x;exact cU e
 |rng lo hi=>obtain⟨_,_,_,e⟩:=x;exact cU e
 |frz ob u=>obtain⟨e,_⟩:=x;exact cU e
 |tbl ps=>exact cU (show h.get? a=some _ from x)
 |met f y=>exact cU (show h.get? a=some _ from x)
 |ext φ=>obtain⟨_,⟨_,e⟩,_⟩:=x;exact cU e
theorem Paired.mapP{α β:Type}{F G:α->β->Prop}:∀{l₁:List α} {l₂:List β},Paired F l₁ l₂->(∀a b,F a b->G a b)->Paired G l₁ l₂
 |_,_,.nil,_=> .nil
 |_,_,.cons r t,f=> .cons (f _ _ r) (Paired.mapP t f)
theorem ObjOk.stay(x:ObjOk P w H h a o)(k:∀b u,(b=a\/H b=some (.own a))->h.get? b=some u->h'.get? b=some u)(ho:∀b,H b=some (.own a)->H' b=some (.own a))(ht:∀b xs,H b=some (.tup xs)->H' b=some (.tup xs)):ObjOk P w H' h' a o:=by
 induction o with
 |lst xs=>obtain⟨z,its,n,r,e⟩:=x;exact⟨z,its,n,r,k _ _ (.inl rfl) e⟩
 |tup xs=>obtain⟨z,its,r,ob,e,c⟩:=x;exact⟨z,its,r,ob,k _ _ (.inl rfl) e,c⟩
 |dK kvs=>obtain⟨z,y,vs,r,ob,es,ep,e,c⟩:=x;exact⟨z,y,vs,r,ob,es,ep,k _ _ (.inl rfl) e,c⟩
 |dT kvs=>
  obtain⟨z,y,xs,r,ob,es,ep,e,c⟩:=x;exact⟨z,y,xs,Paired.mapP r fun p q z=>⟨z.1,ht _ _ z.2.1,z.2.2⟩,ob,es,ep,k _ _ (.inl rfl) e,c⟩
 |set S n=>obtain⟨ob,es,ep,t,e,c⟩:=x;exact⟨ob,es,ep,t,k _ _ (.inl rfl) e,c⟩
 |ins C dx fs=>
  obtain⟨d,z,ne,e,mA,⟨od,es,ep,e2,c⟩,r⟩:=x;exact⟨ho _ d,z,ne,k _ _ (.inl rfl) e,mA,⟨od,es,ep,k _ _ (.inr d) e2,c⟩,r⟩
 |own y=>obtain⟨ob,e⟩:=x;exact⟨ob,k _ _ (.inl rfl) e⟩
 |xd fs=>obtain⟨mA,⟨od,es,ep,e,c⟩,r⟩:=x;exact⟨mA,⟨od,es,ep,k _ _ (.inl rfl) e,c⟩,r⟩
 |rng lo hi=>obtain⟨t,u,v,e⟩:=x;exact⟨t,u,v,k _ _ (.inl rfl) e⟩
 |frz ob u ih=>obtain⟨e,q⟩:=x;exact⟨k _ _ (.inl rfl) e,ih q⟩
 |tbl ps=>
  have e:h.get? a=some {cls:= .none,data:= .fields ps}:=x;show h'.get? a=some {cls:= .none,data:= .fields ps};exact k a _ (.inl rfl) e
 |met f y=>
  have e:h.get? a=some (PySem.W.methodObj (.ref f) (.ref y)):=x;show h'.get? a=some (PySem.W.methodObj (.ref f) (.ref y));exact k a _ (.inl rfl) e
 |ext φ=>obtain⟨p,⟨o,e⟩,st⟩:=x;exact⟨st _ _ p fun o q=>k _ _ (.inl rfl) q,⟨o,k _ _ (.inl rfl) e⟩,st⟩
theorem HOk.lt(x:HOk P w H h)(e:H a=some o):a<h.objs.size:=(x a o e).lt
theorem HOk.fresh(x:HOk P w H h)(e:h.objs.size<=a):H a=none:=by
 cases q:H a with
 |none=>rfl
 |some u=>exact absurd (jw (x.lt q) e) (uy _)
theorem HOk.kept(x:HOk P w H h)(k:∀b u,h.get? b=some u->h'.get? b=some u):HOk P w H h':=fun a o e=>
 (x a o e).stay (fun b u _ q=>k b u q) (fun _ q=>q) fun _ _ q=>q
theorem HOk.laid(x:HOk P w H h)(k:∀b u,h.get? b=some u->h'.get? b=some u)(hp:h.objs.size<=a)(new:ObjOk P w (upd H a o) h' a o):HOk P w (upd H a o) h':=fun b u e=>by
 have hn:=x.fresh hp;by_cases hb:b=a
 ·subst hb;rw[aD]at e;cases e;exact new
 ·rw[cD hb]at e;exact(x b u e).stay (fun c v _ q=>k c v q) (fun c q=>by rw[cD (rB q hn)];exact q) fun c xs q=>by rw[cD (rB q hn)];exact q
end
def Rd(H:Hp)(a:Addr)(u:HO):Prop:=H a=some u\/∃o,H a=some (.frz o u)
theorem Rd.ok{P:Program}{w:World}{H:Hp}{h:Heap}{a:Addr}{u:HO}(r:Rd H a u)(x:HOk P w H h):ObjOk P w H h a u:=by
 rcases r with r|⟨o,r⟩
 ·exact x a u r
 ·obtain⟨_,q⟩:=x a _ r;exact q
def Mut:Option HO->Prop
 |some (.lst _)=>True
 |some (.dK _)=>True
 |some (.dT _)=>True
 |some (.set _ _)=>True
 |some (.ins _ _ _)=>True
 |some (.ext _)=>True
 |_=>False
section
variable{P:Program}{w:World}{H:Hp}{h h':Heap}{x e:Addr}{o':HO}
theorem HOk.write(ok:HOk P w H h)(mu:Mut (H x))(he:e=x\/H e=some (.own x))(k:∀b u,b≠e->h.get? b=some u->h'.get? b=some u)(heo:∃u,h'.get? e=some u)(new:ObjOk P w (upd H x o') h' x o'):HOk P w (upd H x o') h':=fun b u q=>by
 have nown:∀c y,H c=some (.own y)->c≠x:=fun c y r z=>by subst z;rw[r]at mu;exact mu
 have ntup:∀c xs,H c=some (.tup xs)->c≠x:=fun c xs r z=>by subst z;rw[r]at mu;exact mu
 by_cases hb:b=x
 ·subst hb;rw[aD]at q;cases q;exact new
 ·rw[cD hb]at q;by_cases hbe:b=e
  ·have q':H b=some (.own x):=by
    rcases he with z|z
    ·exact absurd (hbe.trans z) hb
    ·rw[hbe];exact z
   rw[q]at q';cases q';obtain⟨v,hv⟩:=heo;exact⟨v,by rw[hbe];exact hv⟩
  ·refine(ok b u q).stay (fun c v hc r=>k c v ?_ r) (fun c r=>by rw[cD (nown c b r)];exact r) fun c xs r=>by rw[cD (ntup c xs r)];exact r
   rcases hc with rfl|hc
   ·exact hbe
   ·rintro rfl;rcases he with z|z
    ·exact nown c b hc z
    ·rw[hc]at z;cases z;exact hb rfl
end
structure Un(fs ex:List Addr)(H H':Hp)(h h':Heap):Prop where
 keep:∀b o,h.get? b=some o->H b=none->b∉fs->b∉ex->h'.get? b=some o
 slot:∀b o,h.get? b=some o->H b=none->b∈fs->b∉ex->∃sl,h'.get? b=some {o with slots:=sl}
 free:∀b o,h.get? b=some o->H b=none->b∉ex->H' b=none
 there:∀b o,h.get? b=some o->b∉ex->∃o',h'.get? b=some o'
 tups:∀b xs,H b=some (.tup xs)->H' b=some (.tup xs)
 frzs:∀b o u,H b=some (.frz o u)->H' b=some (.frz o u)
 tbls:∀b ps,H b=some (.tbl ps)->∃more,H' b=some (.tbl (ps++more))
section
variable{fs ex:List Addr}{H H1:Hp}{h h1 h':Heap}{a x e:Addr}{o:HO}
theorem Un.any(u:Un fs ex H H1 h h1){b:Addr}{ob:Obj}(q:h.get? b=some ob)(n:H b=none)(hx:b∉ex):∃sl,h1.get? b=some {ob with slots:=sl}:=by
 by_cases hb:b∈fs
 ·exact u.slot b ob q n hb hx
 ·exact⟨ob.slots,u.keep b ob q n hb hx⟩
theorem Un.kept(k:∀b u,h.get? b=some u->h'.get? b=some u):Un fs ex H H h h':=
 ⟨fun b ob q _ _ _=>k b ob q,fun b ob q _ _ _=>⟨ob.slots,k b ob q⟩,fun _ _ _ n _=>n,fun b ob q _=>⟨ob,k b ob q⟩,fun _ _ q=>q,fun _ _ _ q=>q,fun _ ps q=>⟨#[],by rw[q];simp⟩⟩
theorem Un.refl:Un fs ex H H h h:=Un.kept fun _ _ q=>q
theorem Un.laid(k:∀b u,h.get? b=some u->h'.get? b=some u)(hp:h.objs.size<=a)(hn:H a=none):Un fs ex H (upd H a o) h h' where
 keep:=fun b u q _ _ _=>k b u q
 slot:=fun b u q _ _ _=>⟨u.slots,k b u q⟩
 free:=fun b u q n _=>by rw[cD (dB (jw (cU q) hp))];exact n
 there:=fun b u q _=>⟨u,k b u q⟩
 tups:=fun b xs q=>by rw[cD (rB q hn)];exact q
 frzs:=fun b u xs q=>by rw[cD (rB q hn)];exact q
 tbls:=fun b ps q=>⟨#[],by rw[cD (rB q hn),q];simp⟩
theorem Un.write(mu:Mut (H x))(he:e=x\/H e=some (.own x))(k:∀b u,b≠e->h.get? b=some u->h'.get? b=some u)(heo:∃u,h'.get? e=some u):Un fs ex H (upd H x o) h h':=by
 have hx:∀b,H b=none->b≠x:=fun b n z=>by subst z;rw[n]at mu;exact mu
 have hb:∀b,H b=none->b≠e:=fun b n z=>by
  subst z;rcases he with r|r
  ·exact hx b n r
  ·rw[n]at r;cases r
 have hm:∀b u,H b=some u->¬Mut (some u)->b≠x:=fun b u q nm z=>by subst z;rw[q]at mu;exact nm mu
 refine⟨fun b u q n _ _=>k b u (hb b n) q,fun b u q n _ _=>⟨u.slots,k b u (hb b n) q⟩,fun b u q n _=>by rw[cD (hx b n)];exact n,fun b u q _=> ?_,
  fun b xs q=>by rw[cD (hm b _ q fun z=>z)];exact q,fun b u xs q=>by rw[cD (hm b _ q fun z=>z)];exact q,fun b ps q=>⟨#[],by rw[cD (hm b _ q fun z=>z),q];simp⟩⟩
 by_cases hbe:b=e
 ·subst hbe;exact heo
 ·exact⟨u,k b u hbe q⟩
end
def trk(h:Heap)(H:Hp):List Addr:=(List.range h.objs.size).filter fun a=>(H a).isSome
def hidT(h:Heap)(H:Hp):Heap:=PySem.W.hideAll h (trk h H)
theorem hidT_size(h:Heap)(H:Hp):(hidT h H).objs.size=h.objs.size:=PySem.W.hideAll_size _ _
theorem hidT_get{h:Heap}{H:Hp}{b:Addr}{o:Obj}(e:h.get? b=some o)(n:H b=none):(hidT h H).get? b=some o:=
 PySem.W.hideAll_get _ e fun hm=>by
  have q:(H b).isSome=true:=(lN.mp hm).2;rw[n]at q;simp at q
theorem of_hidT{h:Heap}{H:Hp}{b:Addr}{o:Obj}(e:(hidT h H).get? b=some o):h.get? b=some o/\H b=none:=by
 have e':h.get? b=some o:=PySem.W.of_hideAll (trk h H) e;refine⟨e',?_⟩;cases q:H b with
 |none=>rfl
 |some x=>
  have hm:b∈trk h H:=lN.mpr ⟨pO.mpr (cU e'),by simp[q]⟩;have z:(hidT h H).get? b=none:=PySem.W.hideAll_none (trk h H) hm;rw[z]at e;cases e
structure Mod(K:W.Frag)(mg:L4)(base:Heap):Prop where
 kin:K.In base
 glob:base.Ns mainGlobals mg
 blt:∃mb,base.Ns builtinsNs mb/\∀x:Str,x≠"__name__"->mb x=bootBuiltins x
 nolimit:base.NoLimit
structure Cx where
 prog:Program
 w:World
 K:W.Frag
 mg:Str->Option Value
 base:Heap
 A:Around
 N:List Str
 s₀:Shared
 H₀:Hp
 env:Env
 outer:List Env
 stack:List Env
 ex:List Addr
 fn:Str->Bool
 calm:Bool
 pn:L1
 xe:Value->Shared->Prop
def frs(l:List Env):List Addr:=l.filterMap (·.frame)
abbrev Cx.fs(X:Cx):List Addr:=frs X.outer
def Vis(sc:Scope)(x:Str):Prop:=sc.names.lookup x=some .local\/sc.names.lookup x=some .cell\/sc.names.lookup x=some .free
def Loc(sc:Scope)(x:Str):Prop:=sc.names.lookup x=some .local\/sc.names.lookup x=some .cell
def Look(env:Env)(h:Heap)(m:L4)(x:Str)(u:Value):Prop:=
 (env.kindOf x=some .local/\m x=some u)\/((env.kindOf x=some .cell\/env.kindOf x=some .free)/\∃c,env.cells.lookup x=some c/\h.IsCell c (some u))
structure Cx.Ok(X:Cx):Prop where
 mod:Mod X.K X.mg X.base
 kind:X.env.scope.kind= .function
 glob:X.env.globals=mainGlobals
 blt:X.env.builtins=builtinsNs
 above:X.s₀.heap.objs.size<=X.env.locals
 inj:∀x y c,X.env.cells.lookup x=some c->X.env.cells.lookup y=some c->x=y
 has:∀x,(X.env.kindOf x=some .cell\/X.env.kindOf x=some .free)->∃c,X.env.cells.lookup x=some c
 cab:∀x c,X.fn x=true->X.env.cells.lookup x=some c->X.s₀.heap.objs.size<=c
 hd:X.calm=true->X.A.handled=none
 frames:X.A.frames=some X.stack
 stk:X.stack=X.outer\/(X.stack=X.env::X.outer/\X.env.frame=some X.env.locals)
 exf:∀b∈X.ex,b≠X.env.locals/\∀x c,X.env.cells.lookup x=some c->c≠b
 bs:∀b o,X.base.get? b=some o->X.s₀.heap.get? b=some o/\X.H₀ b=none
 bsz:X.base.objs.size<=X.s₀.heap.objs.size
 noex:∀b o,X.base.get? b=some o->b∉X.ex
 exfs:∀b∈X.ex,b∉X.fs
 funs:X.s₀.heap.FunFrames X.base X.outer
 frf:∀b∈X.fs,X.H₀ b=none
structure Inv(X:Cx)(pins:L1)(σ:List (Option V))(H:Hp)(s:Shared):Prop where
 ok:X.Ok
 os:s.os=X.s₀.os
 bare:AllBare s.gens
 base:Un X.fs X.ex X.H₀ H X.s₀.heap s.heap
 loc:∃m,s.heap.Ns X.env.locals m/\∀(i:Nat) (x:Str) (v:V),X.N[i]? =some x->σ[i]? =some (some v)->Vis X.env.scope x->∃u,RelV v u/\Look X.env s.heap m x u
 cell:∀x c,X.env.cells.lookup x=some c->∃v,s.heap.IsCell c v
 free:H X.env.locals=none
 freeC:∀x c,X.env.cells.lookup x=some c->H c=none
 pin:∀p∈X.pn++pins,s.heap.get? p.1=some p.2/\H p.1=none/\p.1≠X.env.locals/\p.1∉X.fs/\∀v,p.2.data≠.cell v
 hok:HOk X.prog X.w H s.heap
 len:σ.length=X.N.length
section
variable{X:Cx}{pins:L1}{σ:List (Option V)}{H H':Hp}{s:Shared}{h':Heap}
theorem Cx.Ok.nofr(ok:X.Ok){b:Addr}{o:Obj}(e:X.base.get? b=some o):b∉X.fs:=fun hb=>by
 have:=(ok.funs.mem hb).1;rw[e]at this;cases this
theorem Inv.bs(I:Inv X pins σ H s):∀b o,X.base.get? b=some o->s.heap.get? b=some o/\H b=none:=fun b o e=>
 ⟨I.base.keep b o (I.ok.bs b o e).1 (I.ok.bs b o e).2 (I.ok.nofr e) (I.ok.noex b o e),I.base.free b o (I.ok.bs b o e).1 (I.ok.bs b o e).2 (I.ok.noex b o e)⟩
theorem Inv.bk(I:Inv X pins σ H s):∀b o,X.base.get? b=some o->s.heap.get? b=some o:=fun b o e=>(I.bs b o e).1
theorem Inv.mod(I:Inv X pins σ H s):Mod X.K X.mg X.base:=I.ok.mod
theorem Inv.kIn(I:Inv X pins σ H s):X.K.In s.heap:=I.ok.mod.kin.keeps I.bk
theorem Inv.lt(I:Inv X pins σ H s):X.env.locals<s.heap.objs.size:=let⟨_,hn,_⟩:=I.loc;hn.lt
theorem Inv.sz(I:Inv X pins σ H s):X.s₀.heap.objs.size<=s.heap.objs.size:=cC I.ok.above (cR I.lt)
theorem Inv.nofs(I:Inv X pins σ H s){a:Addr}(h:s.heap.objs.size<=a):a∉X.fs:=fun hb=>by
 obtain⟨_,o,ho,_⟩:=I.ok.funs.mem hb;exact absurd (jw (cU ho) (cC I.sz h)) (uy _)
theorem Inv.cne(I:Inv X pins σ H s):∀x c,X.env.cells.lookup x=some c->c≠X.env.locals:=fun x c e z=>by
 obtain⟨v,o,ho,hd⟩:=I.cell x c e;obtain⟨m,⟨o',es,ep,ho',hd',_⟩,_⟩:=I.loc;rw[z,ho']at ho;cases ho;rw[hd']at hd;cases hd
theorem Inv.funs(I:Inv X pins σ H s):s.heap.FunFrames X.base X.outer:=by
 have all:∀(l:List Env),(∀b∈frs l,b∈X.fs)->X.s₀.heap.FunFrames X.base l->s.heap.FunFrames X.base l:=by
  intro l
  induction l with
  |nil=>intro _ _;trivial
  |cons env r ih=>
   intro hs hl;obtain⟨hk,⟨L,o,hf,hn,ho,hd⟩,hr⟩:=hl;have hL:L∈X.fs:=hs L (by unfold frs;rw[RG,hf];exact nG);obtain⟨sl,e⟩:=I.base.slot L o ho (I.ok.frf L hL) hL fun z=>I.ok.exfs L z hL;exact⟨hk,⟨L,_,hf,hn,e,hd⟩,ih (fun b hb=>hs b (by unfold frs;rw[RG,hf];exact jr _ hb)) hr⟩
 exact all X.outer (fun _ hb=>hb) I.ok.funs
theorem Inv.stack(I:Inv X pins σ H s):s.heap.FunFrames X.base X.stack:=by
 rcases I.ok.stk with e|⟨e,hf⟩
 ·rw[e];exact I.funs
 ·rw[e];obtain⟨m,hn,_⟩:=I.loc;refine .cons (by rw[I.ok.kind];decide) hf hn ?_ I.funs;exact Heap.get?_none_of_le (cC I.ok.bsz I.ok.above)
theorem Inv.stkSub(I:Inv X pins σ H s):∀b∈frs X.stack,b∈X.env.locals::X.fs:=fun b hb=>by
 rcases I.ok.stk with e|⟨e,hf⟩
 ·rw[e]at hb;exact jr _ hb
 ·rw[e]at hb;unfold frs at hb;rw[RG,hf]at hb;exact hb
theorem Inv.stkFree(I:Inv X pins σ H s):∀b∈frs X.stack,H b=none:=fun b hb=>by
 rcases cJ.mp (I.stkSub b hb)with e|hb
 ·rw[e];exact I.free
 ·obtain⟨_,o,ho,_⟩:=I.ok.funs.mem hb;exact I.base.free b o ho (I.ok.frf b hb) fun z=>I.ok.exfs b z hb
theorem Inv.step{g':Array GenState}{t':Nat}{d':Drawn}{ch:List Addr}(I:Inv X pins σ H s)(hch:∀b∈ch,(b∈X.ex\/X.s₀.heap.objs.size<=b)/\b≠X.env.locals/\(∀x c,X.env.cells.lookup x=some c->c≠b)/\∀p∈X.pn++pins,p.1≠b)(keep:∀b o,b≠X.env.locals->b∉X.fs->b∉ch->s.heap.get? b=some o->H b=none->h'.get? b=some o)(slot:∀b o,b≠X.env.locals->b∈X.fs->b∉ch->s.heap.get? b=some o->H b=none->∃sl,h'.get? b=some {o with slots:=sl})(free:∀b o,b∉ch->s.heap.get? b=some o->H b=none->H' b=none)(there:∀b o,b∉ch->s.heap.get? b=some o->∃o',h'.get? b=some o')(tups:∀b xs,H b=some (.tup xs)->H' b=some (.tup xs))(frzs:∀b o u,H b=some (.frz o u)->H' b=some (.frz o u))(tbls:∀b ps,H b=some (.tbl ps)->∃more,H' b=some (.tbl (ps++more)))(ns:∀m,s.heap.Ns X.env.locals m->h'.Ns X.env.locals m)(hok:HOk X.prog X.w H' h')(hg:AllBare g'):
  Inv X pins σ H' {s with heap:=h',gens:=g',drawn:=d',toks:=t'}:=by
 have neL:∀b o,X.s₀.heap.get? b=some o->b≠X.env.locals:=fun b o e=>dB (jw (cU e) I.ok.above);have neC:∀b o,X.s₀.heap.get? b=some o->b∉X.ex->b∉ch:=fun b o e hx hb=>by
  rcases(hch b hb).1 with z|z
  ·exact hx z
  ·exact absurd (jw (cU e) z) (uy _)
 have cellK:∀x c,X.env.cells.lookup x=some c->∀v,s.heap.IsCell c v->h'.IsCell c v:=fun x c e v ⟨o,ho,hd⟩=>by
  have nch:c∉ch:=fun z=>(hch c z).2.2.1 x c e rfl;by_cases hc:c∈X.fs
  ·obtain⟨sl,q⟩:=slot c o (I.cne x c e) hc nch ho (I.freeC x c e);exact⟨_,q,hd⟩
  ·exact⟨o,keep c o (I.cne x c e) hc nch ho (I.freeC x c e),hd⟩
 refine⟨I.ok,I.os,hg,⟨fun b o e n hb hx=> ?_,fun b o e n hb hx=> ?_,fun b o e n hx=> ?_,fun b o e hx=> ?_,fun b xs e=>tups b xs (I.base.tups b xs e),fun b o xs e=>frzs b o xs (I.base.frzs b o xs e),fun b ps e=> ?_⟩,?_,fun x c e=> ?_,?_,fun x c e=> ?_,fun p hp=> ?_,hok,I.len⟩
 ·exact keep b o (neL b o e) hb (neC b o e hx) (I.base.keep b o e n hb hx) (I.base.free b o e n hx)
 ·obtain⟨sl,e1⟩:=I.base.slot b o e n hb hx;obtain⟨sl',e2⟩:=slot b _ (neL b o e) hb (neC b o e hx) e1 (I.base.free b o e n hx);exact⟨sl',e2⟩
 ·obtain⟨o',e1⟩:=I.base.there b o e hx;exact free b o' (neC b o e hx) e1 (I.base.free b o e n hx)
 ·obtain⟨o',e1⟩:=I.base.there b o e hx;exact there b o' (neC b o e hx) e1
 ·obtain⟨m1,e1⟩:=I.base.tbls b ps e;obtain⟨m2,e2⟩:=tbls b _ e1;exact⟨m1++m2,by rw[e2,Array.append_assoc]⟩
 ·obtain⟨m,hn,hl⟩:=I.loc;refine⟨m,ns m hn,fun i x v e1 e2 e3=> ?_⟩;obtain⟨u,r,l⟩:=hl i x v e1 e2 e3;refine⟨u,r,?_⟩;rcases l with l|⟨k,c,e,z⟩
  ·exact .inl l
  ·exact .inr ⟨k,c,e,cellK x c e _ z⟩
 ·obtain⟨v,z⟩:=I.cell x c e;exact⟨v,cellK x c e v z⟩
 ·obtain⟨m,⟨o,_,_,ho,_⟩,_⟩:=I.loc;exact free _ o (fun z=>(hch _ z).2.1 rfl) ho I.free
 ·obtain⟨v,o,ho,hd⟩:=I.cell x c e;exact free c o (fun z=>(hch c z).2.2.1 x c e rfl) ho (I.freeC x c e)
 ·obtain⟨e,n,ne,nf,d⟩:=I.pin p hp;have nch:p.1∉ch:=fun z=>(hch p.1 z).2.2.2 p hp rfl;exact⟨keep p.1 p.2 ne nf nch e n,free p.1 p.2 nch e n,ne,nf,d⟩
theorem Inv.un{t':Nat}(I:Inv X pins σ H s)(u:Un X.fs [] H H' s.heap h')(hok:HOk X.prog X.w H' h'):Inv X pins σ H' {s with heap:=h',toks:=t'}:=by
 obtain⟨m,⟨o,es,ep,ho,r⟩,_⟩:=id I.loc;obtain⟨sl,hL⟩:=u.any ho I.free (by simp);exact I.step (g':=s.gens) (d':=s.drawn) (ch:=[]) (fun _ z=>nomatch z) (fun b o _ hb _ e n=>u.keep b o e n hb (by simp)) (fun b o _ hb _ e n=>u.slot b o e n hb (by simp)) (fun b o _ e n=>u.free b o e n (by simp)) (fun b o _ e=>u.there b o e (by simp)) u.tups u.frzs u.tbls (fun m' hm=>by
  obtain⟨o',es',ep',ho',r'⟩:=hm;rw[ho]at ho';cases ho';exact⟨_,es',ep',hL,r'⟩) hok I.bare
theorem Inv.call{g':Array GenState}{t':Nat}{d':Drawn}{ch:List Addr}(I:Inv X pins σ H s)(u:Un (frs X.stack) ch H H' s.heap h')(hok:HOk X.prog X.w H' h')(hg:AllBare g')(hch:∀b∈ch,(b∈X.ex\/X.s₀.heap.objs.size<=b)/\b≠X.env.locals/\(∀x c,X.env.cells.lookup x=some c->c≠b)/\∀p∈X.pn++pins,p.1≠b):
  Inv X pins σ H' {s with heap:=h',gens:=g',drawn:=d',toks:=t'}:=by
 obtain⟨m,⟨o,es,ep,ho,r⟩,_⟩:=id I.loc;obtain⟨sl,hL⟩:=u.any ho I.free fun z=>(hch _ z).2.1 rfl;exact I.step (ch:=ch) hch (fun b o hL hb hc e n=>u.keep b o e n (fun z=>(cJ.mp (I.stkSub b z)).elim hL hb) hc) (fun b o _ _ hc e n=>u.any e n hc) (fun b o hc e n=>u.free b o e n hc) (fun b o hc e=>u.there b o e hc) u.tups u.frzs u.tbls (fun m' hm=>by
  obtain⟨o',es',ep',ho',r'⟩:=hm;rw[ho]at ho';cases ho';exact⟨_,es',ep',hL,r'⟩) hok hg
theorem Inv.turned{t':Nat}{it:Addr}(I:Inv X pins σ H s)(k:∀b o,b≠it->s.heap.get? b=some o->h'.get? b=some o)(hn:H it=none)(hL:it≠X.env.locals)(h1:it∈X.ex\/X.s₀.heap.objs.size<=it)(h2:∀x c,X.env.cells.lookup x=some c->c≠it)(h3:∀p∈X.pn++pins,p.1≠it):Inv X pins σ H {s with heap:=h',toks:=t'}:=by
 have nit:∀b u,H b=some u->b≠it:=fun b u e z=>by rw[z,hn]at e;cases e
 refine I.step (g':=s.gens) (d':=s.drawn) (ch:=[it]) (fun b hb=> ?_) (fun b o _ _ hc e _=>k b o (fun z=>hc (by simp[z])) e) (fun b o _ _ hc e _=>⟨o.slots,k b o (fun z=>hc (by simp[z])) e⟩) (fun _ _ _ _ n=>n)
  (fun b o hc e=>⟨o,k b o (fun z=>hc (by simp[z])) e⟩) (fun _ _ e=>e) (fun _ _ _ e=>e) (fun b ps e=>⟨#[],by rw[e];simp⟩) (fun m hm=> ?_) (fun b u e=> ?_) I.bare
 ·have e:b=it:=by simpa using hb
  subst e;exact⟨h1,hL,h2,h3⟩
 ·obtain⟨o,es,ep,ho,r⟩:=hm;exact⟨o,es,ep,k _ o (lO hL) ho,r⟩
 ·refine(I.hok b u e).stay (fun c v hc q=>k c v ?_ q) (fun _ q=>q) fun _ _ q=>q;rcases hc with z|z
  ·rw[z];exact nit b u e
  ·exact nit c _ z
theorem Inv.tok(I:Inv X pins σ H s)(t:Nat):Inv X pins σ H {s with toks:=t}:=I.un (h':=s.heap) (t':=t) Un.refl I.hok
theorem Inv.kept{t':Nat}(I:Inv X pins σ H s)(k:∀b u,s.heap.get? b=some u->h'.get? b=some u):Inv X pins σ H {s with heap:=h',toks:=t'}:=I.un (Un.kept k) (I.hok.kept k)
theorem Inv.laid{a:Addr}{o:HO}{t':Nat}(I:Inv X pins σ H s)(k:∀b u,s.heap.get? b=some u->h'.get? b=some u)(hp:s.heap.objs.size<=a)(new:ObjOk X.prog X.w (upd H a o) h' a o):
  Inv X pins σ (upd H a o) {s with heap:=h',toks:=t'}:=I.un (Un.laid k hp (I.hok.fresh hp)) (I.hok.laid k hp new)
theorem Inv.write{x e:Addr}{o:HO}{t':Nat}(I:Inv X pins σ H s)(mu:Mut (H x))(he:e=x\/H e=some (.own x))(k:∀b u,b≠e->s.heap.get? b=some u->h'.get? b=some u)(heo:∃u,h'.get? e=some u)(new:ObjOk X.prog X.w (upd H x o) h' x o):Inv X pins σ (upd H x o) {s with heap:=h',toks:=t'}:=I.un (Un.write mu he k heo) (I.hok.write mu he k heo new)
theorem Inv.pins_of{pins':L1}(I:Inv X pins σ H s)(h:∀p∈pins',s.heap.get? p.1=some p.2/\H p.1=none/\p.1≠X.env.locals/\p.1∉X.fs/\∀v,p.2.data≠.cell v):Inv X pins' σ H s:=
 ⟨I.ok,I.os,I.bare,I.base,I.loc,I.cell,I.free,I.freeC,fun p hp=>(jh.mp hp).elim (fun z=>I.pin p (YX _ z)) (h p),I.hok,I.len⟩
theorem nodup_ix{N:List Str}(hN:N.Nodup){i j:Nat}{x:Str}(a:N[i]? =some x)(b:N[j]? =some x):i=j:=by
 obtain⟨h1,e1⟩:=nH.mp a;obtain⟨h2,e2⟩:=nH.mp b;exact(List.getElem_inj hN).mp (e1.trans e2.symm)
theorem store_ok2{M:Model}{A:Around}{E:L3}{i:Nat}{x:Str}{v:V}{u:Value}{Q:Unit->Shared->Prop}(I:Inv X pins σ H s)(hN:X.N.Nodup)(hi:X.N[i]? =some x)(hx:Loc X.env.scope x)(r:RelV v u)(h:∀s',Inv X pins (σ.set i (some v)) H s'->(∃a,Heap.SameBut a s.heap s'.heap/\(a=X.env.locals\/X.env.cells.lookup x=some a))->Q () s')(hf:X.fn x=true\/X.env.scope.names.lookup x=some .local:=by first |exact .inl rfl|exact .inr rfl|assumption):wpAny M A (storeName X.env x u) Q E s:=by
 obtain⟨m,hn,hl⟩:=id I.loc;have hcls:(X.env.scope.kind== .class||(X.env.scope.kind== .module&&X.env.locals !=X.env.globals))=false:=by rw[I.ok.kind];rfl
 have hiσ:i<σ.length:=by rw[I.len];exact(nH.mp hi).1
 have cne:=I.cne;have tracked:∀{a:Addr} {h':Heap},(∃o,s.heap.get? a=some o/\H a=none)->Heap.SameBut a s.heap h'->HOk X.prog X.w H h':=fun{a h'} ha hs b ob e=>by
  obtain⟨_,_,hfree⟩:=ha;refine(I.hok b ob e).stay (fun c w' hc q=>(hs.2 c ?_).trans q) (fun _ q=>q) fun _ _ q=>q;rintro rfl;rcases hc with rfl|hc
  ·rw[hfree]at e;cases e
  ·rw[hfree]at hc;cases hc
 rcases hx with hk|hk
 ·refine wpAny_storeName_local hk hn (fun h' hn' hs=> ?_) hcls;obtain⟨oL,_,_,hoL,_⟩:=id hn;refine h _ ⟨I.ok,I.os,I.bare,⟨fun b o e n hb hx=> ?_,fun b o e n hb hx=> ?_,I.base.free,fun b o e hx=> ?_,I.base.tups,I.base.frzs,I.base.tbls⟩,⟨_,hn',fun j y v' e1 e2 e3=> ?_⟩,fun y c e=> ?_,I.free,I.freeC,fun p hp=> ?_,tracked ⟨oL,hoL,I.free⟩ hs,by simpa using I.len⟩ ⟨_,hs,.inl rfl⟩
  ·exact(hs.2 b (dB (jw (cU e) I.ok.above))).trans (I.base.keep b o e n hb hx)
  ·obtain⟨sl,e1⟩:=I.base.slot b o e n hb hx;exact⟨sl,(hs.2 b (dB (jw (cU e) I.ok.above))).trans e1⟩
  ·obtain⟨o',e1⟩:=I.base.there b o e hx;exact⟨o',(hs.2 b (dB (jw (cU e) I.ok.above))).trans e1⟩
  ·by_cases hj:j=i
   ·subst hj;rw[hi]at e1;cases e1;rw[wff hiσ]at e2;cases e2;exact⟨u,r,.inl ⟨hk,by simp⟩⟩
   ·rw[List.getElem?_set_ne (lO hj)]at e2;obtain⟨u',r',q⟩:=hl j y v' e1 e2 e3;refine⟨u',r',?_⟩;rcases q with⟨k,e⟩|⟨k,c,e,z⟩
    ·refine .inl ⟨k,?_⟩;have:y≠x:=fun e=>hj (nodup_ix hN e1 (e▸hi));simp[this,e]
    ·exact .inr ⟨k,c,e,z.sameBut hs (cne y c e)⟩
  ·obtain⟨w',z⟩:=I.cell y c e;exact⟨w',z.sameBut hs (cne y c e)⟩
  ·obtain⟨e,n,ne,nf,d⟩:=I.pin p hp;exact⟨(hs.2 p.1 ne).trans e,n,ne,nf,d⟩
 ·have hfn:X.fn x=true:=by
   rcases hf with z|z
   ·exact z
   ·rw[z]at hk;cases hk
  obtain⟨c,hc⟩:=I.ok.has x (.inl hk);obtain⟨w',z⟩:=I.cell x c hc;refine wpAny_storeName_cell I.ok.kind hk hc z (fun h' hc' hs=> ?_);obtain⟨oc,hoc,hocd⟩:=id z;refine h {s with heap:=h'} ⟨I.ok,I.os,I.bare,⟨fun b o e n hb hx=> ?_,fun b o e n hb hx=> ?_,I.base.free,fun b o e hx=> ?_,I.base.tups,I.base.frzs,I.base.tbls⟩,⟨m,hn.sameBut hs (lO (cne x c hc)),fun j y v' e1 e2 e3=> ?_⟩,fun y c' e=> ?_,I.free,I.freeC,fun p hp=> ?_,tracked ⟨oc,hoc,I.freeC x c hc⟩ hs,by simpa using I.len⟩ ⟨c,hs,.inr hc⟩
  ·exact(hs.2 b (dB (jw (cU e) (I.ok.cab x c hfn hc)))).trans (I.base.keep b o e n hb hx)
  ·obtain⟨sl,e1⟩:=I.base.slot b o e n hb hx;exact⟨sl,(hs.2 b (dB (jw (cU e) (I.ok.cab x c hfn hc)))).trans e1⟩
  ·obtain⟨o',e1⟩:=I.base.there b o e hx;exact⟨o',(hs.2 b (dB (jw (cU e) (I.ok.cab x c hfn hc)))).trans e1⟩
  ·by_cases hj:j=i
   ·subst hj;rw[hi]at e1;cases e1;rw[wff hiσ]at e2;cases e2;exact⟨u,r,.inr ⟨.inl hk,c,hc,hc'⟩⟩
   ·rw[List.getElem?_set_ne (lO hj)]at e2;obtain⟨u',r',q⟩:=hl j y v' e1 e2 e3;refine⟨u',r',?_⟩;rcases q with q|⟨k,c',e,z'⟩
    ·exact .inl q
    ·refine .inr ⟨k,c',e,z'.sameBut hs ?_⟩;rintro rfl;exact hj (nodup_ix hN e1 (I.ok.inj _ _ _ e hc▸hi))
  ·by_cases hcc:c'=c
   ·subst hcc;exact⟨_,hc'⟩
   ·obtain⟨w2,z2⟩:=I.cell y c' e;exact⟨w2,z2.sameBut hs hcc⟩
  ·obtain⟨e,n,ne,nf,d⟩:=I.pin p hp;refine⟨(hs.2 p.1 ?_).trans e,n,ne,nf,d⟩;intro q;rw[q,hoc]at e;have q':oc=p.2:=rE e;exact d w' (by rw[<-q'];exact hocd)
theorem store_ok{M:Model}{A:Around}{E:L3}{i:Nat}{x:Str}{v:V}{u:Value}{Q:Unit->Shared->Prop}(I:Inv X pins σ H s)(hN:X.N.Nodup)(hi:X.N[i]? =some x)(hx:Loc X.env.scope x)(r:RelV v u)(h:∀s',Inv X pins (σ.set i (some v)) H s'->Q () s')(hf:X.fn x=true\/X.env.scope.names.lookup x=some .local:=by first |exact .inl rfl|exact .inr rfl|assumption):wpAny M A (storeName X.env x u) Q E s:=
 store_ok2 I hN hi hx r (fun s' I' _=>h s' I') hf
theorem Inv.call'{s':Shared}{ch:List Addr}(I:Inv X pins σ H s)(ho:s'.os=s.os)(u:Un (frs X.stack) ch H H' s.heap s'.heap)(hok:HOk X.prog X.w H' s'.heap)(hg:AllBare s'.gens)(hch:∀b∈ch,(b∈X.ex\/X.s₀.heap.objs.size<=b)/\b≠X.env.locals/\(∀x c,X.env.cells.lookup x=some c->c≠b)/\∀p∈X.pn++pins,p.1≠b):Inv X pins σ H' s':=by
 obtain⟨h',g',d',t',o'⟩:=s';have e:o'=s.os:=ho;subst e;exact I.call (g':=g') (t':=t') (d':=d') u hok hg hch
end
abbrev XK:=Value->Option Addr->Hp->Prop
abbrev St:=List (Option V)
abbrev VK:=V->Hp->Prop
abbrev TE:=St->Hp->VK->Prop
abbrev TT:=St->Hp->(Bool->Hp->Prop)->Prop
abbrev TA:=St->Hp->(List V->Hp->Prop)->Prop
structure Ends where
 nx:St->Hp->Prop
 rt:VK
 bk:St->Hp->Prop:=fun _ _=>False
 ct:St->Hp->Prop:=fun _ _=>False
abbrev TS:=Ends->St->Hp->Prop
def EP(X:Cx)(pins:L1)(σ:St)(Q:VK)(u:Value)(s':Shared):Prop:=∃v H',Inv X pins σ H' s'/\RelV v u/\Q v H'
def TP(X:Cx)(pins:L1)(σ:St)(Q:Bool->Hp->Prop)(b:Bool)(s':Shared):Prop:=∃H',Inv X pins σ H' s'/\Q b H'
def AP(X:Cx)(pins:L1)(σ:St)(Q:List V->Hp->Prop)(us:List Value)(s':Shared):Prop:=∃vs H',Inv X pins σ H' s'/\Vals vs us/\Q vs H'
def SP(X:Cx)(pins:L1)(D:Ends)(f:Flow)(s':Shared):Prop:=
 match f with
 | .next=>∃σ' H',Inv X pins σ' H' s'/\D.nx σ' H'
 | .brk=>∃σ' H',Inv X pins σ' H' s'/\D.bk σ' H'
 | .cont=>∃σ' H',Inv X pins σ' H' s'/\D.ct σ' H'
 | .ret u=>∃v σ' H',Inv X pins σ' H' s'/\RelV v u/\D.rt v H'
def PE(X:Cx)(e:Expr)(t:TE):Prop:=
 ∀(pins:L1) (s:Shared) (σ:St) (H:Hp) (Q:VK),Inv X pins σ H s->t σ H Q->wpAny (model X.prog X.w) X.A (eval e X.env) (EP X pins σ Q) X.xe s
def PT(X:Cx)(e:Expr)(t:TT):Prop:=
 ∀(pins:L1) (s:Shared) (σ:St) (H:Hp) (Q:Bool->Hp->Prop),Inv X pins σ H s->t σ H Q->wpAny (model X.prog X.w) X.A (isTrue e X.env (eval e X.env)) (TP X pins σ Q) X.xe s
def PW(X:Cx)(e:Expr)(t:TT):Prop:=
 ∀(whole:Sem Value) (pins:L1) (s:Shared) (σ:St) (H:Hp) (Q:Bool->Hp->Prop),Inv X pins σ H s->t σ H Q->wpAny (model X.prog X.w) X.A (isTrue e X.env whole) (TP X pins σ Q) X.xe s
theorem PW.pt{X:Cx}{e:Expr}{t:TT}(h:PW X e t):PT X e t:=h _
def PA(X:Cx)(es:List Expr)(t:TA):Prop:=
 ∀(pos:Pos) (pins:L1) (s:Shared) (σ:St) (H:Hp) (Q:List V->Hp->Prop),Inv X pins σ H s->t σ H Q->wpAny (model X.prog X.w) X.A (spliced (backTo pos (starEach es X.env))) (AP X pins σ Q) X.xe s
def PS(X:Cx)(st:Stmt)(t:TS):Prop:=
 ∀(pins:L1) (s:Shared) (σ:St) (H:Hp) (D:Ends),Inv X pins σ H s->t D σ H->wpAny (model X.prog X.w) X.A (exec st X.env) (SP X pins D) X.xe s
def PSs(X:Cx)(st:List Stmt)(t:TS):Prop:=
 ∀(pins:L1) (s:Shared) (σ:St) (H:Hp) (D:Ends),Inv X pins σ H s->t D σ H->wpAny (model X.prog X.w) X.A (execs st X.env) (SP X pins D) X.xe s
theorem thn{α:Type}{t:Sem α}{Q Q':α->Shared->Prop}{M:Model}{A:Around}{E:L3}{s:Shared}(h:wpAny M A t Q E s)(hQ:∀a s,Q a s->Q' a s):wpAny M A t Q' E s:=Vh h hQ fun _ _ x=>x
section
variable{X:Cx}
def tVar(i:Nat):TE:=fun σ H Q=>∃v,σ[i]? =some (some v)/\Q v H
def tC(v:V):TE:=fun _ H Q=>Q v H
theorem pe_var{i:Nat}{x:Str}{pos:Pos}(hN:X.N[i]? =some x)(hv:Vis X.env.scope x)(hd:(x==("__debug__":Str))=false:=by decide)(hcd:(x==("__classdict__":Str))=false:=by decide):PE X (.Name x pos) (tVar i):=by
 intro pins s σ H Q I h;obtain⟨v,e,h⟩:=h;obtain⟨m,hn,hl⟩:=I.loc;obtain⟨u,r,l⟩:=hl i x v hN e hv;have fin:EP X pins σ Q u s:=⟨v,H,I,r,h⟩;rcases l with⟨hk,hm⟩|⟨hk,c,hc,hcell⟩
 ·exact wpAny_Name (wpAny_loadName_local I.ok.kind hk hn hm fin) hd
 ·rcases hk with hk|hk
  ·exact wpAny_Name (wpAny_loadName_cell I.ok.kind hk hc hcell fin) hd
  ·exact wpAny_Name (wpAny_loadName_free I.ok.kind hk hc hcell fin hcd) hd
theorem aq{i j pos}:PE X (.Constant (.int i) j pos) (tC (.int i)):=fun _ _ _ H _ I h=>wpAny_Constant_int ⟨.int i,H,I.tok _,⟨_,rfl⟩,h⟩
theorem lB{b j pos}:PE X (.Constant (.bool b) j pos) (tC (.bl b)):=fun _ _ _ H _ I h=>Constant_bool ⟨.bl b,H,I,rfl,h⟩
theorem pe_non{j pos}:PE X (.Constant .none j pos) (tC .non):=fun _ _ _ H _ I h=>Constant_none ⟨.non,H,I,rfl,h⟩
def Gl(X:Cx)(x:Str):Prop:=X.env.kindOf x=some .globalImplicit
theorem ld_glob{E:L3}{pins:L1}{s:Shared}{σ:St}{H:Hp}{x:Str}{u:Value}{pos:Pos}{Q:L3}(I:Inv X pins σ H s)(hg:Gl X x)(hm:X.mg x=some u)(h:Q u s)(hd:(x==("__debug__":Str))=false:=by decide):wpAny (model X.prog X.w) X.A (eval (.Name x pos) X.env) Q E s:=
 Calls.Name_function_global I.ok.kind hg (Calls.loadGlobal_global (by rw[I.ok.glob];exact I.mod.glob.keeps I.bk) hm h) hd
theorem ld_blt{E:L3}{pins:L1}{s:Shared}{σ:St}{H:Hp}{x:Str}{u:Value}{pos:Pos}{Q:L3}(I:Inv X pins σ H s)(hg:Gl X x)(hm:X.mg x=none)(hv:bootBuiltins x=some u)(h:Q u s)(hn:x≠"__name__":=by decide)(hd:(x==("__debug__":Str))=false:=by decide):wpAny (model X.prog X.w) X.A (eval (.Name x pos) X.env) Q E s:=by
 obtain⟨mb,h1,h2⟩:=I.mod.blt;exact Calls.Name_function_global I.ok.kind hg (Calls.loadGlobal_builtin (by rw[I.ok.glob];exact I.mod.glob.keeps I.bk) hm (by rw[I.ok.blt];exact h1.keeps I.bk) ((h2 x hn).trans hv) h) hd
theorem pe_glob{x:Str}{v:V}{u:Value}{pos:Pos}(hg:Gl X x)(hm:X.mg x=some u)(r:RelV v u)(hd:(x==("__debug__":Str))=false:=by decide):PE X (.Name x pos) (tC v):=
 fun _ _ _ H _ I h=>ld_glob I hg hm ⟨v,H,I,r,h⟩ hd
theorem pe_bltn{x:Str}{v:V}{u:Value}{pos:Pos}(hg:Gl X x)(hm:X.mg x=none)(hv:bootBuiltins x=some u)(r:RelV v u)(hn:x≠"__name__":=by decide)(hd:(x==("__debug__":Str))=false:=by decide):PE X (.Name x pos) (tC v):=
 fun _ _ _ H _ I h=>ld_blt I hg hm hv ⟨v,H,I,r,h⟩ hn hd
theorem pN{x:Str}{pos:Pos}(T:String)(hm:X.mg x=none)(hv:bootBuiltins x=some (.type T):=by decide+kernel)(hg:Gl X x:=by rfl)(hn:x≠"__name__":=by decide)(hd:(x==("__debug__":Str))=false:=by decide):PE X (.Name x pos) (tC (.ty T)):=pe_bltn hg hm hv rfl hn hd
variable{a b:Expr}{ta tb:TE}{pos:Pos}
def tB(t:TE):TT:=fun σ H Q=>t σ H fun x H1=>∃c,x= .bl c/\Q c H1
theorem lW{e:Expr}{t:TE}(h:PE X e t)(he:∀whole,isTrue e X.env whole=(do let v<-whole;standAt e.pos;holding [v] (truthy v)):=by intro _;rfl):PT X e (tB t):=by
 intro pins s σ H Q I hw;refine isTrue_plain (thn (h pins s σ H _ I hw) fun v s1 ⟨x,H1,I1,r1,q1⟩=> ?_) (he _);obtain⟨d,rfl,q⟩:=q1;cases r1;exact Np ⟨H1,I1,q⟩
variable{tA tB':TT}{rest:List Expr}
def tAnd(t u:TT):TT:=fun σ H Q=>t σ H fun c H1=>if c=true then u σ H1 Q else Q false H1
def tOr(t u:TT):TT:=fun σ H Q=>t σ H fun c H1=>if c=true then Q true H1 else u σ H1 Q
def tNot(t:TT):TT:=fun σ H Q=>t σ H fun c H1=>Q (!c) H1
theorem pw_and1(ha:PT X a tA):PW X (.BoolOp .And [a] pos) tA:=by
 intro wh pins s σ H Q I h;refine isTrue_and (thn (ha pins s σ H Q I h) fun c s1 e=> ?_);cases c with
 |true=>exact isTrue_and_nil e
 |false=>exact e
theorem pw_or1(ha:PT X a tA):PW X (.BoolOp .Or [a] pos) tA:=by
 intro wh pins s σ H Q I h;refine isTrue_or (thn (ha pins s σ H Q I h) fun c s1 e=> ?_);cases c with
 |false=>exact isTrue_or_nil e
 |true=>exact e
theorem pw_and(ha:PT X a tA)(hb:PW X (.BoolOp .And (b::rest) pos) tB'):PW X (.BoolOp .And (a::b::rest) pos) (tAnd tA tB'):=by
 intro wh pins s σ H Q I h;refine isTrue_and (thn (ha pins s σ H _ I h) fun c s1 ⟨H1,I1,q1⟩=> ?_);cases c with
 |true=>exact hb wh pins s1 σ H1 Q I1 q1
 |false=>exact⟨H1,I1,q1⟩
theorem pw_or(ha:PT X a tA)(hb:PW X (.BoolOp .Or (b::rest) pos) tB'):PW X (.BoolOp .Or (a::b::rest) pos) (tOr tA tB'):=by
 intro wh pins s σ H Q I h;refine isTrue_or (thn (ha pins s σ H _ I h) fun c s1 ⟨H1,I1,q1⟩=> ?_);cases c with
 |true=>exact⟨H1,I1,q1⟩
 |false=>exact hb wh pins s1 σ H1 Q I1 q1
theorem nA(ha:PT X a tA):PT X (.UnaryOp .Not a pos) (tNot tA):=by
 intro pins s σ H Q I h;exact isTrue_not (ha pins s σ H (fun c H1=>Q (!c) H1) I h)
def tAndV(ta tb:TE):TE:=fun σ H Q=>ta σ H fun x H1=>∃c,x= .bl c/\if c=true then tb σ H1 Q else Q (.bl false) H1
def tOrV(ta tb:TE):TE:=fun σ H Q=>ta σ H fun x H1=>∃c,x= .bl c/\if c=true then Q (.bl true) H1 else tb σ H1 Q
def tNotV(ta:TE):TE:=fun σ H Q=>ta σ H fun x H1=>∃c,x= .bl c/\Q (.bl (!c)) H1
theorem yd{op}{t:TE}(h:PE X a t):PE X (.BoolOp op [a] pos) t:=fun pins s σ H Q I hw=>BoolOp_one (h pins s σ H Q I hw)
theorem xO(ha:PE X a ta)(hb:PE X (.BoolOp .And (b::rest) pos) tb):PE X (.BoolOp .And (a::b::rest) pos) (tAndV ta tb):=by
 intro pins s σ H Q I h;refine BoolOp_and (thn (ha pins s σ H _ I h) fun v s1 ⟨x,H1,I1,r1,q1⟩=> ?_);obtain⟨c,rfl,q1⟩:=q1;cases r1;refine Np ?_;cases c with
 |true=>exact hb pins s1 σ H1 Q I1 q1
 |false=>exact⟨.bl false,H1,I1,rfl,q1⟩
theorem pe_or(ha:PE X a ta)(hb:PE X (.BoolOp .Or (b::rest) pos) tb):PE X (.BoolOp .Or (a::b::rest) pos) (tOrV ta tb):=by
 intro pins s σ H Q I h;refine BoolOp_or (thn (ha pins s σ H _ I h) fun v s1 ⟨x,H1,I1,r1,q1⟩=> ?_);obtain⟨c,rfl,q1⟩:=q1;cases r1;refine Np ?_;cases c with
 |false=>exact hb pins s1 σ H1 Q I1 q1
 |true=>exact⟨.bl true,H1,I1,rfl,q1⟩
theorem pe_not(ha:PE X a ta):PE X (.UnaryOp .Not a pos) (tNotV ta):=by
 intro pins s σ H Q I h;refine UnaryOp_ (thn (ha pins s σ H _ I h) fun v s1 ⟨x,H1,I1,r1,q1⟩=> ?_);obtain⟨c,rfl,q1⟩:=q1;cases r1;exact not_of (Np ⟨.bl (!c),H1,I1,rfl,q1⟩)
def tIf(t:TT)(ta tb:TE):TE:=fun σ H Q=>t σ H fun c H1=>if c=true then ta σ H1 Q else tb σ H1 Q
theorem pe_ifExp{c:Expr}(hc:PT X c tA)(ha:PE X a ta)(hb:PE X b tb):PE X (.IfExp c a b pos) (tIf tA ta tb):=by
 intro pins s σ H Q I h;refine wpAny_IfExp (thn (hc pins s σ H _ I h) fun d s1 ⟨H1,I1,q1⟩=> ?_);cases d with
 |true=>exact ha pins s1 σ H1 Q I1 q1
 |false=>exact hb pins s1 σ H1 Q I1 q1
end
def SqL(K:W.Frag)(H:Hp)(a:Addr)(xs:List V):Prop:=
 Rd H a (.lst xs)\/
  ∃(o:Obj) (its:Array Value) (n:Nat),K.lookup a=some o/\o.cls= .type "list"/\o.dict=none/\o.data= .seq its n/\its.size<=sizeLine/\Vals xs its.toList
def SqT(K:W.Frag)(H:Hp)(a:Addr)(xs:List V):Prop:=
 Rd H a (.tup xs)\/
  ∃(o:Obj) (its:Array Value) (n:Nat),K.lookup a=some o/\o.cls= .type "tuple"/\o.data= .seq its n/\its.size<=sizeLine/\Vals xs its.toList
def absV:Value->Option V
 | .none=>some .non
 | .bool b=>some (.bl b)
 | .int i _=>some (.int i)
 | .str x _=>some (.str x)
 | .bytes b _=>some (.byt b)
 | .float b _=>some (.flt b)
 | .ref a=>some (.ref a)
 | .type n=>some (.ty n)
 |_=>none
theorem RelV.abs{x:V}{u:Value}(r:RelV x u):absV u=some x:=by
 cases x with
 |non=>cases r;rfl
 |bl _=>cases r;rfl
 |int _=>obtain⟨t,rfl⟩:=r;rfl
 |str _=>obtain⟨t,rfl⟩:=r;rfl
 |byt _=>obtain⟨t,rfl⟩:=r;rfl
 |flt _=>obtain⟨t,rfl⟩:=r;rfl
 |ref _=>cases r;rfl
 |ty _=>cases r;rfl
theorem RelV.inj{x y:V}{u:Value}(r:RelV x u)(q:RelV y u):x=y:=rE (r.abs.symm.trans q.abs)
theorem Vals.inj{xs ys:List V}{us:List Value}(h:Vals xs us)(h':Vals ys us):xs=ys:=by
 induction h generalizing ys with
 |nil=>cases h';rfl
 |cons r _ ih=>cases h' with |cons r' t'=>rw[r.inj r',ih t']
section
variable{X:Cx}{pins:L1}{σ:St}{H:Hp}{s:Shared}{a:Addr}{xs ys:List V}
theorem SqL.of{K:W.Frag}(h:H a=some (.lst xs)):SqL K H a xs:= .inl (.inl h)
theorem SqT.of{K:W.Frag}(h:H a=some (.tup xs)):SqT K H a xs:= .inl (.inl h)
theorem Inv.list(I:Inv X pins σ H s)(h:SqL X.K H a xs):∃its:List Value,Vals xs its/\PlainL s.heap a its.toArray/\xs.length<=sizeLine:=by
 rcases h with h|⟨o,its,n,hk,hc,hd,hs,hz,r⟩
 ·obtain⟨z,its,n,r,e⟩:=h.ok I.hok;exact⟨its,r,⟨_,n,e,rfl,rfl,rfl⟩,z⟩
 ·refine⟨its.toList,r,⟨o,n,I.kIn a o hk,hc,hd,by simpa using hs⟩,?_⟩;have e:=r.length;simp only[uW]at e;omega
theorem Inv.tuple(I:Inv X pins σ H s)(h:SqT X.K H a xs):∃its:List Value,Vals xs its/\IsTup s.heap a its.toArray/\xs.length<=sizeLine:=by
 rcases h with h|⟨o,its,n,hk,hc,hs,hz,r⟩
 ·obtain⟨z,its,r,p⟩:=h.ok I.hok;exact⟨its,r,p,z⟩
 ·refine⟨its.toList,r,⟨o,I.kIn a o hk,hc,n,by simpa using hs⟩,?_⟩;have e:=r.length;simp only[uW]at e;omega
theorem Inv.list_inj(I:Inv X pins σ H s)(h:SqL X.K H a xs)(h':SqL X.K H a ys):xs=ys:=by
 obtain⟨its,r,⟨o,n,e,_,_,d⟩,_⟩:=I.list h;obtain⟨its',r',⟨o',n',e',_,_,d'⟩,_⟩:=I.list h';rw[e]at e';cases e';rw[d]at d';injection d' with d1 _
 have:its=its':=by simpa using lE Array.toList d1
 subst this;exact r.inj r'
theorem Inv.tuple_inj(I:Inv X pins σ H s)(h:SqT X.K H a xs)(h':SqT X.K H a ys):xs=ys:=by
 obtain⟨its,r,⟨o,e,_,n,d⟩,_⟩:=I.tuple h;obtain⟨its',r',⟨o',e',_,n',d'⟩,_⟩:=I.tuple h';rw[e]at e';cases e';rw[d]at d';injection d' with d1 _
 have:its=its':=by simpa using lE Array.toList d1
 subst this;exact r.inj r'
end
abbrev Cx.wish(X:Cx)(E:L3):Cx:={X with xe:=E}
abbrev Cx.nox(X:Cx):Cx:=X.wish fun _ _=>False
theorem Cx.Ok.wish{X:Cx}(ok:X.Ok)(E:L3):(X.wish E).Ok:=
 ⟨ok.mod,ok.kind,ok.glob,ok.blt,ok.above,ok.inj,ok.has,ok.cab,ok.hd,ok.frames,ok.stk,ok.exf,ok.bs,ok.bsz,ok.noex,ok.exfs,ok.funs,ok.frf⟩
theorem Cx.Ok.unwish{X:Cx}{E:L3}(ok:(X.wish E).Ok):X.Ok:=
 ⟨ok.mod,ok.kind,ok.glob,ok.blt,ok.above,ok.inj,ok.has,ok.cab,ok.hd,ok.frames,ok.stk,ok.exf,ok.bs,ok.bsz,ok.noex,ok.exfs,ok.funs,ok.frf⟩
section
variable{X:Cx}{pins:L1}{σ:St}{H:Hp}{s:Shared}{E:L3}
theorem Inv.wish(I:Inv X pins σ H s)(E:L3):Inv (X.wish E) pins σ H s:=⟨I.ok.wish E,I.os,I.bare,I.base,I.loc,I.cell,I.free,I.freeC,I.pin,I.hok,I.len⟩
theorem Inv.unwish(I:Inv (X.wish E) pins σ H s):Inv X pins σ H s:=⟨I.ok.unwish,I.os,I.bare,I.base,I.loc,I.cell,I.free,I.freeC,I.pin,I.hok,I.len⟩
theorem SP.unwish{D:Ends}{f:Flow}{s':Shared}(h:SP (X.wish E) pins D f s'):SP X pins D f s':=by
 cases f with
 |next=>obtain⟨σ',H',I,q⟩:=h;exact⟨σ',H',I.unwish,q⟩
 |brk=>obtain⟨σ',H',I,q⟩:=h;exact⟨σ',H',I.unwish,q⟩
 |cont=>obtain⟨σ',H',I,q⟩:=h;exact⟨σ',H',I.unwish,q⟩
 |ret u=>obtain⟨v,σ',H',I,r,q⟩:=h;exact⟨v,σ',H',I.unwish,r,q⟩
theorem PSs.nox{st:List Stmt}{t:TS}(h:PSs X.nox st t):PSs X st t:=fun pins s σ H D I hw=>
 Vh (h pins s σ H D (I.wish _) hw) (fun _ _ q=>q.unwish) fun _ _ z=>False.elim z
end
section
variable{X:Cx}{st:Stmt}{rest:List Stmt}{t u:TS}{e:Expr}{te:TE}{pos:Pos}
def tNext:TS:=fun D σ H=>D.nx σ H
def tSeq(t u:TS):TS:=fun D σ H=>t {D with nx:=u D} σ H
theorem lD:PSs X [] tNext:=fun _ _ σ H _ I h=>Zu ⟨σ,H,I,h⟩
theorem aP(h1:PS X st t)(h2:PSs X rest u):PSs X (st::rest) (tSeq t u):=by
 intro pins s σ H D I h;refine wpAny_execs_cons (thn (h1 pins s σ H {D with nx:=u D} I h) fun f s1 q=> ?_);cases f with
 |next=>
  obtain⟨σ',H',I',q⟩:=q;exact h2 pins s1 σ' H' D I' q
 |ret v=>exact q
 |brk=>exact q
 |cont=>exact q
theorem aZ(h1:PS X st t):PSs X [st] t:=by
 intro pins s σ H D I h;refine wpAny_execs_cons (thn (h1 pins s σ H D I h) fun f s1 q=> ?_);cases f with
 |next=>exact Zu q
 |ret v=>exact q
 |brk=>exact q
 |cont=>exact q
theorem Inv.quiet{pins:L1}{σ:St}{H:Hp}{s:Shared}(I:Inv X pins σ H s):interactive X.env=false:=by simp[interactive,I.ok.kind]
def tDrop(te:TE):TS:=fun D σ H=>te σ H fun _ H1=>D.nx σ H1
theorem yj(he:PE X e te)(hs:swapsWith e none pos.line X.env=pure false:=by rfl):PS X (.Expr e pos) (tDrop te):=by
 intro pins s σ H D I h;exact wpAny_Expr_any (thn (he pins s σ H _ I h) fun v s1 ⟨x,H1,I1,r1,q1⟩=>⟨σ,H1,I1,q1⟩) I.quiet hs
def tRet(te:TE):TS:=fun D σ H=>te σ H D.rt
theorem bQ(he:PE X e te):PS X (.Return (some e) pos) (tRet te):=by
 intro pins s σ H D I h;exact wpAny_Return_some (thn (he pins s σ H _ I h) fun v s1 ⟨x,H1,I1,r1,q1⟩=>⟨x,σ,H1,I1,r1,q1⟩)
def tIfS(c:TT)(t u:TS):TS:=fun D σ H=>c σ H fun b H1=>if b=true then t D σ H1 else u D σ H1
theorem lC{c:Expr}{a b:List Stmt}{tc:TT}(hc:PT X c tc)(ha:PSs X a t)(hb:PSs X b u):PS X (.If c a b pos) (tIfS tc t u):=by
 intro pins s σ H D I h;refine wpAny_If (thn (hc pins s σ H _ I h) fun d s1 ⟨H1,I1,q1⟩=> ?_);cases d with
 |true=>exact ha pins s1 σ H1 D I1 q1
 |false=>exact hb pins s1 σ H1 D I1 q1
def tNever:TS:=fun _ _ _=>False
theorem pss_never{sts:List Stmt}:PSs X sts tNever:=fun _ _ _ _ _ _ h=>h.elim
end
abbrev TG:=V->St->Hp->(St->Hp->Prop)->Prop
abbrev TGs:=List V->St->Hp->(St->Hp->Prop)->Prop
def PG(X:Cx)(target:Expr)(t:TG):Prop:=
 ∀(pins:L1) (s:Shared) (σ:St) (H:Hp) (v:V) (u:Value) (Q:St->Hp->Prop),Inv X pins σ H s->RelV v u->t v σ H Q->
  wpAny (model X.prog X.w) X.A (assign target X.env u) (fun _ s'=>∃σ' H',Inv X pins σ' H' s'/\Q σ' H') X.xe s
def PGs(X:Cx)(ts:List Expr)(t:TGs):Prop:=
 ∀(pins:L1) (s:Shared) (σ:St) (H:Hp) (vs:List V) (us:List Value) (Q:St->Hp->Prop),Inv X pins σ H s->Vals vs us->t vs σ H Q->
  wpAny (model X.prog X.w) X.A (assignInOrder ((assignEach ts X.env).map (·.2)) us) (fun _ s'=>∃σ' H',Inv X pins σ' H' s'/\Q σ' H') X.xe s
abbrev TSet:=V->V->V->Hp->(Hp->Prop)->Prop
def PSet(X:Cx)(t:TSet):Prop:=
 ∀(pins:L1) (s:Shared) (σ:St) (H:Hp) (o i v:V) (ov iv u:Value) (Q:Hp->Prop),Inv X pins σ H s->RelV o ov->RelV i iv->RelV v u->t o i v H Q->
  wpAny (model X.prog X.w) X.A (setItem ov iv u) (fun _ s'=>∃H',Inv X pins σ H' s'/\Q H') X.xe s
section
variable{X:Cx}{pos:Pos}
def gName(i:Nat):TG:=fun v σ H Q=>Q (σ.set i (some v)) H
theorem pg_name{i:Nat}{x:Str}(hN:X.N.Nodup)(hi:X.N[i]? =some x)(hx:Loc X.env.scope x)(hf:X.fn x=true\/X.env.scope.names.lookup x=some .local:=by first |exact .inl rfl|exact .inr rfl|assumption):PG X (.Name x pos) (gName i):=by
 intro pins s σ H v u Q I r h;exact wpAny_assign_Name (store_ok I hN hi hx r (fun s' I'=>⟨_,H,I',h⟩) hf)
theorem pG{X:Cx}{x:Str}{pos:Pos}(i:Nat)(hN:decide X.N.Nodup=true:=by kernel_rfl)(hi:X.N[i]? =some x:=by rfl)(hx:Loc X.env.scope x:=by first |exact Or.inl rfl|exact Or.inr rfl)(hf:X.fn x=true\/X.env.scope.names.lookup x=some .local:=by first |exact .inl rfl|exact .inr rfl|assumption):PG X (.Name x pos) (gName i):=pg_name (nM hN) hi hx hf
def gNil:TGs:=fun vs σ H Q=>vs=[]/\Q σ H
def gCons(t:TG)(u:TGs):TGs:=fun vs σ H Q=>∃v r,vs=v::r/\t v σ H fun σ' H'=>u r σ' H' Q
theorem xQ:PGs X [] gNil:=by
 intro pins s σ H vs us Q I r h;obtain⟨e,h⟩:=h;subst e;cases r;exact assignInOrder_nil ⟨σ,H,I,h⟩
theorem jq{e:Expr}{es:List Expr}{t:TG}{u:TGs}(h1:PG X e t)(h2:PGs X es u)(hs:(assignEach (e::es) X.env).map (·.2)=assign e X.env::(assignEach es X.env).map (·.2):=by rfl):PGs X (e::es) (gCons t u):=by
 intro pins s σ H vs us Q I r h;obtain⟨v,vr,e1,h⟩:=h;subst e1;cases r with
 |cons r rr=>
  rw[hs];refine wdu (thn (h1 pins s σ H _ _ _ I r h) fun _ s1 ⟨σ1,H1,I1,q1⟩=> ?_);exact h2 pins s1 σ1 H1 _ _ Q I1 rr q1
def gTup(K:W.Frag)(n:Nat)(t:TGs):TG:=fun v σ H Q=>∃a xs,v= .ref a/\SqT K H a xs/\xs.length=n/\t xs σ H Q
theorem pg_tup{es:List Expr}{k:Nat}{t:TGs}{n:Nat}(hc:X.calm=true)(h:PGs X es t)(hn:(assignEach es X.env).length=n:=by rfl)(hst:(assignEach es X.env).findIdx? (·.1)=none:=by rfl):PG X (.Tuple es k pos) (gTup X.K n t):=by
 intro pins s σ H v u Q I r hw;obtain⟨a,xs,e1,hq,hl,hw⟩:=hw;subst e1;cases r;obtain⟨its,rv,ht,hz⟩:=I.tuple hq;refine assign_Tuple_tuple (I.ok.hd hc) ht (by simp[hn,<-hl,rv.length]) hst fun h' hx=> ?_;have I1:Inv X pins σ H {s with heap:=h'}:=I.kept (t':=s.toks) fun b o e=>hx b o (dB (cU e)) e;exact h pins _ σ H xs _ Q I1 (by simpa using rv) hw
def gSub(to ti:TE)(t:TSet):TG:=fun v σ H Q=>to σ H fun o H1=>ti σ H1 fun i H2=>t o i v H2 fun H3=>Q σ H3
theorem pg_sub{o i:Expr}{to ti:TE}{t:TSet}(ho:PE X o to)(hi:PE X i ti)(hs:PSet X t)(ha:∀v,assign (.Subscript o i pos) X.env v=(do
   let ov<-holding [v] (eval o X.env);let iv<-holding [v,ov] (eval i X.env)
   standAt pos
   holding [v,ov,iv] (setItem ov iv v)
   release [v,ov,iv] []):=by intro _;rfl):PG X (.Subscript o i pos) (gSub to ti t):=by
 intro pins s σ H v u Q I r h;rw[ha];refine ao (Dz (thn (ho pins s σ H _ I h) fun ov s1 ⟨x,H1,I1,r1,q1⟩=> ?_));refine ao (Dz (thn (hi pins s1 σ H1 _ I1 q1) fun iv s2 ⟨y,H2,I2,r2,q2⟩=> ?_));refine ao (Zm (ao (Dz (thn (hs pins s2 σ H2 x y v ov iv u _ I2 r1 r2 r q2) fun _ s3 ⟨H3,I3,q3⟩=> ?_))));exact wpAny_release ⟨σ,H3,I3,q3⟩
def tAsg(te:TE)(g:TG):TS:=fun D σ H=>te σ H fun x H1=>g x σ H1 D.nx
theorem ps_asg{tg e:Expr}{te:TE}{g:TG}(he:PE X e te)(hg:PG X tg g)(hs:swapsWithSole [tg] e pos.line X.env=pure false:=by rfl)(hw:swappedStores [tg] e X.env=pure none:=by rfl)(h1:(assignEach [tg] X.env).map (·.2)=[assign tg X.env]:=by rfl):PS X (.Assign [tg] e pos) (tAsg te g):=by
 intro pins s σ H D I h;refine wpAny_Assign_stores (thn (he pins s σ H _ I h) fun v s1 ⟨x,H1,I1,r1,q1⟩=> ?_) hs hw;rw[h1];exact thn (hg pins s1 σ H1 x v _ I1 r1 q1) fun _ s2 q=>q
theorem ps_set{i:Nat}{x:Str}{e:Expr}{te:TE}{pos':Pos}(hN:X.N.Nodup)(hi:X.N[i]? =some x)(hx:Loc X.env.scope x)(he:PE X e te)(hs:swapsWith e (some (.Name x pos')) pos.line X.env=pure false:=by rfl)(hf:X.fn x=true\/X.env.scope.names.lookup x=some .local:=by first |exact .inl rfl|exact .inr rfl|assumption):
  PS X (.Assign [.Name x pos'] e pos) (tAsg te (gName i)):=by
 intro pins s σ H D I h;refine wpAny_Assign_Name (thn (he pins s σ H _ I h) fun v s1 ⟨y,H1,I1,r1,q1⟩=> ?_) hs;exact store_ok I1 hN hi hx r1 (fun s2 I2=>⟨_,H1,I2,q1⟩) hf
theorem pS{X:Cx}{x:Str}{e:Expr}{te:TE}{pos pos':Pos}(i:Nat)(he:PE X e te)(hN:decide X.N.Nodup=true:=by kernel_rfl)(hi:X.N[i]? =some x:=by rfl)(hx:Loc X.env.scope x:=by first |exact Or.inl rfl|exact Or.inr rfl)(hs:swapsWith e (some (.Name x pos')) pos.line X.env=pure false:=by rfl)(hf:X.fn x=true\/X.env.scope.names.lookup x=some .local:=by first |exact .inl rfl|exact .inr rfl|assumption):PS X (.Assign [.Name x pos'] e pos) (tAsg te (gName i)):=ps_set (nM hN) hi hx he hs hf
def tPar(i j:Nat)(ta:TA):TS:=fun D σ H=>ta σ H fun vs H1=>∃v w,vs=[v,w]/\D.nx ((σ.set i (some v)).set j (some w)) H1
theorem ps_par{i j:Nat}{x y:Str}{a b:Expr}{ta:TA}{px py pt:Pos}{kt k2 pt2}(hc:X.calm=true)(hN:X.N.Nodup)(hi:X.N[i]? =some x)(hj:X.N[j]? =some y)(hij:i≠j)(hx:X.env.scope.names.lookup x=some .local)(hy:X.env.scope.names.lookup y=some .local)(ha:PA X [a,b] ta)(hw:swappedStores [.Tuple [.Name x px,.Name y py] kt pt] (.Tuple [a,b] k2 pt2) X.env=pure (some [x,y]))(hs:swapsWithSole [.Tuple [.Name x px,.Name y py] kt pt] (.Tuple [a,b] k2 pt2) pos.line X.env=pure false:=by rfl):
  PS X (.Assign [.Tuple [.Name x px,.Name y py] kt pt] (.Tuple [a,b] k2 pt2) pos) (tPar i j ta):=by
 intro pins s σ H D I h;rw[exec_Assign_arm];refine ao (Zm ?_);rw[hs];refine ao (aM ?_);rw[aA (by decide)];refine ao (Tuple_ (thn (ha _ pins s σ H _ I h) fun us s1 ⟨vs,H1,I1,r1,q1⟩=> ?_));obtain⟨v,w,e1,q1⟩:=q1;subst e1;obtain⟨u1,u2,rfl,rv,rw'⟩:∃u1 u2,us=[u1,u2]/\RelV v u1/\RelV w u2:=by
  cases r1 with
  |cons p q=>
   cases q with
   |cons p' q'=>
    cases q';exact⟨_,_,rfl,p,p'⟩
 refine vO ?_ (by show 2<=sizeLine;decide);have I2:Inv X pins σ H1 {s1 with heap:=s1.heap.push {cls:= .type "tuple",data:= .seq [u1,u2].toArray}}:=I1.kept (t':=s1.toks) fun b o e=>cL _ e;rw[hw];refine ao (aM ?_);show wpAny (model X.prog X.w) X.A (do rule "assign.swapped-stores";let items<-unpackItems (.ref s1.heap.objs.size) 2 none;assignInOrder [fun v=>bindName X.env y v,fun v=>bindName X.env x v] items.reverse;pure Flow.next) _ _ _;refine ao (Iv (ao (unpackItems_tuple (items:=#[u1,u2]) (I.ok.hd hc) (IsTup.new s1.heap _) fun h' hx'=> ?_)));have I3:=I2.kept (h':=h') (t':=s1.toks) fun b o e=>hx' b o (dB (cU e)) e;show wpAny _ _ (assignInOrder [fun v=>bindName X.env y v,fun v=>bindName X.env x v] [u2,u1]>>=fun _=>pure Flow.next) _ _ _;refine ao (wdu (wpAny_bindName (store_ok I3 hN hj (.inl hy) rw' (fun s2 I4=> ?_) (.inr hy))));refine wdu (wpAny_bindName (store_ok I4 hN hi (.inl hx) rv (fun s3 I5=>assignInOrder_nil (aM ?_)) (.inr hx)));rw[List.set_comm _ _ (lO hij)]at I5;exact⟨_,H1,I5,q1⟩
def tWhile(c:TT)(tb:TS):TS:=fun D σ H=>∃W:Nat->St->Hp->Prop,(∃m,W m σ H)/\∀m σ H,W m σ H->
 c σ H fun b H1=>if b=true then∃N:St->Hp->Prop,(∀σ' H',N σ' H'->∃m',m'<m/\W m' σ' H')/\tb {D with nx:=N,ct:=N,bk:=D.nx} σ H1 else D.nx σ H1
theorem ps_while{c:Expr}{body:List Stmt}{tc:TT}{tb:TS}(hp:PassesOwn (model X.prog X.w) X.A X.env X.xe)(hc:PT X c tc)(hb:PSs X body tb):PS X (.While c body [] pos) (tWhile tc tb):=by
 intro pins s σ H D I h;obtain⟨W,⟨m0,w0⟩,turn⟩:=h;refine wpAny_While (codeAny_whileLoop (fun n s'=>∃σ' H',Inv X pins σ' H' s'/\W n σ' H') ?_ m0 ⟨σ,H,I,w0⟩);rintro n s1 ⟨σ1,H1,I1,w1⟩;refine RM hp (thn (hc pins s1 σ1 H1 _ I1 (turn n σ1 H1 w1)) fun b s2 ⟨H2,I2,q2⟩=> ?_);cases b with
 |true=>
  obtain⟨N,hN,q2⟩:=q2;rw[aB rfl];refine RM hp (thn (hb pins s2 σ1 H2 _ I2 q2) fun f s3 q3=> ?_);cases f with
  |next=>
   obtain⟨σ3,H3,I3,n3⟩:=q3;obtain⟨m',hm,w3⟩:=hN σ3 H3 n3;exact⟨m',hm,σ3,H3,I3,w3⟩
  |cont=>
   obtain⟨σ3,H3,I3,n3⟩:=q3;obtain⟨m',hm,w3⟩:=hN σ3 H3 n3;exact⟨m',hm,σ3,H3,I3,w3⟩
  |brk=>exact q3
  |ret v=>exact q3
 |false=>
  rw[aA uY];exact Zu ⟨σ1,H2,I2,q2⟩
end
structure It where
 go:Nat->Hp->Prop
 yld:Nat->Hp->V->Hp->Prop
 stop:Nat->Hp->Prop
def FpOk(X:Cx)(pins:L1)(H:Hp)(b:Addr):Prop:=
 H b=none/\b≠X.env.locals/\b∉X.fs/\(b∈X.ex\/X.s₀.heap.objs.size<=b)/\(∀x c,X.env.cells.lookup x=some c->c≠b)/\∀p∈X.pn++pins,p.1≠b
theorem Inv.fpOk{X:Cx}{pins:L1}{σ:St}{H H':Hp}{s:Shared}{b:Addr}(I:Inv X pins σ H s)(hb:s.heap.objs.size<=b)(hn:H' b=none):FpOk X pins H' b:=by
 refine⟨hn,Ik (jw I.lt hb),I.nofs hb,.inr (cC I.sz hb),fun x c e z=> ?_,fun p hp z=> ?_⟩
 ·obtain⟨v,q⟩:=I.cell x c e;exact absurd (jw q.lt (by rw[z];exact hb)) (uy _)
 ·exact absurd (jw (cU (I.pin p hp).1) (by rw[z];exact hb)) (uy _)
structure Turn(P:Program)(w:World)(K:W.Frag)(tg:Expr)(J:It)(fp:List Addr)(it:Addr)(tn:Nat->Heap->Prop):Prop where
 mem:it∈fp
 obj:∀i h,tn i h->∀b∈fp,∃o,h.get? b=some o/\∀v,o.data≠.cell v
 keep:∀i h h',tn i h->(∀b∈fp,∀o,h.get? b=some o->h'.get? b=some o)->tn i h'
 item:∀(X:Cx),X.prog=P->X.w=w->X.K=K->X.calm=true->∀(i:Nat) (pins:L1) (s:Shared) (σ:St) (H:Hp) (E:L3),Inv X pins σ H s->(∀b∈fp,FpOk X pins H b)->tn i s.heap->J.go i H->
  wpAny (model P w) X.A (pyNext (.ref it)) (fun r s1=>∃u,r=some u/\
   wpAny (model P w) X.A (letOwnedTupleGo tg (.ref it) u) (fun _ s2=>∃x H',Inv X pins σ H' s2/\RelV x u/\J.yld i H x H'/\tn (i+1) s2.heap/\∀b∈fp,H' b=none) E s1) E s
 done:∀(X:Cx),X.prog=P->X.w=w->X.K=K->X.calm=true->∀(i:Nat) (pins:L1) (s:Shared) (σ:St) (H:Hp) (E:L3),Inv X pins σ H s->(∀b∈fp,FpOk X pins H b)->tn i s.heap->J.stop i H->
  wpAny (model P w) X.A (pyNext (.ref it)) (fun r s1=>r=none/\Inv X pins σ H s1) E s
 self:∀(A:Around) (i:Nat) (s:Shared) (Q:L3) (E:L3),tn i s.heap->Q (.ref it) s->wpAny (model P w) A (pyIter (.ref it)) Q E s
abbrev TI:=St->Hp->(It->Hp->Prop)->Prop
def PIE(X:Cx)(pins:L1)(σ:St)(tg:Expr)(R:It->Hp->Prop)(itv:Value)(s2:Shared):Prop:=
 ∃(it:Addr) (fp:List Addr) (tn:Nat->Heap->Prop) (J:It) (H':Hp),itv= .ref it/\Inv X pins σ H' s2/\Turn X.prog X.w X.K tg J fp it tn/\tn 0 s2.heap/\(∀b∈fp,FpOk X pins H' b)/\R J H'
def PI(X:Cx)(tg iter:Expr)(wi:TI):Prop:=
 ∀(pins:L1) (s:Shared) (σ:St) (H:Hp) (R:It->Hp->Prop),Inv X pins σ H s->wi σ H R->
  wpAny (model X.prog X.w) X.A (eval iter X.env) (fun v s1=>wpAny (model X.prog X.w) X.A (pyIter v) (PIE X pins σ tg R) X.xe s1) X.xe s
theorem go_of{M:Model}{A:Around}{E:L3}{s:Shared}{tg:Expr}{it:Addr}{u:Value}{o:Obj}{n:String}{vs:Array Value}{Q:Unit->Shared->Prop}(ho:s.heap.get? it=some o)(hc:o.cls= .type n)(hd:o.data= .fields vs)(hn:["enumerate","zip","dict_itemiterator","dict_reverseitemiterator","odict_iterator","itertools.zip_longest","itertools.pairwise"].contains n=false)(hQ:Q () s):wpAny M A (letOwnedTupleGo tg (.ref it) u) Q E s:=by
 unfold letOwnedTupleGo;cases tg<;>first
  |exact aM hQ
  |(cases u<;>first
    |exact aM hQ
    |(refine ao (wpAny_load ho ?_)
      rw[hc,hd];show wpAny M A (if(["enumerate","zip","dict_itemiterator","dict_reverseitemiterator","odict_iterator","itertools.zip_longest","itertools.pairwise"].contains n&&vs[0]? ==some (rawInt _))=true then _ else _) Q E s;rw[aA (by intro h;rw[hn,Bool.false_and]at h;cases h)];exact aM hQ))
def Itl(K:W.Frag)(a:Addr):It:=
 ⟨fun i H=>∃xs x,SqL K H a xs/\xs[i]? =some x,fun i H x H'=>H'=H/\∀xs,SqL K H a xs->xs[i]? =some x,fun i H=>∃xs,SqL K H a xs/\xs.length<=i⟩
def Itt(K:W.Frag)(a:Addr):It:=
 ⟨fun i H=>∃xs x,SqT K H a xs/\xs[i]? =some x,fun i H x H'=>H'=H/\∀xs,SqT K H a xs->xs[i]? =some x,fun i H=>∃xs,SqT K H a xs/\xs.length<=i⟩
def Itr(lo:Int)(n:Nat):It:=⟨fun i _=>i<n,fun i H x H'=>H'=H/\x= .int (lo+i),fun i _=>n<=i⟩
theorem turn_list{P:Program}{w:World}{K:W.Frag}{tg:Expr}(a it:Addr):Turn P w K tg (Itl K a) [it] it (fun i h=>h.IsListIter it a i) where
 mem:=by simp
 obj:=fun i h st b hb=>by
  have e:b=it:=by simpa using hb
  subst e;obtain⟨o,e,c,d⟩:=st;exact⟨o,e,fun v z=>by rw[d]at z;cases z⟩
 keep:=fun i h h' st k=>st.at fun o e=>k it (by simp) o e
 item:=by
  intro X hP hw hK hc i pins s σ H E I hf st hg;subst hP hw hK;obtain⟨xs,x,hq,hx⟩:=hg;obtain⟨its,rv,p,hz⟩:=I.list hq;obtain⟨u,hu,ru⟩:=rv.get hx;obtain⟨f0,f1,f2,f3,f4,f5⟩:=hf it (by simp);refine wpAny_pyNext_list_item st p.isList (x:=u) (by simpa using hu) fun h' st' sb=> ?_;have I1:Inv X pins σ H {s with heap:=h'}:=I.turned (t':=s.toks) (fun b o hb e=>(sb.2 b hb).trans e) f0 f1 f3 f4 f5;obtain⟨o,e,c,d⟩:=id st';exact⟨u,rfl,go_of (s:={s with heap:=h'}) e c d (by decide) ⟨x,H,I1,ru,⟨rfl,fun ys hy=>by rw[I.list_inj hy hq];exact hx⟩,st',fun b hb=>(hf b hb).1⟩⟩
 done:=by
  intro X hP hw hK hc i pins s σ H E I hf st hg;subst hP hw hK;obtain⟨xs,hq,hx⟩:=hg;obtain⟨its,rv,p,hz⟩:=I.list hq;obtain⟨f0,f1,f2,f3,f4,f5⟩:=hf it (by simp);have hl:=rv.length;exact wpAny_pyNext_list_end (I.ok.hd hc) st p.isList (by simp;omega) fun h' eb=>⟨rfl,I.turned (t':=s.toks) (fun b o hb e=>eb b o hb e) f0 f1 f3 f4 f5⟩
 self:=fun _ _ _ _ _ st h=>wpAny_pyIter_listiter st h
theorem turn_tuple{P:Program}{w:World}{K:W.Frag}{tg:Expr}(a it:Addr):Turn P w K tg (Itt K a) [it] it (fun i h=>h.IsTupleIter it a i) where
 mem:=by simp
 obj:=fun i h st b hb=>by
  have e:b=it:=by simpa using hb
  subst e;obtain⟨o,e,c,d⟩:=st;exact⟨o,e,fun v z=>by rw[d]at z;cases z⟩
 keep:=fun i h h' st k=>st.at fun o e=>k it (by simp) o e
 item:=by
  intro X hP hw hK hc i pins s σ H E I hf st hg;subst hP hw hK;obtain⟨xs,x,hq,hx⟩:=hg;obtain⟨its,rv,p,hz⟩:=I.tuple hq;obtain⟨u,hu,ru⟩:=rv.get hx;obtain⟨f0,f1,f2,f3,f4,f5⟩:=hf it (by simp);refine wpAny_pyNext_tuple_item st (show s.heap.IsTuple a its.toArray from p) (x:=u) (by simpa using hu) fun h' st' sb=> ?_;have I1:Inv X pins σ H {s with heap:=h'}:=I.turned (t':=s.toks) (fun b o hb e=>(sb.2 b hb).trans e) f0 f1 f3 f4 f5;obtain⟨o,e,c,d⟩:=id st';exact⟨u,rfl,go_of (s:={s with heap:=h'}) e c d (by decide) ⟨x,H,I1,ru,⟨rfl,fun ys hy=>by rw[I.tuple_inj hy hq];exact hx⟩,st',fun b hb=>(hf b hb).1⟩⟩
 done:=by
  intro X hP hw hK hc i pins s σ H E I hf st hg;subst hP hw hK;obtain⟨xs,hq,hx⟩:=hg;obtain⟨its,rv,p,hz⟩:=I.tuple hq;obtain⟨f0,f1,f2,f3,f4,f5⟩:=hf it (by simp);have hl:=rv.length;exact wpAny_pyNext_tuple_end (I.ok.hd hc) st (show s.heap.IsTuple a its.toArray from p) (by simp;omega) fun h' eb=>⟨rfl,I.turned (t':=s.toks) (fun b o hb e=>eb b o hb e) f0 f1 f3 f4 f5⟩
 self:=fun _ _ _ _ _ st h=>wpAny_pyIter_tupleiter st h
theorem turn_range{P:Program}{w:World}{K:W.Frag}{tg:Expr}(it:Addr)(lo:Int)(n:Nat):Turn P w K tg (Itr lo n) [it] it (fun i h=>IsRangeIter h it (lo+(i:Nat)*1) ((n:Int)-(i:Nat)) 1) where
 mem:=by simp
 obj:=fun i h st b hb=>by
  have e:b=it:=by simpa using hb
  subst e;exact⟨_,st,fun v z=>by
   have z':Data.fields _=Data.cell v:=z;cases z'⟩
 keep:=fun i h h' st k=>k it (by simp) _ st
 item:=by
  intro X hP hw hK hc i pins s σ H E I hf st hg;subst hP hw hK;obtain⟨f0,f1,f2,f3,f4,f5⟩:=hf it (by simp);have W:=Walks.range (prog:=X.prog) (w:=X.w) (I.ok.hd hc) it lo 1 n;refine W.item i s _ _ hg st fun v h' tk hv st' kk=> ?_;obtain⟨t,rfl⟩:=hv;have I1:Inv X pins σ H {s with heap:=h',toks:=tk}:=I.turned (fun b o hb e=>kk b o (by simpa using hb) e) f0 f1 f3 f4 f5;refine⟨_,rfl,go_of (s:={s with heap:=h',toks:=tk}) (n:="range_iterator") st' rfl rfl (by decide) ⟨.int (lo+i),H,I1,⟨t,?_⟩,⟨rfl,rfl⟩,st',fun b hb=>(hf b hb).1⟩⟩;rw[Vj]
 done:=by
  intro X hP hw hK hc i pins s σ H E I hf st hg;subst hP hw hK;obtain⟨f0,f1,f2,f3,f4,f5⟩:=hf it (by simp);exact wpAny_pyNext_range_end (I.ok.hd hc) st (by have:n<=i:=hg;omega) fun h' eb=>⟨rfl,I.turned (t':=s.toks) (fun b o hb e=>eb b o hb e) f0 f1 f3 f4 f5⟩
 self:=fun _ _ _ _ _ st h=>wpAny_pyIter_rangeiter st h
section
variable{X:Cx}{tg:Expr}
theorem range_it{pins:L1}{σ:St}{H:Hp}{s:Shared}{R:It->Hp->Prop}{E:L3}{lo hi:Int}{t u v:Tok}{tk:Nat}(I:Inv X pins σ H s)(h1: -(2^62)<=lo)(h2:lo<2^62)(h3: -(2^62)<=hi)(h4:hi<2^62)(q:R (Itr lo (hi-lo).toNat) H):wpAny (model X.prog X.w) X.A (pyIter (.ref s.heap.objs.size)) (PIE X pins σ tg R) E {s with heap:=s.heap.push {cls:= .type "range",data:= .fields #[.int lo t,.int hi u,.int 1 v]},toks:=tk}:=by
 refine wpAny_pyIter_range (IsRange.new ..) (small_one h1 h2 h3 h4) ?_;have I1:Inv X pins σ H {s with heap:=s.heap.push {cls:= .type "range",data:= .fields #[.int lo t,.int hi u,.int 1 v]},toks:=tk}:=I.kept fun b o e=>cL _ e;refine⟨(s.heap.push {cls:= .type "range",data:= .fields #[.int lo t,.int hi u,.int 1 v]}).objs.size,[(s.heap.push {cls:= .type "range",data:= .fields #[.int lo t,.int hi u,.int 1 v]}).objs.size],_,_,H,rfl,
  I1.kept (t':=tk) fun b o e=>cL _ e,turn_range _ lo (hi-lo).toNat,?_,fun b hb=> ?_,q⟩
 ·have e1:lo+((0:Nat):Int)*1=lo:=by simp
  have e2:(((hi-lo).toNat:Nat):Int)-((0:Nat):Int)=Builtin.Range.rangeSize lo hi 1:=by rw[rangeSize_one];split<;>omega
  show IsRangeIter _ _ (lo+((0:Nat):Int)*1) ((((hi-lo).toNat:Nat):Int)-((0:Nat):Int)) 1;rw[e1,e2];exact gY _ rfl
 ·have e:b=(s.heap.push {cls:= .type "range",data:= .fields #[.int lo t,.int hi u,.int 1 v]}).objs.size:=by simpa using hb
  subst e;exact I1.fpOk (aN _) (I1.hok.fresh (aN _))
def iRng1(ta:TA):TI:=fun σ H R=>ta σ H fun vs H1=>∃j:Int,vs=[.int j]/\ -(2^62)<=j/\j<2^62/\R (Itr 0 j.toNat) H1
def iRng2(ta:TA):TI:=fun σ H R=>ta σ H fun vs H1=>∃i j:Int,vs=[.int i,.int j]/\(-(2^62)<=i/\i<2^62/\ -(2^62)<=j/\j<2^62)/\R (Itr i (j-i).toNat) H1
theorem Aw{a:Expr}{ta:TA}{p pos:Pos}(hg:Gl X "range")(hm:X.mg "range"=none)(ha:PA X [a] ta)(hs:starEach [a] X.env=[(false,eval a X.env)]:=by rfl):PI X tg (.Call (.Name "range" p) [a] [] pos) (iRng1 ta):=by
 intro pins s σ H R I h;refine Call_ (ld_blt I hg hm boot_range (Mw (thn (ha pos pins s σ H _ I h) fun us s1 ⟨vs,H1,I1,r1,q1⟩=> ?_) hs rfl));obtain⟨j,e,q1,q2,q⟩:=q1;subst e;cases r1 with
 |cons r rr=>
  cases rr;obtain⟨t,rfl⟩:=r;exact call_range_1 (range_it I1 (by omega) (by omega) q1 q2 (by simpa using q))
theorem pi_range2{a b:Expr}{ta:TA}{p pos:Pos}(hg:Gl X "range")(hm:X.mg "range"=none)(ha:PA X [a,b] ta)(hs:starEach [a,b] X.env=[(false,eval a X.env),(false,eval b X.env)]:=by rfl)(hs2:starEach [b] X.env=[(false,eval b X.env)]:=by rfl):
  PI X tg (.Call (.Name "range" p) [a,b] [] pos) (iRng2 ta):=by
 intro pins s σ H R I h;refine Call_ (ld_blt I hg hm boot_range (Mw (thn (ha pos pins s σ H _ I h) fun us s1 ⟨vs,H1,I1,r1,q1⟩=> ?_) (by rw[hs,hs2]) (by rw[hs2];rfl)));obtain⟨i,j,e,⟨q1,q2,q3,q4⟩,q⟩:=q1;subst e;cases r1 with
 |cons r rr=>
  cases rr with
  |cons r' rr=>
   cases rr;obtain⟨t,rfl⟩:=r;obtain⟨t',rfl⟩:=r';exact call_range_2 (range_it I1 q1 q2 q3 q4 q)
def tFor(wi:TI)(g:TG)(tb:TS):TS:=fun D σ H=>wi σ H fun J H1=>∃W:Nat->Nat->St->Hp->Prop,(∃m,W 0 m σ H1)/\∀i m σ H,W i m σ H->
 (J.stop i H/\D.nx σ H)\/(J.go i H/\∃N:St->Hp->Prop,(∀σ' H',N σ' H'->∃m',m'<m/\W (i+1) m' σ' H')/\∀x H',J.yld i H x H'->g x σ H' fun σ2 H2=>tb {D with nx:=N,ct:=N,bk:=D.nx} σ2 H2)
def pinsAt(fp:List Addr)(h:Heap):L1:=fp.filterMap fun b=>(h.get? b).map fun o=>(b,o)
theorem mem_pinsAt{fp:List Addr}{h:Heap}{b:Addr}{o:Obj}(hb:b∈fp)(e:h.get? b=some o):(b,o)∈pinsAt fp h:=List.mem_filterMap.mpr ⟨b,hb,by rw[e];rfl⟩
theorem of_pinsAt{fp:List Addr}{h:Heap}{p:Addr×Obj}(hp:p∈pinsAt fp h):p.1∈fp/\h.get? p.1=some p.2:=by
 obtain⟨b,hb,e⟩:=List.mem_filterMap.mp hp;cases q:h.get? b with
 |none=>rw[q]at e;cases e
 |some o=>
  rw[q]at e;have e':(b,o)=p:=rE e;subst e';exact⟨hb,q⟩
theorem Inv.pinned{pins:L1}{σ:St}{H:Hp}{s:Shared}{fp:List Addr}(I:Inv X pins σ H s)(hf:∀b∈fp,FpOk X pins H b)(ho:∀b∈fp,∃o,s.heap.get? b=some o/\∀v,o.data≠.cell v):Inv X (pins++pinsAt fp s.heap) σ H s:=
 I.pins_of fun p hp=>(jh.mp hp).elim (fun z=>I.pin p (FZ _ z)) fun z=>by
  obtain⟨hb,e⟩:=of_pinsAt z;obtain⟨f0,f1,f2,_⟩:=hf p.1 hb;obtain⟨o,e',d⟩:=ho p.1 hb;rw[e]at e';cases e';exact⟨e,f0,f1,f2,d⟩
theorem Inv.unpinned{pins pl:L1}{σ:St}{H:Hp}{s:Shared}(I:Inv X (pins++pl) σ H s):Inv X pins σ H s:=I.pins_of fun p hp=>I.pin p (FZ _ (YX _ hp))
theorem ux{iter:Expr}{body:List Stmt}{wi:TI}{g:TG}{tb:TS}{pos:Pos}(hp:PassesOwn (model X.prog X.w) X.A X.env X.xe)(hc:X.calm=true)(hi:PI X tg iter wi)(hg:PG X tg g)(hb:PSs X body tb)(hs:∀x,foldedSetIterable iter X.env x=pure x:=by intro _;rfl):PS X (.For tg iter body [] pos) (tFor wi g tb):=by
 intro pins s σ H D I h;refine wpAny_For (thn (hi pins s σ H _ I h) fun v s1 h1=>thn h1 fun itv s2 h2=> ?_) hs;obtain⟨it,fp,tn,J,H2,e,I2,T,st2,f2,W,⟨m0,w0⟩,turn⟩:=h2;subst e
 -- what stays true of the iterator's objects through the loop
 have stat:∀{H':Hp},(∀b∈fp,H' b=none)->∀b∈fp,FpOk X pins H' b:=fun hn b hb=>⟨hn b hb,(f2 b hb).2⟩;refine codeAny_forLoop_any (fun n s'=>∃i σ' H',Inv X pins σ' H' s'/\tn i s'.heap/\(∀b∈fp,H' b=none)/\W i n σ' H') ?_ m0 ⟨0,σ,H2,I2,st2,fun b hb=>(f2 b hb).1,w0⟩;rintro n s3 ⟨i,σ3,H3,I3,st3,fr3,w3⟩;rcases turn i n σ3 H3 w3 with⟨stop,qn⟩|⟨go,N,hN,step⟩
 ·refine RM hp (thn (T.done X rfl rfl rfl hc i pins s3 σ3 H3 X.xe I3 (stat fr3) st3 stop) fun r s4 ⟨hr,I4⟩=> ?_);subst hr;exact Zu ⟨σ3,H3,I4,qn⟩
 ·refine RM hp (thn (T.item X rfl rfl rfl hc i pins s3 σ3 H3 X.xe I3 (stat fr3) st3 go) fun r s4 ⟨u,hr,h4⟩=> ?_);subst hr;refine RM hp (thn h4 fun _ s5 ⟨x,H5,I5,r5,y5,st5,fr5⟩=> ?_);have I5':=I5.pinned (stat fr5) (T.obj _ _ st5);refine RM hp (thn (hg _ s5 σ3 H5 x u _ I5' r5 (step x H5 y5)) fun _ s6 ⟨σ6,H6,I6,q6⟩=> ?_);refine RM hp (thn (hb _ s6 σ6 H6 _ I6 q6) fun f s7 q7=> ?_);have again:∀{σ7:St} {H7:Hp},Inv X (pins++pinsAt fp s5.heap) σ7 H7 s7->N σ7 H7->∃m,m<n/\∃i σ' H',Inv X pins σ' H' s7/\tn i s7.heap/\(∀b∈fp,H' b=none)/\W i m σ' H':=fun{σ7 H7} I7 n7=>by
   obtain⟨m',hm,w7⟩:=hN σ7 H7 n7;refine⟨m',hm,i+1,σ7,H7,I7.unpinned,T.keep _ _ _ st5 fun b hb o e=>(I7.pin (b,o) (FZ _ (FZ _ (mem_pinsAt hb e)))).1,fun b hb=> ?_,w7⟩;obtain⟨o,e,d⟩:=T.obj _ _ st5 b hb;exact(I7.pin (b,o) (FZ _ (FZ _ (mem_pinsAt hb e)))).2.1
  cases f with
  |next=>obtain⟨σ7,H7,I7,n7⟩:=q7;exact again I7 n7
  |cont=>obtain⟨σ7,H7,I7,n7⟩:=q7;exact again I7 n7
  |brk=>obtain⟨σ7,H7,I7,q7⟩:=q7;exact⟨σ7,H7,I7.unpinned,q7⟩
  |ret v=>obtain⟨x7,σ7,H7,I7,r7,q7⟩:=q7;exact⟨x7,σ7,H7,I7.unpinned,r7,q7⟩
end
theorem for_list{K:W.Frag}{a:Addr}{xs:List V}{g:TG}{tb:TS}{D:Ends}{σ:St}{H:Hp}(Pv:Nat->St->Hp->Prop)(h0:Pv 0 σ H)(hl:∀i σ H,i<=xs.length->Pv i σ H->SqL K H a xs)(hs:∀i x σ H,xs[i]? =some x->Pv i σ H->g x σ H fun σ2 H2=>tb {D with nx:=Pv (i+1),ct:=Pv (i+1),bk:=D.nx} σ2 H2)(hd:∀σ H,Pv xs.length σ H->D.nx σ H):
  ∃W:Nat->Nat->St->Hp->Prop,(∃m,W 0 m σ H)/\∀i m σ H,W i m σ H->
   ((Itl K a).stop i H/\D.nx σ H)\/((Itl K a).go i H/\∃N:St->Hp->Prop,(∀σ' H',N σ' H'->∃m',m'<m/\W (i+1) m' σ' H')/\∀x H',(Itl K a).yld i H x H'->g x σ H' fun σ2 H2=>tb {D with nx:=N,ct:=N,bk:=D.nx} σ2 H2):=by
 refine⟨fun i m σ H=>m=xs.length-i/\i<=xs.length/\Pv i σ H,⟨xs.length,by simp,cG _,h0⟩,?_⟩;rintro i m σ H ⟨rfl,hi,p⟩;have q:=hl i σ H hi p;by_cases hlt:i<xs.length
 ·refine .inr ⟨⟨xs,xs[i],q,by simp[hlt]⟩,Pv (i+1),fun σ' H' p'=>⟨xs.length-(i+1),by omega,rfl,hlt,p'⟩,fun x H' y=> ?_⟩;obtain⟨e,y⟩:=y;subst e;exact hs i x σ _ (y xs q) p
 ·have e:i=xs.length:=by omega
  subst e;exact .inl ⟨⟨xs,q,aN _⟩,hd σ H p⟩
theorem Ij{lo:Int}{n:Nat}{g:TG}{tb:TS}{D:Ends}{σ:St}{H:Hp}(Pv:Nat->St->Hp->Prop)(h0:Pv 0 σ H)(hs:∀i σ H,i<n->Pv i σ H->g (.int (lo+i)) σ H fun σ2 H2=>tb {D with nx:=Pv (i+1),ct:=Pv (i+1),bk:=D.nx} σ2 H2)(hd:∀σ H,Pv n σ H->D.nx σ H):
  ∃W:Nat->Nat->St->Hp->Prop,(∃m,W 0 m σ H)/\∀i m σ H,W i m σ H->
   ((Itr lo n).stop i H/\D.nx σ H)\/((Itr lo n).go i H/\∃N:St->Hp->Prop,(∀σ' H',N σ' H'->∃m',m'<m/\W (i+1) m' σ' H')/\∀x H',(Itr lo n).yld i H x H'->g x σ H' fun σ2 H2=>tb {D with nx:=N,ct:=N,bk:=D.nx} σ2 H2):=by
 refine⟨fun i m σ H=>m=n-i/\i<=n/\Pv i σ H,⟨n,by simp,cG _,h0⟩,?_⟩;rintro i m σ H ⟨rfl,hi,p⟩;by_cases hlt:i<n
 ·refine .inr ⟨hlt,Pv (i+1),fun σ' H' p'=>⟨n-(i+1),by omega,rfl,hlt,p'⟩,fun x H' y=> ?_⟩;obtain⟨e,y⟩:=y;subst e y;exact hs i σ _ hlt p
 ·have e:i=n:=by omega
  subst e;exact .inl ⟨aN _,hd σ H p⟩
abbrev R2:=V->V->Hp->VK->Prop
def OpR(X:Cx)(f:Value->Value->Sem Value)(r:R2):Prop:=
 ∀(pins:L1) (s:Shared) (σ:St) (H:Hp) (x y:V) (v u:Value) (Q:VK),Inv X pins σ H s->RelV x v->RelV y u->r x y H Q->
  wpAny (model X.prog X.w) X.A (f v u) (EP X pins σ Q) X.xe s
def UnR(X:Cx)(f:Value->Sem Value)(r:V->Hp->VK->Prop):Prop:=
 ∀(pins:L1) (s:Shared) (σ:St) (H:Hp) (x:V) (v:Value) (Q:VK),Inv X pins σ H s->RelV x v->r x H Q->
  wpAny (model X.prog X.w) X.A (f v) (EP X pins σ Q) X.xe s
def CallR(X:Cx)(f:Value)(r:List V->Hp->VK->Prop):Prop:=
 ∀(pins:L1) (s:Shared) (σ:St) (H:Hp) (xs:List V) (us:List Value) (Q:VK),Inv X pins σ H s->Vals xs us->r xs H Q->
  wpAny (model X.prog X.w) X.A (call f us) (EP X pins σ Q) X.xe s
def TruR(X:Cx)(r:V->Hp->(Bool->Hp->Prop)->Prop):Prop:=
 ∀(pins:L1) (s:Shared) (σ:St) (H:Hp) (x:V) (v:Value) (Q:Bool->Hp->Prop),Inv X pins σ H s->RelV x v->r x H Q->
  wpAny (model X.prog X.w) X.A (truthy v) (TP X pins σ Q) X.xe s
def tOp(r:R2)(ta tb:TE):TE:=fun σ H Q=>ta σ H fun x H1=>tb σ H1 fun y H2=>r x y H2 Q
def tUn(r:V->Hp->VK->Prop)(ta:TE):TE:=fun σ H Q=>ta σ H fun x H1=>r x H1 Q
def rI(C:Int->Int->Prop)(g:Int->Int->V):R2:=fun x y H Q=>∃i j,x= .int i/\y= .int j/\C i j/\Q (g i j) H
def rI0(g:Int->Int->V):R2:=fun x y H Q=>∃i j,x= .int i/\y= .int j/\Q (g i j) H
def rU(g:Int->V):V->Hp->VK->Prop:=fun x H Q=>∃i,x= .int i/\Q (g i) H
section
variable{X:Cx}{a b:Expr}{ta tb:TE}{pos:Pos}
theorem binT(ha:PE X a ta)(hb:PE X b tb){pins:L1}{s:Shared}{σ:St}{H:Hp}{R:V->V->Hp->Prop}(I:Inv X pins σ H s)(h:ta σ H fun x H1=>tb σ H1 fun y H2=>R x y H2){Q:L3}{f:Value->Value->Sem Value}(hf:∀v u s2 x y H2,Inv X pins σ H2 s2->RelV x v->RelV y u->R x y H2->wpAny (model X.prog X.w) X.A (f v u) Q X.xe s2):
  wpAny (model X.prog X.w) X.A (eval a X.env) (fun v s₁=>wpAny (model X.prog X.w) X.A (eval b X.env) (fun u s₂=>wpAny (model X.prog X.w) X.A (f v u) Q X.xe s₂) X.xe s₁) X.xe s:=by
 refine thn (ha pins s σ H _ I h) fun v s1 ⟨x,H1,I1,r1,q1⟩=> ?_;refine thn (hb pins s1 σ H1 _ I1 q1) fun u s2 ⟨y,H2,I2,r2,q2⟩=> ?_;exact hf v u s2 x y H2 I2 r1 r2 q2
theorem aX{op:Operator}{r:R2}(ho:OpR X (binaryOp op) r)(ha:PE X a ta)(hb:PE X b tb):PE X (.BinOp a op b pos) (tOp r ta tb):=by
 intro pins s σ H Q I h;exact wpAny_BinOp (binT ha hb I h fun v u s2 x y H2 I2 rx ry q=>ho pins s2 σ H2 x y v u Q I2 rx ry q)
theorem pe_un{op:UnaryOp}{r:V->Hp->VK->Prop}(ho:UnR X (unaryOp op) r)(ha:PE X a ta):PE X (.UnaryOp op a pos) (tUn r ta):=by
 intro pins s σ H Q I h;exact UnaryOp_ (thn (ha pins s σ H _ I h) fun v s1 ⟨x,H1,I1,r1,q1⟩=>ho pins s1 σ H1 x v Q I1 r1 q1)
theorem opI{f:Value->Value->Sem Value}{C:Int->Int->Prop}{g:Int->Int->Int}(rule:∀(i j:Int) (t u:Tok) (s:Shared) (Q:L3) (E:L3),C i j->Q (.int (g i j) s.toks) {s with toks:=s.toks+1}->wpAny (model X.prog X.w) X.A (f (.int i t) (.int j u)) Q E s):
  OpR X f (rI C fun i j=> .int (g i j)):=by
 intro pins s σ H x y v u Q I rx ry h;obtain⟨i,j,rfl,rfl,hc,q⟩:=h;obtain⟨t,rfl⟩:=rx;obtain⟨t',rfl⟩:=ry;exact rule i j t t' s _ _ hc ⟨.int (g i j),H,I.tok _,⟨_,rfl⟩,q⟩
theorem opI0{f:Value->Value->Sem Value}{g:Int->Int->Int}(rule:∀(i j:Int) (t u:Tok) (s:Shared) (Q:L3) (E:L3),Q (.int (g i j) s.toks) {s with toks:=s.toks+1}->wpAny (model X.prog X.w) X.A (f (.int i t) (.int j u)) Q E s):
  OpR X f (rI0 fun i j=> .int (g i j)):=by
 intro pins s σ H x y v u Q I rx ry h;obtain⟨i,j,rfl,rfl,q⟩:=h;obtain⟨t,rfl⟩:=rx;obtain⟨t',rfl⟩:=ry;exact rule i j t t' s _ _ ⟨.int (g i j),H,I.tok _,⟨_,rfl⟩,q⟩
theorem opB0{f:Value->Value->Sem Value}{g:Int->Int->Bool}(rule:∀(i j:Int) (t u:Tok) (s:Shared) (Q:L3) (E:L3),Q (.bool (g i j)) s->wpAny (model X.prog X.w) X.A (f (.int i t) (.int j u)) Q E s):
  OpR X f (rI0 fun i j=> .bl (g i j)):=by
 intro pins s σ H x y v u Q I rx ry h;obtain⟨i,j,rfl,rfl,q⟩:=h;obtain⟨t,rfl⟩:=rx;obtain⟨t',rfl⟩:=ry;exact rule i j t t' s _ _ ⟨.bl (g i j),H,I,rfl,q⟩
def CDiv(i j:Int):Prop:=0<j/\j<1073741824
def CPow(i j:Int):Prop:=0<=j/\j<=1000000/\i.natAbs<2^64
def CMul(i j:Int):Prop:=(-(2^64)<i/\i<2^64)\/(-(2^64)<j/\j<2^64)
theorem CMul.ok{i j:Int}(h:CMul i j):IntMulOk i j:=by
 rcases h with⟨h1,h2⟩|⟨h1,h2⟩
 ·exact .of_left (intBits_le_64 h1 h2)
 ·exact .of_right (intBits_le_64 h1 h2)
theorem pJ:OpR X (binaryOp .Add) (rI0 fun i j=> .int (i+j)):=opI0 fun _ _ _ _ _ _ _ q=>add_int q
theorem op_sub:OpR X (binaryOp .Sub) (rI0 fun i j=> .int (i-j)):=opI0 fun _ _ _ _ _ _ _ q=>sub_int q
theorem m9:OpR X (binaryOp .Mult) (rI CMul fun i j=> .int (i*j)):=opI fun _ _ _ _ _ _ _ hc q=>mul_int q hc.ok
theorem op_fdiv:OpR X (binaryOp .FloorDiv) (rI CDiv fun i j=> .int (i/j)):=opI fun i j _ _ _ _ _ hc q=>by
 have h1:(0:Int)<j:=hc.1;have h2:j<1073741824:=hc.2;exact floordiv_int (by omega) (by rw[yee i (by omega)];exact q) (.inl (PyProof.noPylong_small (by omega)))
theorem op_mod:OpR X (binaryOp .Mod) (rI (fun _ j=>0<j) fun i j=> .int (i %j)):=opI fun i j _ _ _ _ _ hc q=>by
 have h1:(0:Int)<j:=hc;exact mod_int' (by omega) (by rw[Int.fmod_eq_emod_of_nonneg i (by omega)];exact q)
theorem op_pow:OpR X (binaryOp .Pow) (rI CPow fun i j=> .int (i^j.toNat)):=opI fun _ _ _ _ _ _ _ hc q=>pow_int_small hc.1 hc.2.1 hc.2.2 q
theorem unI{f:Value->Sem Value}{g:Int->Int}(rule:∀(i:Int) (t:Tok) (s:Shared) (Q:L3) (E:L3),Q (.int (g i) s.toks) {s with toks:=s.toks+1}->wpAny (model X.prog X.w) X.A (f (.int i t)) Q E s):
  UnR X f (rU fun i=> .int (g i)):=by
 intro pins s σ H x v Q I rx h;obtain⟨i,rfl,q⟩:=h;obtain⟨t,rfl⟩:=rx;exact rule i t s _ _ ⟨.int (g i),H,I.tok _,⟨_,rfl⟩,q⟩
theorem yg:UnR X (unaryOp .USub) (rU fun i=> .int (-i)):=unI fun _ _ _ _ _ q=>neg_int q
end
def scal:V->V->Bool
 | .non,.non=>true| .non,.int _=>true| .int _,.non=>true| .non,.bl _=>true| .bl _,.non=>true| .non,.str _=>true| .str _,.non=>true
 | .int _,.int _=>true| .bl _,.bl _=>true| .str _,.str _=>true| .byt _,.byt _=>true
 | .int _,.str _=>true| .str _,.int _=>true| .bl _,.str _=>true| .str _,.bl _=>true
 |_,_=>false
def rEq:R2:=fun x y H Q=>scal x y=true/\Q (.bl (decide (x=y))) H
def rNe:R2:=fun x y H Q=>scal x y=true/\Q (.bl (!decide (x=y))) H
theorem dec_int{i j:Int}:decide (V.int i=V.int j)=(i==j):=by
 rw[Bb];simp
theorem dec_bl{i j:Bool}:decide (V.bl i=V.bl j)=(i==j):=by
 rw[Bb];simp
theorem dec_str{i j:Str}:decide (V.str i=V.str j)=(i==j):=by
 rw[Bb];simp
theorem dec_byt{i j:Array UInt8}:decide (V.byt i=V.byt j)=(i.toList==j.toList):=by
 rw[Bb];cases i;cases j;simp
section
variable{X:Cx}{a b c:Expr}{ta tb tc:TE}{pos:Pos}
theorem lJ{pins:L1}{σ:St}{H:Hp}{s:Shared}{Q:VK}{k k':Bool}(I:Inv X pins σ H s)(q:Q (.bl k) H)(e:k=k'):EP X pins σ Q (.bool k') s:=by
 subst e;exact⟨.bl k,H,I,rfl,q⟩
theorem op_eq:OpR X (compareOp .Eq) rEq:=by
 intro pins s σ H x y v u Q I rx ry h;obtain⟨hs,q⟩:=h;cases x with
 |non=>
  cases rx;cases y with
  |non=>cases ry;exact PySem.EqNone.eq_none_none (lJ I q (by simp))
  |bl j=>cases ry;exact PySem.EqNone.eq_none_bool (lJ I q (by simp))
  |int j=>obtain⟨t',rfl⟩:=ry;exact PySem.EqNone.eq_none_int (lJ I q (by simp))
  |str j=>obtain⟨t',rfl⟩:=ry;exact PySem.EqNone.eq_none_str (lJ I q (by simp))
  |_=>exact absurd (show false=true from hs) uY
 |bl i=>
  cases rx;cases y with
  |non=>cases ry;exact PySem.EqNone.eq_bool_none (lJ I q (by simp))
  |bl j=>cases ry;exact eq_bool (lJ I q dec_bl)
  |str j=>obtain⟨t',rfl⟩:=ry;exact PySem.EqMixed.eq_bool_str (lJ I q (by simp))
  |_=>exact absurd (show false=true from hs) uY
 |int i=>
  obtain⟨t,rfl⟩:=rx;cases y with
  |non=>cases ry;exact PySem.EqNone.eq_int_none (lJ I q (by simp))
  |int j=>obtain⟨t',rfl⟩:=ry;exact eq_int (lJ I q dec_int)
  |str j=>obtain⟨t',rfl⟩:=ry;exact PySem.EqMixed.eq_int_str (lJ I q (by simp))
  |_=>exact absurd (show false=true from hs) uY
 |str i=>
  obtain⟨t,rfl⟩:=rx;cases y with
  |non=>cases ry;exact PySem.EqNone.eq_str_none (lJ I q (by simp))
  |bl j=>cases ry;exact PySem.EqMixed.eq_str_bool (lJ I q (by simp))
  |int j=>obtain⟨t',rfl⟩:=ry;exact PySem.EqMixed.eq_str_int (lJ I q (by simp))
  |str j=>obtain⟨t',rfl⟩:=ry;exact eq_str (lJ I q dec_str)
  |_=>exact absurd (show false=true from hs) uY
 |byt i=>
  obtain⟨t,rfl⟩:=rx;cases y with
  |byt j=>obtain⟨t',rfl⟩:=ry;exact PySem.W.eq_bytes (lJ I q dec_byt)
  |_=>exact absurd (show false=true from hs) uY
 |_=>cases y<;>exact absurd (show false=true from hs) uY
theorem op_ne:OpR X (compareOp .NotEq) rNe:=by
 intro pins s σ H x y v u Q I rx ry h;obtain⟨hs,q⟩:=h;cases x with
 |non=>
  cases rx;cases y with
  |non=>cases ry;exact PySem.EqNone.ne_none_none (lJ I q (by simp))
  |bl j=>cases ry;exact PySem.EqNone.ne_none_bool (lJ I q (by simp))
  |int j=>obtain⟨t',rfl⟩:=ry;exact PySem.EqNone.ne_none_int (lJ I q (by simp))
  |str j=>obtain⟨t',rfl⟩:=ry;exact PySem.EqNone.ne_none_str (lJ I q (by simp))
  |_=>exact absurd (show false=true from hs) uY
 |bl i=>
  cases rx;cases y with
  |non=>cases ry;exact PySem.EqNone.ne_bool_none (lJ I q (by simp))
  |bl j=>cases ry;exact ne_bool (lJ I q (lE not dec_bl))
  |str j=>obtain⟨t',rfl⟩:=ry;exact PySem.EqMixed.ne_bool_str (lJ I q (by simp))
  |_=>exact absurd (show false=true from hs) uY
 |int i=>
  obtain⟨t,rfl⟩:=rx;cases y with
  |non=>cases ry;exact PySem.EqNone.ne_int_none (lJ I q (by simp))
  |int j=>obtain⟨t',rfl⟩:=ry;exact ne_int (lJ I q (lE not dec_int))
  |str j=>obtain⟨t',rfl⟩:=ry;exact PySem.EqMixed.ne_int_str (lJ I q (by simp))
  |_=>exact absurd (show false=true from hs) uY
 |str i=>
  obtain⟨t,rfl⟩:=rx;cases y with
  |non=>cases ry;exact PySem.EqNone.ne_str_none (lJ I q (by simp))
  |bl j=>cases ry;exact PySem.EqMixed.ne_str_bool (lJ I q (by simp))
  |int j=>obtain⟨t',rfl⟩:=ry;exact PySem.EqMixed.ne_str_int (lJ I q (by simp))
  |str j=>obtain⟨t',rfl⟩:=ry;exact ne_str (lJ I q (lE not dec_str))
  |_=>exact absurd (show false=true from hs) uY
 |byt i=>
  obtain⟨t,rfl⟩:=rx;cases y with
  |byt j=>obtain⟨t',rfl⟩:=ry;exact PySem.W.ne_bytes (lJ I q (lE not dec_byt))
  |_=>exact absurd (show false=true from hs) uY
 |_=>cases y<;>exact absurd (show false=true from hs) uY
theorem op_lt:OpR X (compareOp .Lt) (rI0 fun i j=> .bl (decide (i<j))):=opB0 fun _ _ _ _ _ _ _ q=>lt_int q
theorem op_le:OpR X (compareOp .LtE) (rI0 fun i j=> .bl (decide (i<=j))):=opB0 fun _ _ _ _ _ _ _ q=>le_int q
theorem op_gt:OpR X (compareOp .Gt) (rI0 fun i j=> .bl (decide (j<i))):=opB0 fun _ _ _ _ _ _ _ q=>gt_int q
theorem op_ge:OpR X (compareOp .GtE) (rI0 fun i j=> .bl (decide (j<=i))):=opB0 fun _ _ _ _ _ _ _ q=>ge_int q
theorem op_isN:OpR X (compareOp .Is) (fun x y H Q=>y= .non/\Q (.bl (decide (x= .non))) H):=by
 intro pins s σ H x y v u Q I rx ry h;obtain⟨rfl,q⟩:=h;cases ry;refine is_none_gen (lJ I q ?_);cases x<;>first
  |(cases rx;rfl)
  |(obtain⟨t,rfl⟩:=rx;rfl)
theorem op_notN:OpR X (compareOp .IsNot) (fun x y H Q=>y= .non/\Q (.bl (!decide (x= .non))) H):=by
 intro pins s σ H x y v u Q I rx ry h;obtain⟨rfl,q⟩:=h;cases ry;refine isnot_none_gen (lJ I q ?_);cases x<;>first
  |(cases rx;rfl)
  |(obtain⟨t,rfl⟩:=rx;rfl)
theorem OpR.or{f:Value->Value->Sem Value}{r r':R2}(h:OpR X f r)(h':OpR X f r'):OpR X f (fun x y H Q=>r x y H Q\/r' x y H Q):=by
 intro pins s σ H x y v u Q I rx ry q;rcases q with q|q
 ·exact h pins s σ H x y v u Q I rx ry q
 ·exact h' pins s σ H x y v u Q I rx ry q
theorem nomark(b:Expr){op:CmpOp}(h:op≠.In:=by decide)(h2:op≠.NotIn:=by decide):behindInMarks op b=false:=by
 have e1:(op==CmpOp.In)=false:=by cases op<;>first |rfl|exact absurd rfl h
 have e2:(op==CmpOp.NotIn)=false:=by cases op<;>first |rfl|exact absurd rfl h2
 cases b<;>simp[behindInMarks,e1,e2]
theorem Ds{op:CmpOp}{r:R2}(ho:OpR X (compareOp op) r)(ha:PE X a ta)(hb:PE X b tb)(hm:behindInMarks op b=false:=by exact nomark _):PE X (.Compare a [op] [b] pos) (tOp r ta tb):=by
 intro pins s σ H Q I h;exact wpAny_Compare1 (binT ha hb I h fun v u s2 x y H2 I2 rx ry q=>ho pins s2 σ H2 x y v u Q I2 rx ry q) hm
def tTest(t:TE):TT:=fun σ H Q=>t σ H fun x H'=>∃k,x= .bl k/\Q k H'
theorem iD{op:CmpOp}{r:R2}(ho:OpR X (compareOp op) r)(ha:PE X a ta)(hb:PE X b tb)(hm:behindInMarks op b=false:=by exact nomark _):PT X (.Compare a [op] [b] pos) (tTest (tOp r ta tb)):=by
 intro pins s σ H Q I h;refine wpAny_isTrue_Compare1 (thn (ha pins s σ H _ I h) fun v s1 ⟨x,H1,I1,r1,q1⟩=>thn (hb pins s1 σ H1 _ I1 q1) fun u s2 ⟨y,H2,I2,r2,q2⟩=>
  thn (ho pins s2 σ H2 x y v u _ I2 r1 r2 q2) fun c s3 ⟨z,H3,I3,r3,k,e,q3⟩=> ?_) hm
 subst e;cases r3;exact Np ⟨H3,I3,q3⟩
def tChain(r r':R2)(ta tb tc:TE):TE:=fun σ H Q=>ta σ H fun x H1=>tb σ H1 fun y H2=>r x y H2 fun z H3=>∃k,z= .bl k/\
 (if k=true then tc σ H3 fun w' H4=>r' y w' H4 Q else Q (.bl false) H3)
theorem pe_chain{op op':CmpOp}{r r':R2}(ho:OpR X (compareOp op) r)(ho':OpR X (compareOp op') r')(ha:PE X a ta)(hb:PE X b tb)(hc:PE X c tc)(hm:lastMarks [op,op'] [b,c]=false:=by with_unfolding_all rfl):PE X (.Compare a [op,op'] [b,c] pos) (tChain r r' ta tb tc):=by
 intro pins s σ H Q I h;refine Compare_chain (thn (ha pins s σ H _ I h) fun v s1 ⟨x,H1,I1,r1,q1⟩=>chain_link (thn (hb pins s1 σ H1 _ I1 q1) fun u s2 ⟨y,H2,I2,r2,q2⟩=>
  thn (ho pins s2 σ H2 x y v u _ I2 r1 r2 q2) fun d s3 ⟨z,H3,I3,r3,k,e,q3⟩=> ?_)) hm
 subst e;cases r3;refine Np ?_;cases k with
 |false=>exact ite_ff ⟨.bl false,H3,I3,rfl,q3⟩
 |true=>exact ite_tt (chain_last (thn (hc pins s3 σ H3 _ I3 q3) fun w' s4 ⟨z',H4,I4,r4,q4⟩=>ho' pins s4 σ H4 y z' u w' Q I4 r2 r4 q4))
def TruV(K:W.Frag)(x:V)(H:Hp)(k:Bool):Prop:=
 match x with
 | .non=>k=false
 | .bl b=>k=b
 | .int i=>k=(i !=0)
 | .str y=>y.length<=sizeLine/\k=((y.length:Int) !=0)
 | .byt y=>y.size<=sizeLine/\k=((y.size:Int) !=0)
 | .ref p=>(∃xs,SqL K H p xs/\k= !xs.isEmpty)\/(∃xs,SqT K H p xs/\k= !xs.isEmpty)\/∃kvs,H p=some (.dK kvs)/\k= !kvs.isEmpty
 |_=>False
theorem isEmpty_kv{κ:Type}{kvs:List (κ×V)}{vs:List (κ×Value)}(r:KV kvs vs):(!vs.isEmpty)= !kvs.isEmpty:=by
 cases r<;>rfl
theorem isEmpty_of{xs:List V}{its:List Value}(r:Vals xs its):(!its.toArray.isEmpty)= !xs.isEmpty:=by
 cases r<;>simp
theorem line63:(sizeLine:Nat)<2^63:=by rw[eX];decide
theorem tru_ok:TruR X (fun x H Q=>∃k,TruV X.K x H k/\Q k H):=by
 intro pins s σ H x v Q I rx h;obtain⟨k,e,q⟩:=h;have hl:=line63;have hs:sizeLine=16777216:=eX;cases x with
 |non=>
  cases rx;have e':k=false:=e;subst e';exact truthy_none ⟨H,I,q⟩
 |bl b=>
  cases rx;have e':k=b:=e;subst e';exact Np ⟨H,I,q⟩
 |int i=>
  obtain⟨t,rfl⟩:=rx;have e':k=(i !=0):=e;subst e';exact PySem.P.truthy_int ⟨H,I,q⟩
 |str y=>
  obtain⟨t,rfl⟩:=rx;obtain⟨hy,e'⟩:y.length<=sizeLine/\k=((y.length:Int) !=0):=e;subst e';exact PySem.P.truthy_str (by omega) ⟨H,I.tok _,q⟩
 |byt y=>
  obtain⟨t,rfl⟩:=rx;obtain⟨hy,e'⟩:y.size<=sizeLine/\k=((y.size:Int) !=0):=e;subst e';exact PySem.W.truthy_bytes (by omega) ⟨H,I.tok _,q⟩
 |ref p=>
  cases rx;have e':(∃xs,SqL X.K H p xs/\k= !xs.isEmpty)\/(∃xs,SqT X.K H p xs/\k= !xs.isEmpty)\/∃kvs,H p=some (.dK kvs)/\k= !kvs.isEmpty:=e;rcases e' with⟨xs,hx,e'⟩|⟨xs,hx,e'⟩|⟨kvs,hx,e'⟩
  ·subst e';obtain⟨its,r,pl,hz⟩:=I.list hx;have hlen:=r.length;exact wpAny_truthy_list pl.isList (by simp only[gW];omega) ⟨H,I.tok _,by rw[isEmpty_of r];exact q⟩
  ·subst e';obtain⟨its,r,pl,hz⟩:=I.tuple hx;have hlen:=r.length;exact truthy_tuple pl (by simp only[gW];omega) ⟨H,I.tok _,by rw[isEmpty_of r];exact q⟩
  ·subst e';obtain⟨hz,hS,vs,r,m⟩:kvs.length<=sizeLine/\(p==sysModules)=false/\∃vs,KV kvs vs/\s.heap.DictOf (mixKind X.prog X.w) p vs:=I.hok p _ hx;have hlen:kvs.length=vs.length:=Paired.length r;exact wpAny_truthy_dict hS m (by omega) ⟨H,I.tok _,by rw[isEmpty_kv r];exact q⟩
 |_=>exact(show False from e).elim
theorem pt_truth(ha:PE X a ta)(he:∀whole,isTrue a X.env whole=(do let v<-whole;standAt a.pos;holding [v] (truthy v))):
  PT X a (fun σ H Q=>ta σ H fun x H'=>∃k,TruV X.K x H' k/\Q k H'):=by
 intro pins s σ H Q I h;exact isTrue_plain (thn (ha pins s σ H _ I h) fun v s1 ⟨x,H1,I1,r1,q1⟩=>tru_ok pins s1 σ H1 x v Q I1 r1 q1) (he _)
theorem vals1{x:V}{us:List Value}(r:Vals [x] us):∃u,us=[u]/\RelV x u:=by
 cases r with
 |cons r1 r2=>cases r2;exact⟨_,rfl,r1⟩
theorem vals2{x y:V}{us:List Value}(r:Vals [x,y] us):∃u w',us=[u,w']/\RelV x u/\RelV y w':=by
 cases r with
 |cons r1 r2=>
  cases r2 with
  |cons r3 r4=>cases r4;exact⟨_,_,rfl,r1,r3⟩
theorem call_abs:CallR X (.builtin "abs") (fun xs H Q=>∃i,xs=[.int i]/\Q (.int (if i<0 then -i else i)) H):=by
 intro pins s σ H xs us Q I r h;obtain⟨i,rfl,q⟩:=h;obtain⟨u,rfl,t,rfl⟩:=vals1 r;exact call_abs_int fun u tk=>⟨.int (if i<0 then -i else i),H,I.tok _,⟨_,rfl⟩,q⟩
theorem call_max2(hc:X.calm=true):CallR X (.builtin "max") (fun xs H Q=>∃i j,xs=[.int i,.int j]/\Q (.int (if j>i then j else i)) H):=by
 intro pins s σ H xs us Q I r h;obtain⟨i,j,rfl,q⟩:=h;obtain⟨u,w',rfl,⟨t,rfl⟩,⟨t',rfl⟩⟩:=vals2 r;refine max_two_ints (I.ok.hd hc) fun h' tk k=>⟨_,H,I.kept k,?_,q⟩;by_cases hj:j>i
 ·rw[aB hj,aB hj];exact⟨_,rfl⟩
 ·rw[aA hj,aA hj];exact⟨_,rfl⟩
theorem call_min2(hc:X.calm=true):CallR X (.builtin "min") (fun xs H Q=>∃i j,xs=[.int i,.int j]/\Q (.int (if j<i then j else i)) H):=by
 intro pins s σ H xs us Q I r h;obtain⟨i,j,rfl,q⟩:=h;obtain⟨u,w',rfl,⟨t,rfl⟩,⟨t',rfl⟩⟩:=vals2 r;refine min_two_ints (I.ok.hd hc) fun h' tk k=>⟨_,H,I.kept k,?_,q⟩;by_cases hj:j<i
 ·rw[aB hj,aB hj];exact⟨_,rfl⟩
 ·rw[aA hj,aA hj];exact⟨_,rfl⟩
end
structure ObjM(h:Heap)(x dx C:Addr)(mA:L4):Prop where
 obj:h.get? x=some (PySem.W.instObj C dx)
 ns:h.Ns1 dx mA
 ne:dx≠x
theorem lookIn_ns{h:Heap}{dx:Addr}{mA:L4}(n:h.Ns1 dx mA):∃od,h.get? dx=some od/\∀name,PySem.W.lookIn name od=some (mA name):=by
 obtain⟨o,es,ep,ho,hd,hk,_,hm⟩:=n;refine⟨o,ho,fun name=> ?_⟩;have e:=hm name;unfold nsFind findBy at e;rw[<-Array.find?_toList]at e;unfold PySem.W.lookIn;rw[hd];dsimp only;split
 ·rename_i y q;rw[q]at e;exact lE some e
 ·rename_i q;rw[q]at e;have a:es.toList.any (·.refKey)=false:=by
   rw[ZF];intro y hy;obtain⟨z,t,hkey⟩:=hk y (Array.mem_toList_iff.mp hy);simp[DictEntry.refKey,hkey]
  have a':¬es.toList.any (·.refKey)=true:=by rw[a];exact uY
  rw[aA a'];exact lE some e
theorem ObjM.look{h:Heap}{x dx C:Addr}{mA:L4}(I:ObjM h x dx C mA):∃od,PySem.W.InstAt h x (PySem.W.instObj C dx) C (some od)/\∀name,PySem.W.lookIn name od=some (mA name):=
 let⟨od,ho,hl⟩:=lookIn_ns I.ns
 ⟨od,⟨I.obj,rfl,rfl,ho⟩,hl⟩
section
variable{prog:Program}{w:World}{A:Around}{E:L3}{s:Shared}{K:W.Frag}{x dx C f:Addr}{mA:L4}{name:Str}{v:Value}
theorem get_map{expr:Bool}{Q:L3}(X:K.In s.heap)(I:ObjM s.heap x dx C mA)(hg:PySem.W.plainGet K C name=true)(hh:PySem.W.hasDictIn K C=true)(ha:PySem.W.findIn K (.ref C) name=some none)(hv:mA name=some v)(hv':PySem.W.handedIn v=true)(h:Q v {s with toks:=s.toks+1}):
  wpAny (model prog w) A (getAttr (.ref x) name expr) Q E s:=by
 obtain⟨od,J,hl⟩:=I.look;exact PySem.W.get_value X J (wdk hg).1 (PySem.W.findObj_own hh ha rfl (by rw[hl,hv])) hv' h
theorem get_meth{pl:Sem Bool}{Q:Value×List Value->Shared->Prop}(X:K.In s.heap)(I:ObjM s.heap x dx C mA)(hg:PySem.W.plainGet K C name=true)(hf:PySem.W.findIn K (.ref C) name=some (some (.ref f)))(ht:PySem.W.isFn K (.ref f)=true)(hv:mA name=none)(h:Q (.ref f,[.ref x]) s):
  wpAny (model prog w) A (getMethod (.ref x) name pl) Q E s:=by
 obtain⟨od,J,hl⟩:=I.look;exact PySem.W.method_fn X J (wdk hg).1 (wdk hg).2 hf (beq_iff_eq.mp ht) (by show(PySem.W.lookIn name od).map (·.isSome)=some false;rw[hl,hv];rfl) h
theorem set_map{ns:List Str}{Q:Unit->Shared->Prop}(X:K.In s.heap)(I:ObjM s.heap x dx C mA)(hs:PySem.W.findIn K (.ref C) "__setattr__"=some (some (.builtin "object.__setattr__")))(hp:PySem.W.plainOver K C=true)(ht:PySem.W.takerIn K C name=some none)(hh:PySem.W.hasDictIn K C=true)(hw:PySem.Within mA ns)(hsz:ns.length<=sizeLine)(h:∀h',ObjM h' x dx C (fun y=>if y=name then some v else mA y)->Heap.SameBut dx s.heap h'->Q () {s with heap:=h',toks:=s.toks+2}):
  wpAny (model prog w) A (setAttr (.ref x) name v) Q E s:=by
 obtain⟨od,J,hl⟩:=I.look;refine PySem.W.set_plain X J hs (PySem.W.osa_open (s:={s with toks:=s.toks+1}) (r:=none) X J hp ht fun b=> ?_);obtain⟨cd,hc,hd'⟩:=PySem.W.any_some hh;have hx:s.heap.get? x=some ⟨.ref C,some dx,.plain,#[]⟩:=I.obj;refine ao (aM (ao (ao (wpAny_loadPart hx (ao (PySem.W.Looks.here (s:={s with toks:=s.toks+1}) (PySem.W.looks_clsIn X hc) ?_))))));rw[hd'];refine aM (a:=some dx) (ao (aM (ao ?_)));refine wpAny_nsSet1 (s:={s with toks:=s.toks+1}) I.ns fun h' hn2 hs2=> ?_;obtain⟨oD,esD,epD,hoD,hdD,hcD⟩:=hn2.count (PySem.Within.cons name v hw);refine ao (wpAny_lookBehind hoD (by rw[hdD];exact pastItsLine_dict (cC hcD (by rw[uz];omega))) ?_);exact aM (h _ ⟨(hs2.2 _ (lO I.ne)).trans I.obj,hn2,I.ne⟩ hs2)
theorem make_map{R:Result->Shared->Prop}{vs:List Value}{kw:List (Str×Value)}(X:K.In s.heap)(hm:PySem.W.makesIn K C=true)(hi:PySem.W.findIn K (.ref C) "__init__"=some (some (.ref f)))(hf:PySem.W.typeIn K (.ref f)=some (.type "function"))(h:codeAny (model prog w) (A.under (.builtin "type.__call__" ⟨.ref C::vs,kw⟩)) (.call (.ref f) ⟨.ref (s.heap.objs.size+1)::vs,kw⟩) (PySem.W.InitBack (s.heap.objs.size+1) R)
   {s with heap:=(s.heap.push PySem.W.emptyDict).push (PySem.W.instObj C s.heap.objs.size)}):
  codeAny (model prog w) A (.call (.ref C) ⟨vs,kw⟩) R s:=by
 obtain⟨hh,g,d,t,os⟩:=s;exact PySem.W.make_core (PySem.W.makes_of X hm) (PySem.W.looks_findIn X hi) (fun self=>PySem.W.bind_fn X self hf) (.inl rfl) h
end
def putF(f:Str)(v:V):List (Str×V)->List (Str×V)
 |[]=>[(f,v)]
 |(g,x)::r=>if g=f then(g,v)::r else(g,x)::putF f v r
theorem lookup_putF(f g:Str)(v:V):∀fs:List (Str×V),(putF f v fs).lookup g=if g=f then some v else fs.lookup g
 |[]=>by
  show List.lookup g [(f,v)]=_;by_cases h:g=f
  ·have hb:(g==f)=true:=beq_iff_eq.mpr h;simp only[List.lookup,hb,aB h]
  ·have hb:(g==f)=false:=beq_eq_false_iff_ne.mpr h;simp only[List.lookup,hb,aA h]
 |(k,x)::r=>by
  have ih:=lookup_putF f g v r;rw[show putF f v ((k,x)::r)=(if k=f then(k,v)::r else(k,x)::putF f v r)from rfl];by_cases hk:k=f
  ·rw[aB hk];by_cases h:g=k
   ·have hb:(g==k)=true:=beq_iff_eq.mpr h;simp only[List.lookup,hb,aB (h.trans hk)]
   ·have hb:(g==k)=false:=beq_eq_false_iff_ne.mpr h;simp only[List.lookup,hb,aA (fun e:g=f=>h (e.trans hk.symm))]
  ·rw[aA hk];by_cases h:g=k
   ·have hb:(g==k)=true:=beq_iff_eq.mpr h;simp only[List.lookup,hb,aA (fun e:g=f=>hk (h.symm.trans e))]
   ·have hb:(g==k)=false:=beq_eq_false_iff_ne.mpr h;simp only[List.lookup,hb];exact ih
theorem keys_putF(f:Str)(v:V):∀fs:List (Str×V),f∈(putF f v fs).map (·.1)/\∀g,g∈fs.map (·.1)->g∈(putF f v fs).map (·.1)
 |[]=>⟨by simp[putF],fun g h=>by simp at h⟩
 |(k,x)::r=>by
  obtain⟨i1,i2⟩:=keys_putF f v r;rw[show putF f v ((k,x)::r)=(if k=f then(k,v)::r else(k,x)::putF f v r)from rfl];by_cases hk:k=f
  ·rw[aB hk];subst hk;exact⟨by simp,fun g h=>by simpa using h⟩
  ·rw[aA hk];refine⟨?_,fun g h=> ?_⟩
   ·rw[HJ];exact jr _ i1
   ·rw[HJ]at h⊢;rcases cJ.mp h with e|e
    ·exact cJ.mpr (.inl e)
    ·exact jr _ (i2 g e)
theorem length_putF(f:Str)(v:V):∀fs:List (Str×V),(putF f v fs).length<=fs.length+1
 |[]=>by simp[putF]
 |(k,x)::r=>by
  have ih:=length_putF f v r;rw[show putF f v ((k,x)::r)=(if k=f then(k,v)::r else(k,x)::putF f v r)from rfl];by_cases hk:k=f
  ·rw[aB hk,uz,uz];omega
  ·rw[aA hk,uz,uz];omega
theorem RelO.some_of{v:V}{o:Option Value}(r:RelO (some v) o):∃u,o=some u/\RelV v u:=by
 cases o with
 |none=>exact(show False from r).elim
 |some u=>exact⟨u,rfl,r⟩
theorem RelO.none_of{o:Option Value}(r:RelO none o):o=none:=by
 cases o with
 |none=>rfl
 |some u=>exact(show False from r).elim
theorem handed_of{v:V}{u:Value}(r:RelV v u):PySem.W.handedIn u=true:=by
 cases v with
 |non=>cases(show u=Value.none from r);rfl
 |bl b=>cases(show u=Value.bool b from r);rfl
 |int i=>obtain⟨t,e⟩:=(show∃t,u=Value.int i t from r);cases e;rfl
 |str x=>obtain⟨t,e⟩:=(show∃t,u=Value.str x t from r);cases e;rfl
 |byt b=>obtain⟨t,e⟩:=(show∃t,u=Value.bytes b t from r);cases e;rfl
 |flt b=>obtain⟨t,e⟩:=(show∃t,u=Value.float b t from r);cases e;rfl
 |ref a=>cases(show u=Value.ref a from r);rfl
 |ty n=>cases(show u=Value.type n from r);rfl
section
variable{P:Program}{w:World}{H:Hp}{h:Heap}{a C dx:Addr}{fs:List (Str×V)}
theorem ins_get(hok:HOk P w H h)(e:H a=some (.ins C dx fs)):∃mA,ObjM h a dx C mA/\(∀f,RelO (fs.lookup f) (mA f))/\PySem.Within mA (fs.map (·.1))/\fs.length<=1000/\H dx=some (.own a):=by
 obtain⟨d,z,ne,ob,mA,n,r,q⟩:=(show ObjOk P w H h a (.ins C dx fs)from hok a _ e);exact⟨mA,⟨ob,n,ne⟩,r,q,z,d⟩
end
structure Cls(K:W.Frag)(C:Addr):Prop where
 pg:PySem.W.plainGet K C Str.empty=true
 hd:PySem.W.hasDictIn K C=true
 po:PySem.W.plainOver K C=true
 sa:PySem.W.findIn K (.ref C) "__setattr__"=some (some (.builtin "object.__setattr__"))
theorem Cls.get{K:W.Frag}{C:Addr}(c:Cls K C)(f:Str):PySem.W.plainGet K C f=true:=c.pg
def NoAttr(K:W.Frag)(C:Addr)(f:Str):Prop:=PySem.W.findIn K (.ref C) f=some none
theorem NoAttr.taker{K:W.Frag}{C:Addr}{f:Str}(n:NoAttr K C f):PySem.W.takerIn K C f=some none:=by
 unfold PySem.W.takerIn;rw[show PySem.W.findIn K (.ref C) f=some none from n];rfl
structure Meth(K:W.Frag)(C:Addr)(m:Str)(f:Addr):Prop where
 at_:PySem.W.findIn K (.ref C) m=some (some (.ref f))
 fn:PySem.W.isFn K (.ref f)=true
 kp:PySem.W.keepIn K (.ref f)=true
section
variable{X:Cx}{pins:L1}{σ:St}{H:Hp}{s:Shared}{a C dx:Addr}{fs:List (Str×V)}{f:Str}{v:V}{A:Around}{E:L3}
theorem getattr_ok{b:Bool}{Q:L3}(I:Inv X pins σ H s)(e:H a=some (.ins C dx fs))(c:Cls X.K C)(n:NoAttr X.K C f)(l:fs.lookup f=some v)(h:∀u s',Inv X pins σ H s'->RelV v u->Q u s'):wpAny (model X.prog X.w) A (getAttr (.ref a) f b) Q E s:=by
 obtain⟨mA,O,r,_,_,_⟩:=ins_get I.hok e;obtain⟨u,hu,ru⟩:=RelO.some_of (v:=v) (o:=mA f) (by rw[<-l];exact r f);exact get_map I.kIn O (c.get f) c.hd n hu (handed_of ru) (h u _ (I.tok _) ru)
theorem getmeth_ok{m:Str}{g:Addr}{pl:Sem Bool}{Q:Value×List Value->Shared->Prop}(I:Inv X pins σ H s)(e:H a=some (.ins C dx fs))(c:Cls X.K C)(k:Meth X.K C m g)(l:fs.lookup m=none)(h:Q (.ref g,[.ref a]) s):wpAny (model X.prog X.w) A (getMethod (.ref a) m pl) Q E s:=by
 obtain⟨mA,O,r,_,_,_⟩:=ins_get I.hok e;have hn:mA m=none:=RelO.none_of (by rw[<-l];exact r m);exact get_meth I.kIn O (c.get m) k.at_ k.fn hn h
theorem setattr_ok{y:V}{u:Value}{Q:Unit->Shared->Prop}(I:Inv X pins σ H s)(e:H a=some (.ins C dx fs))(c:Cls X.K C)(n:NoAttr X.K C f)(hl:fs.length<1000)(ry:RelV y u)(h:∀s',Inv X pins σ (upd H a (.ins C dx (putF f y fs))) s'->Q () s'):wpAny (model X.prog X.w) A (setAttr (.ref a) f u) Q E s:=by
 obtain⟨mA,O,r,wi,_,ho⟩:=ins_get I.hok e;have hz:(fs.map (·.1)).length<=sizeLine:=by rw[aJ,eX];omega
 refine set_map I.kIn O c.sa c.po n.taker c.hd wi hz fun h' O' sb=>h _ ?_;have hd:∃o,h'.get? dx=some o:=let⟨o,_,_,e',_⟩:=O'.ns;⟨o,e'⟩;refine I.write (x:=a) (e:=dx) (by rw[e];exact True.intro) (.inr ho) (fun b q hb z=>(sb.2 b hb).trans z) hd ?_;refine⟨by rw[cD O.ne];exact ho,?_,O.ne,O'.obj,_,O'.ns,fun g=> ?_,fun g hg=> ?_⟩
 ·have:=length_putF f y fs;omega
 ·show RelO ((putF f y fs).lookup g) (if g=f then some u else mA g);rw[lookup_putF];by_cases q:g=f
  ·rw[aB q,aB q];exact ry
  ·rw[aA q,aA q];exact r g
 ·by_cases q:g=f
  ·rw[q];exact(keys_putF f y fs).1
  ·refine(keys_putF f y fs).2 g (wi g fun z=>hg ?_);show(if g=f then some u else mA g)=none;rw[aA q];exact z
theorem Inv.made(I:Inv X pins σ H s):Inv X pins σ (upd (upd H s.heap.objs.size (.own (s.heap.objs.size+1))) (s.heap.objs.size+1) (.ins C s.heap.objs.size []))
  {s with heap:=(s.heap.push PySem.W.emptyDict).push (PySem.W.instObj C s.heap.objs.size)}:=by
 have e1:(s.heap.push PySem.W.emptyDict).get? s.heap.objs.size=some PySem.W.emptyDict:=gY s.heap rfl;have e2:((s.heap.push PySem.W.emptyDict).push (PySem.W.instObj C s.heap.objs.size)).get? (s.heap.objs.size+1)=some (PySem.W.instObj C s.heap.objs.size):=by
  have:=gY (s.heap.push PySem.W.emptyDict) (o:=PySem.W.instObj C s.heap.objs.size) rfl
  rwa [rQ]at this
 have e3:(s.heap.push PySem.W.emptyDict).Ns s.heap.objs.size (fun _=>none):=⟨PySem.W.emptyDict,#[],_,e1,rfl,(fun e he=>absurd he (by simp)),fun _=>rfl⟩;have I1:=I.laid (a:=s.heap.objs.size) (o:= .own (s.heap.objs.size+1)) (h':=s.heap.push PySem.W.emptyDict) (t':=s.toks) (fun b u q=>cL _ q) (aN _) ⟨_,e1⟩;refine I1.laid (a:=s.heap.objs.size+1) (o:= .ins C s.heap.objs.size []) (t':=s.toks) (fun b u q=>cL _ q) (Dy (rQ _ _)) ?_;have ne:s.heap.objs.size≠s.heap.objs.size+1:=dB (ur _);refine⟨by rw[cD ne,aD],cG _,ne,e2,fun _=>none,(Heap.Ns1.of_empty e3).at fun o q=>cL _ q,fun _=>True.intro,fun y hy=>absurd rfl hy⟩
theorem attr_of{prog:Program}{w:World}{env:Env}{e:Expr}{f:Str}{pos:Pos}{s:Shared}{Q:L3}(hb:attributeBase e f env (eval e env)=eval e env)(h:wpAny (model prog w) A (eval e env) (fun o s₁=>wpAny (model prog w) A (getAttr o f true) Q E s₁) E s):wpAny (model prog w) A (eval (.Attribute e f pos) env) Q E s:=
 Attribute_any_ h (by rw[arm_eval_Attribute,hb])
end
def tFld(K:W.Frag)(ta:TE)(f:Str):TE:=fun σ H Q=>ta σ H fun x H1=>∃a C dx fs v,x= .ref a/\H1 a=some (.ins C dx fs)/\Cls K C/\NoAttr K C f/\fs.lookup f=some v/\Q v H1
def sFld(K:W.Frag)(ta tv:TE)(f:Str):TS:=fun D σ H=>tv σ H fun y H1=>ta σ H1 fun x H2=>∃a C dx fs,x= .ref a/\H2 a=some (.ins C dx fs)/\Cls K C/\NoAttr K C f/\fs.length<1000/\
 D.nx σ (upd H2 a (.ins C dx (putF f y fs)))
section
variable{X:Cx}{o e value:Expr}{f:Str}{pos pos':Pos}{ta tv:TE}
theorem pL(he:PE X e ta)(hb:attributeBase e f X.env (eval e X.env)=eval e X.env):PE X (.Attribute e f pos) (tFld X.K ta f):=by
 intro pins s σ H Q I h;refine attr_of hb (thn (he pins s σ H _ I h) fun u s1 ⟨x,H1,I1,rx,a,C,dx,fs,v,ex,ea,c,n,l,q⟩=> ?_);subst ex;obtain rfl:u=Value.ref a:=rx;exact getattr_ok I1 ea c n l fun u' s2 I2 ru=>⟨v,H1,I2,ru,q⟩
theorem ps_fld(ha:PE X o ta)(hv:PE X value tv)(hs:swapsWith value (some (.Attribute o f pos')) pos.line X.env=pure false):PS X (.Assign [.Attribute o f pos'] value pos) (sFld X.K ta tv f):=by
 intro pins s σ H D I h;refine plainObj_wpAny_Assign_Attribute (thn (hv pins s σ H _ I h) fun u s1 ⟨y,H1,I1,ry,q⟩=>thn (ha pins s1 σ H1 _ I1 q) fun ov s2 ⟨x,H2,I2,rx,a,C,dx,fs,ex,ea,c,n,l,q2⟩=> ?_) hs;subst ex;obtain rfl:ov=Value.ref a:=rx;exact setattr_ok I2 ea c n l ry fun s3 I3=>⟨σ,_,I3,q2⟩
end
structure Room(k:Nat)(A:Around):Prop where
 hd:A.handled=none
 dp:A.depth+3*k+5<recursionLimit
 un:A.units+16*k+200<cLine
 gd:A.guards=some []
theorem Room.mono{j k:Nat}{A:Around}(r:Room k A)(h:j<=k):Room j A:=⟨r.hd,by have:=r.dp;omega,by have:=r.un;omega,r.gd⟩
theorem Room.deeper{k:Nat}{A:Around}(r:Room (k+1) A)(env:Env):Room k (A.deeper env):=
 ⟨r.hd,by have:=r.dp;show A.depth+1+3*k+5<_;omega,by have:=r.un;show A.units+3+16*k+200<_;omega,r.gd⟩
theorem make_depth{A:Around}{C:Addr}{us:List Value}{kw:List (Str×Value)}:(A.under (.builtin "type.__call__" ⟨.ref C::us,kw⟩)).depth=A.depth+1:=by
 first |rfl|simp[Around.under,Code.weight,Code.isCreation,Code.isGuard,Code.isCaller,Code.frames,Code.isFrame,guardIds]
theorem make_units{A:Around}{C:Addr}{us:List Value}{kw:List (Str×Value)}:(A.under (.builtin "type.__call__" ⟨.ref C::us,kw⟩)).units=A.units+1:=by
 first |rfl|simp[Around.under,Code.cUnits,Code.frames,Code.isFrame]
theorem Room.make{k:Nat}{A:Around}(r:Room (k+1) A)(C:Addr)(us:List Value)(kw:List (Str×Value)):Room k (A.under (.builtin "type.__call__" ⟨.ref C::us,kw⟩)):=
 ⟨r.hd,by have:=r.dp;rw[make_depth];omega,by have:=r.un;rw[make_units];omega,by
  have q:=r.gd
  first |exact q|(simp[Around.under,Code.isGuard,guardIds];exact q)|(unfold Around.under;simp[Code.isGuard,guardIds,q])⟩
theorem Room.depth{k:Nat}{A:Around}(r:Room k A):A.depth<recursionLimit:=by have:=r.dp;omega
theorem Room.units{k:Nat}{A:Around}(r:Room k A):A.units+64<cLine:=by have:=r.un;omega
theorem Room.units0{k:Nat}{A:Around}(r:Room k A):A.units<cLine:=by have:=r.un;omega
def tNil:TA:=fun _ H Q=>Q [] H
def tCons(ta:TE)(tr:TA):TA:=fun σ H Q=>ta σ H fun x H1=>tr σ H1 fun xs H2=>Q (x::xs) H2
section
variable{X:Cx}{e:Expr}{es:List Expr}{te:TE}{t:TA}{pos:Pos}
theorem ak:PA X [] tNil:=fun _ _ _ _ H Q I h=>Wq ⟨[],H,I,.nil,h⟩
theorem aj(ha:PE X e te)(hr:PA X es t)(hs:starEach (e::es) X.env=(false,eval e X.env)::starEach es X.env:=by rfl):PA X (e::es) (tCons te t):=by
 intro pos pins s σ H Q I h;rw[hs];show wpAny _ _ (spliced ((false,eval e X.env)::backTo pos (starEach es X.env))) _ _ s;refine ZJ (thn (ha pins s σ H _ I h) fun u s1 ⟨x,H1,I1,r1,q1⟩=> ?_);exact thn (hr pos pins s1 σ H1 _ I1 q1) fun us s2 ⟨xs,H2,I2,r2,q2⟩=>⟨x::xs,H2,I2,.cons r1 r2,q2⟩
def tTup(t:TA):TE:=fun σ H Q=>t σ H fun xs H1=>xs.length<=sizeLine/\∀p,H1 p=none->Q (.ref p) (upd H1 p (.tup xs))
def tLst(t:TA):TE:=fun σ H Q=>t σ H fun xs H1=>xs.length<=sizeLine/\∀p,H1 p=none->Q (.ref p) (upd H1 p (.lst xs))
theorem fY{x1}(h:PA X es t):PE X (.Tuple es x1 pos) (tTup t):=by
 intro pins s σ H Q I hq;refine wpAny_Tuple_spliced (thn (h pos pins s σ H _ I hq) fun us s1 ⟨xs,H1,I1,r,z,q⟩=>⟨by rw[<-r.length];exact z,?_⟩);have hf:H1 s1.heap.objs.size=none:=I1.hok.fresh (aN _);refine⟨.ref s1.heap.objs.size,upd H1 s1.heap.objs.size (.tup xs),I1.laid (t':=s1.toks) (fun b u e=>cL _ e) (aN _) ?_,rfl,q _ hf⟩;exact⟨z,us,r,⟨_,gY _ rfl,rfl,_,rfl⟩⟩
theorem qH(h:PA X es t):PE X (.List es pos) (tLst t):=by
 intro pins s σ H Q I hq;refine wpAny_List_spliced (thn (h pos pins s σ H _ I hq) fun us s1 ⟨xs,H1,I1,r,z,q⟩=>⟨by rw[<-r.length];exact z,?_⟩);have hf:H1 s1.heap.objs.size=none:=I1.hok.fresh (aN _);refine⟨.ref s1.heap.objs.size,upd H1 s1.heap.objs.size (.lst xs),I1.laid (t':=s1.toks) (fun b u e=>cL _ e) (aN _) ?_,rfl,q _ hf⟩;exact⟨z,us,0,r,gY _ rfl⟩
end
abbrev Sp:=List V->Hp->VK->XK->Prop
abbrev CXT:=List Env->Hp->Shared->XK->Value->Shared->Prop
structure Env0(P:Program)(w:World)(K:W.Frag)(mg:L4)(base:Heap)(A:Around)(outer:List Env)(s:Shared)(H:Hp):Prop where
 frames:A.frames=some outer
 mod:Mod K mg base
 bs:∀b o,base.get? b=some o->s.heap.get? b=some o/\H b=none
 bsz:base.objs.size<=s.heap.objs.size
 funs:s.heap.FunFrames base outer
 frf:∀b∈frs outer,H b=none
 hok:HOk P w H s.heap
 bare:AllBare s.gens
def CE(outer:List Env)(P:Program)(w:World)(H:Hp)(s:Shared)(Q:VK)(u:Value)(s':Shared):Prop:=
 ∃v H',s'.os=s.os/\AllBare s'.gens/\Un (frs outer) [] H H' s.heap s'.heap/\HOk P w H' s'.heap/\RelV v u/\Q v H'
def CR(CX:CXT)(outer:List Env)(P:Program)(w:World)(H:Hp)(s:Shared)(Q:VK)(E:XK)(r:Result)(s':Shared):Prop:=
 match r with
 | .ok (.ret u)=>CE outer P w H s Q u s'
 | .ok _=>False
 | .error e=>CX outer H s E e s'
structure FnOk(P:Program)(w:World)(K:W.Frag)(mg:L4)(base:Heap)(CX:CXT)(k:Nat)(f:Addr)(fd:FuncData)(ps:List Str)(sp:Sp):Prop where
 len:∀vs H Q E,sp vs H Q E->vs.length=ps.length
 run:∀(A:Around) (outer:List Env) (s:Shared) (H:Hp) (args:Args) (us:List Value) (vs:List V) (Q:VK) (E:XK),Room k A->Env0 P w K mg base A outer s H->BindsTo s fd args (ps.zip us)->Vals vs us->sp vs H Q E->
  codeAny (model P w) A (.call (.ref f) args) (CR CX outer P w H s Q E) s
theorem FnOk.mono{P:Program}{w:World}{K:W.Frag}{mg:L4}{base:Heap}{CX:CXT}{j k:Nat}{f:Addr}{fd:FuncData}{ps:List Str}{sp:Sp}(F:FnOk P w K mg base CX j f fd ps sp)(h:j<=k):
  FnOk P w K mg base CX k f fd ps sp:=⟨F.len,fun A outer s H args us vs Q E hr=>F.run A outer s H args us vs Q E (hr.mono h)⟩
theorem Env0.make{P:Program}{w:World}{K:W.Frag}{mg:L4}{base:Heap}{A:Around}{outer:List Env}{s:Shared}{H:Hp}(e:Env0 P w K mg base A outer s H)(C:Addr)(us:List Value)(kw:List (Str×Value)):
  Env0 P w K mg base (A.under (.builtin "type.__call__" ⟨.ref C::us,kw⟩)) outer s H:=⟨by first |exact e.frames|(simpa[Around.under,Code.envs,Code.isFrame,pushEnvs]using e.frames),e.mod,e.bs,e.bsz,e.funs,e.frf,e.hok,e.bare⟩
section
variable{X:Cx}{pins:L1}{σ:St}{H:Hp}{s s':Shared}
theorem Inv.env0(I:Inv X pins σ H s):Env0 X.prog X.w X.K X.mg X.base X.A X.stack s H:=
 ⟨I.ok.frames,I.ok.mod,I.bs,cC I.ok.bsz I.sz,I.stack,I.stkFree,I.hok,I.bare⟩
theorem Inv.after{Q:VK}{u:Value}(I:Inv X pins σ H s)(h:CE X.stack X.prog X.w H s Q u s'):EP X pins σ Q u s':=by
 obtain⟨v,H',os,bare,un,hok,r,q⟩:=h;obtain⟨hh,g,d,t,os'⟩:=s';obtain rfl:os'=s.os:=os;exact⟨v,H',I.call (h':=hh) (g':=g) (d':=d) (t':=t) (ch:=[]) un hok bare (fun b z=>absurd z (by simp)),r,q⟩
end
def tCall(sp:Sp)(dvs:List V)(E:XK)(t:TA):TE:=fun σ H Q=>t σ H fun vs H1=>sp (vs++dvs) H1 Q E
def tMeth(C:Addr)(m:Str)(sp:Sp)(dvs:List V)(E:XK)(ta:TE)(t:TA):TE:=fun σ H Q=>ta σ H fun x H1=>∃a dx fs,x= .ref a/\H1 a=some (.ins C dx fs)/\fs.lookup m=none/\
 t σ H1 fun vs H2=>sp (x::(vs++dvs)) H2 Q E
def tMake(C:Addr)(sp:Sp)(dvs:List V)(E:XK)(t:TA):TE:=fun σ H Q=>t σ H fun vs H1=>∀x dx,H1 x=none->H1 dx=none->dx≠x->
 sp (.ref x::(vs++dvs)) (upd (upd H1 dx (.own x)) x (.ins C dx [])) (fun v H2=>v= .non/\Q (.ref x) H2) E
def Binds(K:W.Frag)(fd:FuncData)(ps:List Str)(ds:List Value):Prop:=
 ∀(s:Shared) (us:List Value),K.In s.heap->(us++ds).length=ps.length->BindsTo s fd ⟨us,[]⟩ (ps.zip (us++ds))
theorem Binds.all{K:W.Frag}{fd:FuncData}{ps:List Str}(h:∀us:List Value,us.length=ps.length->bindArgs fd ⟨us,[]⟩=pure (ps.zip us)):Binds K fd ps []:=fun s us _ hl=>by
 rw[Ay]at hl⊢;exact .of_eq (h us hl)
def Passes(CX:CXT)(X:Cx)(E:XK):Prop:=∀(pins:L1) (σ:St) (H:Hp) (s:Shared) (e:Value) (s':Shared),Inv X pins σ H s->CX X.stack H s E e s'->X.xe e s'
section
variable{X:Cx}{CX:CXT}{k:Nat}{f C:Addr}{fd:FuncData}{ps:List Str}{sp:Sp}{dvs:List V}{ds:List Value}{E:XK}{x m:Str}{p pos apos:Pos}{e o:Expr}{es:List Expr}{ta:TE}{t:TA}
theorem run_fn{pins:L1}{σ:St}{H:Hp}{s:Shared}{Q:VK}{us:List Value}{vs:List V}(F:FnOk X.prog X.w X.K X.mg X.base CX k f fd ps sp)(hr:Room k X.A)(hb:Binds X.K fd ps ds)(hd:Vals dvs ds)(hx:Passes CX X E)
  (I:Inv X pins σ H s)(r:Vals vs us)(h:sp (vs++dvs) H Q E):wpAny (model X.prog X.w) X.A (call (.ref f) us) (EP X pins σ Q) X.xe s:=by
 have r2:Vals (vs++dvs) (us++ds):=r.append hd;have hl:(us++ds).length=ps.length:=by rw[<-r2.length];exact F.len _ _ _ _ h
 refine wpAny_call (Qw (F.run X.A X.stack s H ⟨us,[]⟩ (us++ds) (vs++dvs) Q E hr I.env0 (hb s us I.kIn hl) r2 h) fun r s' hq=> ?_);cases r with
 |error e=>exact hx pins σ H s e s' I hq
 |ok fl=>
  cases fl with
  |ret u=>exact I.after hq
  |next=>exact False.elim hq
  |brk=>exact False.elim hq
  |cont=>exact False.elim hq
theorem pe_call(F:FnOk X.prog X.w X.K X.mg X.base CX k f fd ps sp)(hr:Room k X.A)(hg:Gl X x)(hm:X.mg x=some (.ref f))(hk:PySem.W.keepIn X.K (.ref f)=true)(hb:Binds X.K fd ps ds)(hd:Vals dvs ds)(hx:Passes CX X E)(ha:PA X (e::es) t)(hdb:(x==("__debug__":Str))=false:=by decide)(he:starEach (e::es) X.env=(false,eval e X.env)::starEach es X.env:=by rfl)(hpl:(backTo pos (starEach es X.env)).any (·.1)=false:=by rfl):
  PE X (.Call (.Name x p) (e::es) [] pos) (tCall sp dvs E t):=by
 intro pins s σ H Q I h;refine RN (ld_glob I hg hm ?_ hdb);refine wdv (h₀:=X.base) I.ok.mod.kin hk (thn (ha pos pins s σ H _ I h) fun us s1 ⟨vs,H1,I1,r,q⟩=>⟨I1.kIn,?_⟩) he hpl;exact run_fn F hr hb hd hx I1 r q
theorem pe_meth{pl:Sem Bool}(he:PE X o ta)(c:Cls X.K C)(hm:Meth X.K C m f)(F:FnOk X.prog X.w X.K X.mg X.base CX k f fd ps sp)(hr:Room k X.A)(hb:Binds X.K fd ps ds)(hd:Vals dvs ds)(hx:Passes CX X E)(ha:PA X (e::es) t)(hst:starEach (e::es) X.env=(false,eval e X.env)::starEach es X.env:=by rfl)(hpl:(backTo pos (starEach es X.env)).any (·.1)=false:=by rfl)(ht:eval (.Call (.Attribute o m apos) (e::es) [] pos) X.env=(do
   let ov<-eval o X.env
   standAt apos.atName
   let(f,first)<-holding [ov] (getMethod ov m pl)
   callWith pos f first (backTo pos (starEach (e::es) X.env)) (backToKw pos (keywordEach [] X.env))):=by rfl):
  PE X (.Call (.Attribute o m apos) (e::es) [] pos) (tMeth C m sp dvs E ta t):=by
 intro pins s σ H Q I h;refine wfk (pl:=pl) (thn (he pins s σ H _ I h) fun u s1 ⟨x,H1,I1,rx,a,dx,fs,ex,ea,l,q⟩=> ?_) ht;subst ex;obtain rfl:u=Value.ref a:=rx;refine getmeth_ok I1 ea c hm l ?_;refine wdv (first:=[.ref a]) (h₀:=X.base) I.ok.mod.kin hm.kp (thn (ha pos pins s1 σ H1 _ I1 q) fun us s2 ⟨vs,H2,I2,r,q2⟩=>⟨I2.kIn,?_⟩) hst hpl;exact run_fn (us:= .ref a::us) (vs:= .ref a::vs) F hr hb hd hx I2 (.cons rfl r) q2
theorem pe_meth0{pl:Sem Bool}(he:PE X o ta)(c:Cls X.K C)(hm:Meth X.K C m f)(F:FnOk X.prog X.w X.K X.mg X.base CX k f fd ps sp)(hr:Room k X.A)(hb:Binds X.K fd ps ds)(hd:Vals dvs ds)(hx:Passes CX X E)(ht:eval (.Call (.Attribute o m apos) [] [] pos) X.env=(do
   let ov<-eval o X.env
   standAt apos.atName
   let(f,first)<-holding [ov] (getMethod ov m pl)
   callWith pos f first (backTo pos (starEach [] X.env)) (backToKw pos (keywordEach [] X.env))):=by rfl):
  PE X (.Call (.Attribute o m apos) [] [] pos) (tMeth C m sp dvs E ta tNil):=by
 intro pins s σ H Q I h;refine wfk (pl:=pl) (thn (he pins s σ H _ I h) fun u s1 ⟨x,H1,I1,rx,a,dx,fs,ex,ea,l,q⟩=> ?_) ht;subst ex;obtain rfl:u=Value.ref a:=rx;refine getmeth_ok I1 ea c hm l ?_;exact PySem.W.callWith_K0 (first:=[.ref a]) I1.kIn hm.kp (run_fn (us:=[.ref a]) (vs:=[.ref a]) F hr hb hd hx I1 (.cons rfl .nil) q)
structure Mk(K:W.Frag)(C f:Addr):Prop where
 makes:PySem.W.makesIn K C=true
 init:PySem.W.findIn K (.ref C) "__init__"=some (some (.ref f))
 fn:PySem.W.isFn K (.ref f)=true
 kp:PySem.W.keepIn K (.ref C)=true
theorem run_make{pins:L1}{σ:St}{H:Hp}{s:Shared}{Q:VK}{us:List Value}{vs:List V}(M:Mk X.K C f)(F:FnOk X.prog X.w X.K X.mg X.base CX k f fd ps sp)(hr:Room (k+1) X.A)(hb:Binds X.K fd ps ds)(hd:Vals dvs ds)(hx:Passes CX X E)(I:Inv X pins σ H s)(r:Vals vs us)(h:∀x dx,H x=none->H dx=none->dx≠x->sp (.ref x::(vs++dvs)) (upd (upd H dx (.own x)) x (.ins C dx [])) (fun v H2=>v= .non/\Q (.ref x) H2) E):
  wpAny (model X.prog X.w) X.A (call (.ref C) us) (EP X pins σ Q) X.xe s:=by
 have hq:=h (s.heap.objs.size+1) s.heap.objs.size (I.hok.fresh (HF _)) (I.hok.fresh (aN _)) (dB (ur _));have I2:=Inv.made (C:=C) I;have r2:Vals (V.ref (s.heap.objs.size+1)::(vs++dvs)) (Value.ref (s.heap.objs.size+1)::(us++ds)):= .cons rfl (r.append hd);have hl:(Value.ref (s.heap.objs.size+1)::us++ds).length=ps.length:=by
  have e:=r2.length;rw[F.len _ _ _ _ hq]at e;exact e.symm
 refine wpAny_call (make_map (f:=f) I.kIn M.makes M.init (beq_iff_eq.mp M.fn) (Qw (F.run _ X.stack _ _ ⟨Value.ref (s.heap.objs.size+1)::us,[]⟩ (Value.ref (s.heap.objs.size+1)::(us++ds)) _ _ E (hr.make C us [])
  (I2.env0.make C us []) (hb _ (Value.ref (s.heap.objs.size+1)::us) I2.kIn hl) r2 hq) fun r s' hq'=> ?_))
 cases r with
 |error e=>exact hx pins σ _ _ e s' I2 hq'
 |ok fl=>
  cases fl with
  |ret u=>
   obtain⟨v,H',I3,rv,ev,q3⟩:=I2.after hq';subst ev;exact⟨rv,⟨V.ref (s.heap.objs.size+1),H',I3,rfl,q3⟩⟩
  |next=>exact False.elim hq'
  |brk=>exact False.elim hq'
  |cont=>exact False.elim hq'
theorem pe_make(M:Mk X.K C f)(F:FnOk X.prog X.w X.K X.mg X.base CX k f fd ps sp)(hr:Room (k+1) X.A)(hg:Gl X x)(hm:X.mg x=some (.ref C))(hb:Binds X.K fd ps ds)(hd:Vals dvs ds)(hx:Passes CX X E)(ha:PA X (e::es) t)(hdb:(x==("__debug__":Str))=false:=by decide)(he:starEach (e::es) X.env=(false,eval e X.env)::starEach es X.env:=by rfl)(hpl:(backTo pos (starEach es X.env)).any (·.1)=false:=by rfl):
  PE X (.Call (.Name x p) (e::es) [] pos) (tMake C sp dvs E t):=by
 intro pins s σ H Q I h;refine RN (ld_glob I hg hm ?_ hdb);refine wdv (h₀:=X.base) I.ok.mod.kin M.kp (thn (ha pos pins s σ H _ I h) fun us s1 ⟨vs,H1,I1,r,q⟩=>⟨I1.kIn,?_⟩) he hpl;exact run_make M F hr hb hd hx I1 r q
end
structure FnScope(N P:List Str)(sc:Scope):Prop where
 kind:sc.kind= .function
 co:sc.isCoroutine=false
 gen:sc.isGenerator=false
 nd:N.Nodup
 pre:N.take P.length=P
 par:∀x∈P,sc.names.lookup x=some .local\/sc.names.lookup x=some .cell
 nofree:∀y∈sc.names,y.2≠.free
theorem bindL_out{kindOf:Str->Option NameKind}{x:Str}:∀{binds:List (Str×Value)} {m:L4},(∀v,(x,v)∉binds)->bindL kindOf binds m x=m x
 |[],_,_=>rfl
 |(n,v)::r,m,h=>by
  unfold bindL;rw[bindL_out fun w hw=>h w (jr _ hw)];split
  ·have:x≠n:=by rintro rfl;exact h v nG
   simp[this]
  ·rfl
theorem bindC_out{kindOf:Str->Option NameKind}{x:Str}:∀{binds:List (Str×Value)} {m:L4},(∀v,(x,v)∉binds)->bindC kindOf binds m x=m x
 |[],_,_=>rfl
 |(n,v)::r,m,h=>by
  unfold bindC;rw[bindC_out fun w hw=>h w (jr _ hw)];split
  ·rfl
  ·have:x≠n:=by rintro rfl;exact h v nG
   simp[this]
theorem bindL_get{kindOf:Str->Option NameKind}{x:Str}{v:Value}:∀{P:List Str} {vs:List Value} {i:Nat} {m:L4},P.Nodup->P[i]? =some x->vs[i]? =some v->kindOf x=some .local->
  bindL kindOf (P.zip vs) m x=some v
 |[],_,_,_,_,h,_,_=>by simp at h
 |_::_,[],_,_,_,_,h,_=>by simp at h
 |p::P,w::vs,0,m,nd,h1,h2,hk=>by
  simp at h1 h2;subst h1;subst h2;show bindL kindOf ((p,w)::P.zip vs) m p=_;unfold bindL;rw[bindL_out fun v hv=>(Il.mp nd).1 (wfl hv).1,aB hk];simp
 |p::P,w::vs,i+1,m,nd,h1,h2,hk=>by
  show bindL kindOf ((p,w)::P.zip vs) m x=_;unfold bindL;exact bindL_get (i:=i) (Il.mp nd).2 (by simpa using h1) (by simpa using h2) hk
theorem bindC_get{kindOf:Str->Option NameKind}{x:Str}{v:Value}:∀{P:List Str} {vs:List Value} {i:Nat} {m:L4},P.Nodup->P[i]? =some x->vs[i]? =some v->kindOf x≠some .local->
  bindC kindOf (P.zip vs) m x=some v
 |[],_,_,_,_,h,_,_=>by simp at h
 |_::_,[],_,_,_,_,h,_=>by simp at h
 |p::P,w::vs,0,m,nd,h1,h2,hk=>by
  simp at h1 h2;subst h1;subst h2;show bindC kindOf ((p,w)::P.zip vs) m p=_;unfold bindC;rw[bindC_out fun v hv=>(Il.mp nd).1 (wfl hv).1,aA hk];simp
 |p::P,w::vs,i+1,m,nd,h1,h2,hk=>by
  show bindC kindOf ((p,w)::P.zip vs) m x=_;unfold bindC;exact bindC_get (i:=i) (Il.mp nd).2 (by simpa using h1) (by simpa using h2) hk
def start(N:List Str)(vs:List V):St:=vs.map some++List.replicate (N.length-vs.length) none
def cxOf(CX:CXT)(P:Program)(w:World)(K:W.Frag)(mg:L4)(base:Heap)(N:List Str)(qual:Str)(scope:Scope)(f:Addr)(cd:Value)(A:Around)(outer:List Env)(s:Shared)(H:Hp)(E:XK):Cx where
 prog:=P
 w:=w
 K:=K
 mg:=mg
 base:=base
 A:=A.deeper (envOfC qual scope s.heap.objs.size f cd)
 N:=N
 s₀:=s
 H₀:=H
 env:=envOfC qual scope s.heap.objs.size f cd
 outer:=outer
 stack:=envOfC qual scope s.heap.objs.size f cd::outer
 ex:=[]
 calm:=true
 fn:=fun _=>true
 pn:=[]
 xe:=fun e s'=>wpAny (model P w) (A.deeper (envOfC qual scope s.heap.objs.size f cd)) (leaving (envOfC qual scope s.heap.objs.size f cd) e) (fun _ s''=>CX outer H s E e s'') (fun e' s''=>CX outer H s E e' s'') s'
theorem cell_has{sc:Scope}{n:Nat}{x:Str}(h:sc.names.lookup x=some .cell):∃c,(cellsFrom n sc.names []).lookup x=some c:=by
 have q:=wfg sc.names n [] (.inl h);exact Option.isSome_iff_exists.mp q
theorem inv_start{CX:CXT}{P:Program}{w:World}{K:W.Frag}{mg:L4}{base:Heap}{N ps:List Str}{qual:Str}{scope:Scope}{f:Addr}{cd:Value}{A:Around}{outer:List Env}{s s1:Shared}{H:Hp}{E:XK}{us:List Value}{vs:List V}
  (S:FnScope N ps scope)(hd:A.handled=none)(e0:Env0 P w K mg base A outer s H)(hl:vs.length=ps.length)(r:Vals vs us)(x:InCallC s s.heap.objs.size (bindL (envOfC qual scope s.heap.objs.size f cd).kindOf (ps.zip us) fun _=>none) (cellsFrom (s.heap.objs.size+1) scope.names []) (bindC (envOfC qual scope s.heap.objs.size f cd).kindOf (ps.zip us) fun _=>none) s1):
  Inv (cxOf CX P w K mg base N qual scope f cd A outer s H E) [] (start N vs) H s1:=by
 have hpl:ps.length<=N.length:=by have:=lE List.length S.pre;rw[xU]at this;omega
 obtain⟨h1,tk,rfl,hk⟩:=x.done;have noA:∀b:Addr,b∉(cxOf CX P w K mg base N qual scope f cd A outer s H E).ex:=fun b z=>absurd (show b∈([]:List Addr)from z) (by simp);refine⟨⟨e0.mod,S.kind,rfl,rfl,aN _,fun y z c h1 h2=> ?_,fun y hy=> ?_,fun y c _ h=> ?_,fun _=>hd,Around.frames_deeper e0.frames,.inr ⟨rfl,rfl⟩,fun b z=>absurd z (noA b),e0.bs,e0.bsz,fun b _ _=>noA b,fun b z=>absurd z (noA b),e0.funs,e0.frf⟩,
  rfl,e0.bare,Un.kept hk,⟨_,x.toInCall.ns,fun i y v h1 h2 h3=> ?_⟩,fun y c h=>⟨_,x.cell y c h⟩,e0.hok.fresh (aN _),fun y c h=> ?_,fun p hp=>absurd (show p∈([]:L1)from hp) (by simp),e0.hok.kept hk,?_⟩
 ·exact name_of_addr x.apart (Iw h1) (Iw h2)
 ·have hy:scope.names.lookup y=some .cell\/scope.names.lookup y=some .free:=hy;rcases hy with hy|hy
  ·exact cell_has hy
  ·exact absurd rfl (S.nofree _ (Iw hy))
 ·exact cR (x.above y c (Iw h))
 ·have hi:i<vs.length:=by
   unfold start at h2;by_cases hi:i<vs.length
   ·exact hi
   ·rw[Y7 (by simpa using hi)]at h2;rw[List.getElem?_replicate]at h2;split at h2<;>cases h2
  have ha:vs[i]? =some v:=by
   unfold start at h2;rw[yej (by simpa using hi),dW]at h2;cases e:vs[i]? with
   |none=>rw[e]at h2;cases h2
   |some a=>rw[e]at h2;cases h2;rfl
  obtain⟨u,hu,rv⟩:=r.get ha;have hp:ps[i]? =some y:=by
   rw[<-S.pre,List.getElem?_take_of_lt (by omega)];exact h1
  have ndP:ps.Nodup:=by rw[<-S.pre];exact S.nd.sublist (List.take_sublist _ _)
  refine⟨u,rv,?_⟩;rcases S.par y (gZ hp)with k|k
  ·exact .inl ⟨k,bindL_get ndP hp hu k⟩
  ·obtain⟨c,e⟩:=cell_has (n:=s.heap.objs.size+1) k;refine .inr ⟨.inl k,c,e,?_⟩;have q:=x.cell y c e;rw[bindC_get ndP hp hu (by show scope.names.lookup y≠_;rw[k];decide)]at q;exact q
 ·exact e0.hok.fresh (cR (x.above y c (Iw h)))
 ·unfold start;show _=N.length;rw[gD,aJ,wfm];omega
theorem fn_of{CX:CXT}{P:Program}{w:World}{K:W.Frag}{mg:L4}{base:Heap}{k:Nat}{f:Addr}{name qual:Str}{params:Arguments}{body:List Stmt}{scope:Scope}{dV kV doc pm cdv ct oc:Value}{an od:Option Addr}{osl:Array (Option Value)}{N ps:List Str}{sp:Sp}(lk:K.lookup f=some ⟨oc,od,.func (PySem.W.fnOf name qual params body scope dV kV doc pm an cdv ct),osl⟩)(hcd:PySem.W.codeIn K cdv qual=true)(S:FnScope N ps scope)(len:∀vs H Q E,sp vs H Q E->vs.length=ps.length)(hbody:∀(A:Around) (outer:List Env) (s:Shared) (H:Hp) (vs:List V) (Q:VK) (E:XK),Room k (A.deeper (envOfC qual scope s.heap.objs.size f cdv))->sp vs H Q E->
   ∃t,PSs (cxOf CX P w K mg base N qual scope f cdv A outer s H E) body t/\t {nx:=fun _ H'=>Q .non H',rt:=Q} (start N vs) H):
  FnOk P w K mg base CX (k+1) f (PySem.W.fnOf name qual params body scope dV kV doc pm an cdv ct) ps sp:=by
 refine⟨len,fun A outer s H args us vs Q E hr e0 hb r hsp=> ?_⟩;have hl:=len _ _ _ _ hsp;have KX:K.In s.heap:=e0.mod.kin.keeps fun b o e=>(e0.bs b o e).1;have lim:s.heap.NoLimit:=e0.mod.nolimit.keeps fun b o e=>(e0.bs b o e).1;have hkind:∀y∈ps.zip us,scope.names.lookup y.1=some .local\/(scope.names.lookup y.1=some .cell/\((cellsFrom (s.heap.objs.size+1) scope.names []).lookup y.1).isSome=true):=fun⟨n,v⟩ hy=>by
  rcases S.par n (wfl hy).1 with q|q
  ·exact .inl q
  ·exact .inr ⟨q,wfg _ _ _ (.inl q)⟩
 refine codeAny_call_function hr.depth (KX _ _ lk) rfl S.co S.gen rfl (PySem.W.codeRec_of KX hcd) (hb _ _ _ _ ?_);refine wpAny_newFunctionEnv_cells S.kind hkind fun env he s1 x=> ?_;subst he;refine⟨lim.keeps x.toInCall.keep,codeAny_func ?_⟩;obtain⟨t,ht,hq⟩:=hbody A outer s H vs Q E (hr.deeper _) hsp;have I:Inv (cxOf CX P w K mg base N qual scope f cdv A outer s H E) [] (start N vs) H s1:=inv_start S hr.hd e0 hl r x;refine Vh (ht [] s1 (start N vs) H _ I hq) (fun fl s' hs=> ?_) fun e s' hs=>hs;have fin:∀{σ':St} {H':Hp} {v:V} {u:Value},Inv (cxOf CX P w K mg base N qual scope f cdv A outer s H E) [] σ' H' s'->RelV v u->Q v H'->CE outer P w H s Q u s':=
  fun{σ' H' v u} J rv q=>⟨v,H',J.os,J.bare,J.base,J.hok,rv,q⟩
 cases fl with
 |ret u=>
  obtain⟨v,σ',H',J,rv,q⟩:=hs;exact fin J rv q
 |next=>
  obtain⟨σ',H',J,q⟩:=hs;exact fin (v:=V.non) (u:=Value.none) J rfl q
 |brk=>
  obtain⟨_,_,_,q⟩:=hs;exact False.elim q
 |cont=>
  obtain⟨_,_,_,q⟩:=hs;exact False.elim q
section
variable{X:Cx}{x:Str}{p pos:Pos}{e:Expr}{es:List Expr}{t:TA}{id T:String}{r:List V->Hp->VK->Prop}
def tCB(r:List V->Hp->VK->Prop)(t:TA):TE:=fun σ H Q=>t σ H fun vs H1=>r vs H1 Q
theorem pe_callB(hc:CallR X (.builtin id) r)(hg:Gl X x)(hm:X.mg x=none)(hv:bootBuiltins x=some (.builtin id))(ha:PA X (e::es) t)(hn:x≠"__name__":=by decide)(hdb:(x==("__debug__":Str))=false:=by decide)(he:starEach (e::es) X.env=(false,eval e X.env)::starEach es X.env:=by rfl)(hpl:(backTo pos (starEach es X.env)).any (·.1)=false:=by rfl):PE X (.Call (.Name x p) (e::es) [] pos) (tCB r t):=by
 intro pins s σ H Q I h;refine RN (ld_blt I hg hm hv ?_ hn hdb);exact wcw (thn (ha pos pins s σ H _ I h) fun us s1 ⟨vs,H1,I1,r1,q1⟩=>hc pins s1 σ H1 vs us Q I1 r1 q1) he hpl
theorem pB{X:Cx}{x:Str}{id:String}{r:List V->Hp->VK->Prop}{e:Expr}{es:List Expr}{t:TA}{p pos:Pos}(hc:CallR X (.builtin id) r)(hm:X.mg x=none)(ha:PA X (e::es) t)(hg:Gl X x:=by rfl)(hv:bootBuiltins x=some (.builtin id):=by decide+kernel)(hn:x≠"__name__":=by decide)(hdb:(x==("__debug__":Str))=false:=by decide)(he:starEach (e::es) X.env=(false,eval e X.env)::starEach es X.env:=by rfl)(hpl:(backTo pos (starEach es X.env)).any (·.1)=false:=by rfl):PE X (.Call (.Name x p) (e::es) [] pos) (tCB r t):=pe_callB hc hg hm hv ha hn hdb he hpl
theorem pe_callTy(hc:CallR X (.type T) r)(hg:Gl X x)(hm:X.mg x=none)(hv:bootBuiltins x=some (.type T))(ha:PA X (e::es) t)(hn:x≠"__name__":=by decide)(hdb:(x==("__debug__":Str))=false:=by decide)(he:starEach (e::es) X.env=(false,eval e X.env)::starEach es X.env:=by rfl)(hpl:(backTo pos (starEach es X.env)).any (·.1)=false:=by rfl):PE X (.Call (.Name x p) (e::es) [] pos) (tCB r t):=by
 intro pins s σ H Q I h;refine RN (ld_blt I hg hm hv ?_ hn hdb);exact Mw (thn (ha pos pins s σ H _ I h) fun us s1 ⟨vs,H1,I1,r1,q1⟩=>hc pins s1 σ H1 vs us Q I1 r1 q1) he hpl
theorem pT{X:Cx}{x:Str}{T:String}{r:List V->Hp->VK->Prop}{e:Expr}{es:List Expr}{t:TA}{p pos:Pos}(hc:CallR X (.type T) r)(hm:X.mg x=none)(ha:PA X (e::es) t)(hg:Gl X x:=by rfl)(hv:bootBuiltins x=some (.type T):=by decide+kernel)(hn:x≠"__name__":=by decide)(hdb:(x==("__debug__":Str))=false:=by decide)(he:starEach (e::es) X.env=(false,eval e X.env)::starEach es X.env:=by rfl)(hpl:(backTo pos (starEach es X.env)).any (·.1)=false:=by rfl):PE X (.Call (.Name x p) (e::es) [] pos) (tCB r t):=pe_callTy hc hg hm hv ha hn hdb he hpl
end
end L2
namespace HT
open PySem PyProof.Rows
def lexLt:List Int->List Int->Bool
 |[],[]=>false
 |[],_::_=>true
 |_::_,[]=>false
 |x::xs,y::ys=>if x=y then lexLt xs ys else decide (x<y)
theorem lexLt_cons(x y:Int)(xs ys:List Int):lexLt (x::xs) (y::ys)=if x=y then lexLt xs ys else decide (x<y):=rfl
theorem lexLt_nil_nil:lexLt [] []=false:=rfl
theorem lexLt_nil_cons(y:Int)(ys:List Int):lexLt [] (y::ys)=true:=rfl
theorem lexLt_cons_nil(x:Int)(xs:List Int):lexLt (x::xs) []=false:=rfl
theorem eqAt_int(A:Around)(s:Shared)(a:Int)(t:Tok)(c:Int)(u:Tok):∃e,SeqAt.EqAt A s (.int a t) (.int c u) e/\(e=true↔a=c):=
 ⟨(a==c),SeqAt.EqAt.int_int a t c u,by simp⟩
theorem rcLt_int(A:Around)(s:Shared)(a:Int)(t:Tok)(c:Int)(u:Tok)(prog:Program)(w:World)(E:L3)(Q:L3)(h:Q (.bool (decide (a<c))) s):
  wpAny (model prog w) A (richCompare .Lt (.int a t) (.int c u)) Q E s:=
 (PyProof.Rows.lt_int h:wpAny (model prog w) A (compareOp .Lt (.int a t) (.int c u)) Q E s)
section
open PySem.SeqAt
open PySem.AutoSeq1 (wpAny_loadPart')
open PySem.MeetsSeq PySem.MeetsSeq2 PySem.MeetsSeq3
theorem tuple_lt_ints(l b:Addr)(items items2:Array Value)(n n2:Nat)(dd dd2:Option Addr)(sl sl2:Array (Option Value))(ns ms:List Int)(hi:IntsAre items.toList ns)(hj:IntsAre items2.toList ms):
  Meets (Builtin.«tuple.__lt__» ⟨[.ref l,.ref b],[]⟩)
   (fun _ R s=>s.heap.get? l=some {cls:= .type "tuple",dict:=dd,data:= .seq items n,slots:=sl}/\s.heap.get? b=some {cls:= .type "tuple",dict:=dd2,data:= .seq items2 n2,slots:=sl2}/\
    R (.ok (.ret (.bool (lexLt ns ms)))) s):=
 .of_wp fun prog w A R s h=>by
  obtain⟨hp,g,d,tk,os⟩:=s;obtain⟨hl,hb,h⟩:=h;have f2:=AutoSeq1.sub_tuple_tuple;have z1:items.size=ns.length:=by rw[<-hi.length];simp
  have z2:items2.size=ms.length:=by rw[<-hj.length];simp
  wp_walk using wpAny_loadPart' hl,wpAny_loadPart' hb,wpAny_forIn_list _ (fun rest b s'=>b.1=none/\s'=⟨hp,g,d,tk,os⟩/\∃(vs ws:List Value) (ns' ms':List Int),rest=vs.zip ws/\
   IntsAre vs ns'/\IntsAre ws ms'/\ns'.length+items2.size=ms'.length+items.size/\R (.ok (.ret (.bool (lexLt ns' ms')))) ⟨hp,g,d,tk,os⟩) _
  case turn=>
   rintro⟨y,x⟩ rest b s' ⟨hb',rfl,vs,ws,ns',ms',hz,hvi,hwi,hlen,hR⟩;cases hvi with
   |nil=>rw[wek]at hz;cases hz
   |cons a t hvi'=>
    cases hwi with
    |nil=>rw[wdw]at hz;cases hz
    |cons c u hwi'=>
     rw[Wb]at hz;injection hz with hyx hrest
     injection hyx with hy hx
     subst hy hx;rw[lexLt_cons]at hR;simp only[uz]at hlen;obtain⟨e,he,hiff⟩:=eqAt_int A.in1 ⟨hp,g,d,tk,os⟩ a t c u;refine ao (he prog w _ _ ?_);cases e with
     |true=>
      rw[aB (hiff.mp rfl)]at hR
      wp_walk
      exact⟨rfl,rfl,_,_,_,_,hrest,hvi',hwi',by omega,hR⟩
     |false=>
      rw[aA (fun q=>absurd (hiff.mpr q) uY)]at hR;have hri:=rcLt_int A.in1 ⟨hp,g,d,tk,os⟩ a t c u prog w
      wp_walk using hri
      exact⟨_,rfl,by simpa using hR⟩
  case fin=>
   rintro⟨b1,b2⟩ s' ⟨hb',rfl,vs,ws,ns',ms',hz,hvi,hwi,hlen,hR⟩;simp only at hb';subst hb';have hv:lexLt ns' ms'=decide (items.size<items2.size):=by
    cases hvi with
    |nil=>
     cases hwi with
     |nil=>
      simp only[Ms]at hlen;rw[lexLt_nil_nil];exact(jx (by omega)).symm
     |cons c u hw=>
      simp only[Ms,uz]at hlen;rw[lexLt_nil_cons];exact(eY (by omega)).symm
    |cons a t hv=>
     cases hwi with
     |nil=>
      simp only[Ms,uz]at hlen;rw[lexLt_cons_nil];exact(jx (by omega)).symm
     |cons c u hw=>
      rw[Wb]at hz;cases hz
   rw[hv]at hR
   wp_walk
   exact⟨_,rfl,by simpa[Builtin.Tuple.tupleCompareSizes]using hR⟩
  case h=>
   exact⟨rfl,rfl,items.toList,items2.toList,ns,ms,rfl,hi,hj,by omega,h⟩
end
section
variable{prog:Program}{w:World}{A:Around}{E:L3}{s:Shared}
theorem lt_tupInts{l b:Addr}{items items2:Array Value}{ns ms:List Int}{Q:L3}(hl:IsTup s.heap l items)(hb:IsTup s.heap b items2)(hi:IntsAre items.toList ns)(hj:IntsAre items2.toList ms)(hu:A.units<cLine)(h:Q (.bool (lexLt ns ms)) s):wpAny (model prog w) A (compareOp .Lt (.ref l) (.ref b)) Q E s:=by
 obtain⟨⟨cls,dd,data,sl⟩,ho,hc,n,hd⟩:=id hl;obtain⟨⟨cls2,dd2,data2,sl2⟩,ho2,hc2,n2,hd2⟩:=id hb;simp only at hc hd hc2 hd2;subst hc hd hc2 hd2;exact richCompare_meets_room (op:= .Lt) ⟨_,ho,rfl⟩ ⟨_,ho2,rfl⟩ PySem.F.slot_tuple_lt PySem.F.entry_tuple_lt (PySem.F.args_tuple_lt_2 _ _) (tuple_lt_ints l b items items2 n n2 dd dd2 sl sl2 ns ms hi hj)
  ⟨ho,ho2,show Value.bool (lexLt ns ms)≠Value.notImplemented/\Q (.bool (lexLt ns ms)) s from⟨(fun x=>nomatch x),h⟩⟩ hu
theorem cat_tup{t b:Addr}{vs ws:List Value}{Q:L3}(ht:IsTup s.heap t vs.toArray)(hb:IsTup s.heap b ws.toArray)(hv:vs≠[])(h1:ws=[]->Q (.ref t) s)(h2:ws≠[]->Q (.ref s.heap.objs.size) {s with heap:=s.heap.push {cls:= .type "tuple",data:= .seq (vs++ws).toArray}})(hsz:vs.length+ws.length<=sizeLine):wpAny (model prog w) A (binaryOp .Add (.ref t) (.ref b)) Q E s:=by
 obtain⟨⟨cls,dd,data,sl⟩,ho,hc,n,hd⟩:=id ht;obtain⟨⟨cls2,dd2,data2,sl2⟩,ho2,hc2,n2,hd2⟩:=id hb;simp only at hc hd hc2 hd2;subst hc hd hc2 hd2;have e:vs.toArray++ws.toArray=(vs++ws).toArray:=by simp
 by_cases hw:ws=[]
 ·exact concat_meets ⟨_,ho,rfl⟩ ⟨_,ho2,rfl⟩ wfa seq_tuple_add wcr wcj (wce _ _)
   (tuple_addW1 t b vs.toArray ws.toArray n n2 dd dd2 sl sl2 (by simpa using hv) (by simp[hw])) ⟨ho,ho2,h1 hw⟩
 ·refine concat_meets ⟨_,ho,rfl⟩ ⟨_,ho2,rfl⟩ wfa seq_tuple_add wcr wcj (wce _ _)
   (tuple_addW2 t b vs.toArray ws.toArray n n2 dd dd2 sl sl2 (by simpa using hv) (by simpa using hw) (by rw[gW,gW];exact hsz)) ⟨ho,ho2,?_⟩
  rw[e];exact h2 hw
def sIx(n d:Nat):Option Int->Nat
 |none=>d
 |some v=>if v<0 then(v+(n:Int)).toNat else min v.toNat n
theorem sIx_none(n d:Nat):sIx n d none=d:=rfl
theorem sIx_nat(n d k:Nat):sIx n d (some (k:Int))=min k n:=by
 show(if(k:Int)<0 then((k:Int)+(n:Int)).toNat else min (k:Int).toNat n)=min k n;rw[aA (by omega),xV]
theorem sIx_le(n d:Nat)(hd:d<=n)(o:Option Int):sIx n d o<=n:=by
 cases o with
 |none=>exact hd
 |some v=>
  show(if v<0 then(v+(n:Int)).toNat else min v.toNat n)<=n;by_cases hv:v<0
  ·rw[aB hv];omega
  ·rw[aA hv];exact Nat.min_le_right _ _
theorem clip_eq(v:Int)(n d:Nat):(if v<0 then max (v+(n:Int)) 0 else min v (n:Int))=((sIx n d (some v):Nat):Int):=by
 show(if v<0 then max (v+(n:Int)) 0 else min v (n:Int))=(((if v<0 then(v+(n:Int)).toNat else min v.toNat n):Nat):Int);by_cases hv:v<0
 ·simp only[aB hv];omega
 ·simp only[aA hv];omega
theorem adjust_gen(lo hi:Option Int)(n:Nat):Builtin.Slice.sliceAdjust lo hi 1 (n:Int)=(((sIx n 0 lo:Nat):Int),((sIx n n hi:Nat):Int)):=by
 have h1:¬((1:Int)<0):=by omega
 unfold Builtin.Slice.sliceAdjust;simp only[h1,Vg];refine Prod.ext ?_ ?_
 ·cases lo with
  |none=>rfl
  |some v=>exact clip_eq v n 0
 ·cases hi with
  |none=>rfl
  |some v=>exact clip_eq v n n
theorem places_gen(i j:Nat):Builtin.Slice.slicePlaces (i:Int) (j:Int) 1=j-i:=by
 unfold Builtin.Slice.slicePlaces;have h1:(1:Int)>0:=by omega
 simp only[h1,Qv,wgf];split<;>omega
theorem slicePart_{v:Value}{o:Option Int}{Q:Option Int->Shared->Prop}(p:IsPart v o)(h:Q o s):wpAny (model prog w) A (Builtin.Slice.slicePartIndex v) Q E s:=by
 cases p with
 |none=>exact slicePart_none h
 |int i t=>exact slicePart_int h
theorem sliceApplied_gen{sl:Addr}{vl vu:Value}{lo hi:Option Int}{n:Nat}{Q:Int×Int×Nat->Shared->Prop}(hs:s.heap.IsSliceOf sl vl vu .none)(pl:IsPart vl lo)(pu:IsPart vu hi)(h:Q (((sIx n 0 lo:Nat):Int),1,sIx n n hi-sIx n 0 lo) s):wpAny (model prog w) A (Builtin.Slice.sliceApplied (.ref sl) (pure (n:Int))) Q E s:=by
 obtain⟨os,hos,hcs,hds⟩:=id hs;unfold Builtin.Slice.sliceApplied Builtin.Slice.sliceFields;refine ao (ao (xX hos hds (x:=vl) rfl (ao (xX hos hds (x:=vu) rfl (ao (xX hos hds (x:= .none) rfl (aM ?_)))))));refine ao (slicePart_none ?_);show wpAny _ _ (if((1:Int)==0)=true then _ else _) _ _ s;rw[aA (by decide)];refine ao (slicePart_ pl (ao (slicePart_ pu (ao (aM ?_)))));show wpAny _ _ (match Builtin.Slice.sliceAdjust lo hi 1 (n:Int)with |(lo,hi)=>pure (lo,(1:Int),Builtin.Slice.slicePlaces lo hi 1)) _ _ s;rw[adjust_gen lo hi n];show wpAny _ _ (pure (((sIx n 0 lo:Nat):Int),(1:Int),Builtin.Slice.slicePlaces ((sIx n 0 lo:Nat):Int) ((sIx n n hi:Nat):Int) 1)) _ _ s;rw[places_gen];exact aM h
theorem pick_gen(xs:Array Value)(i k:Nat):((List.range k).filterMap fun(m:Nat)=>xs[((i:Int)+(m:Int)*1).toNat]?).toArray=((xs.toList.drop i).take k).toArray:=by
 have e:(fun(m:Nat)=>xs[((i:Int)+(m:Int)*1).toNat]?)=fun m=>xs[i+m]? :=by
  funext m;have:((i:Int)+(m:Int)*1).toNat=i+m:=by omega
  rw[this]
 rw[e];have:=pick_run xs i k;rw[wdx]at this;have e2:((fun x=>xs[x]?)∘fun x=>i+x)=fun m=>xs[i+m]? :=rfl;rw[e2]at this;rw[this]
theorem getItem_tuple_cut{t sl:Addr}{items:Array Value}{vl vu:Value}{lo hi:Option Int}{Q:L3}(ht:IsTup s.heap t items)(hs:s.heap.IsSliceOf sl vl vu .none)(pl:IsPart vl lo)(pu:IsPart vu hi)(hw:¬(sIx items.size 0 lo=0/\sIx items.size items.size hi=items.size))(h:Q (.ref s.heap.objs.size) {s with heap:=s.heap.push {cls:= .type "tuple",data:= .seq ((items.toList.drop (sIx items.size 0 lo)).take (sIx items.size items.size hi-sIx items.size 0 lo)).toArray}})(hsz:items.size<=sizeLine):wpAny (model prog w) A (getItem (.ref t) (.ref sl)) Q E s:=by
 have htake:sizeOk (.seq ((items.toList.drop (sIx items.size 0 lo)).take (sIx items.size items.size hi-sIx items.size 0 lo)).toArray):=by
  show((items.toList.drop (sIx items.size 0 lo)).take (sIx items.size items.size hi-sIx items.size 0 lo)).toArray.size<=sizeLine;rw[gW,xU,wfb,uW];omega
 have hj:sIx items.size items.size hi<=items.size:=sIx_le _ _ (aN _) hi;obtain⟨os,hos,hcs,hds⟩:=id hs;have hTs:s.TypeIs (.ref sl) "slice":=⟨os,hos,hcs⟩;unfold getItem
 try with_reducible refine Dz ?_
 first |refine ao (aM ?_)|skip
 refine ao (wel ht.typeIs (by decide) ?_);refine ao (IK (name:=Str.ofString "__getitem__") ht.typeIs Vp
  (Am Vp ht.typeIs wdl ?_ (wdy _ _)))
 show wpAny _ _ (Builtin.Tuple.tupleItemsOf (.ref t)>>=_) _ _ s;refine ao (tupleItemsOf_ ht ?_);refine ao (RK hTs ?_);rw[aB (by decide)];refine ao (sliceApplied_gen hs pl pu ?_);have hno:¬((((sIx items.size 0 lo:Nat):Int)==0&&(1:Int)==1&&(sIx items.size items.size hi-sIx items.size 0 lo)==items.size)=true):=by
  intro q;rw[pR,pR]at q;have q1:((sIx items.size 0 lo:Nat):Int)=0:=eq_of_beq q.1.1;have q2:sIx items.size items.size hi-sIx items.size 0 lo=items.size:=eq_of_beq q.2;exact hw ⟨by omega,by omega⟩
 show wpAny _ _ (if(((sIx items.size 0 lo:Nat):Int)==0&&(1:Int)==1&&(sIx items.size items.size hi-sIx items.size 0 lo)==items.size)=true then _ else _) _ _ s;rw[aA hno,pick_gen]
 first
  |exact ao (m:=Builtin.Tuple.tupleExact _) (vO (aM ⟨_,rfl,aM h⟩) htake)
  |exact ao (m:=Builtin.Tuple.tupleExact _) (vO (ao (aM (aM ⟨_,rfl,aM h⟩))) htake)
  |exact ao (ao (m:=Builtin.Tuple.tupleExact _) (vO (aM (aM ⟨_,rfl,aM h⟩)) htake))
  |exact ao (ao (m:=Builtin.Tuple.tupleExact _) (vO (aM ⟨_,rfl,aM h⟩) htake))
end
end HT
namespace L2
open PySem PySem.Spec PyProof.Rows
abbrev TO:=St->Hp->(Option Int->Hp->Prop)->Prop
def PO(X:Cx)(e:Option Expr)(t:TO):Prop:=
 ∀(pins:L1) (s:Shared) (σ:St) (H:Hp) (Q:Option Int->Hp->Prop),Inv X pins σ H s->t σ H Q->
  wpAny (model X.prog X.w) X.A (evalPart e X.env) (fun u s'=>∃o H',Inv X pins σ H' s'/\IsPart u o/\Q o H') X.xe s
def tNoPart:TO:=fun _ H Q=>Q none H
def tPart(t:TE):TO:=fun σ H Q=>t σ H fun x H1=>∃i,x= .int i/\Q (some i) H1
theorem intsAre_of{ns:List Int}:∀{us:List Value},Vals (ns.map V.int) us->IntsAre us ns:=by
 induction ns with
 |nil=>intro us r;rw[List.map_nil]at r;cases r;exact .nil
 |cons n ns ih=>
  intro us r;rw[HJ]at r;cases r with
  |cons r1 r2=>
   obtain⟨t,e⟩:=r1;subst e;exact .cons n t (ih r2)
section
variable{X:Cx}{e:Expr}{te:TE}{lo hi:Option Expr}{tl th:TO}{pos p2:Pos}
theorem uV:PO X none tNoPart:=by
 intro pins s σ H Q I h;rw[evalPart_none];exact aM ⟨none,H,I,.none,h⟩
theorem uq(h:PE X e te):PO X (some e) (tPart te):=by
 intro pins s σ H Q I hw;rw[evalPart_some];refine thn (h pins s σ H _ I hw) fun u s1 ⟨x,H1,I1,r1,q1⟩=> ?_;obtain⟨i,rfl,q⟩:=q1;obtain⟨t,rfl⟩:=r1;exact⟨some i,H1,I1,.int i t,q⟩
def SlR(X:Cx)(r:V->Option Int->Option Int->Hp->VK->Prop):Prop:=
 ∀(pins:L1) (s:Shared) (σ:St) (H:Hp) (x:V) (v vl vu:Value) (lo hi:Option Int) (sl:Addr) (Q:VK),Inv X pins σ H s->RelV x v->s.heap.IsSliceOf sl vl vu .none->IsPart vl lo->IsPart vu hi->r x lo hi H Q->
  ∃T id,typeLookup (.type T) "__getitem__"=pure (some (.builtin id))/\s.TypeIs v T/\wpAny (model X.prog X.w) X.A (getItem v (.ref sl)) (EP X pins σ Q) X.xe s
def tSl(r:V->Option Int->Option Int->Hp->VK->Prop)(te:TE)(tl th:TO):TE:=fun σ H Q=>te σ H fun x H1=>tl σ H1 fun l H2=>th σ H2 fun u H3=>r x l u H3 Q
theorem yr{r:V->Option Int->Option Int->Hp->VK->Prop}(hr:SlR X r)(he:PE X e te)(hl:PO X lo tl)(hu:PO X hi th):PE X (.Subscript e (.Slice lo hi none p2) pos) (tSl r te tl th):=by
 intro pins s σ H Q I h;refine Subscript_ (thn (he pins s σ H _ I h) fun v s1 ⟨x,H1,I1,r1,q1⟩=> ?_);refine wpAny_Slice (thn (hl pins s1 σ H1 _ I1 q1) fun vl s2 ⟨l,H2,I2,pl,q2⟩=>thn (hu pins s2 σ H2 _ I2 q2) fun vu s3 ⟨u,H3,I3,pu,q3⟩=> ?_);rw[evalPart_none];refine aM ?_;have I4:Inv X pins σ H3 {s3 with heap:=s3.heap.push {cls:= .type "slice",data:= .fields #[vl,vu,.none]}}:=I3.kept (t':=s3.toks) fun b ob q=>cL _ q;obtain⟨T,id,hT,ht,hg⟩:=hr pins {s3 with heap:=s3.heap.push {cls:= .type "slice",data:= .fields #[vl,vu,.none]}} σ H3 x v vl vu l u s3.heap.objs.size Q I4 r1 (wdz ..) pl pu q3;show wpAny (model X.prog X.w) X.A (subscriptTail e (.Slice lo hi none p2) v (.ref s3.heap.objs.size)) (EP X pins σ Q) X.xe {s3 with heap:=s3.heap.push {cls:= .type "slice",data:= .fields #[vl,vu,.none]}};exact tail_any (ops:=[.ref s3.heap.objs.size,v]) ht hT hg (by with_unfolding_all rfl)
def cutV(xs:List V)(lo hi:Option Int):List V:=(xs.drop (HT.sIx xs.length 0 lo)).take (HT.sIx xs.length xs.length hi-HT.sIx xs.length 0 lo)
theorem Qi(xs:List V)(lo hi:Option Int):(cutV xs lo hi).length<=xs.length:=by
 unfold cutV;rw[xU,wfb];omega
def rSlT(K:W.Frag):V->Option Int->Option Int->Hp->VK->Prop:=fun x lo hi H Q=>∃a xs,x= .ref a/\SqT K H a xs/\
 ¬(HT.sIx xs.length 0 lo=0/\HT.sIx xs.length xs.length hi=xs.length)/\∀p,H p=none->Q (.ref p) (upd H p (.tup (cutV xs lo hi)))
theorem sl_tup:SlR X (rSlT X.K):=by
 intro pins s σ H x v vl vu lo hi sl Q I rx hs pl pu h;obtain⟨a,xs,rfl,hx,hw,q⟩:=h;cases rx;obtain⟨its,r,ht,hz⟩:=I.tuple hx;have hlen:its.toArray.size=xs.length:=by rw[gW];exact r.length.symm
 refine⟨"tuple",_,PyProof.Rows.slot_tuple_getitem.lookup,ht.typeIs,?_⟩;refine HT.getItem_tuple_cut ht hs pl pu (by rw[hlen];exact hw) ?_ (by rw[hlen];exact hz);rw[hlen];refine⟨.ref s.heap.objs.size,_,I.laid (t':=s.toks) (o:= .tup (cutV xs lo hi)) (fun b ob q=>cL _ q) (aN _) ?_,rfl,q _ (I.hok.fresh (aN _))⟩;exact⟨cC (Qi xs lo hi) hz,_,(r.drop (HT.sIx xs.length 0 lo)).take (HT.sIx xs.length xs.length hi-HT.sIx xs.length 0 lo),IsTup.new _ _⟩
def rLtT(K:W.Frag):R2:=fun x y H Q=>∃a b ns ms,x= .ref a/\y= .ref b/\SqT K H a (ns.map V.int)/\SqT K H b (ms.map V.int)/\Q (.bl (HT.lexLt ns ms)) H
theorem op_ltT(hu:X.A.units<cLine):OpR X (compareOp .Lt) (rLtT X.K):=by
 intro pins s σ H x y v u Q I rx ry h;obtain⟨a,b,ns,ms,rfl,rfl,ha,hb,q⟩:=h;cases rx;cases ry;obtain⟨its,r1,p1,_⟩:=I.tuple ha;obtain⟨its2,r2,p2,_⟩:=I.tuple hb;have i1:IntsAre its.toArray.toList ns:=intsAre_of r1;have i2:IntsAre its2.toArray.toList ms:=intsAre_of r2;exact HT.lt_tupInts p1 p2 i1 i2 hu ⟨.bl (HT.lexLt ns ms),H,I,rfl,q⟩
def rCatT(K:W.Frag):R2:=fun x y H Q=>∃a b xs ys,x= .ref a/\y= .ref b/\SqT K H a xs/\SqT K H b ys/\xs≠[]/\xs.length+ys.length<=sizeLine/\
 (ys=[]->Q (.ref a) H)/\(ys≠[]->∀p,H p=none->Q (.ref p) (upd H p (.tup (xs++ys))))
theorem Vals.nil_iff{xs:List V}{us:List Value}(r:Vals xs us):us=[]↔xs=[]:=by
 cases r with
 |nil=>simp
 |cons _ _=>simp
theorem op_catT:OpR X (binaryOp .Add) (rCatT X.K):=by
 intro pins s σ H x y v u Q I rx ry h;obtain⟨a,b,xs,ys,rfl,rfl,ha,hb,hx,hz,q1,q2⟩:=h;cases rx;cases ry;obtain⟨its,r1,p1,_⟩:=I.tuple ha;obtain⟨its2,r2,p2,_⟩:=I.tuple hb;refine HT.cat_tup p1 p2 (fun z=>hx (r1.nil_iff.mp z)) (fun z=>⟨.ref a,H,I,rfl,q1 (r2.nil_iff.mp z)⟩) (fun z=> ?_) (by rw[<-r1.length,<-r2.length];exact hz);refine⟨.ref s.heap.objs.size,_,I.laid (t':=s.toks) (o:= .tup (xs++ys)) (fun b ob q=>cL _ q) (aN _) ?_,rfl,q2 (fun w=>z (r2.nil_iff.mpr w)) _ (I.hok.fresh (aN _))⟩;exact⟨by rw[gD];exact hz,_,r1.append r2,IsTup.new _ _⟩
end
def ixN(n:Nat)(i:Int):Option Nat:=if 0<=i then(if i<n then some i.toNat else none)else if -(n:Int)<=i then some (i+n).toNat else none
def atI{α:Type}(xs:List α)(i:Int):Option α:=(ixN xs.length i).bind fun j=>xs[j]?
theorem ixN_seq{n:Nat}{i:Int}{j:Nat}(h:ixN n i=some j):seqIndex? i n=some j/\j<n/\ -(n:Int)<=i/\i<n:=by
 unfold ixN at h;by_cases h0:0<=i
 ·rw[aB h0]at h;by_cases h1:i<n
  ·rw[aB h1]at h;have e:i.toNat=j:=rE h;exact⟨by rw[seqIndex_of h0 h1,e],by omega,by omega,h1⟩
  ·rw[aA h1]at h;cases h
 ·rw[aA h0]at h;by_cases h1: -(n:Int)<=i
  ·rw[aB h1]at h;have e:(i+n).toNat=j:=rE h;exact⟨by rw[seqIndex_neg (by omega) h1,e],by omega,h1,by omega⟩
  ·rw[aA h1]at h;cases h
theorem atI_get{α:Type}{xs:List α}{i:Int}{v:α}(h:atI xs i=some v):∃j,seqIndex? i xs.length=some j/\xs[j]? =some v/\j<xs.length/\ -(xs.length:Int)<=i/\i<xs.length:=by
 unfold atI at h;cases e:ixN xs.length i with
 |none=>rw[e]at h;cases h
 |some j=>
  rw[e]at h;obtain⟨h1,h2,h3,h4⟩:=ixN_seq e;exact⟨j,h1,h,h2,h3,h4⟩
theorem yh{α:Type}{xs:List α}{j:Nat}{v:α}(h:xs[j]? =some v):atI xs (j:Int)=some v:=by
 have hj:j<xs.length:=(nH.mp h).1;have e:ixN xs.length (j:Int)=some j:=by
  unfold ixN;rw[aB (by omega),aB (by omega)];simp
 unfold atI;rw[e];exact h
def PlainIx(b:Expr):Prop:=∀o i,subscripted b false o i=operate [o,i] (getItem o i)
def IxR(X:Cx)(r:R2):Prop:=
 ∀(value slice:Expr) (pins:L1) (s:Shared) (σ:St) (H:Hp) (x y:V) (v u:Value) (Q:VK),Inv X pins σ H s->RelV x v->RelV y u->r x y H Q->
  subscripted slice false v u=operate [v,u] (getItem v u)->wpAny (model X.prog X.w) X.A (subscriptTail value slice v u) (EP X pins σ Q) X.xe s
def MtR(X:Cx)(id:String)(r:V->List V->Hp->VK->Prop):Prop:=
 ∀(pins:L1) (s:Shared) (σ:St) (H:Hp) (x:V) (xs:List V) (v:Value) (us:List Value) (Q:VK),Inv X pins σ H s->RelV x v->Vals xs us->r x xs H Q->
  wpAny (model X.prog X.w) X.A (call (.builtin id) (v::us)) (EP X pins σ Q) X.xe s
section
variable{X:Cx}{a b:Expr}{ta tb:TE}{pos:Pos}
theorem bx{r:R2}(hr:IxR X r)(ha:PE X a ta)(hb:PE X b tb)(hs:PlainIx b:=by exact fun _ _=>rfl):PE X (.Subscript a b pos) (tOp r ta tb):=by
 intro pins s σ H Q I h;exact Subscript_ (binT ha hb I h fun v u s2 x y H2 I2 rx ry q=>hr a b pins s2 σ H2 x y v u Q I2 rx ry q (hs _ _))
def rIxL(K:W.Frag):R2:=fun x y H Q=>∃p xs i v,x= .ref p/\y= .int i/\SqL K H p xs/\atI xs i=some v/\Q v H
def rIxT(K:W.Frag):R2:=fun x y H Q=>∃p xs i v,x= .ref p/\y= .int i/\SqT K H p xs/\atI xs i=some v/\Q v H
theorem lK:IxR X (rIxL X.K):=by
 intro value slice pins s σ H x y v u Q I rx ry h hs;obtain⟨p,xs,i,z,rfl,rfl,hq,he,q⟩:=h;cases rx;obtain⟨t,rfl⟩:=ry;obtain⟨its,r,pl,hz⟩:=I.list hq;obtain⟨j,h1,h2,h3,h4,h5⟩:=atI_get he;obtain⟨w,ew,rw'⟩:=r.get h2;have hl:=r.length;have hn:=line63;have fin:EP X pins σ Q w s:=⟨z,H,I,rw',q⟩;by_cases h0:0<=i
 ·have hj:i.toNat=j:=by
   rw[seqIndex_of h0 h5]at h1;exact rE h1
  exact item_listR pl.isList h0 (by omega) (by rw[hj];simpa using ew) fin hs
 ·have hj:(i+(its.toArray.size:Int)).toNat=j:=by
   rw[seqIndex_neg (by omega) h4]at h1;rw[gW,<-hl];exact rE h1
  exact subscriptTail_builtinR (x:=w) pl.isList.typeIs slot_list_getitem.lookup
   (wpAny_getItem_list_neg (Q:=fun r s'=>r=w/\EP X pins σ Q r s') pl.isList (by omega) (by rw[gW]<;>omega) (by omega) (by rw[hj];simpa using ew) ⟨rfl,fin⟩) hs
theorem fM:IxR X (rIxT X.K):=by
 intro value slice pins s σ H x y v u Q I rx ry h hs;obtain⟨p,xs,i,z,rfl,rfl,hq,he,q⟩:=h;cases rx;obtain⟨t,rfl⟩:=ry;obtain⟨its,r,pl,hz⟩:=I.tuple hq;obtain⟨j,h1,h2,h3,h4,h5⟩:=atI_get he;obtain⟨w,ew,rw'⟩:=r.get h2;have hl:=r.length;have hn:=line63;have fin:EP X pins σ Q w s:=⟨z,H,I,rw',q⟩;exact subscriptTail_builtinR (x:=w) pl.typeIs slot_tuple_getitem.lookup
  (getItem_tuple (j:=j) (Q:=fun r s'=>r=w/\EP X pins σ Q r s') pl (by omega) (by omega) (by rw[gW,<-hl];exact h1) (by simpa using ew) ⟨rfl,fin⟩) hs
theorem mapSeq_set(its:List Value)(n j:Nat)(u:Value):Obj.mapSeq (·.setIfInBounds j u) {cls:= .type "list",data:= .seq its.toArray n}={cls:= .type "list",data:= .seq (its.set j u).toArray n}:=by
 simp[Obj.mapSeq]
theorem Inv.lst{pins:L1}{σ:St}{H:Hp}{s:Shared}{p:Addr}{xs:List V}(I:Inv X pins σ H s)(h:H p=some (.lst xs)):
  ∃(its:List Value) (n:Nat),Vals xs its/\s.heap.get? p=some {cls:= .type "list",data:= .seq its.toArray n}/\xs.length<=sizeLine:=by
 obtain⟨z,its,n,r,e⟩:=I.hok p _ h;exact⟨its,n,r,e,z⟩
theorem Inv.lstUpd{pins:L1}{σ:St}{H:Hp}{s:Shared}{p:Addr}{xs ys:List V}{its its':List Value}{n n':Nat}{f:Obj->Obj}(I:Inv X pins σ H s)(h:H p=some (.lst xs))(ho:s.heap.get? p=some {cls:= .type "list",data:= .seq its.toArray n})(hf:f {cls:= .type "list",data:= .seq its.toArray n}={cls:= .type "list",data:= .seq its'.toArray n'})(r:Vals ys its')(hz:ys.length<=sizeLine)(t:Nat):
  Inv X pins σ (upd H p (.lst ys)) {s with heap:=s.heap.update p f,toks:=t}:=by
 have e:(s.heap.update p f).get? p=some {cls:= .type "list",data:= .seq its'.toArray n'}:=by
  rw[Qo f ho (by rw[hf]<;>rfl),hf]
 refine I.write (x:=p) (e:=p) (by rw[h];trivial) (.inl rfl) (fun b u hb q=>(Wh _ _ (lO hb)).trans q) ⟨_,e⟩ ?_;exact⟨hz,its',n',r,e⟩
def rSetL:V->V->V->Hp->(Hp->Prop)->Prop:=fun o i v H Q=>∃p xs k j,o= .ref p/\i= .int k/\H p=some (.lst xs)/\ixN xs.length k=some j/\Q (upd H p (.lst (xs.set j v)))
theorem set_list:PSet X rSetL:=by
 intro pins s σ H o i v ov iv u Q I ro ri rv h;obtain⟨p,xs,k,j,rfl,rfl,hp,hj,q⟩:=h;cases ro;obtain⟨t,rfl⟩:=ri;obtain⟨its,n,r,ho,hz⟩:=I.lst hp;obtain⟨h1,h2,h3,h4⟩:=ixN_seq hj;have hl:=r.length;have hn:=line63;have I':Inv X pins σ (upd H p (.lst (xs.set j v))) {s with heap:=s.heap.update p (Obj.mapSeq (·.setIfInBounds j u))}:=
  I.lstUpd hp ho (mapSeq_set its n j u) (r.set rv j) (by rw[List.length_set];exact hz) s.toks
 by_cases h0:0<=k
 ·have hk:k.toNat=j:=by
   rw[seqIndex_of h0 h4]at h1;exact rE h1
  exact PySem.W.ki_setAt ho h0 (by omega) (by rw[gW,<-hl];exact h4) (by rw[hk];exact⟨_,I',q⟩)
 ·have hk:(k+(its.toArray.size:Int)).toNat=j:=by
   rw[seqIndex_neg (by omega) h3]at h1;rw[gW,<-hl];exact rE h1
  exact PySem.W.ki_setBack ho (by omega) (by rw[gW,<-hl];exact h3) (by omega) (by rw[hk];exact⟨_,I',q⟩)
theorem slice_bounds(lo hi:Option Int)(n:Nat):(sliceBounds lo hi none n).1=((HT.sIx n 0 lo:Nat):Int)/\(sliceBounds lo hi none n).2.1=((HT.sIx n n hi:Nat):Int)/\(sliceBounds lo hi none n).2.2=1:=by
 refine⟨?_,?_,rfl⟩
 ·cases lo with
  |none=>simp[sliceBounds,HT.sIx]
  |some i=>
   simp only[sliceBounds,HT.sIx,Option.getD_none,show(1:Int)>0 by decide,Qv];by_cases h:i<0
   ·simp only[h,Qv]<;>omega
   ·simp only[h,Vg]<;>omega
 ·cases hi with
  |none=>simp[sliceBounds,HT.sIx]
  |some i=>
   simp only[sliceBounds,HT.sIx,Option.getD_none,show(1:Int)>0 by decide,Qv];by_cases h:i<0
   ·simp only[h,Qv]<;>omega
   ·simp only[h,Vg]<;>omega
theorem slicePick_cut(its:List Value)(lo hi:Option Int):slicePick its.toArray lo hi none=((its.drop (HT.sIx its.length 0 lo)).take (HT.sIx its.length its.length hi-HT.sIx its.length 0 lo)).toArray:=by
 obtain⟨h1,h2,h3⟩:=slice_bounds lo hi its.toArray.size;unfold slicePick;rw[h1,h2,h3];simp only[sliceRange_one,pick_run,gW]<;>rfl
def rSlL(K:W.Frag):V->Option Int->Option Int->Hp->VK->Prop:=fun x lo hi H Q=>∃a xs,x= .ref a/\SqL K H a xs/\∀p,H p=none->Q (.ref p) (upd H p (.lst (cutV xs lo hi)))
theorem Dt:SlR X (rSlL X.K):=by
 intro pins s σ H x v vl vu lo hi sl Q I rx hs pl pu h;obtain⟨a,xs,rfl,hx,q⟩:=h;cases rx;obtain⟨its,r,ht,hz⟩:=I.list hx;have hlen:=r.length;refine⟨"list",_,slot_list_getitem.lookup,ht.isList.typeIs,?_⟩;refine wpAny_getItem_list_slice ht.isList hs pl pu .none (by simp) ?_ (by rw[gW]<;>omega);rw[slicePick_cut,<-hlen];refine⟨.ref s.heap.objs.size,_,I.laid (t':=s.toks) (o:= .lst (cutV xs lo hi)) (fun b ob q=>cL _ q) (aN _) ?_,rfl,q _ (I.hok.fresh (aN _))⟩;exact⟨cC (Qi xs lo hi) hz,_,0,(r.drop (HT.sIx xs.length 0 lo)).take (HT.sIx xs.length xs.length hi-HT.sIx xs.length 0 lo),gY _ rfl⟩
theorem call_len_seq:CallR X (.builtin "len") (fun xs H Q=>∃p ys,xs=[.ref p]/\(SqL X.K H p ys\/SqT X.K H p ys)/\Q (.int ys.length) H):=by
 intro pins s σ H xs us Q I r h;obtain⟨p,ys,rfl,hq,q⟩:=h;obtain⟨u,rfl,rx⟩:=vals1 r;cases rx;have hn:=line63;rcases hq with hq|hq
 ·obtain⟨its,r',pl,hz⟩:=I.list hq;have hlen:=r'.length;exact Calls.call_len_list pl.isList (by simp only[gW]<;>omega) ⟨.int ys.length,H,I.tok _,⟨s.toks+1,by rw[gW,hlen]⟩,q⟩
 ·obtain⟨its,r',pl,hz⟩:=I.tuple hq;have hlen:=r'.length;exact len_tuple pl (by simp only[gW]<;>omega) ⟨.int ys.length,H,I.tok _,⟨s.toks+1,by rw[gW,hlen]⟩,q⟩
theorem call_list_of:CallR X (.type "list") (fun xs H Q=>∃p ys,xs=[.ref p]/\(SqL X.K H p ys\/SqT X.K H p ys)/\∀l,H l=none->Q (.ref l) (upd H l (.lst ys))):=by
 intro pins s σ H xs us Q I r h;obtain⟨p,ys,rfl,hq,q⟩:=h;obtain⟨u,rfl,rx⟩:=vals1 r;cases rx;have fin:∀(its:List Value),Vals ys its->ys.length<=sizeLine->∀(h':Heap) (c':Nat),(∀b o',s.heap.get? b=some o'->h'.get? b=some o')->
   h'.get? s.heap.objs.size=some {cls:= .type "list",dict:=none,data:= .seq its.toArray c',slots:=#[]}->EP X pins σ Q (.ref s.heap.objs.size) {s with heap:=h'}:=fun its r' hz h' c' kp e=>
  ⟨.ref s.heap.objs.size,_,I.laid (t':=s.toks) kp (aN _) (show ObjOk X.prog X.w _ h' _ (.lst ys)from⟨hz,its,c',r',e⟩),rfl,q _ (I.hok.fresh (aN _))⟩
 rcases hq with hq|hq
 ·obtain⟨its,r',pl,hz⟩:=I.list hq;have hlen:=r'.length;obtain⟨o,ho,hc,n,hd⟩:=pl.isList;exact call_list_seq p (.inl rfl) ho hc hd (fun h' c' kp e=>fin its r' hz h' c' kp e) (by simp only[gW]<;>omega)
 ·obtain⟨its,r',pl,hz⟩:=I.tuple hq;have hlen:=r'.length;obtain⟨o,ho,hc,n,hd⟩:=pl;exact call_list_seq p (.inr rfl) ho hc hd (fun h' c' kp e=>fin its r' hz h' c' kp e) (by simp only[gW]<;>omega)
theorem call_tuple_of:CallR X (.type "tuple") (fun xs H Q=>∃p ys,xs=[.ref p]/\((SqL X.K H p ys/\∀l,H l=none->Q (.ref l) (upd H l (.tup ys)))\/(SqT X.K H p ys/\Q (.ref p) H))):=by
 intro pins s σ H xs us Q I r h;obtain⟨p,ys,rfl,h⟩:=h;obtain⟨u,rfl,rx⟩:=vals1 r;cases rx;rcases h with⟨hq,q⟩|⟨hq,q⟩
 ·obtain⟨its,r',pl,hz⟩:=I.list hq;have hlen:=r'.length;refine call_tuple_list pl.isList (fun h' kp=> ?_) (by simp only[gW]<;>omega);have I1:Inv X pins σ H {s with heap:=h'}:=I.kept (t':=s.toks) kp;have I2:Inv X pins σ (upd H h'.objs.size (.tup ys)) {s with heap:=h'.push {cls:= .type "tuple",data:= .seq its.toArray}}:=
   I1.laid (t':=s.toks) (fun b o e=>cL _ e) (aN _) (show ObjOk X.prog X.w _ _ _ (.tup ys)from⟨hz,its,r',IsTup.new _ _⟩)
  exact⟨.ref h'.objs.size,_,I2,rfl,q _ (I1.hok.fresh (aN _))⟩
 ·obtain⟨its,r',pl,hz⟩:=I.tuple hq;exact call_tuple_same pl ⟨.ref p,H,I,rfl,q⟩
def tyV(K:W.Frag)(T:String)(x:V)(H:Hp):Prop:=match x with
 | .str _=>T="str"
 | .int _=>T="int"
 | .ref p=>(T="list"/\∃xs,SqL K H p xs)\/(T="tuple"/\∃o,K.lookup p=some o/\o.cls= .type "tuple"/\o.dict=none)\/
   (T="dict"/\((∃kvs,H p=some (.dK kvs))\/∃kvs,H p=some (.dT kvs)))\/(T="set"/\∃S n,H p=some (.set S n))
 |_=>False
theorem tyV_is{pins:L1}{σ:St}{H:Hp}{s:Shared}{T:String}{x:V}{v:Value}(I:Inv X pins σ H s)(r:RelV x v)(ty:tyV X.K T x H):
  s.TypeIs v T/\∀a,v= .ref a->∃ob,s.heap.get? a=some ob/\ob.dict=none:=by
 cases x with
 |str z=>
  obtain⟨t,rfl⟩:=r;cases(show T="str" from ty);exact⟨typeIs_str s z t,fun _ e=>nomatch e⟩
 |int i=>
  obtain⟨t,rfl⟩:=r;cases(show T="int" from ty);exact⟨typeIs_int s i t,fun _ e=>nomatch e⟩
 |ref p=>
  cases r;rcases ty with⟨rfl,xs,hq⟩|⟨rfl,o,hk,hc,hd⟩|⟨rfl,hk⟩|⟨rfl,S,n,hk⟩
  ·obtain⟨its,_,pl,_⟩:=I.list hq;refine⟨pl.isList.typeIs,fun a e=> ?_⟩;cases e;obtain⟨o,n,e,c,hd,_⟩:=pl;exact⟨o,e,hd⟩
  ·refine⟨⟨o,I.kIn p o hk,hc⟩,fun a e=> ?_⟩;cases e;exact⟨o,I.kIn _ o hk,hd⟩
  ·have z:∃o,s.heap.get? p=some o/\o.ExactDict:=by
    rcases hk with⟨kvs,hk⟩|⟨kvs,hk⟩
    ·obtain⟨_,_,_,_,o,_,_,e,ex,_⟩:=I.hok p _ hk;exact⟨o,e,ex⟩
    ·obtain⟨_,_,_,_,o,_,_,e,ex,_⟩:=I.hok p _ hk;exact⟨o,e,ex⟩
   obtain⟨o,e,ex⟩:=z;refine⟨⟨o,e,ex.1⟩,fun a e2=> ?_⟩;cases e2;exact⟨o,e,ex.2.1⟩
  ·obtain⟨o,_,_,_,e,ex,_⟩:=I.hok p _ hk;refine⟨⟨o,e,ex.1⟩,fun a e2=> ?_⟩;cases e2;exact⟨o,e,ex.2.1⟩
 |_=>exact False.elim ty
def tBM(K:W.Frag)(T:String)(r:V->List V->Hp->VK->Prop)(to:TE)(t:TA):TE:=fun σ H Q=>to σ H fun x H1=>tyV K T x H1/\t σ H1 fun xs H2=>r x xs H2 Q
variable{o e:Expr}{es:List Expr}{to:TE}{t:TA}{name:Str}{apos cpos:Pos}{T id:String}{r:V->List V->Hp->VK->Prop}
theorem pe_bm(pa:PlainAttrs T)(slot:Slot T name id)(hty:typeOf (.builtin id)=pure (.type "method_descriptor"))(hm:MtR X id r)(ho:PE X o to)(ha:PA X (e::es) t)(hbase:attributeBase o name X.env (eval o X.env)=eval o X.env:=by rfl)(hfew:((backTo cpos (starEach (e::es) X.env)).all (fun x=> !x.1)&&(backToKw cpos (keywordEach [] X.env)).all (fun x=>x.1.isSome)
   &&decide ((e::es).length+([]:List Keyword).length+(if([]:List Keyword).isEmpty then 0 else 1)<30))=true:=by rfl)(hline:(apos.endLine==cpos.line)=true:=by rfl)(hs:starEach (e::es) X.env=(false,eval e X.env)::starEach es X.env:=by rfl)(hplain:(backTo cpos (starEach es X.env)).any (·.1)=false:=by rfl):
  PE X (.Call (.Attribute o name apos) (e::es) [] cpos) (tBM X.K T r to t):=by
 intro pins s σ H Q I h;refine wpAny_Call_method_late hbase hfew hline rfl (thn (ho pins s σ H _ I h) fun v s1 ⟨x,H1,I1,r1,ty,q1⟩=> ?_);obtain⟨h1,h2⟩:=tyV_is I1 r1 ty;refine⟨T,id,pa,slot,hty,h1,h2,?_⟩;have hA:=ha cpos pins s1 σ H1 _ I1 q1;rw[hs]at hA⊢;refine Calls.callWith_builtin (by show(false||(backTo cpos (starEach es X.env)).any (·.1))=false;rw[hplain]<;>rfl) (Calls.evalArgs_plain ?_);exact thn hA fun us s2 ⟨vs,H2,I2,r2,q2⟩=>hm pins s2 σ H2 x vs v us Q I2 r1 r2 q2
end
def MtM(X:Cx)(id:String)(r:V->List V->Hp->VK->Prop):Prop:=
 ∀(pins:L1) (s:Shared) (σ:St) (H:Hp) (x:V) (xs:List V) (v:Value) (us:List Value) (Q:VK),Inv X pins σ H s->RelV x v->Vals xs us->r x xs H Q->
  wpAny (model X.prog X.w) X.A (call (.builtin id) (v::us)) (EP X pins σ Q) X.xe s
theorem Vals.one{x:V}{us:List Value}(h:Vals [x] us):∃u,us=[u]/\RelV x u:=by
 cases h with
 |cons r h=>cases h;exact⟨_,rfl,r⟩
theorem Vals.two{x y:V}{us:List Value}(h:Vals [x,y] us):∃u v,us=[u,v]/\RelV x u/\RelV y v:=by
 cases h with
 |cons r h=>obtain⟨v,rfl,q⟩:=Vals.one h;exact⟨_,_,rfl,r,q⟩
section
variable{X:Cx}{pins:L1}{σ:St}{H:Hp}{s:Shared}{l:Addr}{xs ys:List V}
theorem Inv.lset{its its':List Value}{n:Nat}{f:Array Value->Array Value}{t':Nat}(I:Inv X pins σ H s)(hH:H l=some (.lst xs))(e:s.heap.get? l=some {cls:= .type "list",data:= .seq its.toArray n})(hf:f its.toArray=its'.toArray)(hv:Vals ys its')(hz:ys.length<=sizeLine):
  Inv X pins σ (upd H l (.lst ys)) {s with heap:=s.heap.update l (Obj.mapSeq f),toks:=t'}:=by
 have q:=PySem.IsL.update e f;rw[hf]at q;refine I.write (x:=l) (e:=l) (by rw[hH];exact trivial) (.inl rfl) (fun b' u hb hu=>(Wh s.heap (Obj.mapSeq f) (lO hb)).trans hu) ⟨_,q⟩ ?_;exact⟨hz,its',_,hv,q⟩
theorem Inv.lnew{its:List Value}{t':Nat}(I:Inv X pins σ H s)(hv:Vals ys its)(hz:ys.length<=sizeLine):
  Inv X pins σ (upd H s.heap.objs.size (.lst ys)) {s with heap:=s.heap.push {cls:= .type "list",data:= .seq its.toArray},toks:=t'}:=
 I.laid (fun _ _ q=>cL _ q) (aN _) ⟨hz,its,0,hv,gY _ rfl⟩
theorem Inv.fresh(I:Inv X pins σ H s):H s.heap.objs.size=none:=I.hok.fresh (aN _)
theorem Inv.lstM(I:Inv X pins σ H s)(hH:H l=some (.lst xs)):xs.length<=sizeLine/\∃(its:List Value) (n:Nat),Vals xs its/\xs.length=its.length/\s.heap.get? l=some {cls:= .type "list",data:= .seq its.toArray n}:=by
 obtain⟨z,its,n,r,e⟩:=I.hok l _ hH;exact⟨z,its,n,r,r.length,e⟩
end
section
variable{X:Cx}
def rAppend:V->List V->Hp->VK->Prop:=fun x vs H Q=>∃l xs y,x= .ref l/\vs=[y]/\H l=some (.lst xs)/\xs.length<sizeLine/\Q .non (upd H l (.lst (xs++[y])))
theorem Qg:MtM X "list.append" rAppend:=by
 intro pins s σ H x vs v us Q I rx rv h;obtain⟨l,xs,y,rfl,rfl,hH,hz,q⟩:=h;cases rx;obtain⟨u,rfl,ru⟩:=rv.one;obtain⟨z,its,n,r,hl,e⟩:=I.lstM hH;refine call_meets F.slot_list_append ⟨_,e,rfl⟩ F.entry_list_append (F.args_list_append_2 _ _) (PySem.list_append l its.toArray n u (by rw[gW];omega)) ⟨e,?_⟩;refine⟨.non,_,I.lset (its':=its++[u]) hH e (by simp) (r.append (.cons ru .nil)) ?_,rfl,q⟩;rw[gD,List.length_singleton];omega
def rCat:R2:=fun x y H Q=>∃l b xs zs,x= .ref l/\y= .ref b/\H l=some (.lst xs)/\H b=some (.lst zs)/\xs.length+zs.length<=sizeLine/\∀p,H p=none->Q (.ref p) (upd H p (.lst (xs++zs)))
theorem rP:OpR X (binaryOp .Add) rCat:=by
 intro pins s σ H x y v u Q I rx ry h;obtain⟨l,b,xs,zs,rfl,rfl,hH,hB,hz,q⟩:=h;cases rx;cases ry;obtain⟨z,its,n,r,hl,e⟩:=I.lstM hH;obtain⟨z2,its2,n2,r2,hl2,e2⟩:=I.lstM hB;refine PySem.P.add_list e e2 ?_ (by rw[gW,gW];omega);have ea:its.toArray++its2.toArray=(its++its2).toArray:=by simp
 rw[ea];exact⟨.ref _,_,I.lnew (t':=s.toks) (r.append r2) (by rw[gD];omega),rfl,q _ I.fresh⟩
end
end L2
namespace Att
open PySem PySem.W PySem.Calls PyProof.Rows
theorem ints_of_wellAll{P:Params}{h:Heap}:∀(ns:List Int) (vs:List Value),WellAll P h vs (ns.map WData.int)->IntsAre vs ns:=by
 intro ns
 induction ns with
 |nil=>
  intro vs w;rw[List.map_nil]at w;cases w;exact .nil
 |cons n ns ih=>
  intro vs w;rw[HJ]at w;cases w with
  |cons a b=>
   cases a;exact .cons _ _ (ih _ b)
theorem script_of{l:OpenLaw}{n:Nat}(hn:l.most=some n){P:Params}{h:Heap}{args:List WData}{vals:List Value}(hpre:l.row.toRowW.claim.pre args=true)(hwl:WellAll P h vals args):
  ∃a vs ns,vals=[Value.ref a]/\args=[WData.list (ns.map WData.int)]/\h.get? a=some {cls:= .type "list",data:= .seq vs.toArray}/\IntsAre vs ns/\ns.length<=n:=by
 have hsh:WShape.hasAll [] args [.list .int]=true:=(pre_splitW hpre).1;have hc:l.pre.holds [] {args:=args}=true:=(pre_splitW hpre).2;obtain⟨d,r,rfl,h1,h2⟩:=hasAllW_cons hsh;obtain rfl:=hasAllW_nil h2;obtain⟨xs,rfl,h3⟩:=hasW_list h1;obtain⟨ns,rfl⟩:=items_int h3;have hlen:ns.length<=n:=by
  unfold OpenLaw.pre at hc;have h4:(WTm.not (.lt (.lit (.int (n:Int))) (.len (.arg 0)))).holds [] {args:=[.list (ns.map .int)]}=true:=by
   have h4:=(holds_andW hc).1;rw[hn]at h4;exact h4
  have h5:=condW_of h4 (w_not (w_lt w_lit (w_len_list (w_arg rfl))));rw[aJ]at h5;refine Zy fun q=> ?_;have q':(n:Int)<((ns.length:Nat):Int):=by omega
  first
   |(rw[eY q']at h5;exact absurd h5 (by decide))
   |(simp at h5;omega)
 cases hwl with
 |cons w1 w2=>
  cases w2;cases w1 with
  |list ho hall=>exact⟨_,_,ns,rfl,rfl,ho,ints_of_wellAll ns _ hall,hlen⟩
theorem post_true(l:OpenLaw)(args:List WData):l.row.toRowW.claim.post args (.bool true) args=true:=
 postW_of (r:=l.row.toRowW) (X:=(true==true))
  (show WShape.has [] (.bool true) .bool=true by first |rfl|decide|simp[WShape.has,WShape.arms,WShape.armsAll])
  (show(WTm.eq .res (.lit (.bool true))).value [] {args:=args,res:=some (.bool true),after:=args}=some (.bool (true==true))from w_eq_bool (w_res rfl) w_lit) rfl
theorem attach_call{l:OpenLaw}{n:Nat}{q:Program}{loose:List Str}{XP:(L4)->Heap->Prop}{YP:World->Heap->Prop}{d:DefRec}(hn:l.most=some n)(hdf:d.params.defaults=[])(call:∀(w:World) (s₀ s₁:Shared) (mg mb:L4) (fa:Addr) (o:Obj) (pm cd doc:Value) (a:Addr) (vs:List Value) (ns:List Int),
   Ground q loose [] XP w s₀ mg mb s₁.heap->YP w s₁.heap->
   s₁.heap.get? fa=some o->o.data= .func (docDef d.name d.params d.body d.scope pm cd doc)->s₁.heap.CodeRec cd d.name->mg d.name=some (.ref fa)->
   s₁.heap.get? a=some {cls:= .type "list",data:= .seq vs.toArray}->IntsAre vs ns->ns.length<=n->s₁.gens=#[]->
   codeAny (model l.prog w) callerA (.call (.ref fa) ⟨[.ref a],[]⟩) (fun r s'=>r= .ok (.ret (.bool true))/\OldK s₁.heap s'.heap/\s'.os=s₁.os/\AllBare s'.gens) s₁):
  WalkO q loose XP YP l.row.toRowW d [] (fun f vs=>PySem.call f vs):=by
 intro w s₀ s₁ mg mb G Y fa o pm cd doc dV kV ho hd hcd hD hmg hg args vals as hpre hlay hrd hwl hlo;obtain rfl:dV= .none:=Dflts.none hD hdf;obtain rfl:kV= .none:=Dflts.noKw hD;obtain⟨a,vs,ns,rfl,rfl,hobj,hints,hlen⟩:=script_of hn hpre hwl;refine enter_call (Qw (call w s₀ s₁ mg mb fa o pm cd doc a vs ns G Y ho (fd_plain hd) hcd hmg hobj hints hlen hg) fun r s' hq=> ?_);obtain⟨rfl,h2,h3,h4⟩:=hq;exact⟨.inl ⟨.bool true,.bool true,[],rfl,fun _=>rfl,.bool true,post_true l _,fun _=>⟨List.Pairwise.nil,fun _ hm=>(nomatch hm)⟩⟩,h2,h3,h4⟩
end Att
namespace L2
open PySem PySem.Spec PyProof.Rows
theorem vals_ints:∀{vs:List Value} {ns:List Int},IntsAre vs ns->Vals (ns.map V.int) vs
 |_,_,.nil=> .nil
 |_,_,.cons n t h=> .cons ⟨t,rfl⟩ (vals_ints h)
def Only(H:Hp):Prop:=∀b,H b=none\/∃o xs,H b=some (.frz o (.lst xs))
theorem law_call{P:Program}{w:World}{K:W.Frag}{mg mb:L4}{CX:CXT}{k:Nat}{fa a:Addr}{fd:FuncData}{x:Str}{sp:Sp}{s₁:Shared}{vs:List Value}{ns:List Int}
  (KX:K.In s₁.heap)(hns:s₁.heap.Ns mainGlobals mg)(hb:s₁.heap.Ns builtinsNs mb)(hbb:∀x:Str,x≠"__name__"->mb x=bootBuiltins x)(hlim:s₁.heap.NoLimit)(hg:s₁.gens=#[])(ha:s₁.heap.get? a=some {cls:= .type "list",data:= .seq vs.toArray})(hi:IntsAre vs ns)(hl:ns.length<=sizeLine)(hr:Room k callerA)
  (F:∀base:Heap,K.In base->base.Ns mainGlobals mg->FnOk P w K mg base CX k fa fd [x] sp)(hbind:∀(s:Shared) (u:Value),BindsTo s fd ⟨[u],[]⟩ [(x,u)])(hsp:∀H:Hp,Only H->SqL K H a (ns.map V.int)->sp [.ref a] H (fun v _=>v= .bl true) fun _ _ _=>False)(hCX:∀H e s',CX [] H s₁ (fun _ _ _=>False) e s'->False):
  codeAny (model P w) callerA (.call (.ref fa) ⟨[.ref a],[]⟩) (fun r s'=>r= .ok (.ret (.bool true))/\OldK s₁.heap s'.heap/\s'.os=s₁.os/\AllBare s'.gens) s₁:=by
 have rv:=vals_ints hi;have lenV:=hi.length
 -- from an abstract heap in which nothing but the script may be tracked
 have core:∀H:Hp,Only H->SqL K H a (ns.map V.int)->HOk P w H s₁.heap->(∀b,H b≠none->b=a)->(H a≠none->K.lookup a=none)->
   codeAny (model P w) callerA (.call (.ref fa) ⟨[.ref a],[]⟩) (fun r s'=>r= .ok (.ret (.bool true))/\OldK s₁.heap s'.heap/\s'.os=s₁.os/\AllBare s'.gens) s₁:=by
  intro H hO hS hok hA hK;have base_of:∀{b:Addr} {o:Obj},s₁.heap.get? b=some o->H b=none->(hidT s₁.heap H).get? b=some o:=fun e n=>hidT_get e n;have noA:∀{b:Addr} {o:Obj} {es:Array DictEntry} {ep:Nat},s₁.heap.get? b=some o->o.data= .dict es ep->H b=none:=fun{b o es ep} e d=>by
   cases q:H b with
   |none=>rfl
   |some u=>
    have e':b=a:=hA b (by rw[q];simp);subst e';rw[ha]at e;cases e;have d':Data.seq vs.toArray _=Data.dict es ep:=d;cases d'
  have nsK:∀{b:Addr} {m:L4},s₁.heap.Ns b m->(hidT s₁.heap H).Ns b m:=fun{b m} ⟨o,es,ep,e,d,r⟩=>⟨o,es,ep,base_of e (noA e d),d,r⟩;have hKb:K.In (hidT s₁.heap H):=fun b o e=>base_of (KX b o e) (by
   cases q:H b with
   |none=>rfl
   |some u=>
    have e':b=a:=hA b (by rw[q];simp);subst e';rw[hK (by rw[q];simp)]at e;cases e)
  have hM:Mod K mg (hidT s₁.heap H):=⟨hKb,nsK hns,⟨mb,nsK hb,hbb⟩,let⟨mc,h1,h2⟩:=hlim;⟨mc,nsK h1,h2⟩⟩;have e0:Env0 P w K mg (hidT s₁.heap H) callerA [] s₁ H:=⟨rfl,hM,fun b o e=>of_hidT e,Dy (hidT_size _ _),trivial,fun b hb=>absurd (show b∈([]:List Addr)from hb) (by simp),hok,.of_eq hg⟩;refine Qw ((F _ hKb (nsK hns)).run callerA [] s₁ H ⟨[.ref a],[]⟩ [.ref a] [.ref a] _ _ hr e0 (hbind s₁ (.ref a)) (.cons rfl .nil) (hsp H hO hS)) fun r s' h=> ?_;cases r with
  |error e=>exact(hCX H e s' h).elim
  |ok fl=>
   cases fl with
   |next=>exact False.elim h
   |brk=>exact False.elim h
   |cont=>exact False.elim h
   |ret u=>
    obtain⟨v,H',os,bare,un,hok',r',q⟩:=h;have q':v= .bl true:=q;subst q';obtain rfl:u=Value.bool true:=r';refine⟨rfl,OldK.of_keep fun b o e=> ?_,os,bare⟩;cases q:H b with
    |none=>exact un.keep b o e q (by intro z;exact absurd (show b∈([]:List Addr)from z) (by simp)) (by simp)
    |some u=>
     rcases hO b with z|⟨ob,xs,z⟩
     ·rw[q]at z;cases z
     ·have z2:=un.frzs b ob _ z;obtain⟨e1,_⟩:=hok b _ z;obtain⟨e2,_⟩:=hok' b _ z2;rw[e]at e1;cases e1;exact e2
 cases hk:K.lookup a with
 |some o=>
  -- the script is one of the module's own objects
  have e:=KX a o hk;rw[ha]at e;cases e;refine core (fun _=>none) (fun _=> .inl rfl) (.inr ⟨_,vs.toArray,_,hk,rfl,rfl,rfl,by rw[gW,lenV];exact hl,by simpa using rv⟩) (fun b u z=>by have z':(none:Option HO)=some u:=z;cases z') (fun b z=>absurd rfl z) fun z=>absurd rfl z
 |none=>
  refine core (fun b=>if b=a then some (.frz {cls:= .type "list",data:= .seq vs.toArray} (.lst (ns.map V.int)))else none) (fun b=> ?_) (.inl (.inr ⟨{cls:= .type "list",data:= .seq vs.toArray},aB rfl⟩)) (fun b u z=> ?_) (fun b z=> ?_) fun _=>hk
  ·by_cases hb:b=a
   ·exact .inr ⟨_,_,aB hb⟩
   ·exact .inl (aA hb)
  ·by_cases hb:b=a
   ·have z':=(aB hb).symm.trans z;cases z';subst hb;exact⟨ha,by rw[aJ];exact hl,vs,_,rv,ha⟩
   ·have z':=(aA hb).symm.trans z;cases z'
  ·by_cases hb:b=a
   ·exact hb
   ·exact absurd (aA hb) z
theorem walk_of{l:PySem.W.OpenLaw}{n k:Nat}{q:Program}{loose:List Str}{XP:(L4)->Heap->Prop}{YP:World->Heap->Prop}{d:DefRec}{K:Params->PySem.W.Frag}{CX:World->CXT}{sp:World->Sp}{x:Str}(hn:l.most=some n)(hn2:n<=sizeLine)(hdf:d.params.defaults=[])(hr:Room k callerA)(hY:∀(w:World) (h:Heap),YP w h->(K w.params).In h)
  (F:∀(w:World) (mg:L4) (fa:Addr) (h:Heap),(K w.params).In h->h.Ns mainGlobals mg->mg d.name=some (.ref fa)->
   ∃fd:FuncData,(∀(s:Shared) (u:Value),BindsTo s fd ⟨[u],[]⟩ [(x,u)])/\
    ∀base:Heap,(K w.params).In base->base.Ns mainGlobals mg->FnOk l.prog w (K w.params) mg base (CX w) k fa fd [x] (sp w))(hsp:∀(w:World) (H:Hp) (a:Addr) (ns:List Int),ns.length<=n->Only H->SqL (K w.params) H a (ns.map V.int)->sp w [.ref a] H (fun v _=>v= .bl true) fun _ _ _=>False)(hCX:∀(w:World) (H:Hp) (s:Shared) (e:Value) (s':Shared),CX w [] H s (fun _ _ _=>False) e s'->False):
  PySem.W.WalkO q loose XP YP l.row.toRowW d [] (fun f vs=>PySem.call f vs):=by
 refine Att.attach_call hn hdf fun w s₀ s₁ mg mb fa o pm cd doc a vs ns G Y ho hd hcd hmg hobj hints hlen hg=> ?_;have KX:=hY w _ Y;obtain⟨fd,hb,hF⟩:=F w mg fa _ KX G.T.g hmg;exact law_call KX G.T.g G.T.b G.T.builtins G.T.nolimit hg hobj hints (cC hlen hn2) hr hF hb (fun H hO hS=>hsp w H a ns hlen hO hS) fun H e s'=>hCX w H s₁ e s'
def inClass(s:Stmt)(j:Nat):Stmt:=match s with
 | .ClassDef _ _ _ body _ _ _ _ _ _ _=>body.getD j (.Pass ⟨0,0,0,0⟩)
 |_=> .Pass ⟨0,0,0,0⟩
def defArgs(s:Stmt):Arguments:=match s with
 | .FunctionDef _ a _ _ _ _ _ _ _ _=>a
 |_=>{posonlyargs:=[],args:=[],vararg:=none,kwonlyargs:=[],kw_defaults:=[],kwarg:=none,defaults:=[]}
def defBody(s:Stmt):List Stmt:=match s with
 | .FunctionDef _ _ b _ _ _ _ _ _ _=>b
 |_=>[]
def defScope(s:Stmt):Scope:=match s with
 | .FunctionDef _ _ _ _ _ _ sc _ _ _=>sc
 |_=>{kind:= .function,names:=[],isGenerator:=false,isCoroutine:=false}
abbrev CX0:CXT:=fun _ _ _ _ _ _=>False
abbrev E0:XK:=fun _ _ _=>False
theorem pass0{X:Cx}:Passes CX0 X E0:=fun _ _ _ _ _ _ _ h=>h.elim
structure Fun(K:W.Frag)(x qual:Str)(st:Stmt)(f:Addr)(fd:FuncData):Prop where
 ex:∃(oc:Value) (od:Option Addr) (kV doc pm:Value) (an:Option Addr) (cdv ct:Value) (osl:Array (Option Value)),
  fd=PySem.W.fnOf x qual (defArgs st) (defBody st) (defScope st) .none kV doc pm an cdv ct/\K.lookup f=some ⟨oc,od,.func fd,osl⟩/\PySem.W.codeIn K cdv qual=true
 kp:PySem.W.keepIn K (.ref f)=true
section
variable{P:Program}{w:World}{K:W.Frag}{mg:L4}{base:Heap}
theorem Fun.ok{x qual:Str}{st:Stmt}{f:Addr}{fd:FuncData}{N ps:List Str}{k:Nat}{sp:Sp}(F:Fun K x qual st f fd)(S:FnScope N ps (defScope st))(len:∀vs H Q E,sp vs H Q E->vs.length=ps.length)(hbody:∀(cdv:Value) (A:Around) (outer:List Env) (s:Shared) (H:Hp) (vs:List V) (Q:VK) (E:XK),Room k (A.deeper (envOfC qual (defScope st) s.heap.objs.size f cdv))->sp vs H Q E->
   ∃t,PSs (cxOf CX0 P w K mg base N qual (defScope st) f cdv A outer s H E).nox (defBody st) t/\t {nx:=fun _ H'=>Q .non H',rt:=Q} (start N vs) H):FnOk P w K mg base CX0 (k+1) f fd ps sp:=by
 obtain⟨oc,od,kV,doc,pm,an,cdv,ct,osl,rfl,lk,hcd⟩:=F.ex;refine fn_of lk hcd S len fun A outer s H vs Q E hr hsp=> ?_;obtain⟨t,h,q⟩:=hbody cdv A outer s H vs Q E hr hsp;exact⟨t,h.nox,q⟩
theorem Fun.binds{x qual:Str}{st:Stmt}{f:Addr}{fd:FuncData}{ps:List Str}(F:Fun K x qual st f fd)(h:∀(kV doc pm:Value) (an:Option Addr) (cdv ct:Value) (us:List Value),us.length=ps.length->bindArgs (PySem.W.fnOf x qual (defArgs st) (defBody st) (defScope st) .none kV doc pm an cdv ct) ⟨us,[]⟩=pure (ps.zip us)):Binds K fd ps []:=by
 obtain⟨oc,od,kV,doc,pm,an,cdv,ct,osl,rfl,lk,hcd⟩:=F.ex;exact .all (h kV doc pm an cdv ct)
theorem fun_mk{x qual:Str}{st:Stmt}{f:Addr}{oc:Value}{od an:Option Addr}{osl:Array (Option Value)}{kV doc pm cdv ct:Value}(l:K.lookup f=some ⟨oc,od,.func (PySem.W.fnOf x qual (defArgs st) (defBody st) (defScope st) .none kV doc pm an cdv ct),osl⟩)(c:PySem.W.codeIn K cdv qual=true)(k:PySem.W.keepIn K (.ref f)=true):Fun K x qual st f (PySem.W.fnOf x qual (defArgs st) (defBody st) (defScope st) .none kV doc pm an cdv ct):=⟨⟨oc,od,kV,doc,pm,an,cdv,ct,osl,rfl,l,c⟩,k⟩
end
theorem small1000{n:Nat}(h:n<=1000):n<sizeLine:=HW h (by decide)
section
variable{X:Cx}
theorem pv(i:Nat){x:Str}{pos:Pos}(hN:X.N[i]? =some x:=by rfl)(hv:Vis X.env.scope x:=by first |exact Or.inl rfl|exact Or.inr (Or.inl rfl)|exact Or.inr (Or.inr rfl))(hd:(x==("__debug__":Str))=false:=by decide)(hcd:(x==("__classdict__":Str))=false:=by decide):PE X (.Name x pos) (tVar i):=pe_var hN hv hd hcd
end
theorem iteF{A B:Prop}(h:B):if false=true then A else B:=by
 rw[aA uY];exact h
theorem iteT{A B:Prop}(h:A):if true=true then A else B:=by
 rw[aB rfl];exact h
theorem ite2{c A B:Prop} [Decidable c](h1:c->A)(h2:¬c->B):if c then A else B:=by
 by_cases h:c
 ·rw[aB h];exact h1 h
 ·rw[aA h];exact h2 h
def Same(H H':Hp):Prop:=∀b o,H b=some o->H' b=some o
theorem Same.refl(H:Hp):Same H H:=fun _ _ h=>h
theorem Same.trans{H H1 H2:Hp}(a:Same H H1)(b:Same H1 H2):Same H H2:=fun c o h=>b c o (a c o h)
theorem Same.free{H H':Hp}(e:Same H H'){l:Addr}(h:H' l=Option.none):H l=Option.none:=by
 cases q:H l with
 |none=>rfl
 |some o=>
  rw[e l o q]at h;cases h
theorem Same.seq{K:W.Frag}{H H':Hp}{a:Addr}{xs:List V}(e:Same H H')(h:SqL K H a xs):SqL K H' a xs:=by
 rcases h with(h|⟨o,h⟩)|h
 ·exact .inl (.inl (e _ _ h))
 ·exact .inl (.inr ⟨o,e _ _ h⟩)
 ·exact .inr h
end L2
set_option maxHeartbeats 4000000
namespace L2
open PySem PySem.Spec PyProof.Rows
def lH(cells:List (Str×Addr)):List (Str×NameKind)->List (Str×Addr)->List (Str×Addr)
 |[],acc=>acc
 |p::r,acc=>lH cells r (if(p.2==NameKind.free)=true then(p.1,(cells.lookup p.1).getD 0)::acc else acc)
theorem oO{cells:List (Str×Addr)}:∀{names:List (Str×NameKind)} {acc:List (Str×Addr)} {x:Str} {c:Addr},(x,c)∈lH cells names acc->(x,c)∈acc\/c=(cells.lookup x).getD 0/\(x,NameKind.free)∈names
 |[],_,_,_,h=> .inl h
 |(n,k)::r,acc,x,c,h=>by
  rcases oO (names:=r) h with q|⟨q,m⟩
  ·dsimp only at q;split at q
   ·rename_i hk;rcases cJ.mp q with e|e
    ·cases e;have:k=NameKind.free:=by simpa using hk
     subst this;exact .inr ⟨rfl,nG⟩
    ·exact .inl e
   ·exact .inl q
  ·exact .inr ⟨q,jr _ m⟩
theorem zX{cells:List (Str×Addr)}:∀{names:List (Str×NameKind)} {acc:List (Str×Addr)} {p:Str×Addr},p∈acc->p∈lH cells names acc
 |[],_,_,h=>h
 |(n,k)::r,acc,p,h=>by
  refine zX (names:=r) ?_;split
  ·exact jr _ h
  ·exact h
theorem zW{cells:List (Str×Addr)}:∀{names:List (Str×NameKind)} {acc:List (Str×Addr)} {x:Str},(x,NameKind.free)∈names->∃c,(x,c)∈lH cells names acc
 |(n,k)::r,acc,x,h=>by
  rcases cJ.mp h with e|e
  ·cases e;refine⟨(cells.lookup n).getD 0,zX (names:=r) ?_⟩;rw[aB (show(NameKind.free==NameKind.free)=true from rfl)];exact nG
  ·exact zW (names:=r) e
theorem YJ{β:Type}:∀{l:List (Str×β)} {x:Str} {c:β},(x,c)∈l->∃d,l.lookup x=some d/\(x,d)∈l
 |(n,k)::r,x,c,h=>by
  cases hx:x==n with
  |true=>
   have e:x=n:=by simpa using hx
   subst e;exact⟨k,by simp[HN],nG⟩
  |false=>
   rcases cJ.mp h with e|e
   ·cases e;simp at hx
   ·obtain⟨d,h1,h2⟩:=YJ e;exact⟨d,by simp only[HN,hx];exact h1,jr _ h2⟩
theorem tU{scope:Scope}{env:Env}(h:∀x,(x,NameKind.free)∈scope.names->∃c,env.cells.lookup x=some c):closureFor scope env=pure (lH env.cells scope.names []):=by
 have key:∀(names:List (Str×NameKind)) (acc:List (Str×Addr)),(∀x,(x,NameKind.free)∈names->∃c,env.cells.lookup x=some c)->
   (forIn names acc fun(x:Str×NameKind) (cs:List (Str×Addr))=>if(x.2==NameKind.free)=true then(do let y<-cellOf env x.1;pure (ForInStep.yield ((x.1,y)::cs)))else pure (ForInStep.yield cs):Sem (List (Str×Addr)))=pure (lH env.cells names acc):=by
  intro names
  induction names with
  |nil=>intro acc _;rfl
  |cons p r ih=>
   intro acc hh;obtain⟨n,k⟩:=p;rw[wfn];dsimp only;by_cases hk:(k==NameKind.free)=true
   ·have e:k=NameKind.free:=by simpa using hk
    subst e;obtain⟨c,hc⟩:=hh n nG;rw[aB hk];unfold cellOf;rw[hc];simp only[pure_bind];refine Eq.trans (ih _ fun x hx=>hh x (jr _ hx)) ?_;show _=pure (lH env.cells r (if(NameKind.free==NameKind.free)=true then(n,(env.cells.lookup n).getD 0)::acc else acc));rw[aB hk,hc];rfl
   ·rw[aA hk];simp only[pure_bind];refine Eq.trans (ih _ fun x hx=>hh x (jr _ hx)) ?_;show _=pure (lH env.cells r (if(k==NameKind.free)=true then(n,(env.cells.lookup n).getD 0)::acc else acc));rw[aA hk]
 have q:=key scope.names [] h;unfold closureFor;simp only[bind_pure];exact q
theorem mK{env:Env}:∀{names:List (Str×NameKind)} {x:Str} {k:NameKind},names.lookup x=some k->
  (names.map fun(n,k)=>if(k==NameKind.free&&env.scope.kind== .function&&env.kindOf n==some .cell)then(n,NameKind.cell)else(n,k)).lookup x=some (if(k==NameKind.free&&env.scope.kind== .function&&env.kindOf x==some .cell)=true then .cell else k)
 |[],_,_,h=>by simp at h
 |(n,k)::r,x,k',h=>by
  have ih:= @mK env r x k';show List.lookup x ((if(k==NameKind.free&&env.scope.kind== .function&&env.kindOf n==some .cell)=true then(n,NameKind.cell)else(n,k))::_)=_;cases hx:x==n with
  |true=>
   have e:x=n:=by simpa using hx
   subst e;simp only[HN,hx]at h;cases h;by_cases hc:(k==NameKind.free&&env.scope.kind== .function&&env.kindOf x==some .cell)=true
   ·rw[aB hc,aB hc];simp[HN]
   ·rw[aA hc,aA hc];simp[HN]
  |false=>
   simp only[HN,hx]at h;by_cases hc:(k==NameKind.free&&env.scope.kind== .function&&env.kindOf n==some .cell)=true
   ·rw[aB hc];simp only[HN,hx];exact ih h
   ·rw[aA hc];simp only[HN,hx];exact ih h
theorem sO{env:Env}:∀{names:List (Str×NameKind)} {x:Str},names.lookup x=none->
  (names.map fun(n,k)=>if(k==NameKind.free&&env.scope.kind== .function&&env.kindOf n==some .cell)then(n,NameKind.cell)else(n,k)).lookup x=none
 |[],_,_=>rfl
 |(n,k)::r,x,h=>by
  have ih:= @sO env r x;show List.lookup x ((if(k==NameKind.free&&env.scope.kind== .function&&env.kindOf n==some .cell)=true then(n,NameKind.cell)else(n,k))::_)=_;cases hx:x==n with
  |true=>simp only[HN,hx]at h;cases h
  |false=>
   simp only[HN,hx]at h;by_cases hc:(k==NameKind.free&&env.scope.kind== .function&&env.kindOf n==some .cell)=true
   ·rw[aB hc];simp only[HN,hx];exact ih h
   ·rw[aA hc];simp only[HN,hx];exact ih h
theorem Bv{scope:Scope}{env:Env}{x:Str}(h:scope.names.lookup x=some .free):(relabel scope env).names.lookup x=some .cell\/(relabel scope env).names.lookup x=some .free:=by
 have q:=mK (env:=env) h;by_cases hc:((NameKind.free==NameKind.free)&&env.scope.kind== .function&&env.kindOf x==some .cell)=true
 ·rw[aB hc]at q;exact .inl q
 ·rw[aA hc]at q;exact .inr q
inductive jg(X:Cx)(scope:Scope):List Str->List Nat->Prop
 |nil:jg X scope [] []
 |cons {x:Str} {j:Nat} {xs:List Str} {js:List Nat} (hN:X.N[j]? =some x) (hf:scope.names.lookup x=some .free) (t:jg X scope xs js):jg X scope (x::xs) (j::js)
theorem jg.get{X:Cx}{scope:Scope}:∀{xs:List Str} {js:List Nat} {k:Nat} {x:Str},jg X scope xs js->xs[k]? =some x->∃j,js[k]? =some j/\X.N[j]? =some x/\scope.names.lookup x=some .free
 |_,_,k,x,.nil,h=>by simp at h
 |_,_,0,x,.cons h1 h2 _,h=>by simp at h;subst h;exact⟨_,rfl,h1,h2⟩
 |_,_,k+1,x,.cons _ _ t,h=>by
  obtain⟨j,a,b⟩:=jg.get (k:=k) t (by simpa using h);exact⟨j,by simpa using a,b⟩
theorem jg.len{X:Cx}{scope:Scope}:∀{xs:List Str} {js:List Nat},jg X scope xs js->xs.length=js.length
 |_,_,.nil=>rfl
 |_,_,.cons _ _ t=>by simp[jg.len t]
def zx(own:List Str)(ix:List Nat)(σ:St):St:=own.map (fun _=>none)++ix.map fun j=>(σ[j]?).join
def Ro(X:Cx)(ifs:List Expr)(t:TT):Prop:=
 ∀(pins:L1) (s:Shared) (σ:St) (H:Hp) (Q:Bool->Hp->Prop),Inv X pins σ H s->t σ H Q->
  wpAny (model X.prog X.w) X.A (forIn ifs true fun c r=>if r=true then do let ok<-isTrue c X.env (eval c X.env);pure (ForInStep.yield ok)else pure (ForInStep.yield r)) (TP X pins σ Q) X.xe s
theorem lM{X:Cx}:Ro X [] (fun _ H Q=>Q true H):=fun _ _ _ H _ I h=>wpAny_tests_nil ⟨H,I,h⟩
theorem cW{X:Cx}{c:Expr}{t:TT}(h:PT X c t):Ro X [c] t:=fun pins s σ H Q I hq=>wpAny_tests_one (h pins s σ H Q I hq)
theorem HOk.add{P:Program}{w:World}{H:Hp}{h:Heap}{a:Addr}{o:HO}(x:HOk P w H h)(hn:H a=none)(new:ObjOk P w (upd H a o) h a o):HOk P w (upd H a o) h:=fun b u e=>by
 by_cases hb:b=a
 ·subst hb;rw[aD]at e;cases e;exact new
 ·rw[cD hb]at e;exact(x b u e).stay (fun c v _ q=>q) (fun c q=>by rw[cD (rB q hn)];exact q) fun c xs q=>by rw[cD (rB q hn)];exact q
theorem Un.add{fs ex:List Addr}{H H':Hp}{h h':Heap}{a:Addr}{o:HO}(u:Un fs ex H H' h h')(ha:h.objs.size<=a)(hn:H' a=none):Un fs ex H (upd H' a o) h h' where
 keep:=u.keep
 slot:=u.slot
 free:=fun b ob q n hx=>by rw[cD (dB (jw (cU q) ha))];exact u.free b ob q n hx
 there:=u.there
 tups:=fun b xs q=>by have:=u.tups b xs q;rw[cD (rB this hn)];exact this
 frzs:=fun b ob xs q=>by have:=u.frzs b ob xs q;rw[cD (rB this hn)];exact this
 tbls:=fun b ps q=>by obtain⟨m,e⟩:=u.tbls b ps q;exact⟨m,by rw[cD (rB e hn)];exact e⟩
def vI(J:It)(ini:St)(H:Hp)(g:TG)(tc:TT)(te:TE)(Fin:List V->Hp->Prop):Prop:=
 ∃W:Nat->Nat->List V->St->Hp->Prop,(∃m,W 0 m [] ini H)/\∀i m acc σ H,W i m acc σ H->
  (J.stop i H/\acc.length<=sizeLine/\Fin acc H)\/(J.go i H/\acc.length<sizeLine/\∃N:List V->St->Hp->Prop,(∀acc' σ' H',N acc' σ' H'->∃m',m'<m/\W (i+1) m' acc' σ' H')/\∀x H',J.yld i H x H'->g x σ H' fun σ2 H2=>tc σ2 H2 fun b H3=>
   if b=true then te σ2 H3 fun v H4=>N (acc++[v]) σ2 H4 else N acc σ2 H3)
def DQ(wi:TI)(own:List Str)(ix:List Nat)(g:TG)(tc:TT)(te:TE):TE:=fun σ H Q=>wi σ H fun J H1=>
 vI J (zx own ix σ) H1 g tc te fun acc H'=>∀p,H' p=none->Q (.ref p) (upd H' p (.lst acc))
section
variable{K:W.Frag}{a:Addr}{xs:List V}{g:TG}{tc:TT}{te:TE}{Fin:List V->Hp->Prop}{ini:St}{H:Hp}
theorem vK(Pv:Nat->List V->St->Hp->Prop)(h0:Pv 0 [] ini H)(hl:∀(i:Nat) acc σ H,i<=xs.length->Pv i acc σ H->SqL K H a xs)(hz:∀(i:Nat) acc σ H,i<=xs.length->Pv i acc σ H->acc.length<=i)(hx:xs.length<=sizeLine)(hs:∀(i:Nat) x acc σ H,xs[i]? =some x->Pv i acc σ H->g x σ H fun σ2 H2=>tc σ2 H2 fun b H3=>if b=true then te σ2 H3 fun v H4=>Pv (i+1) (acc++[v]) σ2 H4 else Pv (i+1) acc σ2 H3)(hd:∀acc σ H,Pv xs.length acc σ H->Fin acc H):vI (Itl K a) ini H g tc te Fin:=by
 refine⟨fun i m acc σ H=>m=xs.length-i/\i<=xs.length/\Pv i acc σ H,⟨xs.length,by simp,cG _,h0⟩,?_⟩;rintro i m acc σ H ⟨rfl,hi,p⟩;have q:=hl i acc σ H hi p;have z:=hz i acc σ H hi p;by_cases hlt:i<xs.length
 ·refine .inr ⟨⟨xs,xs[i],q,by simp[hlt]⟩,by omega,fun acc σ H=>Pv (i+1) acc σ H,fun acc' σ' H' r=>⟨_,by omega,rfl,hlt,r⟩,fun x H' y=> ?_⟩;obtain⟨e,y⟩:=y;subst e;exact hs i x acc σ _ (y xs q) p
 ·have e:i=xs.length:=by omega
  subst e;exact .inl ⟨⟨xs,q,aN _⟩,by omega,hd acc σ H p⟩
theorem Mj(Pv:Nat->List V->St->Hp->Prop)(h0:Pv 0 [] ini H)(hl:∀(i:Nat) acc σ H,i<=xs.length->Pv i acc σ H->SqT K H a xs)(hz:∀(i:Nat) acc σ H,i<=xs.length->Pv i acc σ H->acc.length<=i)(hx:xs.length<=sizeLine)(hs:∀(i:Nat) x acc σ H,xs[i]? =some x->Pv i acc σ H->g x σ H fun σ2 H2=>tc σ2 H2 fun b H3=>if b=true then te σ2 H3 fun v H4=>Pv (i+1) (acc++[v]) σ2 H4 else Pv (i+1) acc σ2 H3)(hd:∀acc σ H,Pv xs.length acc σ H->Fin acc H):vI (Itt K a) ini H g tc te Fin:=by
 refine⟨fun i m acc σ H=>m=xs.length-i/\i<=xs.length/\Pv i acc σ H,⟨xs.length,by simp,cG _,h0⟩,?_⟩;rintro i m acc σ H ⟨rfl,hi,p⟩;have q:=hl i acc σ H hi p;have z:=hz i acc σ H hi p;by_cases hlt:i<xs.length
 ·refine .inr ⟨⟨xs,xs[i],q,by simp[hlt]⟩,by omega,fun acc σ H=>Pv (i+1) acc σ H,fun acc' σ' H' r=>⟨_,by omega,rfl,hlt,r⟩,fun x H' y=> ?_⟩;obtain⟨e,y⟩:=y;subst e;exact hs i x acc σ _ (y xs q) p
 ·have e:i=xs.length:=by omega
  subst e;exact .inl ⟨⟨xs,q,aN _⟩,by omega,hd acc σ H p⟩
theorem Qh{lo:Int}{n:Nat}(Pv:Nat->List V->St->Hp->Prop)(h0:Pv 0 [] ini H)(hz:∀(i:Nat) acc σ H,i<=n->Pv i acc σ H->acc.length<=i)(hx:n<=sizeLine)(hs:∀(i:Nat) acc σ H,i<n->Pv i acc σ H->g (.int (lo+i)) σ H fun σ2 H2=>tc σ2 H2 fun b H3=>if b=true then te σ2 H3 fun v H4=>Pv (i+1) (acc++[v]) σ2 H4 else Pv (i+1) acc σ2 H3)(hd:∀acc σ H,Pv n acc σ H->Fin acc H):vI (Itr lo n) ini H g tc te Fin:=by
 refine⟨fun i m acc σ H=>m=n-i/\i<=n/\Pv i acc σ H,⟨n,by simp,cG _,h0⟩,?_⟩;rintro i m acc σ H ⟨rfl,hi,p⟩;have z:=hz i acc σ H hi p;by_cases hlt:i<n
 ·refine .inr ⟨hlt,by omega,fun acc σ H=>Pv (i+1) acc σ H,fun acc' σ' H' r=>⟨_,by omega,rfl,hlt,r⟩,fun x H' y=> ?_⟩;obtain⟨e,y⟩:=y;subst e y;exact hs i acc σ _ hlt p
 ·have e:i=n:=by omega
  subst e;exact .inl ⟨aN _,by omega,hd acc σ H p⟩
end
end L2
namespace qN
open PySem PySem.W PyProof.Rows
section
variable{O:KeyOrd}{key:Nat->O.α}{N:Nat}{cmp:Nat->Nat->(Bool->Shared->Prop)->Shared->Prop}{s:Shared}
def jo(O:KeyOrd)(key:Nat->O.α)(N:Nat)(cmp:Nat->Nat->(Bool->Shared->Prop)->Shared->Prop)(s:Shared):Prop:=
 ∀i j (C:Bool->Shared->Prop),i<N->j<N->C (O.blt (key i) (key j)) s->cmp i j C s
def KN(key:Nat->O.α)(p:Array Nat)(i:Nat):O.α:=key (p.getD i 0)
def So(key:Nat->O.α)(p:Array Nat)(k:Nat):Prop:=∀i j,i<=j->j<k->O.kle (KN key p i) (KN key p j)
def Ni(key:Nat->O.α)(p:Array Nat)(k:Nat):Prop:=∀i j,i<=j->j<k->O.kle (KN key p j) (KN key p i)
structure Ord(N:Nat)(p:Array Nat):Prop where
 perm:p.Perm (List.toArray (List.range N))
theorem Ord.size{p:Array Nat}(h:Ord N p):p.size=N:=by have:=h.perm.size_eq;simpa using this
theorem Ord.lt{p:Array Nat}(h:Ord N p){i:Nat}(hi:i<N):p.getD i 0<N:=by
 have hi':i<p.size:=by rw[h.size];exact hi
 have e:p.getD i 0=p[i]:=by simp[Array.getD,hi']
 rw[e];have m:p[i]∈p.toList:=by simp
 have:=(yef.mp h.perm).mem_iff.mp m;simpa using this
theorem Ord.rev{p:Array Nat}(h:Ord N p)(i j:Nat):Ord N (kas_rev p i j):=⟨(mirror_perm _ _ _ _).trans h.perm⟩
theorem Ord.bub{p:Array Nat}(h:Ord N p)(i j:Nat):Ord N (bubble p i j):=⟨(bubble_perm _ _ _).trans h.perm⟩
theorem tL(p:Array Nat)(i:Nat):p.getD i 0=(p[i]?).getD 0:=by simp
theorem Di{p:Array Nat}{i j:Nat}(hj:j<=p.size)(k:Nat):KN key (kas_rev p i j) k=if i<=k/\k<j then KN key p (i+j-1-k)else KN key p k:=by
 have e:=getElem?_mirror_all (i:=i) hj k;unfold KN kas_rev;rw[tL,e];split
 ·rw[tL]
 ·rw[tL]
theorem VN{p:Array Nat}{i j:Nat}(hj:j<=p.size)(heq:∀k,i<=k->k<j->KN key p k=KN key p (j-1))(k:Nat):KN key (kas_rev p i j) k=KN key p k:=by
 rw[Di hj];split
 ·rename_i h;rw[heq k h.1 h.2,heq _ (by omega) (by omega)]
 ·rfl
theorem Ma{p:Array Nat}{src d:Nat}(hs:src<p.size)(hd:d<=src)(k:Nat):KN key (bubble p src d) k=if k=src-d then KN key p src else if src-d<k/\k<=src then KN key p (k-1)else KN key p k:=by
 have e:=getElem?_bubble hs d hd k;have q:KN key (bubble p src d) k=key (((bubble p src d)[k]?).getD 0):=lE key (tL _ _);have q2:∀i,KN key p i=key ((p[i]?).getD 0):=fun i=>lE key (tL _ _);rw[q,e,q2,q2,q2];by_cases h1:k=src-d
 ·rw[aB h1,aB h1]
 ·rw[aA h1,aA h1];by_cases h2:src-d<k/\k<=src
  ·rw[aB h2,aB h2]
  ·rw[aA h2,aA h2]
theorem Ez{i j:Nat}(h:i<=j)(hn:¬i=j):i<=j-1:=YW (Nf h hn)
theorem CK{j n:Nat}(h:j<n+1)(hn:¬j<n):j=n:=Rx (Qn h) (Nat.not_lt.mp hn)
theorem jL{x k:Nat}(h:1<=x)(hk:x<=k):x-1<k:=Wf h hk
theorem Cd{x f N:Nat}(h:x+(f+1)<=N):x<N:=jw (Nat.lt_add_of_pos_right (xR f)) h
theorem vP{x f N:Nat}(h:x+(f+1)<=N):x+1+f<=N:=cC (Dy (Y5 x f)) h
theorem QC{x f m:Nat}(h:m<=x+1+f):m<=x+(f+1):=cC h (Dy (Y5 x f))
theorem Sq{i j n:Nat}(h:i<=j):0+n-1-j<=0+n-1-i:=Nat.sub_le_sub_left h _
theorem Sg{i n:Nat}(h:i<n):0+n-1-i<n:=by
 rw[wgg];exact HW (Zb _ _) (Wf (HW (cG _) h) (aN _))
theorem asc(ok:jo O key N cmp s){p:Array Nat}(hp:Ord N p){Q:Nat->Shared->Prop}:∀(f n:Nat),1<=n->n+f<=N->So key p n->(∀m,n<=m->m<=n+f->So key p m->(m=n+f\/O.klt (KN key p m) (KN key p (m-1)))->Q m s)->(kas_asc p f n).kasWp cmp Q s
 |0,n,_,_,hs,h=>h n (aN _) (aN _) hs (.inl rfl)
 |f+1,n,h1,hn,hs,h=>by
  have T6:n<N:=Cd hn;refine ok _ _ _ (hp.lt T6) (hp.lt (jL h1 (cR T6))) ?_;cases hless:O.blt (key (p.getD n 0)) (key (p.getD (n-1) 0))with
  |true=>
   show Q n s;exact h n (aN _) (Rz _ _) hs (.inr hless)
  |false=>
   show(kas_asc p f (n+1)).kasWp cmp Q s;refine asc ok hp f (n+1) (xR _) (vP hn) (fun i j hij hj=> ?_) fun m a b c d=>h m (wem a) (QC b) c (d.imp (fun z=>z.trans (Y5 n f)) id);by_cases hjn:j<n
   ·exact hs i j hij hjn
   ·have hj':j=n:=CK hj hjn;subst hj';by_cases hi':i=j
    ·subst hi';exact Nm _
    ·exact Zx (hs i (j-1) (Ez hij hi') (jL h1 (aN _))) hless
theorem tail3(ok:jo O key N cmp s){p:Array Nat}(hp:Ord N p){n:Nat}{Q:Nat×Array Nat->Shared->Prop}(h1:1<=n)(hn:n<=N)(hs:Ni key p n)(h:∀m p',Ord N p'->1<=m->m<=N->So key p' m->Q (m,p') s):(kas_tail3 n N p).kasWp cmp Q s:=by
 unfold kas_tail3;rw[Wn];have hsz:n<=p.size:=by rw[hp.size];exact hn
 have hN:n+(N-n)=N:=wdm hn;refine asc ok (hp.rev 0 n) (N-n) n h1 (Dy hN) (fun i j hij hj=> ?_) fun m a b c _=>h m _ (hp.rev 0 n) (cC h1 a) (cC b (Dy hN)) c;rw[Di hsz,Di hsz,aB ⟨cG _,HW hij hj⟩,aB ⟨cG _,hj⟩];exact hs _ _ (Sq hij) (Sg (HW hij hj))
theorem Lq{p p':Array Nat}{x:Nat}(h1:1<=x)(hs:Ni key p x)(hless:O.kle (KN key p x) (KN key p (x-1)))(hk:∀k,KN key p' k=KN key p k):Ni key p' (x+1):=by
 intro i j hij hj;rw[hk,hk];by_cases hjx:j<x
 ·exact hs i j hij hjx
 ·have hj':j=x:=CK hj hjx;subst hj';by_cases hi':i=j
  ·subst hi';exact Nm _
  ·exact Zx hless (hs i (j-1) (Ez hij hi') (jL h1 (aN _)))
theorem one_eq{p:Array Nat}{x i:Nat}(h1:x+1-(0+1)<=i)(h2:i<x+1):KN key p i=KN key p (x+1-1):=lE _ (Rx (Qn h2) h1)
theorem desc(ok:jo O key N cmp s){Q:Array Nat×Nat×Nat->Shared->Prop}:∀(f:Nat) (p:Array Nat) (x neq:Nat),Ord N p->1<=x->x+f<=N->Ni key p x->neq+1<=x->(∀i,x-(neq+1)<=i->i<x->KN key p i=KN key p (x-1))->
  (∀p' m q,Ord N p'->x<=m->m<=x+f->Ni key p' m->q+1<=m->(∀i,m-(q+1)<=i->i<m->KN key p' i=KN key p' (m-1))->Q (p',m,q) s)->(kas_desc f p x neq).kasWp cmp Q s
 |0,p,x,neq,hp,_,_,hs,hq,he,h=>h p x neq hp (aN _) (aN _) hs hq he
 |f+1,p,x,neq,hp,h1,hn,hs,hq,he,h=>by
  have ZX:x<N:=Cd hn;have hsz:x<=p.size:=by rw[hp.size];exact cR ZX
  have hx1:x-1<N:=jL h1 (cR ZX);have hh:∀p' m q,Ord N p'->x+1<=m->m<=x+1+f->Ni key p' m->q+1<=m->(∀i,m-(q+1)<=i->i<m->KN key p' i=KN key p' (m-1))->Q (p',m,q) s:=fun p' m q a b c d e g=>h p' m q a (wem b) (QC c) d e g;refine ok _ _ _ (hp.lt ZX) (hp.lt hx1) ?_;cases hless:O.blt (key (p.getD x 0)) (key (p.getD (x-1) 0))with
  |true=>
   show(if neq>0 then kas_desc f (kas_rev p (x-(neq+1)) x) (x+1) 0 else kas_desc f p (x+1) 0).kasWp cmp Q s;by_cases hneq:neq>0
   ·rw[aB hneq];exact desc ok f _ (x+1) 0 (hp.rev _ _) (xR _) (vP hn) (Lq h1 hs (Wo hless) (VN hsz he)) (xR _) (fun i h1 h2=>one_eq h1 h2) hh
   ·rw[aA hneq];exact desc ok f _ (x+1) 0 hp (xR _) (vP hn) (Lq h1 hs (Wo hless) fun _=>rfl) (xR _) (fun i h1 h2=>one_eq h1 h2) hh
  |false=>
   show(KasT.ask (p.getD (x-1) 0) (p.getD x 0) fun d=>if d=true then KasT.ret (p,x,neq)else kas_desc f p (x+1) (neq+1)).kasWp cmp Q s;refine ok _ _ _ (hp.lt hx1) (hp.lt ZX) ?_;cases hl:O.blt (key (p.getD (x-1) 0)) (key (p.getD x 0))with
   |true=>exact h p x neq hp (aN _) (Rz _ _) hs hq he
   |false=>
    show(kas_desc f p (x+1) (neq+1)).kasWp cmp Q s;have heqx:KN key p x=KN key p (x-1):=KeyOrd.kle_antisymm hl hless;refine desc ok f _ (x+1) (neq+1) hp (xR _) (vP hn) (Lq h1 hs (by rw[heqx];exact Nm _) fun _=>rfl) (Nat.succ_le_succ hq) (fun i h1 h2=> ?_) hh;show KN key p i=KN key p x;by_cases hix:i=x
    ·subst hix;rfl
    ·rw[heqx];exact he i (cC (Dy (Nat.succ_sub_succ x (neq+1)).symm) h1) (Nf (Qn h2) hix)
theorem descPart(ok:jo O key N cmp s){p:Array Nat}(hp:Ord N p){n:Nat}{Q:Nat×Array Nat->Shared->Prop}(hn:n+1<=N)(hs:Ni key p (n+1))(h:∀m p',Ord N p'->1<=m->m<=N->So key p' m->Q (m,p') s):(kas_descPart n N p).kasWp cmp Q s:=by
 unfold kas_descPart;rw[Wn];have hN:n+1+(N-(n+1))<=N:=Dy (wdm hn);refine desc ok _ _ _ _ hp (xR _) hN hs (xR _) (fun i h1 h2=>one_eq h1 h2) fun p' m q a b c d e g=> ?_;have hm:m<=N:=cC c hN;have hm1:1<=m:=cC (xR _) b;have hsz:m<=p'.size:=by rw[a.size];exact hm
 dsimp only;by_cases hq:q>0
 ·rw[aB hq];refine tail3 ok (a.rev _ _) hm1 hm (fun i j hij hj=> ?_) h;rw[VN hsz g,VN hsz g];exact d i j hij hj
 ·rw[aA hq];exact tail3 ok a hm1 hm d h
theorem count(ok:jo O key N cmp s){p:Array Nat}(hp:Ord N p){Q:Nat×Array Nat->Shared->Prop}(h1:1<=N)(h:∀m p',Ord N p'->1<=m->m<=N->So key p' m->Q (m,p') s):(kas_count N p).kasWp cmp Q s:=by
 unfold kas_count;rw[Wn];have hN:1+(N-1)=N:=wdm h1;refine asc ok hp (N-1) 1 (aN _) (Dy hN) (fun i j hij hj=>by
  have hj0:j=0:=Nat.lt_one_iff.mp hj;subst hj0;have hi0:i=0:=Nat.le_zero.mp hij;subst hi0;exact Nm _) fun n a b hsn hor=> ?_
 have T6:n<=N:=cC b (Dy hN);by_cases hnn:n=N
 ·rw[aB (by simpa using hnn)];exact h n p hp a T6 hsn
 ·rw[aA (by simpa using hnn)];have hlt:O.klt (KN key p n) (KN key p (n-1)):=hor.resolve_left fun z=>hnn (z.trans hN);have Ph:n<N:=Nf T6 hnn;by_cases hgt:n>1
  ·rw[aB hgt];have hn1:n-1<n:=jL a (aN _);refine ok _ _ _ (hp.lt h1) (hp.lt (Mr hn1 Ph)) ?_;cases hrose:O.blt (key (p.getD 0 0)) (key (p.getD (n-1) 0))with
   |true=>exact h n p hp a T6 hsn
   |false=>
    show(kas_descPart n N (kas_rev p 0 n)).kasWp cmp Q s;have hsz:n<=p.size:=by rw[hp.size];exact T6
    have hall:∀k,0<=k->k<n->KN key p k=KN key p (n-1):=fun k _ hk=>
     KeyOrd.kle_antisymm (hsn k (n-1) (YW hk) hn1) (Zx hrose (hsn 0 k (cG _) hk))
    refine descPart ok (hp.rev 0 n) Ph (fun i j hij hj=> ?_) h;rw[VN hsz hall,VN hsz hall];by_cases hjn:j<n
    ·rw[hall i (cG _) (HW hij hjn),hall j (cG _) hjn];exact Nm _
    ·have hj':j=n:=CK hj hjn;subst hj';by_cases hi':i=j
     ·subst hi';exact Nm _
     ·rw[hall i (cG _) (Nf hij hi')];exact Wo hlt
  ·rw[aA hgt];have hn1':n=1:=Rx (Nat.not_lt.mp hgt) a;subst hn1';refine descPart ok hp Ph (fun i j hij hj=> ?_) h;by_cases hi':i=j
   ·subst hi';exact Nm _
   ·have hij':i<j:=Nf hij hi';have hj1:j=1:=Rx (Qn hj) (HW (cG i) hij');subst hj1;have hi0:i=0:=Nat.lt_one_iff.mp hij';subst hi0;exact Wo hlt
theorem half_lt{l r:Nat}(h:l<r):(l+r)/2<r:=by omega
theorem Pk{l r:Nat}(h:l<r):l<=(l+r)/2:=by omega
theorem place(ok:jo O key N cmp s){p:Array Nat}(hp:Ord N p){k:Nat}{Q:Nat->Shared->Prop}(hk:k<N)(hs:So key p k):∀(f l r:Nat),l<=r->r<=k->r-l<=f->(∀i,i<l->O.kle (KN key p i) (KN key p k))->(∀i,r<=i->i<k->O.klt (KN key p k) (KN key p i))->
  (∀l,l<=k->(∀i,i<l->O.kle (KN key p i) (KN key p k))->(∀i,l<=i->i<k->O.klt (KN key p k) (KN key p i))->Q l s)->(kas_place p k f l r).kasWp cmp Q s
 |0,l,r,hlr,hrk,hm,hlo,hhi,h=>by
  have e:l=r:=Rx hlr (Nat.sub_eq_zero_iff_le.mp (Nat.le_zero.mp hm));subst e;exact h l hrk hlo hhi
 |f+1,l,r,hlr,hrk,hm,hlo,hhi,h=>by
  show(if l≥r then KasT.ret l else KasT.ask (p.getD k 0) (p.getD ((l+r)/2) 0) fun c=>if c=true then kas_place p k f l ((l+r)/2)else kas_place p k f ((l+r)/2+1) r).kasWp cmp Q s;by_cases hge:l≥r
  ·rw[aB hge];have e:l=r:=Rx hlr hge;subst e;exact h l hrk hlo hhi
  ·rw[aA hge];have hc:(l+r)/2<r:=half_lt (Nat.not_le.mp hge);have hd:l<=(l+r)/2:=Pk (Nat.not_le.mp hge);generalize (l+r)/2=c at hc hd⊢;refine ok _ _ _ (hp.lt hk) (hp.lt (Mr (jw hc hrk) hk)) ?_;cases hless:O.blt (key (p.getD k 0)) (key (p.getD c 0))with
   |true=>
    refine place ok hp hk hs f l c hd (cR (jw hc hrk)) (Qn (jw (Nat.sub_lt_sub_right hd hc) hm)) hlo (fun i h1 h2=> ?_) h;by_cases hi:i=c
    ·subst hi;exact hless
    ·exact KeyOrd.klt_of_klt_of_kle hless (hs c i h1 h2)
   |false=>
    refine place ok hp hk hs f (c+1) r hc hrk (Qn (jw (Nat.sub_lt_sub_left (HW hd hc) (Nat.lt_succ_of_le hd)) hm)) (fun i h1=> ?_) hhi h;by_cases hi:i=c
    ·subst hi;exact hless
    ·exact Zx (hs i c (Qn h1) (jw hc hrk)) hless
theorem Yy{p:Array Nat}{k l:Nat}(hs:So key p k)(hl:l<=k)(hsz:k<p.size)(hlo:∀i,i<l->O.kle (KN key p i) (KN key p k))(hhi:∀i,l<=i->i<k->O.klt (KN key p k) (KN key p i)):So key (bubble p k (k-l)) (k+1):=by
 intro i j hij hj;have e:k-(k-l)=l:=Nat.sub_sub_self hl;rw[Ma hsz (Zb _ _),Ma hsz (Zb _ _),e];have hjk:j<=k:=Qn hj;by_cases hi1:i=l
 ·rw[aB hi1];by_cases hj1:j=l
  ·rw[aB hj1];exact Nm _
  ·have lj:l<j:=Nf (hi1▸hij) (lO hj1);rw[aA hj1,aB ⟨lj,hjk⟩];exact Wo (hhi (j-1) (YW lj) (Wf (HW (cG _) lj) hjk))
 ·rw[aA hi1];by_cases hi2:l<i/\i<=k
  ·have lj:l<j:=jw hi2.1 hij;rw[aB hi2,aA (lO (dB lj)),aB ⟨lj,hjk⟩];exact hs _ _ (Nat.sub_le_sub_right hij 1) (Wf (HW (cG _) lj) hjk)
  ·rw[aA hi2];have il:i<l:=Nf (Nat.not_lt.mp fun z=>hi2 ⟨z,cC hij hjk⟩) hi1;by_cases hj1:j=l
   ·rw[aB hj1];exact hlo i il
   ·rw[aA hj1];by_cases hj2:l<j/\j<=k
    ·rw[aB hj2];exact hs _ _ (YW (Mr il hj2.1)) (Wf (HW (cG _) hj2.1) hjk)
    ·rw[aA hj2];exact hs _ _ hij (jw (Nf (Nat.not_lt.mp fun z=>hj2 ⟨z,hjk⟩) hj1) hl)
theorem bins(ok:jo O key N cmp s){Q:Array Nat->Shared->Prop}:∀(f:Nat) (p:Array Nat) (k:Nat),Ord N p->1<=k->k+f=N->So key p k->(∀p',Ord N p'->So key p' N->Q p' s)->(kas_bin f p k).kasWp cmp Q s
 |0,p,k,hp,_,hf,hs,h=>h p hp ((show k=N from hf)▸hs)
 |f+1,p,k,hp,h1,hf,hs,h=>by
  show((kas_place p k k 0 k).bind fun l=>kas_bin f (bubble p k (k-l)) (k+1)).kasWp cmp Q s;rw[Wn];have hk:k<N:=Cd (Dy hf);have hsz:k<p.size:=by rw[hp.size];exact hk
  refine place ok hp hk hs k 0 k (cG _) (aN _) (Zb _ _) (fun i hi=>absurd hi (M9 _)) (fun i h1 h2=>absurd h2 (Nat.not_lt.mpr h1)) fun l hl hlo hhi=> ?_;exact bins ok f _ (k+1) (hp.bub _ _) (xR _) ((Y5 k f).trans hf) (Yy hs hl hsz hlo hhi) h
theorem sort(ok:jo O key N cmp s){Q:Array Nat->Shared->Prop}(h1:1<=N)(h:∀p',Ord N p'->So key p' N->Q p' s):(kas_sort N).kasWp cmp Q s:=by
 unfold kas_sort;rw[Wn];refine count ok ⟨Array.Perm.refl _⟩ h1 fun m p' hp hm1 hm2 hs=> ?_;dsimp only;by_cases hlt:m<N
 ·rw[aB hlt];have e:max m 1=m:=by omega
  rw[e];exact bins ok _ _ _ hp hm1 (by omega) hs h
 ·rw[aA hlt];have e:m=N:=by omega
  subst e;exact h p' hp hs
end
end qN
namespace qN
open PySem PySem.W PyProof.Rows PySem.Calls
def Hx{O:KeyOrd}(key:Nat->O.α)(vs out:List Value):Prop:=∃p:Array Nat,Ord vs.length p/\So key p vs.length/\out=p.toList.map fun i=>vs.getD i Value.none
section
variable{prog:Program}{w:World}{A:Around}{E:L3}{s:Shared}{O:KeyOrd}{key:Nat->O.α}{κ:SortKind}{vs:List Value}
theorem BJ(h2:vs.length<2):Hx key vs vs:=by
 refine⟨List.toArray (List.range vs.length),⟨Array.Perm.refl _⟩,fun i j hij hj=> ?_,?_⟩
 ·have e:i=j:=by omega
  subst e;exact Nm _
 ·match vs,h2 with
  |[],_=>rfl
  |[v],_=>rfl
  |_::_::_,h=>simp at h;omega
theorem iz{a:Addr}{n:Nat}{P:PySem.Fin->Shared->Prop}(ho:s.heap.get? a=some (seqObj "list" vs.toArray n))(h64:vs.length<64)(hkind:2<=vs.length->∀h',(∀b o,b≠a->s.heap.get? b=some o->h'.get? b=some o)->∀Q:SortKind->Shared->Prop,Q κ {s with heap:=h'}->wpAny (model prog w) A (keyKind' vs.toArray) Q E {s with heap:=h'})(KZ:2<=vs.length->∀h',(∀b o,b≠a->s.heap.get? b=some o->h'.get? b=some o)->jo O key vs.length (kas_ask prog w A κ vs) {s with heap:=h'})(h:∀h' out c,Hx key vs out->(∀b o,b≠a->s.heap.get? b=some o->h'.get? b=some o)->h'.get? a=some (seqObj "list" (List.toArray out) c)->P (.done (.ret .none)) {s with heap:=h'}):
  wpAny (model prog w) A (Builtin.«list.sort» ⟨[.ref a],[]⟩) P E s:=by
 have ha:a<s.heap.objs.size:=cU ho;have s1:=Gb s.heap a (Obj.mapSeq fun _=>(#[]:Array Value));obtain⟨e1,ho1⟩:∃e1,(s.heap.update a (Obj.mapSeq fun _=>(#[]:Array Value))).get? a=some (seqObj "list" #[] e1):=⟨_,Zt ho fun _=>#[]⟩;have keep:∀b o,b≠a->s.heap.get? b=some o->(((s.heap.update a (Obj.mapSeq fun _=>(#[]:Array Value))).push (seqObj "tuple" vs.toArray 0)).push (seqObj "list" #[] 0)).get? b=some o:=fun b o hb e=>
  cL _ (cL _ ((s1.2 b hb).trans e))
 have ho6:(((s.heap.update a (Obj.mapSeq fun _=>(#[]:Array Value))).push (seqObj "tuple" vs.toArray 0)).push (seqObj "list" #[] 0)).get? a=some (seqObj "list" #[] e1):=cL _ (cL _ ho1);rw[list_sort_plain];refine ao (listItems_at ho rfl ?_);refine ao (Zk ho rfl ?_ (by rw[gW,eX];omega) (cG _));refine ao (seqEpoch_at ho1 rfl ?_);refine ao (wpAny_newTuple ?_ (by show vs.length<=_;rw[eX];omega));refine ao (Vl ?_ (cG _));refine Dz ?_;show wpAny (model prog w) A _ P E {s with heap:=((s.heap.update a (Obj.mapSeq fun _=>(#[]:Array Value))).push (seqObj "tuple" vs.toArray 0)).push (seqObj "list" #[] 0)};dsimp only;by_cases h2:vs.toArray.size<2
 ·have h2':vs.length<2:=by simpa using h2
  rw[aB h2,aB h2];refine ao (aM ?_);rw[StateT.run_pure];refine ao (aM ?_);dsimp only;refine ao (seqEpoch_at ho6 rfl ?_);refine ao (Zk ho6 rfl ?_ (cG _) (by rw[Array.size_map];show(pairsOf vs).size<=_;rw[pairsOf_size,eX];omega));simp only[bne_self_eq_false,wea,Vg];refine aM ?_;have eo:(vs.toArray.zip vs.toArray).map (·.2)=List.toArray vs:=by
   apply Array.toList_inj.mp;simp[List.map_snd_zip]
  have s2:=Gb (((s.heap.update a (Obj.mapSeq fun _=>(#[]:Array Value))).push (seqObj "tuple" vs.toArray 0)).push (seqObj "list" #[] 0)) a (Obj.mapSeq fun _=>List.toArray vs);obtain⟨c2,hc2⟩:∃c2,((((s.heap.update a (Obj.mapSeq fun _=>(#[]:Array Value))).push (seqObj "tuple" vs.toArray 0)).push (seqObj "list" #[] 0)).update a (Obj.mapSeq fun _=>List.toArray vs)).get? a=some (seqObj "list" (List.toArray vs) c2):=⟨_,Zt ho6 fun _=>List.toArray vs⟩;have fin:=h _ vs c2 (BJ h2') (fun b o hb e=>(s2.2 b hb).trans (keep b o hb e)) hc2
  first
   |exact fin
   |(rw[<-eo]at fin;exact fin)
   |(show P _ {s with heap:=Heap.update _ a (Obj.mapSeq fun _=>(vs.toArray.zip vs.toArray).map (·.2))};rw[eo];exact fin)
 ·have h2':2<=vs.length:=by rw[gW]at h2;omega
  rw[aA h2,aA h2];refine ao (hkind h2' _ keep _ ?_);refine ao (Vh (kat_run (Q:=fun st' s'=>s'={s with heap:=((s.heap.update a (Obj.mapSeq fun _=>(#[]:Array Value))).push (seqObj "tuple" vs.toArray 0)).push (seqObj "list" #[] 0)}/\∃p:Array Nat,p.size=vs.length/\arrOf st'=p.map (kas_item (vs.toArray.zip vs.toArray))/\failedOf st'=none/\Ord vs.length p/\So key p vs.length)
   (G:=fun p s'=>s'={s with heap:=((s.heap.update a (Obj.mapSeq fun _=>(#[]:Array Value))).push (seqObj "tuple" vs.toArray 0)).push (seqObj "list" #[] 0)}/\Ord vs.length p/\So key p vs.length)
   rfl h2' h64 (fun p' st' s' a1 a2 a3 a4=>⟨a4.1,p',a1,a2,a3,a4.2.1,a4.2.2⟩) (sort (KZ h2' _ keep) (by omega) fun p' hp hs=>⟨rfl,hp,hs⟩)) ?_ fun _ _ e=>e)
  rintro⟨⟨⟩,st'⟩ s' ⟨rfl,p,hp,har,hf,hor,hso⟩;dsimp only;have hout:=kat_snds rfl har;have hsz:(List.toArray (p.toList.map fun i=>vs.getD i Value.none)).size=vs.length:=by rw[gW,aJ,uW,hp]
  rw[hout];refine ao (seqEpoch_at ho6 rfl ?_);refine ao (Zk ho6 rfl ?_ (cG _) (cC (Dy hsz) (by rw[eX];omega)));rw[hf];simp only[bne_self_eq_false,wea,Vg];have s2:=Gb (((s.heap.update a (Obj.mapSeq fun _=>(#[]:Array Value))).push (seqObj "tuple" vs.toArray 0)).push (seqObj "list" #[] 0)) a (Obj.mapSeq fun _=>List.toArray (p.toList.map fun i=>vs.getD i Value.none));obtain⟨c2,hc2⟩:∃c2,((((s.heap.update a (Obj.mapSeq fun _=>(#[]:Array Value))).push (seqObj "tuple" vs.toArray 0)).push (seqObj "list" #[] 0)).update a (Obj.mapSeq fun _=>List.toArray (p.toList.map fun i=>vs.getD i Value.none))).get? a=some (seqObj "list" (List.toArray (p.toList.map fun i=>vs.getD i Value.none)) c2):=⟨_,Zt ho6 fun _=>_⟩;exact aM (h _ _ c2 ⟨p,hor,hso,rfl⟩ (fun b o hb e=>(s2.2 b hb).trans (keep b o hb e)) hc2)
theorem sE{l:Addr}{Q:L3}(hl:s.heap.IsList l vs.toArray)(h64:vs.length<64)(hkind:2<=vs.length->∀h',(∀b o,s.heap.get? b=some o->h'.get? b=some o)->∀(E:L3) (Q:SortKind->Shared->Prop),Q κ {s with heap:=h'}->wpAny (model prog w) A.in1.in1 (keyKind' vs.toArray) Q E {s with heap:=h'})(KZ:2<=vs.length->∀h',(∀b o,s.heap.get? b=some o->h'.get? b=some o)->jo O key vs.length (kas_ask prog w A.in1.in1 κ vs) {s with heap:=h'})(h:∀D h' out c,Hx key vs out->s.heap.objs.size<=D->(∀b o,s.heap.get? b=some o->h'.get? b=some o)->h'.get? D=some (seqObj "list" (List.toArray out) c)->Q (.ref D) {s with heap:=h'}):
  wpAny (model prog w) A (call (.builtin "sorted") [.ref l]) Q E s:=by
 refine wcc kind_sorted plain_sorted entry_sorted (args_sorted1 _) ?_;unfold Builtin.«sorted»;refine ao (m:=checkCount "sorted" 1 1 _) (aM ?_);refine ao (collect_list hl ?_ (by rw[eX];omega));refine ao (Vl ?_ (by rw[eX];omega));have hsz:((s.heap.push (seqObj "list" #[] 0)).update s.heap.objs.size (Obj.mapSeq (· ++vs.toArray))).objs.size=s.heap.objs.size+1:=by
  rw[Heap.size_update,size_push']
 have hoL:(((s.heap.push (seqObj "list" #[] 0)).update s.heap.objs.size (Obj.mapSeq (· ++vs.toArray))).push (seqObj "list" vs.toArray 0)).get? (s.heap.objs.size+1)=some (seqObj "list" vs.toArray 0):=by
  rw[<-hsz];exact gY _ rfl
 have keep:∀b o,s.heap.get? b=some o->(((s.heap.push (seqObj "list" #[] 0)).update s.heap.objs.size (Obj.mapSeq (· ++vs.toArray))).push (seqObj "list" vs.toArray 0)).get? b=some o:=fun b o q=>by
  have hlt:b<s.heap.objs.size:=cU q;rw[ZD _ _ _ (by rw[hsz];exact dB (pQ hlt)),Heap.get?_update_ne _ _ _ _ (dB hlt),ZD _ _ _ (dB hlt)];exact q
 have ne:∀b o,s.heap.get? b=some o->b≠s.heap.objs.size+1:=fun b o q=>dB (pQ (cU q));show wpAny _ _ _ _ _ {s with heap:=((s.heap.push (seqObj "list" #[] 0)).update s.heap.objs.size (Obj.mapSeq (· ++vs.toArray))).push (seqObj "list" vs.toArray 0)};rw[hsz];refine ao (Dz (Am slot_list_sort ⟨_,hoL,rfl⟩ entry_list_sort ?body (args_list_sort _)))
 case body=>
  refine iz (key:=key) (κ:=κ) (s:={s with heap:=((s.heap.push (seqObj "list" #[] 0)).update s.heap.objs.size (Obj.mapSeq (· ++vs.toArray))).push (seqObj "list" vs.toArray 0)}) hoL h64
   (fun h2 h' k Q hq=>hkind h2 h' (fun b o q=>k b o (ne b o q) (keep b o q)) _ Q hq) (fun h2 h' k=>KZ h2 h' fun b o q=>k b o (ne b o q) (keep b o q)) fun h' out c ho k hc=> ?_
  exact⟨_,rfl,aM ⟨_,rfl,h _ h' out c ho (HF _) (fun b o q=>k b o (ne b o q) (keep b o q)) hc⟩⟩
end
end qN
namespace HT
open PySem PyProof.Rows
theorem dR:∀(a b:List Int),lexLt a b=decide (a<b)
 |[],[]=>by simp[lexLt]
 |[],_::_=>by simp[lexLt]
 |_::_,[]=>by simp[lexLt]
 |x::xs,y::ys=>by
  rw[lexLt_cons,dR xs ys];by_cases e:x=y
  ·subst e;simp
  ·rw[aA e];by_cases l:x<y
   ·simp[l,YZ]
   ·have:¬(x::xs<y::ys):=by rw[YZ];simp[l,e]
    simp[l,this]
end HT
namespace qN
open PySem PySem.W PyProof.Rows PySem.Calls
def lexOrd:KeyOrd where
 α:=List Int
 blt a b:=decide (a<b)
 irrefl a:=by simpa using List.lt_irrefl a
 trans a b c h1 h2:=by simp only[Ga]at *;exact List.lt_trans h1 h2
 negTrans a b c h:=by
  simp only[Ga]at *;by_cases hab:a<b
  ·exact .inl hab
  ·exact .inr (List.lt_of_le_of_lt (List.not_lt.mp hab) h)
 total a b h1 h2:=by simp only[weu]at *;exact List.le_antisymm (List.not_lt.mp h2) (List.not_lt.mp h1)
def tH:KeyOrd where
 α:=Int
 blt a b:=decide (a<b)
 irrefl a:=by simp
 trans a b c h1 h2:=by simp only[Ga]at *;omega
 negTrans a b c h:=by simp only[Ga]at *;omega
 total a b h1 h2:=by simp only[weu]at *;omega
section
variable{prog:Program}{w:World}{A:Around}{s:Shared}{Q:Bool->Shared->Prop}
theorem Kz{na nb:Nat}{xs ys:List Value}{ns ms:List Int}(i:Nat)(hx:IntsAre xs ns)(hy:IntsAre ys ms)(hl:ns.length+nb=ms.length+na)(h:Q (HT.lexLt ns ms) s):KatLex prog w A true (decide (na<nb)) Q (xs.zip ys) i s:=by
 induction hx generalizing ys ms i with
 |nil=>
  rw[wek];refine kat_nil ?_;cases hy with
  |nil=>
   rw[HT.lexLt_nil_nil]at h;rw[jx (by simp only[Ms]at hl;omega)];exact h
  |cons c u hw=>
   rw[HT.lexLt_nil_cons]at h;rw[eY (by simp only[Ms,uz]at hl;omega)];exact h
 |cons a t hv ih=>
  cases hy with
  |nil=>
   rw[wdw];refine kat_nil ?_;rw[HT.lexLt_cons_nil]at h;rw[jx (by simp only[Ms,uz]at hl;omega)];exact h
  |cons c u hw=>
   rw[Wb];rw[HT.lexLt_cons]at h;refine kat_cons (wpAny_eqBool_int ?_);refine kat_go (fun e=> ?_) fun e=> ?_
   ·have e':a=c:=by simpa using e
    rw[aB e']at h;exact kat_yes (ih (i+1) hw (by simp only[uz]at hl;omega) h)
   ·have e':a≠c:=by simpa using e
    rw[aA e']at h;refine kat_no ?_;cases i with
    |zero=>exact oneLt_int h
    |succ i=>exact kat_one _ _ (lt_int (show PySem.W.BoolBack Q (.bool (decide (a<c))) s from h))
end
theorem v9{O:KeyOrd}{key:Nat->O.α}{α:Type}{vs out:List Value}{its:List α}{d:α}{f:α->O.α}{R:α->Value->Prop}(hR:Paired R its vs)(hk:∀i (hi:i<its.length),key i=f its[i])(h:Hx key vs out):
  ∃its':List α,its'.Perm its/\Paired R its' out/\its'.Pairwise fun x y=>O.kle (f x) (f y):=by
 obtain⟨p,hp,hs,rfl⟩:=h;have hl:=hR.length;have get:∀{l₁:List α} {l₂:List Value} {i:Nat},Paired R l₁ l₂->(h:i<l₁.length)->∃v,l₂[i]? =some v/\R l₁[i] v:=by
  intro l₁ l₂ i q
  induction q generalizing i with
  |nil=>intro h;simp at h
  |cons r t ih=>
   intro h;cases i with
   |zero=>exact⟨_,rfl,r⟩
   |succ i=>
    obtain⟨v,e,rv⟩:=ih (i:=i) (by simpa using h);exact⟨v,by simpa using e,by simpa using rv⟩
 have hlt:∀i∈p.toList,i<its.length:=fun i hi=>by
  have:=(yef.mp hp.perm).mem_iff.mp hi;rw[hl];simpa using this
 refine⟨p.toList.map fun i=>its.getD i d,?_,?_,?_⟩
 ·have q:=(yef.mp hp.perm).map (fun i=>its.getD i d);refine q.trans ?_;have e:(List.toArray (List.range vs.length)).toList.map (fun i=>its.getD i d)=its:=by
   rw[<-hl];apply V9;intro i;simp only[dW];by_cases hi:i<its.length
   ·simp[hi]
   ·simp[hi]
  rw[e]
 ·have mk:∀l:List Nat,(∀i∈l,i<its.length)->Paired R (l.map fun i=>its.getD i d) (l.map fun i=>vs.getD i Value.none):=by
   intro l
   induction l with
   |nil=>intro _;exact .nil
   |cons i l ih=>
    intro hb;refine .cons ?_ (ih fun j hj=>hb j (jr _ hj));have hi:=hb i nG;obtain⟨v,e,r⟩:=get hR hi;have e1:its.getD i d=its[i]:=by simp[hi]
    have e2:vs.getD i Value.none=v:=by rw[iM,e];rfl
    show R (its.getD i d) (vs.getD i Value.none);rw[e1,e2];exact r
  exact mk _ hlt
 ·rw[Wi];intro i j hi hj hij;simp only[aJ,uW]at hi hj;simp only[List.getElem_map];have hsz:=hp.size;have q:=hs i j (by omega) (by omega);have e:∀k (hk':k<p.size),KN key p k=f (its.getD p.toList[k] d):=fun k hk'=>by
   have e1:p.getD k 0=p.toList[k]:=by simp[Array.getD,hk']
   have hb:=hlt p.toList[k] (Nb _);have e2:its.getD p.toList[k] d=its[p.toList[k]]:=by simp only[iM,dD hb,wfc]
   unfold KN;rw[e1,e2];exact hk _ hb
  rw[e i hi,e j hj]at q;exact q
end qN
namespace L2
open PySem PySem.Spec PyProof.Rows
section
variable{X:Cx}
theorem tW:∀{bs:List Bool} {us:List Value},Vals (bs.map V.bl) us->us=bs.map Value.bool
 |[],_,h=>by cases h;rfl
 |b::bs,_,h=>by
  cases h with
  |cons r t=>rw[HJ,tW t];exact lE (· ::_) r
theorem eV(hc:X.calm=true):CallR X (.builtin "all") (fun xs H Q=>∃(a:Addr) (bs:List Bool),xs=[.ref a]/\SqL X.K H a (bs.map V.bl)/\Q (.bl (bs.all id)) H):=by
 intro pins s σ H xs us Q I r h;obtain⟨a,bs,rfl,hS,q⟩:=h;obtain⟨u,rfl,ru⟩:=r.one;cases ru;obtain⟨vs,rv,pl,hz⟩:=I.list hS;have hv:=tW rv;have hl:=pl.isList;have hlt:a<s.heap.objs.size:=by obtain⟨_,e,_⟩:=hl;exact cU e
 refine call_all_walk (Vm hl ?_);refine⟨s.heap.objs.size,[s.heap.objs.size,a],[s.heap.objs.size],vs.toArray.size,_,_,fun i=>(bs[i]?).getD true,rfl,Walks.list (A:=X.A.in1) (I.ok.hd hc) _ a (dB hlt) vs.toArray,
  ⟨⟨_,gY _ rfl,rfl,rfl⟩,hl.push _⟩,fun i v s' Q' E' hP hQ=> ?_,fun h' tk hk=> ?_⟩
 ·have hP':vs[i]? =some v:=by simpa using hP
  rw[hv,dW]at hP';cases e:bs[i]? with
  |none=>rw[e]at hP';cases hP'
  |some b=>
   rw[e]at hP';cases hP';simp only[e,wfc]at hQ;exact Np hQ
 ·have e:((List.range vs.toArray.size).all fun i=>(bs[i]?).getD true)=bs.all id:=by
   rw[gW,hv,aJ];exact LSm.range_all bs
  rw[e];exact⟨.bl _,H,I.kept (LSm.kept_iter hk),rfl,q⟩
theorem Lx(hc:X.calm=true):CallR X (.builtin "any") (fun xs H Q=>∃(a:Addr) (bs:List Bool),xs=[.ref a]/\SqL X.K H a (bs.map V.bl)/\Q (.bl (bs.any id)) H):=by
 intro pins s σ H xs us Q I r h;obtain⟨a,bs,rfl,hS,q⟩:=h;obtain⟨u,rfl,ru⟩:=r.one;cases ru;obtain⟨vs,rv,pl,hz⟩:=I.list hS;have hv:=tW rv;have hl:=pl.isList;have hlt:a<s.heap.objs.size:=by obtain⟨_,e,_⟩:=hl;exact cU e
 refine call_any_walk (Vm hl ?_);refine⟨s.heap.objs.size,[s.heap.objs.size,a],[s.heap.objs.size],vs.toArray.size,_,_,fun i=>(bs[i]?).getD false,rfl,Walks.list (A:=X.A.in1) (I.ok.hd hc) _ a (dB hlt) vs.toArray,
  ⟨⟨_,gY _ rfl,rfl,rfl⟩,hl.push _⟩,fun i v s' Q' E' hP hQ=> ?_,fun h' tk hk=> ?_⟩
 ·have hP':vs[i]? =some v:=by simpa using hP
  rw[hv,dW]at hP';cases e:bs[i]? with
  |none=>rw[e]at hP';cases hP'
  |some b=>
   rw[e]at hP';cases hP';simp only[e,wfc]at hQ;exact Np hQ
 ·have e:((List.range vs.toArray.size).any fun i=>(bs[i]?).getD false)=bs.any id:=by
   rw[gW,hv,aJ];exact LSm.range_any bs
  rw[e];exact⟨.bl _,H,I.kept (LSm.kept_iter hk),rfl,q⟩
def Rq(K:W.Frag)(H:Hp):V->String->Prop
 | .non,T=>T="NoneType"
 | .bl _,T=>T="bool"
 | .int _,T=>T="int"
 | .str _,T=>T="str"
 | .ref a,T=>(T="tuple"/\∃xs,SqT K H a xs)\/(T="list"/\∃xs,SqL K H a xs)\/(T="dict"/\∃kvs,H a=some (.dK kvs))
 |_,_=>False
def qm(T C:String):Bool:=T==C||(T=="bool"&&C=="int")
theorem yp:CallR X (.builtin "isinstance") (fun xs H Q=>∃(x:V) (T C:String),xs=[x,.ty C]/\Rq X.K H x T/\(C="int"\/C="bool"\/C="tuple"\/C="list")/\Q (.bl (qm T C)) H):=by
 intro pins s σ H xs us Q I r h;obtain⟨x,T,C,rfl,hk,hC,q⟩:=h;obtain⟨u,v,rfl,ru,rv⟩:=r.two;cases rv;have Lh:∀b,b=qm T C->EP X pins σ Q (.bool b) s:=fun b e=>⟨.bl b,H,I,rfl,by rw[e];exact q⟩;have gA:∀b,b=qm T C->EP X pins σ Q (.bool b) {s with toks:=s.toks+1}:=fun b e=>⟨.bl b,H,I.tok _,rfl,by rw[e];exact q⟩;cases x with
 |non=>
  cases ru;cases hk;rcases hC with rfl|rfl|rfl|rfl
  ·exact IsiPair.NoneType_int (gA _ rfl)
  ·exact IsiPair.NoneType_bool (gA _ rfl)
  ·exact IsiPair.NoneType_tuple (gA _ rfl)
  ·exact IsiPair.NoneType_list (gA _ rfl)
 |bl b=>
  cases ru;cases hk;rcases hC with rfl|rfl|rfl|rfl
  ·exact IsiPair.bool_int (Lh _ rfl)
  ·exact IsiPair.bool_bool (Lh _ rfl)
  ·exact IsiPair.bool_tuple (gA _ rfl)
  ·exact IsiPair.bool_list (gA _ rfl)
 |int i=>
  obtain⟨t,rfl⟩:=ru;cases hk;rcases hC with rfl|rfl|rfl|rfl
  ·exact IsiPair.int_int (Lh _ rfl)
  ·exact IsiPair.int_bool (gA _ rfl)
  ·exact IsiPair.int_tuple (gA _ rfl)
  ·exact IsiPair.int_list (gA _ rfl)
 |str z=>
  obtain⟨t,rfl⟩:=ru;cases hk;rcases hC with rfl|rfl|rfl|rfl
  ·exact IsiPair.str_int (gA _ rfl)
  ·exact IsiPair.str_bool (gA _ rfl)
  ·exact IsiPair.str_tuple (gA _ rfl)
  ·exact IsiPair.str_list (gA _ rfl)
 |ref a=>
  cases ru;rcases hk with⟨rfl,xs,hS⟩|⟨rfl,xs,hS⟩|⟨rfl,kvs,hS⟩
  ·obtain⟨its,_,⟨o,e,c,n,d⟩,_⟩:=I.tuple hS;rcases hC with rfl|rfl|rfl|rfl
   ·exact IsiPair.tuple_int e c (gA _ rfl)
   ·exact IsiPair.tuple_bool e c (gA _ rfl)
   ·exact IsiPair.tuple_tuple e c (Lh _ rfl)
   ·exact IsiPair.tuple_list e c (gA _ rfl)
  ·obtain⟨its,_,⟨o,n,e,c,d,_⟩,_⟩:=I.list hS;rcases hC with rfl|rfl|rfl|rfl
   ·exact IsiPair.list_int e c (gA _ rfl)
   ·exact IsiPair.list_bool e c (gA _ rfl)
   ·exact IsiPair.list_tuple e c (gA _ rfl)
   ·exact IsiPair.list_list e c (Lh _ rfl)
  ·obtain⟨_,_,vs,_,o,es,ep,e,c,_⟩:=I.hok a _ hS;have c':o.cls= .type "dict":=c.1;rcases hC with rfl|rfl|rfl|rfl
   ·exact IsiPair.dict_int e c' (gA _ rfl)
   ·exact IsiPair.dict_bool e c' (gA _ rfl)
   ·exact IsiPair.dict_tuple e c' (gA _ rfl)
   ·exact IsiPair.dict_list e c' (gA _ rfl)
 |_=>exact hk.elim
end
mutual
inductive DV(K:W.Frag)(H:Hp):V->PyData->Prop
 |non:DV K H .non .none
 |bl (b:Bool):DV K H (.bl b) (.bool b)
 |int (i:Int):DV K H (.int i) (.int i)
 |str (x:Str):DV K H (.str x) (.str x)
 |tup {a:Addr} {xs:List V} {ds:List PyData} (h:SqT K H a xs) (t:cI K H xs ds):DV K H (.ref a) (.tuple ds)
 |lst {a:Addr} {xs:List V} {ds:List PyData} (h:SqL K H a xs) (t:cI K H xs ds):DV K H (.ref a) (.list ds)
 |dc0 {a:Addr} (h:H a=some (.dK [])):DV K H (.ref a) (.dict [])
 |dc1 {a b:Addr} {i:Int} (h:H a=some (.dK [(Sum.inl i,.ref b)])) (t:SqT K H b []):DV K H (.ref a) (.dict [(.int i,.tuple [])])
inductive cI(K:W.Frag)(H:Hp):List V->List PyData->Prop
 |nil:cI K H [] []
 |cons {x:V} {d:PyData} {xs:List V} {ds:List PyData} (h:DV K H x d) (t:cI K H xs ds):cI K H (x::xs) (d::ds)
end
theorem Same.tup{K:W.Frag}{H H':Hp}{a:Addr}{xs:List V}(e:Same H H')(h:SqT K H a xs):SqT K H' a xs:=by
 rcases h with(h|⟨o,h⟩)|h
 ·exact .inl (.inl (e _ _ h))
 ·exact .inl (.inr ⟨o,e _ _ h⟩)
 ·exact .inr h
theorem DV.same{K:W.Frag}{H H':Hp}(e:Same H H'){x:V}{d:PyData}(h:DV K H x d):DV K H' x d:=
 DV.rec (motive_1:=fun x d _=>DV K H' x d) (motive_2:=fun xs ds _=>cI K H' xs ds) .non (fun b=> .bl b) (fun i=> .int i) (fun x=> .str x) (fun h _ t=> .tup (e.tup h) t) (fun h _ t=> .lst (e.seq h) t) (fun h=> .dc0 (e _ _ h)) (fun h t=> .dc1 (e _ _ h) (e.tup t)) .nil (fun _ _ h t=> .cons h t) h
theorem cI.same{K:W.Frag}{H H':Hp}(e:Same H H'){xs:List V}{ds:List PyData}(h:cI K H xs ds):cI K H' xs ds:=
 cI.rec (motive_1:=fun x d _=>DV K H' x d) (motive_2:=fun xs ds _=>cI K H' xs ds) .non (fun b=> .bl b) (fun i=> .int i) (fun x=> .str x) (fun h _ t=> .tup (e.tup h) t) (fun h _ t=> .lst (e.seq h) t) (fun h=> .dc0 (e _ _ h)) (fun h t=> .dc1 (e _ _ h) (e.tup t)) .nil (fun _ _ h t=> .cons h t) h
theorem Gv{P:Program}{w:World}{es:List DictEntry}(h:Pairs (mixKind P w) es []):es=[]:=by
 cases h;rfl
theorem Gu{P:Program}{w:World}{es:List DictEntry}{k:Key}{u:Value}(h:Pairs (mixKind P w) es [(k,u)]):∃e,es=[e]/\keyIs k e.key=true/\e.val=u:=by
 cases h with
 |cons h1 h2 h3=>
  cases h3;exact⟨_,rfl,h1,h2⟩
section
variable{X:Cx}{pins:L1}{σ:St}{H:Hp}{s:Shared}
theorem Ho(I:Inv X pins σ H s){a:Addr}(h:H a=some (.dK [])):Reads s.heap (.ref a) (.dict []) (a::[]++[])/\(a==sysModules)=false:=by
 obtain⟨_,hne,vs,r0,o,es,ep,e,c,d,_,pr,_⟩:=I.hok _ _ h;cases r0;have hes:es.toList=[]:=Gv pr;refine⟨.dict (kvs:=[]) (as:=[]) (bs:=[]) e c.1 d ?_ ?_,hne⟩
 ·rw[hes];exact .nil
 ·rw[hes];exact .nil
theorem Hl(I:Inv X pins σ H s){a b:Addr}{i:Int}(h:H a=some (.dK [(Sum.inl i,.ref b)]))(t:SqT X.K H b []):Reads s.heap (.ref a) (.dict [(.int i,.tuple [])]) (a::([]++[])++([]++[]))/\(a==sysModules)=false:=by
 obtain⟨_,hne,vs,r0,o,es,ep,e,c,d,_,pr,_⟩:=I.hok _ _ h;obtain⟨its,rv,⟨o2,e2,c2,n2,d2⟩,_⟩:=I.tuple t;cases rv;cases r0 with
 | @cons p q ps qs hq tl=>
  cases tl;obtain⟨en,he,hk,hv⟩:=Gu pr;obtain⟨k,u⟩:=q;dsimp only at hq;obtain⟨hk1,hu1⟩:=hq;subst hk1;cases hu1;obtain⟨tk,ek⟩:∃tk,en.key=Value.int i tk:=by
   rcases Ml hk with⟨i',t',e3,e4⟩|⟨x,t',e3,e4⟩
   ·cases e3;exact⟨t',e4⟩
   ·cases e3
  refine⟨.dict (kvs:=[(.int i,.tuple [])]) (as:=[]++[]) (bs:=[]++[]) e c.1 d ?_ ?_,hne⟩
  ·rw[he];show ReadsAll s.heap [en.key] [PyData.int i] _;rw[ek];exact .cons (.int i tk) .nil
  ·rw[he];show ReadsAll s.heap [en.val] [PyData.tuple []] _;rw[hv];exact .cons (.tuple e2 c2 d2 .nil) .nil
theorem Gm(I:Inv X pins σ H s){a:Addr}{xs:List V}{ds:List PyData}(h:SqT X.K H a xs)(t:∀{us:List Value},Vals xs us->∃as,ReadsAll s.heap us ds as){u:Value}(r:RelV (.ref a) u):∃as,Reads s.heap u (.tuple ds) as:=by
 cases r;obtain⟨its,rv,⟨o,e,c,n,d⟩,_⟩:=I.tuple h;obtain⟨as,ra⟩:=t rv;exact⟨_,.tuple e c d (by simpa using ra)⟩
theorem Gn(I:Inv X pins σ H s){a:Addr}{xs:List V}{ds:List PyData}(h:SqL X.K H a xs)(t:∀{us:List Value},Vals xs us->∃as,ReadsAll s.heap us ds as){u:Value}(r:RelV (.ref a) u):∃as,Reads s.heap u (.list ds) as:=by
 cases r;obtain⟨its,rv,⟨o,n,e,c,_,d⟩,_⟩:=I.list h;obtain⟨as,ra⟩:=t rv;exact⟨_,.list e c d (by simpa using ra)⟩
theorem DV.reads(I:Inv X pins σ H s){x:V}{d:PyData}{u:Value}(h:DV X.K H x d)(r:RelV x u):∃as,Reads s.heap u d as:=
 DV.rec (motive_1:=fun x d _=>∀{u:Value},RelV x u->∃as,Reads s.heap u d as) (motive_2:=fun xs ds _=>∀{us:List Value},Vals xs us->∃as,ReadsAll s.heap us ds as)
  (fun r=>by cases r;exact⟨_,.none⟩) (fun b _ r=>by cases r;exact⟨_,.bool b⟩) (fun i _ r=>by obtain⟨t,rfl⟩:=r;exact⟨_,.int i t⟩) (fun x _ r=>by obtain⟨t,rfl⟩:=r;exact⟨_,.str x t⟩)
  (fun h _ t _ r=>Gm I h t r) (fun h _ t _ r=>Gn I h t r) (fun h _ r=>by cases r;exact⟨_,(Ho I h).1⟩) (fun h t _ r=>by cases r;exact⟨_,(Hl I h t).1⟩)
  (fun r=>by cases r;exact⟨_,.nil⟩) (fun _ _ h t _ r=>by
   cases r with
   |cons r rr=>
    obtain⟨as,ra⟩:=h r;obtain⟨bs,rb⟩:=t rr;exact⟨_,.cons ra rb⟩) h r
theorem cI.reads(I:Inv X pins σ H s){xs:List V}{ds:List PyData}{us:List Value}(h:cI X.K H xs ds)(r:Vals xs us):∃as,ReadsAll s.heap us ds as:=
 cI.rec (motive_1:=fun _ _ _=>True) (motive_2:=fun xs ds _=>∀{us:List Value},Vals xs us->∃as,ReadsAll s.heap us ds as) trivial (fun _=>trivial) (fun _=>trivial) (fun _=>trivial) (fun _ _ _=>trivial) (fun _ _ _=>trivial) (fun _=>trivial) (fun _ _=>trivial)
  (fun r=>by cases r;exact⟨_,.nil⟩) (fun h _ _ t _ r=>by
   cases r with
   |cons r rr=>
    obtain⟨as,ra⟩:=DV.reads I h r;obtain⟨bs,rb⟩:=t rr;exact⟨_,.cons ra rb⟩) h r
end
mutual
def noL:PyData->Bool
 | .list _=>false
 | .tuple ds=>WW ds
 |_=>true
def WW:List PyData->Bool
 |[]=>true
 |d::ds=>noL d&&WW ds
end
theorem cI.ints{K:W.Frag}{H:Hp}:∀(ns:List Int),cI K H (ns.map V.int) (ns.map PyData.int)
 |[]=> .nil
 |n::ns=> .cons (.int n) (cI.ints ns)
theorem cI.len{K:W.Frag}{H:Hp}{xs:List V}{ds:List PyData}(h:cI K H xs ds):xs.length=ds.length:=
 cI.rec (motive_1:=fun _ _ _=>True) (motive_2:=fun xs ds _=>xs.length=ds.length) trivial (fun _=>trivial) (fun _=>trivial) (fun _=>trivial) (fun _ _ _=>trivial) (fun _ _ _=>trivial) (fun _=>trivial) (fun _ _=>trivial) rfl (fun _ _ _ t=>lE Nat.succ t) h
section
variable{X:Cx}
theorem J5(hu:X.A.units+64<cLine):OpR X (compareOp .Eq) (fun x y H Q=>∃da db,DV X.K H x da/\DV X.K H y db/\da.canLay0=true/\db.canLay0=true/\min da.depth db.depth<=64/\Q (.bl (PyData.eqv da db)) H):=by
 intro pins s σ H x y v u Q I rx ry h;obtain⟨da,db,hx,hy,ca,cb,hd,q⟩:=h;obtain⟨as,ra⟩:=DV.reads I hx rx;obtain⟨bs,rb⟩:=DV.reads I hy ry;exact SeqAt.rcAt_reads ra rb ca cb (by omega) _ _ _ _ ⟨.bl _,H,I,rfl,q⟩
theorem BK(hu:X.A.units+64<cLine):OpR X (compareOp .NotEq) (fun x y H Q=>∃da db,DV X.K H x da/\DV X.K H y db/\da.canLay0=true/\db.canLay0=true/\min da.depth db.depth<=64/\Q (.bl (!PyData.eqv da db)) H):=by
 intro pins s σ H x y v u Q I rx ry h;obtain⟨da,db,hx,hy,ca,cb,hd,q⟩:=h;obtain⟨as,ra⟩:=DV.reads I hx rx;obtain⟨bs,rb⟩:=DV.reads I hy ry;exact SeqAt.rcNeAt_reads ra rb ca cb (by omega) _ _ _ _ ⟨.bl _,H,I,rfl,q⟩
theorem Dh:∀{ds:List PyData},PyData.canLayAll0 ds=true->∀d∈ds,d.canLay0=true
 |[],_,d,h=>nomatch h
 |e::ds,h,d,hd=>by
  have h':(e.canLay0&&PyData.canLayAll0 ds)=true:=h;rw[pR]at h';rcases cJ.mp hd with rfl|hd
  ·exact h'.1
  ·exact Dh h'.2 d hd
open Classical in
theorem wg(hu:X.A.units+64<cLine):OpR X (compareOp .In) (fun x y H Q=>∃(p:Addr) (xs:List V) (ds:List PyData) (dx:PyData),y= .ref p/\(SqL X.K H p xs\/SqT X.K H p xs)/\cI X.K H xs ds/\DV X.K H x dx/\PyData.canLayAll0 ds=true/\dx.canLay0=true/\dx.depth<=60/\
  Q (.bl (ds.any fun d=>PyData.eqv d dx)) H):=by
 intro pins s σ H x y v u Q I rx ry h;obtain⟨p,xs,ds,dx,rfl,hq,hds,hx,ca,cb,hd,q⟩:=h;cases ry;obtain⟨bs,rb⟩:=DV.reads I hx rx;have key:∀{its:List Value},Vals xs its->(∀y∈its,SeqAt.EqAt X.A.in1 s y v (decide (∃d as,Reads s.heap y d as/\d∈ds/\PyData.eqv d dx=true)))/\(its.any fun y=>decide (∃d as,Reads s.heap y d as/\d∈ds/\PyData.eqv d dx=true))=ds.any fun d=>PyData.eqv d dx:=by
  intro its rv;obtain⟨as,ra⟩:=cI.reads I hds rv;have each:∀{us:List Value} {es:List PyData} {as:List Addr},ReadsAll s.heap us es as->(∀e∈es,e∈ds)->(∀y∈us,SeqAt.EqAt X.A.in1 s y v (decide (∃d as,Reads s.heap y d as/\d∈ds/\PyData.eqv d dx=true)))/\(us.any fun y=>decide (∃d as,Reads s.heap y d as/\d∈ds/\PyData.eqv d dx=true))=es.any fun d=>PyData.eqv d dx:=by
   intro us
   induction us with
   |nil=>intro es as h _;cases h;exact⟨(fun y hy=>(nomatch hy)),rfl⟩
   |cons y us ih=>
    intro es as h hs;cases h with
    | @cons _ _ d ds' as' bs' r rr=>
     obtain⟨i1,i2⟩:=ih rr fun e he=>hs e (jr _ he);have cl:=Dh ca d (hs d nG);have e:decide (∃d as,Reads s.heap y d as/\d∈ds/\PyData.eqv d dx=true)=PyData.eqv d dx:=by
      rw[Bb,Ga];constructor
      ·rintro⟨d',as'',r',_,q'⟩;obtain⟨rfl,_⟩:=(PySem.Reads.unique r _ _ r');exact q'
      ·intro q';exact⟨d,_,r,hs d nG,q'⟩
     refine⟨fun z hz=> ?_,?_⟩
     ·rcases cJ.mp hz with rfl|hz
      ·rw[e];exact SeqAt.eqAt_reads d dx _ s _ _ _ _ r rb cl cb (by show X.A.units+1+min d.depth dx.depth<cLine;omega)
      ·exact i1 z hz
     ·rw[Vb,Vb,i2,e]
  exact each ra fun e he=>he
 rcases hq with hq|hq
 ·obtain⟨its,r,pl,hz⟩:=I.list hq;obtain⟨k1,k2⟩:=key r;refine SeqAt.in_listAt _ pl.isList (fun w hw=>k1 w (by simpa using hw)) ⟨.bl _,H,I,rfl,?_⟩;rw[show∀f:Value->Bool,its.toArray.any f=its.any f from fun f=>by simp,k2];exact q
 ·obtain⟨its,r,pl,hz⟩:=I.tuple hq;obtain⟨k1,k2⟩:=key r;refine SeqAt.in_tupleAt _ pl (fun w hw=>k1 w (by simpa using hw)) ⟨.bl _,H,I,rfl,?_⟩;rw[show∀f:Value->Bool,its.toArray.any f=its.any f from fun f=>by simp,k2];exact q
end
end L2
namespace HT
open PySem PyProof.Rows
section
variable{prog:Program}{w:World}{A:Around}{E:L3}{s:Shared}
theorem lG{t sl:Addr}{items:Array Value}{vl vu:Value}{lo hi:Option Int}{Q:L3}(ht:IsTup s.heap t items)(hs:s.heap.IsSliceOf sl vl vu .none)(pl:IsPart vl lo)(pu:IsPart vu hi)(hw:sIx items.size 0 lo=0/\sIx items.size items.size hi=items.size)(h:Q (.ref t) s):wpAny (model prog w) A (getItem (.ref t) (.ref sl)) Q E s:=by
 obtain⟨os,hos,hcs,hds⟩:=id hs;have hTs:s.TypeIs (.ref sl) "slice":=⟨os,hos,hcs⟩;unfold getItem
 try with_reducible refine Dz ?_
 first |refine ao (aM ?_)|skip
 refine ao (wel ht.typeIs (by decide) ?_);refine ao (IK (name:=Str.ofString "__getitem__") ht.typeIs Vp
  (Am Vp ht.typeIs wdl ?_ (wdy _ _)))
 show wpAny _ _ (Builtin.Tuple.tupleItemsOf (.ref t)>>=_) _ _ s;refine ao (tupleItemsOf_ ht ?_);refine ao (RK hTs ?_);rw[aB (by decide)];refine ao (sliceApplied_gen hs pl pu ?_);have hyes:((((sIx items.size 0 lo:Nat):Int)==0&&(1:Int)==1&&(sIx items.size items.size hi-sIx items.size 0 lo)==items.size)=true):=by
  rw[hw.1,hw.2];simp
 show wpAny _ _ (if(((sIx items.size 0 lo:Nat):Int)==0&&(1:Int)==1&&(sIx items.size items.size hi-sIx items.size 0 lo)==items.size)=true then _ else _) _ _ s;rw[aB hyes];obtain⟨o,ho,hc,n,hd⟩:=id ht;refine ao ?_;show wpAny _ _ (Builtin.Tuple.tupleIsExact (.ref t)) _ _ s;unfold Builtin.Tuple.tupleIsExact;refine ao (RK ht.typeIs ?_);refine aM ?_;rw[aB (by decide)]
 first
  |exact ao (Iv (ao (aM ⟨_,rfl,aM h⟩)))
  |exact ao (Iv (aM ⟨_,rfl,aM h⟩))
  |exact ao (Iv (ao (aM (aM ⟨_,rfl,aM h⟩))))
  |(trace_state;exact ao (ao (Iv (aM ⟨_,rfl,aM h⟩))))
end
end HT
namespace L2
open PySem PySem.Spec PyProof.Rows
section
variable{X:Cx}
theorem jQ:OpR X (binaryOp .FloorDiv) (rI (fun _ j=>0<j/\j<1000000000000000000000000000000) fun i j=> .int (i/j)):=opI fun i j _ _ _ _ _ hc q=>by
 have h1:(0:Int)<j:=hc.1;have h2:j<1000000000000000000000000000000:=hc.2;refine floordiv_int (by omega) ?_ (Or.inl (wen ?_))
 ·rw[yee _ (by omega)];exact q
 ·have h3:j.natAbs≠0:=by omega
  have h4:j.natAbs<2^100:=by
   have:(2:Nat)^100=1267650600228229401496703205376:=by decide
   omega
  have:=(Nat.log2_lt h3).mpr h4;omega
def QX(K:W.Frag):R2:=fun x y H Q=>∃a b xs ys,x= .ref a/\y= .ref b/\SqT K H a xs/\SqT K H b ys/\xs.length+ys.length<=sizeLine/\∀r H',Same H H'->SqT K H' r (xs++ys)->Q (.ref r) H'
theorem oA:OpR X (binaryOp .Add) (QX X.K):=by
 intro pins s σ H x y v u Q I rx ry h;obtain⟨a,b,xs,ys,rfl,rfl,ha,hb,hz,q⟩:=h;by_cases hx:xs=[]
 ·subst hx;cases rx;cases ry;obtain⟨its,r1,p1,_⟩:=I.tuple ha;obtain⟨its2,r2,p2,_⟩:=I.tuple hb;cases r1;obtain⟨⟨cls,dd,data,sl⟩,ho,hc,n,hd⟩:=id p1;obtain⟨⟨cls2,dd2,data2,sl2⟩,ho2,hc2,n2,hd2⟩:=id p2;simp only at hc hd hc2 hd2;subst hc hd hc2 hd2;exact concat_meets ⟨_,ho,rfl⟩ ⟨_,ho2,rfl⟩ wfa seq_tuple_add wcr wcj (wce _ _)
   (tuple_addW0 a b _ _ n n2 dd dd2 sl sl2 (by simp)) ⟨ho,ho2,⟨.ref b,H,I,rfl,q b H (Same.refl _) hb⟩⟩
 ·refine op_catT pins s σ H _ _ v u Q I rx ry ⟨a,b,xs,ys,rfl,rfl,ha,hb,hx,hz,fun e=> ?_,fun e p hp=> ?_⟩
  ·subst e;exact q a H (Same.refl _) (by rw[Ay];exact ha)
  ·exact q p _ (fun c o e=>by rw[cD (rB e hp)];exact e) (SqT.of aD)
def aag(K:W.Frag):V->Option Int->Option Int->Hp->VK->Prop:=fun x lo hi H Q=>∃a xs,x= .ref a/\SqT K H a xs/\∀r H',Same H H'->SqT K H' r (cutV xs lo hi)->Q (.ref r) H'
theorem vU:SlR X (aag X.K):=by
 intro pins s σ H x v vl vu lo hi sl Q I rx hs pl pu h;obtain⟨a,xs,rfl,hx,q⟩:=h;by_cases hw:HT.sIx xs.length 0 lo=0/\HT.sIx xs.length xs.length hi=xs.length
 ·cases rx;obtain⟨its,r,ht,hz⟩:=I.tuple hx;have hlen:its.toArray.size=xs.length:=by rw[gW];exact r.length.symm
  refine⟨"tuple",_,PyProof.Rows.slot_tuple_getitem.lookup,ht.typeIs,?_⟩;refine HT.lG ht hs pl pu (by rw[hlen];exact hw) ⟨.ref a,H,I,rfl,q a H (Same.refl _) ?_⟩;have e:cutV xs lo hi=xs:=by
   unfold cutV;rw[hw.1,hw.2];simp
  rw[e];exact hx
 ·exact sl_tup pins s σ H _ v vl vu lo hi sl Q I rx hs pl pu ⟨a,xs,rfl,hx,hw,fun p hp=>q p _ (fun c o e=>by rw[cD (rB e hp)];exact e) (SqT.of aD)⟩
end
end L2
namespace HT
open PySem PySem.Calls PySem.Spec PyProof.Rows PySem.W
section
variable{prog:Program}{w:World}{A:Around}{E:L3}{s:Shared}
theorem Bx(n:Nat):Builtin.Slice.slicePlaces ((n:Int)-1) (-1) (-1)=n:=by
 unfold Builtin.Slice.slicePlaces;rw[aA (by decide)];by_cases h:(n:Int)-1> -1
 ·rw[aB h];have e:((n:Int)-1- -1-1)/(- -1)+1=(n:Int):=by
   rw[show(- -1:Int)=1 by decide,wgf];omega
  first |(rw[e];rfl)|(rw[e,xV])|omega
 ·rw[aA h];have:n=0:=by omega
  subst this;rfl
theorem pW{sl:Addr}{vl vu vk:Value}{n:Nat}{Q:Int×Int×Nat->Shared->Prop}(hs:s.heap.IsSliceOf sl vl vu vk)(pl:IsPart vl none)(pu:IsPart vu none)(pk:IsPart vk (some (-1)))(h:Q ((n:Int)-1, -1,n) s):wpAny (model prog w) A (Builtin.Slice.sliceApplied (.ref sl) (pure (n:Int))) Q E s:=by
 obtain⟨os,hos,hcs,hds⟩:=id hs;unfold Builtin.Slice.sliceApplied Builtin.Slice.sliceFields;refine ao (ao (xX hos hds (x:=vl) rfl (ao (xX hos hds (x:=vu) rfl (ao (xX hos hds (x:=vk) rfl (aM ?_)))))));refine ao (slicePart_ pk ?_);show wpAny _ _ (if((-1:Int)==0)=true then _ else _) _ _ s;rw[aA (by decide)];refine ao (slicePart_ pl (ao (slicePart_ pu (ao (aM ?_)))));show wpAny _ _ (pure ((n:Int)-1,(-1:Int),Builtin.Slice.slicePlaces ((n:Int)-1) (-1) (-1))) _ _ s;rw[Bx];exact aM h
theorem vg(n:Nat):(List.range n).map (fun k=>n-1-k)=(List.range n).reverse:=by
 apply List.ext_getElem
 ·simp
 ·intro i h1 h2;rw[List.getElem_map,List.getElem_reverse];simp
theorem all_range{α:Type}(xs:Array α):(List.range xs.size).filterMap (fun k=>xs[k]?)=xs.toList:=by
 have h:=pick_run xs 0 xs.size;have e:(List.range xs.size).map (0+ ·)=List.range xs.size:=by
  rw[show((0+ ·):Nat->Nat)=id from funext fun k=>wgg k,List.map_id]
 rw[e,List.drop_zero,Mu (by rw[uW];exact aN _)]at h;exact h
theorem zL{α β:Type}{f g:α->Option β}:∀{l:List α},(∀x∈l,f x=g x)->l.filterMap f=l.filterMap g
 |[],_=>rfl
 |x::l,h=>by
  rw[RG,RG,h x (.head _),zL fun y hy=>h y (.tail _ hy)]
theorem J2(xs:Array Value):((List.range xs.size).filterMap fun(k:Nat)=>xs[(((xs.size:Int)-1)+(k:Int)*(-1)).toNat]?).toArray=xs.toList.reverse.toArray:=by
 have e:(List.range xs.size).filterMap (fun(k:Nat)=>xs[(((xs.size:Int)-1)+(k:Int)*(-1)).toNat]?)=((List.range xs.size).map fun k=>xs.size-1-k).filterMap (fun k=>xs[k]?):=by
  rw[wdx];apply zL;intro k hk;have:=pO.mp hk;have e:(((xs.size:Int)-1)+(k:Int)*(-1)).toNat=xs.size-1-k:=by omega
  show xs[(((xs.size:Int)-1)+(k:Int)*(-1)).toNat]? =xs[xs.size-1-k]?;rw[e]
 rw[e,vg,wfh,all_range]
theorem oJ{t sl:Addr}{items:Array Value}{vl vu vk:Value}{Q:L3}(ht:IsTup s.heap t items)(hs:s.heap.IsSliceOf sl vl vu vk)(pl:IsPart vl none)(pu:IsPart vu none)(pk:IsPart vk (some (-1)))(h:Q (.ref s.heap.objs.size) {s with heap:=s.heap.push {cls:= .type "tuple",data:= .seq items.toList.reverse.toArray}})(hsz:items.size<=sizeLine):wpAny (model prog w) A (getItem (.ref t) (.ref sl)) Q E s:=by
 have htake:sizeOk (.seq items.toList.reverse.toArray):=by
  show items.toList.reverse.toArray.size<=sizeLine;rw[gW,Nh,uW];exact hsz
 obtain⟨os,hos,hcs,hds⟩:=id hs;have hTs:s.TypeIs (.ref sl) "slice":=⟨os,hos,hcs⟩;unfold getItem
 try with_reducible refine Dz ?_
 first |refine ao (aM ?_)|skip
 refine ao (wel ht.typeIs (by decide) ?_);refine ao (IK (name:=Str.ofString "__getitem__") ht.typeIs Vp
  (Am Vp ht.typeIs wdl ?_ (wdy _ _)))
 show wpAny _ _ (Builtin.Tuple.tupleItemsOf (.ref t)>>=_) _ _ s;refine ao (tupleItemsOf_ ht ?_);refine ao (RK hTs ?_);rw[aB (by decide)];refine ao (pW hs pl pu pk ?_);have hno:¬((((items.size:Int)-1)==0&&(-1:Int)==1&&items.size==items.size)=true):=by
  intro q;rw[pR,pR]at q;exact absurd q.1.2 (by decide)
 show wpAny _ _ (if(((items.size:Int)-1)==0&&(-1:Int)==1&&items.size==items.size)=true then _ else _) _ _ s;rw[aA hno,J2]
 first
  |exact ao (m:=Builtin.Tuple.tupleExact _) (vO (aM ⟨_,rfl,aM h⟩) htake)
  |exact ao (m:=Builtin.Tuple.tupleExact _) (vO (ao (aM (aM ⟨_,rfl,aM h⟩))) htake)
  |exact ao (ao (m:=Builtin.Tuple.tupleExact _) (vO (aM (aM ⟨_,rfl,aM h⟩)) htake))
  |exact ao (ao (m:=Builtin.Tuple.tupleExact _) (vO (aM ⟨_,rfl,aM h⟩) htake))
end
end HT
namespace L2
open PySem PySem.Spec PyProof.Rows
section
variable{X:Cx}{e m:Expr}{te:TE}{tm:TO}{pos p2:Pos}
theorem uZ:∀{xs:List V} {us:List Value} {x:V} {u:Value},Vals xs us->RelV x u->Vals (xs++[x]) (us++[u])
 |_,_,_,_,.nil,h=> .cons h .nil
 |_,_,_,_,.cons a b,h=> .cons a (uZ b h)
theorem rR:∀{xs:List V} {us:List Value},Vals xs us->Vals xs.reverse us.reverse
 |_,_,.nil=> .nil
 |_,_,.cons a b=>by rw[List.reverse_cons,List.reverse_cons];exact uZ (rR b) a
def Wu(K:W.Frag)(te:TE)(tm:TO):TE:=fun σ H Q=>te σ H fun x H1=>tm σ H1 fun o H2=>o=some (-1)/\∃a xs,x= .ref a/\SqT K H2 a xs/\∀p,H2 p=none->Q (.ref p) (upd H2 p (.tup xs.reverse))
theorem Sw(he:PE X e te)(hm:PO X (some m) tm):PE X (.Subscript e (.Slice none none (some m) p2) pos) (Wu X.K te tm):=by
 intro pins s σ H Q I h;refine Subscript_ (thn (he pins s σ H _ I h) fun v s1 ⟨x,H1,I1,r1,q1⟩=> ?_);refine wpAny_Slice (thn (uV pins s1 σ H1 (fun o H=>o=none/\H=H1) I1 ⟨rfl,rfl⟩) fun vl s2 ⟨l,H2,I2,pl,⟨el,eh⟩⟩=>thn (uV pins s2 σ H2 (fun o H=>o=none/\H=H2) I2 ⟨rfl,rfl⟩) fun vu s3 ⟨u,H3,I3,pu,⟨eu,eh2⟩⟩=> ?_);subst el eh eu eh2;refine thn (hm pins s3 σ _ _ I3 q1) fun vk s4 ⟨k,H4,I4,pk,ek,a,xs,ex,hx,q⟩=> ?_;subst ek ex;cases r1;have I5:Inv X pins σ H4 {s4 with heap:=s4.heap.push {cls:= .type "slice",data:= .fields #[vl,vu,vk]}}:=I4.kept (t':=s4.toks) fun b ob q=>cL _ q;obtain⟨its,r,ht,hz⟩:=I5.tuple hx;have hlen:its.toArray.size=xs.length:=by rw[gW];exact r.length.symm
 show wpAny (model X.prog X.w) X.A (subscriptTail e (.Slice none none (some m) p2) (.ref a) (.ref s4.heap.objs.size)) (EP X pins σ Q) X.xe {s4 with heap:=s4.heap.push {cls:= .type "slice",data:= .fields #[vl,vu,vk]}};refine tail_any (ops:=[.ref a,.ref s4.heap.objs.size]) ht.typeIs PyProof.Rows.slot_tuple_getitem.lookup (HT.oJ ht (wdz ..) pl pu pk ?_ (by rw[hlen];exact hz)) (by with_unfolding_all rfl);refine⟨.ref _,_,I5.laid (t':=s4.toks) (o:= .tup xs.reverse) (fun b ob q=>cL _ q) (aN _) ?_,rfl,q _ (I5.hok.fresh (aN _))⟩;refine⟨by rw[Nh];exact hz,_,?_,IsTup.new _ _⟩;simpa using rR r
end
section
variable{X:Cx}{tg:Expr}
def T4(K:W.Frag)(tl:TE):TI:=fun σ H R=>tl σ H fun x H1=>∃a xs,x= .ref a/\SqL K H1 a xs/\(xs.length<=sizeLine->R (Itl K a) H1)
def Xj(K:W.Frag)(tl:TE):TI:=fun σ H R=>tl σ H fun x H1=>∃a xs,x= .ref a/\SqT K H1 a xs/\(xs.length<=sizeLine->R (Itt K a) H1)
theorem pI{l:Expr}{tl:TE}(hl:PE X l tl):PI X tg l (T4 X.K tl):=by
 intro pins s σ H R I h;refine thn (hl pins s σ H _ I h) fun v s1 ⟨x,H1,I1,r1,q1⟩=> ?_;obtain⟨a,xs,e,hq,q⟩:=q1;subst e;cases r1;obtain⟨its,rv,p,hz⟩:=I1.list hq;refine Vm p.isList ?_;refine⟨s1.heap.objs.size,[s1.heap.objs.size],_,_,H1,rfl,I1.kept (t':=s1.toks) fun b o e=>cL _ e,turn_list a _,⟨_,gY _ rfl,rfl,rfl⟩,fun b hb=> ?_,q hz⟩;have e:b=s1.heap.objs.size:=by simpa using hb
 subst e;exact I1.fpOk (aN _) (I1.hok.fresh (aN _))
theorem dZ{l:Expr}{tl:TE}(hl:PE X l tl):PI X tg l (Xj X.K tl):=by
 intro pins s σ H R I h;refine thn (hl pins s σ H _ I h) fun v s1 ⟨x,H1,I1,r1,q1⟩=> ?_;obtain⟨a,xs,e,hq,q⟩:=q1;subst e;cases r1;obtain⟨its,rv,p,hz⟩:=I1.tuple hq;refine Vo (show s1.heap.IsTuple a its.toArray from p) ?_;refine⟨s1.heap.objs.size,[s1.heap.objs.size],_,_,H1,rfl,I1.kept (t':=s1.toks) fun b o e=>cL _ e,turn_tuple a _,⟨_,gY _ rfl,rfl,rfl⟩,fun b hb=> ?_,q hz⟩;have e:b=s1.heap.objs.size:=by simpa using hb
 subst e;exact I1.fpOk (aN _) (I1.hok.fresh (aN _))
theorem rA:CallR X (.builtin "len") (fun xs H Q=>∃p ys,xs=[.ref p]/\(SqL X.K H p ys\/SqT X.K H p ys)/\(ys.length<=16777216->Q (.int ys.length) H)):=by
 intro pins s σ H xs us Q I r h;obtain⟨p,ys,rfl,hq,q⟩:=h;have hz:ys.length<=16777216:=by
  rw[<-eX];rcases hq with hq|hq
  ·exact(I.list hq).choose_spec.2.2
  ·exact(I.tuple hq).choose_spec.2.2
 exact call_len_seq pins s σ H _ us Q I r ⟨p,ys,rfl,hq,q hz⟩
end
mutual
inductive DX(K:W.Frag)(H:Hp):V->PyData->Prop
 |non:DX K H .non .none
 |bl (b:Bool):DX K H (.bl b) (.bool b)
 |int (i:Int):DX K H (.int i) (.int i)
 |str (x:Str):DX K H (.str x) (.str x)
 |tup {a:Addr} {xs:List V} {ds:List PyData} (h:SqT K H a xs) (t:lA K H xs ds):DX K H (.ref a) (.tuple ds)
 |lst {a:Addr} {xs:List V} {ds:List PyData} (h:SqL K H a xs) (t:lA K H xs ds):DX K H (.ref a) (.list ds)
 |dct {a:Addr} {kvs:List (Key×V)} (ds:List (PyData×PyData)) (h:H a=some (.dK kvs)):DX K H (.ref a) (.dict ds)
inductive lA(K:W.Frag)(H:Hp):List V->List PyData->Prop
 |nil:lA K H [] []
 |cons {x:V} {d:PyData} {xs:List V} {ds:List PyData} (h:DX K H x d) (t:lA K H xs ds):lA K H (x::xs) (d::ds)
end
theorem DX.same{K:W.Frag}{H H':Hp}(e:Same H H'){x:V}{d:PyData}(h:DX K H x d):DX K H' x d:=
 DX.rec (motive_1:=fun x d _=>DX K H' x d) (motive_2:=fun xs ds _=>lA K H' xs ds) .non (fun b=> .bl b) (fun i=> .int i) (fun x=> .str x) (fun h _ t=> .tup (e.tup h) t) (fun h _ t=> .lst (e.seq h) t) (fun ds h=> .dct ds (e _ _ h)) .nil (fun _ _ h t=> .cons h t) h
theorem lA.same{K:W.Frag}{H H':Hp}(e:Same H H'){xs:List V}{ds:List PyData}(h:lA K H xs ds):lA K H' xs ds:=
 lA.rec (motive_1:=fun x d _=>DX K H' x d) (motive_2:=fun xs ds _=>lA K H' xs ds) .non (fun b=> .bl b) (fun i=> .int i) (fun x=> .str x) (fun h _ t=> .tup (e.tup h) t) (fun h _ t=> .lst (e.seq h) t) (fun ds h=> .dct ds (e _ _ h)) .nil (fun _ _ h t=> .cons h t) h
theorem DV.dx{K:W.Frag}{H:Hp}{x:V}{d:PyData}(h:DV K H x d):DX K H x d:=
 DV.rec (motive_1:=fun x d _=>DX K H x d) (motive_2:=fun xs ds _=>lA K H xs ds) .non (fun b=> .bl b) (fun i=> .int i) (fun x=> .str x) (fun h _ t=> .tup h t) (fun h _ t=> .lst h t) (fun h=> .dct [] h) (fun h _=> .dct _ h) .nil (fun _ _ h t=> .cons h t) h
theorem cI.dx{K:W.Frag}{H:Hp}{xs:List V}{ds:List PyData}(h:cI K H xs ds):lA K H xs ds:=
 cI.rec (motive_1:=fun _ _ _=>True) (motive_2:=fun xs ds _=>lA K H xs ds) trivial (fun _=>trivial) (fun _=>trivial) (fun _=>trivial) (fun _ _ _=>trivial) (fun _ _ _=>trivial) (fun _=>trivial) (fun _ _=>trivial) .nil (fun h _ _ t=> .cons h.dx t) h
def eO:PyData->String
 | .none=>"NoneType"
 | .bool _=>"bool"
 | .int _=>"int"
 | .str _=>"str"
 | .list _=>"list"
 | .tuple _=>"tuple"
 | .dict _=>"dict"
theorem DX.kind{K:W.Frag}{H:Hp}:∀{x:V} {d:PyData},DX K H x d->Rq K H x (eO d)
 |_,_,.non=>rfl
 |_,_,.bl _=>rfl
 |_,_,.int _=>rfl
 |_,_,.str _=>rfl
 |_,_,.tup h _=> .inl ⟨rfl,_,h⟩
 |_,_,.lst h _=> .inr (.inl ⟨rfl,_,h⟩)
 |_,_,.dct _ h=> .inr (.inr ⟨rfl,_,h⟩)
theorem lA.len{K:W.Frag}{H:Hp}{xs:List V}{ds:List PyData}(h:lA K H xs ds):xs.length=ds.length:=
 lA.rec (motive_1:=fun _ _ _=>True) (motive_2:=fun xs ds _=>xs.length=ds.length) trivial (fun _=>trivial) (fun _=>trivial) (fun _=>trivial) (fun _ _ _=>trivial) (fun _ _ _=>trivial) (fun _ _=>trivial) rfl (fun _ _ _ t=>lE Nat.succ t) h
theorem lA.get{K:W.Frag}{H:Hp}:∀{xs:List V} {ds:List PyData} {i:Nat} {x:V},lA K H xs ds->xs[i]? =some x->∃d,ds[i]? =some d/\DX K H x d
 |_,_,_,_,.nil,e=>by simp at e
 |_,_,0,_,.cons h _,e=>by simp at e;subst e;exact⟨_,rfl,h⟩
 |_,_,i+1,x,.cons _ t,e=>by
  obtain⟨d,h1,h2⟩:=lA.get (i:=i) t (by simpa using e);exact⟨d,by simpa using h1,h2⟩
structure bO(K:W.Frag)(mg:L4)(x:Str)(st:Stmt)(ps:List Str)(f:Addr)(fd:FuncData):Prop where
 F:Fun K x x st f fd
 b:Binds K fd ps []
 m:mg x=some (.ref f)
theorem pc{X:Cx}{x:Str}{st:Stmt}{ps:List Str}{f:Addr}{fd:FuncData}{j k:Nat}{sp:Sp}{E:XK}{e:Expr}{es:List Expr}{t:TA}{p pos:Pos}(F:FnOk X.prog X.w X.K X.mg X.base CX0 j f fd ps sp)(hr:Room k X.A)(D:bO X.K X.mg x st ps f fd)(ha:PA X (e::es) t)(hj:j<=k:=by first |decide|omega)(hg:Gl X x:=by rfl)(hx:Passes CX0 X E:=by exact pass0)(hdb:(x==("__debug__":Str))=false:=by decide)(he:starEach (e::es) X.env=(false,eval e X.env)::starEach es X.env:=by rfl)(hpl:(backTo pos (starEach es X.env)).any (·.1)=false:=by rfl):PE X (.Call (.Name x p) (e::es) [] pos) (tCall sp [] E t):=pe_call (F.mono hj) hr hg D.m D.F.kp D.b .nil hx ha hdb he hpl
theorem fsc{N P:List Str}{sc:Scope}(a:sc.kind= .function:=by rfl)(b:sc.isCoroutine=false:=by rfl)(c:sc.isGenerator=false:=by rfl)(d:N.Nodup:=by decide+kernel)(e:N.take P.length=P:=by rfl)(f:∀x∈P,sc.names.lookup x=some .local\/sc.names.lookup x=some .cell:=by decide+kernel)(g:∀y∈sc.names,y.2≠.free:=by decide+kernel):FnScope N P sc:=⟨a,b,c,d,e,f,g⟩
theorem Fun.cT{P:Program}{w:World}{K:W.Frag}{mg:L4}{base:Heap}{x qual:Str}{st:Stmt}{f:Addr}{fd:FuncData}{ps:List Str}{k:Nat}{sp:Sp}(F:Fun K x qual st f fd)(N:List Str)(hb:∀(cdv:Value) (A:Around) (outer:List Env) (s:Shared) (H:Hp) (vs:List V) (Q:VK) (E:XK),Room k (A.deeper (PyProof.Rows.envOfC qual (defScope st) s.heap.objs.size f cdv))->sp vs H Q E->
   ∃t,PSs (cxOf CX0 P w K mg base N qual (defScope st) f cdv A outer s H E).nox (defBody st) t/\t {nx:=fun _ H'=>Q .non H',rt:=Q} (start N vs) H)(S:FnScope N ps (defScope st):=by exact fsc)(len:∀vs H Q E,sp vs H Q E->vs.length=ps.length:=by intro _ _ _ _ h;repeat(first |(obtain⟨rfl,_⟩:=h;rfl)|obtain⟨_,h⟩:=h)):FnOk P w K mg base CX0 (k+1) f fd ps sp:=F.ok S len hb
theorem aG{H:Hp}{p:Addr}(h:H p=none)(o:HO):Same H (upd H p o):=fun b u q=>by rw[cD (rB q h)];exact q
end L2
namespace Aq
open PySem L2
def bY:PyData->Bool
 | .int _=>true
 |_=>false
def aR(n:Int):PyData->Bool
 | .int i=>decide (0<=i)&&decide (i<n)
 |_=>false
def intD:PyData->Int
 | .int i=>i
 |_=>0
def kids:PyData->List PyData
 | .tuple ds=>ds
 |_=>[]
def bZ(ns:List Int):Bool:=(List.range (ns.length-1)).all fun k=>decide (ns.getD k 0<ns.getD (k+1) 0)
def fJ(ts:List (List Int)):Bool:=(List.range (ts.length-1)).all fun k=>HT.lexLt (ts.getD k []) (ts.getD (k+1) [])
def lF(n:Int):PyData->Bool
 | .tuple ds=>ds.all (aR n)&&bZ (ds.map intD)
 |_=>false
def lY(n:Int)(d:PyData):Bool:=lF n d&&decide ((kids d).length=2)
def rW(n:Int):PyData->Bool
 | .tuple ds=>ds.all (lY n)&&fJ (ds.map fun t=>(kids t).map intD)
 |_=>false
def vN:PyData->Bool
 | .tuple [n,t]=>bY n&&(decide (0<=intD n)&&decide (intD n<=10))&&rW (intD n) t
 |_=>false
theorem sW{n:Int}:∀{d:PyData},aR n d=true->∃i,d= .int i/\0<=i/\i<n
 | .int i,h=>⟨i,rfl,by simpa[aR]using h⟩
end Aq
namespace L2
open PySem PySem.Spec PyProof.Rows
section
variable{X:Cx}
theorem xP(K:W.Frag)(h:X.K=K:=by rfl):IxR X (rIxT K):=by subst h;exact fM
theorem eU(K:W.Frag)(h:X.K=K:=by rfl):IxR X (rIxL K):=by subst h;exact lK
theorem Hu(K:W.Frag)(h:X.K=K:=by rfl):CallR X (.builtin "len") (fun xs H Q=>∃p ys,xs=[.ref p]/\(SqL K H p ys\/SqT K H p ys)/\(ys.length<=16777216->Q (.int ys.length) H)):=by subst h;exact rA
theorem Es(K:W.Frag)(hu:X.A.units<cLine)(h:X.K=K:=by rfl):OpR X (compareOp .Lt) (rLtT K):=by subst h;exact op_ltT hu
theorem eF(K:W.Frag)(hu:X.A.units+64<cLine)(h:X.K=K:=by rfl):OpR X (compareOp .In) (fun x y H Q=>∃(p:Addr) (xs:List V) (ds:List PyData) (dx:PyData),y= .ref p/\(SqL K H p xs\/SqT K H p xs)/\cI K H xs ds/\DV K H x dx/\PyData.canLayAll0 ds=true/\dx.canLay0=true/\dx.depth<=60/\
  Q (.bl (ds.any fun d=>PyData.eqv d dx)) H):=by subst h;exact wg hu
theorem eE(K:W.Frag){es:List Expr}{k:Nat}{t:TGs}{n:Nat}{pos:Pos}(hc:X.calm=true)(h:PGs X es t)(hn:(assignEach es X.env).length=n:=by rfl)(hst:(assignEach es X.env).findIdx? (·.1)=none:=by rfl)(hK:X.K=K:=by rfl):PG X (.Tuple es k pos) (gTup K n t):=by subst hK;exact pg_tup hc h hn hst
end
section
variable{X:Cx}{p:Pos}
def jA(n:Nat):List V:=(List.range n).map fun(k:Nat)=>V.int (k:Int)
theorem Bc:∀{n:Nat} {us:List Value},us.length=n->(∀(j:Nat) (u:Value),us[j]? =some u->∃t:Tok,u=Value.int (0+((j:Nat):Int)*1) t)->Vals (jA n) us:=by
 intro n us hl hi;have go:∀(us:List Value) (k:Nat),(∀(j:Nat) (u:Value),us[j]? =some u->∃t:Tok,u=Value.int (0+((j+k:Nat):Int)*1) t)->Vals ((List.range' k us.length).map fun(k:Nat)=>V.int (k:Int)) us:=by
  intro us
  induction us with
  |nil=>intro k _;exact .nil
  |cons u us ih=>
   intro k h;obtain⟨t,e⟩:=h 0 u rfl;refine .cons ⟨t,?_⟩ (ih (k+1) fun j u' hj=> ?_)
   ·rw[e];congr 1;omega
   ·obtain⟨t',e'⟩:=h (j+1) u' (by simpa using hj);refine⟨t',?_⟩;rw[e'];congr 1;omega
 have:=go us 0 (fun j u hj=>by obtain⟨t,e⟩:=hi j u hj;exact⟨t,by rw[e];rfl⟩);unfold jA;rw[List.range_eq_range',<-hl];exact this
open Classical in
theorem vh(hu:X.A.units+64<cLine):OpR X (compareOp .NotIn) (fun x y H Q=>∃(p:Addr) (xs:List V) (ds:List PyData) (dx:PyData),y= .ref p/\(SqL X.K H p xs\/SqT X.K H p xs)/\cI X.K H xs ds/\DV X.K H x dx/\PyData.canLayAll0 ds=true/\dx.canLay0=true/\dx.depth<=60/\
  Q (.bl (!(ds.any fun d=>PyData.eqv d dx))) H):=by
 intro pins s σ H x y v u Q I rx ry h;obtain⟨p,xs,ds,dx,rfl,hq,hds,hx,ca,cb,hd,q⟩:=h;cases ry;obtain⟨bs,rb⟩:=DV.reads I hx rx;have key:∀{its:List Value},Vals xs its->(∀y∈its,SeqAt.EqAt X.A.in1 s y v (decide (∃d as,Reads s.heap y d as/\d∈ds/\PyData.eqv d dx=true)))/\(its.any fun y=>decide (∃d as,Reads s.heap y d as/\d∈ds/\PyData.eqv d dx=true))=ds.any fun d=>PyData.eqv d dx:=by
  intro its rv;obtain⟨as,ra⟩:=cI.reads I hds rv;have each:∀{us:List Value} {es:List PyData} {as:List Addr},ReadsAll s.heap us es as->(∀e∈es,e∈ds)->(∀y∈us,SeqAt.EqAt X.A.in1 s y v (decide (∃d as,Reads s.heap y d as/\d∈ds/\PyData.eqv d dx=true)))/\(us.any fun y=>decide (∃d as,Reads s.heap y d as/\d∈ds/\PyData.eqv d dx=true))=es.any fun d=>PyData.eqv d dx:=by
   intro us
   induction us with
   |nil=>intro es as h _;cases h;exact⟨(fun y hy=>(nomatch hy)),rfl⟩
   |cons y us ih=>
    intro es as h hs;cases h with
    | @cons _ _ d ds' as' bs' r rr=>
     obtain⟨i1,i2⟩:=ih rr fun e he=>hs e (jr _ he);have cl:=Dh ca d (hs d nG);have e:decide (∃d as,Reads s.heap y d as/\d∈ds/\PyData.eqv d dx=true)=PyData.eqv d dx:=by
      rw[Bb,Ga];constructor
      ·rintro⟨d',as'',r',_,q'⟩;obtain⟨rfl,_⟩:=(PySem.Reads.unique r _ _ r');exact q'
      ·intro q';exact⟨d,_,r,hs d nG,q'⟩
     refine⟨fun z hz=> ?_,?_⟩
     ·rcases cJ.mp hz with rfl|hz
      ·rw[e];exact SeqAt.eqAt_reads d dx _ s _ _ _ _ r rb cl cb (by show X.A.units+1+min d.depth dx.depth<cLine;omega)
      ·exact i1 z hz
     ·rw[Vb,Vb,i2,e]
  exact each ra fun e he=>he
 rcases hq with hq|hq
 ·obtain⟨its,r,pl,hz⟩:=I.list hq;obtain⟨k1,k2⟩:=key r;refine SeqAt.notIn_listAt _ pl.isList (fun w hw=>k1 w (by simpa using hw)) ⟨.bl _,H,I,rfl,?_⟩;rw[show∀f:Value->Bool,its.toArray.any f=its.any f from fun f=>by simp,k2];exact q
 ·obtain⟨its,r,pl,hz⟩:=I.tuple hq;obtain⟨k1,k2⟩:=key r;refine SeqAt.notIn_tupleAt _ pl (fun w hw=>k1 w (by simpa using hw)) ⟨.bl _,H,I,rfl,?_⟩;rw[show∀f:Value->Bool,its.toArray.any f=its.any f from fun f=>by simp,k2];exact q
end
section
variable{X:Cx}{p p' pos pos':Pos}{a:Expr}{ta:TA}
def Ww(ta:TA):TE:=fun σ H Q=>ta σ H fun vs H1=>∃j:Int,vs=[.int j]/\0<=j/\j<=16777216/\∀l,H1 l=none->Q (.ref l) (upd H1 l (.lst (jA j.toNat)))
theorem qK(hc:X.calm=true)(hgT:Gl X "list")(hmT:X.mg "list"=none)(hg:Gl X "range")(hm:X.mg "range"=none)(ha:PA X [a] ta)(hs:starEach [a] X.env=[(false,eval a X.env)]:=by rfl)(hs2:starEach [Expr.Call (.Name "range" p') [a] [] pos'] X.env=[(false,eval (Expr.Call (.Name "range" p') [a] [] pos') X.env)]:=by rfl):
  PE X (.Call (.Name "list" p) [.Call (.Name "range" p') [a] [] pos'] [] pos) (Ww ta):=by
 intro pins s σ H Q I h;refine RN (ld_blt I hgT hmT (show bootBuiltins "list"=some (.type "list")from by decide+kernel) ?_ (by decide) (by decide));refine Mw ?_ hs2 rfl;rw[hs2];refine ZJ ?_;refine Call_ (ld_blt I hg hm boot_range (Mw (thn (ha pos' pins s σ H _ I h) fun us s1 ⟨vs,H1,I1,r1,q1⟩=> ?_) hs rfl));obtain⟨j,e,q1,q2,q⟩:=q1;subst e;cases r1 with
 |cons r rr=>
  cases rr;obtain⟨t,rfl⟩:=r;refine call_range_1 ?_;refine Wq ?_;have hn:Builtin.Range.rangeSize 0 j 1=((j.toNat:Nat):Int):=by rw[rangeSize_one];split<;>omega
  refine call_list_range (I.ok.hd hc) (IsRange.new ..) (small_one (by decide) (by decide) (by omega) (by omega)) hn (by omega) fun h' tk acc c hk hS hacc=> ?_;have hv:Vals (jA j.toNat) acc.toList:=Bc (by rw[uW];exact hacc.1) (fun i u hu=>hacc.2 i u (by simpa using hu));have hz:(jA j.toNat).length<=sizeLine:=by unfold jA;rw[eX];simp;omega
  have I2:Inv X pins σ H1 {s1 with heap:=s1.heap.push {cls:=Value.type "range",data:=Data.fields #[Value.int 0 s1.toks,Value.int j t,Value.int 1 (s1.toks+1)]},toks:=s1.toks+1+1}:=I1.kept fun b o e=>cL _ e;exact⟨.ref _,_,I2.laid (t':=tk) (o:= .lst (jA j.toNat)) hk (aN _) ⟨hz,acc.toList,c,hv,by simpa using hS⟩,rfl,q _ (I2.hok.fresh (aN _))⟩
end
end L2
namespace PySem
open Sem (wp)
open AutoSeq1 (wpAny_loadPart')
theorem wU(l:Addr)(items:Array Value)(n:Nat)(dct:Option Addr)(sl:Array (Option Value)):
  Meets (Builtin.«enumerate.__new__» ⟨[.type "enumerate",.ref l],[]⟩) (fun _ R s=>s.heap.get? l=some {cls:= .type "tuple",dict:=dct,data:= .seq items n,slots:=sl}/\
   R (.ok (.ret (.ref (s.heap.push {cls:= .type "tuple_iterator",data:= .fields #[.ref l,.int 0 0]}).objs.size)))
    {s with heap:=(s.heap.push {cls:= .type "tuple_iterator",data:= .fields #[.ref l,.int 0 0]}).push {cls:= .type "enumerate",data:= .fields #[.none,.bool false,.ref s.heap.objs.size,rawInt 0,.none,.none]}}):=
 .of_wp fun prog w A R s h=>by
  obtain⟨hp,g,d,tk,os⟩:=s;obtain⟨hl,h⟩:=h;have hsub:=sub_enumerate;have hL:Heap.IsTuple (Shared.heap ⟨hp,g,d,tk,os⟩) l items:=⟨_,hl,rfl,n,rfl⟩
  wp_walk using wpAny_loadPart' hl
  refine wpAny_stack_any fun st=>aM ?_;split
  ·rename_i c _ _ _ _ _;cases(c==Value.type "enumerate")
   ·wp_walk using wpAny_loadPart' hl,Vo hL;exact⟨_,rfl,h⟩
   ·wp_walk using wpAny_loadPart' hl,Vo hL;exact⟨_,rfl,h⟩
  ·wp_walk using wpAny_loadPart' hl,Vo hL;exact⟨_,rfl,h⟩
section
variable{prog:Program}{w:World}{A:Around}{E:L3}{s:Shared}
theorem sX{it t:Addr}{i:Nat}{items:Array Value}{x:Value}{Q:L3}(hit:s.heap.IsTupleIter it t i)(ht:s.heap.IsTuple t items)(hx:items[i]? =some x)(hQ:∀h',h'.IsTupleIter it t (i+1)->Heap.SameBut it s.heap h'->Q x {s with heap:=h'}):wpAny (model prog w) A (Builtin.SmallTypes.nextOf (.ref it)) Q E s:=by
 obtain⟨o,ho,hc,hd⟩:=id hit;obtain⟨ol,hol,_,nl,hdl⟩:=ht;unfold Builtin.SmallTypes.nextOf;refine ao (IK (name:=Str.ofString "__next__") hit.typeIs ZL (Am ZL hit.typeIs wdo ?_ (wdg _)));show wpAny _ _ (field (.ref it) 0>>=_) _ _ s;refine ao (xX ho hd (x:= .ref t) rfl ?_);show wpAny _ _ (if(Value.ref t==Value.none)=true then _ else _) _ _ s;rw[aA (show¬((Value.ref t==Value.none)=true)from uY)];show wpAny _ _ (field (.ref it) 1>>=_) _ _ s;refine ao (xX ho hd (x:= .int i 0) rfl ?_);show wpAny _ _ (seqItems? (.ref t)>>=_) _ _ s;refine ao (RL hol hdl ?_);simp only[xV,hx];refine ao (Qx ho hd (by simp) (aM ⟨x,rfl,aM (hQ _ ?_ (Gb ..))⟩));exact⟨_,Qo _ ho (Ws (Mv hd _)),(ZC ..).trans hc,by rw[Mv hd];simp[rawInt]⟩
theorem jR{it t:Addr}{i:Nat}{items:Array Value}{Q:L3}(hh:A.handled=none)(hit:s.heap.IsTupleIter it t i)(ht:s.heap.IsTuple t items)(hx:items[i]? =none)(hE:∀h' e,Heap.ExtBut it s.heap h'->(∃o,h'.get? e=some o/\o.cls= .type "StopIteration")->E (.ref e) {s with heap:=h'}):wpAny (model prog w) A (Builtin.SmallTypes.nextOf (.ref it)) Q E s:=by
 obtain⟨o,ho,hc,hd⟩:=id hit;obtain⟨ol,hol,_,nl,hdl⟩:=ht;unfold Builtin.SmallTypes.nextOf;refine ao (IK (name:=Str.ofString "__next__") hit.typeIs ZL (Am ZL hit.typeIs wdo ?_ (wdg _)));show wpAny _ _ (field (.ref it) 0>>=_) _ _ s;refine ao (xX ho hd (x:= .ref t) rfl ?_);show wpAny _ _ (if(Value.ref t==Value.none)=true then _ else _) _ _ s;rw[aA (show¬((Value.ref t==Value.none)=true)from uY)];show wpAny _ _ (field (.ref it) 1>>=_) _ _ s;refine ao (xX ho hd (x:= .int i 0) rfl ?_);show wpAny _ _ (seqItems? (.ref t)>>=_) _ _ s;refine ao (RL hol hdl ?_);simp only[xV,hx];refine ao (Iv (ao (Qx ho hd (by simp) ?_)));show wpAny _ _ (newExc (.type "StopIteration") []>>=_) _ _ _;refine ao ?_;simp only[newExc,newTuple];refine ao (vO ?_ (by size_fits));refine ao (m:=firstArgMember _ _) (Ze (a:=Value.none) (by first |rfl|(simp only[firstArgMember];rfl)) ?_);refine vO ?_ (by size_fits);simp only[raiseNew];refine ao (wpAny_handled ?_);first |rw[show A.in1.handled=none from hh]|rw[hh]
 refine ao (aM (wpAny_throw ?_));exact hE _ _ (((Gb ..).extBut.push _).push _) ⟨_,gY _ rfl,rfl⟩
end
theorem Draws.tup{prog:Program}{w:World}{A:Around}(hh:A.handled=none)(it l:Addr)(hne:l≠it)(items:Array Value):
  Draws prog w A it [it,l] items.size (fun i v=>items[i]? =some v) (fun i h=>h.IsTupleIter it l i/\h.IsTuple l items) where
 live:=fun i h st=>by obtain⟨⟨o,e,_⟩,_⟩:=st;exact⟨o,e⟩
 frame:=fun i h h' st k=>⟨st.1.at fun o e=>k it (by simp) o e,st.2.at fun o e=>k l (by simp) o e⟩
 item:=fun i s Q E hi st hQ=>by
  have hx:items[i]? =some items[i]:=Qp hi;exact sX st.1 st.2 hx fun h' hit' hs=>hQ _ h' s.toks hx ⟨hit',st.2.at fun o e=>(hs.2 l hne).trans e⟩ hs
 done:=fun s Q E st hE=>jR hh st.1 st.2 (wfi (aN _)) hE
section
variable{prog:Program}{w:World}{A:Around}{E:L3}{s:Shared}
theorem uP{l:Addr}{items:Array Value}{Q:L3}(hL:s.heap.IsTuple l items)(h:∀h',IsEnum h' (s.heap.objs.size+1) s.heap.objs.size 0 .none->h'.IsTupleIter s.heap.objs.size l 0->h'.objs.size=s.heap.objs.size+2->(∀b o,s.heap.get? b=some o->h'.get? b=some o)->Q (.ref (s.heap.objs.size+1)) {s with heap:=h'}):
  wpAny (model prog w) A (call (.type "enumerate") [.ref l]) Q E s:=by
 obtain⟨⟨c,dct,dt,sl⟩,hl,hc,n,hd⟩:=hL;replace hc:c= .type "tuple":=hc;replace hd:dt= .seq items n:=hd;subst hc hd;refine callType_new F.called_enumerate (by decide) (F.typeCall_enumerate_1 _) (F.newCall_enumerate_1 _) (fun obj=>F.args_object_init_2 obj _) F.entry_enumerate_new (wU l items n dct sl) ⟨hl,?_⟩;have hz:(s.heap.push {cls:= .type "tuple_iterator",data:= .fields #[.ref l,.int 0 0]}).objs.size=s.heap.objs.size+1:=rQ ..;show _/\_;rw[hz];have he:IsEnum ((s.heap.push {cls:= .type "tuple_iterator",data:= .fields #[.ref l,.int 0 0]}).push {cls:= .type "enumerate",data:= .fields #[.none,.bool false,.ref s.heap.objs.size,rawInt 0,.none,.none]}) (s.heap.objs.size+1) s.heap.objs.size 0 .none:=by
  have:=gY (s.heap.push {cls:= .type "tuple_iterator",data:= .fields #[.ref l,.int 0 0]}) (o:={cls:= .type "enumerate",data:= .fields #[.none,.bool false,.ref s.heap.objs.size,rawInt 0,.none,.none]}) rfl;rw[hz]at this;exact this
 exact⟨⟨_,he,rfl⟩,h _ he ⟨_,cL _ (gY _ rfl),rfl,rfl⟩ (by rw[rQ,hz]) fun b o x=>cL _ (cL _ x)⟩
end
end PySem
namespace L2
open PySem PySem.Spec PyProof.Rows
section
variable{X:Cx}{pins:L1}{σ:St}{H:Hp}{s:Shared}{h':Heap}
theorem Inv.pU{t':Nat}{fp:List Addr}{T:Addr}{o:HO}(I:Inv X pins σ H s)(k:∀b o,b∉fp->s.heap.get? b=some o->h'.get? b=some o)(hf:∀b∈fp,FpOk X pins H b)(hT:s.heap.objs.size<=T)(new:ObjOk X.prog X.w (upd H T o) h' T o):
  Inv X pins σ (upd H T o) {s with heap:=h',toks:=t'}:=by
 have hTn:H T=none:=I.hok.fresh hT;have WX:∀b u,H b=some u->b∉fp:=fun b u e z=>by rw[(hf b z).1]at e;cases e
 have neT:∀b o,s.heap.get? b=some o->b≠T:=fun b o e=>dB (jw (cU e) hT);have WY:∀b u,H b=some u->b≠T:=fun b u e z=>by rw[z,hTn]at e;cases e
 refine I.step (g':=s.gens) (d':=s.drawn) (ch:=fp) (fun b hb=> ?_) (fun b o _ _ hc e _=>k b o hc e) (fun b o _ _ hc e _=>⟨o.slots,k b o hc e⟩) (fun b o _ e n=>by rw[cD (neT b o e)];exact n)
  (fun b o hc e=>⟨o,k b o hc e⟩) (fun b xs e=>by rw[cD (WY b _ e)];exact e) (fun b o u e=>by rw[cD (WY b _ e)];exact e) (fun b ps e=>⟨#[],by rw[cD (WY b _ e),e];simp⟩) (fun m hm=> ?_) (fun b u e=> ?_) I.bare
 ·obtain⟨f0,f1,f2,f3,f4,f5⟩:=hf b hb;exact⟨f3,f1,f4,f5⟩
 ·obtain⟨o,es,ep,ho,r⟩:=hm;exact⟨o,es,ep,k _ o (fun z=>(hf _ z).2.1 rfl) ho,r⟩
 ·by_cases hb:b=T
  ·subst hb;rw[aD]at e;cases e;exact new
  ·rw[cD hb]at e;refine(I.hok b u e).stay (fun c v hc q=>k c v ?_ q) (fun c q=>by rw[cD (WY c _ q)];exact q) fun c xs q=>by rw[cD (WY c _ q)];exact q
   rcases hc with z|z
   ·rw[z];exact WX b u e
   ·exact WX c _ z
theorem Inv.turns{t':Nat}{fp:List Addr}(I:Inv X pins σ H s)(k:∀b o,b∉fp->s.heap.get? b=some o->h'.get? b=some o)(hf:∀b∈fp,FpOk X pins H b):Inv X pins σ H {s with heap:=h',toks:=t'}:=by
 have WX:∀b u,H b=some u->b∉fp:=fun b u e z=>by rw[(hf b z).1]at e;cases e
 refine I.step (g':=s.gens) (d':=s.drawn) (ch:=fp) (fun b hb=> ?_) (fun b o _ _ hc e _=>k b o hc e) (fun b o _ _ hc e _=>⟨o.slots,k b o hc e⟩) (fun b o _ e n=>n)
  (fun b o hc e=>⟨o,k b o hc e⟩) (fun b xs e=>e) (fun b o u e=>e) (fun b ps e=>⟨#[],by rw[e];simp⟩) (fun m hm=> ?_) (fun b u e=> ?_) I.bare
 ·obtain⟨f0,f1,f2,f3,f4,f5⟩:=hf b hb;exact⟨f3,f1,f4,f5⟩
 ·obtain⟨o,es,ep,ho,r⟩:=hm;exact⟨o,es,ep,k _ o (fun z=>(hf _ z).2.1 rfl) ho,r⟩
 ·refine(I.hok b u e).stay (fun c v hc q=>k c v ?_ q) (fun c q=>q) fun c xs q=>q;rcases hc with z|z
  ·rw[z];exact WX b u e
  ·exact WX c _ z
end
def Hw(K:W.Frag)(b:Bool)(H:Hp)(a:Addr)(xs:List V):Prop:=match b with
 |false=>SqL K H a xs
 |true=>SqT K H a xs
def Ite(K:W.Frag)(b:Bool)(a:Addr)(xs:List V):It:=
 ⟨fun i H=>Hw K b H a xs/\i<xs.length,fun i H x H'=>∃t v,x= .ref t/\H t=none/\H'=upd H t (.tup [.int (i:Int),v])/\xs[i]? =some v,fun i H=>Hw K b H a xs/\i=xs.length⟩
theorem Bf{P:Program}{w:World}{K:W.Frag}{es:List Expr}{k:Nat}{pos:Pos}(a e it:Addr)(xs:List V)(hne:e≠it):
  Turn P w K (.Tuple es k pos) (Ite K false a xs) [e,it] e (fun i h=>(∃old,IsEnum h e it (i:Int) old)/\h.IsListIter it a i) where
 mem:=by simp
 obj:=fun i h st b hb=>by
  obtain⟨⟨old,he⟩,o,e1,c,d⟩:=st;rcases cJ.mp hb with z|hb
  ·subst z;exact⟨_,he,fun v z=>by cases z⟩
  ·have z:b=it:=by simpa using hb
   subst z;exact⟨o,e1,fun v z=>by rw[d]at z;cases z⟩
 keep:=fun i h h' st k=>⟨st.1.imp fun old he=>k e (by simp) _ he,st.2.at fun o e=>k it (by simp) o e⟩
 item:=by
  intro X hP hw hK hc i pins s σ H E I hf st hg;subst hP hw hK;obtain⟨hq0,hi⟩:=hg;have hq:SqL X.K H a xs:=hq0;obtain⟨its,rv,p,hz⟩:=I.list hq;have hx:xs[i]? =some xs[i]:=dD hi;obtain⟨u,hu,ru⟩:=rv.get hx;obtain⟨⟨old,he⟩,hit⟩:=st;refine wpAny_pyNext_enum_item he hit p.isList (x:=u) (by simpa using hu) hne fun h1 ho hit1 hT hsz hk=>⟨_,rfl,?_⟩;refine wpAny_letOwnedTupleGo_enum ho fun h2 he2 hs2=> ?_;have oH:Heap.SameBut e h1 h2:=hs2;have W5:s.heap.objs.size≠e:=fun z=>absurd (cU he) (by rw[<-z];exact uy _);have keep:∀b o,b∉[e,it]->s.heap.get? b=some o->h2.get? b=some o:=fun b o hb q=>(oH.2 b fun z=>hb (by simp[z])).trans (hk b o (fun z=>hb (by simp[z])) (fun z=>hb (by simp[z])) q);have hT2:h2.get? s.heap.objs.size=some {cls:= .type "tuple",data:= .seq #[.int i s.toks,u]}:=(oH.2 _ W5).trans hT;have I2:=I.pU (h':=h2) (t':=s.toks+1) (o:= .tup [.int (i:Int),xs[i]]) keep hf (aN _) ⟨(by show 2<=sizeLine;decide),[.int i s.toks,u],.cons ⟨_,rfl⟩ (.cons ru .nil),_,hT2,rfl,_,rfl⟩;exact⟨.ref s.heap.objs.size,_,I2,rfl,⟨_,_,rfl,I.hok.fresh (aN _),rfl,hx⟩,⟨⟨_,by simpa using he2⟩,hit1.at fun o q=>(oH.2 it hne.symm).trans q⟩,fun b hb=>by
   rw[cD (fun z=> ?_)]
   ·exact(hf b hb).1
   ·obtain⟨_,q1,_⟩:=hit;rcases cJ.mp hb with y|y
    ·exact W5 (z.symm.trans y)
    ·have y:b=it:=by simpa using y
     rw[<-y,z]at q1;exact absurd (cU q1) (uy _)⟩
 done:=by
  intro X hP hw hK hc i pins s σ H E I hf st hg;subst hP hw hK;obtain⟨hq0,hi⟩:=hg;have hq:SqL X.K H a xs:=hq0;obtain⟨its,rv,p,hz⟩:=I.list hq;have hl:=rv.length;obtain⟨⟨old,he⟩,hit⟩:=st;exact wpAny_pyNext_enum_end (I.ok.hd hc) he hit p.isList (by simp;omega) fun h' eb=>⟨rfl,I.turns (t':=s.toks) (fp:=[e,it]) (fun b o hb q=>eb b o (fun z=>hb (by simp[z])) q) hf⟩
 self:=fun _ _ _ _ _ st h=>by
  obtain⟨⟨old,he⟩,_⟩:=st;exact Zz he h
theorem Bd{P:Program}{w:World}{K:W.Frag}{es:List Expr}{k:Nat}{pos:Pos}(a e it:Addr)(xs:List V)(hne:e≠it)(hat:a≠it)(hae:a≠e):
  Turn P w K (.Tuple es k pos) (Ite K true a xs) [e,it] e (fun i h=>(∃old,IsEnum h e it (i:Int) old)/\h.IsTupleIter it a i) where
 mem:=by simp
 obj:=fun i h st b hb=>by
  obtain⟨⟨old,he⟩,o,e1,c,d⟩:=st;rcases cJ.mp hb with z|hb
  ·subst z;exact⟨_,he,fun v z=>by cases z⟩
  ·have z:b=it:=by simpa using hb
   subst z;exact⟨o,e1,fun v z=>by rw[d]at z;cases z⟩
 keep:=fun i h h' st k=>⟨st.1.imp fun old he=>k e (by simp) _ he,st.2.at fun o e=>k it (by simp) o e⟩
 item:=by
  intro X hP hw hK hc i pins s σ H E I hf st hg;subst hP hw hK;obtain⟨hq0,hi⟩:=hg;have hq:SqT X.K H a xs:=hq0;obtain⟨its,rv,p,hz⟩:=I.tuple hq;have hx:xs[i]? =some xs[i]:=dD hi;obtain⟨u,hu,ru⟩:=rv.get hx;obtain⟨⟨old,he⟩,hit⟩:=st;have hl:=rv.length;have pt:s.heap.IsTuple a its.toArray:=p;have D:=Draws.tup (prog:=X.prog) (w:=X.w) (A:=X.A.in1) (I.ok.hd hc) it a hat its.toArray;refine wpAny_pyNext_enum_itemD D he ⟨hit,pt⟩ (by simp;omega) hne (by simp;exact⟨hne,fun z=>hae z.symm⟩) fun y h1 tk hy ho aar hT hsz hk=>⟨_,rfl,?_⟩;have ey:y=u:=by
   have hu':its.toArray[i]? =some u:=by simpa using hu
   rw[hu']at hy;exact(rE hy).symm
  subst ey;refine wpAny_letOwnedTupleGo_enum ho fun h2 he2 hs2=> ?_;have oH:Heap.SameBut e h1 h2:=hs2;have W5:s.heap.objs.size≠e:=fun z=>absurd (cU he) (by rw[<-z];exact uy _);have keep:∀b o,b∉[e,it]->s.heap.get? b=some o->h2.get? b=some o:=fun b o hb q=>(oH.2 b fun z=>hb (by simp[z])).trans (hk b o (fun z=>hb (by simp[z])) (fun z=>hb (by simp[z])) q);have hT2:h2.get? s.heap.objs.size=some {cls:= .type "tuple",data:= .seq #[.int i tk,y]}:=(oH.2 _ W5).trans hT;have I2:=I.pU (h':=h2) (t':=tk+1) (o:= .tup [.int (i:Int),xs[i]]) keep hf (aN _) ⟨(by show 2<=sizeLine;decide),[.int i tk,y],.cons ⟨_,rfl⟩ (.cons ru .nil),_,hT2,rfl,_,rfl⟩;exact⟨.ref s.heap.objs.size,_,I2,rfl,⟨_,_,rfl,I.hok.fresh (aN _),rfl,hx⟩,⟨⟨_,by simpa using he2⟩,aar.1.at fun o q=>(oH.2 it hne.symm).trans q⟩,fun b hb=>by
   rw[cD (fun z=> ?_)]
   ·exact(hf b hb).1
   ·obtain⟨_,q1,_⟩:=hit;rcases cJ.mp hb with y|y
    ·exact W5 (z.symm.trans y)
    ·have y:b=it:=by simpa using y
     rw[<-y,z]at q1;exact absurd (cU q1) (uy _)⟩
 done:=by
  intro X hP hw hK hc i pins s σ H E I hf st hg;subst hP hw hK;obtain⟨hq0,hi⟩:=hg;have hq:SqT X.K H a xs:=hq0;obtain⟨its,rv,p,hz⟩:=I.tuple hq;have hl:=rv.length;obtain⟨⟨old,he⟩,hit⟩:=st;have pt:s.heap.IsTuple a its.toArray:=p;have ei:i=its.toArray.size:=by rw[gW];omega
  subst ei;have D:=Draws.tup (prog:=X.prog) (w:=X.w) (A:=X.A.in1) (I.ok.hd hc) it a hat its.toArray;exact wpAny_pyNext_enum_endD D he ⟨hit,pt⟩ fun h' eb=>⟨rfl,I.turns (t':=s.toks) (fp:=[e,it]) (fun b o hb q=>eb b o (fun z=>hb (by simp[z])) q) hf⟩
 self:=fun _ _ _ _ _ st h=>by
  obtain⟨⟨old,he⟩,_⟩:=st;exact Zz he h
section
variable{X:Cx}{es:List Expr}{k:Nat}{J1:Pos}
def Xk(K:W.Frag)(ta:TA):TI:=fun σ H R=>ta σ H fun vs H1=>∃(b:Bool) (a:Addr) (xs:List V),vs=[.ref a]/\Hw K b H1 a xs/\(xs.length<=sizeLine->R (Ite K b a xs) H1)
theorem oh{a:Expr}{ta:TA}{p pos:Pos}(hg:Gl X "enumerate")(hm:X.mg "enumerate"=none)(ha:PA X [a] ta)(hs:starEach [a] X.env=[(false,eval a X.env)]:=by rfl):
  PI X (.Tuple es k J1) (.Call (.Name "enumerate" p) [a] [] pos) (Xk X.K ta):=by
 intro pins s σ H R I h;refine Call_ (ld_blt I hg hm (show bootBuiltins "enumerate"=some (.type "enumerate")from by decide+kernel) (Mw (thn (ha pos pins s σ H _ I h) fun us s1 ⟨vs,H1,I1,r1,q1⟩=> ?_) hs rfl));obtain⟨b,l,xs,e,hq,q⟩:=q1;subst e;cases r1 with
 |cons r rr=>
  cases rr;cases r;cases b with
  |false=>
   obtain⟨its,rv,pl,hz⟩:=I1.list (show SqL X.K H1 l xs from hq);refine call_enumerate_list pl.isList fun h' he hit hsz hk=> ?_;refine Zz he ?_;have I2:Inv X pins σ H1 {s1 with heap:=h'}:=I1.kept (t':=s1.toks) hk;have hne:s1.heap.objs.size+1≠s1.heap.objs.size:=Nat.succ_ne_self _;refine⟨s1.heap.objs.size+1,[s1.heap.objs.size+1,s1.heap.objs.size],_,_,H1,rfl,I2,Bf l _ _ xs hne,⟨⟨_,he⟩,hit⟩,fun c hc=> ?_,q hz⟩;rcases cJ.mp hc with z|z
   ·subst z;exact I1.fpOk (HF _) (I1.hok.fresh (HF _))
   ·have z:c=s1.heap.objs.size:=by simpa using z
    subst z;exact I1.fpOk (aN _) (I1.hok.fresh (aN _))
  |true=>
   obtain⟨its,rv,pl,hz⟩:=I1.tuple (show SqT X.K H1 l xs from hq);have pt:s1.heap.IsTuple l its.toArray:=pl;have hlt:l<s1.heap.objs.size:=by obtain⟨_,e,_⟩:=id pt;exact cU e
   refine uP pt fun h' he hit hsz hk=> ?_;refine Zz he ?_;have I2:Inv X pins σ H1 {s1 with heap:=h'}:=I1.kept (t':=s1.toks) hk;have hne:s1.heap.objs.size+1≠s1.heap.objs.size:=Nat.succ_ne_self _;refine⟨s1.heap.objs.size+1,[s1.heap.objs.size+1,s1.heap.objs.size],_,_,H1,rfl,I2,Bd l _ _ xs hne (dB hlt) (dB (pQ hlt)),⟨⟨_,he⟩,hit⟩,fun c hc=> ?_,q hz⟩;rcases cJ.mp hc with z|z
   ·subst z;exact I1.fpOk (HF _) (I1.hok.fresh (HF _))
   ·have z:c=s1.heap.objs.size:=by simpa using z
    subst z;exact I1.fpOk (aN _) (I1.hok.fresh (aN _))
end
theorem Le{K:W.Frag}{b:Bool}{a:Addr}{xs:List V}{g:TG}{tb:TS}{D:Ends}{σ:St}{H:Hp}(Pv:Nat->St->Hp->Prop)(h0:Pv 0 σ H)(hl:∀i σ H,i<=xs.length->Pv i σ H->Hw K b H a xs)(hs:∀i v t σ H,xs[i]? =some v->Pv i σ H->H t=none->g (.ref t) σ (upd H t (.tup [.int (i:Int),v])) fun σ2 H2=>tb {D with nx:=Pv (i+1),ct:=Pv (i+1),bk:=D.nx} σ2 H2)(hd:∀σ H,Pv xs.length σ H->D.nx σ H):
  ∃W:Nat->Nat->St->Hp->Prop,(∃m,W 0 m σ H)/\∀i m σ H,W i m σ H->
   ((Ite K b a xs).stop i H/\D.nx σ H)\/((Ite K b a xs).go i H/\∃N:St->Hp->Prop,(∀σ' H',N σ' H'->∃m',m'<m/\W (i+1) m' σ' H')/\∀x H',(Ite K b a xs).yld i H x H'->g x σ H' fun σ2 H2=>tb {D with nx:=N,ct:=N,bk:=D.nx} σ2 H2):=by
 refine⟨fun i m σ H=>m=xs.length-i/\i<=xs.length/\Pv i σ H,⟨xs.length,by simp,cG _,h0⟩,?_⟩;rintro i m σ H ⟨rfl,hi,p⟩;have q:=hl i σ H hi p;by_cases e:i=xs.length
 ·subst e;exact .inl ⟨⟨q,rfl⟩,hd σ H p⟩
 ·refine .inr ⟨⟨q,by omega⟩,Pv (i+1),fun σ' H' w=>⟨xs.length-(i+1),by omega,rfl,by omega,w⟩,fun x H' y=> ?_⟩;obtain⟨t,v,rfl,ht,rfl,hv⟩:=y;exact hs i v t σ H hv p ht
section
variable{ini:St}{H:Hp}{g:TG}{tc:TT}{te:TE}{Fin:List V->Hp->Prop}{K:W.Frag}{b:Bool}{a:Addr}{xs:List V}
theorem lg(Pv:Nat->List V->St->Hp->Prop)(h0:Pv 0 [] ini H)(hl:∀(i:Nat) acc σ H,i<=xs.length->Pv i acc σ H->Hw K b H a xs)(hz:∀(i:Nat) acc σ H,i<=xs.length->Pv i acc σ H->acc.length<=i)(hx:xs.length<=sizeLine)(hs:∀(i:Nat) v t acc σ H,xs[i]? =some v->Pv i acc σ H->H t=none->g (.ref t) σ (upd H t (.tup [.int (i:Int),v])) fun σ2 H2=>tc σ2 H2 fun b H3=>if b=true then te σ2 H3 fun v H4=>Pv (i+1) (acc++[v]) σ2 H4 else Pv (i+1) acc σ2 H3)(hd:∀acc σ H,Pv xs.length acc σ H->Fin acc H):vI (Ite K b a xs) ini H g tc te Fin:=by
 refine⟨fun i m acc σ H=>m=xs.length-i/\i<=xs.length/\Pv i acc σ H,⟨xs.length,by simp,cG _,h0⟩,?_⟩;rintro i m acc σ H ⟨rfl,hi,p⟩;have q:=hl i acc σ H hi p;have z:=hz i acc σ H hi p;by_cases hlt:i<xs.length
 ·refine .inr ⟨⟨q,hlt⟩,by omega,fun acc σ H=>Pv (i+1) acc σ H,fun acc' σ' H' r=>⟨_,by omega,rfl,hlt,r⟩,fun x H' y=> ?_⟩;obtain⟨t,v,rfl,ht,rfl,hv⟩:=y;exact hs i v t acc σ H hv p ht
 ·have e:i=xs.length:=by omega
  subst e;exact .inl ⟨⟨q,rfl⟩,by omega,hd acc σ H p⟩
end
section
variable{X:Cx}{e m a:Expr}{te:TE}{tm:TO}{p pos p2:Pos}
theorem Gs(its:List Value):slicePick its.toArray none none (some (-1))=its.reverse.toArray:=by
 have hb:sliceBounds none none (some (-1)) its.toArray.size=((its.toArray.size:Int)-1, -1, -1):=by
  unfold sliceBounds;simp
 unfold slicePick;rw[hb];have hr:sliceRange ((its.toArray.size:Int)-1) (-1) (-1)=(List.range its.toArray.size).map fun k=>its.toArray.size-1-k:=by
  generalize its.toArray.size=n;unfold sliceRange;have hn:(if(-1:Int)>0 then(if(n:Int)-1< -1 then(-1-((n:Int)-1)+ -1-1)/ -1 else 0)else(if(n:Int)-1> -1 then((n:Int)-1- -1- -1-1)/(- -1)else 0))=(n:Int):=by
   rw[aA (by decide),show(- -1:Int)=1 by decide,wgf];split<;>omega
  show(List.range (if(-1:Int)>0 then(if(n:Int)-1< -1 then(-1-((n:Int)-1)+ -1-1)/ -1 else 0)else(if(n:Int)-1> -1 then((n:Int)-1- -1- -1-1)/(- -1)else 0)).toNat).map _=_;rw[hn,xV];refine Ve fun k hk=> ?_;have:=pO.mp hk;omega
 dsimp only;rw[hr,HT.vg,wfh,HT.all_range]
def Wv(K:W.Frag)(te:TE)(tm:TO):TE:=fun σ H Q=>te σ H fun x H1=>tm σ H1 fun o H2=>o=some (-1)/\∃a xs,x= .ref a/\SqL K H2 a xs/\∀p,H2 p=none->Q (.ref p) (upd H2 p (.lst xs.reverse))
theorem v7(he:PE X e te)(hm:PO X (some m) tm):PE X (.Subscript e (.Slice none none (some m) p2) pos) (Wv X.K te tm):=by
 intro pins s σ H Q I h;refine Subscript_ (thn (he pins s σ H _ I h) fun v s1 ⟨x,H1,I1,r1,q1⟩=> ?_);refine wpAny_Slice (thn (uV pins s1 σ H1 (fun o H=>o=none/\H=H1) I1 ⟨rfl,rfl⟩) fun vl s2 ⟨l,H2,I2,pl,⟨el,eh⟩⟩=>thn (uV pins s2 σ H2 (fun o H=>o=none/\H=H2) I2 ⟨rfl,rfl⟩) fun vu s3 ⟨u,H3,I3,pu,⟨eu,eh2⟩⟩=> ?_);subst el eh eu eh2;refine thn (hm pins s3 σ _ _ I3 q1) fun vk s4 ⟨k,H4,I4,pk,ek,a,xs,ex,hx,q⟩=> ?_;subst ek ex;cases r1;have I5:Inv X pins σ H4 {s4 with heap:=s4.heap.push {cls:= .type "slice",data:= .fields #[vl,vu,vk]}}:=I4.kept (t':=s4.toks) fun b ob q=>cL _ q;obtain⟨its,r,ht,hz⟩:=I5.list hx;have hlen:=r.length;show wpAny (model X.prog X.w) X.A (subscriptTail e (.Slice none none (some m) p2) (.ref a) (.ref s4.heap.objs.size)) (EP X pins σ Q) X.xe {s4 with heap:=s4.heap.push {cls:= .type "slice",data:= .fields #[vl,vu,vk]}};refine tail_any (ops:=[.ref a,.ref s4.heap.objs.size]) ht.isList.typeIs slot_list_getitem.lookup (wpAny_getItem_list_slice ht.isList (wdz ..) pl pu pk (by simp) ?_ (by rw[gW];omega)) (by with_unfolding_all rfl);rw[Gs];refine⟨.ref _,_,I5.laid (t':=s4.toks) (o:= .lst xs.reverse) (fun b ob q=>cL _ q) (aN _) ?_,rfl,q _ (I5.hok.fresh (aN _))⟩;exact⟨by rw[Nh];exact hz,_,0,rR r,gY _ rfl⟩
theorem Nt{l:List Int}{k:Int}(h:k∈l):step_dedup l k=l:=by unfold step_dedup;simp[h]
theorem Je{l:List Int}{k:Int}(h:¬k∈l):step_dedup l k=l++[k]:=by unfold step_dedup;simp[h]
theorem oN(ns:List Int):∀(i:Nat),i<=ns.length->∀k,k∈firstMet (fun i=>ns.getD i 0) i↔k∈ns.take i
 |0,_,k=>by rw[firstMet_zero,List.take_zero]
 |i+1,h,k=>by
  have ih:=oN ns i (by omega) k;have e1:ns.getD i 0=ns[i]:=by simp[show i<ns.length by omega]
  rw[Zj,HS,dD (by omega),jh,<-ih]
  try dsimp only
  rw[e1];by_cases hm:ns[i]∈firstMet (fun i=>ns.getD i 0) i
  ·rw[Nt hm];constructor
   ·exact .inl
   ·rintro(z|z)
    ·exact z
    ·have:k=ns[i]:=by simpa using z
     rw[this];exact hm
  ·rw[Je hm,jh];simp
theorem yU(K:W.Frag)(h:X.K=K:=by rfl):OpR X (binaryOp .Add) (QX K):=by subst h;exact oA
end
theorem Hw.same{K:W.Frag}{b:Bool}{H H':Hp}{a:Addr}{xs:List V}(h:Hw K b H a xs)(e:Same H H'):Hw K b H' a xs:=by
 cases b with
 |false=>exact e.seq (show SqL K H a xs from h)
 |true=>exact e.tup (show SqT K H a xs from h)
theorem Fz{s u:TS}{D:Ends}{σ:St}{H:Hp}(I:St->Hp->Prop)(h1:∀N:St->Hp->Prop,(∀σ' H',I σ' H'->N σ' H')->s {D with nx:=N} σ H)(h2:∀σ' H',I σ' H'->u D σ' H'):tSeq s u D σ H:=h1 (u D) h2
theorem CQ:∀(names:List (Str×NameKind)) (n:Nat) (acc:List (Str×Addr)) {x:Str} {c:Addr},(x,c)∈cellsFrom n names acc->(x,c)∈acc\/((x,NameKind.cell)∈names/\n<=c)
 |[],_,_,_,_,h=> .inl h
 |(nm,k)::r,n,acc,x,c,h=>by
  unfold cellsFrom at h;split at h
  ·rename_i hk;have ek:k=NameKind.cell:=by simpa using hk
   rcases CQ r _ _ h with q|⟨q,m⟩
   ·rcases cJ.mp q with e|e
    ·cases e;subst ek;exact .inr ⟨nG,aN _⟩
    ·exact .inl e
   ·exact .inr ⟨jr _ q,by omega⟩
  ·rcases CQ r _ _ h with q|⟨q,m⟩
   ·exact .inl q
   ·exact .inr ⟨jr _ q,m⟩
theorem w6:∀(names:List (Str×NameKind)) (n:Nat) (acc:List (Str×Addr)) {p:Str×Addr},p∈acc->p∈cellsFrom n names acc
 |[],_,_,_,h=>h
 |(nm,k)::r,n,acc,p,h=>by
  unfold cellsFrom;split
  ·exact w6 r _ _ (jr _ h)
  ·exact w6 r _ _ h
theorem CV:∀(names:List (Str×NameKind)) (n:Nat) (acc:List (Str×Addr)) {x:Str},(x,NameKind.cell)∈names->∃c,(x,c)∈cellsFrom n names acc
 |(nm,k)::r,n,acc,x,h=>by
  unfold cellsFrom;rcases cJ.mp h with e|e
  ·cases e;rw[aB (show(NameKind.cell==NameKind.cell)=true from rfl)];exact⟨n,w6 r _ _ nG⟩
  ·split
   ·exact CV r _ _ e
   ·exact CV r _ _ e
theorem CT{n0:Nat}:∀(names:List (Str×NameKind)) (n:Nat) (acc:List (Str×Addr)),n0<=n->(∀x y c,(x,c)∈acc->(y,c)∈acc->n0<=c->x=y)->(∀x c,(x,c)∈acc->c<n)->∀x y c,(x,c)∈cellsFrom n names acc->(y,c)∈cellsFrom n names acc->n0<=c->x=y
 |[],_,_,_,h,_=>h
 |(nm,k)::r,n,acc,hn,h,hl=>by
  unfold cellsFrom;split
  ·refine CT r (n+1) ((nm,n)::acc) (by omega) (fun x y c hx hy hc=> ?_) (fun x c hx=> ?_)
   ·rcases cJ.mp hx with e1|e1<;>rcases cJ.mp hy with e2|e2
    ·cases e1;cases e2;rfl
    ·cases e1;exact absurd (hl _ _ e2) (uy _)
    ·cases e2;exact absurd (hl _ _ e1) (uy _)
    ·exact h x y c e1 e2 hc
   ·rcases cJ.mp hx with e1|e1
    ·cases e1;exact ur _
    ·exact pQ (hl _ _ e1)
  ·exact CT r n acc hn h hl
theorem w5:∀(names:List (Str×NameKind)) (h:Heap) (acc:List (Str×Addr)) {x:Str} {c:Addr},(x,c)∈cellsFrom h.objs.size names acc->(x,c)∈acc\/(pushCells h names).IsCell c none
 |[],_,_,_,_,h=> .inl h
 |(nm,k)::r,h,acc,x,c,hm=>by
  unfold cellsFrom at hm;unfold pushCells;split at hm
  ·rename_i hk;rw[aB hk];have hm':(x,c)∈cellsFrom (h.push {cls:= .type "cell",data:= .cell none}).objs.size r ((nm,h.objs.size)::acc):=by rw[rQ];exact hm
   rcases w5 r (h.push {cls:= .type "cell",data:= .cell none}) _ hm' with q|q
   ·rcases cJ.mp q with e|e
    ·cases e;exact .inr ⟨_,Zr _ _ _ _ (gY _ rfl),rfl⟩
    ·exact .inl e
   ·exact .inr q
  ·rename_i hk;rw[aA hk];exact w5 r h acc hm
theorem Ot{M:Model}{A:Around}{E:L3}{s:Shared}{scope:Scope}{globals:Addr}{closure:List (Str×Addr)}{qual:Str}{env:Env}{Q:Env->Shared->Prop}(hQ:Q (newEnv scope s.heap.objs.size globals (cellsFrom (s.heap.objs.size+1) scope.names closure) qual none Value.none (some env) 0) {s with heap:=pushCells (s.heap.push {cls:= .type "dict",data:= .dict #[]}) scope.names}):
  wpAny M A (newFunctionEnv scope globals closure [] qual none .none (some env)) Q E s:=by
 simp only[newFunctionEnv,Option.isSome_some,Qv];refine ao (wpAny_alloc ?_);refine ao (wpAny_layCells _ (fun name kind cells=>by cases hkc:kind==NameKind.cell<;>simp[hkc]) _ _ _ _ ?_);rw[wfu];refine ao (aM (aM ?_));rw[show({s with heap:=s.heap.push {cls:= .type "dict",data:= .dict #[]}}:Shared).heap.objs.size=s.heap.objs.size+1 from rQ ..];exact hQ
def aU(sc scope:Scope):Bool:=scope.names.all fun p=>(p.2 !=NameKind.cell||scope.names.lookup p.1==some NameKind.cell)&&(p.2 !=NameKind.local||scope.names.lookup p.1==some NameKind.local)&&
 (p.2 !=NameKind.free||(scope.names.lookup p.1==some NameKind.free&&(sc.names.lookup p.1==some NameKind.cell||sc.names.lookup p.1==some NameKind.free)))
section
variable{sc scope:Scope}
theorem aU.cell(h:aU sc scope=true){x:Str}(hy:(x,NameKind.cell)∈scope.names):scope.names.lookup x=some .cell:=by
 have q:=nF.mp h _ hy;simpa using q
theorem aU.names(h:aU sc scope=true):∀y∈scope.names,y.2= .local->scope.names.lookup y.1=some .local:=fun y hy e=>by
 have q:=nF.mp h y hy;simpa[e]using q
theorem aU.free(h:aU sc scope=true){x:Str}(hy:(x,NameKind.free)∈scope.names):scope.names.lookup x=some .free/\(sc.names.lookup x=some .cell\/sc.names.lookup x=some .free):=by
 have q:=nF.mp h _ hy;simpa using q
end
theorem yP{scope:Scope}{env:Env}{x:Str}(h:(relabel scope env).names.lookup x=some .cell\/(relabel scope env).names.lookup x=some .free):(x,NameKind.free)∈scope.names\/(x,NameKind.cell)∈scope.names:=by
 cases e:scope.names.lookup x with
 |none=>
  have q:=sO (env:=env) e;rcases h with h|h
  ·rw[show(relabel scope env).names.lookup x=none from q]at h;cases h
  ·rw[show(relabel scope env).names.lookup x=none from q]at h;cases h
 |some k=>
  have q:=mK (env:=env) e;have m:=Iw e;by_cases hk:k= .free
  ·subst hk;exact .inl m
  ·have q':(relabel scope env).names.lookup x=some k:=by
    refine Eq.trans q ?_;have:(k==NameKind.free)=false:=by simpa using hk
    simp[this]
   rw[q']at h;rcases h with h|h
   ·cases h;exact .inr m
   ·cases h;exact absurd rfl hk
def bF(X:Cx)(scope:Scope)(N:List Str)(s:Shared)(H:Hp)(cl:List (Str×Addr))(C:Addr)(ex:List Addr):Cx:=
 {X with N:=N,s₀:=s,H₀:=H,env:=compEnvC scope cl C X.env,outer:=X.stack,ex:=ex,fn:=fun x=>scope.names.lookup x==some NameKind.cell,pn:=[],xe:=fun _ _=>False}
section
variable{X:Cx}{tg iter elt:Expr}{ifs:List Expr}{scope:Scope}{pos:Pos}{own caps:List Str}{ix:List Nat}{g:TG}{tc:TT}{te:TE}
abbrev HY(X:Cx)(scope:Scope)(C:Addr):List (Str×Addr):=cellsFrom (C+1) scope.names (lH X.env.cells scope.names [])
theorem wZ{pins:L1}{s:Shared}{σ:St}{H:Hp}{C:Addr}(ck:aU X.env.scope scope=true)(I:Inv X pins σ H s){x:Str}{c:Addr}(e:(HY X scope C).lookup x=some c):
  (X.env.cells.lookup x=some c/\(x,NameKind.free)∈scope.names)\/((x,NameKind.cell)∈scope.names/\C<c/\(x,c)∉lH X.env.cells scope.names []):=by
 have old:(x,c)∈lH X.env.cells scope.names []->X.env.cells.lookup x=some c/\(x,NameKind.free)∈scope.names:=fun q=>by
  rcases oO q with q|⟨q,mm⟩
  ·cases q
  ·obtain⟨d,hd⟩:=I.ok.has x (aU.free ck mm).2;rw[hd]at q;have q:c=d:=q;rw[q];exact⟨hd,mm⟩
 rcases CQ _ _ _ (Iw e)with q|⟨q,m⟩
 ·exact .inl (old q)
 ·refine .inr ⟨q,m,fun z=> ?_⟩;have h1:=aU.cell ck q;have h2:=(aU.free ck (old z).2).1;rw[h1]at h2;cases h2
theorem zT{pins:L1}{s s':Shared}{σ:St}{H:Hp}{fp:List Addr}{C:Addr}{m:L4}(ck:aU X.env.scope scope=true)(hkind:scope.kind= .function)(hcap:jg X scope caps ix)
  (I:Inv X pins σ H s)(f2:∀b∈fp,FpOk X pins H b)(hlt:∀b∈fp,b<s.heap.objs.size)(hC:s.heap.objs.size<=C)(hos:s'.os=s.os)(hg:AllBare s'.gens)(hk:∀b o,s.heap.get? b=some o->s'.heap.get? b=some o)(hn:s'.heap.Ns C m)(hcl:∀x c,(HY X scope C).lookup x=some c->(x,c)∉lH X.env.cells scope.names []->s'.heap.IsCell c none):
  Inv (bF X scope (own++caps) s H (HY X scope C) C fp) [] (zx own ix σ) H s':=by
 have cl1:=fun x c e=>wZ (C:=C) (x:=x) (c:=c) ck I e;have Et:∀x c,X.env.cells.lookup x=some c->c<s.heap.objs.size:=fun x c e=>by
  obtain⟨v,o,ho,_⟩:=I.cell x c e;exact cU ho
 have cl2:∀x,(x,NameKind.free)∈scope.names\/(x,NameKind.cell)∈scope.names->∃c,(HY X scope C).lookup x=some c:=fun x mm=>by
  rcases mm with mm|mm
  ·obtain⟨c,hc⟩:=zW (cells:=X.env.cells) (acc:=[]) mm;obtain⟨d,hd,_⟩:=YJ (w6 scope.names (C+1) _ hc);exact⟨d,hd⟩
  ·obtain⟨c,hc⟩:=CV scope.names (C+1) (lH X.env.cells scope.names []) mm;obtain⟨d,hd,_⟩:=YJ hc;exact⟨d,hd⟩
 have inj:∀x y c,(HY X scope C).lookup x=some c->(HY X scope C).lookup y=some c->x=y:=fun x y c h1 h2=>by
  rcases cl1 x c h1 with⟨q1,_⟩|⟨q1,m1,_⟩<;>rcases cl1 y c h2 with⟨q2,_⟩|⟨q2,m2,_⟩
  ·exact I.ok.inj x y c q1 q2
  ·exact absurd (Mr (jw (Et x c q1) hC) m2) (uy _)
  ·exact absurd (Mr (jw (Et y c q2) hC) m1) (uy _)
  ·refine CT (n0:=C+1) scope.names (C+1) _ (aN _) (fun x y c hx hy hc=> ?_) (fun x c hx=> ?_) x y c (Iw h1) (Iw h2) m1
   ·obtain⟨d,hd,_⟩:=YJ hx;rcases oO hx with q|⟨q,mm⟩
    ·cases q
    ·obtain⟨d,hd⟩:=I.ok.has x (aU.free ck mm).2;rw[hd]at q;have q:c=d:=q;subst q;exact absurd (jw (jw (Et x c hd) hC) (cR hc)) (uy _)
   ·rcases oO hx with q|⟨q,mm⟩
    ·cases q
    ·obtain⟨d,hd⟩:=I.ok.has x (aU.free ck mm).2;rw[hd]at q;have q:c=d:=q;subst q;exact pQ (jw (Et x c hd) hC)
 have bsz:X.base.objs.size<=s.heap.objs.size:=cC I.ok.bsz I.sz;refine⟨⟨I.ok.mod,hkind,I.ok.glob,I.ok.blt,hC,inj,fun x hx=>cl2 x (yP hx),fun x c h e=> ?cab,I.ok.hd,I.ok.frames,.inl rfl,fun b hb=>⟨dB (jw (hlt b hb) hC),fun x c e=> ?exf⟩,I.bs,bsz,
  fun b o e hb=> ?_,fun b hb hz=> ?_,I.stack,I.stkFree⟩,?_,hg,Un.kept hk,⟨m,hn,fun i x v h1 h2 h3=> ?_⟩,fun x c e=> ?_,I.hok.fresh hC,fun x c e=> ?frc,fun p hp=>absurd (show p∈([]:L1)from hp) (by simp),I.hok.kept hk,?_⟩
 case cab=>
  rcases cl1 x c e with⟨_,q⟩|⟨_,q,_⟩
  ·have y1:=(aU.free ck q).1;have y2:(scope.names.lookup x==some NameKind.cell)=true:=h;rw[y1]at y2;exact absurd y2 (by decide)
  ·exact cC hC (cR q)
 case exf=>
  rcases cl1 x c e with⟨q,_⟩|⟨_,q,_⟩
  ·exact(f2 b hb).2.2.2.2.1 x c q
  ·exact lO (dB (Mr (jw (hlt b hb) hC) q))
 case frc=>
  rcases cl1 x c e with⟨q,_⟩|⟨_,q,_⟩
  ·exact I.freeC x c q
  ·exact I.hok.fresh (cC hC (cR q))
 ·rcases(f2 b hb).2.2.2.1 with z|z
  ·exact I.ok.noex b o e z
  ·exact absurd (jw (cU e) (cC I.ok.bsz z)) (uy _)
 ·rcases cJ.mp (I.stkSub b hz)with z|z
  ·exact(f2 b hb).2.1 z
  ·exact(f2 b hb).2.2.1 z
 ·exact hos
 ·have h1:(own++caps)[i]? =some x:=h1;have h2:(own.map (fun _=>(none:Option V))++ix.map fun j=>(σ[j]?).join)[i]? =some (some v):=h2;by_cases hi:i<own.length
  ·rw[yej (by simpa using hi),dW]at h2;cases e:own[i]? <;>rw[e]at h2<;>simp at h2
  ·rw[Y7 (by simpa using hi)]at h2;rw[Y7 (by omega)]at h1;rw[aJ]at h2;obtain⟨j,e1,e2,e3⟩:=hcap.get h1;rw[dW,e1]at h2;have h2':(σ[j]?).join=some v:=by simpa using h2
   have h4:σ[j]? =some (some v):=by
    cases q:σ[j]? with
    |none=>rw[q]at h2';cases h2'
    |some w=>rw[q]at h2';exact lE some h2'
   obtain⟨m0,hn0,hl0⟩:=I.loc;have mm:=Iw e3;have vis:=(aU.free ck mm).2;obtain⟨u,r,l⟩:=hl0 j x v e2 h4 (.inr vis);refine⟨u,r,.inr ?_⟩;rcases l with⟨k,_⟩|⟨k,c,e,z⟩
   ·rcases vis with q|q
    ·rw[show X.env.kindOf x=some .cell from q]at k;cases k
    ·rw[show X.env.kindOf x=some .free from q]at k;cases k
   ·obtain⟨d,hd⟩:=cl2 x (.inl mm);rcases cl1 x d hd with⟨this,_⟩|⟨qc,_⟩
    ·rw[e]at this;cases this;exact⟨Bv e3,c,hd,z.keeps hk⟩
    ·have y1:=aU.cell ck qc;rw[e3]at y1;cases y1
 ·rcases cl1 x c e with⟨q,_⟩|⟨_,_,q⟩
  ·obtain⟨v,z⟩:=I.cell x c q;exact⟨v,z.keeps hk⟩
  ·exact⟨none,hcl x c e q⟩
 ·show(own.map (fun _=>(none:Option V))++ix.map fun j=>(σ[j]?).join).length=(own++caps).length;simp[hcap.len]
theorem tR(ck:aU X.env.scope scope=true)(hkind:scope.kind= .function)(hcap:jg X scope caps ix)(hc:X.calm=true)(hg:∀s H cl C ex,PG (bF X scope (own++caps) s H cl C ex) tg g)(ht:∀s H cl C ex,Ro (bF X scope (own++caps) s H cl C ex) ifs tc)(he:∀s H cl C ex,PE (bF X scope (own++caps) s H cl C ex) elt te){pins:L1}{s2:Shared}{σ:St}{H2:Hp}{E:L3}(I2:Inv X pins σ H2 s2){it:Addr}{fp:List Addr}{tn:Nat->Heap->Prop}{J:It}(T:Turn X.prog X.w X.K tg J fp it tn)(st2:tn 0 s2.heap)(f2:∀b∈fp,FpOk X pins H2 b)
  {W:Nat->Nat->List V->St->Hp->Prop}{m0:Nat}(w0:W 0 m0 [] (zx own ix σ) H2){Fin:List V->Hp->Prop}(turn:∀i m acc σ H,W i m acc σ H->(J.stop i H/\acc.length<=sizeLine/\Fin acc H)\/(J.go i H/\acc.length<sizeLine/\∃N:List V->St->Hp->Prop,(∀acc' σ' H',N acc' σ' H'->∃m',m'<m/\W (i+1) m' acc' σ' H')/\∀x H',J.yld i H x H'->g x σ H' fun σ2 H2=>tc σ2 H2 fun b H3=>
   if b=true then te σ2 H3 fun v H4=>N (acc++[v]) σ2 H4 else N acc σ2 H3))
  {RR:Value->Addr->Result->Shared->Prop}(hRR:∀D C s' acc Hf m,Inv X pins σ (upd Hf D (.lst acc)) s'->Hf D=none->s'.heap.Ns C m->FpOk X pins (upd Hf D (.lst acc)) C->Fin acc Hf->RR (.ref D) C (.ok .next) s'):
  wpAny (model X.prog X.w) X.A (newList []) (fun acc s₃=>wpAny (model X.prog X.w) X.A (newFunctionEnv scope X.env.globals (lH X.env.cells scope.names []) [] X.env.qual none .none (some X.env)) (fun cenv s₄=>
   codeAny (model X.prog X.w) X.A (.compStart (.ListComp elt [⟨tg,iter,ifs,0⟩] scope pos) 0 (.ref it) acc {cenv with scope:=relabel scope X.env}) (RR acc cenv.locals) s₄) E s₃) E s2:=by
 refine vO (Ot ?_);generalize hP:s2.heap.push {cls:= .type "list",dict:=none,data:= .seq ([]:List Value).toArray}=P1;have hC:P1.objs.size=s2.heap.objs.size+1:=by rw[<-hP,rQ]
 have hlt:∀b∈fp,b<s2.heap.objs.size:=fun b hb=>by
  obtain⟨o,e,_⟩:=T.obj _ _ st2 b hb;exact cU e
 generalize hh1:pushCells (P1.push {cls:= .type "dict",data:= .dict #[]}) scope.names=h₁;have hns₁:h₁.Ns P1.objs.size (fun _=>none):=by rw[<-hh1];exact(Heap.Ns.new P1 (.type "dict")).keeps (Zr _ _)
 have old:∀b o,s2.heap.get? b=some o->h₁.get? b=some o:=fun b o e=>by
  rw[<-hh1];exact Zr _ _ b o (cL _ (hP▸cL _ e))
 have hD1:h₁.get? s2.heap.objs.size=some {cls:= .type "list",data:= .seq ([]:List Value).toArray 0}:=by
  rw[<-hh1];exact Zr _ _ _ _ (cL _ (hP▸gY _ rfl))
 have XC:∀x c,(HY X scope P1.objs.size).lookup x=some c->(x,c)∉lH X.env.cells scope.names []->h₁.IsCell c none:=fun x c e n=>by
  have e':(x,c)∈cellsFrom (P1.objs.size+1) scope.names (lH X.env.cells scope.names []):=Iw e;rw[show P1.objs.size+1=(P1.push {cls:= .type "dict",data:= .dict #[]}).objs.size from(rQ ..).symm]at e';rcases w5 _ _ _ e' with q|q
  ·exact absurd q n
  ·rw[<-hh1];exact q
 show codeAny (model X.prog X.w) X.A (.compStart (.ListComp elt [⟨tg,iter,ifs,0⟩] scope pos) 0 (.ref it) (.ref s2.heap.objs.size) {newEnv scope P1.objs.size X.env.globals (HY X scope P1.objs.size) X.env.qual none Value.none (some X.env) 0 with scope:=relabel scope X.env}) (RR (.ref s2.heap.objs.size) P1.objs.size) {s2 with heap:=h₁};generalize uM:s2.heap.objs.size=D at *;rw[hC]at hns₁ XC⊢;have entry:Inv (bF X scope (own++caps) s2 H2 (HY X scope (D+1)) (D+1) fp) [] (zx own ix σ) H2 {s2 with heap:=h₁}:=
  zT ck hkind hcap I2 f2 (by rw[uM];exact hlt) (by rw[uM];exact HF _) rfl I2.bare old hns₁ XC
 generalize hX':bF X scope (own++caps) s2 H2 (HY X scope (D+1)) (D+1) fp=X' at entry;have eP:X'.prog=X.prog:=by rw[<-hX'];rfl
 have ew:X'.w=X.w:=by rw[<-hX'];rfl
 have eK:X'.K=X.K:=by rw[<-hX'];rfl
 have eA:X'.A=X.A:=by rw[<-hX'];rfl
 have Rk:X'.calm=true:=by rw[<-hX'];exact hc
 have efs:X'.fs=frs X.stack:=by rw[<-hX'];rfl
 have eex:X'.ex=fp:=by rw[<-hX'];rfl
 have epn:X'.pn=[]:=by rw[<-hX'];rfl
 have es0:X'.s₀=s2:=by rw[<-hX'];rfl
 have eH0:X'.H₀=H2:=by rw[<-hX'];rfl
 have exe:X'.xe=fun _ _=>False:=by rw[<-hX'];rfl
 have P0:X'.env=compEnvC scope (HY X scope (D+1)) (D+1) X.env:=by rw[<-hX'];rfl
 have Lk:X'.env.locals=D+1:=by rw[P0];rfl
 have hg':PG X' tg g:=by rw[<-hX'];exact hg _ _ _ _ _
 have ht':Ro X' ifs tc:=by rw[<-hX'];exact ht _ _ _ _ _
 have he':PE X' elt te:=by rw[<-hX'];exact he _ _ _ _ _
 have ecl:∀x c,X'.env.cells.lookup x=some c->c≠D:=fun x c e=>by
  rw[P0]at e;rcases wZ (C:=D+1) ck I2 e with⟨q,_⟩|⟨_,q,_⟩
  ·obtain⟨v',o',ho',_⟩:=I2.cell x c q;exact dB (by rw[<-uM];exact cU ho')
  ·exact lO (dB (Mr (ur D) q))
 have dfs:D∉frs X.stack:=fun hb=>by
  rcases cJ.mp (I2.stkSub D hb)with z|z
  ·exact absurd (Nat.lt_of_lt_of_eq I2.lt uM) (by rw[z];exact uy _)
  ·exact I2.nofs (Dy uM) z
 have fpn:∀{H':Hp} {o:Obj},(∀b∈fp,H' b=none)->∀b∈fp,FpOk X' [(D,o)] H' b:=fun{H' o} hn b hb=>by
  have hbl:=hlt b hb;refine⟨hn b hb,by rw[Lk];exact dB (pQ hbl),?_,.inl (by rw[eex];exact hb),fun x c e=> ?_,fun p hp=> ?_⟩
  ·rw[efs];intro z;rcases cJ.mp (I2.stkSub b z)with z|z
   ·exact(f2 b hb).2.1 z
   ·exact(f2 b hb).2.2.1 z
  ·rw[P0]at e;rcases wZ (C:=D+1) ck I2 e with⟨q,_⟩|⟨_,q,_⟩
   ·exact(f2 b hb).2.2.2.2.1 x c q
   ·exact lO (dB (Mr (pQ hbl) q))
  ·rw[epn]at hp;have:p=(D,o):=by simpa using hp
   rw[this];exact Ik hbl
 have aai:∀{σ':St} {H':Hp} {s':Shared} {o:Obj},Inv X' [] σ' H' s'->s'.heap.get? D=some o->H' D=none->(∀v,o.data≠.cell v)->Inv X' [(D,o)] σ' H' s':=fun{σ' H' s' o} I e n d=>
  I.pins_of fun p hp=>by
   have:p=(D,o):=by simpa using hp
   subst this;exact⟨e,n,by rw[Lk];exact dB (ur D),by rw[efs];exact dfs,d⟩
 have loop:∀s₃:Shared,s₃={s2 with heap:=h₁}->
   codeAny (model X.prog X.w) X.A (.compLoop (.ListComp elt [⟨tg,iter,ifs,0⟩] scope pos) 0 (.ref it) (.ref D) X'.env) (RR (.ref D) (D+1)) s₃:=by
  intro s₃ hs₃;refine codeAny_loop rfl (fun n s'=>∃i acc its k σ' H',Inv X' [] σ' H' s'/\tn i s'.heap/\(∀b∈fp,H' b=none)/\s'.heap.get? D=some {cls:= .type "list",data:= .seq (List.toArray its) k}/\Vals acc its/\H' D=none/\W i n acc σ' H') ?_ m0
   ⟨0,[],[],0,zx own ix σ,H2,by rw[hs₃];exact entry,by rw[hs₃];exact T.keep _ _ _ st2 fun b _ o e=>old b o e,fun b hb=>(f2 b hb).1,by rw[hs₃];exact hD1,.nil,I2.hok.fresh (Dy uM),w0⟩
  rintro n s3 ⟨i,acc,its,k,σ3,H3,I3,st3,fr3,eD,rv,nD,w3⟩;show wpAny _ X.A ((compTurn (.ListComp elt [⟨tg,iter,ifs,0⟩] scope pos) 0 (.ref it) (.ref D) X'.env).onRaise (fun x=>do noteFrame x X'.env;theTreesLotGoes x)) _ _ s3;refine wpAny_noted ?_;rw[compTurn_list];have noE:∀{α:Type} {t:Sem α} {Q:α->Shared->Prop} {E':L3} {s:Shared},wpAny (model X'.prog X'.w) X'.A t Q X'.xe s->wpAny (model X.prog X.w) X.A t Q E' s:=fun{α t Q E' s} h=>by
   rw[eP,ew,eA,exe]at h;exact Vh h (fun _ _ q=>q) fun _ _ z=>z.elim
  have I3':=aai (o:={cls:= .type "list",data:= .seq (List.toArray its) k}) I3 eD nD (fun v z=>by
   have z':Data.seq (List.toArray its) k=Data.cell v:=z;cases z')
  refine ao (Zm (ao ?_));rcases turn i n acc σ3 H3 w3 with⟨stop,hz,fin⟩|⟨go,hz,Nn,hN,step⟩
  ·have q:=T.done X' eP ew eK Rk i [(D,_)] s3 σ3 H3 (notedBy (model X.prog X.w) X.A X'.env fun e s'=>RR (.ref D) (D+1) (.error e) s') I3' (fpn fr3) st3 stop;rw[eA]at q;refine thn q fun r s4 ⟨hr,I4⟩=> ?_;subst hr;refine aM ?_;obtain⟨e4,_⟩:=I4.pin (D,_) (FZ _ nG);obtain⟨mC,hnC,_⟩:=I4.loc;have u4:=I4.base;rw[efs,eex,eH0,es0]at u4;have ok4:=I4.hok;rw[eP,ew]at ok4;have nC:H3 (D+1)=none:=by have:=I4.free;rw[Lk]at this;exact this
   have hok:HOk X.prog X.w (upd H3 D (.lst acc)) s4.heap:=ok4.add nD ⟨hz,its,k,rv,e4⟩;refine hRR D (D+1) s4 acc H3 mC ?_ nD (by rw[Lk]at hnC;exact hnC) ?_ fin
   ·refine I2.call' (s':=s4) (ch:=fp) ?_ (u4.add (by rw[uM];exact aN _) nD) hok I4.bare fun b hb=> ?_
    ·have:=I4.os;rw[es0]at this;exact this
    ·obtain⟨f0,f1,f3,f4,f5,f6⟩:=f2 b hb;exact⟨f4,f1,f5,f6⟩
   ·refine I2.fpOk (by rw[uM];exact HF _) ?_;rw[cD (Ik (ur D))];exact nC
  ·have q:=T.item X' eP ew eK Rk i [(D,_)] s3 σ3 H3 (notedBy (model X.prog X.w) X.A X'.env fun e s'=>RR (.ref D) (D+1) (.error e) s') I3' (fpn fr3) st3 go;rw[eA]at q;refine thn q fun r s4 ⟨u,hr,h4⟩=> ?_;subst hr;dsimp only;refine ao (thn h4 fun _ s5 ⟨x,H5,I5,r5,y5,st5,fr5⟩=> ?_);have I5':=I5.pinned (fpn fr5) (T.obj _ _ st5);have again:∀{σ7:St} {H7:Hp} {s7:Shared},Inv X' ([(D,{cls:= .type "list",data:= .seq (List.toArray its) k})]++pinsAt fp s5.heap) σ7 H7 s7->tn (i+1) s7.heap/\(∀b∈fp,H7 b=none)/\s7.heap.get? D=some {cls:= .type "list",data:= .seq (List.toArray its) k}/\H7 D=none:=fun{σ7 H7 s7} I7=>by
    refine⟨T.keep _ _ _ st5 fun b hb o e=>(I7.pin (b,o) (FZ _ (FZ _ (mem_pinsAt hb e)))).1,fun b hb=> ?_,?_⟩
    ·obtain⟨o,e,d⟩:=T.obj _ _ st5 b hb;exact(I7.pin (b,o) (FZ _ (FZ _ (mem_pinsAt hb e)))).2.1
    ·have:=I7.pin (D,_) (FZ _ (YX _ nG));exact⟨this.1,this.2.1⟩
   refine ao (thn (noE (hg' _ s5 σ3 H5 x u _ I5' r5 (step x H5 y5))) fun _ s6 ⟨σ6,H6,I6,q6⟩=> ?_);refine ao (thn (noE (ht' _ s6 σ6 H6 _ I6 q6)) fun ok s7 ⟨H7,I7,q7⟩=> ?_);cases ok with
   |false=>
    rw[aA uY]at q7;obtain⟨m',hm,w7⟩:=hN _ _ _ q7;obtain⟨a1,a2,a3,a4⟩:=again I7;exact aM ⟨rfl,m',hm,i+1,acc,its,k,σ6,H7,I7.pins_of (fun p hp=>nomatch hp),a1,a2,a3,rv,a4,w7⟩
   |true=>
    rw[aB rfl]at q7;refine ao (ao (thn (noE (he' _ s7 σ6 H7 _ I7 q7)) fun v s8 ⟨y,H8,I8,r8,q8⟩=> ?_));obtain⟨m',hm,w8⟩:=hN _ _ _ q8;obtain⟨a1,a2,a3,a4⟩:=again I8;have hl:=rv.length;refine ao (call_meets F.slot_list_append ⟨_,a3,rfl⟩ F.entry_list_append (F.args_list_append_2 _ _) (PySem.list_append D its.toArray k v (by rw[gW];omega)) ⟨a3,?_⟩);refine aM (aM ⟨rfl,m',hm,i+1,acc++[y],its++[v],?_⟩);have qD:=PySem.IsL.update a3 (fun a:Array Value=>a.push v);rw[List.push_toArray]at qD;have kp:∀b o,b≠D->s8.heap.get? b=some o->(s8.heap.update D (Obj.mapSeq fun a=>a.push v)).get? b=some o:=fun b o hb e=>(Wh s8.heap _ (lO hb)).trans e;have I8':Inv X' [] σ6 H8 {s8 with heap:=s8.heap.update D (Obj.mapSeq fun a=>a.push v)}:=by
     refine(I8.pins_of (pins':=[]) (fun p hp=>nomatch hp)).turned (t':=s8.toks) (it:=D) kp a4 (by rw[Lk];exact dB (ur D)) (.inr (by rw[es0,uM];exact aN _)) (fun x c e=>ecl x c e) (fun p hp=> ?_);rw[epn]at hp;exact nomatch hp
    exact⟨_,σ6,H8,I8',T.keep _ _ _ a1 fun b hb o e=>kp b o (dB (hlt b hb)) e,a2,qD,rv.append (.cons r8 .nil),a4,w8⟩
 have Yo:({newEnv scope (D+1) X.env.globals (HY X scope (D+1)) X.env.qual none Value.none (some X.env) 0 with scope:=relabel scope X.env}:Env)=X'.env:=by rw[P0];rfl
 have L:=loop _ rfl;rw[<-Yo]at L;exact codeAny_compStart_list L (T.self X.A 0 _ _ _ (T.keep _ _ _ st2 fun b _ o e=>old b o e) L)
end
section
variable{X:Cx}{tg iter elt:Expr}{ifs:List Expr}{scope:Scope}{pos:Pos}{own caps:List Str}{ix:List Nat}{wi:TI}{g:TG}{tc:TT}{te:TE}
theorem J4(hc:X.calm=true)(hi:PI X tg iter wi)(ck:aU X.env.scope scope=true)(hkind:scope.kind= .function)(hcap:jg X scope caps ix)(hg:∀s H cl C ex,PG (bF X scope (own++caps) s H cl C ex) tg g)(ht:∀s H cl C ex,Ro (bF X scope (own++caps) s H cl C ex) ifs tc)(he:∀s H cl C ex,PE (bF X scope (own++caps) s H cl C ex) elt te)(hs:∀x,foldedSetIterable iter X.env x=pure x:=by intro _;rfl):PE X (.ListComp elt [⟨tg,iter,ifs,0⟩] scope pos) (DQ wi own ix g tc te):=by
 intro pins s σ H Q I h;rw[eval_ListComp];refine wpAny_comprehension_free (use:=none) rfl hs (tU fun x hx=>I.ok.has x ((aU.free ck hx).2)) hkind (aU.names ck) (thn (hi pins s σ H _ I h) fun xv s1 h1=>thn h1 fun itv s2 h2=> ?_);obtain⟨it,fp,tn,J,H2,e,I2,T,st2,f2,W,⟨m0,w0⟩,turn⟩:=h2;subst e;refine tR (RR:=fun acc C=>compPost (model X.prog X.w) X.A X.xe none (EP X pins σ Q) acc C) ck hkind hcap hc hg ht he I2 T st2 f2 w0 turn ?_;intro D C s' acc Hf m I' nD hn fC fin;refine⟨m,hn,fun h' sb=> ?_⟩;obtain⟨f0,f1,f3,f4,f5,f6⟩:=fC;exact⟨.ref D,_,I'.turned (t':=s'.toks) (it:=C) (fun b o hb e=>(sb.2 b hb).trans e) f0 f1 f4 f5 f6,rfl,fin D nD⟩
theorem pK{X:Cx}{tg iter elt:Expr}{ifs:List Expr}{scope:Scope}{pos:Pos}{wi:TI}{g:TG}{tc:TT}{te:TE}(own caps:List Str)(ix:List Nat)(hi:PI X tg iter wi)(hg:∀{s H cl C ex},PG (bF X scope (own++caps) s H cl C ex) tg g)(ht:∀{s H cl C ex},Ro (bF X scope (own++caps) s H cl C ex) ifs tc)(he:∀{s H cl C ex},PE (bF X scope (own++caps) s H cl C ex) elt te)(hcap:jg X scope caps ix:=by repeat(first |exact jg.nil|refine jg.cons rfl rfl ?_))(hc:X.calm=true:=by rfl)(ck:aU X.env.scope scope=true:=by rfl)(hkind:scope.kind= .function:=by rfl)(hs:∀x,foldedSetIterable iter X.env x=pure x:=by intro _;rfl):PE X (.ListComp elt [⟨tg,iter,ifs,0⟩] scope pos) (DQ wi own ix g tc te):=J4 hc hi ck hkind hcap (fun _ _ _ _ _=>hg) (fun _ _ _ _ _=>ht) (fun _ _ _ _ _=>he) hs
theorem yQ{i:Nat}{y:Str}{py spos:Pos}(hN:X.N.Nodup)(hiN:X.N[i]? =some y)(hx:Loc X.env.scope y)(hc:X.calm=true)(hi:PI X tg iter wi)(ck:aU X.env.scope scope=true)(hkind:scope.kind= .function)(hcap:jg X scope caps ix)(hg:∀s H cl C ex,PG (bF X scope (own++caps) s H cl C ex) tg g)(ht:∀s H cl C ex,Ro (bF X scope (own++caps) s H cl C ex) ifs tc)(he:∀s H cl C ex,PE (bF X scope (own++caps) s H cl C ex) elt te)(hsw:swapsWith (.ListComp elt [⟨tg,iter,ifs,0⟩] scope pos) (some (.Name y py)) spos.line X.env=pure true:=by rfl)(hf:X.fn y=true\/X.env.scope.names.lookup y=some .local:=by first |exact .inl rfl|exact .inr rfl|assumption)(hs:∀x,foldedSetIterable iter X.env x=pure x:=by intro _;rfl):PS X (.Assign [.Name y py] (.ListComp elt [⟨tg,iter,ifs,0⟩] scope pos) spos) (tAsg (DQ wi own ix g tc te) (gName i)):=by
 intro pins s σ H Dn I h;rw[exec_Assign_Name_used _ _ _ _ hsw];refine ao (Zm (ao ?_));show wpAny _ X.A (do let _<-comprehension (.ListComp elt [⟨tg,iter,ifs,0⟩] scope pos) scope X.env _ (newList []) false (eval iter X.env) (some (assign (.Name y py) X.env))) _ _ s;refine ao (Vh (wpAny_comprehension_free (use:=some (assign (.Name y py) X.env)) (Q:=fun _ s'=>SP X pins Dn .next s') rfl hs (tU fun x hx=>I.ok.has x ((aU.free ck hx).2)) hkind (aU.names ck)
  (thn (hi pins s σ H _ I h) fun xv s1 h1=>thn h1 fun itv s2 h2=> ?_)) (fun _ s' hq=>aM (aM hq)) fun _ _ e=>e)
 obtain⟨it,fp,tn,J,H2,e,I2,T,st2,f2,W,⟨m0,w0⟩,turn⟩:=h2;subst e;refine tR (RR:=fun acc C=>compPost (model X.prog X.w) X.A X.xe (some (assign (.Name y py) X.env)) (fun _ s'=>SP X pins Dn .next s') acc C) ck hkind hcap hc hg ht he I2 T st2 f2 w0 turn ?_;intro D C s' acc Hf m I' nD hn fC fin;obtain⟨f0,f1,f3,f4,f5,f6⟩:=fC;show wpAny _ X.A (assign (.Name y py) X.env (.ref D)) _ _ _;refine wpAny_assign_Name (store_ok2 I' hN hiN hx (show RelV (.ref D) (.ref D)from rfl) (fun s'' I'' ⟨a,sb,ha⟩=> ?_) hf);have hCa:C≠a:=by
  rcases ha with ha|ha
  ·rw[ha];exact f1
  ·exact fun z=>f5 y a ha z.symm
 refine⟨m,hn.sameBut sb hCa,fun h' sb'=> ?_⟩;exact⟨_,_,I''.turned (t':=s''.toks) (it:=C) (fun b o hb e=>(sb'.2 b hb).trans e) f0 f1 f4 f5 f6,fin D nD⟩
theorem pX{X:Cx}{tg iter elt:Expr}{ifs:List Expr}{scope:Scope}{pos:Pos}{wi:TI}{g:TG}{tc:TT}{te:TE}{y:Str}{py spos:Pos}(i:Nat)(own caps:List Str)(ix:List Nat)(hi:PI X tg iter wi)(hg:∀{s H cl C ex},PG (bF X scope (own++caps) s H cl C ex) tg g)(ht:∀{s H cl C ex},Ro (bF X scope (own++caps) s H cl C ex) ifs tc)(he:∀{s H cl C ex},PE (bF X scope (own++caps) s H cl C ex) elt te)(hcap:jg X scope caps ix:=by repeat(first |exact jg.nil|refine jg.cons rfl rfl ?_))(hc:X.calm=true:=by rfl)(ck:aU X.env.scope scope=true:=by rfl)(hkind:scope.kind= .function:=by rfl)(hN:decide X.N.Nodup=true:=by kernel_rfl)(hi_:X.N[i]? =some y:=by rfl)(hx:Loc X.env.scope y:=by first |exact Or.inl rfl|exact Or.inr rfl)(hsw:swapsWith (.ListComp elt [⟨tg,iter,ifs,0⟩] scope pos) (some (.Name y py)) spos.line X.env=pure true:=by rfl)(hf:X.fn y=true\/X.env.scope.names.lookup y=some .local:=by first |exact .inl rfl|exact .inr rfl|assumption)(hs:∀x,foldedSetIterable iter X.env x=pure x:=by intro _;rfl):PS X (.Assign [.Name y py] (.ListComp elt [⟨tg,iter,ifs,0⟩] scope pos) spos) (tAsg (DQ wi own ix g tc te) (gName i)):=yQ (nM hN) hi_ hx hc hi ck hkind hcap (fun _ _ _ _ _=>hg) (fun _ _ _ _ _=>ht) (fun _ _ _ _ _=>he) hsw hf hs
end
end L2
namespace qN
open PySem PySem.W PyProof.Rows PySem.Calls
section
variable{prog:Program}{w:World}{A:Around}{E:L3}{s:Shared}{O:KeyOrd}{key:Nat->O.α}{κ:SortKind}{vs:List Value}
theorem zU{t:Addr}{Q:List Value->Shared->Prop}(ht:s.heap.IsTuple t vs.toArray)(h:Q vs {s with heap:=(s.heap.push (seqObj "list" #[] 0)).update s.heap.objs.size (Obj.mapSeq (· ++vs.toArray))})(hz:vs.length<=sizeLine):
  wpAny (model prog w) A (collect (.ref t)) Q E s:=by
 obtain⟨o,ho,hc,n,hd⟩:=id ht;unfold collect;refine ao (Zo (Nk entry_proto_collect' ?_));show wpAny _ _ (do again (.builtin "list.__iadd__" ⟨[<-newList [],.ref t],[]⟩)) _ _ s;refine ao (Vl (aM ⟨ZG _ (by decide+kernel),Nk entry_list_iadd' ?_⟩));show wpAny _ _ (Builtin.List.listExtendWith (.ref s.heap.objs.size) (.ref t) (.ref s.heap.objs.size)) _ _ {s with heap:=s.heap.push (seqObj "list" #[] 0)};unfold Builtin.List.listExtendWith;have h1:(s.heap.push (seqObj "list" #[] 0)).get? t=some o:=cL _ ho;have h2:(Value.type "tuple"==Value.type "tuple")=true:=by rfl
 refine ao (RK (T:="tuple") ⟨o,h1,hc⟩ ?_);rw[aB (by rw[h2];simp)];refine ao (listItems_at h1 hd (ao (listItems_at (xs:=#[]) (n:=0) (gY _ rfl) rfl ?_)));rw[aA (by simp)];refine ao (Zk (xs:=#[]) (n:=0) (gY _ rfl) rfl (aM ?_) (cG _) (by show(#[]++vs.toArray).size<=sizeLine+1;simp only[Array.size_append,gW,Ms];omega));show wpAny (model prog w) A (load s.heap.objs.size>>=_) Q E {s with heap:=(s.heap.push (seqObj "list" #[] 0)).update s.heap.objs.size (Obj.mapSeq (· ++vs.toArray))};refine ao (wpAny_load (Zt (gY _ rfl) _) ?_);show wpAny _ _ (pure ((#[]:Array Value)++vs.toArray).toList) Q E _;have e:((#[]:Array Value)++vs.toArray).toList=vs:=by simp
 rw[e];exact aM h
theorem Bk{l:Addr}{Q:L3}(hl:s.heap.IsTuple l vs.toArray)(h64:vs.length<64)(hkind:2<=vs.length->∀h',(∀b o,s.heap.get? b=some o->h'.get? b=some o)->∀(E:L3) (Q:SortKind->Shared->Prop),Q κ {s with heap:=h'}->wpAny (model prog w) A.in1.in1 (keyKind' vs.toArray) Q E {s with heap:=h'})(KZ:2<=vs.length->∀h',(∀b o,s.heap.get? b=some o->h'.get? b=some o)->jo O key vs.length (kas_ask prog w A.in1.in1 κ vs) {s with heap:=h'})(h:∀D h' out c,Hx key vs out->s.heap.objs.size<=D->(∀b o,s.heap.get? b=some o->h'.get? b=some o)->h'.get? D=some (seqObj "list" (List.toArray out) c)->Q (.ref D) {s with heap:=h'}):
  wpAny (model prog w) A (call (.builtin "sorted") [.ref l]) Q E s:=by
 refine wcc kind_sorted plain_sorted entry_sorted (args_sorted1 _) ?_;unfold Builtin.«sorted»;refine ao (m:=checkCount "sorted" 1 1 _) (aM (ao (zU hl (ao (Vl ?_ (by rw[eX];omega))) (by rw[eX];omega))));have hsz:((s.heap.push (seqObj "list" #[] 0)).update s.heap.objs.size (Obj.mapSeq (· ++vs.toArray))).objs.size=s.heap.objs.size+1:=by
  rw[Heap.size_update,size_push']
 have hoL:(((s.heap.push (seqObj "list" #[] 0)).update s.heap.objs.size (Obj.mapSeq (· ++vs.toArray))).push (seqObj "list" vs.toArray 0)).get? (s.heap.objs.size+1)=some (seqObj "list" vs.toArray 0):=by
  rw[<-hsz];exact gY _ rfl
 have keep:∀b o,s.heap.get? b=some o->(((s.heap.push (seqObj "list" #[] 0)).update s.heap.objs.size (Obj.mapSeq (· ++vs.toArray))).push (seqObj "list" vs.toArray 0)).get? b=some o:=fun b o q=>by
  have hlt:b<s.heap.objs.size:=cU q;rw[ZD _ _ _ (by rw[hsz];exact dB (pQ hlt)),Heap.get?_update_ne _ _ _ _ (dB hlt),ZD _ _ _ (dB hlt)];exact q
 have ne:∀b o,s.heap.get? b=some o->b≠s.heap.objs.size+1:=fun b o q=>dB (pQ (cU q));show wpAny _ _ _ _ _ {s with heap:=((s.heap.push (seqObj "list" #[] 0)).update s.heap.objs.size (Obj.mapSeq (· ++vs.toArray))).push (seqObj "list" vs.toArray 0)};rw[hsz];refine ao (Dz (Am slot_list_sort ⟨_,hoL,rfl⟩ entry_list_sort ?body (args_list_sort _)))
 case body=>
  refine iz (key:=key) (κ:=κ) (s:={s with heap:=((s.heap.push (seqObj "list" #[] 0)).update s.heap.objs.size (Obj.mapSeq (· ++vs.toArray))).push (seqObj "list" vs.toArray 0)}) hoL h64
   (fun h2 h' k Q hq=>hkind h2 h' (fun b o q=>k b o (ne b o q) (keep b o q)) _ Q hq) (fun h2 h' k=>KZ h2 h' fun b o q=>k b o (ne b o q) (keep b o q)) fun h' out c ho k hc=> ?_
  exact⟨_,rfl,aM ⟨_,rfl,h _ h' out c ho (HF _) (fun b o q=>k b o (ne b o q) (keep b o q)) hc⟩⟩
end
end qN
namespace L2
open PySem PySem.Spec PyProof.Rows
section
variable{X:Cx}
theorem jy:∀{xs:List Int} {us:List Value},Vals (xs.map V.int) us->Paired (fun(i:Int) (v:Value)=>∃t,v= .int i t) xs us
 |[],_,h=>by cases h;exact .nil
 |_::_,_,h=>by
  cases h with
  |cons r t=>exact .cons r (jy t)
theorem jO:∀{xs:List Int} {us:List Value},Paired (fun(i:Int) (v:Value)=>∃t,v= .int i t) xs us->Vals (xs.map V.int) us
 |_,_,.nil=> .nil
 |_,_,.cons r t=> .cons r (jO t)
theorem rH{xs:List Int}{us:List Value}(h:Paired (fun(i:Int) (v:Value)=>∃t,v= .int i t) xs us):∀i (hi:i<xs.length),∃t,us.getD i Value.none= .int xs[i] t:=by
 induction h with
 |nil=>intro i hi;simp at hi
 |cons r t ih=>
  intro i hi;cases i with
  |zero=>exact r
  |succ i=>simpa using ih i (by simpa using hi)
theorem xg:CallR X (.builtin "sorted") (fun vs H Q=>∃(b:Bool) (a:Addr) (xs:List Int),vs=[.ref a]/\Hw X.K b H a (xs.map V.int)/\xs.length<64/\
  ∀(l:Addr) (ys:List Int),H l=none->ys.Perm xs->ys.Pairwise (· <= ·)->Q (.ref l) (upd H l (.lst (ys.map V.int)))):=by
 intro pins s σ H xs us Q I r h;obtain⟨b,a,ns,rfl,hS,h64,q⟩:=h;obtain⟨u,rfl,ru⟩:=r.one;cases ru;have main:∀vs:List Value,Vals (ns.map V.int) vs->(b=false/\s.heap.IsList a vs.toArray\/b=true/\s.heap.IsTuple a vs.toArray)->wpAny (model X.prog X.w) X.A (call (.builtin "sorted") [.ref a]) (EP X pins σ Q) X.xe s:=by
  intro vs rv hb;have hlen:ns.length=vs.length:=by have:=rv.length;simpa using this
  have pr:=jy rv;have hi:IntsAre vs ns:=intsAre_of rv;have p1:2<=vs.length->∀h',(∀b o,s.heap.get? b=some o->h'.get? b=some o)->∀(E:L3) (Q:SortKind->Shared->Prop),Q oneType' {s with heap:=h'}->wpAny (model X.prog X.w) X.A.in1.in1 (keyKind' vs.toArray) Q E {s with heap:=h'}:=fun h2 h' k E' Q' hq=>by
   rw[ksk_kind (kz:=ns) (by simpa using hi) (by simpa using h2)];exact aM hq
  have p2:2<=vs.length->∀h',(∀b o,s.heap.get? b=some o->h'.get? b=some o)->qN.jo qN.tH (fun i=>ns.getD i 0) vs.length (PySem.W.kas_ask X.prog X.w X.A.in1.in1 oneType' vs) {s with heap:=h'}:=fun h2 h' k=>by
   intro i j C hi hj hC;rw[<-hlen]at hi hj;unfold PySem.W.kas_ask;obtain⟨t1,e1⟩:=rH pr i hi;obtain⟨t2,e2⟩:=rH pr j hj;rw[e1,e2];refine PySem.W.kat_lt_int ?_;have hC':C (decide (ns.getD i 0<ns.getD j 0)) {s with heap:=h'}:=hC;have e3:ns.getD i 0=ns[i]:=by simp[hi]
   have e4:ns.getD j 0=ns[j]:=by simp[hj]
   rw[e3,e4]at hC';exact hC'
  have p3:∀D h' out c,qN.Hx (O:=qN.tH) (fun i=>ns.getD i 0) vs out->s.heap.objs.size<=D->(∀b o,s.heap.get? b=some o->h'.get? b=some o)->h'.get? D=some (seqObj "list" (List.toArray out) c)->EP X pins σ Q (.ref D) {s with heap:=h'}:=fun D h' out c ho hD k hc=>by
   obtain⟨ys,hp,hr,hw⟩:=qN.v9 (d:=(0:Int)) (f:=fun p=>p) pr (fun i hi=>by show ns.getD i 0=_;simp[hi]) ho;have zl:(ys.map V.int).length<=sizeLine:=by
    have:=hp.length_eq;rw[aJ];exact cR (small1000 (by omega))
   have J:Inv X pins σ (upd H D (.lst (ys.map V.int))) {s with heap:=h',toks:=s.toks}:=I.laid k hD ⟨zl,out,c,jO hr,hc⟩;refine⟨.ref D,_,J,rfl,q D ys (I.hok.fresh hD) hp (hw.imp fun{x y} hxy=> ?_)⟩;have:decide (y<x)=false:=hxy;have:=Nq this;omega
  rcases hb with⟨_,hb⟩|⟨_,hb⟩
  ·exact qN.sE (O:=qN.tH) (key:=fun i=>ns.getD i 0) (κ:=oneType') hb (by omega) p1 p2 p3
  ·exact qN.Bk (O:=qN.tH) (key:=fun i=>ns.getD i 0) (κ:=oneType') hb (by omega) p1 p2 p3
 cases b with
 |false=>
  obtain⟨vs,rv,pl,hz⟩:=I.list (show SqL X.K H a (ns.map V.int)from hS);exact main vs rv (.inl ⟨rfl,pl.isList⟩)
 |true=>
  obtain⟨vs,rv,pl,hz⟩:=I.tuple (show SqT X.K H a (ns.map V.int)from hS);exact main vs rv (.inr ⟨rfl,pl⟩)
end
end L2
namespace L2
open PySem PySem.W PySem.Spec PyProof.Rows
section
variable{X:Cx}
theorem xq:CallR X (.builtin "sorted") (fun xs H Q=>∃(a:Addr) (its:List (Addr×List Int)),xs=[.ref a]/\SqL X.K H a (its.map fun p=>V.ref p.1)/\(∀p∈its,SqT X.K H p.1 (p.2.map V.int)/\(2<=its.length->p.2≠[]))/\its.length<64/\
  ∀(l:Addr) (its':List (Addr×List Int)),H l=none->its'.Perm its->its'.Pairwise (fun p q=>HT.lexLt q.2 p.2=false)->Q (.ref l) (upd H l (.lst (its'.map fun p=>V.ref p.1)))):=by
 intro pins s σ H xs us Q I r h;obtain⟨a,its,rfl,hS,hT,h64,q⟩:=h;obtain⟨u,rfl,ru⟩:=r.one;cases ru;obtain⟨vs,rv,pl,hz⟩:=I.list hS;have hlen:its.length=vs.length:=by have:=rv.length;simpa using this
 -- the values beside the tuples
 have pr:Paired (fun(p:Addr×List Int) (v:Value)=>v= .ref p.1) its vs:=by
  have go:∀(l:List (Addr×List Int)) (us:List Value),Vals (l.map fun p=>V.ref p.1) us->Paired (fun(p:Addr×List Int) (v:Value)=>v= .ref p.1) l us:=by
   intro l
   induction l with
   |nil=>intro us h;cases h;exact .nil
   |cons p l ih=>
    intro us h;cases h with
    |cons r t=>exact .cons r (ih _ t)
  exact go its vs rv
 have tup:∀p∈its,∃(items:List Value),IntsAre items p.2/\IsTup s.heap p.1 items.toArray:=fun p hp=>by
  obtain⟨its',r',t',_⟩:=I.tuple (hT p hp).1;exact⟨its',intsAre_of r',t'⟩
 refine qN.sE (O:=qN.lexOrd) (key:=fun i=>(its.getD i (0,[])).2) (κ:=tuples' true) (s:=s) pl.isList (by omega) (fun h2 h' k E' Q' hq=> ?_) (fun h2 h' k=> ?_) (fun D h' out c ho hD k hc=> ?_)
 ·have kt:∀(l:List (Addr×List Int)) (us:List Value),Paired (fun(p:Addr×List Int) (v:Value)=>v= .ref p.1) l us->(∀p∈l,p∈its)->∃fs:List Value,KatTups h' us fs/\fs.length=us.length/\∀v∈fs,∃i t,v=Value.int i t:=by
   intro l us h
   induction h with
   |nil=>intro _;exact⟨[],trivial,rfl,fun _ hv=>nomatch hv⟩
   | @cons p v l us r t ih=>
    intro hs;obtain⟨fs,k1,k2,k3⟩:=ih fun p hp=>hs p (jr _ hp);obtain⟨items,hi,o,e,hc,n,hd⟩:=tup p (hs p nG);have hne:=(hT p (hs p nG)).2 (by omega);obtain⟨pa,pn⟩:=p;dsimp only at hi hne e r;cases hi with
    |nil=>exact absurd rfl hne
    |cons i t hi'=>
     rw[r];refine⟨Value.int i t::fs,KatTups.cons (k _ _ e) hc hd (by simp) k1,by simp[k2],fun v hv=> ?_⟩;rcases cJ.mp hv with e|e
     ·exact⟨i,t,e⟩
     ·exact k3 v e
  obtain⟨fs,k1,k2,k3⟩:=kt its vs pr fun _ hp=>hp;refine kat_kind (s:={s with heap:=h'}) (T:= .type "int") k1 (by omega) (fun v hv=> ?_) (by rfl) hq;obtain⟨i,t,rfl⟩:=k3 v hv;exact fun A Q E s _ q=>aM q
 ·intro i j C hi hj hC;rw[<-hlen]at hi hj;have get:∀i (hi:i<its.length),vs.getD i Value.none= .ref its[i].1:=by
   have go:∀(l:List (Addr×List Int)) (us:List Value),Paired (fun(p:Addr×List Int) (v:Value)=>v= .ref p.1) l us->∀i (hi:i<l.length),us.getD i Value.none= .ref l[i].1:=by
    intro l us h
    induction h with
    |nil=>intro i hi;simp at hi
    |cons r t ih=>
     intro i hi;cases i with
     |zero=>exact r
     |succ i=>simpa using ih i (by simpa using hi)
   exact go its vs pr
  unfold kas_ask;rw[get i hi,get j hj];obtain⟨xi,hxi,oi,ei,ci,ni,di⟩:=tup its[i] (Nb _);obtain⟨xj,hxj,oj,ej,cj,nj,dj⟩:=tup its[j] (Nb _);refine kat_lt (s:={s with heap:=h'}) (k _ _ ei) di (k _ _ ej) dj ?_;refine qN.Kz 0 hxi hxj ?_ ?_
  ·have:=hxi.length;have:=hxj.length;simp only[gW];omega
  ·rw[HT.dR];have e1:its.getD i (0,[])=its[i]:=by simp[hi]
   have e2:its.getD j (0,[])=its[j]:=by simp[hj]
   have hC':C (decide ((its.getD i (0,[])).2<(its.getD j (0,[])).2)) {s with heap:=h'}:=hC;rw[e1,e2]at hC';exact hC'
 ·obtain⟨its',hp,hr,hw⟩:=qN.v9 (d:=((0,[]):Addr×List Int)) (f:=fun p=>p.2) pr (fun i hi=>by show(its.getD i (0,[])).2=_;simp[hi]) ho;have hn:H D=none:=I.hok.fresh hD;have rv':Vals (its'.map fun p=>V.ref p.1) out:=by
   have go:∀(l:List (Addr×List Int)) (us:List Value),Paired (fun(p:Addr×List Int) (v:Value)=>v= .ref p.1) l us->Vals (l.map fun p=>V.ref p.1) us:=by
    intro l us h
    induction h with
    |nil=>exact .nil
    |cons r t ih=>exact .cons r ih
   exact go its' out hr
  have zl:(its'.map fun p=>V.ref p.1).length<=sizeLine:=by
   have:=hp.length_eq;rw[aJ];exact cR (small1000 (by omega))
  have J:Inv X pins σ (upd H D (.lst (its'.map fun p=>V.ref p.1))) {s with heap:=h',toks:=s.toks}:=I.laid k hD ⟨zl,out,c,rv',hc⟩;refine⟨.ref D,_,J,rfl,q D its' hn hp (hw.imp fun{x y} hxy=> ?_)⟩;rw[HT.dR];exact hxy
theorem Gp(K:W.Frag){a:Expr}{ta:TE}(ha:PE X a ta)(he:∀whole,isTrue a X.env whole=(do let v<-whole;standAt a.pos;holding [v] (truthy v)))(h:X.K=K:=by rfl):
  PT X a (fun σ H Q=>ta σ H fun x H'=>∃k,TruV K x H' k/\Q k H'):=by subst h;exact pt_truth ha he
end
end L2
namespace L2
open PySem PySem.Spec PyProof.Rows
mutual
def aan:Nat->Expr->Option PyData
 |0,_=>none
 |n+1,e=>match e with
  | .Constant (.int i) _ _=>some (.int i)
  | .Constant (.bool b) _ _=>some (.bool b)
  | .Constant .none _ _=>some .none
  | .Constant (.str x) _ _=>some (.str x)
  | .UnaryOp .USub (.Constant (.int i) _ _) _=>some (.int (-i))
  | .Tuple es _ _=>(Kw n es).map .tuple
  | .List es _=>(Kw n es).map .list
  | .Dict [] [] _=>some (.dict [])
  |_=>none
def Kw:Nat->List Expr->Option (List PyData)
 |0,_=>none
 |_+1,[]=>some []
 |n+1,e::es=>match aan n e,Kw n es with
  |some d,some ds=>some (d::ds)
  |_,_=>none
end
section
variable{X:Cx}
theorem Hr(hc:X.calm=true):CallR X (.builtin "min") (fun xs H Q=>∃(a:Addr) (ns:List Int),xs=[.ref a]/\SqL X.K H a (ns.map V.int)/\ns≠[]/\∀m∈ns,(∀n∈ns,m<=n)->Q (.int m) H):=by
 intro pins s σ H xs us Q I r h;obtain⟨a,ns,rfl,hS,hne,q⟩:=h;obtain⟨u,rfl,ru⟩:=r.one;cases ru;obtain⟨vs,rv,pl,hz⟩:=I.list hS;have hl:=pl.isList;have hlt:a<s.heap.objs.size:=by obtain⟨_,e,_⟩:=hl;exact cU e
 have hlen:=rv.length;rw[aJ]at hlen;have hI:∀(i:Nat) (v:Value),vs.toArray[i]? =some v->∃t,v= .int (ns.getD i 0) t:=fun i v hv=>by
  have hv':vs[i]? =some v:=by simpa using hv
  have hi:i<ns.length:=by have:=(nH.mp hv').1;omega
  have hn:(ns.map V.int)[i]? =some (.int (ns.getD i 0)):=by rw[dW,dD hi,iM,dD hi];rfl
  obtain⟨u,hu,ru⟩:=rv.get hn;rw[hv']at hu;cases hu;obtain⟨t,rfl⟩:=ru;exact⟨t,rfl⟩
 refine call_min_walk (Vm hl ?_);refine⟨s.heap.objs.size,[s.heap.objs.size,a],[s.heap.objs.size],vs.toArray.size,_,_,_,rfl,Walks.list (A:=X.A.in1) (I.ok.hd hc) _ a (dB hlt) vs.toArray,
  ⟨⟨_,gY _ rfl,rfl,rfl⟩,hl.push _⟩,?_,?_,CmpOf.ints_lt (fun i=>ns.getD i 0) hI,fun v h' tk hP hk=> ?_⟩
 ·intro b hb;show b<(s.heap.push _).objs.size;rw[rQ];rcases cJ.mp hb with rfl|hb
  ·exact ur _
  ·rw[ji.mp hb];exact pQ hlt
 ·rw[gW,<-hlen];exact List.length_pos_iff.mpr hne
 ·obtain⟨t,rfl⟩:=hI _ v hP;obtain⟨h1,h2⟩:=argBest_lt (fun i=>ns.getD i 0) (vs.toArray.size-1);have hn0:0<ns.length:=List.length_pos_iff.mpr hne;have hb:argBest (fun i j=>decide (ns.getD i 0<ns.getD j 0)) (vs.toArray.size-1)<ns.length:=by
   have:vs.toArray.size=ns.length:=by rw[gW];omega
   omega
  refine⟨.int _,H,I.kept (LSm.kept_iter hk),⟨t,rfl⟩,q _ ?_ fun n hn=> ?_⟩
  ·rw[iM,dD hb];exact Nb hb
  ·obtain⟨j,hj,rfl⟩:=Im hn;have:=h2 j (by rw[gW];omega);rw[iM (i:=j),dD hj]at this;exact this
end
end L2
namespace L2
open PySem
def qy(xs:Array Nat):Prop:=xs.toList.Pairwise (· < ·)
theorem qy.at{xs:Array Nat}(h:qy xs){i k:Nat}(hk:k<xs.size)(hik:i<k):xs.toList[i]'(by simp;omega)<xs.toList[k]'(by simpa using hk):=Wi.mp h i k _ _ hik
theorem getD_at{xs:Array Nat}{i d:Nat}(h:i<xs.size):xs.getD i d=xs.toList[i]'(by simpa using h):=by
 rw[Array.getElem_toList];simp[Array.getD,h]
theorem tY{xs:Array Nat}(hx:qy xs)(j:Nat):∀(fuel lo hi:Nat),lo<=hi->hi<=xs.size->hi-lo<=fuel->(∀i (h:i<xs.size),i<lo->xs.toList[i]'(by simpa using h)<j)->(∀i (h:i<xs.size),hi<=i->j<=xs.toList[i]'(by simpa using h))->
  SetTable.below.go xs j fuel lo hi<=xs.size/\(∀i (h:i<xs.size),i<SetTable.below.go xs j fuel lo hi->xs.toList[i]'(by simpa using h)<j)/\(∀i (h:i<xs.size),SetTable.below.go xs j fuel lo hi<=i->j<=xs.toList[i]'(by simpa using h))
 |0,lo,hi,h1,h2,h3,a,b=>by
  have e:lo=hi:=by omega
  subst e;unfold SetTable.below.go;exact⟨h2,a,b⟩
 |fuel+1,lo,hi,h1,h2,h3,a,b=>by
  unfold SetTable.below.go;by_cases c:lo<hi
  ·rw[aB c];have hm:(lo+hi)/2<xs.size:=by omega
   dsimp only;rw[getD_at hm];by_cases q:xs.toList[(lo+hi)/2]'(by simpa using hm)<j
   ·rw[aB q];refine tY hx j fuel _ hi (by omega) h2 (by omega) (fun i hi' hlt=> ?_) b;by_cases e:i=(lo+hi)/2
    ·subst e;exact q
    ·exact Mr (hx.at hm (by omega)) q
   ·rw[aA q];refine tY hx j fuel lo _ (by omega) (by omega) (by omega) a (fun i hi' hle=> ?_);by_cases e:i=(lo+hi)/2
    ·subst e;omega
    ·have:=hx.at hi' (show(lo+hi)/2<i by omega);omega
  ·rw[aA c];have e:lo=hi:=by omega
   subst e;exact⟨h2,a,b⟩
theorem zZ{xs:Array Nat}(hx:qy xs)(j:Nat):SetTable.below xs j<=xs.size/\(∀i (h:i<xs.size),i<SetTable.below xs j->xs.toList[i]'(by simpa using h)<j)/\(∀i (h:i<xs.size),SetTable.below xs j<=i->j<=xs.toList[i]'(by simpa using h)):=
 tY hx j xs.size 0 xs.size (cG _) (aN _) (aN _) (fun i _ h=>absurd h (M9 _)) (fun i h h'=>absurd h (Nat.not_lt.mpr h'))
theorem zu{α:Type}(xs:Array α)(p:Nat)(x:α):(SetTable.insertAt xs p x).toList=xs.toList.take p++x::xs.toList.drop p:=by
 unfold SetTable.insertAt;simp;exact Mu (by simp)
theorem zq{xs:Array Nat}(hx:qy xs){j:Nat}(hn:xs[SetTable.below xs j]? ≠some j):qy (SetTable.insertAt xs (SetTable.below xs j) j):=by
 obtain⟨b1,b2,b3⟩:=zZ hx j;unfold qy;rw[zu,Wd];have Xe:∀a∈xs.toList.take (SetTable.below xs j),a<j:=fun a ha=>by
  obtain⟨i,hi,e⟩:=List.mem_take_iff_getElem.mp ha;rw[<-e];exact b2 i (by simp at hi;omega) (by omega)
 have uK:∀a∈xs.toList.drop (SetTable.below xs j),j<a:=fun a ha=>by
  obtain⟨i,hi,e⟩:=List.mem_drop_iff_getElem.mp ha;have hs0:i+SetTable.below xs j<xs.size:=by simpa using hi
  have hs:SetTable.below xs j+i<xs.size:=by omega
  have z:=b3 (SetTable.below xs j+i) hs (Rz _ _);have e':xs.toList[SetTable.below xs j+i]'(by simpa using hs)=a:=by rw[<-e]
  rw[e']at z;by_cases c:i=0
  ·subst c;refine Nf z fun ej=>hn ?_;rw[<-Vf,dD (by simpa using hs)];exact lE some (e'.trans ej.symm)
  ·have hs0:SetTable.below xs j<xs.size:=by omega
   have z0:=b3 (SetTable.below xs j) hs0 (aN _);have:=hx.at hs (show SetTable.below xs j<SetTable.below xs j+i by omega);rw[e']at this;omega
 refine⟨hx.sublist (List.take_sublist _ _),Vd.mpr ⟨uK,hx.sublist (List.drop_sublist _ _)⟩,fun a ha b hb=> ?_⟩;rcases cJ.mp hb with e|e
 ·rw[e];exact Xe a ha
 ·exact Mr (Xe a ha) (uK b e)
structure TabOk(b:Bool)(t:SetTable):Prop where
 rise:qy t.place
 nod:t.dummies=#[]
 led:t.led=b
theorem has_none(j:Nat):SetTable.has #[] j=false:=by
 unfold SetTable.has;simp
theorem Bp{t:SetTable}{j:Nat}(h:t.slot j= .empty):t.place[SetTable.below t.place j]? ≠some j:=fun e=>by
 unfold SetTable.slot at h;dsimp only at h;rw[e]at h;simp at h
theorem yR{t:SetTable}(ht:t.dummies=#[])(ha:Nat->Int)(h:Int):∀(fuel:Nat) (p:SetTable.Probe) (j:Nat) (d:Option Nat),p.dummy=none->SetTable.probe.go t ha h fuel p=some (.empty j d)->d=none/\t.slot j= .empty
 |0,p,j,d,_,e=>by unfold SetTable.probe.go at e;cases e
 |fuel+1,p,j,d,hp,e=>by
  unfold SetTable.probe.go at e;have adv:(t.advance p).dummy=none:=by
   unfold SetTable.advance;split
   ·exact hp
   ·exact hp
  cases z:t.slot p.j with
  |empty=>
   rw[z]at e;cases e;exact⟨hp,z⟩
  |dummy=>
   exfalso;unfold SetTable.slot at z;dsimp only at z;rw[ht,has_none]at z;split at z
   ·cases z
   ·simp at z
  |live i=>
   rw[z]at e;dsimp only at e;split at e
   ·cases e
   ·exact yR ht ha h fuel _ j d adv e
theorem Bw(n:Nat):qy (Array.range n):=by
 unfold qy;rw[Array.toList_range];exact Y4
theorem iQ{b:Bool}{t:SetTable}(h:TabOk b t)(n:Nat):TabOk b (t.standIn n):=⟨Bw n,rfl,h.led⟩
theorem KD{b:Bool}{t:SetTable}(h:TabOk b t)(es:Array (Int×Value))(hh:Int)(x:Value):TabOk b (layNew t es hh x).2.1:=by
 unfold layNew;cases z:t.freeSlot hh with
 |none=>exact iQ h _
 |some q=>
  obtain⟨slot,was⟩:=q;have emp:t.slot slot= .empty:=by
   unfold SetTable.freeSlot SetTable.probe at z;cases y:SetTable.probe.go t (fun _=>hh+1) hh (10*SetTable.turns t.mask) (t.probeStart hh)with
   |none=>rw[y]at z;cases z
   |some m=>
    rw[y]at z;cases m with
    |candidate _ _ _=>cases z
    |empty j d=>
     obtain⟨rfl,e⟩:=yR h.nod _ _ _ _ _ _ rfl y;cases z;exact e
  have JZ:TabOk b (t.put slot).1:=by
   refine⟨zq h.rise (Bp emp),?_,h.led⟩;show(if SetTable.has t.dummies slot then _ else t.dummies)=#[];rw[h.nod,has_none];rfl
  dsimp only;unfold SetTable.orStandIn;split
  ·exact JZ
  ·exact iQ JZ _
theorem OJ{mask finger moves:Nat}{b plain:Bool}{hs:Array Int}{t':SetTable}{order:Array Nat}(e:SetTable.laid mask finger moves b plain hs=some (t',order)):TabOk b t':=by
 unfold SetTable.laid at e;cases z:SetTable.layClean mask hs with
 |none=>rw[z]at e;cases e
 |some owner=>
  rw[z]at e;cases e;refine⟨?_,rfl,rfl⟩;unfold qy;show(((List.range (mask+1)).filterMap fun j=>(owner.getD j none).map (j, ·)).map (·.1)).Pairwise (· < ·);rw[List.map_filterMap];refine List.Pairwise.filterMap _ (R:=(· < ·)) (fun a a' aaF c hc c' hc'=> ?_) Y4;cases y:owner.getD a none with
  |none=>simp[y]at hc
  |some k=>
   cases y':owner.getD a' none with
   |none=>simp[y']at hc'
   |some k'=>
    simp[y]at hc;simp[y']at hc';omega
theorem yO{b:Bool}{t:SetTable}(h:TabOk b t)(es:Array (Int×Value))(wanted:Nat):TabOk b (relayAll t es wanted).2.1:=by
 unfold relayAll;cases z:t.relaid (es.map (·.1)) wanted with
 |none=>exact iQ h _
 |some q=>
  obtain⟨t',order⟩:=q;dsimp only;split
  ·unfold SetTable.relaid at z;have:=OJ z;rw[h.led]at this;exact this
  ·exact iQ h _
theorem zH(b:Bool):TabOk b (.fresh 0 0 b):=⟨.nil,rfl,rfl⟩
theorem rT{b:Bool}{t:SetTable}(h:TabOk b t):TabOk b {t with plain:=false}:=⟨h.rise,h.nod,h.led⟩
end L2
namespace PySem
namespace F
theorem aQ:Slot "set_iterator" "__next__" "set_iterator.__next__":=
 .of (owner:="set_iterator") (n:="__next__") (by rw[typeLookup_type,builtinLookup_eq_fast];kernel_rfl) (by decide+kernel) (by decide+kernel) (by decide+kernel)
  (by first |exact .inl (by decide+kernel)|exact .inr (by decide+kernel)) (by rw[isSubtype_type];kernel_rfl)
theorem lQ:Slot "set_iterator" "__iter__" "set_iterator.__iter__":=
 .of (owner:="set_iterator") (n:="__iter__") (by rw[typeLookup_type,builtinLookup_eq_fast];kernel_rfl) (by decide+kernel) (by decide+kernel) (by decide+kernel)
  (by first |exact .inl (by decide+kernel)|exact .inr (by decide+kernel)) (by rw[isSubtype_type];kernel_rfl)
theorem dg:entryFor table "set_iterator.__next__"=some Builtin.«set_iterator.__next__»:=entryFor_of_tree (by kernel_rfl)
theorem tM:entryFor table "set_iterator.__iter__"=some Builtin.«dict_keyiterator.__iter__»:=
 entryFor_alias (id':="dict_keyiterator.__iter__") (by kernel_rfl) rfl (by decide+kernel) (by kernel_rfl)
theorem qR:entryFor table "set.__iter__"=some Builtin.«frozenset.__iter__»:=
 entryFor_alias (id':="frozenset.__iter__") (by kernel_rfl) rfl (by decide+kernel) (by kernel_rfl)
theorem eG(a:Value):argsOk "set_iterator.__next__" ⟨[a],[]⟩:=by
 unfold argsOk;kernel_rfl
theorem uQ(a:Value):argsOk "set_iterator.__iter__" ⟨[a],[]⟩:=by
 unfold argsOk;kernel_rfl
end F
end PySem
namespace PySem
open L2 (TabOk qy)
theorem mY{α:Type}:∀(l:List α) (i:Nat) (x:α),l[i]? =some x->(x::l.eraseIdx i).Perm l
 |[],i,x,h=>by cases i<;>cases h
 |y::l,0,x,h=>by cases h;exact .refl _
 |y::l,i+1,x,h=>(List.Perm.swap y x _).trans ((mY l i x h).cons y)
theorem Ep{α:Type}(next:Nat->Nat):∀(fuel k:Nat) (left:List α) (out:Array α),left.length=fuel->(pickOrder.go next fuel k left out).toList.Perm (out.toList++left)
 |0,k,left,out,h=>by
  rw[wda h];unfold pickOrder.go;rw[Ay]
 |fuel+1,k,left,out,h=>by
  unfold pickOrder.go;have lt:next k %left.length<left.length:=Za _ (by omega)
  rw[dD lt];dsimp only;refine(Ep next fuel (k+1) _ _ (by rw[List.length_eraseIdx,aB lt];omega)).trans ?_;rw[Array.toList_push,weo];exact List.Perm.append_left _ (mY left _ _ (dD lt))
theorem qe{α:Type}(next:Nat->Nat)(xs:Array α):(pickOrder next xs).toList.Perm xs.toList:=by
 unfold pickOrder;have:=Ep next xs.size 0 xs.toList #[] (by simp)
 simpa using this
section
variable{prog:Program}{w:World}{A:Around}{E:L3}{s:Shared}
theorem vM{src:Source}{n:Nat}{Q:Nat->Shared->Prop}(hn:n≠0)(h:∀i d,i<n->Q i {s with drawn:=d}):wpAny (model prog w) A (choose src n) Q E s:=fun Γ p _=>by
 unfold choose;rw[Sem.wp_choose];refine⟨hn,?_⟩;rw[Sem.wp_pure];exact h _ _ (Za _ (Nat.pos_of_ne_zero hn))
theorem jj{α:Type}:∀(n:Nat) (xs:List α) {s:Shared} {Q:List α->Shared->Prop},xs.length=n->(∀ys d,ys.Perm xs->Q ys {s with drawn:=d})->wpAny (model prog w) A (drawOrder n xs) Q E s
 |0,xs,s,Q,h,q=>by
  have:=q [] s.drawn (by rw[wda h]);unfold drawOrder;exact aM this
 |n+1,[],s,Q,h,q=>by cases h
 |n+1,x::xs,s,Q,h,q=>by
  unfold drawOrder;refine ao (vM (by simp) fun i d hi=> ?_);rw[dD hi];dsimp only;refine ao (jj n ((x::xs).eraseIdx i) (by rw[List.length_eraseIdx,aB hi];omega) fun ys d' hp=>aM ?_);exact q _ d' ((hp.cons _).trans (mY _ i _ (dD hi)))
structure bL(w:World)(h:Heap)(d:Addr)(es:Array (Int×Value))(ep:Nat)(t:SetTable):Prop where
 ob:∃o,h.get? d=some o/\o.ExactSet/\o.data= .set es ep t
 fits:t.fits es.size=true
 tab:TabOk (!w.params.followText "set-order") t
theorem bL.at{h h':Heap}{d:Addr}{es:Array (Int×Value)}{ep:Nat}{t:SetTable}(S:bL w h d es ep t)(e:∀o,h.get? d=some o->h'.get? d=some o):bL w h' d es ep t:=
 let⟨o,ho,r⟩:=S.ob;⟨⟨o,e _ ho,r⟩,S.fits,S.tab⟩
theorem bL.typeIs{d:Addr}{es:Array (Int×Value)}{ep:Nat}{t:SetTable}(S:bL w s.heap d es ep t):s.TypeIs (.ref d) "set":=let⟨o,ho,hx,_⟩:=S.ob;⟨o,ho,hx.1⟩
theorem bL.state{d:Addr}{es:Array (Int×Value)}{ep:Nat}{t:SetTable}{Q:(Array (Int×Value)×Nat×SetTable)->Shared->Prop}(S:bL w s.heap d es ep t)(q:Q (es,ep,t) s):wpAny (model prog w) A (setState d) Q E s:=let⟨o,ho,hx,hd⟩:=S.ob;wpAny_setState_of ho hd S.fits q
theorem fO{Q:Bool->Shared->Prop}(q:Q (w.params.followText "set-order") s):wpAny (model prog w) A setsByText Q E s:=by
 unfold setsByText;exact ao (wfd (aM q))
def bK(t:SetTable)(i:Nat):Nat:=if i=0 then 0 else t.place.getD (i-1) 0+1
theorem tZ{b:Bool}{t:SetTable}(ht:TabOk b t){i:Nat}(hi:i<=t.place.size):SetTable.below t.place (bK t i)=i:=by
 obtain⟨b1,b2,b3⟩:=L2.zZ ht.rise (bK t i);have lo:i<=SetTable.below t.place (bK t i):=by
  refine Zy fun c=> ?_;have hs:i-1<t.place.size:=by omega
  have z:=b3 (i-1) hs (by omega);have e:bK t i=t.place.toList[i-1]'(by simpa using hs)+1:=by
   unfold bK;rw[aA (by omega),L2.getD_at hs]
  omega
 have hi':SetTable.below t.place (bK t i)<=i:=by
  refine Zy fun c=> ?_;have hs:i<t.place.size:=by omega
  have z:=b2 i hs c;by_cases c0:i=0
  ·subst c0;unfold bK at z;rw[aB rfl]at z;omega
  ·have e:bK t i=t.place.toList[i-1]'(by simp;omega)+1:=by
    unfold bK;rw[aA c0,L2.getD_at (by omega)]
   have:=ht.rise.at hs (show i-1<i by omega);omega
 omega
theorem GF{d:Addr}{es:Array (Int×Value)}{ep:Nat}{t:SetTable}{i:Nat}{Q:Option (Value×Nat)->Shared->Prop}(S:bL w s.heap d es ep t)(hb:w.params.followText "set-order"=false)(hd:(!t.plain&&decide (es.size>1))=false)(hi:i<=es.size)(q:Q ((es[i]?).map fun e=>(e.2,bK t (i+1))) s):wpAny (model prog w) A (setNext d (bK t i) i ep) Q E s:=by
 have ps:t.place.size=es.size:=by have:=S.fits;unfold SetTable.fits at this;simp at this;exact this.1
 have led:t.led=true:=by rw[S.tab.led,hb];rfl
 unfold setNext;refine ao (S.state (ao (fO ?_)));rw[hb];dsimp only;refine Al (fun hab=>absurd hab (by decide)) fun _=> ?_;refine Al (fun hab=> ?_) fun _=> ?_
 ·have hab:(!t.plain&&decide (es.size>1))=true:=hab;rw[hd]at hab;cases hab
 refine ao ?_;show wpAny _ _ (if(!t.led&& !es.isEmpty)=true then _ else _) _ _ _;rw[led];refine Al (fun hab=>absurd hab (by simp)) fun _=> ?_;refine aM ?_;refine aM ?_;rw[tZ S.tab (by omega)];by_cases c:i<es.size
 ·rw[Qp c]at q⊢;rw[Qp (by omega:i<t.place.size)];have e:bK t (i+1)=t.place[i]+1:=by
   unfold bK;rw[aA (by omega),wec];simp[Array.getD,(by omega:i<t.place.size)]
  rw[e]at q;exact q
 ·rw[wfi (by omega)]at q⊢;exact q
theorem GD{d:Addr}{es:Array (Int×Value)}{ep:Nat}{t:SetTable}{i slot:Nat}{Q:Option (Value×Nat)->Shared->Prop}(S:bL w s.heap d es ep t)(hb:w.params.followText "set-order"=true)(q:Q (((pickOrder (w.params.setOrder d ep) es)[i]?).map fun e=>(e.2,slot)) s):wpAny (model prog w) A (setNext d slot i ep) Q E s:=by
 unfold setNext;refine ao (S.state (ao (fO ?_)));rw[hb];dsimp only;refine Al (fun _=> ?_) fun hab=>absurd rfl hab;refine Al (fun hab=> ?_) fun _=> ?_
 ·simp at hab
 refine ao ?_;unfold setWalk;refine ao (S.state (ao (fO ?_)));rw[hb];refine Al (fun _=> ?_) fun hab=>absurd rfl hab;refine ao (wfd ?_);exact aM (aM q)
def bA(h:Heap)(I d:Addr)(first:Value)(i n ep:Nat):Prop:=∃o,h.get? I=some o/\o.cls= .type "set_iterator"/\o.data= .fields #[first,.int i 0,.ref d,.int n 0,.int ep 0]
theorem bA.at{h h':Heap}{I d:Addr}{first:Value}{i n ep:Nat}(x:bA h I d first i n ep)(e:∀o,h.get? I=some o->h'.get? I=some o):bA h' I d first i n ep:=let⟨o,ho,r⟩:=x;⟨o,e _ ho,r⟩
theorem bA.typeIs{I d:Addr}{first:Value}{i n ep:Nat}(x:bA s.heap I d first i n ep):s.TypeIs (.ref I) "set_iterator":=let⟨o,ho,hc,_⟩:=x;⟨o,ho,hc⟩
theorem nU{I d:Addr}{first:Value}{i n ep:Nat}{Q:L3}(hit:bA s.heap I d first i n ep)(h:Q (.ref I) s):wpAny (model prog w) A (pyIter (.ref I)) Q E s:=by
 refine wpAny_pyIter_slot hit.typeIs F.lQ (Am F.lQ hit.typeIs F.tM ?_ (F.uQ _));show wpAny _ _ (ret (.ref I)) _ _ s;exact aM ⟨_,rfl,"set_iterator",_,hit.typeIs,F.aQ.lookup,h⟩
theorem bL.entries{d:Addr}{es:Array (Int×Value)}{ep:Nat}{t:SetTable}{Q:Array (Int×Value)->Shared->Prop}(S:bL w s.heap d es ep t)(q:Q es s):wpAny (model prog w) A (setEntries d) Q E s:=by
 unfold setEntries;exact ao (S.state (aM q))
theorem vX{I d:Addr}{es:Array (Int×Value)}{ep:Nat}{t:SetTable}{i sl sl':Nat}{x:Value}{Q:Option Value->Shared->Prop}(hit:bA s.heap I d (.int sl 0) i es.size ep)(S:bL w s.heap d es ep t)(hne:d≠I)(hnext:∀(Q':Option (Value×Nat)->Shared->Prop) (E':L3),Q' (some (x,sl')) s->wpAny (model prog w) A.in1 (setNext d sl i ep) Q' E' s)(hQ:∀h',bA h' I d (.int sl' 0) (i+1) es.size ep->Heap.SameBut I s.heap h'->Q (some x) {s with heap:=h'}):wpAny (model prog w) A (pyNext (.ref I)) Q E s:=by
 obtain⟨o,ho,hc,hd⟩:=id hit;unfold pyNext;refine ao (Vk (IK (name:=Str.ofString "__next__") hit.typeIs F.aQ (Am F.aQ hit.typeIs F.dg ?_ (F.eG _))));unfold Builtin.«set_iterator.__next__»;refine ao (aM ?_);refine ao (Zn ho hd ?_);refine ao (S.entries ?_);refine Al (fun hab=>absurd hab (by simp)) fun _=> ?_;refine ao ?_;rw[xV,xV,xV];refine hnext _ _ ?_;refine ao (Qx ho hd (by simp) ?_);have ho1:=Qo (Obj.mapFields (·.setIfInBounds 0 (rawInt (sl':Int)))) ho (Ws (Mv hd _));have hd1:=Mv hd (·.setIfInBounds 0 (rawInt (sl':Int)));refine ao (Qx ho1 hd1 (by simp) ?_);refine aM ⟨_,rfl,aM (hQ _ ⟨_,Qo _ ho1 (Ws (Mv hd1 _)),(ZC ..).trans ((ZC ..).trans hc),by rw[Mv hd1];simp[rawInt]⟩ ((Gb ..).trans (Gb ..)))⟩
theorem yL{I d:Addr}{es:Array (Int×Value)}{ep:Nat}{t:SetTable}{i sl:Nat}{Q:Option Value->Shared->Prop}(hh:A.handled=none)(hit:bA s.heap I d (.int sl 0) i es.size ep)(S:bL w s.heap d es ep t)(hne:d≠I)(hnext:∀(Q':Option (Value×Nat)->Shared->Prop) (E':L3),Q' none s->wpAny (model prog w) A.in1 (setNext d sl i ep) Q' E' s)(hQ:∀h',Heap.ExtBut I s.heap h'->Q none {s with heap:=h'}):wpAny (model prog w) A (pyNext (.ref I)) Q E s:=by
 obtain⟨o,ho,hc,hd⟩:=id hit;unfold pyNext;refine ao (Vk (IK (name:=Str.ofString "__next__") hit.typeIs F.aQ (Am F.aQ hit.typeIs F.dg ?_ (F.eG _))));unfold Builtin.«set_iterator.__next__»;refine ao (aM ?_);refine ao (Zn ho hd ?_);refine ao (S.entries ?_);refine Al (fun hab=>absurd hab (by simp)) fun _=> ?_;refine ao ?_;rw[xV,xV,xV];refine hnext _ _ ?_;refine ao (Qx ho hd (by simp) ?_);show wpAny _ _ (newExc (.type "StopIteration") []>>=_) _ _ _;refine ao ?_;simp only[newExc,newTuple];refine ao (vO ?_ (by size_fits));refine ao (m:=firstArgMember _ _) (Ze (a:=Value.none) (by first |rfl|(simp only[firstArgMember];rfl)) ?_);refine vO ?_ (by size_fits);simp only[raiseNew];refine ao (wpAny_handled ?_);rw[show A.in1.handled=none from hh];refine ao (aM (wpAny_throw ?_));refine ao (Zw (T:="StopIteration") (b:=true) ⟨_,gY _ rfl,rfl⟩ isSubtype_stop ?_);exact aM (hQ _ (((Gb ..).extBut.push _).push _))
theorem Walks.setInt(hh:A.handled=none)(I d:Addr)(hne:d≠I)(es:Array (Int×Value))(ep:Nat)(t:SetTable)(L:List Value)(hL:L.length=es.size)(slot:Nat->Nat)(hnext:∀(i:Nat) (s:Shared) (Q':Option (Value×Nat)->Shared->Prop) (E':L3),i<=es.size->bL w s.heap d es ep t->Q' ((L[i]?).map fun x=>(x,slot (i+1))) s->wpAny (model prog w) A.in1 (setNext d (slot i) i ep) Q' E' s):
  Walks prog w A I [I,d] [I] es.size (fun i v=>L[i]? =some v) (fun i h=>bA h I d (.int (slot i) 0) i es.size ep/\bL w h d es ep t) where
 sub:=fun b hb=>by simp at hb;simp[hb]
 frame:=fun _ _ _ st hk=>⟨st.1.at fun o e=>hk I (by simp) o e,st.2.at fun o e=>hk d (by simp) o e⟩
 item:=fun i s Q E hi st hQ=>by
  obtain⟨x,hx⟩:∃x,L[i]? =some x:=⟨L[i],by simp[hL,hi]⟩;refine vX (t:=t) (x:=x) (sl':=slot (i+1)) st.1 st.2 hne (fun Q' E' q=>hnext i s Q' E' (by omega) st.2 (by rw[hx];exact q)) fun h' hit' hs'=> ?_;exact hQ x h' s.toks hx ⟨hit',st.2.at fun o e=>hs'.extBut d o hne e⟩ fun b o hb e=>hs'.extBut b o (fun h=>hb (by simp[h])) e
 done:=fun s Q E st hQ=>yL hh st.1 st.2 hne (fun Q' E' q=>hnext _ s Q' E' (aN _) st.2 (by rw[Nj (by omega)];exact q)) fun h' he'=>hQ h' s.toks fun b o hb e=>he' b o (fun h=>hb (by simp[h])) e
 self:=fun _ _ _ _ st hQ=>nU st.1 hQ
theorem jC{T:Addr}{its:Array Value}{Q:Option (Array Value)->Shared->Prop}(h:s.heap.IsTuple T its)(q:Q (some its) s):wpAny (model prog w) A (seqItems? (.ref T)) Q E s:=by
 obtain⟨o,ho,hc,n,hd⟩:=h;unfold seqItems?;dsimp only;refine ao (wpAny_load ho ?_);rw[hd];exact aM q
theorem uH{I d T:Addr}{es:Array (Int×Value)}{ep:Nat}{t:SetTable}{i p:Nat}{x:Int×Value}{its:Array Value}{Q:Option Value->Shared->Prop}(hit:bA s.heap I d (.ref T) i es.size ep)(S:bL w s.heap d es ep t)(hT:s.heap.IsTuple T its)(hp:its[i]? =some (.int p 0))(hx:es[p]? =some x)(hQ:∀h',bA h' I d (.ref T) (i+1) es.size ep->Heap.SameBut I s.heap h'->Q (some x.2) {s with heap:=h'}):wpAny (model prog w) A (pyNext (.ref I)) Q E s:=by
 obtain⟨o,ho,hc,hd⟩:=id hit;unfold pyNext;refine ao (Vk (IK (name:=Str.ofString "__next__") hit.typeIs F.aQ (Am F.aQ hit.typeIs F.dg ?_ (F.eG _))));unfold Builtin.«set_iterator.__next__»;refine ao (aM ?_);refine ao (Zn ho hd ?_);refine ao (S.entries ?_);refine Al (fun hab=>absurd hab (by simp)) fun _=> ?_;refine ao (jC hT ?_);dsimp only;rw[xV,hp];dsimp only;refine ao ?_;unfold setNextDrawn;refine ao (S.state ?_);refine Al (fun hab=>absurd hab (by simp)) fun _=> ?_;rw[xV,hx];refine aM ?_;refine ao (Qx ho hd (by simp) ?_);refine aM ⟨_,rfl,aM (hQ _ ⟨_,Qo _ ho (Ws (Mv hd _)),(ZC ..).trans hc,by rw[Mv hd];simp[rawInt]⟩ (Gb ..))⟩
theorem vY{I d T:Addr}{es:Array (Int×Value)}{ep:Nat}{t:SetTable}{i:Nat}{its:Array Value}{Q:Option Value->Shared->Prop}(hh:A.handled=none)(hit:bA s.heap I d (.ref T) i es.size ep)(S:bL w s.heap d es ep t)(hT:s.heap.IsTuple T its)(hp:its[i]? =none)(hQ:∀h',Heap.ExtBut I s.heap h'->Q none {s with heap:=h'}):wpAny (model prog w) A (pyNext (.ref I)) Q E s:=by
 obtain⟨o,ho,hc,hd⟩:=id hit;unfold pyNext;refine ao (Vk (IK (name:=Str.ofString "__next__") hit.typeIs F.aQ (Am F.aQ hit.typeIs F.dg ?_ (F.eG _))));unfold Builtin.«set_iterator.__next__»;refine ao (aM ?_);refine ao (Zn ho hd ?_);refine ao (S.entries ?_);refine Al (fun hab=>absurd hab (by simp)) fun _=> ?_;refine ao (jC hT ?_);dsimp only;rw[xV,hp];dsimp only;refine ao (Qx ho hd (by simp) ?_);have ho1:=Qo (Obj.mapFields (·.setIfInBounds 0 (rawInt 0))) ho (Ws (Mv hd _));have hd1:=Mv hd (·.setIfInBounds 0 (rawInt 0));refine ao (Qx ho1 hd1 (by simp) ?_);show wpAny _ _ (newExc (.type "StopIteration") []>>=_) _ _ _;refine ao ?_;simp only[newExc,newTuple];refine ao (vO ?_ (by size_fits));refine ao (m:=firstArgMember _ _) (Ze (a:=Value.none) (by first |rfl|(simp only[firstArgMember];rfl)) ?_);refine vO ?_ (by size_fits);simp only[raiseNew];refine ao (wpAny_handled ?_);rw[show A.in1.handled=none from hh];refine ao (aM (wpAny_throw ?_));refine ao (Zw (T:="StopIteration") (b:=true) ⟨_,gY _ rfl,rfl⟩ isSubtype_stop ?_);exact aM (hQ _ ((((Gb ..).trans (Gb ..)).extBut.push _).push _))
theorem Walks.setRef(hh:A.handled=none)(I d T:Addr)(hne:d≠I)(hTI:T≠I)(es:Array (Int×Value))(ep:Nat)(t:SetTable)(ps:List Nat)(hps:ps.Perm (List.range es.size)):
  Walks prog w A I [I,d,T] [I] es.size (fun i v=>∃p x,ps[i]? =some p/\es[p]? =some x/\v=x.2) (fun i h=>bA h I d (.ref T) i es.size ep/\bL w h d es ep t/\h.IsTuple T (ps.map fun(p:Nat)=>Value.int p 0).toArray) where
 sub:=fun b hb=>by simp at hb;simp[hb]
 frame:=fun _ _ _ st hk=>⟨st.1.at fun o e=>hk I (by simp) o e,st.2.1.at fun o e=>hk d (by simp) o e,let⟨o,ho,r⟩:=st.2.2;⟨o,hk T (by simp) o ho,r⟩⟩
 item:=fun i s Q E hi st hQ=>by
  have hl:ps.length=es.size:=by rw[hps.length_eq,rC]
  obtain⟨p,hp⟩:∃p,ps[i]? =some p:=⟨ps[i],by simp[hl,hi]⟩;have hlt:p<es.size:=pO.mp (hps.mem_iff.mp (gZ hp));refine uH (t:=t) (p:=p) (x:=es[p]) st.1 st.2.1 st.2.2 (by simp[hp]) (Qp hlt) fun h' hit' hs'=> ?_;exact hQ _ h' s.toks ⟨p,_,hp,Qp hlt,rfl⟩ ⟨hit',st.2.1.at fun o e=>hs'.extBut d o hne e,let⟨o,ho,r⟩:=st.2.2;⟨o,hs'.extBut T o hTI ho,r⟩⟩ fun b o hb e=>hs'.extBut b o (fun h=>hb (by simp[h])) e
 done:=fun s Q E st hQ=>vY hh st.1 st.2.1 st.2.2 (by simp[hps.length_eq]) fun h' he'=>hQ h' s.toks fun b o hb e=>he' b o (fun h=>hb (by simp[h])) e
 self:=fun _ _ _ _ st hQ=>nU st.1 hQ
def Ge(first:Value)(d:Addr)(n ep:Nat):Obj:={cls:= .type "set_iterator",dict:=none,data:= .fields #[first,.int 0 0,.ref d,.int n 0,.int ep 0]}
def n6(ps:List Nat):Obj:={cls:= .type "tuple",dict:=none,data:= .seq (ps.map fun(p:Nat)=>Value.int p 0).toArray}
theorem bL.push{h:Heap}{d:Addr}{es:Array (Int×Value)}{ep:Nat}{t:SetTable}(S:bL w h d es ep t)(o:Obj):bL w (h.push o) d es ep t:=S.at fun _ e=>cL _ e
theorem KQ{d:Addr}{es:Array (Int×Value)}{ep:Nat}{t:SetTable}{Q:L3}(S:bL w s.heap d es ep t)(hz:es.size<=1000)(hA:(w.params.followText "set-order"=true\/(!t.plain&&decide (es.size>1))=false)->Q (.ref s.heap.objs.size) {s with heap:=s.heap.push (Ge (.int 0 0) d es.size ep)})(hB:∀ps dr,ps.Perm (List.range es.size)->Q (.ref (s.heap.objs.size+1)) {s with heap:=(s.heap.push (n6 ps)).push (Ge (.ref s.heap.objs.size) d es.size ep),drawn:=dr}):
  wpAny (model prog w) A (pyIter (.ref d)) Q E s:=by
 refine wpAny_pyIter_slot S.typeIs F.slot_set_iter (Am F.slot_set_iter S.typeIs F.qR ?_ (F.args_set_iter_1 _));unfold Builtin.«frozenset.__iter__»;refine ao (aM ?_);refine ao ?_;unfold Builtin.Frozenset.sizeOf;refine ao (S.entries (aM ?_));refine ao ?_;unfold setDrawn;refine ao (S.state (ao (fO (aM ?_))));have Rj:∀{s':Shared} {Q':Nat->Shared->Prop} {E':L3},bL w s'.heap d es ep t->Q' ep s'->wpAny (model prog w) A.in1 (setEpoch d) Q' E' s':=fun S' q=>by
  unfold setEpoch;exact ao (S'.state (aM q))
 refine Al (fun hab=> ?_) fun hab=> ?_
 ·refine ao (jj _ _ (by simp) fun ps dr hp=> ?_);refine ao ?_;simp only[newTuple];refine vO ?_ (show(ps.map fun(i:Nat)=>rawInt (i:Int)).toArray.size<=sizeLine from by
   have:=hp.length_eq;rw[rC]at this;rw[gW,aJ,eX];omega)
  refine ao (Rj (S.push _) ?_);simp only[newFields];refine ao (vO ?_ (by size_fits));have q:=hB ps dr hp;refine aM ⟨_,rfl,"set_iterator",_,⟨_,gY _ rfl,rfl⟩,F.aQ.lookup,?_⟩;rw[rQ];exact q
 ·refine ao (aM ?_);refine ao (Rj S ?_);simp only[newFields];refine ao (vO ?_ (by size_fits));refine aM ⟨_,rfl,"set_iterator",_,⟨_,gY _ rfl,rfl⟩,F.aQ.lookup,hA ?_⟩;have hab:¬(!w.params.followText "set-order"&&(!t.plain&&decide (es.size>1)))=true:=hab;cases hb:w.params.followText "set-order" with
  |true=>exact .inl rfl
  |false=>rw[hb]at hab;exact .inr (by simpa using hab)
theorem KY{d:Addr}{es:Array (Int×Value)}{ep:Nat}{t:SetTable}{Q:Bool->Shared->Prop}(S:bL w s.heap d es ep t)(h:Q false s):wpAny (model prog w) A (Builtin.List.listLengthHint (.ref d)) Q E s:=by
 have hT:s.TypeIs (.ref d) "set":=S.typeIs;unfold Builtin.List.listLengthHint;refine ao (wpAny_specialOf hT F.slot_set_len.lookup ?_);generalize hid:("set.__len__":String)=id0
 wp_delta
 rw[show splitId id0=some ("set","__len__")from by subst hid;decide+kernel];subst hid;refine ao (Zw (T:="set") (b:=true) hT (by rw[isSubtype_type];kernel_rfl) ?_);refine Al (fun hab=>absurd hab (by decide)) (fun _=> ?_);refine Al (fun _=> ?_) (fun hab=>absurd (by decide+kernel) hab);refine ao (RK hT ?_);exact aM h
theorem mW{L:List Value}{acc:Array Value}(h:ItemsOf (fun i v=>L[i]? =some v) acc L.length):acc.toList=L:=by
 refine V9 fun i=> ?_;by_cases c:i<acc.size
 ·have e:acc.toList[i]? =some acc[i]:=by rw[Vf,Qp c]
  rw[e];exact(h.2 i _ (by rw[Qp c])).symm
 ·have:=h.1;rw[Nj (by simpa using c),Nj (by omega)]
theorem jM{α:Type}(xs:Array α){ps:List Nat}(hp:ps.Perm (List.range xs.size)):(ps.filterMap fun p=>xs[p]?).Perm xs.toList:=by
 refine(hp.filterMap _).trans ?_;have e:(List.range xs.size).filterMap (fun p=>xs[p]?)=xs.toList:=by
  have key:∀(l:List α),(List.range l.length).filterMap (fun p=>l[p]?)=l:=by
   intro l
   induction l with
   |nil=>rfl
   |cons x l ih=>
    rw[uz,List.range_succ_eq_map,RG,wdx];show x::(List.range l.length).filterMap (fun p=>l[p]?)=x::l;rw[ih]
  have:=key xs.toList;simpa using this
 rw[e]
theorem Lg{α:Type}(xs:Array α):∀(pl:List Nat),(∀p∈pl,p<xs.size)->∀i:Nat,(pl.filterMap fun p=>xs[p]?)[i]? =(pl[i]?).bind fun p=>xs[p]?
 |[],_,i=>by simp
 |p::pl,h,i=>by
  have hp:=h p nG;rw[RG,Qp hp];cases i with
  |zero=>simp[hp]
  |succ i=>simpa using Lg xs pl (fun q hq=>h q (jr _ hq)) i
theorem CJ{R:Result->Shared->Prop}{d:Addr}{es:Array (Int×Value)}{ep:Nat}{t:SetTable}(hh:A.handled=none)(S:bL w s.heap d es ep t)(hz:es.size<=1000)(l:Addr)(res:Value)(c₀:Nat)(hl:s.heap.get? l=some {cls:= .type "list",data:= .seq #[] c₀})(hR:∀h' tk dr acc' c',(∀b o,b≠l->s.heap.get? b=some o->h'.get? b=some o)->h'.get? l=some {cls:= .type "list",dict:=none,data:= .seq acc' c',slots:=#[]}->
   acc'.toList.Perm (es.toList.map (·.2))->R (.ok (.ret res)) {s with heap:=h',toks:=tk,drawn:=dr}):
  wpAny (model prog w) A.in1 (Builtin.List.listExtendWith (.ref l) (.ref d) res)
   (fun fin s'=>match fin with | .done f=>R (.ok f) s'| .again c'=>c'.quiet=true/\codeAny (model prog w) A c' R s') (fun e s'=>R (.error e) s') s:=by
 obtain⟨od,ho,hx,hdat⟩:=S.ob;have Z0:l≠d:=fun e=>by
  rw[e,ho]at hl;cases hl;cases hdat
 have KR:l<s.heap.objs.size:=cU hl;have Ub:d<s.heap.objs.size:=cU ho;have ps:t.place.size=es.size:=by have:=S.fits;unfold SetTable.fits at this;simp at this;exact this.1
 -- from a walk that stands at its start
 have key:∀(h:Heap) (I:Addr) (fp:List Addr) (P:Nat->Value->Prop) (St:Nat->Heap->Prop) (dr:Drawn) (W:Walks prog w A.in1 I fp [I] es.size P St),l∉fp->s.heap.objs.size<=I->(∀acc,ItemsOf P acc es.size->acc.toList.Perm (es.toList.map (·.2)))->
   bL w h d es ep t->(∀b o,s.heap.get? b=some o->h.get? b=some o)->St 0 h->
   wpAny (model prog w) A.in1 (do
     let room<-holding [Value.ref I] (Builtin.List.listLengthHint (.ref d))
     if(room||true)=true then do rule "list.extend.makes-room";Builtin.List.listTouch (.ref l)
     again (.builtin "list.extend.loop" ⟨[.ref l,.ref I,res],[]⟩))
    (fun fin s'=>match fin with | .done f=>R (.ok f) s'| .again c'=>c'.quiet=true/\codeAny (model prog w) A c' R s') (fun e s'=>R (.error e) s') {s with heap:=h,drawn:=dr}:=by
  intro h I fp P St dr W hlf hI hP hS hk st;have hlI:l≠I:=dB (jw KR hI);refine ao (Dz (KY (s:={s with heap:=h,drawn:=dr}) hS ?_));refine Al (fun _=> ?_) (fun hab=>absurd rfl hab);refine ao (Iv ?_);refine ao ?_;show wpAny _ _ (updateSeq l (·.push .none)>>=fun _=>updateSeq l (·.pop)) _ _ _;have hl1:=hk _ _ hl;refine ao (wpAny_updateSeq hl1 rfl ?_);have hl2:=Qo (Obj.mapSeq (·.push Value.none)) hl1 rfl;refine wpAny_updateSeq (hz:=by seq_fits) hl2 rfl ?_;have hl3:=Qo (Obj.mapSeq (·.pop)) hl2 rfl;have keep:∀b o,b≠l->h.get? b=some o->((h.update l (Obj.mapSeq (·.push Value.none))).update l (Obj.mapSeq (·.pop))).get? b=some o:=fun b o hb e=>(Wh _ _ (lO hb)).trans ((Wh _ _ (lO hb)).trans e);have st':=W.frame 0 _ _ st fun b hb o e=>keep b o (fun q=>hlf (q▸hb)) e;refine aM ⟨plainId_quiet F.plain_extend_loop _,?_⟩;refine codeAny_extend_loopS W.toS (by rw[eX];omega) l hlf res es.size 0 _ #[] _ rfl (cG _) st' hl3 (ItemsOf.nil _) fun s' acc' c' hmv hS' hacc=> ?_;rw[Moved.eq_with hmv];refine hR s'.heap s'.toks dr acc' c' (fun b o hb e=>hmv.heap b o (fun hmem=> ?_) (keep b o hb (hk b o e))) hS' (hP acc' hacc);rcases cJ.mp hmem with e'|hmem
  ·exact hb e'
  ·have:=cU e;rw[ji.mp hmem]at this;exact absurd (jw this hI) (uy _)
 unfold Builtin.List.listExtendWith;refine ao (RK (T:="set") S.typeIs ?_);have h1:Builtin.List.listSameRef (.ref l) (.ref d)=false:=by simp[Builtin.List.listSameRef,Z0]
 have h2:(Value.type "set"==Value.type "list")=false:=by decide
 have h3:(Value.type "set"==Value.type "tuple")=false:=by decide
 simp only[h1,h2,h3,Bool.or_false,wea,Vg];refine ao (KQ S hz (fun hm=> ?_) fun pl dr hp=> ?_)
 ·by_cases hb:w.params.followText "set-order"=true
  ·have W:=Walks.setInt (prog:=prog) (w:=w) (A:=A.in1) hh s.heap.objs.size d (dB Ub) es ep t ((pickOrder (w.params.setOrder d ep) es).toList.map (·.2)) (by rw[aJ,(qe _ es).length_eq,uW]) (fun _=>0)
    (fun i s Q' E' _ S' q=>GD S' hb (by rw[dW,Option.map_map,Vf]at q;exact q))
   have k:=key (s.heap.push (Ge (.int 0 0) d es.size ep)) _ _ _ _ s.drawn W (by simp;exact⟨dB KR,Z0⟩) (aN _) (fun acc ha=>by
     have e:=mW (L:=(pickOrder (w.params.setOrder d ep) es).toList.map (·.2)) (acc:=acc) (by rw[aJ,(qe _ es).length_eq,uW];exact ha);rw[e];exact(qe _ es).map _) (S.push _) (fun b o e=>cL _ e) ⟨⟨_,gY _ rfl,rfl,rfl⟩,S.push _⟩
   exact k
  ·have hb:w.params.followText "set-order"=false:=by simpa using hb
   have hd:(!t.plain&&decide (es.size>1))=false:=hm.resolve_left (by rw[hb];decide);have W:=Walks.setInt (prog:=prog) (w:=w) (A:=A.in1) hh s.heap.objs.size d (dB Ub) es ep t (es.toList.map (·.2)) (by simp) (bK t)
    (fun i s Q' E' hi S' q=>GF S' hb hd hi (by rw[dW,Option.map_map,Vf]at q;exact q))
   have k:=key (s.heap.push (Ge (.int 0 0) d es.size ep)) _ _ _ _ s.drawn W (by simp;exact⟨dB KR,Z0⟩) (aN _) (fun acc ha=>by
     have e:=mW (L:=es.toList.map (·.2)) (acc:=acc) (by rw[aJ,uW];exact ha);rw[e]) (S.push _) (fun b o e=>cL _ e) ⟨⟨_,gY _ rfl,rfl,rfl⟩,S.push _⟩
   exact k
 ·have W:=Walks.setRef (prog:=prog) (w:=w) (A:=A.in1) hh (s.heap.objs.size+1) d s.heap.objs.size (dB (pQ Ub)) (dB (ur _)) es ep t pl hp;have g0:(s.heap.push (n6 pl)).get? s.heap.objs.size=some (n6 pl):=gY _ rfl;have k:=key ((s.heap.push (n6 pl)).push (Ge (.ref s.heap.objs.size) d es.size ep)) _ _ _ _ dr W (by simp;exact⟨dB (pQ KR),Z0,dB KR⟩) (HF _) (fun acc ha=>by
    have hl':pl.length=es.size:=by rw[hp.length_eq,rC]
    have e:acc.toList=(pl.filterMap fun p=>es[p]?).map (·.2):=by
     have ll:((pl.filterMap fun p=>es[p]?).map (·.2)).length=es.size:=by rw[aJ,(jM es hp).length_eq,uW]
     refine mW (L:=(pl.filterMap fun p=>es[p]?).map (·.2)) ?_;rw[ll];refine⟨ha.1,fun i v hv=> ?_⟩;obtain⟨p,x,q1,q2,rfl⟩:=ha.2 i v hv;rw[dW,Lg es pl (fun p hp'=>pO.mp (hp.mem_iff.mp hp')),q1];show(es[p]?).map _=_;rw[q2];rfl
    rw[e];exact(jM es hp).map _) ((S.push _).push _) (fun b o e=>cL _ (cL _ e))
    ⟨⟨Ge (.ref s.heap.objs.size) d es.size ep,by rw[<-rQ s.heap (n6 pl)];exact gY _ rfl,rfl,rfl⟩,(S.push _).push _,⟨_,cL _ g0,rfl,_,rfl⟩⟩
  exact k
end
end PySem
namespace PySem
open L2 (TabOk qy KD yO rT)
section
variable{prog:Program}{w:World}{A:Around}{E:L3}{s:Shared}
def gH(prog:Program)(w:World)(h:Heap)(d:Addr)(S:Int->Bool)(n:Nat):Prop:=
 ∃o es ep t,h.get? d=some o/\o.ExactSet/\o.data= .set es ep t/\ElemsOf (intKind prog w) es.toList/\(∀k,S k=true↔∃e∈es.toList,(intKind prog w).is k e.2=true)/\es.size<scanBound/\t.fits es.size=true/\es.size=n/\TabOk (!w.params.followText "set-order") t
theorem gH.at{h h':Heap}{d:Addr}{S:Int->Bool}{n:Nat}(g:gH prog w h d S n)(e:∀o,h.get? d=some o->h'.get? d=some o):gH prog w h' d S n:=let⟨o,es,ep,t,ho,r⟩:=g;⟨o,es,ep,t,e _ ho,r⟩
theorem gH.congr{h:Heap}{d:Addr}{S S':Int->Bool}{n n':Nat}(g:gH prog w h d S n)(e:∀k,S k=S' k)(en:n=n'):gH prog w h d S' n':=by
 have:S=S':=funext e;subst this;subst en;exact g
theorem gH.store{h:Heap}{d:Addr}{o:Obj}{es:Array (Int×Value)}{ep:Nat}{t:SetTable}(ho:h.get? d=some o)(hx:o.ExactSet)(hd:o.data= .set es ep t)
  {es':Array (Int×Value)}{t':SetTable}{S:Int->Bool}(el:ElemsOf (intKind prog w) es'.toList)(mem:∀k,S k=true↔∃e∈es'.toList,(intKind prog w).is k e.2=true)(lt:es'.size<scanBound)(ft:t'.fits es'.size=true)(tb:TabOk (!w.params.followText "set-order") t'):
  (h.update d (Obj.putSet es' t')).get? d=some {o with data:= .set es' (ep+1) t'}/\gH prog w (h.update d (Obj.putSet es' t')) d S es'.size:=by
 obtain⟨g,_⟩:=SetOf_store (knd:=intKind prog w) ho hx hd el mem lt ft;exact⟨g,_,es',ep+1,t',g,hx,rfl,el,mem,lt,ft,rfl,tb⟩
theorem DP{gw:Bool->Sem Unit}(hg:∀(b:Bool) (s₁:Shared) (Q':Unit->Shared->Prop),Q' () s₁->wpAny (model prog w) A (gw b) Q' E s₁){d:Addr}{o:Obj}{es:Array (Int×Value)}{ep:Nat}{t:SetTable}(ho:s.heap.get? d=some o)(hx:o.ExactSet)(hd:o.data= .set es ep t){es1:Array (Int×Value)}{t1:SetTable}{S:Int->Bool}(el:ElemsOf (intKind prog w) es1.toList)(mem:∀k,S k=true↔∃e∈es1.toList,(intKind prog w).is k e.2=true)(lt:es1.size<scanBound)(ft:t1.fits es1.size=true)(tb:TabOk (!w.params.followText "set-order") t1){was:Bool}{R:Option Bool->Shared->Prop}(q:∀h',Heap.SameBut d s.heap h'->gH prog w h' d S es1.size->R (some true) {s with heap:=h'}):
  wpAny (model prog w) A (do
    storeSet d es1 t1
    if(!was&&t1.tooFull)=true then do
      gw (relayAll t1 es1 (SetTable.grown es1.size)).2.2
      storeSet d (relayAll t1 es1 (SetTable.grown es1.size)).1 (relayAll t1 es1 (SetTable.grown es1.size)).2.1
      pure (some true)
     else pure (some true)) R E s:=by
 refine ao (wpAny_storeSet_of ho hd ?_ (fits_of_scanBound lt));obtain⟨g1,G1⟩:=gH.store (prog:=prog) (w:=w) ho hx hd el mem lt ft tb;have b1:=Gb s.heap d (Obj.putSet es1 t1);refine Al (fun _=> ?_) fun _=>aM (q _ b1 G1);have pm:=relayAll_perm t1 es1 (SetTable.grown es1.size);have ff:=relayAll_fits t1 es1 (SetTable.grown es1.size);have tt:=yO tb es1 (SetTable.grown es1.size);generalize relayAll t1 es1 (SetTable.grown es1.size)=r at pm ff tt⊢;obtain⟨es2,t2,gv⟩:=r;dsimp only at pm ff tt⊢;have sz:es2.size=es1.size:=by rw[<-uW,pm.length_eq,uW]
 refine ao (hg _ _ _ (ao (wpAny_storeSet_of g1 rfl ?_ (fits_of_scanBound (by rw[sz];exact lt)))));obtain⟨_,G2⟩:=gH.store (prog:=prog) (w:=w) (S:=S) g1 hx rfl (el.perm pm) (fun k=>(mem k).trans ⟨fun⟨e,he,z⟩=>⟨e,pm.mem_iff.mpr he,z⟩,fun⟨e,he,z⟩=>⟨e,pm.mem_iff.mp he,z⟩⟩) (by rw[sz];exact lt) ff tt;rw[sz]at G2;exact aM (q _ (b1.trans (Gb _ d _)) G2)
theorem U3{d:Addr}{S:Int->Bool}{n:Nat}{k:Int}{x:Value}{Q:Bool->Shared->Prop}(hk:(intKind prog w).is k x=true)(hs:x.scannable=true)(G:gH prog w s.heap d S n)(room:n+1<scanBound)(q:∀h' b,Heap.SameBut d s.heap h'->gH prog w h' d (fun k'=>S k'||decide (k'=k)) (if S k then n else n+1)->Q b {s with heap:=h'}):wpAny (model prog w) A (setAddHashed d x ((intKind prog w).hash k)) Q E s:=by
 obtain⟨o,es,ep,t,ho,hx,hd,el,mem,lt,ft,en,tb⟩:=G;unfold setAddHashed setAddHashedIn;refine Dz (ao (wpAny_setState_of ho hd ft ?_));dsimp only;rw[byScan_of hs lt el];simp only[↓reduceIte];unfold setAddByScan;refine ao (ao (Iv (ao (wpAny_setScan_of hk ho hd ft el ?_))));cases z:List.findIdx? (fun e=>(intKind prog w).is k e.2) es.toList with
 |some j=>
  obtain⟨hj,pj,_⟩:=List.findIdx?_eq_some_iff_getElem.mp z;have yes:S k=true:=(mem k).mpr ⟨es.toList[j],Nb hj,pj⟩;refine aM (aM ?_);have r:=q s.heap false (Heap.SameBut.refl d s.heap) ⟨o,es,ep,t,ho,hx,hd,el,fun k'=>by
   rw[wfo,Ga,<-mem k'];exact⟨fun y=>y.elim id fun e=>e▸yes,.inl⟩,lt,ft,by rw[yes];exact en,tb⟩
  exact r
 |none=>
  dsimp only;have no:S k=false:=by
   cases y:S k with
   |false=>rfl
   |true=>
    obtain⟨e,he,p⟩:=(mem k).mp y;have:=List.findIdx?_eq_none_iff.mp z e he;rw[p]at this;cases this
  have gwk:∀(b:Bool) (s₁:Shared) (Q':Unit->Shared->Prop),Q' () s₁->wpAny (model prog w) A (match b with |true=>rule "set.scan.the-table-gave-way"|false=>pure ()) Q' E s₁:=fun b s₁ Q' y=>by cases b<;>first |exact aM y|exact Iv y
  have pm:=layNew_perm t es ((intKind prog w).hash k) x;have ff:=layNew_fits t es ((intKind prog w).hash k) x;have tt:=KD tb es ((intKind prog w).hash k) x;generalize layNew t es ((intKind prog w).hash k) x=r at pm ff tt⊢;obtain⟨es1,t1,was,gv⟩:=r;dsimp only at pm ff tt⊢;rw[Array.toList_push]at pm;have el1:ElemsOf (intKind prog w) es1.toList:=(el.push hk hs).perm pm;have W7:=mem_push_iff (knd:=intKind prog w) hk mem pm;have sz:es1.size=n+1:=by rw[<-uW,pm.length_eq,gD,uW,en];rfl
  have Xe:es1.size<scanBound:=by rw[sz];exact room
  refine ao (gwk _ _ _ ?_);have fin:∀h',Heap.SameBut d s.heap h'->gH prog w h' d (fun k'=>S k'||decide (k'=k)) es1.size->wpAny (model prog w) A (match some true with |some added=>pure added|none=>setAddHashedIn d x ((intKind prog w).hash k) 99999) Q E {s with heap:=h'}:=fun h' sb g=>by
   have r:=q h' true sb (by rw[no];rw[sz]at g;exact g);exact aM r
  split
  ·refine ao ?_;rw[hashByValue_scannable 8 hs];refine aM (DP gwk ho hx hd el1 W7 Xe ?_ ?_ fin)
   ·split
    ·exact ff
    ·exact SetTable.fits_plain_off ff
   ·split
    ·exact tt
    ·exact rT tt
  ·refine ao (aM ?_);simp only[↓reduceIte];exact DP gwk ho hx hd el1 W7 Xe ff tt fin
end
end PySem
namespace L2
open PySem PySem.Spec PyProof.Rows
section
variable{prog:Program}{w:World}{A:Around}{E:L3}{s:Shared}
theorem lU(a:Value){Q₁:L3}(h:Q₁ (.ref s.heap.objs.size) {s with heap:=s.heap.push {cls:= .type "set",dict:=none,data:= .set #[] 0 (.fresh 0 0 (!w.params.followText "set-order"))}}):
  codeAny (model prog w) A (.call (.builtin "set.__new__") ⟨[.type "set",a],[]⟩) (wants Q₁ E) s:=by
 refine wfp ?_;show wpAny _ A.in1 (do checkBuiltinCall "set.__new__" ⟨[.type "set",a],[]⟩;again (.builtin "set.__new__" ⟨[.type "set",a],[]⟩)) _ _ s;refine ao (Ze (PySem.F.newCall_set_1 a) (aM ⟨plainId_quiet wfq _,Nk PySem.F.entry_set_new ?_⟩));rw[ZK wfq _];unfold Builtin.«set.__new__» Builtin.Frozenset.newClass;have hsub:=sub_set_self;obtain⟨hp,g,d,tk,os⟩:=s;dsimp only
 wp_walk
 refine wfd (aM ?_);dsimp only;simp only[newObj];refine ao (wpAny_alloc (aM ?_));exact aM h
end
section
variable{prog:Program}{w:World}{A:Around}{R:Result->Shared->Prop}{I:Addr}{fp wr:List Addr}{G:Array GenState->Array GenState->Prop}{n:Nat}{P:Nat->Value->Prop}{St:Nat->Shared->Prop}
theorem Q6(W:WalksS prog w A.in1 I fp wr G n P St)(D:Addr)(hD:D∉fp)(val:Nat->Int)(hv:∀i v,P i v->∃t,v= .int (val i) t)(hb:n+1<scanBound):
  ∀(k i:Nat) (s:Shared),n-i=k->i<=n->St i s->gH prog w s.heap D (fun k'=>(firstMet val i).any (· ==k')) (firstMet val i).length->
   (∀s',Moved (D::wr) G s s'->gH prog w s'.heap D (fun k'=>(firstMet val n).any (· ==k')) (firstMet val n).length->R (.ok (.ret .none)) s')->
   codeAny (model prog w) A (.builtin "set.update.loop" ⟨[.ref D,.ref I],[]⟩) R s:=by
 have hw:D∉wr:=fun h=>hD (W.sub _ h);have sub:∀b∈wr,b∈D::wr:=fun b hb=>jr _ hb;intro k
 induction k with
 |zero=>
  intro i s hk hi st g hR;obtain rfl:i=n:=by omega
  refine Nk wcd ?_;rw[ZK wbn _];show wpAny _ A.in1 (pyNext (.ref I)>>=_) _ _ s;refine ao (W.done s _ _ st fun s' hm=> ?_);show wpAny _ A.in1 (ret Value.none) _ _ s';exact aM (hR s' (hm.mono sub) (g.at fun o e=>hm.heap D _ hw e))
 |succ k ih=>
  intro i s hk hi st g hR;have lt:i<n:=by omega
  refine Nk wcd ?_;rw[ZK wbn _];show wpAny _ A.in1 (pyNext (.ref I)>>=_) _ _ s;refine ao (W.item i s _ _ lt st fun v s' hP st' hm=> ?_);obtain⟨t,rfl⟩:=hv i v hP;have g':=g.at (h':=s'.heap) fun o e=>hm.heap D _ hw e;show wpAny _ A.in1 (holding [Value.int (val i) t] (setAdd D (.int (val i) t))>>=_) _ _ s';refine ao (Dz ?_);unfold setAdd;refine Dz (ao ((intKind prog w).pyHash (k:=val i) (intKind_is _ _ _ _) ?_));refine U3 (s:={s' with toks:=s'.toks+1}) (intKind_is _ _ _ _) rfl g' (by have:=firstMet_length_le val i;omega) fun h' _ sb g2=> ?_;refine aM ⟨plainId_quiet wbn _,ih (i+1) _ (by omega) lt (W.frame _ s' _ _ st' (HF _) fun b hb o e=> ?_) (g2.congr (fun k'=>by rw[Zj,step_any]) (by rw[Zj,step_length])) fun s'' hm'' g3=> ?_⟩
  ·rw[sb.2 b (fun h:b=D=>hD (by rw[<-h];exact hb))];exact e
  ·refine hR s'' (Moved.trans W.gtrans ((hm.mono sub).then_heap (HF _) fun b o hb e=> ?_) hm'') g3;rw[sb.2 b (fun h:b=D=>hb (by rw[h];exact nG))];exact e
end
section
variable{prog:Program}{w:World}{A:Around}{E:L3}{s:Shared}
theorem Br{t:Addr}{its:Array Value}{ns:List Int}{Q:L3}(hA:A.handled=none)(ht:s.heap.IsTuple t its)(hI:PyProof.Rows.IntsAre its.toList ns)(hz:its.size+1<scanBound)(fin:∀(g:Heap) (tk:Nat),gH prog w g s.heap.objs.size (fun k'=>(firstMet (fun i=>ns.getD i 0) its.size).any (· ==k')) (firstMet (fun i=>ns.getD i 0) its.size).length->(∀b o,b<s.heap.objs.size->s.heap.get? b=some o->g.get? b=some o)->Q (.ref s.heap.objs.size) {s with heap:=g,toks:=tk}):
  wpAny (model prog w) A (call (.type "set") [.ref t]) Q E s:=by
 obtain⟨c,tl,q1⟩:=F.called_set.mro;have q2:=F.called_set.made;have q3:=F.called_set.sub;refine wpAny_call (wfp ?_);show wpAny _ _ (callAny (.type "set") _) _ _ _;refine aM ⟨ZG _ (by decide+kernel),Nk wew ?_⟩;rw[Around.under_plain (weight_type_call_type "set" [.ref t] []) rfl];have q4:=F.called_set.notType;have q5:=F.called_set.canCreate;have q6:=F.typeCall_set_1 (.ref t)
 repeat(any_goals(first |assumption|wp_step))
 refine Qw (lU (.ref t) (E:=E) (Q₁:=fun ob u=>ob= .ref s.heap.objs.size/\u={s with heap:=s.heap.push {cls:= .type "set",dict:=none,data:= .set #[] 0 (.fresh 0 0 (!w.params.followText "set-order"))}}) ⟨rfl,rfl⟩) fun r u hr=> ?_;cases r with
 |error e=>exact hr
 |ok fl=>
  cases fl with
  |ret obj=>
   obtain⟨rfl,rfl⟩:=hr;generalize T8:(!w.params.followText "set-order")=led at *;have g0:(s.heap.push {cls:= .type "set",dict:=none,data:= .set #[] 0 (.fresh 0 0 led)}).get? s.heap.objs.size=some {cls:= .type "set",dict:=none,data:= .set #[] 0 (.fresh 0 0 led)}:=gY _ rfl;have g1:Shared.TypeIs {s with heap:=s.heap.push {cls:= .type "set",dict:=none,data:= .set #[] 0 (.fresh 0 0 led)}} (.ref s.heap.objs.size) "set":=⟨_,g0,rfl⟩;have q7:=F.called_set.init.lookup;have q8:=F.called_set.init.bind (.ref s.heap.objs.size)
   repeat(any_goals(first |assumption|wp_step))
   refine Qw (codeAny_call_builtin (R:=wants (fun r s₂=>r= .none/\∃g tk,s₂={s with heap:=g,toks:=tk}/\gH prog w g s.heap.objs.size (fun k'=>(firstMet (fun i=>ns.getD i 0) its.size).any (· ==k')) (firstMet (fun i=>ns.getD i 0) its.size).length/\(∀b o,b<s.heap.objs.size->s.heap.get? b=some o->g.get? b=some o)) E) F.called_set.init.plain F.entry_set_init (check_set_init_1 g1 ?_)) fun r₂ s₂ hr₂=> ?_
   ·obtain⟨⟨oc,od,oda,os⟩,ho,hc,nl,hd⟩:=ht;simp only at hc hd;subst hc hd;have ho':(s.heap.push {cls:= .type "set",dict:=none,data:= .set #[] 0 (.fresh 0 0 led)}).get? t=some {cls:= .type "tuple",dict:=od,data:= .seq its nl,slots:=os}:=cL _ ho;have b1:=PySem.F.sub_tuple_set;have b2:=PySem.F.sub_tuple_frozenset;have b3:(Value.type "tuple"==Value.type "dict")=false:=by decide
    have ht1:(s.heap.push {cls:= .type "set",dict:=none,data:= .set #[] 0 (.fresh 0 0 led)}).IsTuple t its:=⟨_,ho',rfl,nl,rfl⟩;unfold Builtin.«set.__init__» noKeywords Builtin.Frozenset.updateFrom;generalize hPI:pyIter=PI
    wp_walk
    subst hPI;refine Vo ht1 (ao (Zo ?_));have lt:t<s.heap.objs.size:=cU ho;have XF:A.in1.in1.in1.handled=none:=by simp[hA]
    have nI:t≠(s.heap.push {cls:= .type "set",dict:=none,data:= .set #[] 0 (.fresh 0 0 led)}).objs.size:=by rw[rQ];exact dB (pQ lt)
    have nf:s.heap.objs.size∉[(s.heap.push {cls:= .type "set",dict:=none,data:= .set #[] 0 (.fresh 0 0 led)}).objs.size,t]:=by
     rw[rQ];simp only[cJ,ji,xT,xW,not_or];exact⟨dB (ur _),Ik lt⟩
    refine Q6 ((Walks.tuple XF _ t nI its).toS) s.heap.objs.size nf (fun i=>ns.getD i 0) (fun i v hv=>IntsAre.int_at hI i v (by rw[Vf];exact hv)) hz (its.size-0) 0 _ (by omega) (cG _)
     ⟨⟨_,gY _ rfl,rfl,rfl⟩,ht1.at fun o e=>cL _ e⟩ ?hS0 ?hR
    case hS0=>exact⟨_,#[],0,_,cL _ g0,⟨rfl,rfl,rfl⟩,rfl,fun e he=>by simp at he,fun k=>by simp[firstMet],by unfold scanBound;simp,rfl,rfl,by rw[T8];exact zH led⟩
    case hR=>
     intro s' hm hS';obtain⟨g,g',d',tk',os'⟩:=s';obtain⟨rfl,rfl,rfl⟩:g'=s.gens/\d'=s.drawn/\os'=s.os:=⟨hm.gens,hm.drawn,hm.os⟩;show wpAny _ _ _ _ _ _;refine aM ?_;show wpAny _ _ (ret Value.none) _ _ _;refine aM ⟨rfl,g,tk',rfl,hS',fun b o hb e=>hm.heap b o ?_ (cL _ (cL _ e))⟩;have n1:b≠s.heap.objs.size:=dB hb;have n2:b≠(s.heap.push {cls:= .type "set",dict:=none,data:= .set #[] 0 (.fresh 0 0 led)}).objs.size:=by rw[rQ];exact dB (pQ hb)
     simp only[cJ,ji,xT,xW,not_or];exact⟨n1,n2⟩
   ·cases r₂ with
    |error e=>exact hr₂
    |ok fl₂=>
     cases fl₂ with
     |ret r=>
      obtain⟨rfl,g,tk,rfl,hS',hk'⟩:=hr₂
      repeat(any_goals(first |assumption|wp_step))
      exact fin _ _ hS' hk'
     |_=>exact hr₂.elim
  |_=>exact hr.elim
theorem Gf{t:Addr}{its:Array Value}{ns:List Int}{Q:L3}(hA:A.handled=none)(ht:s.heap.IsList t its)(hI:PyProof.Rows.IntsAre its.toList ns)(hz:its.size+1<scanBound)(fin:∀(g:Heap) (tk:Nat),gH prog w g s.heap.objs.size (fun k'=>(firstMet (fun i=>ns.getD i 0) its.size).any (· ==k')) (firstMet (fun i=>ns.getD i 0) its.size).length->(∀b o,b<s.heap.objs.size->s.heap.get? b=some o->g.get? b=some o)->Q (.ref s.heap.objs.size) {s with heap:=g,toks:=tk}):
  wpAny (model prog w) A (call (.type "set") [.ref t]) Q E s:=by
 obtain⟨c,tl,q1⟩:=F.called_set.mro;have q2:=F.called_set.made;have q3:=F.called_set.sub;refine wpAny_call (wfp ?_);show wpAny _ _ (callAny (.type "set") _) _ _ _;refine aM ⟨ZG _ (by decide+kernel),Nk wew ?_⟩;rw[Around.under_plain (weight_type_call_type "set" [.ref t] []) rfl];have q4:=F.called_set.notType;have q5:=F.called_set.canCreate;have q6:=F.typeCall_set_1 (.ref t)
 repeat(any_goals(first |assumption|wp_step))
 refine Qw (lU (.ref t) (E:=E) (Q₁:=fun ob u=>ob= .ref s.heap.objs.size/\u={s with heap:=s.heap.push {cls:= .type "set",dict:=none,data:= .set #[] 0 (.fresh 0 0 (!w.params.followText "set-order"))}}) ⟨rfl,rfl⟩) fun r u hr=> ?_;cases r with
 |error e=>exact hr
 |ok fl=>
  cases fl with
  |ret obj=>
   obtain⟨rfl,rfl⟩:=hr;generalize T8:(!w.params.followText "set-order")=led at *;have g0:(s.heap.push {cls:= .type "set",dict:=none,data:= .set #[] 0 (.fresh 0 0 led)}).get? s.heap.objs.size=some {cls:= .type "set",dict:=none,data:= .set #[] 0 (.fresh 0 0 led)}:=gY _ rfl;have g1:Shared.TypeIs {s with heap:=s.heap.push {cls:= .type "set",dict:=none,data:= .set #[] 0 (.fresh 0 0 led)}} (.ref s.heap.objs.size) "set":=⟨_,g0,rfl⟩;have q7:=F.called_set.init.lookup;have q8:=F.called_set.init.bind (.ref s.heap.objs.size)
   repeat(any_goals(first |assumption|wp_step))
   refine Qw (codeAny_call_builtin (R:=wants (fun r s₂=>r= .none/\∃g tk,s₂={s with heap:=g,toks:=tk}/\gH prog w g s.heap.objs.size (fun k'=>(firstMet (fun i=>ns.getD i 0) its.size).any (· ==k')) (firstMet (fun i=>ns.getD i 0) its.size).length/\(∀b o,b<s.heap.objs.size->s.heap.get? b=some o->g.get? b=some o)) E) F.called_set.init.plain F.entry_set_init (check_set_init_1 g1 ?_)) fun r₂ s₂ hr₂=> ?_
   ·obtain⟨⟨oc,od,oda,os⟩,ho,hc,nl,hd⟩:=ht;simp only at hc hd;subst hc hd;have ho':(s.heap.push {cls:= .type "set",dict:=none,data:= .set #[] 0 (.fresh 0 0 led)}).get? t=some {cls:= .type "list",dict:=od,data:= .seq its nl,slots:=os}:=cL _ ho;have b1:=PySem.F.sub_list_set;have b2:=PySem.F.sub_list_frozenset;have b3:(Value.type "list"==Value.type "dict")=false:=by decide
    have ht1:(s.heap.push {cls:= .type "set",dict:=none,data:= .set #[] 0 (.fresh 0 0 led)}).IsList t its:=⟨_,ho',rfl,nl,rfl⟩;unfold Builtin.«set.__init__» noKeywords Builtin.Frozenset.updateFrom;generalize hPI:pyIter=PI
    wp_walk
    subst hPI;refine Vm ht1 (ao (Zo ?_));have lt:t<s.heap.objs.size:=cU ho;have XF:A.in1.in1.in1.handled=none:=by simp[hA]
    have nI:t≠(s.heap.push {cls:= .type "set",dict:=none,data:= .set #[] 0 (.fresh 0 0 led)}).objs.size:=by rw[rQ];exact dB (pQ lt)
    have nf:s.heap.objs.size∉[(s.heap.push {cls:= .type "set",dict:=none,data:= .set #[] 0 (.fresh 0 0 led)}).objs.size,t]:=by
     rw[rQ];simp only[cJ,ji,xT,xW,not_or];exact⟨dB (ur _),Ik lt⟩
    refine Q6 ((Walks.list XF _ t nI its).toS) s.heap.objs.size nf (fun i=>ns.getD i 0) (fun i v hv=>IntsAre.int_at hI i v (by rw[Vf];exact hv)) hz (its.size-0) 0 _ (by omega) (cG _)
     ⟨⟨_,gY _ rfl,rfl,rfl⟩,ht1.push _⟩ ?hS0 ?hR
    case hS0=>exact⟨_,#[],0,_,cL _ g0,⟨rfl,rfl,rfl⟩,rfl,fun e he=>by simp at he,fun k=>by simp[firstMet],by unfold scanBound;simp,rfl,rfl,by rw[T8];exact zH led⟩
    case hR=>
     intro s' hm hS';obtain⟨g,g',d',tk',os'⟩:=s';obtain⟨rfl,rfl,rfl⟩:g'=s.gens/\d'=s.drawn/\os'=s.os:=⟨hm.gens,hm.drawn,hm.os⟩;show wpAny _ _ _ _ _ _;refine aM ?_;show wpAny _ _ (ret Value.none) _ _ _;refine aM ⟨rfl,g,tk',rfl,hS',fun b o hb e=>hm.heap b o ?_ (cL _ (cL _ e))⟩;have n1:b≠s.heap.objs.size:=dB hb;have n2:b≠(s.heap.push {cls:= .type "set",dict:=none,data:= .set #[] 0 (.fresh 0 0 led)}).objs.size:=by rw[rQ];exact dB (pQ hb)
     simp only[cJ,ji,xT,xW,not_or];exact⟨n1,n2⟩
   ·cases r₂ with
    |error e=>exact hr₂
    |ok fl₂=>
     cases fl₂ with
     |ret r=>
      obtain⟨rfl,g,tk,rfl,hS',hk'⟩:=hr₂
      repeat(any_goals(first |assumption|wp_step))
      exact fin _ _ hS' hk'
     |_=>exact hr₂.elim
  |_=>exact hr.elim
end
end L2
namespace qN
open PySem PySem.W PyProof.Rows PySem.Calls
section
variable{prog:Program}{w:World}{A:Around}{E:L3}{s:Shared}
theorem zV{d:Addr}{es:Array (Int×Value)}{ep:Nat}{t:SetTable}{Q:List Value->Shared->Prop}(hA:A.handled=none)(S:bL w s.heap d es ep t)(hz:es.size<=1000)(h:∀h' tk dr items,(∀b o,s.heap.get? b=some o->h'.get? b=some o)->s.heap.objs.size<=h'.objs.size->List.Perm items (es.toList.map (·.2))->Q items {s with heap:=h',toks:=tk,drawn:=dr}):
  wpAny (model prog w) A (collect (.ref d)) Q E s:=by
 unfold collect;refine ao (Zo (Nk entry_proto_collect' ?_));show wpAny _ _ (do again (.builtin "list.__iadd__" ⟨[<-newList [],.ref d],[]⟩)) _ _ s;refine ao (Vl (aM ⟨ZG _ (by decide+kernel),Nk entry_list_iadd' ?_⟩));rw[ZK PySem.F.plain_list_iadd _];show wpAny _ _ (Builtin.List.listExtendWith (.ref s.heap.objs.size) (.ref d) (.ref s.heap.objs.size)) _ _ {s with heap:=s.heap.push (seqObj "list" #[] 0)};refine CJ (R:=fun r s'=>match r with
   | .ok (.ret v)=>wpAny (model prog w) A (match v with
    | .ref a=>do match(<-load a).data with
     | .seq xs _=>pure xs.toList
     |_=>unsupported "internal:collect"
    |_=>unsupported "internal:collect") Q E s'
   | .ok _=>False
   | .error e=>E e s') (s:={s with heap:=s.heap.push (seqObj "list" #[] 0)}) (by simpa using hA) (S.push _) hz s.heap.objs.size _ 0 (gY _ rfl) fun h' tk dr acc c keep hl pm=> ?_
 show wpAny (model prog w) A (load s.heap.objs.size>>=_) Q E _;refine ao (wpAny_load hl ?_);exact aM (h h' tk dr acc.toList (fun b o e=>keep b o (dB (cU e)) (cL _ e)) (cR (cU hl)) pm)
end
end qN
namespace L2
open PySem PySem.Spec PyProof.Rows
def iv:Value->Int
 | .int k _=>k
 |_=>0
theorem DG:∀{us:List Value},(∀v∈us,∃k t,v= .int k t)->Vals ((us.map iv).map V.int) us
 |[],_=> .nil
 |v::us,h=>by
  obtain⟨k,t,rfl⟩:=h v nG;exact .cons ⟨t,rfl⟩ (DG fun u hu=>h u (jr _ hu))
theorem QZ:∀{c t:List Int},c.Nodup->(∀x∈c,x∈t)->c.length<=t.length
 |[],_,_,_=>cG _
 |x::c,t,nd,h=>by
  have hx:=h x nG;rw[Il]at nd;have z:=QZ (c:=c) (t:=t.erase x) nd.2 fun y hy=>(wdd (fun e:y=x=>nd.1 (e▸hy))).mpr (h y (jr _ hy));rw[wcg hx]at z;have p:0<t.length:=Wg hx;rw[uz];omega
theorem GK:∀{c t:List Int},c.Nodup->(∀x∈c,x∈t)->t.length<=c.length->t.Nodup:=by
 intro c t nd sub len;refine QB fun no=> ?_;obtain⟨x,hx⟩:∃x,2<=t.count x:=by
  refine QB fun n2=>no (List.nodup_iff_count.mpr fun a=> ?_);exact Zy fun c2=>n2 ⟨a,c2⟩
 have hm:x∈t:=List.count_pos_iff.mp (by omega);have z:=QZ (c:=c) (t:=t.erase x) nd fun y hy=>by
  by_cases e:y=x
  ·subst e;exact List.count_pos_iff.mp (by rw[List.count_erase_self];omega)
  ·exact(wdd e).mpr (sub y hy)
 rw[wcg hm]at z;have p:0<t.length:=Wg hm;omega
section
variable{prog:Program}{w:World}{s:Shared}
theorem jY(val:Nat->Int):∀n,(firstMet val n).Nodup
 |0=> .nil
 |n+1=>by
  rw[Zj];unfold step_dedup;split
  ·exact jY val n
  ·rename_i h;rw[List.nodup_append];refine⟨jY val n,by simp,fun a ha b hb e=>h ?_⟩;rw[Ry];rw[ji.mp hb]at e;exact⟨a,ha,by simp[e]⟩
theorem Gg{d:Addr}{n:Nat}{val:Nat->Int}(G:gH prog w s.heap d (fun k'=>(firstMet val n).any (· ==k')) (firstMet val n).length):
  ∃es ep t,bL w s.heap d es ep t/\es.size=(firstMet val n).length/\(∀v∈es.toList.map (·.2),∃k t,v= .int k t)/\((es.toList.map (·.2)).map iv).Nodup/\∀k,k∈(es.toList.map (·.2)).map iv↔k∈firstMet val n:=by
 obtain⟨o,es,ep,t,ho,hx,hd,el,mem,lt,ft,en,tb⟩:=G;have Pn:∀v∈es.toList.map (·.2),∃k t,v= .int k t:=fun v hv=>by
  obtain⟨e,he,rfl⟩:=lX.mp hv;obtain⟨⟨k,hk,_⟩,_⟩:=el e he;exact⟨k,wei (k:=k) (v:=e.2) hk⟩
 have mm:∀k,k∈(es.toList.map (·.2)).map iv↔k∈firstMet val n:=fun k=>by
  have m:=mem k;have e1:(firstMet val n).any (· ==k)=true↔k∈firstMet val n:=by
   rw[Ry];exact⟨fun⟨x,hx,e⟩=>by rw[<-beq_iff_eq.mp e];exact hx,fun h=>⟨k,h,by simp⟩⟩
  rw[<-e1,m];constructor
  ·intro h;obtain⟨v,hv,rfl⟩:=lX.mp h;obtain⟨j,tk,rfl⟩:=Pn v hv;obtain⟨e,he,e2⟩:=lX.mp hv;exact⟨e,he,by rw[e2];exact intKind_is _ _ _ _⟩
  ·rintro⟨e,he,z⟩;obtain⟨tk,e2⟩:=wei (k:=k) (v:=e.2) z;exact lX.mpr ⟨e.2,lX.mpr ⟨e,he,rfl⟩,by rw[e2];rfl⟩
 refine⟨es,ep,t,⟨⟨o,ho,hx,hd⟩,ft,tb⟩,en,Pn,?_,mm⟩;exact GK (jY val n) (fun x hx=>(mm x).mpr hx) (by rw[aJ,aJ,uW,en];exact aN _)
end
end L2
namespace qN
open PySem PySem.W PyProof.Rows PySem.Calls
section
variable{prog:Program}{w:World}{A:Around}{E:L3}{s:Shared}
theorem Bl{d:Addr}{es:Array (Int×Value)}{ep:Nat}{t:SetTable}{Q:L3}(hA:A.handled=none)(S:bL w s.heap d es ep t)(h64:es.size<64)(hi:∀v∈es.toList.map (·.2),∃k t,v= .int k t)(q:∀D h' tk dr out c (ys:List Int),ys.Perm ((es.toList.map (·.2)).map L2.iv)->ys.Pairwise (· <= ·)->L2.Vals (ys.map L2.V.int) out->s.heap.objs.size<=D->(∀b o,s.heap.get? b=some o->h'.get? b=some o)->h'.get? D=some (seqObj "list" (List.toArray out) c)->Q (.ref D) {s with heap:=h',toks:=tk,drawn:=dr}):
  wpAny (model prog w) A (call (.builtin "sorted") [.ref d]) Q E s:=by
 refine wcc kind_sorted plain_sorted entry_sorted (args_sorted1 _) ?_;unfold Builtin.«sorted»;refine ao (m:=checkCount "sorted" 1 1 _) (aM (ao (zV (by simpa using hA) S (by omega) fun h1 tk dr vs Q7 le pm=> ?_)));have hi':∀v∈vs,∃k t,v=Value.int k t:=fun v hv=>hi v (pm.mem_iff.mp hv);have rv:=L2.DG hi';have pm':(vs.map L2.iv).Perm ((es.toList.map (·.2)).map L2.iv):=pm.map _;have hl:vs.length=es.size:=by rw[pm.length_eq,aJ,uW]
 have Ph:(vs.map L2.iv).length=vs.length:=aJ _;generalize vs.map L2.iv=ns at *;have pr:=L2.jy rv;have hI:IntsAre vs ns:=L2.intsAre_of rv;refine ao (Vl ?_ (by rw[eX];omega));have hoL:(h1.push (seqObj "list" vs.toArray 0)).get? h1.objs.size=some (seqObj "list" vs.toArray 0):=gY _ rfl;have keep:∀b o,s.heap.get? b=some o->(h1.push (seqObj "list" vs.toArray 0)).get? b=some o:=fun b o e=>cL _ (Q7 b o e);have ne:∀b o,s.heap.get? b=some o->b≠h1.objs.size:=fun b o e=>dB (cU (Q7 b o e));refine ao (Dz (Am slot_list_sort ⟨_,hoL,rfl⟩ entry_list_sort ?body (args_list_sort _)))
 case body=>
  refine iz (O:=tH) (key:=fun i=>ns.getD i 0) (κ:=oneType') (s:={s with heap:=h1.push (seqObj "list" vs.toArray 0),toks:=tk,drawn:=dr}) hoL (by omega)
   (fun h2 h' k Q hq=> ?_) (fun h2 h' k=> ?_) fun h' out c ho k hc=> ?_
  ·rw[ksk_kind (kz:=ns) (by simpa using hI) (by simpa using h2)];exact aM hq
  ·intro i j C hi hj hC;rw[<-Ph]at hi hj;unfold PySem.W.kas_ask;obtain⟨t1,e1⟩:=L2.rH pr i hi;obtain⟨t2,e2⟩:=L2.rH pr j hj;rw[e1,e2];refine PySem.W.kat_lt_int ?_;have hC':C (decide (ns.getD i 0<ns.getD j 0)) _:=hC;have e3:ns.getD i 0=ns[i]:=by simp[hi]
   have e4:ns.getD j 0=ns[j]:=by simp[hj]
   rw[e3,e4]at hC';exact hC'
  ·obtain⟨ys,hp,hr,hw⟩:=qN.v9 (d:=(0:Int)) (f:=fun p=>p) pr (fun i hi=>by show ns.getD i 0=_;simp[hi]) ho;refine⟨_,rfl,aM ⟨_,rfl,q _ h' tk dr out c ys (hp.trans pm') (hw.imp fun{x y} hxy=> ?_) (L2.jO hr) le (fun b o e=>k b o (ne b o e) (keep b o e)) hc⟩⟩;have:decide (y<x)=false:=hxy;have:=Nq this;omega
end
end qN
namespace L2
open PySem PySem.Spec PyProof.Rows
section
variable{X:Cx}{a:Expr}{ta:TA}{p p' pos pos':Pos}
def Jc(K:W.Frag)(ta:TA):TE:=fun σ H Q=>ta σ H fun vs H1=>∃(b:Bool) (l:Addr) (ns:List Int),vs=[.ref l]/\Hw K b H1 l (ns.map V.int)/\ns.length<60/\
 ∀(r:Addr) (ys:List Int),H1 r=none->ys.Pairwise (· < ·)->(∀k,k∈ys↔k∈ns)->Q (.ref r) (upd H1 r (.lst (ys.map V.int)))
theorem vZ(hc:X.calm=true)(Xz:Gl X "sorted")(hmL:X.mg "sorted"=none)(hg:Gl X "set")(hm:X.mg "set"=none)(ha:PA X [a] ta)(hs:starEach [a] X.env=[(false,eval a X.env)]:=by rfl)(hs2:starEach [Expr.Call (.Name "set" p') [a] [] pos'] X.env=[(false,eval (Expr.Call (.Name "set" p') [a] [] pos') X.env)]:=by rfl):
  PE X (.Call (.Name "sorted" p) [.Call (.Name "set" p') [a] [] pos'] [] pos) (Jc X.K ta):=by
 intro pins s σ H Q I h;refine RN (ld_blt I Xz hmL (show bootBuiltins "sorted"=some (.builtin "sorted")from by decide+kernel) ?_ (by decide) (by decide));refine wcw ?_ hs2 rfl;rw[hs2];refine ZJ ?_;refine Call_ (ld_blt I hg hm (show bootBuiltins "set"=some (.type "set")from by decide+kernel) (Mw (thn (ha pos' pins s σ H _ I h) fun us s1 ⟨vs,H1,I1,r1,q1⟩=> ?_) hs rfl));obtain⟨b,l,ns,e,hq,hz,q⟩:=q1;subst e;cases r1 with
 |cons r rr=>
  cases rr;cases r;have main:∀its:List Value,Vals (ns.map V.int) its->∀(g:Heap) (tk:Nat),gH X.prog X.w g s1.heap.objs.size (fun k'=>(firstMet (fun i=>ns.getD i 0) its.toArray.size).any (· ==k')) (firstMet (fun i=>ns.getD i 0) its.toArray.size).length->(∀b o,b<s1.heap.objs.size->s1.heap.get? b=some o->g.get? b=some o)->
    wpAny (model X.prog X.w) X.A (call (.builtin "sorted") [.ref s1.heap.objs.size]) (EP X pins σ Q) X.xe {s1 with heap:=g,toks:=tk}:=by
   intro its rv g tk G keep;have Ph:its.toArray.size=ns.length:=by rw[gW];exact IntsAre.length (intsAre_of rv)
   obtain⟨es,ep,t,S,en,Pn,nd,mm⟩:=Gg (s:={s1 with heap:=g,toks:=tk}) G;have hle:=firstMet_length_le (fun i=>ns.getD i 0) its.toArray.size;have szg:s1.heap.objs.size<=g.objs.size:=by obtain⟨o,ho,_⟩:=S.ob;exact cR (cU ho)
   refine qN.Bl (s:={s1 with heap:=g,toks:=tk}) (I.ok.hd hc) S (by omega) Pn fun D h' tk' dr out c ys hp hw rv' hD k hO=> ?_;have zl:(ys.map V.int).length<=sizeLine:=by
    have h1:=hp.length_eq;have h2:es.toList.length=es.size:=uW;simp only[aJ]at h1;rw[aJ,eX];omega
   have J:Inv X pins σ (upd H1 D (.lst (ys.map V.int))) {s1 with heap:=h',toks:=tk'}:=I1.laid (fun b o e=>k b o (keep b o (cU e) e)) (cC szg hD) ⟨zl,out,c,rv',hO⟩;have J':Inv X pins σ (upd H1 D (.lst (ys.map V.int))) {s1 with heap:=h',toks:=tk',drawn:=dr}:=⟨J.ok,J.os,J.bare,J.base,J.loc,J.cell,J.free,J.freeC,J.pin,J.hok,J.len⟩;refine⟨.ref D,_,J',rfl,q D ys (I1.hok.fresh (cC szg hD)) ?_ fun k=> ?_⟩
   ·have nd':ys.Nodup:=hp.nodup_iff.mpr nd;have both:=hw.and nd';exact both.imp fun{x y} h=>by have:=h.1;have:=h.2;omega
   ·rw[hp.mem_iff,mm,Ph,oN,vL];exact aN _
  cases b with
  |true=>
   obtain⟨its,rv,pl,_⟩:=I1.tuple (show SqT X.K H1 l (ns.map V.int)from hq);have hi:IntsAre its ns:=intsAre_of rv;have Ph:its.length=ns.length:=IntsAre.length hi;refine Br (ns:=ns) (I.ok.hd hc) (show s1.heap.IsTuple l its.toArray from pl) (by simpa using hi) (by unfold scanBound;simp;omega) fun g tk G keep=> ?_;exact Wq (main its rv g tk G keep)
  |false=>
   obtain⟨its,rv,pl,_⟩:=I1.list (show SqL X.K H1 l (ns.map V.int)from hq);have hi:IntsAre its ns:=intsAre_of rv;have Ph:its.length=ns.length:=IntsAre.length hi;refine Gf (ns:=ns) (I.ok.hd hc) pl.isList (by simpa using hi) (by unfold scanBound;simp;omega) fun g tk G keep=> ?_;exact Wq (main its rv g tk G keep)
end
def isK(k:Int):Value->Bool
 | .int i _=>i==k
 |_=>false
theorem Gd{i:Int}:∀{n:Nat} {us:List Value},us.length=n->(∀(j:Nat) (u:Value),us[j]? =some u->∃t:Tok,u=Value.int (i+((j:Nat):Int)*1) t)->Vals (((List.range n).map fun(k:Nat)=>i+(k:Int)).map V.int) us:=by
 intro n us hl hi;have go:∀(us:List Value) (k:Nat),(∀(j:Nat) (u:Value),us[j]? =some u->∃t:Tok,u=Value.int (i+((j+k:Nat):Int)*1) t)->Vals (((List.range' k us.length).map fun(k:Nat)=>i+(k:Int)).map V.int) us:=by
  intro us
  induction us with
  |nil=>intro k _;exact .nil
  |cons u us ih=>
   intro k h;obtain⟨t,e⟩:=h 0 u rfl;refine .cons ⟨t,?_⟩ ?_
   ·rw[e];show Value.int (i+((0+k:Nat):Int)*1) t=Value.int (i+(k:Int)) t;congr 1;omega
   ·refine ih (k+1) fun j u hu=> ?_;obtain⟨t,e⟩:=h (j+1) u (by simpa using hu);exact⟨t,by rw[e];congr 1;omega⟩
 have:=go us 0 fun j u hu=>hi j u hu;rw[hl,<-List.range_eq_range']at this;exact this
section
variable{X:Cx}{e:Expr}{ta:TE}{f:Str}{pos:Pos}
theorem N5(K:W.Frag)(he:PE X e ta)(hb:attributeBase e f X.env (eval e X.env)=eval e X.env)(h:X.K=K:=by rfl):PE X (.Attribute e f pos) (tFld K ta f):=by subst h;exact pL he hb
theorem qg:MtM X "list.index" (fun x vs H Q=>∃(l:Addr) (ns:List Int) (k:Int) (j:Nat),x= .ref l/\vs=[.int k]/\H l=some (.lst (ns.map V.int))/\ns[j]? =some k/\(∀i,i<j->ns[i]? ≠some k)/\ns.length<=1000/\Q (.int (j:Nat)) H):=by
 intro pins s σ H x vs v us Q I rx rv h;obtain⟨l,ns,k,j,rfl,rfl,hH,hj,hno,hb,q⟩:=h;cases rx;obtain⟨u,rfl,ru⟩:=rv.one;obtain⟨t,rfl⟩:=ru;obtain⟨z,its,n,r,hl,e⟩:=I.lstM hH;rw[aJ]at z hl;have hI:∀(i:Nat) (v:Value),its[i]? =some v->∃t,v= .int (ns.getD i 0) t/\ns[i]? =some (ns.getD i 0):=fun i v hv=>by
  have hi:i<ns.length:=by have:=(nH.mp hv).1;omega
  have e0:ns[i]? =some (ns.getD i 0):=by rw[iM,dD hi];rfl
  obtain⟨u,hu,ru⟩:=r.get (show(ns.map V.int)[i]? =some (.int (ns.getD i 0)) by rw[dW,e0];rfl);rw[hv]at hu;cases hu;obtain⟨t,rfl⟩:=ru;exact⟨t,rfl,e0⟩
 have hj':j<its.length:=by have:=(nH.mp hj).1;omega
 refine call_meets F.slot_list_index ⟨_,e,rfl⟩ F.entry_list_index (F.args_list_index_2 _ _)
  (MeetsSeq.list_index l its.toArray n (.int k t) (isK k) (fun y hy=> ?_) j (by simpa using hj') (by omega) ?_ (fun i hi hlt=> ?_)) ⟨e,?_⟩
 ·obtain⟨i,hi,rfl⟩:=Im (show y∈its by simpa using hy);obtain⟨t',e',_⟩:=hI i its[i] (dD hi);rw[e'];exact MeetsSeq.EqGives.int _ _ _ _
 ·obtain⟨t',e',e0⟩:=hI j its[j] (dD hj');show isK k its[j]=true;rw[e'];rw[hj]at e0;have:k=ns.getD j 0:=rE e0;show(ns.getD j 0==k)=true;rw[<-this];exact beq_self_eq_true _
 ·have hi':i<its.length:=by simpa using hi
  obtain⟨t',e',e0⟩:=hI i its[i] (dD hi');show isK k its[i]=false;rw[e'];show(ns.getD i 0==k)=false;refine beq_eq_false_iff_ne.mpr fun z=>hno i hlt ?_;rw[e0,z]
 ·exact⟨.int (j:Nat),H,I.tok _,⟨s.toks,rfl⟩,q⟩
end
section
variable{X:Cx}{a b:Expr}{ta:TA}{p pos p' pos':Pos}
def nZ(i:Int)(n:Nat):List Int:=(List.range n).map fun(k:Nat)=>i+(k:Int)
def RV(ta:TA):TE:=fun σ H Q=>ta σ H fun vs H1=>∃i j:Int,vs=[.int i,.int j]/\0<=i/\i<=j/\j<=1000000/\∀l,H1 l=none->Q (.ref l) (upd H1 l (.lst ((nZ i (j-i).toNat).map V.int)))
theorem v8(hc:X.calm=true)(hgT:Gl X "list")(hmT:X.mg "list"=none)(hg:Gl X "range")(hm:X.mg "range"=none)(ha:PA X [a,b] ta)(hs:starEach [a,b] X.env=[(false,eval a X.env),(false,eval b X.env)]:=by rfl)(hs':starEach [b] X.env=[(false,eval b X.env)]:=by rfl)(hs2:starEach [Expr.Call (.Name "range" p') [a,b] [] pos'] X.env=[(false,eval (Expr.Call (.Name "range" p') [a,b] [] pos') X.env)]:=by rfl):
  PE X (.Call (.Name "list" p) [.Call (.Name "range" p') [a,b] [] pos'] [] pos) (RV ta):=by
 intro pins s σ H Q I h;refine RN (ld_blt I hgT hmT (show bootBuiltins "list"=some (.type "list")from by decide+kernel) ?_ (by decide) (by decide));refine Mw ?_ hs2 rfl;rw[hs2];refine ZJ ?_;refine Call_ (ld_blt I hg hm boot_range (Mw (thn (ha pos' pins s σ H _ I h) fun us s1 ⟨vs,H1,I1,r1,q1⟩=> ?_) (by rw[hs,hs']) (by rw[hs'];rfl)));obtain⟨i,j,e,q0,q1,q2,q⟩:=q1;subst e;cases r1 with
 |cons r rr=>
  cases rr with
  |cons r' rr=>
   cases rr;obtain⟨t,rfl⟩:=r;obtain⟨t',rfl⟩:=r';refine call_range_2 ?_;refine Wq ?_;have hn:Builtin.Range.rangeSize i j 1=(((j-i).toNat:Nat):Int):=by rw[rangeSize_one];split<;>omega
   refine call_list_range (I.ok.hd hc) (IsRange.new ..) (small_one (by omega) (by omega) (by omega) (by omega)) hn (by omega) fun h' tk acc c hk hS hacc=> ?_;have hv:Vals ((nZ i (j-i).toNat).map V.int) acc.toList:=Gd (by rw[uW];exact hacc.1) (fun k u hu=>hacc.2 k u (by simpa using hu));have hz:((nZ i (j-i).toNat).map V.int).length<=sizeLine:=by unfold nZ;rw[eX];simp;omega
   have I2:Inv X pins σ H1 {s1 with heap:=s1.heap.push {cls:=Value.type "range",data:=Data.fields #[Value.int i t,Value.int j t',Value.int 1 s1.toks]},toks:=s1.toks+1}:=I1.kept fun b o e=>cL _ e;exact⟨.ref _,_,I2.laid (t':=tk) (o:= .lst ((nZ i (j-i).toNat).map V.int)) hk (aN _) ⟨hz,acc.toList,c,hv,by simpa using hS⟩,rfl,q _ (I2.hok.fresh (aN _))⟩
end
structure Hy(K:W.Frag)(C:Addr)(x qual:Str)(st:Stmt)(ps:List Str)(f:Addr)(fd:FuncData):Prop where
 F:Fun K x qual st f fd
 b:Binds K fd ps []
 m:Meth K C x f
end L2
namespace PySem
open Sem (wp)
section
variable{prog:Program}{w:World}{A:Around}{E:L3}{s:Shared}
theorem Ib{z TI TO i1 i2 l1 l2:Addr}{k:Nat}{xs ys:Array Value}{x y a b:Value}{Q:Option Value->Shared->Prop}(D:ZipApart z TI TO i1 i2 l1 l2)(hz:IsZip s.heap z TI TO .none)(hTI:IsPair s.heap TI (.ref i1) (.ref i2))(hTO:IsPair s.heap TO a b)(h1:s.heap.IsTupleIter i1 l1 k)(h2:s.heap.IsListIter i2 l2 k)(hl1:s.heap.IsTuple l1 xs)(hl2:s.heap.IsList l2 ys)(hx:xs[k]? =some x)(hy:ys[k]? =some y)(hQ:∀h',IsZip h' z TI TO (rawInt s.heap.objs.size)->IsPair h' TO x y->h'.IsTupleIter i1 l1 (k+1)->h'.IsListIter i2 l2 (k+1)->IsPair h' s.heap.objs.size x y->h'.objs.size=s.heap.objs.size+1->
   (∀c o,c≠z->c≠TO->c≠i1->c≠i2->s.heap.get? c=some o->h'.get? c=some o)->Q (some (.ref s.heap.objs.size)) {s with heap:=h'}):
  wpAny (model prog w) A (pyNext (.ref z)) Q E s:=by
 have hT:s.TypeIs (.ref z) "zip":=⟨_,hz,rfl⟩;unfold pyNext;refine ao (Vk (IK (name:=Str.ofString "__next__") hT Zq (Am Zq hT F.entry_zip_next ?_ (F.args_zip_next_1 _))));show wpAny _ _ (field (.ref z) 2>>=_) _ _ _;refine ao (xX hz rfl (x:= .bool false) rfl ?_);show wpAny _ _ (field (.ref z) 3>>=_) _ _ _;refine ao (xX hz rfl (x:= .ref TI) rfl ?_);refine ao (RL hTI rfl ?_);show wpAny _ _ (Builtin.SmallTypes.ownedTupleIsFree (.ref z)>>=_) _ _ _;refine ao ?_;unfold Builtin.SmallTypes.ownedTupleIsFree;refine ao (xX hz rfl (x:= .none) rfl (aM ?_));simp only[Qv];refine ao (Iv ?_);refine ao (xX hz rfl (x:= .ref TO) rfl ?_);refine ao (Wr hz (by simp) fun g1 hz1 r1=> ?_);replace hz1:IsZip g1 z TI TO .ellipsis:=hz1;refine ao ?_;simp only[List.zipIdx_cons,List.zipIdx_nil,wfn,wfu];refine ao (ao (wpAny_onRaise ?_));show wpAny _ _ (Builtin.SmallTypes.nextOf (.ref i1)>>=_) _ _ _;refine ao (sX (h1.at fun o e=>r1.extBut _ _ D.i1z e) (hl1.at fun o e=>r1.extBut _ _ D.l1z e) hx fun g2 h12 r2=>aM ?_);have o2:IsPair g2 TO a b:=r2.extBut _ _ D.TOi1 (r1.extBut _ _ D.TOz hTO);refine ao (RL o2 rfl ?_);refine ao (wpAny_updateSeq_pair o2 fun g3 o3 r3=> ?_);replace o3:IsPair g3 TO x b:=o3;refine ao (wpAny_letGo (aM ?_));refine ao (ao (wpAny_onRaise ?_));show wpAny _ _ (Builtin.SmallTypes.nextOf (.ref i2)>>=_) _ _ _;refine ao (wpAny_nextOf_list_item (((h2.extBut r1.extBut D.i2z).extBut r2.extBut D.i12.symm).extBut r3.extBut D.TOi2.symm)
  (((hl2.extBut r1.extBut D.l2z).extBut r2.extBut D.l2i1).extBut r3.extBut D.l2TO) hy fun g4 h24 r4=>aM ?_)
 have o4:IsPair g4 TO x b:=r4.extBut _ _ D.TOi2 o3;refine ao (RL o4 rfl ?_);refine ao (wpAny_updateSeq_pair o4 fun g5 o5 r5=> ?_);replace o5:IsPair g5 TO x y:=o5;refine ao (wpAny_letGo (aM (aM ?_)));refine ao (RL o5 rfl ?_);refine ao (wpAny_newTuple ?_);have hsz:g5.objs.size=s.heap.objs.size:=by rw[r5.1,r4.1,r3.1,r2.1,r1.1]
 have ZW:IsZip g5 z TI TO .ellipsis:=r5.extBut _ _ D.TOz.symm (r4.extBut _ _ D.i2z.symm (r3.extBut _ _ D.TOz.symm (r2.extBut _ _ D.i1z.symm hz1)));have hk5:∀c o,c≠z->c≠TO->c≠i1->c≠i2->s.heap.get? c=some o->g5.get? c=some o:=fun c o c1 c2 c3 c4 e=>
  r5.extBut _ _ c2 (r4.extBut _ _ c4 (r3.extBut _ _ c2 (r2.extBut _ _ c3 (r1.extBut _ _ c1 e))))
 have h15:g5.IsTupleIter i1 l1 (k+1):=h12.at fun o e=>r5.extBut _ _ D.TOi1.symm (r4.extBut _ _ D.i12 (r3.extBut _ _ D.TOi1.symm e));have h25:g5.IsListIter i2 l2 (k+1):=h24.extBut r5.extBut D.TOi2.symm;have hzlt:z<g5.objs.size:=cU ZW;show wpAny _ _ (Builtin.SmallTypes.ownedTupleHandOut (.ref z) (.ref g5.objs.size)>>=_) _ _ _;refine ao ?_;unfold Builtin.SmallTypes.ownedTupleHandOut;have hz6:IsZip (g5.push {cls:= .type "tuple",data:= .seq #[x,y]}) z TI TO .ellipsis:=cL _ ZW;refine ao (Wr hz6 (by simp) fun g7 hz7 r7=> ?_);replace hz7:IsZip g7 z TI TO (rawInt g5.objs.size):=hz7;refine Wr hz7 (by simp) fun g8 hz8 r8=> ?_;replace hz8:IsZip g8 z TI TO (rawInt g5.objs.size):=hz8;have up:∀c o,c≠z->g5.get? c=some o->g8.get? c=some o:=fun c o c1 e=>r8.extBut _ _ c1 (r7.extBut _ _ c1 (cL _ e));have hT8:IsPair g8 g5.objs.size x y:=r8.extBut _ _ (Ik hzlt) (r7.extBut _ _ (Ik hzlt) (gY _ rfl));have hs8:g8.objs.size=g5.objs.size+1:=by rw[r8.1,r7.1,rQ]
 rw[hsz]at hz8 hT8 hs8;refine aM ⟨_,rfl,aM ?_⟩;show Q (some (.ref g5.objs.size)) _;rw[hsz];exact hQ g8 hz8 (up _ _ D.TOz o5) (h15.at fun o e=>up _ o D.i1z e) (h25.at fun o e=>up _ o D.i2z e) hT8 hs8 fun c o c1 c2 c3 c4 e=>up c o c1 (hk5 c o c1 c2 c3 c4 e)
theorem MJ{z TI TO i1 i2 l1 l2:Addr}{k:Nat}{xs:Array Value}{a b:Value}{Q:Option Value->Shared->Prop}(hh:A.handled=none)(D:ZipApart z TI TO i1 i2 l1 l2)(hz:IsZip s.heap z TI TO .none)(hTI:IsPair s.heap TI (.ref i1) (.ref i2))(hTO:IsPair s.heap TO a b)(h1:s.heap.IsTupleIter i1 l1 k)(hl1:s.heap.IsTuple l1 xs)(hx:xs[k]? =none)(hQ:∀h',(∀c o,c≠z->c≠TO->c≠i1->c≠i2->s.heap.get? c=some o->h'.get? c=some o)->Q none {s with heap:=h'}):wpAny (model prog w) A (pyNext (.ref z)) Q E s:=by
 have hT:s.TypeIs (.ref z) "zip":=⟨_,hz,rfl⟩;unfold pyNext;refine ao (Vk (IK (name:=Str.ofString "__next__") hT Zq (Am Zq hT F.entry_zip_next ?_ (F.args_zip_next_1 _))));show wpAny _ _ (field (.ref z) 2>>=_) _ _ _;refine ao (xX hz rfl (x:= .bool false) rfl ?_);show wpAny _ _ (field (.ref z) 3>>=_) _ _ _;refine ao (xX hz rfl (x:= .ref TI) rfl ?_);refine ao (RL hTI rfl ?_);show wpAny _ _ (Builtin.SmallTypes.ownedTupleIsFree (.ref z)>>=_) _ _ _;refine ao ?_;unfold Builtin.SmallTypes.ownedTupleIsFree;refine ao (xX hz rfl (x:= .none) rfl (aM ?_));simp only[Qv];refine ao (Iv ?_);refine ao (xX hz rfl (x:= .ref TO) rfl ?_);refine ao (Wr hz (by simp) fun g1 hz1 r1=> ?_);replace hz1:IsZip g1 z TI TO .ellipsis:=hz1;refine ao ?_;simp only[List.zipIdx_cons,List.zipIdx_nil,wfn,wfu];refine ao (ao (wpAny_onRaise ?_));show wpAny _ _ (Builtin.SmallTypes.nextOf (.ref i1)>>=_) _ _ _;refine ao (jR hh (h1.at fun o e=>r1.extBut _ _ D.i1z e) (hl1.at fun o e=>r1.extBut _ _ D.l1z e) hx fun g2 e r2 he=> ?_);obtain⟨oe,hoe,hce⟩:=he;have hz2:IsZip g2 z TI TO .ellipsis:=r2 _ _ D.i1z.symm hz1;have hez:e≠z:=fun q=>by subst q;rw[hz2]at hoe;cases hoe;simp at hce
 refine Wr hz2 (by simp) fun g3 _ r3=> ?_;refine ao (Zw (T:="StopIteration") (b:=true) ⟨oe,r3.extBut _ _ hez hoe,hce⟩ isSubtype_stop ?_);exact aM (hQ _ fun c o c1 _ c3 _ q=>r3.extBut _ _ c1 (r2 _ _ c3 (r1.extBut _ _ c1 q)))
end
def Ie(h:Heap)(l1:Addr):Heap:=h.push {cls:= .type "tuple_iterator",data:= .fields #[.ref l1,.int 0 0]}
def Fy(h:Heap)(l1 l2:Addr):Heap:=(Ie h l1).push {cls:= .type "list_iterator",data:= .fields #[.ref l2,.int 0 0]}
def Fx(h:Heap)(l1 l2:Addr):Heap:=(Fy h l1 l2).push {cls:= .type "tuple",data:= .seq #[.ref h.objs.size,.ref (Ie h l1).objs.size]}
def Fw(h:Heap)(l1 l2:Addr):Heap:=(Fx h l1 l2).push {cls:= .type "tuple",data:= .seq #[.none,.none]}
def vJ(h:Heap)(l1 l2:Addr):Heap:=(Fw h l1 l2).push {cls:= .type "zip",data:= .fields #[.none,.bool false,.bool false,.ref (Fy h l1 l2).objs.size,.ref (Fx h l1 l2).objs.size]}
theorem uI(l1 l2:Addr)(xs ys:Array Value):
  Meets (Builtin.«zip.__new__» ⟨[.type "zip",.ref l1,.ref l2],[]⟩) (fun _ R s=>s.heap.IsTuple l1 xs/\s.heap.IsList l2 ys/\
   R (.ok (.ret (.ref (Fw s.heap l1 l2).objs.size))) {s with heap:=vJ s.heap l1 l2}):=
 .of_wp fun prog w A R s h=>by
  obtain⟨hp,g,d,tk,os⟩:=s;obtain⟨hl1,hl2,h⟩:=h;have hsub:=sub_zip;have hL1:Heap.IsTuple (Shared.heap ⟨hp,g,d,tk,os⟩) l1 xs:=hl1;have hL2:Heap.IsList (Shared.heap ⟨hp.push {cls:= .type "tuple_iterator",data:= .fields #[.ref l1,.int 0 0]},g,d,tk,os⟩) l2 ys:=Heap.IsList.push hl2 _;unfold vJ Fw Fx Fy Ie at h
  wp_walk using Vo hL1,Vm hL2
  exact⟨_,rfl,h⟩
section
variable{prog:Program}{w:World}{A:Around}{E:L3}{s:Shared}
theorem Lw{l1 l2:Addr}{xs ys:Array Value}{Q:L3}(hl1:s.heap.IsTuple l1 xs)(hl2:s.heap.IsList l2 ys)(h:∀h',IsZip h' (s.heap.objs.size+4) (s.heap.objs.size+2) (s.heap.objs.size+3) .none->IsPair h' (s.heap.objs.size+2) (.ref s.heap.objs.size) (.ref (s.heap.objs.size+1))->
   IsPair h' (s.heap.objs.size+3) .none .none->h'.IsTupleIter s.heap.objs.size l1 0->h'.IsListIter (s.heap.objs.size+1) l2 0->h'.objs.size=s.heap.objs.size+5->
   (∀c o,s.heap.get? c=some o->h'.get? c=some o)->Q (.ref (s.heap.objs.size+4)) {s with heap:=h'}):
  wpAny (model prog w) A (call (.type "zip") [.ref l1,.ref l2]) Q E s:=by
 refine callType_new F.called_zip (by decide) (F.typeCall_zip_2 _ _) (F.newCall_zip_2 _ _) (fun obj=>F.args_object_init_3 obj _ _) F.entry_zip_new (uI l1 l2 xs ys) ⟨hl1,hl2,?_⟩;have z1:(Ie s.heap l1).objs.size=s.heap.objs.size+1:=rQ ..;have z2:(Fy s.heap l1 l2).objs.size=s.heap.objs.size+2:=by rw[Fy,rQ,z1]
 have z3:(Fx s.heap l1 l2).objs.size=s.heap.objs.size+3:=by rw[Fx,rQ,z2]
 have z4:(Fw s.heap l1 l2).objs.size=s.heap.objs.size+4:=by rw[Fw,rQ,z3]
 have z5:(vJ s.heap l1 l2).objs.size=s.heap.objs.size+5:=by rw[vJ,rQ,z4]
 have g5:(vJ s.heap l1 l2).get? (Fw s.heap l1 l2).objs.size=some _:=gY _ rfl;have g4:(vJ s.heap l1 l2).get? (Fx s.heap l1 l2).objs.size=some _:=cL _ (gY _ rfl);have g3:(vJ s.heap l1 l2).get? (Fy s.heap l1 l2).objs.size=some _:=cL _ (cL _ (gY _ rfl));have g2:(vJ s.heap l1 l2).get? (Ie s.heap l1).objs.size=some _:=cL _ (cL _ (cL _ (gY _ rfl)));have g1:(vJ s.heap l1 l2).get? s.heap.objs.size=some _:=cL _ (cL _ (cL _ (cL _ (gY _ rfl))));show _/\_;rw[z2,z3,z4]at g5;rw[z1,z2]at g3;rw[z3]at g4;rw[z1]at g2;rw[z4];exact⟨⟨_,g5,rfl⟩,h _ g5 g3 g4 ⟨_,g1,rfl,rfl⟩ ⟨_,g2,rfl,rfl⟩ z5 fun c o x=>
  cL _ (cL _ (cL _ (cL _ (cL _ x))))⟩
end
end PySem
namespace L2
open PySem PySem.Spec PyProof.Rows
def Itz(K:W.Frag)(a b:Addr)(xs ys:List V):It:=
 ⟨fun i H=>(SqT K H a xs/\SqL K H b ys)/\i<xs.length,fun i H x H'=>∃t v u,x= .ref t/\H t=none/\H'=upd H t (.tup [v,u])/\xs[i]? =some v/\ys[i]? =some u,fun i H=>(SqT K H a xs/\SqL K H b ys)/\i=xs.length⟩
theorem IV{P:Program}{w:World}{K:W.Frag}{es:List Expr}{k:Nat}{pos:Pos}(a b z TI TO i1 i2:Addr)(xs ys:List V)(D:ZipApart z TI TO i1 i2 a b)(hlen:xs.length=ys.length):
  Turn P w K (.Tuple es k pos) (Itz K a b xs ys) [z,TI,TO,i1,i2] z (fun i h=>IsZip h z TI TO .none/\IsPair h TI (.ref i1) (.ref i2)/\(∃p q,IsPair h TO p q)/\h.IsTupleIter i1 a i/\h.IsListIter i2 b i) where
 mem:=by simp
 obj:=fun i h st c hc=>by
  obtain⟨s1,s2,⟨p,q,s3⟩,⟨o4,e4,c4,d4⟩,⟨o5,e5,c5,d5⟩⟩:=st;simp only[cJ,xT,xW]at hc;rcases hc with rfl|rfl|rfl|rfl|rfl
  ·exact⟨_,s1,fun v y=>by cases y⟩
  ·exact⟨_,s2,fun v y=>by cases y⟩
  ·exact⟨_,s3,fun v y=>by cases y⟩
  ·exact⟨o4,e4,fun v y=>by rw[d4]at y;cases y⟩
  ·exact⟨o5,e5,fun v y=>by rw[d5]at y;cases y⟩
 keep:=fun i h h' st k=>by
  obtain⟨s1,s2,⟨p,q,s3⟩,s4,s5⟩:=st;exact⟨k z (by simp) _ s1,k TI (by simp) _ s2,⟨p,q,k TO (by simp) _ s3⟩,s4.at fun o e=>k i1 (by simp) o e,s5.at fun o e=>k i2 (by simp) o e⟩
 item:=by
  intro X hP hw hK hc i pins s σ H E I hf st hg;subst hP hw hK;obtain⟨⟨hq1,hq2⟩,hi⟩:=hg;obtain⟨KJ,ZS,p1,hz1⟩:=I.tuple hq1;obtain⟨its2,rv2,p2,hz2⟩:=I.list hq2;have hx:xs[i]? =some xs[i]:=dD hi;have hi2:i<ys.length:=by omega
  have hy:ys[i]? =some ys[i]:=dD hi2;obtain⟨u1,hu1,ru1⟩:=ZS.get hx;obtain⟨u2,hu2,ru2⟩:=rv2.get hy;obtain⟨s1,s2,⟨p,q,s3⟩,s4,s5⟩:=st;have pt:s.heap.IsTuple a KJ.toArray:=p1;refine Ib D s1 s2 s3 s4 s5 pt p2.isList (x:=u1) (y:=u2) (by simpa using hu1) (by simpa using hu2) fun h1 ho hTO hit1 hit2 hT hsz hk=>⟨_,rfl,?_⟩;refine wpAny_letOwnedTupleGo_zip ho fun h2 aap hs2=> ?_;have oH:Heap.SameBut z h1 h2:=hs2;have nT:∀c o,s.heap.get? c=some o->s.heap.objs.size≠c:=fun c o e y=>absurd (cU e) (by rw[<-y];exact uy _);obtain⟨o4,e4,_⟩:=id s4;obtain⟨o5,e5,_⟩:=id s5;have keep:∀c o,c∉[z,TI,TO,i1,i2]->s.heap.get? c=some o->h2.get? c=some o:=fun c o hc q=>(oH.2 c fun y=>hc (by simp[y])).trans (hk c o (fun y=>hc (by simp[y])) (fun y=>hc (by simp[y])) (fun y=>hc (by simp[y])) (fun y=>hc (by simp[y])) q);have hT2:h2.get? s.heap.objs.size=some {cls:= .type "tuple",data:= .seq #[u1,u2]}:=(oH.2 _ (nT _ _ s1)).trans hT;have I2:=I.pU (h':=h2) (t':=s.toks) (o:= .tup [xs[i],ys[i]]) keep hf (aN _) ⟨(by show 2<=sizeLine;decide),[u1,u2],.cons ru1 (.cons ru2 .nil),_,hT2,rfl,_,rfl⟩;have k2:IsPair h2 TI (.ref i1) (.ref i2):=(oH.2 TI D.TIz).trans (hk TI _ D.TIz D.TITO D.TIi1 D.TIi2 s2);refine⟨.ref s.heap.objs.size,_,I2,rfl,⟨_,_,_,rfl,I.hok.fresh (aN _),rfl,hx,hy⟩,⟨aap,k2,⟨_,_,(oH.2 TO D.TOz).trans hTO⟩,hit1.at fun o q=>(oH.2 i1 D.i1z).trans q,hit2.at fun o q=>(oH.2 i2 D.i2z).trans q⟩,fun c hc=> ?_⟩;rw[cD (fun y=> ?_)]
  ·exact(hf c hc).1
  ·simp only[cJ,xT,xW]at hc;rcases hc with h|h|h|h|h
   ·exact nT _ _ s1 (y.symm.trans h)
   ·exact nT _ _ s2 (y.symm.trans h)
   ·exact nT _ _ s3 (y.symm.trans h)
   ·exact nT _ _ e4 (y.symm.trans h)
   ·exact nT _ _ e5 (y.symm.trans h)
 done:=by
  intro X hP hw hK hc i pins s σ H E I hf st hg;subst hP hw hK;obtain⟨⟨hq1,hq2⟩,hi⟩:=hg;obtain⟨KJ,ZS,p1,hz1⟩:=I.tuple hq1;have hl:=ZS.length;obtain⟨s1,s2,⟨p,q,s3⟩,s4,s5⟩:=st;have pt:s.heap.IsTuple a KJ.toArray:=p1;exact MJ (I.ok.hd hc) D s1 s2 s3 s4 pt (by simp;omega) fun h' eb=>⟨rfl,I.turns (t':=s.toks) (fp:=[z,TI,TO,i1,i2]) (fun c o hc q=>eb c o (fun y=>hc (by simp[y])) (fun y=>hc (by simp[y])) (fun y=>hc (by simp[y])) (fun y=>hc (by simp[y])) q) hf⟩
 self:=fun _ _ _ _ _ st h=>wpAny_pyIter_zip st.1 h
section
variable{X:Cx}{es:List Expr}{k:Nat}{J1:Pos}
def aao(K:W.Frag)(ta:TA):TI:=fun σ H R=>ta σ H fun vs H1=>∃(a b:Addr) (xs ys:List V),vs=[.ref a,.ref b]/\SqT K H1 a xs/\SqL K H1 b ys/\xs.length=ys.length/\(xs.length<=sizeLine->R (Itz K a b xs ys) H1)
theorem J3{a b:Expr}{ta:TA}{p pos:Pos}(hg:Gl X "zip")(hm:X.mg "zip"=none)(ha:PA X [a,b] ta)(hs:starEach [a,b] X.env=[(false,eval a X.env),(false,eval b X.env)]:=by rfl)(hs3:starEach [b] X.env=[(false,eval b X.env)]:=by rfl):
  PI X (.Tuple es k J1) (.Call (.Name "zip" p) [a,b] [] pos) (aao X.K ta):=by
 intro pins s σ H R I h;refine Call_ (ld_blt I hg hm (show bootBuiltins "zip"=some (.type "zip")from by decide+kernel) (Mw (thn (ha pos pins s σ H _ I h) fun us s1 ⟨vs,H1,I1,r1,q1⟩=> ?_) (by rw[hs,hs3]) (by rw[hs3];rfl)));obtain⟨l1,l2,xs,ys,e,hq1,hq2,hlen,q⟩:=q1;subst e;cases r1 with
 |cons r rr=>
  cases rr with
  |cons r' rr'=>
  cases rr';cases r;cases r';obtain⟨KJ,ZS,p1,hz1⟩:=I1.tuple hq1;obtain⟨its2,rv2,p2,hz2⟩:=I1.list hq2;have pt:s1.heap.IsTuple l1 KJ.toArray:=p1;have a1:l1<s1.heap.objs.size:=by obtain⟨_,e,_⟩:=id pt;exact cU e
  have a2:l2<s1.heap.objs.size:=by obtain⟨_,e,_⟩:=id p2.isList;exact cU e
  refine Lw pt p2.isList fun h' hz hTI hTO hi1 hi2 hsz hk=> ?_;refine wpAny_pyIter_zip hz ?_;have I2:Inv X pins σ H1 {s1 with heap:=h'}:=I1.kept (t':=s1.toks) hk;refine⟨s1.heap.objs.size+4,[s1.heap.objs.size+4,s1.heap.objs.size+2,s1.heap.objs.size+3,s1.heap.objs.size,s1.heap.objs.size+1],_,_,H1,rfl,I2,IV l1 l2 _ _ _ _ _ xs ys (zipApart_new a1 a2) hlen,⟨hz,hTI,⟨_,_,hTO⟩,hi1,hi2⟩,fun c hc=> ?_,q hz1⟩;have hle:s1.heap.objs.size<=c:=by
   simp only[cJ,xT,xW]at hc;rcases hc with h|h|h|h|h
   ·rw[h];exact Rz _ _
   ·rw[h];exact Rz _ _
   ·rw[h];exact Rz _ _
   ·rw[h];exact aN _
   ·rw[h];exact Rz _ _
  exact I1.fpOk hle (I1.hok.fresh hle)
end
section
variable{ini:St}{H:Hp}{g:TG}{tc:TT}{te:TE}{Fin:List V->Hp->Prop}{K:W.Frag}{a b:Addr}{xs ys:List V}
theorem zR(Pv:Nat->List V->St->Hp->Prop)(h0:Pv 0 [] ini H)(hl:∀(i:Nat) acc σ H,i<=xs.length->Pv i acc σ H->SqT K H a xs/\SqL K H b ys)(hlen:xs.length=ys.length)(hz:∀(i:Nat) acc σ H,i<=xs.length->Pv i acc σ H->acc.length<=i)(hx:xs.length<=sizeLine)(hs:∀(i:Nat) v u t acc σ H,xs[i]? =some v->ys[i]? =some u->Pv i acc σ H->H t=none->g (.ref t) σ (upd H t (.tup [v,u])) fun σ2 H2=>tc σ2 H2 fun b H3=>if b=true then te σ2 H3 fun v H4=>Pv (i+1) (acc++[v]) σ2 H4 else Pv (i+1) acc σ2 H3)(hd:∀acc σ H,Pv xs.length acc σ H->Fin acc H):vI (Itz K a b xs ys) ini H g tc te Fin:=by
 refine⟨fun i m acc σ H=>m=xs.length-i/\i<=xs.length/\Pv i acc σ H,⟨xs.length,by simp,cG _,h0⟩,?_⟩;rintro i m acc σ H ⟨rfl,hi,p⟩;have q:=hl i acc σ H hi p;have z:=hz i acc σ H hi p;by_cases hlt:i<xs.length
 ·refine .inr ⟨⟨q,hlt⟩,by omega,fun acc σ H=>Pv (i+1) acc σ H,fun acc' σ' H' r=>⟨_,by omega,rfl,hlt,r⟩,fun x H' y=> ?_⟩;obtain⟨t,v,u,rfl,ht,rfl,hv,hu⟩:=y;exact hs i v u t acc σ H hv hu p ht
 ·have e:i=xs.length:=by omega
  subst e;exact .inl ⟨⟨q,rfl⟩,by omega,hd acc σ H p⟩
end
end L2
namespace HT
open PySem PyProof.Rows
def jk:List Int->List Int->Bool
 |_,[]=>true
 |[],_::_=>false
 |x::xs,y::ys=>if x=y then jk xs ys else decide (y<=x)
theorem tE(x y:Int)(xs ys:List Int):jk (x::xs) (y::ys)=if x=y then jk xs ys else decide (y<=x):=rfl
theorem JW(A:Around)(s:Shared)(a:Int)(t:Tok)(c:Int)(u:Tok)(prog:Program)(w:World)(E:L3)(Q:L3)(h:Q (.bool (decide (c<=a))) s):
  wpAny (model prog w) A (richCompare .GtE (.int a t) (.int c u)) Q E s:=
 (PyProof.Rows.ge_int h:wpAny (model prog w) A (compareOp .GtE (.int a t) (.int c u)) Q E s)
section
open PySem.SeqAt
open PySem.AutoSeq1 (wpAny_loadPart')
open PySem.MeetsSeq PySem.MeetsSeq2 PySem.MeetsSeq3
theorem uG(l b:Addr)(items items2:Array Value)(n n2:Nat)(dd dd2:Option Addr)(sl sl2:Array (Option Value))(ns ms:List Int)(hi:IntsAre items.toList ns)(hj:IntsAre items2.toList ms):
  Meets (Builtin.«tuple.__ge__» ⟨[.ref l,.ref b],[]⟩)
   (fun _ R s=>s.heap.get? l=some {cls:= .type "tuple",dict:=dd,data:= .seq items n,slots:=sl}/\s.heap.get? b=some {cls:= .type "tuple",dict:=dd2,data:= .seq items2 n2,slots:=sl2}/\
    R (.ok (.ret (.bool (jk ns ms)))) s):=
 .of_wp fun prog w A R s h=>by
  obtain⟨hp,g,d,tk,os⟩:=s;obtain⟨hl,hb,h⟩:=h;have f2:=AutoSeq1.sub_tuple_tuple;have z1:items.size=ns.length:=by rw[<-hi.length];simp
  have z2:items2.size=ms.length:=by rw[<-hj.length];simp
  wp_walk using wpAny_loadPart' hl,wpAny_loadPart' hb,wpAny_forIn_list _ (fun rest b s'=>b.1=none/\s'=⟨hp,g,d,tk,os⟩/\∃(vs ws:List Value) (ns' ms':List Int),rest=vs.zip ws/\
   IntsAre vs ns'/\IntsAre ws ms'/\ns'.length+items2.size=ms'.length+items.size/\R (.ok (.ret (.bool (jk ns' ms')))) ⟨hp,g,d,tk,os⟩) _
  case turn=>
   rintro⟨y,x⟩ rest b s' ⟨hb',rfl,vs,ws,ns',ms',hz,hvi,hwi,hlen,hR⟩;cases hvi with
   |nil=>rw[wek]at hz;cases hz
   |cons a t hvi'=>
    cases hwi with
    |nil=>rw[wdw]at hz;cases hz
    |cons c u hwi'=>
     rw[Wb]at hz;injection hz with hyx hrest
     injection hyx with hy hx
     subst hy hx;rw[tE]at hR;simp only[uz]at hlen;obtain⟨e,he,hiff⟩:=eqAt_int A.in1 ⟨hp,g,d,tk,os⟩ a t c u;refine ao (he prog w _ _ ?_);cases e with
     |true=>
      rw[aB (hiff.mp rfl)]at hR
      wp_walk
      exact⟨rfl,rfl,_,_,_,_,hrest,hvi',hwi',by omega,hR⟩
     |false=>
      rw[aA (fun q=>absurd (hiff.mpr q) uY)]at hR;have hri:=JW A.in1 ⟨hp,g,d,tk,os⟩ a t c u prog w
      wp_walk using hri
      exact⟨_,rfl,by simpa using hR⟩
  case fin=>
   rintro⟨b1,b2⟩ s' ⟨hb',rfl,vs,ws,ns',ms',hz,hvi,hwi,hlen,hR⟩;simp only at hb';subst hb';have hv:jk ns' ms'=decide (items2.size<=items.size):=by
    cases hvi with
    |nil=>
     cases hwi with
     |nil=>
      simp only[Ms]at hlen;show true=_;exact(eY (by omega)).symm
     |cons c u hw=>
      simp only[Ms,uz]at hlen;show false=_;exact(jx (by omega)).symm
    |cons a t hv=>
     cases hwi with
     |nil=>
      simp only[Ms,uz]at hlen;show true=_;exact(eY (by omega)).symm
     |cons c u hw=>
      rw[Wb]at hz;cases hz
   rw[hv]at hR
   wp_walk
   exact⟨_,rfl,by simpa[Builtin.Tuple.tupleCompareSizes]using hR⟩
  case h=>
   exact⟨rfl,rfl,items.toList,items2.toList,ns,ms,rfl,hi,hj,by omega,h⟩
end
section
variable{prog:Program}{w:World}{A:Around}{E:L3}{s:Shared}
theorem Cr{l b:Addr}{items items2:Array Value}{ns ms:List Int}{Q:L3}(hl:IsTup s.heap l items)(hb:IsTup s.heap b items2)(hi:IntsAre items.toList ns)(hj:IntsAre items2.toList ms)(hu:A.units<cLine)(h:Q (.bool (jk ns ms)) s):wpAny (model prog w) A (compareOp .GtE (.ref l) (.ref b)) Q E s:=by
 obtain⟨⟨cls,dd,data,sl⟩,ho,hc,n,hd⟩:=id hl;obtain⟨⟨cls2,dd2,data2,sl2⟩,ho2,hc2,n2,hd2⟩:=id hb;simp only at hc hd hc2 hd2;subst hc hd hc2 hd2;exact richCompare_meets_room (op:= .GtE) ⟨_,ho,rfl⟩ ⟨_,ho2,rfl⟩ PySem.F.slot_tuple_ge PySem.F.entry_tuple_ge (PySem.F.args_tuple_ge_2 _ _) (uG l b items items2 n n2 dd dd2 sl sl2 ns ms hi hj)
  ⟨ho,ho2,show Value.bool (jk ns ms)≠Value.notImplemented/\Q (.bool (jk ns ms)) s from⟨(fun x=>nomatch x),h⟩⟩ hu
end
end HT
namespace L2
open PySem PySem.Spec PyProof.Rows
section
variable{X:Cx}
def aah(K:W.Frag):R2:=fun x y H Q=>∃a b ns ms,x= .ref a/\y= .ref b/\SqT K H a (ns.map V.int)/\SqT K H b (ms.map V.int)/\Q (.bl (HT.jk ns ms)) H
theorem SJ(hu:X.A.units<cLine):OpR X (compareOp .GtE) (aah X.K):=by
 intro pins s σ H x y v u Q I rx ry h;obtain⟨a,b,ns,ms,rfl,rfl,ha,hb,q⟩:=h;cases rx;cases ry;obtain⟨its,r1,p1,_⟩:=I.tuple ha;obtain⟨its2,r2,p2,_⟩:=I.tuple hb;have i1:IntsAre its.toArray.toList ns:=intsAre_of r1;have i2:IntsAre its2.toArray.toList ms:=intsAre_of r2;exact HT.Cr p1 p2 i1 i2 hu ⟨.bl (HT.jk ns ms),H,I,rfl,q⟩
end
end L2
namespace Sx
abbrev Vec:=Nat->Int
abbrev uT:=Nat->Vec
def sm:Nat->(Nat->Int)->Int
 |0,_=>0
 |k+1,f=>sm k f+f k
theorem Av{f g:Nat->Int}:∀k,(∀i,i<k->f i=g i)->sm k f=sm k g
 |0,_=>rfl
 |k+1,h=>by
  show sm k f+f k=sm k g+g k;rw[Av k fun i hi=>h i (pQ hi),h k (ur k)]
theorem lZ(f g:Nat->Int):∀k,sm k (fun i=>f i+g i)=sm k f+sm k g
 |0=>rfl
 |k+1=>by
  show sm k (fun i=>f i+g i)+(f k+g k)=sm k f+f k+(sm k g+g k);rw[lZ f g k];omega
theorem gj(a:Int)(f:Nat->Int):∀k,sm k (fun i=>a*f i)=a*sm k f
 |0=>by show(0:Int)=a*0;rw[Aj]
 |k+1=>by
  show sm k (fun i=>a*f i)+a*f k=a*(sm k f+f k);rw[gj a f k,Int.mul_add]
theorem cV{f:Nat->Int}:∀k,(∀i,i<k->f i=0)->sm k f=0
 |0,_=>rfl
 |k+1,h=>by
  show sm k f+f k=0;rw[cV k fun i hi=>h i (pQ hi),h k (ur k)];rfl
theorem eZ{f:Nat->Int}{j:Nat}:∀k,j<k->(∀i,i<k->i≠j->f i=0)->sm k f=f j
 |k+1,hj,h=>by
  show sm k f+f k=f j;by_cases e:j=k
  ·subst e;rw[cV j fun i hi=>h i (pQ hi) (dB hi),Mq]
  ·rw[eZ k (by omega) fun i hi=>h i (pQ hi),h k (ur k) (lO e),Int.add_zero]
theorem Jy{f:Nat->Int}{j:Nat}:∀k,j+1<k->(∀i,i<k->i≠j->i≠j+1->f i=0)->f j+f (j+1)=0->sm k f=0
 |k+1,hj,h,z=>by
  show sm k f+f k=0;by_cases e:j+1=k
  ·subst e;rw[eZ (j:=j) (j+1) (ur _) fun i hi hn=>h i (pQ hi) hn (dB hi)];exact z
  ·rw[Jy k (by omega) (fun i hi=>h i (pQ hi)) z,h k (ur k) (by omega) (lO e)];rfl
theorem El(f:Nat->Nat->Int)(m:Nat):∀k,sm k (fun i=>sm m (fun j=>f i j))=sm m (fun j=>sm k (fun i=>f i j))
 |0=>by show(0:Int)=sm m fun _=>0;rw[cV m fun _ _=>rfl]
 |k+1=>by
  show sm k (fun i=>sm m (fun j=>f i j))+sm m (fun j=>f k j)=sm m (fun j=>sm k (fun i=>f i j)+f k j);rw[El f m k,lZ]
theorem yJ{f:Nat->Int}:∀k,(∀i,i<k->0<=f i)->0<=sm k f
 |0,_=>Dv _
 |k+1,h=>Int.add_nonneg (yJ k fun i hi=>h i (pQ hi)) (h k (ur k))
theorem Jz{f:Nat->Int}:∀k,sm k f<0->∃i,i<k/\f i<0
 |0,h=>absurd h (wgb 0)
 |k+1,h=>by
  by_cases c:f k<0
  ·exact⟨k,ur k,c⟩
  ·have h':sm k f+f k<0:=h;obtain⟨i,hi,hf⟩:=Jz k (f:=f) (by omega);exact⟨i,pQ hi,hf⟩
theorem Em{f:Nat->Int}:∀k,(∀i,i<k->0<=f i)->sm k f<=0->∀i,i<k->f i=0
 |0,_,_,i,hi=>absurd hi (M9 i)
 |k+1,h,z,i,hi=>by
  have h1:=yJ k fun i hi=>h i (pQ hi);have h2:=h k (ur k);have z':sm k f+f k<=0:=z;by_cases e:i=k
  ·subst e;omega
  ·exact Em k (fun i hi=>h i (pQ hi)) (by omega) i (by omega)
def sg(i:Nat):Int:=if i %2=0 then 1 else -1
theorem Nv(i:Nat):sg (i+1)= -sg i:=by
 unfold sg;rcases Nat.mod_two_eq_zero_or_one i with h|h
 ·rw[aB h,aA (by omega)]
 ·rw[aB (by omega),aA (by omega)];rfl
theorem R3(i:Nat):sg i=1\/sg i= -1:=by unfold sg;split;exact .inl rfl;exact .inr rfl
def HX(i r:Nat):Nat:=if r<i then r else r+1
def Mx(i r:Nat):Nat:=if r<i then r else r-1
theorem JC(i r:Nat):HX i r≠i:=by unfold HX;split<;>omega
theorem rF{i r j:Nat}(h:j≠i):HX i r=j↔r=Mx i j:=by unfold HX Mx;split<;>split<;>omega
theorem Bq{i r k:Nat}(hi:i<k+1)(hr:r<k):HX i r<k+1:=by unfold HX;split<;>omega
theorem RP{i j k:Nat}(h:j≠i)(hi:i<k+1)(hj:j<k+1):Mx i j<k:=by unfold Mx;split<;>omega
def sZ(M:uT)(i:Nat):uT:=fun r c=>M (HX i r) (c+1)
def det:Nat->uT->Int
 |0,_=>1
 |k+1,M=>sm (k+1) fun i=>sg i*M i 0*det k (sZ M i)
def put(M:uT)(r:Nat)(v:Vec):uT:=fun i=>if i=r then v else M i
theorem put_same(M:uT)(r:Nat)(v:Vec):put M r v r=v:=by unfold put;rw[aB rfl]
theorem iy(M:uT){r i:Nat}(v:Vec)(h:i≠r):put M r v i=M i:=by unfold put;rw[aA h]
theorem sU(M:uT)(r:Nat):put M r (M r)=M:=by funext i;unfold put;split;rename_i h;rw[h];rfl
theorem iJ(M:uT){r t:Nat}(u v:Vec)(h:r≠t):put (put M r u) t v=put (put M t v) r u:=by
 funext i;unfold put;by_cases h1:i=t
 ·by_cases h2:i=r
  ·exact absurd (h2.symm.trans h1) h
  ·rw[aB h1,aA h2,aB h1]
 ·rw[aA h1];by_cases h2:i=r
  ·rw[aB h2,aB h2]
  ·rw[aA h2,aA h2,aA h1]
theorem iW(M:uT)(i:Nat)(v:Vec):sZ (put M i v) i=sZ M i:=by
 funext r c;unfold sZ;rw[iy _ _ (JC i r)]
theorem wF(M:uT){i j:Nat}(v:Vec)(h:j≠i):sZ (put M j v) i=put (sZ M i) (Mx i j) (fun c=>v (c+1)):=by
 funext r c;unfold sZ put;by_cases e:r=Mx i j
 ·rw[aB e,aB ((rF h).mpr e)]
 ·rw[aA e,aA fun z=>e ((rF h).mp z)]
theorem vB:∀k {M N:uT},(∀i,i<k->∀j,j<k->M i j=N i j)->det k M=det k N
 |0,_,_,_=>rfl
 |k+1,M,N,h=>Av (k+1) fun i hi=>by
  rw[h i hi 0 (xR k),vB k (M:=sZ M i) (N:=sZ N i) fun r hr c hc=>h _ (Bq hi hr) _ (Nat.succ_lt_succ hc)]
theorem wV:∀k (M:uT) (r:Nat) (a b:Int) (u v:Vec),r<k->det k (put M r fun c=>a*u c+b*v c)=a*det k (put M r u)+b*det k (put M r v)
 |k+1,M,r,a,b,u,v,hr=>by
  unfold det;rw[<-gj,<-gj,<-lZ];refine Av (k+1) fun i hi=> ?_;by_cases e:r=i
  ·subst e;rw[iW,iW,iW,put_same,put_same,put_same]
   grind
  ·rw[wF _ _ e,wF _ _ e,wF _ _ e,iy _ _ (lO e),iy _ _ (lO e),iy _ _ (lO e),wV k (sZ M i) (Mx i r) a b (fun c=>u (c+1)) (fun c=>v (c+1)) (RP e hi hr)]
   grind
theorem rN:∀k (M:uT) (r:Nat),r+1<k->M r=M (r+1)->det k M=0
 |k+1,M,r,hr,e=>by
  unfold det;refine Jy (j:=r) (k+1) hr (fun i hi h1 h2=> ?_) ?_
  ·have z:det k (sZ M i)=0:=by
    by_cases c:i<r
    ·refine rN k (sZ M i) (r-1) (by omega) ?_;funext x;unfold sZ HX;rw[aA (by omega),aA (by omega),show r-1+1=r by omega,e]
    ·refine rN k (sZ M i) r (by omega) ?_;funext x;unfold sZ HX;rw[aB (by omega),aB (by omega),e]
   rw[z,Aj]
  ·have z:sZ M r=sZ M (r+1):=by
    funext x c;unfold sZ HX;by_cases h1:x<r
    ·rw[aB h1,aB (by omega)]
    ·rw[aA h1];by_cases h2:x=r
     ·subst h2;rw[aB (by omega),e]
     ·rw[aA (by omega)]
   rw[z,e,Nv]
   grind
theorem Lp(k:Nat)(M:uT)(t:Nat)(u v:Vec)(h:t+1<k):det k (put (put M t u) (t+1) v)= -det k (put (put M t v) (t+1) u):=by
 have n1:t≠t+1:=by omega
 have z:∀w:Vec,det k (put (put M t w) (t+1) w)=0:=fun w=>rN k _ t h (by rw[iy _ _ n1,put_same,put_same]);have TV:∀(N:uT) (r:Nat) (a b:Vec),r<k->det k (put N r fun c=>a c+b c)=det k (put N r a)+det k (put N r b):=fun N r a b hr=>by
  have:=wV k N r 1 1 a b hr;simp only[M4]at this;exact this
 have z1:=z fun c=>u c+v c;rw[TV _ (t+1) u v h,iJ M _ _ n1,iJ M _ _ n1,TV _ t u v (by omega),TV _ t u v (by omega),<-iJ M _ _ n1,<-iJ M _ _ n1,<-iJ M _ _ n1,<-iJ M _ _ n1,z u,z v]at z1;omega
theorem qt:∀(d k:Nat) (M:uT) (r:Nat),r+d+1<k->M r=M (r+d+1)->det k M=0
 |0,k,M,r,h,e=>rN k M r h e
 |d+1,k,M,r,h,e=>by
  have f:=Lp k M (r+d+1) (M (r+d+1)) (M (r+d+1+1)) h;rw[sU,sU]at f;rw[f,qt d k _ r (by omega) (by rw[iy _ _ (by omega),iy _ _ (by omega),iy _ _ (by omega),put_same,e];rfl)];rfl
theorem Ln{k:Nat}{M:uT}{r t:Nat}(hr:r<k)(ht:t<k)(h:r≠t)(e:M r=M t):det k M=0:=by
 by_cases c:r<t
 ·exact qt (t-r-1) k M r (by omega) (by rw[e];congr 1;omega)
 ·exact qt (r-t-1) k M t (by omega) (by rw[<-e];congr 1;omega)
theorem zO:∀k (M:uT),(∀i,i<k->∀j,j<k->M i j=if i=j then 1 else 0)->det k M=1
 |0,_,_=>rfl
 |k+1,M,h=>by
  unfold det;rw[eZ (j:=0) (k+1) (xR k) fun i hi hn=>by rw[h i hi 0 (xR k),aA hn];grind];rw[h 0 (xR k) 0 (xR k),aB rfl,zO k (sZ M 0) fun i hi j hj=> ?_]
  ·rfl
  ·unfold sZ HX;rw[aA (by omega),h _ (by omega) _ (by omega)];by_cases e:i=j
   ·rw[aB e,aB (by omega)]
   ·rw[aA e,aA (by omega)]
def fct:Nat->Int
 |0=>1
 |k+1=>(k+1:Int)*fct k
theorem Bo{f:Nat->Int}{b:Int}:∀k,(∀i,i<k-> -b<=f i/\f i<=b)-> -((k:Int)*b)<=sm k f/\sm k f<=(k:Int)*b
 |0,_=>by
  show -((0:Int)*b)<=0/\(0:Int)<=0*b;omega
 |k+1,h=>by
  have ih:=Bo k fun i hi=>h i (pQ hi);have hk:=h k (ur k);show -((k+1:Nat)*b)<=sm k f+f k/\sm k f+f k<=(k+1:Nat)*b;rw[show(((k+1:Nat):Int))*b=(k:Int)*b+b by rw[Int.natCast_succ,Int.add_mul,M4]];omega
theorem Ew{x y a b:Int}(hx: -a<=x/\x<=a)(hy: -b<=y/\y<=b): -(a*b)<=x*y/\x*y<=a*b:=by
 have h1:0<=(a-x)*(b-y):=yt (by omega) (by omega);have h2:0<=(a+x)*(b+y):=yt (by omega) (by omega);have h3:0<=(a-x)*(b+y):=yt (by omega) (by omega);have h4:0<=(a+x)*(b-y):=yt (by omega) (by omega);constructor<;>grind
theorem wW:∀k (M:uT) (c:Nat) (B:Int),1<=B->(∀i,i<k->∀j,j<k->i≠c-> -1<=M i j/\M i j<=1)->(∀j,j<k->c<k-> -B<=M c j/\M c j<=B)-> -(fct k*B)<=det k M/\det k M<=fct k*B
 |0,M,c,B,hB,_,_=>by
  show -(1*B)<=1/\(1:Int)<=1*B;omega
 |k+1,M,c,B,hB,h1,h2=>by
  unfold det;have e:fct (k+1)*B=((k+1:Nat):Int)*(fct k*B):=by show((k:Int)+1)*fct k*B=_;rw[Qm];rfl
  rw[e];refine Bo (k+1) fun i hi=> ?_;have hs:∀x y:Int, -y<=x/\x<=y-> -y<=sg i*x/\sg i*x<=y:=fun x y h=>by
   rcases R3 i with s|s
   ·rw[s,M4];exact h
   ·rw[s];omega
  rw[Qm];refine hs _ _ ?_;by_cases ci:i=c
  ·subst ci;have a:=wW k (sZ M i) k 1 (by decide) (fun r hr x hx _=>h1 _ (Bq hi hr) _ (by omega) (JC i r)) (fun x hx hk=>absurd hk (uy k));have b:=h2 0 (xR k) hi;rw[Vj]at a;have:=Ew b a;rw[M8 (fct k) B];exact this
  ·have a:=wW k (sZ M i) (Mx i c) B hB (fun r hr x hx hn=>h1 _ (Bq hi hr) _ (by omega) fun z=>hn ((rF (lO ci)).mp z)) (fun x hx hk=>by
    have hc:HX i (Mx i c)=c:=(rF (lO ci)).mpr rfl;have hlt:c<k+1:=by unfold Mx at hk;split at hk<;>omega
    have:=h2 (x+1) (by omega) hlt;unfold sZ;rw[hc];exact this)
   have b:=h1 i hi 0 (xR k) ci;have:=Ew b a;rw[M4]at this;exact this
structure Tab where
 col:Nat->Nat
 row:Nat->Nat
 cell:Nat->Nat->Int
 over:Int
 s:Int
def one:Vec:=fun j=>if j=0 then 1 else 0
section
variable(n m:Nat)(S:Nat->Nat->Bool)(w:Nat->Int)
def nv(a:Nat):Vec:=fun j=>if a<n then(if j=a+1 then 1 else 0)else(if j=0 then 1 else if S (a-n) (j-1)=true then -1 else 0)
def zv:Vec:=fun j=>if j=0 then 0 else w (j-1)
def rv(T:Tab)(r:Nat):Vec:=if r<m then nv n S (T.row r)else zv w
def oU(T:Tab):uT:=fun i=>if i=0 then one else nv n S (T.col (i-1))
def Fn(T:Tab)(c:Nat)(v:Vec):Int:=T.s*det (n+1) (put (oU n S T) c v)
structure Good(T:Tab):Prop where
 pos:0<T.over
 eq:∀r,r<=m->∀j,j<=n->T.over*rv n m S w T r j=T.cell r n*one j-sm n (fun c=>T.cell r c*nv n S (T.col c) j)
 sg:T.s=1\/T.s= -1
 dt:T.over=T.s*det (n+1) (oU n S T)
 CP:∀c c',c<n->c'<n->T.col c=T.col c'->c=c'
 JV:∀r r',r<m->r'<m->T.row r=T.row r'->r=r'
 dis:∀c r,c<n->r<m->T.col c≠T.row r
 Qc:∀c,c<n->T.col c<n+m
 rlt:∀r,r<m->T.row r<n+m
 all:∀a,a<n+m->(∃c,c<n/\T.col c=a)\/∃r,r<m/\T.row r=a
 VB:∀r,r<m->0<=T.cell r n
end
section
variable{n m:Nat}{S:Nat->Nat->Bool}{w:Nat->Int}{T:Tab}
theorem fH{r:Nat}(h:r<m):rv n m S w T r=nv n S (T.row r):=aB h
theorem gM:rv n m S w T m=zv w:=aA (uy m)
theorem Aa:oU n S T 0=one:=rfl
theorem Ft(c:Nat):oU n S T (c+1)=nv n S (T.col c):=by unfold oU;rw[aA (yw c)];rfl
theorem xH{c:Nat}(hc:c<=n)(a b:Int)(u v:Vec):Fn n S T c (fun j=>a*u j+b*v j)=a*Fn n S T c u+b*Fn n S T c v:=by
 unfold Fn;rw[wV (n+1) (oU n S T) c a b u v (by omega)];grind
theorem Ig{c:Nat}{u v:Vec}(h:∀j,j<=n->u j=v j):Fn n S T c u=Fn n S T c v:=by
 unfold Fn;rw[vB (n+1) (M:=put (oU n S T) c u) (N:=put (oU n S T) c v) fun i _ j hj=> ?_];unfold put;split
 ·exact h j (by omega)
 ·rfl
theorem iZ{c:Nat}(hc:c<=n)(x:Int)(a:Vec)(y:Nat->Int)(W:Nat->Vec):∀k,Fn n S T c (fun j=>x*a j-sm k (fun i=>y i*W i j))=x*Fn n S T c a-sm k (fun i=>y i*Fn n S T c (W i))
 |0=>by
  have h:=xH (T:=T) (S:=S) hc x 0 a a;rw[Ig (v:=fun j=>x*a j+0*a j) fun j _=>by show x*a j-0=_;omega,h];show _=_-0;omega
 |k+1=>by
  have h:=xH (T:=T) (S:=S) hc 1 (-(y k)) (fun j=>x*a j-sm k (fun i=>y i*W i j)) (W k);rw[Ig (v:=fun j=>1*(x*a j-sm k (fun i=>y i*W i j))+ -(y k)*W k j) fun j _=>by show x*a j-(sm k _+y k*W k j)=_;grind,h,iZ hc x a y W k];show _=x*Fn n S T c a-(sm k _+y k*Fn n S T c (W k))
  grind
theorem oY{c:Nat}(hc:c<=n)(a:Int)(u:Vec):Fn n S T c (fun j=>a*u j)=a*Fn n S T c u:=by
 have h:=xH (T:=T) (S:=S) hc a 0 u u;rw[Ig (v:=fun j=>a*u j+0*u j) fun j _=>by omega,h];omega
theorem Mg(g:T.over=T.s*det (n+1) (oU n S T)){c i:Nat}(hc:c<=n)(hi:i<=n):Fn n S T c (oU n S T i)=if i=c then T.over else 0:=by
 unfold Fn;by_cases e:i=c
 ·subst e;rw[aB rfl,sU,<-g]
 ·rw[aA e,Ln (r:=c) (t:=i) (by omega) (by omega) (lO e) (by rw[put_same,iy _ _ e]),Aj]
theorem j7(g:T.over=T.s*det (n+1) (oU n S T)){c:Nat}(hc:c<=n):Fn n S T c one=if c=0 then T.over else 0:=by
 have:=Mg g hc (cG n);rw[Aa]at this;rw[this];by_cases e:c=0
 ·rw[aB e,aB e.symm]
 ·rw[aA e,aA (lO e)]
theorem yc(g:T.over=T.s*det (n+1) (oU n S T)){c i:Nat}(hc:c<=n)(hi:i<n):Fn n S T c (nv n S (T.col i))=if i+1=c then T.over else 0:=by
 have:=Mg g hc (show i+1<=n by omega);rw[Ft]at this;exact this
theorem VR{a x y:Int}(h:0<a)(e:a*x=a*y):x=y:=yek (by omega) e
theorem Good.base(G:Good n m S w T){r:Nat}(hr:r<=m):Fn n S T 0 (rv n m S w T r)=T.cell r n:=by
 have h1:=oY (T:=T) (S:=S) (c:=0) (cG n) T.over (rv n m S w T r);rw[Ig fun j hj=>G.eq r hr j hj,iZ (cG n) _ _ (T.cell r) (fun c=>nv n S (T.col c)),j7 G.dt (cG n),aB rfl,cV n fun c hc=>by rw[yc G.dt (cG n) hc,aA (yw c),Aj]]at h1;refine VR G.pos ?_;rw[<-h1,M8];omega
theorem Good.dir(G:Good n m S w T){r c:Nat}(hr:r<=m)(hc:c<n):Fn n S T (c+1) (rv n m S w T r)= -T.cell r c:=by
 have h1:=oY (T:=T) (S:=S) (c:=c+1) hc T.over (rv n m S w T r);rw[Ig fun j hj=>G.eq r hr j hj,iZ hc _ _ (T.cell r) (fun c=>nv n S (T.col c)),j7 G.dt hc,aA (yw c),eZ (j:=c) n hc fun i hi hn=>by rw[yc G.dt hc hi,aA (by omega),Aj],yc G.dt hc hc,aB rfl]at h1;refine VR G.pos ?_;rw[<-h1];grind
def turn(T:Tab)(p q:Nat):Tab where
 col:=fun c=>if c=q then T.row p else T.col c
 row:=fun r=>if r=p then T.col q else T.row r
 over:=T.cell p q
 s:= -T.s
 cell:=fun r c=>if r=p then(if c=q then T.over else T.cell p c)else if c=q then -T.cell r q else(T.cell r c*T.cell p q-T.cell r q*T.cell p c)/T.over
theorem I9{p q:Nat}:oU n S (turn T p q)=put (oU n S T) (q+1) (nv n S (T.row p)):=by
 funext i;unfold oU put turn;dsimp only;by_cases h0:i=0
 ·rw[aB h0,aA (by omega),aB h0]
 ·rw[aA h0];by_cases h1:i=q+1
  ·rw[aB h1,aB (by omega)]
  ·rw[aA h1,aA (by omega),aA h0]
theorem Nr{p q r:Nat}(h:r≠p):rv n m S w (turn T p q) r=rv n m S w T r:=by
 unfold rv turn;dsimp only;rw[aA h]
theorem Good.u6(G:Good n m S w T){p q:Nat}(hp:p<m)(hq:q<n):(turn T p q).over=(turn T p q).s*det (n+1) (oU n S (turn T p q)):=by
 have h:=G.dir (r:=p) (cR hp) hq;rw[fH hp]at h;unfold Fn at h;rw[I9];show T.cell p q= -T.s*_
 grind
theorem Good.exact(G:Good n m S w T){p q r c:Nat}(hp:p<m)(hq:q<n)(hb:0<T.cell p q)(hr:r<=m)(hrp:r≠p)(hc:c<=n)(Uc:c≠q):
  T.over*(turn T p q).cell r c=T.cell r c*T.cell p q-T.cell r q*T.cell p c:=by
 have g':=G.u6 hp hq;have aal:∀j,j<=n->T.cell p q*T.over*rv n m S w T r j=(T.cell r n*T.cell p q-T.cell r q*T.cell p n)*one j-sm n (fun c=>(T.cell r c*T.cell p q-T.cell r q*T.cell p c)*nv n S (T.col c) j)+T.over*T.cell r q*nv n S (T.row p) j:=fun j hj=>by
  have e1:=G.eq r hr j hj;have e2:=G.eq p (cR hp) j hj;rw[fH hp]at e2;have e3:sm n (fun c=>(T.cell r c*T.cell p q-T.cell r q*T.cell p c)*nv n S (T.col c) j)=T.cell p q*sm n (fun c=>T.cell r c*nv n S (T.col c) j)+ -(T.cell r q)*sm n (fun c=>T.cell p c*nv n S (T.col c) j):=by
   rw[<-gj,<-gj,<-lZ];exact Av n fun c _=>by grind
  rw[e3];generalize sm n (fun c=>T.cell r c*nv n S (T.col c) j)=A at *;generalize sm n (fun c=>T.cell p c*nv n S (T.col c) j)=B at *
  grind
 have app:∀d,d<=n->T.cell p q*T.over*Fn n S (turn T p q) d (rv n m S w T r)=(T.cell r n*T.cell p q-T.cell r q*T.cell p n)*Fn n S (turn T p q) d one-sm n (fun c=>(T.cell r c*T.cell p q-T.cell r q*T.cell p c)*Fn n S (turn T p q) d (nv n S (T.col c)))+T.over*T.cell r q*Fn n S (turn T p q) d (nv n S (T.row p)):=fun d hd=>by
  rw[<-oY hd,Ig aal,<-iZ hd _ _ (fun c=>T.cell r c*T.cell p q-T.cell r q*T.cell p c) (fun c=>nv n S (T.col c))];have h:=xH (T:=turn T p q) (S:=S) hd 1 (T.over*T.cell r q) (fun j=>(T.cell r n*T.cell p q-T.cell r q*T.cell p n)*one j-sm n (fun c=>(T.cell r c*T.cell p q-T.cell r q*T.cell p c)*nv n S (T.col c) j)) (nv n S (T.row p));simp only[M4]at h;exact h
 have Yt:nv n S ((turn T p q).col q)=nv n S (T.row p):=by unfold turn;dsimp only;rw[aB rfl]
 have UG:∀c,c≠q->nv n S ((turn T p q).col c)=nv n S (T.col c):=fun c h=>by unfold turn;dsimp only;rw[aA h]
 have ov:(turn T p q).over=T.cell p q:=rfl;have key:∃x,T.cell r c*T.cell p q-T.cell r q*T.cell p c=T.over*x:=by
  by_cases hl:c=n
  ·subst hl;have h:=app 0 (cG _);have f1:=j7 g' (cG c);have f2:=yc g' (cG c) hq;rw[aB rfl,ov]at f1;rw[Yt,aA (yw q)]at f2;rw[f1,f2,cV c fun i hi=> ?_]at h
   ·refine⟨Fn c S (turn T p q) 0 (rv c m S w T r),VR hb ?_⟩
    grind
   ·by_cases Xv:i=q
    ·subst Xv;rw[Int.sub_self,Va]
    ·have f3:=yc g' (cG c) hi;rw[UG i Xv,aA (yw i)]at f3;rw[f3,Aj]
  ·have hc':c<n:=by omega
   have h:=app (c+1) hc';have f1:=j7 g' (show c+1<=n from hc');have f2:=yc g' (show c+1<=n from hc') hq;have f3:=yc g' (show c+1<=n from hc') hc';rw[aA (yw c)]at f1;rw[Yt,aA (by omega)]at f2;rw[UG c Uc,aB rfl,ov]at f3;rw[f1,f2,eZ (j:=c) n hc' fun i hi hn=> ?_,f3]at h
   ·refine⟨-Fn n S (turn T p q) (c+1) (rv n m S w T r),VR hb ?_⟩
    grind
   ·by_cases Xv:i=q
    ·subst Xv;rw[Int.sub_self,Va]
    ·have f4:=yc g' (show c+1<=n from hc') hi;rw[UG i Xv,aA (by omega)]at f4;rw[f4,Aj]
 obtain⟨x,hx⟩:=key;show T.over*(if r=p then _ else if c=q then _ else(T.cell r c*T.cell p q-T.cell r q*T.cell p c)/T.over)=_;rw[aA hrp,aA Uc,hx,wep _ (Int.ne_of_gt G.pos)]
theorem Good.turn(G:Good n m S w T){p q:Nat}(hp:p<m)(hq:q<n)(hb:0<T.cell p q)(ra:∀r,r<m->0<T.cell r q->T.cell p n*T.cell r q<=T.cell r n*T.cell p q):Good n m S w (turn T p q):=by
 have hqn:n≠q:=by omega
 have c1:∀r,r≠p->(Sx.turn T p q).cell r q= -T.cell r q:=fun r h=>by unfold Sx.turn;dsimp only;rw[aA h,aB rfl]
 have c2:(Sx.turn T p q).cell p q=T.over:=by unfold Sx.turn;dsimp only;rw[aB rfl,aB rfl]
 have c3:∀c,c≠q->(Sx.turn T p q).cell p c=T.cell p c:=fun c h=>by unfold Sx.turn;dsimp only;rw[aB rfl,aA h]
 have k1:(Sx.turn T p q).col q=T.row p:=by unfold Sx.turn;dsimp only;rw[aB rfl]
 have k2:∀c,c≠q->(Sx.turn T p q).col c=T.col c:=fun c h=>by unfold Sx.turn;dsimp only;rw[aA h]
 have r1:(Sx.turn T p q).row p=T.col q:=by unfold Sx.turn;dsimp only;rw[aB rfl]
 have r2:∀r,r≠p->(Sx.turn T p q).row r=T.row r:=fun r h=>by unfold Sx.turn;dsimp only;rw[aA h]
 refine⟨hb,fun r hr j hj=> ?_,?_,G.u6 hp hq,fun c c' hc hc' e=> ?_,fun r r' hr hr' e=> ?_,fun c r hc hr e=> ?_,fun c hc=> ?_,fun r hr=> ?_,fun a ha=> ?_,fun r hr=> ?_⟩
 ·have e2:=G.eq p (cR hp) j hj;rw[fH hp]at e2;by_cases h:r=p
  ·subst h;rw[fH hp,r1,c3 n hqn];have e3:sm n (fun c=>(Sx.turn T r q).cell r c*nv n S ((Sx.turn T r q).col c) j)=sm n (fun c=>T.cell r c*nv n S (T.col c) j)+(T.over*nv n S (T.row r) j-T.cell r q*nv n S (T.col q) j):=by
    have:sm n (fun c=>if c=q then T.over*nv n S (T.row r) j-T.cell r q*nv n S (T.col q) j else 0)=T.over*nv n S (T.row r) j-T.cell r q*nv n S (T.col q) j:=by
     rw[eZ (j:=q) n hq fun i _ hn=>aA hn,aB rfl]
    rw[<-this,<-lZ];refine Av n fun c _=> ?_;by_cases hc:c=q
    ·subst hc;rw[c2,k1,aB rfl];omega
    ·rw[c3 c hc,k2 c hc,aA hc];omega
   rw[e3];show T.cell r q*nv n S (T.col q) j=_;omega
  ·rw[Nr h];have e1:=G.eq r hr j hj;have e3:T.over*sm n (fun c=>(Sx.turn T p q).cell r c*nv n S ((Sx.turn T p q).col c) j)=T.cell p q*sm n (fun c=>T.cell r c*nv n S (T.col c) j)+ -(T.cell r q)*sm n (fun c=>T.cell p c*nv n S (T.col c) j)+ -(T.over*T.cell r q*nv n S (T.row p) j):=by
    have:sm n (fun c=>if c=q then -(T.over*T.cell r q*nv n S (T.row p) j)else 0)= -(T.over*T.cell r q*nv n S (T.row p) j):=by
     rw[eZ (j:=q) n hq fun i _ hn=>aA hn,aB rfl]
    rw[<-this,<-gj,<-gj,<-gj,<-lZ,<-lZ];refine Av n fun c hc=> ?_;by_cases Uc:c=q
    ·subst Uc;rw[c1 r h,k1,aB rfl];grind
    ·have:=G.exact hp hq hb hr h (cR hc) Uc;rw[k2 c Uc,aA Uc,<-Qm,this];grind
   have e4:=G.exact hp hq hb hr h (aN n) hqn;refine VR G.pos ?_;show T.over*(T.cell p q*rv n m S w T r j)=_;rw[Int.mul_sub,e3,<-Qm T.over ((Sx.turn T p q).cell r n),e4];generalize sm n (fun c=>T.cell r c*nv n S (T.col c) j)=A at *;generalize sm n (fun c=>T.cell p c*nv n S (T.col c) j)=B at *
   grind
 ·rcases G.sg with e|e
  ·exact .inr (by show -T.s= -1;rw[e])
  ·exact .inl (by show -T.s=1;rw[e];rfl)
 ·by_cases h1:c=q
  ·by_cases h2:c'=q
   ·rw[h1,h2]
   ·rw[h1,k1,k2 c' h2]at e;exact absurd e.symm (G.dis c' p hc' hp)
  ·by_cases h2:c'=q
   ·rw[h2,k1,k2 c h1]at e;exact absurd e (G.dis c p hc hp)
   ·rw[k2 c h1,k2 c' h2]at e;exact G.CP c c' hc hc' e
 ·by_cases h1:r=p
  ·by_cases h2:r'=p
   ·rw[h1,h2]
   ·rw[h1,r1,r2 r' h2]at e;exact absurd e (G.dis q r' hq hr')
  ·by_cases h2:r'=p
   ·rw[h2,r1,r2 r h1]at e;exact absurd e.symm (G.dis q r hq hr)
   ·rw[r2 r h1,r2 r' h2]at e;exact G.JV r r' hr hr' e
 ·by_cases h1:c=q
  ·by_cases h2:r=p
   ·rw[h1,h2,k1,r1]at e;exact G.dis q p hq hp e.symm
   ·rw[h1,k1,r2 r h2]at e;exact h2 (G.JV p r hp hr e).symm
  ·by_cases h2:r=p
   ·rw[h2,k2 c h1,r1]at e;exact h1 (G.CP c q hc hq e)
   ·rw[k2 c h1,r2 r h2]at e;exact G.dis c r hc hr e
 ·by_cases h1:c=q
  ·rw[h1,k1];exact G.rlt p hp
  ·rw[k2 c h1];exact G.Qc c hc
 ·by_cases h1:r=p
  ·rw[h1,r1];exact G.Qc q hq
  ·rw[r2 r h1];exact G.rlt r hr
 ·rcases G.all a ha with⟨c,hc,e⟩|⟨r,hr,e⟩
  ·by_cases h1:c=q
   ·exact .inr ⟨p,hp,by rw[r1,<-h1,e]⟩
   ·exact .inl ⟨c,hc,by rw[k2 c h1,e]⟩
  ·by_cases h1:r=p
   ·exact .inl ⟨q,hq,by rw[k1,<-h1,e]⟩
   ·exact .inr ⟨r,hr,by rw[r2 r h1,e]⟩
 ·by_cases h1:r=p
  ·rw[h1,c3 n hqn];exact G.VB p hp
  ·have e:=G.exact hp hq hb (cR hr) h1 (aN n) hqn;have f1:=G.VB r hr;have f2:=G.VB p hp;have z:0<=T.cell r n*T.cell p q-T.cell r q*T.cell p n:=by
    by_cases hc:0<T.cell r q
    ·have:=ra r hr hc;rw[M8 (T.cell r q)];omega
    ·have a1:0<=T.cell r n*T.cell p q:=yt f1 (by omega);have a2:0<= -(T.cell r q)*T.cell p n:=yt (by omega) f2
     grind
   rw[<-e]at z;have:=G.pos;refine Int.not_lt.mp fun hn=> ?_;have:T.over*(Sx.turn T p q).cell r n<0:=Int.mul_neg_of_pos_of_neg G.pos hn;omega
end
structure Step(n m:Nat)(T:Tab)(p q:Nat):Prop where
 hp:p<m
 hq:q<n
 neg:T.cell m q<0
 ent:∀c,c<n->T.cell m c<0->T.col q<=T.col c
 by_:0<T.cell p q
 lev:∀r,r<m->0<T.cell r q->T.cell p n*T.cell r q<T.cell r n*T.cell p q\/(T.cell p n*T.cell r q=T.cell r n*T.cell p q/\T.row p<=T.row r)
def inC(n:Nat)(T:Tab)(a:Nat):Prop:=∃c,c<n/\T.col c=a
section
variable{n m:Nat}{S:Nat->Nat->Bool}{w:Nat->Int}
theorem Step.good{T:Tab}{p q:Nat}(s:Step n m T p q)(G:Good n m S w T):Good n m S w (turn T p q):=
 G.turn s.hp s.hq s.by_ fun r hr h=>(s.lev r hr h).elim Dw fun e=>wed e.1
theorem Step.worth{T:Tab}{p q:Nat}(s:Step n m T p q)(G:Good n m S w T):T.over*(turn T p q).cell m n-(turn T p q).over*T.cell m n= -(T.cell m q)*T.cell p n:=by
 have h:=G.exact s.hp s.hq s.by_ (aN m) (Ik s.hp) (aN n) (Ik s.hq);rw[h];show _-T.cell p q*_=_
 grind
theorem Step.le{T:Tab}{p q:Nat}(s:Step n m T p q)(G:Good n m S w T):(turn T p q).over*T.cell m n<=T.over*(turn T p q).cell m n:=by
 have h:=s.worth G;have:=yt (a:= -(T.cell m q)) (b:=T.cell p n) (by have:=s.neg;omega) (G.VB p s.hp);omega
theorem wN{a b c d e f:Int}(hd:0<d)(hb:0<b)(hf:0<f)(h1:d*a<=b*c)(h2:f*c<=d*e):f*a<=b*e:=by
 have x:=Y8 h1 (Dw hf);have y:=Y8 h2 (Dw hb);refine Int.le_of_mul_le_mul_left (a:=d) ?_ hd
 grind
theorem wM{a b c d e f:Int}(hd:0<d)(hb:0<b)(hf:0<f)(h1:d*a<=b*c)(h2:f*c<d*e):f*a<b*e:=by
 have x:=Y8 h1 (Dw hf);have y:=wdt h2 hb;refine weg (a:=d) ?_ (Dw hd)
 grind
theorem zJ{a b c d e f:Int}(hd:0<d)(hb:0<b)(hf:0<f)(h1:d*a<b*c)(h2:f*c<=d*e):f*a<b*e:=by
 have x:=wdt h1 hf;have y:=Y8 h2 (Dw hb);refine weg (a:=d) ?_ (Dw hd)
 grind
theorem goes{P:Nat->Prop}{s:Nat}:∀d,P s->¬P (s+d)->∃t,s<=t/\t<s+d/\P t/\¬P (t+1)
 |0,h,h'=>absurd h h'
 |d+1,h,h'=>by
  by_cases c:P (s+d)
  ·exact⟨s+d,by omega,by omega,c,h'⟩
  ·obtain⟨t,a,b,x⟩:=goes d h c;exact⟨t,a,by omega,x⟩
theorem zB{P:Nat->Prop}{s e:Nat}(hse:s<=e)(h:P s)(h':¬P e):∃t,s<=t/\t<e/\P t/\¬P (t+1):=by
 obtain⟨t,a,b,x⟩:=goes (s:=s) (e-s) h (by rw[show s+(e-s)=e by omega];exact h');exact⟨t,a,by omega,x⟩
theorem most{P:Nat->Prop}:∀N,(∃a,P a)->(∀a,P a->a<N)->∃a,P a/\∀b,P b->b<=a
 |0,⟨a,h⟩,hb=>absurd (hb a h) (M9 a)
 |N+1,h,hb=>by
  by_cases c:P N
  ·exact⟨N,c,fun b hP=>by have:=hb b hP;omega⟩
  ·exact most N h fun a hP=>by
    have:=hb a hP;have:a≠N:=fun e=>c (e▸hP);omega
structure Run(n m:Nat)(S:Nat->Nat->Bool)(w:Nat->Int)(T:Nat->Tab)(p q:Nat->Nat)(L:Nat):Prop where
 first:Good n m S w (T 0)
 step:∀t,t<L->Step n m (T t) (p t) (q t)
 next:∀t,t<L->T (t+1)=turn (T t) (p t) (q t)
variable{T:Nat->Tab}{p q:Nat->Nat}{L:Nat}
theorem Run.good(R:Run n m S w T p q L):∀t,t<=L->Good n m S w (T t)
 |0,_=>R.first
 |t+1,h=>by rw[R.next t h];exact(R.step t h).good (R.good t (wem h))
theorem Run.worth(R:Run n m S w T p q L){i:Nat}:∀d,i+d<=L->(T (i+d)).over*(T i).cell m n<=(T i).over*(T (i+d)).cell m n
 |0,_=>Dv _
 |d+1,h=>by
  have ih:=R.worth d (i:=i) (by omega);have g1:=R.good (i+d) (by omega);have st:=(R.step (i+d) (by omega)).le g1;rw[<-R.next (i+d) (by omega)]at st;exact wN g1.pos (R.good i (by omega)).pos (R.good (i+d+1) h).pos ih st
theorem Run.Ir(R:Run n m S w T p q L){i j:Nat}(hij:i<=j)(hj:j<=L):(T j).over*(T i).cell m n<=(T i).over*(T j).cell m n:=by
 have:=R.worth (i:=i) (j-i) (by omega)
 rwa [show i+(j-i)=j by omega]at this
theorem Bs{A B:Tab}(GA:Good n m S w A)(GB:Good n m S w B)(h:∀a,inC n B a->inC n A a):B.over*A.cell m n=A.over*B.cell m n:=by
 have h1:=oY (T:=A) (S:=S) (c:=0) (cG n) B.over (zv w);have e:=GB.eq m (aN m);rw[gM]at e;have b:=GA.base (aN m);rw[gM]at b;rw[Ig e,iZ (cG n) _ _ (B.cell m) (fun c=>nv n S (B.col c)),j7 GA.dt (cG n),aB rfl,cV n fun c hc=> ?_,b]at h1
 ·rw[<-h1,M8];omega
 ·obtain⟨c',hc',e'⟩:=h _ ⟨c,hc,rfl⟩;rw[<-e',yc GA.dt (cG n) hc',aA (yw c'),Aj]
theorem IW{T:Tab}{p q:Nat}(G:Good n m S w T)(hp:p<m)(hq:q<n)(a:Nat):inC n (turn T p q) a↔(inC n T a/\a≠T.col q)\/a=T.row p:=by
 constructor
 ·rintro⟨c,hc,e⟩;have e':(if c=q then T.row p else T.col c)=a:=e;by_cases h:c=q
  ·rw[aB h]at e';exact .inr e'.symm
  ·rw[aA h]at e';exact .inl ⟨⟨c,hc,e'⟩,fun z=>h (G.CP c q hc hq (e'.trans z))⟩
 ·rintro(⟨⟨c,hc,e⟩,hn⟩|e)
  ·have h:c≠q:=fun z=>hn (by rw[<-e,z]);exact⟨c,hc,by show(if c=q then _ else _)=a;rw[aA h];exact e⟩
  ·exact⟨q,hq,by show(if q=q then _ else _)=a;rw[aB rfl];exact e.symm⟩
theorem flat{T:Tab}{p q:Nat}(G:Good n m S w T)(G':Good n m S w (turn T p q))(s:Step n m T p q)(h0:T.cell p n=0){a:Nat}(ha:a<n+m):Fn n S (turn T p q) 0 (nv n S a)=0↔Fn n S T 0 (nv n S a)=0:=by
 have z0:=cG n;rcases G'.all a ha with⟨c,hc,e⟩|⟨r,hr,e⟩
 ·have f1:=yc G'.dt z0 hc;rw[e,aA (yw c)]at f1;refine⟨fun _=> ?_,fun _=>f1⟩;have e':(if c=q then T.row p else T.col c)=a:=e;by_cases h:c=q
  ·rw[aB h]at e';have:=G.base (cR s.hp);rw[fH s.hp,e']at this;rw[this,h0]
  ·rw[aA h]at e';have:=yc G.dt z0 hc;rw[e',aA (yw c)]at this;exact this
 ·have f1:=G'.base (cR hr);rw[fH hr,e]at f1;have e':(if r=p then T.col q else T.row r)=a:=e;rw[f1];by_cases h:r=p
  ·rw[aB h]at e';have f2:=yc G.dt z0 s.hq;rw[e',aA (yw q)]at f2;have f3:(turn T p q).cell r n=T.cell p n:=by
    show(if r=p then(if n=q then _ else _)else _)=_;rw[aB h,aA (Ik s.hq)]
   rw[f3,h0];exact⟨fun _=>f2,fun _=>rfl⟩
  ·rw[aA h]at e';have f2:=G.base (cR hr);rw[fH hr,e']at f2;rw[f2];have x:=G.exact s.hp s.hq s.by_ (cR hr) h (aN n) (Ik s.hq);rw[h0,Aj,Int.sub_zero]at x;constructor
   ·intro z;rw[z,Aj]at x;rcases Int.mul_eq_zero.mp x.symm with y|y
    ·exact y
    ·have:=s.by_;omega
   ·intro z;rw[z,Va]at x;rcases Int.mul_eq_zero.mp x with y|y
    ·have:=G.pos;omega
    ·exact y
theorem Run.GC(R:Run n m S w T p q L){i j:Nat}(hij:i<j)(hj:j<=L):¬∀a,inC n (T i) a↔inC n (T j) a:=by
 intro same;have Gt:∀t,i<=t->t<=j->Good n m S w (T t):=fun t _ h=>R.good t (cC h hj);have D:=Bs (Gt i (aN i) (cR hij)) (Gt j (cR hij) (aN j)) fun a=>(same a).mpr;have St:∀t,t<j->Step n m (T t) (p t) (q t):=fun t h=>R.step t (jw h hj);have nx:∀t,t<j->T (t+1)=turn (T t) (p t) (q t):=fun t h=>R.next t (jw h hj)
 -- every turn of these is flat
 have fl:∀t,i<=t->t<j->(T t).cell (p t) n=0:=fun t hi ht=>by
  have g:=Gt t hi (cR ht);have W:=(St t ht).worth g;have F:=g.VB (p t) (St t ht).hp;have N:=(St t ht).neg;by_cases z:(T t).cell (p t) n=0
  ·exact z
  ·exfalso;have B:(turn (T t) (p t) (q t)).over*(T t).cell m n<(T t).over*(turn (T t) (p t) (q t)).cell m n:=by
    have:=Vi (a:= -((T t).cell m (q t))) (b:=(T t).cell (p t) n) (by omega) (by omega);omega
   rw[<-nx t ht]at B;have A:=R.Ir (i:=i) (j:=t) hi (by omega);have C:=R.Ir (i:=t+1) (j:=j) ht hj;have o1:=(Gt i (aN i) (cR hij)).pos;have o2:=g.pos;have o3:=(Gt (t+1) (by omega) ht).pos;have o4:=(Gt j (cR hij) (aN j)).pos;have x:=wM o2 o1 o3 A B;have y:=zJ o3 o1 o4 x C;omega
 have ic:∀t,t<j->i<=t->∀a,inC n (T (t+1)) a↔(inC n (T t) a/\a≠(T t).col (q t))\/a=(T t).row (p t):=fun t ht hi a=>by
  rw[nx t ht];exact IW (Gt t hi (cR ht)) (St t ht).hp (St t ht).hq a
 have zeros:∀{a:Nat},a<n+m->∀d s,i<=s->s+d<=j->(Fn n S (T (s+d)) 0 (nv n S a)=0↔Fn n S (T s) 0 (nv n S a)=0):=fun{a} ha d=>by
  induction d with
  |zero=>intro s _ _;exact Iff.rfl
  |succ d ih=>
   intro s hs hd;have f:=flat (Gt (s+d) (by omega) (by omega)) (by rw[<-nx (s+d) (by omega)];exact Gt (s+d+1) (by omega) hd) (St (s+d) (by omega)) (fl (s+d) (by omega) (by omega)) ha;rw[<-nx (s+d) (by omega)]at f;exact f.trans (ih s hs (by omega))
 have VJ:∀{a s t:Nat},a<n+m->i<=s->s<=j->i<=t->t<=j->Fn n S (T s) 0 (nv n S a)=0->Fn n S (T t) 0 (nv n S a)=0:=fun{a s t} ha h1 h2 h3 h4 z=>by
  by_cases c:s<=t
  ·have:=zeros ha (t-s) s h1 (by omega);rw[show s+(t-s)=t by omega]at this;exact this.mpr z
  ·have:=zeros ha (s-t) t h3 (by omega);rw[show t+(s-t)=s by omega]at this;exact this.mp z
 -- the greatest name that comes and goes
 let Fk:Nat->Prop:=fun a=>∃t,i<=t/\t<j/\((inC n (T t) a/\¬inC n (T (t+1)) a)\/(¬inC n (T t) a/\inC n (T (t+1)) a));have fkc:∀t,i<=t->t<j->Fk ((T t).col (q t)):=fun t hi ht=>by
  have g:=Gt t hi (cR ht);refine⟨t,hi,ht,.inl ⟨⟨q t,(St t ht).hq,rfl⟩,fun z=> ?_⟩⟩;rcases(ic t ht hi _).mp z with⟨_,z⟩|z
  ·exact z rfl
  ·exact g.dis (q t) (p t) (St t ht).hq (St t ht).hp z
 have lt:∀a,Fk a->a<n+m:=fun a h=>by
  obtain⟨t,hi,ht,(⟨⟨c,hc,e⟩,_⟩|⟨_,⟨c,hc,e⟩⟩)⟩:=h
  ·rw[<-e];exact(Gt t hi (cR ht)).Qc c hc
  ·rw[<-e];exact(Gt (t+1) (by omega) ht).Qc c hc
 obtain⟨tt,hF,hmax⟩:=most (n+m) ⟨_,fkc i (aN i) hij⟩ lt;have diff:∀{a s e:Nat},i<=s->s<=j->i<=e->e<=j->inC n (T s) a->¬inC n (T e) a->Fk a:=fun{a s e} h1 h2 h3 h4 x y=>by
  by_cases c:s<=e
  ·obtain⟨t,a1,a2,a3,a4⟩:=zB (P:=fun t=>inC n (T t) a) c x y;exact⟨t,by omega,by omega,.inl ⟨a3,a4⟩⟩
  ·obtain⟨t,a1,a2,a3,a4⟩:=zB (P:=fun t=>¬inC n (T t) a) (s:=e) (e:=s) (by omega) y (fun z=>z x);exact⟨t,by omega,by omega,.inr ⟨a3,Classical.not_not.mp a4⟩⟩
 obtain⟨t1,XH,Vz,h1a,h1b⟩:∃t,i<=t/\t<j/\inC n (T t) tt/\¬inC n (T (t+1)) tt:=by
  obtain⟨t,hi,ht,(⟨x,y⟩|⟨x,y⟩)⟩:=hF
  ·exact⟨t,hi,ht,x,y⟩
  ·by_cases c:inC n (T j) tt
   ·obtain⟨u,a1,a2,a3,a4⟩:=zB (P:=fun t=>inC n (T t) tt) hi ((same tt).mpr c) x;exact⟨u,a1,by omega,a3,a4⟩
   ·obtain⟨u,a1,a2,a3,a4⟩:=zB (P:=fun t=>inC n (T t) tt) (s:=t+1) (e:=j) ht y c;exact⟨u,by omega,a2,a3,a4⟩
 obtain⟨t2,Vy,Uh,h2a,h2b⟩:∃t,i<=t/\t<j/\¬inC n (T t) tt/\inC n (T (t+1)) tt:=by
  have up:∀s e,i<=s->s<=e->e<=j->¬inC n (T s) tt->inC n (T e) tt->∃t,i<=t/\t<j/\¬inC n (T t) tt/\inC n (T (t+1)) tt:=fun s e a b c x y=>by
   obtain⟨u,a1,a2,a3,a4⟩:=zB (P:=fun t=>¬inC n (T t) tt) b x (fun z=>z y);exact⟨u,by omega,by omega,a3,Classical.not_not.mp a4⟩
  by_cases c:inC n (T j) tt
  ·exact up (t1+1) j (by omega) Vz (aN j) h1b c
  ·exact up i t1 (aN i) XH (by omega) (fun z=>c ((same tt).mp z)) h1a
 have e1:tt=(T t1).col (q t1):=by
  refine QB fun hn=>h1b ((ic t1 Vz XH tt).mpr (.inl ⟨h1a,hn⟩))
 have e2:tt=(T t2).row (p t2):=by
  rcases(ic t2 Uh Vy tt).mp h2b with⟨z,_⟩|z
  ·exact absurd z h2a
  ·exact z
 have G1:=Gt t1 XH (cR Vz);have G2:=Gt t2 Vy (cR Uh);have S1:=St t1 Vz;have S2:=St t2 Uh
 -- along the column that enters at t2
 have hq2:q t2+1<=n:=S2.hq;have dz:=G2.dir (aN m) S2.hq;rw[gM]at dz;have sum:=oY (T:=T t2) (S:=S) hq2 (T t1).over (zv w);have eq1:=G1.eq m (aN m);rw[gM]at eq1;rw[Ig eq1,iZ hq2 _ _ ((T t1).cell m) (fun c=>nv n S ((T t1).col c)),j7 G2.dt hq2,aA (yw _),dz]at sum;have neg:sm n (fun c=>(T t1).cell m c*Fn n S (T t2) (q t2+1) (nv n S ((T t1).col c)))<0:=by
  have:=Vi G1.pos (b:= -((T t2).cell m (q t2))) (by have:=S2.neg;omega);omega
 obtain⟨c,hc,hlt⟩:=Jz n neg;have hnm:=G1.Qc c hc;rcases G2.all _ hnm with⟨c0,hc0,e0⟩|⟨r0,hr0,e0⟩
 ·have f:=yc G2.dt hq2 hc0;rw[e0]at f;by_cases z:c0=q t2
  ·rw[aB (by omega)]at f;rw[f]at hlt;have cn:(T t1).cell m c<0:=by
    refine Int.not_le.mp fun h=> ?_;have:=yt h (Dw G2.pos);omega
   have a:=S1.ent c hc cn;rw[<-e1,<-e0,z]at a;have b:=hmax _ (fkc t2 Vy Uh);have:tt=(T t2).col (q t2):=Rx a b;exact G2.dis (q t2) (p t2) S2.hq S2.hp (this.symm.trans e2)
  ·rw[aA (by omega)]at f;rw[f,Aj]at hlt;exact absurd hlt (wgb 0)
 ·have f:=G2.dir (cR hr0) S2.hq;rw[fH hr0,e0]at f;rw[f]at hlt;have fk:Fk ((T t1).col c):=diff XH (cR Vz) Vy (cR Uh) ⟨c,hc,rfl⟩ (fun⟨c',hc',e'⟩=>G2.dis c' r0 hc' hr0 (e'.trans e0.symm));have le:=hmax _ fk;by_cases z:(T t1).col c=tt
  ·have cq:c=q t1:=G1.CP c (q t1) hc S1.hq (z.trans e1);have rp:r0=p t2:=G2.JV r0 (p t2) hr0 S2.hp (e0.trans (z.trans e2));subst cq rp;have a:=S1.neg;have b:=S2.by_;have:=Vi (a:= -((T t1).cell m (q t1))) (b:=(T t2).cell (p t2) (q t2)) (by omega) b
   grind
  ·have cn:¬(T t1).cell m c<0:=fun h=>by
    have:=S1.ent c hc h;omega
   have J1:0<(T t2).cell r0 (q t2):=by
    refine Int.not_le.mp fun h=> ?_;have:=yt (a:=(T t1).cell m c) (b:= -((T t2).cell r0 (q t2))) (by omega) (by omega);omega
   have v1:Fn n S (T t1) 0 (nv n S ((T t1).col c))=0:=by rw[yc G1.dt (cG n) hc,aA (yw c)]
   have v2:=VJ hnm XH (cR Vz) Vy (cR Uh) v1;have b:=G2.base (cR hr0);rw[fH hr0,e0,v2]at b;have k:=fl t2 Vy Uh;rcases S2.lev r0 hr0 J1 with h|⟨_,h⟩
   ·rw[k,<-b,Va,Va]at h;exact absurd h (wgb 0)
   ·rw[<-e2,e0]at h;omega
def enc:List Bool->Nat
 |[]=>0
 |b::l=>(if b=true then 1 else 0)+2*enc l
theorem Lj:∀l:List Bool,enc l<2^l.length
 |[]=>by decide
 |b::l=>by
  have:=Lj l;show(if b=true then 1 else 0)+2*enc l<2^(l.length+1);rw[Nat.pow_succ];split<;>omega
theorem Fo:∀{l l':List Bool},l.length=l'.length->enc l=enc l'->l=l'
 |[],[],_,_=>rfl
 |b::l,b'::l',h,e=>by
  have e':(if b=true then 1 else 0)+2*enc l=(if b'=true then 1 else 0)+2*enc l':=e;have hb:b=b':=by cases b<;>cases b'<;>simp at e'⊢<;>omega
  subst hb;rw[Fo (l:=l) (l':=l') (by simpa using h) (by omega)]
theorem few:∀(K:Nat) (l:List Nat),l.Nodup->(∀x∈l,x<K)->l.length<=K
 |0,[],_,_=>aN 0
 |0,x::_,_,h=>absurd (h x nG) (M9 x)
 |K+1,l,nd,h=>by
  have a:=few K (l.filter fun x=>decide (x≠K)) (nd.filter _) fun x hx=>by
   obtain⟨h1,h2⟩:=lN.mp hx;have:=h x h1;have:=nM h2;omega
  have b:l.length<=(l.filter fun x=>decide (x≠K)).length+1:=by
   clear a h
   induction l with
   |nil=>exact cG _
   |cons y l ih=>
    have nd':=Il.mp nd;rw[Mt];by_cases c:y=K
    ·subst c;rw[aA (by simp)];have:l.filter (fun x=>decide (x≠y))=l:=List.filter_eq_self.mpr fun x hx=>eY fun e=>nd'.1 (e▸hx);rw[this];exact aN _
    ·rw[aB (eY c)];have:=ih nd'.2;simp only[uz];omega
  omega
open Classical in
def code(n m:Nat)(T:Tab):Nat:=enc ((List.range (n+m)).map fun a=>decide (inC n T a))
theorem Run.short(R:Run n m S w T p q L):L<2^(n+m):=by
 have inj:∀i j,i<=L->j<=L->code n m (T i)=code n m (T j)->i=j:=by
  have one:∀i j,i<j->j<=L->code n m (T i)≠code n m (T j):=fun i j hij hj e=>by
   have l:=Fo (by simp) e;refine R.GC hij hj fun a=> ?_;by_cases ha:a<n+m
   ·have:=lE (fun l:List Bool=>l[a]?) l;simp only[dW,Wc ha,Option.map_some,Option.some.injEq,decide_eq_decide]at this;exact this
   ·exact⟨fun⟨c,hc,e⟩=>absurd ((R.good i (by omega)).Qc c hc) (by omega),fun⟨c,hc,e⟩=>absurd ((R.good j hj).Qc c hc) (by omega)⟩
  intro i j hi hj e;rcases Nat.lt_trichotomy i j with h|h|h
  ·exact absurd e (one i j h hj)
  ·exact h
  ·exact absurd e.symm (one j i h hi)
 have nd:((List.range (L+1)).map fun t=>code n m (T t)).Nodup:=by
  refine List.pairwise_map.mpr (List.nodup_range.imp_of_mem fun{a b} ha hb hab e=>hab (inj a b ?_ ?_ e))
  ·have:=pO.mp ha;omega
  ·have:=pO.mp hb;omega
 have:=few (2^(n+m)) _ nd fun x hx=>by
  obtain⟨t,_,rfl⟩:=lX.mp hx;have:=Lj ((List.range (n+m)).map fun a=> @decide (inC n (T t) a) (Classical.propDecidable _));rw[aJ,rC]at this;exact this
 rw[aJ,rC]at this;omega
end
section
variable{n m:Nat}{S:Nat->Nat->Bool}{w:Nat->Int}{T:Tab}
theorem mQ{a j:Nat}(h:a<n):nv n S a j=if j=a+1 then 1 else 0:=aB h
theorem wA{k j:Nat}:nv n S (n+k) j=if j=0 then 1 else if S k (j-1)=true then -1 else 0:=by
 unfold nv;rw[aA (by omega),show n+k-n=k by omega]
theorem Ek{y:Nat->Int}{j:Nat}(hj:j<=n):sm n (fun c=>y c*nv n S c j)=if j=0 then 0 else y (j-1):=by
 by_cases h:j=0
 ·rw[aB h];exact cV n fun c hc=>by rw[mQ hc,aA (by omega),Aj]
 ·rw[aA h,eZ (j:=j-1) n (by omega) fun c hc hn=>by rw[mQ hc,aA (by omega),Aj],mQ (by omega),aB (by omega),Vj]
theorem BX{k j:Nat}(hj:j<=n):nv n S (n+k) j=1*one j-sm n (fun c=>(if S k c=true then 1 else 0)*nv n S c j):=by
 rw[wA,Ek hj];unfold one;by_cases h:j=0
 ·rw[aB h,aB h,aB h];rfl
 ·rw[aA h,aA h,aA h];split<;>rfl
theorem Ia{j:Nat}(hj:j<=n):zv w j=0*one j-sm n (fun c=> -(w c)*nv n S c j):=by
 rw[Ek hj];unfold zv;by_cases h:j=0
 ·rw[aB h,aB h];omega
 ·rw[aA h,aA h];omega
def start(n m:Nat)(S:Nat->Nat->Bool)(w:Nat->Int):Tab where
 col:=fun c=>c
 row:=fun r=>n+r
 cell:=fun r c=>if r=m then(if c=n then 0 else -(w c))else if c=n then 1 else if S r c=true then 1 else 0
 over:=1
 s:=1
theorem Bg:Good n m S w (start n m S w):=by
 refine⟨Int.one_pos,fun r hr j hj=> ?_,.inl rfl,?_,fun c c' _ _ e=>e,fun r r' _ _ e=>by have:n+r=n+r':=e;omega,fun c r hc _ e=>by have:c=n+r:=e;omega,fun c hc=>by show c<n+m;omega,fun r hr=>by show n+r<n+m;omega,fun a ha=> ?_,fun r hr=> ?_⟩
 ·show 1*rv n m S w (start n m S w) r j=(start n m S w).cell r n*one j-sm n (fun c=>(start n m S w).cell r c*nv n S c j);by_cases h:r<m
  ·rw[fH h];show 1*nv n S (n+r) j=_;rw[M4,BX hj];have e1:(start n m S w).cell r n=1:=by show(if r=m then _ else if n=n then(1:Int)else _)=1;rw[aA (by omega),aB rfl]
   rw[e1,Av n fun c hc=> ?_];show _=(if r=m then _ else if c=n then(1:Int)else if S r c=true then 1 else 0)*_;rw[aA (show¬r=m by omega),aA (show¬c=n by omega)]
  ·have e:r=m:=by omega
   subst e;rw[gM,M4,Ia (n:=n) (S:=S) hj];have e1:(start n r S w).cell r n=0:=by show(if r=r then(if n=n then(0:Int)else _)else _)=0;rw[aB rfl,aB rfl]
   rw[e1,Av n fun c hc=> ?_];show _=(if r=r then(if c=n then(0:Int)else -(w c))else _)*_;rw[aB rfl,aA (show¬c=n by omega)]
 ·show(1:Int)=1*det (n+1) _;rw[zO (n+1) _ fun i hi j hj=> ?_]; · rfl
  by_cases h:i=0
  ·subst h;rw[Aa];unfold one;by_cases e:j=0
   ·rw[aB e,aB e.symm]
   ·rw[aA e,aA (lO e)]
  ·obtain⟨c,rfl⟩:∃c,i=c+1:=⟨i-1,by omega⟩;rw[Ft];show nv n S c j=_;rw[mQ (by omega)];by_cases e:j=c+1
   ·rw[aB e,aB e.symm]
   ·rw[aA e,aA (lO e)]
 ·by_cases h:a<n
  ·exact .inl ⟨a,h,rfl⟩
  ·exact .inr ⟨a-n,by omega,by show n+(a-n)=a;omega⟩
 ·show 0<=(if r=m then _ else if n=n then(1:Int)else _);rw[aA (by omega),aB rfl];decide
theorem Good.bounded(G:Good n m S w T)(cov:∀p,p<n->∃k,k<m/\S k p=true){q:Nat}(hq:q<n):∃r,r<m/\0<T.cell r q:=by
 refine QB fun no=> ?_;have no':∀r,r<m->T.cell r q<=0:=fun r hr=>Int.not_lt.mp fun h=>no ⟨r,hr,h⟩;have hq':q+1<=n:=hq;have nn:∀a,a<n+m->0<=Fn n S T (q+1) (nv n S a):=fun a ha=>by
  rcases G.all a ha with⟨c,hc,e⟩|⟨r,hr,e⟩
  ·rw[<-e,yc G.dt hq' hc];split
   ·exact Dw G.pos
   ·exact Dv 0
  ·have:=G.dir (cR hr) hq;rw[fH hr,e]at this;rw[this];have:=no' r hr;omega
 have set:∀k,Fn n S T (q+1) (nv n S (n+k))= -sm n (fun p=>(if S k p=true then 1 else 0)*Fn n S T (q+1) (nv n S p)):=fun k=>by
  rw[Ig fun j hj=>BX hj,iZ hq' _ _ (fun c=>if S k c=true then 1 else 0) (fun c=>nv n S c),j7 G.dt hq',aA (yw q)];omega
 have low:∀p,p<n->Fn n S T (q+1) (nv n S p)=0:=fun p hp=>by
  obtain⟨k,hk,hs⟩:=cov p hp;have a:=nn (n+k) (by omega);rw[set k]at a;have:=Em n (f:=fun p=>(if S k p=true then 1 else 0)*Fn n S T (q+1) (nv n S p)) (fun i hi=> ?_) (by omega) p hp
  ·rw[aB hs,M4]at this;exact this
  ·have:=nn i (by omega);split<;>omega
 have z:Fn n S T (q+1) (nv n S (T.col q))=0:=by
  have hc:=G.Qc q hq;by_cases h:T.col q<n
  ·exact low _ h
  ·have e:T.col q=n+(T.col q-n):=by omega
   rw[e,set,cV n fun p hp=>by rw[low p hp,Aj]];rfl
 rw[yc G.dt hq' hq,aB rfl]at z;have:=G.pos;omega
theorem Kg(a j:Nat): -1<=nv n S a j/\nv n S a j<=1:=by
 unfold nv;split
 ·split<;>decide
 ·split
  ·decide
  ·split<;>decide
theorem Fv(i j:Nat): -1<=oU n S T i j/\oU n S T i j<=1:=by
 unfold oU;split
 ·unfold one;split<;>decide
 ·exact Kg _ _
theorem Dj(G:Good n m S w T){c:Nat}{v:Vec}{B:Int}(hB:1<=B)(h:∀j,j<=n-> -B<=v j/\v j<=B): -(fct (n+1)*B)<=Fn n S T c v/\Fn n S T c v<=fct (n+1)*B:=by
 have d:=wW (n+1) (put (oU n S T) c v) c B hB (fun i _ j _ hn=>by rw[iy _ _ hn];exact Fv i j) (fun j hj _=>by rw[put_same];exact h j (by omega));unfold Fn;rcases G.sg with s|s
 ·rw[s,M4];exact d
 ·rw[s];omega
theorem Good.N6(G:Good n m S w T):T.over<=fct (n+1):=by
 have d:=Dj G (c:=0) (v:=oU n S T 0) (B:=1) (by decide) fun j _=>Fv 0 j;rw[Mg G.dt (cG n) (cG n),aB rfl]at d;omega
theorem Good.Ls(G:Good n m S w T)(hw:∀p,p<n->0<=w p/\w p<=99){r c:Nat}(hr:r<=m)(hc:c<=n): -(fct (n+1)*99)<=T.cell r c/\T.cell r c<=fct (n+1)*99:=by
 have hv:∀j,j<=n-> -99<=rv n m S w T r j/\rv n m S w T r j<=99:=fun j hj=>by
  unfold rv;split
  ·have:=Kg (n:=n) (S:=S) (T.row r) j;omega
  ·unfold zv;split
   ·decide
   ·have:=hw (j-1) (by omega);omega
 by_cases h:c=n
 ·subst h;have d:=Dj G (c:=0) (B:=99) (by decide) hv;rw[G.base hr]at d;exact d
 ·have d:=Dj G (c:=c+1) (B:=99) (by decide) hv;rw[G.dir hr (by omega)]at d;omega
theorem Li:∀{k:Nat},k<=11->fct k<=39916800
 |0,_|1,_|2,_|3,_|4,_|5,_|6,_|7,_|8,_|9,_|10,_|11,_=>by decide
def Ys(n m:Nat)(T:Tab)(a:Nat):Int:=sm n fun c=>if T.col c=a then T.cell m c else 0
def Xs(n m:Nat)(T:Tab)(a:Nat):Int:=sm m fun r=>if T.row r=a then T.cell r n else 0
theorem Good.V5(G:Good n m S w T){c:Nat}(hc:c<n):Ys n m T (T.col c)=T.cell m c:=by
 unfold Ys;rw[eZ (j:=c) n hc fun i hi hn=>aA fun e=>hn (G.CP i c hi hc e),aB rfl]
theorem V4{a:Nat}(h:∀c,c<n->T.col c≠a):Ys n m T a=0:=cV n fun c hc=>aA (h c hc)
theorem Good.Qu(G:Good n m S w T){r:Nat}(hr:r<m):Xs n m T (T.row r)=T.cell r n:=by
 unfold Xs;rw[eZ (j:=r) m hr fun i hi hn=>aA fun e=>hn (G.JV i r hi hr e),aB rfl]
theorem Qs{a:Nat}(h:∀r,r<m->T.row r≠a):Xs n m T a=0:=cV m fun r hr=>aA (h r hr)
theorem Good.Ip(G:Good n m S w T){a:Nat}(ha:a<n+m):Fn n S T 0 (nv n S a)=Xs n m T a:=by
 rcases G.all a ha with⟨c,hc,e⟩|⟨r,hr,e⟩
 ·rw[<-e,yc G.dt (cG n) hc,aA (yw c),Qs fun r hr z=>G.dis c r hc hr z.symm]
 ·rw[<-e,G.Qu hr];have:=G.base (cR hr);rw[fH hr]at this;exact this
theorem Good.Qt(G:Good n m S w T)(a:Nat):0<=Xs n m T a:=yJ m fun r hr=>by
 have:=G.VB r hr;split
 ·exact this
 ·exact Dv 0
theorem Qk(h:∀c,c<n->0<=T.cell m c)(a:Nat):0<=Ys n m T a:=yJ n fun c hc=>by
 have:=h c hc;split
 ·exact this
 ·exact Dv 0
theorem yI(f:Nat->Int)(a:Nat):∀b,sm (a+b) f=sm a f+sm b fun k=>f (a+k)
 |0=>by show sm a f=sm a f+0;omega
 |b+1=>by
  show sm (a+b) f+f (a+b)=_;rw[yI f a b];show _=sm a f+(sm b (fun k=>f (a+k))+f (a+b));omega
theorem Good.WK(G:Good n m S w T)(g:Nat->Int):sm n (fun c=>T.cell m c*g (T.col c))=sm n (fun a=>Ys n m T a*g a)+sm m (fun k=>Ys n m T (n+k)*g (n+k)):=by
 rw[<-yI (fun a=>Ys n m T a*g a)];have e:∀a,Ys n m T a*g a=sm n fun c=>(if T.col c=a then T.cell m c else 0)*g a:=fun a=>by
  unfold Ys;rw[M8,<-gj];exact Av n fun c _=>M8 _ _
 rw[Av (n+m) fun a _=>e a,El (fun a c=>(if T.col c=a then T.cell m c else 0)*g a)];refine Av n fun c hc=> ?_;rw[eZ (j:=T.col c) (n+m) (G.Qc c hc) fun a _ hn=>by rw[aA (lO hn),Va],aB rfl]
theorem Good.total(G:Good n m S w T):sm m (fun k=>Ys n m T (n+k))=T.cell m n:=by
 have e:=G.eq m (aN m) 0 (cG n);rw[gM,G.WK (fun a=>nv n S a 0),cV n fun a ha=>by rw[mQ ha,aA (by omega),Aj]]at e;have z:zv w 0=0:=rfl;have o:one 0=1:=rfl;rw[z,o,Av m fun k _=>show Ys n m T (n+k)*nv n S (n+k) 0=Ys n m T (n+k) by rw[wA,aB rfl,Vj]]at e;omega
theorem Good.enough(G:Good n m S w T){p:Nat}(hp:p<n):sm m (fun k=>if S k p=true then Ys n m T (n+k)else 0)=T.over*w p+Ys n m T p:=by
 have e:=G.eq m (aN m) (p+1) hp;rw[gM,G.WK (fun a=>nv n S a (p+1)),eZ (j:=p) n hp fun a ha hn=>by rw[mQ ha,aA (by omega),Aj],mQ hp,aB rfl]at e;have z:zv w (p+1)=w p:=by unfold zv;rw[aA (yw p)];rfl
 have o:one (p+1)=0:=aA (yw p);rw[z,o,Av m fun k _=>show Ys n m T (n+k)*nv n S (n+k) (p+1)= -1*(if S k p=true then Ys n m T (n+k)else 0) by
  rw[wA,aA (yw p),wec];split<;>omega,gj]at e
 omega
theorem Good.light(G:Good n m S w T){k:Nat}(hk:k<m):sm n (fun p=>if S k p=true then Xs n m T p else 0)<=T.over:=by
 have h:Fn n S T 0 (nv n S (n+k))=1*Fn n S T 0 one-sm n (fun p=>(if S k p=true then 1 else 0)*Fn n S T 0 (nv n S p)):=by
  rw[Ig fun j hj=>BX hj,iZ (cG n) _ _ (fun c=>if S k c=true then 1 else 0) (fun c=>nv n S c)]
 rw[j7 G.dt (cG n),aB rfl,G.Ip (by omega),Av n fun p hp=>show(if S k p=true then(1:Int)else 0)*Fn n S T 0 (nv n S p)=if S k p=true then Xs n m T p else 0 by
  rw[G.Ip (by omega)];split<;>omega]at h
 have:=G.Qt (n+k);omega
theorem Good.prices(G:Good n m S w T):sm n (fun p=>w p*Xs n m T p)=T.cell m n:=by
 have h:=G.base (aN m);rw[gM,Ig fun j hj=>Ia (n:=n) (S:=S) hj,iZ (cG n) _ _ (fun c=> -(w c)) (fun c=>nv n S c),Av n fun p hp=>show -(w p)*Fn n S T 0 (nv n S p)= -1*(w p*Xs n m T p) by rw[G.Ip (by omega)];grind,gj]at h;omega
end
end Sx
namespace Hs
open PySem L2 Aq
def top(i:Nat):Stmt:=PySem.Challenge.pw_hueshare_k25_layings_and_prices_looked_a.main.body.getD i (.Pass ⟨0,0,0,0⟩)
abbrev dN:Stmt:=top 6
abbrev mF:Stmt:=top 7
abbrev iV:Stmt:=top 8
abbrev U8:Stmt:=top 9
abbrev nW:Stmt:=top 10
abbrev mH:Stmt:=top 11
abbrev sI:Stmt:=top 12
abbrev dJ:Stmt:=top 13
abbrev p8:Stmt:=top 14
abbrev fD:Stmt:=top 16
abbrev fu:Stmt:=top 17
abbrev p7:Stmt:=top 18
abbrev jK:Stmt:=top 19
abbrev fV:Stmt:=top 20
abbrev YK:Stmt:=top 23
abbrev jE:Stmt:=top 24
abbrev fW:Stmt:=top 25
abbrev dX:Stmt:=top 26
abbrev iI:Stmt:=top 27
abbrev gq:Stmt:=inClass (top 30) 0
abbrev zbw:Stmt:=inClass (top 30) 1
abbrev zcg:Stmt:=inClass (top 30) 2
abbrev zcq:Stmt:=inClass (top 30) 3
abbrev dO:Stmt:=inClass (top 30) 4
abbrev gn:Stmt:=inClass (top 30) 5
abbrev fG:Stmt:=inClass (top 30) 6
abbrev V1:Stmt:=inClass (top 30) 7
abbrev zcp:Stmt:=inClass (top 30) 8
abbrev zco:Stmt:=inClass (top 30) 9
abbrev VP:Stmt:=top 31
abbrev sH:Stmt:=top 32
abbrev mD:Stmt:=top 33
abbrev jH:Stmt:=top 34
abbrev Bt:Stmt:=top 35
abbrev jJ:Stmt:=top 36
abbrev jD:Stmt:=top 37
abbrev iU:Stmt:=top 38
abbrev jG:Stmt:=top 40
abbrev jF:Stmt:=top 41
abbrev fU:Stmt:=top 42
abbrev fQ:Stmt:=top 43
abbrev mq:Stmt:=top 44
abbrev fB:Stmt:=top 45
abbrev iw:Stmt:=top 46
abbrev iT:Stmt:=top 47
abbrev dM:Stmt:=top 48
abbrev U9:Stmt:=top 49
abbrev YH:Stmt:=top 50
abbrev zdk:Stmt:=top 51
abbrev zcx:Stmt:=top 52
abbrev zcy:Stmt:=top 53
abbrev iR:Stmt:=top 54
abbrev YL:Stmt:=top 55
abbrev zdl:Stmt:=top 56
abbrev gk:Stmt:=top 57
abbrev zcz:Stmt:=top 58
abbrev YG:Stmt:=top 59
abbrev zcf:Stmt:=top 60
abbrev qI:Stmt:=top 61
end Hs
namespace Hs
open PySem L2
theorem bh{X:Cx}{b:List Stmt}{R:TS->Prop}(h:let Y:=X;∃t,PSs Y b t/\R t):∃t,PSs X b t/\R t:=h
theorem dH{t1 t2:TS}{D:Ends}{σ:St}{H:Hp}(h:let c2:=t2;tSeq t1 c2 D σ H):(tSeq t1 t2) D σ H:=h
theorem lR{t1 t2 t3:TS}{D:Ends}{σ:St}{H:Hp}(h:let c3:=t3;let c2:=tSeq t2 c3;tSeq t1 c2 D σ H):(tSeq t1 (tSeq t2 t3)) D σ H:=h
theorem Q9{t1 t2 t3 t4:TS}{D:Ends}{σ:St}{H:Hp}(h:let c4:=t4;let c3:=tSeq t3 c4;let c2:=tSeq t2 c3;tSeq t1 c2 D σ H):(tSeq t1 (tSeq t2 (tSeq t3 t4))) D σ H:=h
theorem Xy{t1 t2 t3 t4 t5:TS}{D:Ends}{σ:St}{H:Hp}(h:let c5:=t5;let c4:=tSeq t4 c5;let c3:=tSeq t3 c4;let c2:=tSeq t2 c3;tSeq t1 c2 D σ H):(tSeq t1 (tSeq t2 (tSeq t3 (tSeq t4 t5)))) D σ H:=h
theorem Q8{t1 t2 t3 t4 t5 t6:TS}{D:Ends}{σ:St}{H:Hp}(h:let c6:=t6;let c5:=tSeq t5 c6;let c4:=tSeq t4 c5;let c3:=tSeq t3 c4;let c2:=tSeq t2 c3;tSeq t1 c2 D σ H):(tSeq t1 (tSeq t2 (tSeq t3 (tSeq t4 (tSeq t5 t6))))) D σ H:=h
theorem Xx{t1 t2 t3 t4 t5 t6 t7:TS}{D:Ends}{σ:St}{H:Hp}(h:let c7:=t7;let c6:=tSeq t6 c7;let c5:=tSeq t5 c6;let c4:=tSeq t4 c5;let c3:=tSeq t3 c4;let c2:=tSeq t2 c3;tSeq t1 c2 D σ H):(tSeq t1 (tSeq t2 (tSeq t3 (tSeq t4 (tSeq t5 (tSeq t6 t7)))))) D σ H:=h
theorem Xw{t1 t2 t3 t4 t5 t6 t7 t8:TS}{D:Ends}{σ:St}{H:Hp}(h:let c8:=t8;let c7:=tSeq t7 c8;let c6:=tSeq t6 c7;let c5:=tSeq t5 c6;let c4:=tSeq t4 c5;let c3:=tSeq t3 c4;let c2:=tSeq t2 c3;tSeq t1 c2 D σ H):(tSeq t1 (tSeq t2 (tSeq t3 (tSeq t4 (tSeq t5 (tSeq t6 (tSeq t7 t8))))))) D σ H:=h
theorem T9{t1 t2 t3 t4 t5 t6 t7 t8 t9 t10:TS}{D:Ends}{σ:St}{H:Hp}(h:let c10:=t10;let c9:=tSeq t9 c10;let c8:=tSeq t8 c9;let c7:=tSeq t7 c8;let c6:=tSeq t6 c7;let c5:=tSeq t5 c6;let c4:=tSeq t4 c5;let c3:=tSeq t3 c4;let c2:=tSeq t2 c3;tSeq t1 c2 D σ H):(tSeq t1 (tSeq t2 (tSeq t3 (tSeq t4 (tSeq t5 (tSeq t6 (tSeq t7 (tSeq t8 (tSeq t9 t10))))))))) D σ H:=h
end Hs
namespace L2
open PySem PySem.Spec PyProof.Rows
mutual
def eqD:Nat->PyData->PyData->Bool
 |0,_,_=>false
 |n+1,a,b=>match a,b with
  | .none,.none=>true
  | .bool x,.bool y=>x==y
  | .int x,.int y=>x==y
  | .str x,.str y=>x==y
  | .list xs,.list ys=>Ux n xs ys
  | .tuple xs,.tuple ys=>Ux n xs ys
  | .dict [],.dict []=>true
  |_,_=>false
def Ux:Nat->List PyData->List PyData->Bool
 |0,_,_=>false
 |n+1,xs,ys=>match xs,ys with
  |[],[]=>true
  |x::xs,y::ys=>eqD n x y&&Ux n xs ys
  |_,_=>false
end
end L2
namespace Hs
open PySem L2 Aq
section
variable{P:Program}{w:World}{K:W.Frag}{mg:L4}{base:Heap}
def gJ(K:W.Frag):Sp:=fun vs H Q _=>∃x d,vs=[x]/\DX K H x d/\Q (.bl (bY d)) H
theorem J6{f:Addr}{fd:FuncData}(F:Fun K "is_whole" "is_whole" dN f fd)(mi:mg "isinstance"=none)(mI:mg "int"=none)(mB:mg "bool"=none):FnOk P w K mg base CX0 1 f fd ["thing"] (gJ K):=by
 refine F.cT ["thing"] fun cdv A outer s H vs Q E hr h=> ?_;obtain⟨x,d,rfl,hx,q⟩:=h;refine⟨_,aZ (bQ (xO (pB yp mi (aj (pv 0) (aj (pN "int" mI) ak)))
  (yd (pe_not (pB yp mi (aj (pv 0) (aj (pN "bool" mB) ak))))))),?_⟩
 refine⟨_,rfl,x,_,_,rfl,hx.kind,.inl rfl,_,rfl,?_⟩;refine ite2 (fun c=> ?_) (fun c=> ?_)
 ·refine⟨_,rfl,x,_,_,rfl,hx.kind,.inr (.inl rfl),_,rfl,?_⟩;cases d<;>first |exact q|(simp[qm,eO]at c;done)
 ·cases d<;>first |exact q|(exfalso;exact c rfl)
def DR(K:W.Frag):Sp:=fun vs H Q _=>∃(n:Int) (x:V) (d:PyData),vs=[.int n,x]/\DX K H x d/\Q (.bl (aR n d)) H
theorem J8{f g:Addr}{fd gd:FuncData}(F:Fun K "is_place" "is_place" mF f fd)(D:bO K mg "is_whole" dN ["thing"] g gd)(G:FnOk P w K mg base CX0 1 g gd ["thing"] (gJ K)):FnOk P w K mg base CX0 2 f fd ["n","thing"] (DR K):=by
 refine F.cT ["n","thing"] fun cdv A outer s H vs Q E hr h=> ?_;obtain⟨n,x,d,rfl,hx,q⟩:=h;refine⟨_,aZ (bQ (xO (pe_call G hr rfl D.m D.F.kp D.b .nil pass0 (aj (pv 1) ak)) (yd (pe_chain op_le op_lt aq (pv 1) (pv 0))))),?_⟩;refine⟨_,rfl,x,d,rfl,hx,_,rfl,?_⟩;refine ite2 (fun c=> ?_) (fun c=> ?_)
 ·cases hx with
  |int i=>
   refine⟨_,rfl,_,_,rfl,rfl,_,rfl,?_⟩;refine ite2 (fun c2=> ?_) (fun c2=> ?_)
   ·refine⟨_,rfl,_,_,rfl,rfl,?_⟩;have e:aR n (.int i)=decide (i<n):=by show(decide (0<=i)&&decide (i<n))=_;rw[c2];rfl
    rw[e]at q;exact q
   ·have e:aR n (.int i)=false:=by show(decide (0<=i)&&decide (i<n))=_;rw[Bool.eq_false_iff.mpr c2];rfl
    rw[e]at q;exact q
  |_=>simp[bY]at c
 ·have e:aR n d=false:=by
   cases d<;>first |rfl|(exfalso;exact c rfl)
  rw[e]at q;exact q
def yF(K:W.Frag):Sp:=fun vs H Q _=>∃(n:Int) (a:Addr) (xs:List V) (ds:List PyData),vs=[.int n,.ref a]/\SqT K H a xs/\lA K H xs ds/\∀H',Same H H'->Q (.bl (ds.all (aR n))) H'
theorem dh{α:Type}(ds:List α)(p:α->Bool):(ds.map p).all id=ds.all p:=by rw[List.all_map];rfl
theorem Gy{f g:Addr}{fd gd:FuncData}(F:Fun K "are_places" "are_places" iV f fd)(D:bO K mg "is_place" mF ["n","thing"] g gd)(G:FnOk P w K mg base CX0 2 g gd ["n","thing"] (DR K))(mA:mg "all"=none):FnOk P w K mg base CX0 3 f fd ["n","things"] (yF K):=by
 refine F.cT ["n","things"] fun cdv A outer s H vs Q E hr h=> ?_;obtain⟨n,a,xs,ds,rfl,hS,hd,q⟩:=h;refine⟨_,aZ (bQ (pB (eV rfl) mA (aj (pK ["thing"] ["n"] [0] (dZ (pv 1)) (pG 0) lM (pe_call G hr rfl D.m D.F.kp D.b .nil pass0 (aj (pv 1) (aj (pv 0) ak)))) ak))),?_⟩;refine⟨_,rfl,a,xs,rfl,hS,fun hz=> ?_⟩;have hl:=hd.len;let iB:Nat->List V->St->Hp->Prop:=fun i acc σ H'=>acc=((ds.take i).map (aR n)).map V.bl/\Same H H'/\∃o,σ=[o,some (.int n)];refine Mj (xs:=xs) iB ⟨rfl,Same.refl _,_,rfl⟩ (fun i acc σ H' _ p=>p.2.1.tup hS) (fun i acc σ H' hi p=> ?_) hz (fun i x acc σ H' hx p=> ?_) (fun acc σ H' p=> ?_)
 ·rw[p.1];simp;omega
 ·obtain⟨rfl,sm,o,rfl⟩:=p;obtain⟨d,e1,e2⟩:=hd.get hx;refine⟨_,rfl,_,rfl,n,x,d,rfl,DX.same sm e2,?_,sm,_,rfl⟩;rw[HS,e1];simp
 ·intro p1 hp1;obtain⟨rfl,sm,_⟩:=p;refine⟨p1,(ds.map (aR n)),rfl,SqL.of (by rw[aD,hl,vL]),?_⟩;rw[dh];exact q _ (sm.trans (aG hp1 _))
def U4(K:W.Frag)(H:Hp)(x y:V)(b:Bool):Prop:=(∃i j,x= .int i/\y= .int j/\b=decide (i<j))\/(∃p q ns ms,x= .ref p/\y= .ref q/\SqT K H p (ns.map V.int)/\SqT K H q (ms.map V.int)/\b=HT.lexLt ns ms)
def rY(K:W.Frag):Sp:=fun vs H Q _=>∃(a:Addr) (xs:List V) (bs:Nat->Bool),vs=[.ref a]/\SqT K H a xs/\(∀k,k+1<xs.length->∃x y,xs[k]? =some x/\xs[k+1]? =some y/\U4 K H x y (bs k))/\
 ∀H',Same H H'->Q (.bl ((List.range (xs.length-1)).all bs)) H'
theorem Gx{f:Addr}{fd:FuncData}(F:Fun K "is_rising" "is_rising" U8 f fd)(mA:mg "all"=none)(mR:mg "range"=none)(mL:mg "len"=none):FnOk P w K mg base CX0 1 f fd ["things"] (rY K):=by
 refine F.cT ["things"] fun cdv A outer s H vs Q E hr h=> ?_;obtain⟨a,xs,bs,rfl,hS,hb,q⟩:=h;refine⟨_,aZ (bQ (pB (eV rfl) mA (aj (pK ["k"] ["things"] [0] (pi_range2 rfl mR (aj aq (aj (pB rA mL (aj (pv 0) ak)) ak))) (pG 0) lM (Ds (op_lt.or (Es K hr.units0)) (bx (xP K) (pv 1) (aX op_sub (pv 0) aq)) (bx (xP K) (pv 1) (pv 0)))) ak))),?_⟩;refine⟨_,rfl,a,xs,rfl,.inr hS,fun hz=>⟨1,_,rfl,⟨by omega,by omega,by omega,by omega⟩,?_⟩⟩;have en:((xs.length:Int)-1).toNat=xs.length-1:=by omega
 rw[en];let iB:Nat->List V->St->Hp->Prop:=fun i acc σ H'=>acc=((List.range i).map bs).map V.bl/\Same H H'/\∃o,σ=[o,some (.ref a)];refine Qh iB ⟨rfl,Same.refl _,_,rfl⟩ (fun i acc σ H' hi p=>by rw[p.1];simp) (by rw[eX];omega) (fun i acc σ H' hi p=> ?_) (fun acc σ H' p=> ?_)
 ·obtain⟨rfl,sm,o,rfl⟩:=p;obtain⟨x,y,hx,hy,hxy⟩:=hb i (by omega);have e1:(1+(i:Int))-1=((i:Nat):Int):=by omega
  have e2:(1+(i:Int))=((i+1:Nat):Int):=by omega
  have a1:atI xs (1+(i:Int)-1)=some x:=by rw[e1];exact yh hx
  have a2:atI xs (1+(i:Int))=some y:=by rw[e2];exact yh hy
  refine⟨_,rfl,_,rfl,_,_,rfl,rfl,a,xs,_,x,rfl,rfl,sm.tup hS,a1,_,rfl,_,rfl,a,xs,_,y,rfl,rfl,sm.tup hS,a2,?_⟩;have ea:((List.range i).map bs).map V.bl++[V.bl (bs i)]=((List.range (i+1)).map bs).map V.bl:=by rw[yu];simp
  rcases hxy with⟨u,v,rfl,rfl,e⟩|⟨p,p',ns,ms,rfl,rfl,h1,h2,e⟩
  ·refine .inl ⟨u,v,rfl,rfl,?_,sm,_,rfl⟩;show _++[V.bl (decide (u<v))]=_;rw[<-e];exact ea
  ·refine .inr ⟨p,p',ns,ms,rfl,rfl,sm.tup h1,sm.tup h2,?_,sm,_,rfl⟩;show _++[V.bl (HT.lexLt ns ms)]=_;rw[<-e];exact ea
 ·intro p1 hp1;obtain⟨rfl,sm,_⟩:=p;refine⟨p1,(List.range (xs.length-1)).map bs,rfl,SqL.of aD,?_⟩;rw[dh];exact q _ (sm.trans (aG hp1 _))
theorem ints_of{H:Hp}{n:Int}{xs:List V}{ds:List PyData}(h:lA K H xs ds)(hp:ds.all (aR n)=true):xs=(ds.map intD).map V.int:=by
 induction ds generalizing xs with
 |nil=>cases h;rfl
 |cons d ds ih=>
  rw[Rw,pR]at hp;cases h with
  |cons h t=>
   obtain⟨i,rfl,_⟩:=sW hp.1;cases h;rw[HJ,HJ,<-ih t hp.2];rfl
theorem Gk{H:Hp}(ns:List Int):∀k,k+1<(ns.map V.int).length->∃x y,(ns.map V.int)[k]? =some x/\(ns.map V.int)[k+1]? =some y/\U4 K H x y (decide (ns.getD k 0<ns.getD (k+1) 0)):=fun k hk=>by
 rw[aJ]at hk;have h1:k<ns.length:=by omega
 refine⟨.int (ns.getD k 0),.int (ns.getD (k+1) 0),by simp[h1],by simp[hk],.inl ⟨_,_,rfl,rfl,rfl⟩⟩
def Jk(K:W.Frag):Sp:=fun vs H Q _=>∃(n:Int) (x:V) (d:PyData),vs=[.int n,x]/\DX K H x d/\∀H',Same H H'->Q (.bl (lF n d)) H'
theorem Tf{f f1 f2:Addr}{fd d1 d2:FuncData}(F:Fun K "is_set" "is_set" nW f fd)(D1:bO K mg "are_places" iV ["n","things"] f1 d1)(G1:FnOk P w K mg base CX0 3 f1 d1 ["n","things"] (yF K))(D2:bO K mg "is_rising" U8 ["things"] f2 d2)(G2:FnOk P w K mg base CX0 1 f2 d2 ["things"] (rY K))(mi:mg "isinstance"=none)(mT:mg "tuple"=none):FnOk P w K mg base CX0 4 f fd ["n","thing"] (Jk K):=by
 refine F.cT ["n","thing"] fun cdv A outer s H vs Q E hr h=> ?_;obtain⟨n,x,d,rfl,hx,q⟩:=h;refine⟨_,aZ (bQ (xO (pB yp mi (aj (pv 1) (aj (pN "tuple" mT) ak)))
  (xO (pc G1 hr D1 (aj (pv 0) (aj (pv 1) ak))) (yd (pc G2 hr D2 (aj (pv 1) ak)))))),?_⟩
 refine⟨_,rfl,x,_,_,rfl,hx.kind,.inr (.inr (.inl rfl)),_,rfl,?_⟩;refine ite2 (fun c=> ?_) (fun c=> ?_)
 ·cases hx with
  | @tup a xs ds h t=>
   refine⟨_,rfl,_,rfl,n,a,xs,ds,rfl,h,t,fun H1 sm=>⟨_,rfl,?_⟩⟩;refine ite2 (fun c2=> ?_) (fun c2=> ?_)
   ·have ex:=ints_of t c2;refine⟨_,rfl,a,xs,fun k=>decide ((ds.map intD).getD k 0<(ds.map intD).getD (k+1) 0),rfl,sm.tup h,?_,fun H2 sm2=> ?_⟩
    ·rw[ex];exact Gk _
    ·have e:lF n (.tuple ds)=(List.range (xs.length-1)).all fun k=>decide ((ds.map intD).getD k 0<(ds.map intD).getD (k+1) 0):=by
      show(ds.all (aR n)&&bZ (ds.map intD))=_;rw[c2,t.len];show bZ (ds.map intD)=_;unfold bZ;rw[aJ]
     have:=q H2 (sm.trans sm2);rw[e]at this;exact this
   ·have e:lF n (.tuple ds)=false:=by
     show(ds.all (aR n)&&bZ (ds.map intD))=_;rw[Bool.eq_false_iff.mpr c2];rfl
    have:=q H1 sm;rw[e]at this;exact this
  |_=>simp[qm,eO]at c
 ·have e:lF n d=false:=by
   cases d<;>first |rfl|(exfalso;exact c rfl)
  have:=q H (Same.refl _);rw[e]at this;exact this
def Jf(K:W.Frag):Sp:=fun vs H Q _=>∃(n:Int) (x:V) (d:PyData),vs=[.int n,x]/\DX K H x d/\∀H',Same H H'->Q (.bl (rW n d)) H'
theorem DN{H:Hp}{n:Int}{x:V}{d:PyData}(h:DX K H x d)(ht:lY n d=true):∃p,x= .ref p/\SqT K H p (((kids d).map intD).map V.int):=by
 cases h with
 | @tup a xs ds h t=>
  have q:(ds.all (aR n)&&bZ (ds.map intD)&&decide (ds.length=2))=true:=ht;rw[pR,pR]at q;exact⟨a,rfl,by rw[ints_of t q.1.1]at h;exact h⟩
 |_=>simp[lY,lF]at ht
theorem Gj{H:Hp}{n:Int}{xs:List V}{ds:List PyData}(t:lA K H xs ds)(ha:ds.all (lY n)=true):∀k,k+1<xs.length->∃x y,xs[k]? =some x/\xs[k+1]? =some y/\
  U4 K H x y (HT.lexLt ((ds.map fun t=>(kids t).map intD).getD k []) ((ds.map fun t=>(kids t).map intD).getD (k+1) [])):=fun k hk=>by
 have hl:=t.len;have h1:k<xs.length:=by omega
 obtain⟨d1,e1,x1⟩:=t.get (i:=k) (x:=xs[k]) (by simp[h1]);obtain⟨d2,e2,x2⟩:=t.get (i:=k+1) (x:=xs[k+1]) (by simp[hk]);have m1:=nF.mp ha d1 (gZ e1);have m2:=nF.mp ha d2 (gZ e2);obtain⟨p1,q1,s1⟩:=DN x1 m1;obtain⟨p2,q2,s2⟩:=DN x2 m2;refine⟨xs[k],xs[k+1],by simp[h1],by simp[hk],.inr ⟨p1,p2,_,_,q1,q2,s1,s2,?_⟩⟩;have g1:(ds.map fun t=>(kids t).map intD).getD k []=(kids d1).map intD:=by rw[iM,dW,e1];rfl
 have g2:(ds.map fun t=>(kids t).map intD).getD (k+1) []=(kids d2).map intD:=by rw[iM,dW,e2];rfl
 rw[g1,g2]
theorem N7{f f1 f2:Addr}{fd d1 d2:FuncData}(F:Fun K "are_ties" "are_ties" mH f fd)(D1:bO K mg "is_set" nW ["n","thing"] f1 d1)(G1:FnOk P w K mg base CX0 4 f1 d1 ["n","thing"] (Jk K))(D2:bO K mg "is_rising" U8 ["things"] f2 d2)(G2:FnOk P w K mg base CX0 1 f2 d2 ["things"] (rY K))(mi:mg "isinstance"=none)(mT:mg "tuple"=none)(mA:mg "all"=none)(mL:mg "len"=none):FnOk P w K mg base CX0 5 f fd ["n","thing"] (Jf K):=by
 refine F.cT ["n","thing"] fun cdv A outer s H vs Q E hr h=> ?_;obtain⟨n,x,d,rfl,hx,q⟩:=h;refine bh ?_;intro Y;refine⟨_,aP (lC (nA (lW (pB yp mi (aj (pv 1) (aj (pN "tuple" mT) ak))))) (aZ (bQ lB)) lD) (aZ (bQ (xO (pB (eV rfl) mA (aj (pK ["tie"] ["n"] [0] (dZ (pv 1)) (pG 0) lM (xO (pc G1 hr D1 (aj (pv 1) (aj (pv 0) ak))) (yd (Ds op_eq (pB (Hu K) mL (aj (pv 0) ak)) aq)))) ak))
  (yd (pc G2 hr D2 (aj (pv 1) ak)))))),?_⟩
 refine dH ?_;intro c2;refine⟨_,rfl,x,_,_,rfl,hx.kind,.inr (.inr (.inl rfl)),_,rfl,?_⟩;refine ite2 (fun c=> ?_) (fun c=> ?_)
 ·have e:rW n d=false:=by
   cases d<;>first |rfl|(exfalso;simp[qm,eO]at c;done)
  have:=q H (Same.refl _);rw[e]at this;exact this
 ·cases hx with
  | @tup a xs ds h t=>
   refine⟨_,rfl,a,xs,rfl,h,fun hz=> ?_⟩;have hl:=t.len;let oV:Nat->List V->St->Hp->Prop:=fun i acc σ H'=>acc=((ds.take i).map (lY n)).map V.bl/\Same H H'/\∃o,σ=[o,some (.int n)];refine Mj (xs:=xs) oV ⟨rfl,Same.refl _,_,rfl⟩ (fun i acc σ H' _ p=>p.2.1.tup h) (fun i acc σ H' hi p=> ?_) hz (fun i x acc σ H' hx p=> ?_) (fun acc σ H' p=> ?_)
   ·rw[p.1];simp;omega
   ·obtain⟨rfl,sm,o,rfl⟩:=p;obtain⟨d,e1,e2⟩:=t.get hx;refine⟨_,rfl,_,rfl,n,x,d,rfl,DX.same sm e2,fun H1 RZ=>⟨_,rfl,?_⟩⟩;have ea:∀b,b=lY n d->((ds.take i).map (lY n)).map V.bl++[V.bl b]=((ds.take (i+1)).map (lY n)).map V.bl:=fun b hb=>by
     rw[HS,e1,hb];simp
    refine ite2 (fun c2=> ?_) (fun c2=> ?_)
    ·cases e2 with
     | @tup a2 xs2 ds2 h2 t2=>
      refine⟨_,rfl,a2,xs2,rfl,.inr (RZ.tup (sm.tup h2)),fun hz2=>⟨rfl,ea _ ?_,sm.trans RZ,_,rfl⟩⟩;show decide (V.int (xs2.length:Int)=V.int 2)=(lF n (.tuple ds2)&&decide (ds2.length=2));rw[c2,t2.len];by_cases e3:ds2.length=2
      ·rw[e3];rfl
      ·rw[jx e3,jx (by intro z;injection z with z;exact e3 (by omega))];rfl
     |_=>simp[lF]at c2
    ·refine⟨ea _ ?_,sm.trans RZ,_,rfl⟩;show false=(lF n d&&decide ((kids d).length=2));rw[Bool.eq_false_iff.mpr c2];rfl
   ·intro p1 hp1;obtain⟨rfl,sm,_⟩:=p;have sm':Same H (upd H' p1 (.lst (((ds.take xs.length).map (lY n)).map V.bl))):=sm.trans (aG hp1 _);refine⟨p1,(ds.map (lY n)),rfl,SqL.of (by rw[aD,hl,vL]),_,rfl,?_⟩;rw[dh];refine ite2 (fun c2=> ?_) (fun c2=> ?_)
    ·refine⟨_,rfl,a,xs,fun k=>HT.lexLt ((ds.map fun t=>(kids t).map intD).getD k []) ((ds.map fun t=>(kids t).map intD).getD (k+1) []),rfl,sm'.tup h,?_,fun H2 sm2=> ?_⟩
     ·exact Gj (lA.same sm' t) c2
     ·have e:rW n (.tuple ds)=(List.range (xs.length-1)).all fun k=>HT.lexLt ((ds.map fun t=>(kids t).map intD).getD k []) ((ds.map fun t=>(kids t).map intD).getD (k+1) []):=by
       show(ds.all (lY n)&&fJ (ds.map fun t=>(kids t).map intD))=_;rw[c2,hl];show fJ (ds.map fun t=>(kids t).map intD)=_;unfold fJ;rw[aJ]
      have:=q H2 (sm'.trans sm2);rw[e]at this;exact this
    ·have e:rW n (.tuple ds)=false:=by
      show(ds.all (lY n)&&fJ (ds.map fun t=>(kids t).map intD))=_;rw[Bool.eq_false_iff.mpr c2];rfl
     have:=q _ sm';rw[e]at this;exact this
  |_=>exfalso;exact c rfl
end
end Hs
namespace Aq
open PySem L2
def pairD(p:Int×Int):PyData:= .tuple [.int p.1,.int p.2]
def Ba(n:Int)(ts:L0):PyData:= .tuple [.int n,.tuple (ts.map pairD)]
def uR(K:W.Frag)(H:Hp)(a:Addr)(n:Int)(ts:L0):Prop:=∃t rs,SqT K H a [.int n,.ref t]/\SqT K H t rs/\cI K H rs (ts.map pairD)
theorem uR.dv{K:W.Frag}{H:Hp}{a:Addr}{n:Int}{ts:L0}(h:uR K H a n ts):DV K H (.ref a) (Ba n ts):=by
 obtain⟨t,rs,h1,h2,h3⟩:=h;exact .tup h1 (.cons (.int n) (.cons (.tup h2 h3) .nil))
theorem uR.same{K:W.Frag}{H H':Hp}{a:Addr}{n:Int}{ts:L0}(h:uR K H a n ts)(e:Same H H'):uR K H' a n ts:=by
 obtain⟨t,rs,h1,h2,h3⟩:=h;exact⟨t,rs,e.tup h1,e.tup h2,cI.same e h3⟩
def Cm(ts:L0)(i j:Int):Bool:=decide ((if j<i then j else i,if j>i then j else i)∈ts)
theorem zN(p q:Int×Int):PyData.eqv (pairD p) (pairD q)=decide (p=q):=by
 obtain⟨a,b⟩:=p;obtain⟨c,d⟩:=q;show((a==c)&&((b==d)&&true))=_;rw[Bb];simp
theorem kY:∀ts:L0,PyData.canLayAll0 (ts.map pairD)=true
 |[]=>rfl
 |p::ts=>by
  show(PyData.canLay0 (pairD p)&&PyData.canLayAll0 (ts.map pairD))=true;rw[kY ts];rfl
theorem Lz(ts:L0)(q:Int×Int):((ts.map pairD).any fun d=>PyData.eqv d (pairD q))=decide (q∈ts):=by
 rw[List.any_map,Bb,Ry];constructor
 ·rintro⟨p,hp,h⟩;have h':PyData.eqv (pairD p) (pairD q)=true:=h;rw[zN]at h';have e:p=q:=nM h';subst e;exact eY hp
 ·intro h;refine⟨q,nM h,?_⟩;show PyData.eqv (pairD q) (pairD q)=true;rw[zN];exact eY rfl
end Aq
namespace Hs
open PySem L2 Aq
section
variable{P:Program}{w:World}{K:W.Frag}{mg:L4}{base:Heap}
def QD(K:W.Frag):Sp:=fun vs H Q _=>∃(x:V) (d:PyData),vs=[x]/\DX K H x d/\∀H',Same H H'->Q (.bl (vN d)) H'
theorem SM{f f1 f2:Addr}{fd d1 d2:FuncData}{tk:Tok}(F:Fun K "is_web" "is_web" sI f fd)(D1:bO K mg "is_whole" dN ["thing"] f1 d1)(G1:FnOk P w K mg base CX0 1 f1 d1 ["thing"] (gJ K))(D2:bO K mg "are_ties" mH ["n","thing"] f2 d2)(G2:FnOk P w K mg base CX0 5 f2 d2 ["n","thing"] (Jf K))(mi:mg "isinstance"=none)(mT:mg "tuple"=none)(mL:mg "len"=none)(mM:mg "MOST_PLACES"=some (.int 10 tk)):FnOk P w K mg base CX0 6 f fd ["thing"] (QD K):=by
 refine F.cT ["thing","n"] fun cdv A outer s H vs Q E hr h=> ?_;obtain⟨x,d,rfl,hx,q⟩:=h;refine bh ?_;intro Y;refine⟨_,aP (lC (PW.pt (pw_or (nA (lW (pB yp mi (aj (pv 0) (aj (pN "tuple" mT) ak)))))
   (pw_or1 (iD op_ne (pB rA mL (aj (pv 0) ak)) aq)))) (aZ (bQ lB)) lD) (aP (pS 1 (bx fM (pv 0) aq)) (aZ (bQ (xO (pc G1 hr D1 (aj (pv 1) ak)) (xO (pe_chain op_le op_le aq (pv 1) (pe_glob rfl mM (v:= .int 10) ⟨_,rfl⟩))
   (yd (pc G2 hr D2 (aj (pv 1) (aj (bx fM (pv 0) aq) ak))))))))),?_⟩
 refine lR ?_;intro c3 c2;refine⟨_,rfl,x,_,_,rfl,hx.kind,.inr (.inr (.inl rfl)),_,rfl,?_⟩;refine ite2 (fun c=> ?_) (fun c=> ?_)
 ·have e:vN d=false:=by
   cases d<;>first |rfl|(exfalso;simp[qm,eO]at c;done)
  have:=q H (Same.refl _);rw[e]at this;exact this
 ·cases hx with
  | @tup a xs ds h t=>
   have hl:=t.len;refine⟨_,rfl,a,xs,rfl,.inr h,fun hz=>⟨rfl,_,rfl,?_⟩⟩;refine ite2 (fun c2=> ?_) (fun c2=> ?_)
   ·have e:vN (.tuple ds)=false:=by
     match ds,hl with
     |[],_=>rfl
     |[_],_=>rfl
     |[_,_],hl=>
      exfalso;have e2:(!decide (V.int (xs.length:Int)=V.int 2))=true:=c2;rw[hl]at e2;simp at e2
     |_::_::_::_,_=>rfl
    have:=q H (Same.refl _);rw[e]at this;exact this
   ·have e2:xs.length=2:=by
     have e2:¬(!decide (V.int (xs.length:Int)=V.int 2))=true:=c2;simp at e2;omega
    cases t with
    |nil=>simp at e2
    |cons h0 t0=>
     cases t0 with
     |nil=>simp at e2
     | @cons x1 VD xs1 ds1 h1 t1=>
      cases t1 with
      |cons _ _=>simp at e2
      |nil=>
       rename_i x0 VF;refine⟨_,rfl,a,_,_,x0,rfl,rfl,h,by rfl,?_⟩;refine⟨_,rfl,x0,VF,rfl,h0,_,rfl,?_⟩;refine ite2 (fun c3=> ?_) (fun c3=> ?_)
       ·cases h0 with
        |int n=>
         refine⟨_,rfl,_,_,rfl,rfl,_,rfl,?_⟩;have fin:∀b,b=vN (.tuple [.int n,VD])->∀H',Same H H'->Q (.bl b) H':=fun b hb H' sm=>by rw[hb];exact q H' sm
         have wd:vN (.tuple [.int n,VD])=((decide (0<=n)&&decide (n<=10))&&rW n VD):=rfl;refine ite2 (fun c4=> ?_) (fun c4=> ?_)
         ·refine⟨_,_,rfl,rfl,_,rfl,?_⟩;refine ite2 (fun c5=> ?_) (fun c5=> ?_)
          ·refine⟨_,rfl,_,rfl,a,_,_,x1,rfl,rfl,h,by rfl,n,x1,VD,rfl,h1,fun H' sm=>fin _ ?_ H' sm⟩;rw[wd,c4,c5];rfl
          ·refine fin _ ?_ H (Same.refl _);rw[wd,Bool.eq_false_iff.mpr c5,wfv];rfl
         ·refine⟨_,rfl,?_⟩;refine iteF (fin _ ?_ H (Same.refl _));rw[wd,Bool.eq_false_iff.mpr c4];rfl
        |_=>simp[bY]at c3
       ·have e:vN (.tuple [VF,VD])=false:=by
         show(bY VF&&(decide (0<=intD VF)&&decide (intD VF<=10))&&rW (intD VF) VD)=false;rw[Bool.eq_false_iff.mpr c3];rfl
        have:=q H (Same.refl _);rw[e]at this;exact this
  |_=>exfalso;exact c rfl
def iH(K:W.Frag):Sp:=fun vs H Q _=>∃(x:V) (d:PyData),vs=[x]/\DX K H x d/\vN d=true/\∀H',Same H H'->Q .non H'
theorem BP{f f1:Addr}{fd d1:FuncData}(F:Fun K "need_web" "need_web" dJ f fd)(D1:bO K mg "is_web" sI ["thing"] f1 d1)(G1:FnOk P w K mg base CX0 6 f1 d1 ["thing"] (QD K)):FnOk P w K mg base CX0 7 f fd ["thing"] (iH K):=by
 refine F.cT ["thing"] fun cdv A outer s H vs Q E hr h=> ?_;obtain⟨x,d,rfl,hx,hw,q⟩:=h;refine⟨_,aZ (lC (nA (lW (pc G1 hr D1 (aj (pv 0) ak)))) pss_never lD),?_⟩;refine⟨_,rfl,x,d,rfl,hx,fun H' sm=>⟨_,rfl,?_⟩⟩;rw[hw];exact iteF (q H' sm)
def QL(K:W.Frag):Sp:=fun vs H Q _=>∃(a:Addr) (n i j:Int) (ts:L0),vs=[.ref a,.int i,.int j]/\uR K H a n ts/\∀H',Same H H'->Q (.bl (Cm ts i j)) H'
theorem Ti{f:Addr}{fd:FuncData}(F:Fun K "has_tie" "has_tie" p8 f fd)(mi:mg "min"=none)(ma:mg "max"=none):FnOk P w K mg base CX0 1 f fd ["web","one","other"] (QL K):=by
 refine F.cT ["web","one","other"] fun cdv A outer s H vs Q E hr h=> ?_;obtain⟨a,n,i,j,ts,rfl,hW,q⟩:=h;refine⟨_,aZ (bQ (Ds (wg hr.units) (fY (aj (pB (call_min2 rfl) mi (aj (pv 1) (aj (pv 2) ak))) (aj (pB (call_max2 rfl) ma (aj (pv 1) (aj (pv 2) ak))) ak)))
  (bx fM (pv 0) aq) (by with_unfolding_all rfl))),?_⟩
 refine⟨_,rfl,_,rfl,_,_,rfl,_,rfl,_,rfl,_,_,rfl,(by show 2<=sizeLine;decide),fun p hp=> ?_⟩;have sm:=aG hp (.tup [.int (if j<i then j else i),.int (if j>i then j else i)]);obtain⟨t,rs,h1,h2,h3⟩:=hW.same sm;refine⟨_,rfl,a,_,_,.ref t,rfl,rfl,h1,rfl,t,rs,_,pairD (if j<i then j else i,if j>i then j else i),rfl,.inr h2,h3,.tup (SqT.of aD) (.cons (.int _) (.cons (.int _) .nil)),kY ts,rfl,(by show max 0 (max 0 0)+1<=60;decide),?_⟩;rw[Lz];exact q _ sm
end
def Rn(n:Int)(ts:L0):Prop:=vN (Ba n ts)=true
end Hs
namespace L2
open PySem
def bw(t:Addr)(H H':Hp):Prop:=∀b o,b≠t->H b=some o->H' b=some o
theorem bw.refl(t:Addr)(H:Hp):bw t H H:=fun _ _ _ h=>h
theorem bw.trans{t:Addr}{H H1 H2:Hp}(a:bw t H H1)(b:bw t H1 H2):bw t H H2:=fun c o n h=>b c o n (a c o n h)
theorem Same.x{H H':Hp}(h:Same H H')(t:Addr):bw t H H':=fun b o _ e=>h b o e
theorem bw.upd{t:Addr}{H H':Hp}{o:HO}(h:bw t H H'):bw t H (upd H' t o):=fun b u n e=>by rw[cD n];exact h b u n e
def Ab(K:W.Frag)(H:Hp)(pZ:Addr)(ns:List Int):Prop:=(∃o,H pZ=some (.frz o (.lst (ns.map V.int))))\/
 ∃(o:Obj) (its:Array Value) (n:Nat),K.lookup pZ=some o/\o.cls= .type "list"/\o.dict=none/\o.data= .seq its n/\its.size<=sizeLine/\Vals (ns.map V.int) its.toList
theorem Ab.sq{K:W.Frag}{H:Hp}{pZ:Addr}{ns:List Int}(h:Ab K H pZ ns):SqL K H pZ (ns.map V.int):=by
 rcases h with⟨o,h⟩|h
 ·exact .inl (.inr ⟨o,h⟩)
 ·exact .inr h
theorem Ab.same{K:W.Frag}{H H':Hp}{pZ:Addr}{ns:List Int}(h:Ab K H pZ ns)(e:Same H H'):Ab K H' pZ ns:=by
 rcases h with⟨o,h⟩|h
 ·exact .inl ⟨o,e _ _ h⟩
 ·exact .inr h
theorem yq:∀ns:List Int,PyData.canLayAll0 (ns.map PyData.int)=true
 |[]=>rfl
 |n::ns=>by
  show(true&&PyData.canLayAll0 (ns.map PyData.int))=true;rw[yq ns];rfl
theorem yZ{H:Hp}{a b:Addr}{o:HO}(h:H a=some o)(n:H b=none):b≠a:=fun e=>by rw[e,h]at n;cases n
end L2
namespace Hs
open PySem L2 Aq
section
variable{P:Program}{w:World}{K:W.Frag}{mg:L4}{base:Heap}
theorem BZ(a:Int){b:Int}(h:0<b):0<=a %b:=Int.emod_nonneg _ (by omega)
theorem mod_lt(a:Int){b:Int}(h:0<b):a %b<b:=Int.emod_lt_of_pos _ h
theorem Qd{ns:List Int}{k:Int}(h0:0<=k)(h1:k<(ns.length:Int)):∃v:Int,atI (ns.map V.int) k=some (.int v):=by
 have hk:k.toNat<ns.length:=by omega
 have ek:((k.toNat:Nat):Int)=k:=by omega
 have q:atI (ns.map V.int) ((k.toNat:Nat):Int)=some (.int ns[k.toNat]):=yh (by rw[dW,dD hk];rfl);rw[ek]at q;exact⟨_,q⟩
def Js(K:W.Frag):Sp:=fun vs H Q _=>∃(pZ:Addr) (ns:List Int) (k:Int),vs=[.ref pZ,.int k]/\Ab K H pZ ns/\0<=k/\∀c:Int,Q (.int c) H
theorem Og{f:Addr}{fd:FuncData}(F:Fun K "_law_acell" "_law_acell" jG f fd)(mL:mg "len"=none):FnOk P w K mg base CX0 1 f fd ["script","k"] (Js K):=by
 refine F.cT ["script","k"] fun cdv A outer s H vs Q E hr h=> ?_;obtain⟨pZ,ns,k,rfl,hS,hk,q⟩:=h;refine bh ?_;intro Y;refine⟨_,aP (lC (iD op_lt (pv 1) (pB rA mL (aj (pv 0) ak))) (aZ (bQ (bx lK (pv 0) (pv 1)))) lD) (aZ (bQ aq)),?_⟩;refine dH ?_;intro c2;refine⟨_,rfl,_,rfl,pZ,_,rfl,.inl hS.sq,fun hz=>⟨_,_,rfl,rfl,_,rfl,?_⟩⟩;refine ite2 (fun c=> ?_) (fun c=> ?_)
 ·have c3:k<((ns.map V.int).length:Int):=nM c;rw[aJ]at c3;obtain⟨v,hx⟩:=Qd hk c3;exact⟨_,rfl,_,rfl,pZ,_,_,_,rfl,rfl,hS.sq,hx,q v⟩
 ·exact q 0
def Bh(K:W.Frag):Sp:=fun vs H Q _=>∃(pZ:Addr) (ns:List Int) (k:Int),vs=[.ref pZ,.int k]/\Ab K H pZ ns/\0<=k/\∀p H' t,Same H H'->H' p=some (.lst [.int t])->H p=none->Q (.ref p) H'
theorem N8{f f1:Addr}{fd d1:FuncData}(F:Fun K "_law_atape" "_law_atape" jF f fd)(D1:bO K mg "_law_acell" jG ["script","k"] f1 d1)(G1:FnOk P w K mg base CX0 1 f1 d1 ["script","k"] (Js K))(mR:mg "range"=none):
  FnOk P w K mg base CX0 2 f fd ["script","k"] (Bh K):=by
 refine F.cT ["script","k","cell","p","number","last","turn"] fun cdv A outer s H vs Q E hr h=> ?_;obtain⟨pZ,ns,k,rfl,hS,hk,q⟩:=h;refine bh ?_;intro Y;refine⟨_,aP (pS 2 (pc G1 hr D1 (aj (pv 0) (aj (pv 1) ak)))) (aP (lC (iD op_eq (aX op_mod (pv 2) aq) aq) (aZ (bQ (qH (aj (aX op_fdiv (pv 2) aq) ak)))) lD) (aP (pS 3 aq) (aP (pS 4 aq) (aP (pS 5 (aX op_mod (aX pJ (aX pJ (aX m9 (aX op_mod (pv 2) (pv 3)) aq) (aX m9 aq (pv 1))) aq) (pv 3))) (aP (ux rD rfl (Aw rfl mR (aj aq ak)) (pG 6) (aP (pS 4 (aX pJ (aX m9 (pv 4) (pv 3)) (pv 5))) (aZ (pS 5 (aX op_mod (aX pJ (aX pJ (aX m9 (pv 5) (pv 5)) (aX m9 aq (pv 1))) (pv 6)) (pv 3)))))) (aZ (bQ (qH (aj (pv 4) ak))))))))),?_⟩;refine Xx ?_;intro c7 c6 c5 c4 c3 c2;refine⟨_,rfl,_,rfl,pZ,ns,k,rfl,hS,hk,fun c=> ?_⟩;refine⟨_,rfl,_,_,rfl,rfl,(by show(0:Int)<2;decide),rfl,_,rfl,?_⟩;refine ite2 (fun c1=> ?_) (fun c1=> ?_)
 ·exact⟨_,rfl,_,_,rfl,rfl,⟨by decide,by decide⟩,(by show 1<=sizeLine;decide),fun p hp=>q p _ _ (aG hp _) aD hp⟩
 ·refine⟨_,rfl,_,rfl,_,_,rfl,rfl,(by show(0:Int)<2305843009213693951;decide),_,_,rfl,rfl,.inr ⟨by decide,by decide⟩,_,rfl,_,_,rfl,rfl,.inl ⟨by decide,by decide⟩,_,_,rfl,rfl,_,_,rfl,rfl,_,rfl,_,_,rfl,rfl,(by show(0:Int)<2305843009213693951;decide),?_⟩;generalize hfirst:((fun i j=>V.int (i %j)) _ _:V)=vf;obtain⟨a1,e1,a2,a3⟩:∃a:Int,vf= .int a/\0<=a/\a<2305843009213693951:=⟨_,hfirst.symm,BZ _ (by decide),mod_lt _ (by decide)⟩;rw[e1];refine⟨9,rfl,by decide,by decide,?_⟩;let iB:Nat->St->Hp->Prop:=fun i σ H'=>H'=H/\∃(b l:Int) (o:Option V),σ=[some (.ref pZ),some (.int k),some (.int c),some (.int 2305843009213693951),some (.int b),some (.int l),o]/\0<=l/\l<2305843009213693951;refine Ij (n:=9) iB ⟨rfl,_,_,_,rfl,a2,a3⟩ (fun i σ H' hi p=> ?_) (fun σ H' p=> ?_)
  ·obtain⟨rfl,b,l,o,rfl,h0,h1⟩:=p;refine⟨_,rfl,_,rfl,_,_,rfl,rfl,.inr ⟨by decide,by decide⟩,_,rfl,_,_,rfl,rfl,?_⟩;refine⟨_,rfl,_,rfl,_,_,rfl,rfl,.inl ⟨by omega,by omega⟩,_,rfl,_,_,rfl,rfl,.inl ⟨by decide,by decide⟩,_,_,rfl,rfl,_,rfl,_,_,rfl,rfl,_,rfl,_,_,rfl,rfl,(by show(0:Int)<2305843009213693951;decide),?_⟩;exact⟨rfl,_,_,_,rfl,BZ _ (by decide),mod_lt _ (by decide)⟩
  ·obtain⟨rfl,b,l,o,rfl,h0,h1⟩:=p;exact⟨_,rfl,(by show 1<=sizeLine;decide),fun p hp=>q p _ _ (aG hp _) aD hp⟩
def Jr(K:W.Frag):Sp:=fun vs H Q _=>∃(tp:Addr) (t m:Int),vs=[.ref tp,.int m]/\H tp=some (.lst [.int t])/\0<m/\m<1000000000000000000000000000000/\∀r t':Int,0<=r->r<m->Q (.int r) (upd H tp (.lst [.int t']))
theorem Tj{f:Addr}{fd:FuncData}(F:Fun K "_law_adigit" "_law_adigit" fU f fd):FnOk P w K mg base CX0 1 f fd ["tape","many"] (Jr K):=by
 refine F.cT ["tape","many","found"] fun cdv A outer s H vs Q E hr h=> ?_;obtain⟨tp,t,m,rfl,hH,hm0,hm1,q⟩:=h;refine bh ?_;intro Y;refine⟨_,aP (pS 2 (aX op_mod (bx lK (pv 0) aq) (pv 1))) (aP (ps_asg (aX jQ (bx lK (pv 0) aq) (pv 1)) (pg_sub (pv 0) aq set_list)) (aZ (bQ (pv 2)))),?_⟩;refine lR ?_;intro c3 c2;refine⟨_,rfl,tp,_,_,.int t,rfl,rfl,SqL.of hH,rfl,_,rfl,_,_,rfl,rfl,hm0,?_⟩;refine⟨_,rfl,tp,_,_,.int t,rfl,rfl,SqL.of hH,rfl,_,rfl,_,_,rfl,rfl,⟨hm0,hm1⟩,_,rfl,tp,_,_,0,rfl,rfl,hH,rfl,?_⟩;exact⟨_,rfl,q _ _ (BZ _ hm0) (mod_lt _ hm0)⟩
end
end Hs
namespace L2
open PySem
theorem cI.append{K:W.Frag}{H:Hp}{xs ys:List V}{ds es:List PyData}(h:cI K H xs ds)(h':cI K H ys es):cI K H (xs++ys) (ds++es):=
 cI.rec (motive_1:=fun _ _ _=>True) (motive_2:=fun xs ds _=>cI K H (xs++ys) (ds++es)) trivial (fun _=>trivial) (fun _=>trivial) (fun _=>trivial) (fun _ _ _=>trivial) (fun _ _ _=>trivial) (fun _=>trivial) (fun _ _=>trivial) h' (fun h _ _ t=> .cons h t) h
theorem cI.snoc{K:W.Frag}{H:Hp}{xs:List V}{ds:List PyData}{x:V}{d:PyData}(h:cI K H xs ds)(h':DV K H x d):cI K H (xs++[x]) (ds++[d]):=h.append (.cons h' .nil)
theorem bw.tup{K:W.Frag}{t:Addr}{H H':Hp}{a:Addr}{xs zs:List V}(e:bw t H H')(n:H t=some (.lst zs))(h:SqT K H a xs):SqT K H' a xs:=by
 rcases h with(h|⟨o,h⟩)|h
 ·exact .inl (.inl (e _ _ (ne_of h n (by intro z;cases z)) h))
 ·exact .inl (.inr ⟨o,e _ _ (ne_of h n (by intro z;cases z)) h⟩)
 ·exact .inr h
end L2
namespace Aq
open PySem L2
theorem jN{K:W.Frag}{t:Addr}{H H':Hp}{zs:List V}(e:bw t H H')(n:H t=some (.lst zs)){rs:List V}{ps:L0}(h:cI K H rs (ps.map pairD)):cI K H' rs (ps.map pairD):=by
 induction ps generalizing rs with
 |nil=>cases h;exact .nil
 |cons p ps ih=>
  cases h with
  |cons h tl=>
   refine .cons ?_ (ih tl);cases h with
   |tup h hd=>
    cases hd with
    |cons a1 t1=>
     cases a1;cases t1 with
     |cons a2 t2=>
      cases a2;cases t2;exact .tup (e.tup n h) (.cons (.int _) (.cons (.int _) .nil))
theorem uR.Eo{K:W.Frag}{t:Addr}{H H':Hp}{zs:List V}{a:Addr}{n:Int}{ts:L0}(h:uR K H a n ts)(e:bw t H H')(hn:H t=some (.lst zs)):uR K H' a n ts:=by
 obtain⟨u,rs,h1,h2,h3⟩:=h;exact⟨u,rs,e.tup hn h1,e.tup hn h2,jN e hn h3⟩
theorem kW{α:Type} [DecidableEq α]:∀{l m:List α},l.Nodup->(∀a∈l,a∈m)->l.length<=m.length
 |[],m,_,_=>cG _
 |a::l,m,nd,h=>by
  have ha:=h a nG;have nd':=Il.mp nd;have q:∀b∈l,b∈m.erase a:=fun b hb=>by
   have hne:b≠a:=fun e=>nd'.1 (e▸hb);exact(wdd hne).mpr (h b (jr _ hb))
  have:=kW nd'.2 q;have e:=wcg ha;have:0<m.length:=Wg ha;simp only[uz];omega
structure gU(n:Int)(ps:L0):Prop where
 nd:ps.Nodup
 lt:∀p∈ps,0<=p.1/\p.1<p.2/\p.2<n
def YB(n:Nat):L0:=((List.range n).map fun(j:Nat)=>(List.range j).map fun(i:Nat)=>((i:Int),(j:Int))).flatten
theorem pairs_len{n:Int}{ps:L0}(h:gU n ps)(hn:n<=10):ps.length<=45:=by
 have q:=kW (m:=YB 10) h.nd fun p hp=>by
  obtain⟨h0,h1,h2⟩:=h.lt p hp;obtain⟨a,b⟩:=p;dsimp only at h0 h1 h2;refine List.mem_flatten.mpr ⟨(List.range b.toNat).map fun(i:Nat)=>((i:Int),((b.toNat:Nat):Int)),lX.mpr ⟨b.toNat,pO.mpr (by omega),rfl⟩,lX.mpr ⟨a.toNat,pO.mpr (by omega),?_⟩⟩;have e1:((a.toNat:Nat):Int)=a:=by omega
  have e2:((b.toNat:Nat):Int)=b:=by omega
  rw[e1,e2]
 have e:(YB 10).length=45:=by decide
 omega
def pl(p:Int×Int):List Int:=[p.1,p.2]
theorem Ss{p q:Int×Int}(h:pl p=pl q):p=q:=by
 obtain⟨a,b⟩:=p;obtain⟨c,d⟩:=q;unfold pl at h;simp at h;rw[h.1,h.2]
theorem TX{a b:List Int}(h:HT.lexLt b a=false)(ne:a≠b):HT.lexLt a b=true:=by
 rw[HT.dR]at h⊢;have h1:¬b<a:=Nq h;have h2:a<=b:=List.not_lt.mp h1;refine eY ?_;rcases Classical.em (a<b)with h3|h3
 ·exact h3
 ·exact absurd (List.le_antisymm h2 (List.not_lt.mp h3)) ne
theorem Jb{n:Int}{p:Int×Int}(h0:0<=p.1)(h1:p.1<p.2)(h2:p.2<n):lY n (pairD p)=true:=by
 show((aR n (.int p.1)&&(aR n (.int p.2)&&true))&&bZ [p.1,p.2]&&decide (([PyData.int p.1,PyData.int p.2]).length=2))=true;have e1:aR n (.int p.1)=true:=by
  show(decide (0<=p.1)&&decide (p.1<n))=true;rw[eY h0,eY (by omega)];rfl
 have e2:aR n (.int p.2)=true:=by
  show(decide (0<=p.2)&&decide (p.2<n))=true;rw[eY (by omega),eY h2];rfl
 have e3:bZ [p.1,p.2]=true:=by
  show(decide (p.1<p.2)&&true)=true;rw[eY h1];rfl
 rw[e1,e2,e3];rfl
theorem RJ{n:Int}{ts:L0}(hn0:0<=n)(hn1:n<=10)(h:gU n ts)(hs:ts.Pairwise fun p q=>HT.lexLt (pl q) (pl p)=false):vN (Ba n ts)=true:=by
 show(true&&(decide (0<=n)&&decide (n<=10))&&((ts.map pairD).all (lY n)&&fJ ((ts.map pairD).map fun t=>(kids t).map intD)))=true;have e1:(ts.map pairD).all (lY n)=true:=by
  rw[List.all_map,nF];intro p hp;obtain⟨h0,h1,h2⟩:=h.lt p hp;exact Jb h0 h1 h2
 have e2:(ts.map pairD).map (fun t=>(kids t).map intD)=ts.map pl:=by rw[Ql];rfl
 have e3:fJ (ts.map pl)=true:=by
  unfold fJ;rw[nF];intro k hk;have hk':k<ts.length-1:=by simpa using hk
  have g1:(ts.map pl).getD k []=pl ts[k]:=by rw[iM,dW,dD (by omega)];rfl
  have g2:(ts.map pl).getD (k+1) []=pl ts[k+1]:=by rw[iM,dW,dD (by omega)];rfl
  rw[g1,g2];refine TX (Wi.mp hs k (k+1) (by omega) (by omega) (by omega)) fun e=> ?_;have:=(List.getElem_inj h.nd).mp (Ss e);omega
 rw[eY hn0,eY hn1,e1,e2,e3];rfl
def bN(ts:L0)(i j:Int):Bool:=decide ((i,j)∈ts)||decide ((j,i)∈ts)
theorem tied_eq{n:Int}{ts:L0}(h:gU n ts)(i j:Int):Cm ts i j=bN ts i j:=by
 unfold Cm bN;have no:∀{a b:Int},b<=a->decide ((a,b)∈ts)=false:=fun{a b} hab=>jx fun hm=>by
  have:=(h.lt _ hm).2.1;dsimp only at this;omega
 rcases Int.lt_trichotomy i j with c|c|c
 ·rw[aA (show¬j<i by omega),aB (show j>i by omega),no (show i<=j by omega),Bool.or_false]
 ·subst c;rw[aA (show¬i<i by omega),Bool.or_self]
  try rw[aA (show¬i>i by omega)]
 ·rw[aB (show j<i by omega),aA (show¬j>i by omega),no (show j<=i by omega),wgc]
end Aq
namespace Hs
open PySem L2 Aq
def uK(p q:Int×Int):Prop:=p.1<q.1\/(p.1=q.1/\p.2<q.2)
theorem uK.trans{p q r:Int×Int}(a:uK p q)(b:uK q r):uK p r:=by
 unfold uK at *;omega
theorem uK.irr{p:Int×Int}(a:uK p p):False:=by
 unfold uK at a;omega
theorem Ow{p q:Int×Int}(h:HT.lexLt (pl p) (pl q)=true):uK p q:=by
 rw[HT.dR]at h;have:=nM h;unfold pl at this;rw[YZ]at this;rcases this with a|⟨a,b⟩
 ·exact .inl a
 ·rw[YZ]at b;rcases b with b|⟨_,b⟩
  ·exact .inr ⟨a,b⟩
  ·exact absurd b (by simp)
def row(so:Int->Int->Bool)(i:Int)(k:Nat):L0:=((List.range k).map fun(t:Nat)=>(i,i+1+(t:Int))).filter fun p=>so p.1 p.2
def rows(so:Int->Int->Bool)(m:Int)(i:Nat):L0:=((List.range i).map fun(t:Nat)=>row so (0+(t:Int)) (m-(0+(t:Int)+1)).toNat).flatten
theorem JN(so:Int->Int->Bool)(i:Int)(k:Nat):row so i (k+1)=row so i k++(if so i (i+1+(k:Int))=true then[(i,i+1+(k:Int))]else[]):=by
 unfold row;rw[yu,cO,RD];congr 1;show List.filter _ [(i,i+1+(k:Int))]=_;rw[Mt];rfl
theorem qb(so:Int->Int->Bool)(m:Int)(i:Nat):rows so m (i+1)=rows so m i++row so (0+(i:Int)) (m-(0+(i:Int)+1)).toNat:=by
 unfold rows;rw[yu,cO,List.flatten_append];simp
theorem rG{so:Int->Int->Bool}{i:Int}{k:Nat}{p:Int×Int}:p∈row so i k↔p.1=i/\i<p.2/\p.2<i+1+(k:Int)/\so p.1 p.2=true:=by
 unfold row;rw[lN,lX];constructor
 ·rintro⟨⟨t,ht,rfl⟩,h⟩;rw[pO]at ht;exact⟨rfl,by show i<i+1+(t:Int);omega,by show i+1+(t:Int)<_;omega,h⟩
 ·rintro⟨h1,h2,h3,h4⟩;refine⟨⟨(p.2-i-1).toNat,by rw[pO];omega,?_⟩,h4⟩;apply Prod.ext
  ·exact h1.symm
  ·show i+1+(((p.2-i-1).toNat:Nat):Int)=p.2;omega
theorem jU{so:Int->Int->Bool}{m:Int}:∀{i:Nat} {p:Int×Int},p∈rows so m i↔0<=p.1/\p.1<(i:Int)/\p.1<p.2/\p.2<m/\so p.1 p.2=true
 |0,p=>by
  constructor
  ·intro h;simp[rows]at h
  ·intro h;omega
 |i+1,p=>by
  rw[qb,jh,jU (i:=i),rG];constructor
  ·rintro(h|h)
   ·exact⟨h.1,by omega,h.2.2⟩
   ·exact⟨by omega,by omega,by omega,by omega,h.2.2.2⟩
  ·rintro⟨h1,h2,h3,h4,h5⟩;by_cases e:p.1<(i:Int)
   ·exact .inl ⟨h1,e,h3,h4,h5⟩
   ·exact .inr ⟨by omega,by omega,by omega,h5⟩
theorem sJ(so:Int->Int->Bool)(i:Int)(k:Nat):(row so i k).Pairwise uK:=by
 unfold row;refine List.Pairwise.filter _ ?_;rw[weq];exact Y4.imp fun h=> .inr ⟨rfl,by show i+1+_<i+1+_;omega⟩
theorem gO(so:Int->Int->Bool)(m:Int):∀i:Nat,(rows so m i).Pairwise uK
 |0=>by unfold rows;exact List.Pairwise.nil
 |i+1=>by
  rw[qb,Wd];refine⟨gO so m i,sJ so _ _,fun p hp q hq=> ?_⟩;rw[jU]at hp;rw[rG]at hq;exact .inl (by omega)
theorem NT{so:Int->Int->Bool}{m:Int}{i:Nat}:gU m (rows so m i):=
 ⟨(gO so m i).imp fun h e=>by subst e;exact uK.irr h,fun p hp=>by rw[jU]at hp;exact⟨hp.1,hp.2.2.1,hp.2.2.2.1⟩⟩
theorem vm{l:L0}(h:l.Pairwise uK):l.Nodup:=h.imp fun h e=>by subst e;exact uK.irr h
end Hs
namespace L2
open PySem
theorem cI.get'{K:W.Frag}{H:Hp}:∀{xs:List V} {ds:List PyData} {i:Nat},cI K H xs ds->i<ds.length->∃x d,xs[i]? =some x/\ds[i]? =some d/\DV K H x d
 |_,_,i,.nil,h=>by simp at h
 |_,_,0,.cons h _,_=>⟨_,_,rfl,rfl,h⟩
 |_,_,i+1,.cons _ t,h=>by
  obtain⟨x,d,h1,h2,h3⟩:=cI.get' (i:=i) t (by simpa using h);exact⟨x,d,by simpa using h1,by simpa using h2,h3⟩
end L2
namespace Hs
open PySem L2 Aq
structure cB(K:W.Frag)(H:Hp)(a:Addr)(n:Int)(ts:L0):Prop where
 web:uR K H a n ts
 h0:0<=n
 h1:n<=10
 pk:gU n ts
 ok:Rn n ts
theorem cB.same{K:W.Frag}{H H':Hp}{a:Addr}{n:Int}{ts:L0}(h:cB K H a n ts)(e:Same H H'):cB K H' a n ts:=⟨h.web.same e,h.h0,h.h1,h.pk,h.ok⟩
theorem cB.Eo{K:W.Frag}{H H':Hp}{t a:Addr}{zs:List V}{n:Int}{ts:L0}(h:cB K H a n ts)(e:bw t H H')(hn:H t=some (.lst zs)):cB K H' a n ts:=⟨h.web.Eo e hn,h.h0,h.h1,h.pk,h.ok⟩
theorem cB.len{K:W.Frag}{H:Hp}{a:Addr}{n:Int}{ts:L0}(h:cB K H a n ts):ts.length<=45:=pairs_len h.pk h.h1
def tt(_ _:Int):Bool:=true
theorem Ou{p q:Int×Int}(h:uK p q):HT.lexLt (pl q) (pl p)=false:=by
 rw[HT.dR];refine jx fun z=> ?_;have:uK q p:=Ow (by rw[HT.dR];exact eY z);exact uK.irr (h.trans this)
theorem Az{n:Int}{ts:L0}{i:Nat}(h0:0<=n)(h1:n<=10)(h:ts.Sublist (rows tt n i)):gU n ts/\Rn n ts:=by
 have hs:ts.Pairwise uK:=(gO tt n i).sublist h;have ho:gU n ts:=⟨vm hs,fun p hp=>(NT (so:=tt) (m:=n) (i:=i)).lt p (h.subset hp)⟩;exact⟨ho,RJ h0 h1 ho (hs.imp Ou)⟩
theorem Er{K:W.Frag}{H:Hp}{rs:List V}{ps:L0}{i:Nat}{x:V}(h:cI K H rs (ps.map pairD))(hx:rs[i]? =some x):∃(t:Addr) (hi:i<ps.length),x= .ref t/\SqT K H t [.int (ps[i]).1,.int (ps[i]).2]:=by
 have hlen:=h.len;rw[aJ]at hlen;have hi:i<ps.length:=by rw[<-hlen];exact(nH.mp hx).1
 obtain⟨x',d,e1,e2,e3⟩:=cI.get' (i:=i) h (by rw[aJ];exact hi);rw[hx]at e1;cases e1;rw[dW,dD hi]at e2;cases e2;cases e3 with
 |tup hp tp=>
  cases tp with
  |cons ta tb=>
   cases tb with
   |cons tc td=>
    cases td;cases ta;cases tc;exact⟨_,hi,rfl,hp⟩
def gR(K:W.Frag)(H:Hp)(l:Addr)(R:L0)(P:Int×Int->Prop):Prop:=∃(rs:List V) (ts:L0),H l=some (.lst rs)/\cI K H rs (ts.map pairD)/\ts.Sublist R/\∀p∈ts,P p
theorem gR.nil{K:W.Frag}{H:Hp}{l:Addr}{R:L0}{P:Int×Int->Prop}(h:H l=some (.lst [])):gR K H l R P:=⟨[],[],h,.nil,List.nil_sublist _,fun p hp=>(nomatch hp)⟩
theorem gR.step{K:W.Frag}{H H':Hp}{l c:Addr}{R:L0}{P:Int×Int->Prop}{zs:List V}(h:gR K H l R P)(e:bw c H H')(hc:H c=some (.lst zs))(n:l≠c):gR K H' l R P:=by
 obtain⟨rs,ts,h1,h2,h3⟩:=h;exact⟨rs,ts,e _ _ n h1,jN e hc h2,h3⟩
theorem gR.mono{K:W.Frag}{H:Hp}{l:Addr}{R R':L0}{P:Int×Int->Prop}(h:gR K H l R P)(e:R.Sublist R'):gR K H l R' P:=by
 obtain⟨rs,ts,h1,h2,h3,h4⟩:=h;exact⟨rs,ts,h1,h2,h3.trans e,h4⟩
theorem gR.push{K:W.Frag}{H:Hp}{l p:Addr}{R:L0}{P:Int×Int->Prop}{i j:Int}{rs:List V}{ts:L0}(h1:H l=some (.lst rs))(h2:cI K H rs (ts.map pairD))(h3:ts.Sublist R)(h4:∀p∈ts,P p)(hp:SqT K H p [.int i,.int j])(hP:P (i,j)):gR K (upd H l (.lst (rs++[.ref p]))) l (R++[(i,j)]) P:=by
 have x:bw l H (upd H l (.lst (rs++[.ref p]))):=(bw.refl _ _).upd;refine⟨_,ts++[(i,j)],aD,?_,h3.append (List.Sublist.refl _),fun q hq=> ?_⟩
 ·rw[cO];exact(jN x h1 h2).append (.cons (.tup (x.tup h1 hp) (.cons (.int _) (.cons (.int _) .nil))) .nil)
 ·rcases jh.mp hq with q'|q'
  ·exact h4 q q'
  ·rw[ji.mp q'];exact hP
theorem sub_len{n:Int}{ts:L0}{i k:Nat}(h1:n<=10)(hk:0+(i:Int)+1+(k:Int)<=n)(h:ts.Sublist (rows tt n i++row tt (0+(i:Int)) k)):ts.length<=45:=by
 refine pairs_len (n:=n) ⟨?_,fun p hp=> ?_⟩ h1
 ·refine vm (List.Pairwise.sublist h ?_);rw[Wd];refine⟨gO _ _ _,sJ _ _ _,fun p hp q hq=> ?_⟩;rw[jU]at hp;rw[rG]at hq;exact .inl (by omega)
 ·rcases jh.mp (h.subset hp)with q|q
  ·rw[jU]at q;exact⟨q.1,q.2.2.1,q.2.2.2.1⟩
  ·rw[rG]at q;exact⟨by omega,by omega,by omega⟩
end Hs
namespace Hs
open Aq
def inB(xs:List Int)(p:Int×Int):Bool:=decide (p.1∈xs)&&decide (p.2∈xs)
end Hs
namespace Hs
def ff:Nat->Nat
 |0=>1
 |1=>1
 |2=>2
 |3=>3
 |4=>4
 |5=>6
 |6=>9
 |7=>12
 |8=>18
 |9=>27
 |_=>36
theorem wQ:∀m n:Nat,m<=n->n<=10->ff m<=ff n:=by
 have h:∀n:Fin 11,∀m:Fin 11,m.val<=n.val->ff m.val<=ff n.val:=by decide
 intro m n hm hn;exact h ⟨n,by omega⟩ ⟨m,by omega⟩ hm
theorem PN:∀n d:Nat,0<d->d<=n->n<=10->d*ff (n-d)<=ff n:=by
 have h:∀n:Fin 11,∀d:Fin 11,0<d.val->d.val<=n.val->d.val*ff (n.val-d.val)<=ff n.val:=by decide
 intro n d h0 hd hn;exact h ⟨n,by omega⟩ ⟨d,by omega⟩ h0 hd
structure Full(r:Int->Int->Bool)(V:List Int)(s:List Int):Prop where
 up:s.Pairwise (· < ·)
 sub:∀x∈s,x∈V
 ind:∀x∈s,∀y∈s,x≠y->r x y=false
 max:∀v∈V,v∉s->∃x∈s,r x v=true
theorem zm(g:Int->Nat):∀V:List Int,V≠[]->∃v∈V,∀u∈V,g v<=g u
 |[],h=>absurd rfl h
 |[x],_=>⟨x,by simp,fun u hu=>by rw[ji.mp hu];exact aN _⟩
 |x::y::V,_=>by
  obtain⟨v,hv,hm⟩:=zm g (y::V) (by simp);by_cases c:g x<=g v
  ·refine⟨x,by simp,fun u hu=> ?_⟩;rcases cJ.mp hu with e|e
   ·rw[e];exact aN _
   ·exact cC c (hm u e)
  ·refine⟨v,jr _ hv,fun u hu=> ?_⟩;rcases cJ.mp hu with e|e
   ·rw[e];omega
   ·exact hm u e
theorem mX{α:Type}(p:α->Bool):∀l:List α,(l.filter p).length+(l.filter fun x=> !p x).length=l.length
 |[]=>rfl
 |x::l=>by
  have ih:=mX p l;rw[Mt,Mt];cases p x<;>simp <;>omega
theorem vD{α β:Type}(p:β->α->Bool)(m:Nat):∀(us:List β) (fs:List α),(∀s∈fs,∃u∈us,p u s=true)->(∀u∈us,∀gs:List α,gs.Sublist fs->(∀s∈gs,p u s=true)->gs.length<=m)->fs.length<=us.length*m
 |[],fs,h,_=>by
  cases fs with
  |nil=>simp
  |cons s fs=>obtain⟨u,hu,_⟩:=h s (by simp);cases hu
 |u::us,fs,h,hm=>by
  have e:=mX (p u) fs;have a:=hm u (by simp) (fs.filter (p u)) wds (fun s hs=>(lN.mp hs).2);have b:=vD p m us (fs.filter fun x=> !p u x) (fun s hs=>by
   obtain⟨h1,h2⟩:=lN.mp hs;obtain⟨w,hw,hp⟩:=h s h1;rcases cJ.mp hw with z|z
   ·rw[z]at hp;rw[hp]at h2;cases h2
   ·exact⟨w,z,hp⟩) (fun w hw gs hg hp=>hm w (jr _ hw) gs (hg.trans wds) hp)
  rw[uz,Nat.succ_mul];omega
theorem DK:∀{xs ys:List Int},xs.Pairwise (· < ·)->ys.Pairwise (· < ·)->(∀k,k∈xs↔k∈ys)->xs=ys
 |[],[],_,_,_=>rfl
 |[],y::ys,_,_,h=>by have:=(h y).mpr (by simp);simp at this
 |x::xs,[],_,_,h=>by have:=(h x).mp (by simp);simp at this
 |x::xs,y::ys,hx,hy,h=>by
  rw[Vd]at hx hy;have e:x=y:=by
   have a:=(h x).mp (by simp);have b:=(h y).mpr (by simp);rcases cJ.mp a with a|a
   ·exact a
   ·rcases cJ.mp b with b|b
    ·exact b.symm
    ·have:=hy.1 x a;have:=hx.1 y b;omega
  subst e;rw[DK hx.2 hy.2 fun k=> ?_];constructor
  ·intro hk;rcases cJ.mp ((h k).mp (jr _ hk))with a|a
   ·have:=hx.1 k hk;omega
   ·exact a
  ·intro hk;rcases cJ.mp ((h k).mpr (jr _ hk))with a|a
   ·have:=hy.1 k hk;omega
   ·exact a
theorem qj{α β:Type}{g:α->β}:∀{l:List α},l.Nodup->(∀a∈l,∀b∈l,g a=g b->a=b)->(l.map g).Nodup
 |[],_,_=>List.nodup_nil
 |a::l,h,hi=>by
  rw[Il]at h;rw[HJ,Il];refine⟨fun hm=> ?_,qj h.2 fun x hx y hy=>hi x (jr _ hx) y (jr _ hy)⟩;obtain⟨b,hb,e⟩:=lX.mp hm;have:=hi b (jr _ hb) a (by simp) e;rw[this]at hb;exact h.1 hb
def bU(r:Int->Int->Bool)(v u:Int):Bool:=decide (u=v)||r u v
theorem Cz{r:Int->Int->Bool}(sym:∀i j,r i j=r j i):∀(n:Nat) (V:List Int),V.length=n->n<=10->∀fs:List (List Int),fs.Nodup->(∀s∈fs,Full r V s)->fs.length<=ff n:=by
 intro n
 induction n using Nat.strongRecOn with
 |ind n ih=>
  intro V hV hn fs nd hf;by_cases hz:V=[]
  ·have e:∀s∈fs,s=[]:=fun s hs=>by
    cases s with
    |nil=>rfl
    |cons x s=>have:=(hf _ hs).sub x (by simp);rw[hz]at this;cases this
   have l1:fs.length<=1:=by
    match fs,nd,e with
    |[],_,_=>simp
    |[_],_,_=>simp
    |a::b::fs,nd,e=>
     exfalso;rw[Il]at nd;apply nd.1;rw[e a (by simp),e b (by simp)];simp
   have:1<=ff n:=by
    have:=wQ 0 n (cG _) hn;exact this
   omega
  obtain⟨v,hv,hmin⟩:=zm (fun u=>(V.filter (bU r u)).length) V hz;have key:=vD (fun(u:Int) (s:List Int)=>decide (u∈s)) (ff (n-(V.filter (bU r v)).length)) (V.filter (bU r v)) fs (fun s hs=> ?_) (fun u hu gs hg hp=> ?_)
  ·have hle:(V.filter (bU r v)).length<=n:=by rw[<-hV];exact uX _ _
   have hpos:0<(V.filter (bU r v)).length:=Wg (lN.mpr ⟨hv,by unfold bU;simp⟩);exact cC key (PN n _ hpos hle hn)
  ·by_cases c:v∈s
   ·exact⟨v,lN.mpr ⟨hv,by unfold bU;simp⟩,eY c⟩
   ·obtain⟨x,hx,hr⟩:=(hf s hs).max v hv c;exact⟨x,lN.mpr ⟨(hf s hs).sub x hx,by unfold bU;rw[hr];simp⟩,eY hx⟩
  ·have huV:u∈V:=(lN.mp hu).1;have fg:∀s∈gs,Full r V s/\u∈s:=fun s hs=>⟨hf s (hg.subset hs),nM (hp s hs)⟩;have hle:(V.filter (bU r u)).length<=n:=by rw[<-hV];exact uX _ _
   have hge:=hmin u huV;have hpos:0<(V.filter (bU r u)).length:=Wg (lN.mpr ⟨huV,by unfold bU;simp⟩);have hV2:(V.filter fun x=> !bU r u x).length=n-(V.filter (bU r u)).length:=by have:=mX (bU r u) V;omega
   have Ca:∀(s:List Int) (x:Int),x∈s.filter (fun x=> !decide (x=u))↔x∈s/\x≠u:=fun s x=>by rw[lN];simp
   have h1:=ih (n-(V.filter (bU r u)).length) (by omega) (V.filter fun x=> !bU r u x) hV2 (by omega) (gs.map fun s=>s.filter fun x=> !decide (x=u)) (qj (nd.sublist hg) fun s hs t ht e=> ?_) (fun t ht=> ?_)
   ·rw[aJ]at h1;exact cC h1 (wQ _ _ (by omega) (by omega))
   ·obtain⟨a1,a2⟩:=fg s hs;obtain⟨b1,b2⟩:=fg t ht;refine DK a1.up b1.up fun k=> ?_;have hk:k∈s.filter (fun x=> !decide (x=u))↔k∈t.filter (fun x=> !decide (x=u)):=by rw[show s.filter (fun x=> !decide (x=u))=t.filter (fun x=> !decide (x=u))from e]
    rw[Ca,Ca]at hk;by_cases c:k=u
    ·rw[c];exact⟨fun _=>b2,fun _=>a2⟩
    ·exact⟨fun z=>(hk.mp ⟨z,c⟩).1,fun z=>(hk.mpr ⟨z,c⟩).1⟩
   ·obtain⟨s,hs,rfl⟩:=lX.mp ht;obtain⟨a1,a2⟩:=fg s hs;refine⟨a1.up.sublist wds,fun x hx=> ?_,fun x hx y hy=> ?_,fun w hw hn=> ?_⟩
    ·obtain⟨x1,x2⟩:=(Ca s x).mp hx;refine lN.mpr ⟨a1.sub x x1,?_⟩;unfold bU;rw[a1.ind x x1 u a2 x2,jx x2];rfl
    ·exact a1.ind x ((Ca s x).mp hx).1 y ((Ca s y).mp hy).1
    ·obtain⟨w1,w2⟩:=lN.mp hw;have w3:bU r u w=false:=by simpa using w2
     unfold bU at w3;rw[Bool.or_eq_false_iff]at w3;have wu:w≠u:=Nq w3.1;have ws:w∉s:=fun z=>hn ((Ca s w).mpr ⟨z,wu⟩);obtain⟨x,hx,hr⟩:=a1.max w w1 ws;have xu:x≠u:=fun z=>by rw[z,sym u w,w3.2]at hr;cases hr
     exact⟨x,(Ca s x).mpr ⟨hx,xu⟩,hr⟩
end Hs
namespace Hs
open PySem Aq
def rng(n:Nat):List Int:=(List.range n).map fun k=>((k:Nat):Int)
theorem gP{n:Nat}{x:Int}:x∈rng n↔0<=x/\x<(n:Int):=by
 unfold rng;rw[lX];constructor
 ·rintro⟨k,hk,rfl⟩;have:=pO.mp hk;omega
 ·rintro⟨h0,h1⟩;exact⟨x.toNat,pO.mpr (by omega),by omega⟩
theorem MN(ts:L0)(i j:Int):bN ts i j=bN ts j i:=by unfold bN;rw[Bool.or_comm]
def goB(ts:L0)(w:Bool)(s:List Int)(p:Int):Bool:=s.all fun q=>bN ts p q==w
def bB(ts:L0)(w:Bool):Nat->List (List Int)
 |0=>[[]]
 |k+1=>bB ts w k++((bB ts w k).filter fun s=>goB ts w s (k:Int)).map fun s=>s++[(k:Int)]
def oK(ts:L0)(w:Bool)(n:Nat)(s:List Int):Bool:= !((rng n).any fun p=> !decide (p∈s)&&goB ts w s p)
def jX(ts:L0)(w:Bool)(n:Nat):List (List Int):=(bB ts w n).filter (oK ts w n)
structure qx(ts:L0)(w:Bool)(k:Nat)(s:List Int):Prop where
 up:s.Pairwise (· < ·)
 lt:∀x∈s,0<=x/\x<(k:Int)
 all:∀x∈s,∀y∈s,x≠y->(bN ts x y==w)=true
theorem iu{ts:L0}{w:Bool}:∀(k:Nat) (s:List Int),s∈bB ts w k->qx ts w k s
 |0,s,h=>by
  rw[ji.mp (show s∈[[]]from h)];exact⟨List.Pairwise.nil,fun x hx=>(nomatch hx),fun x hx=>(nomatch hx)⟩
 |k+1,s,h=>by
  rcases jh.mp (show s∈bB ts w k++((bB ts w k).filter fun s=>goB ts w s (k:Int)).map fun s=>s++[(k:Int)]from h)with q|q
  ·have S:=iu k s q;exact⟨S.up,fun x hx=>by have:=S.lt x hx;omega,S.all⟩
  ·obtain⟨t,ht,rfl⟩:=lX.mp q;obtain⟨t1,t2⟩:=lN.mp ht;have S:=iu k t t1;have g:∀y∈t,(bN ts (k:Int) y==w)=true:=fun y hy=>nF.mp t2 y hy;refine⟨?_,fun x hx=> ?_,fun x hx y hy hne=> ?_⟩
   ·rw[Wd];refine⟨S.up,wco _ _,fun x hx y hy=> ?_⟩;rw[ji.mp hy];exact(S.lt x hx).2
   ·rcases jh.mp hx with z|z
    ·have:=S.lt x z;omega
    ·rw[ji.mp z];omega
   ·rcases jh.mp hx with z|z
    ·rcases jh.mp hy with z'|z'
     ·exact S.all x z y z' hne
     ·rw[ji.mp z',MN];exact g x z
    ·rw[ji.mp z]at hne⊢;rcases jh.mp hy with z'|z'
     ·exact g y z'
     ·exact absurd (ji.mp z').symm hne
theorem mj{ts:L0}{w:Bool}:∀k:Nat,(bB ts w k).Nodup
 |0=>by show([[]]:List (List Int)).Nodup;simp
 |k+1=>by
  show(bB ts w k++((bB ts w k).filter fun s=>goB ts w s (k:Int)).map fun s=>s++[(k:Int)]).Nodup;refine List.nodup_append.mpr ⟨mj k,qj ((mj k).filter _) (fun a _ b _ e=>List.append_cancel_right e),fun a ha b hb e=> ?_⟩;obtain⟨t,_,rfl⟩:=lX.mp hb;have:=(iu k a ha).lt (k:Int) (by rw[e];simp);omega
theorem nR{ts:L0}{w:Bool}:∀k:Nat,(bB ts w k).length<=2^k
 |0=>aN _
 |k+1=>by
  show(bB ts w k++((bB ts w k).filter fun s=>goB ts w s (k:Int)).map fun s=>s++[(k:Int)]).length<=2^(k+1);rw[gD,aJ,Nat.pow_succ];have a:=nR (ts:=ts) (w:=w) k;have b:=uX (fun s=>goB ts w s (k:Int)) (bB ts w k);omega
theorem Fi{ts:L0}{w:Bool}{n:Nat}{s:List Int}(h:s∈jX ts w n):Full (fun i j=> !(bN ts i j==w)) (rng n) s:=by
 obtain⟨h1,h2⟩:=lN.mp h;have S:=iu n s h1;refine⟨S.up,fun x hx=>gP.mpr (S.lt x hx),fun x hx y hy hne=>by rw[S.all x hx y hy hne];rfl,fun v hv hn=> ?_⟩;unfold oK at h2;apply QB;intro hc;have h3:((rng n).any fun p=> !decide (p∈s)&&goB ts w s p)=false:=by simpa using h2
 rw[ZF]at h3;apply h3 v hv;rw[jx hn];show goB ts w s v=true;unfold goB;rw[nF];intro q hq;cases e:(bN ts v q==w)with
 |true=>rfl
 |false=>exact absurd ⟨q,hq,by show(!(bN ts q v==w))=true;rw[MN,e];rfl⟩ hc
theorem vA{ts:L0}{w:Bool}{n:Nat}(hn:n<=10):(jX ts w n).length<=36:=by
 have h:=Cz (r:=fun i j=> !(bN ts i j==w)) (fun i j=>by rw[MN]) n (rng n) (by unfold rng;simp) hn (jX ts w n) ((mj n).filter _) (fun s hs=>Fi hs);have:=wQ n 10 hn (aN _);exact cC h this
def jl(ts:L0)(w:Bool)(n:Nat)(s:List Int):List Int:=(rng n).filter fun p=>s.all fun q=> !decide (p=q)&&(bN ts q p==w)
def oM(ts:L0)(w:Bool)(n:Nat)(q:Int):List Int:=(rng n).filter fun p=> !decide (p=q)&&(bN ts q p==w)
theorem KC(ts:L0)(w:Bool)(n:Nat):jl ts w n []=rng n:=by unfold jl;exact List.filter_eq_self.mpr fun _ _=>rfl
theorem GR(ts:L0)(w:Bool)(n:Nat)(s:List Int)(k:Int):jl ts w n (s++[k])=(jl ts w n s).filter fun p=>decide (p∈oM ts w n k):=by
 unfold jl;rw[List.filter_filter];refine List.filter_congr fun p hp=> ?_;rw[List.all_append,Bool.and_comm];congr 1;unfold oM;rw[Bb,Ga,lN];simp[hp]
theorem Pb{ts:L0}{w:Bool}{n k:Nat}{s:List Int}(hs:qx ts w k s)(hk:k<n):decide ((k:Int)∈jl ts w n s)=goB ts w s (k:Int):=by
 unfold jl goB;rw[Bb,Ga,lN,nF,nF];constructor
 ·rintro⟨_,h⟩ q hq;have:=h q hq;rw[pR]at this;rw[MN];exact this.2
 ·intro h;refine⟨gP.mpr ⟨by omega,by omega⟩,fun q hq=> ?_⟩;have:=(hs.lt q hq).2;rw[pR];refine⟨?_,by rw[MN];exact h q hq⟩;rw[jx (by omega)];rfl
theorem GX(ts:L0)(w:Bool)(n:Nat)(s:List Int):decide (jl ts w n s=[])=oK ts w n s:=by
 unfold jl oK;rw[Bb,Ga,Y0,Bool.not_eq_true',ZF];constructor
 ·intro h p hp hc;rw[pR]at hc;apply h p hp;rw[nF];intro q hq;have h1:p∉s:=by simpa using hc.1
  have h2:=nF.mp hc.2 q hq;rw[pR];refine⟨?_,by rw[MN];exact h2⟩;have ne:¬p=q:=fun e=>h1 (by rw[e];exact hq);rw[jx ne];rfl
 ·intro h p hp hc;apply h p hp;rw[nF]at hc;rw[pR];refine⟨?_,?_⟩
  ·have:p∉s:=fun z=>by
    have:=hc p z;simp at this
   rw[jx this];rfl
  ·unfold goB;rw[nF];intro q hq;have:=hc q hq;rw[pR]at this;rw[MN];exact this.2
theorem qJ:∀{xs ys:List Int},xs.Pairwise (· < ·)->ys.Pairwise (· < ·)->(∀k,k∈xs↔k∈ys)->xs=ys
 |[],[],_,_,_=>rfl
 |[],y::ys,_,_,h=>by have:=(h y).mpr (by simp);simp at this
 |x::xs,[],_,_,h=>by have:=(h x).mp (by simp);simp at this
 |x::xs,y::ys,hx,hy,h=>by
  rw[Vd]at hx hy;have e:x=y:=by
   have a:=(h x).mp (by simp);have b:=(h y).mpr (by simp);rcases cJ.mp a with a|a
   ·exact a
   ·rcases cJ.mp b with b|b
    ·exact b.symm
    ·have:=hy.1 x a;have:=hx.1 y b;omega
  subst e;rw[qJ hx.2 hy.2 fun k=> ?_];constructor
  ·intro hk;rcases cJ.mp ((h k).mp (jr _ hk))with a|a
   ·have:=hx.1 k hk;omega
   ·exact a
  ·intro hk;rcases cJ.mp ((h k).mpr (jr _ hk))with a|a
   ·have:=hy.1 k hk;omega
   ·exact a
theorem nQ{ts:L0}{w:Bool}:∀(k:Nat) (s:List Int),qx ts w k s->s∈bB ts w k
 |0,s,h=>by
  cases s with
  |nil=>show([]:List Int)∈[[]];simp
  |cons x s=>have:=h.lt x (by simp);omega
 |k+1,s,h=>by
  show s∈bB ts w k++((bB ts w k).filter fun s=>goB ts w s (k:Int)).map fun s=>s++[(k:Int)];by_cases c:(k:Int)∈s
  ·have hm:∀x,x∈s.filter (fun x=> !decide (x=(k:Int)))↔x∈s/\x≠(k:Int):=fun x=>by rw[lN];simp
   refine FZ _ (lX.mpr ⟨s.filter (fun x=> !decide (x=(k:Int))),lN.mpr ⟨nQ k _ ⟨h.up.filter _,fun x hx=> ?_,fun x hx y hy hne=> ?_⟩,?_⟩,?_⟩)
   ·have a:=(hm x).mp hx;have b:=h.lt x a.1;have:=a.2;omega
   ·exact h.all x ((hm x).mp hx).1 y ((hm y).mp hy).1 hne
   ·unfold goB;rw[nF];intro q hq;have a:=(hm q).mp hq;exact h.all _ c q a.1 (fun e=>a.2 e.symm)
   ·refine qJ ?_ h.up fun x=> ?_
    ·rw[Wd];refine⟨h.up.filter _,wco _ _,fun x hx y hy=> ?_⟩;rw[ji.mp hy];have a:=(hm x).mp hx;have b:=h.lt x a.1;have:=a.2;omega
    ·rw[jh,hm,ji];constructor
     ·rintro(a|a)
      ·exact a.1
      ·rw[a];exact c
     ·intro a;by_cases e:x=(k:Int)
      ·exact .inr e
      ·exact .inl ⟨a,e⟩
  ·refine YX _ (nQ k s ⟨h.up,fun x hx=> ?_,h.all⟩);have b:=h.lt x hx;have:x≠(k:Int):=fun e=>c (by rw[<-e];exact hx);omega
theorem qx.of{ts:L0}{w:Bool}{n:Nat}{s:List Int}(F:Full (fun i j=> !(bN ts i j==w)) (rng n) s):qx ts w n s:=
 ⟨F.up,fun x hx=>gP.mp (F.sub x hx),fun x hx y hy hne=>by
  have:=F.ind x hx y hy hne
  try dsimp only at this
  cases e:(bN ts x y==w)with
  |true=>rfl
  |false=>rw[e]at this;cases this⟩
theorem PB{ts:L0}{w:Bool}{n:Nat}{s:List Int}(F:Full (fun i j=> !(bN ts i j==w)) (rng n) s):s∈jX ts w n:=by
 refine lN.mpr ⟨nQ n s (qx.of F),?_⟩;unfold oK;rw[Bool.not_eq_true',ZF];intro p hp hc;rw[pR]at hc;have hn:p∉s:=by simpa using hc.1
 obtain⟨x,hx,hr⟩:=F.max p hp hn;have:=nF.mp hc.2 x hx
 try dsimp only at hr this
 rw[MN,this]at hr;cases hr
theorem Ey{α:Type}(g:α->Nat):∀V:List α,V≠[]->∃v∈V,∀u∈V,g u<=g v
 |[],h=>absurd rfl h
 |[x],_=>⟨x,by simp,fun u hu=>by rw[ji.mp hu];exact aN _⟩
 |x::y::V,_=>by
  obtain⟨v,hv,hm⟩:=Ey g (y::V) (by simp);by_cases c:g v<=g x
  ·refine⟨x,by simp,fun u hu=> ?_⟩;rcases cJ.mp hu with e|e
   ·rw[e];exact aN _
   ·exact cC (hm u e) c
  ·refine⟨v,jr _ hv,fun u hu=> ?_⟩;rcases cJ.mp hu with e|e
   ·rw[e];omega
   ·exact hm u e
theorem zM{ts:L0}{w:Bool}{n:Nat}{s:List Int}(hs:qx ts w n s):∃t∈jX ts w n,∀x∈s,x∈t:=by
 let C:=(bB ts w n).filter fun t=>s.all fun x=>decide (x∈t);have mC:∀t,t∈C↔t∈bB ts w n/\∀x∈s,x∈t:=fun t=>by
  show t∈(bB ts w n).filter _↔_;rw[lN,nF];simp
 have hne:C≠[]:=fun e=>by
  have:s∈C:=(mC s).mpr ⟨nQ n s hs,fun x hx=>hx⟩;rw[e]at this;cases this
 obtain⟨t,ht,hm⟩:=Ey List.length C hne;obtain⟨h1,h2⟩:=(mC t).mp ht;have T:=iu n t h1;refine⟨t,PB ⟨T.up,fun x hx=>gP.mpr (T.lt x hx),fun x hx y hy hne=> ?_,fun v hv hn=> ?_⟩,h2⟩
 ·show(!(bN ts x y==w))=false;rw[T.all x hx y hy hne];rfl
 ·apply QB;intro hc;have go:∀x∈t,(bN ts x v==w)=true:=fun x hx=>by
   cases e:(bN ts x v==w)with
   |true=>rfl
   |false=>exact absurd ⟨x,hx,by show(!(bN ts x v==w))=true;rw[e];rfl⟩ hc
  have mU:∀x,x∈(rng n).filter (fun x=>decide (x∈t)||decide (x=v))↔x∈t\/x=v:=fun x=>by
   rw[lN,wfo,Ga,Ga];constructor
   ·exact fun z=>z.2
   ·rintro(z|z)
    ·exact⟨gP.mpr (T.lt x z),.inl z⟩
    ·exact⟨by rw[z];exact hv,.inr z⟩
  have up:((rng n).filter (fun x=>decide (x∈t)||decide (x=v))).Pairwise (· < ·):=by
   refine List.Pairwise.filter _ ?_;unfold rng;rw[weq];exact Y4.imp fun{a b} h=>by omega
  have U:qx ts w n ((rng n).filter (fun x=>decide (x∈t)||decide (x=v))):=⟨up,fun x hx=>gP.mp (lN.mp hx).1,fun x hx y hy hne=>by
   rcases(mU x).mp hx with a|a
   ·rcases(mU y).mp hy with b|b
    ·exact T.all x a y b hne
    ·rw[b];exact go x a
   ·rcases(mU y).mp hy with b|b
    ·rw[a,MN];exact go y b
    ·exact absurd (a.trans b.symm) hne⟩
  have inC:=(mC _).mpr ⟨nQ n _ U,fun x hx=>(mU x).mpr (.inl (h2 x hx))⟩;have l1:=hm _ inC;have l2:=kW (l:=v::t) (m:=(rng n).filter (fun x=>decide (x∈t)||decide (x=v))) (Il.mpr ⟨hn,T.up.imp fun{a b} h=>by omega⟩) (fun x hx=>by
   rcases cJ.mp hx with z|z
   ·exact(mU x).mpr (.inr z)
   ·exact(mU x).mpr (.inl z))
  rw[uz]at l2;omega
end Hs
namespace Hs
open PySem L2 Aq
section
variable{P:Program}{w:World}{K:W.Frag}{mg:L4}{base:Heap}
theorem blV_eq(a b:Bool):decide (V.bl a=V.bl b)=(a==b):=by cases a<;>cases b<;>rfl
theorem intV_eq(a b:Int):decide (V.int a=V.int b)=decide (a=b):=by
 by_cases e:a=b
 ·subst e;simp
 ·rw[jx e,jx (by intro z;injection z with z;exact e z)]
theorem O9{a b:Int}:(!decide (V.int a=V.int b))= !decide (a=b):=by rw[intV_eq]
theorem any_ints(xs:List Int)(k:Int):((xs.map PyData.int).any fun d=>PyData.eqv d (.int k))=decide (k∈xs):=by
 induction xs with
 |nil=>simp
 |cons x xs ih=>
  rw[HJ,Vb,ih];have e:PyData.eqv (.int x) (.int k)=decide (k=x):=by
   show(x==k)=_;rw[Bb];simp;exact⟨fun h=>h.symm,fun h=>h.symm⟩
  rw[e,Bb];simp
theorem V0{α:Type}{p:α->Bool}{l:List α}{i:Nat}(hi:i<l.length):(l.take (i+1)).filter p=(l.take i).filter p++(if p l[i]=true then[l[i]]else[]):=by
 rw[HS,dD hi,RD];congr 1;show[l[i]].filter p=_;rw[Mt];rfl
theorem JR(k:Nat):rng (k+1)=rng k++[(k:Int)]:=by unfold rng;rw[yu,cO];rfl
theorem Ja(n:Nat):jA n=(rng n).map V.int:=by unfold jA rng;rw[Ql];rfl
def yG(K:W.Frag):Sp:=fun vs H Q _=>∃(l m:Addr) (xs ys:List Int),vs=[.ref l,.ref m]/\SqL K H l (xs.map V.int)/\SqL K H m (ys.map V.int)/\∀r H',Same H H'->H' r=some (.lst ((xs.filter fun p=>decide (p∈ys)).map V.int))->H r=none->Q (.ref r) H'
theorem Gz{f:Addr}{fd:FuncData}(F:Fun K "in_both" "in_both" p7 f fd):
  FnOk P w K mg base CX0 1 f fd ["ones","others"] (yG K):=by
 refine F.cT ["ones","others"] fun cdv A outer s H vs Q E hr h=> ?_;obtain⟨l,m,xs,ys,rfl,hL,hM,q⟩:=h;refine⟨_,(aZ (bQ (pK ["place"] ["others"] [1] (pI (pv 0)) (pG 0) (cW (iD (eF K hr.units) (pv 0) (pv 1) (by with_unfolding_all rfl))) (pv 0)))),?_⟩;refine⟨_,rfl,l,_,rfl,hL,fun hz=> ?_⟩;let iB:Nat->List V->St->Hp->Prop:=fun k acc σ H'=>acc=((xs.take k).filter fun p=>decide (p∈ys)).map V.int/\Same H H'/\∃o,σ=[o,some (.ref m)];refine vK (xs:=xs.map V.int) iB ⟨rfl,Same.refl _,_,rfl⟩ (fun k acc σ H' _ p=>p.2.1.seq hL) (fun k acc σ H' hk p=> ?_) hz (fun k x acc σ H' hx p=> ?_) (fun acc σ H' p=> ?_)
 ·rw[p.1,aJ];exact cC (uX _ _) (by rw[xU];exact Ax _ _)
 ·obtain⟨rfl,sm,o,rfl⟩:=p;rw[dW]at hx;cases ex:xs[k]? with
  |none=>rw[ex]at hx;cases hx
  |some y=>
   rw[ex]at hx;cases hx;obtain⟨hk,ey⟩:=nH.mp ex;have e:=V0 (p:=fun p=>decide (p∈ys)) hk;rw[ey]at e;refine⟨_,rfl,_,rfl,m,_,_,.int y,rfl,.inl (sm.seq hM),cI.ints ys,.int _,yq ys,rfl,(by show 0<=60;decide),_,rfl,?_⟩;rw[any_ints];refine ite2 (fun c=> ?_) (fun c=> ?_)
   ·exact⟨_,rfl,by rw[e,aB c,cO];rfl,sm,_,rfl⟩
   ·exact⟨by rw[e,aA c,Ay],sm,_,rfl⟩
 ·intro p1 hp1;obtain⟨rfl,sm,_⟩:=p;rw[aJ,vL];exact q p1 _ (sm.trans (aG hp1 _)) aD (sm.free hp1)
def Ec(K:W.Frag):Sp:=fun vs H Q _=>∃(a:Addr) (n i:Int) (ts:L0) (w:Bool),vs=[.ref a,.int i,.bl w]/\cB K H a n ts/\∀r H',Same H H'->H' r=some (.lst ((oM ts w n.toNat i).map V.int))->H r=none->Q (.ref r) H'
theorem Ka{f f1:Addr}{fd d1:FuncData}(F:Fun K "places_by_tie" "places_by_tie" fu f fd)(D1:bO K mg "has_tie" p8 ["web","one","other"] f1 d1)(G1:FnOk P w K mg base CX0 1 f1 d1 ["web","one","other"] (QL K))(aH:mg "range"=none):
  FnOk P w K mg base CX0 2 f fd ["web","place","tied"] (Ec K):=by
 refine F.cT ["web","place","tied"] fun cdv A outer s H vs Q E hr h=> ?_;obtain⟨a,n,i,ts,w,rfl,hA,q⟩:=h;refine⟨_,(aZ (bQ (pK ["other"] ["place","web","tied"] [1,0,2] (Aw rfl aH (aj (bx fM (pv 0) aq) ak)) (pG 0) (cW (PW.pt (pw_and (iD op_ne (pv 0) (pv 1)) (pw_and1 (iD op_eq (pc G1 hr D1 (aj (pv 2) (aj (pv 1) (aj (pv 0) ak)))) (pv 3)))))) (pv 0)))),?_⟩;have h0:=hA.h0;have h10:=hA.h1;obtain⟨ta,ra,a1,a2,a3⟩:=id hA.web;refine⟨_,rfl,a,_,_,.int n,rfl,rfl,a1,rfl,n,rfl,by omega,by omega,?_⟩;let oV:Nat->List V->St->Hp->Prop:=fun k acc σ H'=>acc=((rng k).filter fun p=> !decide (p=i)&&(bN ts i p==w)).map V.int/\Same H H'/\∃o,σ=[o,some (.int i),some (.ref a),some (.bl w)];refine Qh (n:=n.toNat) oV ⟨rfl,Same.refl _,_,rfl⟩ (fun k acc σ H' hk p=> ?_) (by rw[eX];omega) (fun k acc σ H' hk p=> ?_) (fun acc σ H' p=> ?_)
 ·rw[p.1,aJ];exact cC (uX _ _) (by unfold rng;simp)
 ·obtain⟨rfl,sm,o,rfl⟩:=p;have ek:(0+(k:Int))=(k:Int):=by omega
  rw[ek];have e:∀b,b=(!decide ((k:Int)=i)&&(bN ts i (k:Int)==w))->((rng (k+1)).filter fun p=> !decide (p=i)&&(bN ts i p==w))=((rng k).filter fun p=> !decide (p=i)&&(bN ts i p==w))++(if b=true then[(k:Int)]else[]):=fun b hb=>by
   rw[JR,RD,Mt,hb];rfl
  refine⟨_,rfl,_,rfl,rfl,_,rfl,?_⟩;rw[O9];refine ite2 (fun c=> ?_) (fun c=> ?_)
  ·refine⟨_,rfl,_,rfl,_,rfl,a,n,_,_,ts,rfl,(hA.same sm).web,fun H5 s5=>⟨_,rfl,rfl,_,rfl,?_⟩⟩;rw[blV_eq,tied_eq hA.pk];refine ite2 (fun c2=> ?_) (fun c2=> ?_)
   ·exact⟨_,rfl,by rw[e true (by rw[c,c2];rfl),cO];rfl,sm.trans s5,_,rfl⟩
   ·exact⟨by rw[e false (by rw[c,Bool.eq_false_iff.mpr c2];rfl)];simp,sm.trans s5,_,rfl⟩
  ·exact⟨by rw[e false (by rw[Bool.eq_false_iff.mpr c];rfl)];simp,sm,_,rfl⟩
 ·intro p1 hp1;obtain⟨rfl,sm,_⟩:=p;exact q p1 _ (sm.trans (aG hp1 _)) aD (sm.free hp1)
def LQ(K:W.Frag)(H:Hp)(r:Addr)(ss:List (List Int)):Prop:=∃its:List (Addr×List Int),H r=some (.lst (its.map fun p=>V.ref p.1))/\(∀p∈its,SqT K H p.1 (p.2.map V.int))/\its.map (fun p=>p.2)=ss
def cH(ss:List (List Int))(ts:L0)(w:Bool)(n:Nat):Prop:=ss.Perm (jX ts w n)/\ss.Pairwise fun a b=>HT.lexLt b a=false
theorem Pz{ts:L0}{w:Bool}{n:Nat}(h2:2<=(jX ts w n).length):∀s∈jX ts w n,s≠[]:=by
 intro s hs e;subst e;have F:=Fi hs;cases n with
 |zero=>
  have:(jX ts w 0).length<=1:=by
   show(([[]]:List (List Int)).filter (oK ts w 0)).length<=1;exact uX _ _
  omega
 |succ n=>
  obtain⟨x,hx,_⟩:=F.max 0 (gP.mpr ⟨by omega,by omega⟩) (by simp);cases hx
structure YF(K:W.Frag)(H:Hp)(ts:L0)(w:Bool)(n:Nat)(q:Addr×Addr×Addr×List Int):Prop where
 pr:SqT K H q.1 [.ref q.2.1,.ref q.2.2.1]
 so:SqT K H q.2.1 (q.2.2.2.map V.int)
 le:H q.2.2.1=some (.lst ((jl ts w n q.2.2.2).map V.int))
theorem YF.same{H H':Hp}{ts:L0}{w:Bool}{n:Nat}{q:Addr×Addr×Addr×List Int}(h:YF K H ts w n q)(e:Same H H'):YF K H' ts w n q:=⟨e.tup h.pr,e.tup h.so,e _ _ h.le⟩
def Mf(K:W.Frag)(H:Hp)(fd:Addr)(ts:L0)(w:Bool)(n:Nat)(ss:List (List Int)):Prop:=∃its:List (Addr×Addr×Addr×List Int),H fd=some (.lst (its.map fun q=>V.ref q.1))/\(∀q∈its,YF K H ts w n q)/\its.map (fun q=>q.2.2.2)=ss
def su(K:W.Frag):Sp:=fun vs H Q _=>∃(fl:Addr) (fas:List Addr) (ts:L0) (w:Bool) (n:Nat),vs=[.ref fl]/\H fl=some (.lst (fas.map V.ref))/\fas.length=n/\n<=10/\(∀(i:Nat) f,fas[i]? =some f->H f=some (.lst ((oM ts w n (i:Int)).map V.int)))/\
 ∀r ss H',Same H H'->LQ K H' r ss->cH ss ts w n->H r=none->Q (.ref r) H'
theorem yX{f f1:Addr}{fd d1:FuncData}(F:Fun K "full_sets" "full_sets" jK f fd)(D1:bO K mg "in_both" p7 ["ones","others"] f1 d1)(G1:FnOk P w K mg base CX0 1 f1 d1 ["ones","others"] (yG K))(cM:mg "list"=none)(aH:mg "range"=none)(bf:mg "len"=none)(jV:mg "sorted"=none):
  FnOk P w K mg base CX0 2 f fd ["friends"] (su K):=by
 refine F.cT ["friends","found","place","wider"] fun cdv A outer s H vs Q E hr h=> ?_;obtain⟨fl,fas,ts,w,n,rfl,hF,hn,h10,hfr,q⟩:=h;refine bh ?_;intro Y;refine⟨_,(aP (pS 1 (qH (aj (fY (aj (fY ak) (aj (qK rfl rfl cM rfl aH (aj (pB rA bf (aj (pv 0) ak)) ak)) ak))) ak))) (aP (ux rD rfl (Aw rfl aH (aj (pB rA bf (aj (pv 0) ak)) ak)) (pG 2) (aP (pX 3 ["some","left"] ["place","friends"] [2,0] (pI (pv 1)) (eE K (n:=2) rfl (jq (pG 0) (jq (pG 1) xQ))) (cW (iD (eF K hr.units) (pv 2) (pv 1) (by with_unfolding_all rfl))) (fY (aj (aX (yU K) (pv 0) (fY (aj (pv 2) ak))) (aj (pc G1 hr D1 (aj (pv 1) (aj (bx (eU K) (pv 3) (pv 2)) ak))) ak)))) (aZ (pS 1 (aX rP (pv 1) (pv 3)))))) (aZ (bQ (pB xq jV (aj (pK ["some","left"] [] [] (pI (pv 1)) (eE K (n:=2) rfl (jq (pG 0) (jq (pG 1) xQ))) (cW (nA (Gp K (pv 1) (fun _=>rfl)))) (pv 0)) ak)))))),?_⟩;refine lR ?_;intro c3 c2;have el:((fas.map V.ref).length:Int)=(n:Int):=by rw[aJ,hn]
 refine⟨(by show 0<=sizeLine;decide),fun e1 Pj=> ?_⟩;have s1:=aG Pj (.tup []);have t1:SqT K (upd H e1 (.tup [])) e1 []:=SqT.of aD;generalize (upd H e1 (.tup []))=H1 at *;refine⟨_,rfl,fl,_,rfl,.inl (SqL.of (s1 _ _ hF)),fun _=>⟨_,rfl,by omega,by rw[el];omega,fun rl hrl=> ?_⟩⟩;have er:jA ((fas.map V.ref).length:Int).toNat=(rng n).map V.int:=by rw[el,xV,Ja]
 rw[er];have s2:=aG hrl (.lst ((rng n).map V.int));have t2:(upd H1 rl (.lst ((rng n).map V.int))) rl=some (.lst ((rng n).map V.int)):=aD;generalize (upd H1 rl (.lst ((rng n).map V.int)))=H2 at *;refine⟨(by show 2<=sizeLine;decide),fun e3 Ua=> ?_⟩;have s3:=aG Ua (.tup [.ref e1,.ref rl]);have t3:SqT K (upd H2 e3 (.tup [.ref e1,.ref rl])) e3 [.ref e1,.ref rl]:=SqT.of aD;generalize (upd H2 e3 (.tup [.ref e1,.ref rl]))=H3 at *;refine⟨(by show 1<=sizeLine;decide),fun fd hfd=> ?_⟩;have s4:=aG hfd (.lst [.ref e3]);have F4:Mf K (upd H3 fd (.lst [.ref e3])) fd ts w n (bB ts w 0):=by
  refine⟨[(e3,e1,rl,[])],aD,fun q hq=> ?_,rfl⟩;rw[ji.mp hq];exact⟨s4.tup t3,s4.tup (s3.tup (s2.tup t1)),by rw[KC];exact s4 _ _ (s3 _ _ t2)⟩
 have s04:=s1.trans (s2.trans (s3.trans s4));generalize (upd H3 fd (.lst [.ref e3]))=H4 at *;refine⟨_,rfl,fl,_,rfl,.inl (SqL.of (s04 _ _ hF)),fun _=>⟨_,rfl,by omega,by rw[el];omega,?_⟩⟩;have en:((fas.map V.ref).length:Int).toNat=n:=by rw[el,xV]
 rw[en];let iB:Nat->St->Hp->Prop:=fun k σ H'=>Same H H'/\∃fd b2 b3,Mf K H' fd ts w n (bB ts w k)/\σ=[some (.ref fl),some (.ref fd),b2,b3];refine Ij (n:=n) iB ⟨s04,fd,_,_,F4,rfl⟩ (fun k σ H' hk p=> ?_) (fun σ H' p=> ?_)
 ·obtain⟨s5,fd,b2,b3,F5,rfl⟩:=p;have ek:(0+(k:Int))=(k:Int):=by omega
  rw[ek];obtain⟨its,f1,f2,f3⟩:=F5;have hlen:its.length<=1024:=by
   have a:=nR (ts:=ts) (w:=w) k;rw[<-f3,aJ]at a;have b:2^k<=2^10:=wde (by decide) (by omega);have c:2^10=1024:=by decide
   omega
  have hkf:k<fas.length:=by omega
  have hfk:(fas.map V.ref)[k]? =some (.ref fas[k]):=by rw[dW,dD hkf];rfl
  have hgk:=hfr k fas[k] (dD hkf);refine⟨_,rfl,fd,_,rfl,SqL.of f1,fun hzf=> ?_⟩;let oV:Nat->List V->St->Hp->Prop:=fun i acc σ xZ=>(∃its2:List (Addr×Addr×Addr×List Int),acc=its2.map (fun q=>V.ref q.1)/\(∀q∈its2,YF K xZ ts w n q)/\its2.map (fun q=>q.2.2.2)=(((bB ts w k).take i).filter fun s=>goB ts w s (k:Int)).map fun s=>s++[(k:Int)])/\Same H' xZ/\∃o1 o2,σ=[o1,o2,some (.int (k:Int)),some (.ref fl)];refine vK (xs:=its.map fun q=>V.ref q.1) oV ⟨⟨[],rfl,fun q hq=>(nomatch hq),rfl⟩,Same.refl _,_,_,rfl⟩ (fun i acc σ xZ _ p=>p.2.1.seq (SqL.of f1)) (fun i acc σ xZ hi p=> ?_) hzf (fun i x acc σ xZ hx p=> ?_) (fun acc σ xZ p=> ?_)
  ·obtain⟨⟨its2,rfl,g2,g3⟩,_⟩:=p;have a:=lE List.length g3;rw[aJ,aJ]at a;rw[aJ,a];exact cC (uX _ _) (by rw[xU];exact Ax _ _)
  ·obtain⟨⟨its2,rfl,g2,g3⟩,sm,o1,o2,rfl⟩:=p;rw[dW]at hx;cases ex:its[i]? with
   |none=>rw[ex]at hx;cases hx
   |some v=>
    rw[ex]at hx;cases hx;have fv:=(f2 v (gZ ex)).same sm;have hsv:(bB ts w k)[i]? =some v.2.2.2:=by rw[<-f3,dW,ex];rfl
    obtain⟨hi,esv⟩:=nH.mp hsv;have Sv:=iu k v.2.2.2 (gZ hsv);have e:=V0 (p:=fun s=>goB ts w s (k:Int)) hi;rw[esv]at e;refine⟨v.1,_,rfl,fv.pr,rfl,_,_,rfl,_,_,rfl,rfl,?_⟩;refine⟨_,rfl,_,rfl,v.2.2.1,_,_,.int (k:Int),rfl,.inl (SqL.of fv.le),cI.ints _,.int _,yq _,rfl,(by show 0<=60;decide),_,rfl,?_⟩;rw[any_ints,Pb Sv hk];refine ite2 (fun c=> ?_) (fun c=> ?_)
    ·refine⟨_,rfl,_,rfl,(by show 1<=sizeLine;decide),fun e5 he5=> ?_⟩;have s6:=aG he5 (.tup [.int (k:Int)]);have t6:SqT K (upd xZ e5 (.tup [.int (k:Int)])) e5 [.int (k:Int)]:=SqT.of aD;generalize (upd xZ e5 (.tup [.int (k:Int)]))=H6 at *;have hvl:v.2.2.2.length<=10:=by
      have a:=kW (l:=v.2.2.2) (m:=rng n) (Sv.up.imp fun{x y} h=>by omega) (fun x hx=>gP.mpr (by have:=Sv.lt x hx;omega));have b:(rng n).length=n:=by unfold rng;simp
      omega
     refine⟨v.2.1,e5,_,_,rfl,rfl,s6.tup fv.so,t6,(by rw[aJ,eX];show v.2.2.2.length+1<=_;omega),fun r7 H7 s7 h7=> ?_⟩;have ZQ:=s6.trans s7;refine⟨_,rfl,_,rfl,_,rfl,fl,_,_,.ref fas[k],rfl,rfl,SqL.of ((s5.trans (sm.trans ZQ)) _ _ hF),yh hfk,v.2.2.1,fas[k],_,_,rfl,SqL.of (ZQ _ _ fv.le),SqL.of ((s5.trans (sm.trans ZQ)) _ _ hgk),fun r8 H8 s8 h8 n8=> ?_⟩;refine⟨(by show 2<=sizeLine;decide),fun e9 he9=> ?_⟩;have s9:=aG he9 (.tup [.ref r7,.ref r8]);have s69:=ZQ.trans (s8.trans s9);refine⟨⟨its2++[(e9,r7,r8,v.2.2.2++[(k:Int)])],by rw[cO];rfl,fun q hq=> ?_,by rw[cO,g3,e,aB c,cO];rfl⟩,sm.trans s69,_,_,rfl⟩;rcases jh.mp hq with z|z
     ·exact(g2 q z).same s69
     ·rw[ji.mp z];refine⟨SqT.of aD,s9.tup (s8.tup ?_),by rw[GR];exact s9 _ _ h8⟩;rw[cO];exact h7
    ·exact⟨⟨its2,rfl,g2,by rw[g3,e,aA c,Ay]⟩,sm,_,_,rfl⟩
  ·intro p1 hp1;obtain⟨⟨its2,rfl,g2,g3⟩,sm,o1,o2,rfl⟩:=p;have hle:(its.map fun q=>V.ref q.1).length=(bB ts w k).length:=by rw[aJ,<-f3,aJ]
   rw[hle,vL]at g3;have s6:=aG hp1 (.lst (its2.map fun q=>V.ref q.1));have l2:its2.length<=1024:=by
    have a:=lE List.length g3;rw[aJ,aJ]at a;have b:=uX (fun s=>goB ts w s (k:Int)) (bB ts w k);rw[<-f3,aJ]at b;rw[<-f3]at a;omega
   refine⟨_,rfl,_,rfl,fd,p1,_,_,rfl,rfl,(sm.trans s6) _ _ f1,aD,by rw[aJ,aJ,eX];omega,fun p2 hp2=> ?_⟩;have s7:=aG hp2 (.lst ((its.map fun q=>V.ref q.1)++(its2.map fun q=>V.ref q.1)));refine⟨s5.trans (sm.trans (s6.trans s7)),p2,_,_,⟨its++its2,by rw[aD,cO],fun q hq=> ?_,by rw[cO,f3,g3];rfl⟩,rfl⟩;rcases jh.mp hq with z|z
   ·exact(f2 q z).same (sm.trans (s6.trans s7))
   ·exact(g2 q z).same (s6.trans s7)
 ·obtain⟨s5,fd,b2,b3,⟨its,f1,f2,f3⟩,rfl⟩:=p;refine⟨_,rfl,fd,_,rfl,SqL.of f1,fun hzf=> ?_⟩;let ud:Nat->List V->St->Hp->Prop:=fun i acc σ xZ=>(∃its2:List (Addr×List Int),acc=its2.map (fun q=>V.ref q.1)/\(∀q∈its2,SqT K H' q.1 (q.2.map V.int))/\its2.map (fun q=>q.2)=((bB ts w n).take i).filter (oK ts w n))/\Same H' xZ/\∃o1 o2,σ=[o1,o2];refine vK (xs:=its.map fun q=>V.ref q.1) ud ⟨⟨[],rfl,fun q hq=>(nomatch hq),rfl⟩,Same.refl _,_,_,rfl⟩ (fun i acc σ xZ _ p=>p.2.1.seq (SqL.of f1)) (fun i acc σ xZ hi p=> ?_) hzf (fun i x acc σ xZ hx p=> ?_) (fun acc σ xZ p=> ?_)
  ·obtain⟨⟨its2,rfl,g2,g3⟩,_⟩:=p;have a:=lE List.length g3;rw[aJ]at a;rw[aJ,a];exact cC (uX _ _) (by rw[xU];exact Ax _ _)
  ·obtain⟨⟨its2,rfl,g2,g3⟩,sm,o1,o2,rfl⟩:=p;rw[dW]at hx;cases ex:its[i]? with
   |none=>rw[ex]at hx;cases hx
   |some v=>
    rw[ex]at hx;cases hx;have fv:=f2 v (gZ ex);have hsv:(bB ts w n)[i]? =some v.2.2.2:=by rw[<-f3,dW,ex];rfl
    obtain⟨hi,esv⟩:=nH.mp hsv;have e:=V0 (p:=oK ts w n) hi;rw[esv]at e;refine⟨v.1,_,rfl,sm.tup fv.pr,rfl,_,_,rfl,_,_,rfl,rfl,?_⟩;refine⟨_,rfl,_,.inl ⟨_,SqL.of (sm _ _ fv.le),rfl⟩,?_⟩;have eb:(!!((jl ts w n v.2.2.2).map V.int).isEmpty)=oK ts w n v.2.2.2:=by
     rw[Bool.not_not,<-GX];cases jl ts w n v.2.2.2<;>rfl
    dsimp only;rw[eb];refine ite2 (fun c=> ?_) (fun c=> ?_)
    ·refine⟨_,rfl,⟨its2++[(v.2.1,v.2.2.2)],by rw[cO];rfl,fun q hq=> ?_,by rw[cO,g3,e,aB c];rfl⟩,sm,_,_,rfl⟩;rcases jh.mp hq with z|z
     ·exact g2 q z
     ·rw[ji.mp z];exact fv.so
    ·exact⟨⟨its2,rfl,g2,by rw[g3,e,aA c,Ay]⟩,sm,_,_,rfl⟩
  ·intro p1 hp1;obtain⟨⟨its2,rfl,g2,g3⟩,sm,_⟩:=p;have hle:(its.map fun q=>V.ref q.1).length=(bB ts w n).length:=by rw[aJ,<-f3,aJ]
   rw[hle,vL]at g3;have g4:its2.map (fun q=>q.2)=jX ts w n:=g3;have hl2:its2.length=(jX ts w n).length:=by rw[<-g4,aJ]
   have Z6:=vA (ts:=ts) (w:=w) h10;have s6:=aG hp1 (.lst (its2.map fun q=>V.ref q.1));refine⟨p1,its2,rfl,SqL.of aD,fun p hp=>⟨(sm.trans s6).tup (g2 p hp),fun h2=> ?_⟩,by omega,fun l its' hl hpm hpw=> ?_⟩
   ·exact Pz (ts:=ts) (w:=w) (n:=n) (by omega) p.2 (by rw[<-g4];exact lX.mpr ⟨p,hp,rfl⟩)
   ·have s7:=aG hl (.lst (its'.map fun q=>V.ref q.1));have ZR:=s5.trans (sm.trans (s6.trans s7));refine q l (its'.map fun q=>q.2) _ ZR ⟨its',aD,fun p hp=>(sm.trans (s6.trans s7)).tup (g2 p (hpm.mem_iff.mp hp)),rfl⟩ ⟨?_,?_⟩ ((s5.trans (sm.trans s6)).free hl)
    ·rw[<-g4];exact hpm.map _
    ·rw[weq];exact hpw
def jB(K:W.Frag):Sp:=fun vs H Q _=>∃(a:Addr) (n:Int) (ts:L0),vs=[.ref a]/\cB K H a n ts/\∀r ss H',Same H H'->LQ K H' r ss->cH ss ts false n.toNat->H r=none->Q (.ref r) H'
theorem wk{f f1 f2 f3:Addr}{fd d1 d2 d3:FuncData}(F:Fun K "full_apart" "full_apart" fV f fd)(D1:bO K mg "need_web" dJ ["thing"] f1 d1)(G1:FnOk P w K mg base CX0 7 f1 d1 ["thing"] (iH K))(D2:bO K mg "full_sets" jK ["friends"] f2 d2)(G2:FnOk P w K mg base CX0 2 f2 d2 ["friends"] (su K))(D3:bO K mg "places_by_tie" fu ["web","place","tied"] f3 d3)(G3:FnOk P w K mg base CX0 2 f3 d3 ["web","place","tied"] (Ec K))(aH:mg "range"=none):
  FnOk P w K mg base CX0 8 f fd ["web"] (jB K):=by
 refine F.cT ["web"] fun cdv A outer s H vs Q E hr h=> ?_;obtain⟨a,n,ts,rfl,hA,q⟩:=h;refine bh ?_;intro Y;refine⟨_,(aP (yj (pc G1 hr D1 (aj (pv 0) ak))) (aZ (bQ (pc G2 hr D2 (aj (pK ["place"] ["web"] [0] (Aw rfl aH (aj (bx fM (pv 0) aq) ak)) (pG 0) lM (pc G3 hr D3 (aj (pv 1) (aj (pv 0) (aj lB ak))))) ak))))),?_⟩;refine dH ?_;intro c2;have h0:=hA.h0;have h10:=hA.h1;refine⟨_,rfl,_,_,rfl,hA.web.dv.dx,hA.ok,fun H1 s1=> ?_⟩;have hA1:=hA.same s1;obtain⟨ta,ra,a1,a2,a3⟩:=id hA1.web;refine⟨_,rfl,a,_,_,.int n,rfl,rfl,a1,rfl,n,rfl,by omega,by omega,?_⟩;let iB:Nat->List V->St->Hp->Prop:=fun k acc σ H'=>(∃fas:List Addr,acc=fas.map V.ref/\fas.length=k/\∀(i:Nat) f,fas[i]? =some f->H' f=some (.lst ((oM ts false n.toNat (i:Int)).map V.int)))/\Same H1 H'/\∃o,σ=[o,some (.ref a)];refine Qh (n:=n.toNat) iB ⟨⟨[],rfl,rfl,fun i f h=>by simp at h⟩,Same.refl _,_,rfl⟩ (fun k acc σ H' hk p=> ?_) (by rw[eX];omega) (fun k acc σ H' hk p=> ?_) (fun acc σ H' p=> ?_)
 ·obtain⟨⟨fas,rfl,hl,_⟩,_⟩:=p;rw[aJ];omega
 ·obtain⟨⟨fas,rfl,hl,hf⟩,sm,o,rfl⟩:=p;have ek:(0+(k:Int))=(k:Int):=by omega
  rw[ek];refine⟨_,rfl,_,rfl,a,n,_,ts,false,rfl,hA1.same sm,fun r H5 s5 h5 n5=>⟨⟨fas++[r],by rw[cO];rfl,by rw[gD,hl];rfl,fun i f hi=> ?_⟩,sm.trans s5,_,rfl⟩⟩;by_cases c:i<fas.length
  ·rw[yej c]at hi;exact s5 _ _ (hf i f hi)
  ·have hb:i<(fas++[r]).length:=(nH.mp hi).1;rw[gD]at hb;have e:i=fas.length:=by have:[r].length=1:=rfl;omega
   rw[e,Y7 (aN _),Nat.sub_self]at hi;cases hi;rw[e,hl];exact h5
 ·intro p1 hp1;obtain⟨⟨fas,rfl,hl,hf⟩,sm,_⟩:=p;have s6:=aG hp1 (.lst (fas.map V.ref));exact⟨p1,fas,ts,false,n.toNat,rfl,aD,hl,by omega,fun i f hi=>s6 _ _ (hf i f hi),fun r ss H7 s7 h7 h8 n7=>q r ss H7 (s1.trans (sm.trans (s6.trans s7))) h7 h8 ((s1.trans (sm.trans s6)).free n7)⟩
end
end Hs
namespace L2
open PySem PySem.Spec PyProof.Rows
theorem U0{n:Nat}(h:n<=10^200):n<2^700:=HW h (by decide+kernel)
section
variable{X:Cx}
theorem ou:OpR X (binaryOp .FloorDiv) (rI (fun _ j=>0<j/\j.natAbs<=10^200) fun i j=> .int (i/j)):=opI fun i j _ _ _ _ _ hc q=>by
 have h1:(0:Int)<j:=hc.1;refine floordiv_int (by omega) ?_ (Or.inl (wen ?_))
 ·rw[yee _ (by omega)];exact q
 ·have h3:j.natAbs≠0:=by omega
  have h4:=(Nat.log2_lt h3).mpr (U0 hc.2);omega
end
end L2
namespace Hs
open PySem L2 Aq
theorem zE(m n:Nat):Nat.gcd n (m %n)=Nat.gcd m n:=by
 rw[Nat.gcd_comm m n,Nat.gcd_rec n m,Nat.gcd_comm]
structure Low(a:Int)(b:Nat)(u:Int)(v:Nat):Prop where
 pos:0<v
 cop:Nat.gcd u.natAbs v=1
 eq:u*(b:Int)=a*(v:Int)
 lu:u.natAbs<=a.natAbs
 lv:v<=b
 nn:0<=a->0<=u
theorem Ce(a:Int)(b:Nat)(hb:0<b):Low a b (a/((Nat.gcd a.natAbs b:Nat):Int)) (b/Nat.gcd a.natAbs b):=by
 have hg:0<Nat.gcd a.natAbs b:=wch _ hb;obtain⟨x,hx⟩:((Nat.gcd a.natAbs b:Nat):Int)∣a:=Int.natAbs_dvd_natAbs.mp (by rw[Wa];exact Nat.gcd_dvd_left _ _);obtain⟨y,hy⟩:=V8 a.natAbs b;generalize hgg:Nat.gcd a.natAbs b=g at *;have e1:a/(g:Int)=x:=by rw[hx];exact wep _ (by omega)
 have e2:b/g=y:=by rw[hy];exact Io _ hg
 rw[e1,e2];have hna:a.natAbs=g*x.natAbs:=by rw[hx,V6];rfl
 have hy0:0<y:=by
  rcases RB y with h|h
  ·subst h;simp at hy;omega
  ·exact h
 refine⟨hy0,?_,?_,?_,?_,fun h=> ?_⟩
 ·have h2:Nat.gcd (g*x.natAbs) (g*y)=g:=by rw[<-hna,<-hy];exact hgg
  rw[Nat.gcd_mul_left]at h2;have h3:g*Nat.gcd x.natAbs y=g*1:=by omega
  exact Nat.eq_of_mul_eq_mul_left hg h3
 ·rw[hx];have:(b:Int)=(g:Int)*(y:Int):=by rw[hy];exact V7 _ _
  rw[this,M8 (g:Int) x,Qm]
 ·rw[hna];exact wfj _ hg
 ·rw[hy];exact wfj _ hg
 ·rw[<-e1];exact Int.ediv_nonneg h (by omega)
theorem abs_eq(i:Int):(if i<0 then -i else i)=((i.natAbs:Nat):Int):=by split<;>omega
theorem K5(a:Int)(b:Nat)(hb:0<b):Nat.gcd a.natAbs b<=b:=Zi hb (V8 _ _)
section
variable{P:Program}{w:World}{K:W.Frag}{mg:L4}{base:Heap}
def RX(K:W.Frag):Sp:=fun vs H Q _=>∃(m n:Nat),vs=[.int m,.int n]/\Q (.int ((Nat.gcd m n:Nat):Int)) H
theorem WR{f:Addr}{fd:FuncData}(F:Fun K "greatest_divisor" "greatest_divisor" YK f fd):FnOk P w K mg base CX0 1 f fd ["one","other"] (RX K):=by
 refine F.cT ["one","other","rest"] fun cdv A outer s H vs Q E hr h=> ?_;obtain⟨m,n,rfl,q⟩:=h;refine bh ?_;intro Y;refine⟨_,aP (ps_while rD (pt_truth (pv 1) (fun _=>rfl)) (aP (pS 2 (aX op_mod (pv 0) (pv 1))) (aP (pS 0 (pv 1)) (aZ (pS 1 (pv 2)))))) (aZ (bQ (pv 0))),?_⟩;refine dH ?_;intro c2;refine⟨fun k σ H'=>H'=H/\∃(m':Nat) (r:Option V),σ=[some (.int (m':Int)),some (.int (k:Int)),r]/\Nat.gcd m' k=Nat.gcd m n,⟨n,rfl,m,_,rfl,rfl⟩,?_⟩;rintro k σ H' ⟨rfl,m',r,rfl,hg⟩;refine⟨_,rfl,_,rfl,?_⟩;refine ite2 (fun c=> ?_) (fun c=> ?_)
 ·have hk:0<k:=by
   rcases RB k with h|h
   ·subst h;exact absurd c (by decide)
   ·exact h
  refine⟨fun σ' H2=>H2=H'/\∃r',σ'=[some (.int (k:Int)),some (.int ((m' %k:Nat):Int)),r'],fun σ' H2 ⟨e1,r',e2⟩=>⟨m' %k,Za _ hk,e1,k,r',e2,?_⟩,?_⟩
  ·rw[zE];exact hg
  ·exact⟨_,rfl,_,rfl,_,_,rfl,rfl,M7.mpr hk,_,rfl,_,rfl,rfl,_,rfl⟩
 ·have hk:k=0:=by
   rcases RB k with h|h
   ·exact h
   ·exfalso;apply c;show((k:Int) !=0)=true;simp;omega
  subst hk;rw[Nat.gcd_zero_right]at hg;refine⟨_,rfl,?_⟩;rw[hg];exact q
def DY(K:W.Frag):Sp:=fun vs H Q _=>∃(a:Int) (b:Nat),vs=[.int a,.int b]/\0<b/\b<=10^200/\∀p H' u v,Same H H'->H' p=some (.tup [.int u,.int ((v:Nat):Int)])->Low a b u v->Q (.ref p) H'
theorem EY{H:Hp}{a:Int}{b:Nat}{p:Addr}(hp:H p=none):(upd H p (.tup [.int (a/((Nat.gcd a.natAbs b:Nat):Int)),.int ((b:Int)/((Nat.gcd a.natAbs b:Nat):Int))])) p=some (.tup [.int (a/((Nat.gcd a.natAbs b:Nat):Int)),.int (((b/Nat.gcd a.natAbs b:Nat)):Int)]):=by
 rw[aD,wfe]
theorem Tg{f f1:Addr}{fd d1:FuncData}(F:Fun K "lowest" "lowest" jE f fd)(D1:bO K mg "greatest_divisor" YK ["one","other"] f1 d1)(G1:FnOk P w K mg base CX0 1 f1 d1 ["one","other"] (RX K))(mA:mg "abs"=none):
  FnOk P w K mg base CX0 2 f fd ["a","b"] (DY K):=by
 refine F.cT ["a","b","by"] fun cdv A outer s H vs Q E hr h=> ?_;obtain⟨a,b,rfl,hb,hB,q⟩:=h;refine bh ?_;intro Y;refine⟨_,aP (pS 2 (pc G1 hr D1 (aj (pB call_abs mA (aj (pv 0) ak)) (aj (pv 1) ak)))) (aZ (bQ (fY (aj (aX ou (pv 0) (pv 2)) (aj (aX ou (pv 1) (pv 2)) ak))))),?_⟩;refine dH ?_;intro c2;refine⟨_,rfl,a,rfl,_,rfl,a.natAbs,b,?_,?_⟩
 ·rw[abs_eq];rfl
 have hg:0<Nat.gcd a.natAbs b:=wch _ hb;have hg2:(((Nat.gcd a.natAbs b:Nat):Int)).natAbs<=10^200:=cC (K5 a b hb) hB;refine⟨_,rfl,_,rfl,_,_,rfl,rfl,⟨M7.mpr hg,hg2⟩,_,rfl,_,rfl,_,_,rfl,rfl,⟨M7.mpr hg,hg2⟩,(by show 2<=sizeLine;decide),fun p hp=> ?_⟩;exact q p _ _ _ (aG hp _) (EY hp) (Ce a b hb)
def aW(n:Nat)(X:Nat->Int):List V:=((List.range (n+1)).map X).map V.int
def bR(n:Nat)(c:Nat->Nat):List Int:=(List.range n).map fun k=>((c k:Nat):Int)
def flds(cl co ro:Addr)(o:Int):List (Str×V):=[("cells",.ref cl),("over",.int o),("columns",.ref co),("rows",.ref ro)]
structure cu(K:W.Frag)(C:Addr)(H0 H:Hp)(o dx cl co ro:Addr)(rws:List Addr)(n m:Nat)(T:Sx.Tab):Prop where
 same:Same H0 H
 o0:H0 o=none
 UL:H0 cl=none
 Rm:H0 co=none
 QW:H0 ro=none
 ne:co≠ro
 nc:co∉rws
 nr:ro∉rws
 at_:H o=some (.ins C dx (flds cl co ro T.over))
 cells:H cl=some (.lst (rws.map V.ref))
 len:rws.length=m+1
 row:∀r a,rws[r]? =some a->H a=some (.lst (aW n (T.cell r)))
 cols:H co=some (.lst ((bR n T.col).map V.int))
 rows:H ro=some (.lst ((bR m T.row).map V.int))
def j6(K:W.Frag)(C:Addr)(H0 H:Hp)(o:Addr)(n m:Nat)(T:Sx.Tab):Prop:=∃dx cl co ro rws,cu K C H0 H o dx cl co ro rws n m T
theorem cu.sm{C:Addr}{H0 H H':Hp}{o dx cl co ro:Addr}{rws:List Addr}{n m:Nat}{T:Sx.Tab}(h:cu K C H0 H o dx cl co ro rws n m T)(s:Same H H'):cu K C H0 H' o dx cl co ro rws n m T:=
 ⟨h.same.trans s,h.o0,h.UL,h.Rm,h.QW,h.ne,h.nc,h.nr,s _ _ h.at_,s _ _ h.cells,h.len,fun r a e=>s _ _ (h.row r a e),s _ _ h.cols,s _ _ h.rows⟩
theorem j6.sm{C:Addr}{H0 H H':Hp}{o:Addr}{n m:Nat}{T:Sx.Tab}(h:j6 K C H0 H o n m T)(s:Same H H'):j6 K C H0 H' o n m T:=by
 obtain⟨dx,cl,co,ro,rws,h⟩:=h;exact⟨dx,cl,co,ro,rws,h.sm s⟩
structure TG(n m:Nat)(S:Nat->Nat->Bool)(wt:Nat->Int)(T:Sx.Tab):Prop where
 good:Sx.Good n m S wt T
 n10:n<=10
 Xc:m<=40
 wb:∀p,p<n->0<=wt p/\wt p<=99
 cov:∀p,p<n->∃k,k<m/\S k p=true
theorem TG.cell{n m:Nat}{S:Nat->Nat->Bool}{wt:Nat->Int}{T:Sx.Tab}(h:TG n m S wt T){r c:Nat}(hr:r<=m)(hc:c<=n): -4000000000<=T.cell r c/\T.cell r c<=4000000000:=by
 have a:=h.good.Ls h.wb hr hc;have b:=Sx.Li (k:=n+1) (by have:=h.n10;omega);omega
theorem TG.over{n m:Nat}{S:Nat->Nat->Bool}{wt:Nat->Int}{T:Sx.Tab}(h:TG n m S wt T):0<T.over/\T.over<=39916800:=by
 have a:=h.good.N6;have b:=Sx.Li (k:=n+1) (by have:=h.n10;omega);exact⟨h.good.pos,by omega⟩
theorem FQ(n:Nat)(X:Nat->Int):(aW n X).length=n+1:=by unfold aW;rw[aJ,aJ,rC]
theorem nY{n c:Nat}(X:Nat->Int)(h:c<=n):(aW n X)[c]? =some (.int (X c)):=by
 unfold aW;rw[dW,dW,Wc (by omega)];rfl
theorem dY{n c:Nat}(X:Nat->Int)(h:c<=n):atI (aW n X) (c:Int)=some (.int (X c)):=yh (nY X h)
theorem atI_last{xs:List V}{v:V}(h:xs[xs.length-1]? =some v)(h0:0<xs.length):atI xs (-1)=some v:=by
 have e:ixN xs.length (-1)=some (xs.length-1):=by
  unfold ixN;rw[aA (by decide),aB (by omega)];congr 1;omega
 unfold atI;rw[e];exact h
theorem qd(n:Nat)(X:Nat->Int):atI (aW n X) (-1)=some (.int (X n)):=atI_last (by rw[FQ];exact nY X (aN n)) (by rw[FQ];omega)
theorem FW(n:Nat)(c:Nat->Nat):(bR n c).length=n:=by unfold bR;rw[aJ,rC]
theorem Du{n k:Nat}(c:Nat->Nat)(h:k<n):(bR n c)[k]? =some ((c k:Nat):Int):=by
 unfold bR;rw[dW,Wc h];rfl
theorem oE{n k:Nat}(c:Nat->Nat)(h:k<n):atI ((bR n c).map V.int) (k:Int)=some (.int ((c k:Nat):Int)):=yh (by rw[dW,Du c h];rfl)
theorem vp{n k:Nat}(c:Nat->Nat)(v:Nat)(h:k<n):(bR n c).set k (v:Int)=bR n (fun i=>if i=k then v else c i):=by
 refine V9 fun i=> ?_;rw[wer];by_cases hi:i<n
 ·rw[Du _ hi,Du _ hi,FW];by_cases e:k=i
  ·rw[aB e,aB h,aB e.symm]
  ·rw[aA e,aA (lO e)]
 ·rw[Nj (by rw[FW];omega),Nj (by rw[FW];omega),aA (by omega)]
theorem cu.Gi{C:Addr}{H0 H:Hp}{o dx cl co ro:Addr}{rws:List Addr}{n m:Nat}{T:Sx.Tab}(h:cu K C H0 H o dx cl co ro rws n m T){r:Nat}(hr:r<=m):∃a,rws[r]? =some a/\atI (rws.map V.ref) (r:Int)=some (.ref a)/\H a=some (.lst (aW n (T.cell r))):=by
 have hl:=h.len;have e:rws[r]? =some rws[r]:=dD (by omega);exact⟨rws[r],e,yh (by rw[dW,e];rfl),h.row r _ e⟩
theorem cu.WD{C:Addr}{H0 H:Hp}{o dx cl co ro:Addr}{rws:List Addr}{n m:Nat}{T:Sx.Tab}(h:cu K C H0 H o dx cl co ro rws n m T):∃a,rws[m]? =some a/\atI (rws.map V.ref) (-1)=some (.ref a)/\H a=some (.lst (aW n (T.cell m))):=by
 obtain⟨a,e,_,f⟩:=h.Gi (aN m);exact⟨a,e,atI_last (by rw[aJ,h.len,dW,wec,e];rfl) (by rw[aJ,h.len];omega),f⟩
def Jj(K:W.Frag)(C:Addr):Sp:=fun vs H Q _=>∃(o:Addr) (H0:Hp) (n m:Nat) (S:Nat->Nat->Bool) (wt:Nat->Int) (T:Sx.Tab),vs=[.ref o]/\j6 K C H0 H o n m T/\TG n m S wt T/\
 ((∀c,c<n->0<=T.cell m c)->∀H',Same H H'->Q .non H')/\∀(q:Nat) H',q<n->T.cell m q<0->(∀c,c<n->T.cell m c<0->T.col q<=T.col c)->Same H H'->Q (.int (q:Int)) H'
theorem Td{f C:Addr}{fd:FuncData}(F:Fun K "next_column" "Tableau.next_column" zbw f fd)
  (Cc:Cls K C)(aY:NoAttr K C "cells")(cP:NoAttr K C "over")(aV:NoAttr K C "columns")(cg:NoAttr K C "rows")(bJ:mg "enumerate"=none)(Kq:mg "min"=none):
  FnOk P w K mg base CX0 1 f fd ["self"] (Jj K C):=by
 refine F.cT ["self","worth","names"] fun cdv A outer s H vs Q E hr h=> ?_;obtain⟨o,H0,n,m,S,wt,T,rfl,⟨dx,cl,co,ro,rws,hT⟩,hG,q1,q2⟩:=h;refine bh ?_;intro Y;refine⟨_,(aP (pS 1 (bx lK (pL (pv 0) rfl) (pe_un yg aq))) (aP (pX 2 ["k","name"] ["worth"] [1] (oh rfl bJ (aj (pL (pv 0) rfl) ak)) (eE K (n:=2) rfl (jq (pG 0) (jq (pG 1) xQ))) (cW (iD op_lt (bx (eU K) (pv 2) (pv 0)) aq)) (pv 1)) (aZ (bQ (pe_ifExp (pt_truth (pv 2) (fun _=>rfl)) (pe_bm Iz wcp wcq qg (pL (pv 0) rfl) (aj (pB (Hr rfl) Kq (aj (pv 2) ak)) ak)) pe_non))))),?_⟩;refine lR ?_;intro c3 c2;obtain⟨za,ze,zi,zr⟩:=hT.WD;refine⟨_,rfl,o,C,dx,_,_,rfl,hT.at_,Cc,aY,rfl,_,rfl,cl,_,_,_,rfl,rfl,SqL.of hT.cells,zi,?_⟩;refine⟨_,rfl,o,C,dx,_,_,rfl,hT.at_,Cc,aV,rfl,false,co,_,rfl,SqL.of hT.cols,fun hz=> ?_⟩;let iB:Nat->List V->St->Hp->Prop:=fun i acc σ H'=>acc=(((List.range i).filter fun c=>decide (T.cell m c<0)).map fun c=>((T.col c:Nat):Int)).map V.int/\Same H H'/\∃o1 o2,σ=[o1,o2,some (.ref za)];refine lg (K:=K) (b:=false) (a:=co) (xs:=(bR n T.col).map V.int) iB ⟨rfl,Same.refl _,_,_,rfl⟩ (fun i acc σ H' _ p=>p.2.1.seq (SqL.of hT.cols)) (fun i acc σ H' _ p=> ?_) hz (fun i v t acc σ H' hv p ht=> ?_) (fun acc σ H' p=> ?_)
 ·rw[p.1,aJ,aJ];exact cC (uX _ _) (by rw[rC];exact aN _)
 ·obtain⟨rfl,sm,o1,o2,rfl⟩:=p;have hi:i<n:=by
   have:=(nH.mp hv).1;rw[aJ,FW]at this;exact this
  rw[dW,Du _ hi]at hv;cases hv;have s1:=aG ht (.tup [.int (i:Int),.int ((T.col i:Nat):Int)]);refine⟨t,_,rfl,SqT.of aD,rfl,_,_,rfl,_,_,rfl,rfl,?_⟩;refine⟨_,rfl,_,rfl,za,_,_,_,rfl,rfl,SqL.of ((sm.trans s1) _ _ zr),dY _ (cR hi),_,_,rfl,rfl,_,rfl,?_⟩;have go:((List.range (i+1)).filter fun c=>decide (T.cell m c<0))=((List.range i).filter fun c=>decide (T.cell m c<0))++(if decide (T.cell m i<0)=true then[i]else[]):=by
   rw[yu,RD];congr 1;rw[Mt];split<;>rfl
  refine ite2 (fun c=> ?_) (fun c=> ?_)
  ·exact⟨_,rfl,by rw[go,aB c,cO,cO];rfl,sm.trans s1,_,_,rfl⟩
  ·exact⟨by rw[go,aA c,Ay],sm.trans s1,_,_,rfl⟩
 ·intro p1 hp1;obtain⟨rfl,sm,_⟩:=p;rw[aJ,FW];have s1:=aG hp1 (.lst ((((List.range n).filter fun c=>decide (T.cell m c<0)).map fun c=>((T.col c:Nat):Int)).map V.int));have e1:(upd H' p1 (.lst ((((List.range n).filter fun c=>decide (T.cell m c<0)).map fun c=>((T.col c:Nat):Int)).map V.int))) p1=some (.lst ((((List.range n).filter fun c=>decide (T.cell m c<0)).map fun c=>((T.col c:Nat):Int)).map V.int)):=aD;have s2:=sm.trans s1;generalize (upd H' p1 (.lst ((((List.range n).filter fun c=>decide (T.cell m c<0)).map fun c=>((T.col c:Nat):Int)).map V.int)))=H1 at *;have hT1:=hT.sm s2;refine⟨_,rfl,_,.inl ⟨_,SqL.of e1,rfl⟩,?_⟩;cases hl:(List.range n).filter fun c=>decide (T.cell m c<0)with
  |nil=>
   refine iteF ?_;refine q1 (fun c hc=>Int.not_lt.mp fun hn=> ?_) _ s2;have:c∈(List.range n).filter fun c=>decide (T.cell m c<0):=lN.mpr ⟨pO.mpr hc,eY hn⟩;rw[hl]at this;cases this
  |cons c0 rest=>
   rw[hl]at e1;refine iteT ?_;refine⟨_,rfl,o,C,dx,_,_,rfl,hT1.at_,Cc,aV,rfl,.inl ⟨rfl,_,SqL.of hT1.cols⟩,_,rfl,p1,_,rfl,SqL.of e1,(fun e=>nomatch e),fun mn hmn hle=> ?_⟩;rw[<-hl]at hmn hle;obtain⟨c,hc,rfl⟩:=lX.mp hmn;obtain⟨hc1,hc2⟩:=lN.mp hc;have hcn:=pO.mp hc1;refine⟨co,bR n T.col,_,c,rfl,rfl,hT1.cols,Du _ hcn,fun i hi e=> ?_,by rw[FW];have:=hG.n10;omega,?_⟩
   ·rw[Du _ (by omega)]at e;have:T.col i=T.col c:=Wm (rE e);have:=hG.good.CP i c (by omega) hcn this;omega
   ·refine q2 c _ hcn (nM hc2) (fun c' hc' hn=> ?_) s2;have:=hle _ (lX.mpr ⟨c',lN.mpr ⟨pO.mpr hc',eY hn⟩,rfl⟩);omega
def Vq(n q:Nat)(T:Sx.Tab)(r t:Nat):Bool:=decide (T.cell r n*T.cell t q<T.cell t n*T.cell r q)||(decide (T.cell r n*T.cell t q=T.cell t n*T.cell r q)&&decide (T.row r<T.row t))
def QG(K:W.Frag)(C:Addr):Sp:=fun vs H Q _=>∃(o:Addr) (H0:Hp) (n m q r t:Nat) (S:Nat->Nat->Bool) (wt:Nat->Int) (T:Sx.Tab),vs=[.ref o,.int (q:Int),.int (r:Int),.int (t:Int)]/\j6 K C H0 H o n m T/\TG n m S wt T/\q<n/\r<m/\t<m/\Q (.bl (Vq n q T r t)) H
theorem SQ{f C:Addr}{fd:FuncData}(F:Fun K "is_tighter" "Tableau.is_tighter" zcg f fd)
  (Cc:Cls K C)(aY:NoAttr K C "cells")(cP:NoAttr K C "over")(aV:NoAttr K C "columns")(cg:NoAttr K C "rows"):
  FnOk P w K mg base CX0 1 f fd ["self","column","row","other"] (QG K C):=by
 refine F.cT ["self","column","row","other","one","two"] fun cdv A outer s H vs Q E hr h=> ?_;obtain⟨o,H0,n,m,q,r,t,S,wt,T,rfl,⟨dx,cl,co,ro,rws,hT⟩,hG,hq,hr0,ht,qq⟩:=h;refine bh ?_;intro Y;refine⟨_,(aP (pS 4 (aX m9 (bx lK (bx lK (pL (pv 0) rfl) (pv 2)) (pe_un yg aq)) (bx lK (bx lK (pL (pv 0) rfl) (pv 3)) (pv 1)))) (aP (pS 5 (aX m9 (bx lK (bx lK (pL (pv 0) rfl) (pv 3)) (pe_un yg aq)) (bx lK (bx lK (pL (pv 0) rfl) (pv 2)) (pv 1)))) (aZ (bQ (pe_or (Ds op_lt (pv 4) (pv 5)) (yd (xO (Ds op_eq (pv 4) (pv 5)) (yd (Ds op_lt (bx lK (pL (pv 0) rfl) (pv 2)) (bx lK (pL (pv 0) rfl) (pv 3))))))))))),?_⟩;refine lR ?_;intro c3 c2;obtain⟨ra,re,ri,rr⟩:=hT.Gi (cR hr0);obtain⟨ta,te,ti,tr⟩:=hT.Gi (cR ht);have b1:=hG.cell (cR hr0) (aN n);have b2:=hG.cell (cR ht) (aN n);refine⟨_,rfl,o,C,dx,_,_,rfl,hT.at_,Cc,aY,rfl,_,rfl,cl,_,_,_,rfl,rfl,SqL.of hT.cells,ri,_,rfl,ra,_,_,_,rfl,rfl,SqL.of rr,qd _ _,?_⟩;refine⟨_,rfl,o,C,dx,_,_,rfl,hT.at_,Cc,aY,rfl,_,rfl,cl,_,_,_,rfl,rfl,SqL.of hT.cells,ti,_,rfl,ta,_,_,_,rfl,rfl,SqL.of tr,dY _ (cR hq),_,_,rfl,rfl,.inl ⟨by omega,by omega⟩,?_⟩;refine⟨_,rfl,o,C,dx,_,_,rfl,hT.at_,Cc,aY,rfl,_,rfl,cl,_,_,_,rfl,rfl,SqL.of hT.cells,ti,_,rfl,ta,_,_,_,rfl,rfl,SqL.of tr,qd _ _,?_⟩;refine⟨_,rfl,o,C,dx,_,_,rfl,hT.at_,Cc,aY,rfl,_,rfl,cl,_,_,_,rfl,rfl,SqL.of hT.cells,ri,_,rfl,ra,_,_,_,rfl,rfl,SqL.of rr,dY _ (cR hq),_,_,rfl,rfl,.inl ⟨by omega,by omega⟩,?_⟩;refine⟨_,rfl,_,rfl,_,_,rfl,rfl,_,rfl,?_⟩;unfold Vq at qq;refine ite2 (fun c=> ?_) (fun c=> ?_)
 ·rw[c,Bool.true_or]at qq;exact qq
 ·rw[eq_false_of_ne_true c,wgc]at qq;refine⟨_,rfl,_,rfl,rfl,_,rfl,?_⟩;refine ite2 (fun c2=> ?_) (fun c2=> ?_)
  ·have c2':decide (T.cell r n*T.cell t q=T.cell t n*T.cell r q)=true:=eY (V.int.inj (nM c2));rw[c2',Bool.true_and]at qq;refine⟨_,rfl,o,C,dx,_,_,rfl,hT.at_,Cc,cg,rfl,_,rfl,ro,_,_,_,rfl,rfl,SqL.of hT.rows,oE _ hr0,?_⟩;refine⟨_,rfl,o,C,dx,_,_,rfl,hT.at_,Cc,cg,rfl,_,rfl,ro,_,_,_,rfl,rfl,SqL.of hT.rows,oE _ ht,_,_,rfl,rfl,?_⟩;rw[<-show decide (((T.row r:Nat):Int)<((T.row t:Nat):Int))=decide (T.row r<T.row t)from decide_eq_decide.mpr M7]at qq;exact qq
  ·have c2':decide (T.cell r n*T.cell t q=T.cell t n*T.cell r q)=false:=jx fun e=>c2 (eY (lE V.int e));rw[c2',Bool.false_and]at qq;exact qq
def Rp(n q:Nat)(T:Sx.Tab)(p r:Nat):Prop:=T.cell p n*T.cell r q<T.cell r n*T.cell p q\/(T.cell p n*T.cell r q=T.cell r n*T.cell p q/\T.row p<=T.row r)
theorem GQ{n q:Nat}{T:Sx.Tab}{a b c:Nat}(ha:0<T.cell a q)(hb:0<T.cell b q)(hc:0<T.cell c q)(h1:Rp n q T a b)(h2:Rp n q T b c):Rp n q T a c:=by
 have cm:∀x y:Nat,T.cell x n*T.cell y q=T.cell y q*T.cell x n:=fun x y=>M8 _ _;have cn:∀x y:Nat,T.cell y n*T.cell x q=T.cell x q*T.cell y n:=fun x y=>M8 _ _;unfold Rp at *;rw[cm a b,cn a b]at h1;rw[cm b c,cn b c]at h2;rw[cm a c,cn a c];rcases h1 with h1|⟨h1,l1⟩
 ·rcases h2 with h2|⟨h2,_⟩
  ·exact .inl (Sx.wM hb ha hc (Dw h1) h2)
  ·exact .inl (Sx.zJ hb ha hc h1 (wed h2))
 ·rcases h2 with h2|⟨h2,l2⟩
  ·exact .inl (Sx.wM hb ha hc (wed h1) h2)
  ·exact .inr ⟨Int.le_antisymm (Sx.wN hb ha hc (wed h1) (wed h2)) (Sx.wN hb hc ha (by rw[<-h2];exact Dv _) (by rw[<-h1];exact Dv _)),cC l1 l2⟩
theorem RT{n q:Nat}{T:Sx.Tab}{r t:Nat}(h:Vq n q T r t=true):Rp n q T r t:=by
 unfold Vq at h;rw[wfo,pR]at h;rcases h with h|⟨h1,h2⟩
 ·exact .inl (nM h)
 ·exact .inr ⟨nM h1,cR (nM h2)⟩
theorem Wt{n q:Nat}{T:Sx.Tab}{r t:Nat}(h:Vq n q T r t=false):Rp n q T t r:=by
 unfold Vq at h;rw[Bool.or_eq_false_iff,wcx]at h;have h1:=Nq h.1;by_cases c:T.cell r n*T.cell t q=T.cell t n*T.cell r q
 ·refine .inr ⟨c.symm,?_⟩;rcases h.2 with z|z
  ·exact absurd c (Nq z)
  ·exact Nat.not_lt.mp (Nq z)
 ·exact .inl (by omega)
def QJ(K:W.Frag)(C:Addr):Sp:=fun vs H Q _=>∃(o:Addr) (H0:Hp) (n m q:Nat) (S:Nat->Nat->Bool) (wt:Nat->Int) (T:Sx.Tab),vs=[.ref o,.int (q:Int)]/\j6 K C H0 H o n m T/\TG n m S wt T/\q<n/\
 ∀p:Nat,p<m->0<T.cell p q->(∀r,r<m->0<T.cell r q->Rp n q T p r)->Q (.int (p:Int)) H
theorem Tc{f f1 C:Addr}{fd d1:FuncData}(F:Fun K "next_row" "Tableau.next_row" zcq f fd)
  (Cc:Cls K C)(aY:NoAttr K C "cells")(cP:NoAttr K C "over")(aV:NoAttr K C "columns")(cg:NoAttr K C "rows")(D1:Hy K C "is_tighter" "Tableau.is_tighter" zcg ["self","column","row","other"] f1 d1)(G1:FnOk P w K mg base CX0 1 f1 d1 ["self","column","row","other"] (QG K C))(aH:mg "range"=none)(bf:mg "len"=none):
  FnOk P w K mg base CX0 2 f fd ["self","column"] (QJ K C):=by
 refine F.cT ["self","column","tightest","row"] fun cdv A outer s H vs Q E hr h=> ?_;obtain⟨o,H0,n,m,q,S,wt,T,rfl,⟨dx,cl,co,ro,rws,hT⟩,hG,hq,qq⟩:=h;refine⟨_,(aP (pS 2 pe_non) (aP (ux rD rfl (Aw rfl aH (aj (pB rA bf (aj (pL (pv 0) rfl) ak)) ak)) (pG 3) (aZ (lC (PW.pt (pw_and (iD op_gt (bx lK (bx lK (pL (pv 0) rfl) (pv 3)) (pv 1)) aq) (pw_and1 (PW.pt (pw_or (iD op_isN (pv 2) pe_non) (pw_or1 (lW (pe_meth (pv 0) Cc D1.m G1 hr D1.b .nil pass0 (aj (pv 1) (aj (pv 3) (aj (pv 2) ak))))))))))) (aZ (pS 2 (pv 3))) lD))) (aZ (bQ (pv 2))))),?_⟩;refine⟨_,rfl,o,C,dx,_,_,rfl,hT.at_,Cc,cg,rfl,ro,_,rfl,.inl (SqL.of hT.rows),fun _=> ?_⟩;rw[aJ,FW];refine⟨_,rfl,by have:=hG.Xc;omega,by have:=hG.Xc;omega,?_⟩;refine Ij (n:=m) (fun i σ H'=>H'=H/\∃(x:V) (o3:Option V),σ=[some (.ref o),some (.int (q:Int)),some x,o3]/\((x= .non/\∀r,r<i->T.cell r q<=0)\/∃p:Nat,p<i/\x= .int (p:Int)/\0<T.cell p q/\∀r,r<i->0<T.cell r q->Rp n q T p r)) ⟨rfl,_,_,rfl,.inl ⟨rfl,fun r hr=>absurd hr (M9 r)⟩⟩ (fun i σ H' hi p=> ?_) (fun σ H' p=> ?_)
 ·obtain⟨rfl,x,o3,rfl,hx⟩:=p;rw[Mq];obtain⟨ra,re,ri,rr⟩:=hT.Gi (cR hi);refine⟨_,rfl,o,C,dx,_,_,rfl,hT.at_,Cc,aY,rfl,_,rfl,cl,_,_,_,rfl,rfl,SqL.of hT.cells,ri,_,rfl,ra,_,_,_,rfl,rfl,SqL.of rr,dY _ (cR hq),_,_,rfl,rfl,_,rfl,?_⟩;refine ite2 (fun c=> ?_) (fun c=> ?_)
  ·have c':0<T.cell i q:=nM c;rcases hx with⟨rfl,hx⟩|⟨p,hp,rfl,hp0,hlev⟩
   ·refine⟨_,rfl,rfl,_,rfl,?_⟩;refine iteT ?_;refine iteT ?_;refine⟨_,rfl,rfl,_,_,rfl,.inr ⟨i,ur i,rfl,c',fun r hr h0=> ?_⟩⟩;by_cases e:r=i
    ·subst e;exact .inr ⟨rfl,aN _⟩
    ·have:=hx r (by omega);omega
   ·refine⟨_,rfl,rfl,_,rfl,?_⟩;refine iteF ?_;refine⟨_,rfl,o,dx,_,rfl,hT.at_,rfl,_,rfl,_,rfl,_,rfl,o,H0,n,m,q,i,p,S,wt,T,rfl,⟨dx,cl,co,ro,rws,hT⟩,hG,hq,hi,by omega,_,rfl,?_⟩;refine ite2 (fun z=> ?_) (fun z=> ?_)
    ·refine⟨_,rfl,rfl,_,_,rfl,.inr ⟨i,ur i,rfl,c',fun r hr h0=> ?_⟩⟩;by_cases e:r=i
     ·subst e;exact .inr ⟨rfl,aN _⟩
     ·exact GQ c' hp0 h0 (RT z) (hlev r (by omega) h0)
    ·refine⟨rfl,_,_,rfl,.inr ⟨p,by omega,rfl,hp0,fun r hr h0=> ?_⟩⟩;by_cases e:r=i
     ·subst e;exact Wt (eq_false_of_ne_true z)
     ·exact hlev r (by omega) h0
  ·refine iteF ?_;have c':T.cell i q<=0:=Int.not_lt.mp fun h=>c (eY h);refine⟨rfl,_,_,rfl,?_⟩;rcases hx with⟨rfl,hx⟩|⟨p,hp,rfl,hp0,hlev⟩
   ·refine .inl ⟨rfl,fun r hr=> ?_⟩;by_cases e:r=i
    ·subst e;exact c'
    ·exact hx r (by omega)
   ·refine .inr ⟨p,by omega,rfl,hp0,fun r hr h0=> ?_⟩;by_cases e:r=i
    ·subst e;omega
    ·exact hlev r (by omega) h0
 ·obtain⟨rfl,x,o3,rfl,hx⟩:=p;rcases hx with⟨rfl,hx⟩|⟨p,hp,rfl,hp0,hlev⟩
  ·obtain⟨r,hr0,h0⟩:=hG.good.bounded hG.cov hq;have:=hx r hr0;omega
  ·exact⟨_,rfl,qq p hp hp0 hlev⟩
def ZM(ov:Int)(X Y:Nat->Int)(q c:Nat):Int:=if c=q then -X q else(X c*Y q-X q*Y c)/ov
theorem yN{n q:Nat}(X:Nat->Int)(v:Int)(h:q<=n):(aW n X).set q (.int v)=aW n fun c=>if c=q then v else X c:=by
 refine V9 fun i=> ?_;rw[wer];by_cases hi:i<=n
 ·rw[nY _ hi,nY _ hi,FQ];by_cases e:q=i
  ·rw[aB e,aB (by omega),aB e.symm]
  ·rw[aA e,aA (lO e)]
 ·rw[Nj (by rw[FQ];omega),Nj (by rw[FQ];omega),aA (by omega)]
theorem mJ{n:Nat}{X Y:Nat->Int}(h:∀c,c<=n->X c=Y c):aW n X=aW n Y:=by
 unfold aW;rw[Ve fun c hc=>h c (by have:=pO.mp hc;omega)]
def QH(K:W.Frag)(C:Addr):Sp:=fun vs H Q _=>∃(o xa ya:Addr) (H0:Hp) (n m q:Nat) (X Y:Nat->Int) (T:Sx.Tab),vs=[.ref o,.ref xa,.ref ya,.int (q:Int)]/\j6 K C H0 H o n m T/\n<=10/\(0<T.over/\T.over<=39916800)/\q<=n/\H xa=some (.lst (aW n X))/\H ya=some (.lst (aW n Y))/\
 (∀c,c<=n->(-4000000000<=X c/\X c<=4000000000)/\(-4000000000<=Y c/\Y c<=4000000000))/\∀r H',Same H H'->H r=none->H' r=some (.lst (aW n (ZM T.over X Y q)))->Q (.ref r) H'
theorem SX{f C:Addr}{fd:FuncData}(F:Fun K "turned" "Tableau.turned" dO f fd)
  (Cc:Cls K C)(aY:NoAttr K C "cells")(cP:NoAttr K C "over")(aV:NoAttr K C "columns")(cg:NoAttr K C "rows")(bJ:mg "enumerate"=none):
  FnOk P w K mg base CX0 1 f fd ["self","cells","pivots","column"] (QH K C):=by
 refine F.cT ["self","cells","pivots","column","by","fresh"] fun cdv A outer s H vs Q E hr h=> ?_;obtain⟨o,xa,ya,H0,n,m,q,X,Y,T,rfl,⟨dx,cl,co,ro,rws,hT⟩,hn,⟨ho0,ho1⟩,hq,hX,hY,hb,qq⟩:=h;refine⟨_,(aP (pS 4 (bx lK (pv 2) (pv 3))) (aP (pX 5 ["k","cell"] ["by","cells","column","pivots","self"] [4,1,3,2,0] (oh rfl bJ (aj (pv 1) ak)) (eE K (n:=2) rfl (jq (pG 0) (jq (pG 1) xQ))) lM (aX jQ (aX op_sub (aX m9 (pv 1) (pv 2)) (aX m9 (bx (eU K) (pv 3) (pv 4)) (bx (eU K) (pv 5) (pv 0)))) (N5 K (pv 6) rfl))) (aP (ps_asg (pe_un yg (bx lK (pv 1) (pv 3))) (pg_sub (pv 5) (pv 3) set_list)) (aZ (bQ (pv 5)))))),?_⟩;refine⟨_,rfl,_,rfl,ya,_,_,_,rfl,rfl,SqL.of hY,dY _ hq,?_⟩;refine⟨_,rfl,false,xa,_,rfl,SqL.of hX,fun hz=> ?_⟩;refine lg (K:=K) (b:=false) (a:=xa) (xs:=aW n X) (fun i acc σ H'=>acc=((List.range i).map fun c=>(X c*Y q-X q*Y c)/T.over).map V.int/\Same H H'/\∃o1 o2,σ=[o1,o2,some (.int (Y q)),some (.ref xa),some (.int (q:Int)),some (.ref ya),some (.ref o)]) ⟨rfl,Same.refl _,_,_,rfl⟩ (fun i acc σ H' _ p=>p.2.1.seq (SqL.of hX)) (fun i acc σ H' _ p=> ?_) hz (fun i v t acc σ H' hv p ht=> ?_) (fun acc σ H' p=> ?_)
 ·rw[p.1,aJ,aJ,rC];exact aN _
 ·obtain⟨rfl,sm,o1,o2,rfl⟩:=p;have hi:i<=n:=by
   have:=(nH.mp hv).1;rw[FQ]at this;omega
  rw[nY _ hi]at hv;cases hv;have s1:=aG ht (.tup [.int (i:Int),.int (X i)]);have s2:=sm.trans s1;have bi:=(hb i hi).1;have bq:=(hb q hq).1;refine⟨t,_,rfl,SqT.of aD,rfl,_,_,rfl,_,_,rfl,rfl,?_⟩;refine⟨_,rfl,_,rfl,_,_,rfl,rfl,.inl ⟨by omega,by omega⟩,?_⟩;refine⟨_,rfl,_,rfl,xa,_,_,_,rfl,rfl,SqL.of (s2 _ _ hX),dY _ hq,_,rfl,_,rfl,ya,_,_,_,rfl,rfl,SqL.of (s2 _ _ hY),dY _ hi,_,_,rfl,rfl,.inl ⟨by omega,by omega⟩,_,_,rfl,rfl,?_⟩;refine⟨_,rfl,o,C,dx,_,_,rfl,s2 _ _ hT.at_,Cc,cP,rfl,_,_,rfl,rfl,⟨ho0,by omega⟩,?_⟩;exact⟨by rw[yu,cO,cO];rfl,s2,_,_,rfl⟩
 ·intro p1 hp1;obtain⟨rfl,sm,_⟩:=p;rw[FQ];have s1:=aG hp1 (.lst (aW n fun c=>(X c*Y q-X q*Y c)/T.over));have s2:=sm.trans s1;have h0:H p1=none:=by
   cases e:H p1 with
   |none=>rfl
   |some u=>rw[sm _ _ e]at hp1;cases hp1
  refine⟨_,rfl,_,rfl,xa,_,_,_,rfl,rfl,SqL.of (s2 _ _ hX),dY _ hq,_,rfl,?_⟩;refine⟨_,rfl,_,rfl,p1,_,_,q,rfl,rfl,aD,?_,?_⟩
  ·have e:ixN (aW n fun c=>(X c*Y q-X q*Y c)/T.over).length (q:Int)=some q:=by
    rw[FQ];unfold ixN;rw[aB (by omega),aB (by omega)];rfl
   exact e
  ·refine⟨_,rfl,qq p1 _ (fun b u hb=> ?_) h0 ?_⟩
   ·have nb:b≠p1:=fun e=>by rw[e,h0]at hb;cases hb
    rw[cD nb];exact s2 _ _ hb
   ·rw[aD];have e:=yN (fun c=>(X c*Y q-X q*Y c)/T.over) (-X q) hq;exact lE (fun l=>some (HO.lst l)) e
theorem Qa{xs:List V}{k:Nat}(hk:k<=xs.length):cutV xs none (some (k:Int))=xs.take k:=by
 unfold cutV;rw[HT.sIx_nat,HT.sIx_none,Nat.min_eq_left hk,List.drop_zero,Nat.sub_zero]
theorem Hq{xs:List V}{k:Nat}(hk:k<=xs.length):cutV xs (some (k:Int)) none=xs.drop k:=by
 unfold cutV;rw[HT.sIx_nat,HT.sIx_none,Nat.min_eq_left hk,Mu (by rw[wfb];omega)]
theorem _root_.L2.Same.uF{H0 H:Hp}{a:Addr}{u:HO}(s:Same H0 H)(h:H0 a=none):Same H0 (upd H a u):=fun b o hb=>by
 have nb:b≠a:=fun e=>by rw[e,h]at hb;cases hb
 rw[cD nb];exact s _ _ hb
theorem _root_.L2.Same.none{H0 H:Hp}{a:Addr}(s:Same H0 H)(h:H a=none):H0 a=none:=by
 cases e:H0 a with
 |none=>rfl
 |some u=>rw[s _ _ e]at h;cases h
section
variable{C:Addr}{H0 H:Hp}{o dx cl co ro:Addr}{rws:List Addr}{n m:Nat}{T:Sx.Tab}
theorem cu.ocl(h:cu K C H0 H o dx cl co ro rws n m T):o≠cl:=ne_of h.at_ h.cells fun e=>nomatch e
theorem cu.oco(h:cu K C H0 H o dx cl co ro rws n m T):o≠co:=ne_of h.at_ h.cols fun e=>nomatch e
theorem cu.oro(h:cu K C H0 H o dx cl co ro rws n m T):o≠ro:=ne_of h.at_ h.rows fun e=>nomatch e
theorem kO{rws:List Addr}{xs:List Int}(h:0<rws.length)(e:rws.map V.ref=xs.map V.int):False:=by
 cases rws with
 |nil=>exact absurd h (uy 0)
 |cons a r=>
  cases xs with
  |nil=>cases e
  |cons x xs=>injection e with e1 _;cases e1
theorem cu.Yw(h:cu K C H0 H o dx cl co ro rws n m T):cl≠co:=fun e=>by
 have z:=h.cols;rw[<-e,h.cells]at z;exact kO (by rw[h.len];omega) (HO.lst.inj (rE z))
theorem cu.Yv(h:cu K C H0 H o dx cl co ro rws n m T):cl≠ro:=fun e=>by
 have z:=h.rows;rw[<-e,h.cells]at z;exact kO (by rw[h.len];omega) (HO.lst.inj (rE z))
theorem cu.Yu(h:cu K C H0 H o dx cl co ro rws n m T){r:Nat}{a:Addr}(e:rws[r]? =some a):a≠cl:=fun z=>by
 have y:=h.row r a e;rw[z,h.cells]at y;exact kO (by rw[h.len];omega) (HO.lst.inj (rE y))
theorem cu.orow(h:cu K C H0 H o dx cl co ro rws n m T){r:Nat}{a:Addr}(e:rws[r]? =some a):a≠o:=fun z=>by
 have y:=h.row r a e;rw[z,h.at_]at y;cases y
theorem cu.JH(h:cu K C H0 H o dx cl co ro rws n m T){VG:Addr}{Bu:List Addr}{X:Nat->Nat->Int}(h0:H0 VG=none)(hc:H VG=some (.lst (Bu.map V.ref)))(hl:Bu.length=m+1)(hr:∀r a,Bu[r]? =some a->H a=some (.lst (aW n (X r))))(n1:co∉Bu)(n2:ro∉Bu):
  cu K C H0 (upd H o (.ins C dx (putF "cells" (.ref VG) (flds cl co ro T.over)))) o dx VG co ro Bu n m {T with cell:=X}:=by
 have k:∀b,b≠o->∀u,H b=some u->(upd H o (.ins C dx (putF "cells" (.ref VG) (flds cl co ro T.over)))) b=some u:=fun b hb u e=>by rw[cD hb];exact e
 refine⟨h.same.uF h.o0,h.o0,h0,h.Rm,h.QW,h.ne,n1,n2,aD,k _ (fun e=> ?_) _ hc,hl,fun r a e=>k _ (fun z=> ?_) _ (hr r a e),k _ h.oco.symm _ h.cols,k _ h.oro.symm _ h.rows⟩
 ·rw[e,h.at_]at hc;cases hc
 ·have y:=hr r a e;rw[z,h.at_]at y;cases y
theorem cu.R6(h:cu K C H0 H o dx cl co ro rws n m T){p:Nat}{a:Addr}{X:Nat->Int}(hp:p<=m)(ha:H a=some (.lst (aW n X)))(n1:co≠a)(n2:ro≠a):
  cu K C H0 (upd H cl (.lst ((rws.map V.ref).set p (.ref a)))) o dx cl co ro (rws.set p a) n m {T with cell:=fun r c=>if r=p then X c else T.cell r c}:=by
 have k:∀b,b≠cl->∀u,H b=some u->(upd H cl (.lst ((rws.map V.ref).set p (.ref a)))) b=some u:=fun b hb u e=>by rw[cD hb];exact e
 have hac:a≠cl:=fun z=>by
  rw[z,h.cells]at ha;exact kO (by rw[h.len];omega) (HO.lst.inj (rE ha))
 refine⟨h.same.uF h.UL,h.o0,h.UL,h.Rm,h.QW,h.ne,fun z=> ?_,fun z=> ?_,k _ h.ocl _ h.at_,by rw[aD,wgh],by rw[List.length_set];exact h.len,fun r b e=> ?_,k _ h.Yw.symm _ h.cols,k _ h.Yv.symm _ h.rows⟩
 ·rcases weh z with z|z
  ·exact h.nc z
  ·exact n1 z
 ·rcases weh z with z|z
  ·exact h.nr z
  ·exact n2 z
 ·rw[wer]at e;by_cases c:p=r
  ·rw[aB c,aB (by rw[h.len];omega)]at e;cases e;rw[k _ hac _ ha];exact lE (fun l=>some (HO.lst l)) (mJ fun c' _=>by show X c'=if r=p then X c' else T.cell r c';rw[aB c.symm])
  ·rw[aA c]at e;rw[k _ (h.Yu e) _ (h.row r b e)];exact lE (fun l=>some (HO.lst l)) (mJ fun c' _=>by show T.cell r c'=if r=p then X c' else T.cell r c';rw[aA (lO c)])
theorem cu.setOver(h:cu K C H0 H o dx cl co ro rws n m T)(v:Int):cu K C H0 (upd H o (.ins C dx (putF "over" (.int v) (flds cl co ro T.over)))) o dx cl co ro rws n m {T with over:=v}:=by
 have k:∀b,b≠o->∀u,H b=some u->(upd H o (.ins C dx (putF "over" (.int v) (flds cl co ro T.over)))) b=some u:=fun b hb u e=>by rw[cD hb];exact e
 exact⟨h.same.uF h.o0,h.o0,h.UL,h.Rm,h.QW,h.ne,h.nc,h.nr,aD,k _ h.ocl.symm _ h.cells,h.len,fun r a e=>k _ (h.orow e) _ (h.row r a e),k _ h.oco.symm _ h.cols,k _ h.oro.symm _ h.rows⟩
theorem cu.Nx(h:cu K C H0 H o dx cl co ro rws n m T){p:Nat}(v:Nat)(hp:p<m):cu K C H0 (upd H ro (.lst (((bR m T.row).map V.int).set p (.int (v:Int))))) o dx cl co ro rws n m {T with row:=fun r=>if r=p then v else T.row r}:=by
 have k:∀b,b≠ro->∀u,H b=some u->(upd H ro (.lst (((bR m T.row).map V.int).set p (.int (v:Int))))) b=some u:=fun b hb u e=>by rw[cD hb];exact e
 refine⟨h.same.uF h.QW,h.o0,h.UL,h.Rm,h.QW,h.ne,h.nc,h.nr,k _ h.oro _ h.at_,k _ h.Yv _ h.cells,h.len,fun r a e=>k _ (fun z=>h.nr (z▸gZ e)) _ (h.row r a e),k _ h.ne _ h.cols,?_⟩;rw[aD,<-wgh,vp _ _ hp]
theorem cu.Ny(h:cu K C H0 H o dx cl co ro rws n m T){q:Nat}(v:Nat)(hq:q<n):cu K C H0 (upd H co (.lst (((bR n T.col).map V.int).set q (.int (v:Int))))) o dx cl co ro rws n m {T with col:=fun c=>if c=q then v else T.col c}:=by
 have k:∀b,b≠co->∀u,H b=some u->(upd H co (.lst (((bR n T.col).map V.int).set q (.int (v:Int))))) b=some u:=fun b hb u e=>by rw[cD hb];exact e
 refine⟨h.same.uF h.Rm,h.o0,h.UL,h.Rm,h.QW,h.ne,h.nc,h.nr,k _ h.oco _ h.at_,k _ h.Yw _ h.cells,h.len,fun r a e=>k _ (fun z=>h.nc (z▸gZ e)) _ (h.row r a e),?_,k _ h.ne.symm _ h.rows⟩;rw[aD,<-wgh,vp _ _ hq]
end
theorem JQ{n q:Nat}(X:Nat->Int)(v:Int)(h:q<=n):((aW n X).take q++[.int v])++(aW n X).drop (q+1)=aW n fun c=>if c=q then v else X c:=by
 rw[<-yN X v h,List.set_eq_take_append_cons_drop,aB (by rw[FQ];omega),weo];rfl
def QF(K:W.Frag)(C:Addr):Sp:=fun vs H Q _=>∃(o:Addr) (H0:Hp) (n m p q:Nat) (S:Nat->Nat->Bool) (wt:Nat->Int) (T:Sx.Tab),vs=[.ref o,.int (p:Int),.int (q:Int)]/\j6 K C H0 H o n m T/\TG n m S wt T/\p<m/\q<n/\∀H',j6 K C H0 H' o n m (Sx.turn T p q)->Q .non H'
theorem SN{f f1 C:Addr}{fd d1:FuncData}(F:Fun K "turn" "Tableau.turn" gn f fd)
  (Cc:Cls K C)(aY:NoAttr K C "cells")(cP:NoAttr K C "over")(aV:NoAttr K C "columns")(cg:NoAttr K C "rows")(D1:Hy K C "turned" "Tableau.turned" dO ["self","cells","pivots","column"] f1 d1)(G1:FnOk P w K mg base CX0 1 f1 d1 ["self","cells","pivots","column"] (QH K C)):
  FnOk P w K mg base CX0 2 f fd ["self","row","column"] (QF K C):=by
 refine F.cT ["self","row","column","pivots","by","name"] fun cdv A outer s H vs Q E hr h=> ?_;obtain⟨o,H0,n,m,p,q,S,wt,T,rfl,⟨dx,cl,co,ro,rws,hT⟩,hG,hp,hq,qq⟩:=h;refine bh ?_;intro Y;refine⟨_,(aP (pS 3 (bx lK (pL (pv 0) rfl) (pv 1))) (aP (pS 4 (bx lK (pv 3) (pv 2))) (aP (ps_fld (pv 0) (pK ["cells"] ["self","pivots","column"] [0,3,2] (pI (pL (pv 0) rfl)) (pG 0) lM (pe_meth (pv 1) Cc D1.m G1 hr D1.b .nil pass0 (aj (pv 0) (aj (pv 2) (aj (pv 3) ak))))) rfl) (aP (ps_asg (aX rP (aX rP (yr Dt (pv 3) uV (uq (pv 2))) (qH (aj (pL (pv 0) rfl) ak))) (yr Dt (pv 3) (uq (aX pJ (pv 2) aq)) uV)) (pg_sub (pL (pv 0) rfl) (pv 1) set_list)) (aP (ps_fld (pv 0) (pv 4) rfl) (aP (pS 5 (bx lK (pL (pv 0) rfl) (pv 1))) (aP (ps_asg (bx lK (pL (pv 0) rfl) (pv 2)) (pg_sub (pL (pv 0) rfl) (pv 1) set_list)) (aZ (ps_asg (pv 5) (pg_sub (pL (pv 0) rfl) (pv 2) set_list)))))))))),?_⟩;refine Xw ?_;intro c8 c7 c6 c5 c4 c3 c2;obtain⟨pa,pe,pi,pr⟩:=hT.Gi (cR hp);refine⟨_,rfl,o,C,dx,_,_,rfl,hT.at_,Cc,aY,rfl,_,rfl,cl,_,_,_,rfl,rfl,SqL.of hT.cells,pi,?_⟩;refine⟨_,rfl,_,rfl,pa,_,_,_,rfl,rfl,SqL.of pr,dY _ (cR hq),?_⟩;refine⟨_,rfl,o,C,dx,_,_,rfl,hT.at_,Cc,aY,rfl,cl,_,rfl,SqL.of hT.cells,fun hz=> ?_⟩;let iB:Nat->List V->St->Hp->Prop:=fun i acc σ H'=>∃as:List Addr,acc=as.map V.ref/\as.length=i/\Same H H'/\(∀r a,as[r]? =some a->H a=none/\H' a=some (.lst (aW n (ZM T.over (T.cell r) (T.cell p) q))))/\∃o1,σ=[o1,some (.ref o),some (.ref pa),some (.int (q:Int))];refine vK (xs:=rws.map V.ref) iB ⟨[],rfl,rfl,Same.refl _,fun r a e=>(nomatch e),_,rfl⟩ (fun i acc σ H' _ x=> ?_) (fun i acc σ H' _ x=> ?_) hz (fun i v acc σ H' hv x=> ?_) (fun acc σ H' x=> ?_)
 ·obtain⟨_,_,_,sm,_⟩:=x;exact sm.seq (SqL.of hT.cells)
 ·obtain⟨as,rfl,hl,_⟩:=x;rw[aJ,hl];exact aN _
 ·obtain⟨as,rfl,hl,sm,has,o1,rfl⟩:=x;rw[dW]at hv;cases er:rws[i]? with
  |none=>rw[er]at hv;cases hv
  |some ra=>
   rw[er]at hv;cases hv;have him:i<=m:=by have:=(nH.mp er).1;rw[hT.len]at this;omega
   refine⟨_,rfl,o,dx,_,rfl,sm _ _ hT.at_,rfl,_,rfl,_,rfl,_,rfl,o,ra,pa,H0,n,m,q,T.cell i,T.cell p,T,rfl,⟨dx,cl,co,ro,rws,hT.sm sm⟩,hG.n10,hG.over,cR hq,sm _ _ (hT.row i ra er),sm _ _ pr,fun c hc=>⟨hG.cell him hc,hG.cell (cR hp) hc⟩,fun r1 H1 s1 h1 e1=> ?_⟩;refine⟨as++[r1],by rw[cO];rfl,by rw[gD,hl];rfl,sm.trans s1,fun r a e=> ?_,_,rfl⟩;rw[wdf]at e;by_cases c:r<as.length
   ·rw[aB c]at e;exact⟨(has r a e).1,s1 _ _ (has r a e).2⟩
   ·rw[aA c]at e;have Yl:r-as.length=0:=by
     have:=(nH.mp e).1;have:r-as.length<1:=this;omega
    rw[Yl]at e;cases e;have:r=i:=by omega
    subst this;exact⟨sm.none h1,e1⟩
 ·intro p1 hp1;obtain⟨as,rfl,hl,sm,has,_⟩:=x;rw[aJ,hT.len]at hl;have s1:=aG hp1 (.lst (as.map V.ref));have hT1:=hT.sm (sm.trans s1);have h10:H0 p1=none:=hT.same.none (sm.none hp1);have nas:∀b u,H b=some u->b∉as:=fun b u hb hm=>by
   obtain⟨r,hr1,rfl⟩:=Im hm;have:=(has r _ (dD hr1)).1;rw[hb]at this;cases this
  have hT2:=hT1.JH (VG:=p1) (Bu:=as) (X:=fun r=>ZM T.over (T.cell r) (T.cell p) q) h10 aD hl (fun r a e=>s1 _ _ (has r a e).2) (nas _ _ hT.cols) (nas _ _ hT.rows);refine⟨_,rfl,o,C,dx,_,rfl,hT1.at_,Cc,aY,(by show 4<1000;decide),?_⟩;have npo:pa≠o:=hT.orow pe;have pr2:=(sm.trans s1) _ _ pr;have pr3:(upd (upd H' p1 (.lst (as.map V.ref))) o (.ins C dx (putF "cells" (.ref p1) (flds cl co ro T.over)))) pa=some (.lst (aW n (T.cell p))):=by rw[cD npo];exact pr2
  generalize (upd (upd H' p1 (.lst (as.map V.ref))) o (.ins C dx (putF "cells" (.ref p1) (flds cl co ro T.over))))=H2 at *
  -- the row of the turn
  refine⟨_,rfl,_,rfl,_,rfl,pa,_,rfl,SqL.of pr3,fun l1 hl1=> ?_⟩;have t1:=aG hl1 (.lst (cutV (aW n (T.cell p)) none (some (q:Int))));have f1:(upd H2 l1 (.lst (cutV (aW n (T.cell p)) none (some (q:Int))))) l1=some (.lst (cutV (aW n (T.cell p)) none (some (q:Int)))):=aD;generalize (upd H2 l1 (.lst (cutV (aW n (T.cell p)) none (some (q:Int)))))=H3 at *;refine⟨_,rfl,o,C,dx,_,_,rfl,t1 _ _ hT2.at_,Cc,cP,rfl,(by show 1<=sizeLine;decide),fun l2 hl2=> ?_⟩;have t2:=aG hl2 (.lst [.int T.over]);have f2:(upd H3 l2 (.lst [.int T.over])) l2=some (.lst [.int T.over]):=aD;have f1':=t2 _ _ f1;refine⟨l1,l2,_,_,rfl,rfl,f1',f2,?_,fun l3 hl3=> ?_⟩
  ·have:=Qi (aW n (T.cell p)) none (some (q:Int));rw[FQ]at this;have:=hG.n10;rw[eX];show _+1<=_;omega
  have t3:=aG hl3 (.lst (cutV (aW n (T.cell p)) none (some (q:Int))++[.int T.over]));have f3:(upd (upd H3 l2 (.lst [.int T.over])) l3 (.lst (cutV (aW n (T.cell p)) none (some (q:Int))++[.int T.over]))) l3=some (.lst (cutV (aW n (T.cell p)) none (some (q:Int))++[.int T.over])):=aD;have ZP:=t1.trans (t2.trans t3);generalize (upd (upd H3 l2 (.lst [.int T.over])) l3 (.lst (cutV (aW n (T.cell p)) none (some (q:Int))++[.int T.over])))=H5 at *;refine⟨_,rfl,_,rfl,_,_,rfl,rfl,_,rfl,pa,_,rfl,SqL.of (ZP _ _ pr3),fun l4 hl4=> ?_⟩;have t4:=aG hl4 (.lst (cutV (aW n (T.cell p)) (some ((q:Int)+1)) none));refine⟨l3,l4,_,_,rfl,rfl,t4 _ _ f3,aD,?_,fun l5 hl5=> ?_⟩
  ·have a1:=Qi (aW n (T.cell p)) none (some (q:Int));have a2:=Qi (aW n (T.cell p)) (some ((q:Int)+1)) none;rw[FQ]at a1 a2;have:=hG.n10;rw[gD,eX];show _+1+_<=_;omega
  have t5:=aG hl5 (.lst ((cutV (aW n (T.cell p)) none (some (q:Int))++[.int T.over])++cutV (aW n (T.cell p)) (some ((q:Int)+1)) none));have aav:(cutV (aW n (T.cell p)) none (some (q:Int))++[.int T.over])++cutV (aW n (T.cell p)) (some ((q:Int)+1)) none=aW n fun c=>if c=q then T.over else T.cell p c:=by
   rw[Qa (by rw[FQ];omega),show(q:Int)+1=((q+1:Nat):Int)from by omega,Hq (by rw[FQ];omega)];exact JQ _ _ (cR hq)
  rw[aav]at t5⊢;have hT3:=hT2.sm (ZP.trans (t4.trans t5));have f5:(upd (upd H5 l4 (.lst (cutV (aW n (T.cell p)) (some ((q:Int)+1)) none))) l5 (.lst (aW n fun c=>if c=q then T.over else T.cell p c))) l5=some (.lst (aW n fun c=>if c=q then T.over else T.cell p c)):=aD;have g1:co≠l5:=rB ((ZP.trans t4) _ _ hT2.cols) hl5;have g2:ro≠l5:=rB ((ZP.trans t4) _ _ hT2.rows) hl5;generalize (upd (upd H5 l4 (.lst (cutV (aW n (T.cell p)) (some ((q:Int)+1)) none))) l5 (.lst (aW n fun c=>if c=q then T.over else T.cell p c)))=H6 at *;have Vx:=hT3.R6 (p:=p) (cR hp) f5 g1 g2;refine⟨_,rfl,o,C,dx,_,_,rfl,hT3.at_,Cc,aY,rfl,_,rfl,p1,_,_,p,rfl,rfl,hT3.cells,?_,?_⟩
  ·have e:ixN (as.map V.ref).length (p:Int)=some p:=by
    rw[aJ,hl];unfold ixN;rw[aB (by omega),aB (by omega)];rfl
   exact e
  generalize (upd H6 p1 (.lst ((as.map V.ref).set p (.ref l5))))=H7 at *;have hT5:=Vx.setOver (T.cell p q);refine⟨_,rfl,_,rfl,o,C,dx,_,rfl,Vx.at_,Cc,cP,(by show 4<1000;decide),?_⟩;generalize (upd H7 o (.ins C dx (putF "over" (.int (T.cell p q)) (flds p1 co ro T.over))))=H8 at *;refine⟨_,rfl,o,C,dx,_,_,rfl,hT5.at_,Cc,cg,rfl,_,rfl,ro,_,_,_,rfl,rfl,SqL.of hT5.rows,oE _ hp,?_⟩;refine⟨_,rfl,o,C,dx,_,_,rfl,hT5.at_,Cc,aV,rfl,_,rfl,co,_,_,_,rfl,rfl,SqL.of hT5.cols,oE _ hq,?_⟩;have Vw:=hT5.Nx (p:=p) (T.col q) hp;refine⟨_,rfl,o,C,dx,_,_,rfl,hT5.at_,Cc,cg,rfl,_,rfl,ro,_,_,p,rfl,rfl,hT5.rows,?_,?_⟩
  ·have e:ixN ((bR m T.row).map V.int).length (p:Int)=some p:=by
    rw[aJ,FW];unfold ixN;rw[aB (by omega),aB (by omega)];rfl
   exact e
  generalize (upd H8 ro (.lst (((bR m T.row).map V.int).set p (.int ((T.col q:Nat):Int)))))=H9 at *;have zA:=Vw.Ny (q:=q) (T.row p) hq;refine⟨_,rfl,_,rfl,o,C,dx,_,_,rfl,Vw.at_,Cc,aV,rfl,_,rfl,co,_,_,q,rfl,rfl,Vw.cols,?_,?_⟩
  ·have e:ixN ((bR n T.col).map V.int).length (q:Int)=some q:=by
    rw[aJ,FW];unfold ixN;rw[aB (by omega),aB (by omega)];rfl
   exact e
  refine qq _ ⟨dx,p1,co,ro,_,zA.same,zA.o0,zA.UL,zA.Rm,zA.QW,zA.ne,zA.nc,zA.nr,zA.at_,zA.cells,zA.len,fun r a e=> ?_,zA.cols,zA.rows⟩;rw[zA.row r a e];refine lE (fun l=>some (HO.lst l)) (mJ fun c _=> ?_);show(if r=p then(if c=q then T.over else T.cell p c)else ZM T.over (T.cell r) (T.cell p) q c)=_;rfl
theorem JM{n m:Nat}{S:Nat->Nat->Bool}{wt:Nat->Int}{Ts:Nat->Sx.Tab}{ps qs:Nat->Nat}{L p q:Nat}(R:Sx.Run n m S wt Ts ps qs L)(s:Sx.Step n m (Ts L) p q):
  Sx.Run n m S wt (fun t=>if t<=L then Ts t else Sx.turn (Ts L) p q) (fun t=>if t<L then ps t else p) (fun t=>if t<L then qs t else q) (L+1):=by
 refine⟨by rw[aB (cG L)];exact R.first,fun t ht=> ?_,fun t ht=> ?_⟩
 ·by_cases c:t<L
  ·rw[aB (cR c),aB c,aB c];exact R.step t c
  ·have e:t=L:=by omega
   subst e;rw[aB (aN t),aA c,aA c];exact s
 ·by_cases c:t<L
  ·rw[aB (show t+1<=L from c),aB (cR c),aB c,aB c];exact R.next t c
  ·have e:t=L:=by omega
   subst e;rw[aA (by omega),aB (aN t),aA c,aA c]
structure Z9(n m:Nat)(S:Nat->Nat->Bool)(wt:Nat->Int):Prop where
 n10:n<=10
 Xc:m<=40
 wb:∀p,p<n->0<=wt p/\wt p<=99
 cov:∀p,p<n->∃k,k<m/\S k p=true
theorem Z9.tg{n m:Nat}{S:Nat->Nat->Bool}{wt:Nat->Int}{T:Sx.Tab}(h:Z9 n m S wt)(g:Sx.Good n m S wt T):TG n m S wt T:=⟨g,h.n10,h.Xc,h.wb,h.cov⟩
def NcV(n m:Nat)(T:Sx.Tab)(x:V):Prop:=(x= .non/\∀c,c<n->0<=T.cell m c)\/∃q:Nat,x= .int (q:Int)/\q<n/\T.cell m q<0/\∀c,c<n->T.cell m c<0->T.col q<=T.col c
def LC(K:W.Frag)(C o:Addr)(H0:Hp)(n m:Nat)(S:Nat->Nat->Bool)(wt:Nat->Int)(k:Nat)(σ:St)(H:Hp):Prop:=
 ∃(Ts:Nat->Sx.Tab) (ps qs:Nat->Nat) (L:Nat) (x:V),Sx.Run n m S wt Ts ps qs L/\L+k=2^(n+m)/\j6 K C H0 H o n m (Ts L)/\σ=[some (.ref o),some x]/\NcV n m (Ts L) x
def Jg(K:W.Frag)(C:Addr):Sp:=fun vs H Q _=>∃(o:Addr) (H0:Hp) (n m:Nat) (S:Nat->Nat->Bool) (wt:Nat->Int) (T:Sx.Tab),vs=[.ref o]/\j6 K C H0 H o n m T/\Z9 n m S wt/\Sx.Good n m S wt T/\
 ∀T' H',j6 K C H0 H' o n m T'->Sx.Good n m S wt T'->(∀c,c<n->0<=T'.cell m c)->Q .non H'
theorem S6{f f1 f2 f3 C:Addr}{fd d1 d2 d3:FuncData}(F:Fun K "solve" "Tableau.solve" fG f fd)
  (Cc:Cls K C)(aY:NoAttr K C "cells")(cP:NoAttr K C "over")(aV:NoAttr K C "columns")(cg:NoAttr K C "rows")(D1:Hy K C "next_column" "Tableau.next_column" zbw ["self"] f1 d1)(YD:FnOk P w K mg base CX0 1 f1 d1 ["self"] (Jj K C))(D2:Hy K C "turn" "Tableau.turn" gn ["self","row","column"] f2 d2)(G2:FnOk P w K mg base CX0 2 f2 d2 ["self","row","column"] (QF K C))(D3:Hy K C "next_row" "Tableau.next_row" zcq ["self","column"] f3 d3)(G3:FnOk P w K mg base CX0 2 f3 d3 ["self","column"] (QJ K C)):
  FnOk P w K mg base CX0 3 f fd ["self"] (Jg K C):=by
 have G1:FnOk P w K mg base CX0 2 f1 d1 ["self"] (Jj K C):=YD.mono (by decide);refine F.cT ["self","column"] fun cdv A outer s H vs Q E hr h=> ?_;obtain⟨o,H0,n,m,S,wt,T,rfl,hT,hS,hg,qq⟩:=h;refine bh ?_;intro Y;refine⟨_,(aP (pS 1 (pe_meth0 (pv 0) Cc D1.m G1 hr D1.b .nil pass0)) (aZ (ps_while rD (iD op_notN (pv 1) pe_non) (aP (yj (pe_meth (pv 0) Cc D2.m G2 hr D2.b .nil pass0 (aj (pe_meth (pv 0) Cc D3.m G3 hr D3.b .nil pass0 (aj (pv 1) ak)) (aj (pv 1) ak)))) (aZ (pS 1 (pe_meth0 (pv 0) Cc D1.m G1 hr D1.b .nil pass0))))))),?_⟩;refine dH ?_;intro c2;have key:∀(x:V) (H1:Hp),j6 K C H0 H1 o n m T->NcV n m T x->∃k,LC K C o H0 n m S wt k [some (.ref o),some x] H1:=fun x H1 h1 h2=>
  ⟨2^(n+m),fun _=>T,fun _=>0,fun _=>0,0,x,⟨hg,fun t ht=>absurd ht (M9 t),fun t ht=>absurd ht (M9 t)⟩,wgg _,h1,rfl,h2⟩
 obtain⟨dx,cl,co,ro,rws,hA0⟩:=id hT;refine⟨_,rfl,o,dx,_,rfl,hA0.at_,rfl,o,H0,n,m,S,wt,T,rfl,hT,hS.tg hg,?a,?b⟩
 case' a=>
  intro h H1 s1;have w0:=key _ _ (hT.sm s1) (.inl ⟨rfl,h⟩);refine⟨LC K C o H0 n m S wt,w0,?_⟩;clear w0 s1 h
 case' b=>
  intro q H1 hq hn he s1;have w0:=key _ _ (hT.sm s1) (.inr ⟨q,rfl,hq,hn,he⟩);refine⟨LC K C o H0 n m S wt,w0,?_⟩;clear w0 s1 he hn hq q
 all_goals
  clear H1;intro k σ H1 h;obtain⟨Ts,ps,qs,L,x,R,hk,⟨dx',cl,co,ro,rws,hA⟩,rfl,hx⟩:=h;have Xz:=R.good L (aN L);have hG:=hS.tg Xz;have hsh:=R.short;rcases hx with⟨rfl,hx⟩|⟨q,rfl,hq,hn,he⟩
  ·refine⟨_,rfl,rfl,_,rfl,?_⟩;refine iteF ?_;exact qq (Ts L) H1 ⟨dx',cl,co,ro,rws,hA⟩ Xz hx
  ·refine⟨_,rfl,rfl,_,rfl,?_⟩;refine iteT ?_;refine⟨LC K C o H0 n m S wt (k-1),fun σ' H' z=>⟨k-1,by omega,z⟩,?_⟩;refine⟨_,rfl,o,dx',_,rfl,hA.at_,rfl,_,rfl,o,dx',_,rfl,hA.at_,rfl,_,rfl,o,H0,n,m,q,S,wt,Ts L,rfl,⟨dx',cl,co,ro,rws,hA⟩,hG,hq,fun p hp h0 hlev=> ?_⟩;have st:Sx.Step n m (Ts L) p q:=⟨hp,hq,hn,he,h0,hlev⟩;refine⟨_,rfl,o,H0,n,m,p,q,S,wt,Ts L,rfl,⟨dx',cl,co,ro,rws,hA⟩,hG,hp,hq,fun H2 hT2=> ?_⟩;have R2:=JM R st;have g2:=st.good Xz;obtain⟨dx2,cl2,co2,ro2,aaB,Z1⟩:=id hT2;have fin:∀(x:V) (H3:Hp),Same H2 H3->NcV n m (Sx.turn (Ts L) p q) x->LC K C o H0 n m S wt (k-1) [some (.ref o),some x] H3:=fun x H3 s3 hx=>by
    refine⟨_,_,_,L+1,x,R2,by omega,?_,rfl,?_⟩
    ·rw[aA (by omega)];exact hT2.sm s3
    ·rw[aA (by omega)];exact hx
   exact⟨_,rfl,o,dx2,_,rfl,Z1.at_,rfl,o,H0,n,m,S,wt,_,rfl,hT2,hS.tg g2,fun h H3 s3=>fin _ H3 s3 (.inl ⟨rfl,h⟩),fun q' H3 hq' hn' he' s3=>fin _ H3 s3 (.inr ⟨q',rfl,hq',hn',he'⟩)⟩
def YC(k:Nat)(i:Int)(r:Nat):Prop:=(i=(r:Int)/\r<=k)\/(i= -1/\r=k)
def yD(K:W.Frag)(C:Addr):Sp:=fun vs H Q _=>∃(o:Addr) (H0:Hp) (n m r c:Nat) (i j:Int) (S:Nat->Nat->Bool) (wt:Nat->Int) (T:Sx.Tab),vs=[.ref o,.int i,.int j]/\j6 K C H0 H o n m T/\TG n m S wt T/\YC m i r/\YC n j c/\
 ∀p H' u v,Same H H'->H' p=some (.tup [.int u,.int ((v:Nat):Int)])->Low (T.cell r c) T.over.toNat u v->Q (.ref p) H'
theorem Te{f f1 C:Addr}{fd d1:FuncData}(F:Fun K "fraction_at" "Tableau.fraction_at" V1 f fd)
  (Cc:Cls K C)(aY:NoAttr K C "cells")(cP:NoAttr K C "over")(aV:NoAttr K C "columns")(cg:NoAttr K C "rows")(D1:bO K mg "lowest" jE ["a","b"] f1 d1)(G1:FnOk P w K mg base CX0 2 f1 d1 ["a","b"] (DY K)):
  FnOk P w K mg base CX0 3 f fd ["self","row","column"] (yD K C):=by
 refine F.cT ["self","row","column"] fun cdv A outer s H vs Q E hr h=> ?_;obtain⟨o,H0,n,m,r,c,i,j,S,wt,T,rfl,⟨dx,cl,co,ro,rws,hT⟩,hG,hi,hj,qq⟩:=h;refine⟨_,(aZ (bQ (pc G1 hr D1 (aj (bx lK (bx lK (pL (pv 0) rfl) (pv 1)) (pv 2)) (aj (pL (pv 0) rfl) ak))))),?_⟩;have hri:∃a,atI (rws.map V.ref) i=some (.ref a)/\H a=some (.lst (aW n (T.cell r))):=by
  rcases hi with⟨rfl,h⟩|⟨rfl,rfl⟩
  ·obtain⟨a,_,h1,h2⟩:=hT.Gi h;exact⟨a,h1,h2⟩
  ·obtain⟨a,_,h1,h2⟩:=hT.WD;exact⟨a,h1,h2⟩
 have hcj:atI (aW n (T.cell r)) j=some (.int (T.cell r c)):=by
  rcases hj with⟨rfl,h⟩|⟨rfl,rfl⟩
  ·exact dY _ h
  ·exact qd _ _
 obtain⟨a,h1,h2⟩:=hri;have ho:=hG.over;refine⟨_,rfl,o,C,dx,_,_,rfl,hT.at_,Cc,aY,rfl,_,rfl,cl,_,_,_,rfl,rfl,SqL.of hT.cells,h1,_,rfl,a,_,_,_,rfl,rfl,SqL.of h2,hcj,?_⟩;refine⟨_,rfl,o,C,dx,_,_,rfl,hT.at_,Cc,cP,rfl,T.cell r c,T.over.toNat,?_,by omega,cC (show T.over.toNat<=39916800 by omega) (by decide),fun p H' u v s e l=>qq p H' u v s e l⟩;rw[show((T.over.toNat:Nat):Int)=T.over by omega];rfl
theorem zj{u:Int}{v b:Nat}(hb:0<b)(h:Low 0 1 u v):Low 0 b u v:=by
 have e:=h.eq;have hu:u=0:=by omega
 subst hu;have c:=h.cop;rw[show(0:Int).natAbs=0 from rfl,Nat.gcd_zero_left]at c;subst c;exact⟨by decide,rfl,by omega,aN _,hb,fun _=>Dv _⟩
def Ji(K:W.Frag)(C:Addr):Sp:=fun vs H Q _=>∃(o:Addr) (H0:Hp) (n m a:Nat) (S:Nat->Nat->Bool) (wt:Nat->Int) (T:Sx.Tab),vs=[.ref o,.int (a:Int)]/\j6 K C H0 H o n m T/\TG n m S wt T/\
 ∀p H' u v,Same H H'->H' p=some (.tup [.int u,.int ((v:Nat):Int)])->Low (Sx.Xs n m T a) T.over.toNat u v->Q (.ref p) H'
theorem S9{f f1 f2 C:Addr}{fd d1 d2:FuncData}(F:Fun K "price_of" "Tableau.price_of" zcp f fd)
  (Cc:Cls K C)(aY:NoAttr K C "cells")(cP:NoAttr K C "over")(aV:NoAttr K C "columns")(cg:NoAttr K C "rows")(D1:bO K mg "lowest" jE ["a","b"] f1 d1)(G1:FnOk P w K mg base CX0 2 f1 d1 ["a","b"] (DY K))(D2:Hy K C "fraction_at" "Tableau.fraction_at" V1 ["self","row","column"] f2 d2)(G2:FnOk P w K mg base CX0 3 f2 d2 ["self","row","column"] (yD K C)):
  FnOk P w K mg base CX0 4 f fd ["self","name"] (Ji K C):=by
 refine F.cT ["self","name"] fun cdv A outer s H vs Q E hr h=> ?_;obtain⟨o,H0,n,m,a,S,wt,T,rfl,⟨dx,cl,co,ro,rws,hT⟩,hG,qq⟩:=h;refine bh ?_;intro Y;refine⟨_,(aP (lC (iD (vh hr.units) (pv 1) (pL (pv 0) rfl) (by with_unfolding_all rfl)) (aZ (bQ (pc G1 hr D1 (aj aq (aj aq ak))))) lD) (aZ (bQ (pe_meth (pv 0) Cc D2.m G2 hr D2.b .nil pass0 (aj (pe_bm Iz wcp wcq qg (pL (pv 0) rfl) (aj (pv 1) ak)) (aj (pe_un yg aq) ak)))))),?_⟩;refine dH ?_;intro c2;have ho:=hG.over;refine⟨_,rfl,_,rfl,o,C,dx,_,_,rfl,hT.at_,Cc,cg,rfl,ro,_,_,.int (a:Int),rfl,.inl (SqL.of hT.rows),cI.ints _,.int _,yq _,rfl,(by show 0<=60;decide),_,rfl,?_⟩;rw[any_ints];refine ite2 (fun c=> ?_) (fun c=> ?_)
 ·have c':((a:Nat):Int)∉bR m T.row:=by
   intro hm;rw[eY hm]at c;cases c
  refine⟨0,1,rfl,by decide,by decide,fun p H' u v s e l=>qq p H' u v s e ?_⟩;rw[Sx.Qs fun r hr z=>c' (by
   have:=Du T.row hr;rw[z]at this;exact gZ this)]
  exact zj (by omega) l
 ·have c':((a:Nat):Int)∈bR m T.row:=by
   refine QB fun hm=>c ?_;rw[jx hm];rfl
  obtain⟨r,hr1,er⟩:=Im c';have hr0:r<m:=by rw[FW]at hr1;exact hr1
  have e0:=dD hr1;rw[er]at e0;have ea:T.row r=a:=by
   rw[Du _ hr0]at e0;exact Wm (rE e0)
  subst ea;refine⟨_,rfl,o,dx,_,rfl,hT.at_,rfl,_,rfl,o,C,dx,_,_,rfl,hT.at_,Cc,cg,rfl,.inl ⟨rfl,_,SqL.of hT.rows⟩,_,rfl,ro,bR m T.row,_,r,rfl,rfl,hT.rows,Du _ hr0,fun i hi e=> ?_,by rw[FW];have:=hG.Xc;omega,?_⟩
  ·rw[Du _ (by omega)]at e;have:=hG.good.JV i r (by omega) hr0 (Wm (rE e));omega
  ·refine⟨_,rfl,o,H0,n,m,r,n,_,_,S,wt,T,rfl,⟨dx,cl,co,ro,rws,hT⟩,hG,.inl ⟨rfl,cR hr0⟩,.inr ⟨rfl,rfl⟩,fun p H' u v s e l=>qq p H' u v s e ?_⟩;rw[hG.good.Qu hr0];exact l
def Jh(K:W.Frag)(C:Addr):Sp:=fun vs H Q _=>∃(o:Addr) (H0:Hp) (n m a:Nat) (S:Nat->Nat->Bool) (wt:Nat->Int) (T:Sx.Tab),vs=[.ref o,.int (a:Int)]/\j6 K C H0 H o n m T/\TG n m S wt T/\
 ∀p H' u v,Same H H'->H' p=some (.tup [.int u,.int ((v:Nat):Int)])->Low (Sx.Ys n m T a) T.over.toNat u v->Q (.ref p) H'
theorem S8{f f1 f2 C:Addr}{fd d1 d2:FuncData}(F:Fun K "share_of" "Tableau.share_of" zco f fd)
  (Cc:Cls K C)(aY:NoAttr K C "cells")(cP:NoAttr K C "over")(aV:NoAttr K C "columns")(cg:NoAttr K C "rows")(D1:bO K mg "lowest" jE ["a","b"] f1 d1)(G1:FnOk P w K mg base CX0 2 f1 d1 ["a","b"] (DY K))(D2:Hy K C "fraction_at" "Tableau.fraction_at" V1 ["self","row","column"] f2 d2)(G2:FnOk P w K mg base CX0 3 f2 d2 ["self","row","column"] (yD K C)):
  FnOk P w K mg base CX0 4 f fd ["self","name"] (Jh K C):=by
 refine F.cT ["self","name"] fun cdv A outer s H vs Q E hr h=> ?_;obtain⟨o,H0,n,m,a,S,wt,T,rfl,⟨dx,cl,co,ro,rws,hT⟩,hG,qq⟩:=h;refine bh ?_;intro Y;refine⟨_,(aP (lC (iD (vh hr.units) (pv 1) (pL (pv 0) rfl) (by with_unfolding_all rfl)) (aZ (bQ (pc G1 hr D1 (aj aq (aj aq ak))))) lD) (aZ (bQ (pe_meth (pv 0) Cc D2.m G2 hr D2.b .nil pass0 (aj (pe_un yg aq) (aj (pe_bm Iz wcp wcq qg (pL (pv 0) rfl) (aj (pv 1) ak)) ak)))))),?_⟩;refine dH ?_;intro c2;have ho:=hG.over;refine⟨_,rfl,_,rfl,o,C,dx,_,_,rfl,hT.at_,Cc,aV,rfl,co,_,_,.int (a:Int),rfl,.inl (SqL.of hT.cols),cI.ints _,.int _,yq _,rfl,(by show 0<=60;decide),_,rfl,?_⟩;rw[any_ints];refine ite2 (fun c=> ?_) (fun c=> ?_)
 ·have c':((a:Nat):Int)∉bR n T.col:=by
   intro hm;rw[eY hm]at c;cases c
  refine⟨0,1,rfl,by decide,by decide,fun p H' u v s e l=>qq p H' u v s e ?_⟩;rw[Sx.V4 fun r hr z=>c' (by
   have:=Du T.col hr;rw[z]at this;exact gZ this)]
  exact zj (by omega) l
 ·have c':((a:Nat):Int)∈bR n T.col:=by
   refine QB fun hm=>c ?_;rw[jx hm];rfl
  obtain⟨r,hr1,er⟩:=Im c';have hr0:r<n:=by rw[FW]at hr1;exact hr1
  have e0:=dD hr1;rw[er]at e0;have ea:T.col r=a:=by
   rw[Du _ hr0]at e0;exact Wm (rE e0)
  subst ea;refine⟨_,rfl,o,dx,_,rfl,hT.at_,rfl,_,rfl,_,rfl,o,C,dx,_,_,rfl,hT.at_,Cc,aV,rfl,.inl ⟨rfl,_,SqL.of hT.cols⟩,_,rfl,co,bR n T.col,_,r,rfl,rfl,hT.cols,Du _ hr0,fun i hi e=> ?_,by rw[FW];have:=hG.n10;omega,?_⟩
  ·rw[Du _ (by omega)]at e;have:=hG.good.CP i r (by omega) hr0 (Wm (rE e));omega
  ·refine⟨o,H0,n,m,m,r,_,_,S,wt,T,rfl,⟨dx,cl,co,ro,rws,hT⟩,hG,.inr ⟨rfl,rfl⟩,.inl ⟨rfl,cR hr0⟩,fun p H' u v s e l=>qq p H' u v s e ?_⟩;rw[hG.good.V5 hr0];exact l
def gF(L:List (List Int))(k p:Nat):Bool:=decide (((p:Nat):Int)∈L.getD k [])
def qO(wl:List Int)(p:Nat):Int:=wl.getD p 0
theorem Sd{n m r:Nat}{L:List (List Int)}{wt:Nat->Int}(hr:r<m):((List.range n).map fun(p:Nat)=>if decide (((p:Nat):Int)∈L.getD r [])=true then(1:Int)else 0).map V.int++[.int 1]=aW n ((Sx.start n m (gF L) wt).cell r):=by
 unfold aW;rw[yu,cO,cO];congr 1
 ·refine lE _ (Ve fun c hc=> ?_);have hc':=pO.mp hc;show _=if r=m then _ else if c=n then(1:Int)else if gF L r c=true then 1 else 0
  rw[aA (show¬r=m by omega),aA (show¬c=n by omega)];rfl
 ·show[V.int 1]=[V.int (if r=m then _ else if n=n then(1:Int)else _)];rw[aA (by omega),aB rfl]
theorem NZ{m:Nat}{L:List (List Int)}{wl:List Int}:(wl.map fun x=> -x).map V.int++[.int 0]=aW wl.length ((Sx.start wl.length m (gF L) (qO wl)).cell m):=by
 unfold aW;rw[yu,cO,cO];congr 1
 ·refine lE _ (V9 fun i=> ?_);rw[dW,dW];by_cases hi:i<wl.length
  ·rw[dD hi,Wc hi];show some (-wl[i])=some (if m=m then(if i=wl.length then(0:Int)else -(wl.getD i 0))else _);rw[aB rfl,aA (by omega),iM,dD hi];rfl
  ·rw[Nj (by omega),Nj (by rw[rC];omega)];rfl
 ·show[V.int 0]=[V.int (if m=m then(if wl.length=wl.length then(0:Int)else _)else _)];rw[aB rfl,aB rfl]
theorem _root_.L2.SqT.aad{H:Hp}{a o C dx:Addr}{fs:List (Str×V)}{u:HO}{xs:List V}(hO:H o=some (.ins C dx fs))(h:SqT K H a xs):SqT K (upd H o u) a xs:=by
 rcases h with(h|⟨ob,h⟩)|h
 ·exact .inl (.inl (by rw[cD (ne_of h hO fun e=>nomatch e)];exact h))
 ·exact .inl (.inr ⟨ob,by rw[cD (ne_of h hO fun e=>nomatch e)];exact h⟩)
 ·exact .inr h
def Bj(K:W.Frag)(C:Addr):Sp:=fun vs H Q _=>∃(o dx sl wa:Addr) (H0:Hp) (its:List (Addr×List Int)) (wl:List Int),vs=[.ref o,.ref sl,.ref wa]/\H o=some (.ins C dx [])/\Same H0 H/\H0 o=none/\H sl=some (.lst (its.map fun p=>V.ref p.1))/\(∀p∈its,SqT K H p.1 (p.2.map V.int))/\SqT K H wa (wl.map V.int)/\wl.length<=10/\its.length<=40/\
 ∀H',j6 K C H0 H' o wl.length its.length (Sx.start wl.length its.length (gF (its.map (·.2))) (qO wl))->Q .non H'
theorem Oa{f C:Addr}{fd:FuncData}(F:Fun K "__init__" "Tableau.__init__" gq f fd)
  (Cc:Cls K C)(aY:NoAttr K C "cells")(cP:NoAttr K C "over")(aV:NoAttr K C "columns")(cg:NoAttr K C "rows")(bf:mg "len"=none)(aH:mg "range"=none)(cM:mg "list"=none):
  FnOk P w K mg base CX0 1 f fd ["self","sets","wants"] (Bj K C):=by
 refine F.cT ["self","sets","wants","n"] fun cdv A outer s H vs Q E hr h=> ?_;obtain⟨o,dx,sl,wa,H0,its,wl,rfl,hO,hS0,h0,hS,hP,hW,hn,hm,qq⟩:=h;refine bh ?_;intro Y;refine⟨_,(aP (pS 3 (pB rA bf (aj (pv 2) ak))) (aP (ps_fld (pv 0) (pK ["some"] ["n"] [3] (pI (pv 1)) (pG 0) lM (aX rP (pK ["place"] ["some"] [0] (Aw rfl aH (aj (pv 1) ak)) (pG 0) lM (pe_ifExp (iD (eF K hr.units) (pv 0) (pv 1) (by with_unfolding_all rfl)) aq aq)) (qH (aj aq ak)))) rfl) (aP (yj (pe_bm Iz Qz Qy Qg (pL (pv 0) rfl) (aj (aX rP (pK ["want"] [] [] (dZ (pv 2)) (pG 0) lM (pe_un yg (pv 0))) (qH (aj aq ak))) ak))) (aP (ps_fld (pv 0) aq rfl) (aP (ps_fld (pv 0) (qK rfl rfl cM rfl aH (aj (pv 3) ak)) rfl) (aZ (ps_fld (pv 0) (v8 rfl rfl cM rfl aH (aj (pv 3) (aj (aX pJ (pv 3) (pB rA bf (aj (pv 1) ak))) ak))) rfl))))))),?_⟩;refine Q8 ?_;intro c6 c5 c4 c3 c2;refine⟨_,rfl,wa,_,rfl,.inr hW,fun _=> ?_⟩;rw[aJ];refine⟨_,rfl,sl,_,rfl,SqL.of hS,fun hz=> ?_⟩;let iB:Nat->List V->St->Hp->Prop:=fun i acc σ H'=>∃as:List Addr,acc=as.map V.ref/\as.length=i/\Same H H'/\(∀r a,as[r]? =some a->H' a=some (.lst (aW wl.length ((Sx.start wl.length its.length (gF (its.map (·.2))) (qO wl)).cell r))))/\∃o1,σ=[o1,some (.int (wl.length:Int))];refine vK (xs:=its.map fun p=>V.ref p.1) iB ⟨[],rfl,rfl,Same.refl _,fun r a e=>(nomatch e),_,rfl⟩ (fun i acc σ H' _ x=> ?_) (fun i acc σ H' _ x=> ?_) hz (fun i v acc σ H1 hv x=> ?_) (fun acc σ H1 x=> ?_)
 ·obtain⟨_,_,_,sm,_⟩:=x;exact sm.seq (SqL.of hS)
 ·obtain⟨as,rfl,hl,_⟩:=x;rw[aJ,hl];exact aN _
 ·obtain⟨as,rfl,hl,sm,has,o1,rfl⟩:=x;rw[dW]at hv;cases ev:its[i]? with
  |none=>rw[ev]at hv;cases hv
  |some it=>
   rw[ev]at hv;cases hv;have him:i<its.length:=(nH.mp ev).1;have hit:=hP it (gZ ev);have eg:(its.map (·.2)).getD i []=it.2:=by rw[iM,dW,ev];rfl
   refine⟨_,rfl,_,rfl,by omega,by omega,?_⟩;let oV:Nat->List V->St->Hp->Prop:=fun c acc σ H'=>acc=((List.range c).map fun(p:Nat)=>if decide (((p:Nat):Int)∈it.2)=true then(1:Int)else 0).map V.int/\H'=H1/\∃o2,σ=[o2,some (.ref it.1)];refine Qh (n:=wl.length) oV ⟨rfl,rfl,_,rfl⟩ (fun c acc σ H' hc y=> ?_) (by rw[eX];omega) (fun c acc σ H' hc y=> ?_) (fun acc σ H' y=> ?_)
   ·rw[y.1,aJ,aJ,rC];exact aN _
   ·obtain⟨rfl,rfl,o2,rfl⟩:=y;refine⟨_,rfl,_,rfl,it.1,_,_,.int (0+(c:Int)),rfl,.inr (sm.tup hit),cI.ints _,.int _,yq _,rfl,(by show 0<=60;decide),_,rfl,?_⟩;rw[any_ints,Mq];refine ite2 (fun z=> ?_) (fun z=> ?_)
    ·exact⟨by rw[yu,cO,cO];show _=_++[V.int (if _ then _ else _)];rw[aB z],rfl,_,rfl⟩
    ·exact⟨by rw[yu,cO,cO];show _=_++[V.int (if _ then _ else _)];rw[aA z],rfl,_,rfl⟩
   ·intro p1 hp1;obtain⟨rfl,rfl,_⟩:=y;have s1:=aG hp1 (.lst (((List.range wl.length).map fun(p:Nat)=>if decide (((p:Nat):Int)∈it.2)=true then(1:Int)else 0).map V.int));refine⟨(by show 1<=sizeLine;decide),fun p2 hp2=> ?_⟩;have s2:=aG hp2 (.lst [.int 1]);refine⟨p1,p2,_,_,rfl,rfl,s2 _ _ aD,aD,(by rw[aJ,aJ,rC,eX];show _+1<=_;omega),fun p3 hp3=> ?_⟩;have s3:=aG hp3 (.lst (((List.range wl.length).map fun(p:Nat)=>if decide (((p:Nat):Int)∈it.2)=true then(1:Int)else 0).map V.int++[.int 1]));have yM:=s1.trans (s2.trans s3);refine⟨as++[p3],by rw[cO];rfl,by rw[gD,hl];rfl,sm.trans yM,fun r a e=> ?_,_,rfl⟩;rw[wdf]at e;by_cases c:r<as.length
    ·rw[aB c]at e;exact yM _ _ (has r a e)
    ·rw[aA c]at e;have Yl:r-as.length=0:=by
      have:=(nH.mp e).1;have:r-as.length<1:=this;omega
     rw[Yl]at e;cases e;have:r=i:=by omega
     subst this;rw[aD,<-Sd (wt:=qO wl) him,eg]
 ·intro p1 hp1;obtain⟨as,rfl,hl,sm,has,_⟩:=x;rw[aJ]at hl;have s1:=aG hp1 (.lst (as.map V.ref));have hO1:=(sm.trans s1) _ _ hO;refine⟨_,rfl,o,C,dx,_,rfl,hO1,Cc,aY,(by show 0<1000;decide),?_⟩
  -- what lies beside the object
  have np:p1≠o:=(rB (sm _ _ hO) hp1).symm;have h10:H p1=none:=sm.none hp1;have Ly:∀r a,as[r]? =some a->a≠o/\a≠p1:=fun r a e=>⟨fun z=>(by have y:=has r a e;rw[z,sm _ _ hO]at y;cases y),fun z=>(by have y:=has r a e;rw[z,hp1]at y;cases y)⟩;have W2:SqT K (upd (upd H1 p1 (.lst (as.map V.ref))) o (.ins C dx (putF "cells" (.ref p1) []))) wa (wl.map V.int):=((sm.trans s1).tup hW).aad hO1;have S2:(upd (upd H1 p1 (.lst (as.map V.ref))) o (.ins C dx (putF "cells" (.ref p1) []))) sl=some (.lst (its.map fun p=>V.ref p.1)):=by
   rw[cD (ne_of ((sm.trans s1) _ _ hS) hO1 fun e=>nomatch e)];exact(sm.trans s1) _ _ hS
  have A2:∀r a,as[r]? =some a->(upd (upd H1 p1 (.lst (as.map V.ref))) o (.ins C dx (putF "cells" (.ref p1) []))) a=some (.lst (aW wl.length ((Sx.start wl.length its.length (gF (its.map (·.2))) (qO wl)).cell r))):=fun r a e=>by
   rw[cD (Ly r a e).1];exact s1 _ _ (has r a e)
  have P2:(upd (upd H1 p1 (.lst (as.map V.ref))) o (.ins C dx (putF "cells" (.ref p1) []))) p1=some (.lst (as.map V.ref)):=by rw[cD np,aD]
  have O2:(upd (upd H1 p1 (.lst (as.map V.ref))) o (.ins C dx (putF "cells" (.ref p1) []))) o=some (.ins C dx [("cells",.ref p1)]):=aD;have Z2:Same H0 (upd (upd H1 p1 (.lst (as.map V.ref))) o (.ins C dx (putF "cells" (.ref p1) []))):=Same.uF (hS0.trans (sm.trans s1)) h0;generalize (upd (upd H1 p1 (.lst (as.map V.ref))) o (.ins C dx (putF "cells" (.ref p1) [])))=H2 at *;refine⟨_,rfl,o,C,dx,_,_,rfl,O2,Cc,aY,rfl,.inl ⟨rfl,_,SqL.of P2⟩,_,rfl,wa,_,rfl,W2,fun hz2=> ?_⟩;let ud:Nat->List V->St->Hp->Prop:=fun i acc σ H'=>acc=((wl.take i).map fun x=> -x).map V.int/\H'=H2/\∃o2,σ=[o2];refine Mj (xs:=wl.map V.int) ud ⟨rfl,rfl,_,rfl⟩ (fun i acc σ H' _ y=>by rw[y.2.1];exact W2) (fun i acc σ H' _ y=> ?_) hz2 (fun i v acc σ H' hv y=> ?_) (fun acc σ H' y=> ?_)
  ·rw[y.1,aJ,aJ,xU];exact Ax _ _
  ·obtain⟨rfl,rfl,o2,rfl⟩:=y;rw[dW]at hv;cases ev:wl[i]? with
   |none=>rw[ev]at hv;cases hv
   |some x=>
    rw[ev]at hv;cases hv;exact⟨_,rfl,_,rfl,by rw[HS,ev,cO,cO];rfl,rfl,_,rfl⟩
  intro p2 hp2;obtain⟨rfl,rfl,_⟩:=y;rw[aJ,vL];have s2:=aG hp2 (.lst ((wl.map fun x=> -x).map V.int));refine⟨(by show 1<=sizeLine;decide),fun p3 hp3=> ?_⟩;have s3:=aG hp3 (.lst [.int 0]);refine⟨p2,p3,_,_,rfl,rfl,s3 _ _ aD,aD,(by rw[aJ,aJ,eX];show _+1<=_;omega),fun p4 hp4=> ?_⟩;have s4:=aG hp4 (.lst ((wl.map fun x=> -x).map V.int++[.int 0]));have Vv:=s2.trans (s3.trans s4);rw[NZ (m:=its.length) (L:=its.map (·.2))]at Vv s4⊢;have e4:(upd (upd (upd H' p2 (.lst ((wl.map fun x=> -x).map V.int))) p3 (.lst [.int 0])) p4 (.lst (aW wl.length ((Sx.start wl.length its.length (gF (its.map (·.2))) (qO wl)).cell its.length)))) p4=some (.lst (aW wl.length ((Sx.start wl.length its.length (gF (its.map (·.2))) (qO wl)).cell its.length))):=aD;have n4:p4≠p1:=(rB (s3 _ _ (s2 _ _ P2)) hp4).symm;have n4o:p4≠o:=(rB (s3 _ _ (s2 _ _ O2)) hp4).symm;have P3:=Vv _ _ P2;have O3:=Vv _ _ O2;have S3:=Vv _ _ S2;have Z3:=Z2.trans Vv;have A3:∀r a,as[r]? =some a->_:=fun r a e=>Vv _ _ (A2 r a e);generalize (upd (upd (upd H' p2 (.lst ((wl.map fun x=> -x).map V.int))) p3 (.lst [.int 0])) p4 (.lst (aW wl.length ((Sx.start wl.length its.length (gF (its.map (·.2))) (qO wl)).cell its.length))))=H3 at *;refine⟨p1,_,_,rfl,rfl,P3,(by rw[aJ,eX];omega),?_⟩
  -- all rows
  have h1n:H0 p1=none:=hS0.none h10;have nos:o≠p1:=np.symm;have nsl:sl≠p1:=(rB hS h10);have C4:(upd H3 p1 (.lst (as.map V.ref++[.ref p4]))) p1=some (.lst ((as++[p4]).map V.ref)):=by rw[aD,cO];rfl
  have O4:(upd H3 p1 (.lst (as.map V.ref++[.ref p4]))) o=some (.ins C dx [("cells",.ref p1)]):=by rw[cD nos];exact O3
  have S4:(upd H3 p1 (.lst (as.map V.ref++[.ref p4]))) sl=some (.lst (its.map fun p=>V.ref p.1)):=by rw[cD nsl];exact S3
  have Z4:Same H0 (upd H3 p1 (.lst (as.map V.ref++[.ref p4]))):=Same.uF Z3 h1n;have R4:∀r a,(as++[p4])[r]? =some a->(upd H3 p1 (.lst (as.map V.ref++[.ref p4]))) a=some (.lst (aW wl.length ((Sx.start wl.length its.length (gF (its.map (·.2))) (qO wl)).cell r)))/\a≠o:=fun r a e=>by
   rw[wdf]at e;by_cases c:r<as.length
   ·rw[aB c]at e;refine⟨?_,(Ly r a e).1⟩;rw[cD (Ly r a e).2];exact A3 r a e
   ·rw[aA c]at e;have Yl:r-as.length=0:=by
     have:=(nH.mp e).1;have:r-as.length<1:=this;omega
    rw[Yl]at e;cases e;have:r=its.length:=by omega
    subst this;refine⟨?_,n4o⟩;rw[cD n4];exact e4
  generalize (upd H3 p1 (.lst (as.map V.ref++[.ref p4])))=H4 at *;refine⟨_,rfl,o,C,dx,_,rfl,O4,Cc,cP,(by show 1<1000;decide),?_⟩;have O5:(upd H4 o (.ins C dx (putF "over" (.int 1) [("cells",.ref p1)]))) o=some (.ins C dx [("cells",.ref p1),("over",.int 1)]):=aD;have k5:∀b u,b≠o->H4 b=some u->(upd H4 o (.ins C dx (putF "over" (.int 1) [("cells",.ref p1)]))) b=some u:=fun b u hb e=>by rw[cD hb];exact e
  have nso:sl≠o:=ne_of S4 O4 fun e=>nomatch e
  have C5:=k5 _ _ np C4;have S5:=k5 _ _ nso S4;have Z5:Same H0 (upd H4 o (.ins C dx (putF "over" (.int 1) [("cells",.ref p1)]))):=Same.uF Z4 h0;have R5:∀r a,(as++[p4])[r]? =some a->_:=fun r a e=>k5 _ _ (R4 r a e).2 (R4 r a e).1;generalize (upd H4 o (.ins C dx (putF "over" (.int 1) [("cells",.ref p1)])))=H5 at *;refine⟨_,rfl,(wl.length:Int),rfl,by omega,by omega,fun co hco=> ?_⟩;have s6:=aG hco (.lst (jA (wl.length:Int).toNat));have O6:=s6 _ _ O5;refine⟨_,rfl,o,C,dx,_,rfl,O6,Cc,aV,(by show 2<1000;decide),?_⟩;have nco:co≠o:=(rB O5 hco).symm;have k7:∀b u,b≠o->(upd H5 co (.lst (jA (wl.length:Int).toNat))) b=some u->(upd (upd H5 co (.lst (jA (wl.length:Int).toNat))) o (.ins C dx (putF "columns" (.ref co) [("cells",.ref p1),("over",.int 1)]))) b=some u:=fun b u hb e=>by rw[cD hb];exact e
  have O7:(upd (upd H5 co (.lst (jA (wl.length:Int).toNat))) o (.ins C dx (putF "columns" (.ref co) [("cells",.ref p1),("over",.int 1)]))) o=some (.ins C dx [("cells",.ref p1),("over",.int 1),("columns",.ref co)]):=aD;have C7:=k7 _ _ np (s6 _ _ C5);have S7:=k7 _ _ nso (s6 _ _ S5);have L7:=k7 _ _ nco aD;have R7:∀r a,(as++[p4])[r]? =some a->_:=fun r a e=>k7 _ _ (R4 r a e).2 (s6 _ _ (R5 r a e));have Z7:Same H0 (upd (upd H5 co (.lst (jA (wl.length:Int).toNat))) o (.ins C dx (putF "columns" (.ref co) [("cells",.ref p1),("over",.int 1)]))):=Same.uF (Z5.trans s6) h0;have c0:H0 co=none:=Z5.none hco;have ncr:co∉as++[p4]:=fun hm=>by
   obtain⟨r,hr1,e⟩:=Im hm;have:=R5 r _ (dD hr1);rw[e,hco]at this;cases this
  generalize (upd (upd H5 co (.lst (jA (wl.length:Int).toNat))) o (.ins C dx (putF "columns" (.ref co) [("cells",.ref p1),("over",.int 1)])))=H7 at *;refine⟨_,rfl,_,rfl,_,rfl,sl,_,rfl,.inl (SqL.of S7),fun _=>⟨_,_,rfl,rfl,_,_,rfl,by omega,?_,?_,fun ro Xo=> ?_⟩⟩
  ·rw[aJ];omega
  ·rw[aJ];omega
  rw[aJ];have s8:=aG Xo (.lst ((nZ (wl.length:Int) ((wl.length:Int)+(its.length:Int)-(wl.length:Int)).toNat).map V.int));have O8:=s8 _ _ O7;refine⟨_,rfl,o,C,dx,_,rfl,O8,Cc,cg,(by show 3<1000;decide),?_⟩;have nro:ro≠o:=(rB O7 Xo).symm;have k9:∀b u,b≠o->(upd H7 ro (.lst ((nZ (wl.length:Int) ((wl.length:Int)+(its.length:Int)-(wl.length:Int)).toNat).map V.int))) b=some u->(upd (upd H7 ro (.lst ((nZ (wl.length:Int) ((wl.length:Int)+(its.length:Int)-(wl.length:Int)).toNat).map V.int))) o (.ins C dx (putF "rows" (.ref ro) [("cells",.ref p1),("over",.int 1),("columns",.ref co)]))) b=some u:=fun b u hb e=>by rw[cD hb];exact e
  refine qq _ ⟨dx,p1,co,ro,as++[p4],Same.uF (Z7.trans s8) h0,h0,h1n,c0,Z7.none Xo,rB L7 Xo,ncr,fun hm=> ?_,aD,k9 _ _ np (s8 _ _ C7),by rw[gD,hl];rfl,fun r a e=>k9 _ _ (R4 r a e).2 (s8 _ _ (R7 r a e)),?_,?_⟩
  ·obtain⟨r,hr1,e⟩:=Im hm;have:=R7 r _ (dD hr1);rw[e,Xo]at this;cases this
  ·rw[k9 _ _ nco (s8 _ _ L7)];congr 2;unfold jA bR;rw[Ql,show(wl.length:Int).toNat=wl.length by omega];rfl
  ·rw[k9 _ _ nro aD];congr 2;unfold nZ bR;rw[show((wl.length:Int)+(its.length:Int)-(wl.length:Int)).toNat=its.length by omega];refine lE _ (Ve fun k _=> ?_);show(wl.length:Int)+(k:Int)=((wl.length+k:Nat):Int);omega
end
def aO(a:Int)(b:Nat):Int×Nat:=(a/((Nat.gcd a.natAbs b:Nat):Int),b/Nat.gcd a.natAbs b)
theorem FJ(a:Int){b:Nat}(hb:0<b):Low a b (aO a b).1 (aO a b).2:=Ce a b hb
theorem Kr{a:Int}{b:Nat}{u u':Int}{v v':Nat}(hb:0<b)(h:Low a b u v)(h':Low a b u' v'):u=u'/\v=v':=by
 have e1:=h.eq;have e2:=h'.eq;have bi:(0:Int)<(b:Int):=by omega
 have cr:u*(v':Int)=u'*(v:Int):=by
  refine yek (a:=(b:Int)) (by omega) ?_;have x:(b:Int)*(u*(v':Int))=u*(b:Int)*(v':Int):=by grind
  have y:(b:Int)*(u'*(v:Int))=u'*(b:Int)*(v:Int):=by grind
  rw[x,y,e1,e2];grind
 have cn:u.natAbs*v'=u'.natAbs*v:=by
  have:=lE Int.natAbs cr
  rwa [V6,V6,Wa,Wa]at this
 have d1:v∣v':=by
  have:v∣u.natAbs*v':=by rw[cn];exact Vc _ _
  exact(Zv h.cop).dvd_of_dvd_mul_left this
 have d2:v'∣v:=by
  have:v'∣u'.natAbs*v:=by rw[<-cn];exact Vc _ _
  exact(Zv h'.cop).dvd_of_dvd_mul_left this
 have ev:=Nat.dvd_antisymm d1 d2;subst ev;refine⟨?_,rfl⟩;have hv:=h.pos;exact Y6 (a:=(v:Int)) (by omega) cr
theorem wG{a:Int}{b:Nat}{u:Int}{v:Nat}(hb:0<b)(h:Low a b u v):(u,v)=aO a b:=by
 obtain⟨e1,e2⟩:=Kr hb h (FJ a hb);rw[e1,e2]
theorem sV{x y:Int}(h:0<x*y)(hy:0<y):0<x:=by
 refine Int.not_le.mp fun hn=> ?_;have:=yt (a:= -x) (b:=y) (by omega) (by omega)
 grind
theorem Ku{a:Int}{b:Nat}(hb:0<b):0<(aO a b).1↔0<a:=by
 have l:=FJ a hb;have e:=l.eq;have hv:(0:Int)<((aO a b).2:Int):=by have:=l.pos;omega
 have bi:(0:Int)<(b:Int):=by omega
 constructor
 ·intro h;have:0<(aO a b).1*(b:Int):=Vi h bi;rw[e]at this;exact sV this hv
 ·intro h;have:0<a*((aO a b).2:Int):=Vi h hv;rw[<-e]at this;exact sV this bi
structure Sh(n:Nat)(L:List (List Int))(wl:List Int)(ov:Nat)(Z:Int)(Y X:Nat->Int):Prop where
 pos:0<ov
 big:ov<=39916800
 yn:∀k,0<=Y k
 xn:∀p,0<=X p
 tot:Sx.sm L.length Y=Z
 eno:∀p,p<n->(ov:Int)*qO wl p<=Sx.sm L.length fun k=>if gF L k p=true then Y k else 0
 lig:∀k,k<L.length->(Sx.sm n fun p=>if gF L k p=true then X p else 0)<=(ov:Int)
 Y9:(Sx.sm n fun p=>qO wl p*X p)=Z
theorem Wx{n:Nat}{L:List (List Int)}{wl:List Int}{T:Sx.Tab}(hg:TG n L.length (gF L) (qO wl) T)(hz:∀c,c<n->0<=T.cell L.length c):
  Sh n L wl T.over.toNat (T.cell L.length n) (fun k=>Sx.Ys n L.length T (n+k)) (fun p=>Sx.Xs n L.length T p):=by
 have ho:=hg.over;have eo:((T.over.toNat:Nat):Int)=T.over:=by omega
 refine⟨by omega,by omega,fun k=>Sx.Qk hz _,fun p=>hg.good.Qt _,hg.good.total,fun p hp=> ?_,fun k hk=> ?_,hg.good.prices⟩
 ·rw[eo,hg.good.enough hp];have:=Sx.Qk hz p;omega
 ·rw[eo];exact hg.good.light hk
theorem Lr{ts:L0}{n:Nat}{ss:List (List Int)}(h:cH ss ts false n){p:Nat}(hp:p<n):∃k,k<ss.length/\gF ss k p=true:=by
 have sk:qx ts false n [(p:Int)]:=⟨wco _ _,fun x hx=>by rw[ji.mp hx];omega,fun x hx y hy hn=>absurd ((ji.mp hx).trans (ji.mp hy).symm) hn⟩;obtain⟨t,ht,hx⟩:=zM sk;have ht':=h.1.mem_iff.mpr ht;obtain⟨k,hk,rfl⟩:=Im ht';refine⟨k,hk,?_⟩;unfold gF;rw[iM,dD hk];exact eY (hx _ nG)
theorem Bm{ts:L0}{n:Nat}{ss:List (List Int)}(h:cH ss ts false n)(hn:n<=10):ss.length<=36:=by rw[h.1.length_eq];exact vA hn
def Fd(ss:List (List Int))(ov:Nat)(Y:Nat->Int):List (List Int×(Int×Nat)):=((List.range ss.length).filter fun k=>decide (0<Y k)).map fun k=>(ss.getD k [],aO (Y k) ov)
def J0(n ov:Nat)(X:Nat->Int):List (Int×Nat):=(List.range n).map fun p=>aO (X p) ov
section
variable{K:W.Frag}
def xG(K:W.Frag)(H:Hp)(a:Addr)(f:Int×Nat):Prop:=SqT K H a [.int f.1,.int ((f.2:Nat):Int)]
def LK(K:W.Frag)(H:Hp)(v:V)(q:List Int×(Int×Nat)):Prop:=∃t sa fa,v= .ref t/\SqT K H t [.ref sa,.ref fa]/\SqT K H sa (q.1.map V.int)/\xG K H fa q.2
def iC(K:W.Frag)(H:Hp):List V->List (List Int×(Int×Nat))->Prop:=Paired (LK K H)
def bW(K:W.Frag)(H:Hp):List V->List (Int×Nat)->Prop:=Paired fun v f=>∃a,v= .ref a/\xG K H a f
theorem LK.same{H H':Hp}{v:V}{q:List Int×(Int×Nat)}(h:LK K H v q)(s:Same H H'):LK K H' v q:=by
 obtain⟨t,sa,fa,e,h1,h2,h3⟩:=h;exact⟨t,sa,fa,e,s.tup h1,s.tup h2,s.tup h3⟩
theorem iC.same{H H':Hp}{vs:List V}{l:List (List Int×(Int×Nat))}(h:iC K H vs l)(s:Same H H'):iC K H' vs l:=Paired.mapP h fun _ _ z=>z.same s
theorem bW.same{H H':Hp}{vs:List V}{l:List (Int×Nat)}(h:bW K H vs l)(s:Same H H'):bW K H' vs l:=Paired.mapP h fun _ _ ⟨a,e,z⟩=>⟨a,e,s.tup z⟩
theorem Paired.snoc{α β:Type}{R:α->β->Prop}:∀{l:List α} {m:List β} {a:α} {b:β},Paired R l m->R a b->Paired R (l++[a]) (m++[b])
 |_,_,_,_,.nil,h=> .cons h .nil
 |_,_,_,_,.cons r t,h=> .cons r (Paired.snoc t h)
theorem Paired.at_{α β:Type}{R:α->β->Prop}:∀{l:List α} {m:List β} {i:Nat} {a:α},Paired R l m->l[i]? =some a->∃b,m[i]? =some b/\R a b
 |_,_,_,_,.nil,e=>by simp at e
 |_,_,0,_,.cons r _,e=>by simp at e;subst e;exact⟨_,rfl,r⟩
 |_,_,i+1,a,.cons _ t,e=>by
  obtain⟨b,h1,h2⟩:=Paired.at_ (i:=i) (a:=a) t (by simpa using e);exact⟨b,by simpa using h1,h2⟩
theorem Paired.bV{α β:Type}{R:α->β->Prop}:∀{l:List α} {m:List β},Paired R l m->l.length=m.length
 |_,_,.nil=>rfl
 |_,_,.cons _ t=>by simp[Paired.bV t]
end
section
variable{P:Program}{w:World}{K:W.Frag}{mg:L4}{base:Heap}
def Ju(K:W.Frag):Sp:=fun vs H Q _=>∃(tp:Addr) (t m:Int),vs=[.ref tp,.int m]/\H tp=some (.lst [.int t])/\0<=m/\m<=10/\
 ∀r n ts H' t',bw tp H H'->H' tp=some (.lst [.int t'])->cB K H' r n ts->n<=m->Q (.ref r) H'
theorem Oi{f f1:Addr}{fd d1:FuncData}(F:Fun K "_law_aweb" "_law_aweb" mq f fd)(D1:bO K mg "_law_adigit" fU ["tape","many"] f1 d1)(G1:FnOk P w K mg base CX0 1 f1 d1 ["tape","many"] (Jr K))(aH:mg "range"=none)(bM:mg "tuple"=none):
  FnOk P w K mg base CX0 2 f fd ["tape","most"] (Ju K):=by
 refine F.cT ["tape","most","n","often","ties","i","j"] fun cdv A outer s H vs Q E hr h=> ?_;obtain⟨tp,t,m,rfl,hT,hm0,hm1,q⟩:=h;refine⟨_,(aP (pS 2 (pc G1 hr D1 (aj (pv 0) (aj (aX pJ (pv 1) aq) ak)))) (aP (pS 3 (aX pJ aq (pc G1 hr D1 (aj (pv 0) (aj aq ak))))) (aP (pS 4 (qH ak)) (aP (ux rD rfl (Aw rfl aH (aj (pv 2) ak)) (pG 5) (aZ (ux rD rfl (pi_range2 rfl aH (aj (aX pJ (pv 5) aq) (aj (pv 2) ak))) (pG 6) (aZ (lC (iD op_lt (pc G1 hr D1 (aj (pv 0) (aj aq ak))) (pv 3)) (aZ (yj (pe_bm Iz Qz Qy Qg (pv 4) (aj (fY (aj (pv 5) (aj (pv 6) ak))) ak)))) lD))))) (aZ (bQ (fY (aj (pv 2) (aj (pT call_tuple_of bM (aj (pv 4) ak)) ak))))))))),?_⟩;refine⟨_,rfl,_,rfl,_,_,rfl,rfl,tp,t,m+1,rfl,hT,by omega,by omega,fun n t1 hn0 hn1'=> ?_⟩;have hn1:n<=10:=by omega
 refine⟨_,rfl,tp,t1,5,rfl,aD,by decide,by decide,fun o t2 ho0 ho1=>⟨_,_,rfl,rfl,?_⟩⟩;refine⟨(by show 0<=sizeLine;decide),fun tl htl=> ?_⟩;have ntc:tl≠tp:=yZ (aD (H:=upd H tp (.lst [.int t1])) (a:=tp) (o:= .lst [.int t2])) htl;have s2:=aG htl (.lst []);have tl0:H tl=none:=by
  have z:∀t1 t2:Int,upd (upd H tp (.lst [.int t1])) tp (.lst [.int t2])=upd H tp (.lst [.int t2]):=fun _ _=>upd_upd;rw[z,cD ntc]at htl;exact htl
 refine⟨_,rfl,n,rfl,by omega,by omega,?_⟩;refine Ij (n:=n.toNat) (fun i σ H'=>bw tp H H'/\(∃t',H' tp=some (.lst [.int t']))/\gR K H' tl (rows tt n i) (fun _=>True)/\∃a4 a5,σ=[some (.ref tp),some (.int m),some (.int n),some (.int (1+o)),some (.ref tl),a4,a5])
  ⟨((bw.refl tp H).upd.upd).trans (s2.x _),⟨_,s2 _ _ aD⟩,gR.nil aD,_,_,rfl⟩ (fun i σ H' hi p=> ?_) (fun σ H' p=> ?_)
 ·obtain⟨x,⟨t0,c⟩,tl1,a4,a5,rfl⟩:=p;refine⟨_,rfl,_,_,rfl,rfl,_,rfl,_,_,rfl,⟨by omega,by omega,by omega,by omega⟩,?_⟩;refine Ij (n:=(n-(0+(i:Int)+1)).toNat) (fun k σ H'=>bw tp H H'/\(∃t',H' tp=some (.lst [.int t']))/\gR K H' tl (rows tt n i++row tt (0+(i:Int)) k) (fun _=>True)/\∃a5,σ=[some (.ref tp),some (.int m),some (.int n),some (.int (1+o)),some (.ref tl),some (.int (0+(i:Int))),a5])
   ⟨x,⟨_,c⟩,by rw[show row tt (0+(i:Int)) 0=[]from rfl,Ay];exact tl1,_,rfl⟩ (fun k σ H' hk p=> ?_) (fun σ H' p=> ?_)
  ·obtain⟨x,⟨t0,c⟩,tl1,a5,rfl⟩:=p;refine⟨_,rfl,tp,t0,6,rfl,c,by decide,by decide,fun d t2 hd0 hd1=>⟨_,rfl,_,_,rfl,rfl,_,rfl,?_⟩⟩;have x2:bw tp H' (upd H' tp (.lst [.int t2])):=(bw.refl _ _).upd;have c2:(upd H' tp (.lst [.int t2])) tp=some (.lst [.int t2]):=aD;have tl2:=tl1.step x2 c ntc;have er:rows tt n i++row tt (0+(i:Int)) (k+1)=(rows tt n i++row tt (0+(i:Int)) k)++[(0+(i:Int),0+(i:Int)+1+(k:Int))]:=by rw[JN,aB (show tt _ _=true from rfl),weo]
   rw[er];generalize upd H' tp (.lst [.int t2])=H2 at *;refine ite2 (fun cc=> ?_) (fun cc=> ?_)
   ·obtain⟨rs,ts,h1,h2,h3,h4⟩:=tl2;have hl:=sub_len hn1 (by omega) h3;have hrl:=h2.len;rw[aJ]at hrl;refine⟨_,rfl,.inl ⟨rfl,_,SqL.of h1⟩,_,rfl,_,rfl,(by show 2<=sizeLine;decide),fun p hp=> ?_⟩;have s3:=aG hp (.tup [.int (0+(i:Int)),.int (0+(i:Int)+1+(k:Int))]);refine⟨tl,rs,_,rfl,rfl,s3 _ _ h1,(by rw[eX];omega),?_⟩;have xw:bw tl (upd H2 p (.tup [.int (0+(i:Int)),.int (0+(i:Int)+1+(k:Int))])) (upd (upd H2 p (.tup [.int (0+(i:Int)),.int (0+(i:Int)+1+(k:Int))])) tl (.lst (rs++[.ref p]))):=(bw.refl _ _).upd;refine⟨fun q o hq e=> ?_,⟨t2,xw _ _ ntc.symm (s3 _ _ c2)⟩,gR.push (s3 _ _ h1) (h2.same s3) h3 h4 (SqT.of aD) trivial,_,rfl⟩;have nq:q≠tl:=fun z=>by rw[z,tl0]at e;cases e
    exact xw _ _ nq (s3 _ _ (x2 _ _ hq (x _ _ hq e)))
   ·exact⟨x.trans x2,⟨_,c2⟩,tl2.mono (List.sublist_append_left _ _),_,rfl⟩
  ·obtain⟨x,c,tl1,a5,rfl⟩:=p;rw[<-qb]at tl1;exact⟨x,c,tl1,_,_,rfl⟩
 ·obtain⟨x,⟨t0,c⟩,⟨rs,ts,h1,h2,h3,h4⟩,a4,a5,rfl⟩:=p;refine⟨_,rfl,_,rfl,tl,rs,rfl,.inl ⟨SqL.of h1,fun t ht=>⟨(by show 2<=sizeLine;decide),fun wb hwb=> ?_⟩⟩⟩;have s3:=aG ht (.tup rs);have s4:=aG hwb (.tup [.int n,.ref t]);have s34:=s3.trans s4;obtain⟨g1,g2⟩:=Az hn0 hn1 h3;exact q wb n ts _ t0 (x.trans (s34.x _)) (s34 _ _ c) ⟨⟨t,rs,SqT.of aD,SqT.of (s4 _ _ aD),h2.same s34⟩,hn0,hn1,g1,g2⟩ (by omega)
def j5(n:Int)(wl:List Int):Prop:=(wl.length:Int)=n/\∀x∈wl,0<=x/\x<=99
theorem all_true(k:Nat):(List.replicate k true).all id=true:=by
 rw[nF];intro b hb;rw[(List.mem_replicate.mp hb).2];rfl
def gK(K:W.Frag):Sp:=fun vs H Q _=>∃(a wa:Addr) (n:Int) (t:V) (wl:List Int),vs=[.ref a,.ref wa]/\SqT K H a [.int n,t]/\SqT K H wa (wl.map V.int)/\j5 n wl/\∀H',Same H H'->Q .non H'
theorem wj{f f1:Addr}{fd d1:FuncData}{tk0:Tok}(F:Fun K "need_wants" "need_wants" VP f fd)(D1:bO K mg "is_whole" dN ["thing"] f1 d1)(G1:FnOk P w K mg base CX0 1 f1 d1 ["thing"] (gJ K))(bf:mg "len"=none)(au:mg "isinstance"=none)(bM:mg "tuple"=none)(oF:mg "all"=none)(zf:mg "MOST_WANT"=some (.int 99 tk0)):
  FnOk P w K mg base CX0 2 f fd ["web","thing"] (gK K):=by
 refine F.cT ["web","thing"] fun cdv A outer s H vs Q E hr h=> ?_;obtain⟨a,wa,n,t,wl,rfl,hA,hW,⟨hl,hb⟩,qq⟩:=h;refine bh ?_;intro Y;refine⟨_,(aP (lC (PW.pt (pw_or (nA (lW (pB yp au (aj (pv 1) (aj (pN "tuple" bM) ak))))) (pw_or1 (iD op_ne (pB rA bf (aj (pv 1) ak)) (bx fM (pv 0) aq))))) pss_never lD) (aZ (lC (nA (lW (pB (eV rfl) oF (aj (pK ["want"] [] [] (dZ (pv 1)) (pG 0) lM (xO (pc G1 hr D1 (aj (pv 0) ak)) (yd (pe_chain op_le op_le aq (pv 0) (pe_glob rfl zf (v:= .int 99) ⟨_,rfl⟩))))) ak)))) pss_never lD))),?_⟩;refine dH ?_;intro c2;refine⟨_,rfl,.ref wa,"tuple",_,rfl,.inl ⟨rfl,_,hW⟩,.inr (.inr (.inl rfl)),_,rfl,?_⟩;refine iteF ?_;refine⟨_,rfl,wa,_,rfl,.inr hW,fun hz=>⟨_,rfl,a,_,_,.int n,rfl,rfl,hA,rfl,rfl,_,rfl,?_⟩⟩;have e1:(!decide (V.int (((wl.map V.int).length:Nat):Int)=V.int n))=false:=by rw[aJ,hl];simp
 rw[e1];refine iteF ?_;refine⟨_,rfl,wa,_,rfl,hW,fun hz=> ?_⟩;let iB:Nat->List V->St->Hp->Prop:=fun i acc σ H'=>acc=(List.replicate i true).map V.bl/\H'=H/\∃o,σ=[o];refine Mj (xs:=wl.map V.int) iB ⟨rfl,rfl,_,rfl⟩ (fun i acc σ H' _ p=>by rw[p.2.1];exact hW) (fun i acc σ H' _ p=>by rw[p.1,aJ,wfm];exact aN _) hz (fun i x acc σ H' hx p=> ?_) (fun acc σ H' p=> ?_)
 ·obtain⟨rfl,rfl,o,rfl⟩:=p;rw[dW]at hx;cases ex:wl[i]? with
  |none=>rw[ex]at hx;cases hx
  |some y=>
   rw[ex]at hx;cases hx;have hy:=hb y (gZ ex);refine⟨_,rfl,.int y,.int y,rfl,.int _,_,rfl,iteT ?_⟩;refine⟨_,rfl,_,_,rfl,rfl,_,rfl,?_⟩;rw[eY hy.1];refine iteT ?_;refine⟨_,_,rfl,rfl,?_,rfl,_,rfl⟩;show _++[V.bl (decide (y<=99))]=_;rw[eY hy.2,List.replicate_succ',cO];rfl
 ·intro p1 hp1;obtain⟨rfl,rfl,_⟩:=p;refine⟨p1,_,rfl,SqL.of aD,_,rfl,?_⟩;rw[all_true];exact iteF (qq _ (aG hp1 _))
def yE(K:W.Frag):Sp:=fun vs H Q _=>∃(a wa:Addr) (n:Int) (ts:L0) (wl:List Int),vs=[.ref a,.ref wa]/\cB K H a n ts/\SqT K H wa (wl.map V.int)/\j5 n wl/\
 ∀(r va la pa:Addr) (lrefs aK:List V) (ss:List (List Int)) (ov:Nat) (Z:Int) (Y X:Nat->Int) H',Same H H'->H' r=some (.tup [.ref va,.ref la,.ref pa])->xG K H' va (aO Z ov)->H' la=some (.lst lrefs)->iC K H' lrefs (Fd ss ov Y)->H' pa=some (.lst aK)->bW K H' aK (J0 n.toNat ov X)->
  cH ss ts false n.toNat->Sh n.toNat ss wl ov Z Y X->H la=none->H pa=none->la≠pa->Q (.ref r) H'
theorem Gw{f f1 f2 f3 f4 f5 f6 f7 f8 C:Addr}{fd d1 d2 d3 d4 d5 d6 d7 d8:FuncData}(F:Fun K "shares" "shares" sH f fd)
  (Cc:Cls K C)(aY:NoAttr K C "cells")(cP:NoAttr K C "over")(aV:NoAttr K C "columns")(cg:NoAttr K C "rows")(ql:mg "Tableau"=some (.ref C))(D1:bO K mg "need_web" dJ ["thing"] f1 d1)(G1:FnOk P w K mg base CX0 7 f1 d1 ["thing"] (iH K))(D2:bO K mg "need_wants" VP ["web","thing"] f2 d2)(G2:FnOk P w K mg base CX0 2 f2 d2 ["web","thing"] (gK K))(D3:bO K mg "full_apart" fV ["web"] f3 d3)(G3:FnOk P w K mg base CX0 8 f3 d3 ["web"] (jB K))(D4:Hy K C "__init__" "Tableau.__init__" gq ["self","sets","wants"] f4 d4)(Mk4:Mk K C f4)(aaz:FnOk P w K mg base CX0 1 f4 d4 ["self","sets","wants"] (Bj K C))(D5:Hy K C "solve" "Tableau.solve" fG ["self"] f5 d5)(G5':FnOk P w K mg base CX0 3 f5 d5 ["self"] (Jg K C))(D6:Hy K C "share_of" "Tableau.share_of" zco ["self","name"] f6 d6)(G6':FnOk P w K mg base CX0 4 f6 d6 ["self","name"] (Jh K C))(D7:Hy K C "price_of" "Tableau.price_of" zcp ["self","name"] f7 d7)(G7':FnOk P w K mg base CX0 4 f7 d7 ["self","name"] (Ji K C))(D8:Hy K C "fraction_at" "Tableau.fraction_at" V1 ["self","row","column"] f8 d8)(G8':FnOk P w K mg base CX0 3 f8 d8 ["self","row","column"] (yD K C))(bJ:mg "enumerate"=none)(aH:mg "range"=none):
  FnOk P w K mg base CX0 9 f fd ["web","wants"] (yE K):=by
 have G4m:FnOk P w K mg base CX0 7 f4 d4 ["self","sets","wants"] (Bj K C):=aaz.mono (by decide);have G5:FnOk P w K mg base CX0 8 f5 d5 ["self"] (Jg K C):=G5'.mono (by decide);have G6:FnOk P w K mg base CX0 8 f6 d6 ["self","name"] (Jh K C):=G6'.mono (by decide);have G7:FnOk P w K mg base CX0 8 f7 d7 ["self","name"] (Ji K C):=G7'.mono (by decide);have G8:FnOk P w K mg base CX0 8 f8 d8 ["self","row","column"] (yD K C):=G8'.mono (by decide);refine F.cT ["web","wants","n","sets","tableau","given","laying","prices"] fun cdv A outer s H vs Q E hr h=> ?_;obtain⟨a,wa,n,ts,wl,rfl,hA,hW,hwl,qq⟩:=h;refine bh ?_;intro Y;refine⟨_,(aP (yj (pc G1 hr D1 (aj (pv 0) ak))) (aP (yj (pc G2 hr D2 (aj (pv 0) (aj (pv 1) ak)))) (aP (pS 2 (bx fM (pv 0) aq)) (aP (pS 3 (pc G3 hr D3 (aj (pv 0) ak))) (aP (pS 4 (pe_make Mk4 G4m hr rfl ql D4.b .nil pass0 (aj (pv 3) (aj (pv 1) ak)))) (aP (yj (pe_meth0 (pv 4) Cc D5.m G5 hr D5.b .nil pass0)) (aP (pX 5 ["k","some"] ["tableau","n"] [4,2] (oh rfl bJ (aj (pv 3) ak)) (eE K (n:=2) rfl (jq (pG 0) (jq (pG 1) xQ))) lM (fY (aj (pv 1) (aj (pe_meth (pv 2) Cc D6.m G6 hr D6.b .nil pass0 (aj (aX pJ (pv 3) (pv 0)) ak)) ak)))) (aP (pX 6 ["share"] [] [] (pI (pv 5)) (pG 0) (cW (iD op_gt (bx (xP K) (bx (xP K) (pv 0) aq) aq) aq)) (pv 0)) (aP (pX 7 ["place"] ["tableau"] [4] (Aw rfl aH (aj (pv 2) ak)) (pG 0) lM (pe_meth (pv 1) Cc D7.m G7 hr D7.b .nil pass0 (aj (pv 0) ak))) (aZ (bQ (fY (aj (pe_meth (pv 4) Cc D8.m G8 hr D8.b .nil pass0 (aj (pe_un yg aq) (aj (pe_un yg aq) ak))) (aj (pv 6) (aj (pv 7) ak))))))))))))))),?_⟩;refine T9 ?_;intro c10 c9 c8 c7 c6 c5 c4 c3 c2;have h0:=hA.h0;have h10:=hA.h1;refine⟨_,rfl,.ref a,_,rfl,hA.web.dv.dx,hA.ok,fun H1 s1=> ?_⟩;obtain⟨RQ,R9,w1,w2,w3⟩:=id (hA.same s1).web;refine⟨_,rfl,_,rfl,a,wa,n,_,wl,rfl,w1,s1.tup hW,hwl,fun H2 s2=> ?_⟩;have s12:=s1.trans s2;have Z1:=hA.same s12;obtain⟨tt2,rr2,x1,x2,x3⟩:=id Z1.web;refine⟨_,rfl,a,_,_,.int n,rfl,rfl,x1,rfl,?_⟩;refine⟨_,rfl,a,n,ts,rfl,Z1,fun sl ss H3 s3 Ue tK hsl=> ?_⟩;obtain⟨its,hS,hP,hss⟩:=Ue;have yM:=s12.trans s3;have hm:its.length=ss.length:=by rw[<-hss,aJ]
 have aaD:=Bm tK (by omega);have hwn:wl.length=n.toNat:=by have:=hwl.1;omega
 refine⟨_,rfl,_,rfl,fun o dx ho hdx hne=> ?_⟩;have sM:Same H3 (upd (upd H3 dx (.own o)) o (.ins C dx [])):=(aG hdx _).trans (aG (by rw[cD (lO hne)];exact ho) _);refine⟨o,dx,sl,wa,H3,its,wl,rfl,aD,sM,ho,sM _ _ hS,fun p hp=>sM.tup (hP p hp),sM.tup (yM.tup hW),by omega,by omega,fun H4 Vx=>⟨rfl,?_⟩⟩;rw[hss,hm,hwn]at Vx;have XD:Z9 n.toNat ss.length (gF ss) (qO wl):=by
  refine⟨by omega,by omega,fun p hp=> ?_,fun p hp=>Lr tK hp⟩;unfold qO;rw[iM,dD (by omega)];exact hwl.2 _ (Nb _)
 obtain⟨dx4,cl4,co4,ro4,rw4,hA4⟩:=id Vx;refine⟨_,rfl,o,dx4,_,rfl,hA4.at_,rfl,o,H3,n.toNat,ss.length,gF ss,qO wl,_,rfl,Vx,XD,Sx.Bg,fun T H5 hT5 hg5 ZW=> ?_⟩;have hG:=XD.tg hg5;have hSh:=Wx hG ZW;obtain⟨dx5,cl5,co5,ro5,rw5,hA5⟩:=id hT5;have Vu:=hA5.same;have ZV:=hSh.pos;generalize hY:(fun k=>Sx.Ys n.toNat ss.length T (n.toNat+k))=Y at *;generalize hX:(fun p=>Sx.Xs n.toNat ss.length T p)=X at *
 -- given
 refine⟨_,rfl,false,sl,_,rfl,SqL.of (Vu _ _ hS),fun hz=> ?_⟩;let oV:Nat->List V->St->Hp->Prop:=fun i acc σ H'=>iC K H' acc ((List.range i).map fun k=>(ss.getD k [],aO (Y k) T.over.toNat))/\Same H5 H'/\∃o1 o2,σ=[o1,o2,some (.ref o),some (.int n)];refine lg (K:=K) (b:=false) (a:=sl) (xs:=its.map fun p=>V.ref p.1) oV ⟨.nil,Same.refl _,_,_,rfl⟩ (fun i acc σ H' _ p=>p.2.1.seq (SqL.of (Vu _ _ hS))) (fun i acc σ H' _ p=> ?_) hz (fun i v t acc σ H' hv p ht=> ?_) (fun acc σ H' p=> ?_)
 ·rw[Paired.bV p.1,aJ,rC];exact aN _
 ·obtain⟨hl,sm,o1,o2,rfl⟩:=p;rw[dW]at hv;cases ev:its[i]? with
  |none=>rw[ev]at hv;cases hv
  |some it=>
   rw[ev]at hv;cases hv;have eg:ss.getD i []=it.2:=by rw[<-hss,iM,dW,ev];rfl
   have t1:=aG ht (.tup [.int (i:Int),.ref it.1]);have Vw:=hT5.sm (sm.trans t1);obtain⟨dx6,cl6,co6,ro6,rw6,hA6⟩:=id Vw;refine⟨t,_,rfl,SqT.of aD,rfl,_,_,rfl,_,_,rfl,rfl,?_⟩;refine⟨_,rfl,_,rfl,o,dx6,_,rfl,hA6.at_,rfl,_,rfl,_,rfl,_,_,rfl,rfl,o,H3,n.toNat,ss.length,n.toNat+i,gF ss,qO wl,T,?_,Vw,hG,fun fa H7 u v' s7 e7 l7=> ?_⟩
   ·rw[show(((n.toNat+i:Nat)):Int)=n+(i:Int) by omega];rfl
   ·refine⟨(by show 2<=sizeLine;decide),fun tp htp=> ?_⟩;have s8:=aG htp (.tup [.ref it.1,.ref fa]);have Vs:=t1.trans (s7.trans s8);have hlow:(u,v')=aO (Y i) T.over.toNat:=by rw[<-hY];exact wG ZV l7
    refine⟨?_,sm.trans Vs,_,_,rfl⟩;rw[yu,cO];refine Paired.snoc (iC.same hl Vs) ⟨tp,it.1,fa,rfl,SqT.of aD,?_,?_⟩
    ·show SqT K _ it.1 ((ss.getD i []).map V.int);rw[eg];exact(Vu.trans (sm.trans Vs)).tup (hP it (gZ ev))
    ·show xG K _ fa (aO (Y i) T.over.toNat);rw[<-hlow];exact s8.tup (SqT.of e7)
 intro gl hgl;obtain⟨hl,sm5,_⟩:=p;rw[aJ,hm]at hl;have g1:=aG hgl (.lst acc);have s6:=sm5.trans g1;have eg1:(upd H' gl (.lst acc)) gl=some (.lst acc):=aD;have hl6:=iC.same hl g1;generalize (upd H' gl (.lst acc))=H6 at *
 -- laying
 refine⟨_,rfl,gl,_,rfl,SqL.of eg1,fun hz=> ?_⟩;let ud:Nat->List V->St->Hp->Prop:=fun i acc' σ H'=>H'=H6/\iC K H6 acc' (((List.range i).filter fun k=>decide (0<Y k)).map fun k=>(ss.getD k [],aO (Y k) T.over.toNat))/\∃o1,σ=[o1];refine vK (xs:=acc) ud ⟨rfl,.nil,_,rfl⟩ (fun i acc' σ H' _ p=>by rw[p.1];exact SqL.of eg1) (fun i acc' σ H' _ p=> ?_) hz (fun i v acc' σ H' hv p=> ?_) (fun acc' σ H' p=> ?_)
 ·rw[Paired.bV p.2.1,aJ];exact cC (uX _ _) (by rw[rC];exact aN _)
 ·obtain⟨rfl,hl',o1,rfl⟩:=p;obtain⟨qv,eq1,hv1⟩:=Paired.at_ hl6 hv;have hi:i<ss.length:=by
   have:=(nH.mp hv).1;rw[Paired.bV hl6,aJ,rC]at this;exact this
  rw[dW,Wc hi]at eq1;have eq2:qv=(ss.getD i [],aO (Y i) T.over.toNat):=(rE eq1).symm;obtain⟨t,sa,fa,rfl,h1,h2,h3⟩:=id hv1;have h3':xG K H' fa (aO (Y i) T.over.toNat):=by rw[eq2]at h3;exact h3
  refine⟨_,rfl,t,_,_,.ref fa,rfl,rfl,h1,rfl,fa,_,_,.int (aO (Y i) T.over.toNat).1,rfl,rfl,h3',rfl,_,_,rfl,rfl,_,rfl,?_⟩;have go:((List.range (i+1)).filter fun k=>decide (0<Y k))=((List.range i).filter fun k=>decide (0<Y k))++(if decide (0<Y i)=true then[i]else[]):=by
   rw[yu,RD];congr 1;rw[Mt];split<;>rfl
  have ed:decide (0<(aO (Y i) T.over.toNat).1)=decide (0<Y i):=decide_eq_decide.mpr (Ku ZV);refine ite2 (fun c=> ?_) (fun c=> ?_)
  ·have c':decide (0<Y i)=true:=by rw[<-ed];exact c
   refine⟨_,rfl,rfl,?_,_,rfl⟩;rw[go,aB c',cO];refine Paired.snoc hl' ?_;rw[eq2]at hv1;exact hv1
  ·have c':¬decide (0<Y i)=true:=by rw[<-ed];exact c
   refine⟨rfl,?_,_,rfl⟩;rw[go,aA c',Ay];exact hl'
 intro la hla;obtain⟨rfl,hlay,_⟩:=p;rw[Paired.bV hl6,aJ,rC]at hlay;have g2:=aG hla (.lst acc');have s7:=s6.trans g2;have ela:(upd H' la (.lst acc')) la=some (.lst acc'):=aD;have Xr:=iC.same hlay g2;have zA:=hT5.sm s7;generalize (upd H' la (.lst acc'))=H7 at *
 -- prices
 refine⟨_,rfl,n,rfl,by omega,by omega,?_⟩;let LR:Nat->List V->St->Hp->Prop:=fun i xr σ H2=>bW K H2 xr ((List.range i).map fun p=>aO (X p) T.over.toNat)/\Same H7 H2/\∃o1,σ=[o1,some (.ref o)];refine Qh (n:=n.toNat) LR ⟨.nil,Same.refl _,_,rfl⟩ (fun i xr σ H2 hi p=> ?_) (by rw[eX];omega) (fun i xr σ H2 hi p=> ?_) (fun xr σ H2 p=> ?_)
 ·rw[Paired.bV p.1,aJ,rC];exact aN _
 ·obtain⟨hf,sm,o1,rfl⟩:=p;have hT8:=zA.sm sm;obtain⟨dx8,cl8,co8,ro8,rw8,hA8⟩:=id hT8;refine⟨_,rfl,o,dx8,_,rfl,hA8.at_,rfl,_,rfl,o,H3,n.toNat,ss.length,i,gF ss,qO wl,T,by rw[Mq];rfl,hT8,hG,fun fa H9 u v' s9 e9 l9=> ?_⟩;have hlow:(u,v')=aO (X i) T.over.toNat:=by rw[<-hX];exact wG ZV l9
  refine⟨?_,sm.trans s9,_,rfl⟩;rw[yu,cO];refine Paired.snoc (bW.same hf s9) ⟨fa,rfl,?_⟩;show xG K H9 fa (aO (X i) T.over.toNat);rw[<-hlow];exact SqT.of e9
 intro pa hpa;obtain⟨hf,sm7,_⟩:=p;have g3:=aG hpa (.lst xr);have s8:=sm7.trans g3;have epa:(upd H2 pa (.lst xr)) pa=some (.lst xr):=aD;have hf8:=bW.same hf g3;have hT8:=zA.sm s8;have nlp:la≠pa:=rB (sm7 _ _ ela) hpa;generalize (upd H2 pa (.lst xr))=H8 at *;obtain⟨dx8,cl8,co8,ro8,rw8,hA8⟩:=id hT8;refine⟨_,rfl,o,dx8,_,rfl,hA8.at_,rfl,_,rfl,_,rfl,o,H3,n.toNat,ss.length,ss.length,n.toNat,_,_,gF ss,qO wl,T,rfl,hT8,hG,.inr ⟨rfl,rfl⟩,.inr ⟨rfl,rfl⟩,fun va H9 u v' s9 e9 l9=> ?_⟩;refine⟨_,rfl,_,rfl,(by show 3<=sizeLine;decide),fun r hr'=> ?_⟩;have Wz:=aG hr' (.tup [.ref va,.ref la,.ref pa]);have JK:=s9.trans Wz;have hlow:(u,v')=aO (T.cell ss.length n.toNat) T.over.toNat:=wG ZV l9;refine qq r va la pa acc' xr ss T.over.toNat (T.cell ss.length n.toNat) Y X _ (yM.trans (Vu.trans (s7.trans (s8.trans JK)))) aD ?_ ((s8.trans JK) _ _ ela) (iC.same Xr (s8.trans JK)) (JK _ _ epa) (bW.same hf8 JK) tK hSh ?_ ?_ nlp
 ·rw[<-hlow];exact Wz.tup (SqT.of e9)
 ·exact(yM.trans (Vu.trans s6)).none hla
 ·exact(yM.trans (Vu.trans (s7.trans sm7))).none hpa
theorem RW{b:Bool}{H:Hp}{a:Addr}{xs:List V}(h:Hw K b H a xs):SqL K H a xs\/SqT K H a xs:=by
 cases b with
 |false=>exact .inl h
 |true=>exact .inr h
def Eb(K:W.Frag):Sp:=fun vs H Q _=>∃(b:Bool) (a l:Addr) (n:Int) (ts:L0) (xs:List Int),vs=[.ref a,.ref l]/\cB K H a n ts/\Hw K b H l (xs.map V.int)/\∀H',Same H H'->Q (.int ((ts.filter (inB xs)).length:Int)) H'
theorem J9{f:Addr}{fd:FuncData}(F:Fun K "count_ties_in" "count_ties_in" fD f fd)(bf:mg "len"=none):
  FnOk P w K mg base CX0 1 f fd ["web","some"] (Eb K):=by
 refine F.cT ["web","some"] fun cdv A outer s H vs Q E hr h=> ?_;obtain⟨b,a,l,n,ts,xs,rfl,hA,hL,q⟩:=h;refine⟨_,(aZ (bQ (pB rA bf (aj (pK ["tie"] ["some"] [1] (dZ (bx fM (pv 0) aq)) (pG 0) (cW (PW.pt (pw_and (iD (eF K hr.units) (bx (xP K) (pv 0) aq) (pv 1) (by with_unfolding_all rfl)) (pw_and1 (iD (eF K hr.units) (bx (xP K) (pv 0) aq) (pv 1) (by with_unfolding_all rfl)))))) (pv 0)) ak)))),?_⟩;obtain⟨ta,ra,a1,a2,a3⟩:=id hA.web;have hra:=a3.len;rw[aJ]at hra;have h45:=hA.len;refine⟨_,rfl,a,_,_,.ref ta,rfl,rfl,a1,rfl,ta,ra,rfl,a2,fun hz=> ?_⟩;let iB:Nat->List V->St->Hp->Prop:=fun i acc σ H'=>acc.length=((ts.take i).filter (inB xs)).length/\Same H H'/\∃o,σ=[o,some (.ref l)];refine Mj (xs:=ra) iB ⟨rfl,Same.refl _,_,rfl⟩ (fun i acc σ H' _ p=>p.2.1.tup a2) (fun i acc σ H' hi p=> ?_) hz (fun i x acc σ H' hx p=> ?_) (fun acc σ H' p=> ?_)
 ·rw[p.1];exact cC (uX _ _) (by rw[xU];exact Ax _ _)
 ·obtain⟨ea,sm,o,rfl⟩:=p;obtain⟨t,hi,rfl,ht⟩:=Er a3 hx;have hl:=RW (hL.same sm);have e:∀(acc':List V) (c:Bool),c=inB xs ts[i]->acc'.length=acc.length+(if c=true then 1 else 0)->acc'.length=((ts.take (i+1)).filter (inB xs)).length:=fun acc' c hc hl=>by
   rw[V0 hi,gD,<-ea,hl,<-hc];cases c<;>rfl
  refine⟨_,rfl,t,_,_,.int (ts[i]).1,rfl,rfl,sm.tup ht,rfl,_,rfl,l,_,_,.int (ts[i]).1,rfl,hl,cI.ints xs,.int _,yq xs,rfl,(by show 0<=60;decide),_,rfl,?_⟩;rw[any_ints];refine ite2 (fun c=> ?_) (fun c=> ?_)
  ·refine⟨_,rfl,t,_,_,.int (ts[i]).2,rfl,rfl,sm.tup ht,rfl,_,rfl,l,_,_,.int (ts[i]).2,rfl,hl,cI.ints xs,.int _,yq xs,rfl,(by show 0<=60;decide),_,rfl,?_⟩;rw[any_ints];refine ite2 (fun c2=> ?_) (fun c2=> ?_)
   ·exact⟨_,rfl,e _ true (by unfold inB;rw[c,c2];rfl) (by rw[gD];rfl),sm,_,rfl⟩
   ·exact⟨e _ false (by unfold inB;rw[c,Bool.eq_false_iff.mpr c2];rfl) rfl,sm,_,rfl⟩
  ·exact⟨e _ false (by unfold inB;rw[Bool.eq_false_iff.mpr c];rfl) rfl,sm,_,rfl⟩
 ·intro p1 hp1;obtain⟨ea,sm,_⟩:=p;refine⟨p1,acc,rfl,.inl (SqL.of aD),fun _=> ?_⟩;rw[ea,hra,vL];exact q _ (sm.trans (aG hp1 (.lst acc)))
theorem dF{b:Bool}(h:(!b)=true):b=false:=by cases b<;>first |rfl|cases h
theorem dG{b:Bool}(h:¬(!b)=true):b=true:=by cases b<;>first |rfl|exact absurd rfl h
def frB:PyData->Bool
 | .tuple [x,y]=>bY x&&(bY y&&(decide (0<=intD x)&&(decide (1<=intD y)&&decide (intD y<=1000000000))))
 |_=>false
theorem dI:∀{d:PyData},bY d=true->∃i,d= .int i
 | .int i,_=>⟨i,rfl⟩
theorem qp{d:PyData}(h:frB d=true):∃(u:Int) (v:Nat),d= .tuple [.int u,.int ((v:Nat):Int)]/\0<=u/\0<v/\v<=1000000000:=by
 unfold frB at h;split at h
 ·rename_i x y;simp only[pR,Ga]at h;obtain⟨h1,h2,h3,h4,h5⟩:=h;obtain⟨u,rfl⟩:=dI h1;obtain⟨v,rfl⟩:=dI h2;have h4':1<=v:=h4;have h5':v<=1000000000:=h5;refine⟨u,v.toNat,?_,h3,by omega,by omega⟩;rw[show((v.toNat:Nat):Int)=v by omega]
 ·cases h
theorem _root_.L2.DX.ints{H:Hp}{x:V}{i:Int}(h:DX K H x (.int i)):x= .int i:=by cases h;rfl
theorem vQ{H:Hp}{x:V}{d:PyData}(hx:DX K H x d):(∃a x0 x1 d0 d1,x= .ref a/\d= .tuple [d0,d1]/\SqT K H a [x0,x1]/\DX K H x0 d0/\DX K H x1 d1)\/(∃a xs ds,x= .ref a/\d= .tuple ds/\SqT K H a xs/\xs.length=ds.length/\ds.length≠2)\/eO d≠"tuple":=by
 cases hx with
 | @tup a xs ds h t=>
  have hl:=t.len;by_cases e:ds.length=2
  ·cases t with
   |nil=>simp at e
   |cons h0 t0=>
    cases t0 with
    |nil=>simp at e
    |cons h1 t1=>
     cases t1 with
     |cons _ _=>simp at e
     |nil=>exact .inl ⟨a,_,_,_,_,rfl,rfl,h,h0,h1⟩
  ·exact .inr (.inl ⟨a,xs,ds,rfl,rfl,h,by omega,e⟩)
 |_=>exact .inr (.inr (by simp[eO]))
theorem Fl{ds:List PyData}(h:ds.length≠2):frB (.tuple ds)=false:=by
 match ds,h with
 |[],_=>rfl
 |[_],_=>rfl
 |[_,_],h=>exact absurd rfl h
 |_::_::_::_,_=>rfl
theorem zK{d:PyData}(h:eO d≠"tuple"):frB d=false:=by
 cases d<;>first |rfl|exact absurd rfl h
def u9(K:W.Frag):Sp:=fun vs H Q _=>∃(x:V) (d:PyData),vs=[x]/\DX K H x d/\Q (.bl (frB d)) H
theorem Od{f f1:Addr}{fd d1:FuncData}{tk0:Tok}(F:Fun K "is_fraction" "is_fraction" dX f fd)(D1:bO K mg "is_whole" dN ["thing"] f1 d1)(G1:FnOk P w K mg base CX0 1 f1 d1 ["thing"] (gJ K))(bf:mg "len"=none)(au:mg "isinstance"=none)(bM:mg "tuple"=none)(uJ:mg "MOST_BOTTOM"=some (.int 1000000000 tk0)):
  FnOk P w K mg base CX0 2 f fd ["thing"] (u9 K):=by
 refine F.cT ["thing"] fun cdv A outer s H vs Q E hr h=> ?_;obtain⟨x,d,rfl,hx,q⟩:=h;refine bh ?_;intro Y;refine⟨_,(aP (lC (PW.pt (pw_or (nA (lW (pB yp au (aj (pv 0) (aj (pN "tuple" bM) ak))))) (pw_or (iD op_ne (pB rA bf (aj (pv 0) ak)) aq) (pw_or (nA (lW (pc G1 hr D1 (aj (bx fM (pv 0) aq) ak)))) (pw_or1 (nA (lW (pc G1 hr D1 (aj (bx fM (pv 0) aq) ak))))))))) (aZ (bQ lB)) lD) (aZ (bQ (xO (Ds op_ge (bx fM (pv 0) aq) aq) (yd (pe_chain op_le op_le aq (bx fM (pv 0) aq) (pe_glob rfl uJ (v:= .int 1000000000) ⟨_,rfl⟩))))))),?_⟩;refine dH ?_;intro c2;have no:frB d=false->Q (.bl false) H:=fun e=>by rw[e]at q;exact q
 refine⟨_,rfl,x,_,_,rfl,hx.kind,.inr (.inr (.inl rfl)),_,rfl,?_⟩;rcases vQ hx with⟨a,x0,x1,d0,d1,rfl,rfl,h,h0,h1⟩|⟨a,xs,ds,rfl,rfl,h,el,hn⟩|hk
 ·refine iteF ?_;refine⟨_,rfl,a,_,rfl,.inr h,fun hz=>⟨rfl,_,rfl,?_⟩⟩;refine iteF ?_;refine⟨_,rfl,a,_,_,x0,rfl,rfl,h,rfl,x0,d0,rfl,h0,_,rfl,?_⟩;refine ite2 (fun c=> ?_) (fun c=> ?_)
  ·exact no (by show(bY d0&&_)=false;rw[dF c];rfl)
  have c:=dG c;refine⟨_,rfl,a,_,_,x1,rfl,rfl,h,rfl,x1,d1,rfl,h1,_,rfl,?_⟩;refine ite2 (fun c2=> ?_) (fun c2=> ?_)
  ·exact no (by show(bY d0&&(bY d1&&_))=false;rw[c,dF c2];rfl)
  have c2:=dG c2;obtain⟨u,rfl⟩:=dI c;obtain⟨v,rfl⟩:=dI c2;obtain rfl:=h0.ints;obtain rfl:=h1.ints;have e:frB (.tuple [.int u,.int v])=(decide (0<=u)&&(decide (1<=v)&&decide (v<=1000000000))):=rfl;rw[e]at q no;refine⟨_,rfl,a,_,_,.int u,rfl,rfl,h,rfl,_,_,rfl,rfl,_,rfl,?_⟩;refine ite2 (fun c3=> ?_) (fun c3=> ?_)
  ·have c3:0<=u:=nM c3;rw[eY c3]at q no;refine⟨_,rfl,a,_,_,.int v,rfl,rfl,h,rfl,_,_,rfl,rfl,_,rfl,?_⟩;refine ite2 (fun c4=> ?_) (fun c4=> ?_)
   ·have c4:1<=v:=nM c4;rw[eY c4]at q;exact⟨_,_,rfl,rfl,q⟩
   ·exact no (by rw[Bool.eq_false_iff.mpr c4];rfl)
  ·exact no (by rw[jx (fun z=>c3 (eY z))];rfl)
 ·refine iteF ?_;refine⟨_,rfl,a,_,rfl,.inr h,fun hz=>⟨rfl,_,rfl,?_⟩⟩;refine ite2 (fun c=>no (Fl hn)) (fun c=> ?_);exfalso;have c:¬(!decide (V.int (xs.length:Int)=V.int 2))=true:=c;simp at c;omega
 ·refine ite2 (fun c=>no (zK hk)) (fun c=> ?_);exfalso;cases d<;>first |exact hk rfl|(simp[qm,eO]at c;done)
theorem WT{f:Addr}{fd:FuncData}(F:Fun K "_law_awhole" "_law_awhole" fQ f fd)(au:mg "isinstance"=none)(tu:mg "bool"=none)(Xa:mg "int"=none):
  FnOk P w K mg base CX0 1 f fd ["found"] (gJ K):=by
 refine F.cT ["found"] fun cdv A outer s H vs Q E hr h=> ?_;obtain⟨x,d,rfl,hx,q⟩:=h;refine⟨_,(aZ (bQ (xO (pB yp au (aj (pv 0) (aj (pN "int" Xa) ak))) (yd (pe_not (pB yp au (aj (pv 0) (aj (pN "bool" tu) ak)))))))),?_⟩;refine⟨_,rfl,x,_,_,rfl,hx.kind,.inl rfl,_,rfl,?_⟩;refine ite2 (fun c=> ?_) (fun c=> ?_)
 ·refine⟨_,rfl,x,_,_,rfl,hx.kind,.inr (.inl rfl),_,rfl,?_⟩;cases d<;>first |exact q|(simp[qm,eO]at c;done)
 ·cases d<;>first |exact q|(exfalso;exact c rfl)
theorem Tw{f f1:Addr}{fd d1:FuncData}(F:Fun K "_law_afraction" "_law_afraction" YH f fd)(D1:bO K mg "_law_awhole" fQ ["found"] f1 d1)(G1:FnOk P w K mg base CX0 1 f1 d1 ["found"] (gJ K))(bf:mg "len"=none)(au:mg "isinstance"=none)(bM:mg "tuple"=none):
  FnOk P w K mg base CX0 2 f fd ["thing"] (u9 K):=by
 refine F.cT ["thing"] fun cdv A outer s H vs Q E hr h=> ?_;obtain⟨x,d,rfl,hx,q⟩:=h;refine bh ?_;intro Y;refine⟨_,(aP (lC (PW.pt (pw_or (nA (lW (pB yp au (aj (pv 0) (aj (pN "tuple" bM) ak))))) (pw_or (iD op_ne (pB rA bf (aj (pv 0) ak)) aq) (pw_or (nA (lW (pc G1 hr D1 (aj (bx fM (pv 0) aq) ak)))) (pw_or1 (nA (lW (pc G1 hr D1 (aj (bx fM (pv 0) aq) ak))))))))) (aZ (bQ lB)) lD) (aZ (bQ (xO (Ds op_ge (bx fM (pv 0) aq) aq) (yd (pe_chain op_le op_le aq (bx fM (pv 0) aq) (aX op_pow aq aq))))))),?_⟩;refine dH ?_;intro c2;have no:frB d=false->Q (.bl false) H:=fun e=>by rw[e]at q;exact q
 refine⟨_,rfl,x,_,_,rfl,hx.kind,.inr (.inr (.inl rfl)),_,rfl,?_⟩;rcases vQ hx with⟨a,x0,x1,d0,d1,rfl,rfl,h,h0,h1⟩|⟨a,xs,ds,rfl,rfl,h,el,hn⟩|hk
 ·refine iteF ?_;refine⟨_,rfl,a,_,rfl,.inr h,fun hz=>⟨rfl,_,rfl,?_⟩⟩;refine iteF ?_;refine⟨_,rfl,a,_,_,x0,rfl,rfl,h,rfl,x0,d0,rfl,h0,_,rfl,?_⟩;refine ite2 (fun c=> ?_) (fun c=> ?_)
  ·exact no (by show(bY d0&&_)=false;rw[dF c];rfl)
  have c:=dG c;refine⟨_,rfl,a,_,_,x1,rfl,rfl,h,rfl,x1,d1,rfl,h1,_,rfl,?_⟩;refine ite2 (fun c2=> ?_) (fun c2=> ?_)
  ·exact no (by show(bY d0&&(bY d1&&_))=false;rw[c,dF c2];rfl)
  have c2:=dG c2;obtain⟨u,rfl⟩:=dI c;obtain⟨v,rfl⟩:=dI c2;obtain rfl:=h0.ints;obtain rfl:=h1.ints;have e:frB (.tuple [.int u,.int v])=(decide (0<=u)&&(decide (1<=v)&&decide (v<=1000000000))):=rfl;rw[e]at q no;refine⟨_,rfl,a,_,_,.int u,rfl,rfl,h,rfl,_,_,rfl,rfl,_,rfl,?_⟩;refine ite2 (fun c3=> ?_) (fun c3=> ?_)
  ·have c3:0<=u:=nM c3;rw[eY c3]at q no;refine⟨_,rfl,a,_,_,.int v,rfl,rfl,h,rfl,_,_,rfl,rfl,_,rfl,?_⟩;refine ite2 (fun c4=> ?_) (fun c4=> ?_)
   ·have c4:1<=v:=nM c4;rw[eY c4]at q;exact⟨_,_,rfl,rfl,⟨by decide,by decide,by decide⟩,_,_,rfl,rfl,q⟩
   ·exact no (by rw[Bool.eq_false_iff.mpr c4];rfl)
  ·exact no (by rw[jx (fun z=>c3 (eY z))];rfl)
 ·refine iteF ?_;refine⟨_,rfl,a,_,rfl,.inr h,fun hz=>⟨rfl,_,rfl,?_⟩⟩;refine ite2 (fun c=>no (Fl hn)) (fun c=> ?_);exfalso;have c:¬(!decide (V.int (xs.length:Int)=V.int 2))=true:=c;simp at c;omega
 ·refine ite2 (fun c=>no (zK hk)) (fun c=> ?_);exfalso;cases d<;>first |exact hk rfl|(simp[qm,eO]at c;done)
def Jl(K:W.Frag):Sp:=fun vs H Q _=>∃(a:Addr) (xs:List V) (ls:List (List Int)),vs=[.ref a]/\SqL K H a xs/\Paired (fun v l=>∃p,v= .ref p/\SqT K H p (l.map V.int)) xs ls/\∀H',Same H H'->Q (.bl (fJ ls)) H'
theorem BL{f:Addr}{fd:FuncData}(F:Fun K "is_rising" "is_rising" U8 f fd)(oF:mg "all"=none)(aH:mg "range"=none)(bf:mg "len"=none):
  FnOk P w K mg base CX0 1 f fd ["things"] (Jl K):=by
 refine F.cT ["things"] fun cdv A outer s H vs Q E hr h=> ?_;obtain⟨a,xs,ls,rfl,hS,hP,q⟩:=h;refine⟨_,(aZ (bQ (pB (eV rfl) oF (aj (pK ["k"] ["things"] [0] (pi_range2 rfl aH (aj aq (aj (pB rA bf (aj (pv 0) ak)) ak))) (pG 0) lM (Ds (Es K hr.units0) (bx (eU K) (pv 1) (aX op_sub (pv 0) aq)) (bx (eU K) (pv 1) (pv 0)))) ak)))),?_⟩;have hl:=Paired.bV hP;refine⟨_,rfl,a,xs,rfl,.inl hS,fun hz=>⟨1,_,rfl,⟨by omega,by omega,by omega,by omega⟩,?_⟩⟩;have en:((xs.length:Int)-1).toNat=ls.length-1:=by omega
 rw[en];let iB:Nat->List V->St->Hp->Prop:=fun i acc σ H'=>acc=((List.range i).map fun k=>HT.lexLt (ls.getD k []) (ls.getD (k+1) [])).map V.bl/\Same H H'/\∃o,σ=[o,some (.ref a)];refine Qh iB ⟨rfl,Same.refl _,_,rfl⟩ (fun i acc σ H' hi p=>by rw[p.1];simp) (by rw[eX];omega) (fun i acc σ H' hi p=> ?_) (fun acc σ H' p=> ?_)
 ·obtain⟨rfl,sm,o,rfl⟩:=p;have e1:(1+(i:Int))-1=((i:Nat):Int):=by omega
  have e2:(1+(i:Int))=((i+1:Nat):Int):=by omega
  have x1:xs[i]? =some xs[i]:=dD (by omega);have x2:xs[i+1]? =some xs[i+1]:=dD (by omega);obtain⟨l1,m1,p1,q1,t1⟩:=Paired.at_ hP x1;obtain⟨l2,m2,p2,q2,t2⟩:=Paired.at_ hP x2;have a1:atI xs (1+(i:Int)-1)=some (.ref p1):=by rw[e1,<-q1];exact yh x1
  have a2:atI xs (1+(i:Int))=some (.ref p2):=by rw[e2,<-q2];exact yh x2
  refine⟨_,rfl,_,rfl,_,_,rfl,rfl,a,xs,_,_,rfl,rfl,sm.seq hS,a1,_,rfl,_,rfl,a,xs,_,_,rfl,rfl,sm.seq hS,a2,?_⟩;refine⟨p1,p2,l1,l2,rfl,rfl,sm.tup t1,sm.tup t2,?_,sm,_,rfl⟩;show _++[V.bl (HT.lexLt l1 l2)]=_;rw[yu,cO,cO,YT,YT,show ls.getD i []=l1 by rw[iM,m1];rfl,show ls.getD (i+1) []=l2 by rw[iM,m2];rfl]
 ·intro p1 hp1;obtain⟨rfl,sm,_⟩:=p;refine⟨p1,_,rfl,SqL.of aD,?_⟩;rw[dh];exact q _ (sm.trans (aG hp1 _))
def uw(n:Int)(ts:L0):PyData->Bool
 | .tuple [s,f]=>lF n s&&(frB f&&(decide (ts.filter (inB ((kids s).map intD))=[])&&decide (0<intD ((kids f).headD .none))))
 |_=>false
theorem En{n:Int}{ts:L0}{ds:List PyData}(h:ds.length≠2):uw n ts (.tuple ds)=false:=by
 match ds,h with
 |[],_=>rfl
 |[_],_=>rfl
 |[_,_],h=>exact absurd rfl h
 |_::_::_::_,_=>rfl
theorem yK{n:Int}{ts:L0}{d:PyData}(h:eO d≠"tuple"):uw n ts d=false:=by
 cases d<;>first |rfl|exact absurd rfl h
theorem mO{n:Int}:∀{ds:List PyData},ds.all (aR n)=true->ds=(ds.map intD).map PyData.int/\∀x∈ds.map intD,0<=x/\x<n
 |[],_=>⟨rfl,fun x hx=>(nomatch hx)⟩
 |d::ds,h=>by
  rw[Rw,pR]at h;obtain⟨i,rfl,h0,h1⟩:=sW h.1;obtain⟨e,f⟩:=mO h.2;refine⟨by rw[HJ,HJ,<-e];rfl,fun x hx=> ?_⟩;rcases cJ.mp hx with rfl|hx
  ·exact⟨h0,h1⟩
  ·exact f x hx
theorem JG{n:Int}{s:PyData}(h:lF n s=true):∃xs:List Int,s= .tuple (xs.map PyData.int)/\(∀x∈xs,0<=x/\x<n)/\bZ xs=true/\(kids s).map intD=xs:=by
 cases s with
 |tuple ds=>
  have h:(ds.all (aR n)&&bZ (ds.map intD))=true:=h;rw[pR]at h;obtain⟨e,f⟩:=mO h.1;exact⟨ds.map intD,by rw[<-e],f,h.2,rfl⟩
 |_=>cases h
theorem tO{H:Hp}:∀{xs:List Int} {vs:List V},lA K H vs (xs.map PyData.int)->vs=xs.map V.int
 |[],_,h=>by cases h;rfl
 |x::xs,_,h=>by
  cases h with
  |cons h t=>rw[DX.ints h,tO t];rfl
theorem _root_.L2.DX.tupI{H:Hp}{x:V}{xs:List Int}(h:DX K H x (.tuple (xs.map PyData.int))):∃a,x= .ref a/\SqT K H a (xs.map V.int):=by
 cases h with
 |tup h t=>exact⟨_,rfl,by rw[<-tO t];exact h⟩
theorem _root_.L2.DX.fr{H:Hp}{x:V}{u:Int}{v:Nat}(h:DX K H x (.tuple [.int u,.int ((v:Nat):Int)])):∃a,x= .ref a/\xG K H a (u,v):=DX.tupI (xs:=[u,((v:Nat):Int)]) h
def QK(K:W.Frag):Sp:=fun vs H Q _=>∃(a:Addr) (n:Int) (ts:L0) (x:V) (d:PyData),vs=[.ref a,x]/\cB K H a n ts/\DX K H x d/\∀H',Same H H'->Q (.bl (uw n ts d)) H'
theorem BR{f f1 f2 f3:Addr}{fd d1 d2 d3:FuncData}(F:Fun K "is_share" "is_share" mD f fd)(D1:bO K mg "is_fraction" dX ["thing"] f1 d1)(G1:FnOk P w K mg base CX0 2 f1 d1 ["thing"] (u9 K))(D2:bO K mg "is_set" nW ["n","thing"] f2 d2)(G2:FnOk P w K mg base CX0 4 f2 d2 ["n","thing"] (Jk K))(D3:bO K mg "count_ties_in" fD ["web","some"] f3 d3)(G3:FnOk P w K mg base CX0 1 f3 d3 ["web","some"] (Eb K))(bf:mg "len"=none)(au:mg "isinstance"=none)(bM:mg "tuple"=none):
  FnOk P w K mg base CX0 5 f fd ["web","thing"] (QK K):=by
 refine F.cT ["web","thing"] fun cdv A outer s H vs Q E hr h=> ?_;obtain⟨a,n,ts,x,d,rfl,hA,hx,q⟩:=h;refine bh ?_;intro Y;refine⟨_,(aP (lC (PW.pt (pw_or (nA (lW (pB yp au (aj (pv 1) (aj (pN "tuple" bM) ak))))) (pw_or1 (iD op_ne (pB rA bf (aj (pv 1) ak)) aq)))) (aZ (bQ lB)) lD) (aP (lC (PW.pt (pw_or (nA (lW (pc G2 hr D2 (aj (bx fM (pv 0) aq) (aj (bx fM (pv 1) aq) ak))))) (pw_or1 (nA (lW (pc G1 hr D1 (aj (bx fM (pv 1) aq) ak))))))) (aZ (bQ lB)) lD) (aZ (bQ (xO (Ds op_eq (pc G3 hr D3 (aj (pv 0) (aj (bx fM (pv 1) aq) ak))) aq) (yd (Ds op_gt (bx fM (bx fM (pv 1) aq) aq) aq))))))),?_⟩;refine lR ?_;intro c3 c2;have no:uw n ts d=false->∀H',Same H H'->Q (.bl false) H':=fun e H' sm=>by have:=q H' sm;rw[e]at this;exact this
 obtain⟨RQ,R9,w1,w2,w3⟩:=id hA.web;refine⟨_,rfl,x,_,_,rfl,hx.kind,.inr (.inr (.inl rfl)),_,rfl,?_⟩;rcases vQ hx with⟨t,x0,x1,d0,d1,rfl,rfl,h,h0,h1⟩|⟨t,xs,ds,rfl,rfl,h,el,hn⟩|hk
 ·refine iteF ?_;refine⟨_,rfl,t,_,rfl,.inr h,fun hz=>⟨rfl,_,rfl,?_⟩⟩;refine iteF ?_;refine⟨_,rfl,a,_,_,.int n,rfl,rfl,w1,rfl,_,rfl,t,_,_,x0,rfl,rfl,h,rfl,n,x0,d0,rfl,h0,fun H1 s1=>⟨_,rfl,?_⟩⟩;refine ite2 (fun c=> ?_) (fun c=> ?_)
  ·exact no (by show(lF n d0&&_)=false;rw[dF c];rfl) _ s1
  have c:=dG c;refine⟨_,rfl,t,_,_,x1,rfl,rfl,s1.tup h,rfl,x1,d1,rfl,h1.same s1,_,rfl,?_⟩;refine ite2 (fun c2=> ?_) (fun c2=> ?_)
  ·exact no (by show(lF n d0&&(frB d1&&_))=false;rw[c,dF c2];rfl) _ s1
  have c2:=dG c2;have e:uw n ts (.tuple [d0,d1])=(decide (ts.filter (inB ((kids d0).map intD))=[])&&decide (0<intD ((kids d1).headD .none))):=by
   show(lF n d0&&(frB d1&&_))=_;rw[c,c2];rfl
  rw[e]at no;rw[e]at q;obtain⟨xs,rfl,hlt,hri,ek⟩:=JG c;obtain⟨u,v,rfl,hu,hv,hvb⟩:=qp c2;rw[ek]at no q;obtain⟨sa,rfl,h2⟩:=h0.tupI;obtain⟨fa,rfl,h3⟩:=h1.fr;refine⟨_,rfl,_,rfl,t,_,_,.ref sa,rfl,rfl,s1.tup h,rfl,true,a,sa,n,ts,xs,rfl,hA.same s1,s1.tup h2,fun H2 s2=> ?_⟩;have s12:=s1.trans s2;refine⟨rfl,_,rfl,?_⟩;by_cases hc:ts.filter (inB xs)=[]
  ·rw[hc];refine iteT ?_;rw[eY hc]at q;refine⟨_,rfl,t,_,_,.ref fa,rfl,rfl,s12.tup h,rfl,fa,_,_,.int u,rfl,rfl,s12.tup h3,rfl,_,_,rfl,rfl,?_⟩;exact q _ s12
  ·refine ite2 (fun c3=> ?_) (fun c3=> ?_)
   ·exfalso;have c3:decide (V.int ((ts.filter (inB xs)).length:Int)=V.int 0)=true:=c3;simp at c3;exact hc (Y0.mpr fun p hp=>by have:=c3 p.1 p.2 hp;simpa using this)
   ·have:=no (by rw[jx hc];rfl) _ s12;exact this
 ·refine iteF ?_;refine⟨_,rfl,t,_,rfl,.inr h,fun hz=>⟨rfl,_,rfl,?_⟩⟩;refine ite2 (fun c=>no (En hn) _ (Same.refl _)) (fun c=> ?_);exfalso;have c:¬(!decide (V.int (xs.length:Int)=V.int 2))=true:=c;simp at c;omega
 ·refine ite2 (fun c=>no (yK hk) _ (Same.refl _)) (fun c=> ?_);exfalso;cases d<;>first |exact hk rfl|(simp[qm,eO]at c;done)
structure ShG(n:Int)(ts:L0)(q:List Int×(Int×Nat)):Prop where
 rise:bZ q.1=true
 lt:∀x∈q.1,0<=x/\x<n
 no:ts.filter (inB q.1)=[]
 pos:0<q.2.1
 bot:0<q.2.2
 big:q.2.2<=1000000000
def JD(q:List Int×(Int×Nat)):PyData:= .tuple [.tuple (q.1.map PyData.int),.tuple [.int q.2.1,.int ((q.2.2:Nat):Int)]]
def setOf(d:PyData):List Int:=(kids ((kids d).headD .none)).map intD
theorem pY(q:List Int×(Int×Nat)):setOf (JD q)=q.1:=by
 show((q.1.map PyData.int).map intD)=q.1;rw[Ql];exact Zg q.1
theorem vV{n:Int}{ts:L0}{d:PyData}(h:uw n ts d=true):∃q,d=JD q/\ShG n ts q:=by
 unfold uw at h;split at h
 ·rename_i s f;simp only[pR]at h;obtain⟨h1,h2,h3,h4⟩:=h;obtain⟨xs,rfl,hlt,hri,ek⟩:=JG h1;obtain⟨u,v,rfl,hu,hv,hvb⟩:=qp h2;rw[ek]at h3;exact⟨(xs,(u,v)),rfl,hri,hlt,nM h3,nM h4,hv,hvb⟩
 ·cases h
theorem _root_.L2.DX.sh{H:Hp}{x:V}{q:List Int×(Int×Nat)}(h:DX K H x (JD q)):LK K H x q:=by
 unfold JD at h;cases h with
 |tup h t=>
  cases t with
  |cons h0 t0=>
   cases t0 with
   |cons h1 t1=>
    cases t1 with
    |nil=>
     obtain⟨sa,rfl,h2⟩:=h0.tupI;obtain⟨fa,rfl,h3⟩:=h1.fr;exact⟨_,sa,fa,rfl,h,h2,h3⟩
theorem lay_of{n:Int}{ts:L0}{H:Hp}:∀{rs:List V} {ds:List PyData},lA K H rs ds->ds.all (uw n ts)=true->∃l,ds=l.map JD/\iC K H rs l/\∀q∈l,ShG n ts q
 |[],_,h,_=>by cases h;exact⟨[],rfl,.nil,fun q hq=>(nomatch hq)⟩
 |_::_,_,h,ha=>by
  cases h with
  |cons h t=>
   rw[Rw,pR]at ha;obtain⟨q,rfl,hq⟩:=vV ha.1;obtain⟨l,rfl,hl,hg⟩:=lay_of t ha.2;refine⟨q::l,rfl,.cons h.sh hl,fun p hp=> ?_⟩;rcases cJ.mp hp with rfl|hp
   ·exact hq
   ·exact hg p hp
def layB(n:Int)(ts:L0)(ds:List PyData):Bool:=ds.all (uw n ts)&&fJ (ds.map setOf)
theorem JF(l:List (List Int×(Int×Nat))):(l.map JD).map setOf=l.map (·.1):=by
 rw[Ql];exact Ve fun q _=>pY q
def Jo(K:W.Frag):Sp:=fun vs H Q _=>∃(a la:Addr) (n:Int) (ts:L0) (rs:List V) (ds:List PyData),vs=[.ref a,.ref la]/\cB K H a n ts/\SqL K H la rs/\lA K H rs ds/\∀H',Same H H'->Q (.bl (layB n ts ds)) H'
theorem yV{f f1 f2:Addr}{fd d1 d2:FuncData}(F:Fun K "is_laying" "is_laying" jH f fd)(D1:bO K mg "is_share" mD ["web","thing"] f1 d1)(G1:FnOk P w K mg base CX0 5 f1 d1 ["web","thing"] (QK K))(D2:bO K mg "is_rising" U8 ["things"] f2 d2)(G2:FnOk P w K mg base CX0 1 f2 d2 ["things"] (Jl K))(oF:mg "all"=none)(au:mg "isinstance"=none)(cM:mg "list"=none):
  FnOk P w K mg base CX0 6 f fd ["web","thing"] (Jo K):=by
 refine F.cT ["web","thing"] fun cdv A outer s H vs Q E hr h=> ?_;obtain⟨a,la,n,ts,rs,ds,rfl,hA,hL,hd,q⟩:=h;refine bh ?_;intro Y;refine⟨_,(aP (lC (PW.pt (pw_or (nA (lW (pB yp au (aj (pv 1) (aj (pN "list" cM) ak))))) (pw_or1 (nA (lW (pB (eV rfl) oF (aj (pK ["share"] ["web"] [0] (pI (pv 1)) (pG 0) lM (pc G1 hr D1 (aj (pv 1) (aj (pv 0) ak)))) ak))))))) (aZ (bQ lB)) lD) (aZ (bQ (pc G2 hr D2 (aj (pK ["share"] [] [] (pI (pv 1)) (pG 0) lM (bx (xP K) (pv 0) aq)) ak))))),?_⟩;refine dH ?_;intro c2;have hlen:=hd.len;refine⟨_,rfl,.ref la,"list",_,rfl,.inr (.inl ⟨rfl,_,hL⟩),.inr (.inr (.inr rfl)),_,rfl,?_⟩;refine iteF ?_;refine⟨_,rfl,la,rs,rfl,hL,fun hz=> ?_⟩;let oV:Nat->List V->St->Hp->Prop:=fun i acc σ H'=>acc=((ds.take i).map (uw n ts)).map V.bl/\Same H H'/\∃o,σ=[o,some (.ref a)];refine vK (xs:=rs) oV ⟨rfl,Same.refl _,_,rfl⟩ (fun i acc σ H' _ p=>p.2.1.seq hL) (fun i acc σ H' hi p=> ?_) hz (fun i x acc σ H' hx p=> ?_) (fun acc σ H' p=> ?_)
 ·rw[p.1];simp;omega
 ·obtain⟨rfl,sm,o,rfl⟩:=p;obtain⟨d,e1,e2⟩:=hd.get hx;refine⟨_,rfl,_,rfl,a,n,ts,x,d,rfl,hA.same sm,DX.same sm e2,fun H2 s2=>⟨?_,sm.trans s2,_,rfl⟩⟩;rw[HS,e1];simp
 intro p1 hp1;obtain⟨rfl,sm,_⟩:=p;have s1:=sm.trans (aG hp1 (.lst (((ds.take rs.length).map (uw n ts)).map V.bl)));refine⟨p1,ds.map (uw n ts),rfl,SqL.of (by rw[aD,hlen,vL]),_,rfl,?_⟩;rw[dh];refine ite2 (fun c=> ?_) (fun c=> ?_)
 ·have:=q _ s1;unfold layB at this;rw[dF c]at this;exact this
 have c:=dG c;generalize upd H' p1 (.lst (((ds.take rs.length).map (uw n ts)).map V.bl))=H1 at *;obtain⟨l,rfl,hv,hg⟩:=lay_of hd c;have hv1:=iC.same hv s1;have hll:=Paired.bV hv;refine⟨_,rfl,la,rs,rfl,s1.seq hL,fun hz=> ?_⟩;let ud:Nat->List V->St->Hp->Prop:=fun i acc σ H'=>H'=H1/\Paired (fun v l=>∃p,v= .ref p/\SqT K H1 p (l.map V.int)) acc ((l.take i).map (·.1))/\∃o,σ=[o];refine vK (xs:=rs) ud ⟨rfl,.nil,_,rfl⟩ (fun i acc σ H' _ p=>by rw[p.1];exact s1.seq hL) (fun i acc σ H' _ p=> ?_) hz (fun i x acc σ H' hx p=> ?_) (fun acc σ H' p=> ?_)
 ·rw[Paired.bV p.2.1,aJ,xU];exact Ax _ _
 ·obtain⟨rfl,hp,o,rfl⟩:=p;obtain⟨q,hq,t,sa,fa,rfl,h1,h2,h3⟩:=Paired.at_ hv1 hx;refine⟨_,rfl,t,_,_,.ref sa,rfl,rfl,h1,rfl,rfl,?_,_,rfl⟩;obtain⟨hi,rfl⟩:=nH.mp hq;rw[Qq hi,cO];exact Paired.snoc hp ⟨sa,rfl,h2⟩
 intro p2 hp2;obtain⟨rfl,hp,_⟩:=p;have s2:=aG hp2 (.lst acc);rw[Mu (by omega)]at hp;refine⟨p2,acc,l.map (·.1),rfl,SqL.of aD,Paired.mapP hp fun _ _ ⟨p,e,z⟩=>⟨p,e,s2.tup z⟩,fun H3 s3=> ?_⟩;have:=q _ (s1.trans (s2.trans s3));unfold layB at this;rw[c,JF]at this;exact this
def fL(D:Nat):List (Int×Nat)->Int
 |[]=>0
 |f::fs=>f.1*((D/f.2:Nat):Int)+fL D fs
theorem wO(D:Nat):∀(l m:List (Int×Nat)),fL D (l++m)=fL D l+fL D m
 |[],m=>by simp[fL]
 |f::l,m=>by simp[fL,wO D l m,Int.add_assoc]
theorem Fj(D:Nat)(f:Int×Nat):fL D [f]=f.1*((D/f.2:Nat):Int):=by simp[fL]
structure rm(D:Nat)(fs:List (Int×Nat)):Prop where
 pos:0<D
 le:D<=1000000000000000000
 all:∀f∈fs,0<=f.1/\0<f.2/\f.2∣D
structure iK(D:Nat)(S:Int)(a:Int)(b:Nat):Prop where
 pos:0<b
 dvd:b∣D
 eq:a*((D/b:Nat):Int)=S
theorem iK.le{D b:Nat}{S a:Int}(h:iK D S a b)(hD:0<D):b<=D:=Zi hD h.dvd
theorem Jd{D b v:Nat}{S a u:Int}(hD:0<D)(h:iK D S a b)(hv:0<v)(dv:v∣D):
  iK D (S+u*((D/v:Nat):Int)) (a*((v/Nat.gcd b v:Nat):Int)+u*((b*(v/Nat.gcd b v)/v:Nat):Int)) (b*(v/Nat.gcd b v)):=by
 obtain⟨hb,db,he⟩:=h;have hg:0<Nat.gcd b v:=wey _ hb;obtain⟨b1,eb⟩:=Nat.gcd_dvd_left b v;obtain⟨v1,ev⟩:=V8 b v;have dl:Nat.lcm b v∣D:=Nat.lcm_dvd db dv;have e1:v/Nat.gcd b v=v1:=by
  conv=>lhs;arg 1;rw[ev]
  exact Io _ hg
 have el:Nat.lcm b v=b*v1:=by
  unfold Nat.lcm;rw[Nat.mul_div_assoc _ (V8 b v),e1]
 rw[el]at dl;rw[e1];obtain⟨e,eD⟩:=dl;have hv1:0<v1:=Nat.pos_of_ne_zero fun z=>by rw[z,Zf]at ev;omega
 have hbv:0<b*v1:=Zd hb hv1;have c1:b*v1=v*b1:=by
  have:b*v1*Nat.gcd b v=v*b1*Nat.gcd b v:=by
   have h1:b*v1*Nat.gcd b v=b*(Nat.gcd b v*v1):=by rw[Zh,wgi v1]
   have h2:v*b1*Nat.gcd b v=v*(Nat.gcd b v*b1):=by rw[Zh,wgi b1]
   rw[h1,h2,<-ev,<-eb,wgi]
  exact Nat.eq_of_mul_eq_mul_right hg this
 have c2:b*v1/v=b1:=by rw[c1];exact Io _ hv
 have c3:D/(b*v1)=e:=by rw[eD];exact Io _ hbv
 have c4:D/b=v1*e:=by rw[eD,Zh];exact Io _ hb
 have c5:D/v=b1*e:=by rw[eD,c1,Zh];exact Io _ hv
 refine⟨hbv,⟨e,eD⟩,?_⟩;rw[c2,c3,c5,<-he,c4]
 push_cast
 grind
theorem tD{a:Int}{D:Nat}(hD:0<D):(aO a D).2∣D:=⟨Nat.gcd a.natAbs D,(Nat.div_mul_cancel (V8 _ _)).symm⟩
theorem Kv{a:Int}{D:Nat}(hD:0<D):(aO a D).1*((D/(aO a D).2:Nat):Int)=a:=by
 have l:=FJ a hD;have e:=l.eq;have hv:=l.pos;obtain⟨c,hc⟩:=tD (a:=a) hD;generalize (aO a D).1=u at *;generalize (aO a D).2=v at *;have:D/v=c:=by rw[hc];exact Io _ hv
 rw[this];rw[hc]at e
 push_cast at e
 refine Y6 (a:=(v:Int)) (by omega) ?_
 grind
theorem Ks{D v:Nat}{S a t u':Int}{bl v':Nat}(hD:0<D)(h:Low S D t bl)(hv:0<v)(dv:v∣D)(h2:Low (t*(v:Int)+a*(bl:Int)) (bl*v) u' v'):(u',v')=aO (S+a*((D/v:Nat):Int)) D:=by
 have e1:=h.eq;have e2:=h2.eq;have hb:=h.pos;obtain⟨c,hc⟩:=dv;have ec:D/v=c:=by rw[hc];exact Io _ hv
 have key:u'*(D:Int)=(S+a*((D/v:Nat):Int))*(v':Int):=by
  rw[ec];refine Y6 (a:=(bl:Int)*(v:Int)) ?_ ?_
  ·have:=Vi (a:=(bl:Int)) (b:=(v:Int)) (by omega) (by omega);omega
  ·have hcI:(D:Int)=(v:Int)*(c:Int):=by rw[hc];push_cast;rfl
   push_cast at e2
   have x1:u'*(D:Int)*((bl:Int)*(v:Int))=(D:Int)*(u'*((bl:Int)*(v:Int))):=by grind
   rw[x1,e2];have x2:(D:Int)*((t*(v:Int)+a*(bl:Int))*(v':Int))=((t*(D:Int))*(v:Int)+a*(D:Int)*(bl:Int))*(v':Int):=by grind
   rw[x2,e1]
   grind
 have l:=FJ (S+a*((D/v:Nat):Int)) hD;generalize (S+a*((D/v:Nat):Int))=W at *
 -- lowest terms are one
 have e3:=l.eq;have cr:u'*((aO W D).2:Int)=(aO W D).1*(v':Int):=by
  refine yek (a:=(D:Int)) (by omega) ?_;have x:(D:Int)*(u'*((aO W D).2:Int))=u'*(D:Int)*((aO W D).2:Int):=by grind
  have y:(D:Int)*((aO W D).1*(v':Int))=(aO W D).1*(D:Int)*(v':Int):=by grind
  rw[x,y,key,e3];grind
 have cn:u'.natAbs*(aO W D).2=(aO W D).1.natAbs*v':=by
  have:=lE Int.natAbs cr
  rwa [V6,V6,Wa,Wa]at this
 have d1:v'∣(aO W D).2:=(Zv h2.cop).dvd_of_dvd_mul_left (by rw[cn];exact Vc _ _);have d2:(aO W D).2∣v':=(Zv l.cop).dvd_of_dvd_mul_left (by rw[<-cn];exact Vc _ _);have ev:=Nat.dvd_antisymm d1 d2;have hp:=h2.pos;refine Prod.ext ?_ ev;rw[<-ev]at cr;exact Y6 (a:=(v':Int)) (by omega) cr
def rZ(K:W.Frag):Sp:=fun vs H Q _=>∃(p p':Addr) (u u':Int) (v v':Nat),vs=[.ref p,.ref p']/\SqT K H p [.int u,.int ((v:Nat):Int)]/\SqT K H p' [.int u',.int ((v':Nat):Int)]/\v<=1000000000000000000/\v'<=1000000000000000000/\Q (.bl (decide (u*(v':Int)<u'*(v:Int)))) H
theorem Oc{f:Addr}{fd:FuncData}(F:Fun K "is_less" "is_less" fW f fd):
  FnOk P w K mg base CX0 1 f fd ["one","other"] (rZ K):=by
 refine F.cT ["one","other"] fun cdv A outer s H vs Q E hr h=> ?_;obtain⟨p,p1,u,u1,v,v1,rfl,h1,h2,b1,b2,q⟩:=h;refine⟨_,(aZ (bQ (Ds op_lt (aX m9 (bx fM (pv 0) aq) (bx fM (pv 1) aq)) (aX m9 (bx fM (pv 1) aq) (bx fM (pv 0) aq))))),?_⟩;exact⟨_,rfl,p,_,_,.int u,rfl,rfl,h1,rfl,_,rfl,p1,_,_,.int v1,rfl,rfl,h2,rfl,_,_,rfl,rfl,.inr ⟨by omega,by omega⟩,_,rfl,p1,_,_,.int u1,rfl,rfl,h2,rfl,_,rfl,p,_,_,.int v,rfl,rfl,h1,rfl,_,_,rfl,rfl,.inr ⟨by omega,by omega⟩,_,_,rfl,rfl,q⟩
theorem mV{k:Nat}(h:k<=1000000000000000000)(x:Int):CMul x ((k:Nat):Int):= .inr ⟨by omega,by omega⟩
def nO(K:W.Frag):Sp:=fun vs H Q _=>∃(la:Addr) (rs:List V) (fs:List (Int×Nat)) (D:Nat),vs=[.ref la]/\SqL K H la rs/\bW K H rs fs/\rm D fs/\rs.length<=1000/\
 ∀(p:Addr) (a:Int) (b:Nat) H',Same H H'->H' p=some (.tup [.int a,.int ((b:Nat):Int)])->iK D (fL D fs) a b->Q (.ref p) H'
theorem J7{f f1:Addr}{fd d1:FuncData}(F:Fun K "sum_of" "sum_of" iI f fd)(D1:bO K mg "greatest_divisor" YK ["one","other"] f1 d1)(G1:FnOk P w K mg base CX0 1 f1 d1 ["one","other"] (RX K)):
  FnOk P w K mg base CX0 2 f fd ["fractions"] (nO K):=by
 refine F.cT ["fractions","a","b","top","bottom","by"] fun cdv A outer s H vs Q E hr h=> ?_;obtain⟨la,rs,fs,D,rfl,hL,hF,hD,hlen,q⟩:=h;refine bh ?_;intro Y;refine⟨_,(aP (pS 1 aq) (aP (pS 2 aq) (aP (ux rD rfl (pI (pv 0)) (pg_tup rfl (jq (pG 3) (jq (pG 4) xQ))) (aP (pS 5 (aX jQ (pv 4) (pc G1 hr D1 (aj (pv 2) (aj (pv 4) ak))))) (aP (pS 1 (aX pJ (aX m9 (pv 1) (pv 5)) (aX m9 (pv 3) (aX jQ (aX m9 (pv 2) (pv 5)) (pv 4))))) (aZ (pS 2 (aX m9 (pv 2) (pv 5))))))) (aZ (bQ (fY (aj (pv 1) (aj (pv 2) ak)))))))),?_⟩;refine Q9 ?_;intro c4 c3 c2;have hl:=Paired.bV hF;have MF:=hD.pos;have hD1:=hD.le;refine⟨_,rfl,la,rs,rfl,hL,fun hz=> ?_⟩;let iB:Nat->St->Hp->Prop:=fun i σ H'=>H'=H/\∃(a:Int) (b:Nat) (o1 o2 o3:Option V),iK D (fL D (fs.take i)) a b/\σ=[some (.ref la),some (.int a),some (.int ((b:Nat):Int)),o1,o2,o3];refine for_list (xs:=rs) iB ⟨rfl,0,1,_,_,_,⟨by omega,Zc _,by simp[fL]⟩,rfl⟩ (fun i σ H' _ p=>by rw[p.1];exact hL) (fun i x σ H' hx p=> ?_) (fun σ H' p=> ?_)
 ·obtain⟨rfl,a,b,o1,o2,o3,hs,rfl⟩:=p;obtain⟨f,hf,t,rfl,ht⟩:=Paired.at_ hF hx;obtain⟨f0,f1,f2⟩:=hD.all f (gZ hf);have hb:=hs.pos;have hbD:=hs.le MF;have hfD:=Zi MF f2;have st:=Jd (u:=f.1) MF hs f1 f2;have hg:0<Nat.gcd b f.2:=wey _ hb;have hg2:Nat.gcd b f.2<=b:=Nat.gcd_le_left _ hb;have hby:f.2/Nat.gcd b f.2<=f.2:=Nat.div_le_self _ _;have hbb:=st.le MF;refine⟨t,_,rfl,ht,rfl,_,_,rfl,_,_,rfl,rfl,?_⟩;refine⟨_,rfl,_,rfl,_,rfl,b,f.2,rfl,_,_,rfl,rfl,⟨by omega,by omega⟩,?_⟩;have eby:((f.2:Nat):Int)/((Nat.gcd b f.2:Nat):Int)=((f.2/Nat.gcd b f.2:Nat):Int):=(wfe _ _).symm;have eb2:((b:Nat):Int)*((f.2/Nat.gcd b f.2:Nat):Int)=((b*(f.2/Nat.gcd b f.2):Nat):Int):=(V7 _ _).symm;have eb3:((b*(f.2/Nat.gcd b f.2):Nat):Int)/((f.2:Nat):Int)=((b*(f.2/Nat.gcd b f.2)/f.2:Nat):Int):=(wfe _ _).symm;have hq:b*(f.2/Nat.gcd b f.2)/f.2<=b*(f.2/Nat.gcd b f.2):=Nat.div_le_self _ _;have c1:∀x:Int,CMul x (((f.2:Nat):Int)/((Nat.gcd b f.2:Nat):Int)):=fun x=>by rw[eby];exact mV (cC hby (cC hfD hD1)) x
  have c2:∀x:Int,CMul x (((b:Nat):Int)*(((f.2:Nat):Int)/((Nat.gcd b f.2:Nat):Int))/((f.2:Nat):Int)):=fun x=>by rw[eby,eb2,eb3];exact mV (cC hq (cC hbb hD1)) x
  refine⟨_,rfl,_,rfl,_,_,rfl,rfl,c1 _,_,rfl,_,rfl,_,rfl,_,_,rfl,rfl,c1 _,_,rfl,_,_,rfl,rfl,⟨by omega,by omega⟩,_,_,rfl,rfl,c2 _,_,_,rfl,rfl,?_⟩;refine⟨_,rfl,_,rfl,_,_,rfl,rfl,c1 _,?_⟩;refine⟨rfl,a*((f.2/Nat.gcd b f.2:Nat):Int)+f.1*((b*(f.2/Nat.gcd b f.2)/f.2:Nat):Int),b*(f.2/Nat.gcd b f.2),some (.int f.1),some (.int ((f.2:Nat):Int)),some (.int ((f.2/Nat.gcd b f.2:Nat):Int)),?_,?_⟩
  rotate_left
  ·show[some (V.ref la),some (.int (a*(((f.2:Nat):Int)/((Nat.gcd b f.2:Nat):Int))+f.1*(((b:Nat):Int)*(((f.2:Nat):Int)/((Nat.gcd b f.2:Nat):Int))/((f.2:Nat):Int)))),some (.int (((b:Nat):Int)*(((f.2:Nat):Int)/((Nat.gcd b f.2:Nat):Int)))),some (.int f.1),some (.int ((f.2:Nat):Int)),some (.int (((f.2:Nat):Int)/((Nat.gcd b f.2:Nat):Int)))]=_;rw[eby,eb2,eb3]
  obtain⟨hi,rfl⟩:=nH.mp hf;rw[Qq hi,wO,Fj];exact st
 ·obtain⟨rfl,a,b,o1,o2,o3,hs,rfl⟩:=p;refine⟨_,rfl,_,rfl,(by show 2<=sizeLine;decide),fun r hr'=> ?_⟩;refine q r a b _ (aG hr' _) aD ?_;rw[Mu (by omega)]at hs;exact hs
theorem fX{α:Type}{l:List α}{i:Nat}(h:i<l.length)(g:α->Bool):(l.take (i+1)).filter g=(l.take i).filter g++(if g l[i]=true then[l[i]]else[]):=by
 rw[Qq h,RD,Mt];split<;>rfl
theorem nP{H:Hp}{rs:List V}{l:List (List Int×(Int×Nat))}(hv:iC K H rs l){i:Nat}{x:V}(hx:rs[i]? =some x):∃(hi:i<l.length) (t sa fa:Addr),x= .ref t/\SqT K H t [.ref sa,.ref fa]/\SqT K H sa (l[i].1.map V.int)/\xG K H fa l[i].2:=by
 obtain⟨q,hq,t,sa,fa,e,h1,h2,h3⟩:=Paired.at_ hv hx;obtain⟨hi,rfl⟩:=nH.mp hq;exact⟨hi,t,sa,fa,e,h1,h2,h3⟩
theorem iK.cmp{D b:Nat}{S a u:Int}{v:Nat}(h:iK D S a b)(hD:0<D):a*(v:Int)<=u*(b:Int)↔S*(v:Int)<=u*(D:Int):=by
 obtain⟨hb,⟨k,rfl⟩,rfl⟩:=h;have hk:0<k:=by
  rcases RB k with z|z
  ·rw[z,Zf]at hD;cases hD
  ·exact z
 rw[Io _ hb,Int.mul_right_comm a (k:Int) (v:Int),V7,<-Qm];exact⟨fun h=>Wj h (by omega),fun h=>yeg h (by omega)⟩
theorem iK.aax{D b:Nat}{S a x:Int}(h:iK D S a b)(hD:0<D):x*(b:Int)<=a↔x*(D:Int)<=S:=by
 obtain⟨hb,⟨k,rfl⟩,rfl⟩:=h;have hk:0<k:=by
  rcases RB k with z|z
  ·rw[z,Zf]at hD;cases hD
  ·exact z
 rw[Io _ hb,V7,<-Qm];exact⟨fun h=>Wj h (by omega),fun h=>yeg h (by omega)⟩
theorem dec_not{a b:Int}:(!decide (a<b))=decide (b<=a):=by
 by_cases h:a<b
 ·rw[eY h,jx (by omega)];rfl
 ·rw[jx h,eY (by omega)];rfl
theorem rm.sub{D:Nat}{fs gs:List (Int×Nat)}(h:rm D fs)(s:∀f∈gs,f∈fs):rm D gs:=⟨h.pos,h.le,fun f hf=>h.all f (s f hf)⟩
def Cq(D:Nat)(l:List (List Int×(Int×Nat)))(p w:Int):Bool:=decide (w*(D:Int)<=fL D ((l.filter fun q=>decide (p∈q.1)).map (·.2)))
def Ea(K:W.Frag):Sp:=fun vs H Q _=>∃(la:Addr) (p w:Int) (rs:List V) (l:List (List Int×(Int×Nat))) (D:Nat),vs=[.ref la,.int p,.int w]/\SqL K H la rs/\iC K H rs l/\l.length<=1000/\rm D (l.map (·.2))/\∀H',Same H H'->Q (.bl (Cq D l p w)) H'
theorem Oe{f f1 f2:Addr}{fd d1 d2:FuncData}(F:Fun K "gets" "gets" Bt f fd)(D1:bO K mg "is_less" fW ["one","other"] f1 d1)(G1:FnOk P w K mg base CX0 1 f1 d1 ["one","other"] (rZ K))(D2:bO K mg "sum_of" iI ["fractions"] f2 d2)(G2:FnOk P w K mg base CX0 2 f2 d2 ["fractions"] (nO K)):
  FnOk P w K mg base CX0 3 f fd ["laying","place","want"] (Ea K):=by
 refine F.cT ["laying","place","want"] fun cdv A outer s H vs Q E hr h=> ?_;obtain⟨la,p,w,rs,l,D,rfl,hL,hv,h1k,hD,qq⟩:=h;refine⟨_,(aZ (bQ (pe_not (pc G1 hr D1 (aj (pc G2 hr D2 (aj (pK ["share"] ["place"] [1] (pI (pv 0)) (pG 0) (cW (iD (eF K hr.units) (pv 1) (bx (xP K) (pv 0) aq) (by with_unfolding_all rfl))) (bx (xP K) (pv 0) aq)) ak)) (aj (fY (aj (pv 2) (aj aq ak))) ak)))))),?_⟩;have hlen:=Paired.bV hv;refine⟨_,rfl,la,rs,rfl,hL,fun hz=> ?_⟩;let oV:Nat->List V->St->Hp->Prop:=fun i acc σ H'=>H'=H/\bW K H acc (((l.take i).filter fun q=>decide (p∈q.1)).map (·.2))/\∃o,σ=[o,some (.int p)];refine vK (xs:=rs) oV ⟨rfl,.nil,_,rfl⟩ (fun i acc σ H' _ p=>by rw[p.1];exact hL) (fun i acc σ H' _ p=> ?_) hz (fun i x acc σ H' hx p'=> ?_) (fun acc σ H' p'=> ?_)
 ·rw[Paired.bV p.2.1,aJ];exact cC (uX _ _) (by rw[xU];exact Ax _ _)
 ·obtain⟨rfl,hf,o,rfl⟩:=p';obtain⟨hi,t,sa,fa,rfl,h1,h2,h3⟩:=nP hv hx;refine⟨_,rfl,_,rfl,t,_,_,.ref sa,rfl,rfl,h1,rfl,sa,_,_,.int p,rfl,.inr h2,cI.ints _,.int _,yq _,rfl,(by show 0<=60;decide),_,rfl,?_⟩;rw[any_ints];refine ite2 (fun c=> ?_) (fun c=> ?_)
  ·refine⟨_,rfl,t,_,_,.ref fa,rfl,rfl,h1,rfl,rfl,?_,_,rfl⟩;rw[fX hi,aB c,cO];exact Paired.snoc hf ⟨fa,rfl,h3⟩
  ·refine⟨rfl,?_,_,rfl⟩;rw[fX hi,aA c,Ay];exact hf
 intro p1 hp1;obtain⟨rfl,hf,_⟩:=p';rw[Mu (by omega)]at hf;have s1:=aG hp1 (.lst acc);have hal:acc.length<=1000:=by
  rw[Paired.bV hf,aJ];exact cC (uX _ _) h1k
 have hDf:rm D ((l.filter fun q=>decide (p∈q.1)).map (·.2)):=hD.sub fun f hf=>by
  obtain⟨q,hq,rfl⟩:=lX.mp hf;exact Ng (lN.mp hq).1
 refine⟨p1,acc,_,D,rfl,SqL.of aD,bW.same hf s1,hDf,by omega,fun r a b H2 s2 hr2 hs=> ?_⟩;refine⟨_,rfl,(by show 2<=sizeLine;decide),fun r2 hr3=> ?_⟩;have s3:=aG hr3 (.tup [.int w,.int 1]);have hbD:=hs.le hD.pos;have hD1:=hD.le;refine⟨r,r2,a,w,b,1,rfl,s3.tup (SqT.of hr2),SqT.of aD,by omega,by omega,_,rfl,?_⟩;have e:=hs.aax hD.pos (x:=w);show Q (.bl (!decide (a*((1:Nat):Int)<w*(b:Int)))) _;rw[dec_not,show a*((1:Nat):Int)=a by rw[show((1:Nat):Int)=1 from rfl,Vj],decide_eq_decide.mpr e];exact qq _ (s1.trans (s2.trans s3))
def qP(d:PyData):List Int×(Int×Nat):=(setOf d,(intD ((kids ((kids d).getD 1 .none)).getD 0 .none),(intD ((kids ((kids d).getD 1 .none)).getD 1 .none)).toNat))
theorem fZ(q:List Int×(Int×Nat)):qP (JD q)=q:=by
 show(setOf (JD q),(q.2.1,(((q.2.2:Nat):Int)).toNat))=q;rw[pY,xV]
theorem jz(l:List (List Int×(Int×Nat))):(l.map JD).map qP=l:=by
 rw[Ql];exact(Ve fun q _=>fZ q).trans (Zg l)
def hasB(D:Nat)(wl:List Int)(l:List (List Int×(Int×Nat))):Bool:=(List.range wl.length).all fun i=>Cq D l ((i:Nat):Int) (wl.getD i 0)
def CN(n:Int)(ts:L0)(wl:List Int)(D:Nat)(ds:List PyData)(u:Int)(v:Nat):Bool:=layB n ts ds&&(hasB D wl (ds.map qP)&&decide (fL D ((ds.map qP).map (·.2))*(v:Int)<=u*(D:Int)))
def Jq(K:W.Frag):Sp:=fun vs H Q _=>∃(a wa la na:Addr) (n:Int) (ts:L0) (wl:List Int) (rs:List V) (ds:List PyData) (D:Nat) (u:Int) (v:Nat),vs=[.ref a,.ref wa,.ref la,.ref na]/\cB K H a n ts/\SqT K H wa (wl.map V.int)/\j5 n wl/\SqL K H la rs/\lA K H rs ds/\rs.length<=1000/\xG K H na (u,v)/\v<=1000000000000000000/\(layB n ts ds=true->rm D ((ds.map qP).map (·.2)))/\∀H',Same H H'->Q (.bl (CN n ts wl D ds u v)) H'
theorem yW{f f1 f2 f3 f4 f5 f6:Addr}{fd d1 d2 d3 d4 d5 d6:FuncData}(F:Fun K "is_enough" "is_enough" jJ f fd)(D1:bO K mg "need_web" dJ ["thing"] f1 d1)(G1:FnOk P w K mg base CX0 7 f1 d1 ["thing"] (iH K))(D2:bO K mg "need_wants" VP ["web","thing"] f2 d2)(G2:FnOk P w K mg base CX0 2 f2 d2 ["web","thing"] (gK K))(D3:bO K mg "is_laying" jH ["web","thing"] f3 d3)(G3:FnOk P w K mg base CX0 6 f3 d3 ["web","thing"] (Jo K))(D4:bO K mg "gets" Bt ["laying","place","want"] f4 d4)(G4:FnOk P w K mg base CX0 3 f4 d4 ["laying","place","want"] (Ea K))(D5:bO K mg "is_less" fW ["one","other"] f5 d5)(G5:FnOk P w K mg base CX0 1 f5 d5 ["one","other"] (rZ K))(D6:bO K mg "sum_of" iI ["fractions"] f6 d6)(G6:FnOk P w K mg base CX0 2 f6 d6 ["fractions"] (nO K))(oF:mg "all"=none)(bJ:mg "enumerate"=none):
  FnOk P w K mg base CX0 8 f fd ["web","wants","laying","number"] (Jq K):=by
 refine F.cT ["web","wants","laying","number"] fun cdv A outer s H vs Q E hr h=> ?_;obtain⟨a,wa,la,na,n,ts,wl,rs,ds,D,u,v,rfl,hA,hW,hwl,hL,hd,hrs,hN,T5,hD,q⟩:=h;refine bh ?_;intro Y;refine⟨_,(aP (yj (pc G1 hr D1 (aj (pv 0) ak))) (aP (yj (pc G2 hr D2 (aj (pv 0) (aj (pv 1) ak)))) (aP (lC (nA (lW (pc G3 hr D3 (aj (pv 0) (aj (pv 2) ak))))) (aZ (bQ lB)) lD) (aP (lC (nA (lW (pB (eV rfl) oF (aj (pK ["place","want"] ["laying"] [2] (oh rfl bJ (aj (pv 1) ak)) (eE K (n:=2) rfl (jq (pG 0) (jq (pG 1) xQ))) lM (pc G4 hr D4 (aj (pv 2) (aj (pv 0) (aj (pv 1) ak))))) ak)))) (aZ (bQ lB)) lD) (aZ (bQ (pe_not (pc G5 hr D5 (aj (pv 3) (aj (pc G6 hr D6 (aj (pK ["share"] [] [] (pI (pv 2)) (pG 0) lM (bx (xP K) (pv 0) aq)) ak)) ak)))))))))),?_⟩;refine Xy ?_;intro c5 c4 c3 c2;have no:(layB n ts ds&&hasB D wl (ds.map qP))=false->∀H',Same H H'->Q (.bl false) H':=fun e H' sm=>by
  have:=q H' sm;unfold CN at this;rw[<-Bool.and_assoc,e]at this;exact this
 have h0:=hA.h0;have h10:=hA.h1;have hwn:wl.length=n.toNat:=by have:=hwl.1;omega
 refine⟨_,rfl,.ref a,_,rfl,hA.web.dv.dx,hA.ok,fun H1 s1=> ?_⟩;obtain⟨RQ,R9,w1,w2,w3⟩:=id (hA.same s1).web;refine⟨_,rfl,_,rfl,a,wa,n,_,wl,rfl,w1,s1.tup hW,hwl,fun H2 s2=> ?_⟩;have s12:=s1.trans s2;refine⟨_,rfl,_,rfl,a,la,n,ts,rs,ds,rfl,hA.same s12,s12.seq hL,lA.same s12 hd,fun H3 s3=>⟨_,rfl,?_⟩⟩;have yM:=s12.trans s3;refine ite2 (fun c=>no (by rw[dF c];rfl) _ yM) (fun c=> ?_);have c:=dG c;have hD:=hD c;have ca:ds.all (uw n ts)=true:=by
  have c':=c;unfold layB at c';exact(Bool.and_eq_true_iff.mp c').1
 obtain⟨l,rfl,hv,hg⟩:=lay_of hd ca;unfold CN at q;rw[c]at no q;rw[jz]at no q hD;have hlen:=Paired.bV hv;refine⟨_,rfl,true,wa,_,rfl,yM.tup hW,fun hz=> ?_⟩;let ud:Nat->List V->St->Hp->Prop:=fun i acc σ H'=>acc=((List.range i).map fun i=>Cq D l ((i:Nat):Int) (wl.getD i 0)).map V.bl/\Same H3 H'/\∃o1 o2,σ=[o1,o2,some (.ref la)];refine lg (K:=K) (b:=true) (a:=wa) (xs:=wl.map V.int) ud ⟨rfl,Same.refl _,_,_,rfl⟩ (fun i acc σ H' _ p=>(yM.trans p.2.1).tup hW) (fun i acc σ H' _ p=>by rw[p.1,aJ,aJ,rC];exact aN _) hz (fun i v' t acc σ H' hv' p ht=> ?_) (fun acc σ H' p=> ?_)
 ·obtain⟨rfl,sm,o1,o2,rfl⟩:=p;rw[dW]at hv';cases ev:wl[i]? with
  |none=>rw[ev]at hv';cases hv'
  |some y=>
   rw[ev]at hv';cases hv';have t1:=aG ht (.tup [.int (i:Int),.int y]);have st:=yM.trans (sm.trans t1);have hwy:wl.getD i 0=y:=by rw[iM,ev];rfl
   refine⟨t,_,rfl,SqT.of aD,rfl,_,_,rfl,_,_,rfl,rfl,?_⟩;refine⟨_,rfl,_,rfl,_,rfl,la,(i:Int),y,rs,l,D,rfl,st.seq hL,iC.same hv st,by omega,hD,fun H5 s5=>⟨?_,sm.trans (t1.trans s5),_,_,rfl⟩⟩;rw[yu,cO,cO,YT,YT,hwy]
 intro p1 hp1;obtain⟨rfl,sm,_⟩:=p;rw[aJ]at *;have Gh:=yM.trans (sm.trans (aG hp1 (.lst (((List.range wl.length).map fun i=>Cq D l ((i:Nat):Int) (wl.getD i 0)).map V.bl))));refine⟨p1,_,rfl,SqL.of aD,_,rfl,?_⟩;rw[dh];refine ite2 (fun c2=>no (by show hasB D wl l=false;exact dF c2) _ Gh) (fun c2=> ?_);have c2:hasB D wl l=true:=dG c2;rw[c2]at q;generalize upd H' p1 (.lst (((List.range wl.length).map fun i=>Cq D l ((i:Nat):Int) (wl.getD i 0)).map V.bl))=H4 at *;have hv4:=iC.same hv Gh;refine⟨_,rfl,_,rfl,la,rs,rfl,Gh.seq hL,fun hz=> ?_⟩;let LR:Nat->List V->St->Hp->Prop:=fun i acc σ H'=>H'=H4/\bW K H4 acc ((l.take i).map (·.2))/\∃o,σ=[o];refine vK (xs:=rs) LR ⟨rfl,.nil,_,rfl⟩ (fun i acc σ H' _ p=>by rw[p.1];exact Gh.seq hL) (fun i acc σ H' _ p=> ?_) hz (fun i x acc σ H' hx p=> ?_) (fun acc σ H' p=> ?_)
 ·rw[Paired.bV p.2.1,aJ,xU];exact Ax _ _
 ·obtain⟨rfl,hp,o,rfl⟩:=p;obtain⟨hi,t,sa,fa,rfl,h1,h2,h3⟩:=nP hv4 hx;refine⟨_,rfl,t,_,_,.ref fa,rfl,rfl,h1,rfl,rfl,?_,_,rfl⟩;rw[Qq hi,cO];exact Paired.snoc hp ⟨fa,rfl,h3⟩
 intro p2 hp2;obtain⟨rfl,hp,_⟩:=p;rw[Mu (by omega)]at hp;have s2':=aG hp2 (.lst acc);have hal:acc.length<=1000:=by rw[Paired.bV hp,aJ];omega
 refine⟨p2,acc,_,D,rfl,SqL.of aD,bW.same hp s2',hD,hal,fun r a' b' H5 s5 hr5 hs=> ?_⟩;have hbD:=hs.le hD.pos;have hD1:=hD.le;refine⟨na,r,u,a',v,b',rfl,(Gh.trans (s2'.trans s5)).tup hN,SqT.of hr5,T5,by omega,_,rfl,?_⟩;have e:=hs.cmp hD.pos (u:=u) (v:=v);show Q (.bl (!decide (u*((b':Nat):Int)<a'*((v:Nat):Int)))) _;rw[dec_not,decide_eq_decide.mpr e];exact q _ (Gh.trans (s2'.trans s5))
end
theorem Ld{D:Nat}:∀{fs:List (Int×Nat)},(∀f∈fs,0<=f.1)->0<=fL D fs
 |[],_=>Dv _
 |f::fs,h=>by
  have h1:=h f nG;have h2:=Ld (D:=D) (fs:=fs) fun g hg=>h g (jr _ hg);have:=yt h1 (Int.natCast_nonneg (D/f.2));show 0<=f.1*((D/f.2:Nat):Int)+fL D fs;omega
theorem zy{n:Int}:∀{xs:List Int} {m:Int},xs.Pairwise (· < ·)->(∀x∈xs,m<=x/\x<n)->m<=n->m+(xs.length:Int)<=n
 |[],m,_,_,h=>by simpa using h
 |x::xs,m,hp,hb,_=>by
  obtain⟨h1,h2⟩:=Vd.mp hp;have hx:=hb x nG;have:=zy (m:=m+1) h2 (fun y hy=>⟨by have:=h1 y hy;omega,(hb y (jr _ hy)).2⟩) (by omega);rw[uz];omega
theorem rJ{n:Nat}{xs:List Int}(h:xs.Pairwise (· < ·))(hb:∀x∈xs,0<=x/\x<(n:Int)):xs.length<=n:=by
 have:=zy (m:=0) h hb (by omega);omega
theorem vW{n:Nat}{ts:L0}{ss:List (List Int)}(hS:cH ss ts false n){s:List Int}(h:s∈ss):qx ts false n s:=iu n s (lN.mp (hS.1.mem_iff.mp h)).1
theorem vR:∀{t s:List Int},s.Pairwise (· < ·)->t.Pairwise (· < ·)->(∀x∈s,x∈t)->s.Sublist t
 |[],[],_,_,_=> .slnil
 |[],x::_,_,_,h=>(nomatch h x nG)
 |_::_,[],_,_,_=>List.nil_sublist _
 |y::t,x::s,hs,ht,h=>by
  obtain⟨hs1,hs2⟩:=Vd.mp hs;obtain⟨ht1,Xn⟩:=Vd.mp ht;by_cases e:x=y
  ·subst e;refine .cons_cons _ (vR hs2 Xn fun z hz=> ?_);rcases cJ.mp (h z (jr _ hz))with e|e
   ·have:=hs1 z hz;omega
   ·exact e
  ·have hx:x∈t:=(cJ.mp (h x nG)).resolve_left e;have hxy:=ht1 x hx;refine .cons _ (vR hs Xn fun z hz=> ?_);rcases cJ.mp (h z hz)with e'|e'
   ·rcases cJ.mp hz with e2|e2
    ·omega
    ·have:=hs1 z e2;omega
   ·exact e'
theorem PJ{D:Nat}{g:Int->Int×Nat}(hg:∀x,0<=(g x).1){s t:List Int}(h:s.Sublist t):fL D (s.map g)<=fL D (t.map g):=by
 induction h with
 |slnil=>exact Dv _
 | @cons l1 l2 a _ ih=>
  have:=yt (hg a) (Int.natCast_nonneg (D/(g a).2));show _<=(g a).1*((D/(g a).2:Nat):Int)+fL D (l2.map g);omega
 | @cons_cons l1 l2 a _ ih=>
  show(g a).1*((D/(g a).2:Nat):Int)+fL D (l1.map g)<=(g a).1*((D/(g a).2:Nat):Int)+fL D (l2.map g);omega
def gG(fs:List (Int×Nat))(x:Int):Int×Nat:=fs.getD x.toNat (0,1)
theorem Pq{fs:List (Int×Nat)}(h:∀f∈fs,0<=f.1)(x:Int):0<=(gG fs x).1:=by
 unfold gG;rw[iM];cases e:fs[x.toNat]? with
 |none=>exact Dv _
 |some f=>exact h f (gZ e)
def oW(ts:L0)(n D:Nat)(fs:List (Int×Nat)):Prop:=∀s∈bB ts false n,fL D (s.map (gG fs))<=(D:Int)
theorem Cg{ts:L0}{n D:Nat}{fs:List (Int×Nat)}{ss:List (List Int)}(hS:cH ss ts false n)(h:∀f∈fs,0<=f.1)(hs:∀s∈ss,fL D (s.map (gG fs))<=(D:Int)):oW ts n D fs:=fun s hm=>by
 have hk:=iu n s hm;obtain⟨t,ht,hx⟩:=zM hk;have htt:=hS.1.mem_iff.mpr ht;exact Int.le_trans (PJ (Pq h) (vR hk.up (vW hS htt).up hx)) (hs t htt)
theorem Cy{ts:L0}{n D:Nat}{fs:List (Int×Nat)}{ss:List (List Int)}(hS:cH ss ts false n)(h:oW ts n D fs):∀s∈ss,fL D (s.map (gG fs))<=(D:Int):=fun s hs=>h s (lN.mp (hS.1.mem_iff.mp hs)).1
section
variable{P:Program}{w:World}{K:W.Frag}{mg:L4}{base:Heap}
def Jt(K:W.Frag):Sp:=fun vs H Q _=>∃(a b:Nat),vs=[.int (a:Int),.int b]/\0<b/\b<=10^200/\∀p H' u v,Same H H'->H' p=some (.tup [.int u,.int ((v:Nat):Int)])->Low (a:Int) b u v->Q (.ref p) H'
theorem Nz:FnScope ["a","b","one","other"] ["a","b"] (defScope iT):=fsc
theorem Om{f:Addr}{fd:FuncData}(F:Fun K "_law_alow" "_law_alow" iT f fd):FnOk P w K mg base CX0 1 f fd ["a","b"] (Jt K):=by
 refine F.cT ["a","b","one","other"] fun cdv A outer s H vs Q E hr h=> ?_;obtain⟨a,b,rfl,hb,hB,q⟩:=h;refine⟨_,aP (pS 2 (pv 0)) (aP (pS 3 (pv 1)) (aP (ps_while rD (iD op_gt (pv 3) aq) (aZ (ps_par (i:=2) (j:=3) rfl Nz.nd rfl rfl (by decide) rfl rfl (aj (pv 3) (aj (aX op_mod (pv 2) (pv 3)) ak)) rfl))) (aZ (bQ (fY (aj (aX ou (pv 0) (pv 2)) (aj (aX ou (pv 1) (pv 2)) ak))))))),?_⟩;refine⟨_,rfl,_,rfl,?_⟩;refine⟨fun k σ H'=>H'=H/\∃(m':Nat),σ=[some (.int (a:Int)),some (.int (b:Int)),some (.int (m':Int)),some (.int (k:Int))]/\Nat.gcd m' k=Nat.gcd a b,⟨b,rfl,a,rfl,rfl⟩,?_⟩;rintro k σ H' ⟨rfl,m',rfl,hg⟩;refine⟨_,rfl,_,_,rfl,rfl,_,rfl,?_⟩;refine ite2 (fun c=> ?_) (fun c=> ?_)
 ·have hk:0<k:=M7.mp (nM c);refine⟨fun σ' H2=>H2=H'/\σ'=[some (.int (a:Int)),some (.int (b:Int)),some (.int (k:Int)),some (.int ((m' %k:Nat):Int))],fun σ' H2 ⟨e1,e2⟩=>⟨m' %k,Za _ hk,e1,k,e2,?_⟩,?_⟩
  ·rw[zE];exact hg
  ·exact⟨_,rfl,_,rfl,_,rfl,_,_,rfl,rfl,M7.mpr hk,_,_,rfl,rfl,rfl⟩
 ·have hk:k=0:=by
   rcases RB k with h|h
   ·exact h
   ·exfalso;exact c (eY (M7.mpr h))
  subst hk;rw[Nat.gcd_zero_right]at hg;have hg1:0<Nat.gcd a b:=wch _ hb;have hg2:(((Nat.gcd a b:Nat):Int)).natAbs<=10^200:=cC (K5 (a:Int) b hb) hB;rw[hg];refine⟨_,rfl,_,rfl,_,_,rfl,rfl,⟨M7.mpr hg1,hg2⟩,_,rfl,_,rfl,_,_,rfl,rfl,⟨M7.mpr hg1,hg2⟩,(by show 2<=sizeLine;decide),fun p hp=> ?_⟩;exact q p _ _ _ (aG hp _) (EY (a:=(a:Int)) hp) (Ce (a:Int) b hb)
def apB(ts:L0)(xs:List Int):Bool:=decide (ts.filter (fun p=>decide (p.1∈xs)&&decide (p.2∈xs))=[])
theorem vG(xs:List Int)(y:Int):((xs.map PyData.int).any fun d=>PyData.eqv d (.int y))=decide (y∈xs):=by
 rw[Bb,Ry,decide_eq_true_iff];constructor
 ·rintro⟨d,hd,e⟩;obtain⟨x,hx,rfl⟩:=lX.mp hd;have:x=y:=by simpa[PyData.eqv]using e
  rw[<-this];exact hx
 ·intro h;exact⟨.int y,Ng h,by simp[PyData.eqv]⟩
theorem uN(l:L0):PyData.eqv (.list (l.map pairD)) (.list [])=decide (l=[]):=by
 cases l with
 |nil=>simp[PyData.eqv,PyData.eqvAll]
 |cons p l=>simp[PyData.eqv,PyData.eqvAll]
def Ed(K:W.Frag):Sp:=fun vs H Q _=>∃(a b:Addr) (n:Int) (ts:L0) (xs:List Int),vs=[.ref a,.ref b]/\cB K H a n ts/\SqT K H b (xs.map V.int)/\∀H',Same H H'->Q (.bl (apB ts xs)) H'
theorem Kc{f:Addr}{fd:FuncData}(F:Fun K "_law_ais_apart" "_law_ais_apart" fB f fd):
  FnOk P w K mg base CX0 1 f fd ["web","some"] (Ed K):=by
 refine F.cT ["web","some"] fun cdv A outer s H vs Q E hr h=> ?_;obtain⟨a,b,n,ts,xs,rfl,hA,hB,q⟩:=h;refine⟨_,(aZ (bQ (Ds (J5 hr.units) (pK ["pair"] ["some"] [1] (dZ (bx fM (pv 0) aq)) (pG 0) (cW (PW.pt (pw_and (iD (eF K hr.units) (bx (xP K) (pv 0) aq) (pv 1) (by with_unfolding_all rfl)) (pw_and1 (iD (eF K hr.units) (bx (xP K) (pv 0) aq) (pv 1) (by with_unfolding_all rfl)))))) (pv 0)) (qH ak)))),?_⟩;obtain⟨tw,rw',w1,w2,w3⟩:=id hA.web;refine⟨_,rfl,a,_,_,.ref tw,rfl,rfl,w1,rfl,tw,rw',rfl,w2,fun hz=> ?_⟩;have hrw:rw'.length=ts.length:=by have:=w3.len;rw[aJ]at this;exact this
 refine Mj (xs:=rw') (fun i acc σ H'=>cI K H' acc (((ts.take i).filter fun p=>decide (p.1∈xs)&&decide (p.2∈xs)).map pairD)/\Same H H'/\∃o,σ=[o,some (.ref b)]) ⟨.nil,Same.refl _,_,rfl⟩ (fun i acc σ H' _ p=>p.2.1.tup w2) (fun i acc σ H' _ p=> ?_) hz (fun i x acc σ H' hx p=> ?_) (fun acc σ H' p=> ?_)
 ·rw[p.1.len,aJ];exact cC (uX _ _) (by rw[xU];exact Ax _ _)
 ·obtain⟨hD,sm,o,rfl⟩:=p;obtain⟨t,hi,rfl,ht⟩:=Er w3 hx;have e:=V0 (p:=fun p:Int×Int=>decide (p.1∈xs)&&decide (p.2∈xs)) hi;have ht':=sm.tup ht;refine⟨_,rfl,t,_,_,.int (ts[i]).1,rfl,rfl,ht',rfl,_,rfl,b,_,_,.int (ts[i]).1,rfl,.inr (sm.tup hB),cI.ints xs,.int _,yq xs,rfl,(by show 0<=60;decide),_,rfl,?_⟩;rw[vG];refine ite2 (fun c=> ?_) (fun c=> ?_)
  ·refine⟨_,rfl,t,_,_,.int (ts[i]).2,rfl,rfl,ht',rfl,_,rfl,b,_,_,.int (ts[i]).2,rfl,.inr (sm.tup hB),cI.ints xs,.int _,yq xs,rfl,(by show 0<=60;decide),_,rfl,?_⟩;rw[vG];refine ite2 (fun c2=> ?_) (fun c2=> ?_)
   ·refine⟨_,rfl,?_,sm,_,rfl⟩;rw[e,aB (by rw[c,c2];rfl),cO];exact hD.snoc (.tup ht' (.cons (.int _) (.cons (.int _) .nil)))
   ·refine⟨?_,sm,_,rfl⟩;rw[e,aA (fun z=>c2 (by rw[pR]at z;exact z.2)),Ay];exact hD
  ·refine⟨?_,sm,_,rfl⟩;rw[e,aA (fun z=>c (by rw[pR]at z;exact z.1)),Ay];exact hD
 ·intro p1 hp1;obtain⟨hD,sm,_⟩:=p;rw[hrw,vL]at hD;have s1:=aG hp1 (.lst acc);have hp2:(upd H' p1 (.lst acc)) p1=some (.lst acc):=aD;have hD1:=hD.same s1
  try dsimp only at s1 hp2 hD1⊢
  generalize upd H' p1 (.lst acc)=H2 at *;refine⟨(by show 0<=sizeLine;decide),fun p2 hq2=> ?_⟩;have s2:=aG hq2 (.lst []);refine⟨.list ((ts.filter fun p:Int×Int=>decide (p.1∈xs)&&decide (p.2∈xs)).map pairD),.list [],.lst (SqL.of (s2 _ _ hp2)) (hD1.same s2),.lst (SqL.of aD) .nil,kY _,rfl,(by show min _ 1<=64;omega),?_⟩;rw[uN];exact q _ (sm.trans (s1.trans s2))
theorem aaw:1000000000000000000*1000000000000000000<=10^200:=by decide+kernel
def sy(K:W.Frag):Sp:=fun vs H Q _=>∃(la:Addr) (rs:List V) (fs:List (Int×Nat)) (D:Nat),vs=[.ref la]/\SqL K H la rs/\bW K H rs fs/\rm D fs/\rs.length<=1000/\
 ∀(p:Addr) H',Same H H'->xG K H' p (aO (fL D fs) D)->Q (.ref p) H'
theorem Oj{f f1:Addr}{fd d1:FuncData}(F:Fun K "_law_asum" "_law_asum" dM f fd)(D1:bO K mg "_law_alow" iT ["a","b"] f1 d1)(G1:FnOk P w K mg base CX0 1 f1 d1 ["a","b"] (Jt K)):
  FnOk P w K mg base CX0 2 f fd ["some"] (sy K):=by
 refine F.cT ["some","top","below","a","b"] fun cdv A outer s H vs Q E hr h=> ?_;obtain⟨la,rs,fs,D,rfl,hL,hF,hD,hlen,q⟩:=h;refine⟨_,(aP (pS 1 aq) (aP (pS 2 aq) (aP (ux rD rfl (pI (pv 0)) (pg_tup rfl (jq (pG 3) (jq (pG 4) xQ))) (aZ (ps_asg (pc G1 hr D1 (aj (aX pJ (aX m9 (pv 1) (pv 4)) (aX m9 (pv 3) (pv 2))) (aj (aX m9 (pv 2) (pv 4)) ak))) (pg_tup rfl (jq (pG 1) (jq (pG 2) xQ)))))) (aZ (bQ (fY (aj (pv 1) (aj (pv 2) ak)))))))),?_⟩;have hl:=Paired.bV hF;have MF:=hD.pos;have hD1:=hD.le;have nn:∀i,0<=fL D (fs.take i):=fun i=>Ld fun f hf=>(hD.all f (List.mem_of_mem_take hf)).1;have z0:aO 0 D=(0,1):=by
  have:=FJ 0 MF;refine(wG MF ⟨by omega,by decide,by omega,by simp,by omega,fun _=>by omega⟩).symm
 refine⟨_,rfl,la,rs,rfl,hL,fun hz=> ?_⟩;refine for_list (xs:=rs) (fun i σ H'=>Same H H'/\∃(o1 o2:Option V),σ=[some (.ref la),some (.int (aO (fL D (fs.take i)) D).1),some (.int (((aO (fL D (fs.take i)) D).2:Nat):Int)),o1,o2]) ⟨Same.refl _,_,_,by show _=[_,some (V.int (aO 0 D).1),some (V.int (((aO 0 D).2:Nat):Int)),_,_];rw[z0];rfl⟩ (fun i σ H' _ p=>p.1.seq hL) (fun i x σ H' hx p=> ?_) (fun σ H' p=> ?_)
 ·obtain⟨sm,o1,o2,rfl⟩:=p;obtain⟨f,hf,t,rfl,ht0⟩:=Paired.at_ hF hx;have ht:=sm.tup ht0;obtain⟨f0,f1,f2⟩:=hD.all f (gZ hf);have hfD:=Zi MF f2;have l:=FJ (fL D (fs.take i)) MF;have l0:=l.nn (nn i);have lv:=l.lv;have lp:=l.pos;have es:fL D (fs.take (i+1))=fL D (fs.take i)+f.1*((D/f.2:Nat):Int):=by
   obtain⟨hi,rfl⟩:=nH.mp hf;rw[Qq hi,wO,Fj]
  rw[es];generalize hS:fL D (fs.take i)=S at *;generalize hu:(aO S D).1=u at *;generalize hv:(aO S D).2=v at *;refine⟨t,_,rfl,ht,rfl,_,_,rfl,_,_,rfl,rfl,?_⟩;refine⟨_,rfl,_,rfl,_,_,rfl,rfl,mV (by omega) _,_,rfl,_,rfl,_,_,rfl,rfl,mV (by omega) _,_,_,rfl,rfl,_,rfl,_,rfl,_,_,rfl,rfl,mV (by omega) _,?_⟩;have p0:0<=u*(f.2:Int)+f.1*(v:Int):=Int.add_nonneg (yt l0 (by omega)) (yt f0 (by omega));have ea:(((u*(f.2:Int)+f.1*(v:Int)).toNat:Nat):Int)=u*(f.2:Int)+f.1*(v:Int):=Int.toNat_of_nonneg p0;have hvf:0<v*f.2:=Zd lp f1;have hvb:v*f.2<=10^200:=cC (Nat.mul_le_mul (cC lv hD1) (cC hfD hD1)) aaw;refine⟨(u*(f.2:Int)+f.1*(v:Int)).toNat,v*f.2,?_,hvf,hvb,fun p H2 u2 v2 s2 h2 hl2=> ?_⟩
  ·rw[ea];rfl
  rw[ea]at hl2;have e2:=Ks MF l f1 f2 hl2;refine⟨p,_,rfl,SqT.of h2,rfl,_,_,rfl,_,_,rfl,rfl,sm.trans s2,some (.int f.1),some (.int ((f.2:Nat):Int)),?_⟩;rw[<-e2];rfl
 ·obtain⟨sm,o1,o2,rfl⟩:=p;refine⟨_,rfl,_,rfl,(by show 2<=sizeLine;decide),fun r hr'=> ?_⟩;refine q r _ (sm.trans (aG hr' _)) ?_;have e2:aO (fL D fs) D=aO (fL D (fs.take rs.length)) D:=by rw[Mu (by omega)]
  rw[e2];exact SqT.of aD
def yH(K:W.Frag):Sp:=fun vs H Q _=>∃(p p':Addr) (u u':Int) (v v':Nat),vs=[.ref p,.ref p']/\SqT K H p [.int u,.int ((v:Nat):Int)]/\SqT K H p' [.int u',.int ((v':Nat):Int)]/\v<=1000000000000000000/\v'<=1000000000000000000/\Q (.bl (decide (u*(v':Int)<=u'*(v:Int)))) H
theorem Tq{f:Addr}{fd:FuncData}(F:Fun K "_law_ano_more" "_law_ano_more" U9 f fd):
  FnOk P w K mg base CX0 1 f fd ["one","other"] (yH K):=by
 refine F.cT ["one","other"] fun cdv A outer s H vs Q E hr h=> ?_;obtain⟨p,p1,u,u1,v,v1,rfl,h1,h2,b1,b2,q⟩:=h;refine⟨_,(aZ (bQ (Ds op_le (aX m9 (bx fM (pv 0) aq) (bx fM (pv 1) aq)) (aX m9 (bx fM (pv 1) aq) (bx fM (pv 0) aq))))),?_⟩;exact⟨_,rfl,p,_,_,.int u,rfl,rfl,h1,rfl,_,rfl,p1,_,_,.int v1,rfl,rfl,h2,rfl,_,_,rfl,rfl,mV b2 _,_,rfl,p1,_,_,.int u1,rfl,rfl,h2,rfl,_,rfl,p,_,_,.int v,rfl,rfl,h1,rfl,_,_,rfl,rfl,mV b1 _,_,_,rfl,rfl,q⟩
def U6(K:W.Frag)(H:Hp)(r:Addr)(ts:L0)(k:Nat):Prop:=∃its:List (Addr×List Int),H r=some (.lst (its.map fun p=>V.ref p.1))/\(∀p∈its,SqT K H p.1 (p.2.map V.int))/\its.map (·.2)=bB ts false k
theorem Ui{n:Int}{k:Nat}{ts:L0}(hp:gU n ts){s:List Int}(h:qx ts false k s):decide (s.filter (fun o=>decide ((o,((k:Nat):Int))∈ts))=[])=goB ts false s (k:Int):=by
 have e:∀x∈s,(bN ts (k:Int) x==false)= !decide ((x,((k:Nat):Int))∈ts):=fun x hx=>by
  unfold bN;rw[jx (fun hc=>by have:=hp.2 _ hc;have:=h.lt x hx;simp at *;omega),wgc];cases decide ((x,((k:Nat):Int))∈ts)<;>rfl
 unfold goB;by_cases c:s.filter (fun o=>decide ((o,((k:Nat):Int))∈ts))=[]
 ·rw[eY c];refine(nF.mpr fun x hx=> ?_).symm;rw[e x hx,Bool.eq_false_iff.mpr (Y0.mp c x hx)];rfl
 ·rw[jx c];refine(Bool.eq_false_iff.mpr fun z=>c (Y0.mpr fun x hx hc=> ?_)).symm;have:=nF.mp z x hx;rw[e x hx,hc]at this;cases this
theorem wR(l:List Int):PyData.eqv (.list (l.map PyData.int)) (.list [])=decide (l=[]):=by
 cases l with
 |nil=>simp[PyData.eqv,PyData.eqvAll]
 |cons p l=>simp[PyData.eqv,PyData.eqvAll]
theorem Hv(ts:L0)(p:Int×Int):((ts.map pairD).any fun d=>PyData.eqv d (pairD p))=decide (p∈ts):=by
 rw[Bb,Ry,decide_eq_true_iff];constructor
 ·rintro⟨d,hd,e⟩;obtain⟨x,hx,rfl⟩:=lX.mp hd;have:x=p:=by
   have e':x.1=p.1/\x.2=p.2:=by simpa[pairD,PyData.eqv,PyData.eqvAll]using e
   exact Prod.ext e'.1 e'.2
  rw[<-this];exact hx
 ·intro h;exact⟨pairD p,Ng h,by simp[pairD,PyData.eqv,PyData.eqvAll]⟩
def vd(K:W.Frag):Sp:=fun vs H Q _=>∃(a:Addr) (n:Int) (ts:L0),vs=[.ref a]/\cB K H a n ts/\∀r H',Same H H'->U6 K H' r ts n.toNat->Q (.ref r) H'
theorem BW{f:Addr}{fd:FuncData}(F:Fun K "_law_aaparts" "_law_aaparts" iw f fd)(aH:mg "range"=none):
  FnOk P w K mg base CX0 1 f fd ["web"] (vd K):=by
 refine F.cT ["web","found","place","more","some"] fun cdv A outer s H vs Q E hr h=> ?_;obtain⟨a,n,ts,rfl,hA,q⟩:=h;refine bh ?_;intro Y;refine⟨_,(aP (pS 1 (qH (aj (fY ak) ak))) (aP (ux rD rfl (Aw rfl aH (aj (bx fM (pv 0) aq) ak)) (pG 2) (aP (pS 3 (qH ak)) (aP (ux rD rfl (pI (pv 1)) (pG 4) (aZ (lC (iD (J5 hr.units) (pK ["one"] ["place","web"] [2,0] (dZ (pv 4)) (pG 0) (cW (iD (eF K hr.units) (fY (aj (pv 0) (aj (pv 1) ak))) (bx (xP K) (pv 2) aq) (by with_unfolding_all rfl))) (pv 0)) (qH ak)) (aZ (yj (pe_bm Iz Qz Qy Qg (pv 3) (aj (aX oA (pv 4) (fY (aj (pv 2) ak))) ak)))) lD))) (aZ (pS 1 (aX rP (pv 1) (pv 3))))))) (aZ (bQ (pv 1))))),?_⟩;refine lR ?_;intro c3 c2;have h0:=hA.h0;have h10:=hA.h1;refine⟨(by show 0<=sizeLine;decide),fun e0 he0=>⟨(by show 1<=sizeLine;decide),fun fo hfo=> ?_⟩⟩;have s1:=(aG he0 (.tup [])).trans (aG hfo (.lst [.ref e0]));have f0:U6 K (upd (upd H e0 (.tup [])) fo (.lst [.ref e0])) fo ts 0:=⟨[(e0,[])],aD,fun p hp=>by rw[ji.mp hp];exact(aG hfo (.lst [.ref e0])).tup (SqT.of aD),rfl⟩;generalize upd (upd H e0 (.tup [])) fo (.lst [.ref e0])=H1 at *;obtain⟨RQ,R9,w1,w2,w3⟩:=id (hA.same s1).web;refine⟨_,rfl,a,_,_,.int n,rfl,rfl,w1,rfl,n,rfl,by omega,by omega,?_⟩;let iB:Nat->St->Hp->Prop:=fun i σ H'=>Same H H'/\∃fo o3 o4 o5,U6 K H' fo ts i/\σ=[some (.ref a),some (.ref fo),o3,o4,o5];refine Ij (n:=n.toNat) iB ⟨s1,fo,_,_,_,f0,rfl⟩ (fun i σ H' hi p=> ?_) (fun σ H' p=> ?_)
 ·obtain⟨sm,fo,o3,o4,o5,⟨its,i1,i2,i3⟩,rfl⟩:=p;have p10:2^i<=512:=cC (wde (by decide) (show i<=9 by omega)) (by decide);have i4:its.length<=512:=by
   have:=lE List.length i3;rw[aJ]at this;rw[this];exact cC (nR i) p10
  refine⟨(by show 0<=sizeLine;decide),fun mo hmo=> ?_⟩;have t1:=aG hmo (.lst []);have em:(upd H' mo (.lst [])) mo=some (.lst []):=aD;have i1':=t1 _ _ i1;have nfm:fo≠mo:=rB i1 hmo;generalize upd H' mo (.lst [])=H2 at *;refine⟨_,rfl,fo,_,rfl,SqL.of i1',fun hz=> ?_⟩;let oV:Nat->St->Hp->Prop:=fun j σ H3=>Same H' H3/\(∃jt:List (Addr×List Int),H3 mo=some (.lst (jt.map fun p=>V.ref p.1))/\(∀p∈jt,SqT K H3 p.1 (p.2.map V.int))/\jt.map (·.2)=((((its.take j).map (·.2)).filter fun s=>goB ts false s (i:Int)).map fun s=>s++[(i:Int)])/\jt.length<=j)/\∃o5,σ=[some (.ref a),some (.ref fo),some (.int (i:Int)),some (.ref mo),o5];refine for_list (xs:=its.map fun p=>V.ref p.1) oV ⟨t1,⟨[],em,(fun p hp=>nomatch hp),rfl,aN _⟩,o5,by rw[Mq];rfl⟩ (fun j σ H3 _ p=>SqL.of (p.1 _ _ i1)) (fun j x σ H3 hx p=> ?_) (fun σ H3 p=> ?_)
  ·obtain⟨s3,⟨jt,j1,j2,j4,j3⟩,o5,rfl⟩:=p;rw[dW]at hx;cases ex:its[j]? with
   |none=>rw[ex]at hx;cases hx
   |some v=>
    rw[ex]at hx;cases hx;have hjl:j<its.length:=(nH.mp ex).1;have hv:=i2 v (gZ ex);have hk:qx ts false i v.2:=iu i _ (by rw[<-i3];exact Ng (gZ ex));have go:((its.take (j+1)).map (·.2)).filter (fun s=>goB ts false s (i:Int))=((its.take j).map (·.2)).filter (fun s=>goB ts false s (i:Int))++(if goB ts false v.2 (i:Int)=true then[v.2]else[]):=by
     rw[HS,ex,cO,RD];congr 1;show(List.filter _ [v.2])=_;rw[Mt];rfl
    have hv3:=s3.tup hv;have XF:=hA.same (sm.trans s3);obtain⟨tt3,rr3,x1,x2,x3⟩:=id XF.web;have vl:v.2.length<=10:=by have:=rJ hk.up hk.lt;omega
    refine⟨_,rfl,v.1,_,rfl,hv3,fun hz2=> ?_⟩;let ud:Nat->List V->St->Hp->Prop:=fun m acc σ H4=>acc=((v.2.take m).filter fun o=>decide ((o,(i:Int))∈ts)).map V.int/\Same H3 H4/\∃o,σ=[o,some (.int (i:Int)),some (.ref a)];refine Mj (xs:=v.2.map V.int) ud ⟨rfl,Same.refl _,_,rfl⟩ (fun m acc σ H4 _ p=>p.2.1.tup hv3) (fun m acc σ H4 hm p=> ?_) hz2 (fun m x acc σ H4 hx' p3=> ?_) (fun acc σ H4 p3=> ?_)
    ·rw[p.1,aJ];exact cC (uX _ _) (by rw[xU];exact Ax _ _)
    ·obtain⟨rfl,s4,o,rfl⟩:=p3;rw[dW]at hx';cases em:v.2[m]? with
     |none=>rw[em]at hx';cases hx'
     |some y=>
      rw[em]at hx';cases hx';obtain⟨hml,rfl⟩:=nH.mp em;refine⟨_,rfl,_,rfl,(by show 2<=sizeLine;decide),fun t ht=> ?_⟩;have s5:=aG ht (.tup [.int v.2[m],.int (i:Int)]);have NK:=s4.trans s5;refine⟨_,rfl,a,_,_,.ref tt3,rfl,rfl,NK.tup x1,rfl,tt3,_,_,pairD (v.2[m],(i:Int)),rfl,.inr (NK.tup x2),x3.same NK,.tup (SqT.of aD) (.cons (.int _) (.cons (.int _) .nil)),kY _,rfl,(by show 1<=60;decide),_,rfl,?_⟩;rw[Hv];refine ite2 (fun c=> ?_) (fun c=> ?_)
      ·refine⟨_,rfl,?_,NK,_,rfl⟩;rw[fX hml,aB c,cO];rfl
      ·refine⟨?_,NK,_,rfl⟩;rw[fX hml,aA c,Ay]
    ·intro p1 hp1;obtain⟨rfl,s4,_⟩:=p3;rw[aJ,vL];have s5:=aG hp1 (.lst ((v.2.filter fun o=>decide ((o,(i:Int))∈ts)).map V.int));have ep:(upd H4 p1 (.lst ((v.2.filter fun o=>decide ((o,(i:Int))∈ts)).map V.int))) p1=some (.lst ((v.2.filter fun o=>decide ((o,(i:Int))∈ts)).map V.int)):=aD;generalize upd H4 p1 (.lst ((v.2.filter fun o=>decide ((o,(i:Int))∈ts)).map V.int))=H5 at *;refine⟨(by show 0<=sizeLine;decide),fun p2 hp2=> ?_⟩;have s6:=aG hp2 (.lst []);refine⟨.list ((v.2.filter fun o=>decide ((o,(i:Int))∈ts)).map PyData.int),.list [],.lst (SqL.of (s6 _ _ ep)) (cI.ints _),.lst (SqL.of aD) .nil,yq _,rfl,(by show min _ 1<=64;omega),_,rfl,?_⟩;have Vt:=s4.trans (s5.trans s6);generalize upd H5 p2 (.lst [])=H6 at *;rw[wR,Ui hA.pk hk];refine ite2 (fun c=> ?_) (fun c=> ?_)
     ·refine⟨_,rfl,.inl ⟨rfl,_,SqL.of (Vt _ _ j1)⟩,_,rfl,_,rfl,(by show 1<=sizeLine;decide),fun t ht=> ?_⟩;have s7:=aG ht (.tup [.int (i:Int)]);refine⟨v.1,t,_,_,rfl,rfl,(Vt.trans s7).tup hv3,SqT.of aD,by rw[aJ,eX];show v.2.length+1<=_;omega,fun r H8 s8 hr8=> ?_⟩;have s38:=Vt.trans (s7.trans s8);have j8:=s38 _ _ j1;refine⟨mo,_,_,rfl,rfl,j8,by rw[aJ,eX];omega,?_⟩;have x9:bw mo H8 (upd H8 mo (.lst ((jt.map fun p=>V.ref p.1)++[.ref r]))):=(bw.refl mo H8).upd;refine⟨fun b u e=> ?_,⟨jt++[(r,v.2++[(i:Int)])],by rw[aD,cO];rfl,fun p hp=> ?_,by rw[go,aB c,cO,cO,j4];rfl,by rw[gD];show jt.length+1<=j+1;omega⟩,_,rfl⟩
      ·have nb:b≠mo:=fun z=>by rw[z,hmo]at e;cases e
       rw[cD nb];exact(s3.trans s38) _ _ e
      ·rcases jh.mp hp with z|z
       ·exact bw.tup x9 j8 (s38.tup (j2 p z))
       ·rw[ji.mp z];refine bw.tup x9 j8 ?_;rw[cO];exact hr8
     ·exact⟨s3.trans Vt,⟨jt,Vt _ _ j1,fun p hp=>Vt.tup (j2 p hp),by rw[go,aA c,Ay];exact j4,by omega⟩,_,rfl⟩
  ·obtain⟨s3,⟨jt,j1,j2,j4,j3⟩,o5,rfl⟩:=p;rw[aJ]at j3;refine⟨_,rfl,_,rfl,fo,mo,_,_,rfl,rfl,s3 _ _ i1,j1,by rw[aJ,aJ,eX];omega,fun r hr'=> ?_⟩;have s4:=aG hr' (.lst ((its.map fun q=>V.ref q.1)++jt.map fun q=>V.ref q.1));refine⟨sm.trans (s3.trans s4),r,_,_,_,⟨its++jt,by rw[aD,cO],fun p hp=> ?_,?_⟩,rfl⟩
   ·rcases jh.mp hp with z|z
    ·exact(s3.trans s4).tup (i2 p z)
    ·exact s4.tup (j2 p z)
   ·rw[aJ,vL]at j4;rw[cO,j4,i3];rfl
 ·obtain⟨sm,fo,o3,o4,o5,⟨its,i1,i2,i3⟩,rfl⟩:=p;exact⟨_,rfl,q fo H' sm ⟨its,i1,i2,i3⟩⟩
def PL(f:Int×Nat):PyData:= .tuple [.int f.1,.int ((f.2:Nat):Int)]
def gb(d:PyData):Int×Nat:=(intD ((kids d).getD 0 .none),(intD ((kids d).getD 1 .none)).toNat)
theorem kJ(f:Int×Nat):gb (PL f)=f:=by
 show(f.1,(((f.2:Nat):Int)).toNat)=f;rw[xV]
theorem wL{H:Hp}:∀{rs:List V} {ds:List PyData},lA K H rs ds->ds.all frB=true->bW K H rs (ds.map gb)
 |[],_,h,_=>by cases h;exact .nil
 |_::_,_,h,ha=>by
  cases h with
  |cons h t=>
   rw[Rw,pR]at ha;obtain⟨u,v,rfl,_⟩:=qp ha.1;obtain⟨a,rfl,hf⟩:=h.fr;exact .cons ⟨a,rfl,by rw[show gb (.tuple [.int u,.int ((v:Nat):Int)])=(u,v)from kJ (u,v)];exact hf⟩ (wL t ha.2)
theorem rm.get{D:Nat}{fs:List (Int×Nat)}(h:rm D fs)(xs:List Int):rm D (xs.map (gG fs)):=⟨h.pos,h.le,fun f hf=>by
 obtain⟨x,_,rfl⟩:=lX.mp hf;unfold gG;rw[iM];cases e:fs[x.toNat]? with
 |none=>exact⟨Dv _,Nat.one_pos,Zc _⟩
 |some f=>exact h.all f (gZ e)⟩
theorem iK.UJ{D b:Nat}{S a x:Int}{v:Nat}(h:iK D S a b)(hD:0<D):x*(b:Int)<=a*(v:Int)↔x*(D:Int)<=S*(v:Int):=by
 obtain⟨hb,⟨k,rfl⟩,rfl⟩:=h;have hk:0<k:=by
  rcases RB k with z|z
  ·rw[z,Zf]at hD;cases hD
  ·exact z
 rw[Io _ hb,V7,<-Qm,Int.mul_right_comm a (k:Int) (v:Int)];exact⟨fun h=>Wj h (by omega),fun h=>yeg h (by omega)⟩
def DW(K:W.Frag):Sp:=fun vs H Q _=>∃(sa pa:Addr) (xs:List Int) (aK:List V) (n:Nat) (fs:List (Int×Nat)) (D:Nat),vs=[.ref sa,.ref pa]/\SqT K H sa (xs.map V.int)/\SqL K H pa aK/\bW K H aK fs/\fs.length=n/\(∀x∈xs,0<=x/\x<(n:Int))/\xs.length<=1000/\rm D fs/\∀H',Same H H'->Q (.bl (decide ((D:Int)<fL D (xs.map (gG fs))))) H'
theorem Ob{f f1 f2:Addr}{fd d1 d2:FuncData}(F:Fun K "outweighs" "outweighs" jD f fd)(D1:bO K mg "is_less" fW ["one","other"] f1 d1)(G1:FnOk P w K mg base CX0 1 f1 d1 ["one","other"] (rZ K))(D2:bO K mg "sum_of" iI ["fractions"] f2 d2)(G2:FnOk P w K mg base CX0 2 f2 d2 ["fractions"] (nO K)):
  FnOk P w K mg base CX0 3 f fd ["some","prices"] (DW K):=by
 refine F.cT ["some","prices"] fun cdv A outer s H vs Q E hr h=> ?_;obtain⟨sa,pa,xs,aK,n,fs,D,rfl,hS,hP,hf,hn,hx,h1k,hD,qq⟩:=h;refine⟨_,(aZ (bQ (pc G1 hr D1 (aj (fY (aj aq (aj aq ak))) (aj (pc G2 hr D2 (aj (pK ["place"] ["prices"] [1] (dZ (pv 0)) (pG 0) lM (bx (eU K) (pv 1) (pv 0))) ak)) ak))))),?_⟩;have hlen:=Paired.bV hf;refine⟨(by show 2<=sizeLine;decide),fun r1 hr1=> ?_⟩;have s1:=aG hr1 (.tup [.int 1,.int 1]);have er:(upd H r1 (.tup [.int 1,.int 1])) r1=some (.tup [.int 1,.int 1]):=aD;have hf1:=bW.same hf s1;have hS1:=s1.tup hS;have hP1:=s1.seq hP;generalize (upd H r1 (.tup [.int 1,.int 1]))=H1 at *;refine⟨_,rfl,sa,_,rfl,hS1,fun hz=> ?_⟩;let iB:Nat->List V->St->Hp->Prop:=fun i acc σ H'=>H'=H1/\bW K H1 acc ((xs.take i).map (gG fs))/\∃o,σ=[o,some (.ref pa)];refine Mj (xs:=xs.map V.int) iB ⟨rfl,.nil,_,rfl⟩ (fun i acc σ H' _ p=>by rw[p.1];exact hS1) (fun i acc σ H' _ p=> ?_) hz (fun i x acc σ H' hx' p=> ?_) (fun acc σ H' p=> ?_)
 ·rw[Paired.bV p.2.1,aJ,xU];exact Ax _ _
 ·obtain⟨rfl,hp,o,rfl⟩:=p;rw[dW]at hx';cases ex:xs[i]? with
  |none=>rw[ex]at hx';cases hx'
  |some y=>
   rw[ex]at hx';cases hx';have hy:=hx y (gZ ex);have hk:y.toNat<aK.length:=by omega
   have hv:aK[y.toNat]? =some aK[y.toNat]:=dD hk;obtain⟨g,hg,fa,e,h3⟩:=Paired.at_ hf1 hv;have ha:atI aK y=some (.ref fa):=by
    have:y=((y.toNat:Nat):Int):=by omega
    rw[this,<-e];exact yh hv
   refine⟨_,rfl,_,rfl,pa,aK,_,_,rfl,rfl,hP1,ha,rfl,?_,_,rfl⟩;obtain⟨hi,rfl⟩:=nH.mp ex;rw[Qq hi,cO];refine Paired.snoc hp ⟨fa,rfl,?_⟩;show xG K H' fa (gG fs xs[i]);unfold gG;rw[iM,hg];exact h3
 intro p1 hp1;obtain⟨rfl,hp,_⟩:=p;rw[aJ,vL]at hp;have s2:=aG hp1 (.lst acc);have hal:acc.length<=1000:=by rw[Paired.bV hp,aJ];exact h1k
 refine⟨p1,acc,_,D,rfl,SqL.of aD,bW.same hp s2,hD.get xs,hal,fun r a b H2 s3 hr2 hs=> ?_⟩;have hbD:=hs.le hD.pos;have hD1:=hD.le;refine⟨r1,r,1,a,1,b,rfl,(s2.trans s3).tup (SqT.of er),SqT.of hr2,by omega,by omega,?_⟩;have e:=hs.cmp hD.pos (u:=1) (v:=1);show Q (.bl (decide (1*((b:Nat):Int)<a*((1:Nat):Int)))) _;have e2:decide (1*((b:Nat):Int)<a*((1:Nat):Int))=decide ((D:Int)<fL D (xs.map (gG fs))):=by
  refine decide_eq_decide.mpr ⟨fun z=> ?_,fun z=> ?_⟩
  ·refine Int.lt_of_not_ge fun c=> ?_;have:=e.mpr (by rw[show((1:Nat):Int)=1 from rfl];omega);omega
  ·refine Int.lt_of_not_ge fun c=> ?_;have:=e.mp c;rw[show((1:Nat):Int)=1 from rfl]at this;omega
 rw[e2];exact qq _ (s1.trans (s2.trans s3))
def Ao(n:Int)(ds:List PyData):Bool:=decide ((ds.length:Int)=n)&&ds.all frB
def Iu(wl:List Int)(fs:List (Int×Nat))(i:Nat):Int×Nat:=(wl.getD i 0*(fs.getD i (0,1)).1,(fs.getD i (0,1)).2)
def yx(D:Nat)(wl:List Int)(fs:List (Int×Nat)):Int:=fL D ((List.range wl.length).map (Iu wl fs))
theorem rm.Y9{D:Nat}{fs:List (Int×Nat)}{n:Int}{wl:List Int}(h:rm D fs)(hw:j5 n wl):rm D ((List.range wl.length).map (Iu wl fs)):=⟨h.pos,h.le,fun f hf=>by
 obtain⟨i,hi,rfl⟩:=lX.mp hf;have hi:=pO.mp hi;have w0:0<=wl.getD i 0:=by
  rw[iM,dD hi];exact(hw.2 _ (Nb _)).1
 unfold Iu;rw[iM (l:=fs)];cases e:fs[i]? with
 |none=>exact⟨yt w0 (Dv _),Nat.one_pos,Zc _⟩
 |some f=>
  obtain⟨a,b,c⟩:=h.all f (gZ e);exact⟨yt w0 a,b,c⟩⟩
def Jm(K:W.Frag):Sp:=fun vs H Q _=>∃(a wa pa na:Addr) (n:Int) (ts:L0) (wl:List Int) (aK:List V) (ds:List PyData) (D:Nat) (u:Int) (v:Nat),vs=[.ref a,.ref wa,.ref pa,.ref na]/\cB K H a n ts/\SqT K H wa (wl.map V.int)/\j5 n wl/\SqL K H pa aK/\lA K H aK ds/\xG K H na (u,v)/\v<=1000000000000000000/\(Ao n ds=true->rm D (ds.map gb))/\∀(b:Bool) H',Same H H'->(Ao n ds=true->(b=true↔oW ts n.toNat D (ds.map gb)))->Q (.bl (Ao n ds&&(b&&decide (u*(D:Int)<=yx D wl (ds.map gb)*(v:Int))))) H'
theorem wz{f f1 f2 f3 f4 f5 f6 f7:Addr}{fd d1 d2 d3 d4 d5 d6 d7:FuncData}(F:Fun K "are_prices" "are_prices" iU f fd)(D1:bO K mg "need_web" dJ ["thing"] f1 d1)(G1:FnOk P w K mg base CX0 7 f1 d1 ["thing"] (iH K))(D2:bO K mg "need_wants" VP ["web","thing"] f2 d2)(G2:FnOk P w K mg base CX0 2 f2 d2 ["web","thing"] (gK K))(D3:bO K mg "is_fraction" dX ["thing"] f3 d3)(G3:FnOk P w K mg base CX0 2 f3 d3 ["thing"] (u9 K))(D4:bO K mg "full_apart" fV ["web"] f4 d4)(G4:FnOk P w K mg base CX0 8 f4 d4 ["web"] (jB K))(D5:bO K mg "outweighs" jD ["some","prices"] f5 d5)(G5:FnOk P w K mg base CX0 3 f5 d5 ["some","prices"] (DW K))(D6:bO K mg "sum_of" iI ["fractions"] f6 d6)(G6:FnOk P w K mg base CX0 2 f6 d6 ["fractions"] (nO K))(D7:bO K mg "is_less" fW ["one","other"] f7 d7)(G7:FnOk P w K mg base CX0 1 f7 d7 ["one","other"] (rZ K))(oF:mg "all"=none)(bf:mg "len"=none)(au:mg "isinstance"=none)(cM:mg "list"=none)(Xb:mg "any"=none)(Kp:mg "zip"=none):
  FnOk P w K mg base CX0 9 f fd ["web","wants","prices","number"] (Jm K):=by
 refine F.cT ["web","wants","prices","number","worth"] fun cdv A outer s H vs Q E hr h=> ?_;obtain⟨a,wa,pa,na,n,ts,wl,aK,ds,D,u,v,rfl,hA,hW,hwl,Cp,hd,hN,T5,hDo,qq⟩:=h;refine bh ?_;intro Y;refine⟨_,(aP (yj (pc G1 hr D1 (aj (pv 0) ak))) (aP (yj (pc G2 hr D2 (aj (pv 0) (aj (pv 1) ak)))) (aP (lC (PW.pt (pw_or (nA (lW (pB yp au (aj (pv 2) (aj (pN "list" cM) ak))))) (pw_or (iD op_ne (pB rA bf (aj (pv 2) ak)) (bx fM (pv 0) aq)) (pw_or1 (nA (lW (pB (eV rfl) oF (aj (pK ["price"] [] [] (pI (pv 2)) (pG 0) lM (pc G3 hr D3 (aj (pv 0) ak))) ak)))))))) (aZ (bQ lB)) lD) (aP (lC (lW (pB (Lx rfl) Xb (aj (pK ["some"] ["prices"] [2] (pI (pc G4 hr D4 (aj (pv 0) ak))) (pG 0) lM (pc G5 hr D5 (aj (pv 0) (aj (pv 1) ak)))) ak))) (aZ (bQ lB)) lD) (aP (pS 4 (pc G6 hr D6 (aj (pK ["want","price"] [] [] (J3 rfl Kp (aj (pv 1) (aj (pv 2) ak))) (eE K (n:=2) rfl (jq (pG 0) (jq (pG 1) xQ))) lM (fY (aj (aX m9 (pv 0) (bx (xP K) (pv 1) aq)) (aj (bx (xP K) (pv 1) aq) ak)))) ak))) (aZ (bQ (pe_not (pc G7 hr D7 (aj (pv 4) (aj (pv 3) ak))))))))))),?_⟩;refine Q8 ?_;intro c6 c5 c4 c3 c2;have h0:=hA.h0;have h10:=hA.h1;have en:((n.toNat:Nat):Int)=n:=by omega
 have hwn:wl.length=n.toNat:=by have:=hwl.1;omega
 have hdl:=hd.len;have no:Ao n ds=false->∀H',Same H H'->Q (.bl false) H':=fun e H' sm=>by
  have:=qq true H' sm (fun z=>by rw[e]at z;cases z);rw[e]at this;exact this
 refine⟨_,rfl,.ref a,_,rfl,hA.web.dv.dx,hA.ok,fun H1 s1=> ?_⟩;obtain⟨RQ,R9,w1,w2,w3⟩:=id (hA.same s1).web;refine⟨_,rfl,_,rfl,a,wa,n,_,wl,rfl,w1,s1.tup hW,hwl,fun H2 s2=> ?_⟩;have s12:=s1.trans s2;obtain⟨tt2,rr2,x1,x2,x3⟩:=id (hA.same s12).web;refine⟨_,rfl,.ref pa,"list",_,rfl,.inr (.inl ⟨rfl,_,s12.seq Cp⟩),.inr (.inr (.inr rfl)),_,rfl,?_⟩;refine iteF ?_;refine⟨_,rfl,pa,aK,rfl,.inl (s12.seq Cp),fun hz=>⟨_,rfl,a,_,_,.int n,rfl,rfl,x1,rfl,rfl,_,rfl,?_⟩⟩;refine ite2 (fun c=>no ?_ _ s12) (fun c=> ?_)
 ·have c:(!decide (V.int ((aK.length:Nat):Int)=V.int n))=true:=c;show(decide ((ds.length:Int)=n)&&_)=false;rw[jx (fun z=>by rw[hdl,z]at c;simp at c)];rfl
 have hpl:(aK.length:Int)=n:=by
  have c:¬(!decide (V.int ((aK.length:Nat):Int)=V.int n))=true:=c;simpa using c
 refine⟨_,rfl,pa,aK,rfl,s12.seq Cp,fun hz=> ?_⟩;let oV:Nat->List V->St->Hp->Prop:=fun i acc σ H'=>acc=((ds.take i).map frB).map V.bl/\H'=H2/\∃o,σ=[o];refine vK (xs:=aK) oV ⟨rfl,rfl,_,rfl⟩ (fun i acc σ H' _ p=>by rw[p.2.1];exact s12.seq Cp) (fun i acc σ H' hi p=>by rw[p.1];simp;omega) hz (fun i x acc σ H' hx p=> ?_) (fun acc σ H' p=> ?_)
 ·obtain⟨rfl,rfl,o,rfl⟩:=p;obtain⟨d,e1,e2⟩:=hd.get hx;refine⟨_,rfl,x,d,rfl,DX.same s12 e2,?_,rfl,_,rfl⟩;rw[HS,e1];simp
 intro p1 hp1;obtain⟨rfl,rfl,_⟩:=p;rw[hdl,vL];have yM:=s12.trans (aG hp1 (.lst ((ds.map frB).map V.bl)));refine⟨p1,_,rfl,SqL.of aD,_,rfl,?_⟩;rw[dh];refine ite2 (fun c=>no ?_ _ yM) (fun c=> ?_)
 ·show(_&&ds.all frB)=false;rw[dF c,wfv]
 have c:=dG c;have hpr:Ao n ds=true:=by
  show(decide ((ds.length:Int)=n)&&ds.all frB)=true;rw[c,eY (by omega)];rfl
 have hD:=hDo hpr;have hf:=wL hd c;rw[hpr]at qq;generalize hfs:ds.map gb=fs at *;have hfl:fs.length=n.toNat:=by rw[<-Paired.bV hf];omega
 generalize upd H' p1 (.lst ((ds.map frB).map V.bl))=H3 at *
 -- no set outweighs
 refine⟨_,rfl,a,n,ts,rfl,hA.same yM,fun sl ss' H4 s4 Ue tK hsl=> ?_⟩;obtain⟨its,hS,hP,hss⟩:=Ue;have Gh:=yM.trans s4;refine⟨sl,_,rfl,SqL.of hS,fun hz=> ?_⟩;let ud:Nat->List V->St->Hp->Prop:=fun i acc σ H'=>acc=((its.take i).map fun p=>decide ((D:Int)<fL D (p.2.map (gG fs)))).map V.bl/\Same H4 H'/\∃o,σ=[o,some (.ref pa)];refine vK (xs:=its.map fun p=>V.ref p.1) ud ⟨rfl,Same.refl _,_,rfl⟩ (fun i acc σ H' _ p=>p.2.1.seq (SqL.of hS)) (fun i acc σ H' _ p=>by rw[p.1,aJ,aJ,xU];exact Ax _ _) hz (fun i x acc σ H' hx p=> ?_) (fun acc σ H' p=> ?_)
 ·obtain⟨rfl,sm,o,rfl⟩:=p;rw[dW]at hx;cases ev:its[i]? with
  |none=>rw[ev]at hx;cases hx
  |some it=>
   rw[ev]at hx;cases hx;have st:=Gh.trans sm;have hit:=gZ ev;have hK:qx ts false n.toNat it.2:=vW tK (by rw[<-hss];exact Ng hit);have aau:it.2.length<=1000:=by
    have:=rJ hK.up hK.lt;omega
   refine⟨_,rfl,_,rfl,it.1,pa,it.2,aK,n.toNat,fs,D,rfl,sm.tup (hP it hit),st.seq Cp,bW.same hf st,hfl,hK.lt,aau,hD,fun H5 s5=>⟨?_,sm.trans s5,_,rfl⟩⟩;rw[HS,ev];simp
 intro p2 hp2;obtain⟨rfl,sm,_⟩:=p;rw[aJ,vL];have NP:=Gh.trans (sm.trans (aG hp2 (.lst ((its.map fun p=>decide ((D:Int)<fL D (p.2.map (gG fs)))).map V.bl))));refine⟨p2,_,rfl,SqL.of aD,_,rfl,?_⟩;have nn:∀f∈fs,0<=f.1:=fun f hf=>(hD.all f hf).1;refine ite2 (fun c=> ?_) (fun c=> ?_)
 ·have:=qq false _ NP fun _=>⟨(fun z=>nomatch z),fun z=> ?_⟩
  ·exact this
  exfalso;obtain⟨b,hb,e⟩:=Ry.mp c;obtain⟨it,hit,rfl⟩:=lX.mp hb;have:=Cy tK z it.2 (by rw[<-hss];exact Ng hit);have e:decide ((D:Int)<fL D (it.2.map (gG fs)))=true:=e;have:=nM e;omega
 have qq:=fun H' sm=>qq true H' sm fun _=>⟨fun _=>Cg tK nn fun s hs=>by
  rw[<-hss]at hs;obtain⟨it,hit,rfl⟩:=lX.mp hs;refine Int.not_lt.mp fun z=>c ?_;exact Ry.mpr ⟨_,Ng hit,eY z⟩,fun _=>rfl⟩
 generalize upd H' p2 (.lst ((its.map fun p=>decide ((D:Int)<fL D (p.2.map (gG fs)))).map V.bl))=H5 at *;have hf5:=bW.same hf NP
 -- the worth
 refine⟨_,rfl,_,rfl,wa,pa,wl.map V.int,aK,rfl,NP.tup hW,NP.seq Cp,by rw[aJ];omega,fun hz=> ?_⟩;refine zR (K:=K) (a:=wa) (b:=pa) (xs:=wl.map V.int) (ys:=aK) (fun i acc σ H'=>bW K H' acc ((List.range i).map (Iu wl fs))/\Same H5 H'/\∃o1 o2,σ=[o1,o2]) ⟨.nil,Same.refl _,_,_,rfl⟩ (fun i acc σ H' _ p=>⟨(NP.trans p.2.1).tup hW,(NP.trans p.2.1).seq Cp⟩) (by rw[aJ];omega) (fun i acc σ H' _ p=>by rw[Paired.bV p.1,aJ,rC];exact aN _) hz (fun i v x t acc σ H' hv hx p ht=> ?_) (fun acc σ H' p=> ?_)
 ·obtain⟨hp,sm,o1,o2,rfl⟩:=p;rw[dW]at hv;cases ev:wl[i]? with
  |none=>rw[ev]at hv;cases hv
  |some y=>
   rw[ev]at hv;cases hv;have hy:=hwl.2 y (gZ ev);obtain⟨g,hg,fa,rfl,h3⟩:=Paired.at_ hf5 hx;have ew:Iu wl fs i=(y*g.1,g.2):=by
    unfold Iu;rw[iM,iM,ev,hg];rfl
   have t1:=aG ht (.tup [.int y,.ref fa]);have h3':=(sm.trans t1).tup h3;refine⟨t,_,rfl,SqT.of aD,rfl,_,_,rfl,_,_,rfl,rfl,?_⟩;refine⟨_,rfl,_,rfl,fa,_,_,.int g.1,rfl,rfl,h3',rfl,_,_,rfl,rfl,.inl ⟨by omega,by omega⟩,_,rfl,fa,_,_,.int ((g.2:Nat):Int),rfl,rfl,h3',rfl,(by show 2<=sizeLine;decide),fun r hr'=> ?_⟩;have t2:=aG hr' (.tup [.int (y*g.1),.int ((g.2:Nat):Int)]);refine⟨?_,sm.trans (t1.trans t2),_,_,rfl⟩;rw[yu,cO];refine Paired.snoc (bW.same hp (t1.trans t2)) ⟨r,rfl,?_⟩;show xG K _ r (Iu wl fs i);rw[ew];exact SqT.of aD
 intro p3 hp3;obtain⟨hp,sm',_⟩:=p;rw[aJ]at hp;have s6:=aG hp3 (.lst acc);have hal:acc.length<=1000:=by rw[Paired.bV hp,aJ,rC];omega
 refine⟨p3,acc,_,D,rfl,SqL.of aD,bW.same hp s6,hD.Y9 hwl,hal,fun r a' b' H7 s7 hr7 hs=> ?_⟩;have ZR:=NP.trans (sm'.trans (s6.trans s7));have hbD:=hs.le hD.pos;have hD1:=hD.le;refine⟨_,rfl,_,rfl,r,na,a',u,b',v,rfl,SqT.of hr7,ZR.tup hN,by omega,T5,_,rfl,?_⟩;have e:=hs.UJ hD.pos (x:=u) (v:=v);show Q (.bl (!decide (a'*((v:Nat):Int)<u*((b':Nat):Int)))) _;rw[dec_not,decide_eq_decide.mpr e];exact qq _ ZR
theorem JT{ns:List Int}(h:bZ ns=true):ns.Pairwise (· < ·):=by
 unfold bZ at h;rw[nF]at h;have adj:∀k,(hk:k+1<ns.length)->ns[k]<ns[k+1]:=fun k hk=>by
  have z:=nM (h k (pO.mpr (by omega)));rw[iM,iM,dD (by omega),dD hk]at z;exact z
 rw[Wi];intro i j hi hj hij;have go:∀d:Nat,(hd:i+1+d<ns.length)->ns[i]<ns[i+1+d]:=by
  intro d
  induction d with
  |zero=>intro hd;exact adj i hd
  |succ d ih=>intro hd;exact Int.lt_trans (ih (by omega)) (adj (i+1+d) hd)
 have e:i+1+(j-i-1)=j:=by omega
 have z:=go (j-i-1) (by omega);simp only[e]at z;exact z
theorem JX{ns:List Int}(h:ns.Pairwise (· < ·)):bZ ns=true:=by
 refine nF.mpr fun k hk=>eY ?_;have hk:=pO.mp hk;rw[iM,iM,dD (by omega),dD (by omega)];exact Wi.mp h k (k+1) (by omega) (by omega) (by omega)
theorem K4:∀a b:List Int,HT.jk a b= !HT.lexLt a b
 |[],[]=>rfl
 |[],_::_=>rfl
 |_::_,[]=>rfl
 |x::xs,y::ys=>by
  rw[HT.lexLt_cons,HT.tE];by_cases e:x=y
  ·rw[aB e,aB e];exact K4 xs ys
  ·rw[aA e,aA e];by_cases c:x<y
   ·rw[eY c,jx (by omega)];rfl
   ·rw[jx c,eY (by omega)];rfl
theorem Pa{a b:List Int}(ha:a.Pairwise (· < ·))(hb:b.Pairwise (· < ·))(h:∀k,k∈a↔k∈b):a=b:=by
 have na:a.Nodup:=ha.imp fun h e=>by omega
 have nb:b.Nodup:=hb.imp fun h e=>by omega
 have hp:a.Perm b:=(List.perm_ext_iff_of_nodup na nb).mpr h;exact List.Perm.eq_of_pairwise (fun x y _ _ (h1:x<=y) (h2:y<=x)=>Int.le_antisymm h1 h2) (show a.Pairwise (fun x y:Int=>x<=y)from ha.imp fun h=>Dw h) (show b.Pairwise (fun x y:Int=>x<=y)from hb.imp fun h=>Dw h) hp
theorem vC:∀l:List Int,PyData.depthAll (l.map PyData.int)<=1
 |[]=>by decide
 |x::l=>by
  have:=vC l;show max _ (PyData.depthAll (l.map PyData.int))<=1;exact Nat.max_le.mpr ⟨by show 0<=1;decide,this⟩
theorem Hj(l m:List Int):min (PyData.list (l.map PyData.int)).depth (PyData.list (m.map PyData.int)).depth<=64:=by
 have:=vC l;have e:(PyData.list (l.map PyData.int)).depth=PyData.depthAll (l.map PyData.int)+1:=rfl;rw[e];omega
theorem Hi(xs ys:List Int):PyData.eqv (.list (xs.map PyData.int)) (.list (ys.map PyData.int))=decide (xs=ys):=by
 show PyData.eqvAll (xs.map PyData.int) (ys.map PyData.int)=_
 induction xs generalizing ys with
 |nil=>cases ys<;>simp[PyData.eqvAll]
 |cons x xs ih=>
  cases ys with
  |nil=>simp[PyData.eqvAll]
  |cons y ys=>
   show(PyData.eqv (.int x) (.int y)&&PyData.eqvAll (xs.map PyData.int) (ys.map PyData.int))=_;rw[ih];by_cases e:x=y
   ·subst e;simp[PyData.eqv]
   ·simp[PyData.eqv,e]
theorem tX{H:Hp}:∀bs:List Bool,cI K H (bs.map V.bl) (bs.map PyData.bool)
 |[]=> .nil
 |b::bs=> .cons (.bl b) (tX bs)
theorem qw:∀bs:List Bool,PyData.canLayAll0 (bs.map PyData.bool)=true
 |[]=>rfl
 |b::bs=>by show(true&&PyData.canLayAll0 (bs.map PyData.bool))=true;rw[qw bs];rfl
theorem jZ:∀bs:List Bool,((bs.map PyData.bool).any fun d=>PyData.eqv d (.bool false))= !bs.all id
 |[]=>rfl
 |b::bs=>by
  rw[HJ,Vb,Rw,jZ bs];cases b<;>simp[PyData.eqv]
theorem Gq(n:Int)(d:PyData):aR n d=(bY d&&(decide (0<=intD d)&&decide (intD d<n))):=by
 cases d<;>first |rfl|(simp[aR,bY,intD];done)|(simp only[aR,bY,intD,Bool.true_and];rfl)|(simp[aR,bY,intD];rfl)
def Lo(n:Int)(ts:L0)(ds:List PyData)(i:Nat):Prop:=(∀d∈ds.take i,uw n ts d=true)/\∀k,k+1<i->HT.lexLt ((ds.map setOf).getD k []) ((ds.map setOf).getD (k+1) [])=true
theorem Oz{n:Int}{ts:L0}{ds:List PyData}{d:PyData}(hd:d∈ds)(h:uw n ts d=false):layB n ts ds=false:=by
 unfold layB;rw[wcx];exact .inl (List.all_eq_false.mpr ⟨d,hd,by rw[h];decide⟩)
theorem KH{n:Int}{ts:L0}{ds:List PyData}{k:Nat}(hk:k+1<ds.length)(h:HT.lexLt ((ds.map setOf).getD k []) ((ds.map setOf).getD (k+1) [])=false):layB n ts ds=false:=by
 unfold layB fJ;rw[wcx];exact .inr (List.all_eq_false.mpr ⟨k,pO.mpr (by rw[aJ];omega),by rw[h];decide⟩)
theorem OD{n:Int}{ts:L0}{ds:List PyData}(h:Lo n ts ds ds.length):layB n ts ds=true:=by
 unfold layB fJ;rw[pR];refine⟨nF.mpr fun d hd=>h.1 d (by rw[vL];exact hd),nF.mpr fun k hk=>h.2 k ?_⟩;have:=pO.mp hk;rw[aJ]at this;omega
def CG(d:PyData):Prop:=(kids ((kids d).headD .none)).length<=20
def Ei(K:W.Frag):Sp:=fun vs H Q _=>∃(a la:Addr) (n:Int) (ts:L0) (rs:List V) (ds:List PyData),vs=[.ref a,.ref la]/\cB K H a n ts/\SqL K H la rs/\lA K H rs ds/\rs.length<=1000/\(∀d∈ds,CG d)/\∀H',Same H H'->Q (.bl (layB n ts ds)) H'
theorem Oo{f f1 f2 f3:Addr}{fd d1 d2 d3:FuncData}(F:Fun K "_law_ais_laying" "_law_ais_laying" zdk f fd)(D1:bO K mg "_law_awhole" fQ ["found"] f1 d1)(G1:FnOk P w K mg base CX0 1 f1 d1 ["found"] (gJ K))(D2:bO K mg "_law_ais_apart" fB ["web","some"] f2 d2)(G2:FnOk P w K mg base CX0 1 f2 d2 ["web","some"] (Ed K))(D3:bO K mg "_law_afraction" YH ["thing"] f3 d3)(G3:FnOk P w K mg base CX0 2 f3 d3 ["thing"] (u9 K))(aH:mg "range"=none)(bf:mg "len"=none)(au:mg "isinstance"=none)(bM:mg "tuple"=none)(cM:mg "list"=none)(jV:mg "sorted"=none)(W9:mg "set"=none):
  FnOk P w K mg base CX0 3 f fd ["web","laying"] (Ei K):=by
 refine F.cT ["web","laying","at","pair"] fun cdv A outer s H vs Q E hr h=> ?_;obtain⟨a,la,n,ts,rs,ds,rfl,hA,hL,hd,hlk,hfew,qq⟩:=h;refine bh ?_;intro Y;refine⟨_,(aP (ux rD rfl (Aw rfl aH (aj (pB rA bf (aj (pv 1) ak)) ak)) (pG 2) (aP (pS 3 (bx lK (pv 1) (pv 2))) (aP (lC (PW.pt (pw_or (nA (lW (pB yp au (aj (pv 3) (aj (pN "tuple" bM) ak))))) (pw_or (iD op_ne (pB rA bf (aj (pv 3) ak)) aq) (pw_or1 (nA (lW (pB yp au (aj (bx fM (pv 3) aq) (aj (pN "tuple" bM) ak))))))))) (aZ (bQ lB)) lD) (aP (lC (iD (wg hr.units) lB (pK ["place"] ["web"] [0] (dZ (bx fM (pv 3) aq)) (pG 0) lM (xO (pc G1 hr D1 (aj (pv 0) ak)) (yd (pe_chain op_le op_lt aq (pv 0) (bx (xP K) (pv 1) aq))))) (by with_unfolding_all rfl)) (aZ (bQ lB)) lD) (aP (lC (PW.pt (pw_or (iD (BK hr.units) (pT call_list_of cM (aj (bx fM (pv 3) aq) ak)) (vZ rfl rfl jV rfl W9 (aj (bx fM (pv 3) aq) ak))) (pw_or1 (nA (lW (pc G2 hr D2 (aj (pv 0) (aj (bx fM (pv 3) aq) ak)))))))) (aZ (bQ lB)) lD) (aZ (lC (PW.pt (pw_or (nA (lW (pc G3 hr D3 (aj (bx fM (pv 3) aq) ak)))) (pw_or (iD op_eq (bx fM (bx fM (pv 3) aq) aq) aq) (pw_or1 (PW.pt (pw_and (iD op_gt (pv 2) aq) (pw_and1 (iD (SJ hr.units0) (bx fM (bx lK (pv 1) (aX op_sub (pv 2) aq)) aq) (bx fM (pv 3) aq))))))))) (aZ (bQ lB)) lD))))))) (aZ (bQ lB))),?_⟩;refine dH ?_;intro c2;have hlen:=hd.len;have no:layB n ts ds=false->∀H',Same H H'->Q (.bl false) H':=fun e H' sm=>by have:=qq H' sm;rw[e]at this;exact this
 refine⟨_,rfl,la,rs,rfl,.inl hL,fun hz=>⟨_,rfl,by omega,by omega,?_⟩⟩;let iB:Nat->St->Hp->Prop:=fun i σ H'=>Same H H'/\Lo n ts ds i/\∃o1 o2,σ=[some (.ref a),some (.ref la),o1,o2];refine Ij (n:=rs.length) iB ⟨Same.refl _,⟨fun d hd=>(nomatch hd),fun k hk=>absurd hk (by omega)⟩,_,_,rfl⟩ (fun i σ H' hi p=> ?_) (fun σ H' p=> ?_)
 ·obtain⟨sm,lo,o1,o2,rfl⟩:=p;have hx:rs[i]? =some rs[i]:=dD hi;have hid:i<ds.length:=by omega
  obtain⟨d,ed,aat⟩:=hd.get hx;have edi:ds[i]=d:=by rw[dD hid]at ed;exact rE ed
  have hdm:d∈ds:=gZ ed;have ha:atI rs (0+(i:Int))=some rs[i]:=by rw[Mq];exact yh hx
  have hdx:=DX.same sm aat;have bad:∀{H2:Hp},uw n ts d=false->Same H' H2->Q (.bl false) H2:=fun e s2=>no (Oz hdm e) _ (sm.trans s2);obtain⟨RQ,R9,w1,w2,w3⟩:=id (hA.same sm).web;generalize rs[i]=x at *;refine⟨_,rfl,_,rfl,la,rs,_,_,rfl,rfl,sm.seq hL,ha,?_⟩;refine⟨_,rfl,x,_,_,rfl,hdx.kind,.inr (.inr (.inl rfl)),_,rfl,?_⟩;rcases vQ hdx with⟨t,x0,x1,d0,d1,rfl,rfl,h,h0,h1⟩|⟨t,xs,es,rfl,rfl,h,el,hn⟩|hk
  rotate_left
  ·refine iteF ?_;refine⟨_,rfl,t,_,rfl,.inr h,fun hz=>⟨rfl,_,rfl,?_⟩⟩;refine ite2 (fun c=>bad (En hn) (Same.refl _)) (fun c=> ?_);exfalso;have c:¬(!decide (V.int (xs.length:Int)=V.int 2))=true:=c;simp at c;omega
  ·refine ite2 (fun c=>bad (yK hk) (Same.refl _)) (fun c=> ?_);exfalso;cases d<;>first |exact hk rfl|(simp[qm,eO]at c;done)
  refine iteF ?_;refine⟨_,rfl,t,_,rfl,.inr h,fun hz=>⟨rfl,_,rfl,iteF ?_⟩⟩;refine⟨_,rfl,t,_,_,x0,rfl,rfl,h,rfl,x0,_,_,rfl,h0.kind,.inr (.inr (.inl rfl)),_,rfl,?_⟩;by_cases k0:eO d0="tuple"
  rotate_left
  ·refine ite2 (fun c=>bad ?_ (Same.refl _)) (fun c=> ?_)
   ·show(lF n d0&&_)=false;rw[show lF n d0=false by cases d0<;>first |rfl|exact absurd rfl k0];rfl
   ·exfalso;cases d0<;>first |exact k0 rfl|(simp[qm,eO]at c;done)
  obtain⟨es,rfl⟩:∃es,d0= .tuple es:=by cases d0<;>first |exact⟨_,rfl⟩|(simp[eO]at k0;done)
  have aas:es.length<=20:=hfew _ hdm;refine iteF ?_;obtain⟨sa,xs,rfl,h2,hxs⟩:∃sa xs,x0= .ref sa/\SqT K H' sa xs/\lA K H' xs es:=by
   cases h0 with
   |tup h2 t2=>exact⟨_,_,rfl,h2,t2⟩
  have Xm:=hxs.len
  -- places
  refine⟨_,rfl,t,_,_,.ref sa,rfl,rfl,h,rfl,sa,_,rfl,h2,fun hz=> ?_⟩;let oV:Nat->List V->St->Hp->Prop:=fun k acc σ H2=>acc=((es.take k).map (aR n)).map V.bl/\H2=H'/\∃o,σ=[o,some (.ref a)];refine Mj (xs:=xs) oV ⟨rfl,rfl,_,rfl⟩ (fun k acc σ H2 _ p=>by rw[p.2.1];exact h2) (fun k acc σ H2 hk p=>by rw[p.1];simp;omega) hz (fun k y acc σ H2 hx2 p=> ?_) (fun acc σ H2 p=> ?_)
  ·obtain⟨rfl,rfl,o,rfl⟩:=p;obtain⟨e,ee,hy⟩:=hxs.get hx2;have fin:∀b:Bool,b=aR n e->((es.take k).map (aR n)).map V.bl++[V.bl b]=((es.take (k+1)).map (aR n)).map V.bl:=fun b hb=>by
    rw[HS,ee,hb];simp
   rw[Gq]at fin;refine⟨_,rfl,y,e,rfl,hy,_,rfl,?_⟩;refine ite2 (fun c=> ?_) (fun c=> ?_)
   ·obtain⟨v,rfl⟩:=dI c;obtain rfl:=hy.ints;refine⟨_,rfl,_,_,rfl,rfl,_,rfl,?_⟩;refine ite2 (fun c2=> ?_) (fun c2=> ?_)
    ·refine⟨_,rfl,a,_,_,.int n,rfl,rfl,w1,rfl,_,_,rfl,rfl,?_,rfl,_,rfl⟩;have c2:(0:Int)<=v:=nM c2;refine fin (decide (v<n)) ?_;show _=(true&&(decide (0<=v)&&decide (v<n)));rw[eY c2];rfl
    ·refine⟨fin _ ?_,rfl,_,rfl⟩;have c2:¬(0:Int)<=v:=fun z=>c2 (eY z);show _=(true&&(decide (0<=v)&&decide (v<n)));rw[jx c2];rfl
   ·refine⟨fin _ ?_,rfl,_,rfl⟩;rw[Bool.eq_false_iff.mpr c];rfl
  intro p1 hp1;obtain⟨rfl,rfl,_⟩:=p;rw[Xm,vL];have s4:=aG hp1 (.lst ((es.map (aR n)).map V.bl));refine⟨p1,_,_,.bool false,rfl,.inl (SqL.of aD),tX _,.bl false,qw _,rfl,(by decide),_,rfl,?_⟩;rw[jZ,dh];refine ite2 (fun c=>bad ?_ s4) (fun c=> ?_)
  ·show(es.all (aR n)&&bZ (es.map intD)&&_)=false;rw[dF c];rfl
  have c:=dG c;obtain⟨ee,hes⟩:=mO c;generalize es.map intD=ys at *;subst ee;obtain rfl:=tO hxs;generalize upd H2 p1 (.lst (((ys.map PyData.int).map (aR n)).map V.bl))=H4 at *;rw[aJ]at aas;have Yj:uw n ts (.tuple [.tuple (ys.map PyData.int),d1])=(bZ ys&&(frB d1&&(decide (ts.filter (inB ys)=[])&&decide (0<intD ((kids d1).headD .none))))):=by
   have e0:((ys.map PyData.int).map intD)=ys:=by rw[Ql];exact Zg ys
   show(((ys.map PyData.int).all (aR n)&&bZ ((ys.map PyData.int).map intD))&&(frB d1&&(decide (ts.filter (inB ((ys.map PyData.int).map intD))=[])&&_)))=_;rw[c,e0];rfl
  rw[Yj]at bad
  -- sorted, and apart
  refine⟨_,rfl,t,_,_,.ref sa,rfl,rfl,s4.tup h,rfl,sa,_,rfl,.inr (s4.tup h2),fun l1 hl1=> ?_⟩;have s5:=aG hl1 (.lst (ys.map V.int));have e5:(upd H4 l1 (.lst (ys.map V.int))) l1=some (.lst (ys.map V.int)):=aD;generalize upd H4 l1 (.lst (ys.map V.int))=H5 at *;have NK:=s4.trans s5;refine⟨_,rfl,t,_,_,.ref sa,rfl,rfl,NK.tup h,rfl,true,sa,ys,rfl,NK.tup h2,by omega,fun r zs hr' hzs hm=> ?_⟩;have s6:=aG hr' (.lst (zs.map V.int));refine⟨.list (ys.map PyData.int),.list (zs.map PyData.int),.lst (SqL.of (s6 _ _ e5)) (cI.ints _),.lst (SqL.of aD) (cI.ints _),yq _,yq _,Hj _ _,_,rfl,?_⟩;rw[Hi];have Wy:=NK.trans s6;generalize upd H5 r (.lst (zs.map V.int))=H6 at *;refine ite2 (fun c2=>bad ?_ Wy) (fun c2=> ?_)
  ·have c2:=Nq (dF c2);rw[show bZ ys=false from Bool.eq_false_iff.mpr fun z=>c2 (Pa (JT z) hzs fun k=>(hm k).symm)];rfl
  obtain rfl:=nM (dG c2);rw[JX hzs]at bad Yj;refine⟨_,rfl,_,rfl,t,_,_,.ref sa,rfl,rfl,Wy.tup h,rfl,a,sa,n,ts,ys,rfl,hA.same (sm.trans Wy),Wy.tup h2,fun H7 s7=>⟨_,rfl,?_⟩⟩;have JL:=Wy.trans s7;have hap:apB ts ys=decide (ts.filter (inB ys)=[]):=rfl;rw[hap];refine ite2 (fun c3=>bad ?_ JL) (fun c3=> ?_)
  ·rw[dF c3];simp
  have c3:=dG c3;rw[c3]at bad Yj;refine⟨_,rfl,t,_,_,x1,rfl,rfl,JL.tup h,rfl,x1,d1,rfl,h1.same JL,_,rfl,?_⟩;refine ite2 (fun c4=>bad ?_ JL) (fun c4=> ?_)
  ·rw[dF c4];rfl
  have c4:=dG c4;rw[c4]at bad Yj;obtain⟨u,v,rfl,hu,hv,hvb⟩:=qp c4;obtain⟨fa,rfl,h3⟩:=h1.fr;refine⟨_,rfl,t,_,_,.ref fa,rfl,rfl,JL.tup h,rfl,fa,_,_,.int u,rfl,rfl,JL.tup h3,rfl,rfl,_,rfl,?_⟩;refine ite2 (fun c5=>bad ?_ JL) (fun c5=> ?_)
  ·have c5:decide (V.int u=V.int 0)=true:=c5;have:u=0:=by simpa using c5
   subst this;rfl
  have c5:u≠0:=by
   have c5:¬decide (V.int u=V.int 0)=true:=c5;simpa using c5
  have good:uw n ts (.tuple [.tuple (ys.map PyData.int),.tuple [.int u,.int ((v:Nat):Int)]])=true:=by
   rw[Yj];show(true&&(true&&(true&&decide (0<u))))=true;rw[eY (by omega)];rfl
  have lo1:∀d∈ds.take (i+1),uw n ts d=true:=fun d' hd'=>by
   rw[HS,ed]at hd';rcases jh.mp hd' with z|z
   ·exact lo.1 d' z
   ·rw[ji.mp z];exact good
  have Yk:(ds.map setOf).getD i []=ys:=by
   rw[iM,dW,ed];show((ys.map PyData.int).map intD)=ys;rw[Ql];exact Zg ys
  refine⟨_,rfl,_,_,rfl,rfl,_,rfl,?_⟩;refine ite2 (fun c6=> ?_) (fun c6=>iteF ⟨sm.trans JL,⟨lo1,fun k hk=>lo.2 k ?_⟩,_,_,rfl⟩)
  rotate_left
  ·have c6:¬(0+(i:Int))>0:=fun z=>c6 (eY z);omega
  have hi0:0<i:=by have:=nM c6;omega
  have hx0:rs[i-1]? =some rs[i-1]:=dD (by omega);obtain⟨d',ed',hd0⟩:=hd.get hx0;have hs':uw n ts d'=true:=lo.1 d' (by
   have:(ds.take i)[i-1]? =some d':=by rw[List.getElem?_take,aB (by omega)];exact ed'
   exact gZ this)
  obtain⟨q,rfl,hq⟩:=vV hs';obtain⟨t0,sa0,fa0,et0,k1,k2,k3⟩:=hd0.sh;have ha0:atI rs (0+(i:Int)-1)=some (.ref t0):=by
   have:(0+(i:Int)-1)=((i-1:Nat):Int):=by omega
   rw[this,<-et0];exact yh hx0
  have st:=sm.trans JL;have Ri:(ds.map setOf).getD (i-1) []=q.1:=by
   rw[iM,dW,ed'];exact pY q
  refine⟨_,rfl,_,rfl,_,_,rfl,rfl,la,rs,_,_,rfl,rfl,st.seq hL,ha0,t0,_,_,.ref sa0,rfl,rfl,st.tup k1,rfl,_,rfl,t,_,_,.ref sa,rfl,rfl,JL.tup h,rfl,sa0,sa,_,_,rfl,rfl,st.tup k2,JL.tup h2,_,rfl,?_⟩;rw[K4];refine ite2 (fun c7=>no (KH (k:=i-1) (by omega) ?_) _ st) (fun c7=>⟨st,⟨lo1,fun k hk=> ?_⟩,_,_,rfl⟩)
  ·rw[show i-1+1=i by omega,Yk,Ri];exact dF c7
  ·by_cases e:k+1<i
   ·exact lo.2 k e
   ·rw[show k=i-1 by omega,show i-1+1=i by omega,Yk,Ri];exact dG c7
 ·obtain⟨sm,lo,o1,o2,rfl⟩:=p;rw[hlen]at lo;have:=qq _ sm;rw[OD lo]at this;exact this
theorem Ov{D:Nat}(hD:0<D)(S:Int):iK D S (aO S D).1 (aO S D).2:=⟨(FJ S hD).pos,tD hD,Kv hD⟩
def Ej(K:W.Frag):Sp:=fun vs H Q _=>∃(wa la:Addr) (wl:List Int) (rs:List V) (l:List (List Int×(Int×Nat))) (D:Nat),vs=[.ref wa,.ref la]/\SqT K H wa (wl.map V.int)/\wl.length<=10/\SqL K H la rs/\iC K H rs l/\l.length<=1000/\rm D (l.map (·.2))/\∀H',Same H H'->Q (.bl (hasB D wl l)) H'
theorem Oq{f f1 f2:Addr}{fd d1 d2:FuncData}(F:Fun K "_law_ahas_enough" "_law_ahas_enough" zcx f fd)(D1:bO K mg "_law_ano_more" U9 ["one","other"] f1 d1)(G1:FnOk P w K mg base CX0 1 f1 d1 ["one","other"] (yH K))(D2:bO K mg "_law_asum" dM ["some"] f2 d2)(G2:FnOk P w K mg base CX0 2 f2 d2 ["some"] (sy K))(aH:mg "range"=none)(bf:mg "len"=none):
  FnOk P w K mg base CX0 3 f fd ["wants","laying"] (Ej K):=by
 refine F.cT ["wants","laying","place"] fun cdv A outer s H vs Q E hr h=> ?_;obtain⟨wa,la,wl,rs,l,D,rfl,hW,h10,hL,hv,Z6,hD,qq⟩:=h;refine bh ?_;intro Y;refine⟨_,(aP (ux rD rfl (Aw rfl aH (aj (pB rA bf (aj (pv 0) ak)) ak)) (pG 2) (aZ (lC (nA (lW (pc G1 hr D1 (aj (fY (aj (bx fM (pv 0) (pv 2)) (aj aq ak))) (aj (pc G2 hr D2 (aj (pK ["some","share"] ["place"] [2] (pI (pv 1)) (eE K (n:=2) rfl (jq (pG 0) (jq (pG 1) xQ))) (cW (iD (eF K hr.units) (pv 2) (pv 0) (by with_unfolding_all rfl))) (pv 1)) ak)) ak))))) (aZ (bQ lB)) lD))) (aZ (bQ lB))),?_⟩;refine dH ?_;intro c2;have hlen:=Paired.bV hv;have hml:(wl.map V.int).length=wl.length:=aJ ..;refine⟨_,rfl,wa,_,rfl,.inr hW,fun hz=>⟨_,rfl,by omega,by omega,?_⟩⟩;let iB:Nat->St->Hp->Prop:=fun i σ H'=>Same H H'/\(∀k,k<i->Cq D l ((k:Nat):Int) (wl.getD k 0)=true)/\∃o1,σ=[some (.ref wa),some (.ref la),o1];refine Ij (n:=(wl.map V.int).length) iB ⟨Same.refl _,fun k hk=>absurd hk (by omega),_,rfl⟩ (fun i σ H' hi p=> ?_) (fun σ H' p=> ?_)
 ·obtain⟨sm,lo,o1,rfl⟩:=p;have hi':i<wl.length:=by omega
  have ex:wl[i]? =some wl[i]:=dD hi';have ha:atI (wl.map V.int) (0+(i:Int))=some (.int wl[i]):=by
   rw[Mq];exact yh (by rw[dW,ex];rfl)
  have ey:wl.getD i 0=wl[i]:=by rw[iM,ex];rfl
  have ep:(0+(i:Int))=((i:Nat):Int):=Mq _;generalize (0+(i:Int))=p0 at *;generalize wl[i]=y at *;have hDi:rm D ((l.filter fun q=>decide (p0∈q.1)).map (·.2)):=hD.sub fun f hf=>by
   obtain⟨q,hq,rfl⟩:=lX.mp hf;exact Ng (lN.mp hq).1
  refine⟨_,rfl,_,rfl,wa,_,_,.int y,rfl,rfl,sm.tup hW,ha,(by show 2<=sizeLine;decide),fun r1 hr1=> ?_⟩;have s1:=aG hr1 (.tup [.int y,.int 1]);have er:(upd H' r1 (.tup [.int y,.int 1])) r1=some (.tup [.int y,.int 1]):=aD;generalize (upd H' r1 (.tup [.int y,.int 1]))=H1 at *;have st:=sm.trans s1;have hv1:=iC.same hv st;refine⟨_,rfl,la,rs,rfl,st.seq hL,fun hz=> ?_⟩;let oV:Nat->List V->St->Hp->Prop:=fun i acc σ H'=>H'=H1/\bW K H1 acc (((l.take i).filter fun q=>decide (p0∈q.1)).map (·.2))/\∃o1 o2,σ=[o1,o2,some (.int p0)];refine vK (xs:=rs) oV ⟨rfl,.nil,_,_,rfl⟩ (fun i acc σ H' _ p=>by rw[p.1];exact st.seq hL) (fun i acc σ H' _ p=> ?_) hz (fun i x acc σ H' hx p'=> ?_) (fun acc σ H' p'=> ?_)
  ·rw[Paired.bV p.2.1,aJ];exact cC (uX _ _) (by rw[xU];exact Ax _ _)
  ·obtain⟨rfl,hf,o1,o2,rfl⟩:=p';obtain⟨hil,t,sa,fa,rfl,h1,h2,h3⟩:=nP hv1 hx;refine⟨t,_,rfl,h1,rfl,_,_,rfl,_,_,rfl,rfl,?_⟩;refine⟨_,rfl,_,rfl,sa,_,_,.int p0,rfl,.inr h2,cI.ints _,.int _,yq _,rfl,(by show 0<=60;decide),_,rfl,?_⟩;rw[any_ints];refine ite2 (fun c=> ?_) (fun c=> ?_)
   ·refine⟨_,rfl,rfl,?_,_,_,rfl⟩;rw[fX hil,aB c,cO];exact Paired.snoc hf ⟨fa,rfl,h3⟩
   ·refine⟨rfl,?_,_,_,rfl⟩;rw[fX hil,aA c,Ay];exact hf
  intro p1 hp1;obtain⟨rfl,hf,_⟩:=p';rw[Mu (by omega)]at hf;have s2:=aG hp1 (.lst acc);have hal:acc.length<=1000:=by
   rw[Paired.bV hf,aJ];exact cC (uX _ _) Z6
  refine⟨p1,acc,_,D,rfl,SqL.of aD,bW.same hf s2,hDi,by omega,fun r H2 s3 hr2=> ?_⟩;have ll:=FJ (fL D ((l.filter fun q=>decide (p0∈q.1)).map (·.2))) hDi.pos;refine⟨r1,r,y,_,1,_,rfl,(s2.trans s3).tup (SqT.of er),hr2,by omega,cC ll.lv hDi.le,_,rfl,?_⟩;have st3:=st.trans (s2.trans s3);have ec:=(Ov hDi.pos (fL D ((l.filter fun q=>decide (p0∈q.1)).map (·.2)))).UJ hDi.pos (x:=y) (v:=1);have eg:Cq D l ((i:Nat):Int) (wl.getD i 0)=decide (y*(((aO (fL D ((l.filter fun q=>decide (p0∈q.1)).map (·.2))) D).2:Nat):Int)<=(aO (fL D ((l.filter fun q=>decide (p0∈q.1)).map (·.2))) D).1*((1:Nat):Int)):=by
   rw[<-ep,ey];refine decide_eq_decide.mpr (Iff.trans ?_ ec.symm);rw[show((1:Nat):Int)=1 from rfl,Vj]
  rw[<-eg];refine ite2 (fun c=> ?_) (fun c=>⟨st3,fun k hk=> ?_,_,rfl⟩)
  ·have:=qq _ st3;rw[show hasB D wl l=false from List.all_eq_false.mpr ⟨i,pO.mpr hi',by rw[dF c];decide⟩]at this;exact this
  ·by_cases hki:k<i
   ·exact lo k hki
   ·rw[show k=i by omega];exact dG c
 ·obtain⟨sm,lo,o1,rfl⟩:=p;have:=qq _ sm;rw[show hasB D wl l=true from nF.mpr fun k hk=>lo k (by rw[hml];exact pO.mp hk)]at this;exact this
def Eh(K:W.Frag):Sp:=fun vs H Q _=>∃(a pa:Addr) (n:Int) (ts:L0) (aK:List V) (ds:List PyData) (D:Nat),vs=[.ref a,.ref pa]/\cB K H a n ts/\SqL K H pa aK/\lA K H aK ds/\(Ao n ds=true->rm D (ds.map gb))/\∀(b:Bool) H',Same H H'->(Ao n ds=true->(b=true↔oW ts n.toNat D (ds.map gb)))->Q (.bl (Ao n ds&&b)) H'
theorem Ol{f f1 f2 f3 f4:Addr}{fd d1 d2 d3 d4:FuncData}(F:Fun K "_law_aare_prices" "_law_aare_prices" zcy f fd)(D1:bO K mg "_law_afraction" YH ["thing"] f1 d1)(G1:FnOk P w K mg base CX0 2 f1 d1 ["thing"] (u9 K))(D2:bO K mg "_law_aaparts" iw ["web"] f2 d2)(G2:FnOk P w K mg base CX0 1 f2 d2 ["web"] (vd K))(D3:bO K mg "_law_ano_more" U9 ["one","other"] f3 d3)(G3:FnOk P w K mg base CX0 1 f3 d3 ["one","other"] (yH K))(D4:bO K mg "_law_asum" dM ["some"] f4 d4)(G4:FnOk P w K mg base CX0 2 f4 d4 ["some"] (sy K))(bf:mg "len"=none):
  FnOk P w K mg base CX0 3 f fd ["web","prices"] (Eh K):=by
 refine F.cT ["web","prices","some"] fun cdv A outer s H vs Q E hr h=> ?_;obtain⟨a,pa,n,ts,aK,ds,D,rfl,hA,Cp,hd,hDo,qq⟩:=h;refine bh ?_;intro Y;refine⟨_,(aP (lC (PW.pt (pw_or (iD op_ne (pB rA bf (aj (pv 1) ak)) (bx fM (pv 0) aq)) (pw_or1 (iD (wg hr.units) lB (pK ["price"] [] [] (pI (pv 1)) (pG 0) lM (pc G1 hr D1 (aj (pv 0) ak))) (by with_unfolding_all rfl))))) (aZ (bQ lB)) lD) (aP (ux rD rfl (pI (pc G2 hr D2 (aj (pv 0) ak))) (pG 2) (aZ (lC (nA (lW (pc G3 hr D3 (aj (pc G4 hr D4 (aj (pK ["place"] ["prices"] [1] (dZ (pv 2)) (pG 0) lM (bx (eU K) (pv 1) (pv 0))) ak)) (aj (fY (aj aq (aj aq ak))) ak))))) (aZ (bQ lB)) lD))) (aZ (bQ lB)))),?_⟩;refine lR ?_;intro c3 c2;have h0:=hA.h0;have h10:=hA.h1;have en:((n.toNat:Nat):Int)=n:=by omega
 have hdl:=hd.len;have no:Ao n ds=false->∀H',Same H H'->Q (.bl false) H':=fun e H' sm=>by
  have:=qq true H' sm (fun z=>by rw[e]at z;cases z);rw[e]at this;exact this
 obtain⟨RQ,R9,w1,w2,w3⟩:=id hA.web;refine⟨_,rfl,pa,aK,rfl,.inl Cp,fun hz=>⟨_,rfl,a,_,_,.int n,rfl,rfl,w1,rfl,rfl,_,rfl,?_⟩⟩;refine ite2 (fun c=>no ?_ _ (Same.refl _)) (fun c=> ?_)
 ·have c:(!decide (V.int ((aK.length:Nat):Int)=V.int n))=true:=c;show(decide ((ds.length:Int)=n)&&_)=false;rw[jx (fun z=>by rw[hdl,z]at c;simp at c)];rfl
 have hpl:(aK.length:Int)=n:=by
  have c:¬(!decide (V.int ((aK.length:Nat):Int)=V.int n))=true:=c;simpa using c
 refine⟨_,rfl,pa,aK,rfl,Cp,fun hz=> ?_⟩;let ud:Nat->List V->St->Hp->Prop:=fun i acc σ H'=>acc=((ds.take i).map frB).map V.bl/\H'=H/\∃o,σ=[o];refine vK (xs:=aK) ud ⟨rfl,rfl,_,rfl⟩ (fun i acc σ H' _ p=>by rw[p.2.1];exact Cp) (fun i acc σ H' hi p=>by rw[p.1];simp;omega) hz (fun i x acc σ H' hx p=> ?_) (fun acc σ H' p=> ?_)
 ·obtain⟨rfl,rfl,o,rfl⟩:=p;obtain⟨d,e1,e2⟩:=hd.get hx;refine⟨_,rfl,x,d,rfl,e2,?_,rfl,_,rfl⟩;rw[HS,e1];simp
 intro p1 hp1;obtain⟨rfl,rfl,_⟩:=p;rw[hdl,vL];have s1:=aG hp1 (.lst ((ds.map frB).map V.bl));refine⟨p1,_,_,.bool false,rfl,.inl (SqL.of aD),tX _,.bl false,qw _,rfl,(by decide),_,rfl,?_⟩;rw[jZ,dh];refine ite2 (fun c=>no ?_ _ s1) (fun c=> ?_)
 ·show(_&&ds.all frB)=false;rw[dF c,wfv]
 have c:=dG c;have hpr:Ao n ds=true:=by
  show(decide ((ds.length:Int)=n)&&ds.all frB)=true;rw[c,eY (by omega)];rfl
 have hD:=hDo hpr;have hf:=wL hd c;rw[hpr]at qq;generalize hfs:ds.map gb=fs at *;have hfl:fs.length=n.toNat:=by rw[<-Paired.bV hf];omega
 generalize upd H' p1 (.lst ((ds.map frB).map V.bl))=H3 at *;refine⟨_,rfl,a,n,ts,rfl,hA.same s1,fun la H4 s4 hAp=> ?_⟩;obtain⟨its,i1,i2,i3⟩:=hAp;have Gh:=s1.trans s4;refine⟨la,_,rfl,SqL.of i1,fun hz=> ?_⟩;let LR:Nat->St->Hp->Prop:=fun i σ H5=>Same H4 H5/\(∀k,k<i->fL D (((its.map (·.2)).getD k []).map (gG fs))<=(D:Int))/\∃o,σ=[some (.ref a),some (.ref pa),o];refine for_list (xs:=its.map fun p=>V.ref p.1) LR ⟨Same.refl _,fun k hk=>absurd hk (by omega),_,rfl⟩ (fun i σ H5 _ p=>p.1.seq (SqL.of i1)) (fun i x σ H5 hx p=> ?_) (fun σ H5 p=> ?_)
 ·obtain⟨sm,lo,o,rfl⟩:=p;rw[dW]at hx;cases ev:its[i]? with
  |none=>rw[ev]at hx;cases hx
  |some it=>
   rw[ev]at hx;cases hx;have st:=Gh.trans sm;have hit:=i2 it (gZ ev);have hmem:it.2∈bB ts false n.toNat:=by rw[<-i3];exact Ng (gZ ev)
   have hK:=iu _ _ hmem;have egd:(its.map (·.2)).getD i []=it.2:=by rw[iM,dW,ev];rfl
   have Xu:=sm.tup hit;have hf5:=bW.same hf st;have aaE:=rJ hK.up hK.lt;refine⟨_,rfl,it.1,_,rfl,Xu,fun hz=> ?_⟩;let Pv5:Nat->List V->St->Hp->Prop:=fun i acc σ H'=>H'=H5/\bW K H5 acc ((it.2.take i).map (gG fs))/\∃o,σ=[o,some (.ref pa)];refine Mj (xs:=it.2.map V.int) Pv5 ⟨rfl,.nil,_,rfl⟩ (fun i acc σ H' _ p=>by rw[p.1];exact Xu) (fun i acc σ H' _ p=> ?_) hz (fun i x acc σ H' hx' p=> ?_) (fun acc σ H' p=> ?_)
   ·rw[Paired.bV p.2.1,aJ,xU];exact Ax _ _
   ·obtain⟨rfl,hp,o,rfl⟩:=p;rw[dW]at hx';cases ex:it.2[i]? with
    |none=>rw[ex]at hx';cases hx'
    |some y=>
     rw[ex]at hx';cases hx';have hy:=hK.lt y (gZ ex);have hk:y.toNat<aK.length:=by omega
     have hv:aK[y.toNat]? =some aK[y.toNat]:=dD hk;obtain⟨g,hg,fa,e,h3⟩:=Paired.at_ hf5 hv;have hg2:g=gG fs y:=by unfold gG;rw[iM,hg];rfl
     subst hg2;have ha:atI aK y=some (.ref fa):=by
      have:y=((y.toNat:Nat):Int):=by omega
      rw[this,<-e];exact yh hv
     refine⟨_,rfl,_,rfl,pa,aK,_,_,rfl,rfl,st.seq Cp,ha,rfl,?_,_,rfl⟩;obtain⟨hi,rfl⟩:=nH.mp ex;rw[Qq hi,cO];exact Paired.snoc hp ⟨fa,rfl,h3⟩
   intro p2 hp2;obtain⟨rfl,hp,_⟩:=p;rw[aJ,vL]at hp;have s2:=aG hp2 (.lst acc);have hal:acc.length<=1000:=by rw[Paired.bV hp,aJ];omega
   refine⟨p2,acc,_,D,rfl,SqL.of aD,bW.same hp s2,hD.get it.2,hal,fun r H6 s6 hr6=> ?_⟩;refine⟨(by show 2<=sizeLine;decide),fun r2 hr2=> ?_⟩;have s7:=aG hr2 (.tup [.int 1,.int 1]);have ll:=FJ (fL D (it.2.map (gG fs))) hD.pos;refine⟨r,r2,_,1,_,1,rfl,s7.tup hr6,SqT.of aD,cC ll.lv hD.le,by omega,_,rfl,?_⟩;have ec:=(Ov hD.pos (fL D (it.2.map (gG fs)))).cmp hD.pos (u:=1) (v:=1);rw[decide_eq_decide.mpr ec];have s27:=sm.trans (s2.trans (s6.trans s7));refine ite2 (fun c=> ?_) (fun c=>⟨s27,fun k hk=> ?_,_,rfl⟩)
   ·have:=qq false _ (Gh.trans s27) fun _=>⟨(fun z=>nomatch z),fun z=> ?_⟩
    ·exact this
    exfalso;have:=Nq (dF c);have z:=z _ hmem;rw[show((1:Nat):Int)=1 from rfl]at this;omega
   ·by_cases hki:k<i
    ·exact lo k hki
    ·rw[show k=i by omega,egd];have:=nM (dG c);rw[show((1:Nat):Int)=1 from rfl]at this;omega
 ·obtain⟨sm,lo,o,rfl⟩:=p;refine qq true _ (Gh.trans sm) fun _=>⟨fun _ s hs=> ?_,fun _=>rfl⟩;rw[<-i3]at hs;obtain⟨k,hk,rfl⟩:=Im hs;rw[aJ]at hk;have:=lo k (by rw[aJ];exact hk)
  rwa [iM,dD (by rw[aJ];exact hk)]at this
def Ef(K:W.Frag):Sp:=fun vs H Q _=>∃(wa pa:Addr) (n:Int) (wl:List Int) (aK:List V) (fs:List (Int×Nat)) (D:Nat),vs=[.ref wa,.ref pa]/\SqT K H wa (wl.map V.int)/\j5 n wl/\0<=n/\n<=10/\SqL K H pa aK/\bW K H aK fs/\(aK.length:Int)=n/\rm D fs/\∀p H',Same H H'->xG K H' p (aO (yx D wl fs) D)->Q (.ref p) H'
theorem Oh{f f1:Addr}{fd d1:FuncData}(F:Fun K "_law_aworth" "_law_aworth" iR f fd)(D1:bO K mg "_law_asum" dM ["some"] f1 d1)(G1:FnOk P w K mg base CX0 2 f1 d1 ["some"] (sy K))(Kp:mg "zip"=none):
  FnOk P w K mg base CX0 3 f fd ["wants","prices"] (Ef K):=by
 refine F.cT ["wants","prices"] fun cdv A outer s H vs Q E hr h=> ?_;obtain⟨wa,pa,n,wl,aK,fs,D,rfl,hW,hwl,h0,h10,Cp,hf,hpl,hD,qq⟩:=h;refine⟨_,(aZ (bQ (pc G1 hr D1 (aj (pK ["want","price"] [] [] (J3 rfl Kp (aj (pv 0) (aj (pv 1) ak))) (eE K (n:=2) rfl (jq (pG 0) (jq (pG 1) xQ))) lM (fY (aj (aX m9 (pv 0) (bx (xP K) (pv 1) aq)) (aj (bx (xP K) (pv 1) aq) ak)))) ak)))),?_⟩;have hwn:wl.length=n.toNat:=by have:=hwl.1;omega
 refine⟨_,rfl,_,rfl,wa,pa,wl.map V.int,aK,rfl,hW,Cp,by rw[aJ];omega,fun hz=> ?_⟩;refine zR (K:=K) (a:=wa) (b:=pa) (xs:=wl.map V.int) (ys:=aK) (fun i acc σ H'=>bW K H' acc ((List.range i).map (Iu wl fs))/\Same H H'/\∃o1 o2,σ=[o1,o2]) ⟨.nil,Same.refl _,_,_,rfl⟩ (fun i acc σ H' _ p=>⟨p.2.1.tup hW,p.2.1.seq Cp⟩) (by rw[aJ];omega) (fun i acc σ H' _ p=>by rw[Paired.bV p.1,aJ,rC];exact aN _) hz (fun i v x t acc σ H' hv hx p ht=> ?_) (fun acc σ H' p=> ?_)
 ·obtain⟨hp,sm,o1,o2,rfl⟩:=p;rw[dW]at hv;cases ev:wl[i]? with
  |none=>rw[ev]at hv;cases hv
  |some y=>
   rw[ev]at hv;cases hv;have hy:=hwl.2 y (gZ ev);obtain⟨g,hg,fa,rfl,h3⟩:=Paired.at_ hf hx;have ew:Iu wl fs i=(y*g.1,g.2):=by
    unfold Iu;rw[iM,iM,ev,hg];rfl
   have t1:=aG ht (.tup [.int y,.ref fa]);have h3':=(sm.trans t1).tup h3;refine⟨t,_,rfl,SqT.of aD,rfl,_,_,rfl,_,_,rfl,rfl,?_⟩;refine⟨_,rfl,_,rfl,fa,_,_,.int g.1,rfl,rfl,h3',rfl,_,_,rfl,rfl,.inl ⟨by omega,by omega⟩,_,rfl,fa,_,_,.int ((g.2:Nat):Int),rfl,rfl,h3',rfl,(by show 2<=sizeLine;decide),fun r hr'=> ?_⟩;have t2:=aG hr' (.tup [.int (y*g.1),.int ((g.2:Nat):Int)]);refine⟨?_,sm.trans (t1.trans t2),_,_,rfl⟩;rw[yu,cO];refine Paired.snoc (bW.same hp (t1.trans t2)) ⟨r,rfl,?_⟩;show xG K _ r (Iu wl fs i);rw[ew];exact SqT.of aD
 intro p3 hp3;obtain⟨hp,sm',_⟩:=p;rw[aJ]at hp;have s6:=aG hp3 (.lst acc);have hal:acc.length<=1000:=by rw[Paired.bV hp,aJ,rC];omega
 exact⟨p3,acc,_,D,rfl,SqL.of aD,bW.same hp s6,hD.Y9 hwl,hal,fun r H7 s7 hr7=>qq r _ (sm'.trans (s6.trans s7)) hr7⟩
theorem Ht{X:Cx}(hc:X.calm=true):CallR X (.builtin "max") (fun xs H Q=>∃i j k,xs=[.int i,.int j,.int k]/\∀m:Int,i<=m->j<=m->k<=m->(m=i\/m=j\/m=k)->Q (.int m) H):=by
 intro pins s σ H xs us Q I r h;obtain⟨i,j,k,rfl,q⟩:=h;cases r with
 |cons r1 r2=>
  cases r2 with
  |cons r3 r4=>
   cases r4 with
   |cons r5 r6=>
    cases r6;obtain⟨t1,rfl⟩:=r1;obtain⟨t2,rfl⟩:=r3;obtain⟨t3,rfl⟩:=r5;refine max_three_ints (I.ok.hd hc) fun h' tk kk=> ?_;by_cases h1:j>i
    ·by_cases h2:k>j
     ·rw[aB h1,aB h2];exact⟨.int k,H,I.kept kk,⟨_,rfl⟩,q k (by omega) (by omega) (by omega) (.inr (.inr rfl))⟩
     ·rw[aB h1,aA h2];exact⟨.int j,H,I.kept kk,⟨_,rfl⟩,q j (by omega) (by omega) (by omega) (.inr (.inl rfl))⟩
    ·by_cases h2:k>i
     ·rw[aA h1,aB h2];exact⟨.int k,H,I.kept kk,⟨_,rfl⟩,q k (by omega) (by omega) (by omega) (.inr (.inr rfl))⟩
     ·rw[aA h1,aA h2];exact⟨.int i,H,I.kept kk,⟨_,rfl⟩,q i (by omega) (by omega) (by omega) (.inl rfl)⟩
def uc(K:W.Frag)(H:Hp)(x:V):Prop:=∃t i j,x= .ref t/\SqT K H t [.int i,.int j]
theorem uc.same{H H':Hp}{x:V}(h:uc K H x)(s:Same H H'):uc K H' x:=by
 obtain⟨t,i,j,e,h⟩:=h;exact⟨t,i,j,e,s.tup h⟩
def Jx(K:W.Frag):Sp:=fun vs H Q _=>∃(fa:Addr) (u:Int) (v:Nat),vs=[.ref fa]/\xG K H fa (u,v)/\0<=u/\u<=1000000000000000/\v<=1000000000000000/\∀r xs H',Same H H'->H' r=some (.lst xs)->H r=none->xs.length=7->(∀x∈xs,uc K H' x)->Q (.ref r) H'
theorem TF{f:Addr}{fd:FuncData}(F:Fun K "_law_abent_shares" "_law_abent_shares" YL f fd)(vq:mg "max"=none):
  FnOk P w K mg base CX0 1 f fd ["share"] (Jx K):=by
 refine F.cT ["share","a","b","most"] fun cdv A outer s H vs Q E hr h=> ?_;obtain⟨fa,u,v,rfl,hF,hu,hub,hvb,q⟩:=h;refine bh ?_;intro Y;refine⟨_,(aP (ps_asg (pv 0) (pg_tup rfl (jq (pG 1) (jq (pG 2) xQ)))) (aP (pS 3 (aX jQ (aX op_pow aq aq) (pB (Ht rfl) vq (aj (pv 1) (aj (pv 2) (aj aq ak)))))) (aZ (bQ (qH (aj (fY (aj (aX pJ (pv 1) aq) (aj (pv 2) ak))) (aj (fY (aj (aX op_sub (pv 1) aq) (aj (pv 2) ak))) (aj (fY (aj (pv 1) (aj (aX pJ (pv 2) aq) ak))) (aj (fY (aj (pv 1) (aj (pB (call_max2 rfl) vq (aj aq (aj (aX op_sub (pv 2) aq) ak))) ak))) (aj (fY (aj (aX m9 aq (pv 1)) (aj (aX m9 aq (pv 2)) ak))) (aj (fY (aj (aX m9 (pv 1) (pv 3)) (aj (aX m9 (pv 2) (pv 3)) ak))) (aj (fY (aj aq (aj aq ak))) ak)))))))))))),?_⟩;refine lR ?_;intro c3 c2;refine⟨_,rfl,fa,_,rfl,hF,rfl,_,_,rfl,_,_,rfl,rfl,?_⟩;refine⟨_,_,rfl,rfl,⟨by decide,by decide,by decide⟩,_,rfl,_,rfl,u,v,1,rfl,fun m m1 m2 m3 m4=> ?_⟩;refine⟨_,_,rfl,rfl,⟨by omega,by omega⟩,?_⟩;have e9:(10:Int)^(9:Int).toNat=1000000000:=by decide
 rw[e9];have dv0:0<=1000000000/m:=Int.ediv_nonneg (by decide) (by omega);have dv1:1000000000/m<=1000000000:=Int.ediv_le_self _ (by decide);have cm:∀x:Int,CMul x (1000000000/m):=fun x=> .inr ⟨by omega,by omega⟩;dsimp only[gName,List.set];refine⟨_,rfl,_,_,rfl,rfl,_,rfl,(by show 2<=sizeLine;decide),fun t1 h1=> ?_⟩;have z1:=aG h1 (.tup [.int (u+1),.int ((v:Nat):Int)]);have q1:uc K (upd H t1 (.tup [.int (u+1),.int ((v:Nat):Int)])) (.ref t1):=⟨t1,_,_,rfl,SqT.of aD⟩;have r0:Same H (upd H t1 (.tup [.int (u+1),.int ((v:Nat):Int)])):=z1;generalize upd H t1 (.tup [.int (u+1),.int ((v:Nat):Int)])=H1 at *;refine⟨_,rfl,_,_,rfl,rfl,_,rfl,(by show 2<=sizeLine;decide),fun t2 h2=> ?_⟩;have z2:=aG h2 (.tup [.int (u-1),.int ((v:Nat):Int)]);have q2:uc K (upd H1 t2 (.tup [.int (u-1),.int ((v:Nat):Int)])) (.ref t2):=⟨t2,_,_,rfl,SqT.of aD⟩;have r0:Same H (upd H1 t2 (.tup [.int (u-1),.int ((v:Nat):Int)])):=r0.trans z2;have q1:=q1.same z2;generalize upd H1 t2 (.tup [.int (u-1),.int ((v:Nat):Int)])=H2 at *;refine⟨_,rfl,_,rfl,_,_,rfl,rfl,(by show 2<=sizeLine;decide),fun t3 h3=> ?_⟩;have z3:=aG h3 (.tup [.int u,.int (((v:Nat):Int)+1)]);have q3:uc K (upd H2 t3 (.tup [.int u,.int (((v:Nat):Int)+1)])) (.ref t3):=⟨t3,_,_,rfl,SqT.of aD⟩;have r0:Same H (upd H2 t3 (.tup [.int u,.int (((v:Nat):Int)+1)])):=r0.trans z3;have q1:=q1.same z3;have q2:=q2.same z3;generalize upd H2 t3 (.tup [.int u,.int (((v:Nat):Int)+1)])=H3 at *;refine⟨_,rfl,_,rfl,_,_,rfl,rfl,_,_,rfl,?_⟩;generalize (if((v:Nat):Int)-1>1 then((v:Nat):Int)-1 else 1)=mb;refine⟨(by show 2<=sizeLine;decide),fun t4 h4=> ?_⟩;have z4:=aG h4 (.tup [.int u,.int mb]);have q4:uc K (upd H3 t4 (.tup [.int u,.int mb])) (.ref t4):=⟨t4,_,_,rfl,SqT.of aD⟩;have r0:Same H (upd H3 t4 (.tup [.int u,.int mb])):=r0.trans z4;have q1:=q1.same z4;have q2:=q2.same z4;have q3:=q3.same z4;generalize upd H3 t4 (.tup [.int u,.int mb])=H4 at *;refine⟨_,rfl,_,_,rfl,rfl,.inl ⟨by decide,by decide⟩,_,rfl,_,_,rfl,rfl,.inl ⟨by decide,by decide⟩,(by show 2<=sizeLine;decide),fun t5 h5=> ?_⟩;have z5:=aG h5 (.tup [.int (2*u),.int (2*((v:Nat):Int))]);have q5:uc K (upd H4 t5 (.tup [.int (2*u),.int (2*((v:Nat):Int))])) (.ref t5):=⟨t5,_,_,rfl,SqT.of aD⟩;have r0:Same H (upd H4 t5 (.tup [.int (2*u),.int (2*((v:Nat):Int))])):=r0.trans z5;have q1:=q1.same z5;have q2:=q2.same z5;have q3:=q3.same z5;have q4:=q4.same z5;generalize upd H4 t5 (.tup [.int (2*u),.int (2*((v:Nat):Int))])=H5 at *;refine⟨_,rfl,_,rfl,_,_,rfl,rfl,cm _,_,rfl,_,rfl,_,_,rfl,rfl,cm _,(by show 2<=sizeLine;decide),fun t6 h6=> ?_⟩;have z6:=aG h6 (.tup [.int (u*(1000000000/m)),.int (((v:Nat):Int)*(1000000000/m))]);have q6:uc K (upd H5 t6 (.tup [.int (u*(1000000000/m)),.int (((v:Nat):Int)*(1000000000/m))])) (.ref t6):=⟨t6,_,_,rfl,SqT.of aD⟩;have r0:Same H (upd H5 t6 (.tup [.int (u*(1000000000/m)),.int (((v:Nat):Int)*(1000000000/m))])):=r0.trans z6;have q1:=q1.same z6;have q2:=q2.same z6;have q3:=q3.same z6;have q4:=q4.same z6;have q5:=q5.same z6;generalize upd H5 t6 (.tup [.int (u*(1000000000/m)),.int (((v:Nat):Int)*(1000000000/m))])=H6 at *;refine⟨(by show 2<=sizeLine;decide),fun t7 h7=> ?_⟩;have z7:=aG h7 (.tup [.int 0,.int 1]);have q7:uc K (upd H6 t7 (.tup [.int 0,.int 1])) (.ref t7):=⟨t7,_,_,rfl,SqT.of aD⟩;have r0:Same H (upd H6 t7 (.tup [.int 0,.int 1])):=r0.trans z7;have q1:=q1.same z7;have q2:=q2.same z7;have q3:=q3.same z7;have q4:=q4.same z7;have q5:=q5.same z7;have q6:=q6.same z7;generalize upd H6 t7 (.tup [.int 0,.int 1])=H7 at *;refine⟨(by show 7<=sizeLine;decide),fun r hr'=> ?_⟩;have z8:=aG hr' (.lst [.ref t1,.ref t2,.ref t3,.ref t4,.ref t5,.ref t6,.ref t7]);refine q r _ _ (r0.trans z8) aD (r0.none hr') rfl fun x hx=> ?_;simp only[cJ,xT,xW]at hx;rcases hx with rfl|rfl|rfl|rfl|rfl|rfl|rfl
 ·exact q1.same z8
 ·exact q2.same z8
 ·exact q3.same z8
 ·exact q4.same z8
 ·exact q5.same z8
 ·exact q6.same z8
 ·exact q7.same z8
def qz(K:W.Frag)(H:Hp)(x:V):Prop:=∃(t:Addr) (i:Int) (k:Nat),x= .ref t/\xG K H t (i,k)/\k<=1000000000000000000
theorem qz.same{H H':Hp}{x:V}(h:qz K H x)(s:Same H H'):qz K H' x:=by
 obtain⟨t,i,k,e,h,b⟩:=h;exact⟨t,i,k,e,s.tup h,b⟩
def Jv(K:W.Frag):Sp:=fun vs H Q _=>∃(ta:Addr) (u:Int) (v:Nat),vs=[.ref ta]/\xG K H ta (u,v)/\v<=1000000000000000/\∀r xs H',Same H H'->H' r=some (.lst xs)->xs.length=7->(∀x∈xs,qz K H' x)->Q (.ref r) H'
theorem Tp{f:Addr}{fd:FuncData}(F:Fun K "_law_anumbers" "_law_anumbers" YG f fd)(vq:mg "max"=none):
  FnOk P w K mg base CX0 1 f fd ["total"] (Jv K):=by
 refine F.cT ["total","a","b"] fun cdv A outer s H vs Q E hr h=> ?_;obtain⟨ta,u,v,rfl,hF,hvb,q⟩:=h;refine bh ?_;intro Y;refine⟨_,(aP (ps_asg (pv 0) (pg_tup rfl (jq (pG 1) (jq (pG 2) xQ)))) (aZ (bQ (qH (aj (pv 0) (aj (fY (aj (aX m9 aq (pv 1)) (aj (aX m9 aq (pv 2)) ak))) (aj (fY (aj (aX pJ (pv 1) aq) (aj (pv 2) ak))) (aj (fY (aj (pB (call_max2 rfl) vq (aj aq (aj (aX op_sub (pv 1) aq) ak))) (aj (pv 2) ak))) (aj (fY (aj aq (aj aq ak))) (aj (fY (aj (aX op_pow aq aq) (aj aq ak))) (aj (fY (aj (aX pJ (aX m9 (pv 1) aq) aq) (aj (aX m9 (pv 2) aq) ak))) ak))))))))))),?_⟩;refine dH ?_;intro c2;refine⟨_,rfl,ta,_,rfl,hF,rfl,_,_,rfl,_,_,rfl,rfl,?_⟩;have q0:qz K H (.ref ta):=⟨ta,u,v,rfl,hF,by omega⟩;dsimp only[gName,List.set];refine⟨_,rfl,_,rfl,_,_,rfl,rfl,.inl ⟨by decide,by decide⟩,_,rfl,_,_,rfl,rfl,.inl ⟨by decide,by decide⟩,(by show 2<=sizeLine;decide),fun t1 h1=> ?_⟩;have z1:=aG h1 (.tup [.int (2*u),.int (2*((v:Nat):Int))]);have q1:qz K (upd H t1 (.tup [.int (2*u),.int (2*((v:Nat):Int))])) (.ref t1):=⟨t1,_,2*v,rfl,by have:=SqT.of (K:=K) (aD (H:=H) (a:=t1) (o:= .tup [.int (2*u),.int (2*((v:Nat):Int))]));rw[show(2*((v:Nat):Int):Int)=((2*v:Nat):Int) by omega]at this;exact this,by omega⟩;have r0:Same H (upd H t1 (.tup [.int (2*u),.int (2*((v:Nat):Int))])):=z1;have q0:=q0.same z1;generalize upd H t1 (.tup [.int (2*u),.int (2*((v:Nat):Int))])=H1 at *;refine⟨_,rfl,_,_,rfl,rfl,_,rfl,(by show 2<=sizeLine;decide),fun t2 h2=> ?_⟩;have z2:=aG h2 (.tup [.int (u+1),.int ((v:Nat):Int)]);have q2:qz K (upd H1 t2 (.tup [.int (u+1),.int ((v:Nat):Int)])) (.ref t2):=⟨t2,_,v,rfl,by have:=SqT.of (K:=K) (aD (H:=H1) (a:=t2) (o:= .tup [.int (u+1),.int ((v:Nat):Int)]));exact this,by omega⟩;have r0:Same H (upd H1 t2 (.tup [.int (u+1),.int ((v:Nat):Int)])):=r0.trans z2;have q0:=q0.same z2;have q1:=q1.same z2;generalize upd H1 t2 (.tup [.int (u+1),.int ((v:Nat):Int)])=H2 at *;refine⟨_,rfl,_,_,rfl,rfl,_,_,rfl,?_⟩;generalize (if u-1>0 then u-1 else 0)=mb;refine⟨_,rfl,(by show 2<=sizeLine;decide),fun t3 h3=> ?_⟩;have z3:=aG h3 (.tup [.int mb,.int ((v:Nat):Int)]);have q3:qz K (upd H2 t3 (.tup [.int mb,.int ((v:Nat):Int)])) (.ref t3):=⟨t3,_,v,rfl,by have:=SqT.of (K:=K) (aD (H:=H2) (a:=t3) (o:= .tup [.int mb,.int ((v:Nat):Int)]));exact this,by omega⟩;have r0:Same H (upd H2 t3 (.tup [.int mb,.int ((v:Nat):Int)])):=r0.trans z3;have q0:=q0.same z3;have q1:=q1.same z3;have q2:=q2.same z3;generalize upd H2 t3 (.tup [.int mb,.int ((v:Nat):Int)])=H3 at *;refine⟨(by show 2<=sizeLine;decide),fun t4 h4=> ?_⟩;have z4:=aG h4 (.tup [.int 0,.int 1]);have q4:qz K (upd H3 t4 (.tup [.int 0,.int 1])) (.ref t4):=⟨t4,_,1,rfl,by have:=SqT.of (K:=K) (aD (H:=H3) (a:=t4) (o:= .tup [.int 0,.int 1]));exact this,by omega⟩;have r0:Same H (upd H3 t4 (.tup [.int 0,.int 1])):=r0.trans z4;have q0:=q0.same z4;have q1:=q1.same z4;have q2:=q2.same z4;have q3:=q3.same z4;generalize upd H3 t4 (.tup [.int 0,.int 1])=H4 at *;refine⟨_,_,rfl,rfl,⟨by decide,by decide,by decide⟩,(by show 2<=sizeLine;decide),fun t5 h5=> ?_⟩;have z5:=aG h5 (.tup [.int (10^(9:Int).toNat),.int 1]);have q5:qz K (upd H4 t5 (.tup [.int (10^(9:Int).toNat),.int 1])) (.ref t5):=⟨t5,_,1,rfl,by have:=SqT.of (K:=K) (aD (H:=H4) (a:=t5) (o:= .tup [.int (10^(9:Int).toNat),.int 1]));exact this,by omega⟩;have r0:Same H (upd H4 t5 (.tup [.int (10^(9:Int).toNat),.int 1])):=r0.trans z5;have q0:=q0.same z5;have q1:=q1.same z5;have q2:=q2.same z5;have q3:=q3.same z5;have q4:=q4.same z5;generalize upd H4 t5 (.tup [.int (10^(9:Int).toNat),.int 1])=H5 at *;refine⟨_,rfl,_,_,rfl,rfl,.inr ⟨by decide,by decide⟩,_,_,rfl,rfl,_,rfl,_,_,rfl,rfl,.inr ⟨by decide,by decide⟩,(by show 2<=sizeLine;decide),fun t6 h6=> ?_⟩;have z6:=aG h6 (.tup [.int (u*100+1),.int (((v:Nat):Int)*100)]);have q6:qz K (upd H5 t6 (.tup [.int (u*100+1),.int (((v:Nat):Int)*100)])) (.ref t6):=⟨t6,_,v*100,rfl,by have:=SqT.of (K:=K) (aD (H:=H5) (a:=t6) (o:= .tup [.int (u*100+1),.int (((v:Nat):Int)*100)]));rw[show(((v:Nat):Int)*100:Int)=((v*100:Nat):Int) by omega]at this;exact this,by omega⟩;have r0:Same H (upd H5 t6 (.tup [.int (u*100+1),.int (((v:Nat):Int)*100)])):=r0.trans z6;have q0:=q0.same z6;have q1:=q1.same z6;have q2:=q2.same z6;have q3:=q3.same z6;have q4:=q4.same z6;have q5:=q5.same z6;generalize upd H5 t6 (.tup [.int (u*100+1),.int (((v:Nat):Int)*100)])=H6 at *;refine⟨(by show 7<=sizeLine;decide),fun r hr'=> ?_⟩;have z8:=aG hr' (.lst [.ref ta,.ref t1,.ref t2,.ref t3,.ref t4,.ref t5,.ref t6]);refine q r _ _ (r0.trans z8) aD rfl fun x hx=> ?_;simp only[cJ,xT,xW]at hx;rcases hx with rfl|rfl|rfl|rfl|rfl|rfl|rfl
 ·exact q0.same z8
 ·exact q1.same z8
 ·exact q2.same z8
 ·exact q3.same z8
 ·exact q4.same z8
 ·exact q5.same z8
 ·exact q6.same z8
theorem uO{X:Cx}(K:W.Frag)(h:X.K=K:=by rfl):CallR X (.builtin "sorted") (fun vs H Q=>∃(b:Bool) (a:Addr) (xs:List Int),vs=[.ref a]/\Hw K b H a (xs.map V.int)/\xs.length<64/\
  ∀(l:Addr) (ys:List Int),H l=none->ys.Perm xs->ys.Pairwise (· <= ·)->Q (.ref l) (upd H l (.lst (ys.map V.int)))):=by subst h;exact xg
theorem Fq(ys:List Int)(lo hi:Option Int):∃us:List Int,cutV (ys.map V.int) lo hi=us.map V.int:=by
 unfold cutV;rw[<-List.map_drop,<-List.map_take];exact⟨_,rfl⟩
theorem tV{X:Cx}(K:W.Frag)(h:X.K=K:=by rfl):CallR X (.type "tuple") (fun xs H Q=>∃p ys,xs=[.ref p]/\((SqL K H p ys/\∀l,H l=none->Q (.ref l) (upd H l (.tup ys)))\/(SqT K H p ys/\Q (.ref p) H))):=by subst h;exact call_tuple_of
def oX(K:W.Frag)(H0 H:Hp)(x:V):Prop:=(∃(t:Addr) (zs:List Int),x= .ref t/\SqT K H t (zs.map V.int)/\zs.length<=20)\/(∃(l:Addr) (zs:List Int),x= .ref l/\H0 l=none/\H l=some (.lst (zs.map V.int))/\zs.length<=20)
theorem oX.same{H0 H H':Hp}{x:V}(h:oX K H0 H x)(s:Same H H'):oX K H0 H' x:=by
 rcases h with⟨t,zs,e,h,l⟩|⟨a,zs,e,n,h,l⟩
 ·exact .inl ⟨t,zs,e,s.tup h,l⟩
 ·exact .inr ⟨a,zs,e,n,s _ _ h,l⟩
theorem zQ{H0 H:Hp}{t:Addr}{ys:List Int}{lo hi:Option Int}(h:SqT K H t (cutV (ys.map V.int) lo hi))(hy:ys.length<=10):oX K H0 H (.ref t):=by
 obtain⟨us,eu⟩:=Fq ys lo hi;have hu:=Qi (ys.map V.int) lo hi;rw[eu,aJ,aJ]at hu;rw[eu]at h;exact .inl ⟨t,us,rfl,h,by omega⟩
def QT(K:W.Frag):Sp:=fun vs H Q _=>∃(a sa:Addr) (n:Int) (ts:L0) (ys:List Int),vs=[.ref a,.ref sa]/\cB K H a n ts/\SqT K H sa (ys.map V.int)/\ys.length<=10/\∀r xs H',Same H H'->H' r=some (.lst xs)->xs.length<=17->(∀x∈xs,oX K H H' x)->Q (.ref r) H'
theorem Tz{f:Addr}{fd:FuncData}(F:Fun K "_law_abent_sets" "_law_abent_sets" zdl f fd)(cM:mg "list"=none)(aH:mg "range"=none)(bM:mg "tuple"=none)(jV:mg "sorted"=none):
  FnOk P w K mg base CX0 1 f fd ["web","some"] (QT K):=by
 refine F.cT ["web","some","found"] fun cdv A outer s H vs Q E hr h=> ?_;obtain⟨a,sa,n,ts,ys,rfl,hA,hS,hy,q⟩:=h;refine bh ?_;intro Y;refine⟨_,(aP (pS 2 (qH (aj (yr vU (pv 1) uV (uq (pe_un yg aq))) (aj (yr vU (pv 1) (uq aq) uV) (aj (Sw (pv 1) (uq (pe_un yg aq))) (aj (aX oA (pv 1) (fY (aj (bx fM (pv 0) aq) ak))) (aj (aX oA (pv 1) (yr vU (pv 1) (uq (pe_un yg aq)) uV)) (aj (pT call_list_of cM (aj (pv 1) ak)) (aj (aX oA (fY (aj (pe_un yg aq) ak)) (pv 1)) ak))))))))) (aZ (bQ (aX rP (pv 2) (pK ["place"] ["some"] [1] (Aw rfl aH (aj (bx fM (pv 0) aq) ak)) (pG 0) lM (pT (tV K) bM (aj (pB (uO K) jV (aj (aX (yU K) (pv 1) (fY (aj (pv 0) ak))) ak)) ak))))))),?_⟩;refine dH ?_;intro c2;have h0:=hA.h0;have h10:=hA.h1;refine⟨_,rfl,_,rfl,_,rfl,sa,_,rfl,hS,fun t1 H1 z1 c1=> ?_⟩;have q1:oX K H H1 (.ref t1):=zQ c1 hy;refine⟨_,rfl,_,rfl,sa,_,rfl,z1.tup hS,fun t2 H2 z2 c2=> ?_⟩;have r0:=z1.trans z2;have q1:=q1.same z2;have q2:oX K H H2 (.ref t2):=zQ c2 hy;refine⟨_,rfl,_,rfl,_,rfl,rfl,sa,_,rfl,r0.tup hS,fun t3 h3=> ?_⟩;have z3:=aG h3 (.tup (ys.map V.int).reverse);have q3:oX K H (upd H2 t3 (.tup (ys.map V.int).reverse)) (.ref t3):= .inl ⟨t3,ys.reverse,rfl,by rw[List.map_reverse];exact SqT.of aD,by rw[Nh];omega⟩;have q1:=q1.same z3;have q2:=q2.same z3;have r0:=r0.trans z3;generalize upd H2 t3 (.tup (ys.map V.int).reverse)=H3 at *;obtain⟨RQ,R9,w1,_,_⟩:=id (hA.same r0).web;refine⟨_,rfl,_,rfl,a,_,_,.int n,rfl,rfl,w1,rfl,(by show 1<=sizeLine;decide),fun u4 k4=> ?_⟩;have y4:=aG k4 (.tup [.int n]);refine⟨sa,u4,_,_,rfl,rfl,(r0.trans y4).tup hS,SqT.of aD,by rw[aJ,eX];show _+1<=_;omega,fun t4 H4 g4 c4=> ?_⟩;have z4:=y4.trans g4;have q4:oX K H H4 (.ref t4):= .inl ⟨t4,ys++[n],rfl,by rw[cO];exact c4,by rw[gD];show _+1<=_;omega⟩;have q1:=q1.same z4;have q2:=q2.same z4;have q3:=q3.same z4;have r0:=r0.trans z4;refine⟨_,rfl,_,rfl,_,rfl,_,rfl,sa,_,rfl,r0.tup hS,fun u5 G5 y5 c5=> ?_⟩;obtain⟨us,eu⟩:=Fq ys (some (-1)) none;have hu:=Qi (ys.map V.int) (some (-1)) none;rw[eu,aJ,aJ]at hu;have c5:SqT K G5 u5 (us.map V.int):=by rw[<-eu];exact c5
 refine⟨sa,u5,_,_,rfl,rfl,(r0.trans y5).tup hS,c5,by rw[aJ,aJ,eX];omega,fun t5 H5 g5 c6=> ?_⟩;have z5:=y5.trans g5;have q5:oX K H H5 (.ref t5):= .inl ⟨t5,ys++us,rfl,by rw[cO];exact c6,by rw[gD];omega⟩;have q1:=q1.same z5;have q2:=q2.same z5;have q3:=q3.same z5;have q4:=q4.same z5;have r0:=r0.trans z5;refine⟨_,rfl,sa,_,rfl,.inr (r0.tup hS),fun t6 h6=> ?_⟩;have z6:=aG h6 (.lst (ys.map V.int));have q6:oX K H (upd H5 t6 (.lst (ys.map V.int))) (.ref t6):= .inr ⟨t6,ys,rfl,r0.none h6,aD,by omega⟩;have q1:=q1.same z6;have q2:=q2.same z6;have q3:=q3.same z6;have q4:=q4.same z6;have q5:=q5.same z6;have r0:=r0.trans z6;generalize upd H5 t6 (.lst (ys.map V.int))=H6 at *;refine⟨_,rfl,(by show 1<=sizeLine;decide),fun u7 k7=> ?_⟩;have y7:=aG k7 (.tup [.int (-1)]);refine⟨_,rfl,u7,sa,_,_,rfl,rfl,SqT.of aD,(r0.trans y7).tup hS,by rw[aJ,eX];show 1+_<=_;omega,fun t7 H7 g7 c7=> ?_⟩;have z7:=y7.trans g7;have q7:oX K H H7 (.ref t7):= .inl ⟨t7,[-1]++ys,rfl,by rw[cO];exact c7,by rw[gD];show 1+_<=_;omega⟩;have q1:=q1.same z7;have q2:=q2.same z7;have q3:=q3.same z7;have q4:=q4.same z7;have q5:=q5.same z7;have q6:=q6.same z7;have r0:=r0.trans z7;refine⟨(by show 7<=sizeLine;decide),fun fo hfo=> ?_⟩;have z8:=aG hfo (.lst [.ref t1,.ref t2,.ref t3,.ref t4,.ref t5,.ref t6,.ref t7]);have ef:(upd H7 fo (.lst [.ref t1,.ref t2,.ref t3,.ref t4,.ref t5,.ref t6,.ref t7])) fo=some (.lst [.ref t1,.ref t2,.ref t3,.ref t4,.ref t5,.ref t6,.ref t7]):=aD;have qa:∀x∈[V.ref t1,.ref t2,.ref t3,.ref t4,.ref t5,.ref t6,.ref t7],oX K H (upd H7 fo (.lst [.ref t1,.ref t2,.ref t3,.ref t4,.ref t5,.ref t6,.ref t7])) x:=fun x hx=>by
  simp only[cJ,xT,xW]at hx;rcases hx with rfl|rfl|rfl|rfl|rfl|rfl|rfl
  ·exact q1.same z8
  ·exact q2.same z8
  ·exact q3.same z8
  ·exact q4.same z8
  ·exact q5.same z8
  ·exact q6.same z8
  ·exact q7.same z8
 have r0:=r0.trans z8;generalize upd H7 fo (.lst [.ref t1,.ref t2,.ref t3,.ref t4,.ref t5,.ref t6,.ref t7])=H8 at *;have el:([V.ref t1,.ref t2,.ref t3,.ref t4,.ref t5,.ref t6,.ref t7]:List V).length=7:=rfl;generalize ([V.ref t1,.ref t2,.ref t3,.ref t4,.ref t5,.ref t6,.ref t7]:List V)=fl at *;obtain⟨tt8,rr8,x1,_,_⟩:=id (hA.same r0).web;dsimp only[gName,List.set];refine⟨_,rfl,_,rfl,a,_,_,.int n,rfl,rfl,x1,rfl,n,rfl,by omega,by omega,?_⟩;let iB:Nat->List V->St->Hp->Prop:=fun i acc σ H'=>Same H8 H'/\(∀x∈acc,oX K H H' x)/\acc.length=i/\∃o,σ=[o,some (.ref sa)];refine Qh (n:=n.toNat) iB ⟨Same.refl _,fun x hx=>(nomatch hx),rfl,_,rfl⟩ (fun i acc σ H' _ p=>by rw[p.2.2.1];exact aN _) (by rw[eX];omega) (fun i acc σ H' hi p=> ?_) (fun acc σ H' p=> ?_)
 ·obtain⟨sm,ha,hal,o,rfl⟩:=p;have st:=r0.trans sm;refine⟨_,rfl,_,rfl,(by show 1<=sizeLine;decide),fun u1 k1=> ?_⟩;have y1:=aG k1 (.tup [.int (0+(i:Int))]);refine⟨sa,u1,_,_,rfl,rfl,(st.trans y1).tup hS,SqT.of aD,by rw[aJ,eX];show _+1<=_;omega,fun u2 G2 y2 c2=> ?_⟩;refine⟨true,u2,ys++[0+(i:Int)],rfl,by rw[cO];exact c2,by rw[gD];show _+1<64;omega,fun u3 zs k3 hp _=> ?_⟩;have y3:=aG k3 (.lst (zs.map V.int));refine⟨u3,_,rfl,.inl ⟨SqL.of aD,fun u4 k4=> ?_⟩⟩;have y4:=aG k4 (.tup (zs.map V.int));have yy:=y1.trans (y2.trans (y3.trans y4));refine⟨sm.trans yy,fun y hy'=> ?_,by rw[gD,hal];rfl,_,rfl⟩;rcases jh.mp hy' with hm|hm
  ·exact(ha y hm).same yy
  ·rw[ji.mp hm];exact .inl ⟨u4,zs,rfl,SqT.of aD,by rw[hp.length_eq,gD];show _+1<=_;omega⟩
 intro lc hlc;obtain⟨sm,ha,hal,_⟩:=p;have y1:=aG hlc (.lst acc);have e1:(upd H' lc (.lst acc)) lc=some (.lst acc):=aD;have e2:=(sm.trans y1) _ _ ef;refine⟨fo,lc,fl,acc,rfl,rfl,e2,e1,by rw[eX];omega,fun r hr'=> ?_⟩;have y2:=aG hr' (.lst (fl++acc));have yy:=sm.trans (y1.trans y2);refine q r _ _ (r0.trans yy) aD (by rw[gD];omega) fun x hx=> ?_;rcases jh.mp hx with hm|hm
 ·exact(qa x hm).same yy
 ·exact(ha x hm).same (y1.trans y2)
def del(H:Hp)(f o:Addr):Hp:=fun b=>if b=f\/b=o then none else H b
theorem cQ{H:Hp}{f o b:Addr}{u:HO}(h:H b=some u)(n:b≠f)(n':b≠o):del H f o b=some u:=by
 unfold del;rw[aA (fun z=>z.elim n n')];exact h
theorem tQ{H:Hp}{f o b:Addr}{u:HO}(h:del H f o b=some u):H b=some u/\b≠f/\b≠o:=by
 unfold del at h;by_cases c:b=f\/b=o
 ·rw[aB c]at h;cases h
 ·rw[aA c]at h;exact⟨h,fun z=>c (.inl z),fun z=>c (.inr z)⟩
theorem Ih{H H':Hp}{f o:Addr}(s:Same H H'):Same (del H f o) (del H' f o):=fun b u h=>by
 obtain⟨h,n,n'⟩:=tQ h;exact cQ (s _ _ h) n n'
theorem wX{H:Hp}{f o:Addr}:Same (del H f o) H:=fun b u h=>(tQ h).1
theorem oR{H0 H:Hp}{f o:Addr}(s:Same H0 H)(n:H0 f=none)(n':H0 o=none):Same H0 (del H f o):=fun b u h=>
 cQ (s _ _ h) (fun z=>by rw[z,n]at h;cases h) (fun z=>by rw[z,n']at h;cases h)
theorem rO{H H':Hp}{f o:Addr}(e:∀b,b≠f->b≠o->H' b=H b):Same (del H f o) (del H' f o):=fun b u h=>by
 obtain⟨h,n,n'⟩:=tQ h;exact cQ (by rw[e b n n'];exact h) n n'
theorem Fp{H:Hp}{f o:Addr}:Same (del H f o) (del H f f):=fun b u h=>by
 obtain⟨h,n,n'⟩:=tQ h;exact cQ h n n
theorem uo{H:Hp}{f o t:Addr}{xs zs ys:List V}(h:SqT K H t xs)(e:H f=some (.lst zs))(e':H o=some (.lst ys)):SqT K (del H f o) t xs:=by
 have ne:∀{b:Addr} {us:List V} {u:HO},H b=some (.lst us)->H t=some u->(∀us,u≠.lst us)->t≠b:=fun h1 h2 h3 z=>by
  rw[z,h1]at h2;exact h3 _ (rE h2).symm
 rcases h with(h|⟨q,h⟩)|h
 ·exact .inl (.inl (cQ h (ne e h fun _ z=>by cases z) (ne e' h fun _ z=>by cases z)))
 ·exact .inl (.inr ⟨q,cQ h (ne e h fun _ z=>by cases z) (ne e' h fun _ z=>by cases z)⟩)
 ·exact .inr h
def IG(K:W.Frag)(H:Hp)(G:PyData->Prop)(x:V):Prop:=∃d,DV K H x d/\d.canLay0=true/\d.depth<=5/\CG d/\G d
def Tr(_:PyData):Prop:=True
theorem IG.same{H H':Hp}{G:PyData->Prop}{x:V}(h:IG K H G x)(s:Same H H'):IG K H' G x:=by
 obtain⟨d,h1,h2⟩:=h;exact⟨d,h1.same s,h2⟩
theorem Ck{H:Hp}:IG K H Tr .non:=⟨.none,.non,rfl,cG _,cG _,trivial⟩
structure Sm(K:W.Frag)(H:Hp)(x:V)(d:PyData):Prop where
 dv:DV K H x d
 lay:d.canLay0=true
 dep:d.depth<=3
 few:(kids d).length<=20
theorem Sm.same{H H':Hp}{x:V}{d:PyData}(h:Sm K H x d)(s:Same H H'):Sm K H' x d:=⟨h.dv.same s,h.lay,h.dep,h.few⟩
theorem tG:∀ns:List Int,PyData.depthAll (ns.map PyData.int)<=1
 |[]=>cG _
 |x::l=>by
  have:=tG l;show max _ (PyData.depthAll (l.map PyData.int))<=1;exact Nat.max_le.mpr ⟨by show 0<=1;decide,this⟩
theorem HD{H:Hp}{t:Addr}{zs:List Int}(h:SqT K H t (zs.map V.int))(hz:zs.length<=20):Sm K H (.ref t) (.tuple (zs.map PyData.int)):=
 ⟨.tup h (cI.ints _),yq _,by have:=tG zs;show PyData.depthAll (zs.map PyData.int)+1<=3;omega,by show(zs.map PyData.int).length<=20;rw[aJ];exact hz⟩
theorem sG{H:Hp}{t:Addr}{zs:List Int}(h:SqL K H t (zs.map V.int)):Sm K H (.ref t) (.list (zs.map PyData.int)):=
 ⟨.lst h (cI.ints _),yq _,by have:=tG zs;show PyData.depthAll (zs.map PyData.int)+1<=3;omega,cG _⟩
theorem QV{H:Hp}{t:Addr}{b:Bool}{i:Int}(h:SqT K H t [.bl b,.int i]):Sm K H (.ref t) (.tuple [.bool b,.int i]):=
 ⟨.tup h (.cons (.bl _) (.cons (.int _) .nil)),rfl,by show 1<=3;decide,by show 2<=20;decide⟩
theorem Sm.ig{H:Hp}{x:V}{d:PyData}(h:Sm K H x d)(hf:CG d):IG K H Tr x:=⟨d,h.dv,h.lay,cC h.dep (by decide),hf,trivial⟩
theorem iG{x y:PyData}(hx:x.canLay0=true)(hy:y.canLay0=true)(dx:x.depth<=3)(dy:y.depth<=3):PyData.canLayAll0 [x,y]=true/\PyData.depthAll [x,y]+1<=5:=by
 refine⟨?_,?_⟩
 ·show(x.canLay0&&(y.canLay0&&true))=true;rw[hx,hy];rfl
 ·show max x.depth (max y.depth 0)+1<=5;omega
theorem iY{H:Hp}{t:Addr}{x y:V}{d e:PyData}(h:SqT K H t [x,y])(hx:Sm K H x d)(hy:Sm K H y e):IG K H Tr (.ref t):=
 ⟨.tuple [d,e],.tup h (.cons hx.dv (.cons hy.dv .nil)),(iG hx.lay hy.lay hx.dep hy.dep).1,(iG hx.lay hy.lay hx.dep hy.dep).2,hx.few,trivial⟩
theorem Pg{H:Hp}{t:Addr}{x y:V}{d e:PyData}(h:SqL K H t [x,y])(hx:Sm K H x d)(hy:Sm K H y e):IG K H Tr (.ref t):=
 ⟨.list [d,e],.lst h (.cons hx.dv (.cons hy.dv .nil)),(iG hx.lay hy.lay hx.dep hy.dep).1,(iG hx.lay hy.lay hx.dep hy.dep).2,cG _,trivial⟩
theorem T3{H:Hp}{t:Addr}{x:V}{d:PyData}(h:SqT K H t [x])(hx:Sm K H x d):IG K H Tr (.ref t):=
 ⟨.tuple [d],.tup h (.cons hx.dv .nil),by show(d.canLay0&&true)=true;rw[hx.lay];rfl,by have:=hx.dep;show max d.depth 0+1<=5;omega,hx.few,trivial⟩
def uf(K:W.Frag)(H:Hp)(G:PyData->Prop)(xs:List V):Prop:=∃x',IG K H Tr x'/\∀x∈xs,x=x'\/IG K H G x
theorem uf.same{H H':Hp}{G:PyData->Prop}{xs:List V}(h:uf K H G xs)(s:Same H H'):uf K H' G xs:=by
 obtain⟨x',h1,h2⟩:=h;exact⟨x',h1.same s,fun x hx=>(h2 x hx).imp id fun z=>z.same s⟩
theorem Ii{H:Hp}{G:PyData->Prop}{xs:List V}(h:∀x∈xs,IG K H G x):uf K H G xs:=⟨.non,Ck,fun x hx=> .inr (h x hx)⟩
theorem wB{H:Hp}{G:PyData->Prop}{x':V}{d':PyData}(h':DV K H x' d')(l':d'.canLay0=true)(p':d'.depth<=5)(f':CG d'):∀{xs:List V},(∀x∈xs,x=x'\/IG K H G x)->∃ds,cI K H xs ds/\PyData.canLayAll0 ds=true/\PyData.depthAll ds<=5/\(∀d∈ds,CG d/\(d=d'\/G d))
 |[],_=>⟨[],.nil,rfl,cG _,fun d hd=>(nomatch hd)⟩
 |x::xs,h=>by
  obtain⟨ds,h1,h2,h3,h4⟩:=wB (G:=G) h' l' p' f' (xs:=xs) fun y hy=>h y (jr _ hy);obtain⟨d,e1,e2,e3,e4,e5⟩:∃d,DV K H x d/\d.canLay0=true/\d.depth<=5/\CG d/\(d=d'\/G d):=by
   rcases h x nG with rfl|⟨d,a,b,c,f,g⟩
   ·exact⟨d',h',l',p',f',.inl rfl⟩
   ·exact⟨d,a,b,c,f,.inr g⟩
  refine⟨d::ds,.cons e1 h1,?_,?_,fun q hq=> ?_⟩
  ·show(d.canLay0&&PyData.canLayAll0 ds)=true;rw[e2,h2];rfl
  ·show max d.depth (PyData.depthAll ds)<=5;omega
  ·rcases cJ.mp hq with rfl|hq
   ·exact⟨e4,e5⟩
   ·exact h4 q hq
def GL(ov:Nat)(d:PyData):Prop:=∃q,d=JD q/\q.2.2∣ov
def GP(ov:Nat)(d:PyData):Prop:=∃f:Int×Nat,d=PL f/\f.2∣ov
theorem mul_18{ov v:Nat}(h:ov<=39916800)(h':v<=1000000000):ov*v<=1000000000000000000:=cC (Nat.mul_le_mul h h') (by decide)
theorem Km{H:Hp}{ov:Nat}{xs:List V}(h:uf K H (GL ov) xs)(h0:0<ov)(h1:ov<=39916800)(n:Int)(ts:L0):∃ds,cI K H xs ds/\PyData.canLayAll0 ds=true/\PyData.depthAll ds<=5/\(∀d∈ds,CG d)/\∃D,(layB n ts ds=true->rm D ((ds.map qP).map (·.2))):=by
 obtain⟨x',⟨d',a1,a2,a3,a4,_⟩,hx⟩:=h;obtain⟨ds,b1,b2,b3,b4⟩:=wB a1 a2 a3 a4 hx;refine⟨ds,b1,b2,b3,fun d hd=>(b4 d hd).1,?_⟩;have key:∀D:Nat,0<D->D<=1000000000000000000->ov∣D->(d'∈ds->(qP d').2.2∣D)->layB n ts ds=true->rm D ((ds.map qP).map (·.2)):=fun D p l hv hd' hl=>by
  have ha:=nF.mp (Bool.and_eq_true_iff.mp hl).1;refine⟨p,l,fun f hf=> ?_⟩;obtain⟨q,hq,rfl⟩:=lX.mp hf;obtain⟨d,hd,rfl⟩:=lX.mp hq;obtain⟨q,e,g⟩:=vV (ha d hd);rcases(b4 d hd).2 with z|⟨q',e',dv⟩
  ·refine⟨?_,?_,by rw[z];exact hd' (by rw[<-z];exact hd)⟩
   ·rw[e,fZ];exact Dw g.pos
   ·rw[e,fZ];exact g.bot
  ·have:q=q':=by have:=lE qP (e.symm.trans e');rwa [fZ,fZ]at this
   rw[e,fZ];exact⟨Dw g.pos,g.bot,by rw[this];exact Nat.dvd_trans dv hv⟩
 by_cases c:uw n ts d'=true
 ·obtain⟨q,e,g⟩:=vV c;exact⟨ov*q.2.2,key _ (Zd h0 g.bot) (mul_18 h1 g.big) (Nat.dvd_mul_right _ _) fun _=>by rw[e,fZ];exact Vc _ _⟩
 ·refine⟨ov,fun hl=>key ov h0 (cC h1 (by decide)) (Nat.dvd_refl _) (fun hm=> ?_) hl⟩;exact absurd (nF.mp (Bool.and_eq_true_iff.mp hl).1 d' hm) c
theorem Kl{H:Hp}{ov:Nat}{xs:List V}(h:uf K H (GP ov) xs)(h0:0<ov)(h1:ov<=39916800)(n:Int):∃ds,cI K H xs ds/\PyData.canLayAll0 ds=true/\PyData.depthAll ds<=5/\∃D,(Ao n ds=true->rm D (ds.map gb)):=by
 obtain⟨x',⟨d',a1,a2,a3,a4,_⟩,hx⟩:=h;obtain⟨ds,b1,b2,b3,b4⟩:=wB a1 a2 a3 a4 hx;refine⟨ds,b1,b2,b3,?_⟩;have key:∀D:Nat,0<D->D<=1000000000000000000->ov∣D->(d'∈ds->(gb d').2∣D)->Ao n ds=true->rm D (ds.map gb):=fun D p l hv hd' hl=>by
  have ha:=nF.mp (Bool.and_eq_true_iff.mp hl).2;refine⟨p,l,fun f hf=> ?_⟩;obtain⟨d,hd,rfl⟩:=lX.mp hf;obtain⟨u,v,e,g0,g1,g2⟩:=qp (ha d hd);have eu:gb d=(u,v):=by rw[e];exact kJ (u,v)
  rw[eu];refine⟨g0,g1,?_⟩;rcases(b4 d hd).2 with z|⟨f',e',dv⟩
  ·have:=hd' (by rw[<-z];exact hd)
   rwa [<-z,eu]at this
  ·have e2:gb d=f':=by rw[e'];exact kJ f'
   have:f'=(u,v):=e2.symm.trans eu;rw[this]at dv;exact Nat.dvd_trans dv hv
 by_cases c:frB d'=true
 ·obtain⟨u,v,e,g0,g1,g2⟩:=qp c;have eu:gb d'=(u,v):=by rw[e];exact kJ (u,v)
  exact⟨ov*v,key _ (Zd h0 g1) (mul_18 h1 g2) (Nat.dvd_mul_right _ _) fun _=>by rw[eu];exact Vc _ _⟩
 ·refine⟨ov,fun hl=>key ov h0 (cC h1 (by decide)) (Nat.dvd_refl _) (fun hm=> ?_) hl⟩;exact absurd (nF.mp (Bool.and_eq_true_iff.mp hl).2 d' hm) c
def Vn(K:W.Frag)(H:Hp)(G:PyData->Prop)(y:V):Prop:=∃(l:Addr) (xs:List V),y= .ref l/\H l=some (.lst xs)/\uf K H G xs/\xs.length<=100
theorem Vn.same{H H':Hp}{G:PyData->Prop}{y:V}(h:Vn K H G y)(s:Same H H'):Vn K H' G y:=by
 obtain⟨l,xs,e,h1,h2,h3⟩:=h;exact⟨l,xs,e,s _ _ h1,h2.same s,h3⟩
structure FN(K:W.Frag)(H0 H:Hp)(G:PyData->Prop)(f:Addr)(ys:List V)(N:Nat):Prop where
 sm:Same H0 H
 nf:H0 f=none
 at_:H f=some (.lst ys)
 all:∀y∈ys,Vn K (del H f f) G y
 len:ys.length<=N
theorem FN.same{H0 H H':Hp}{G:PyData->Prop}{f:Addr}{ys:List V}{N:Nat}(h:FN K H0 H G f ys N)(s:Same H H'):FN K H0 H' G f ys N:=
 ⟨h.sm.trans s,h.nf,s _ _ h.at_,fun y hy=>(h.all y hy).same (Ih s),h.len⟩
theorem FN.push{H0 H:Hp}{G:PyData->Prop}{f:Addr}{ys:List V}{N:Nat}{y:V}(h:FN K H0 H G f ys N)(v:Vn K (del H f f) G y):FN K H0 (upd H f (.lst (ys++[y]))) G f (ys++[y]) (N+1):=by
 have sd:Same (del H f f) (del (upd H f (.lst (ys++[y]))) f f):=rO fun b n _=>cD n;refine⟨fun b o e=> ?_,h.nf,aD,fun x hx=> ?_,by rw[gD];have:=h.len;show _+1<=_;omega⟩
 ·rw[cD (fun z=>by rw[z,h.nf]at e;cases e)];exact h.sm _ _ e
 ·rcases jh.mp hx with hm|hm
  ·exact(h.all x hm).same sd
  ·rw[ji.mp hm];exact v.same sd
theorem FN.cat{H0 H:Hp}{G:PyData->Prop}{f f':Addr}{ys zs:List V}{N:Nat}(h:FN K H0 H G f ys N)(n:H f'=none)(v:∀y∈zs,Vn K H G y):FN K H0 (upd H f' (.lst (ys++zs))) G f' (ys++zs) (N+zs.length):=by
 have s:=aG n (.lst (ys++zs));have sd:Same H (del (upd H f' (.lst (ys++zs))) f' f'):=oR s n n;refine⟨h.sm.trans s,h.sm.none n,aD,fun y hy=> ?_,by rw[gD];have:=h.len;omega⟩;rcases jh.mp hy with hm|hm
 ·exact(h.all y hm).same (wX.trans sd)
 ·exact(v y hm).same sd
theorem FN.oU{H0 H:Hp}{G:PyData->Prop}{f:Addr}{ys:List V}{N:Nat}(h:FN K H0 H G f ys N):Same H0 (del H f f):=oR h.sm h.nf h.nf
end
def Mz:Expr->Bool
 | .Starred _ _=>false
 |_=>true
theorem Nu{e:Expr}(es:List Expr)(env:Env)(hn:Mz e=true):starEach (e::es) env=(false,eval e env)::starEach es env:=by
 cases e<;>first |rfl|cases hn
theorem jP{X:Cx}{e:Expr}{es:List Expr}{te:TE}{t:TA}(ha:PE X e te)(hr:PA X es t)(hn:Mz e=true:=by rfl):PA X (e::es) (tCons te t):=aj ha hr (Nu _ _ hn)
theorem xY{X:Cx}{e1 e2:Expr}{t1 t2:TE}{x1 pos}(h1:PE X e1 t1)(h2:PE X e2 t2)(n1:Mz e1=true:=by rfl)(n2:Mz e2=true:=by rfl):PE X (.Tuple [e1,e2] x1 pos) (tTup (tCons t1 (tCons t2 tNil))):=fY (jP h1 (jP h2 ak n2) n1)
theorem Xd{X:Cx}{e1 e2:Expr}{t1 t2:TE}{pos}(h1:PE X e1 t1)(h2:PE X e2 t2)(n1:Mz e1=true:=by rfl)(n2:Mz e2=true:=by rfl):PE X (.List [e1,e2] pos) (tLst (tCons t1 (tCons t2 tNil))):=qH (jP h1 (jP h2 ak n2) n1)
theorem lw6{X:Cx}{e1 e2 e3 e4 e5 e6:Expr}{t1 t2 t3 t4 t5 t6:TE}{pos}(h1:PE X e1 t1)(h2:PE X e2 t2)(h3:PE X e3 t3)(h4:PE X e4 t4)(h5:PE X e5 t5)(h6:PE X e6 t6)(n:([e1,e2,e3,e4,e5,e6].all Mz)=true:=by rfl):PE X (.List [e1,e2,e3,e4,e5,e6] pos) (tLst (tCons t1 (tCons t2 (tCons t3 (tCons t4 (tCons t5 (tCons t6 tNil))))))):=by
 simp only[Rw,pR]at n;obtain⟨a,b,c,d,e,f,_⟩:=n;exact qH (jP h1 (jP h2 (jP h3 (jP h4 (jP h5 (jP h6 ak f) e) d) c) b) a)
theorem lw5{X:Cx}{e1 e2 e3 e4 e5:Expr}{t1 t2 t3 t4 t5:TE}{pos}(h1:PE X e1 t1)(h2:PE X e2 t2)(h3:PE X e3 t3)(h4:PE X e4 t4)(h5:PE X e5 t5)(n:([e1,e2,e3,e4,e5].all Mz)=true:=by rfl):PE X (.List [e1,e2,e3,e4,e5] pos) (tLst (tCons t1 (tCons t2 (tCons t3 (tCons t4 (tCons t5 tNil)))))):=by
 simp only[Rw,pR]at n;obtain⟨a,b,c,d,e,_⟩:=n;exact qH (jP h1 (jP h2 (jP h3 (jP h4 (jP h5 ak e) d) c) b) a)
theorem lw1{X:Cx}{e1:Expr}{t1:TE}{pos}(h1:PE X e1 t1)(n1:Mz e1=true:=by rfl):PE X (.List [e1] pos) (tLst (tCons t1 tNil)):=qH (jP h1 ak n1)
theorem tw1{X:Cx}{e1:Expr}{t1:TE}{x1 pos}(h1:PE X e1 t1)(n1:Mz e1=true:=by rfl):PE X (.Tuple [e1] x1 pos) (tTup (tCons t1 tNil)):=fY (jP h1 ak n1)
section
variable{P:Program}{w:World}{K:W.Frag}{mg:L4}{base:Heap}
theorem gQ{xs:List V}{lo hi:Option Int}{x:V}(h:x∈cutV xs lo hi):x∈xs:=by
 unfold cutV at h;exact List.mem_of_mem_drop (List.mem_of_mem_take h)
theorem aam{rs:List V}{a b c d:Option Int}{x y:V}(h:y∈cutV rs a b++[x]++cutV rs c d):y=x\/y∈rs:=by
 rcases jh.mp h with h|h
 ·rcases jh.mp h with h|h
  ·exact .inr (gQ h)
  ·exact .inl (ji.mp h)
 ·exact .inr (gQ h)
theorem R0{H:Hp}{l:Addr}{rs:List V}{lo hi:Option Int}{Q:VK}(hl:SqL K H l rs)(q:∀p H',Same H H'->H' p=some (.lst (cutV rs lo hi))->Q (.ref p) H'):rSlL K (.ref l) lo hi H Q:=⟨l,rs,rfl,hl,fun p hp=>q p _ (aG hp _) aD⟩
theorem Vr{σ:St}{H:Hp}{l:Addr}{rs:List V}{lo:Option Int}{Q:VK}(hl:SqL K H l rs)(q:∀p H',Same H H'->H' p=some (.lst (cutV rs lo none))->Q (.ref p) H'):tNoPart σ H fun u G=>rSlL K (.ref l) lo u G Q:=R0 hl q
theorem qT{H:Hp}{l b:Addr}{xs zs:List V}{Q:VK}(h1:H l=some (.lst xs))(h2:H b=some (.lst zs))(hx:xs.length<=100)(hz:zs.length<=100)(q:∀p H',Same H H'->H' p=some (.lst (xs++zs))->H p=none->Q (.ref p) H'):rCat (.ref l) (.ref b) H Q:=
 ⟨l,b,xs,zs,rfl,rfl,h1,h2,by rw[eX];omega,fun p hp=>q p _ (aG hp _) aD hp⟩
theorem Yq{xs:List V}{n:Nat}(h:xs.length<=n)(b c:Option Int):(cutV xs b c).length<=n:=cC (Qi xs b c) h
theorem Lf{H0 H:Hp}{G:PyData->Prop}{f:Addr}{ys:List V}(s0:Same H0 H)(n:H f=none)(v:∀y∈ys,Vn K H G y):FN K H0 (upd H f (.lst ys)) G f ys ys.length:=
 ⟨s0.trans (aG n _),s0.none n,aD,fun y hy=>(v y hy).same (oR (aG n _) n n),aN _⟩
theorem fK{H:Hp}{G:PyData->Prop}{l:Addr}{xs:List V}(e:H l=some (.lst xs))(h:uf K H G xs)(hz:xs.length<=100):Vn K H G (.ref l):=⟨l,xs,rfl,e,h,hz⟩
theorem zc{H:Hp}{G:PyData->Prop}{rs:List V}{x:V}{a b c d:Option Int}(h:∀y∈rs,IG K H G y)(hx:IG K H Tr x):uf K H G (cutV rs a b++[x]++cutV rs c d):=⟨x,hx,fun y hy=>(aam hy).imp id (h y)⟩
theorem vo{H:Hp}{G:PyData->Prop}{rs:List V}{x:V}(h:∀y∈rs,IG K H G y)(hx:IG K H Tr x):uf K H G (rs++[x]):=⟨x,hx,fun y hy=>by
 rcases jh.mp hy with hm|hm
 ·exact .inr (h y hm)
 ·exact .inl (ji.mp hm)⟩
theorem XJ{H:Hp}{ov:Nat}{rs:List V}{fs:List (Int×Nat)}(h:bW K H rs fs)(hf:∀f∈fs,f.2∣ov):∀x∈rs,IG K H (GP ov) x:=fun x hx=>by
 obtain⟨i,hi,rfl⟩:=Im hx;obtain⟨f,hg,a,e,ha⟩:=Paired.at_ h (dD hi);rw[e];exact⟨PL f,.tup ha (.cons (.int _) (.cons (.int _) .nil)),rfl,by show 1<=5;decide,cG _,f,rfl,hf f (gZ hg)⟩
theorem K3{H:Hp}{ov:Nat}{t:Addr}{i:Int}(h:SqT K H t [.int i,.int 1]):IG K H (GP ov) (.ref t):=⟨PL (i,1),.tup h (.cons (.int _) (.cons (.int _) .nil)),rfl,by show 1<=5;decide,cG _,(i,1),rfl,Zc _⟩
theorem oG{H:Hp}{t:Addr}{i j:Int}(h:SqT K H t [.int i,.int j]):IG K H Tr (.ref t):=⟨.tuple [.int i,.int j],.tup h (.cons (.int _) (.cons (.int _) .nil)),rfl,by show 1<=5;decide,cG _,trivial⟩
def QM(K:W.Frag):Sp:=fun vs H Q _=>∃(pa:Addr) (rs:List V) (fs:List (Int×Nat)) (ov:Nat),vs=[.ref pa]/\H pa=some (.lst rs)/\bW K H rs fs/\rs.length<=10/\(∀f∈fs,0<=f.1/\f.1<=1000000000000000/\f.2<=1000000000000000/\f.2∣ov)/\∀r ys H',Same H H'->H' r=some (.lst ys)->(∀y∈ys,Vn K H' (GP ov) y)->ys.length<=1000->Q (.ref r) H'
theorem Tn{f f1:Addr}{fd d1:FuncData}(F:Fun K "_law_aall_prices" "_law_aall_prices" zcz f fd)(D1:bO K mg "_law_abent_shares" YL ["share"] f1 d1)(G1:FnOk P w K mg base CX0 1 f1 d1 ["share"] (Jx K))(aH:mg "range"=none)(bf:mg "len"=none):
  FnOk P w K mg base CX0 2 f fd ["prices"] (QM K):=by
 refine F.cT ["prices","found","at","others","other"] fun cdv A outer s H vs Q E hr h=> ?_;obtain⟨pa,rs,fs,ov,rfl,hl,hF,h10,hf4,q⟩:=h;refine bh ?_;intro Y;refine⟨_,(aP (pS 1 (qH (aj (pv 0) (aj (yr Dt (pv 0) (uq aq) uV) (aj (aX rP (pv 0) (qH (aj (fY (aj aq (aj aq ak))) ak))) (aj (v7 (pv 0) (uq (pe_un yg aq))) (aj (pK ["price"] [] [] (pI (pv 0)) (pG 0) lM (fY (aj aq (aj aq ak)))) ak))))))) (aP (yj (pe_bm Iz Qz Qy Qg (pv 1) (aj (pK ["price"] [] [] (pI (pv 0)) (pG 0) lM (fY (aj aq (aj aq ak)))) ak))) (aP (ux rD rfl (Aw rfl aH (aj (pB rA bf (aj (pv 0) ak)) ak)) (pG 2) (aP (pS 3 (aX rP (pc G1 hr D1 (aj (bx lK (pv 0) (pv 2)) ak)) (lw6 (xY aq aq) (xY (pe_un yg aq) aq) (Xd aq aq) pe_non (xY lB aq) (xY aq (aX pJ (aX op_pow aq aq) aq))))) (aZ (ux rD rfl (pI (pv 3)) (pG 4) (aZ (yj (pe_bm Iz Qz Qy Qg (pv 1) (aj (aX rP (aX rP (yr Dt (pv 0) uV (uq (pv 2))) (qH (aj (pv 4) ak))) (yr Dt (pv 0) (uq (aX pJ (pv 2) aq)) uV)) ak)))))))) (aZ (bQ (pv 1)))))),?_⟩;refine Q9 ?_;intro c4 c3 c2;have sq:∀{H':Hp},Same H H'->SqL K H' pa rs:=fun s=>SqL.of (s _ _ hl);have g0:=XJ hF fun f hf=>(hf4 f hf).2.2.2;have cl:∀b c:Option Int,(cutV rs b c).length<=10:=Yq h10;have ch:∀b c:Option Int,(cutV rs b c).length<=100:=fun b c=>cC (cl b c) (by decide);have hFl:=Paired.bV hF;refine Fz (fun σ' H'=>∃f ys,FN K H H' (GP ov) f ys 5/\σ'=[some (.ref pa),some (.ref f),none,none,none]) (fun N hN=> ?_) ?_
 ·refine⟨_,rfl,_,rfl,_,rfl,Vr (sq (Same.refl _)) fun e1 G1 z1 f1=> ?_⟩;refine⟨_,rfl,(by show 2<=sizeLine;decide),fun e2 h2=>⟨(by show 1<=sizeLine;decide),fun e3 h3=> ?_⟩⟩;have z2:=aG h2 (.tup [.int 0,.int 1]);have z3:=aG h3 (.lst [.ref e2]);have q2:=z3.tup (SqT.of (K:=K) (aD (H:=G1) (a:=e2) (o:= .tup [.int 0,.int 1])));have YS:=z1.trans (z2.trans z3);have f1:=(z2.trans z3) _ _ f1;refine qT (YS _ _ hl) aD (by omega) (by show 1<=100;decide) fun e4 G4 z4 f4 h4=> ?_;have YQ:=YS.trans z4;have f1:=z4 _ _ f1;have q2:=z4.tup q2;refine⟨_,rfl,_,rfl,_,rfl,rfl,pa,rs,rfl,sq YQ,fun e5 h5=> ?_⟩;have z5:=aG h5 (.lst rs.reverse);have V3:=YQ.trans z5;have f1:=z5 _ _ f1;have q2:=z5.tup q2;have f4:=z5 _ _ f4;have f5:(upd G4 e5 (.lst rs.reverse)) e5=some (.lst rs.reverse):=aD;generalize (upd G4 e5 (.lst rs.reverse))=H5 at *;refine⟨_,rfl,pa,rs,rfl,sq V3,fun hz=> ?_⟩;let iB:Nat->List V->St->Hp->Prop:=fun i acc σ H'=>Same H5 H'/\(∀x∈acc,IG K H' (GP ov) x)/\acc.length=i/\∃o,σ=[o];refine vK (xs:=rs) iB ⟨Same.refl _,fun x hx=>(nomatch hx),rfl,_,rfl⟩ (fun i acc σ H' _ p=>sq (V3.trans p.1)) (fun i acc σ H' _ p=>by rw[p.2.2.1];exact aN _) hz (fun i x acc σ H' hx p=> ?_) (fun acc σ H' p=> ?_)
  ·obtain⟨sm,ha,hal,o,rfl⟩:=p;refine⟨(by show 2<=sizeLine;decide),fun e6 h6=> ?_⟩;have z6:=aG h6 (.tup [.int 0,.int 1]);refine⟨sm.trans z6,fun y hy=> ?_,by rw[gD,hal];rfl,_,rfl⟩;rcases jh.mp hy with hm|hm
   ·exact(ha y hm).same z6
   ·rw[ji.mp hm];exact K3 (SqT.of aD)
  intro e6 h6;obtain⟨sm,ha,hal,_⟩:=p;have z7:=aG h6 (.lst acc);have z6:=sm.trans z7;have f6:(upd H' e6 (.lst acc)) e6=some (.lst acc):=aD;have g6:∀x∈acc,IG K (upd H' e6 (.lst acc)) (GP ov) x:=fun x hx=>(ha x hx).same z7;generalize (upd H' e6 (.lst acc))=H6 at *;have z16:=V3.trans z6;refine⟨(by show 5<=sizeLine;decide),fun f hf=>hN _ _ ⟨f,_,Lf z16 hf fun y hy=> ?_,rfl⟩⟩;have he:∀x∈rs,IG K H6 (GP ov) x:=fun x hx=>(g0 x hx).same z16;simp only[cJ,xT,xW]at hy;rcases hy with rfl|rfl|rfl|rfl|rfl
  ·exact fK (z16 _ _ hl) (Ii he) (by omega)
  ·exact fK (z6 _ _ f1) (Ii fun y hy=>he y (gQ hy)) (ch _ _)
  ·exact fK (z6 _ _ f4) (vo he (oG (z6.tup q2))) (by rw[gD];show _+1<=100;omega)
  ·exact fK (z6 _ _ f5) (Ii fun y hy=>he y (List.mem_reverse.mp hy)) (by rw[Nh];omega)
  ·exact fK f6 (Ii g6) (by omega)
 rintro σ' H1 ⟨f,ys,fi,rfl⟩
 try dsimp only
 refine Fz (fun σ' H'=>∃f ys,FN K H H' (GP ov) f ys 6/\σ'=[some (.ref pa),some (.ref f),none,none,none]) (fun N hN=> ?_) ?_
 ·refine⟨_,rfl,.inl ⟨rfl,_,SqL.of fi.at_⟩,_,rfl,pa,rs,rfl,sq fi.sm,fun hz=> ?_⟩;let oV:Nat->List V->St->Hp->Prop:=fun i acc σ H'=>Same H1 H'/\(∀x∈acc,IG K (del H' f f) (GP ov) x)/\acc.length=i/\∃o,σ=[o];refine vK (xs:=rs) oV ⟨Same.refl _,fun x hx=>(nomatch hx),rfl,_,rfl⟩ (fun i acc σ H' _ p=>sq (fi.sm.trans p.1)) (fun i acc σ H' _ p=>by rw[p.2.2.1];exact aN _) hz (fun i x acc σ H' hx p=> ?_) (fun acc σ H' p=> ?_)
  ·obtain⟨sm,ha,hal,o,rfl⟩:=p;refine⟨(by show 2<=sizeLine;decide),fun e6 h6=> ?_⟩;have z6:=aG h6 (.tup [.int 1,.int 1]);have fa:=(sm.trans z6) _ _ fi.at_;refine⟨sm.trans z6,fun y hy=> ?_,by rw[gD,hal];rfl,_,rfl⟩;rcases jh.mp hy with hm|hm
   ·exact(ha y hm).same (Ih z6)
   ·rw[ji.mp hm];exact K3 (uo (SqT.of aD) fa fa)
  intro e6 h6;obtain⟨sm,ha,hal,_⟩:=p;have z7:=aG h6 (.lst acc);have ne6:e6≠f:=fun z=>by rw[z,sm _ _ fi.at_]at h6;cases h6
  have f6:del (upd H' e6 (.lst acc)) f f e6=some (.lst acc):=cQ aD ne6 ne6;have g6:∀x∈acc,IG K (del (upd H' e6 (.lst acc)) f f) (GP ov) x:=fun x hx=>(ha x hx).same (Ih z7);have fj:=fi.same (sm.trans z7);generalize (upd H' e6 (.lst acc))=H6 at *;refine⟨f,ys,.ref e6,rfl,rfl,fj.at_,by have:=fj.len;rw[eX];omega,?_⟩;exact hN _ _ ⟨f,_,fj.push (fK f6 (Ii g6) (by omega)),rfl⟩
 rintro σ' H2 ⟨f,ys,fi,rfl⟩
 try dsimp only
 refine⟨_,rfl,pa,_,rfl,.inl (sq fi.sm),fun _=>⟨_,rfl,by omega,by omega,?_⟩⟩;let ud:Nat->St->Hp->Prop:=fun i σ H'=>∃f ys a2 a3 a4,FN K H H' (GP ov) f ys (6+13*i)/\σ=[some (.ref pa),some (.ref f),a2,a3,a4];refine Ij (n:=rs.length) ud ⟨f,ys,_,_,_,fi,rfl⟩ (fun i σ H' hi p=> ?_) (fun σ H' p=> ?_)
 ·obtain⟨f,ys,a2,a3,a4,fi,rfl⟩:=p;dsimp only[gName,List.set];have hx:rs[i]? =some rs[i]:=dD hi;obtain⟨g,hg,fa,ea,hfa⟩:=Paired.at_ hF hx;obtain⟨k0,k1,k2,k3⟩:=hf4 g (gZ hg);have Uz:atI rs (0+(i:Int))=some (.ref fa):=by rw[Mq,<-ea];exact yh hx
  refine Fz (fun σ' xZ=>Same H' xZ/\∃o zs,H' o=none/\xZ o=some (.lst zs)/\zs.length=13/\(∀x∈zs,IG K (del xZ f f) Tr x)/\σ'=[some (.ref pa),some (.ref f),some (.int (0+(i:Int))),some (.ref o),a4]) (fun N hN=> ?_) ?_
  ·refine⟨_,rfl,_,rfl,pa,rs,_,_,rfl,rfl,sq fi.sm,Uz,fa,g.1,g.2,rfl,fi.sm.tup hfa,k0,k1,k2,fun r xs G1 y1 er hr0 Xm Xl=> ?_⟩;have w0:Same G1 G1:=Same.refl _;refine⟨(by show 2<=sizeLine;decide),fun e1 h1=> ?_⟩;have z1:=aG h1 (.tup [.int 1,.int 0]);have k1:SqT K (upd G1 e1 (.tup [.int 1,.int 0])) e1 [.int 1,.int 0]:=SqT.of aD;have er:=z1 _ _ er;have y1:=y1.trans z1;have w0:=w0.trans z1;generalize upd G1 e1 (.tup [.int 1,.int 0])=M1 at *;refine⟨_,rfl,(by show 2<=sizeLine;decide),fun e2 h2=> ?_⟩;have z2:=aG h2 (.tup [.int (-1),.int 2]);have k2:SqT K (upd M1 e2 (.tup [.int (-1),.int 2])) e2 [.int (-1),.int 2]:=SqT.of aD;have k1:=z2.tup k1;have er:=z2 _ _ er;have y1:=y1.trans z2;have w0:=w0.trans z2;generalize upd M1 e2 (.tup [.int (-1),.int 2])=M2 at *;refine⟨(by show 2<=sizeLine;decide),fun e3 h3=> ?_⟩;have z3:=aG h3 (.lst [.int 0,.int 1]);have k3:(upd M2 e3 (.lst [.int 0,.int 1])) e3=some (.lst [.int 0,.int 1]):=aD;have k1:=z3.tup k1;have k2:=z3.tup k2;have er:=z3 _ _ er;have n3:e3≠f:=fun z=>by rw[z,y1 _ _ fi.at_]at h3;cases h3
   have y1:=y1.trans z3;have w0:=w0.trans z3;generalize upd M2 e3 (.lst [.int 0,.int 1])=M3 at *;refine⟨(by show 2<=sizeLine;decide),fun e5 h5=> ?_⟩;have z5:=aG h5 (.tup [.bl false,.int 1]);have k5:SqT K (upd M3 e5 (.tup [.bl false,.int 1])) e5 [.bl false,.int 1]:=SqT.of aD;have k1:=z5.tup k1;have k2:=z5.tup k2;have k3:=z5 _ _ k3;have er:=z5 _ _ er;have y1:=y1.trans z5;have w0:=w0.trans z5;generalize upd M3 e5 (.tup [.bl false,.int 1])=M5 at *;refine⟨_,_,rfl,rfl,⟨by decide,by decide,by decide⟩,_,_,rfl,rfl,(by show 2<=sizeLine;decide),fun e6 h6=> ?_⟩;have z6:=aG h6 (.tup [.int 1,.int (10^(9:Int).toNat+1)]);have k6:SqT K (upd M5 e6 (.tup [.int 1,.int (10^(9:Int).toNat+1)])) e6 [.int 1,.int (10^(9:Int).toNat+1)]:=SqT.of aD;have k1:=z6.tup k1;have k2:=z6.tup k2;have k3:=z6 _ _ k3;have k5:=z6.tup k5;have er:=z6 _ _ er;have y1:=y1.trans z6;have w0:=w0.trans z6;generalize upd M5 e6 (.tup [.int 1,.int (10^(9:Int).toNat+1)])=M6 at *;refine⟨(by show 6<=sizeLine;decide),fun e7 h7=> ?_⟩;have z7:=aG h7 (.lst [.ref e1,.ref e2,.ref e3,.non,.ref e5,.ref e6]);have k7:(upd M6 e7 (.lst [.ref e1,.ref e2,.ref e3,.non,.ref e5,.ref e6])) e7=some (.lst [.ref e1,.ref e2,.ref e3,.non,.ref e5,.ref e6]):=aD;have k1:=z7.tup k1;have k2:=z7.tup k2;have k3:=z7 _ _ k3;have k5:=z7.tup k5;have k6:=z7.tup k6;have er:=z7 _ _ er;have n7:e7≠f:=fun z=>by rw[z,y1 _ _ fi.at_]at h7;cases h7
   have y1:=y1.trans z7;have w0:=w0.trans z7;generalize upd M6 e7 (.lst [.ref e1,.ref e2,.ref e3,.non,.ref e5,.ref e6])=G7 at *;refine qT er k7 (by omega) (by show 6<=100;decide) fun o G8 z8 f8 h8=> ?_;have y8:=y1.trans z8;have ff:=y8 _ _ fi.at_;refine hN _ _ ⟨y8,o,_,y1.none h8,f8,by rw[gD,Xm];rfl,fun x hx=> ?_,rfl⟩;rcases jh.mp hx with hm|hm
   ·obtain⟨t,a,b,rfl,ht⟩:=Xl x hm;exact oG (uo ((w0.trans z8).tup ht) ff ff)
   ·simp only[cJ,xT,xW]at hm;rcases hm with rfl|rfl|rfl|rfl|rfl|rfl
    ·exact oG (uo (z8.tup k1) ff ff)
    ·exact oG (uo (z8.tup k2) ff ff)
    ·exact(sG (zs:=[0,1]) (SqL.of (cQ (z8 _ _ k3) n3 n3))).ig (cG _)
    ·exact Ck
    ·exact(QV (uo (z8.tup k5) ff ff)).ig (cG _)
    ·exact oG (uo (z8.tup k6) ff ff)
  rintro σ' H3 ⟨s3,o,zs,no,eo,hzl,hzs,rfl⟩
  try dsimp only
  have nof:o≠f:=fun z=>by rw[z,fi.at_]at no;cases no
  have fi:=fi.same s3;refine⟨_,rfl,o,zs,rfl,SqL.of eo,fun hz=> ?_⟩;let LR:Nat->St->Hp->Prop:=fun j σ H4=>H4 o=some (.lst zs)/\(∀x∈zs,IG K (del H4 f f) Tr x)/\∃ys a4,FN K H H4 (GP ov) f ys (6+13*i+j)/\σ=[some (.ref pa),some (.ref f),some (.int (0+(i:Int))),some (.ref o),a4];refine for_list (xs:=zs) LR ⟨eo,hzs,ys,a4,fi,rfl⟩ (fun j σ H4 _ p=>SqL.of p.1) (fun j x σ H4 hx p=> ?_) (fun σ H4 p=> ?_)
  ·obtain⟨eo,hzs,ys,a4,fi,rfl⟩:=p;have hxi:=hzs x (gZ hx);have hjl:j<13:=by have:=(nH.mp hx).1;omega
   dsimp only[gName,List.set];have s0:=fi.sm;refine⟨_,rfl,.inl ⟨rfl,_,SqL.of fi.at_⟩,_,rfl,_,rfl,_,rfl,R0 (sq s0) fun d1 G1 y1 f1=> ?_⟩;refine⟨_,rfl,(by show 1<=sizeLine;decide),fun d2 h2=> ?_⟩;have y2:=aG h2 (.lst [x]);refine qT (y2 _ _ f1) aD (ch _ _) (by show 1<=100;decide) fun d3 G3 y3 f3 _=> ?_;have u3:=y1.trans (y2.trans y3);refine⟨_,rfl,_,rfl,_,_,rfl,rfl,_,rfl,Vr (sq (s0.trans u3)) fun d4 G4 y4 f4=> ?_⟩;refine qT (y4 _ _ f3) f4 (by have:=cl none (some (0+(i:Int)));rw[gD];show _+1<=100;omega) (ch _ _) fun d5 G5 y5 f5 h5=> ?_;have u5:=u3.trans (y4.trans y5);have fm:=fi.same u5;have nd:d5≠f:=fun z=>by rw[z,(u3.trans y4) _ _ fi.at_]at h5;cases h5
   refine⟨f,ys,.ref d5,rfl,rfl,fm.at_,by have:=fm.len;rw[eX];omega,?_⟩;have sd:Same (del G5 f f) (del (upd G5 f (.lst (ys++[.ref d5]))) f f):=rO fun b n _=>cD n;refine⟨by rw[cD nof];exact u5 _ _ eo,fun y hy=>((hzs y hy).same (Ih u5)).same sd,_,_,fm.push (fK (cQ f5 nd nd) (zc (fun y hy=>(g0 y hy).same fm.oU) (hxi.same (Ih u5))) ?_),rfl⟩;have:=cl none (some (0+(i:Int)));have:=cl (some (0+(i:Int)+1)) none;rw[gD,gD];show _+1+_<=100;omega
  ·obtain⟨_,_,ys,a4,fi,rfl⟩:=p;exact⟨f,ys,_,_,_,⟨fi.sm,fi.nf,fi.at_,fi.all,by have:=fi.len;omega⟩,rfl⟩
 ·obtain⟨f,ys,a2,a3,a4,fi,rfl⟩:=p;exact⟨_,rfl,q f ys H' fi.sm fi.at_ (fun y hy=>(fi.all y hy).same wX) (by have:=fi.len;omega)⟩
theorem wY{H:Hp}{f o':Addr}{u:HO}(n:H o'=none):Same (del H f f) (del (upd H o' u) f o'):=fun b v h=>by
 obtain⟨h,h1,_⟩:=tQ h;have nb:b≠o':=fun z=>by rw[z,n]at h;cases h
 exact cQ (by rw[cD nb];exact h) h1 nb
structure OT(K:W.Frag)(Hs H:Hp)(f o:Addr)(zs:List V)(N:Nat):Prop where
 sm:Same Hs H
 no:Hs o=none
 at_:H o=some (.lst zs)
 all:∀x∈zs,IG K (del H f o) Tr x
 len:zs.length<=N
theorem Sy{Hs H:Hp}{f o:Addr}{zs:List V}(s:Same Hs H)(n:H o=none)(v:∀x∈zs,IG K (del H f f) Tr x):OT K Hs (upd H o (.lst zs)) f o zs zs.length:=
 ⟨s.trans (aG n _),s.none n,aD,fun x hx=>(v x hx).same (wY n),aN _⟩
theorem OT.cat{Hs H:Hp}{f o o':Addr}{zs ws:List V}{N:Nat}(h:OT K Hs H f o zs N)(n:H o'=none)(v:∀x∈ws,IG K (del H f f) Tr x):OT K Hs (upd H o' (.lst (zs++ws))) f o' (zs++ws) (N+ws.length):=by
 refine⟨h.sm.trans (aG n _),h.sm.none n,aD,fun x hx=> ?_,by rw[gD];have:=h.len;omega⟩;rcases jh.mp hx with hm|hm
 ·exact((h.all x hm).same Fp).same (wY n)
 ·exact(v x hm).same (wY n)
theorem OT.same{Hs H H':Hp}{f o:Addr}{zs:List V}{N:Nat}(h:OT K Hs H f o zs N)(s:Same H H'):OT K Hs H' f o zs N:=
 ⟨h.sm.trans s,h.no,s _ _ h.at_,fun x hx=>(h.all x hx).same (Ih s),h.len⟩
theorem OT.push{Hs H:Hp}{f o:Addr}{zs:List V}{N:Nat}{x:V}(h:OT K Hs H f o zs N)(v:IG K (del H f o) Tr x):OT K Hs (upd H o (.lst (zs++[x]))) f o (zs++[x]) (N+1):=by
 have sd:Same (del H f o) (del (upd H o (.lst (zs++[x]))) f o):=rO fun b _ n=>cD n;refine⟨fun b u e=> ?_,h.no,aD,fun y hy=> ?_,by rw[gD];have:=h.len;show _+1<=_;omega⟩
 ·rw[cD (fun z=>by rw[z,h.no]at e;cases e)];exact h.sm _ _ e
 ·rcases jh.mp hy with hm|hm
  ·exact(h.all y hm).same sd
  ·rw[ji.mp hm];exact v.same sd
theorem XM{H:Hp}{ov:Nat}{rs:List V}{l:List (List Int×(Int×Nat))}(h:iC K H rs l)(hf:∀q∈l,q.1.length<=10/\q.2.2∣ov):∀x∈rs,IG K H (GL ov) x:=fun x hx=>by
 obtain⟨i,hi,rfl⟩:=Im hx;obtain⟨q,hq,t,sa,fa,e,h1,h2,h3⟩:=Paired.at_ h (dD hi);obtain⟨k1,k2⟩:=hf q (gZ hq);have s1:=HD h2 (show q.1.length<=20 by omega);have s2:=HD (zs:=[q.2.1,((q.2.2:Nat):Int)]) h3 (by show 2<=20;decide);rw[e];exact⟨JD q,.tup h1 (.cons s1.dv (.cons s2.dv .nil)),(iG s1.lay s2.lay s1.dep s2.dep).1,(iG s1.lay s2.lay s1.dep s2.dep).2,s1.few,q,rfl,k2⟩
theorem Fe{H:Hp}{a b c:Addr}(h1:SqT K H c [.ref a,.ref b])(h2:SqT K H a [])(h3:SqT K H b [.int 1,.int 2]):IG K H Tr (.ref c):=iY h1 (HD (zs:=[]) h2 (cG _)) (HD (zs:=[1,2]) h3 (by show 2<=20;decide))
theorem GJ{H:Hp}{G:PyData->Prop}{rs:List V}{x:V}(h:∀y∈rs,IG K H G y)(hx:IG K H Tr x):uf K H G ([x]++rs):=⟨x,hx,fun y hy=>by
 rcases jh.mp hy with hm|hm
 ·exact .inl (ji.mp hm)
 ·exact .inr (h y hm)⟩
theorem W6{rs:List V}{a b c d:Option Int}{y:V}(h:y∈cutV rs a b++cutV rs c d):y∈rs:=by
 rcases jh.mp h with h|h
 ·exact gQ h
 ·exact gQ h
def Jw(K:W.Frag):Sp:=fun vs H Q _=>∃(a la:Addr) (n:Int) (ts:L0) (rs:List V) (l:List (List Int×(Int×Nat))) (ov:Nat),vs=[.ref a,.ref la]/\cB K H a n ts/\H la=some (.lst rs)/\iC K H rs l/\rs.length<=16/\(∀q∈l,q.1.length<=10/\0<=q.2.1/\q.2.1<=1000000000000000/\q.2.2<=1000000000000000/\q.2.2∣ov)/\∀r ys H',Same H H'->H' r=some (.lst ys)->(∀y∈ys,Vn K H' (GL ov) y)->ys.length<=3000->Q (.ref r) H'
theorem Tt{f f1 f2:Addr}{fd d1 d2:FuncData}(F:Fun K "_law_alayings" "_law_alayings" gk f fd)(D1:bO K mg "_law_abent_shares" YL ["share"] f1 d1)(G1:FnOk P w K mg base CX0 1 f1 d1 ["share"] (Jx K))(D2:bO K mg "_law_abent_sets" zdl ["web","some"] f2 d2)(G2:FnOk P w K mg base CX0 1 f2 d2 ["web","some"] (QT K))(aH:mg "range"=none)(bf:mg "len"=none):
  FnOk P w K mg base CX0 2 f fd ["web","laying"] (Jw K):=by
 refine F.cT ["web","laying","found","at","some","share","others","other"] fun cdv A outer s H vs Q E hr h=> ?_;obtain⟨a,la,n,ts,rs,l,ov,rfl,hA,hl,hv,Z6,Xp,q⟩:=h;refine bh ?_;intro Y;refine⟨_,(aP (pS 2 (lw5 (pv 1) (qH ak) (aX rP (pv 1) (lw1 (xY (fY ak) (xY aq aq)))) (aX rP (lw1 (xY (fY ak) (xY aq aq))) (pv 1)) (v7 (pv 1) (uq (pe_un yg aq))))) (aP (ux rD rfl (Aw rfl aH (aj (pB rA bf (aj (pv 1) ak)) ak)) (pG 3) (aP (ps_asg (bx lK (pv 1) (pv 3)) (pg_tup rfl (jq (pG 4) (jq (pG 5) xQ)))) (aP (pX 6 ["one"] ["some"] [4] (pI (pc G1 hr D1 (aj (pv 5) ak))) (pG 0) lM (fY (aj (pv 1) (aj (pv 0) ak)))) (aP (pS 6 (aX rP (pv 6) (pK ["one"] ["share"] [5] (pI (pc G2 hr D2 (aj (pv 0) (aj (pv 4) ak)))) (pG 0) lM (fY (aj (pv 0) (aj (pv 1) ak)))))) (aP (pS 6 (aX rP (pv 6) (lw6 (tw1 (pv 4)) (Xd (pv 4) (pv 5)) (xY (pv 4) (Xd aq aq)) (xY (pv 4) (xY aq aq)) (xY (pv 4) (tw1 aq)) pe_non))) (aP (yj (pe_bm Iz Qz Qy Qg (pv 6) (aj (xY (pv 4) (xY lB aq)) ak))) (aP (pS 6 (aX rP (pv 6) (Xd (xY (pv 4) (xY (aX op_pow aq aq) (aX op_pow aq aq))) (xY (pv 4) (xY aq (aX pJ (aX op_pow aq aq) aq)))))) (aP (ux rD rfl (pI (pv 6)) (pG 7) (aZ (yj (pe_bm Iz Qz Qy Qg (pv 2) (aj (aX rP (aX rP (yr Dt (pv 1) uV (uq (pv 3))) (qH (aj (pv 7) ak))) (yr Dt (pv 1) (uq (aX pJ (pv 3) aq)) uV)) ak))))) (aP (pS 2 (aX rP (pv 2) (Xd (aX rP (yr Dt (pv 1) uV (uq (pv 3))) (yr Dt (pv 1) (uq (aX pJ (pv 3) aq)) uV)) (aX rP (yr Dt (pv 1) uV (uq (aX pJ (pv 3) aq))) (yr Dt (pv 1) (uq (pv 3)) uV))))) (aZ (yj (pe_bm Iz Qz Qy Qg (pv 2) (aj (aX rP (aX rP (yr Dt (pv 1) uV (uq (pv 3))) (v7 (yr Dt (pv 1) (uq (pv 3)) (uq (aX pJ (pv 3) aq))) (uq (pe_un yg aq)))) (yr Dt (pv 1) (uq (aX pJ (pv 3) aq)) uV)) ak))))))))))))) (aZ (bQ (pv 2))))),?_⟩;refine lR ?_;intro c3 c2;have sq:∀{H':Hp},Same H H'->SqL K H' la rs:=fun s=>SqL.of (s _ _ hl);have g0:=XM hv fun q hq=>⟨(Xp q hq).1,(Xp q hq).2.2.2.2⟩;have cl:∀b c:Option Int,(cutV rs b c).length<=16:=Yq Z6;have ch:∀b c:Option Int,(cutV rs b c).length<=100:=fun b c=>cC (cl b c) (by decide);have hvl:=Paired.bV hv;refine Fz (fun σ' H'=>∃f ys,FN K H H' (GL ov) f ys 5/\σ'=[some (.ref a),some (.ref la),some (.ref f),none,none,none,none,none]) (fun N hN=> ?_) ?_
 ·have y0:=Same.refl H;refine⟨_,rfl,(by show 0<=sizeLine;decide),fun e1 Pj=> ?_⟩;have Ru:=aG Pj (.lst []);have dU:(upd H e1 (.lst [])) e1=some (.lst []):=aD;have y0:=y0.trans Ru;generalize upd H e1 (.lst [])=H_1 at *;refine⟨_,rfl,(by show 0<=sizeLine;decide),fun a1 ha1=> ?_⟩;have za1:=aG ha1 (.tup []);have uL:SqT K (upd H_1 a1 (.tup [])) a1 []:=SqT.of aD;have y0:=y0.trans za1;have dU:=za1 _ _ dU;generalize upd H_1 a1 (.tup [])=H_2 at *;refine⟨(by show 2<=sizeLine;decide),fun a2 ha2=> ?_⟩;have za2:=aG ha2 (.tup [.int 1,.int 2]);have wI:SqT K (upd H_2 a2 (.tup [.int 1,.int 2])) a2 [.int 1,.int 2]:=SqT.of aD;have y0:=y0.trans za2;have dU:=za2 _ _ dU;have uL:=za2.tup uL;generalize upd H_2 a2 (.tup [.int 1,.int 2])=H_3 at *;refine⟨(by show 2<=sizeLine;decide),fun a3 ha3=> ?_⟩;have YM:=aG ha3 (.tup [.ref a1,.ref a2]);have zp:SqT K (upd H_3 a3 (.tup [.ref a1,.ref a2])) a3 [.ref a1,.ref a2]:=SqT.of aD;have y0:=y0.trans YM;have dU:=YM _ _ dU;have uL:=YM.tup uL;have wI:=YM.tup wI;generalize upd H_3 a3 (.tup [.ref a1,.ref a2])=H_4 at *;refine⟨(by show 1<=sizeLine;decide),fun a4 ha4=> ?_⟩;have V2:=aG ha4 (.lst [.ref a3]);have Cj:(upd H_4 a4 (.lst [.ref a3])) a4=some (.lst [.ref a3]):=aD;have y0:=y0.trans V2;have dU:=V2 _ _ dU;have uL:=V2.tup uL;have wI:=V2.tup wI;have zp:=V2.tup zp;generalize upd H_4 a4 (.lst [.ref a3])=H_5 at *;refine qT (y0 _ _ hl) Cj (by omega) (by show 1<=100;decide) fun e2 G2 z2 f2 h2=> ?_;have y0:=y0.trans z2;have dU:=z2 _ _ dU;have uL:=z2.tup uL;have wI:=z2.tup wI;have zp:=z2.tup zp;have Cj:=z2 _ _ Cj;refine⟨(by show 0<=sizeLine;decide),fun b1 hb1=> ?_⟩;have Rv:=aG hb1 (.tup []);have kb1:SqT K (upd G2 b1 (.tup [])) b1 []:=SqT.of aD;have y0:=y0.trans Rv;have f2:=Rv _ _ f2;have dU:=Rv _ _ dU;have uL:=Rv.tup uL;have wI:=Rv.tup wI;have zp:=Rv.tup zp;have Cj:=Rv _ _ Cj;generalize upd G2 b1 (.tup [])=G2_1 at *;refine⟨(by show 2<=sizeLine;decide),fun b2 hb2=> ?_⟩;have Qj:=aG hb2 (.tup [.int 1,.int 2]);have kb2:SqT K (upd G2_1 b2 (.tup [.int 1,.int 2])) b2 [.int 1,.int 2]:=SqT.of aD;have y0:=y0.trans Qj;have f2:=Qj _ _ f2;have dU:=Qj _ _ dU;have uL:=Qj.tup uL;have wI:=Qj.tup wI;have zp:=Qj.tup zp;have Cj:=Qj _ _ Cj;have kb1:=Qj.tup kb1;generalize upd G2_1 b2 (.tup [.int 1,.int 2])=G2_2 at *;refine⟨(by show 2<=sizeLine;decide),fun b3 hb3=> ?_⟩;have MP:=aG hb3 (.tup [.ref b1,.ref b2]);have kb3:SqT K (upd G2_2 b3 (.tup [.ref b1,.ref b2])) b3 [.ref b1,.ref b2]:=SqT.of aD;have y0:=y0.trans MP;have f2:=MP _ _ f2;have dU:=MP _ _ dU;have uL:=MP.tup uL;have wI:=MP.tup wI;have zp:=MP.tup zp;have Cj:=MP _ _ Cj;have kb1:=MP.tup kb1;have kb2:=MP.tup kb2;generalize upd G2_2 b3 (.tup [.ref b1,.ref b2])=G2_3 at *;refine⟨(by show 1<=sizeLine;decide),fun b4 hb4=> ?_⟩;have Mp:=aG hb4 (.lst [.ref b3]);have Xh:(upd G2_3 b4 (.lst [.ref b3])) b4=some (.lst [.ref b3]):=aD;have y0:=y0.trans Mp;have f2:=Mp _ _ f2;have dU:=Mp _ _ dU;have uL:=Mp.tup uL;have wI:=Mp.tup wI;have zp:=Mp.tup zp;have Cj:=Mp _ _ Cj;have kb1:=Mp.tup kb1;have kb2:=Mp.tup kb2;have kb3:=Mp.tup kb3;generalize upd G2_3 b4 (.lst [.ref b3])=G2_4 at *;refine⟨_,rfl,qT Xh (y0 _ _ hl) (by show 1<=100;decide) (by omega) fun e3 G3 z3 f3 h3=> ?_⟩;have y0:=y0.trans z3;have f2:=z3 _ _ f2;have dU:=z3 _ _ dU;have uL:=z3.tup uL;have wI:=z3.tup wI;have zp:=z3.tup zp;have Cj:=z3 _ _ Cj;have kb1:=z3.tup kb1;have kb2:=z3.tup kb2;have kb3:=z3.tup kb3;have Xh:=z3 _ _ Xh;refine⟨_,rfl,_,rfl,_,rfl,rfl,la,rs,rfl,sq y0,fun e5 h5=> ?_⟩;have z5:=aG h5 (.lst rs.reverse);have f5:(upd G3 e5 (.lst rs.reverse)) e5=some (.lst rs.reverse):=aD;have y0:=y0.trans z5;have f2:=z5 _ _ f2;have f3:=z5 _ _ f3;have dU:=z5 _ _ dU;have uL:=z5.tup uL;have wI:=z5.tup wI;have zp:=z5.tup zp;have Cj:=z5 _ _ Cj;have kb1:=z5.tup kb1;have kb2:=z5.tup kb2;have kb3:=z5.tup kb3;have Xh:=z5 _ _ Xh;generalize (upd G3 e5 (.lst rs.reverse))=H5 at *;refine⟨(by show 5<=sizeLine;decide),fun f hf=>hN _ _ ⟨f,_,Lf y0 hf fun y hy=> ?_,rfl⟩⟩;have he:∀x∈rs,IG K H5 (GL ov) x:=fun x hx=>(g0 x hx).same y0;simp only[cJ,xT,xW]at hy;rcases hy with rfl|rfl|rfl|rfl|rfl
  ·exact fK (y0 _ _ hl) (Ii he) (by omega)
  ·exact fK dU (Ii fun y hy=>nomatch hy) (cG _)
  ·exact fK f2 (vo he (Fe zp uL wI)) (by rw[gD];show _+1<=100;omega)
  ·exact fK f3 (GJ he (Fe kb3 kb1 kb2)) (by rw[gD];show 1+_<=100;omega)
  ·exact fK f5 (Ii fun y hy=>he y (List.mem_reverse.mp hy)) (by rw[Nh];omega)
 rintro σ' H1 ⟨f,ys,fi,rfl⟩
 try dsimp only
 refine⟨_,rfl,la,_,rfl,.inl (sq fi.sm),fun _=>⟨_,rfl,by omega,by omega,?_⟩⟩;let iB:Nat->St->Hp->Prop:=fun i σ H'=>∃f ys a3 a4 a5 a6 a7,FN K H H' (GL ov) f ys (5+36*i)/\σ=[some (.ref a),some (.ref la),some (.ref f),a3,a4,a5,a6,a7];refine Ij (n:=rs.length) iB ⟨f,ys,_,_,_,_,_,fi,rfl⟩ (fun i σ Hs hi p=> ?_) (fun σ H' p=> ?_)
 ·obtain⟨f,ys,a3,a4,a5,a6,a7,fi,rfl⟩:=p;dsimp only[gName,List.set];have hx:rs[i]? =some rs[i]:=dD hi;obtain⟨g,hg,t,sa,fa,et,ht,hsa,hfa⟩:=Paired.at_ hv hx;obtain⟨k0,k1,k2,k3,k4⟩:=Xp g (gZ hg);have Uz:atI rs (0+(i:Int))=some (.ref t):=by rw[Mq,<-et];exact yh hx
  have ef:=fi.at_;have sS:=HD hsa (show g.1.length<=20 by omega);have sF:=HD (zs:=[g.2.1,((g.2.2:Nat):Int)]) hfa (by show 2<=20;decide);refine⟨_,rfl,_,rfl,la,rs,_,_,rfl,rfl,sq fi.sm,Uz,t,_,rfl,fi.sm.tup ht,rfl,_,_,rfl,_,_,rfl,rfl,?_⟩;dsimp only[gName,List.set]
  -- the first ones
  refine Fz (fun σ' H'=>∃o zs,OT K Hs H' f o zs 7/\σ'=[some (.ref a),some (.ref la),some (.ref f),some (.int (0+(i:Int))),some (.ref sa),some (.ref fa),some (.ref o),a7]) (fun N hN=> ?_) ?_
  ·refine⟨_,rfl,fa,g.2.1,g.2.2,rfl,fi.sm.tup hfa,k1,k2,k3,fun r xs G1 y1 er hr0 Xm Xl=>⟨r,xs,rfl,SqL.of er,fun hz=> ?_⟩⟩;let oV:Nat->List V->St->Hp->Prop:=fun j acc σ H'=>Same G1 H'/\(∀x∈acc,IG K (del H' f f) Tr x)/\acc.length=j/\∃o,σ=[o,some (.ref sa)];refine vK (xs:=xs) oV ⟨Same.refl _,fun x hx=>(nomatch hx),rfl,_,rfl⟩ (fun j acc σ H' _ p=>SqL.of (p.1 _ _ er)) (fun j acc σ H' _ p=>by rw[p.2.2.1];exact aN _) hz (fun j x acc σ H' hx p=> ?_) (fun acc σ H' p=> ?_)
   ·obtain⟨sm,ha,hal,o,rfl⟩:=p;obtain⟨tx,u,v,rfl,htx⟩:=Xl x (gZ hx);refine⟨_,rfl,_,rfl,(by show 2<=sizeLine;decide),fun e6 h6=> ?_⟩;have z6:=aG h6 (.tup [.ref sa,.ref tx]);have y6:=y1.trans (sm.trans z6);have ff:=y6 _ _ ef;refine⟨sm.trans z6,fun y hy=> ?_,by rw[gD,hal];rfl,_,rfl⟩;rcases jh.mp hy with hm|hm
    ·exact(ha y hm).same (Ih z6)
    ·rw[ji.mp hm];exact iY (uo (SqT.of aD) ff ff) (sS.same (fi.same y6).oU) (HD (zs:=[u,v]) (uo ((sm.trans z6).tup htx) ff ff) (by show 2<=20;decide))
   intro e6 h6;obtain⟨sm,ha,hal,_⟩:=p;have ot:=Sy (y1.trans sm) h6 ha;exact hN _ _ ⟨e6,acc,⟨ot.sm,ot.no,ot.at_,ot.all,by omega⟩,rfl⟩
  rintro σ' H2 ⟨o,zs,ot,rfl⟩
  try dsimp only
  -- the sets
  refine Fz (fun σ' H'=>∃o zs,OT K Hs H' f o zs 24/\σ'=[some (.ref a),some (.ref la),some (.ref f),some (.int (0+(i:Int))),some (.ref sa),some (.ref fa),some (.ref o),a7]) (fun N hN=> ?_) ?_
  ·have t0:=fi.sm.trans ot.sm;refine⟨_,rfl,_,rfl,_,rfl,a,sa,n,ts,g.1,rfl,hA.same t0,t0.tup hsa,k0,fun r xs G1 y1 er Xm Xl=>⟨r,xs,rfl,SqL.of er,fun hz=> ?_⟩⟩;let ud:Nat->List V->St->Hp->Prop:=fun j acc σ H'=>Same G1 H'/\(∀x∈acc,IG K (del H' f f) Tr x)/\acc.length=j/\∃o,σ=[o,some (.ref fa)];refine vK (xs:=xs) ud ⟨Same.refl _,fun x hx=>(nomatch hx),rfl,_,rfl⟩ (fun j acc σ H' _ p=>SqL.of (p.1 _ _ er)) (fun j acc σ H' _ p=>by rw[p.2.2.1];exact aN _) hz (fun j x acc σ H' hx p=> ?_) (fun acc σ H' p=> ?_)
   ·obtain⟨sm,ha,hal,o',rfl⟩:=p;have hxx:=Xl x (gZ hx);refine⟨_,rfl,_,rfl,(by show 2<=sizeLine;decide),fun e6 h6=> ?_⟩;have z6:=aG h6 (.tup [x,.ref fa]);have s6:=sm.trans z6;have y6:=ot.sm.trans (y1.trans s6);have ff:=y6 _ _ ef;refine⟨s6,fun y hy=> ?_,by rw[gD,hal];rfl,_,rfl⟩;rcases jh.mp hy with hm|hm
    ·exact(ha y hm).same (Ih z6)
    ·rw[ji.mp hm];have sx:∃d,Sm K (del (upd H' e6 (.tup [x,.ref fa])) f f) x d:=by
      rcases hxx with⟨tx,us,rfl,htx,hul⟩|⟨lx,us,rfl,nlx,hlx,hul⟩
      ·exact⟨_,HD (uo (s6.tup htx) ff ff) hul⟩
      ·have nf:lx≠f:=fun z=>by rw[z,ot.sm _ _ ef]at nlx;cases nlx
       exact⟨_,sG (SqL.of (cQ (s6 _ _ hlx) nf nf))⟩
     obtain⟨d,sx⟩:=sx;exact iY (uo (SqT.of aD) ff ff) sx (sF.same (fi.same y6).oU)
   intro e6 h6;obtain⟨sm,ha,hal,_⟩:=p;have z7:=aG h6 (.lst acc);have e7:(upd H' e6 (.lst acc)) e6=some (.lst acc):=aD;have ot:=ot.same (y1.trans (sm.trans z7));have ha:∀x∈acc,IG K (del (upd H' e6 (.lst acc)) f f) Tr x:=fun x hx=>(ha x hx).same (Ih z7);generalize (upd H' e6 (.lst acc))=H7 at *;refine⟨o,e6,zs,acc,rfl,rfl,ot.at_,e7,by have:=ot.len;rw[eX];omega,fun o' ho'=> ?_⟩;have yS:=ot.cat ho' ha;exact hN _ _ ⟨o',_,⟨yS.sm,yS.no,yS.at_,yS.all,by have:=yS.len;omega⟩,rfl⟩
  rintro σ' H3 ⟨o,zs,ot,rfl⟩
  try dsimp only
  -- other things
  refine Fz (fun σ' H'=>∃o zs,OT K Hs H' f o zs 30/\σ'=[some (.ref a),some (.ref la),some (.ref f),some (.int (0+(i:Int))),some (.ref sa),some (.ref fa),some (.ref o),a7]) (fun N hN=> ?_) ?_
  ·have y1:=Same.refl H3;have PX:=ot.sm _ _ ef;refine⟨_,rfl,_,rfl,(by show 1<=sizeLine;decide),fun e1 Pj=> ?_⟩;have Ru:=aG Pj (.tup [.ref sa]);have dU:SqT K (upd H3 e1 (.tup [.ref sa])) e1 [.ref sa]:=SqT.of aD;have y1:=y1.trans Ru;generalize upd H3 e1 (.tup [.ref sa])=H3_1 at *;refine⟨_,rfl,_,rfl,(by show 2<=sizeLine;decide),fun e2 he2=> ?_⟩;have Qf:=aG he2 (.lst [.ref sa,.ref fa]);have qQ:(upd H3_1 e2 (.lst [.ref sa,.ref fa])) e2=some (.lst [.ref sa,.ref fa]):=aD;have ne2:e2≠f:=fun z=>by rw[z,y1 _ _ PX]at he2;cases he2
   have y1:=y1.trans Qf;have dU:=Qf.tup dU;generalize upd H3_1 e2 (.lst [.ref sa,.ref fa])=H3_2 at *;refine⟨_,rfl,(by show 2<=sizeLine;decide),fun e3 Ua=> ?_⟩;have Rt:=aG Ua (.lst [.int 1,.int 1]);have wH:(upd H3_2 e3 (.lst [.int 1,.int 1])) e3=some (.lst [.int 1,.int 1]):=aD;have ne3:e3≠f:=fun z=>by rw[z,y1 _ _ PX]at Ua;cases Ua
   have y1:=y1.trans Rt;have dU:=Rt.tup dU;have qQ:=Rt _ _ qQ;generalize upd H3_2 e3 (.lst [.int 1,.int 1])=H3_3 at *;refine⟨(by show 2<=sizeLine;decide),fun e4 he4=> ?_⟩;have MK:=aG he4 (.tup [.ref sa,.ref e3]);have Ci:SqT K (upd H3_3 e4 (.tup [.ref sa,.ref e3])) e4 [.ref sa,.ref e3]:=SqT.of aD;have y1:=y1.trans MK;have dU:=MK.tup dU;have qQ:=MK _ _ qQ;have wH:=MK _ _ wH;generalize upd H3_3 e4 (.tup [.ref sa,.ref e3])=H3_4 at *;refine⟨_,rfl,(by show 2<=sizeLine;decide),fun e5 he5=> ?_⟩;have VL:=aG he5 (.tup [.int 1,.int 0]);have O1:SqT K (upd H3_4 e5 (.tup [.int 1,.int 0])) e5 [.int 1,.int 0]:=SqT.of aD;have y1:=y1.trans VL;have dU:=VL.tup dU;have qQ:=VL _ _ qQ;have wH:=VL _ _ wH;have Ci:=VL.tup Ci;generalize upd H3_4 e5 (.tup [.int 1,.int 0])=H3_5 at *;refine⟨(by show 2<=sizeLine;decide),fun e6 he6=> ?_⟩;have U7:=aG he6 (.tup [.ref sa,.ref e5]);have TY:SqT K (upd H3_5 e6 (.tup [.ref sa,.ref e5])) e6 [.ref sa,.ref e5]:=SqT.of aD;have y1:=y1.trans U7;have dU:=U7.tup dU;have qQ:=U7 _ _ qQ;have wH:=U7 _ _ wH;have Ci:=U7.tup Ci;have O1:=U7.tup O1;generalize upd H3_5 e6 (.tup [.ref sa,.ref e5])=H3_6 at *;refine⟨_,rfl,(by show 1<=sizeLine;decide),fun e7 he7=> ?_⟩;have Rr:=aG he7 (.tup [.int 1]);have Xg:SqT K (upd H3_6 e7 (.tup [.int 1])) e7 [.int 1]:=SqT.of aD;have y1:=y1.trans Rr;have dU:=Rr.tup dU;have qQ:=Rr _ _ qQ;have wH:=Rr _ _ wH;have Ci:=Rr.tup Ci;have O1:=Rr.tup O1;have TY:=Rr.tup TY;generalize upd H3_6 e7 (.tup [.int 1])=H3_7 at *;refine⟨(by show 2<=sizeLine;decide),fun e8 he8=> ?_⟩;have Qe:=aG he8 (.tup [.ref sa,.ref e7]);have ke8:SqT K (upd H3_7 e8 (.tup [.ref sa,.ref e7])) e8 [.ref sa,.ref e7]:=SqT.of aD;have y1:=y1.trans Qe;have dU:=Qe.tup dU;have qQ:=Qe _ _ qQ;have wH:=Qe _ _ wH;have Ci:=Qe.tup Ci;have O1:=Qe.tup O1;have TY:=Qe.tup TY;have Xg:=Qe.tup Xg;generalize upd H3_7 e8 (.tup [.ref sa,.ref e7])=H3_8 at *;refine⟨(by show 6<=sizeLine;decide),fun e9 he9=> ?_⟩;have Ar:=aG he9 (.lst [.ref e1,.ref e2,.ref e4,.ref e6,.ref e8,.non]);have ke9:(upd H3_8 e9 (.lst [.ref e1,.ref e2,.ref e4,.ref e6,.ref e8,.non])) e9=some (.lst [.ref e1,.ref e2,.ref e4,.ref e6,.ref e8,.non]):=aD;have ne9:e9≠f:=fun z=>by rw[z,y1 _ _ PX]at he9;cases he9
   have y1:=y1.trans Ar;have dU:=Ar.tup dU;have qQ:=Ar _ _ qQ;have wH:=Ar _ _ wH;have Ci:=Ar.tup Ci;have O1:=Ar.tup O1;have TY:=Ar.tup TY;have Xg:=Ar.tup Xg;have ke8:=Ar.tup ke8;generalize upd H3_8 e9 (.lst [.ref e1,.ref e2,.ref e4,.ref e6,.ref e8,.non])=H3_9 at *;have ot:=ot.same y1;refine⟨o,e9,zs,_,rfl,rfl,ot.at_,ke9,by have:=ot.len;rw[eX];show _+6<=_;omega,fun o' ho'=> ?_⟩;have ff:=y1 _ _ PX;have bs:=(fi.same ot.sm).oU;have yS:=ot.cat (ws:=[.ref e1,.ref e2,.ref e4,.ref e6,.ref e8,.non]) ho' fun x hx=>by
    simp only[cJ,xT,xW]at hx;rcases hx with rfl|rfl|rfl|rfl|rfl|rfl
    ·exact T3 (uo dU ff ff) (sS.same bs)
    ·exact Pg (SqL.of (cQ qQ ne2 ne2)) (sS.same bs) (sF.same bs)
    ·exact iY (uo Ci ff ff) (sS.same bs) (sG (zs:=[1,1]) (SqL.of (cQ wH ne3 ne3)))
    ·exact iY (uo TY ff ff) (sS.same bs) (HD (zs:=[1,0]) (uo O1 ff ff) (by show 2<=20;decide))
    ·exact iY (uo ke8 ff ff) (sS.same bs) (HD (zs:=[1]) (uo Xg ff ff) (by show 1<=20;decide))
    ·exact Ck
   exact hN _ _ ⟨o',_,⟨yS.sm,yS.no,yS.at_,yS.all,yS.len⟩,rfl⟩
  rintro σ' H4 ⟨o,zs,ot,rfl⟩
  try dsimp only
  refine Fz (fun σ' H'=>∃o zs,OT K Hs H' f o zs 31/\σ'=[some (.ref a),some (.ref la),some (.ref f),some (.int (0+(i:Int))),some (.ref sa),some (.ref fa),some (.ref o),a7]) (fun N hN=> ?_) ?_
  ·have y1:=Same.refl H4;have PX:=ot.sm _ _ ef;refine⟨_,rfl,.inl ⟨rfl,_,SqL.of ot.at_⟩,_,rfl,(by show 2<=sizeLine;decide),fun e1 Pj=> ?_⟩;have Ru:=aG Pj (.tup [.bl true,.int 1]);have dU:SqT K (upd H4 e1 (.tup [.bl true,.int 1])) e1 [.bl true,.int 1]:=SqT.of aD;have y1:=y1.trans Ru;generalize upd H4 e1 (.tup [.bl true,.int 1])=H4_1 at *;refine⟨(by show 2<=sizeLine;decide),fun e2 he2=> ?_⟩;have Qf:=aG he2 (.tup [.ref sa,.ref e1]);have qQ:SqT K (upd H4_1 e2 (.tup [.ref sa,.ref e1])) e2 [.ref sa,.ref e1]:=SqT.of aD;have y1:=y1.trans Qf;have dU:=Qf.tup dU;generalize upd H4_1 e2 (.tup [.ref sa,.ref e1])=H4_2 at *;have ot:=ot.same y1;have ff:=y1 _ _ PX;have no0:H o=none:=fi.sm.none ot.no;refine⟨o,zs,.ref e2,rfl,rfl,ot.at_,by have:=ot.len;rw[eX];omega,?_⟩;exact hN _ _ ⟨o,_,ot.push (iY (uo qQ ff ot.at_) (sS.same (oR (fi.sm.trans ot.sm) fi.nf no0)) (QV (uo dU ff ot.at_))),rfl⟩
  rintro σ' H5 ⟨o,zs,ot,rfl⟩
  try dsimp only
  refine Fz (fun σ' H'=>∃o zs,OT K Hs H' f o zs 33/\σ'=[some (.ref a),some (.ref la),some (.ref f),some (.int (0+(i:Int))),some (.ref sa),some (.ref fa),some (.ref o),a7]) (fun N hN=> ?_) ?_
  ·have y1:=Same.refl H5;have PX:=ot.sm _ _ ef;refine⟨_,rfl,_,rfl,_,_,rfl,rfl,⟨by decide,by decide,by decide⟩,_,_,rfl,rfl,⟨by decide,by decide,by decide⟩,(by show 2<=sizeLine;decide),fun e1 Pj=> ?_⟩;have Ru:=aG Pj (.tup [.int (10^(9:Int).toNat),.int (10^(9:Int).toNat)]);have dU:SqT K (upd H5 e1 (.tup [.int (10^(9:Int).toNat),.int (10^(9:Int).toNat)])) e1 [.int (10^(9:Int).toNat),.int (10^(9:Int).toNat)]:=SqT.of aD;have y1:=y1.trans Ru;generalize upd H5 e1 (.tup [.int (10^(9:Int).toNat),.int (10^(9:Int).toNat)])=H5_1 at *;refine⟨(by show 2<=sizeLine;decide),fun e2 he2=> ?_⟩;have Qf:=aG he2 (.tup [.ref sa,.ref e1]);have qQ:SqT K (upd H5_1 e2 (.tup [.ref sa,.ref e1])) e2 [.ref sa,.ref e1]:=SqT.of aD;have y1:=y1.trans Qf;have dU:=Qf.tup dU;generalize upd H5_1 e2 (.tup [.ref sa,.ref e1])=H5_2 at *;refine⟨_,rfl,_,_,rfl,rfl,⟨by decide,by decide,by decide⟩,_,_,rfl,rfl,(by show 2<=sizeLine;decide),fun e3 Ua=> ?_⟩;have Rt:=aG Ua (.tup [.int 1,.int (10^(9:Int).toNat+1)]);have wH:SqT K (upd H5_2 e3 (.tup [.int 1,.int (10^(9:Int).toNat+1)])) e3 [.int 1,.int (10^(9:Int).toNat+1)]:=SqT.of aD;have y1:=y1.trans Rt;have dU:=Rt.tup dU;have qQ:=Rt.tup qQ;generalize upd H5_2 e3 (.tup [.int 1,.int (10^(9:Int).toNat+1)])=H5_3 at *;refine⟨(by show 2<=sizeLine;decide),fun e4 he4=> ?_⟩;have MK:=aG he4 (.tup [.ref sa,.ref e3]);have Ci:SqT K (upd H5_3 e4 (.tup [.ref sa,.ref e3])) e4 [.ref sa,.ref e3]:=SqT.of aD;have y1:=y1.trans MK;have dU:=MK.tup dU;have qQ:=MK.tup qQ;have wH:=MK.tup wH;generalize upd H5_3 e4 (.tup [.ref sa,.ref e3])=H5_4 at *;refine⟨(by show 2<=sizeLine;decide),fun e9 he9=> ?_⟩;have Ar:=aG he9 (.lst [.ref e2,.ref e4]);have ke9:(upd H5_4 e9 (.lst [.ref e2,.ref e4])) e9=some (.lst [.ref e2,.ref e4]):=aD;have ne9:e9≠f:=fun z=>by rw[z,y1 _ _ PX]at he9;cases he9
   have y1:=y1.trans Ar;have dU:=Ar.tup dU;have qQ:=Ar.tup qQ;have wH:=Ar.tup wH;have Ci:=Ar.tup Ci;generalize upd H5_4 e9 (.lst [.ref e2,.ref e4])=H5_5 at *;have ot:=ot.same y1;refine⟨o,e9,zs,_,rfl,rfl,ot.at_,ke9,by have:=ot.len;rw[eX];show _+2<=_;omega,fun o' ho'=> ?_⟩;have ff:=y1 _ _ PX;have bs:=(fi.same ot.sm).oU;have yS:=ot.cat (ws:=[.ref e2,.ref e4]) ho' fun x hx=>by
    simp only[cJ,xT,xW]at hx;rcases hx with rfl|rfl
    ·exact iY (uo qQ ff ff) (sS.same bs) (HD (zs:=[10^(9:Int).toNat,10^(9:Int).toNat]) (uo dU ff ff) (by show 2<=20;decide))
    ·exact iY (uo Ci ff ff) (sS.same bs) (HD (zs:=[1,10^(9:Int).toNat+1]) (uo wH ff ff) (by show 2<=20;decide))
   exact hN _ _ ⟨o',_,⟨yS.sm,yS.no,yS.at_,yS.all,yS.len⟩,rfl⟩
  rintro σ' H6 ⟨o,zs,ot,rfl⟩
  try dsimp only
  have no:=ot.no;have nof:o≠f:=fun z=>by rw[z,ef]at no;cases no
  have fi:=fi.same ot.sm;have hzl:=ot.len;refine Fz (fun σ' H'=>∃ys a7,FN K H H' (GL ov) f ys (5+36*i+33)/\σ'=[some (.ref a),some (.ref la),some (.ref f),some (.int (0+(i:Int))),some (.ref sa),some (.ref fa),some (.ref o),a7]) (fun N hN=> ?_) ?_
  ·refine⟨_,rfl,o,zs,rfl,SqL.of ot.at_,fun hz=> ?_⟩;let LR:Nat->St->Hp->Prop:=fun j σ H4=>H4 o=some (.lst zs)/\(∀x∈zs,IG K (del H4 f f) Tr x)/\∃ys a7,FN K H H4 (GL ov) f ys (5+36*i+j)/\σ=[some (.ref a),some (.ref la),some (.ref f),some (.int (0+(i:Int))),some (.ref sa),some (.ref fa),some (.ref o),a7];refine for_list (xs:=zs) LR ⟨ot.at_,fun x hx=>(ot.all x hx).same Fp,ys,a7,fi,rfl⟩ (fun j σ H4 _ p=>SqL.of p.1) (fun j x σ H4 hx p=> ?_) (fun σ H4 p=> ?_)
   ·obtain⟨eo,hzs,ys,a7,fi,rfl⟩:=p;have hxi:=hzs x (gZ hx);have hjl:j<33:=by have:=(nH.mp hx).1;omega
    dsimp only[gName,List.set];have s0:=fi.sm;refine⟨_,rfl,.inl ⟨rfl,_,SqL.of fi.at_⟩,_,rfl,_,rfl,_,rfl,R0 (sq s0) fun d1 G1 y1 f1=> ?_⟩;refine⟨_,rfl,(by show 1<=sizeLine;decide),fun d2 h2=> ?_⟩;have y2:=aG h2 (.lst [x]);refine qT (y2 _ _ f1) aD (ch _ _) (by show 1<=100;decide) fun d3 G3 y3 f3 _=> ?_;have u3:=y1.trans (y2.trans y3);refine⟨_,rfl,_,rfl,_,_,rfl,rfl,_,rfl,Vr (sq (s0.trans u3)) fun d4 G4 y4 f4=> ?_⟩;refine qT (y4 _ _ f3) f4 (by have:=cl none (some (0+(i:Int)));rw[gD];show _+1<=100;omega) (ch _ _) fun d5 G5 y5 f5 h5=> ?_;have u5:=u3.trans (y4.trans y5);have fm:=fi.same u5;have nd:d5≠f:=fun z=>by rw[z,(u3.trans y4) _ _ fi.at_]at h5;cases h5
    refine⟨f,ys,.ref d5,rfl,rfl,fm.at_,by have:=fm.len;rw[eX];omega,?_⟩;have sd:Same (del G5 f f) (del (upd G5 f (.lst (ys++[.ref d5]))) f f):=rO fun b n _=>cD n;refine⟨by rw[cD nof];exact u5 _ _ eo,fun y hy=>((hzs y hy).same (Ih u5)).same sd,_,_,fm.push (fK (cQ f5 nd nd) (zc (fun y hy=>(g0 y hy).same fm.oU) (hxi.same (Ih u5))) ?_),rfl⟩;have:=cl none (some (0+(i:Int)));have:=cl (some (0+(i:Int)+1)) none;rw[gD,gD];show _+1+_<=100;omega
   ·obtain⟨_,_,ys,a7,fi,rfl⟩:=p;exact hN _ _ ⟨ys,a7,⟨fi.sm,fi.nf,fi.at_,fi.all,by have:=fi.len;omega⟩,rfl⟩
  rintro σ' H7 ⟨ys,a7,fi,rfl⟩
  try dsimp only
  -- one less, one twice
  refine Fz (fun σ' H'=>∃f ys,FN K H H' (GL ov) f ys (5+36*i+35)/\σ'=[some (.ref a),some (.ref la),some (.ref f),some (.int (0+(i:Int))),some (.ref sa),some (.ref fa),some (.ref o),a7]) (fun N hN=> ?_) ?_
  ·have s0:=fi.sm;refine⟨_,rfl,_,rfl,_,rfl,_,rfl,R0 (sq s0) fun e1 G1 z1 f1=> ?_⟩;refine⟨_,rfl,_,rfl,_,_,rfl,rfl,_,rfl,Vr (sq (s0.trans z1)) fun e2 G2 z2 f2=> ?_⟩;refine qT (z2 _ _ f1) f2 (ch _ _) (ch _ _) fun e3 G3 z3 f3 _=> ?_;have s3:=z1.trans (z2.trans z3);have s03:=s0.trans s3;refine⟨_,rfl,_,rfl,_,_,rfl,rfl,_,rfl,R0 (sq s03) fun e4 G4 z4 f4=> ?_⟩;refine⟨_,rfl,_,rfl,_,rfl,Vr (sq (s03.trans z4)) fun e5 G5 z5 f5=> ?_⟩;refine qT (z5 _ _ f4) f5 (ch _ _) (ch _ _) fun e6 G6 z6 f6 _=> ?_;have s6:=z4.trans (z5.trans z6);refine⟨(by show 2<=sizeLine;decide),fun e7 h7=> ?_⟩;have z7:=aG h7 (.lst [.ref e3,.ref e6]);have e7':(upd G6 e7 (.lst [.ref e3,.ref e6])) e7=some (.lst [.ref e3,.ref e6]):=aD;have aaf:=s3.trans (s6.trans z7);have f3:=(s6.trans z7) _ _ f3;have f6:=z7 _ _ f6;have fj:=fi.same aaf;generalize (upd G6 e7 (.lst [.ref e3,.ref e6]))=G7 at *;refine⟨f,e7,ys,_,rfl,rfl,fj.at_,e7',by have:=fj.len;rw[eX];show _+2<=_;omega,fun f' hf'=>hN _ _ ⟨f',ys++[.ref e3,.ref e6],fj.cat (zs:=[.ref e3,.ref e6]) hf' fun y hy=> ?_,rfl⟩⟩;have he:∀x∈rs,IG K G7 (GL ov) x:=fun x hx=>(g0 x hx).same fj.sm;simp only[cJ,xT,xW]at hy;rcases hy with rfl|rfl
   ·exact fK f3 (Ii fun y hy=>he y (W6 hy)) (by have:=cl none (some (0+(i:Int)));have:=cl (some (0+(i:Int)+1)) none;rw[gD];omega)
   ·exact fK f6 (Ii fun y hy=>he y (W6 hy)) (by have:=cl none (some (0+(i:Int)+1));have:=cl (some (0+(i:Int))) none;rw[gD];omega)
  rintro σ' H8 ⟨f,ys,fi,rfl⟩
  try dsimp only
  have s0:=fi.sm;refine⟨_,rfl,.inl ⟨rfl,_,SqL.of fi.at_⟩,_,rfl,_,rfl,_,rfl,R0 (sq s0) fun e1 G1 z1 f1=> ?_⟩;refine⟨_,rfl,_,rfl,_,rfl,_,rfl,_,_,rfl,rfl,_,rfl,R0 (sq (s0.trans z1)) fun e2 G2 z2 f2=> ?_⟩;refine⟨_,rfl,_,rfl,rfl,e2,_,rfl,SqL.of f2,fun e3 h3=> ?_⟩;have z3:=aG h3 (.lst (cutV rs (some (0+(i:Int))) (some (0+(i:Int)+2))).reverse);have f3:(upd G2 e3 (.lst (cutV rs (some (0+(i:Int))) (some (0+(i:Int)+2))).reverse)) e3=some (.lst (cutV rs (some (0+(i:Int))) (some (0+(i:Int)+2))).reverse):=aD;have f1:=(z2.trans z3) _ _ f1;have s3:=z1.trans (z2.trans z3);generalize (upd G2 e3 (.lst (cutV rs (some (0+(i:Int))) (some (0+(i:Int)+2))).reverse))=G3 at *;have cr:=cl (some (0+(i:Int))) (some (0+(i:Int)+2));have c0:=cl none (some (0+(i:Int)));have c2:=cl (some (0+(i:Int)+2)) none;refine qT f1 f3 (ch _ _) (by rw[Nh];omega) fun e4 G4 z4 f4 _=> ?_;have s4:=s3.trans z4;refine⟨_,rfl,_,rfl,_,_,rfl,rfl,_,rfl,Vr (sq (s0.trans s4)) fun e5 G5 z5 f5=> ?_⟩;refine qT (z5 _ _ f4) f5 (by rw[gD,Nh];omega) (ch _ _) fun e6 G6 z6 f6 h6=> ?_;have s6:=s4.trans (z5.trans z6);have fj:=fi.same s6;have nd:e6≠f:=fun z=>by rw[z,(s4.trans z5) _ _ fi.at_]at h6;cases h6
  refine⟨f,ys,.ref e6,rfl,rfl,fj.at_,by have:=fj.len;rw[eX];omega,?_⟩;have he:∀x∈rs,IG K (del G6 f f) (GL ov) x:=fun x hx=>(g0 x hx).same fj.oU;have vn:Vn K (del G6 f f) (GL ov) (.ref e6):=fK (cQ f6 nd nd) (Ii fun y hy=>he y (by
   rcases jh.mp hy with hm|hm
   ·rcases jh.mp hm with hm|hm
    ·exact gQ hm
    ·exact gQ (List.mem_reverse.mp hm)
   ·exact gQ hm)) (by rw[gD,gD,Nh];omega)
  have fk:=fj.push vn;exact⟨f,_,_,_,_,_,_,⟨fk.sm,fk.nf,fk.at_,fk.all,by have:=fk.len;omega⟩,rfl⟩
 ·obtain⟨f,ys,a3,a4,a5,a6,a7,fi,rfl⟩:=p;exact⟨_,rfl,q f ys H' fi.sm fi.at_ (fun y hy=>(fi.all y hy).same wX) (by have:=fi.len;omega)⟩
theorem nq{d:PyData}(h:d.canLay0=true){A B:Prop}(hB:B):if(!PyData.eqv d d)=true then A else B:=by rw[PySem.SeqAt.eqv_refl d h];exact iteF hB
theorem zP{ds:List PyData}(h:PyData.depthAll ds<=5):min (PyData.list ds).depth (PyData.list ds).depth<=64:=by
 have:(PyData.list ds).depth=PyData.depthAll ds+1:=rfl;omega
theorem wC{b c:Bool}(h:b=c):(!decide (V.bl b=V.bl c))=false:=by rw[h];simp
theorem Kh{xs:List V}(h:xs.length=7){k:Int}(h0:0<=k)(h1:k<7):∃x∈xs,atI xs k=some x:=by
 have hk:k.toNat<xs.length:=by omega
 refine⟨xs[k.toNat],Nb hk,?_⟩;have:=yh (dD hk)
 rwa [show((k.toNat:Nat):Int)=k by omega]at this
def QS(K:W.Frag):Sp:=fun vs H Q _=>∃(a wa la ta:Addr) (n:Int) (ts:L0) (wl:List Int) (rs:List V) (l:List (List Int×(Int×Nat))) (ov:Nat) (u:Int) (v:Nat),vs=[.ref a,.ref wa,.ref la,.ref ta]/\cB K H a n ts/\SqT K H wa (wl.map V.int)/\j5 n wl/\H la=some (.lst rs)/\iC K H rs l/\rs.length<=16/\(∀q∈l,q.1.length<=10/\0<=q.2.1/\q.2.1<=1000000000000000/\q.2.2<=1000000000000000/\q.2.2∣ov)/\0<ov/\ov<=39916800/\xG K H ta (u,v)/\v<=1000000000000000/\∀H',Same H H'->Q (.bl true) H'
theorem Tv{f f1 f2 f3 f4 f5 f6 f7:Addr}{fd d1 d2 d3 d4 d5 d6 d7:FuncData}(F:Fun K "_law_alayings_right" "_law_alayings_right" zcf f fd)(D1:bO K mg "_law_alayings" gk ["web","laying"] f1 d1)(YD:FnOk P w K mg base CX0 2 f1 d1 ["web","laying"] (Jw K))(D2:bO K mg "_law_ahas_enough" zcx ["wants","laying"] f2 d2)(G2:FnOk P w K mg base CX0 3 f2 d2 ["wants","laying"] (Ej K))(D3:bO K mg "_law_ais_laying" zdk ["web","laying"] f3 d3)(G3:FnOk P w K mg base CX0 3 f3 d3 ["web","laying"] (Ei K))(D4:bO K mg "_law_anumbers" YG ["total"] f4 d4)(G4:FnOk P w K mg base CX0 1 f4 d4 ["total"] (Jv K))(D5:bO K mg "is_enough" jJ ["web","wants","laying","number"] f5 d5)(G5:FnOk P w K mg base CX0 8 f5 d5 ["web","wants","laying","number"] (Jq K))(D6:bO K mg "_law_ano_more" U9 ["one","other"] f6 d6)(G6:FnOk P w K mg base CX0 1 f6 d6 ["one","other"] (yH K))(D7:bO K mg "_law_asum" dM ["some"] f7 d7)(G7:FnOk P w K mg base CX0 2 f7 d7 ["some"] (sy K))(bf:mg "len"=none)(cM:mg "list"=none)(au:mg "isinstance"=none)(tu:mg "bool"=none):
  FnOk P w K mg base CX0 9 f fd ["web","wants","laying","total"] (QS K):=by
 have G1:FnOk P w K mg base CX0 8 f1 d1 ["web","laying"] (Jw K):=YD.mono (by decide);refine F.cT ["web","wants","laying","total","one","good","number","handed","found"] fun cdv A outer s H vs Q E hr h=> ?_;obtain⟨a,wa,la,ta,n,ts,wl,rs,l,ov,u,v,rfl,hA,hW,hwl,hl,hv,h16,Xp,ov0,ovb,hT,hvb,q⟩:=h;refine bh ?_;intro Y;refine⟨_,(aP (ux rD rfl (pI (pc G1 hr D1 (aj (pv 0) (aj (pv 2) ak)))) (pG 4) (aP (pS 5 (xO (pc G3 hr D3 (aj (pv 0) (aj (pv 4) ak))) (yd (pc G2 hr D2 (aj (pv 1) (aj (pv 4) ak)))))) (aZ (ux rD rfl (pI (qH (aj (pv 3) (aj (bx lK (pc G4 hr D4 (aj (pv 3) ak)) (aX pJ aq (aX op_mod (pB rA bf (aj (pv 4) ak)) aq))) ak)))) (pG 6) (aP (pS 7 (pT call_list_of cM (aj (pv 4) ak))) (aP (pS 8 (pc G5 hr D5 (aj (pv 0) (aj (pv 1) (aj (pv 7) (aj (pv 6) ak)))))) (aP (lC (PW.pt (pw_or (nA (lW (pB yp au (aj (pv 8) (aj (pN "bool" tu) ak))))) (pw_or1 (iD (BK hr.units) (pv 7) (pv 4))))) (aZ (bQ lB)) lD) (aZ (lC (iD op_ne (pv 8) (xO (pv 5) (yd (pc G6 hr D6 (aj (pc G7 hr D7 (aj (pK ["some","share"] [] [] (pI (pv 4)) (eE K (n:=2) rfl (jq (pG 0) (jq (pG 1) xQ))) lM (pv 1)) ak)) (aj (pv 6) ak)))))) (aZ (bQ lB)) lD))))))))) (aZ (bQ lB))),?_⟩;refine dH ?_;intro c2;have h0:=hA.h0;have h10:=hA.h1;have hwn:=hwl.1;refine⟨_,rfl,_,rfl,a,la,n,ts,rs,l,ov,rfl,hA,hl,hv,h16,Xp,fun r ys H1 s1 er hvn hyl=>⟨r,ys,rfl,SqL.of er,fun hz=> ?_⟩⟩;let iB:Nat->St->Hp->Prop:=fun j σ H'=>Same H1 H'/\∃o4 o5 o6 o7 o8,σ=[some (.ref a),some (.ref wa),some (.ref la),some (.ref ta),o4,o5,o6,o7,o8];refine for_list (xs:=ys) iB ⟨Same.refl _,_,_,_,_,_,rfl⟩ (fun j σ H' _ p=>SqL.of (p.1 _ _ er)) (fun j y σ H' hy p=> ?_) (fun σ H' p=> ?_)
 ·obtain⟨sm,o4,o5,o6,o7,o8,rfl⟩:=p;obtain⟨l1,xs,rfl,hl1,hn1,hx1⟩:=(hvn y (gZ hy)).same sm;obtain⟨ds,hds,T7,hdp,hfw,D,hD⟩:=Km hn1 ov0 ovb n ts;have hdl:=hds.dx.len;have st:=s1.trans sm;dsimp only[gName,List.set];refine Fz (fun σ' H2=>Same H' H2/\σ'=[some (.ref a),some (.ref wa),some (.ref la),some (.ref ta),some (.ref l1),some (.bl (layB n ts ds&&hasB D wl (ds.map qP))),o6,o7,o8]) (fun N hN=> ?_) ?_
  ·refine⟨_,rfl,_,rfl,a,l1,n,ts,xs,ds,rfl,hA.same st,SqL.of hl1,hds.dx,by omega,hfw,fun H2 s2=>⟨_,rfl,?_⟩⟩;refine ite2 (fun c=> ?_) (fun c=> ?_)
   ·obtain⟨l2,rfl,hv2,_⟩:=lay_of (hds.dx.same s2) (Bool.and_eq_true_iff.mp c).1;have hl2:=Paired.bV hv2;have uM:=hD c;rw[jz]at uM;refine⟨_,rfl,_,rfl,wa,l1,wl,xs,l2,D,rfl,(st.trans s2).tup hW,by omega,SqL.of (s2 _ _ hl1),hv2,by omega,uM,fun H3 s3=>hN _ _ ⟨s2.trans s3,by rw[c,jz];rfl⟩⟩
   ·refine hN _ _ ⟨s2,?_⟩;rw[Bool.eq_false_iff.mpr c];rfl
  rintro σ' H2 ⟨s2,rfl⟩
  try dsimp only
  have st2:=st.trans s2;refine⟨_,rfl,_,rfl,ta,u,v,rfl,st2.tup hT,hvb,fun rn xn G1 y1 ern hn7 hnum=> ?_⟩;obtain⟨xk,hxk,Uz⟩:=Kh hn7 (k:=1+((xs.length:Nat):Int) %6) (by omega) (by omega);refine⟨_,rfl,l1,xs,rfl,.inl (SqL.of ((s2.trans y1) _ _ hl1)),fun hz=>⟨_,_,rfl,rfl,(show(0:Int)<6 by decide),_,_,rfl,rfl,rn,xn,_,xk,rfl,rfl,SqL.of ern,Uz,(by show 2<=sizeLine;decide),fun nl hnl=> ?_⟩⟩;have y2:=aG hnl (.lst [.ref ta,xk]);have Ym:(upd G1 nl (.lst [.ref ta,xk])) nl=some (.lst [.ref ta,xk]):=aD;have Ug:∀x∈[V.ref ta,xk],qz K (upd G1 nl (.lst [.ref ta,xk])) x:=fun x hx=>by
   simp only[cJ,xT,xW]at hx;rcases hx with rfl|rfl
   ·exact⟨ta,u,v,rfl,(st2.trans (y1.trans y2)).tup hT,by omega⟩
   ·exact(hnum _ hxk).same y2
  have s3:=s2.trans (y1.trans y2);generalize (upd G1 nl (.lst [.ref ta,xk]))=H3 at *;refine⟨nl,_,rfl,SqL.of Ym,fun hz=> ?_⟩;let oV:Nat->St->Hp->Prop:=fun k σ H4=>Same H3 H4/\∃o6 o7 o8,σ=[some (.ref a),some (.ref wa),some (.ref la),some (.ref ta),some (.ref l1),some (.bl (layB n ts ds&&hasB D wl (ds.map qP))),o6,o7,o8];refine for_list (xs:=[.ref ta,xk]) oV ⟨Same.refl _,_,_,_,rfl⟩ (fun k σ H4 _ p=>SqL.of (p.1 _ _ Ym)) (fun k y σ H4 hy p=> ?_) (fun σ H4 p=> ?_)
  ·obtain⟨s4,o6,o7,o8,rfl⟩:=p;obtain⟨na,nu,nv,rfl,hna,Xq⟩:=(Ug y (gZ hy)).same s4;have t4:=s3.trans s4;have u4:=st.trans t4;dsimp only[gName,List.set];refine⟨_,rfl,l1,xs,rfl,.inl (SqL.of (t4 _ _ hl1)),fun hd hhd=> ?_⟩;have y5:=aG hhd (.lst xs);have Yn:(upd H4 hd (.lst xs)) hd=some (.lst xs):=aD;generalize (upd H4 hd (.lst xs))=H5 at *;have t5:=t4.trans y5;have u5:=st.trans t5;dsimp only[gName,List.set];refine⟨_,rfl,_,rfl,_,rfl,_,rfl,a,wa,hd,na,n,ts,wl,xs,ds,D,nu,nv,rfl,hA.same u5,u5.tup hW,hwl,SqL.of Yn,hds.dx.same t5,by omega,y5.tup hna,Xq,hD,fun H6 y6=> ?_⟩;have t6:=t5.trans y6;dsimp only[gName,List.set];refine⟨_,rfl,.bl _,_,_,rfl,(DX.bl _).kind,.inr (.inl rfl),_,rfl,iteF ?_⟩;refine⟨_,rfl,_,rfl,.list ds,.list ds,.lst (SqL.of (y6 _ _ Yn)) (hds.same t6),.lst (SqL.of (t6 _ _ hl1)) (hds.same t6),T7,T7,zP hdp,_,rfl,nq (d:= .list ds) T7 ?_⟩;refine⟨_,rfl,_,rfl,_,rfl,?_⟩;refine ite2 (fun c=> ?_) (fun c=> ?_)
   ·obtain⟨c1,c2⟩:=Bool.and_eq_true_iff.mp c;have uM:=hD c1;obtain⟨l2,e2,hv2,_⟩:=lay_of (hds.dx.same t6) (Bool.and_eq_true_iff.mp c1).1;have hl2:=Paired.bV hv2;have K1:rm D (l2.map (·.2)):=by rw[e2,jz]at uM;exact uM
    have Uy:CN n ts wl D ds nu nv=decide (fL D (l2.map (·.2))*(nv:Int)<=nu*(D:Int)):=by
     unfold CN;rw[c1,c2,e2,jz];rfl
    refine⟨_,rfl,l1,xs,rfl,SqL.of (t6 _ _ hl1),fun hz=> ?_⟩;let ud:Nat->List V->St->Hp->Prop:=fun i acc σ H'=>H'=H6/\bW K H6 acc ((l2.take i).map (·.2))/\∃o1 o2,σ=[o1,o2];refine vK (xs:=xs) ud ⟨rfl,.nil,_,_,rfl⟩ (fun i acc σ H' _ p=>by rw[p.1];exact SqL.of (t6 _ _ hl1)) (fun i acc σ H' _ p=> ?_) hz (fun i x acc σ H' hx p=> ?_) (fun acc σ H' p=> ?_)
    ·rw[Paired.bV p.2.1,aJ,xU];exact Ax _ _
    ·obtain⟨rfl,hp,o1,o2,rfl⟩:=p;obtain⟨hi,tt,sa,fa,rfl,k1,k2,k3⟩:=nP hv2 hx;refine⟨tt,_,rfl,k1,rfl,_,_,rfl,_,_,rfl,rfl,_,rfl,rfl,?_,_,_,rfl⟩;rw[Qq hi,cO];exact Paired.snoc hp ⟨fa,rfl,k3⟩
    intro p1 hp1;obtain⟨rfl,hp,_⟩:=p;rw[Mu (by omega)]at hp;have z1:=aG hp1 (.lst acc);refine⟨p1,acc,_,D,rfl,SqL.of aD,bW.same hp z1,K1,by rw[Paired.bV hp,aJ];omega,fun pf H7 y7 hpf=> ?_⟩;have ll:=FJ (fL D (l2.map (·.2))) K1.pos;refine⟨_,rfl,pf,na,_,nu,_,nv,rfl,hpf,(y5.trans (y6.trans (z1.trans y7))).tup hna,cC ll.lv K1.le,Xq,rfl,_,rfl,?_⟩;have ec:=(Ov K1.pos (fL D (l2.map (·.2)))).cmp K1.pos (u:=nu) (v:=nv);rw[wC (Uy.trans (decide_eq_decide.mpr ec).symm)];exact iteF ⟨s4.trans (y5.trans (y6.trans (z1.trans y7))),_,_,_,rfl⟩
   ·refine⟨rfl,_,rfl,?_⟩;have Uy:CN n ts wl D ds nu nv=false:=by
     unfold CN;rw[<-Bool.and_assoc,Bool.eq_false_iff.mpr c];rfl
    rw[wC Uy];exact iteF ⟨s4.trans (y5.trans y6),_,_,_,rfl⟩
  ·obtain⟨s4,o6,o7,o8,rfl⟩:=p;exact⟨sm.trans (s3.trans s4),_,_,_,_,_,rfl⟩
 ·obtain⟨sm,o4,o5,o6,o7,o8,rfl⟩:=p;exact q _ (s1.trans sm)
theorem JB{f:Nat->Int}:∀k,(∀i,i<k->0<=f i)->∀i,i<k->f i<=Sx.sm k f
 |0,_,i,hi=>absurd hi (M9 _)
 |k+1,h,i,hi=>by
  show f i<=Sx.sm k f+f k;have h1:=Sx.yJ k fun j hj=>h j (by omega);have h2:=h k (by omega);by_cases e:i=k
  ·rw[e];omega
  ·have:=JB k (fun j hj=>h j (by omega)) i (by omega);omega
theorem Wk{n:Nat}{ts:L0}{ss:List (List Int)}{wl:List Int}{ov:Nat}{Z:Int}{Y X:Nat->Int}(hS:cH ss ts false n)(h:Sh n ss wl ov Z Y X){p:Nat}(hp:p<n):X p<=(ov:Int):=by
 obtain⟨k,hk,hs⟩:=Lr hS hp;have:=JB (f:=fun p=>if gF ss k p=true then X p else 0) n (fun i _=>by
  show 0<=(if gF ss k i=true then X i else 0);split
  ·exact h.xn i
  ·exact Dv _) p hp
 have l:=h.lig k hk
 try dsimp only at this
 rw[aB hs]at this;omega
theorem aac{n:Nat}{ts:L0}{ss:List (List Int)}{wl:List Int}{ov:Nat}{Z:Int}{Y X:Nat->Int}(hS:cH ss ts false n)(h:Sh n ss wl ov Z Y X)(hn:n<=10)(hw:∀x∈wl,0<=x/\x<=99):Z<=990*(ov:Int):=by
 have hwt:∀i,0<=qO wl i/\qO wl i<=99:=fun i=>by
  unfold qO;rw[iM];cases e:wl[i]? with
  |none=>exact⟨by decide,by decide⟩
  |some x=>exact hw x (gZ e)
 have:=(Sx.Bo (f:=fun p=>qO wl p*X p) (b:=99*(ov:Int)) n fun i hi=>by
  have a:=hwt i;have b:=h.xn i;have c:=Wk hS h hi;have h1:0<=qO wl i*X i:=yt a.1 b;have h2:qO wl i*X i<=99*X i:=Wj a.2 b;exact⟨by omega,by show qO wl i*X i<=_;omega⟩).2
 rw[h.Y9]at this;have h3:(n:Int)*(99*(ov:Int))<=10*(99*(ov:Int)):=Wj (by omega) (by omega);omega
theorem Fb{a:Int}{D:Nat}(hD:0<D)(ha:0<=a):0<=(aO a D).1/\(aO a D).1<=a/\(aO a D).2<=D/\(aO a D).2∣D:=by
 have l:=FJ a hD;have h1:=l.nn ha;have h2:=l.lu;exact⟨h1,by omega,l.lv,tD hD⟩
theorem Xf{n:Nat}{ts:L0}{ss:List (List Int)}{wl:List Int}{ov:Nat}{Z:Int}{Y X:Nat->Int}(hS:cH ss ts false n)(h:Sh n ss wl ov Z Y X)(hn:n<=10)(hw:∀x∈wl,0<=x/\x<=99):∀q∈Fd ss ov Y,q.1.length<=10/\0<=q.2.1/\q.2.1<=1000000000000000/\q.2.2<=1000000000000000/\q.2.2∣ov:=fun q hq=>by
 obtain⟨k,hk,rfl⟩:=lX.mp hq;have hk:=pO.mp (lN.mp hk).1;have e:ss.getD k []=ss[k]:=by rw[iM,dD hk];rfl
 have sk:=vW hS (Nb hk);have zl:=aac hS h hn hw;have yl:=JB _ (fun i _=>h.yn i) k hk;rw[h.tot]at yl;have ob:=h.big;obtain⟨a,b,c,d⟩:=Fb h.pos (h.yn k);refine⟨?_,a,by show(aO (Y k) ov).1<=_;omega,by show(aO (Y k) ov).2<=_;omega,d⟩;show(ss.getD k []).length<=10;rw[e];have:=rJ sk.up sk.lt;omega
theorem WL{n:Nat}{ts:L0}{ss:List (List Int)}{wl:List Int}{ov:Nat}{Z:Int}{Y X:Nat->Int}(hS:cH ss ts false n)(h:Sh n ss wl ov Z Y X):∀f∈J0 n ov X,0<=f.1/\f.1<=1000000000000000/\f.2<=1000000000000000/\f.2∣ov:=fun f hf=>by
 obtain⟨p,hp,rfl⟩:=lX.mp hf;have xl:=Wk hS h (pO.mp hp);have ob:=h.big;obtain⟨a,b,c,d⟩:=Fb h.pos (h.xn p);exact⟨a,by omega,by omega,d⟩
theorem lay_16{n:Nat}{ts:L0}{ss:List (List Int)}{ov:Nat}{Y:Nat->Int}(hS:cH ss ts false n)(hn:n<=4):(Fd ss ov Y).length<=16:=by
 unfold Fd;rw[aJ];refine cC (uX _ _) ?_;rw[rC,hS.1.length_eq];refine cC (uX _ _) (cC (nR n) ?_);exact cC (wde (by decide) hn) (by decide)
theorem Same.WQ{H0 H H':Hp}{d:Addr}(s:Same H0 H)(n:H0 d=none)(e:bw d H H'):Same H0 H':=fun b u h=>e _ _ (fun z=>by rw[z,n]at h;cases h) (s _ _ h)
def spLaw(K:W.Frag):Sp:=fun vs H Q _=>∃(a:Addr) (ns:List Int),vs=[.ref a]/\Ab K H a ns/\ns.length<=63/\∀H',Q (.bl true) H'
theorem Jp{H:Hp}{a:Addr}{ns:List Int}(hl:ns.length<=63)(hO:Only H)(hS:SqL K H a (ns.map V.int)):spLaw K [.ref a] H (fun v _=>v= .bl true) fun _ _ _=>False:=by
 refine⟨a,ns,rfl,?_,hl,fun _=>rfl⟩;rcases hS with(h|⟨o,h⟩)|h
 ·rcases hO a with q|⟨o,xs,q⟩
  ·rw[q]at h;cases h
  ·rw[q]at h;cases h
 ·exact .inl ⟨o,h⟩
 ·exact .inr h
theorem ok_law{f f1 f2 f3 f4 f5 f6 f7 f8 f9 Z8 f11:Addr}{fd d1 d2 d3 d4 d5 d6 d7 d8 d9 d10 d11:FuncData}(F:Fun K "law" "law" qI f fd)(D1:bO K mg "_law_atape" jF ["script","k"] f1 d1)(YD:FnOk P w K mg base CX0 2 f1 d1 ["script","k"] (Bh K))(D2:bO K mg "_law_aweb" mq ["tape","most"] f2 d2)(G2:FnOk P w K mg base CX0 2 f2 d2 ["tape","most"] (Ju K))(D3:bO K mg "_law_adigit" fU ["tape","many"] f3 d3)(G3:FnOk P w K mg base CX0 1 f3 d3 ["tape","many"] (Jr K))(D4:bO K mg "shares" sH ["web","wants"] f4 d4)(G4:FnOk P w K mg base CX0 9 f4 d4 ["web","wants"] (yE K))(D5:bO K mg "_law_alayings_right" zcf ["web","wants","laying","total"] f5 d5)(G5:FnOk P w K mg base CX0 9 f5 d5 ["web","wants","laying","total"] (QS K))(D6:bO K mg "_law_aall_prices" zcz ["prices"] f6 d6)(G6:FnOk P w K mg base CX0 2 f6 d6 ["prices"] (QM K))(D7:bO K mg "_law_aare_prices" zcy ["web","prices"] f7 d7)(G7:FnOk P w K mg base CX0 3 f7 d7 ["web","prices"] (Eh K))(D8:bO K mg "_law_anumbers" YG ["total"] f8 d8)(G8:FnOk P w K mg base CX0 1 f8 d8 ["total"] (Jv K))(D9:bO K mg "are_prices" iU ["web","wants","prices","number"] f9 d9)(G9:FnOk P w K mg base CX0 9 f9 d9 ["web","wants","prices","number"] (Jm K))(D10:bO K mg "_law_ano_more" U9 ["one","other"] Z8 d10)(G10:FnOk P w K mg base CX0 1 Z8 d10 ["one","other"] (yH K))(D11:bO K mg "_law_aworth" iR ["wants","prices"] f11 d11)(G11:FnOk P w K mg base CX0 3 f11 d11 ["wants","prices"] (Ef K))(aH:mg "range"=none)(vq:mg "max"=none)(Kq:mg "min"=none)(bf:mg "len"=none)(bM:mg "tuple"=none)(bJ:mg "enumerate"=none)(cM:mg "list"=none)(au:mg "isinstance"=none)(tu:mg "bool"=none):
  FnOk P w K mg base CX0 10 f fd ["script"] (spLaw K):=by
 have G1:FnOk P w K mg base CX0 9 f1 d1 ["script","k"] (Bh K):=YD.mono (by decide);refine F.cT ["script","start","tape","web","most","wants","total","laying","prices","at","one","good","number","handed","found"] fun cdv A outer s H vs Q E hr h=> ?_;obtain⟨pZ,ns,rfl,hS,h63,q⟩:=h;refine bh ?_;intro Y;refine⟨_,(aP (ux rD rfl (pi_range2 rfl aH (aj aq (aj (pB (call_max2 rfl) vq (aj aq (aj (pB (call_min2 rfl) Kq (aj aq (aj (pB rA bf (aj (pv 0) ak)) ak))) ak))) ak))) (pG 1) (aP (pS 2 (pc G1 hr D1 (aj (pv 0) (aj (pv 1) ak)))) (aP (pS 3 (pc G2 hr D2 (aj (pv 2) (aj aq ak)))) (aP (pS 4 (bx lK (qH (aj aq (aj aq (aj aq ak)))) (pc G3 hr D3 (aj (pv 2) (aj aq ak))))) (aP (pS 5 (pT call_tuple_of bM (aj (pK ["place"] ["tape","most"] [2,4] (Aw rfl aH (aj (bx fM (pv 3) aq) ak)) (pG 0) lM (pc G3 hr D3 (aj (pv 1) (aj (pv 2) ak)))) ak))) (aP (ps_asg (pc G4 hr D4 (aj (pv 3) (aj (pv 5) ak))) (pg_tup rfl (jq (pG 6) (jq (pG 7) (jq (pG 8) xQ))))) (aP (lC (nA (lW (pc G5 hr D5 (aj (pv 3) (aj (pv 5) (aj (pv 7) (aj (pv 6) ak))))))) (aZ (bQ lB)) lD) (aZ (ux rD rfl (oh rfl bJ (aj (pc G6 hr D6 (aj (pv 8) ak)) ak)) (pg_tup rfl (jq (pG 9) (jq (pG 10) xQ))) (aP (pS 11 (pc G7 hr D7 (aj (pv 3) (aj (pv 10) ak)))) (aZ (ux rD rfl (pI (qH (aj (pv 6) (aj (bx lK (pc G8 hr D8 (aj (pv 6) ak)) (aX pJ aq (aX op_mod (pv 9) aq))) ak)))) (pG 12) (aP (pS 13 (pT call_list_of cM (aj (pv 10) ak))) (aP (pS 14 (pc G9 hr D9 (aj (pv 3) (aj (pv 5) (aj (pv 13) (aj (pv 12) ak)))))) (aP (lC (PW.pt (pw_or (nA (lW (pB yp au (aj (pv 14) (aj (pN "bool" tu) ak))))) (pw_or1 (iD (BK hr.units) (pv 13) (pv 10))))) (aZ (bQ lB)) lD) (aZ (lC (iD op_ne (pv 14) (xO (pv 11) (yd (pc G10 hr D10 (aj (pv 12) (aj (pc G11 hr D11 (aj (pv 5) (aj (pv 10) ak))) ak)))))) (aZ (bQ lB)) lD))))))))))))))))) (aZ (bQ lB))),?_⟩;refine dH ?_;intro c2;refine⟨_,rfl,pZ,_,rfl,.inl hS.sq,fun hz=>⟨_,_,rfl,_,_,rfl,_,_,rfl,?_⟩⟩;obtain⟨m,em,hm0,hm1⟩:∃m:Int,(if(if((ns.map V.int).length:Int)<3 then((ns.map V.int).length:Int)else 3)>1 then(if((ns.map V.int).length:Int)<3 then((ns.map V.int).length:Int)else 3)else 1)=m/\0<=m/\m<=3:=by
  refine⟨_,rfl,?_,?_⟩
  ·split
   ·split<;>omega
   ·omega
  ·split
   ·split<;>omega
   ·omega
 rw[em];refine⟨⟨by decide,by decide,by omega,by omega⟩,?_⟩;let iB:Nat->St->Hp->Prop:=fun i σ H'=>Same H H'/\∃o1 o2 o3 o4 o5 o6 o7 o8 o9 TQ TJ Kf Ke Kd,σ=[some (.ref pZ),o1,o2,o3,o4,o5,o6,o7,o8,o9,TQ,TJ,Kf,Ke,Kd];refine Ij (n:=(m-0).toNat) iB ⟨Same.refl _,_,_,_,_,_,_,_,_,_,_,_,_,_,_,rfl⟩ (fun i σ H1 hi p=> ?_) (fun σ H1 p=> ?_)
 ·obtain⟨s1,o1,o2,o3,o4,o5,o6,o7,o8,o9,TQ,TJ,Kf,Ke,Kd,rfl⟩:=p;have hS1:=hS.same s1;clear hm0 hm1 em hi;refine⟨_,rfl,_,rfl,pZ,ns,0+(i:Int),rfl,hS1,by omega,fun tp H2 t s2 htp aaq=> ?_⟩;refine⟨_,rfl,tp,t,4,rfl,htp,by decide,by decide,fun r n ts H3 t3 x3 h3 hW hn4=> ?_⟩;have h0:=hW.h0;dsimp only[gName,List.set];refine Fz (fun σ' H'=>bw tp H3 H'/\(∃t,H' tp=some (.lst [.int t]))/\∃m:Int,0<m/\m<=100/\σ'=[some (.ref pZ),some (.int (0+(i:Int))),some (.ref tp),some (.ref r),some (.int m),o5,o6,o7,o8,o9,TQ,TJ,Kf,Ke,Kd]) (fun N hN=> ?_) ?_
  ·refine⟨(by show 3<=sizeLine;decide),fun ml hml=>⟨_,rfl,?_⟩⟩;have y1:=aG hml (.lst [.int 2,.int 5,.int 100]);have nml:ml≠tp:=yZ h3 hml;refine⟨tp,t3,3,rfl,y1 _ _ h3,by decide,by decide,fun d t4 d0 d1=> ?_⟩;have em:∃m:Int,0<m/\m<=100/\atI ([2,5,100].map V.int) d=some (.int m):=by
    have:d=0\/d=1\/d=2:=by omega
    rcases this with rfl|rfl|rfl
    ·exact⟨2,by decide,by decide,rfl⟩
    ·exact⟨5,by decide,by decide,rfl⟩
    ·exact⟨100,by decide,by decide,rfl⟩
   obtain⟨m,k0,k1,k2⟩:=em;refine⟨ml,_,_,.int m,rfl,rfl,SqL.of (by rw[cD nml];exact aD),k2,?_⟩;exact hN _ _ ⟨(y1.x tp).trans (bw.refl _ _).upd,⟨t4,aD⟩,m,k0,k1,rfl⟩
  rintro σ' H4 ⟨x4,⟨t4,h4⟩,m,k0,k1,rfl⟩
  try dsimp only
  have hW4:=hW.Eo x4 h3;obtain⟨tw,rw',w1,w2,w3⟩:=id hW4.web;refine⟨_,rfl,r,_,_,.int n,rfl,rfl,w1,rfl,n,rfl,by omega,by omega,?_⟩;let oV:Nat->List V->St->Hp->Prop:=fun i acc σ H'=>(∃wl:List Int,acc=wl.map V.int/\wl.length=i/\∀x∈wl,0<=x/\x<=99)/\bw tp H4 H'/\(∃t,H' tp=some (.lst [.int t]))/\∃o,σ=[o,some (.ref tp),some (.int m)];refine Qh (n:=n.toNat) oV ⟨⟨[],rfl,rfl,fun _ h=>nomatch h⟩,bw.refl _ _,⟨_,h4⟩,_,rfl⟩ (fun i acc σ H' hi p=>by obtain⟨⟨wl,rfl,e,_⟩,_⟩:=p;rw[aJ,e];exact aN _) (by rw[eX];omega) (fun i acc σ H' hi p=> ?_) (fun acc σ H' p=> ?_)
  ·obtain⟨⟨wl,rfl,hl,hb⟩,xx,⟨t2,Xn⟩,o,rfl⟩:=p;refine⟨_,rfl,_,rfl,tp,t2,m,rfl,Xn,by omega,by omega,fun d t5 d0 d1=> ?_⟩;refine⟨⟨wl++[d],by rw[cO];rfl,by rw[gD,hl];rfl,fun x hx=> ?_⟩,xx.upd,⟨_,aD⟩,_,rfl⟩;rcases jh.mp hx with z|z
   ·exact hb x z
   ·rw[ji.mp z];exact⟨d0,by omega⟩
  intro p1 hp1;obtain⟨⟨wl,rfl,hl,hb⟩,xx,⟨t2,Xn⟩,o,rfl⟩:=p;have y2:=aG hp1 (.lst (wl.map V.int));refine⟨p1,_,rfl,.inl ⟨SqL.of aD,fun wa hwa=> ?_⟩⟩;have y3:=y2.trans (aG hwa (.tup (wl.map V.int)));have hWa:SqT K (upd (upd H' p1 (.lst (wl.map V.int))) wa (.tup (wl.map V.int))) wa (wl.map V.int):=SqT.of aD;have hwl:j5 n wl:=⟨by omega,hb⟩;have hW5:=(hW4.Eo xx h4).same y3;have NP:Same H1 (upd (upd H' p1 (.lst (wl.map V.int))) wa (.tup (wl.map V.int))):=(Same.WQ s2 aaq (x3.trans (x4.trans xx))).trans y3;generalize upd (upd H' p1 (.lst (wl.map V.int))) wa (.tup (wl.map V.int))=H5 at *;dsimp only[gName,List.set];refine⟨_,rfl,_,rfl,r,wa,n,ts,wl,rfl,hW5,hWa,hwl,fun fr va la pa lrefs aK ss ov Z Y X H6 s6 e1 e2 e3 e4 e5 e6 hSo hSh na1 na2 hne=>⟨fr,_,rfl,SqT.of e1,rfl,_,_,rfl,_,_,rfl,_,_,rfl,rfl,?_⟩⟩;dsimp only[gName,List.set];have hW6:=hW5.same s6;have Ud:=s6.tup hWa;have nn:n.toNat<=4:=by omega
  have ob:=hSh.big;have lz:=(FJ Z hSh.pos).lv;have hll:lrefs.length<=16:=by rw[Paired.bV e4];exact lay_16 hSo nn
  have hpl:aK.length<=10:=by rw[Paired.bV e6];unfold J0;rw[aJ,rC];omega
  refine⟨_,rfl,_,rfl,_,rfl,_,rfl,r,wa,la,va,n,ts,wl,lrefs,_,ov,(aO Z ov).1,(aO Z ov).2,rfl,hW6,Ud,hwl,e3,e4,hll,Xf hSo hSh (by omega) hb,hSh.pos,hSh.big,e2,by omega,fun H7 s7=>⟨_,rfl,iteF ?_⟩⟩;refine⟨_,rfl,pa,aK,_,ov,rfl,s7 _ _ e5,bW.same e6 s7,hpl,WL hSo hSh,fun pl ys H8 s8 epl hvn hyl=> ?_⟩;have Vs:=s7.trans s8;refine⟨false,pl,ys,rfl,SqL.of epl,fun hz=> ?_⟩;let ud:Nat->St->Hp->Prop:=fun j σ H'=>Same H8 H'/\∃o9 TQ TJ Kf Ke Kd,σ=[some (.ref pZ),some (.int (0+(i:Int))),some (.ref tp),some (.ref r),some (.int m),some (.ref wa),some (.ref va),some (.ref la),some (.ref pa),o9,TQ,TJ,Kf,Ke,Kd];refine Le (K:=K) (b:=false) (a:=pl) (xs:=ys) ud ⟨Same.refl _,_,_,_,_,_,_,rfl⟩ (fun j σ H' _ p=>SqL.of (p.1 _ _ epl)) (fun j y tt σ H' hy p ht=> ?_) (fun σ H' p=> ?_)
  ·obtain⟨sm,o9,TQ,TJ,Kf,Ke,Kd,rfl⟩:=p;have y1:=aG ht (.tup [.int (j:Int),y]);have k1':SqT K (upd H' tt (.tup [.int (j:Int),y])) tt [.int (j:Int),y]:=SqT.of aD;have RZ:=sm.trans y1;generalize upd H' tt (.tup [.int (j:Int),y])=H9 at *;refine⟨tt,_,rfl,k1',rfl,_,_,rfl,_,_,rfl,rfl,?_⟩;obtain⟨l1,xs,rfl,hl1,hn1,hx1⟩:=(hvn y (gZ hy)).same RZ;obtain⟨ds,hds,T7,hdp,D,hD⟩:=Kl hn1 hSh.pos hSh.big n;have hdl:=hds.dx.len;have st:=Vs.trans RZ;have hWj:=hW6.same st;dsimp only[gName,List.set];refine⟨_,rfl,_,rfl,r,l1,n,ts,xs,ds,D,rfl,hWj,SqL.of hl1,hds.dx,hD,fun g H10 Wz hg=> ?_⟩;have st2:=st.trans Wz;dsimp only[gName,List.set];refine⟨_,rfl,_,rfl,va,(aO Z ov).1,(aO Z ov).2,rfl,st2.tup e2,by omega,fun rn xn G1 y2 ern hn7 hnum=> ?_⟩;obtain⟨xk,hxk,Uz⟩:=Kh hn7 (k:=1+(j:Int) %6) (by omega) (by omega);refine⟨_,rfl,_,_,rfl,rfl,(show(0:Int)<6 by decide),_,_,rfl,rfl,rn,xn,_,xk,rfl,rfl,SqL.of ern,Uz,(by show 2<=sizeLine;decide),fun nl hnl=> ?_⟩;have y3:=aG hnl (.lst [.ref va,xk]);have Ym:(upd G1 nl (.lst [.ref va,xk])) nl=some (.lst [.ref va,xk]):=aD;have Ug:∀x∈[V.ref va,xk],qz K (upd G1 nl (.lst [.ref va,xk])) x:=fun x hx=>by
    simp only[cJ,xT,xW]at hx;rcases hx with rfl|rfl
    ·exact⟨va,(aO Z ov).1,(aO Z ov).2,rfl,(st2.trans (y2.trans y3)).tup e2,by omega⟩
    ·exact(hnum _ hxk).same y3
   have s3:=Wz.trans (y2.trans y3);generalize (upd G1 nl (.lst [.ref va,xk]))=H11 at *;refine⟨nl,_,rfl,SqL.of Ym,fun hz=> ?_⟩;let LR:Nat->St->Hp->Prop:=fun k σ H4=>Same H11 H4/\∃Kf Ke Kd,σ=[some (.ref pZ),some (.int (0+(i:Int))),some (.ref tp),some (.ref r),some (.int m),some (.ref wa),some (.ref va),some (.ref la),some (.ref pa),some (.int (j:Int)),some (.ref l1),some (.bl (Ao n ds&&g)),Kf,Ke,Kd];refine for_list (xs:=[.ref va,xk]) LR ⟨Same.refl _,_,_,_,rfl⟩ (fun k σ H4 _ p=>SqL.of (p.1 _ _ Ym)) (fun k y σ H12 hy p=> ?_) (fun σ H12 p=> ?_)
   ·obtain⟨s4,Kf,Ke,Kd,rfl⟩:=p;obtain⟨na,nu,nv,rfl,hna,Xq⟩:=(Ug y (gZ hy)).same s4;have t4:=s3.trans s4;dsimp only[gName,List.set];refine⟨_,rfl,l1,xs,rfl,.inl (SqL.of (t4 _ _ hl1)),fun hd hhd=> ?_⟩;have y5:=aG hhd (.lst xs);have Yn:(upd H12 hd (.lst xs)) hd=some (.lst xs):=aD;generalize (upd H12 hd (.lst xs))=H13 at *;have t5:=t4.trans y5;have u5:=st.trans t5;dsimp only[gName,List.set];refine⟨_,rfl,_,rfl,_,rfl,_,rfl,r,wa,hd,na,n,ts,wl,xs,ds,D,nu,nv,rfl,hW6.same u5,u5.tup Ud,hwl,SqL.of Yn,hds.dx.same t5,y5.tup hna,Xq,hD,fun g2 H14 y6 hg2=> ?_⟩;have t6:=t5.trans y6;dsimp only[gName,List.set];refine⟨_,rfl,.bl _,_,_,rfl,(DX.bl _).kind,.inr (.inl rfl),_,rfl,iteF ?_⟩;refine⟨_,rfl,_,rfl,.list ds,.list ds,.lst (SqL.of (y6 _ _ Yn)) (hds.same t6),.lst (SqL.of (t6 _ _ hl1)) (hds.same t6),T7,T7,zP hdp,_,rfl,nq (d:= .list ds) T7 ?_⟩;refine⟨_,rfl,_,rfl,_,rfl,?_⟩;refine ite2 (fun c=> ?_) (fun c=> ?_)
    ·obtain⟨c1,c2⟩:=Bool.and_eq_true_iff.mp c;have uM:=hD c1;have eg:g2=true:=(hg2 c1).mpr ((hg c1).mp c2);have c3:ds.all frB=true:=(Bool.and_eq_true_iff.mp c1).2;have c4:(ds.length:Int)=n:=nM (Bool.and_eq_true_iff.mp c1).1;refine⟨_,rfl,_,rfl,_,rfl,wa,l1,n,wl,xs,ds.map gb,D,rfl,(st.trans t6).tup Ud,hwl,h0,by omega,SqL.of (t6 _ _ hl1),wL (hds.dx.same t6) c3,by omega,uM,fun pf H15 y7 hpf=> ?_⟩;have ll:=FJ (yx D wl (ds.map gb)) uM.pos;refine⟨na,pf,nu,_,nv,_,rfl,(y5.trans (y6.trans y7)).tup hna,hpf,Xq,cC ll.lv uM.le,rfl,_,rfl,?_⟩;have ec:=(Ov uM.pos (yx D wl (ds.map gb))).UJ uM.pos (x:=nu) (v:=nv);have Uy:(Ao n ds&&(g2&&decide (nu*(D:Int)<=yx D wl (ds.map gb)*(nv:Int))))=decide (nu*(((aO (yx D wl (ds.map gb)) D).2:Nat):Int)<=(aO (yx D wl (ds.map gb)) D).1*(nv:Int)):=by
      rw[c1,eg,decide_eq_decide.mpr ec];rfl
     rw[wC Uy];exact iteF ⟨s4.trans (y5.trans (y6.trans y7)),_,_,_,rfl⟩
    ·refine⟨rfl,_,rfl,?_⟩;have Uy:(Ao n ds&&(g2&&decide (nu*(D:Int)<=yx D wl (ds.map gb)*(nv:Int))))=false:=by
      cases e:Ao n ds with
      |false=>rfl
      |true=>
       rw[e]at c;have e3:g2=g:=by
        have:=(hg2 e).trans (hg e).symm;cases g<;>cases g2<;>simp at this⊢
       have e4:g=false:=by cases g with
        |false=>rfl
        |true=>exact absurd rfl c
       rw[e3,e4];rfl
     rw[wC Uy];exact iteF ⟨s4.trans (y5.trans y6),_,_,_,rfl⟩
   ·obtain⟨s4,Kf,Ke,Kd,rfl⟩:=p;exact⟨RZ.trans (s3.trans s4),_,_,_,_,_,_,rfl⟩
  ·obtain⟨sm,o9,TQ,TJ,Kf,Ke,Kd,rfl⟩:=p;exact⟨s1.trans (NP.trans (s6.trans (Vs.trans sm))),_,_,_,_,_,_,_,_,_,_,_,_,_,_,rfl⟩
 ·exact q H1
end
end Hs
namespace L2
open PySem
section
variable{K:W.Frag}{x y:Str}{st:Stmt}{f C:Addr}{fd:FuncData}{oc:Value}{od an:Option Addr}{osl:Array (Option Value)}{kV doc pm cdv ct:Value}{mg:L4}{h:Heap}
def DA(K:W.Frag)(x:Str)(st:Stmt)(f:Addr):Prop:=∃fd,Fun K x x st f fd/\PySem.W.nsIn K mainGlobals x=some (some (.ref f))
theorem DA.of(a:PySem.W.nsIn K mainGlobals x=some (some (.ref f)):=by k_is)(l:K.lookup f=some ⟨oc,od,.func (PySem.W.fnOf x x (defArgs st) (defBody st) (defScope st) .none kV doc pm an cdv ct),osl⟩:=by k_is)(c:PySem.W.codeIn K cdv x=true:=by k_is)(k:PySem.W.keepIn K (.ref f)=true:=by k_is):DA K x st f:=⟨_,fun_mk l c k,a⟩
def MA(K:W.Frag)(C:Addr)(x y:Str)(st:Stmt)(f:Addr):Prop:=∃fd,Fun K x y st f fd/\PySem.W.findIn K (.ref C) x=some (some (.ref f))/\PySem.W.isFn K (.ref f)=true/\PySem.W.keepIn K (.ref f)=true
theorem MA.of(a:PySem.W.findIn K (.ref C) x=some (some (.ref f)):=by k_is)(l:K.lookup f=some ⟨oc,od,.func (PySem.W.fnOf x y (defArgs st) (defBody st) (defScope st) .none kV doc pm an cdv ct),osl⟩:=by k_is)(c:PySem.W.codeIn K cdv y=true:=by k_is)(k:PySem.W.keepIn K (.ref f)=true:=by k_is)(i:PySem.W.isFn K (.ref f)=true:=by k_is):MA K C x y st f:=⟨_,fun_mk l c k,a,i,k⟩
theorem DA.d{ps:List Str}(X:K.In h)(G:h.Ns mainGlobals mg)(F:Fun K x x st f fd)(a:PySem.W.nsIn K mainGlobals x=some (some (.ref f)))(b:∀(kV doc pm:Value) (an:Option Addr) (cdv ct:Value) (us:List Value),us.length=ps.length->bindArgs (PySem.W.fnOf x x (defArgs st) (defBody st) (defScope st) .none kV doc pm an cdv ct) ⟨us,[]⟩=pure (ps.zip us)):bO K mg x st ps f fd:=⟨F,F.binds b,PySem.W.mg_of X G a⟩
theorem MA.d{ps:List Str}(F:Fun K x y st f fd)(a:PySem.W.findIn K (.ref C) x=some (some (.ref f))/\PySem.W.isFn K (.ref f)=true/\PySem.W.keepIn K (.ref f)=true)(b:∀(kV doc pm:Value) (an:Option Addr) (cdv ct:Value) (us:List Value),us.length=ps.length->bindArgs (PySem.W.fnOf x y (defArgs st) (defBody st) (defScope st) .none kV doc pm an cdv ct) ⟨us,[]⟩=pure (ps.zip us)):Hy K C x y st ps f fd:=⟨F,F.binds b,⟨a.1,a.2.1,a.2.2⟩⟩
theorem zY{p1:Str}{P:List Value->Prop}(h:∀a,P [a])(us:List Value)(hl:us.length=[p1].length):P us:=by
 match us,hl with
 |[a],_=>exact h a
theorem nJ{p1 p2:Str}{P:List Value->Prop}(h:∀a b,P [a,b])(us:List Value)(hl:us.length=[p1,p2].length):P us:=by
 match us,hl with
 |[a,b],_=>exact h a b
theorem VH{p1 p2 p3:Str}{P:List Value->Prop}(h:∀a b c,P [a,b,c])(us:List Value)(hl:us.length=[p1,p2,p3].length):P us:=by
 match us,hl with
 |[a,b,c],_=>exact h a b c
theorem Yx{p1 p2 p3 p4:Str}{P:List Value->Prop}(h:∀a b c d,P [a,b,c,d])(us:List Value)(hl:us.length=[p1,p2,p3,p4].length):P us:=by
 match us,hl with
 |[a,b,c,d],_=>exact h a b c d
end
end L2
namespace Hs
open PySem L2 Aq
theorem all_mk{l:W.OpenLaw}{w:World}{K:W.Frag}{h:Heap}{mg:L4}{fa:Addr}(X:K.In h)(G:h.Ns mainGlobals mg)(hfa:mg "law"=some (.ref fa))
  {f0 f1 f2 f3 f4 f5 f6 f7 f8 f9 Z8 f11 f12 f13 f14 f15 f16 f17 f18 f19 f20 f21 f22 f23 f24 f25 f26 f27 f28 f29 f30 f31 f32 f33 f34 f35 f36 f37 f38 f39 f40 f41 f42 f43 f44 f45 f46 f47 mf0 mf1 mf2 mf3 mf4 mf5 mf6 mf7 mf8 mf9:Addr}{f48:Addr}{aaj Yz:Option Addr}{aae:Array (Option Value)}{aak Xi Yp WM UW Yr:Value}{tk0:Tok}{tk1:Tok}{tk2:Tok}{aF:Addr}(a0:DA K "is_whole" dN f0)(a1:DA K "is_place" mF f1)(a2:DA K "are_places" iV f2)(a3:DA K "is_rising" U8 f3)(a4:DA K "is_set" nW f4)(a5:DA K "are_ties" mH f5)(a6:DA K "is_web" sI f6)(a7:DA K "need_web" dJ f7)(a8:DA K "has_tie" p8 f8)(a9:DA K "count_ties_in" fD f9)(a10:DA K "places_by_tie" fu Z8)(a11:DA K "in_both" p7 f11)(a12:DA K "full_sets" jK f12)(a13:DA K "full_apart" fV f13)(a14:DA K "greatest_divisor" YK f14)(a15:DA K "lowest" jE f15)(a16:DA K "is_less" fW f16)(a17:DA K "is_fraction" dX f17)(a18:DA K "sum_of" iI f18)(a19:DA K "need_wants" VP f19)(a20:DA K "shares" sH f20)(a21:DA K "is_share" mD f21)(a22:DA K "is_laying" jH f22)(a23:DA K "gets" Bt f23)(a24:DA K "is_enough" jJ f24)(a25:DA K "outweighs" jD f25)(a26:DA K "are_prices" iU f26)(a27:DA K "_law_acell" jG f27)(a28:DA K "_law_atape" jF f28)(a29:DA K "_law_adigit" fU f29)(a30:DA K "_law_awhole" fQ f30)(a31:DA K "_law_aweb" mq f31)(a32:DA K "_law_ais_apart" fB f32)(a33:DA K "_law_aaparts" iw f33)(a34:DA K "_law_alow" iT f34)(a35:DA K "_law_asum" dM f35)(a36:DA K "_law_ano_more" U9 f36)(a37:DA K "_law_afraction" YH f37)(a38:DA K "_law_ais_laying" zdk f38)(a39:DA K "_law_ahas_enough" zcx f39)(a40:DA K "_law_aare_prices" zcy f40)(a41:DA K "_law_aworth" iR f41)(a42:DA K "_law_abent_shares" YL f42)(a43:DA K "_law_abent_sets" zdl f43)(a44:DA K "_law_alayings" gk f44)(a45:DA K "_law_aall_prices" zcz f45)(a46:DA K "_law_anumbers" YG f46)(a47:DA K "_law_alayings_right" zcf f47)(a48:W.nsIn K mainGlobals "law"=some (some (.ref f48)))(l48:K.lookup f48=some ⟨aak,aaj,.func (W.fnOf "law" "law" (defArgs qI) (defBody qI) (defScope qI) .none Xi Yp WM Yz UW Yr),aae⟩)(c48:W.codeIn K UW "law"=true)(k48:W.keepIn K (.ref f48)=true)(x0:W.nsIn K mainGlobals "MOST_PLACES"=some (some (.int 10 tk0)))(x1:W.nsIn K mainGlobals "MOST_BOTTOM"=some (some (.int 1000000000 tk1)))(x2:W.nsIn K mainGlobals "MOST_WANT"=some (some (.int 99 tk2)))(z0:W.nsIn K mainGlobals "abs"=some none)(z1:W.nsIn K mainGlobals "all"=some none)(z2:W.nsIn K mainGlobals "any"=some none)(z3:W.nsIn K mainGlobals "bool"=some none)(z4:W.nsIn K mainGlobals "enumerate"=some none)(z5:W.nsIn K mainGlobals "int"=some none)(z6:W.nsIn K mainGlobals "isinstance"=some none)(z7:W.nsIn K mainGlobals "len"=some none)(z8:W.nsIn K mainGlobals "list"=some none)(z9:W.nsIn K mainGlobals "max"=some none)(z10:W.nsIn K mainGlobals "min"=some none)(z11:W.nsIn K mainGlobals "range"=some none)(z12:W.nsIn K mainGlobals "set"=some none)(YS:W.nsIn K mainGlobals "sorted"=some none)(YQ:W.nsIn K mainGlobals "tuple"=some none)(V3:W.nsIn K mainGlobals "zip"=some none)(y0:W.nsIn K mainGlobals "Tableau"=some (some (.ref aF)))(W8:MA K aF "__init__" "Tableau.__init__" gq mf0)(ma1:MA K aF "next_column" "Tableau.next_column" zbw mf1)(ma2:MA K aF "is_tighter" "Tableau.is_tighter" zcg mf2)(ma3:MA K aF "next_row" "Tableau.next_row" zcq mf3)(ma4:MA K aF "turned" "Tableau.turned" dO mf4)(ma5:MA K aF "turn" "Tableau.turn" gn mf5)(ma6:MA K aF "solve" "Tableau.solve" fG mf6)(ma7:MA K aF "fraction_at" "Tableau.fraction_at" V1 mf7)(ma8:MA K aF "price_of" "Tableau.price_of" zcp mf8)(ma9:MA K aF "share_of" "Tableau.share_of" zco mf9)(Dg:W.plainGet K aF Str.empty=true)(Df:W.hasDictIn K aF=true)(Dd:W.plainOver K aF=true)(Dc:W.findIn K (.ref aF) "__setattr__"=some (some (.builtin "object.__setattr__")))(CZ:W.makesIn K aF=true)(CW:W.keepIn K (.ref aF)=true)(qu:W.findIn K (.ref aF) "cells"=some none)(qW:W.findIn K (.ref aF) "over"=some none)(mZ:W.findIn K (.ref aF) "columns"=some none)(qU:W.findIn K (.ref aF) "rows"=some none):
  ∃fd:FuncData,(∀(s:Shared) (v:Value),BindsTo s fd ⟨[v],[]⟩ [("script",v)])/\∀base:Heap,K.In base->base.Ns mainGlobals mg->FnOk l.prog w K mg base CX0 10 fa fd ["script"] (spLaw K):=by
 have e:=hfa.symm.trans (W.mg_of X G a48);cases e;obtain⟨d0,F0,a0⟩:=a0;have jf:=DA.d (ps:=["thing"]) X G F0 a0 (fun _ _ _ _ _ _=>zY fun _=>rfl);obtain⟨d1,F1,a1⟩:=a1;have Dq:=DA.d (ps:=["n","thing"]) X G F1 a1 (fun _ _ _ _ _ _=>nJ fun _ _=>rfl);obtain⟨d2,F2,a2⟩:=a2;have xM:=DA.d (ps:=["n","things"]) X G F2 a2 (fun _ _ _ _ _ _=>nJ fun _ _=>rfl);obtain⟨d3,F3,a3⟩:=a3;have kj:=DA.d (ps:=["things"]) X G F3 a3 (fun _ _ _ _ _ _=>zY fun _=>rfl);obtain⟨d4,F4,a4⟩:=a4;have Af:=DA.d (ps:=["n","thing"]) X G F4 a4 (fun _ _ _ _ _ _=>nJ fun _ _=>rfl);obtain⟨d5,F5,a5⟩:=a5;have Dr:=DA.d (ps:=["n","thing"]) X G F5 a5 (fun _ _ _ _ _ _=>nJ fun _ _=>rfl);obtain⟨d6,F6,a6⟩:=a6;have Mi:=DA.d (ps:=["thing"]) X G F6 a6 (fun _ _ _ _ _ _=>zY fun _=>rfl);obtain⟨d7,F7,a7⟩:=a7;have jc:=DA.d (ps:=["thing"]) X G F7 a7 (fun _ _ _ _ _ _=>zY fun _=>rfl);obtain⟨d8,F8,a8⟩:=a8;have HB:=DA.d (ps:=["web","one","other"]) X G F8 a8 (fun _ _ _ _ _ _=>VH fun _ _ _=>rfl);obtain⟨d9,F9,a9⟩:=a9;have qZ:=DA.d (ps:=["web","some"]) X G F9 a9 (fun _ _ _ _ _ _=>nJ fun _ _=>rfl);obtain⟨d10,F10,a10⟩:=a10;have qX:=DA.d (ps:=["web","place","tied"]) X G F10 a10 (fun _ _ _ _ _ _=>VH fun _ _ _=>rfl);obtain⟨d11,F11,a11⟩:=a11;have Hz:=DA.d (ps:=["ones","others"]) X G F11 a11 (fun _ _ _ _ _ _=>nJ fun _ _=>rfl);obtain⟨d12,F12,a12⟩:=a12;have Ai:=DA.d (ps:=["friends"]) X G F12 a12 (fun _ _ _ _ _ _=>zY fun _=>rfl);obtain⟨d13,F13,a13⟩:=a13;have pH:=DA.d (ps:=["web"]) X G F13 a13 (fun _ _ _ _ _ _=>zY fun _=>rfl);obtain⟨d14,F14,a14⟩:=a14;have gC:=DA.d (ps:=["one","other"]) X G F14 a14 (fun _ _ _ _ _ _=>nJ fun _ _=>rfl);obtain⟨d15,F15,a15⟩:=a15;have ug:=DA.d (ps:=["a","b"]) X G F15 a15 (fun _ _ _ _ _ _=>nJ fun _ _=>rfl);obtain⟨d16,F16,a16⟩:=a16;have lq:=DA.d (ps:=["one","other"]) X G F16 a16 (fun _ _ _ _ _ _=>nJ fun _ _=>rfl);obtain⟨d17,F17,a17⟩:=a17;have lV:=DA.d (ps:=["thing"]) X G F17 a17 (fun _ _ _ _ _ _=>zY fun _=>rfl);obtain⟨d18,F18,a18⟩:=a18;have oZ:=DA.d (ps:=["fractions"]) X G F18 a18 (fun _ _ _ _ _ _=>zY fun _=>rfl);obtain⟨d19,F19,a19⟩:=a19;have jd:=DA.d (ps:=["web","thing"]) X G F19 a19 (fun _ _ _ _ _ _=>nJ fun _ _=>rfl);obtain⟨d20,F20,a20⟩:=a20;have Mh:=DA.d (ps:=["web","wants"]) X G F20 a20 (fun _ _ _ _ _ _=>nJ fun _ _=>rfl);obtain⟨d21,F21,a21⟩:=a21;have Dm:=DA.d (ps:=["web","thing"]) X G F21 a21 (fun _ _ _ _ _ _=>nJ fun _ _=>rfl);obtain⟨d22,F22,a22⟩:=a22;have Ag:=DA.d (ps:=["web","thing"]) X G F22 a22 (fun _ _ _ _ _ _=>nJ fun _ _=>rfl);obtain⟨d23,F23,a23⟩:=a23;have U5:=DA.d (ps:=["laying","place","want"]) X G F23 a23 (fun _ _ _ _ _ _=>VH fun _ _ _=>rfl);obtain⟨d24,F24,a24⟩:=a24;have Ah:=DA.d (ps:=["web","wants","laying","number"]) X G F24 a24 (fun _ _ _ _ _ _=>Yx fun _ _ _ _=>rfl);obtain⟨d25,F25,a25⟩:=a25;have Ac:=DA.d (ps:=["some","prices"]) X G F25 a25 (fun _ _ _ _ _ _=>nJ fun _ _=>rfl);obtain⟨d26,F26,a26⟩:=a26;have xK:=DA.d (ps:=["web","wants","prices","number"]) X G F26 a26 (fun _ _ _ _ _ _=>Yx fun _ _ _ _=>rfl);obtain⟨d27,F27,a27⟩:=a27;have Ae:=DA.d (ps:=["script","k"]) X G F27 a27 (fun _ _ _ _ _ _=>nJ fun _ _=>rfl);obtain⟨d28,F28,a28⟩:=a28;have Ad:=DA.d (ps:=["script","k"]) X G F28 a28 (fun _ _ _ _ _ _=>nJ fun _ _=>rfl);obtain⟨d29,F29,a29⟩:=a29;have pC:=DA.d (ps:=["tape","many"]) X G F29 a29 (fun _ _ _ _ _ _=>nJ fun _ _=>rfl);obtain⟨d30,F30,a30⟩:=a30;have pq:=DA.d (ps:=["found"]) X G F30 a30 (fun _ _ _ _ _ _=>zY fun _=>rfl);obtain⟨d31,F31,a31⟩:=a31;have Dk:=DA.d (ps:=["tape","most"]) X G F31 a31 (fun _ _ _ _ _ _=>nJ fun _ _=>rfl);obtain⟨d32,F32,a32⟩:=a32;have qY:=DA.d (ps:=["web","some"]) X G F32 a32 (fun _ _ _ _ _ _=>nJ fun _ _=>rfl);obtain⟨d33,F33,a33⟩:=a33;have uU:=DA.d (ps:=["web"]) X G F33 a33 (fun _ _ _ _ _ _=>zY fun _=>rfl);obtain⟨d34,F34,a34⟩:=a34;have Dl:=DA.d (ps:=["a","b"]) X G F34 a34 (fun _ _ _ _ _ _=>nJ fun _ _=>rfl);obtain⟨d35,F35,a35⟩:=a35;have je:=DA.d (ps:=["some"]) X G F35 a35 (fun _ _ _ _ _ _=>zY fun _=>rfl);obtain⟨d36,F36,a36⟩:=a36;have dw:=DA.d (ps:=["one","other"]) X G F36 a36 (fun _ _ _ _ _ _=>nJ fun _ _=>rfl);obtain⟨d37,F37,a37⟩:=a37;have jm:=DA.d (ps:=["thing"]) X G F37 a37 (fun _ _ _ _ _ _=>zY fun _=>rfl);obtain⟨d38,F38,a38⟩:=a38;have qC:=DA.d (ps:=["web","laying"]) X G F38 a38 (fun _ _ _ _ _ _=>nJ fun _ _=>rfl);obtain⟨d39,F39,a39⟩:=a39;have pA:=DA.d (ps:=["wants","laying"]) X G F39 a39 (fun _ _ _ _ _ _=>nJ fun _ _=>rfl);obtain⟨d40,F40,a40⟩:=a40;have pD:=DA.d (ps:=["web","prices"]) X G F40 a40 (fun _ _ _ _ _ _=>nJ fun _ _=>rfl);obtain⟨d41,F41,a41⟩:=a41;have xJ:=DA.d (ps:=["wants","prices"]) X G F41 a41 (fun _ _ _ _ _ _=>nJ fun _ _=>rfl);obtain⟨d42,F42,a42⟩:=a42;have gB:=DA.d (ps:=["share"]) X G F42 a42 (fun _ _ _ _ _ _=>zY fun _=>rfl);obtain⟨d43,F43,a43⟩:=a43;have qF:=DA.d (ps:=["web","some"]) X G F43 a43 (fun _ _ _ _ _ _=>nJ fun _ _=>rfl);obtain⟨d44,F44,a44⟩:=a44;have uh:=DA.d (ps:=["web","laying"]) X G F44 a44 (fun _ _ _ _ _ _=>nJ fun _ _=>rfl);obtain⟨d45,F45,a45⟩:=a45;have pF:=DA.d (ps:=["prices"]) X G F45 a45 (fun _ _ _ _ _ _=>zY fun _=>rfl);obtain⟨d46,F46,a46⟩:=a46;have j9:=DA.d (ps:=["total"]) X G F46 a46 (fun _ _ _ _ _ _=>zY fun _=>rfl);obtain⟨d47,F47,a47⟩:=a47;have kh:=DA.d (ps:=["web","wants","laying","total"]) X G F47 a47 (fun _ _ _ _ _ _=>Yx fun _ _ _ _=>rfl);have F48:=fun_mk (st:=qI) l48 c48 k48;have uD:=W.mg_of X G x0;have uE:=W.mg_of X G x1;have yC:=W.mg_of X G x2;have W4:=Ak X G z0;have qL:=Ak X G z1;have W3:=Ak X G z2;have wD:=Ak X G z3;have eN:=Ak X G z4;have Q5:=Ak X G z5;have aL:=Ak X G z6;have cN:=Ak X G z7;have jT:=Ak X G z8;have Eu:=Ak X G z9;have Ko:=Ak X G z10;have bH:=Ak X G z11;have W0:=Ak X G z12;have sY:=Ak X G YS;have cZ:=Ak X G YQ;have Q0:=Ak X G V3;have ql:=W.mg_of X G y0;obtain⟨md0,FM0,W8⟩:=W8;have m8:=MA.d (ps:=["self","sets","wants"]) FM0 W8 (fun _ _ _ _ _ _=>VH fun _ _ _=>rfl);obtain⟨md1,FM1,ma1⟩:=ma1;have ju:=MA.d (ps:=["self"]) FM1 ma1 (fun _ _ _ _ _ _=>zY fun _=>rfl);obtain⟨md2,FM2,ma2⟩:=ma2;have kI:=MA.d (ps:=["self","column","row","other"]) FM2 ma2 (fun _ _ _ _ _ _=>Yx fun _ _ _ _=>rfl);obtain⟨md3,FM3,ma3⟩:=ma3;have m7:=MA.d (ps:=["self","column"]) FM3 ma3 (fun _ _ _ _ _ _=>nJ fun _ _=>rfl);obtain⟨md4,FM4,ma4⟩:=ma4;have qG:=MA.d (ps:=["self","cells","pivots","column"]) FM4 ma4 (fun _ _ _ _ _ _=>Yx fun _ _ _ _=>rfl);obtain⟨md5,FM5,ma5⟩:=ma5;have um:=MA.d (ps:=["self","row","column"]) FM5 ma5 (fun _ _ _ _ _ _=>VH fun _ _ _=>rfl);obtain⟨md6,FM6,ma6⟩:=ma6;have q9:=MA.d (ps:=["self"]) FM6 ma6 (fun _ _ _ _ _ _=>zY fun _=>rfl);obtain⟨md7,FM7,ma7⟩:=ma7;have cA:=MA.d (ps:=["self","row","column"]) FM7 ma7 (fun _ _ _ _ _ _=>VH fun _ _ _=>rfl);obtain⟨md8,FM8,ma8⟩:=ma8;have m6:=MA.d (ps:=["self","name"]) FM8 ma8 (fun _ _ _ _ _ _=>nJ fun _ _=>rfl);obtain⟨md9,FM9,ma9⟩:=ma9;have m5:=MA.d (ps:=["self","name"]) FM9 ma9 (fun _ _ _ _ _ _=>nJ fun _ _=>rfl);have bD:Cls K aF:=⟨Dg,Df,Dd,Dc⟩;have cF:NoAttr K aF "cells":=qu;have cY:NoAttr K aF "over":=qW;have bC:NoAttr K aF "columns":=mZ;have cX:NoAttr K aF "rows":=qU;have mk_Tableau:Mk K aF mf0:=⟨CZ,W8.1,W8.2.1,CW⟩;refine⟨W.fnOf "law" "law" (defArgs qI) (defBody qI) (defScope qI) .none Xi Yp WM Yz UW Yr,fun s v=> .of_eq rfl,fun base _ _=> ?_⟩;have rK:=J6 (P:=l.prog) (w:=w) (base:=base) F0 aL Q5 wD;have Pr:=J8 (P:=l.prog) (w:=w) (base:=base) F1 jf rK;have K8:=Gy (P:=l.prog) (w:=w) (base:=base) F2 Dq Pr qL;have zF:=Gx (P:=l.prog) (w:=w) (mg:=mg) (base:=base) F3 qL bH cN;have Ra:=Tf (P:=l.prog) (w:=w) (base:=base) F4 xM K8 kj zF aL cZ;have Uj:=N7 (P:=l.prog) (w:=w) (base:=base) F5 Af Ra kj zF aL cZ qL cN;have XQ:=SM (P:=l.prog) (w:=w) (base:=base) F6 jf rK Dr Uj aL cZ cN uD;have kZ:=BP (P:=l.prog) (w:=w) (base:=base) F7 Mi XQ;have Yb:=Ti (P:=l.prog) (w:=w) (mg:=mg) (base:=base) F8 Ko Eu;have Px:=Ka F10 HB Yb bH;have Lb:=Gz (P:=l.prog) (w:=w) (mg:=mg) (base:=base) F11;have Cw:=yX F12 Hz Lb jT bH cN sY;have qM:=wk F13 jc kZ Ai Cw qX Px bH;have Yc:=WR (P:=l.prog) (w:=w) (mg:=mg) (base:=base) F14;have K9:=Tg (P:=l.prog) (w:=w) (base:=base) F15 gC Yc W4;have Pu:=J9 (P:=l.prog) (w:=w) (mg:=mg) (base:=base) F9 cN;have Uq:=Og (P:=l.prog) (w:=w) (base:=base) F27 cN;have Uk:=N8 (P:=l.prog) (w:=w) (base:=base) F28 Ae Uq bH;have Rb:=Tj (P:=l.prog) (w:=w) (mg:=mg) (base:=base) F29;have Us:=Oi F31 pC Rb bH cZ;have X8:=Td (P:=l.prog) (w:=w) (mg:=mg) (base:=base) FM1 bD cF cY bC cX eN Ko;have XS:=SQ (P:=l.prog) (w:=w) (mg:=mg) (base:=base) FM2 bD cF cY bC cX;have X7:=Tc FM3 bD cF cY bC cX kI XS bH cN;have X3:=SX (P:=l.prog) (w:=w) (mg:=mg) (base:=base) FM4 bD cF cY bC cX eN;have XR:=SN FM5 bD cF cY bC cX qG X3;have X4:=S6 FM6 bD cF cY bC cX ju X8 um XR m7 X7;have K6:=Te FM7 bD cF cY bC cX ug K9;have X6:=S9 FM8 bD cF cY bC cX ug K9 cA K6;have X5:=S8 FM9 bD cF cY bC cX ug K9 cA K6;have Ul:=Oa (P:=l.prog) (w:=w) (mg:=mg) (base:=base) FM0 bD cF cY bC cX cN bH jT;have jW:=wj F19 jf rK cN aL cZ qL yC;have K7:=Gw F20 bD cF cY bC cX ql jc kZ jd jW pH qM m8 mk_Tableau Ul q9 X4 m5 X5 m6 X6 cA K6 eN bH;have Py:=Kc (P:=l.prog) (w:=w) (mg:=mg) (base:=base) F32;have Uu:=Om (P:=l.prog) (w:=w) (mg:=mg) (base:=base) F34;have GZ:=BL (P:=l.prog) (w:=w) (mg:=mg) (base:=base) F3 qL bH cN;have wJ:=Oc (P:=l.prog) (w:=w) (mg:=mg) (base:=base) F16;have La:=Od F17 jf rK cN aL cZ uE;have rM:=J7 F18 gC Yc;have Hg:=BR F21 lV La Af Ra qZ Pu cN aL cZ;have Cu:=yV F22 Dm Hg kj GZ qL aL jT;have Uo:=Oe F23 lq wJ oZ rM;have Cv:=yW F24 jc kZ jd jW Ag Cu U5 Uo lq wJ oZ rM qL eN;have Um:=Ob F25 lq wJ oZ rM;have zG:=wz F26 jc kZ jd jW lV La pH qM Ac Um oZ rM lq wJ qL cN aL jT W3 Q0;have Yd:=WT (P:=l.prog) (w:=w) (mg:=mg) (base:=base) F30 aL wD Q5;have Rg:=Tw F37 pq Yd cN aL cZ;have Hh:=BW (P:=l.prog) (w:=w) (mg:=mg) (base:=base) F33 bH;have wK:=Oj F35 Dl Uu;have Fg:=Tq (P:=l.prog) (w:=w) (mg:=mg) (base:=base) F36;have Uv:=Oo F38 pq Yd qY Py jm Rg bH cN aL cZ jT sY W0;have Uw:=Oq F39 dw Fg je wK bH cN;have Ut:=Ol F40 jm Rg uU Hh dw Fg je wK cN;have Ur:=Oh F41 je wK Q0;have Rh:=TF (P:=l.prog) (w:=w) (mg:=mg) (base:=base) F42 Eu;have Yi:=Tz (P:=l.prog) (w:=w) (mg:=mg) (base:=base) F43 jT bH cZ sY;have Rf:=Tp (P:=l.prog) (w:=w) (mg:=mg) (base:=base) F46 Eu;have Yg:=Tt F44 gB Rh qF Yi bH cN;have Ye:=Tn F45 gB Rh bH cN;have Yh:=Tv F47 uh Yg pA Uw qC Uv j9 Rf Ah Cv dw Fg je wK cN jT aL wD;exact ok_law F48 Ad Uk Dk Us pC Rb Mh K7 kh Yh pF Ye pD Ut j9 Rf xK zG dw Fg xJ Ur bH Eu Ko cN cZ eN jT aL wD
theorem walk{l:PySem.W.OpenLaw}{q:Program}{loose:List Str}{XP:(L4)->Heap->Prop}{YP:World->Heap->Prop}{d:DefRec}{K:Params->PySem.W.Frag}(hn:l.most=some 63)(hdf:d.params.defaults=[])(hY:∀(w:World) (h:Heap),YP w h->(K w.params).In h)
  (F:∀(w:World) (mg:L4) (fa:Addr) (h:Heap),(K w.params).In h->h.Ns mainGlobals mg->mg d.name=some (.ref fa)->
   ∃fd:FuncData,(∀(s:Shared) (u:Value),BindsTo s fd ⟨[u],[]⟩ [("script",u)])/\∀base:Heap,(K w.params).In base->base.Ns mainGlobals mg->FnOk l.prog w (K w.params) mg base CX0 10 fa fd ["script"] (spLaw (K w.params))):
  PySem.W.WalkO q loose XP YP l.row.toRowW d [] (fun f vs=>PySem.call f vs):=
 L2.walk_of (n:=63) (k:=10) (x:="script") (CX:=fun _=>CX0) (sp:=fun w=>spLaw (K w.params)) hn (by decide) hdf ⟨rfl,by decide,by decide,rfl⟩ hY F (fun _ _ a ns hl hO hS=>Jp hl hO hS) fun _ _ _ _ _ z=>z
end Hs
open PySem PySem.W PyProof.Rows
set_option maxRecDepth 100000 in
set_option maxHeartbeats 0 in
theorem PySem.Challenge.cw_hueshare_k25_layings_and_prices_looked_a_holds : PySem.Challenge.rw_hueshare_k25_layings_and_prices_looked_a.Holds := by
 refine Hd.early.2 ?_;unfold Hd.early;dsimp only
 k_fill
 refine Hs.walk (l:=PySem.Challenge.rw_hueshare_k25_layings_and_prices_looked_a) rfl rfl (fun w h Y=>PySem.W.kIn_of Y) ?F
 case F=>
  intro w mg fa h KX G hmg
  refine' Hs.all_mk KX G hmg .of .of .of .of .of .of .of .of .of .of .of .of .of .of .of .of .of .of .of .of .of .of .of .of .of .of .of .of .of .of .of .of .of .of .of .of .of .of .of .of .of .of .of .of .of .of .of .of (by k_is) (by k_is) (by k_is) (by k_is) (by k_is) (by k_is) (by k_is) (by k_is) (by k_is) (by k_is) (by k_is) (by k_is) (by k_is) (by k_is) (by k_is) (by k_is) (by k_is) (by k_is) (by k_is) (by k_is) (by k_is) (by k_is) (by k_is) (by k_is) .of .of .of .of .of .of .of .of .of .of (by k_is) (by k_is) (by k_is) (by k_is) (by k_is) (by k_is) (by k_is) (by k_is) (by k_is) (by k_is)
