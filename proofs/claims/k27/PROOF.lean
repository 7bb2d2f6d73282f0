import PyProof.Rows.All
import Wide.All
import OpenK.AllK
import Wide.FinOn
import Lean
import PyProof.EqAt
import PyProof.EqKinds
import PyProof.TupleCall
import PyProof.ListRange
import PyProof.TupleOfSeq
import PyProof.Draws
import PyProof.EnumMake
import PyProof.TupleIter
import PyProof.Rows.SetFrom
import PyProof.SetRoads
import PyProof.WalksMore
import PyProof.Rows.SortShell
import KE.KMinBuiltin
import PyProof.Rows.CallKwBuiltin
import KE.KRevIter
import PyProof.Rows.Tup
import PyProof.Rows.Range3
import PyProof.DictWalks
import PyProof.DictTruth
import PyProof.TupleKey
import PyProof.Rows.SeqMore2
import PyProof.FString
import PyProof.StrWalks
import PyProof.StrBlockH
import PyProof.StrCalls2
import PyProof.SliceStr2
import KE.KIntText
import PyProof.StrLawsTight
import KE.KDictList
import PyProof.DictRoadsH
import KE.KLam
import KE.KNestM
import PyProof.DictItems
import PyProof.IsiHeapPairs
import KE.KPairComp
import PyProof.MinMaxWalk
import PyProof.MeetsSeq
import PyProof.Rows.ZipGen
import KE.IntBitsLaws
import PyProof.FitsBits
import PySem.Challenge.RW_hueshare_k27_whole_webs_put_together
set_option Elab.async false
set_option linter.all false
set_option maxRecDepth 100000

noncomputable section
abbrev ao:=@if_neg
abbrev aA:=@if_pos
abbrev cI:=@decide_eq_true
abbrev eY:=@of_decide_eq_true
abbrev bO:=@PySem.wpAny_bind
abbrev iY:=@decide_eq_false
abbrev dO:=@PySem.sizeLine_eq
abbrev sW:=@Bool.false_ne_true
abbrev qm:=@Bool.and_eq_true
abbrev gR:=@PySem.wpAny_pure
abbrev sy:=@Option.some.inj
abbrev wz:=@decide_eq_true_eq
abbrev Lp:=@PyProof.Rows.callWith_type1
abbrev uE:=@Bool.eq_iff_iff
abbrev Ln:=@PySem.F.plainAttrs_list
abbrev wk:=@PySem.boot_len
abbrev iW:=@congrArg
abbrev Hv:=@PySem.mem_of_lookup
abbrev was:=@PySem.PassesOwn.never
abbrev Hu:=@PySem.wpAny_truthy_bool
abbrev QX:=@PySem.F.plain_max_loop
abbrev T5:=@Classical.byContradiction
abbrev lE:=@Ne.symm
abbrev Pq:=@PySem.wpAny_Call_Name_kw
abbrev way:=@PySem.W.mg_none_of
abbrev Mj:=@PyProof.Rows.KeyOrd.kle_refl
abbrev Vr:=@PySem.F.slot_list_extend
abbrev Vq:=@PySem.F.type_list_extend
abbrev T4:=@PySem.Heap.SameBut.update
abbrev Mi:=@PySem.wpAny_holding
abbrev Vp:=@PySem.Around.under_plainId
abbrev QW:=@PySem.wpAny_passesOwn
abbrev QV:=@Bool.or_eq_true
abbrev YF:=@decide_eq_false_iff_not
abbrev T3:=@Nat.Coprime.symm
abbrev Vo:=@of_decide_eq_false
abbrev Vn:=@PySem.wpAny_newObj_type
abbrev Vm:=@PyProof.Rows.KeyOrd.kle_of_klt
abbrev Cr:=@Prod.ext
abbrev Vl:=@Bool.not_eq_true'
abbrev TY:=@PySem.wpAny_tryCatch
abbrev wbp:=@PySem.F.args_tuple_add_2
abbrev wbq:=@Nat.gcd_pos_of_pos_right
abbrev YD:=@PySem.Calls.spliced_cons
abbrev wbs:=@PySem.F.entry_tuple_add
abbrev Vk:=@PySem.W.KasT.kasWp_bind
abbrev Vj:=@PyProof.Rows.get?_update_seq
abbrev Vi:=@PySem.codeAny_builtin
abbrev wbw:=@List.pairwise_singleton
abbrev wbx:=@PySem.F.slot_list_index
abbrev wby:=@PySem.F.type_list_index
abbrev wbz:=@PySem.F.slot_tuple_add
abbrev wca:=@PySem.Heap.get?_update_other
abbrev wcb:=@PySem.F.entry_max_loop
abbrev wcc:=@List.length_pos_of_mem
abbrev YC:=@PySem.Calls.spliced_nil
abbrev YB:=@List.ext_getElem?
abbrev Yz:=@PySem.wpAny_pyIter_list
abbrev wcg:=@List.length_replicate
abbrev Yy:=@PyProof.Rows.KeyOrd.kle_trans
abbrev wci:=@List.getElem?_append
abbrev Vh:=@List.any_cons
abbrev Vg:=@PySem.plainId_quiet
abbrev Vf:=@Int.mul_assoc
abbrev Ve:=@Bool.or_false
abbrev Vd:=@Int.ofNat.inj
abbrev QT:=@PySem.wpAny_mono
abbrev wcp:=@List.filterMap_cons
abbrev Yx:=@PySem.wpAny_execs_nil
abbrev TX:=@Int.mul_one
abbrev wcs:=@PySem.W.plainGet_of
abbrev TV:=@Nat.le_succ
abbrev Z9:=@Nat.add_sub_cancel'
abbrev Yw:=@PySem.pushCells_keeps
abbrev TQ:=@List.map_id
abbrev Z8:=@List.filter_sublist
abbrev Z0:=@List.mem_map_of_mem
abbrev wcz:=@Int.mul_lt_mul_of_pos_left
abbrev ZX:=@PyProof.Rows.assignInOrder_cons
abbrev Vc:=@PySem.codeAny_mono
abbrev ZW:=@PySem.W.callWith_K
abbrev ZV:=@List.zip_cons_cons
abbrev ZS:=@Bool.false_eq_true
abbrev Vb:=@Int.zero_add
abbrev Va:=@Int.ne_of_gt
abbrev ZR:=@List.pairwise_cons
abbrev ZQ:=@Option.toList_some
abbrev Yv:=@Bool.false_and
abbrev wdk:=@Int.lt_of_mul_lt_mul_left
abbrev wdl:=@List.mem_or_eq_of_mem_set
abbrev ZP:=@Int.toNat_natCast
abbrev ZM:=@List.append_assoc
abbrev TJ:=@PySem.call_meets
abbrev ZL:=@Nat.le_of_succ_le
abbrev wdq:=@PyProof.noPylong_of_log2
abbrev wdr:=@Int.mul_ediv_cancel_left
abbrev ZK:=@Nat.gcd_dvd_right
abbrev ZJ:=@List.getElem?_set
abbrev wdu:=@PySem.F.slot_list_append
abbrev wdv:=@PySem.F.type_list_append
abbrev ZG:=@Nat.dvd_mul_right
abbrev Yu:=@PySem.wpAny_standAt
abbrev Yt:=@PySem.rangeSize_one
abbrev wdz:=@List.getElem?_replicate
abbrev Yr:=@Int.lt_irrefl
abbrev wec:=@Nat.add_sub_cancel_left
abbrev wed:=@PySem.noFill_tuple_add
abbrev ZF:=@List.le_antisymm
abbrev ZD:=@PySem.AutoSeq1.idx_int
abbrev ZC:=@Nat.div_eq_of_lt
abbrev Zz:=@Nat.dvd_antisymm
abbrev Zy:=@List.not_mem_nil
abbrev wej:=@List.getElem?_set_self
abbrev wek:=@PySem.W.cellsFrom_some
abbrev wel:=@Nat.le_mul_of_pos_left
abbrev wem:=@List.take_of_length_le
abbrev TF:=@PyProof.Rows.IsTup.new
abbrev weo:=@PySem.W.methodCall_KW
abbrev Zx:=@List.of_mem_zip
abbrev Yq:=@Nat.zero_add
abbrev Zw:=@PySem.wpAny_updateSeq
abbrev Zv:=@Nat.mul_add_div
abbrev U9:=@PyProof.Rows.boot_range
abbrev Yp:=@PySem.IsRange.new
abbrev Yo:=@PySem.wpAny_letGo
abbrev Yn:=@Nat.sub_le
abbrev Ym:=@Nat.mod_lt
abbrev Zu:=@Int.add_zero
abbrev Zt:=@Nat.pow_succ
abbrev Zr:=@Nat.add_zero
abbrev Zq:=@List.all_map
abbrev Zo:=@Bool.not_not
abbrev Zn:=@List.map_set
abbrev U8:=@if_false
abbrev Tz:=@if_true
abbrev aM:=@List.length_map
abbrev aU:=@Nat.le_refl
abbrev fX:=@List.getElem?_eq_getElem
abbrev cu:=@List.map_append
abbrev dY:=@List.getElem?_map
abbrev pA:=@Int.mul_le_mul_of_nonneg_left
abbrev jy:=@PySem.Heap.get?_push_of_some
abbrev iZ:=@List.mem_cons_of_mem
abbrev gw:=@List.size_toArray
abbrev pN:=@List.getD_eq_getElem?_getD
abbrev cM:=@Nat.le_of_lt
abbrev pL:=@List.getElem?_eq_some_iff
abbrev jx:=@Nat.lt_of_lt_of_le
abbrev eN:=@List.mem_cons
abbrev jV:=@List.mem_cons_self
abbrev jU:=@List.length_append
abbrev dW:=@Nat.le_trans
abbrev iR:=@List.mem_filter
abbrev cY:=@Nat.zero_le
abbrev fD:=@PySem.Heap.lt_size
abbrev zu:=@Int.mul_le_mul_of_nonneg_right
abbrev jT:=@List.all_eq_true
abbrev oN:=@List.mem_singleton
abbrev lD:=@List.mem_append
abbrev iK:=@Nat.ne_of_lt
abbrev uy:=@List.mem_of_getElem?
abbrev jw:=@List.mem_map
abbrev qj:=@Nat.lt_succ_self
abbrev m8:=@List.mem_range
abbrev rZ:=@Nat.lt_succ_of_lt
abbrev wj:=@PySem.Heap.get?_push_size
abbrev jN:=@Int.mul_comm
abbrev pq:=@Int.mul_nonneg
abbrev lC:=@Int.le_of_lt
abbrev oM:=@Nat.lt_irrefl
abbrev Cp:=@List.mem_append_right
abbrev Cm:=@List.length_filter_le
abbrev wL:=@List.length_range
abbrev wK:=@List.length_cons
abbrev wJ:=@Nat.succ_ne_zero
abbrev yZ:=@List.take_length
abbrev Mg:=@Int.eq_of_mul_eq_mul_right
abbrev wI:=@List.range_succ
abbrev Ck:=@List.pairwise_map
abbrev pK:=@Int.le_refl
abbrev Cj:=@List.getElem_mem
abbrev GK:=@Nat.lt_of_le_of_lt
abbrev Ci:=@List.append_nil
abbrev GJ:=@List.take_add_one
abbrev wg:=@Nat.succ_pos
abbrev v9:=@Int.mul_zero
abbrev GF:=@List.lookup_cons
abbrev GD:=@List.filter_cons
abbrev Mf:=@List.getElem_of_mem
abbrev Ma:=@List.map_congr_left
abbrev QS:=@Nat.exists_eq_add_of_le
abbrev Tw:=@Int.le_of_mul_le_mul_right
abbrev zq:=@List.map_map
abbrev LR:=@List.filter_append
abbrev Hl:=@List.nodup_cons
abbrev Lk:=@List.length_take
abbrev Cg:=@Nat.le_of_eq
abbrev Ph:=@Nat.lt_of_le_of_ne
abbrev LQ:=@Nat.dvd_mul_left
abbrev U7:=@List.getElem?_append_right
abbrev QM:=@Array.length_toList
abbrev QL:=@List.replicate_succ
abbrev Pg:=@Nat.le_of_lt_succ
abbrev Pb:=@Nat.lt_trichotomy
abbrev Tv:=@List.getElem?_eq_none
abbrev QK:=@Int.natAbs_natCast
abbrev Tt:=@List.mem_append_left
abbrev Tr:=@List.pairwise_append
abbrev GC:=@List.not_lt
abbrev Pa:=@Int.natCast_mul
abbrev Gz:=@Int.one_mul
abbrev O9:=@Nat.min_le_left
abbrev U6:=@List.pairwise_lt_range
abbrev LK:=@List.map_cons
abbrev Lj:=@Nat.mul_comm
abbrev Yl:=@List.getElem?_append_left
abbrev Yk:=@List.pairwise_iff_getElem
abbrev U5:=@Nat.sub_one_lt_of_le
abbrev QJ:=@List.length_nil
abbrev QH:=@Nat.le_antisymm
abbrev Yj:=@Nat.succ_add_eq_add_succ
abbrev QG:=@Nat.not_lt_zero
abbrev QF:=@Int.le_antisymm
abbrev LC:=@Nat.lt_trans
abbrev Lz:=@Int.le_trans
abbrev Ly:=@Int.ofNat_lt
abbrev U4:=@Int.toNat_of_nonneg
abbrev U3:=@List.getElem?_range
abbrev Yi:=@Nat.mul_div_cancel_left
abbrev QD:=@PySem.Heap.size_push
abbrev QC:=@Int.natAbs_mul
abbrev U0:=@Nat.eq_zero_or_pos
abbrev O1:=@Nat.ne_of_gt
abbrev Yh:=@List.cons_lt_cons_iff
abbrev UW:=@List.any_eq_false
abbrev UL:=@List.flatten_cons
abbrev UJ:=@List.nodup_append
abbrev Zm:=@Int.fdiv_eq_ediv_of_nonneg
abbrev Zk:=@Array.perm_iff_toList_perm
abbrev Yg:=@Nat.le_sub_one_of_lt
abbrev Zj:=@Int.eq_of_mul_eq_mul_left
abbrev OJ:=@Int.mul_pos
abbrev OD:=@Nat.mul_pos
abbrev QB:=@Nat.lt_or_ge
abbrev UG:=@Nat.mul_le_mul
abbrev Tq:=@Nat.succ_mul
abbrev Tp:=@Int.zero_mul
abbrev Tn:=@Int.le_of_eq
namespace Hd
open PySem PySem.W PySem.Calls PyProof.Rows
-- a run of the text's top over the heap as a tree, as one fold
def Rk(tb:String->Option Builtin)(p:Program)(w:World)(m:Nat)(ann:Option Value)(n:Nat):SharedT->Thread->Option SharedT:=
 @Nat.rec (fun _=>SharedT->Thread->Option SharedT) (fun _ _=>none)
  (fun _ ih s t=> @Bool.rec (fun _=>Option SharedT)
   (@Bool.rec (fun _=>Option SharedT) none
    (@Option.rec (SharedT×Thread) (fun _=>Option SharedT) none (fun r=>ih r.1 r.2) (stepT (denote tb) p w s t)) (stepOk m ann t))
   (some s) (through t)) n
theorem Mz{tb:String->Option Builtin}{p:Program}{w:World}{m:Nat}{ann:Option Value}:∀(n:Nat) (s s':SharedT) (t:Thread),
  Rk tb p w m ann n s t=some s'->topRun tb p w m ann n s.abs t=some s'.abs:=by
 intro n
 induction n with
 |zero=>intro s s' t h;exact absurd h (by intro h;cases h)
 |succ n ih=>
  intro s s' t h
  have h1: @Bool.rec (fun _=>Option SharedT) (@Bool.rec (fun _=>Option SharedT) none
    (@Option.rec (SharedT×Thread) (fun _=>Option SharedT) none (fun r=>Rk tb p w m ann n r.1 r.2) (stepT (denote tb) p w s t)) (stepOk m ann t))
    (some s) (through t)=some s':=h
  unfold topRun
  cases e1:through t with
  |true=>rw[e1]at h1;injection h1 with h1;rw[h1]
  |false=>
   rw[e1]at h1
   cases e2:stepOk m ann t with
   |false=>rw[e2]at h1;cases h1
   |true=>
    rw[e2]at h1
    cases e3:stepT (denote tb) p w s t with
    |none=>rw[e3]at h1;cases h1
    |some r=>
     rw[e3]at h1
     have e4:=stepT_spec (s':=r.1) (t':=r.2) e3
     show(match step (denote tb) p w s.abs t with | .go a b=>topRun tb p w m ann n a b| .halt _ _=>none)=_
     rw[e4]
     exact ih _ _ _ h1
def treeOf(l:List Obj):BT:=(l.foldl (fun x o=>(x.1.ins x.2 o,x.2+1)) ((BT.nil,0):BT×Nat)).1
-- the run from the start that the kit has laid
def ran(p:Program)(N:Nat)(w:World)(os:OsState):Option SharedT:=
 Rk treeTable p w 11 (some (.ref 6)) N ⟨treeOf (boot_heap w.params).objs.toList,11,{},Array.mk [],boot_drawn,boot_toks,os⟩ (topStub p)
-- what is looked at behind the run
def looked(p q:Program)(loose:List Str)(Xt:Shared->Bool)(g0:Bool)(h:Heap)(s:Shared):=
 ((staticsOk (importedModules p.main.body) h s.heap&&namesBound p s.heap&&gensDone s&&laidKept h s.heap),openSeen q loose (importedModules p.main.body) Xt g0 s)
def uw(p q:Program)(loose:List Str)(Xt:Shared->Bool)(g0:Bool)(N:Nat):Prop:=
 ∀(w:World) (os:OsState),(ran p N w os).map (fun s=>looked p q loose Xt g0 (boot_heap w.params) s.abs)=some (true,openGood q loose)
theorem Nx{p q:Program}{loose:List Str}{Xt:Shared->Bool}{α:Type}{Yf:Shared->α}{Ya:World->α}{N:Nat}{g0:Bool}(r:uw p q loose Xt g0 N)(e:opening p=plainProg p.main.scope.names)(hN:Nat.ble 600 N=true)(f:∀s,fenceModules? p s=some s)(y:∀(w:World) (os:OsState),(ran p N w os).map (fun s=>Yf s.abs)=some (Ya w)):
  LeftO p q loose Xt Yf Ya N g0:=fun w=>by
 have b:((boot_heap w.params).isNs mainGlobals&&(Array.mk []:Array GenState).size==0,(boot_heap w.params).objs.size,(boot_heap w.params).nsMap mainGlobals "__annotations__")=(true,11,some (.ref 6)):=by kernel_rfl
 have c:absHeap (treeOf (boot_heap w.params).objs.toList) 11 {}=boot_heap w.params:=by kernel_rfl
 obtain⟨⟨h,gs',d',k',os⟩,e1,e'⟩:=Option.map_eq_some_iff.mp (boot_open e hN f w)
 obtain⟨rfl,rfl,rfl,rfl⟩:h=boot_heap w.params/\gs'=Array.mk []/\d'=boot_drawn/\k'=boot_toks:=by simpa using e'
 obtain⟨b1,b2,b3⟩:_/\_/\_:=by simpa only[Prod.mk.injEq]using b
 obtain⟨s,r1,r2⟩:=Option.map_eq_some_iff.mp (r w os)
 obtain⟨s',y1,y2⟩:=Option.map_eq_some_iff.mp (y w os)
 have es:s'=s:=by rw[r1]at y1;injection y1 with y1;exact y1.symm
 subst es
 obtain⟨l1,l2⟩:_/\_:=by simpa only[looked,Prod.mk.injEq]using r2
 have t1:=Mz N _ _ _ r1
 have ab:SharedT.abs ⟨treeOf (boot_heap w.params).objs.toList,11,{},Array.mk [],boot_drawn,boot_toks,os⟩=⟨boot_heap w.params,Array.mk [],boot_drawn,boot_toks,os⟩:=by unfold SharedT.abs;rw[c]
 rw[ab]at t1
 have t:topFrom treeTable p w N ⟨boot_heap w.params,Array.mk [],boot_drawn,boot_toks,os⟩=some s'.abs:=by
  unfold topFrom
  dsimp only
  rw[b1,b2,b3,t1]
  show(match staticsOk (importedModules p.main.body) (boot_heap w.params) s'.abs.heap&&namesBound p s'.abs.heap&&gensDone s'.abs&&laidKept (boot_heap w.params) s'.abs.heap with |true=>_|false=>_)=_
  rw[l1]
 unfold openEnds
 rw[e1]
 show(topFrom treeTable p w N _).map _=_
 rw[t]
 show some (_,_)=_
 rw[l2,y2]
end Hd
section
open PySem PySem.W PyProof.Rows
namespace Hd
abbrev L:=PySem.Challenge.rw_hueshare_k27_whole_webs_put_together
def Q:Program:=view L.row.toRowW.prog [1,2,3,4,5,6,8,9,10,11,12,13,14,15,16,17,18,19,20,21,22,24,25,26,27,28,29,30,31,33,34,36,37,38,39,40,42,43,44,45,46,47,48,49,51,52,53,54,56,57,58,59,60,61,62,63,64,65]
abbrev X:Shared->Bool:=fun s=>xlAt Q [] s&&recOk (RowW.records L.row.toRowW) s
set_option maxRecDepth 100000 in
theorem looks:uw L.row.toRowW.prog Q [] X true 6624:=fun w os=>by kernel_rfl
end Hd
local macro_rules
 |`(tactic|o_head $H)=>`(tactic|
  refine holds_open (q:=Hd.Q) (loose:=[]) (N:=6624) (Xt:=Hd.X) (XP:=XL Hd.Q [])
   (Yf:=Hook.obs $H) (Ya:=Hook.val $H) (YP:=Hook.says $H)
   (Hd.Nx Hd.looks (by kernel_rfl) rfl (fun _=>by kernel_rfl) (fun _ _=>by kernel_rfl))
   (Hook.of $H) (Hook.keeps $H) (fun s e=>xl_of s (Bool.and_eq_true_iff.mp e).1) XL.keeps
   (by rfl) (by rfl) (by rfl) (fun s e=>recFacts_of (Bool.and_eq_true_iff.mp e).2) (by rfl)
   (by first |assumption|decide+kernel) (by decide+kernel) ⟨rfl,rfl,rfl,rfl,rfl,by decide+kernel⟩ ?hw ?hc)
set_option maxRecDepth 100000 in
set_option maxHeartbeats 0 in
def Hd.early:PSigma fun P:Prop=>P->PySem.Challenge.rw_hueshare_k27_whole_webs_put_together.Holds:=by
 refine⟨?P,fun W=> ?_⟩
 rotate_left
 w_on;o_law;k_head;(case hw=>w_witness2)
 exact W
end
namespace L2
open PySem PySem.Spec PyProof.Rows
abbrev Key:=Sum Int Str
def keyIs:Key->Value->Bool
 | .inl k,v=>Value.isInt k v
 | .inr x,v=>Value.isStrOf x v
def keyH(w:World):Key->Int
 | .inl k=>hashInt k
 | .inr x=>hashStr w x
theorem Lh:∀{k:Key} {v:Value},keyIs k v=true->(∃i t,k=Sum.inl i/\v=Value.int i t)\/(∃x t,k=Sum.inr x/\v=Value.str x t)
 | .inl i,v,h=>by
  obtain⟨t,e⟩:=Value.isInt_shape (k:=i) (v:=v) h
  exact .inl ⟨i,t,rfl,e⟩
 | .inr x,v,h=>by
  obtain⟨t,e⟩:=Value.isStrOf_shape (x:=x) (v:=v) h
  exact .inr ⟨x,t,rfl,e⟩
theorem key_ll(a b:Int):decide ((Sum.inl a:Key)=Sum.inl b)=(a==b):=by
 by_cases e:a=b
 ·subst e;simp
 ·have h:¬(Sum.inl a:Key)=Sum.inl b:=fun q=>e (Sum.inl.inj q)
  rw[iY h]
  exact(beq_eq_false_iff_ne.mpr e).symm
theorem key_rr(a b:Str):decide ((Sum.inr a:Key)=Sum.inr b)=decide (a=b):=by
 by_cases e:a=b
 ·subst e;simp
 ·have h:¬(Sum.inr a:Key)=Sum.inr b:=fun q=>e (Sum.inr.inj q)
  rw[iY h,iY e]
theorem key_lr(a:Int)(b:Str):decide ((Sum.inl a:Key)=Sum.inr b)=false:=iY (fun q=>nomatch q)
theorem key_rl(a:Str)(b:Int):decide ((Sum.inr a:Key)=Sum.inl b)=false:=iY (fun q=>nomatch q)
def mixKind(prog:Program)(w:World):PySem.KeyKind prog w Key where
 is:=keyIs
 hash:=keyH w
 inj:=fun v a b ha hb=>by
  rcases Lh ha with⟨i,t,rfl,rfl⟩|⟨x,t,rfl,rfl⟩
  ·rcases Lh hb with⟨j,u,rfl,e⟩|⟨y,u,rfl,e⟩
   ·injection e with e1 _;rw[e1]
   ·exact nomatch e
  ·rcases Lh hb with⟨j,u,rfl,e⟩|⟨y,u,rfl,e⟩
   ·exact nomatch e
   ·injection e with e1 _;rw[e1]
 byValue:=fun k v h=>by
  rcases Lh h with⟨i,t,rfl,rfl⟩|⟨x,t,rfl,rfl⟩<;>rfl
 pyHash:=fun hv h=>by
  rcases Lh hv with⟨i,t,rfl,rfl⟩|⟨x,t,rfl,rfl⟩
  ·exact wpAny_pyHash_int h
  ·exact wpAny_pyHash_str h
 eqBool:=fun hu hv h=>by
  rcases Lh hu with⟨i,t,rfl,rfl⟩|⟨x,t,rfl,rfl⟩
  ·rcases Lh hv with⟨j,u,rfl,rfl⟩|⟨y,u,rfl,rfl⟩
   ·rw[key_ll]at h;exact wpAny_eqBool_int h
   ·rw[key_lr]at h;exact SeqAt.EqAt.int_str i t y u _ _ _ _ h
  ·rcases Lh hv with⟨j,u,rfl,rfl⟩|⟨y,u,rfl,rfl⟩
   ·rw[key_rl]at h;exact SeqAt.EqAt.str_int x t j u _ _ _ _ h
   ·rw[key_rr]at h;exact wpAny_eqBool_str h
 «strs»:=fun k x t v h=>by
  rcases Lh h with⟨i,u,rfl,e⟩|⟨y,u,rfl,e⟩
  ·exact nomatch e
  ·injection e with e1 _
   subst e1
   cases v<;>rfl
inductive V where
 |non|bl (b:Bool)|int (i:Int)|str (x:Str)|byt (b:Array UInt8)|flt (b:UInt64)|ref (a:Addr)|ty (n:String)
 deriving DecidableEq
def RelV:V->Value->Prop
 | .non,u=>u=Value.none
 | .bl b,u=>u=Value.bool b
 | .int i,u=>∃t,u=Value.int i t
 | .str x,u=>∃t,u=Value.str x t
 | .byt b,u=>∃t,u=Value.bytes b t
 | .flt b,u=>∃t,u=Value.float b t
 | .ref a,u=>u=Value.ref a
 | .ty n,u=>u=Value.type n
abbrev Vals:List V->List Value->Prop:=Paired RelV
theorem Vals.length{xs:List V}{us:List Value}(r:Vals xs us):xs.length=us.length:=Paired.length r
theorem Vals.get:∀{xs:List V} {us:List Value} {i:Nat} {x:V},Vals xs us->xs[i]? =some x->∃u,us[i]? =some u/\RelV x u
 |_,_,_,_,.nil,e=>by simp at e
 |_,_,0,_,.cons r _,e=>by simp at e;subst e;exact⟨_,rfl,r⟩
 |_,_,i+1,x,.cons _ t,e=>by
  obtain⟨u,h1,h2⟩:=Vals.get (i:=i) (x:=x) t (by simpa using e)
  exact⟨u,by simpa using h1,h2⟩
theorem Vals.set{x:V}{u:Value}(r:RelV x u):∀{xs:List V} {us:List Value} (i:Nat),Vals xs us->Vals (xs.set i x) (us.set i u)
 |_,_,_,.nil=> .nil
 |_,_,0,.cons _ t=> .cons r t
 |_,_,i+1,.cons q t=> .cons q (Vals.set r i t)
theorem Vals.append:∀{xs ys:List V} {us ws:List Value},Vals xs us->Vals ys ws->Vals (xs++ys) (us++ws)
 |_,_,_,_,.nil,s=>s
 |_,_,_,_,.cons r t,s=> .cons r (Vals.append t s)
theorem Vals.take:∀{xs:List V} {us:List Value} (n:Nat),Vals xs us->Vals (xs.take n) (us.take n)
 |_,_,0,_=> .nil
 |_,_,_+1,.nil=> .nil
 |_,_,n+1,.cons r t=> .cons r (Vals.take n t)
theorem Vals.drop:∀{xs:List V} {us:List Value} (n:Nat),Vals xs us->Vals (xs.drop n) (us.drop n)
 |_,_,0,r=>r
 |_,_,_+1,.nil=> .nil
 |_,_,n+1,.cons _ t=>Vals.drop n t
def RelO:Option V->Option Value->Prop
 |some v,some u=>RelV v u
 |none,none=>True
 |_,_=>False
def KV{κ:Type}:List (κ×V)->List (κ×Value)->Prop:=Paired fun(p:κ×V) (q:κ×Value)=>p.1=q.1/\RelV p.2 q.2
def kV:Key->V
 | .inl i=> .int i
 | .inr x=> .str x
inductive HO where
 /-- a list -/
 |lst (xs:List V)
 /-- a tuple (never changes) -/
 |tup (xs:List V)
 /-- a dict whose keys are ints and texts; one whose keys are tuples of ints and texts (the empty one is both) -/
 |dK (kvs:List (Key×V))|dT (kvs:List (List Key×V))
 /-- a set of ints: its members, its size -/
 |set (S:Int->Bool) (n:Nat)
 /-- an instance of the class at C, its dict at dx, its attributes -/
 |ins (C dx:Addr) (fs:List (Str×V))
 /-- the dict of the instance at x -/
 |own (x:Addr)
 /-- the dict of an exception -/
 |xd (fs:List (Str×V))
 /-- a bound method, f of x -/
 |met (f x:Addr)
 /-- a range object lo, lo + 1, .. below hi -/
 |rng (lo hi:Int)
 /-- a thing that is known to the object (the script; a dict while a loop walks it): read, never written while it is so -/
 |frz (o:Obj) (u:HO)
 /-- a code object's table -/
 |tbl (ps:Array Value)
 /-- any other thing, by what is true of its one object (a def of one's own: SetO a S n := HO.ext fun h => ..) -/
 |ext (φ:Heap->Prop)
abbrev Hp:=Addr->Option HO
def upd(H:Hp)(a:Addr)(o:HO):Hp:=fun b=>if b=a then some o else H b
theorem aH{H:Hp}{a:Addr}{o:HO}:upd H a o a=some o:=by unfold upd;rw[aA rfl]
theorem cL{H:Hp}{a b:Addr}{o:HO}(h:b≠a):upd H a o b=H b:=by unfold upd;rw[ao h]
theorem upd_upd{H:Hp}{a:Addr}{o u:HO}:upd (upd H a o) a u=upd H a u:=by
 funext b;unfold upd;split<;>rfl
theorem ne_of{H:Hp}{a b:Addr}{o u:HO}(h:H a=some o)(h':H b=some u)(d:o≠u):a≠b:=by
 intro e;subst e;rw[h]at h';exact d (sy h')
theorem pJ{H:Hp}{a b:Addr}{o:HO}(h:H a=some o)(h':H b=none):a≠b:=by
 intro e;subst e;rw[h]at h';cases h'
section
variable(P:Program)(w:World)
def ObjOk(H:Hp)(h:Heap)(a:Addr):HO->Prop
 | .lst xs=>xs.length<=sizeLine/\∃(its:List Value) (n:Nat),Vals xs its/\h.get? a=some {cls:= .type "list",data:= .seq its.toArray n}
 | .tup xs=>xs.length<=sizeLine/\∃its:List Value,Vals xs its/\IsTup h a its.toArray
 | .dK kvs=>kvs.length<=sizeLine/\(a==sysModules)=false/\∃vs,KV kvs vs/\h.DictOf (mixKind P w) a vs
 | .dT kvs=>kvs.length<=sizeLine/\(a==sysModules)=false/\∃xs:List (List Key×Addr×Value),
   Paired (fun(p:List Key×V) (q:List Key×Addr×Value)=>p.1=q.1/\H q.2.1=some (.tup (p.1.map kV))/\RelV p.2 q.2.2) kvs xs/\
   ∃o es ep,h.get? a=some o/\o.ExactDict/\o.data= .dict es ep/\es.toList=xs.map (entryOfKey (tupleKind (mixKind P w)))/\(xs.map (·.1)).Nodup
 | .set S n=>h.SetOf (intKind P w) a S n
 | .ins C dx fs=>H dx=some (.own a)/\fs.length<=1000/\dx≠a/\h.get? a=some (PySem.W.instObj C dx)/\
   ∃mA,h.Ns1 dx mA/\(∀f,RelO (fs.lookup f) (mA f))/\PySem.Within mA (fs.map (·.1))
 | .own _=>∃o,h.get? a=some o
 | .xd fs=>∃mA,h.Ns1 a mA/\∀f,RelO (fs.lookup f) (mA f)
 | .rng lo hi=>∃t u v,h.get? a=some {cls:= .type "range",data:= .fields #[.int lo t,.int hi u,.int 1 v]}
 | .frz o u=>h.get? a=some o/\ObjOk H h a u
 | .tbl ps=>h.get? a=some {cls:= .none,data:= .fields ps}
 | .met f x=>h.get? a=some (PySem.W.methodObj (.ref f) (.ref x))
 | .ext φ=>φ h/\(∃o,h.get? a=some o)/\∀h1 h2:Heap,φ h1->(∀o,h1.get? a=some o->h2.get? a=some o)->φ h2
def HOk(H:Hp)(h:Heap):Prop:=∀a o,H a=some o->ObjOk P w H h a o
end
section
variable{P:Program}{w:World}{H H':Hp}{h h':Heap}{a:Addr}{o:HO}
theorem ObjOk.lt(x:ObjOk P w H h a o):a<h.objs.size:=by
 cases o with
 |lst xs=>obtain⟨_,_,_,_,e⟩:=x;exact fD e
 |tup xs=>obtain⟨_,_,_,p⟩:=x;exact p.lt
 |dK kvs=>obtain⟨_,_,_,_,o,_,_,e,_⟩:=x;exact fD e
 |dT kvs=>obtain⟨_,_,_,_,o,_,_,e,_⟩:=x;exact fD e
 |set S n=>obtain⟨o,_,_,_,e,_⟩:=x;exact fD e
 |ins C dx fs=>obtain⟨_,_,_,e,_⟩:=x;exact fD e
 |own y=>obtain⟨_,e⟩:=x;exact fD e
 |xd fs=>obtain⟨_,⟨_,_,_,e,_⟩,_⟩:=x;exact fD e
 |rng lo hi=>obtain⟨_,_,_,e⟩:=x;exact fD e
 |frz ob u=>obtain⟨e,_⟩:=x;exact fD e
 |tbl ps=>exact fD (show h.get? a=some _ from x)
 |met f y=>exact fD (show h.get? a=some _ from x)
 |ext φ=>obtain⟨_,⟨_,e⟩,_⟩:=x;exact fD e
theorem Paired.mapP{α β:Type}{F G:α->β->Prop}:∀{l₁:List α} {l₂:List β},Paired F l₁ l₂->(∀a b,F a b->G a b)->Paired G l₁ l₂
 |_,_,.nil,_=> .nil
 |_,_,.cons r t,f=> .cons (f _ _ r) (Paired.mapP t f)
theorem ObjOk.stay(x:ObjOk P w H h a o)(k:∀b u,(b=a\/H b=some (.own a))->h.get? b=some u->h'.get? b=some u)(ho:∀b,H b=some (.own a)->H' b=some (.own a))(ht:∀b xs,H b=some (.tup xs)->H' b=some (.tup xs)):ObjOk P w H' h' a o:=by
 induction o with
 |lst xs=>obtain⟨z,its,n,r,e⟩:=x;exact⟨z,its,n,r,k _ _ (.inl rfl) e⟩
 |tup xs=>obtain⟨z,its,r,ob,e,c⟩:=x;exact⟨z,its,r,ob,k _ _ (.inl rfl) e,c⟩
 |dK kvs=>obtain⟨z,y,vs,r,ob,es,ep,e,c⟩:=x;exact⟨z,y,vs,r,ob,es,ep,k _ _ (.inl rfl) e,c⟩
 |dT kvs=>
  obtain⟨z,y,xs,r,ob,es,ep,e,c⟩:=x
  exact⟨z,y,xs,Paired.mapP r fun p q z=>⟨z.1,ht _ _ z.2.1,z.2.2⟩,ob,es,ep,k _ _ (.inl rfl) e,c⟩
 |set S n=>obtain⟨ob,es,ep,t,e,c⟩:=x;exact⟨ob,es,ep,t,k _ _ (.inl rfl) e,c⟩
 |ins C dx fs=>
  obtain⟨d,z,ne,e,mA,⟨od,es,ep,e2,c⟩,r⟩:=x
  exact⟨ho _ d,z,ne,k _ _ (.inl rfl) e,mA,⟨od,es,ep,k _ _ (.inr d) e2,c⟩,r⟩
 |own y=>obtain⟨ob,e⟩:=x;exact⟨ob,k _ _ (.inl rfl) e⟩
 |xd fs=>obtain⟨mA,⟨od,es,ep,e,c⟩,r⟩:=x;exact⟨mA,⟨od,es,ep,k _ _ (.inl rfl) e,c⟩,r⟩
 |rng lo hi=>obtain⟨t,u,v,e⟩:=x;exact⟨t,u,v,k _ _ (.inl rfl) e⟩
 |frz ob u ih=>obtain⟨e,q⟩:=x;exact⟨k _ _ (.inl rfl) e,ih q⟩
 |tbl ps=>
  have e:h.get? a=some {cls:= .none,data:= .fields ps}:=x
  show h'.get? a=some {cls:= .none,data:= .fields ps}
  exact k a _ (.inl rfl) e
 |met f y=>
  have e:h.get? a=some (PySem.W.methodObj (.ref f) (.ref y)):=x
  show h'.get? a=some (PySem.W.methodObj (.ref f) (.ref y))
  exact k a _ (.inl rfl) e
 |ext φ=>obtain⟨p,⟨o,e⟩,st⟩:=x;exact⟨st _ _ p fun o q=>k _ _ (.inl rfl) q,⟨o,k _ _ (.inl rfl) e⟩,st⟩
theorem HOk.lt(x:HOk P w H h)(e:H a=some o):a<h.objs.size:=(x a o e).lt
theorem HOk.fresh(x:HOk P w H h)(e:h.objs.size<=a):H a=none:=by
 cases q:H a with
 |none=>rfl
 |some u=>exact absurd (jx (x.lt q) e) (oM _)
theorem HOk.kept(x:HOk P w H h)(k:∀b u,h.get? b=some u->h'.get? b=some u):HOk P w H h':=fun a o e=>
 (x a o e).stay (fun b u _ q=>k b u q) (fun _ q=>q) fun _ _ q=>q
theorem HOk.laid(x:HOk P w H h)(k:∀b u,h.get? b=some u->h'.get? b=some u)(hp:h.objs.size<=a)(new:ObjOk P w (upd H a o) h' a o):HOk P w (upd H a o) h':=fun b u e=>by
 have hn:=x.fresh hp
 by_cases hb:b=a
 ·subst hb;rw[aH]at e;cases e;exact new
 ·rw[cL hb]at e
  exact(x b u e).stay (fun c v _ q=>k c v q) (fun c q=>by rw[cL (pJ q hn)];exact q) fun c xs q=>by rw[cL (pJ q hn)];exact q
end
def Rd(H:Hp)(a:Addr)(u:HO):Prop:=H a=some u\/∃o,H a=some (.frz o u)
theorem Rd.ok{P:Program}{w:World}{H:Hp}{h:Heap}{a:Addr}{u:HO}(r:Rd H a u)(x:HOk P w H h):ObjOk P w H h a u:=by
 rcases r with r|⟨o,r⟩
 ·exact x a u r
 ·obtain⟨_,q⟩:=x a _ r
  exact q
def Mut:Option HO->Prop
 |some (.lst _)=>True
 |some (.dK _)=>True
 |some (.dT _)=>True
 |some (.set _ _)=>True
 |some (.ins _ _ _)=>True
 |some (.ext _)=>True
 |_=>False
section
variable{P:Program}{w:World}{H:Hp}{h h':Heap}{x e:Addr}{o':HO}
theorem HOk.write(ok:HOk P w H h)(mu:Mut (H x))(he:e=x\/H e=some (.own x))(k:∀b u,b≠e->h.get? b=some u->h'.get? b=some u)(heo:∃u,h'.get? e=some u)(new:ObjOk P w (upd H x o') h' x o'):HOk P w (upd H x o') h':=fun b u q=>by
 have nown:∀c y,H c=some (.own y)->c≠x:=fun c y r z=>by subst z;rw[r]at mu;exact mu
 have ntup:∀c xs,H c=some (.tup xs)->c≠x:=fun c xs r z=>by subst z;rw[r]at mu;exact mu
 by_cases hb:b=x
 ·subst hb;rw[aH]at q;cases q;exact new
 ·rw[cL hb]at q
  by_cases hbe:b=e
  ·have q':H b=some (.own x):=by
    rcases he with z|z
    ·exact absurd (hbe.trans z) hb
    ·rw[hbe];exact z
   rw[q]at q';cases q'
   obtain⟨v,hv⟩:=heo
   exact⟨v,by rw[hbe];exact hv⟩
  ·refine(ok b u q).stay (fun c v hc r=>k c v ?_ r) (fun c r=>by rw[cL (nown c b r)];exact r) fun c xs r=>by rw[cL (ntup c xs r)];exact r
   rcases hc with rfl|hc
   ·exact hbe
   ·rintro rfl
    rcases he with z|z
    ·exact nown c b hc z
    ·rw[hc]at z;cases z;exact hb rfl
end
structure Un(fs ex:List Addr)(H H':Hp)(h h':Heap):Prop where
 keep:∀b o,h.get? b=some o->H b=none->b∉fs->b∉ex->h'.get? b=some o
 slot:∀b o,h.get? b=some o->H b=none->b∈fs->b∉ex->∃sl,h'.get? b=some {o with slots:=sl}
 free:∀b o,h.get? b=some o->H b=none->b∉ex->H' b=none
 there:∀b o,h.get? b=some o->b∉ex->∃o',h'.get? b=some o'
 tups:∀b xs,H b=some (.tup xs)->H' b=some (.tup xs)
 frzs:∀b o u,H b=some (.frz o u)->H' b=some (.frz o u)
 tbls:∀b ps,H b=some (.tbl ps)->∃more,H' b=some (.tbl (ps++more))
section
variable{fs fs' ex ex':List Addr}{H H1 H2:Hp}{h h1 h2 h':Heap}{a x e:Addr}{o:HO}
theorem Un.any(u:Un fs ex H H1 h h1){b:Addr}{ob:Obj}(q:h.get? b=some ob)(n:H b=none)(hx:b∉ex):∃sl,h1.get? b=some {ob with slots:=sl}:=by
 by_cases hb:b∈fs
 ·exact u.slot b ob q n hb hx
 ·exact⟨ob.slots,u.keep b ob q n hb hx⟩
theorem Un.kept(k:∀b u,h.get? b=some u->h'.get? b=some u):Un fs ex H H h h':=
 ⟨fun b ob q _ _ _=>k b ob q,fun b ob q _ _ _=>⟨ob.slots,k b ob q⟩,fun _ _ _ n _=>n,fun b ob q _=>⟨ob,k b ob q⟩,fun _ _ q=>q,fun _ _ _ q=>q,fun _ ps q=>⟨#[],by rw[q];simp⟩⟩
theorem Un.refl:Un fs ex H H h h:=Un.kept fun _ _ q=>q
theorem Un.laid(k:∀b u,h.get? b=some u->h'.get? b=some u)(hp:h.objs.size<=a)(hn:H a=none):Un fs ex H (upd H a o) h h' where
 keep:=fun b u q _ _ _=>k b u q
 slot:=fun b u q _ _ _=>⟨u.slots,k b u q⟩
 free:=fun b u q n _=>by rw[cL (iK (jx (fD q) hp))];exact n
 there:=fun b u q _=>⟨u,k b u q⟩
 tups:=fun b xs q=>by rw[cL (pJ q hn)];exact q
 frzs:=fun b u xs q=>by rw[cL (pJ q hn)];exact q
 tbls:=fun b ps q=>⟨#[],by rw[cL (pJ q hn),q];simp⟩
theorem Un.write(mu:Mut (H x))(he:e=x\/H e=some (.own x))(k:∀b u,b≠e->h.get? b=some u->h'.get? b=some u)(heo:∃u,h'.get? e=some u):Un fs ex H (upd H x o) h h':=by
 have hx:∀b,H b=none->b≠x:=fun b n z=>by subst z;rw[n]at mu;exact mu
 have hb:∀b,H b=none->b≠e:=fun b n z=>by
  subst z
  rcases he with r|r
  ·exact hx b n r
  ·rw[n]at r;cases r
 have hm:∀b u,H b=some u->¬Mut (some u)->b≠x:=fun b u q nm z=>by subst z;rw[q]at mu;exact nm mu
 refine⟨fun b u q n _ _=>k b u (hb b n) q,fun b u q n _ _=>⟨u.slots,k b u (hb b n) q⟩,fun b u q n _=>by rw[cL (hx b n)];exact n,fun b u q _=> ?_,
  fun b xs q=>by rw[cL (hm b _ q fun z=>z)];exact q,fun b u xs q=>by rw[cL (hm b _ q fun z=>z)];exact q,fun b ps q=>⟨#[],by rw[cL (hm b _ q fun z=>z),q];simp⟩⟩
 by_cases hbe:b=e
 ·subst hbe;exact heo
 ·exact⟨u,k b u hbe q⟩
end
def trk(h:Heap)(H:Hp):List Addr:=(List.range h.objs.size).filter fun a=>(H a).isSome
def hidT(h:Heap)(H:Hp):Heap:=PySem.W.hideAll h (trk h H)
theorem hidT_size(h:Heap)(H:Hp):(hidT h H).objs.size=h.objs.size:=PySem.W.hideAll_size _ _
theorem hidT_get{h:Heap}{H:Hp}{b:Addr}{o:Obj}(e:h.get? b=some o)(n:H b=none):(hidT h H).get? b=some o:=
 PySem.W.hideAll_get _ e fun hm=>by
  have q:(H b).isSome=true:=(iR.mp hm).2
  rw[n]at q;simp at q
theorem of_hidT{h:Heap}{H:Hp}{b:Addr}{o:Obj}(e:(hidT h H).get? b=some o):h.get? b=some o/\H b=none:=by
 have e':h.get? b=some o:=PySem.W.of_hideAll (trk h H) e
 refine⟨e',?_⟩
 cases q:H b with
 |none=>rfl
 |some x=>
  have hm:b∈trk h H:=iR.mpr ⟨m8.mpr (fD e'),by simp[q]⟩
  have z:(hidT h H).get? b=none:=PySem.W.hideAll_none (trk h H) hm
  rw[z]at e;cases e
structure Mod(K:W.Frag)(mg:Str->Option Value)(base:Heap):Prop where
 kin:K.In base
 glob:base.Ns mainGlobals mg
 blt:∃mb,base.Ns builtinsNs mb/\∀x:Str,x≠"__name__"->mb x=bootBuiltins x
 nolimit:base.NoLimit
structure Cx where
 prog:Program
 w:World
 K:W.Frag
 mg:Str->Option Value
 base:Heap
 A:Around
 N:List Str
 s₀:Shared
 H₀:Hp
 env:Env
 outer:List Env
 stack:List Env
 ex:List Addr
 fn:Str->Bool
 calm:Bool
 pn:List (Addr×Obj)
 xe:Value->Shared->Prop
def frs(l:List Env):List Addr:=l.filterMap (·.frame)
abbrev Cx.fs(X:Cx):List Addr:=frs X.outer
def Vis(sc:Scope)(x:Str):Prop:=sc.names.lookup x=some .local\/sc.names.lookup x=some .cell\/sc.names.lookup x=some .free
def Loc(sc:Scope)(x:Str):Prop:=sc.names.lookup x=some .local\/sc.names.lookup x=some .cell
def Look(env:Env)(h:Heap)(m:Str->Option Value)(x:Str)(u:Value):Prop:=
 (env.kindOf x=some .local/\m x=some u)\/((env.kindOf x=some .cell\/env.kindOf x=some .free)/\∃c,env.cells.lookup x=some c/\h.IsCell c (some u))
structure Cx.Ok(X:Cx):Prop where
 mod:Mod X.K X.mg X.base
 kind:X.env.scope.kind= .function
 glob:X.env.globals=mainGlobals
 blt:X.env.builtins=builtinsNs
 above:X.s₀.heap.objs.size<=X.env.locals
 inj:∀x y c,X.env.cells.lookup x=some c->X.env.cells.lookup y=some c->x=y
 has:∀x,(X.env.kindOf x=some .cell\/X.env.kindOf x=some .free)->∃c,X.env.cells.lookup x=some c
 cab:∀x c,X.fn x=true->X.env.cells.lookup x=some c->X.s₀.heap.objs.size<=c
 hd:X.calm=true->X.A.handled=none
 frames:X.A.frames=some X.stack
 stk:X.stack=X.outer\/(X.stack=X.env::X.outer/\X.env.frame=some X.env.locals)
 exf:∀b∈X.ex,b≠X.env.locals/\∀x c,X.env.cells.lookup x=some c->c≠b
 bs:∀b o,X.base.get? b=some o->X.s₀.heap.get? b=some o/\X.H₀ b=none
 bsz:X.base.objs.size<=X.s₀.heap.objs.size
 noex:∀b o,X.base.get? b=some o->b∉X.ex
 exfs:∀b∈X.ex,b∉X.fs
 funs:X.s₀.heap.FunFrames X.base X.outer
 frf:∀b∈X.fs,X.H₀ b=none
structure Inv(X:Cx)(pins:List (Addr×Obj))(σ:List (Option V))(H:Hp)(s:Shared):Prop where
 ok:X.Ok
 os:s.os=X.s₀.os
 bare:AllBare s.gens
 base:Un X.fs X.ex X.H₀ H X.s₀.heap s.heap
 loc:∃m,s.heap.Ns X.env.locals m/\∀(i:Nat) (x:Str) (v:V),X.N[i]? =some x->σ[i]? =some (some v)->Vis X.env.scope x->∃u,RelV v u/\Look X.env s.heap m x u
 cell:∀x c,X.env.cells.lookup x=some c->∃v,s.heap.IsCell c v
 free:H X.env.locals=none
 freeC:∀x c,X.env.cells.lookup x=some c->H c=none
 pin:∀p∈X.pn++pins,s.heap.get? p.1=some p.2/\H p.1=none/\p.1≠X.env.locals/\p.1∉X.fs/\∀v,p.2.data≠.cell v
 hok:HOk X.prog X.w H s.heap
 len:σ.length=X.N.length
section
variable{X:Cx}{pins:List (Addr×Obj)}{σ:List (Option V)}{H H':Hp}{s:Shared}{h':Heap}
theorem Cx.Ok.nofr(ok:X.Ok){b:Addr}{o:Obj}(e:X.base.get? b=some o):b∉X.fs:=fun hb=>by
 have:=(ok.funs.mem hb).1
 rw[e]at this;cases this
theorem Inv.bs(I:Inv X pins σ H s):∀b o,X.base.get? b=some o->s.heap.get? b=some o/\H b=none:=fun b o e=>
 ⟨I.base.keep b o (I.ok.bs b o e).1 (I.ok.bs b o e).2 (I.ok.nofr e) (I.ok.noex b o e),I.base.free b o (I.ok.bs b o e).1 (I.ok.bs b o e).2 (I.ok.noex b o e)⟩
theorem Inv.bk(I:Inv X pins σ H s):∀b o,X.base.get? b=some o->s.heap.get? b=some o:=fun b o e=>(I.bs b o e).1
theorem Inv.mod(I:Inv X pins σ H s):Mod X.K X.mg X.base:=I.ok.mod
theorem Inv.kIn(I:Inv X pins σ H s):X.K.In s.heap:=I.ok.mod.kin.keeps I.bk
theorem Inv.lt(I:Inv X pins σ H s):X.env.locals<s.heap.objs.size:=let⟨_,hn,_⟩:=I.loc;hn.lt
theorem Inv.sz(I:Inv X pins σ H s):X.s₀.heap.objs.size<=s.heap.objs.size:=dW I.ok.above (cM I.lt)
theorem Inv.nofs(I:Inv X pins σ H s){a:Addr}(h:s.heap.objs.size<=a):a∉X.fs:=fun hb=>by
 obtain⟨_,o,ho,_⟩:=I.ok.funs.mem hb
 exact absurd (jx (fD ho) (dW I.sz h)) (oM _)
theorem Inv.cne(I:Inv X pins σ H s):∀x c,X.env.cells.lookup x=some c->c≠X.env.locals:=fun x c e z=>by
 obtain⟨v,o,ho,hd⟩:=I.cell x c e
 obtain⟨m,⟨o',es,ep,ho',hd',_⟩,_⟩:=I.loc
 rw[z,ho']at ho;cases ho;rw[hd']at hd;cases hd
theorem Inv.funs(I:Inv X pins σ H s):s.heap.FunFrames X.base X.outer:=by
 have all:∀(l:List Env),(∀b∈frs l,b∈X.fs)->X.s₀.heap.FunFrames X.base l->s.heap.FunFrames X.base l:=by
  intro l
  induction l with
  |nil=>intro _ _;trivial
  |cons env r ih=>
   intro hs hl
   obtain⟨hk,⟨L,o,hf,hn,ho,hd⟩,hr⟩:=hl
   have hL:L∈X.fs:=hs L (by unfold frs;rw[wcp,hf];exact jV)
   obtain⟨sl,e⟩:=I.base.slot L o ho (I.ok.frf L hL) hL fun z=>I.ok.exfs L z hL
   exact⟨hk,⟨L,_,hf,hn,e,hd⟩,ih (fun b hb=>hs b (by unfold frs;rw[wcp,hf];exact iZ _ hb)) hr⟩
 exact all X.outer (fun _ hb=>hb) I.ok.funs
theorem Inv.stack(I:Inv X pins σ H s):s.heap.FunFrames X.base X.stack:=by
 rcases I.ok.stk with e|⟨e,hf⟩
 ·rw[e];exact I.funs
 ·rw[e]
  obtain⟨m,hn,_⟩:=I.loc
  refine .cons (by rw[I.ok.kind];decide) hf hn ?_ I.funs
  exact Heap.get?_none_of_le (dW I.ok.bsz I.ok.above)
theorem Inv.stkSub(I:Inv X pins σ H s):∀b∈frs X.stack,b∈X.env.locals::X.fs:=fun b hb=>by
 rcases I.ok.stk with e|⟨e,hf⟩
 ·rw[e]at hb;exact iZ _ hb
 ·rw[e]at hb
  unfold frs at hb
  rw[wcp,hf]at hb
  exact hb
theorem Inv.stkFree(I:Inv X pins σ H s):∀b∈frs X.stack,H b=none:=fun b hb=>by
 rcases eN.mp (I.stkSub b hb)with e|hb
 ·rw[e];exact I.free
 ·obtain⟨_,o,ho,_⟩:=I.ok.funs.mem hb
  exact I.base.free b o ho (I.ok.frf b hb) fun z=>I.ok.exfs b z hb
theorem Inv.step{g':Array GenState}{t':Nat}{d':Drawn}{ch:List Addr}(I:Inv X pins σ H s)(hch:∀b∈ch,(b∈X.ex\/X.s₀.heap.objs.size<=b)/\b≠X.env.locals/\(∀x c,X.env.cells.lookup x=some c->c≠b)/\∀p∈X.pn++pins,p.1≠b)(keep:∀b o,b≠X.env.locals->b∉X.fs->b∉ch->s.heap.get? b=some o->H b=none->h'.get? b=some o)(slot:∀b o,b≠X.env.locals->b∈X.fs->b∉ch->s.heap.get? b=some o->H b=none->∃sl,h'.get? b=some {o with slots:=sl})(free:∀b o,b∉ch->s.heap.get? b=some o->H b=none->H' b=none)(there:∀b o,b∉ch->s.heap.get? b=some o->∃o',h'.get? b=some o')(tups:∀b xs,H b=some (.tup xs)->H' b=some (.tup xs))(frzs:∀b o u,H b=some (.frz o u)->H' b=some (.frz o u))(tbls:∀b ps,H b=some (.tbl ps)->∃more,H' b=some (.tbl (ps++more)))(ns:∀m,s.heap.Ns X.env.locals m->h'.Ns X.env.locals m)(hok:HOk X.prog X.w H' h')(hg:AllBare g'):
  Inv X pins σ H' {s with heap:=h',gens:=g',drawn:=d',toks:=t'}:=by
 have neL:∀b o,X.s₀.heap.get? b=some o->b≠X.env.locals:=fun b o e=>iK (jx (fD e) I.ok.above)
 have neC:∀b o,X.s₀.heap.get? b=some o->b∉X.ex->b∉ch:=fun b o e hx hb=>by
  rcases(hch b hb).1 with z|z
  ·exact hx z
  ·exact absurd (jx (fD e) z) (oM _)
 have cellK:∀x c,X.env.cells.lookup x=some c->∀v,s.heap.IsCell c v->h'.IsCell c v:=fun x c e v ⟨o,ho,hd⟩=>by
  have nch:c∉ch:=fun z=>(hch c z).2.2.1 x c e rfl
  by_cases hc:c∈X.fs
  ·obtain⟨sl,q⟩:=slot c o (I.cne x c e) hc nch ho (I.freeC x c e)
   exact⟨_,q,hd⟩
  ·exact⟨o,keep c o (I.cne x c e) hc nch ho (I.freeC x c e),hd⟩
 refine⟨I.ok,I.os,hg,⟨fun b o e n hb hx=> ?_,fun b o e n hb hx=> ?_,fun b o e n hx=> ?_,fun b o e hx=> ?_,fun b xs e=>tups b xs (I.base.tups b xs e),fun b o xs e=>frzs b o xs (I.base.frzs b o xs e),fun b ps e=> ?_⟩,?_,fun x c e=> ?_,?_,fun x c e=> ?_,fun p hp=> ?_,hok,I.len⟩
 ·exact keep b o (neL b o e) hb (neC b o e hx) (I.base.keep b o e n hb hx) (I.base.free b o e n hx)
 ·obtain⟨sl,e1⟩:=I.base.slot b o e n hb hx
  obtain⟨sl',e2⟩:=slot b _ (neL b o e) hb (neC b o e hx) e1 (I.base.free b o e n hx)
  exact⟨sl',e2⟩
 ·obtain⟨o',e1⟩:=I.base.there b o e hx
  exact free b o' (neC b o e hx) e1 (I.base.free b o e n hx)
 ·obtain⟨o',e1⟩:=I.base.there b o e hx
  exact there b o' (neC b o e hx) e1
 ·obtain⟨m1,e1⟩:=I.base.tbls b ps e
  obtain⟨m2,e2⟩:=tbls b _ e1
  exact⟨m1++m2,by rw[e2,Array.append_assoc]⟩
 ·obtain⟨m,hn,hl⟩:=I.loc
  refine⟨m,ns m hn,fun i x v e1 e2 e3=> ?_⟩
  obtain⟨u,r,l⟩:=hl i x v e1 e2 e3
  refine⟨u,r,?_⟩
  rcases l with l|⟨k,c,e,z⟩
  ·exact .inl l
  ·exact .inr ⟨k,c,e,cellK x c e _ z⟩
 ·obtain⟨v,z⟩:=I.cell x c e
  exact⟨v,cellK x c e v z⟩
 ·obtain⟨m,⟨o,_,_,ho,_⟩,_⟩:=I.loc
  exact free _ o (fun z=>(hch _ z).2.1 rfl) ho I.free
 ·obtain⟨v,o,ho,hd⟩:=I.cell x c e
  exact free c o (fun z=>(hch c z).2.2.1 x c e rfl) ho (I.freeC x c e)
 ·obtain⟨e,n,ne,nf,d⟩:=I.pin p hp
  have nch:p.1∉ch:=fun z=>(hch p.1 z).2.2.2 p hp rfl
  exact⟨keep p.1 p.2 ne nf nch e n,free p.1 p.2 nch e n,ne,nf,d⟩
theorem Inv.un{t':Nat}(I:Inv X pins σ H s)(u:Un X.fs [] H H' s.heap h')(hok:HOk X.prog X.w H' h'):Inv X pins σ H' {s with heap:=h',toks:=t'}:=by
 obtain⟨m,⟨o,es,ep,ho,r⟩,_⟩:=id I.loc
 obtain⟨sl,hL⟩:=u.any ho I.free (by simp)
 exact I.step (g':=s.gens) (d':=s.drawn) (ch:=[]) (fun _ z=>nomatch z) (fun b o _ hb _ e n=>u.keep b o e n hb (by simp)) (fun b o _ hb _ e n=>u.slot b o e n hb (by simp)) (fun b o _ e n=>u.free b o e n (by simp)) (fun b o _ e=>u.there b o e (by simp)) u.tups u.frzs u.tbls (fun m' hm=>by
  obtain⟨o',es',ep',ho',r'⟩:=hm
  rw[ho]at ho';cases ho'
  exact⟨_,es',ep',hL,r'⟩) hok I.bare
theorem Inv.call{g':Array GenState}{t':Nat}{d':Drawn}{ch:List Addr}(I:Inv X pins σ H s)(u:Un (frs X.stack) ch H H' s.heap h')(hok:HOk X.prog X.w H' h')(hg:AllBare g')(hch:∀b∈ch,(b∈X.ex\/X.s₀.heap.objs.size<=b)/\b≠X.env.locals/\(∀x c,X.env.cells.lookup x=some c->c≠b)/\∀p∈X.pn++pins,p.1≠b):
  Inv X pins σ H' {s with heap:=h',gens:=g',drawn:=d',toks:=t'}:=by
 obtain⟨m,⟨o,es,ep,ho,r⟩,_⟩:=id I.loc
 obtain⟨sl,hL⟩:=u.any ho I.free fun z=>(hch _ z).2.1 rfl
 exact I.step (ch:=ch) hch (fun b o hL hb hc e n=>u.keep b o e n (fun z=>(eN.mp (I.stkSub b z)).elim hL hb) hc) (fun b o _ _ hc e n=>u.any e n hc) (fun b o hc e n=>u.free b o e n hc) (fun b o hc e=>u.there b o e hc) u.tups u.frzs u.tbls (fun m' hm=>by
  obtain⟨o',es',ep',ho',r'⟩:=hm
  rw[ho]at ho';cases ho'
  exact⟨_,es',ep',hL,r'⟩) hok hg
theorem Inv.turned{t':Nat}{it:Addr}(I:Inv X pins σ H s)(k:∀b o,b≠it->s.heap.get? b=some o->h'.get? b=some o)(hn:H it=none)(hL:it≠X.env.locals)(h1:it∈X.ex\/X.s₀.heap.objs.size<=it)(h2:∀x c,X.env.cells.lookup x=some c->c≠it)(h3:∀p∈X.pn++pins,p.1≠it):Inv X pins σ H {s with heap:=h',toks:=t'}:=by
 have nit:∀b u,H b=some u->b≠it:=fun b u e z=>by rw[z,hn]at e;cases e
 refine I.step (g':=s.gens) (d':=s.drawn) (ch:=[it]) (fun b hb=> ?_) (fun b o _ _ hc e _=>k b o (fun z=>hc (by simp[z])) e) (fun b o _ _ hc e _=>⟨o.slots,k b o (fun z=>hc (by simp[z])) e⟩) (fun _ _ _ _ n=>n)
  (fun b o hc e=>⟨o,k b o (fun z=>hc (by simp[z])) e⟩) (fun _ _ e=>e) (fun _ _ _ e=>e) (fun b ps e=>⟨#[],by rw[e];simp⟩) (fun m hm=> ?_) (fun b u e=> ?_) I.bare
 ·have e:b=it:=by simpa using hb
  subst e
  exact⟨h1,hL,h2,h3⟩
 ·obtain⟨o,es,ep,ho,r⟩:=hm
  exact⟨o,es,ep,k _ o (lE hL) ho,r⟩
 ·refine(I.hok b u e).stay (fun c v hc q=>k c v ?_ q) (fun _ q=>q) fun _ _ q=>q
  rcases hc with z|z
  ·rw[z];exact nit b u e
  ·exact nit c _ z
theorem Inv.tok(I:Inv X pins σ H s)(t:Nat):Inv X pins σ H {s with toks:=t}:=I.un (h':=s.heap) (t':=t) Un.refl I.hok
theorem Inv.kept{t':Nat}(I:Inv X pins σ H s)(k:∀b u,s.heap.get? b=some u->h'.get? b=some u):Inv X pins σ H {s with heap:=h',toks:=t'}:=I.un (Un.kept k) (I.hok.kept k)
theorem Inv.laid{a:Addr}{o:HO}{t':Nat}(I:Inv X pins σ H s)(k:∀b u,s.heap.get? b=some u->h'.get? b=some u)(hp:s.heap.objs.size<=a)(new:ObjOk X.prog X.w (upd H a o) h' a o):
  Inv X pins σ (upd H a o) {s with heap:=h',toks:=t'}:=I.un (Un.laid k hp (I.hok.fresh hp)) (I.hok.laid k hp new)
theorem Inv.write{x e:Addr}{o:HO}{t':Nat}(I:Inv X pins σ H s)(mu:Mut (H x))(he:e=x\/H e=some (.own x))(k:∀b u,b≠e->s.heap.get? b=some u->h'.get? b=some u)(heo:∃u,h'.get? e=some u)(new:ObjOk X.prog X.w (upd H x o) h' x o):Inv X pins σ (upd H x o) {s with heap:=h',toks:=t'}:=I.un (Un.write mu he k heo) (I.hok.write mu he k heo new)
theorem Inv.pins_of{pins':List (Addr×Obj)}(I:Inv X pins σ H s)(h:∀p∈pins',s.heap.get? p.1=some p.2/\H p.1=none/\p.1≠X.env.locals/\p.1∉X.fs/\∀v,p.2.data≠.cell v):Inv X pins' σ H s:=
 ⟨I.ok,I.os,I.bare,I.base,I.loc,I.cell,I.free,I.freeC,fun p hp=>(lD.mp hp).elim (fun z=>I.pin p (Tt _ z)) (h p),I.hok,I.len⟩
theorem nodup_ix{N:List Str}(hN:N.Nodup){i j:Nat}{x:Str}(a:N[i]? =some x)(b:N[j]? =some x):i=j:=by
 obtain⟨h1,e1⟩:=pL.mp a
 obtain⟨h2,e2⟩:=pL.mp b
 exact(List.getElem_inj hN).mp (e1.trans e2.symm)
theorem store_ok2{M:Model}{A:Around}{E:Value->Shared->Prop}{i:Nat}{x:Str}{v:V}{u:Value}{Q:Unit->Shared->Prop}(I:Inv X pins σ H s)(hN:X.N.Nodup)(hi:X.N[i]? =some x)(hx:Loc X.env.scope x)(r:RelV v u)(h:∀s',Inv X pins (σ.set i (some v)) H s'->(∃a,Heap.SameBut a s.heap s'.heap/\(a=X.env.locals\/X.env.cells.lookup x=some a))->Q () s')(hf:X.fn x=true\/X.env.scope.names.lookup x=some .local:=by first |exact .inl rfl|exact .inr rfl|assumption):wpAny M A (storeName X.env x u) Q E s:=by
 obtain⟨m,hn,hl⟩:=id I.loc
 have hcls:(X.env.scope.kind== .class||(X.env.scope.kind== .module&&X.env.locals !=X.env.globals))=false:=by rw[I.ok.kind];rfl
 have hiσ:i<σ.length:=by rw[I.len];exact(pL.mp hi).1
 have cne:=I.cne
 have tracked:∀{a:Addr} {h':Heap},(∃o,s.heap.get? a=some o/\H a=none)->Heap.SameBut a s.heap h'->HOk X.prog X.w H h':=fun{a h'} ha hs b ob e=>by
  obtain⟨_,_,hfree⟩:=ha
  refine(I.hok b ob e).stay (fun c w' hc q=>(hs.2 c ?_).trans q) (fun _ q=>q) fun _ _ q=>q
  rintro rfl
  rcases hc with rfl|hc
  ·rw[hfree]at e;cases e
  ·rw[hfree]at hc;cases hc
 rcases hx with hk|hk
 ·refine wpAny_storeName_local hk hn (fun h' hn' hs=> ?_) hcls
  obtain⟨oL,_,_,hoL,_⟩:=id hn
  refine h _ ⟨I.ok,I.os,I.bare,⟨fun b o e n hb hx=> ?_,fun b o e n hb hx=> ?_,I.base.free,fun b o e hx=> ?_,I.base.tups,I.base.frzs,I.base.tbls⟩,⟨_,hn',fun j y v' e1 e2 e3=> ?_⟩,fun y c e=> ?_,I.free,I.freeC,fun p hp=> ?_,tracked ⟨oL,hoL,I.free⟩ hs,by simpa using I.len⟩ ⟨_,hs,.inl rfl⟩
  ·exact(hs.2 b (iK (jx (fD e) I.ok.above))).trans (I.base.keep b o e n hb hx)
  ·obtain⟨sl,e1⟩:=I.base.slot b o e n hb hx
   exact⟨sl,(hs.2 b (iK (jx (fD e) I.ok.above))).trans e1⟩
  ·obtain⟨o',e1⟩:=I.base.there b o e hx
   exact⟨o',(hs.2 b (iK (jx (fD e) I.ok.above))).trans e1⟩
  ·by_cases hj:j=i
   ·subst hj
    rw[hi]at e1;cases e1
    rw[wej hiσ]at e2
    cases e2
    exact⟨u,r,.inl ⟨hk,by simp⟩⟩
   ·rw[List.getElem?_set_ne (lE hj)]at e2
    obtain⟨u',r',q⟩:=hl j y v' e1 e2 e3
    refine⟨u',r',?_⟩
    rcases q with⟨k,e⟩|⟨k,c,e,z⟩
    ·refine .inl ⟨k,?_⟩
     have:y≠x:=fun e=>hj (nodup_ix hN e1 (e▸hi))
     simp[this,e]
    ·exact .inr ⟨k,c,e,z.sameBut hs (cne y c e)⟩
  ·obtain⟨w',z⟩:=I.cell y c e
   exact⟨w',z.sameBut hs (cne y c e)⟩
  ·obtain⟨e,n,ne,nf,d⟩:=I.pin p hp
   exact⟨(hs.2 p.1 ne).trans e,n,ne,nf,d⟩
 ·have hfn:X.fn x=true:=by
   rcases hf with z|z
   ·exact z
   ·rw[z]at hk;cases hk
  obtain⟨c,hc⟩:=I.ok.has x (.inl hk)
  obtain⟨w',z⟩:=I.cell x c hc
  refine wpAny_storeName_cell I.ok.kind hk hc z (fun h' hc' hs=> ?_)
  obtain⟨oc,hoc,hocd⟩:=id z
  refine h {s with heap:=h'} ⟨I.ok,I.os,I.bare,⟨fun b o e n hb hx=> ?_,fun b o e n hb hx=> ?_,I.base.free,fun b o e hx=> ?_,I.base.tups,I.base.frzs,I.base.tbls⟩,⟨m,hn.sameBut hs (lE (cne x c hc)),fun j y v' e1 e2 e3=> ?_⟩,fun y c' e=> ?_,I.free,I.freeC,fun p hp=> ?_,tracked ⟨oc,hoc,I.freeC x c hc⟩ hs,by simpa using I.len⟩ ⟨c,hs,.inr hc⟩
  ·exact(hs.2 b (iK (jx (fD e) (I.ok.cab x c hfn hc)))).trans (I.base.keep b o e n hb hx)
  ·obtain⟨sl,e1⟩:=I.base.slot b o e n hb hx
   exact⟨sl,(hs.2 b (iK (jx (fD e) (I.ok.cab x c hfn hc)))).trans e1⟩
  ·obtain⟨o',e1⟩:=I.base.there b o e hx
   exact⟨o',(hs.2 b (iK (jx (fD e) (I.ok.cab x c hfn hc)))).trans e1⟩
  ·by_cases hj:j=i
   ·subst hj
    rw[hi]at e1;cases e1
    rw[wej hiσ]at e2
    cases e2
    exact⟨u,r,.inr ⟨.inl hk,c,hc,hc'⟩⟩
   ·rw[List.getElem?_set_ne (lE hj)]at e2
    obtain⟨u',r',q⟩:=hl j y v' e1 e2 e3
    refine⟨u',r',?_⟩
    rcases q with q|⟨k,c',e,z'⟩
    ·exact .inl q
    ·refine .inr ⟨k,c',e,z'.sameBut hs ?_⟩
     rintro rfl
     exact hj (nodup_ix hN e1 (I.ok.inj _ _ _ e hc▸hi))
  ·by_cases hcc:c'=c
   ·subst hcc;exact⟨_,hc'⟩
   ·obtain⟨w2,z2⟩:=I.cell y c' e
    exact⟨w2,z2.sameBut hs hcc⟩
  ·obtain⟨e,n,ne,nf,d⟩:=I.pin p hp
   refine⟨(hs.2 p.1 ?_).trans e,n,ne,nf,d⟩
   intro q
   rw[q,hoc]at e
   have q':oc=p.2:=sy e
   exact d w' (by rw[<-q'];exact hocd)
theorem store_ok{M:Model}{A:Around}{E:Value->Shared->Prop}{i:Nat}{x:Str}{v:V}{u:Value}{Q:Unit->Shared->Prop}(I:Inv X pins σ H s)(hN:X.N.Nodup)(hi:X.N[i]? =some x)(hx:Loc X.env.scope x)(r:RelV v u)(h:∀s',Inv X pins (σ.set i (some v)) H s'->Q () s')(hf:X.fn x=true\/X.env.scope.names.lookup x=some .local:=by first |exact .inl rfl|exact .inr rfl|assumption):wpAny M A (storeName X.env x u) Q E s:=
 store_ok2 I hN hi hx r (fun s' I' _=>h s' I') hf
theorem Inv.call'{s':Shared}{ch:List Addr}(I:Inv X pins σ H s)(ho:s'.os=s.os)(u:Un (frs X.stack) ch H H' s.heap s'.heap)(hok:HOk X.prog X.w H' s'.heap)(hg:AllBare s'.gens)(hch:∀b∈ch,(b∈X.ex\/X.s₀.heap.objs.size<=b)/\b≠X.env.locals/\(∀x c,X.env.cells.lookup x=some c->c≠b)/\∀p∈X.pn++pins,p.1≠b):Inv X pins σ H' s':=by
 obtain⟨h',g',d',t',o'⟩:=s'
 have e:o'=s.os:=ho
 subst e
 exact I.call (g':=g') (t':=t') (d':=d') u hok hg hch
end
abbrev XK:=Value->Option Addr->Hp->Prop
abbrev St:=List (Option V)
abbrev VK:=V->Hp->Prop
abbrev TE:=St->Hp->VK->Prop
abbrev TT:=St->Hp->(Bool->Hp->Prop)->Prop
abbrev TA:=St->Hp->(List V->Hp->Prop)->Prop
structure Ends where
 nx:St->Hp->Prop
 rt:VK
 bk:St->Hp->Prop:=fun _ _=>False
 ct:St->Hp->Prop:=fun _ _=>False
abbrev TS:=Ends->St->Hp->Prop
def EP(X:Cx)(pins:List (Addr×Obj))(σ:St)(Q:VK)(u:Value)(s':Shared):Prop:=∃v H',Inv X pins σ H' s'/\RelV v u/\Q v H'
def TP(X:Cx)(pins:List (Addr×Obj))(σ:St)(Q:Bool->Hp->Prop)(b:Bool)(s':Shared):Prop:=∃H',Inv X pins σ H' s'/\Q b H'
def AP(X:Cx)(pins:List (Addr×Obj))(σ:St)(Q:List V->Hp->Prop)(us:List Value)(s':Shared):Prop:=∃vs H',Inv X pins σ H' s'/\Vals vs us/\Q vs H'
def SP(X:Cx)(pins:List (Addr×Obj))(D:Ends)(f:Flow)(s':Shared):Prop:=
 match f with
 | .next=>∃σ' H',Inv X pins σ' H' s'/\D.nx σ' H'
 | .brk=>∃σ' H',Inv X pins σ' H' s'/\D.bk σ' H'
 | .cont=>∃σ' H',Inv X pins σ' H' s'/\D.ct σ' H'
 | .ret u=>∃v σ' H',Inv X pins σ' H' s'/\RelV v u/\D.rt v H'
def PE(X:Cx)(e:Expr)(t:TE):Prop:=
 ∀(pins:List (Addr×Obj)) (s:Shared) (σ:St) (H:Hp) (Q:VK),Inv X pins σ H s->t σ H Q->wpAny (model X.prog X.w) X.A (eval e X.env) (EP X pins σ Q) X.xe s
def PT(X:Cx)(e:Expr)(t:TT):Prop:=
 ∀(pins:List (Addr×Obj)) (s:Shared) (σ:St) (H:Hp) (Q:Bool->Hp->Prop),Inv X pins σ H s->t σ H Q->wpAny (model X.prog X.w) X.A (isTrue e X.env (eval e X.env)) (TP X pins σ Q) X.xe s
def PW(X:Cx)(e:Expr)(t:TT):Prop:=
 ∀(whole:Sem Value) (pins:List (Addr×Obj)) (s:Shared) (σ:St) (H:Hp) (Q:Bool->Hp->Prop),Inv X pins σ H s->t σ H Q->wpAny (model X.prog X.w) X.A (isTrue e X.env whole) (TP X pins σ Q) X.xe s
theorem PW.pt{X:Cx}{e:Expr}{t:TT}(h:PW X e t):PT X e t:=h _
def PA(X:Cx)(es:List Expr)(t:TA):Prop:=
 ∀(pos:Pos) (pins:List (Addr×Obj)) (s:Shared) (σ:St) (H:Hp) (Q:List V->Hp->Prop),Inv X pins σ H s->t σ H Q->wpAny (model X.prog X.w) X.A (spliced (backTo pos (starEach es X.env))) (AP X pins σ Q) X.xe s
def PS(X:Cx)(st:Stmt)(t:TS):Prop:=
 ∀(pins:List (Addr×Obj)) (s:Shared) (σ:St) (H:Hp) (D:Ends),Inv X pins σ H s->t D σ H->wpAny (model X.prog X.w) X.A (exec st X.env) (SP X pins D) X.xe s
def PSs(X:Cx)(st:List Stmt)(t:TS):Prop:=
 ∀(pins:List (Addr×Obj)) (s:Shared) (σ:St) (H:Hp) (D:Ends),Inv X pins σ H s->t D σ H->wpAny (model X.prog X.w) X.A (execs st X.env) (SP X pins D) X.xe s
theorem thn{α:Type}{t:Sem α}{Q Q':α->Shared->Prop}{M:Model}{A:Around}{E:Value->Shared->Prop}{s:Shared}(h:wpAny M A t Q E s)(hQ:∀a s,Q a s->Q' a s):wpAny M A t Q' E s:=QT h hQ fun _ _ x=>x
section
variable{X:Cx}
def tVar(i:Nat):TE:=fun σ H Q=>∃v,σ[i]? =some (some v)/\Q v H
def tC(v:V):TE:=fun _ H Q=>Q v H
theorem pe_var{i:Nat}{x:Str}{pos:Pos}(hN:X.N[i]? =some x)(hv:Vis X.env.scope x)(hd:(x==("__debug__":Str))=false:=by decide)(hcd:(x==("__classdict__":Str))=false:=by decide):PE X (.Name x pos) (tVar i):=by
 intro pins s σ H Q I h
 obtain⟨v,e,h⟩:=h
 obtain⟨m,hn,hl⟩:=I.loc
 obtain⟨u,r,l⟩:=hl i x v hN e hv
 have fin:EP X pins σ Q u s:=⟨v,H,I,r,h⟩
 rcases l with⟨hk,hm⟩|⟨hk,c,hc,hcell⟩
 ·exact wpAny_Name (wpAny_loadName_local I.ok.kind hk hn hm fin) hd
 ·rcases hk with hk|hk
  ·exact wpAny_Name (wpAny_loadName_cell I.ok.kind hk hc hcell fin) hd
  ·exact wpAny_Name (wpAny_loadName_free I.ok.kind hk hc hcell fin hcd) hd
theorem aL{i j pos}:PE X (.Constant (.int i) j pos) (tC (.int i)):=fun _ _ _ H _ I h=>wpAny_Constant_int ⟨.int i,H,I.tok _,⟨_,rfl⟩,h⟩
theorem pe_bl{b j pos}:PE X (.Constant (.bool b) j pos) (tC (.bl b)):=fun _ _ _ H _ I h=>Constant_bool ⟨.bl b,H,I,rfl,h⟩
theorem pe_non{j pos}:PE X (.Constant .none j pos) (tC .non):=fun _ _ _ H _ I h=>Constant_none ⟨.non,H,I,rfl,h⟩
theorem pe_str{x j pos}:PE X (.Constant (.str x) j pos) (tC (.str x)):=fun _ _ _ H _ I h=>Calls.Constant_str ⟨.str x,H,I.tok _,⟨_,rfl⟩,h⟩
def Gl(X:Cx)(x:Str):Prop:=X.env.kindOf x=some .globalImplicit
theorem ld_glob{E:Value->Shared->Prop}{pins:List (Addr×Obj)}{s:Shared}{σ:St}{H:Hp}{x:Str}{u:Value}{pos:Pos}{Q:Value->Shared->Prop}(I:Inv X pins σ H s)(hg:Gl X x)(hm:X.mg x=some u)(h:Q u s)(hd:(x==("__debug__":Str))=false:=by decide):wpAny (model X.prog X.w) X.A (eval (.Name x pos) X.env) Q E s:=
 Calls.Name_function_global I.ok.kind hg (Calls.loadGlobal_global (by rw[I.ok.glob];exact I.mod.glob.keeps I.bk) hm h) hd
theorem ld_blt{E:Value->Shared->Prop}{pins:List (Addr×Obj)}{s:Shared}{σ:St}{H:Hp}{x:Str}{u:Value}{pos:Pos}{Q:Value->Shared->Prop}(I:Inv X pins σ H s)(hg:Gl X x)(hm:X.mg x=none)(hv:bootBuiltins x=some u)(h:Q u s)(hn:x≠"__name__":=by decide)(hd:(x==("__debug__":Str))=false:=by decide):wpAny (model X.prog X.w) X.A (eval (.Name x pos) X.env) Q E s:=by
 obtain⟨mb,h1,h2⟩:=I.mod.blt
 exact Calls.Name_function_global I.ok.kind hg (Calls.loadGlobal_builtin (by rw[I.ok.glob];exact I.mod.glob.keeps I.bk) hm (by rw[I.ok.blt];exact h1.keeps I.bk) ((h2 x hn).trans hv) h) hd
theorem pe_glob{x:Str}{v:V}{u:Value}{pos:Pos}(hg:Gl X x)(hm:X.mg x=some u)(r:RelV v u)(hd:(x==("__debug__":Str))=false:=by decide):PE X (.Name x pos) (tC v):=
 fun _ _ _ H _ I h=>ld_glob I hg hm ⟨v,H,I,r,h⟩ hd
theorem pe_bltn{x:Str}{v:V}{u:Value}{pos:Pos}(hg:Gl X x)(hm:X.mg x=none)(hv:bootBuiltins x=some u)(r:RelV v u)(hn:x≠"__name__":=by decide)(hd:(x==("__debug__":Str))=false:=by decide):PE X (.Name x pos) (tC v):=
 fun _ _ _ H _ I h=>ld_blt I hg hm hv ⟨v,H,I,r,h⟩ hn hd
variable{a b:Expr}{ta tb:TE}{pos:Pos}
def tB(t:TE):TT:=fun σ H Q=>t σ H fun x H1=>∃c,x= .bl c/\Q c H1
theorem pt_val{e:Expr}{t:TE}(h:PE X e t)(he:∀whole,isTrue e X.env whole=(do let v<-whole;standAt e.pos;holding [v] (truthy v)):=by intro _;rfl):PT X e (tB t):=by
 intro pins s σ H Q I hw
 refine isTrue_plain (thn (h pins s σ H _ I hw) fun v s1 ⟨x,H1,I1,r1,q1⟩=> ?_) (he _)
 obtain⟨d,rfl,q⟩:=q1
 cases r1
 exact Hu ⟨H1,I1,q⟩
variable{tA tB':TT}{rest:List Expr}
def tAnd(t u:TT):TT:=fun σ H Q=>t σ H fun c H1=>if c=true then u σ H1 Q else Q false H1
def tOr(t u:TT):TT:=fun σ H Q=>t σ H fun c H1=>if c=true then Q true H1 else u σ H1 Q
def tNot(t:TT):TT:=fun σ H Q=>t σ H fun c H1=>Q (!c) H1
theorem pw_and1(ha:PT X a tA):PW X (.BoolOp .And [a] pos) tA:=by
 intro wh pins s σ H Q I h
 refine isTrue_and (thn (ha pins s σ H Q I h) fun c s1 e=> ?_)
 cases c with
 |true=>exact isTrue_and_nil e
 |false=>exact e
theorem pw_or1(ha:PT X a tA):PW X (.BoolOp .Or [a] pos) tA:=by
 intro wh pins s σ H Q I h
 refine isTrue_or (thn (ha pins s σ H Q I h) fun c s1 e=> ?_)
 cases c with
 |false=>exact isTrue_or_nil e
 |true=>exact e
theorem pw_and(ha:PT X a tA)(hb:PW X (.BoolOp .And (b::rest) pos) tB'):PW X (.BoolOp .And (a::b::rest) pos) (tAnd tA tB'):=by
 intro wh pins s σ H Q I h
 refine isTrue_and (thn (ha pins s σ H _ I h) fun c s1 ⟨H1,I1,q1⟩=> ?_)
 cases c with
 |true=>exact hb wh pins s1 σ H1 Q I1 q1
 |false=>exact⟨H1,I1,q1⟩
theorem pw_or(ha:PT X a tA)(hb:PW X (.BoolOp .Or (b::rest) pos) tB'):PW X (.BoolOp .Or (a::b::rest) pos) (tOr tA tB'):=by
 intro wh pins s σ H Q I h
 refine isTrue_or (thn (ha pins s σ H _ I h) fun c s1 ⟨H1,I1,q1⟩=> ?_)
 cases c with
 |true=>exact⟨H1,I1,q1⟩
 |false=>exact hb wh pins s1 σ H1 Q I1 q1
theorem pt_not(ha:PT X a tA):PT X (.UnaryOp .Not a pos) (tNot tA):=by
 intro pins s σ H Q I h
 exact isTrue_not (ha pins s σ H (fun c H1=>Q (!c) H1) I h)
def tAndV(ta tb:TE):TE:=fun σ H Q=>ta σ H fun x H1=>∃c,x= .bl c/\if c=true then tb σ H1 Q else Q (.bl false) H1
def tOrV(ta tb:TE):TE:=fun σ H Q=>ta σ H fun x H1=>∃c,x= .bl c/\if c=true then Q (.bl true) H1 else tb σ H1 Q
def tNotV(ta:TE):TE:=fun σ H Q=>ta σ H fun x H1=>∃c,x= .bl c/\Q (.bl (!c)) H1
theorem pe_one{op}{t:TE}(h:PE X a t):PE X (.BoolOp op [a] pos) t:=fun pins s σ H Q I hw=>BoolOp_one (h pins s σ H Q I hw)
theorem pe_and(ha:PE X a ta)(hb:PE X (.BoolOp .And (b::rest) pos) tb):PE X (.BoolOp .And (a::b::rest) pos) (tAndV ta tb):=by
 intro pins s σ H Q I h
 refine BoolOp_and (thn (ha pins s σ H _ I h) fun v s1 ⟨x,H1,I1,r1,q1⟩=> ?_)
 obtain⟨c,rfl,q1⟩:=q1
 cases r1
 refine Hu ?_
 cases c with
 |true=>exact hb pins s1 σ H1 Q I1 q1
 |false=>exact⟨.bl false,H1,I1,rfl,q1⟩
theorem pe_or(ha:PE X a ta)(hb:PE X (.BoolOp .Or (b::rest) pos) tb):PE X (.BoolOp .Or (a::b::rest) pos) (tOrV ta tb):=by
 intro pins s σ H Q I h
 refine BoolOp_or (thn (ha pins s σ H _ I h) fun v s1 ⟨x,H1,I1,r1,q1⟩=> ?_)
 obtain⟨c,rfl,q1⟩:=q1
 cases r1
 refine Hu ?_
 cases c with
 |false=>exact hb pins s1 σ H1 Q I1 q1
 |true=>exact⟨.bl true,H1,I1,rfl,q1⟩
theorem pe_not(ha:PE X a ta):PE X (.UnaryOp .Not a pos) (tNotV ta):=by
 intro pins s σ H Q I h
 refine UnaryOp_ (thn (ha pins s σ H _ I h) fun v s1 ⟨x,H1,I1,r1,q1⟩=> ?_)
 obtain⟨c,rfl,q1⟩:=q1
 cases r1
 exact not_of (Hu ⟨.bl (!c),H1,I1,rfl,q1⟩)
def tIf(t:TT)(ta tb:TE):TE:=fun σ H Q=>t σ H fun c H1=>if c=true then ta σ H1 Q else tb σ H1 Q
theorem pe_ifExp{c:Expr}(hc:PT X c tA)(ha:PE X a ta)(hb:PE X b tb):PE X (.IfExp c a b pos) (tIf tA ta tb):=by
 intro pins s σ H Q I h
 refine wpAny_IfExp (thn (hc pins s σ H _ I h) fun d s1 ⟨H1,I1,q1⟩=> ?_)
 cases d with
 |true=>exact ha pins s1 σ H1 Q I1 q1
 |false=>exact hb pins s1 σ H1 Q I1 q1
end
def SqL(K:W.Frag)(H:Hp)(a:Addr)(xs:List V):Prop:=
 Rd H a (.lst xs)\/
  ∃(o:Obj) (its:Array Value) (n:Nat),K.lookup a=some o/\o.cls= .type "list"/\o.dict=none/\o.data= .seq its n/\its.size<=sizeLine/\Vals xs its.toList
def SqT(K:W.Frag)(H:Hp)(a:Addr)(xs:List V):Prop:=
 Rd H a (.tup xs)\/
  ∃(o:Obj) (its:Array Value) (n:Nat),K.lookup a=some o/\o.cls= .type "tuple"/\o.data= .seq its n/\its.size<=sizeLine/\Vals xs its.toList
def absV:Value->Option V
 | .none=>some .non
 | .bool b=>some (.bl b)
 | .int i _=>some (.int i)
 | .str x _=>some (.str x)
 | .bytes b _=>some (.byt b)
 | .float b _=>some (.flt b)
 | .ref a=>some (.ref a)
 | .type n=>some (.ty n)
 |_=>none
theorem RelV.abs{x:V}{u:Value}(r:RelV x u):absV u=some x:=by
 cases x with
 |non=>cases r;rfl
 |bl _=>cases r;rfl
 |int _=>obtain⟨t,rfl⟩:=r;rfl
 |str _=>obtain⟨t,rfl⟩:=r;rfl
 |byt _=>obtain⟨t,rfl⟩:=r;rfl
 |flt _=>obtain⟨t,rfl⟩:=r;rfl
 |ref _=>cases r;rfl
 |ty _=>cases r;rfl
theorem RelV.inj{x y:V}{u:Value}(r:RelV x u)(q:RelV y u):x=y:=sy (r.abs.symm.trans q.abs)
theorem Vals.inj{xs ys:List V}{us:List Value}(h:Vals xs us)(h':Vals ys us):xs=ys:=by
 induction h generalizing ys with
 |nil=>cases h';rfl
 |cons r _ ih=>cases h' with |cons r' t'=>rw[r.inj r',ih t']
section
variable{X:Cx}{pins:List (Addr×Obj)}{σ:St}{H:Hp}{s:Shared}{a:Addr}{xs ys:List V}
theorem SqL.of{K:W.Frag}(h:H a=some (.lst xs)):SqL K H a xs:= .inl (.inl h)
theorem SqT.of{K:W.Frag}(h:H a=some (.tup xs)):SqT K H a xs:= .inl (.inl h)
theorem Inv.list(I:Inv X pins σ H s)(h:SqL X.K H a xs):∃its:List Value,Vals xs its/\PlainL s.heap a its.toArray/\xs.length<=sizeLine:=by
 rcases h with h|⟨o,its,n,hk,hc,hd,hs,hz,r⟩
 ·obtain⟨z,its,n,r,e⟩:=h.ok I.hok
  exact⟨its,r,⟨_,n,e,rfl,rfl,rfl⟩,z⟩
 ·refine⟨its.toList,r,⟨o,n,I.kIn a o hk,hc,hd,by simpa using hs⟩,?_⟩
  have e:=r.length
  simp only[QM]at e
  omega
theorem Inv.tuple(I:Inv X pins σ H s)(h:SqT X.K H a xs):∃its:List Value,Vals xs its/\IsTup s.heap a its.toArray/\xs.length<=sizeLine:=by
 rcases h with h|⟨o,its,n,hk,hc,hs,hz,r⟩
 ·obtain⟨z,its,r,p⟩:=h.ok I.hok
  exact⟨its,r,p,z⟩
 ·refine⟨its.toList,r,⟨o,I.kIn a o hk,hc,n,by simpa using hs⟩,?_⟩
  have e:=r.length
  simp only[QM]at e
  omega
theorem Inv.list_inj(I:Inv X pins σ H s)(h:SqL X.K H a xs)(h':SqL X.K H a ys):xs=ys:=by
 obtain⟨its,r,⟨o,n,e,_,_,d⟩,_⟩:=I.list h
 obtain⟨its',r',⟨o',n',e',_,_,d'⟩,_⟩:=I.list h'
 rw[e]at e';cases e'
 rw[d]at d'
 injection d' with d1 _
 have:its=its':=by simpa using iW Array.toList d1
 subst this
 exact r.inj r'
theorem Inv.tuple_inj(I:Inv X pins σ H s)(h:SqT X.K H a xs)(h':SqT X.K H a ys):xs=ys:=by
 obtain⟨its,r,⟨o,e,_,n,d⟩,_⟩:=I.tuple h
 obtain⟨its',r',⟨o',e',_,n',d'⟩,_⟩:=I.tuple h'
 rw[e]at e';cases e'
 rw[d]at d'
 injection d' with d1 _
 have:its=its':=by simpa using iW Array.toList d1
 subst this
 exact r.inj r'
end
abbrev Cx.wish(X:Cx)(E:Value->Shared->Prop):Cx:={X with xe:=E}
abbrev Cx.nox(X:Cx):Cx:=X.wish fun _ _=>False
theorem Cx.Ok.wish{X:Cx}(ok:X.Ok)(E:Value->Shared->Prop):(X.wish E).Ok:=
 ⟨ok.mod,ok.kind,ok.glob,ok.blt,ok.above,ok.inj,ok.has,ok.cab,ok.hd,ok.frames,ok.stk,ok.exf,ok.bs,ok.bsz,ok.noex,ok.exfs,ok.funs,ok.frf⟩
theorem Cx.Ok.unwish{X:Cx}{E:Value->Shared->Prop}(ok:(X.wish E).Ok):X.Ok:=
 ⟨ok.mod,ok.kind,ok.glob,ok.blt,ok.above,ok.inj,ok.has,ok.cab,ok.hd,ok.frames,ok.stk,ok.exf,ok.bs,ok.bsz,ok.noex,ok.exfs,ok.funs,ok.frf⟩
section
variable{X:Cx}{pins:List (Addr×Obj)}{σ:St}{H:Hp}{s:Shared}{E:Value->Shared->Prop}
theorem Inv.wish(I:Inv X pins σ H s)(E:Value->Shared->Prop):Inv (X.wish E) pins σ H s:=⟨I.ok.wish E,I.os,I.bare,I.base,I.loc,I.cell,I.free,I.freeC,I.pin,I.hok,I.len⟩
theorem Inv.unwish(I:Inv (X.wish E) pins σ H s):Inv X pins σ H s:=⟨I.ok.unwish,I.os,I.bare,I.base,I.loc,I.cell,I.free,I.freeC,I.pin,I.hok,I.len⟩
theorem SP.unwish{D:Ends}{f:Flow}{s':Shared}(h:SP (X.wish E) pins D f s'):SP X pins D f s':=by
 cases f with
 |next=>obtain⟨σ',H',I,q⟩:=h;exact⟨σ',H',I.unwish,q⟩
 |brk=>obtain⟨σ',H',I,q⟩:=h;exact⟨σ',H',I.unwish,q⟩
 |cont=>obtain⟨σ',H',I,q⟩:=h;exact⟨σ',H',I.unwish,q⟩
 |ret u=>obtain⟨v,σ',H',I,r,q⟩:=h;exact⟨v,σ',H',I.unwish,r,q⟩
theorem PSs.nox{st:List Stmt}{t:TS}(h:PSs X.nox st t):PSs X st t:=fun pins s σ H D I hw=>
 QT (h pins s σ H D (I.wish _) hw) (fun _ _ q=>q.unwish) fun _ _ z=>False.elim z
end
section
variable{X:Cx}{st:Stmt}{rest:List Stmt}{t u:TS}{e:Expr}{te:TE}{pos:Pos}
def tNext:TS:=fun D σ H=>D.nx σ H
def tSeq(t u:TS):TS:=fun D σ H=>t {D with nx:=u D} σ H
theorem o9:PSs X [] tNext:=fun _ _ σ H _ I h=>Yx ⟨σ,H,I,h⟩
theorem aO(h1:PS X st t)(h2:PSs X rest u):PSs X (st::rest) (tSeq t u):=by
 intro pins s σ H D I h
 refine wpAny_execs_cons (thn (h1 pins s σ H {D with nx:=u D} I h) fun f s1 q=> ?_)
 cases f with
 |next=>
  obtain⟨σ',H',I',q⟩:=q
  exact h2 pins s1 σ' H' D I' q
 |ret v=>exact q
 |brk=>exact q
 |cont=>exact q
theorem bA(h1:PS X st t):PSs X [st] t:=by
 intro pins s σ H D I h
 refine wpAny_execs_cons (thn (h1 pins s σ H D I h) fun f s1 q=> ?_)
 cases f with
 |next=>exact Yx q
 |ret v=>exact q
 |brk=>exact q
 |cont=>exact q
theorem Inv.quiet{pins:List (Addr×Obj)}{σ:St}{H:Hp}{s:Shared}(I:Inv X pins σ H s):interactive X.env=false:=by simp[interactive,I.ok.kind]
def tDrop(te:TE):TS:=fun D σ H=>te σ H fun _ H1=>D.nx σ H1
theorem lF(he:PE X e te)(hs:swapsWith e none pos.line X.env=pure false:=by rfl):PS X (.Expr e pos) (tDrop te):=by
 intro pins s σ H D I h
 exact wpAny_Expr_any (thn (he pins s σ H _ I h) fun v s1 ⟨x,H1,I1,r1,q1⟩=>⟨σ,H1,I1,q1⟩) I.quiet hs
def tRet(te:TE):TS:=fun D σ H=>te σ H D.rt
theorem cG(he:PE X e te):PS X (.Return (some e) pos) (tRet te):=by
 intro pins s σ H D I h
 exact wpAny_Return_some (thn (he pins s σ H _ I h) fun v s1 ⟨x,H1,I1,r1,q1⟩=>⟨x,σ,H1,I1,r1,q1⟩)
def tIfS(c:TT)(t u:TS):TS:=fun D σ H=>c σ H fun b H1=>if b=true then t D σ H1 else u D σ H1
theorem o8{c:Expr}{a b:List Stmt}{tc:TT}(hc:PT X c tc)(ha:PSs X a t)(hb:PSs X b u):PS X (.If c a b pos) (tIfS tc t u):=by
 intro pins s σ H D I h
 refine wpAny_If (thn (hc pins s σ H _ I h) fun d s1 ⟨H1,I1,q1⟩=> ?_)
 cases d with
 |true=>exact ha pins s1 σ H1 D I1 q1
 |false=>exact hb pins s1 σ H1 D I1 q1
def tNever:TS:=fun _ _ _=>False
theorem pss_never{sts:List Stmt}:PSs X sts tNever:=fun _ _ _ _ _ _ h=>h.elim
end
abbrev TG:=V->St->Hp->(St->Hp->Prop)->Prop
abbrev TGs:=List V->St->Hp->(St->Hp->Prop)->Prop
def PG(X:Cx)(target:Expr)(t:TG):Prop:=
 ∀(pins:List (Addr×Obj)) (s:Shared) (σ:St) (H:Hp) (v:V) (u:Value) (Q:St->Hp->Prop),Inv X pins σ H s->RelV v u->t v σ H Q->
  wpAny (model X.prog X.w) X.A (assign target X.env u) (fun _ s'=>∃σ' H',Inv X pins σ' H' s'/\Q σ' H') X.xe s
def PGs(X:Cx)(ts:List Expr)(t:TGs):Prop:=
 ∀(pins:List (Addr×Obj)) (s:Shared) (σ:St) (H:Hp) (vs:List V) (us:List Value) (Q:St->Hp->Prop),Inv X pins σ H s->Vals vs us->t vs σ H Q->
  wpAny (model X.prog X.w) X.A (assignInOrder ((assignEach ts X.env).map (·.2)) us) (fun _ s'=>∃σ' H',Inv X pins σ' H' s'/\Q σ' H') X.xe s
abbrev TSet:=V->V->V->Hp->(Hp->Prop)->Prop
def PSet(X:Cx)(t:TSet):Prop:=
 ∀(pins:List (Addr×Obj)) (s:Shared) (σ:St) (H:Hp) (o i v:V) (ov iv u:Value) (Q:Hp->Prop),Inv X pins σ H s->RelV o ov->RelV i iv->RelV v u->t o i v H Q->
  wpAny (model X.prog X.w) X.A (setItem ov iv u) (fun _ s'=>∃H',Inv X pins σ H' s'/\Q H') X.xe s
section
variable{X:Cx}{pos:Pos}
def gName(i:Nat):TG:=fun v σ H Q=>Q (σ.set i (some v)) H
theorem cJ{i:Nat}{x:Str}(hN:X.N.Nodup)(hi:X.N[i]? =some x)(hx:Loc X.env.scope x)(hf:X.fn x=true\/X.env.scope.names.lookup x=some .local:=by first |exact .inl rfl|exact .inr rfl|assumption):PG X (.Name x pos) (gName i):=by
 intro pins s σ H v u Q I r h
 exact wpAny_assign_Name (store_ok I hN hi hx r (fun s' I'=>⟨_,H,I',h⟩) hf)
def gNil:TGs:=fun vs σ H Q=>vs=[]/\Q σ H
def gCons(t:TG)(u:TGs):TGs:=fun vs σ H Q=>∃v r,vs=v::r/\t v σ H fun σ' H'=>u r σ' H' Q
theorem Cd:PGs X [] gNil:=by
 intro pins s σ H vs us Q I r h
 obtain⟨e,h⟩:=h
 subst e
 cases r
 exact assignInOrder_nil ⟨σ,H,I,h⟩
theorem mZ{e:Expr}{es:List Expr}{t:TG}{u:TGs}(h1:PG X e t)(h2:PGs X es u)(hs:(assignEach (e::es) X.env).map (·.2)=assign e X.env::(assignEach es X.env).map (·.2):=by rfl):PGs X (e::es) (gCons t u):=by
 intro pins s σ H vs us Q I r h
 obtain⟨v,vr,e1,h⟩:=h
 subst e1
 cases r with
 |cons r rr=>
  rw[hs]
  refine ZX (thn (h1 pins s σ H _ _ _ I r h) fun _ s1 ⟨σ1,H1,I1,q1⟩=> ?_)
  exact h2 pins s1 σ1 H1 _ _ Q I1 rr q1
def gTup(K:W.Frag)(n:Nat)(t:TGs):TG:=fun v σ H Q=>∃a xs,v= .ref a/\SqT K H a xs/\xs.length=n/\t xs σ H Q
theorem pg_tup{es:List Expr}{k:Nat}{t:TGs}{n:Nat}(hc:X.calm=true)(h:PGs X es t)(hn:(assignEach es X.env).length=n:=by rfl)(hst:(assignEach es X.env).findIdx? (·.1)=none:=by rfl):PG X (.Tuple es k pos) (gTup X.K n t):=by
 intro pins s σ H v u Q I r hw
 obtain⟨a,xs,e1,hq,hl,hw⟩:=hw
 subst e1
 cases r
 obtain⟨its,rv,ht,hz⟩:=I.tuple hq
 refine assign_Tuple_tuple (I.ok.hd hc) ht (by simp[hn,<-hl,rv.length]) hst fun h' hx=> ?_
 have I1:Inv X pins σ H {s with heap:=h'}:=I.kept (t':=s.toks) fun b o e=>hx b o (iK (fD e)) e
 exact h pins _ σ H xs _ Q I1 (by simpa using rv) hw
def gSub(to ti:TE)(t:TSet):TG:=fun v σ H Q=>to σ H fun o H1=>ti σ H1 fun i H2=>t o i v H2 fun H3=>Q σ H3
theorem pg_sub{o i:Expr}{to ti:TE}{t:TSet}(ho:PE X o to)(hi:PE X i ti)(hs:PSet X t)(ha:∀v,assign (.Subscript o i pos) X.env v=(do
   let ov<-holding [v] (eval o X.env)
   let iv<-holding [v,ov] (eval i X.env)
   standAt pos
   holding [v,ov,iv] (setItem ov iv v)
   release [v,ov,iv] []):=by intro _;rfl):PG X (.Subscript o i pos) (gSub to ti t):=by
 intro pins s σ H v u Q I r h
 rw[ha]
 refine bO (Mi (thn (ho pins s σ H _ I h) fun ov s1 ⟨x,H1,I1,r1,q1⟩=> ?_))
 refine bO (Mi (thn (hi pins s1 σ H1 _ I1 q1) fun iv s2 ⟨y,H2,I2,r2,q2⟩=> ?_))
 refine bO (Yu (bO (Mi (thn (hs pins s2 σ H2 x y v ov iv u _ I2 r1 r2 r q2) fun _ s3 ⟨H3,I3,q3⟩=> ?_))))
 exact wpAny_release ⟨σ,H3,I3,q3⟩
def tAsg(te:TE)(g:TG):TS:=fun D σ H=>te σ H fun x H1=>g x σ H1 D.nx
theorem ps_asg{tg e:Expr}{te:TE}{g:TG}(he:PE X e te)(hg:PG X tg g)(hs:swapsWithSole [tg] e pos.line X.env=pure false:=by rfl)(hw:swappedStores [tg] e X.env=pure none:=by rfl)(h1:(assignEach [tg] X.env).map (·.2)=[assign tg X.env]:=by rfl):PS X (.Assign [tg] e pos) (tAsg te g):=by
 intro pins s σ H D I h
 refine wpAny_Assign_stores (thn (he pins s σ H _ I h) fun v s1 ⟨x,H1,I1,r1,q1⟩=> ?_) hs hw
 rw[h1]
 exact thn (hg pins s1 σ H1 x v _ I1 r1 q1) fun _ s2 q=>q
theorem cg{i:Nat}{x:Str}{e:Expr}{te:TE}{pos':Pos}(hN:X.N.Nodup)(hi:X.N[i]? =some x)(hx:Loc X.env.scope x)(he:PE X e te)(hs:swapsWith e (some (.Name x pos')) pos.line X.env=pure false:=by rfl)(hf:X.fn x=true\/X.env.scope.names.lookup x=some .local:=by first |exact .inl rfl|exact .inr rfl|assumption):
  PS X (.Assign [.Name x pos'] e pos) (tAsg te (gName i)):=by
 intro pins s σ H D I h
 refine wpAny_Assign_Name (thn (he pins s σ H _ I h) fun v s1 ⟨y,H1,I1,r1,q1⟩=> ?_) hs
 exact store_ok I1 hN hi hx r1 (fun s2 I2=>⟨_,H1,I2,q1⟩) hf
def tPar(i j:Nat)(ta:TA):TS:=fun D σ H=>ta σ H fun vs H1=>∃v w,vs=[v,w]/\D.nx ((σ.set i (some v)).set j (some w)) H1
theorem ps_par{i j:Nat}{x y:Str}{a b:Expr}{ta:TA}{px py pt:Pos}{kt k2 pt2}(hc:X.calm=true)(hN:X.N.Nodup)(hi:X.N[i]? =some x)(hj:X.N[j]? =some y)(hij:i≠j)(hx:X.env.scope.names.lookup x=some .local)(hy:X.env.scope.names.lookup y=some .local)(ha:PA X [a,b] ta)(hw:swappedStores [.Tuple [.Name x px,.Name y py] kt pt] (.Tuple [a,b] k2 pt2) X.env=pure (some [x,y]))(hs:swapsWithSole [.Tuple [.Name x px,.Name y py] kt pt] (.Tuple [a,b] k2 pt2) pos.line X.env=pure false:=by rfl):
  PS X (.Assign [.Tuple [.Name x px,.Name y py] kt pt] (.Tuple [a,b] k2 pt2) pos) (tPar i j ta):=by
 intro pins s σ H D I h
 rw[exec_Assign_arm]
 refine bO (Yu ?_)
 rw[hs]
 refine bO (gR ?_)
 rw[ao (by decide)]
 refine bO (Tuple_ (thn (ha _ pins s σ H _ I h) fun us s1 ⟨vs,H1,I1,r1,q1⟩=> ?_))
 obtain⟨v,w,e1,q1⟩:=q1
 subst e1
 obtain⟨u1,u2,rfl,rv,rw'⟩:∃u1 u2,us=[u1,u2]/\RelV v u1/\RelV w u2:=by
  cases r1 with
  |cons p q=>
   cases q with
   |cons p' q'=>
    cases q'
    exact⟨_,_,rfl,p,p'⟩
 refine Vn ?_ (by show 2<=sizeLine;decide)
 have I2:Inv X pins σ H1 {s1 with heap:=s1.heap.push {cls:= .type "tuple",data:= .seq [u1,u2].toArray}}:=I1.kept (t':=s1.toks) fun b o e=>jy _ e
 rw[hw]
 refine bO (gR ?_)
 show wpAny (model X.prog X.w) X.A (do rule "assign.swapped-stores";let items<-unpackItems (.ref s1.heap.objs.size) 2 none;assignInOrder [fun v=>bindName X.env y v,fun v=>bindName X.env x v] items.reverse;pure Flow.next) _ _ _
 refine bO (wpAny_rule (bO (unpackItems_tuple (items:=#[u1,u2]) (I.ok.hd hc) (TF s1.heap _) fun h' hx'=> ?_)))
 have I3:=I2.kept (h':=h') (t':=s1.toks) fun b o e=>hx' b o (iK (fD e)) e
 show wpAny _ _ (assignInOrder [fun v=>bindName X.env y v,fun v=>bindName X.env x v] [u2,u1]>>=fun _=>pure Flow.next) _ _ _
 refine bO (ZX (wpAny_bindName (store_ok I3 hN hj (.inl hy) rw' (fun s2 I4=> ?_) (.inr hy))))
 refine ZX (wpAny_bindName (store_ok I4 hN hi (.inl hx) rv (fun s3 I5=>assignInOrder_nil (gR ?_)) (.inr hx)))
 rw[List.set_comm _ _ (lE hij)]at I5
 exact⟨_,H1,I5,q1⟩
end
section
variable{X:Cx}{pos:Pos}
def tWhile(c:TT)(tb:TS):TS:=fun D σ H=>∃W:Nat->St->Hp->Prop,(∃m,W m σ H)/\∀m σ H,W m σ H->
 c σ H fun b H1=>if b=true then∃N:St->Hp->Prop,(∀σ' H',N σ' H'->∃m',m'<m/\W m' σ' H')/\tb {D with nx:=N,ct:=N,bk:=D.nx} σ H1 else D.nx σ H1
theorem ps_while{c:Expr}{body:List Stmt}{tc:TT}{tb:TS}(hp:PassesOwn (model X.prog X.w) X.A X.env X.xe)(hc:PT X c tc)(hb:PSs X body tb):PS X (.While c body [] pos) (tWhile tc tb):=by
 intro pins s σ H D I h
 obtain⟨W,⟨m0,w0⟩,turn⟩:=h
 refine wpAny_While (codeAny_whileLoop (fun n s'=>∃σ' H',Inv X pins σ' H' s'/\W n σ' H') ?_ m0 ⟨σ,H,I,w0⟩)
 rintro n s1 ⟨σ1,H1,I1,w1⟩
 refine QW hp (thn (hc pins s1 σ1 H1 _ I1 (turn n σ1 H1 w1)) fun b s2 ⟨H2,I2,q2⟩=> ?_)
 cases b with
 |true=>
  obtain⟨N,hN,q2⟩:=q2
  rw[aA rfl]
  refine QW hp (thn (hb pins s2 σ1 H2 _ I2 q2) fun f s3 q3=> ?_)
  cases f with
  |next=>
   obtain⟨σ3,H3,I3,n3⟩:=q3
   obtain⟨m',hm,w3⟩:=hN σ3 H3 n3
   exact⟨m',hm,σ3,H3,I3,w3⟩
  |cont=>
   obtain⟨σ3,H3,I3,n3⟩:=q3
   obtain⟨m',hm,w3⟩:=hN σ3 H3 n3
   exact⟨m',hm,σ3,H3,I3,w3⟩
  |brk=>exact q3
  |ret v=>exact q3
 |false=>
  rw[ao sW]
  exact Yx ⟨σ1,H2,I2,q2⟩
end
structure It where
 go:Nat->Hp->Prop
 yld:Nat->Hp->V->Hp->Prop
 stop:Nat->Hp->Prop
def FpOk(X:Cx)(pins:List (Addr×Obj))(H:Hp)(b:Addr):Prop:=
 H b=none/\b≠X.env.locals/\b∉X.fs/\(b∈X.ex\/X.s₀.heap.objs.size<=b)/\(∀x c,X.env.cells.lookup x=some c->c≠b)/\∀p∈X.pn++pins,p.1≠b
theorem Inv.fpOk{X:Cx}{pins:List (Addr×Obj)}{σ:St}{H H':Hp}{s:Shared}{b:Addr}(I:Inv X pins σ H s)(hb:s.heap.objs.size<=b)(hn:H' b=none):FpOk X pins H' b:=by
 refine⟨hn,O1 (jx I.lt hb),I.nofs hb,.inr (dW I.sz hb),fun x c e z=> ?_,fun p hp z=> ?_⟩
 ·obtain⟨v,q⟩:=I.cell x c e
  exact absurd (jx q.lt (by rw[z];exact hb)) (oM _)
 ·exact absurd (jx (fD (I.pin p hp).1) (by rw[z];exact hb)) (oM _)
structure Turn(P:Program)(w:World)(K:W.Frag)(tg:Expr)(J:It)(fp:List Addr)(it:Addr)(tn:Nat->Heap->Prop):Prop where
 mem:it∈fp
 obj:∀i h,tn i h->∀b∈fp,∃o,h.get? b=some o/\∀v,o.data≠.cell v
 keep:∀i h h',tn i h->(∀b∈fp,∀o,h.get? b=some o->h'.get? b=some o)->tn i h'
 item:∀(X:Cx),X.prog=P->X.w=w->X.K=K->X.calm=true->∀(i:Nat) (pins:List (Addr×Obj)) (s:Shared) (σ:St) (H:Hp) (E:Value->Shared->Prop),Inv X pins σ H s->(∀b∈fp,FpOk X pins H b)->tn i s.heap->J.go i H->
  wpAny (model P w) X.A (pyNext (.ref it)) (fun r s1=>∃u,r=some u/\
   wpAny (model P w) X.A (letOwnedTupleGo tg (.ref it) u) (fun _ s2=>∃x H',Inv X pins σ H' s2/\RelV x u/\J.yld i H x H'/\tn (i+1) s2.heap/\∀b∈fp,H' b=none) E s1) E s
 done:∀(X:Cx),X.prog=P->X.w=w->X.K=K->X.calm=true->∀(i:Nat) (pins:List (Addr×Obj)) (s:Shared) (σ:St) (H:Hp) (E:Value->Shared->Prop),Inv X pins σ H s->(∀b∈fp,FpOk X pins H b)->tn i s.heap->J.stop i H->
  wpAny (model P w) X.A (pyNext (.ref it)) (fun r s1=>r=none/\Inv X pins σ H s1) E s
 self:∀(A:Around) (i:Nat) (s:Shared) (Q:Value->Shared->Prop) (E:Value->Shared->Prop),tn i s.heap->Q (.ref it) s->wpAny (model P w) A (pyIter (.ref it)) Q E s
abbrev TI:=St->Hp->(It->Hp->Prop)->Prop
def PIE(X:Cx)(pins:List (Addr×Obj))(σ:St)(tg:Expr)(R:It->Hp->Prop)(itv:Value)(s2:Shared):Prop:=
 ∃(it:Addr) (fp:List Addr) (tn:Nat->Heap->Prop) (J:It) (H':Hp),itv= .ref it/\Inv X pins σ H' s2/\Turn X.prog X.w X.K tg J fp it tn/\tn 0 s2.heap/\(∀b∈fp,FpOk X pins H' b)/\R J H'
def PI(X:Cx)(tg iter:Expr)(wi:TI):Prop:=
 ∀(pins:List (Addr×Obj)) (s:Shared) (σ:St) (H:Hp) (R:It->Hp->Prop),Inv X pins σ H s->wi σ H R->
  wpAny (model X.prog X.w) X.A (eval iter X.env) (fun v s1=>wpAny (model X.prog X.w) X.A (pyIter v) (PIE X pins σ tg R) X.xe s1) X.xe s
theorem go_of{M:Model}{A:Around}{E:Value->Shared->Prop}{s:Shared}{tg:Expr}{it:Addr}{u:Value}{o:Obj}{n:String}{vs:Array Value}{Q:Unit->Shared->Prop}(ho:s.heap.get? it=some o)(hc:o.cls= .type n)(hd:o.data= .fields vs)(hn:["enumerate","zip","dict_itemiterator","dict_reverseitemiterator","odict_iterator","itertools.zip_longest","itertools.pairwise"].contains n=false)(hQ:Q () s):wpAny M A (letOwnedTupleGo tg (.ref it) u) Q E s:=by
 unfold letOwnedTupleGo
 cases tg<;>first
  |exact gR hQ
  |(cases u<;>first
    |exact gR hQ
    |(refine bO (wpAny_load ho ?_)
      rw[hc,hd]
      show wpAny M A (if(["enumerate","zip","dict_itemiterator","dict_reverseitemiterator","odict_iterator","itertools.zip_longest","itertools.pairwise"].contains n&&vs[0]? ==some (rawInt _))=true then _ else _) Q E s
      rw[ao (by intro h;rw[hn,Yv]at h;cases h)]
      exact gR hQ))
def Itl(K:W.Frag)(a:Addr):It:=
 ⟨fun i H=>∃xs x,SqL K H a xs/\xs[i]? =some x,fun i H x H'=>H'=H/\∀xs,SqL K H a xs->xs[i]? =some x,fun i H=>∃xs,SqL K H a xs/\xs.length<=i⟩
def Itt(K:W.Frag)(a:Addr):It:=
 ⟨fun i H=>∃xs x,SqT K H a xs/\xs[i]? =some x,fun i H x H'=>H'=H/\∀xs,SqT K H a xs->xs[i]? =some x,fun i H=>∃xs,SqT K H a xs/\xs.length<=i⟩
def Itr(lo:Int)(n:Nat):It:=⟨fun i _=>i<n,fun i H x H'=>H'=H/\x= .int (lo+i),fun i _=>n<=i⟩
theorem turn_list{P:Program}{w:World}{K:W.Frag}{tg:Expr}(a it:Addr):Turn P w K tg (Itl K a) [it] it (fun i h=>h.IsListIter it a i) where
 mem:=by simp
 obj:=fun i h st b hb=>by
  have e:b=it:=by simpa using hb
  subst e
  obtain⟨o,e,c,d⟩:=st
  exact⟨o,e,fun v z=>by rw[d]at z;cases z⟩
 keep:=fun i h h' st k=>st.at fun o e=>k it (by simp) o e
 item:=by
  intro X hP hw hK hc i pins s σ H E I hf st hg
  subst hP hw hK
  obtain⟨xs,x,hq,hx⟩:=hg
  obtain⟨its,rv,p,hz⟩:=I.list hq
  obtain⟨u,hu,ru⟩:=rv.get hx
  obtain⟨f0,f1,f2,f3,f4,f5⟩:=hf it (by simp)
  refine wpAny_pyNext_list_item st p.isList (x:=u) (by simpa using hu) fun h' st' sb=> ?_
  have I1:Inv X pins σ H {s with heap:=h'}:=I.turned (t':=s.toks) (fun b o hb e=>(sb.2 b hb).trans e) f0 f1 f3 f4 f5
  obtain⟨o,e,c,d⟩:=id st'
  exact⟨u,rfl,go_of (s:={s with heap:=h'}) e c d (by decide) ⟨x,H,I1,ru,⟨rfl,fun ys hy=>by rw[I.list_inj hy hq];exact hx⟩,st',fun b hb=>(hf b hb).1⟩⟩
 done:=by
  intro X hP hw hK hc i pins s σ H E I hf st hg
  subst hP hw hK
  obtain⟨xs,hq,hx⟩:=hg
  obtain⟨its,rv,p,hz⟩:=I.list hq
  obtain⟨f0,f1,f2,f3,f4,f5⟩:=hf it (by simp)
  have hl:=rv.length
  exact wpAny_pyNext_list_end (I.ok.hd hc) st p.isList (by simp;omega) fun h' eb=>⟨rfl,I.turned (t':=s.toks) (fun b o hb e=>eb b o hb e) f0 f1 f3 f4 f5⟩
 self:=fun _ _ _ _ _ st h=>wpAny_pyIter_listiter st h
theorem turn_tuple{P:Program}{w:World}{K:W.Frag}{tg:Expr}(a it:Addr):Turn P w K tg (Itt K a) [it] it (fun i h=>h.IsTupleIter it a i) where
 mem:=by simp
 obj:=fun i h st b hb=>by
  have e:b=it:=by simpa using hb
  subst e
  obtain⟨o,e,c,d⟩:=st
  exact⟨o,e,fun v z=>by rw[d]at z;cases z⟩
 keep:=fun i h h' st k=>st.at fun o e=>k it (by simp) o e
 item:=by
  intro X hP hw hK hc i pins s σ H E I hf st hg
  subst hP hw hK
  obtain⟨xs,x,hq,hx⟩:=hg
  obtain⟨its,rv,p,hz⟩:=I.tuple hq
  obtain⟨u,hu,ru⟩:=rv.get hx
  obtain⟨f0,f1,f2,f3,f4,f5⟩:=hf it (by simp)
  refine wpAny_pyNext_tuple_item st (show s.heap.IsTuple a its.toArray from p) (x:=u) (by simpa using hu) fun h' st' sb=> ?_
  have I1:Inv X pins σ H {s with heap:=h'}:=I.turned (t':=s.toks) (fun b o hb e=>(sb.2 b hb).trans e) f0 f1 f3 f4 f5
  obtain⟨o,e,c,d⟩:=id st'
  exact⟨u,rfl,go_of (s:={s with heap:=h'}) e c d (by decide) ⟨x,H,I1,ru,⟨rfl,fun ys hy=>by rw[I.tuple_inj hy hq];exact hx⟩,st',fun b hb=>(hf b hb).1⟩⟩
 done:=by
  intro X hP hw hK hc i pins s σ H E I hf st hg
  subst hP hw hK
  obtain⟨xs,hq,hx⟩:=hg
  obtain⟨its,rv,p,hz⟩:=I.tuple hq
  obtain⟨f0,f1,f2,f3,f4,f5⟩:=hf it (by simp)
  have hl:=rv.length
  exact wpAny_pyNext_tuple_end (I.ok.hd hc) st (show s.heap.IsTuple a its.toArray from p) (by simp;omega) fun h' eb=>⟨rfl,I.turned (t':=s.toks) (fun b o hb e=>eb b o hb e) f0 f1 f3 f4 f5⟩
 self:=fun _ _ _ _ _ st h=>wpAny_pyIter_tupleiter st h
theorem turn_range{P:Program}{w:World}{K:W.Frag}{tg:Expr}(it:Addr)(lo:Int)(n:Nat):Turn P w K tg (Itr lo n) [it] it (fun i h=>IsRangeIter h it (lo+(i:Nat)*1) ((n:Int)-(i:Nat)) 1) where
 mem:=by simp
 obj:=fun i h st b hb=>by
  have e:b=it:=by simpa using hb
  subst e
  exact⟨_,st,fun v z=>by
   have z':Data.fields _=Data.cell v:=z
   cases z'⟩
 keep:=fun i h h' st k=>k it (by simp) _ st
 item:=by
  intro X hP hw hK hc i pins s σ H E I hf st hg
  subst hP hw hK
  obtain⟨f0,f1,f2,f3,f4,f5⟩:=hf it (by simp)
  have W:=Walks.range (prog:=X.prog) (w:=X.w) (I.ok.hd hc) it lo 1 n
  refine W.item i s _ _ hg st fun v h' tk hv st' kk=> ?_
  obtain⟨t,rfl⟩:=hv
  have I1:Inv X pins σ H {s with heap:=h',toks:=tk}:=I.turned (fun b o hb e=>kk b o (by simpa using hb) e) f0 f1 f3 f4 f5
  refine⟨_,rfl,go_of (s:={s with heap:=h',toks:=tk}) (n:="range_iterator") st' rfl rfl (by decide) ⟨.int (lo+i),H,I1,⟨t,?_⟩,⟨rfl,rfl⟩,st',fun b hb=>(hf b hb).1⟩⟩
  rw[TX]
 done:=by
  intro X hP hw hK hc i pins s σ H E I hf st hg
  subst hP hw hK
  obtain⟨f0,f1,f2,f3,f4,f5⟩:=hf it (by simp)
  exact wpAny_pyNext_range_end (I.ok.hd hc) st (by have:n<=i:=hg;omega) fun h' eb=>⟨rfl,I.turned (t':=s.toks) (fun b o hb e=>eb b o hb e) f0 f1 f3 f4 f5⟩
 self:=fun _ _ _ _ _ st h=>wpAny_pyIter_rangeiter st h
section
variable{X:Cx}{tg:Expr}
theorem range_it{pins:List (Addr×Obj)}{σ:St}{H:Hp}{s:Shared}{R:It->Hp->Prop}{E:Value->Shared->Prop}{lo hi:Int}{t u v:Tok}{tk:Nat}(I:Inv X pins σ H s)(h1: -(2^62)<=lo)(h2:lo<2^62)(h3: -(2^62)<=hi)(h4:hi<2^62)(q:R (Itr lo (hi-lo).toNat) H):wpAny (model X.prog X.w) X.A (pyIter (.ref s.heap.objs.size)) (PIE X pins σ tg R) E {s with heap:=s.heap.push {cls:= .type "range",data:= .fields #[.int lo t,.int hi u,.int 1 v]},toks:=tk}:=by
 refine wpAny_pyIter_range (Yp ..) (small_one h1 h2 h3 h4) ?_
 have I1:Inv X pins σ H {s with heap:=s.heap.push {cls:= .type "range",data:= .fields #[.int lo t,.int hi u,.int 1 v]},toks:=tk}:=I.kept fun b o e=>jy _ e
 refine⟨(s.heap.push {cls:= .type "range",data:= .fields #[.int lo t,.int hi u,.int 1 v]}).objs.size,[(s.heap.push {cls:= .type "range",data:= .fields #[.int lo t,.int hi u,.int 1 v]}).objs.size],_,_,H,rfl,
  I1.kept (t':=tk) fun b o e=>jy _ e,turn_range _ lo (hi-lo).toNat,?_,fun b hb=> ?_,q⟩
 ·have e1:lo+((0:Nat):Int)*1=lo:=by simp
  have e2:(((hi-lo).toNat:Nat):Int)-((0:Nat):Int)=Builtin.Range.rangeSize lo hi 1:=by rw[Yt];split<;>omega
  show IsRangeIter _ _ (lo+((0:Nat):Int)*1) ((((hi-lo).toNat:Nat):Int)-((0:Nat):Int)) 1
  rw[e1,e2]
  exact wj _ rfl
 ·have e:b=(s.heap.push {cls:= .type "range",data:= .fields #[.int lo t,.int hi u,.int 1 v]}).objs.size:=by simpa using hb
  subst e
  exact I1.fpOk (aU _) (I1.hok.fresh (aU _))
def iRng1(ta:TA):TI:=fun σ H R=>ta σ H fun vs H1=>∃j:Int,vs=[.int j]/\ -(2^62)<=j/\j<2^62/\R (Itr 0 j.toNat) H1
def iRng2(ta:TA):TI:=fun σ H R=>ta σ H fun vs H1=>∃i j:Int,vs=[.int i,.int j]/\(-(2^62)<=i/\i<2^62/\ -(2^62)<=j/\j<2^62)/\R (Itr i (j-i).toNat) H1
theorem zp{a:Expr}{ta:TA}{p pos:Pos}(hg:Gl X "range")(hm:X.mg "range"=none)(ha:PA X [a] ta)(hs:starEach [a] X.env=[(false,eval a X.env)]:=by rfl):PI X tg (.Call (.Name "range" p) [a] [] pos) (iRng1 ta):=by
 intro pins s σ H R I h
 refine Call_ (ld_blt I hg hm U9 (Lp (thn (ha pos pins s σ H _ I h) fun us s1 ⟨vs,H1,I1,r1,q1⟩=> ?_) hs rfl))
 obtain⟨j,e,q1,q2,q⟩:=q1
 subst e
 cases r1 with
 |cons r rr=>
  cases rr
  obtain⟨t,rfl⟩:=r
  exact call_range_1 (range_it I1 (by omega) (by omega) q1 q2 (by simpa using q))
theorem pi_range2{a b:Expr}{ta:TA}{p pos:Pos}(hg:Gl X "range")(hm:X.mg "range"=none)(ha:PA X [a,b] ta)(hs:starEach [a,b] X.env=[(false,eval a X.env),(false,eval b X.env)]:=by rfl)(hs2:starEach [b] X.env=[(false,eval b X.env)]:=by rfl):
  PI X tg (.Call (.Name "range" p) [a,b] [] pos) (iRng2 ta):=by
 intro pins s σ H R I h
 refine Call_ (ld_blt I hg hm U9 (Lp (thn (ha pos pins s σ H _ I h) fun us s1 ⟨vs,H1,I1,r1,q1⟩=> ?_) (by rw[hs,hs2]) (by rw[hs2];rfl)))
 obtain⟨i,j,e,⟨q1,q2,q3,q4⟩,q⟩:=q1
 subst e
 cases r1 with
 |cons r rr=>
  cases rr with
  |cons r' rr=>
   cases rr
   obtain⟨t,rfl⟩:=r
   obtain⟨t',rfl⟩:=r'
   exact call_range_2 (range_it I1 q1 q2 q3 q4 q)
def tFor(wi:TI)(g:TG)(tb:TS):TS:=fun D σ H=>wi σ H fun J H1=>∃W:Nat->Nat->St->Hp->Prop,(∃m,W 0 m σ H1)/\∀i m σ H,W i m σ H->
 (J.stop i H/\D.nx σ H)\/(J.go i H/\∃N:St->Hp->Prop,(∀σ' H',N σ' H'->∃m',m'<m/\W (i+1) m' σ' H')/\∀x H',J.yld i H x H'->g x σ H' fun σ2 H2=>tb {D with nx:=N,ct:=N,bk:=D.nx} σ2 H2)
def pinsAt(fp:List Addr)(h:Heap):List (Addr×Obj):=fp.filterMap fun b=>(h.get? b).map fun o=>(b,o)
theorem mem_pinsAt{fp:List Addr}{h:Heap}{b:Addr}{o:Obj}(hb:b∈fp)(e:h.get? b=some o):(b,o)∈pinsAt fp h:=List.mem_filterMap.mpr ⟨b,hb,by rw[e];rfl⟩
theorem of_pinsAt{fp:List Addr}{h:Heap}{p:Addr×Obj}(hp:p∈pinsAt fp h):p.1∈fp/\h.get? p.1=some p.2:=by
 obtain⟨b,hb,e⟩:=List.mem_filterMap.mp hp
 cases q:h.get? b with
 |none=>rw[q]at e;cases e
 |some o=>
  rw[q]at e
  have e':(b,o)=p:=sy e
  subst e'
  exact⟨hb,q⟩
theorem Inv.pinned{pins:List (Addr×Obj)}{σ:St}{H:Hp}{s:Shared}{fp:List Addr}(I:Inv X pins σ H s)(hf:∀b∈fp,FpOk X pins H b)(ho:∀b∈fp,∃o,s.heap.get? b=some o/\∀v,o.data≠.cell v):Inv X (pins++pinsAt fp s.heap) σ H s:=
 I.pins_of fun p hp=>(lD.mp hp).elim (fun z=>I.pin p (Cp _ z)) fun z=>by
  obtain⟨hb,e⟩:=of_pinsAt z
  obtain⟨f0,f1,f2,_⟩:=hf p.1 hb
  obtain⟨o,e',d⟩:=ho p.1 hb
  rw[e]at e';cases e'
  exact⟨e,f0,f1,f2,d⟩
theorem Inv.unpinned{pins pl:List (Addr×Obj)}{σ:St}{H:Hp}{s:Shared}(I:Inv X (pins++pl) σ H s):Inv X pins σ H s:=I.pins_of fun p hp=>I.pin p (Cp _ (Tt _ hp))
theorem ps_for{iter:Expr}{body:List Stmt}{wi:TI}{g:TG}{tb:TS}{pos:Pos}(hp:PassesOwn (model X.prog X.w) X.A X.env X.xe)(hc:X.calm=true)(hi:PI X tg iter wi)(hg:PG X tg g)(hb:PSs X body tb)(hs:∀x,foldedSetIterable iter X.env x=pure x:=by intro _;rfl):PS X (.For tg iter body [] pos) (tFor wi g tb):=by
 intro pins s σ H D I h
 refine wpAny_For (thn (hi pins s σ H _ I h) fun v s1 h1=>thn h1 fun itv s2 h2=> ?_) hs
 obtain⟨it,fp,tn,J,H2,e,I2,T,st2,f2,W,⟨m0,w0⟩,turn⟩:=h2
 subst e
 -- what stays true of the iterator's objects through the loop
 have stat:∀{H':Hp},(∀b∈fp,H' b=none)->∀b∈fp,FpOk X pins H' b:=fun hn b hb=>⟨hn b hb,(f2 b hb).2⟩
 refine codeAny_forLoop_any (fun n s'=>∃i σ' H',Inv X pins σ' H' s'/\tn i s'.heap/\(∀b∈fp,H' b=none)/\W i n σ' H') ?_ m0 ⟨0,σ,H2,I2,st2,fun b hb=>(f2 b hb).1,w0⟩
 rintro n s3 ⟨i,σ3,H3,I3,st3,fr3,w3⟩
 rcases turn i n σ3 H3 w3 with⟨stop,qn⟩|⟨go,N,hN,step⟩
 ·refine QW hp (thn (T.done X rfl rfl rfl hc i pins s3 σ3 H3 X.xe I3 (stat fr3) st3 stop) fun r s4 ⟨hr,I4⟩=> ?_)
  subst hr
  exact Yx ⟨σ3,H3,I4,qn⟩
 ·refine QW hp (thn (T.item X rfl rfl rfl hc i pins s3 σ3 H3 X.xe I3 (stat fr3) st3 go) fun r s4 ⟨u,hr,h4⟩=> ?_)
  subst hr
  refine QW hp (thn h4 fun _ s5 ⟨x,H5,I5,r5,y5,st5,fr5⟩=> ?_)
  have I5':=I5.pinned (stat fr5) (T.obj _ _ st5)
  refine QW hp (thn (hg _ s5 σ3 H5 x u _ I5' r5 (step x H5 y5)) fun _ s6 ⟨σ6,H6,I6,q6⟩=> ?_)
  refine QW hp (thn (hb _ s6 σ6 H6 _ I6 q6) fun f s7 q7=> ?_)
  have again:∀{σ7:St} {H7:Hp},Inv X (pins++pinsAt fp s5.heap) σ7 H7 s7->N σ7 H7->∃m,m<n/\∃i σ' H',Inv X pins σ' H' s7/\tn i s7.heap/\(∀b∈fp,H' b=none)/\W i m σ' H':=fun{σ7 H7} I7 n7=>by
   obtain⟨m',hm,w7⟩:=hN σ7 H7 n7
   refine⟨m',hm,i+1,σ7,H7,I7.unpinned,T.keep _ _ _ st5 fun b hb o e=>(I7.pin (b,o) (Cp _ (Cp _ (mem_pinsAt hb e)))).1,fun b hb=> ?_,w7⟩
   obtain⟨o,e,d⟩:=T.obj _ _ st5 b hb
   exact(I7.pin (b,o) (Cp _ (Cp _ (mem_pinsAt hb e)))).2.1
  cases f with
  |next=>obtain⟨σ7,H7,I7,n7⟩:=q7;exact again I7 n7
  |cont=>obtain⟨σ7,H7,I7,n7⟩:=q7;exact again I7 n7
  |brk=>obtain⟨σ7,H7,I7,q7⟩:=q7;exact⟨σ7,H7,I7.unpinned,q7⟩
  |ret v=>obtain⟨x7,σ7,H7,I7,r7,q7⟩:=q7;exact⟨x7,σ7,H7,I7.unpinned,r7,q7⟩
end
theorem for_list{K:W.Frag}{a:Addr}{xs:List V}{g:TG}{tb:TS}{D:Ends}{σ:St}{H:Hp}(Pv:Nat->St->Hp->Prop)(h0:Pv 0 σ H)(hl:∀i σ H,i<=xs.length->Pv i σ H->SqL K H a xs)(hs:∀i x σ H,xs[i]? =some x->Pv i σ H->g x σ H fun σ2 H2=>tb {D with nx:=Pv (i+1),ct:=Pv (i+1),bk:=D.nx} σ2 H2)(hd:∀σ H,Pv xs.length σ H->D.nx σ H):
  ∃W:Nat->Nat->St->Hp->Prop,(∃m,W 0 m σ H)/\∀i m σ H,W i m σ H->
   ((Itl K a).stop i H/\D.nx σ H)\/((Itl K a).go i H/\∃N:St->Hp->Prop,(∀σ' H',N σ' H'->∃m',m'<m/\W (i+1) m' σ' H')/\∀x H',(Itl K a).yld i H x H'->g x σ H' fun σ2 H2=>tb {D with nx:=N,ct:=N,bk:=D.nx} σ2 H2):=by
 refine⟨fun i m σ H=>m=xs.length-i/\i<=xs.length/\Pv i σ H,⟨xs.length,by simp,cY _,h0⟩,?_⟩
 rintro i m σ H ⟨rfl,hi,p⟩
 have q:=hl i σ H hi p
 by_cases hlt:i<xs.length
 ·refine .inr ⟨⟨xs,xs[i],q,by simp[hlt]⟩,Pv (i+1),fun σ' H' p'=>⟨xs.length-(i+1),by omega,rfl,hlt,p'⟩,fun x H' y=> ?_⟩
  obtain⟨e,y⟩:=y
  subst e
  exact hs i x σ _ (y xs q) p
 ·have e:i=xs.length:=by omega
  subst e
  exact .inl ⟨⟨xs,q,aU _⟩,hd σ H p⟩
theorem Lw{lo:Int}{n:Nat}{g:TG}{tb:TS}{D:Ends}{σ:St}{H:Hp}(Pv:Nat->St->Hp->Prop)(h0:Pv 0 σ H)(hs:∀i σ H,i<n->Pv i σ H->g (.int (lo+i)) σ H fun σ2 H2=>tb {D with nx:=Pv (i+1),ct:=Pv (i+1),bk:=D.nx} σ2 H2)(hd:∀σ H,Pv n σ H->D.nx σ H):
  ∃W:Nat->Nat->St->Hp->Prop,(∃m,W 0 m σ H)/\∀i m σ H,W i m σ H->
   ((Itr lo n).stop i H/\D.nx σ H)\/((Itr lo n).go i H/\∃N:St->Hp->Prop,(∀σ' H',N σ' H'->∃m',m'<m/\W (i+1) m' σ' H')/\∀x H',(Itr lo n).yld i H x H'->g x σ H' fun σ2 H2=>tb {D with nx:=N,ct:=N,bk:=D.nx} σ2 H2):=by
 refine⟨fun i m σ H=>m=n-i/\i<=n/\Pv i σ H,⟨n,by simp,cY _,h0⟩,?_⟩
 rintro i m σ H ⟨rfl,hi,p⟩
 by_cases hlt:i<n
 ·refine .inr ⟨hlt,Pv (i+1),fun σ' H' p'=>⟨n-(i+1),by omega,rfl,hlt,p'⟩,fun x H' y=> ?_⟩
  obtain⟨e,y⟩:=y
  subst e y
  exact hs i σ _ hlt p
 ·have e:i=n:=by omega
  subst e
  exact .inl ⟨aU _,hd σ H p⟩
abbrev R2:=V->V->Hp->VK->Prop
def OpR(X:Cx)(f:Value->Value->Sem Value)(r:R2):Prop:=
 ∀(pins:List (Addr×Obj)) (s:Shared) (σ:St) (H:Hp) (x y:V) (v u:Value) (Q:VK),Inv X pins σ H s->RelV x v->RelV y u->r x y H Q->
  wpAny (model X.prog X.w) X.A (f v u) (EP X pins σ Q) X.xe s
def UnR(X:Cx)(f:Value->Sem Value)(r:V->Hp->VK->Prop):Prop:=
 ∀(pins:List (Addr×Obj)) (s:Shared) (σ:St) (H:Hp) (x:V) (v:Value) (Q:VK),Inv X pins σ H s->RelV x v->r x H Q->
  wpAny (model X.prog X.w) X.A (f v) (EP X pins σ Q) X.xe s
def CallR(X:Cx)(f:Value)(r:List V->Hp->VK->Prop):Prop:=
 ∀(pins:List (Addr×Obj)) (s:Shared) (σ:St) (H:Hp) (xs:List V) (us:List Value) (Q:VK),Inv X pins σ H s->Vals xs us->r xs H Q->
  wpAny (model X.prog X.w) X.A (call f us) (EP X pins σ Q) X.xe s
def TruR(X:Cx)(r:V->Hp->(Bool->Hp->Prop)->Prop):Prop:=
 ∀(pins:List (Addr×Obj)) (s:Shared) (σ:St) (H:Hp) (x:V) (v:Value) (Q:Bool->Hp->Prop),Inv X pins σ H s->RelV x v->r x H Q->
  wpAny (model X.prog X.w) X.A (truthy v) (TP X pins σ Q) X.xe s
def tOp(r:R2)(ta tb:TE):TE:=fun σ H Q=>ta σ H fun x H1=>tb σ H1 fun y H2=>r x y H2 Q
def tUn(r:V->Hp->VK->Prop)(ta:TE):TE:=fun σ H Q=>ta σ H fun x H1=>r x H1 Q
def rI(C:Int->Int->Prop)(g:Int->Int->V):R2:=fun x y H Q=>∃i j,x= .int i/\y= .int j/\C i j/\Q (g i j) H
def rI0(g:Int->Int->V):R2:=fun x y H Q=>∃i j,x= .int i/\y= .int j/\Q (g i j) H
def rU(g:Int->V):V->Hp->VK->Prop:=fun x H Q=>∃i,x= .int i/\Q (g i) H
section
variable{X:Cx}{a b c:Expr}{ta tb tc:TE}{pos:Pos}
theorem binT(ha:PE X a ta)(hb:PE X b tb){pins:List (Addr×Obj)}{s:Shared}{σ:St}{H:Hp}{R:V->V->Hp->Prop}(I:Inv X pins σ H s)(h:ta σ H fun x H1=>tb σ H1 fun y H2=>R x y H2){Q:Value->Shared->Prop}{f:Value->Value->Sem Value}(hf:∀v u s2 x y H2,Inv X pins σ H2 s2->RelV x v->RelV y u->R x y H2->wpAny (model X.prog X.w) X.A (f v u) Q X.xe s2):
  wpAny (model X.prog X.w) X.A (eval a X.env) (fun v s₁=>wpAny (model X.prog X.w) X.A (eval b X.env) (fun u s₂=>wpAny (model X.prog X.w) X.A (f v u) Q X.xe s₂) X.xe s₁) X.xe s:=by
 refine thn (ha pins s σ H _ I h) fun v s1 ⟨x,H1,I1,r1,q1⟩=> ?_
 refine thn (hb pins s1 σ H1 _ I1 q1) fun u s2 ⟨y,H2,I2,r2,q2⟩=> ?_
 exact hf v u s2 x y H2 I2 r1 r2 q2
theorem bH{op:Operator}{r:R2}(ho:OpR X (binaryOp op) r)(ha:PE X a ta)(hb:PE X b tb):PE X (.BinOp a op b pos) (tOp r ta tb):=by
 intro pins s σ H Q I h
 exact wpAny_BinOp (binT ha hb I h fun v u s2 x y H2 I2 rx ry q=>ho pins s2 σ H2 x y v u Q I2 rx ry q)
theorem pe_un{op:UnaryOp}{r:V->Hp->VK->Prop}(ho:UnR X (unaryOp op) r)(ha:PE X a ta):PE X (.UnaryOp op a pos) (tUn r ta):=by
 intro pins s σ H Q I h
 exact UnaryOp_ (thn (ha pins s σ H _ I h) fun v s1 ⟨x,H1,I1,r1,q1⟩=>ho pins s1 σ H1 x v Q I1 r1 q1)
theorem opI{f:Value->Value->Sem Value}{C:Int->Int->Prop}{g:Int->Int->Int}(rule:∀(i j:Int) (t u:Tok) (s:Shared) (Q:Value->Shared->Prop) (E:Value->Shared->Prop),C i j->Q (.int (g i j) s.toks) {s with toks:=s.toks+1}->wpAny (model X.prog X.w) X.A (f (.int i t) (.int j u)) Q E s):
  OpR X f (rI C fun i j=> .int (g i j)):=by
 intro pins s σ H x y v u Q I rx ry h
 obtain⟨i,j,rfl,rfl,hc,q⟩:=h
 obtain⟨t,rfl⟩:=rx
 obtain⟨t',rfl⟩:=ry
 exact rule i j t t' s _ _ hc ⟨.int (g i j),H,I.tok _,⟨_,rfl⟩,q⟩
theorem opI0{f:Value->Value->Sem Value}{g:Int->Int->Int}(rule:∀(i j:Int) (t u:Tok) (s:Shared) (Q:Value->Shared->Prop) (E:Value->Shared->Prop),Q (.int (g i j) s.toks) {s with toks:=s.toks+1}->wpAny (model X.prog X.w) X.A (f (.int i t) (.int j u)) Q E s):
  OpR X f (rI0 fun i j=> .int (g i j)):=by
 intro pins s σ H x y v u Q I rx ry h
 obtain⟨i,j,rfl,rfl,q⟩:=h
 obtain⟨t,rfl⟩:=rx
 obtain⟨t',rfl⟩:=ry
 exact rule i j t t' s _ _ ⟨.int (g i j),H,I.tok _,⟨_,rfl⟩,q⟩
theorem opB0{f:Value->Value->Sem Value}{g:Int->Int->Bool}(rule:∀(i j:Int) (t u:Tok) (s:Shared) (Q:Value->Shared->Prop) (E:Value->Shared->Prop),Q (.bool (g i j)) s->wpAny (model X.prog X.w) X.A (f (.int i t) (.int j u)) Q E s):
  OpR X f (rI0 fun i j=> .bl (g i j)):=by
 intro pins s σ H x y v u Q I rx ry h
 obtain⟨i,j,rfl,rfl,q⟩:=h
 obtain⟨t,rfl⟩:=rx
 obtain⟨t',rfl⟩:=ry
 exact rule i j t t' s _ _ ⟨.bl (g i j),H,I,rfl,q⟩
def CDiv(i j:Int):Prop:=0<j/\j<1073741824
def CMul(i j:Int):Prop:=(-(2^64)<i/\i<2^64)\/(-(2^64)<j/\j<2^64)
theorem CMul.ok{i j:Int}(h:CMul i j):IntMulOk i j:=by
 rcases h with⟨h1,h2⟩|⟨h1,h2⟩
 ·exact .of_left (intBits_le_64 h1 h2)
 ·exact .of_right (intBits_le_64 h1 h2)
theorem pI:OpR X (binaryOp .Add) (rI0 fun i j=> .int (i+j)):=opI0 fun _ _ _ _ _ _ _ q=>add_int q
theorem op_sub:OpR X (binaryOp .Sub) (rI0 fun i j=> .int (i-j)):=opI0 fun _ _ _ _ _ _ _ q=>sub_int q
theorem rW:OpR X (binaryOp .Mult) (rI CMul fun i j=> .int (i*j)):=opI fun _ _ _ _ _ _ _ hc q=>mul_int q hc.ok
theorem op_fdiv:OpR X (binaryOp .FloorDiv) (rI CDiv fun i j=> .int (i/j)):=opI fun i j _ _ _ _ _ hc q=>by
 have h1:(0:Int)<j:=hc.1
 have h2:j<1073741824:=hc.2
 exact floordiv_int (by omega) (by rw[Zm i (by omega)];exact q) (.inl (PyProof.noPylong_small (by omega)))
theorem op_mod:OpR X (binaryOp .Mod) (rI (fun _ j=>0<j) fun i j=> .int (i %j)):=opI fun i j _ _ _ _ _ hc q=>by
 have h1:(0:Int)<j:=hc
 exact mod_int' (by omega) (by rw[Int.fmod_eq_emod_of_nonneg i (by omega)];exact q)
theorem unI{f:Value->Sem Value}{g:Int->Int}(rule:∀(i:Int) (t:Tok) (s:Shared) (Q:Value->Shared->Prop) (E:Value->Shared->Prop),Q (.int (g i) s.toks) {s with toks:=s.toks+1}->wpAny (model X.prog X.w) X.A (f (.int i t)) Q E s):
  UnR X f (rU fun i=> .int (g i)):=by
 intro pins s σ H x v Q I rx h
 obtain⟨i,rfl,q⟩:=h
 obtain⟨t,rfl⟩:=rx
 exact rule i t s _ _ ⟨.int (g i),H,I.tok _,⟨_,rfl⟩,q⟩
theorem un_neg:UnR X (unaryOp .USub) (rU fun i=> .int (-i)):=unI fun _ _ _ _ _ q=>neg_int q
end
def scal:V->V->Bool
 | .non,.non=>true| .non,.int _=>true| .int _,.non=>true| .non,.bl _=>true| .bl _,.non=>true| .non,.str _=>true| .str _,.non=>true
 | .int _,.int _=>true| .bl _,.bl _=>true| .str _,.str _=>true| .byt _,.byt _=>true
 | .int _,.str _=>true| .str _,.int _=>true| .bl _,.str _=>true| .str _,.bl _=>true
 |_,_=>false
def rEq:R2:=fun x y H Q=>scal x y=true/\Q (.bl (decide (x=y))) H
def rNe:R2:=fun x y H Q=>scal x y=true/\Q (.bl (!decide (x=y))) H
theorem dec_int{i j:Int}:decide (V.int i=V.int j)=(i==j):=by
 rw[uE]
 simp
theorem dec_bl{i j:Bool}:decide (V.bl i=V.bl j)=(i==j):=by
 rw[uE]
 simp
theorem dec_str{i j:Str}:decide (V.str i=V.str j)=(i==j):=by
 rw[uE]
 simp
theorem dec_byt{i j:Array UInt8}:decide (V.byt i=V.byt j)=(i.toList==j.toList):=by
 rw[uE]
 cases i
 cases j
 simp
section
variable{X:Cx}{a b c:Expr}{ta tb tc:TE}{pos:Pos}
theorem jL{pins:List (Addr×Obj)}{σ:St}{H:Hp}{s:Shared}{Q:VK}{k k':Bool}(I:Inv X pins σ H s)(q:Q (.bl k) H)(e:k=k'):EP X pins σ Q (.bool k') s:=by
 subst e
 exact⟨.bl k,H,I,rfl,q⟩
theorem op_eq:OpR X (compareOp .Eq) rEq:=by
 intro pins s σ H x y v u Q I rx ry h
 obtain⟨hs,q⟩:=h
 cases x with
 |non=>
  cases rx
  cases y with
  |non=>cases ry;exact PySem.EqNone.eq_none_none (jL I q (by simp))
  |bl j=>cases ry;exact PySem.EqNone.eq_none_bool (jL I q (by simp))
  |int j=>obtain⟨t',rfl⟩:=ry;exact PySem.EqNone.eq_none_int (jL I q (by simp))
  |str j=>obtain⟨t',rfl⟩:=ry;exact PySem.EqNone.eq_none_str (jL I q (by simp))
  |_=>exact absurd (show false=true from hs) sW
 |bl i=>
  cases rx
  cases y with
  |non=>cases ry;exact PySem.EqNone.eq_bool_none (jL I q (by simp))
  |bl j=>cases ry;exact eq_bool (jL I q dec_bl)
  |str j=>obtain⟨t',rfl⟩:=ry;exact PySem.EqMixed.eq_bool_str (jL I q (by simp))
  |_=>exact absurd (show false=true from hs) sW
 |int i=>
  obtain⟨t,rfl⟩:=rx
  cases y with
  |non=>cases ry;exact PySem.EqNone.eq_int_none (jL I q (by simp))
  |int j=>obtain⟨t',rfl⟩:=ry;exact eq_int (jL I q dec_int)
  |str j=>obtain⟨t',rfl⟩:=ry;exact PySem.EqMixed.eq_int_str (jL I q (by simp))
  |_=>exact absurd (show false=true from hs) sW
 |str i=>
  obtain⟨t,rfl⟩:=rx
  cases y with
  |non=>cases ry;exact PySem.EqNone.eq_str_none (jL I q (by simp))
  |bl j=>cases ry;exact PySem.EqMixed.eq_str_bool (jL I q (by simp))
  |int j=>obtain⟨t',rfl⟩:=ry;exact PySem.EqMixed.eq_str_int (jL I q (by simp))
  |str j=>obtain⟨t',rfl⟩:=ry;exact eq_str (jL I q dec_str)
  |_=>exact absurd (show false=true from hs) sW
 |byt i=>
  obtain⟨t,rfl⟩:=rx
  cases y with
  |byt j=>obtain⟨t',rfl⟩:=ry;exact PySem.W.eq_bytes (jL I q dec_byt)
  |_=>exact absurd (show false=true from hs) sW
 |_=>cases y<;>exact absurd (show false=true from hs) sW
theorem op_ne:OpR X (compareOp .NotEq) rNe:=by
 intro pins s σ H x y v u Q I rx ry h
 obtain⟨hs,q⟩:=h
 cases x with
 |non=>
  cases rx
  cases y with
  |non=>cases ry;exact PySem.EqNone.ne_none_none (jL I q (by simp))
  |bl j=>cases ry;exact PySem.EqNone.ne_none_bool (jL I q (by simp))
  |int j=>obtain⟨t',rfl⟩:=ry;exact PySem.EqNone.ne_none_int (jL I q (by simp))
  |str j=>obtain⟨t',rfl⟩:=ry;exact PySem.EqNone.ne_none_str (jL I q (by simp))
  |_=>exact absurd (show false=true from hs) sW
 |bl i=>
  cases rx
  cases y with
  |non=>cases ry;exact PySem.EqNone.ne_bool_none (jL I q (by simp))
  |bl j=>cases ry;exact ne_bool (jL I q (iW not dec_bl))
  |str j=>obtain⟨t',rfl⟩:=ry;exact PySem.EqMixed.ne_bool_str (jL I q (by simp))
  |_=>exact absurd (show false=true from hs) sW
 |int i=>
  obtain⟨t,rfl⟩:=rx
  cases y with
  |non=>cases ry;exact PySem.EqNone.ne_int_none (jL I q (by simp))
  |int j=>obtain⟨t',rfl⟩:=ry;exact ne_int (jL I q (iW not dec_int))
  |str j=>obtain⟨t',rfl⟩:=ry;exact PySem.EqMixed.ne_int_str (jL I q (by simp))
  |_=>exact absurd (show false=true from hs) sW
 |str i=>
  obtain⟨t,rfl⟩:=rx
  cases y with
  |non=>cases ry;exact PySem.EqNone.ne_str_none (jL I q (by simp))
  |bl j=>cases ry;exact PySem.EqMixed.ne_str_bool (jL I q (by simp))
  |int j=>obtain⟨t',rfl⟩:=ry;exact PySem.EqMixed.ne_str_int (jL I q (by simp))
  |str j=>obtain⟨t',rfl⟩:=ry;exact ne_str (jL I q (iW not dec_str))
  |_=>exact absurd (show false=true from hs) sW
 |byt i=>
  obtain⟨t,rfl⟩:=rx
  cases y with
  |byt j=>obtain⟨t',rfl⟩:=ry;exact PySem.W.ne_bytes (jL I q (iW not dec_byt))
  |_=>exact absurd (show false=true from hs) sW
 |_=>cases y<;>exact absurd (show false=true from hs) sW
theorem op_lt:OpR X (compareOp .Lt) (rI0 fun i j=> .bl (decide (i<j))):=opB0 fun _ _ _ _ _ _ _ q=>lt_int q
theorem op_le:OpR X (compareOp .LtE) (rI0 fun i j=> .bl (decide (i<=j))):=opB0 fun _ _ _ _ _ _ _ q=>le_int q
theorem op_gt:OpR X (compareOp .Gt) (rI0 fun i j=> .bl (decide (j<i))):=opB0 fun _ _ _ _ _ _ _ q=>gt_int q
theorem op_ge:OpR X (compareOp .GtE) (rI0 fun i j=> .bl (decide (j<=i))):=opB0 fun _ _ _ _ _ _ _ q=>ge_int q
theorem op_isN:OpR X (compareOp .Is) (fun x y H Q=>y= .non/\Q (.bl (decide (x= .non))) H):=by
 intro pins s σ H x y v u Q I rx ry h
 obtain⟨rfl,q⟩:=h
 cases ry
 refine is_none_gen (jL I q ?_)
 cases x<;>first
  |(cases rx;rfl)
  |(obtain⟨t,rfl⟩:=rx;rfl)
theorem op_notN:OpR X (compareOp .IsNot) (fun x y H Q=>y= .non/\Q (.bl (!decide (x= .non))) H):=by
 intro pins s σ H x y v u Q I rx ry h
 obtain⟨rfl,q⟩:=h
 cases ry
 refine isnot_none_gen (jL I q ?_)
 cases x<;>first
  |(cases rx;rfl)
  |(obtain⟨t,rfl⟩:=rx;rfl)
theorem OpR.or{f:Value->Value->Sem Value}{r r':R2}(h:OpR X f r)(h':OpR X f r'):OpR X f (fun x y H Q=>r x y H Q\/r' x y H Q):=by
 intro pins s σ H x y v u Q I rx ry q
 rcases q with q|q
 ·exact h pins s σ H x y v u Q I rx ry q
 ·exact h' pins s σ H x y v u Q I rx ry q
theorem nomark(b:Expr){op:CmpOp}(h:op≠.In:=by decide)(h2:op≠.NotIn:=by decide):behindInMarks op b=false:=by
 have e1:(op==CmpOp.In)=false:=by cases op<;>first |rfl|exact absurd rfl h
 have e2:(op==CmpOp.NotIn)=false:=by cases op<;>first |rfl|exact absurd rfl h2
 cases b<;>simp[behindInMarks,e1,e2]
theorem pe_cmpR{op:CmpOp}{r:R2}(ho:OpR X (compareOp op) r)(ha:PE X a ta)(hb:PE X b tb)(hm:behindInMarks op b=false):PE X (.Compare a [op] [b] pos) (tOp r ta tb):=by
 intro pins s σ H Q I h
 exact wpAny_Compare1 (binT ha hb I h fun v u s2 x y H2 I2 rx ry q=>ho pins s2 σ H2 x y v u Q I2 rx ry q) hm
def tTest(t:TE):TT:=fun σ H Q=>t σ H fun x H'=>∃k,x= .bl k/\Q k H'
theorem jM{op:CmpOp}{r:R2}(ho:OpR X (compareOp op) r)(ha:PE X a ta)(hb:PE X b tb)(hm:behindInMarks op b=false):PT X (.Compare a [op] [b] pos) (tTest (tOp r ta tb)):=by
 intro pins s σ H Q I h
 refine wpAny_isTrue_Compare1 (thn (ha pins s σ H _ I h) fun v s1 ⟨x,H1,I1,r1,q1⟩=>thn (hb pins s1 σ H1 _ I1 q1) fun u s2 ⟨y,H2,I2,r2,q2⟩=>
  thn (ho pins s2 σ H2 x y v u _ I2 r1 r2 q2) fun c s3 ⟨z,H3,I3,r3,k,e,q3⟩=> ?_) hm
 subst e
 cases r3
 exact Hu ⟨H3,I3,q3⟩
def tChain(r r':R2)(ta tb tc:TE):TE:=fun σ H Q=>ta σ H fun x H1=>tb σ H1 fun y H2=>r x y H2 fun z H3=>∃k,z= .bl k/\
 (if k=true then tc σ H3 fun w' H4=>r' y w' H4 Q else Q (.bl false) H3)
theorem pe_chain{op op':CmpOp}{r r':R2}(ho:OpR X (compareOp op) r)(ho':OpR X (compareOp op') r')(ha:PE X a ta)(hb:PE X b tb)(hc:PE X c tc)(hm:lastMarks [op,op'] [b,c]=false:=by with_unfolding_all rfl):PE X (.Compare a [op,op'] [b,c] pos) (tChain r r' ta tb tc):=by
 intro pins s σ H Q I h
 refine Compare_chain (thn (ha pins s σ H _ I h) fun v s1 ⟨x,H1,I1,r1,q1⟩=>chain_link (thn (hb pins s1 σ H1 _ I1 q1) fun u s2 ⟨y,H2,I2,r2,q2⟩=>
  thn (ho pins s2 σ H2 x y v u _ I2 r1 r2 q2) fun d s3 ⟨z,H3,I3,r3,k,e,q3⟩=> ?_)) hm
 subst e
 cases r3
 refine Hu ?_
 cases k with
 |false=>exact ite_ff ⟨.bl false,H3,I3,rfl,q3⟩
 |true=>exact ite_tt (chain_last (thn (hc pins s3 σ H3 _ I3 q3) fun w' s4 ⟨z',H4,I4,r4,q4⟩=>ho' pins s4 σ H4 y z' u w' Q I4 r2 r4 q4))
theorem pt_chain{op op':CmpOp}{r r':R2}(ho:OpR X (compareOp op) r)(ho':OpR X (compareOp op') r')(ha:PE X a ta)(hb:PE X b tb)(hc:PE X c tc)(hm:lastMarks [op,op'] [b,c]=false:=by with_unfolding_all rfl):PT X (.Compare a [op,op'] [b,c] pos) (tTest (tChain r r' ta tb tc)):=by
 intro pins s σ H Q I h
 refine isTrue_chain (thn (ha pins s σ H _ I h) fun v s1 ⟨x,H1,I1,r1,q1⟩=>test_link (thn (hb pins s1 σ H1 _ I1 q1) fun u s2 ⟨y,H2,I2,r2,q2⟩=>
  thn (ho pins s2 σ H2 x y v u _ I2 r1 r2 q2) fun d s3 ⟨z,H3,I3,r3,k,e,q3⟩=> ?_)) hm
 subst e
 cases r3
 refine Hu ?_
 cases k with
 |false=>
  obtain⟨k',e',q'⟩:=q3
  cases e'
  exact ite_ff ⟨H3,I3,q'⟩
 |true=>
  refine ite_tt (test_last (thn (hc pins s3 σ H3 _ I3 q3) fun w' s4 ⟨z',H4,I4,r4,q4⟩=>thn (ho' pins s4 σ H4 y z' u w' _ I4 r2 r4 q4) fun d' s5 ⟨z2,H5,I5,r5,k2,e2,q5⟩=> ?_))
  subst e2
  cases r5
  exact Hu ⟨H5,I5,q5⟩
def TruV(K:W.Frag)(x:V)(H:Hp)(k:Bool):Prop:=
 match x with
 | .non=>k=false
 | .bl b=>k=b
 | .int i=>k=(i !=0)
 | .str y=>y.length<=sizeLine/\k=((y.length:Int) !=0)
 | .byt y=>y.size<=sizeLine/\k=((y.size:Int) !=0)
 | .ref p=>(∃xs,SqL K H p xs/\k= !xs.isEmpty)\/(∃xs,SqT K H p xs/\k= !xs.isEmpty)\/∃kvs,H p=some (.dK kvs)/\k= !kvs.isEmpty
 |_=>False
theorem isEmpty_kv{κ:Type}{kvs:List (κ×V)}{vs:List (κ×Value)}(r:KV kvs vs):(!vs.isEmpty)= !kvs.isEmpty:=by
 cases r<;>rfl
theorem isEmpty_of{xs:List V}{its:List Value}(r:Vals xs its):(!its.toArray.isEmpty)= !xs.isEmpty:=by
 cases r<;>simp
theorem line63:(sizeLine:Nat)<2^63:=by rw[dO];decide
theorem tru_ok:TruR X (fun x H Q=>∃k,TruV X.K x H k/\Q k H):=by
 intro pins s σ H x v Q I rx h
 obtain⟨k,e,q⟩:=h
 have hl:=line63
 have hs:sizeLine=16777216:=dO
 cases x with
 |non=>
  cases rx
  have e':k=false:=e
  subst e'
  exact truthy_none ⟨H,I,q⟩
 |bl b=>
  cases rx
  have e':k=b:=e
  subst e'
  exact Hu ⟨H,I,q⟩
 |int i=>
  obtain⟨t,rfl⟩:=rx
  have e':k=(i !=0):=e
  subst e'
  exact PySem.P.truthy_int ⟨H,I,q⟩
 |str y=>
  obtain⟨t,rfl⟩:=rx
  obtain⟨hy,e'⟩:y.length<=sizeLine/\k=((y.length:Int) !=0):=e
  subst e'
  exact PySem.P.truthy_str (by omega) ⟨H,I.tok _,q⟩
 |byt y=>
  obtain⟨t,rfl⟩:=rx
  obtain⟨hy,e'⟩:y.size<=sizeLine/\k=((y.size:Int) !=0):=e
  subst e'
  exact PySem.W.truthy_bytes (by omega) ⟨H,I.tok _,q⟩
 |ref p=>
  cases rx
  have e':(∃xs,SqL X.K H p xs/\k= !xs.isEmpty)\/(∃xs,SqT X.K H p xs/\k= !xs.isEmpty)\/∃kvs,H p=some (.dK kvs)/\k= !kvs.isEmpty:=e
  rcases e' with⟨xs,hx,e'⟩|⟨xs,hx,e'⟩|⟨kvs,hx,e'⟩
  ·subst e'
   obtain⟨its,r,pl,hz⟩:=I.list hx
   have hlen:=r.length
   exact wpAny_truthy_list pl.isList (by simp only[gw];omega) ⟨H,I.tok _,by rw[isEmpty_of r];exact q⟩
  ·subst e'
   obtain⟨its,r,pl,hz⟩:=I.tuple hx
   have hlen:=r.length
   exact truthy_tuple pl (by simp only[gw];omega) ⟨H,I.tok _,by rw[isEmpty_of r];exact q⟩
  ·subst e'
   obtain⟨hz,hS,vs,r,m⟩:kvs.length<=sizeLine/\(p==sysModules)=false/\∃vs,KV kvs vs/\s.heap.DictOf (mixKind X.prog X.w) p vs:=I.hok p _ hx
   have hlen:kvs.length=vs.length:=Paired.length r
   exact wpAny_truthy_dict hS m (by omega) ⟨H,I.tok _,by rw[isEmpty_kv r];exact q⟩
 |_=>exact(show False from e).elim
theorem pt_truth(ha:PE X a ta)(he:∀whole,isTrue a X.env whole=(do let v<-whole;standAt a.pos;holding [v] (truthy v))):
  PT X a (fun σ H Q=>ta σ H fun x H'=>∃k,TruV X.K x H' k/\Q k H'):=by
 intro pins s σ H Q I h
 exact isTrue_plain (thn (ha pins s σ H _ I h) fun v s1 ⟨x,H1,I1,r1,q1⟩=>tru_ok pins s1 σ H1 x v Q I1 r1 q1) (he _)
theorem vals1{x:V}{us:List Value}(r:Vals [x] us):∃u,us=[u]/\RelV x u:=by
 cases r with
 |cons r1 r2=>cases r2;exact⟨_,rfl,r1⟩
theorem vals2{x y:V}{us:List Value}(r:Vals [x,y] us):∃u w',us=[u,w']/\RelV x u/\RelV y w':=by
 cases r with
 |cons r1 r2=>
  cases r2 with
  |cons r3 r4=>cases r4;exact⟨_,_,rfl,r1,r3⟩
theorem call_abs:CallR X (.builtin "abs") (fun xs H Q=>∃i,xs=[.int i]/\Q (.int (if i<0 then -i else i)) H):=by
 intro pins s σ H xs us Q I r h
 obtain⟨i,rfl,q⟩:=h
 obtain⟨u,rfl,t,rfl⟩:=vals1 r
 exact call_abs_int fun u tk=>⟨.int (if i<0 then -i else i),H,I.tok _,⟨_,rfl⟩,q⟩
theorem call_max2(hc:X.calm=true):CallR X (.builtin "max") (fun xs H Q=>∃i j,xs=[.int i,.int j]/\Q (.int (if j>i then j else i)) H):=by
 intro pins s σ H xs us Q I r h
 obtain⟨i,j,rfl,q⟩:=h
 obtain⟨u,w',rfl,⟨t,rfl⟩,⟨t',rfl⟩⟩:=vals2 r
 refine max_two_ints (I.ok.hd hc) fun h' tk k=>⟨_,H,I.kept k,?_,q⟩
 by_cases hj:j>i
 ·rw[aA hj,aA hj];exact⟨_,rfl⟩
 ·rw[ao hj,ao hj];exact⟨_,rfl⟩
theorem call_min2(hc:X.calm=true):CallR X (.builtin "min") (fun xs H Q=>∃i j,xs=[.int i,.int j]/\Q (.int (if j<i then j else i)) H):=by
 intro pins s σ H xs us Q I r h
 obtain⟨i,j,rfl,q⟩:=h
 obtain⟨u,w',rfl,⟨t,rfl⟩,⟨t',rfl⟩⟩:=vals2 r
 refine min_two_ints (I.ok.hd hc) fun h' tk k=>⟨_,H,I.kept k,?_,q⟩
 by_cases hj:j<i
 ·rw[aA hj,aA hj];exact⟨_,rfl⟩
 ·rw[ao hj,ao hj];exact⟨_,rfl⟩
end
structure ObjM(h:Heap)(x dx C:Addr)(mA:Str->Option Value):Prop where
 obj:h.get? x=some (PySem.W.instObj C dx)
 ns:h.Ns1 dx mA
 ne:dx≠x
theorem lookIn_ns{h:Heap}{dx:Addr}{mA:Str->Option Value}(n:h.Ns1 dx mA):∃od,h.get? dx=some od/\∀name,PySem.W.lookIn name od=some (mA name):=by
 obtain⟨o,es,ep,ho,hd,hk,_,hm⟩:=n
 refine⟨o,ho,fun name=> ?_⟩
 have e:=hm name
 unfold nsFind findBy at e
 rw[<-Array.find?_toList]at e
 unfold PySem.W.lookIn
 rw[hd]
 dsimp only
 split
 ·rename_i y q
  rw[q]at e
  exact iW some e
 ·rename_i q
  rw[q]at e
  have a:es.toList.any (·.refKey)=false:=by
   rw[UW]
   intro y hy
   obtain⟨z,t,hkey⟩:=hk y (Array.mem_toList_iff.mp hy)
   simp[DictEntry.refKey,hkey]
  have a':¬es.toList.any (·.refKey)=true:=by rw[a];exact sW
  rw[ao a']
  exact iW some e
theorem ObjM.look{h:Heap}{x dx C:Addr}{mA:Str->Option Value}(I:ObjM h x dx C mA):∃od,PySem.W.InstAt h x (PySem.W.instObj C dx) C (some od)/\∀name,PySem.W.lookIn name od=some (mA name):=
 let⟨od,ho,hl⟩:=lookIn_ns I.ns
 ⟨od,⟨I.obj,rfl,rfl,ho⟩,hl⟩
section
variable{prog:Program}{w:World}{A:Around}{E:Value->Shared->Prop}{s:Shared}{K:W.Frag}{x dx C f:Addr}{mA:Str->Option Value}{name:Str}{v:Value}
theorem get_map{expr:Bool}{Q:Value->Shared->Prop}(X:K.In s.heap)(I:ObjM s.heap x dx C mA)(hg:PySem.W.plainGet K C name=true)(hh:PySem.W.hasDictIn K C=true)(ha:PySem.W.findIn K (.ref C) name=some none)(hv:mA name=some v)(hv':PySem.W.handedIn v=true)(h:Q v {s with toks:=s.toks+1}):
  wpAny (model prog w) A (getAttr (.ref x) name expr) Q E s:=by
 obtain⟨od,J,hl⟩:=I.look
 exact PySem.W.get_value X J (wcs hg).1 (PySem.W.findObj_own hh ha rfl (by rw[hl,hv])) hv' h
theorem get_meth{pl:Sem Bool}{Q:Value×List Value->Shared->Prop}(X:K.In s.heap)(I:ObjM s.heap x dx C mA)(hg:PySem.W.plainGet K C name=true)(hf:PySem.W.findIn K (.ref C) name=some (some (.ref f)))(ht:PySem.W.isFn K (.ref f)=true)(hv:mA name=none)(h:Q (.ref f,[.ref x]) s):
  wpAny (model prog w) A (getMethod (.ref x) name pl) Q E s:=by
 obtain⟨od,J,hl⟩:=I.look
 exact PySem.W.method_fn X J (wcs hg).1 (wcs hg).2 hf (beq_iff_eq.mp ht) (by show(PySem.W.lookIn name od).map (·.isSome)=some false;rw[hl,hv];rfl) h
theorem set_map{ns:List Str}{Q:Unit->Shared->Prop}(X:K.In s.heap)(I:ObjM s.heap x dx C mA)(hs:PySem.W.findIn K (.ref C) "__setattr__"=some (some (.builtin "object.__setattr__")))(hp:PySem.W.plainOver K C=true)(ht:PySem.W.takerIn K C name=some none)(hh:PySem.W.hasDictIn K C=true)(hw:PySem.Within mA ns)(hsz:ns.length<=sizeLine)(h:∀h',ObjM h' x dx C (fun y=>if y=name then some v else mA y)->Heap.SameBut dx s.heap h'->Q () {s with heap:=h',toks:=s.toks+2}):
  wpAny (model prog w) A (setAttr (.ref x) name v) Q E s:=by
 obtain⟨od,J,hl⟩:=I.look
 refine PySem.W.set_plain X J hs (PySem.W.osa_open (s:={s with toks:=s.toks+1}) (r:=none) X J hp ht fun b=> ?_)
 obtain⟨cd,hc,hd'⟩:=PySem.W.any_some hh
 have hx:s.heap.get? x=some ⟨.ref C,some dx,.plain,#[]⟩:=I.obj
 refine bO (gR (bO (bO (wpAny_loadPart hx (bO (PySem.W.Looks.here (s:={s with toks:=s.toks+1}) (PySem.W.looks_clsIn X hc) ?_))))))
 rw[hd']
 refine gR (a:=some dx) (bO (gR (bO ?_)))
 refine wpAny_nsSet1 (s:={s with toks:=s.toks+1}) I.ns fun h' hn2 hs2=> ?_
 obtain⟨oD,esD,epD,hoD,hdD,hcD⟩:=hn2.count (PySem.Within.cons name v hw)
 refine bO (wpAny_lookBehind hoD (by rw[hdD];exact pastItsLine_dict (dW hcD (by rw[wK];omega))) ?_)
 exact gR (h _ ⟨(hs2.2 _ (lE I.ne)).trans I.obj,hn2,I.ne⟩ hs2)
theorem make_map{R:Result->Shared->Prop}{vs:List Value}{kw:List (Str×Value)}(X:K.In s.heap)(hm:PySem.W.makesIn K C=true)(hi:PySem.W.findIn K (.ref C) "__init__"=some (some (.ref f)))(hf:PySem.W.typeIn K (.ref f)=some (.type "function"))(h:codeAny (model prog w) (A.under (.builtin "type.__call__" ⟨.ref C::vs,kw⟩)) (.call (.ref f) ⟨.ref (s.heap.objs.size+1)::vs,kw⟩) (PySem.W.InitBack (s.heap.objs.size+1) R)
   {s with heap:=(s.heap.push PySem.W.emptyDict).push (PySem.W.instObj C s.heap.objs.size)}):
  codeAny (model prog w) A (.call (.ref C) ⟨vs,kw⟩) R s:=by
 obtain⟨hh,g,d,t,os⟩:=s
 exact PySem.W.make_core (PySem.W.makes_of X hm) (PySem.W.looks_findIn X hi) (fun self=>PySem.W.bind_fn X self hf) (.inl rfl) h
end
def putF(f:Str)(v:V):List (Str×V)->List (Str×V)
 |[]=>[(f,v)]
 |(g,x)::r=>if g=f then(g,v)::r else(g,x)::putF f v r
theorem lookup_putF(f g:Str)(v:V):∀fs:List (Str×V),(putF f v fs).lookup g=if g=f then some v else fs.lookup g
 |[]=>by
  show List.lookup g [(f,v)]=_
  by_cases h:g=f
  ·have hb:(g==f)=true:=beq_iff_eq.mpr h
   simp only[List.lookup,hb,aA h]
  ·have hb:(g==f)=false:=beq_eq_false_iff_ne.mpr h
   simp only[List.lookup,hb,ao h]
 |(k,x)::r=>by
  have ih:=lookup_putF f g v r
  rw[show putF f v ((k,x)::r)=(if k=f then(k,v)::r else(k,x)::putF f v r)from rfl]
  by_cases hk:k=f
  ·rw[aA hk]
   by_cases h:g=k
   ·have hb:(g==k)=true:=beq_iff_eq.mpr h
    simp only[List.lookup,hb,aA (h.trans hk)]
   ·have hb:(g==k)=false:=beq_eq_false_iff_ne.mpr h
    simp only[List.lookup,hb,ao (fun e:g=f=>h (e.trans hk.symm))]
  ·rw[ao hk]
   by_cases h:g=k
   ·have hb:(g==k)=true:=beq_iff_eq.mpr h
    simp only[List.lookup,hb,ao (fun e:g=f=>hk (h.symm.trans e))]
   ·have hb:(g==k)=false:=beq_eq_false_iff_ne.mpr h
    simp only[List.lookup,hb]
    exact ih
theorem keys_putF(f:Str)(v:V):∀fs:List (Str×V),f∈(putF f v fs).map (·.1)/\∀g,g∈fs.map (·.1)->g∈(putF f v fs).map (·.1)
 |[]=>⟨by simp[putF],fun g h=>by simp at h⟩
 |(k,x)::r=>by
  obtain⟨i1,i2⟩:=keys_putF f v r
  rw[show putF f v ((k,x)::r)=(if k=f then(k,v)::r else(k,x)::putF f v r)from rfl]
  by_cases hk:k=f
  ·rw[aA hk]
   subst hk
   exact⟨by simp,fun g h=>by simpa using h⟩
  ·rw[ao hk]
   refine⟨?_,fun g h=> ?_⟩
   ·rw[LK]
    exact iZ _ i1
   ·rw[LK]at h⊢
    rcases eN.mp h with e|e
    ·exact eN.mpr (.inl e)
    ·exact iZ _ (i2 g e)
theorem length_putF(f:Str)(v:V):∀fs:List (Str×V),(putF f v fs).length<=fs.length+1
 |[]=>by simp[putF]
 |(k,x)::r=>by
  have ih:=length_putF f v r
  rw[show putF f v ((k,x)::r)=(if k=f then(k,v)::r else(k,x)::putF f v r)from rfl]
  by_cases hk:k=f
  ·rw[aA hk,wK,wK];omega
  ·rw[ao hk,wK,wK];omega
theorem RelO.some_of{v:V}{o:Option Value}(r:RelO (some v) o):∃u,o=some u/\RelV v u:=by
 cases o with
 |none=>exact(show False from r).elim
 |some u=>exact⟨u,rfl,r⟩
theorem RelO.none_of{o:Option Value}(r:RelO none o):o=none:=by
 cases o with
 |none=>rfl
 |some u=>exact(show False from r).elim
theorem handed_of{v:V}{u:Value}(r:RelV v u):PySem.W.handedIn u=true:=by
 cases v with
 |non=>cases(show u=Value.none from r);rfl
 |bl b=>cases(show u=Value.bool b from r);rfl
 |int i=>obtain⟨t,e⟩:=(show∃t,u=Value.int i t from r);cases e;rfl
 |str x=>obtain⟨t,e⟩:=(show∃t,u=Value.str x t from r);cases e;rfl
 |byt b=>obtain⟨t,e⟩:=(show∃t,u=Value.bytes b t from r);cases e;rfl
 |flt b=>obtain⟨t,e⟩:=(show∃t,u=Value.float b t from r);cases e;rfl
 |ref a=>cases(show u=Value.ref a from r);rfl
 |ty n=>cases(show u=Value.type n from r);rfl
section
variable{P:Program}{w:World}{H H':Hp}{h h':Heap}{a C dx:Addr}{fs fs':List (Str×V)}
theorem ins_get(hok:HOk P w H h)(e:H a=some (.ins C dx fs)):∃mA,ObjM h a dx C mA/\(∀f,RelO (fs.lookup f) (mA f))/\PySem.Within mA (fs.map (·.1))/\fs.length<=1000/\H dx=some (.own a):=by
 obtain⟨d,z,ne,ob,mA,n,r,q⟩:=(show ObjOk P w H h a (.ins C dx fs)from hok a _ e)
 exact⟨mA,⟨ob,n,ne⟩,r,q,z,d⟩
end
structure Cls(K:W.Frag)(C:Addr):Prop where
 pg:PySem.W.plainGet K C Str.empty=true
 hd:PySem.W.hasDictIn K C=true
 po:PySem.W.plainOver K C=true
 sa:PySem.W.findIn K (.ref C) "__setattr__"=some (some (.builtin "object.__setattr__"))
theorem Cls.get{K:W.Frag}{C:Addr}(c:Cls K C)(f:Str):PySem.W.plainGet K C f=true:=c.pg
def NoAttr(K:W.Frag)(C:Addr)(f:Str):Prop:=PySem.W.findIn K (.ref C) f=some none
theorem NoAttr.taker{K:W.Frag}{C:Addr}{f:Str}(n:NoAttr K C f):PySem.W.takerIn K C f=some none:=by
 unfold PySem.W.takerIn
 rw[show PySem.W.findIn K (.ref C) f=some none from n]
 rfl
structure Meth(K:W.Frag)(C:Addr)(m:Str)(f:Addr):Prop where
 at_:PySem.W.findIn K (.ref C) m=some (some (.ref f))
 fn:PySem.W.isFn K (.ref f)=true
 kp:PySem.W.keepIn K (.ref f)=true
section
variable{X:Cx}{pins:List (Addr×Obj)}{σ:St}{H:Hp}{s:Shared}{a C dx:Addr}{fs:List (Str×V)}{f:Str}{v:V}{A:Around}{E:Value->Shared->Prop}
theorem getattr_ok{b:Bool}{Q:Value->Shared->Prop}(I:Inv X pins σ H s)(e:H a=some (.ins C dx fs))(c:Cls X.K C)(n:NoAttr X.K C f)(l:fs.lookup f=some v)(h:∀u s',Inv X pins σ H s'->RelV v u->Q u s'):wpAny (model X.prog X.w) A (getAttr (.ref a) f b) Q E s:=by
 obtain⟨mA,O,r,_,_,_⟩:=ins_get I.hok e
 obtain⟨u,hu,ru⟩:=RelO.some_of (v:=v) (o:=mA f) (by rw[<-l];exact r f)
 exact get_map I.kIn O (c.get f) c.hd n hu (handed_of ru) (h u _ (I.tok _) ru)
theorem getmeth_ok{m:Str}{g:Addr}{pl:Sem Bool}{Q:Value×List Value->Shared->Prop}(I:Inv X pins σ H s)(e:H a=some (.ins C dx fs))(c:Cls X.K C)(k:Meth X.K C m g)(l:fs.lookup m=none)(h:Q (.ref g,[.ref a]) s):wpAny (model X.prog X.w) A (getMethod (.ref a) m pl) Q E s:=by
 obtain⟨mA,O,r,_,_,_⟩:=ins_get I.hok e
 have hn:mA m=none:=RelO.none_of (by rw[<-l];exact r m)
 exact get_meth I.kIn O (c.get m) k.at_ k.fn hn h
theorem setattr_ok{y:V}{u:Value}{Q:Unit->Shared->Prop}(I:Inv X pins σ H s)(e:H a=some (.ins C dx fs))(c:Cls X.K C)(n:NoAttr X.K C f)(hl:fs.length<1000)(ry:RelV y u)(h:∀s',Inv X pins σ (upd H a (.ins C dx (putF f y fs))) s'->Q () s'):wpAny (model X.prog X.w) A (setAttr (.ref a) f u) Q E s:=by
 obtain⟨mA,O,r,wi,_,ho⟩:=ins_get I.hok e
 have hz:(fs.map (·.1)).length<=sizeLine:=by rw[aM,dO];omega
 refine set_map I.kIn O c.sa c.po n.taker c.hd wi hz fun h' O' sb=>h _ ?_
 have hd:∃o,h'.get? dx=some o:=let⟨o,_,_,e',_⟩:=O'.ns;⟨o,e'⟩
 refine I.write (x:=a) (e:=dx) (by rw[e];exact True.intro) (.inr ho) (fun b q hb z=>(sb.2 b hb).trans z) hd ?_
 refine⟨by rw[cL O.ne];exact ho,?_,O.ne,O'.obj,_,O'.ns,fun g=> ?_,fun g hg=> ?_⟩
 ·have:=length_putF f y fs;omega
 ·show RelO ((putF f y fs).lookup g) (if g=f then some u else mA g)
  rw[lookup_putF]
  by_cases q:g=f
  ·rw[aA q,aA q];exact ry
  ·rw[ao q,ao q];exact r g
 ·by_cases q:g=f
  ·rw[q];exact(keys_putF f y fs).1
  ·refine(keys_putF f y fs).2 g (wi g fun z=>hg ?_)
   show(if g=f then some u else mA g)=none
   rw[ao q];exact z
theorem Inv.made(I:Inv X pins σ H s):Inv X pins σ (upd (upd H s.heap.objs.size (.own (s.heap.objs.size+1))) (s.heap.objs.size+1) (.ins C s.heap.objs.size []))
  {s with heap:=(s.heap.push PySem.W.emptyDict).push (PySem.W.instObj C s.heap.objs.size)}:=by
 have e1:(s.heap.push PySem.W.emptyDict).get? s.heap.objs.size=some PySem.W.emptyDict:=wj s.heap rfl
 have e2:((s.heap.push PySem.W.emptyDict).push (PySem.W.instObj C s.heap.objs.size)).get? (s.heap.objs.size+1)=some (PySem.W.instObj C s.heap.objs.size):=by
  have:=wj (s.heap.push PySem.W.emptyDict) (o:=PySem.W.instObj C s.heap.objs.size) rfl
  rwa [QD]at this
 have e3:(s.heap.push PySem.W.emptyDict).Ns s.heap.objs.size (fun _=>none):=⟨PySem.W.emptyDict,#[],_,e1,rfl,(fun e he=>absurd he (by simp)),fun _=>rfl⟩
 have I1:=I.laid (a:=s.heap.objs.size) (o:= .own (s.heap.objs.size+1)) (h':=s.heap.push PySem.W.emptyDict) (t':=s.toks) (fun b u q=>jy _ q) (aU _) ⟨_,e1⟩
 refine I1.laid (a:=s.heap.objs.size+1) (o:= .ins C s.heap.objs.size []) (t':=s.toks) (fun b u q=>jy _ q) (Cg (QD _ _)) ?_
 have ne:s.heap.objs.size≠s.heap.objs.size+1:=iK (qj _)
 refine⟨by rw[cL ne,aH],cY _,ne,e2,fun _=>none,(Heap.Ns1.of_empty e3).at fun o q=>jy _ q,fun _=>True.intro,fun y hy=>absurd rfl hy⟩
theorem attr_of{prog:Program}{w:World}{env:Env}{e:Expr}{f:Str}{pos:Pos}{s:Shared}{Q:Value->Shared->Prop}(hb:attributeBase e f env (eval e env)=eval e env)(h:wpAny (model prog w) A (eval e env) (fun o s₁=>wpAny (model prog w) A (getAttr o f true) Q E s₁) E s):wpAny (model prog w) A (eval (.Attribute e f pos) env) Q E s:=
 Attribute_any_ h (by rw[arm_eval_Attribute,hb])
end
def tFld(K:W.Frag)(ta:TE)(f:Str):TE:=fun σ H Q=>ta σ H fun x H1=>∃a C dx fs v,x= .ref a/\H1 a=some (.ins C dx fs)/\Cls K C/\NoAttr K C f/\fs.lookup f=some v/\Q v H1
def sFld(K:W.Frag)(ta tv:TE)(f:Str):TS:=fun D σ H=>tv σ H fun y H1=>ta σ H1 fun x H2=>∃a C dx fs,x= .ref a/\H2 a=some (.ins C dx fs)/\Cls K C/\NoAttr K C f/\fs.length<1000/\
 D.nx σ (upd H2 a (.ins C dx (putF f y fs)))
section
variable{X:Cx}{o e value:Expr}{f:Str}{pos pos' tpos:Pos}{ta tv:TE}
theorem m7(he:PE X e ta)(hb:attributeBase e f X.env (eval e X.env)=eval e X.env):PE X (.Attribute e f pos) (tFld X.K ta f):=by
 intro pins s σ H Q I h
 refine attr_of hb (thn (he pins s σ H _ I h) fun u s1 ⟨x,H1,I1,rx,a,C,dx,fs,v,ex,ea,c,n,l,q⟩=> ?_)
 subst ex
 obtain rfl:u=Value.ref a:=rx
 exact getattr_ok I1 ea c n l fun u' s2 I2 ru=>⟨v,H1,I2,ru,q⟩
theorem ps_fld(ha:PE X o ta)(hv:PE X value tv)(hs:swapsWith value (some (.Attribute o f pos')) pos.line X.env=pure false):PS X (.Assign [.Attribute o f pos'] value pos) (sFld X.K ta tv f):=by
 intro pins s σ H D I h
 refine plainObj_wpAny_Assign_Attribute (thn (hv pins s σ H _ I h) fun u s1 ⟨y,H1,I1,ry,q⟩=>thn (ha pins s1 σ H1 _ I1 q) fun ov s2 ⟨x,H2,I2,rx,a,C,dx,fs,ex,ea,c,n,l,q2⟩=> ?_) hs
 subst ex
 obtain rfl:ov=Value.ref a:=rx
 exact setattr_ok I2 ea c n l ry fun s3 I3=>⟨σ,_,I3,q2⟩
end
section
variable{X:Cx}{pins:List (Addr×Obj)}{σ:St}{H:Hp}{s:Shared}{A:Around}{E:Value->Shared->Prop}{Q:Value->Shared->Prop}{c:Value}{b:Bool}
end
structure Room(k:Nat)(A:Around):Prop where
 hd:A.handled=none
 dp:A.depth+3*k+5<recursionLimit
 un:A.units+16*k+200<cLine
 gd:A.guards=some []
theorem Room.mono{j k:Nat}{A:Around}(r:Room k A)(h:j<=k):Room j A:=⟨r.hd,by have:=r.dp;omega,by have:=r.un;omega,r.gd⟩
theorem Room.deeper{k:Nat}{A:Around}(r:Room (k+1) A)(env:Env):Room k (A.deeper env):=
 ⟨r.hd,by have:=r.dp;show A.depth+1+3*k+5<_;omega,by have:=r.un;show A.units+3+16*k+200<_;omega,r.gd⟩
theorem make_depth{A:Around}{C:Addr}{us:List Value}{kw:List (Str×Value)}:(A.under (.builtin "type.__call__" ⟨.ref C::us,kw⟩)).depth=A.depth+1:=by
 first |rfl|simp[Around.under,Code.weight,Code.isCreation,Code.isGuard,Code.isCaller,Code.frames,Code.isFrame,guardIds]
theorem make_units{A:Around}{C:Addr}{us:List Value}{kw:List (Str×Value)}:(A.under (.builtin "type.__call__" ⟨.ref C::us,kw⟩)).units=A.units+1:=by
 first |rfl|simp[Around.under,Code.cUnits,Code.frames,Code.isFrame]
theorem Room.make{k:Nat}{A:Around}(r:Room (k+1) A)(C:Addr)(us:List Value)(kw:List (Str×Value)):Room k (A.under (.builtin "type.__call__" ⟨.ref C::us,kw⟩)):=
 ⟨r.hd,by have:=r.dp;rw[make_depth];omega,by have:=r.un;rw[make_units];omega,by
  have q:=r.gd
  first |exact q|(simp[Around.under,Code.isGuard,guardIds];exact q)|(unfold Around.under;simp[Code.isGuard,guardIds,q])⟩
theorem Room.depth{k:Nat}{A:Around}(r:Room k A):A.depth<recursionLimit:=by have:=r.dp;omega
theorem Room.units{k:Nat}{A:Around}(r:Room k A):A.units+64<cLine:=by have:=r.un;omega
theorem Room.units0{k:Nat}{A:Around}(r:Room k A):A.units<cLine:=by have:=r.un;omega
def tNil:TA:=fun _ H Q=>Q [] H
def tCons(ta:TE)(tr:TA):TA:=fun σ H Q=>ta σ H fun x H1=>tr σ H1 fun xs H2=>Q (x::xs) H2
section
variable{X:Cx}{e:Expr}{es:List Expr}{te:TE}{t:TA}{pos:Pos}
theorem aq:PA X [] tNil:=fun _ _ _ _ H Q I h=>YC ⟨[],H,I,.nil,h⟩
theorem aj(ha:PE X e te)(hr:PA X es t)(hs:starEach (e::es) X.env=(false,eval e X.env)::starEach es X.env:=by rfl):PA X (e::es) (tCons te t):=by
 intro pos pins s σ H Q I h
 rw[hs]
 show wpAny _ _ (spliced ((false,eval e X.env)::backTo pos (starEach es X.env))) _ _ s
 refine YD (thn (ha pins s σ H _ I h) fun u s1 ⟨x,H1,I1,r1,q1⟩=> ?_)
 exact thn (hr pos pins s1 σ H1 _ I1 q1) fun us s2 ⟨xs,H2,I2,r2,q2⟩=>⟨x::xs,H2,I2,.cons r1 r2,q2⟩
def tTup(t:TA):TE:=fun σ H Q=>t σ H fun xs H1=>xs.length<=sizeLine/\∀p,H1 p=none->Q (.ref p) (upd H1 p (.tup xs))
def tLst(t:TA):TE:=fun σ H Q=>t σ H fun xs H1=>xs.length<=sizeLine/\∀p,H1 p=none->Q (.ref p) (upd H1 p (.lst xs))
theorem gP{x1}(h:PA X es t):PE X (.Tuple es x1 pos) (tTup t):=by
 intro pins s σ H Q I hq
 refine wpAny_Tuple_spliced (thn (h pos pins s σ H _ I hq) fun us s1 ⟨xs,H1,I1,r,z,q⟩=>⟨by rw[<-r.length];exact z,?_⟩)
 have hf:H1 s1.heap.objs.size=none:=I1.hok.fresh (aU _)
 refine⟨.ref s1.heap.objs.size,upd H1 s1.heap.objs.size (.tup xs),I1.laid (t':=s1.toks) (fun b u e=>jy _ e) (aU _) ?_,rfl,q _ hf⟩
 exact⟨z,us,r,⟨_,wj _ rfl,rfl,_,rfl⟩⟩
theorem wD(h:PA X es t):PE X (.List es pos) (tLst t):=by
 intro pins s σ H Q I hq
 refine wpAny_List_spliced (thn (h pos pins s σ H _ I hq) fun us s1 ⟨xs,H1,I1,r,z,q⟩=>⟨by rw[<-r.length];exact z,?_⟩)
 have hf:H1 s1.heap.objs.size=none:=I1.hok.fresh (aU _)
 refine⟨.ref s1.heap.objs.size,upd H1 s1.heap.objs.size (.lst xs),I1.laid (t':=s1.toks) (fun b u e=>jy _ e) (aU _) ?_,rfl,q _ hf⟩
 exact⟨z,us,0,r,wj _ rfl⟩
end
abbrev Sp:=List V->Hp->VK->XK->Prop
abbrev CXT:=List Env->Hp->Shared->XK->Value->Shared->Prop
structure Env0(P:Program)(w:World)(K:W.Frag)(mg:Str->Option Value)(base:Heap)(A:Around)(outer:List Env)(s:Shared)(H:Hp):Prop where
 frames:A.frames=some outer
 mod:Mod K mg base
 bs:∀b o,base.get? b=some o->s.heap.get? b=some o/\H b=none
 bsz:base.objs.size<=s.heap.objs.size
 funs:s.heap.FunFrames base outer
 frf:∀b∈frs outer,H b=none
 hok:HOk P w H s.heap
 bare:AllBare s.gens
def CE(outer:List Env)(P:Program)(w:World)(H:Hp)(s:Shared)(Q:VK)(u:Value)(s':Shared):Prop:=
 ∃v H',s'.os=s.os/\AllBare s'.gens/\Un (frs outer) [] H H' s.heap s'.heap/\HOk P w H' s'.heap/\RelV v u/\Q v H'
def CR(CX:CXT)(outer:List Env)(P:Program)(w:World)(H:Hp)(s:Shared)(Q:VK)(E:XK)(r:Result)(s':Shared):Prop:=
 match r with
 | .ok (.ret u)=>CE outer P w H s Q u s'
 | .ok _=>False
 | .error e=>CX outer H s E e s'
structure FnOk(P:Program)(w:World)(K:W.Frag)(mg:Str->Option Value)(base:Heap)(CX:CXT)(k:Nat)(f:Addr)(fd:FuncData)(ps:List Str)(sp:Sp):Prop where
 len:∀vs H Q E,sp vs H Q E->vs.length=ps.length
 run:∀(A:Around) (outer:List Env) (s:Shared) (H:Hp) (args:Args) (us:List Value) (vs:List V) (Q:VK) (E:XK),Room k A->Env0 P w K mg base A outer s H->BindsTo s fd args (ps.zip us)->Vals vs us->sp vs H Q E->
  codeAny (model P w) A (.call (.ref f) args) (CR CX outer P w H s Q E) s
theorem FnOk.mono{P:Program}{w:World}{K:W.Frag}{mg:Str->Option Value}{base:Heap}{CX:CXT}{j k:Nat}{f:Addr}{fd:FuncData}{ps:List Str}{sp:Sp}(F:FnOk P w K mg base CX j f fd ps sp)(h:j<=k):
  FnOk P w K mg base CX k f fd ps sp:=⟨F.len,fun A outer s H args us vs Q E hr=>F.run A outer s H args us vs Q E (hr.mono h)⟩
theorem Env0.make{P:Program}{w:World}{K:W.Frag}{mg:Str->Option Value}{base:Heap}{A:Around}{outer:List Env}{s:Shared}{H:Hp}(e:Env0 P w K mg base A outer s H)(C:Addr)(us:List Value)(kw:List (Str×Value)):
  Env0 P w K mg base (A.under (.builtin "type.__call__" ⟨.ref C::us,kw⟩)) outer s H:=⟨by first |exact e.frames|(simpa[Around.under,Code.envs,Code.isFrame,pushEnvs]using e.frames),e.mod,e.bs,e.bsz,e.funs,e.frf,e.hok,e.bare⟩
section
variable{X:Cx}{pins:List (Addr×Obj)}{σ:St}{H:Hp}{s s':Shared}
theorem Inv.env0(I:Inv X pins σ H s):Env0 X.prog X.w X.K X.mg X.base X.A X.stack s H:=
 ⟨I.ok.frames,I.ok.mod,I.bs,dW I.ok.bsz I.sz,I.stack,I.stkFree,I.hok,I.bare⟩
theorem Inv.after{Q:VK}{u:Value}(I:Inv X pins σ H s)(h:CE X.stack X.prog X.w H s Q u s'):EP X pins σ Q u s':=by
 obtain⟨v,H',os,bare,un,hok,r,q⟩:=h
 obtain⟨hh,g,d,t,os'⟩:=s'
 obtain rfl:os'=s.os:=os
 exact⟨v,H',I.call (h':=hh) (g':=g) (d':=d) (t':=t) (ch:=[]) un hok bare (fun b z=>absurd z (by simp)),r,q⟩
end
def tCall(sp:Sp)(dvs:List V)(E:XK)(t:TA):TE:=fun σ H Q=>t σ H fun vs H1=>sp (vs++dvs) H1 Q E
def tMeth(C:Addr)(m:Str)(sp:Sp)(dvs:List V)(E:XK)(ta:TE)(t:TA):TE:=fun σ H Q=>ta σ H fun x H1=>∃a dx fs,x= .ref a/\H1 a=some (.ins C dx fs)/\fs.lookup m=none/\
 t σ H1 fun vs H2=>sp (x::(vs++dvs)) H2 Q E
def tMake(C:Addr)(sp:Sp)(dvs:List V)(E:XK)(t:TA):TE:=fun σ H Q=>t σ H fun vs H1=>∀x dx,H1 x=none->H1 dx=none->dx≠x->
 sp (.ref x::(vs++dvs)) (upd (upd H1 dx (.own x)) x (.ins C dx [])) (fun v H2=>v= .non/\Q (.ref x) H2) E
def Binds(K:W.Frag)(fd:FuncData)(ps:List Str)(ds:List Value):Prop:=
 ∀(s:Shared) (us:List Value),K.In s.heap->(us++ds).length=ps.length->BindsTo s fd ⟨us,[]⟩ (ps.zip (us++ds))
theorem Binds.all{K:W.Frag}{fd:FuncData}{ps:List Str}(h:∀us:List Value,us.length=ps.length->bindArgs fd ⟨us,[]⟩=pure (ps.zip us)):Binds K fd ps []:=fun s us _ hl=>by
 rw[Ci]at hl⊢
 exact .of_eq (h us hl)
def Passes(CX:CXT)(X:Cx)(E:XK):Prop:=∀(pins:List (Addr×Obj)) (σ:St) (H:Hp) (s:Shared) (e:Value) (s':Shared),Inv X pins σ H s->CX X.stack H s E e s'->X.xe e s'
section
variable{X:Cx}{CX:CXT}{k:Nat}{f C:Addr}{fd:FuncData}{ps:List Str}{sp:Sp}{dvs:List V}{ds:List Value}{E:XK}{x m:Str}{p pos apos:Pos}{e o:Expr}{es:List Expr}{ta:TE}{t:TA}
theorem run_fn{pins:List (Addr×Obj)}{σ:St}{H:Hp}{s:Shared}{Q:VK}{us:List Value}{vs:List V}(F:FnOk X.prog X.w X.K X.mg X.base CX k f fd ps sp)(hr:Room k X.A)(hb:Binds X.K fd ps ds)(hd:Vals dvs ds)(hx:Passes CX X E)
  (I:Inv X pins σ H s)(r:Vals vs us)(h:sp (vs++dvs) H Q E):wpAny (model X.prog X.w) X.A (call (.ref f) us) (EP X pins σ Q) X.xe s:=by
 have r2:Vals (vs++dvs) (us++ds):=r.append hd
 have hl:(us++ds).length=ps.length:=by rw[<-r2.length];exact F.len _ _ _ _ h
 refine wpAny_call (Vc (F.run X.A X.stack s H ⟨us,[]⟩ (us++ds) (vs++dvs) Q E hr I.env0 (hb s us I.kIn hl) r2 h) fun r s' hq=> ?_)
 cases r with
 |error e=>exact hx pins σ H s e s' I hq
 |ok fl=>
  cases fl with
  |ret u=>exact I.after hq
  |next=>exact False.elim hq
  |brk=>exact False.elim hq
  |cont=>exact False.elim hq
theorem pe_call(F:FnOk X.prog X.w X.K X.mg X.base CX k f fd ps sp)(hr:Room k X.A)(hg:Gl X x)(hm:X.mg x=some (.ref f))(hk:PySem.W.keepIn X.K (.ref f)=true)(hb:Binds X.K fd ps ds)(hd:Vals dvs ds)(hx:Passes CX X E)(ha:PA X (e::es) t)(hdb:(x==("__debug__":Str))=false:=by decide)(he:starEach (e::es) X.env=(false,eval e X.env)::starEach es X.env:=by rfl)(hpl:(backTo pos (starEach es X.env)).any (·.1)=false:=by rfl):
  PE X (.Call (.Name x p) (e::es) [] pos) (tCall sp dvs E t):=by
 intro pins s σ H Q I h
 refine Pq (ld_glob I hg hm ?_ hdb)
 refine ZW (h₀:=X.base) I.ok.mod.kin hk (thn (ha pos pins s σ H _ I h) fun us s1 ⟨vs,H1,I1,r,q⟩=>⟨I1.kIn,?_⟩) he hpl
 exact run_fn F hr hb hd hx I1 r q
theorem pe_meth{pl:Sem Bool}(he:PE X o ta)(c:Cls X.K C)(hm:Meth X.K C m f)(F:FnOk X.prog X.w X.K X.mg X.base CX k f fd ps sp)(hr:Room k X.A)(hb:Binds X.K fd ps ds)(hd:Vals dvs ds)(hx:Passes CX X E)(ha:PA X (e::es) t)(hst:starEach (e::es) X.env=(false,eval e X.env)::starEach es X.env:=by rfl)(hpl:(backTo pos (starEach es X.env)).any (·.1)=false:=by rfl)(ht:eval (.Call (.Attribute o m apos) (e::es) [] pos) X.env=(do
   let ov<-eval o X.env
   standAt apos.atName
   let(f,first)<-holding [ov] (getMethod ov m pl)
   callWith pos f first (backTo pos (starEach (e::es) X.env)) (backToKw pos (keywordEach [] X.env))):=by rfl):
  PE X (.Call (.Attribute o m apos) (e::es) [] pos) (tMeth C m sp dvs E ta t):=by
 intro pins s σ H Q I h
 refine weo (pl:=pl) (thn (he pins s σ H _ I h) fun u s1 ⟨x,H1,I1,rx,a,dx,fs,ex,ea,l,q⟩=> ?_) ht
 subst ex
 obtain rfl:u=Value.ref a:=rx
 refine getmeth_ok I1 ea c hm l ?_
 refine ZW (first:=[.ref a]) (h₀:=X.base) I.ok.mod.kin hm.kp (thn (ha pos pins s1 σ H1 _ I1 q) fun us s2 ⟨vs,H2,I2,r,q2⟩=>⟨I2.kIn,?_⟩) hst hpl
 exact run_fn (us:= .ref a::us) (vs:= .ref a::vs) F hr hb hd hx I2 (.cons rfl r) q2
theorem pe_meth0{pl:Sem Bool}(he:PE X o ta)(c:Cls X.K C)(hm:Meth X.K C m f)(F:FnOk X.prog X.w X.K X.mg X.base CX k f fd ps sp)(hr:Room k X.A)(hb:Binds X.K fd ps ds)(hd:Vals dvs ds)(hx:Passes CX X E)(ht:eval (.Call (.Attribute o m apos) [] [] pos) X.env=(do
   let ov<-eval o X.env
   standAt apos.atName
   let(f,first)<-holding [ov] (getMethod ov m pl)
   callWith pos f first (backTo pos (starEach [] X.env)) (backToKw pos (keywordEach [] X.env))):=by rfl):
  PE X (.Call (.Attribute o m apos) [] [] pos) (tMeth C m sp dvs E ta tNil):=by
 intro pins s σ H Q I h
 refine weo (pl:=pl) (thn (he pins s σ H _ I h) fun u s1 ⟨x,H1,I1,rx,a,dx,fs,ex,ea,l,q⟩=> ?_) ht
 subst ex
 obtain rfl:u=Value.ref a:=rx
 refine getmeth_ok I1 ea c hm l ?_
 exact PySem.W.callWith_K0 (first:=[.ref a]) I1.kIn hm.kp (run_fn (us:=[.ref a]) (vs:=[.ref a]) F hr hb hd hx I1 (.cons rfl .nil) q)
structure Mk(K:W.Frag)(C f:Addr):Prop where
 makes:PySem.W.makesIn K C=true
 init:PySem.W.findIn K (.ref C) "__init__"=some (some (.ref f))
 fn:PySem.W.isFn K (.ref f)=true
 kp:PySem.W.keepIn K (.ref C)=true
theorem run_make{pins:List (Addr×Obj)}{σ:St}{H:Hp}{s:Shared}{Q:VK}{us:List Value}{vs:List V}(M:Mk X.K C f)(F:FnOk X.prog X.w X.K X.mg X.base CX k f fd ps sp)(hr:Room (k+1) X.A)(hb:Binds X.K fd ps ds)(hd:Vals dvs ds)(hx:Passes CX X E)(I:Inv X pins σ H s)(r:Vals vs us)(h:∀x dx,H x=none->H dx=none->dx≠x->sp (.ref x::(vs++dvs)) (upd (upd H dx (.own x)) x (.ins C dx [])) (fun v H2=>v= .non/\Q (.ref x) H2) E):
  wpAny (model X.prog X.w) X.A (call (.ref C) us) (EP X pins σ Q) X.xe s:=by
 have hq:=h (s.heap.objs.size+1) s.heap.objs.size (I.hok.fresh (TV _)) (I.hok.fresh (aU _)) (iK (qj _))
 have I2:=Inv.made (C:=C) I
 have r2:Vals (V.ref (s.heap.objs.size+1)::(vs++dvs)) (Value.ref (s.heap.objs.size+1)::(us++ds)):= .cons rfl (r.append hd)
 have hl:(Value.ref (s.heap.objs.size+1)::us++ds).length=ps.length:=by
  have e:=r2.length
  rw[F.len _ _ _ _ hq]at e
  exact e.symm
 refine wpAny_call (make_map (f:=f) I.kIn M.makes M.init (beq_iff_eq.mp M.fn) (Vc (F.run _ X.stack _ _ ⟨Value.ref (s.heap.objs.size+1)::us,[]⟩ (Value.ref (s.heap.objs.size+1)::(us++ds)) _ _ E (hr.make C us [])
  (I2.env0.make C us []) (hb _ (Value.ref (s.heap.objs.size+1)::us) I2.kIn hl) r2 hq) fun r s' hq'=> ?_))
 cases r with
 |error e=>exact hx pins σ _ _ e s' I2 hq'
 |ok fl=>
  cases fl with
  |ret u=>
   obtain⟨v,H',I3,rv,ev,q3⟩:=I2.after hq'
   subst ev
   exact⟨rv,⟨V.ref (s.heap.objs.size+1),H',I3,rfl,q3⟩⟩
  |next=>exact False.elim hq'
  |brk=>exact False.elim hq'
  |cont=>exact False.elim hq'
theorem pe_make(M:Mk X.K C f)(F:FnOk X.prog X.w X.K X.mg X.base CX k f fd ps sp)(hr:Room (k+1) X.A)(hg:Gl X x)(hm:X.mg x=some (.ref C))(hb:Binds X.K fd ps ds)(hd:Vals dvs ds)(hx:Passes CX X E)(ha:PA X (e::es) t)(hdb:(x==("__debug__":Str))=false:=by decide)(he:starEach (e::es) X.env=(false,eval e X.env)::starEach es X.env:=by rfl)(hpl:(backTo pos (starEach es X.env)).any (·.1)=false:=by rfl):
  PE X (.Call (.Name x p) (e::es) [] pos) (tMake C sp dvs E t):=by
 intro pins s σ H Q I h
 refine Pq (ld_glob I hg hm ?_ hdb)
 refine ZW (h₀:=X.base) I.ok.mod.kin M.kp (thn (ha pos pins s σ H _ I h) fun us s1 ⟨vs,H1,I1,r,q⟩=>⟨I1.kIn,?_⟩) he hpl
 exact run_make M F hr hb hd hx I1 r q
end
section
variable{X:Cx}{CX:CXT}{k:Nat}{f C:Addr}{fd:FuncData}{ps ks:List Str}{sp:Sp}{E:XK}{x m:Str}{p pos apos kpos:Pos}{e o:Expr}{es:List Expr}{kws:List Keyword}{te ta:TE}{t tk:TA}{nm:Option Str}
variable{g:List Value->List Value->List Value}{gV:List V->List V->List V}
end
structure FnScope(N P:List Str)(sc:Scope):Prop where
 kind:sc.kind= .function
 co:sc.isCoroutine=false
 gen:sc.isGenerator=false
 nd:N.Nodup
 pre:N.take P.length=P
 par:∀x∈P,sc.names.lookup x=some .local\/sc.names.lookup x=some .cell
 nofree:∀y∈sc.names,y.2≠.free
theorem bindL_out{kindOf:Str->Option NameKind}{x:Str}:∀{binds:List (Str×Value)} {m:Str->Option Value},(∀v,(x,v)∉binds)->bindL kindOf binds m x=m x
 |[],_,_=>rfl
 |(n,v)::r,m,h=>by
  unfold bindL
  rw[bindL_out fun w hw=>h w (iZ _ hw)]
  split
  ·have:x≠n:=by rintro rfl;exact h v jV
   simp[this]
  ·rfl
theorem bindC_out{kindOf:Str->Option NameKind}{x:Str}:∀{binds:List (Str×Value)} {m:Str->Option Value},(∀v,(x,v)∉binds)->bindC kindOf binds m x=m x
 |[],_,_=>rfl
 |(n,v)::r,m,h=>by
  unfold bindC
  rw[bindC_out fun w hw=>h w (iZ _ hw)]
  split
  ·rfl
  ·have:x≠n:=by rintro rfl;exact h v jV
   simp[this]
theorem bindL_get{kindOf:Str->Option NameKind}{x:Str}{v:Value}:∀{P:List Str} {vs:List Value} {i:Nat} {m:Str->Option Value},P.Nodup->P[i]? =some x->vs[i]? =some v->kindOf x=some .local->
  bindL kindOf (P.zip vs) m x=some v
 |[],_,_,_,_,h,_,_=>by simp at h
 |_::_,[],_,_,_,_,h,_=>by simp at h
 |p::P,w::vs,0,m,nd,h1,h2,hk=>by
  simp at h1 h2;subst h1;subst h2
  show bindL kindOf ((p,w)::P.zip vs) m p=_
  unfold bindL
  rw[bindL_out fun v hv=>(Hl.mp nd).1 (Zx hv).1,aA hk]
  simp
 |p::P,w::vs,i+1,m,nd,h1,h2,hk=>by
  show bindL kindOf ((p,w)::P.zip vs) m x=_
  unfold bindL
  exact bindL_get (i:=i) (Hl.mp nd).2 (by simpa using h1) (by simpa using h2) hk
theorem bindC_get{kindOf:Str->Option NameKind}{x:Str}{v:Value}:∀{P:List Str} {vs:List Value} {i:Nat} {m:Str->Option Value},P.Nodup->P[i]? =some x->vs[i]? =some v->kindOf x≠some .local->
  bindC kindOf (P.zip vs) m x=some v
 |[],_,_,_,_,h,_,_=>by simp at h
 |_::_,[],_,_,_,_,h,_=>by simp at h
 |p::P,w::vs,0,m,nd,h1,h2,hk=>by
  simp at h1 h2;subst h1;subst h2
  show bindC kindOf ((p,w)::P.zip vs) m p=_
  unfold bindC
  rw[bindC_out fun v hv=>(Hl.mp nd).1 (Zx hv).1,ao hk]
  simp
 |p::P,w::vs,i+1,m,nd,h1,h2,hk=>by
  show bindC kindOf ((p,w)::P.zip vs) m x=_
  unfold bindC
  exact bindC_get (i:=i) (Hl.mp nd).2 (by simpa using h1) (by simpa using h2) hk
def start(N:List Str)(vs:List V):St:=vs.map some++List.replicate (N.length-vs.length) none
def cxOf(CX:CXT)(P:Program)(w:World)(K:W.Frag)(mg:Str->Option Value)(base:Heap)(N:List Str)(qual:Str)(scope:Scope)(f:Addr)(cd:Value)(A:Around)(outer:List Env)(s:Shared)(H:Hp)(E:XK):Cx where
 prog:=P
 w:=w
 K:=K
 mg:=mg
 base:=base
 A:=A.deeper (envOfC qual scope s.heap.objs.size f cd)
 N:=N
 s₀:=s
 H₀:=H
 env:=envOfC qual scope s.heap.objs.size f cd
 outer:=outer
 stack:=envOfC qual scope s.heap.objs.size f cd::outer
 ex:=[]
 calm:=true
 fn:=fun _=>true
 pn:=[]
 xe:=fun e s'=>wpAny (model P w) (A.deeper (envOfC qual scope s.heap.objs.size f cd)) (leaving (envOfC qual scope s.heap.objs.size f cd) e) (fun _ s''=>CX outer H s E e s'') (fun e' s''=>CX outer H s E e' s'') s'
theorem cell_has{sc:Scope}{n:Nat}{x:Str}(h:sc.names.lookup x=some .cell):∃c,(cellsFrom n sc.names []).lookup x=some c:=by
 have q:=wek sc.names n [] (.inl h)
 exact Option.isSome_iff_exists.mp q
theorem inv_start{CX:CXT}{P:Program}{w:World}{K:W.Frag}{mg:Str->Option Value}{base:Heap}{N ps:List Str}{qual:Str}{scope:Scope}{f:Addr}{cd:Value}{A:Around}{outer:List Env}{s s1:Shared}{H:Hp}{E:XK}{us:List Value}{vs:List V}
  (S:FnScope N ps scope)(hd:A.handled=none)(e0:Env0 P w K mg base A outer s H)(hl:vs.length=ps.length)(r:Vals vs us)(x:InCallC s s.heap.objs.size (bindL (envOfC qual scope s.heap.objs.size f cd).kindOf (ps.zip us) fun _=>none) (cellsFrom (s.heap.objs.size+1) scope.names []) (bindC (envOfC qual scope s.heap.objs.size f cd).kindOf (ps.zip us) fun _=>none) s1):
  Inv (cxOf CX P w K mg base N qual scope f cd A outer s H E) [] (start N vs) H s1:=by
 have hpl:ps.length<=N.length:=by have:=iW List.length S.pre;rw[Lk]at this;omega
 obtain⟨h1,tk,rfl,hk⟩:=x.done
 have noA:∀b:Addr,b∉(cxOf CX P w K mg base N qual scope f cd A outer s H E).ex:=fun b z=>absurd (show b∈([]:List Addr)from z) (by simp)
 refine⟨⟨e0.mod,S.kind,rfl,rfl,aU _,fun y z c h1 h2=> ?_,fun y hy=> ?_,fun y c _ h=> ?_,fun _=>hd,Around.frames_deeper e0.frames,.inr ⟨rfl,rfl⟩,fun b z=>absurd z (noA b),e0.bs,e0.bsz,fun b _ _=>noA b,fun b z=>absurd z (noA b),e0.funs,e0.frf⟩,
  rfl,e0.bare,Un.kept hk,⟨_,x.toInCall.ns,fun i y v h1 h2 h3=> ?_⟩,fun y c h=>⟨_,x.cell y c h⟩,e0.hok.fresh (aU _),fun y c h=> ?_,fun p hp=>absurd (show p∈([]:List (Addr×Obj))from hp) (by simp),e0.hok.kept hk,?_⟩
 ·exact name_of_addr x.apart (Hv h1) (Hv h2)
 ·have hy:scope.names.lookup y=some .cell\/scope.names.lookup y=some .free:=hy
  rcases hy with hy|hy
  ·exact cell_has hy
  ·exact absurd rfl (S.nofree _ (Hv hy))
 ·exact cM (x.above y c (Hv h))
 ·have hi:i<vs.length:=by
   unfold start at h2
   by_cases hi:i<vs.length
   ·exact hi
   ·rw[U7 (by simpa using hi)]at h2
    rw[wdz]at h2
    split at h2<;>cases h2
  have ha:vs[i]? =some v:=by
   unfold start at h2
   rw[Yl (by simpa using hi),dY]at h2
   cases e:vs[i]? with
   |none=>rw[e]at h2;cases h2
   |some a=>rw[e]at h2;cases h2;rfl
  obtain⟨u,hu,rv⟩:=r.get ha
  have hp:ps[i]? =some y:=by
   rw[<-S.pre,List.getElem?_take_of_lt (by omega)];exact h1
  have ndP:ps.Nodup:=by rw[<-S.pre];exact S.nd.sublist (List.take_sublist _ _)
  refine⟨u,rv,?_⟩
  rcases S.par y (uy hp)with k|k
  ·exact .inl ⟨k,bindL_get ndP hp hu k⟩
  ·obtain⟨c,e⟩:=cell_has (n:=s.heap.objs.size+1) k
   refine .inr ⟨.inl k,c,e,?_⟩
   have q:=x.cell y c e
   rw[bindC_get ndP hp hu (by show scope.names.lookup y≠_;rw[k];decide)]at q
   exact q
 ·exact e0.hok.fresh (cM (x.above y c (Hv h)))
 ·unfold start
  show _=N.length
  rw[jU,aM,wcg]
  omega
theorem fn_of{CX:CXT}{P:Program}{w:World}{K:W.Frag}{mg:Str->Option Value}{base:Heap}{k:Nat}{f:Addr}{name qual:Str}{params:Arguments}{body:List Stmt}{scope:Scope}{dV kV doc pm cdv ct oc:Value}{an od:Option Addr}{osl:Array (Option Value)}{N ps:List Str}{sp:Sp}(lk:K.lookup f=some ⟨oc,od,.func (PySem.W.fnOf name qual params body scope dV kV doc pm an cdv ct),osl⟩)(hcd:PySem.W.codeIn K cdv qual=true)(S:FnScope N ps scope)(len:∀vs H Q E,sp vs H Q E->vs.length=ps.length)(hbody:∀(A:Around) (outer:List Env) (s:Shared) (H:Hp) (vs:List V) (Q:VK) (E:XK),Room k (A.deeper (envOfC qual scope s.heap.objs.size f cdv))->sp vs H Q E->
   ∃t,PSs (cxOf CX P w K mg base N qual scope f cdv A outer s H E) body t/\t {nx:=fun _ H'=>Q .non H',rt:=Q} (start N vs) H):
  FnOk P w K mg base CX (k+1) f (PySem.W.fnOf name qual params body scope dV kV doc pm an cdv ct) ps sp:=by
 refine⟨len,fun A outer s H args us vs Q E hr e0 hb r hsp=> ?_⟩
 have hl:=len _ _ _ _ hsp
 have KX:K.In s.heap:=e0.mod.kin.keeps fun b o e=>(e0.bs b o e).1
 have lim:s.heap.NoLimit:=e0.mod.nolimit.keeps fun b o e=>(e0.bs b o e).1
 have hkind:∀y∈ps.zip us,scope.names.lookup y.1=some .local\/(scope.names.lookup y.1=some .cell/\((cellsFrom (s.heap.objs.size+1) scope.names []).lookup y.1).isSome=true):=fun⟨n,v⟩ hy=>by
  rcases S.par n (Zx hy).1 with q|q
  ·exact .inl q
  ·exact .inr ⟨q,wek _ _ _ (.inl q)⟩
 refine codeAny_call_function hr.depth (KX _ _ lk) rfl S.co S.gen rfl (PySem.W.codeRec_of KX hcd) (hb _ _ _ _ ?_)
 refine wpAny_newFunctionEnv_cells S.kind hkind fun env he s1 x=> ?_
 subst he
 refine⟨lim.keeps x.toInCall.keep,codeAny_func ?_⟩
 obtain⟨t,ht,hq⟩:=hbody A outer s H vs Q E (hr.deeper _) hsp
 have I:Inv (cxOf CX P w K mg base N qual scope f cdv A outer s H E) [] (start N vs) H s1:=inv_start S hr.hd e0 hl r x
 refine QT (ht [] s1 (start N vs) H _ I hq) (fun fl s' hs=> ?_) fun e s' hs=>hs
 have fin:∀{σ':St} {H':Hp} {v:V} {u:Value},Inv (cxOf CX P w K mg base N qual scope f cdv A outer s H E) [] σ' H' s'->RelV v u->Q v H'->CE outer P w H s Q u s':=
  fun{σ' H' v u} J rv q=>⟨v,H',J.os,J.bare,J.base,J.hok,rv,q⟩
 cases fl with
 |ret u=>
  obtain⟨v,σ',H',J,rv,q⟩:=hs
  exact fin J rv q
 |next=>
  obtain⟨σ',H',J,q⟩:=hs
  exact fin (v:=V.non) (u:=Value.none) J rfl q
 |brk=>
  obtain⟨_,_,_,q⟩:=hs
  exact False.elim q
 |cont=>
  obtain⟨_,_,_,q⟩:=hs
  exact False.elim q
section
variable{X:Cx}{x:Str}{p pos:Pos}{e:Expr}{es:List Expr}{t:TA}{id T:String}{r:List V->Hp->VK->Prop}
def tCB(r:List V->Hp->VK->Prop)(t:TA):TE:=fun σ H Q=>t σ H fun vs H1=>r vs H1 Q
theorem gQ(hc:CallR X (.builtin id) r)(hg:Gl X x)(hm:X.mg x=none)(hv:bootBuiltins x=some (.builtin id))(ha:PA X (e::es) t)(hn:x≠"__name__":=by decide)(hdb:(x==("__debug__":Str))=false:=by decide)(he:starEach (e::es) X.env=(false,eval e X.env)::starEach es X.env:=by rfl)(hpl:(backTo pos (starEach es X.env)).any (·.1)=false:=by rfl):PE X (.Call (.Name x p) (e::es) [] pos) (tCB r t):=by
 intro pins s σ H Q I h
 refine Pq (ld_blt I hg hm hv ?_ hn hdb)
 exact PyProof.Rows.callWith_builtin1 (thn (ha pos pins s σ H _ I h) fun us s1 ⟨vs,H1,I1,r1,q1⟩=>hc pins s1 σ H1 vs us Q I1 r1 q1) he hpl
theorem Lf(hc:CallR X (.type T) r)(hg:Gl X x)(hm:X.mg x=none)(hv:bootBuiltins x=some (.type T))(ha:PA X (e::es) t)(hn:x≠"__name__":=by decide)(hdb:(x==("__debug__":Str))=false:=by decide)(he:starEach (e::es) X.env=(false,eval e X.env)::starEach es X.env:=by rfl)(hpl:(backTo pos (starEach es X.env)).any (·.1)=false:=by rfl):PE X (.Call (.Name x p) (e::es) [] pos) (tCB r t):=by
 intro pins s σ H Q I h
 refine Pq (ld_blt I hg hm hv ?_ hn hdb)
 exact Lp (thn (ha pos pins s σ H _ I h) fun us s1 ⟨vs,H1,I1,r1,q1⟩=>hc pins s1 σ H1 vs us Q I1 r1 q1) he hpl
end
end L2
namespace HT
open PySem PyProof.Rows
def lexLt:List Int->List Int->Bool
 |[],[]=>false
 |[],_::_=>true
 |_::_,[]=>false
 |x::xs,y::ys=>if x=y then lexLt xs ys else decide (x<y)
theorem lexLt_cons(x y:Int)(xs ys:List Int):lexLt (x::xs) (y::ys)=if x=y then lexLt xs ys else decide (x<y):=rfl
theorem lexLt_nil_nil:lexLt [] []=false:=rfl
theorem lexLt_nil_cons(y:Int)(ys:List Int):lexLt [] (y::ys)=true:=rfl
theorem lexLt_cons_nil(x:Int)(xs:List Int):lexLt (x::xs) []=false:=rfl
theorem eqAt_int(A:Around)(s:Shared)(a:Int)(t:Tok)(c:Int)(u:Tok):∃e,SeqAt.EqAt A s (.int a t) (.int c u) e/\(e=true↔a=c):=
 ⟨(a==c),SeqAt.EqAt.int_int a t c u,by simp⟩
theorem rcLt_int(A:Around)(s:Shared)(a:Int)(t:Tok)(c:Int)(u:Tok)(prog:Program)(w:World)(E:Value->Shared->Prop)(Q:Value->Shared->Prop)(h:Q (.bool (decide (a<c))) s):
  wpAny (model prog w) A (richCompare .Lt (.int a t) (.int c u)) Q E s:=
 (PyProof.Rows.lt_int h:wpAny (model prog w) A (compareOp .Lt (.int a t) (.int c u)) Q E s)
section
open PySem.SeqAt
open PySem.AutoSeq1 (wpAny_loadPart')
open PySem.MeetsSeq PySem.MeetsSeq2 PySem.MeetsSeq3
theorem tuple_lt_ints(l b:Addr)(items items2:Array Value)(n n2:Nat)(dd dd2:Option Addr)(sl sl2:Array (Option Value))(ns ms:List Int)(hi:IntsAre items.toList ns)(hj:IntsAre items2.toList ms):
  Meets (Builtin.«tuple.__lt__» ⟨[.ref l,.ref b],[]⟩)
   (fun _ R s=>s.heap.get? l=some {cls:= .type "tuple",dict:=dd,data:= .seq items n,slots:=sl}/\s.heap.get? b=some {cls:= .type "tuple",dict:=dd2,data:= .seq items2 n2,slots:=sl2}/\
    R (.ok (.ret (.bool (lexLt ns ms)))) s):=
 .of_wp fun prog w A R s h=>by
  obtain⟨hp,g,d,tk,os⟩:=s;obtain⟨hl,hb,h⟩:=h
  have f2:=AutoSeq1.sub_tuple_tuple
  have z1:items.size=ns.length:=by rw[<-hi.length];simp
  have z2:items2.size=ms.length:=by rw[<-hj.length];simp
  wp_walk using wpAny_loadPart' hl,wpAny_loadPart' hb,wpAny_forIn_list _ (fun rest b s'=>b.1=none/\s'=⟨hp,g,d,tk,os⟩/\∃(vs ws:List Value) (ns' ms':List Int),rest=vs.zip ws/\
   IntsAre vs ns'/\IntsAre ws ms'/\ns'.length+items2.size=ms'.length+items.size/\R (.ok (.ret (.bool (lexLt ns' ms')))) ⟨hp,g,d,tk,os⟩) _
  case turn=>
   rintro⟨y,x⟩ rest b s' ⟨hb',rfl,vs,ws,ns',ms',hz,hvi,hwi,hlen,hR⟩
   cases hvi with
   |nil=>rw[List.zip_nil_left]at hz;cases hz
   |cons a t hvi'=>
    cases hwi with
    |nil=>rw[List.zip_nil_right]at hz;cases hz
    |cons c u hwi'=>
     rw[ZV]at hz
     injection hz with hyx hrest
     injection hyx with hy hx
     subst hy hx
     rw[lexLt_cons]at hR
     simp only[wK]at hlen
     obtain⟨e,he,hiff⟩:=eqAt_int A.in1 ⟨hp,g,d,tk,os⟩ a t c u
     refine bO (he prog w _ _ ?_)
     cases e with
     |true=>
      rw[aA (hiff.mp rfl)]at hR
      wp_walk
      exact⟨rfl,rfl,_,_,_,_,hrest,hvi',hwi',by omega,hR⟩
     |false=>
      rw[ao (fun q=>absurd (hiff.mpr q) sW)]at hR
      have hri:=rcLt_int A.in1 ⟨hp,g,d,tk,os⟩ a t c u prog w
      wp_walk using hri
      exact⟨_,rfl,by simpa using hR⟩
  case fin=>
   rintro⟨b1,b2⟩ s' ⟨hb',rfl,vs,ws,ns',ms',hz,hvi,hwi,hlen,hR⟩
   simp only at hb'
   subst hb'
   have hv:lexLt ns' ms'=decide (items.size<items2.size):=by
    cases hvi with
    |nil=>
     cases hwi with
     |nil=>
      simp only[QJ]at hlen
      rw[lexLt_nil_nil]
      exact(iY (by omega)).symm
     |cons c u hw=>
      simp only[QJ,wK]at hlen
      rw[lexLt_nil_cons]
      exact(cI (by omega)).symm
    |cons a t hv=>
     cases hwi with
     |nil=>
      simp only[QJ,wK]at hlen
      rw[lexLt_cons_nil]
      exact(iY (by omega)).symm
     |cons c u hw=>
      rw[ZV]at hz
      cases hz
   rw[hv]at hR
   wp_walk
   exact⟨_,rfl,by simpa[Builtin.Tuple.tupleCompareSizes]using hR⟩
  case h=>
   exact⟨rfl,rfl,items.toList,items2.toList,ns,ms,rfl,hi,hj,by omega,h⟩
end
section
variable{prog:Program}{w:World}{A:Around}{E:Value->Shared->Prop}{s:Shared}
theorem lt_tupInts{l b:Addr}{items items2:Array Value}{ns ms:List Int}{Q:Value->Shared->Prop}(hl:IsTup s.heap l items)(hb:IsTup s.heap b items2)(hi:IntsAre items.toList ns)(hj:IntsAre items2.toList ms)(hu:A.units<cLine)(h:Q (.bool (lexLt ns ms)) s):wpAny (model prog w) A (compareOp .Lt (.ref l) (.ref b)) Q E s:=by
 obtain⟨⟨cls,dd,data,sl⟩,ho,hc,n,hd⟩:=id hl
 obtain⟨⟨cls2,dd2,data2,sl2⟩,ho2,hc2,n2,hd2⟩:=id hb
 simp only at hc hd hc2 hd2
 subst hc hd hc2 hd2
 exact richCompare_meets_room (op:= .Lt) ⟨_,ho,rfl⟩ ⟨_,ho2,rfl⟩ PySem.F.slot_tuple_lt PySem.F.entry_tuple_lt (PySem.F.args_tuple_lt_2 _ _) (tuple_lt_ints l b items items2 n n2 dd dd2 sl sl2 ns ms hi hj)
  ⟨ho,ho2,show Value.bool (lexLt ns ms)≠Value.notImplemented/\Q (.bool (lexLt ns ms)) s from⟨(fun x=>nomatch x),h⟩⟩ hu
theorem cat_tup{t b:Addr}{vs ws:List Value}{Q:Value->Shared->Prop}(ht:IsTup s.heap t vs.toArray)(hb:IsTup s.heap b ws.toArray)(hv:vs≠[])(h1:ws=[]->Q (.ref t) s)(h2:ws≠[]->Q (.ref s.heap.objs.size) {s with heap:=s.heap.push {cls:= .type "tuple",data:= .seq (vs++ws).toArray}})(hsz:vs.length+ws.length<=sizeLine):wpAny (model prog w) A (binaryOp .Add (.ref t) (.ref b)) Q E s:=by
 obtain⟨⟨cls,dd,data,sl⟩,ho,hc,n,hd⟩:=id ht
 obtain⟨⟨cls2,dd2,data2,sl2⟩,ho2,hc2,n2,hd2⟩:=id hb
 simp only at hc hd hc2 hd2
 subst hc hd hc2 hd2
 have e:vs.toArray++ws.toArray=(vs++ws).toArray:=by simp
 by_cases hw:ws=[]
 ·exact concat_meets ⟨_,ho,rfl⟩ ⟨_,ho2,rfl⟩ wed seq_tuple_add wbz wbs (wbp _ _)
   (tuple_addW1 t b vs.toArray ws.toArray n n2 dd dd2 sl sl2 (by simpa using hv) (by simp[hw])) ⟨ho,ho2,h1 hw⟩
 ·refine concat_meets ⟨_,ho,rfl⟩ ⟨_,ho2,rfl⟩ wed seq_tuple_add wbz wbs (wbp _ _)
   (tuple_addW2 t b vs.toArray ws.toArray n n2 dd dd2 sl sl2 (by simpa using hv) (by simpa using hw) (by rw[gw,gw];exact hsz)) ⟨ho,ho2,?_⟩
  rw[e]
  exact h2 hw
def sIx(n d:Nat):Option Int->Nat
 |none=>d
 |some v=>if v<0 then(v+(n:Int)).toNat else min v.toNat n
theorem sIx_none(n d:Nat):sIx n d none=d:=rfl
theorem sIx_nat(n d k:Nat):sIx n d (some (k:Int))=min k n:=by
 show(if(k:Int)<0 then((k:Int)+(n:Int)).toNat else min (k:Int).toNat n)=min k n
 rw[ao (by omega),ZP]
end
end HT
namespace L2
open PySem PySem.Spec PyProof.Rows
abbrev TO:=St->Hp->(Option Int->Hp->Prop)->Prop
def PO(X:Cx)(e:Option Expr)(t:TO):Prop:=
 ∀(pins:List (Addr×Obj)) (s:Shared) (σ:St) (H:Hp) (Q:Option Int->Hp->Prop),Inv X pins σ H s->t σ H Q->
  wpAny (model X.prog X.w) X.A (evalPart e X.env) (fun u s'=>∃o H',Inv X pins σ H' s'/\IsPart u o/\Q o H') X.xe s
def tNoPart:TO:=fun _ H Q=>Q none H
def tPart(t:TE):TO:=fun σ H Q=>t σ H fun x H1=>∃i,x= .int i/\Q (some i) H1
theorem intsAre_of{ns:List Int}:∀{us:List Value},Vals (ns.map V.int) us->IntsAre us ns:=by
 induction ns with
 |nil=>intro us r;rw[List.map_nil]at r;cases r;exact .nil
 |cons n ns ih=>
  intro us r
  rw[LK]at r
  cases r with
  |cons r1 r2=>
   obtain⟨t,e⟩:=r1
   subst e
   exact .cons n t (ih r2)
section
variable{X:Cx}{e:Expr}{te:TE}{lo hi:Option Expr}{tl th:TO}{pos p2:Pos}
theorem po_none:PO X none tNoPart:=by
 intro pins s σ H Q I h
 rw[evalPart_none]
 exact gR ⟨none,H,I,.none,h⟩
theorem po_some(h:PE X e te):PO X (some e) (tPart te):=by
 intro pins s σ H Q I hw
 rw[evalPart_some]
 refine thn (h pins s σ H _ I hw) fun u s1 ⟨x,H1,I1,r1,q1⟩=> ?_
 obtain⟨i,rfl,q⟩:=q1
 obtain⟨t,rfl⟩:=r1
 exact⟨some i,H1,I1,.int i t,q⟩
def SlR(X:Cx)(r:V->Option Int->Option Int->Hp->VK->Prop):Prop:=
 ∀(pins:List (Addr×Obj)) (s:Shared) (σ:St) (H:Hp) (x:V) (v vl vu:Value) (lo hi:Option Int) (sl:Addr) (Q:VK),Inv X pins σ H s->RelV x v->s.heap.IsSliceOf sl vl vu .none->IsPart vl lo->IsPart vu hi->r x lo hi H Q->
  ∃T id,typeLookup (.type T) "__getitem__"=pure (some (.builtin id))/\s.TypeIs v T/\wpAny (model X.prog X.w) X.A (getItem v (.ref sl)) (EP X pins σ Q) X.xe s
def tSl(r:V->Option Int->Option Int->Hp->VK->Prop)(te:TE)(tl th:TO):TE:=fun σ H Q=>te σ H fun x H1=>tl σ H1 fun l H2=>th σ H2 fun u H3=>r x l u H3 Q
theorem pe_slice{r:V->Option Int->Option Int->Hp->VK->Prop}(hr:SlR X r)(he:PE X e te)(hl:PO X lo tl)(hu:PO X hi th):PE X (.Subscript e (.Slice lo hi none p2) pos) (tSl r te tl th):=by
 intro pins s σ H Q I h
 refine Subscript_ (thn (he pins s σ H _ I h) fun v s1 ⟨x,H1,I1,r1,q1⟩=> ?_)
 refine wpAny_Slice (thn (hl pins s1 σ H1 _ I1 q1) fun vl s2 ⟨l,H2,I2,pl,q2⟩=>thn (hu pins s2 σ H2 _ I2 q2) fun vu s3 ⟨u,H3,I3,pu,q3⟩=> ?_)
 rw[evalPart_none]
 refine gR ?_
 have I4:Inv X pins σ H3 {s3 with heap:=s3.heap.push {cls:= .type "slice",data:= .fields #[vl,vu,.none]}}:=I3.kept (t':=s3.toks) fun b ob q=>jy _ q
 obtain⟨T,id,hT,ht,hg⟩:=hr pins {s3 with heap:=s3.heap.push {cls:= .type "slice",data:= .fields #[vl,vu,.none]}} σ H3 x v vl vu l u s3.heap.objs.size Q I4 r1 (Heap.IsSliceOf.new ..) pl pu q3
 show wpAny (model X.prog X.w) X.A (subscriptTail e (.Slice lo hi none p2) v (.ref s3.heap.objs.size)) (EP X pins σ Q) X.xe {s3 with heap:=s3.heap.push {cls:= .type "slice",data:= .fields #[vl,vu,.none]}}
 exact tail_any (ops:=[.ref s3.heap.objs.size,v]) ht hT hg (by with_unfolding_all rfl)
def cutV(xs:List V)(lo hi:Option Int):List V:=(xs.drop (HT.sIx xs.length 0 lo)).take (HT.sIx xs.length xs.length hi-HT.sIx xs.length 0 lo)
theorem cutV_length(xs:List V)(lo hi:Option Int):(cutV xs lo hi).length<=xs.length:=by
 unfold cutV
 rw[Lk,List.length_drop]
 omega
def rLtT(K:W.Frag):R2:=fun x y H Q=>∃a b ns ms,x= .ref a/\y= .ref b/\SqT K H a (ns.map V.int)/\SqT K H b (ms.map V.int)/\Q (.bl (HT.lexLt ns ms)) H
theorem op_ltT(hu:X.A.units<cLine):OpR X (compareOp .Lt) (rLtT X.K):=by
 intro pins s σ H x y v u Q I rx ry h
 obtain⟨a,b,ns,ms,rfl,rfl,ha,hb,q⟩:=h
 cases rx
 cases ry
 obtain⟨its,r1,p1,_⟩:=I.tuple ha
 obtain⟨its2,r2,p2,_⟩:=I.tuple hb
 have i1:IntsAre its.toArray.toList ns:=intsAre_of r1
 have i2:IntsAre its2.toArray.toList ms:=intsAre_of r2
 exact HT.lt_tupInts p1 p2 i1 i2 hu ⟨.bl (HT.lexLt ns ms),H,I,rfl,q⟩
def rCatT(K:W.Frag):R2:=fun x y H Q=>∃a b xs ys,x= .ref a/\y= .ref b/\SqT K H a xs/\SqT K H b ys/\xs≠[]/\xs.length+ys.length<=sizeLine/\
 (ys=[]->Q (.ref a) H)/\(ys≠[]->∀p,H p=none->Q (.ref p) (upd H p (.tup (xs++ys))))
theorem Vals.nil_iff{xs:List V}{us:List Value}(r:Vals xs us):us=[]↔xs=[]:=by
 cases r with
 |nil=>simp
 |cons _ _=>simp
theorem op_catT:OpR X (binaryOp .Add) (rCatT X.K):=by
 intro pins s σ H x y v u Q I rx ry h
 obtain⟨a,b,xs,ys,rfl,rfl,ha,hb,hx,hz,q1,q2⟩:=h
 cases rx
 cases ry
 obtain⟨its,r1,p1,_⟩:=I.tuple ha
 obtain⟨its2,r2,p2,_⟩:=I.tuple hb
 refine HT.cat_tup p1 p2 (fun z=>hx (r1.nil_iff.mp z)) (fun z=>⟨.ref a,H,I,rfl,q1 (r2.nil_iff.mp z)⟩) (fun z=> ?_) (by rw[<-r1.length,<-r2.length];exact hz)
 refine⟨.ref s.heap.objs.size,_,I.laid (t':=s.toks) (o:= .tup (xs++ys)) (fun b ob q=>jy _ q) (aU _) ?_,rfl,q2 (fun w=>z (r2.nil_iff.mpr w)) _ (I.hok.fresh (aU _))⟩
 exact⟨by rw[jU];exact hz,_,r1.append r2,TF _ _⟩
end
def ixN(n:Nat)(i:Int):Option Nat:=if 0<=i then(if i<n then some i.toNat else none)else if -(n:Int)<=i then some (i+n).toNat else none
def atI{α:Type}(xs:List α)(i:Int):Option α:=(ixN xs.length i).bind fun j=>xs[j]?
theorem ixN_seq{n:Nat}{i:Int}{j:Nat}(h:ixN n i=some j):seqIndex? i n=some j/\j<n/\ -(n:Int)<=i/\i<n:=by
 unfold ixN at h
 by_cases h0:0<=i
 ·rw[aA h0]at h
  by_cases h1:i<n
  ·rw[aA h1]at h
   have e:i.toNat=j:=sy h
   exact⟨by rw[seqIndex_of h0 h1,e],by omega,by omega,h1⟩
  ·rw[ao h1]at h;cases h
 ·rw[ao h0]at h
  by_cases h1: -(n:Int)<=i
  ·rw[aA h1]at h
   have e:(i+n).toNat=j:=sy h
   exact⟨by rw[seqIndex_neg (by omega) h1,e],by omega,h1,by omega⟩
  ·rw[ao h1]at h;cases h
theorem atI_get{α:Type}{xs:List α}{i:Int}{v:α}(h:atI xs i=some v):∃j,seqIndex? i xs.length=some j/\xs[j]? =some v/\j<xs.length/\ -(xs.length:Int)<=i/\i<xs.length:=by
 unfold atI at h
 cases e:ixN xs.length i with
 |none=>rw[e]at h;cases h
 |some j=>
  rw[e]at h
  obtain⟨h1,h2,h3,h4⟩:=ixN_seq e
  exact⟨j,h1,h,h2,h3,h4⟩
theorem atI_nat{α:Type}{xs:List α}{j:Nat}{v:α}(h:xs[j]? =some v):atI xs (j:Int)=some v:=by
 have hj:j<xs.length:=(pL.mp h).1
 have e:ixN xs.length (j:Int)=some j:=by
  unfold ixN
  rw[aA (by omega),aA (by omega)];simp
 unfold atI;rw[e];exact h
def PlainIx(b:Expr):Prop:=∀o i,subscripted b false o i=operate [o,i] (getItem o i)
def IxR(X:Cx)(r:R2):Prop:=
 ∀(value slice:Expr) (pins:List (Addr×Obj)) (s:Shared) (σ:St) (H:Hp) (x y:V) (v u:Value) (Q:VK),Inv X pins σ H s->RelV x v->RelV y u->r x y H Q->
  subscripted slice false v u=operate [v,u] (getItem v u)->wpAny (model X.prog X.w) X.A (subscriptTail value slice v u) (EP X pins σ Q) X.xe s
def MtR(X:Cx)(id:String)(r:V->List V->Hp->VK->Prop):Prop:=
 ∀(pins:List (Addr×Obj)) (s:Shared) (σ:St) (H:Hp) (x:V) (xs:List V) (v:Value) (us:List Value) (Q:VK),Inv X pins σ H s->RelV x v->Vals xs us->r x xs H Q->
  wpAny (model X.prog X.w) X.A (call (.builtin id) (v::us)) (EP X pins σ Q) X.xe s
section
variable{X:Cx}{a b:Expr}{ta tb:TE}{pos:Pos}
theorem bK{r:R2}(hr:IxR X r)(ha:PE X a ta)(hb:PE X b tb)(hs:PlainIx b):PE X (.Subscript a b pos) (tOp r ta tb):=by
 intro pins s σ H Q I h
 exact Subscript_ (binT ha hb I h fun v u s2 x y H2 I2 rx ry q=>hr a b pins s2 σ H2 x y v u Q I2 rx ry q (hs _ _))
def rIxL(K:W.Frag):R2:=fun x y H Q=>∃p xs i v,x= .ref p/\y= .int i/\SqL K H p xs/\atI xs i=some v/\Q v H
def rIxT(K:W.Frag):R2:=fun x y H Q=>∃p xs i v,x= .ref p/\y= .int i/\SqT K H p xs/\atI xs i=some v/\Q v H
theorem oJ:IxR X (rIxL X.K):=by
 intro value slice pins s σ H x y v u Q I rx ry h hs
 obtain⟨p,xs,i,z,rfl,rfl,hq,he,q⟩:=h
 cases rx
 obtain⟨t,rfl⟩:=ry
 obtain⟨its,r,pl,hz⟩:=I.list hq
 obtain⟨j,h1,h2,h3,h4,h5⟩:=atI_get he
 obtain⟨w,ew,rw'⟩:=r.get h2
 have hl:=r.length
 have hn:=line63
 have fin:EP X pins σ Q w s:=⟨z,H,I,rw',q⟩
 by_cases h0:0<=i
 ·have hj:i.toNat=j:=by
   rw[seqIndex_of h0 h5]at h1
   exact sy h1
  exact item_listR pl.isList h0 (by omega) (by rw[hj];simpa using ew) fin hs
 ·have hj:(i+(its.toArray.size:Int)).toNat=j:=by
   rw[seqIndex_neg (by omega) h4]at h1
   rw[gw,<-hl]
   exact sy h1
  exact subscriptTail_builtinR (x:=w) pl.isList.typeIs slot_list_getitem.lookup
   (wpAny_getItem_list_neg (Q:=fun r s'=>r=w/\EP X pins σ Q r s') pl.isList (by omega) (by rw[gw]<;>omega) (by omega) (by rw[hj];simpa using ew) ⟨rfl,fin⟩) hs
theorem fH:IxR X (rIxT X.K):=by
 intro value slice pins s σ H x y v u Q I rx ry h hs
 obtain⟨p,xs,i,z,rfl,rfl,hq,he,q⟩:=h
 cases rx
 obtain⟨t,rfl⟩:=ry
 obtain⟨its,r,pl,hz⟩:=I.tuple hq
 obtain⟨j,h1,h2,h3,h4,h5⟩:=atI_get he
 obtain⟨w,ew,rw'⟩:=r.get h2
 have hl:=r.length
 have hn:=line63
 have fin:EP X pins σ Q w s:=⟨z,H,I,rw',q⟩
 exact subscriptTail_builtinR (x:=w) pl.typeIs slot_tuple_getitem.lookup
  (getItem_tuple (j:=j) (Q:=fun r s'=>r=w/\EP X pins σ Q r s') pl (by omega) (by omega) (by rw[gw,<-hl];exact h1) (by simpa using ew) ⟨rfl,fin⟩) hs
theorem mapSeq_set(its:List Value)(n j:Nat)(u:Value):Obj.mapSeq (·.setIfInBounds j u) {cls:= .type "list",data:= .seq its.toArray n}={cls:= .type "list",data:= .seq (its.set j u).toArray n}:=by
 simp[Obj.mapSeq]
theorem Inv.lst{pins:List (Addr×Obj)}{σ:St}{H:Hp}{s:Shared}{p:Addr}{xs:List V}(I:Inv X pins σ H s)(h:H p=some (.lst xs)):
  ∃(its:List Value) (n:Nat),Vals xs its/\s.heap.get? p=some {cls:= .type "list",data:= .seq its.toArray n}/\xs.length<=sizeLine:=by
 obtain⟨z,its,n,r,e⟩:=I.hok p _ h
 exact⟨its,n,r,e,z⟩
theorem Inv.lstUpd{pins:List (Addr×Obj)}{σ:St}{H:Hp}{s:Shared}{p:Addr}{xs ys:List V}{its its':List Value}{n n':Nat}{f:Obj->Obj}(I:Inv X pins σ H s)(h:H p=some (.lst xs))(ho:s.heap.get? p=some {cls:= .type "list",data:= .seq its.toArray n})(hf:f {cls:= .type "list",data:= .seq its.toArray n}={cls:= .type "list",data:= .seq its'.toArray n'})(r:Vals ys its')(hz:ys.length<=sizeLine)(t:Nat):
  Inv X pins σ (upd H p (.lst ys)) {s with heap:=s.heap.update p f,toks:=t}:=by
 have e:(s.heap.update p f).get? p=some {cls:= .type "list",data:= .seq its'.toArray n'}:=by
  rw[Heap.get?_update_self f ho (by rw[hf]<;>rfl),hf]
 refine I.write (x:=p) (e:=p) (by rw[h];trivial) (.inl rfl) (fun b u hb q=>(wca _ _ (lE hb)).trans q) ⟨_,e⟩ ?_
 exact⟨hz,its',n',r,e⟩
def rSetL:V->V->V->Hp->(Hp->Prop)->Prop:=fun o i v H Q=>∃p xs k j,o= .ref p/\i= .int k/\H p=some (.lst xs)/\ixN xs.length k=some j/\Q (upd H p (.lst (xs.set j v)))
theorem set_list:PSet X rSetL:=by
 intro pins s σ H o i v ov iv u Q I ro ri rv h
 obtain⟨p,xs,k,j,rfl,rfl,hp,hj,q⟩:=h
 cases ro
 obtain⟨t,rfl⟩:=ri
 obtain⟨its,n,r,ho,hz⟩:=I.lst hp
 obtain⟨h1,h2,h3,h4⟩:=ixN_seq hj
 have hl:=r.length
 have hn:=line63
 have I':Inv X pins σ (upd H p (.lst (xs.set j v))) {s with heap:=s.heap.update p (Obj.mapSeq (·.setIfInBounds j u))}:=
  I.lstUpd hp ho (mapSeq_set its n j u) (r.set rv j) (by rw[List.length_set];exact hz) s.toks
 by_cases h0:0<=k
 ·have hk:k.toNat=j:=by
   rw[seqIndex_of h0 h4]at h1
   exact sy h1
  exact PySem.W.ki_setAt ho h0 (by omega) (by rw[gw,<-hl];exact h4) (by rw[hk];exact⟨_,I',q⟩)
 ·have hk:(k+(its.toArray.size:Int)).toNat=j:=by
   rw[seqIndex_neg (by omega) h3]at h1
   rw[gw,<-hl]
   exact sy h1
  exact PySem.W.ki_setBack ho (by omega) (by rw[gw,<-hl];exact h3) (by omega) (by rw[hk];exact⟨_,I',q⟩)
theorem slice_bounds(lo hi:Option Int)(n:Nat):(sliceBounds lo hi none n).1=((HT.sIx n 0 lo:Nat):Int)/\(sliceBounds lo hi none n).2.1=((HT.sIx n n hi:Nat):Int)/\(sliceBounds lo hi none n).2.2=1:=by
 refine⟨?_,?_,rfl⟩
 ·cases lo with
  |none=>simp[sliceBounds,HT.sIx]
  |some i=>
   simp only[sliceBounds,HT.sIx,Option.getD_none,show(1:Int)>0 by decide,Tz]
   by_cases h:i<0
   ·simp only[h,Tz]<;>omega
   ·simp only[h,U8]<;>omega
 ·cases hi with
  |none=>simp[sliceBounds,HT.sIx]
  |some i=>
   simp only[sliceBounds,HT.sIx,Option.getD_none,show(1:Int)>0 by decide,Tz]
   by_cases h:i<0
   ·simp only[h,Tz]<;>omega
   ·simp only[h,U8]<;>omega
theorem slicePick_cut(its:List Value)(lo hi:Option Int):slicePick its.toArray lo hi none=((its.drop (HT.sIx its.length 0 lo)).take (HT.sIx its.length its.length hi-HT.sIx its.length 0 lo)).toArray:=by
 obtain⟨h1,h2,h3⟩:=slice_bounds lo hi its.toArray.size
 unfold slicePick
 rw[h1,h2,h3]
 simp only[sliceRange_one,pick_run,gw]<;>rfl
def rSlL(K:W.Frag):V->Option Int->Option Int->Hp->VK->Prop:=fun x lo hi H Q=>∃a xs,x= .ref a/\SqL K H a xs/\∀p,H p=none->Q (.ref p) (upd H p (.lst (cutV xs lo hi)))
theorem sl_list:SlR X (rSlL X.K):=by
 intro pins s σ H x v vl vu lo hi sl Q I rx hs pl pu h
 obtain⟨a,xs,rfl,hx,q⟩:=h
 cases rx
 obtain⟨its,r,ht,hz⟩:=I.list hx
 have hlen:=r.length
 refine⟨"list",_,slot_list_getitem.lookup,ht.isList.typeIs,?_⟩
 refine wpAny_getItem_list_slice ht.isList hs pl pu .none (by simp) ?_ (by rw[gw]<;>omega)
 rw[slicePick_cut,<-hlen]
 refine⟨.ref s.heap.objs.size,_,I.laid (t':=s.toks) (o:= .lst (cutV xs lo hi)) (fun b ob q=>jy _ q) (aU _) ?_,rfl,q _ (I.hok.fresh (aU _))⟩
 exact⟨dW (cutV_length xs lo hi) hz,_,0,(r.drop (HT.sIx xs.length 0 lo)).take (HT.sIx xs.length xs.length hi-HT.sIx xs.length 0 lo),wj _ rfl⟩
theorem call_len_seq:CallR X (.builtin "len") (fun xs H Q=>∃p ys,xs=[.ref p]/\(SqL X.K H p ys\/SqT X.K H p ys)/\Q (.int ys.length) H):=by
 intro pins s σ H xs us Q I r h
 obtain⟨p,ys,rfl,hq,q⟩:=h
 obtain⟨u,rfl,rx⟩:=vals1 r
 cases rx
 have hn:=line63
 rcases hq with hq|hq
 ·obtain⟨its,r',pl,hz⟩:=I.list hq
  have hlen:=r'.length
  exact Calls.call_len_list pl.isList (by simp only[gw]<;>omega) ⟨.int ys.length,H,I.tok _,⟨s.toks+1,by rw[gw,hlen]⟩,q⟩
 ·obtain⟨its,r',pl,hz⟩:=I.tuple hq
  have hlen:=r'.length
  exact len_tuple pl (by simp only[gw]<;>omega) ⟨.int ys.length,H,I.tok _,⟨s.toks+1,by rw[gw,hlen]⟩,q⟩
theorem call_list_of:CallR X (.type "list") (fun xs H Q=>∃p ys,xs=[.ref p]/\(SqL X.K H p ys\/SqT X.K H p ys)/\∀l,H l=none->Q (.ref l) (upd H l (.lst ys))):=by
 intro pins s σ H xs us Q I r h
 obtain⟨p,ys,rfl,hq,q⟩:=h
 obtain⟨u,rfl,rx⟩:=vals1 r
 cases rx
 have fin:∀(its:List Value),Vals ys its->ys.length<=sizeLine->∀(h':Heap) (c':Nat),(∀b o',s.heap.get? b=some o'->h'.get? b=some o')->
   h'.get? s.heap.objs.size=some {cls:= .type "list",dict:=none,data:= .seq its.toArray c',slots:=#[]}->EP X pins σ Q (.ref s.heap.objs.size) {s with heap:=h'}:=fun its r' hz h' c' kp e=>
  ⟨.ref s.heap.objs.size,_,I.laid (t':=s.toks) kp (aU _) (show ObjOk X.prog X.w _ h' _ (.lst ys)from⟨hz,its,c',r',e⟩),rfl,q _ (I.hok.fresh (aU _))⟩
 rcases hq with hq|hq
 ·obtain⟨its,r',pl,hz⟩:=I.list hq
  have hlen:=r'.length
  obtain⟨o,ho,hc,n,hd⟩:=pl.isList
  exact call_list_seq p (.inl rfl) ho hc hd (fun h' c' kp e=>fin its r' hz h' c' kp e) (by simp only[gw]<;>omega)
 ·obtain⟨its,r',pl,hz⟩:=I.tuple hq
  have hlen:=r'.length
  obtain⟨o,ho,hc,n,hd⟩:=pl
  exact call_list_seq p (.inr rfl) ho hc hd (fun h' c' kp e=>fin its r' hz h' c' kp e) (by simp only[gw]<;>omega)
theorem Lx:CallR X (.type "tuple") (fun xs H Q=>∃p ys,xs=[.ref p]/\((SqL X.K H p ys/\∀l,H l=none->Q (.ref l) (upd H l (.tup ys)))\/(SqT X.K H p ys/\Q (.ref p) H))):=by
 intro pins s σ H xs us Q I r h
 obtain⟨p,ys,rfl,h⟩:=h
 obtain⟨u,rfl,rx⟩:=vals1 r
 cases rx
 rcases h with⟨hq,q⟩|⟨hq,q⟩
 ·obtain⟨its,r',pl,hz⟩:=I.list hq
  have hlen:=r'.length
  refine call_tuple_list pl.isList (fun h' kp=> ?_) (by simp only[gw]<;>omega)
  have I1:Inv X pins σ H {s with heap:=h'}:=I.kept (t':=s.toks) kp
  have I2:Inv X pins σ (upd H h'.objs.size (.tup ys)) {s with heap:=h'.push {cls:= .type "tuple",data:= .seq its.toArray}}:=
   I1.laid (t':=s.toks) (fun b o e=>jy _ e) (aU _) (show ObjOk X.prog X.w _ _ _ (.tup ys)from⟨hz,its,r',TF _ _⟩)
  exact⟨.ref h'.objs.size,_,I2,rfl,q _ (I1.hok.fresh (aU _))⟩
 ·obtain⟨its,r',pl,hz⟩:=I.tuple hq
  exact call_tuple_same pl ⟨.ref p,H,I,rfl,q⟩
def tyV(K:W.Frag)(T:String)(x:V)(H:Hp):Prop:=match x with
 | .str _=>T="str"
 | .int _=>T="int"
 | .ref p=>(T="list"/\∃xs,SqL K H p xs)\/(T="tuple"/\∃o,K.lookup p=some o/\o.cls= .type "tuple"/\o.dict=none)\/
   (T="dict"/\((∃kvs,H p=some (.dK kvs))\/∃kvs,H p=some (.dT kvs)))\/(T="set"/\∃S n,H p=some (.set S n))
 |_=>False
theorem tyV_is{pins:List (Addr×Obj)}{σ:St}{H:Hp}{s:Shared}{T:String}{x:V}{v:Value}(I:Inv X pins σ H s)(r:RelV x v)(ty:tyV X.K T x H):
  s.TypeIs v T/\∀a,v= .ref a->∃ob,s.heap.get? a=some ob/\ob.dict=none:=by
 cases x with
 |str z=>
  obtain⟨t,rfl⟩:=r
  cases(show T="str" from ty)
  exact⟨typeIs_str s z t,fun _ e=>nomatch e⟩
 |int i=>
  obtain⟨t,rfl⟩:=r
  cases(show T="int" from ty)
  exact⟨typeIs_int s i t,fun _ e=>nomatch e⟩
 |ref p=>
  cases r
  rcases ty with⟨rfl,xs,hq⟩|⟨rfl,o,hk,hc,hd⟩|⟨rfl,hk⟩|⟨rfl,S,n,hk⟩
  ·obtain⟨its,_,pl,_⟩:=I.list hq
   refine⟨pl.isList.typeIs,fun a e=> ?_⟩
   cases e
   obtain⟨o,n,e,c,hd,_⟩:=pl
   exact⟨o,e,hd⟩
  ·refine⟨⟨o,I.kIn p o hk,hc⟩,fun a e=> ?_⟩
   cases e
   exact⟨o,I.kIn _ o hk,hd⟩
  ·have z:∃o,s.heap.get? p=some o/\o.ExactDict:=by
    rcases hk with⟨kvs,hk⟩|⟨kvs,hk⟩
    ·obtain⟨_,_,_,_,o,_,_,e,ex,_⟩:=I.hok p _ hk
     exact⟨o,e,ex⟩
    ·obtain⟨_,_,_,_,o,_,_,e,ex,_⟩:=I.hok p _ hk
     exact⟨o,e,ex⟩
   obtain⟨o,e,ex⟩:=z
   refine⟨⟨o,e,ex.1⟩,fun a e2=> ?_⟩
   cases e2
   exact⟨o,e,ex.2.1⟩
  ·obtain⟨o,_,_,_,e,ex,_⟩:=I.hok p _ hk
   refine⟨⟨o,e,ex.1⟩,fun a e2=> ?_⟩
   cases e2
   exact⟨o,e,ex.2.1⟩
 |_=>exact False.elim ty
def tBM(K:W.Frag)(T:String)(r:V->List V->Hp->VK->Prop)(to:TE)(t:TA):TE:=fun σ H Q=>to σ H fun x H1=>tyV K T x H1/\t σ H1 fun xs H2=>r x xs H2 Q
variable{o e:Expr}{es:List Expr}{to:TE}{t:TA}{name:Str}{apos cpos:Pos}{T id:String}{r:V->List V->Hp->VK->Prop}
theorem pe_bm(pa:PlainAttrs T)(slot:Slot T name id)(hty:typeOf (.builtin id)=pure (.type "method_descriptor"))(hm:MtR X id r)(ho:PE X o to)(ha:PA X (e::es) t)(hbase:attributeBase o name X.env (eval o X.env)=eval o X.env:=by rfl)(hfew:((backTo cpos (starEach (e::es) X.env)).all (fun x=> !x.1)&&(backToKw cpos (keywordEach [] X.env)).all (fun x=>x.1.isSome)
   &&decide ((e::es).length+([]:List Keyword).length+(if([]:List Keyword).isEmpty then 0 else 1)<30))=true:=by rfl)(hline:(apos.endLine==cpos.line)=true:=by rfl)(hs:starEach (e::es) X.env=(false,eval e X.env)::starEach es X.env:=by rfl)(hplain:(backTo cpos (starEach es X.env)).any (·.1)=false:=by rfl):
  PE X (.Call (.Attribute o name apos) (e::es) [] cpos) (tBM X.K T r to t):=by
 intro pins s σ H Q I h
 refine wpAny_Call_method_late hbase hfew hline rfl (thn (ho pins s σ H _ I h) fun v s1 ⟨x,H1,I1,r1,ty,q1⟩=> ?_)
 obtain⟨h1,h2⟩:=tyV_is I1 r1 ty
 refine⟨T,id,pa,slot,hty,h1,h2,?_⟩
 have hA:=ha cpos pins s1 σ H1 _ I1 q1
 rw[hs]at hA⊢
 refine Calls.callWith_builtin (by show(false||(backTo cpos (starEach es X.env)).any (·.1))=false;rw[hplain]<;>rfl) (Calls.evalArgs_plain ?_)
 exact thn hA fun us s2 ⟨vs,H2,I2,r2,q2⟩=>hm pins s2 σ H2 x vs v us Q I2 r1 r2 q2
end
def MtM(X:Cx)(id:String)(r:V->List V->Hp->VK->Prop):Prop:=
 ∀(pins:List (Addr×Obj)) (s:Shared) (σ:St) (H:Hp) (x:V) (xs:List V) (v:Value) (us:List Value) (Q:VK),Inv X pins σ H s->RelV x v->Vals xs us->r x xs H Q->
  wpAny (model X.prog X.w) X.A (call (.builtin id) (v::us)) (EP X pins σ Q) X.xe s
theorem Vals.one{x:V}{us:List Value}(h:Vals [x] us):∃u,us=[u]/\RelV x u:=by
 cases h with
 |cons r h=>cases h;exact⟨_,rfl,r⟩
theorem Vals.two{x y:V}{us:List Value}(h:Vals [x,y] us):∃u v,us=[u,v]/\RelV x u/\RelV y v:=by
 cases h with
 |cons r h=>obtain⟨v,rfl,q⟩:=Vals.one h;exact⟨_,_,rfl,r,q⟩
theorem foldl_rep(its:List Value):∀(k:Nat) (acc:List Value),
  List.foldl (fun x1 x2=>x1++x2) acc.toArray (List.replicate k its.toArray)=(acc++(List.replicate k its).flatten).toArray
 |0,acc=>by simp
 |k+1,acc=>by
  have e:acc.toArray++its.toArray=(acc++its).toArray:=by simp
  have e2:(acc++its)++(List.replicate k its).flatten=acc++(List.replicate (k+1) its).flatten:=by
   rw[QL,UL,ZM]
  rw[<-e2,<-foldl_rep its k (acc++its),<-e,QL,List.foldl_cons]
section
variable{X:Cx}{pins:List (Addr×Obj)}{σ:St}{H:Hp}{s:Shared}{l b:Addr}{xs ys zs:List V}
theorem Inv.lset{its its':List Value}{n:Nat}{f:Array Value->Array Value}{t':Nat}(I:Inv X pins σ H s)(hH:H l=some (.lst xs))(e:s.heap.get? l=some {cls:= .type "list",data:= .seq its.toArray n})(hf:f its.toArray=its'.toArray)(hv:Vals ys its')(hz:ys.length<=sizeLine):
  Inv X pins σ (upd H l (.lst ys)) {s with heap:=s.heap.update l (Obj.mapSeq f),toks:=t'}:=by
 have q:=PySem.IsL.update e f
 rw[hf]at q
 refine I.write (x:=l) (e:=l) (by rw[hH];exact trivial) (.inl rfl) (fun b' u hb hu=>(wca s.heap (Obj.mapSeq f) (lE hb)).trans hu) ⟨_,q⟩ ?_
 exact⟨hz,its',_,hv,q⟩
theorem Inv.lnew{its:List Value}{t':Nat}(I:Inv X pins σ H s)(hv:Vals ys its)(hz:ys.length<=sizeLine):
  Inv X pins σ (upd H s.heap.objs.size (.lst ys)) {s with heap:=s.heap.push {cls:= .type "list",data:= .seq its.toArray},toks:=t'}:=
 I.laid (fun _ _ q=>jy _ q) (aU _) ⟨hz,its,0,hv,wj _ rfl⟩
theorem Inv.fresh(I:Inv X pins σ H s):H s.heap.objs.size=none:=I.hok.fresh (aU _)
theorem Inv.lstM(I:Inv X pins σ H s)(hH:H l=some (.lst xs)):xs.length<=sizeLine/\∃(its:List Value) (n:Nat),Vals xs its/\xs.length=its.length/\s.heap.get? l=some {cls:= .type "list",data:= .seq its.toArray n}:=by
 obtain⟨z,its,n,r,e⟩:=I.hok l _ hH
 exact⟨z,its,n,r,r.length,e⟩
theorem notLongL{n:Nat}(h:n<=sizeLine):Builtin.List.listTooLong n=false:=by
 unfold Builtin.List.listTooLong
 exact iY (by omega)
end
section
variable{X:Cx}
def rAppend:V->List V->Hp->VK->Prop:=fun x vs H Q=>∃l xs y,x= .ref l/\vs=[y]/\H l=some (.lst xs)/\xs.length<sizeLine/\Q .non (upd H l (.lst (xs++[y])))
theorem mt_append:MtM X "list.append" rAppend:=by
 intro pins s σ H x vs v us Q I rx rv h
 obtain⟨l,xs,y,rfl,rfl,hH,hz,q⟩:=h
 cases rx
 obtain⟨u,rfl,ru⟩:=rv.one
 obtain⟨z,its,n,r,hl,e⟩:=I.lstM hH
 refine TJ F.slot_list_append ⟨_,e,rfl⟩ F.entry_list_append (F.args_list_append_2 _ _) (PySem.list_append l its.toArray n u (by rw[gw];omega)) ⟨e,?_⟩
 refine⟨.non,_,I.lset (its':=its++[u]) hH e (by simp) (r.append (.cons ru .nil)) ?_,rfl,q⟩
 rw[jU,List.length_singleton]
 omega
def rExtend:V->List V->Hp->VK->Prop:=fun x vs H Q=>∃l b xs zs,x= .ref l/\vs=[.ref b]/\H l=some (.lst xs)/\H b=some (.lst zs)/\xs.length+zs.length<=sizeLine/\Q .non (upd H l (.lst (xs++zs)))
theorem mt_extend:MtM X "list.extend" rExtend:=by
 intro pins s σ H x vs v us Q I rx rv h
 obtain⟨l,b,xs,zs,rfl,rfl,hH,hB,hz,q⟩:=h
 cases rx
 obtain⟨u,rfl,ru⟩:=rv.one
 cases ru
 obtain⟨z,its,n,r,hl,e⟩:=I.lstM hH
 obtain⟨z2,its2,n2,r2,hl2,e2⟩:=I.lstM hB
 have hsz:its.toArray.size+its2.toArray.size<=sizeLine:=by rw[gw,gw];omega
 have hlong:¬(!its.toArray.isEmpty&&Builtin.List.listTooLong (its.toArray.size+its2.toArray.size))=true:=by
  rw[notLongL hsz,Bool.and_false]
  exact sW
 refine TJ F.slot_list_extend ⟨_,e,rfl⟩ F.entry_list_extend (F.args_list_extend_2 _ _)
  (AutoSeq1.list_extend_list_list_0 l its.toArray n b its2.toArray n2 hlong (by rw[gw];omega) (by omega)) ⟨e,e2,?_⟩
 refine⟨.non,_,I.lset (its':=its++its2) hH e (by simp) (r.append r2) ?_,rfl,q⟩
 rw[jU]
 omega
def rCat:R2:=fun x y H Q=>∃l b xs zs,x= .ref l/\y= .ref b/\H l=some (.lst xs)/\H b=some (.lst zs)/\xs.length+zs.length<=sizeLine/\∀p,H p=none->Q (.ref p) (upd H p (.lst (xs++zs)))
theorem op_cat:OpR X (binaryOp .Add) rCat:=by
 intro pins s σ H x y v u Q I rx ry h
 obtain⟨l,b,xs,zs,rfl,rfl,hH,hB,hz,q⟩:=h
 cases rx
 cases ry
 obtain⟨z,its,n,r,hl,e⟩:=I.lstM hH
 obtain⟨z2,its2,n2,r2,hl2,e2⟩:=I.lstM hB
 refine PySem.P.add_list e e2 ?_ (by rw[gw,gw];omega)
 have ea:its.toArray++its2.toArray=(its++its2).toArray:=by simp
 rw[ea]
 exact⟨.ref _,_,I.lnew (t':=s.toks) (r.append r2) (by rw[jU];omega),rfl,q _ I.fresh⟩
theorem len_rep{α:Type}(xs:List α)(k:Nat):(List.replicate k xs).flatten.length=k*xs.length:=by
 induction k with
 |zero=>simp
 |succ k ih=>rw[QL,UL,jU,ih,Tq,Nat.add_comm]
end
section
variable{prog:Program}{w:World}{A:Around}{E:Value->Shared->Prop}{s:Shared}
end
section
variable{X:Cx}
end
end L2
namespace Att
open PySem PySem.W PySem.Calls PyProof.Rows
theorem ints_of_wellAll{P:Params}{h:Heap}:∀(ns:List Int) (vs:List Value),WellAll P h vs (ns.map WData.int)->IntsAre vs ns:=by
 intro ns
 induction ns with
 |nil=>
  intro vs w
  rw[List.map_nil]at w
  cases w
  exact .nil
 |cons n ns ih=>
  intro vs w
  rw[LK]at w
  cases w with
  |cons a b=>
   cases a
   exact .cons _ _ (ih _ b)
theorem script_of{l:OpenLaw}{n:Nat}(hn:l.most=some n){P:Params}{h:Heap}{args:List WData}{vals:List Value}(hpre:l.row.toRowW.claim.pre args=true)(hwl:WellAll P h vals args):
  ∃a vs ns,vals=[Value.ref a]/\args=[WData.list (ns.map WData.int)]/\h.get? a=some {cls:= .type "list",data:= .seq vs.toArray}/\IntsAre vs ns/\ns.length<=n:=by
 have hsh:WShape.hasAll [] args [.list .int]=true:=(pre_splitW hpre).1
 have hc:l.pre.holds [] {args:=args}=true:=(pre_splitW hpre).2
 obtain⟨d,r,rfl,h1,h2⟩:=hasAllW_cons hsh
 obtain rfl:=hasAllW_nil h2
 obtain⟨xs,rfl,h3⟩:=hasW_list h1
 obtain⟨ns,rfl⟩:=items_int h3
 have hlen:ns.length<=n:=by
  unfold OpenLaw.pre at hc
  have h4:(WTm.not (.lt (.lit (.int (n:Int))) (.len (.arg 0)))).holds [] {args:=[.list (ns.map .int)]}=true:=by
   have h4:=(holds_andW hc).1
   rw[hn]at h4
   exact h4
  have h5:=condW_of h4 (w_not (w_lt w_lit (w_len_list (w_arg rfl))))
  rw[aM]at h5
  refine Nat.le_of_not_lt fun q=> ?_
  have q':(n:Int)<((ns.length:Nat):Int):=by omega
  first
   |(rw[cI q']at h5;exact absurd h5 (by decide))
   |(simp at h5;omega)
 cases hwl with
 |cons w1 w2=>
  cases w2
  cases w1 with
  |list ho hall=>exact⟨_,_,ns,rfl,rfl,ho,ints_of_wellAll ns _ hall,hlen⟩
theorem post_true(l:OpenLaw)(args:List WData):l.row.toRowW.claim.post args (.bool true) args=true:=
 postW_of (r:=l.row.toRowW) (X:=(true==true))
  (show WShape.has [] (.bool true) .bool=true by first |rfl|decide|simp[WShape.has,WShape.arms,WShape.armsAll])
  (show(WTm.eq .res (.lit (.bool true))).value [] {args:=args,res:=some (.bool true),after:=args}=some (.bool (true==true))from w_eq_bool (w_res rfl) w_lit) rfl
theorem attach_call{l:OpenLaw}{n:Nat}{q:Program}{loose:List Str}{XP:(Str->Option Value)->Heap->Prop}{YP:World->Heap->Prop}{d:DefRec}(hn:l.most=some n)(hdf:d.params.defaults=[])(call:∀(w:World) (s₀ s₁:Shared) (mg mb:Str->Option Value) (fa:Addr) (o:Obj) (pm cd doc:Value) (a:Addr) (vs:List Value) (ns:List Int),
   Ground q loose [] XP w s₀ mg mb s₁.heap->YP w s₁.heap->
   s₁.heap.get? fa=some o->o.data= .func (docDef d.name d.params d.body d.scope pm cd doc)->s₁.heap.CodeRec cd d.name->mg d.name=some (.ref fa)->
   s₁.heap.get? a=some {cls:= .type "list",data:= .seq vs.toArray}->IntsAre vs ns->ns.length<=n->s₁.gens=#[]->
   codeAny (model l.prog w) callerA (.call (.ref fa) ⟨[.ref a],[]⟩) (fun r s'=>r= .ok (.ret (.bool true))/\OldK s₁.heap s'.heap/\s'.os=s₁.os/\AllBare s'.gens) s₁):
  WalkO q loose XP YP l.row.toRowW d [] (fun f vs=>PySem.call f vs):=by
 intro w s₀ s₁ mg mb G Y fa o pm cd doc dV kV ho hd hcd hD hmg hg args vals as hpre hlay hrd hwl hlo
 obtain rfl:dV= .none:=Dflts.none hD hdf
 obtain rfl:kV= .none:=Dflts.noKw hD
 obtain⟨a,vs,ns,rfl,rfl,hobj,hints,hlen⟩:=script_of hn hpre hwl
 refine enter_call (Vc (call w s₀ s₁ mg mb fa o pm cd doc a vs ns G Y ho (fd_plain hd) hcd hmg hobj hints hlen hg) fun r s' hq=> ?_)
 obtain⟨rfl,h2,h3,h4⟩:=hq
 exact⟨.inl ⟨.bool true,.bool true,[],rfl,fun _=>rfl,.bool true,post_true l _,fun _=>⟨List.Pairwise.nil,fun _ hm=>(nomatch hm)⟩⟩,h2,h3,h4⟩
section
variable{prog:Program}{w:World}{A:Around}{E:Value->Shared->Prop}{s:Shared}{K:Frag}
end
end Att
namespace L2
open PySem PySem.Spec PyProof.Rows
theorem vals_ints:∀{vs:List Value} {ns:List Int},IntsAre vs ns->Vals (ns.map V.int) vs
 |_,_,.nil=> .nil
 |_,_,.cons n t h=> .cons ⟨t,rfl⟩ (vals_ints h)
def Only(H:Hp):Prop:=∀b,H b=none\/∃o xs,H b=some (.frz o (.lst xs))
theorem law_call{P:Program}{w:World}{K:W.Frag}{mg mb:Str->Option Value}{CX:CXT}{k:Nat}{fa a:Addr}{fd:FuncData}{x:Str}{sp:Sp}{s₁:Shared}{vs:List Value}{ns:List Int}
  (KX:K.In s₁.heap)(hns:s₁.heap.Ns mainGlobals mg)(hb:s₁.heap.Ns builtinsNs mb)(hbb:∀x:Str,x≠"__name__"->mb x=bootBuiltins x)(hlim:s₁.heap.NoLimit)(hg:s₁.gens=#[])(ha:s₁.heap.get? a=some {cls:= .type "list",data:= .seq vs.toArray})(hi:IntsAre vs ns)(hl:ns.length<=sizeLine)(hr:Room k callerA)
  (F:∀base:Heap,K.In base->base.Ns mainGlobals mg->FnOk P w K mg base CX k fa fd [x] sp)(hbind:∀(s:Shared) (u:Value),BindsTo s fd ⟨[u],[]⟩ [(x,u)])(hsp:∀H:Hp,Only H->SqL K H a (ns.map V.int)->sp [.ref a] H (fun v _=>v= .bl true) fun _ _ _=>False)(hCX:∀H e s',CX [] H s₁ (fun _ _ _=>False) e s'->False):
  codeAny (model P w) callerA (.call (.ref fa) ⟨[.ref a],[]⟩) (fun r s'=>r= .ok (.ret (.bool true))/\OldK s₁.heap s'.heap/\s'.os=s₁.os/\AllBare s'.gens) s₁:=by
 have rv:=vals_ints hi
 have lenV:=hi.length
 -- from an abstract heap in which nothing but the script may be tracked
 have core:∀H:Hp,Only H->SqL K H a (ns.map V.int)->HOk P w H s₁.heap->(∀b,H b≠none->b=a)->(H a≠none->K.lookup a=none)->
   codeAny (model P w) callerA (.call (.ref fa) ⟨[.ref a],[]⟩) (fun r s'=>r= .ok (.ret (.bool true))/\OldK s₁.heap s'.heap/\s'.os=s₁.os/\AllBare s'.gens) s₁:=by
  intro H hO hS hok hA hK
  have base_of:∀{b:Addr} {o:Obj},s₁.heap.get? b=some o->H b=none->(hidT s₁.heap H).get? b=some o:=fun e n=>hidT_get e n
  have noA:∀{b:Addr} {o:Obj} {es:Array DictEntry} {ep:Nat},s₁.heap.get? b=some o->o.data= .dict es ep->H b=none:=fun{b o es ep} e d=>by
   cases q:H b with
   |none=>rfl
   |some u=>
    have e':b=a:=hA b (by rw[q];simp)
    subst e'
    rw[ha]at e;cases e
    have d':Data.seq vs.toArray _=Data.dict es ep:=d
    cases d'
  have nsK:∀{b:Addr} {m:Str->Option Value},s₁.heap.Ns b m->(hidT s₁.heap H).Ns b m:=fun{b m} ⟨o,es,ep,e,d,r⟩=>⟨o,es,ep,base_of e (noA e d),d,r⟩
  have hKb:K.In (hidT s₁.heap H):=fun b o e=>base_of (KX b o e) (by
   cases q:H b with
   |none=>rfl
   |some u=>
    have e':b=a:=hA b (by rw[q];simp)
    subst e'
    rw[hK (by rw[q];simp)]at e;cases e)
  have hM:Mod K mg (hidT s₁.heap H):=⟨hKb,nsK hns,⟨mb,nsK hb,hbb⟩,let⟨mc,h1,h2⟩:=hlim;⟨mc,nsK h1,h2⟩⟩
  have e0:Env0 P w K mg (hidT s₁.heap H) callerA [] s₁ H:=⟨rfl,hM,fun b o e=>of_hidT e,Cg (hidT_size _ _),trivial,fun b hb=>absurd (show b∈([]:List Addr)from hb) (by simp),hok,.of_eq hg⟩
  refine Vc ((F _ hKb (nsK hns)).run callerA [] s₁ H ⟨[.ref a],[]⟩ [.ref a] [.ref a] _ _ hr e0 (hbind s₁ (.ref a)) (.cons rfl .nil) (hsp H hO hS)) fun r s' h=> ?_
  cases r with
  |error e=>exact(hCX H e s' h).elim
  |ok fl=>
   cases fl with
   |next=>exact False.elim h
   |brk=>exact False.elim h
   |cont=>exact False.elim h
   |ret u=>
    obtain⟨v,H',os,bare,un,hok',r',q⟩:=h
    have q':v= .bl true:=q
    subst q'
    obtain rfl:u=Value.bool true:=r'
    refine⟨rfl,OldK.of_keep fun b o e=> ?_,os,bare⟩
    cases q:H b with
    |none=>exact un.keep b o e q (by intro z;exact absurd (show b∈([]:List Addr)from z) (by simp)) (by simp)
    |some u=>
     rcases hO b with z|⟨ob,xs,z⟩
     ·rw[q]at z;cases z
     ·have z2:=un.frzs b ob _ z
      obtain⟨e1,_⟩:=hok b _ z
      obtain⟨e2,_⟩:=hok' b _ z2
      rw[e]at e1;cases e1
      exact e2
 cases hk:K.lookup a with
 |some o=>
  -- the script is one of the module's own objects
  have e:=KX a o hk
  rw[ha]at e
  cases e
  refine core (fun _=>none) (fun _=> .inl rfl) (.inr ⟨_,vs.toArray,_,hk,rfl,rfl,rfl,by rw[gw,lenV];exact hl,by simpa using rv⟩) (fun b u z=>by have z':(none:Option HO)=some u:=z;cases z') (fun b z=>absurd rfl z) fun z=>absurd rfl z
 |none=>
  refine core (fun b=>if b=a then some (.frz {cls:= .type "list",data:= .seq vs.toArray} (.lst (ns.map V.int)))else none) (fun b=> ?_) (.inl (.inr ⟨{cls:= .type "list",data:= .seq vs.toArray},aA rfl⟩)) (fun b u z=> ?_) (fun b z=> ?_) fun _=>hk
  ·by_cases hb:b=a
   ·exact .inr ⟨_,_,aA hb⟩
   ·exact .inl (ao hb)
  ·by_cases hb:b=a
   ·have z':=(aA hb).symm.trans z
    cases z'
    subst hb
    exact⟨ha,by rw[aM];exact hl,vs,_,rv,ha⟩
   ·have z':=(ao hb).symm.trans z
    cases z'
  ·by_cases hb:b=a
   ·exact hb
   ·exact absurd (ao hb) z
theorem walk_of{l:PySem.W.OpenLaw}{n k:Nat}{q:Program}{loose:List Str}{XP:(Str->Option Value)->Heap->Prop}{YP:World->Heap->Prop}{d:DefRec}{K:Params->PySem.W.Frag}{CX:World->CXT}{sp:World->Sp}{x:Str}(hn:l.most=some n)(hn2:n<=sizeLine)(hdf:d.params.defaults=[])(hr:Room k callerA)(hY:∀(w:World) (h:Heap),YP w h->(K w.params).In h)
  (F:∀(w:World) (mg:Str->Option Value) (fa:Addr) (h:Heap),(K w.params).In h->h.Ns mainGlobals mg->mg d.name=some (.ref fa)->
   ∃fd:FuncData,(∀(s:Shared) (u:Value),BindsTo s fd ⟨[u],[]⟩ [(x,u)])/\
    ∀base:Heap,(K w.params).In base->base.Ns mainGlobals mg->FnOk l.prog w (K w.params) mg base (CX w) k fa fd [x] (sp w))(hsp:∀(w:World) (H:Hp) (a:Addr) (ns:List Int),ns.length<=n->Only H->SqL (K w.params) H a (ns.map V.int)->sp w [.ref a] H (fun v _=>v= .bl true) fun _ _ _=>False)(hCX:∀(w:World) (H:Hp) (s:Shared) (e:Value) (s':Shared),CX w [] H s (fun _ _ _=>False) e s'->False):
  PySem.W.WalkO q loose XP YP l.row.toRowW d [] (fun f vs=>PySem.call f vs):=by
 refine Att.attach_call hn hdf fun w s₀ s₁ mg mb fa o pm cd doc a vs ns G Y ho hd hcd hmg hobj hints hlen hg=> ?_
 have KX:=hY w _ Y
 obtain⟨fd,hb,hF⟩:=F w mg fa _ KX G.T.g hmg
 exact law_call KX G.T.g G.T.b G.T.builtins G.T.nolimit hg hobj hints (dW hlen hn2) hr hF hb (fun H hO hS=>hsp w H a ns hlen hO hS) fun H e s'=>hCX w H s₁ e s'
def inClass(s:Stmt)(j:Nat):Stmt:=match s with
 | .ClassDef _ _ _ body _ _ _ _ _ _ _=>body.getD j (.Pass ⟨0,0,0,0⟩)
 |_=> .Pass ⟨0,0,0,0⟩
def defArgs(s:Stmt):Arguments:=match s with
 | .FunctionDef _ a _ _ _ _ _ _ _ _=>a
 |_=>{posonlyargs:=[],args:=[],vararg:=none,kwonlyargs:=[],kw_defaults:=[],kwarg:=none,defaults:=[]}
def defBody(s:Stmt):List Stmt:=match s with
 | .FunctionDef _ _ b _ _ _ _ _ _ _=>b
 |_=>[]
def defScope(s:Stmt):Scope:=match s with
 | .FunctionDef _ _ _ _ _ _ sc _ _ _=>sc
 |_=>{kind:= .function,names:=[],isGenerator:=false,isCoroutine:=false}
abbrev CX0:CXT:=fun _ _ _ _ _ _=>False
abbrev E0:XK:=fun _ _ _=>False
theorem pass0{X:Cx}:Passes CX0 X E0:=fun _ _ _ _ _ _ _ h=>h.elim
structure Fun(K:W.Frag)(x qual:Str)(st:Stmt)(f:Addr)(fd:FuncData):Prop where
 ex:∃(oc:Value) (od:Option Addr) (kV doc pm:Value) (an:Option Addr) (cdv ct:Value) (osl:Array (Option Value)),
  fd=PySem.W.fnOf x qual (defArgs st) (defBody st) (defScope st) .none kV doc pm an cdv ct/\K.lookup f=some ⟨oc,od,.func fd,osl⟩/\PySem.W.codeIn K cdv qual=true
 kp:PySem.W.keepIn K (.ref f)=true
section
variable{P:Program}{w:World}{K:W.Frag}{mg:Str->Option Value}{base:Heap}
theorem Fun.ok{x qual:Str}{st:Stmt}{f:Addr}{fd:FuncData}{N ps:List Str}{k:Nat}{sp:Sp}(F:Fun K x qual st f fd)(S:FnScope N ps (defScope st))(len:∀vs H Q E,sp vs H Q E->vs.length=ps.length)(hbody:∀(cdv:Value) (A:Around) (outer:List Env) (s:Shared) (H:Hp) (vs:List V) (Q:VK) (E:XK),Room k (A.deeper (envOfC qual (defScope st) s.heap.objs.size f cdv))->sp vs H Q E->
   ∃t,PSs (cxOf CX0 P w K mg base N qual (defScope st) f cdv A outer s H E).nox (defBody st) t/\t {nx:=fun _ H'=>Q .non H',rt:=Q} (start N vs) H):FnOk P w K mg base CX0 (k+1) f fd ps sp:=by
 obtain⟨oc,od,kV,doc,pm,an,cdv,ct,osl,rfl,lk,hcd⟩:=F.ex
 refine fn_of lk hcd S len fun A outer s H vs Q E hr hsp=> ?_
 obtain⟨t,h,q⟩:=hbody cdv A outer s H vs Q E hr hsp
 exact⟨t,h.nox,q⟩
theorem Fun.binds{x qual:Str}{st:Stmt}{f:Addr}{fd:FuncData}{ps:List Str}(F:Fun K x qual st f fd)(h:∀(kV doc pm:Value) (an:Option Addr) (cdv ct:Value) (us:List Value),us.length=ps.length->bindArgs (PySem.W.fnOf x qual (defArgs st) (defBody st) (defScope st) .none kV doc pm an cdv ct) ⟨us,[]⟩=pure (ps.zip us)):Binds K fd ps []:=by
 obtain⟨oc,od,kV,doc,pm,an,cdv,ct,osl,rfl,lk,hcd⟩:=F.ex
 exact .all (h kV doc pm an cdv ct)
theorem fun_mk{x qual:Str}{st:Stmt}{f:Addr}{oc:Value}{od an:Option Addr}{osl:Array (Option Value)}{kV doc pm cdv ct:Value}(l:K.lookup f=some ⟨oc,od,.func (PySem.W.fnOf x qual (defArgs st) (defBody st) (defScope st) .none kV doc pm an cdv ct),osl⟩)(c:PySem.W.codeIn K cdv qual=true)(k:PySem.W.keepIn K (.ref f)=true):Fun K x qual st f (PySem.W.fnOf x qual (defArgs st) (defBody st) (defScope st) .none kV doc pm an cdv ct):=⟨⟨oc,od,kV,doc,pm,an,cdv,ct,osl,rfl,l,c⟩,k⟩
end
theorem small1000{n:Nat}(h:n<=1000):n<sizeLine:=GK h (by decide)
section
variable{X:Cx}
theorem pv(i:Nat){x:Str}{pos:Pos}(hN:X.N[i]? =some x:=by rfl)(hv:Vis X.env.scope x:=by first |exact Or.inl rfl|exact Or.inr (Or.inl rfl)|exact Or.inr (Or.inr rfl))(hd:(x==("__debug__":Str))=false:=by decide)(hcd:(x==("__classdict__":Str))=false:=by decide):PE X (.Name x pos) (tVar i):=pe_var hN hv hd hcd
end
theorem iteF{A B:Prop}(h:B):if false=true then A else B:=by
 rw[ao sW]
 exact h
theorem iteT{A B:Prop}(h:A):if true=true then A else B:=by
 rw[aA rfl]
 exact h
theorem ite2{c A B:Prop} [Decidable c](h1:c->A)(h2:¬c->B):if c then A else B:=by
 by_cases h:c
 ·rw[aA h]
  exact h1 h
 ·rw[ao h]
  exact h2 h
def Same(H H':Hp):Prop:=∀b o,H b=some o->H' b=some o
theorem Same.refl(H:Hp):Same H H:=fun _ _ h=>h
theorem Same.trans{H H1 H2:Hp}(a:Same H H1)(b:Same H1 H2):Same H H2:=fun c o h=>b c o (a c o h)
theorem Same.free{H H':Hp}(e:Same H H'){l:Addr}(h:H' l=Option.none):H l=Option.none:=by
 cases q:H l with
 |none=>rfl
 |some o=>
  rw[e l o q]at h
  cases h
theorem Same.seq{K:W.Frag}{H H':Hp}{a:Addr}{xs:List V}(e:Same H H')(h:SqL K H a xs):SqL K H' a xs:=by
 rcases h with(h|⟨o,h⟩)|h
 ·exact .inl (.inl (e _ _ h))
 ·exact .inl (.inr ⟨o,e _ _ h⟩)
 ·exact .inr h
end L2
set_option maxHeartbeats 4000000
namespace L2
open PySem PySem.Spec PyProof.Rows
def jJ(cells:List (Str×Addr)):List (Str×NameKind)->List (Str×Addr)->List (Str×Addr)
 |[],acc=>acc
 |p::r,acc=>jJ cells r (if(p.2==NameKind.free)=true then(p.1,(cells.lookup p.1).getD 0)::acc else acc)
theorem mF{cells:List (Str×Addr)}:∀{names:List (Str×NameKind)} {acc:List (Str×Addr)} {x:Str} {c:Addr},(x,c)∈jJ cells names acc->(x,c)∈acc\/c=(cells.lookup x).getD 0/\(x,NameKind.free)∈names
 |[],_,_,_,h=> .inl h
 |(n,k)::r,acc,x,c,h=>by
  rcases mF (names:=r) h with q|⟨q,m⟩
  ·dsimp only at q
   split at q
   ·rename_i hk
    rcases eN.mp q with e|e
    ·cases e
     have:k=NameKind.free:=by simpa using hk
     subst this
     exact .inr ⟨rfl,jV⟩
    ·exact .inl e
   ·exact .inl q
  ·exact .inr ⟨q,iZ _ m⟩
theorem yJ{cells:List (Str×Addr)}:∀{names:List (Str×NameKind)} {acc:List (Str×Addr)} {p:Str×Addr},p∈acc->p∈jJ cells names acc
 |[],_,_,h=>h
 |(n,k)::r,acc,p,h=>by
  refine yJ (names:=r) ?_
  split
  ·exact iZ _ h
  ·exact h
theorem yI{cells:List (Str×Addr)}:∀{names:List (Str×NameKind)} {acc:List (Str×Addr)} {x:Str},(x,NameKind.free)∈names->∃c,(x,c)∈jJ cells names acc
 |(n,k)::r,acc,x,h=>by
  rcases eN.mp h with e|e
  ·cases e
   refine⟨(cells.lookup n).getD 0,yJ (names:=r) ?_⟩
   rw[aA (show(NameKind.free==NameKind.free)=true from rfl)]
   exact jV
  ·exact yI (names:=r) e
theorem XS{β:Type}:∀{l:List (Str×β)} {x:Str} {c:β},(x,c)∈l->∃d,l.lookup x=some d/\(x,d)∈l
 |(n,k)::r,x,c,h=>by
  cases hx:x==n with
  |true=>
   have e:x=n:=by simpa using hx
   subst e
   exact⟨k,by simp[GF],jV⟩
  |false=>
   rcases eN.mp h with e|e
   ·cases e;simp at hx
   ·obtain⟨d,h1,h2⟩:=XS e
    exact⟨d,by simp only[GF,hx];exact h1,iZ _ h2⟩
section
variable{sc scope:Scope}
end
theorem rC{scope:Scope}{env:Env}(h:∀x,(x,NameKind.free)∈scope.names->∃c,env.cells.lookup x=some c):closureFor scope env=pure (jJ env.cells scope.names []):=by
 have key:∀(names:List (Str×NameKind)) (acc:List (Str×Addr)),(∀x,(x,NameKind.free)∈names->∃c,env.cells.lookup x=some c)->
   (forIn names acc fun(x:Str×NameKind) (cs:List (Str×Addr))=>if(x.2==NameKind.free)=true then(do let y<-cellOf env x.1;pure (ForInStep.yield ((x.1,y)::cs)))else pure (ForInStep.yield cs):Sem (List (Str×Addr)))=pure (jJ env.cells names acc):=by
  intro names
  induction names with
  |nil=>intro acc _;rfl
  |cons p r ih=>
   intro acc hh
   obtain⟨n,k⟩:=p
   rw[List.forIn_cons]
   dsimp only
   by_cases hk:(k==NameKind.free)=true
   ·have e:k=NameKind.free:=by simpa using hk
    subst e
    obtain⟨c,hc⟩:=hh n jV
    rw[aA hk]
    unfold cellOf
    rw[hc]
    simp only[pure_bind]
    refine Eq.trans (ih _ fun x hx=>hh x (iZ _ hx)) ?_
    show _=pure (jJ env.cells r (if(NameKind.free==NameKind.free)=true then(n,(env.cells.lookup n).getD 0)::acc else acc))
    rw[aA hk,hc]
    rfl
   ·rw[ao hk]
    simp only[pure_bind]
    refine Eq.trans (ih _ fun x hx=>hh x (iZ _ hx)) ?_
    show _=pure (jJ env.cells r (if(k==NameKind.free)=true then(n,(env.cells.lookup n).getD 0)::acc else acc))
    rw[ao hk]
 have q:=key scope.names [] h
 unfold closureFor
 simp only[bind_pure]
 exact q
theorem j6{env:Env}:∀{names:List (Str×NameKind)} {x:Str} {k:NameKind},names.lookup x=some k->
  (names.map fun(n,k)=>if(k==NameKind.free&&env.scope.kind== .function&&env.kindOf n==some .cell)then(n,NameKind.cell)else(n,k)).lookup x=some (if(k==NameKind.free&&env.scope.kind== .function&&env.kindOf x==some .cell)=true then .cell else k)
 |[],_,_,h=>by simp at h
 |(n,k)::r,x,k',h=>by
  have ih:= @j6 env r x k'
  show List.lookup x ((if(k==NameKind.free&&env.scope.kind== .function&&env.kindOf n==some .cell)=true then(n,NameKind.cell)else(n,k))::_)=_
  cases hx:x==n with
  |true=>
   have e:x=n:=by simpa using hx
   subst e
   simp only[GF,hx]at h
   cases h
   by_cases hc:(k==NameKind.free&&env.scope.kind== .function&&env.kindOf x==some .cell)=true
   ·rw[aA hc,aA hc];simp[GF]
   ·rw[ao hc,ao hc];simp[GF]
  |false=>
   simp only[GF,hx]at h
   by_cases hc:(k==NameKind.free&&env.scope.kind== .function&&env.kindOf n==some .cell)=true
   ·rw[aA hc];simp only[GF,hx];exact ih h
   ·rw[ao hc];simp only[GF,hx];exact ih h
theorem qL{env:Env}:∀{names:List (Str×NameKind)} {x:Str},names.lookup x=none->
  (names.map fun(n,k)=>if(k==NameKind.free&&env.scope.kind== .function&&env.kindOf n==some .cell)then(n,NameKind.cell)else(n,k)).lookup x=none
 |[],_,_=>rfl
 |(n,k)::r,x,h=>by
  have ih:= @qL env r x
  show List.lookup x ((if(k==NameKind.free&&env.scope.kind== .function&&env.kindOf n==some .cell)=true then(n,NameKind.cell)else(n,k))::_)=_
  cases hx:x==n with
  |true=>simp only[GF,hx]at h;cases h
  |false=>
   simp only[GF,hx]at h
   by_cases hc:(k==NameKind.free&&env.scope.kind== .function&&env.kindOf n==some .cell)=true
   ·rw[aA hc];simp only[GF,hx];exact ih h
   ·rw[ao hc];simp only[GF,hx];exact ih h
theorem Ab{scope:Scope}{env:Env}{x:Str}(h:scope.names.lookup x=some .free):(relabel scope env).names.lookup x=some .cell\/(relabel scope env).names.lookup x=some .free:=by
 have q:=j6 (env:=env) h
 by_cases hc:((NameKind.free==NameKind.free)&&env.scope.kind== .function&&env.kindOf x==some .cell)=true
 ·rw[aA hc]at q;exact .inl q
 ·rw[ao hc]at q;exact .inr q
inductive oH(X:Cx)(scope:Scope):List Str->List Nat->Prop
 |nil:oH X scope [] []
 |cons {x:Str} {j:Nat} {xs:List Str} {js:List Nat} (hN:X.N[j]? =some x) (hf:scope.names.lookup x=some .free) (t:oH X scope xs js):oH X scope (x::xs) (j::js)
theorem oH.get{X:Cx}{scope:Scope}:∀{xs:List Str} {js:List Nat} {k:Nat} {x:Str},oH X scope xs js->xs[k]? =some x->∃j,js[k]? =some j/\X.N[j]? =some x/\scope.names.lookup x=some .free
 |_,_,k,x,.nil,h=>by simp at h
 |_,_,0,x,.cons h1 h2 _,h=>by simp at h;subst h;exact⟨_,rfl,h1,h2⟩
 |_,_,k+1,x,.cons _ _ t,h=>by
  obtain⟨j,a,b⟩:=oH.get (k:=k) t (by simpa using h)
  exact⟨j,by simpa using a,b⟩
theorem oH.len{X:Cx}{scope:Scope}:∀{xs:List Str} {js:List Nat},oH X scope xs js->xs.length=js.length
 |_,_,.nil=>rfl
 |_,_,.cons _ _ t=>by simp[oH.len t]
def yg(own:List Str)(ix:List Nat)(σ:St):St:=own.map (fun _=>none)++ix.map fun j=>(σ[j]?).join
def Uk(X:Cx)(ifs:List Expr)(t:TT):Prop:=
 ∀(pins:List (Addr×Obj)) (s:Shared) (σ:St) (H:Hp) (Q:Bool->Hp->Prop),Inv X pins σ H s->t σ H Q->
  wpAny (model X.prog X.w) X.A (forIn ifs true fun c r=>if r=true then do let ok<-isTrue c X.env (eval c X.env);pure (ForInStep.yield ok)else pure (ForInStep.yield r)) (TP X pins σ Q) X.xe s
theorem rY{X:Cx}:Uk X [] (fun _ H Q=>Q true H):=fun _ _ _ H _ I h=>wpAny_tests_nil ⟨H,I,h⟩
theorem Gu{X:Cx}{c:Expr}{t:TT}(h:PT X c t):Uk X [c] t:=fun pins s σ H Q I hq=>wpAny_tests_one (h pins s σ H Q I hq)
theorem HOk.add{P:Program}{w:World}{H:Hp}{h:Heap}{a:Addr}{o:HO}(x:HOk P w H h)(hn:H a=none)(new:ObjOk P w (upd H a o) h a o):HOk P w (upd H a o) h:=fun b u e=>by
 by_cases hb:b=a
 ·subst hb;rw[aH]at e;cases e;exact new
 ·rw[cL hb]at e
  exact(x b u e).stay (fun c v _ q=>q) (fun c q=>by rw[cL (pJ q hn)];exact q) fun c xs q=>by rw[cL (pJ q hn)];exact q
theorem Un.add{fs ex:List Addr}{H H':Hp}{h h':Heap}{a:Addr}{o:HO}(u:Un fs ex H H' h h')(ha:h.objs.size<=a)(hn:H' a=none):Un fs ex H (upd H' a o) h h' where
 keep:=u.keep
 slot:=u.slot
 free:=fun b ob q n hx=>by rw[cL (iK (jx (fD q) ha))];exact u.free b ob q n hx
 there:=u.there
 tups:=fun b xs q=>by have:=u.tups b xs q;rw[cL (pJ this hn)];exact this
 frzs:=fun b ob xs q=>by have:=u.frzs b ob xs q;rw[cL (pJ this hn)];exact this
 tbls:=fun b ps q=>by obtain⟨m,e⟩:=u.tbls b ps q;exact⟨m,by rw[cL (pJ e hn)];exact e⟩
section
variable{X:Cx}{tg iter elt:Expr}{ifs:List Expr}{scope:Scope}{pos:Pos}{own caps:List Str}{ix:List Nat}{g:TG}{tc:TT}{te:TE}
end
def yW(J:It)(ini:St)(H:Hp)(g:TG)(tc:TT)(te:TE)(Fin:List V->Hp->Prop):Prop:=
 ∃W:Nat->Nat->List V->St->Hp->Prop,(∃m,W 0 m [] ini H)/\∀i m acc σ H,W i m acc σ H->
  (J.stop i H/\acc.length<=sizeLine/\Fin acc H)\/(J.go i H/\acc.length<sizeLine/\∃N:List V->St->Hp->Prop,(∀acc' σ' H',N acc' σ' H'->∃m',m'<m/\W (i+1) m' acc' σ' H')/\∀x H',J.yld i H x H'->g x σ H' fun σ2 H2=>tc σ2 H2 fun b H3=>
   if b=true then te σ2 H3 fun v H4=>N (acc++[v]) σ2 H4 else N acc σ2 H3)
def Pz(wi:TI)(own:List Str)(ix:List Nat)(g:TG)(tc:TT)(te:TE):TE:=fun σ H Q=>wi σ H fun J H1=>
 yW J (yg own ix σ) H1 g tc te fun acc H'=>∀p,H' p=none->Q (.ref p) (upd H' p (.lst acc))
section
variable{X:Cx}{tg iter elt:Expr}{ifs:List Expr}{scope:Scope}{pos:Pos}{own caps:List Str}{ix:List Nat}{wi:TI}{g:TG}{tc:TT}{te:TE}
end
section
variable{K:W.Frag}{a:Addr}{xs:List V}{g:TG}{tc:TT}{te:TE}{Fin:List V->Hp->Prop}{ini:St}{H:Hp}
theorem Gx(Pv:Nat->List V->St->Hp->Prop)(h0:Pv 0 [] ini H)(hl:∀(i:Nat) acc σ H,i<=xs.length->Pv i acc σ H->SqL K H a xs)(hz:∀(i:Nat) acc σ H,i<=xs.length->Pv i acc σ H->acc.length<=i)(hx:xs.length<=sizeLine)(hs:∀(i:Nat) x acc σ H,xs[i]? =some x->Pv i acc σ H->g x σ H fun σ2 H2=>tc σ2 H2 fun b H3=>if b=true then te σ2 H3 fun v H4=>Pv (i+1) (acc++[v]) σ2 H4 else Pv (i+1) acc σ2 H3)(hd:∀acc σ H,Pv xs.length acc σ H->Fin acc H):yW (Itl K a) ini H g tc te Fin:=by
 refine⟨fun i m acc σ H=>m=xs.length-i/\i<=xs.length/\Pv i acc σ H,⟨xs.length,by simp,cY _,h0⟩,?_⟩
 rintro i m acc σ H ⟨rfl,hi,p⟩
 have q:=hl i acc σ H hi p
 have z:=hz i acc σ H hi p
 by_cases hlt:i<xs.length
 ·refine .inr ⟨⟨xs,xs[i],q,by simp[hlt]⟩,by omega,fun acc σ H=>Pv (i+1) acc σ H,fun acc' σ' H' r=>⟨_,by omega,rfl,hlt,r⟩,fun x H' y=> ?_⟩
  obtain⟨e,y⟩:=y
  subst e
  exact hs i x acc σ _ (y xs q) p
 ·have e:i=xs.length:=by omega
  subst e
  exact .inl ⟨⟨xs,q,aU _⟩,by omega,hd acc σ H p⟩
theorem dM(Pv:Nat->List V->St->Hp->Prop)(h0:Pv 0 [] ini H)(hl:∀(i:Nat) acc σ H,i<=xs.length->Pv i acc σ H->SqT K H a xs)(hz:∀(i:Nat) acc σ H,i<=xs.length->Pv i acc σ H->acc.length<=i)(hx:xs.length<=sizeLine)(hs:∀(i:Nat) x acc σ H,xs[i]? =some x->Pv i acc σ H->g x σ H fun σ2 H2=>tc σ2 H2 fun b H3=>if b=true then te σ2 H3 fun v H4=>Pv (i+1) (acc++[v]) σ2 H4 else Pv (i+1) acc σ2 H3)(hd:∀acc σ H,Pv xs.length acc σ H->Fin acc H):yW (Itt K a) ini H g tc te Fin:=by
 refine⟨fun i m acc σ H=>m=xs.length-i/\i<=xs.length/\Pv i acc σ H,⟨xs.length,by simp,cY _,h0⟩,?_⟩
 rintro i m acc σ H ⟨rfl,hi,p⟩
 have q:=hl i acc σ H hi p
 have z:=hz i acc σ H hi p
 by_cases hlt:i<xs.length
 ·refine .inr ⟨⟨xs,xs[i],q,by simp[hlt]⟩,by omega,fun acc σ H=>Pv (i+1) acc σ H,fun acc' σ' H' r=>⟨_,by omega,rfl,hlt,r⟩,fun x H' y=> ?_⟩
  obtain⟨e,y⟩:=y
  subst e
  exact hs i x acc σ _ (y xs q) p
 ·have e:i=xs.length:=by omega
  subst e
  exact .inl ⟨⟨xs,q,aU _⟩,by omega,hd acc σ H p⟩
theorem Lg{lo:Int}{n:Nat}(Pv:Nat->List V->St->Hp->Prop)(h0:Pv 0 [] ini H)(hz:∀(i:Nat) acc σ H,i<=n->Pv i acc σ H->acc.length<=i)(hx:n<=sizeLine)(hs:∀(i:Nat) acc σ H,i<n->Pv i acc σ H->g (.int (lo+i)) σ H fun σ2 H2=>tc σ2 H2 fun b H3=>if b=true then te σ2 H3 fun v H4=>Pv (i+1) (acc++[v]) σ2 H4 else Pv (i+1) acc σ2 H3)(hd:∀acc σ H,Pv n acc σ H->Fin acc H):yW (Itr lo n) ini H g tc te Fin:=by
 refine⟨fun i m acc σ H=>m=n-i/\i<=n/\Pv i acc σ H,⟨n,by simp,cY _,h0⟩,?_⟩
 rintro i m acc σ H ⟨rfl,hi,p⟩
 have z:=hz i acc σ H hi p
 by_cases hlt:i<n
 ·refine .inr ⟨hlt,by omega,fun acc σ H=>Pv (i+1) acc σ H,fun acc' σ' H' r=>⟨_,by omega,rfl,hlt,r⟩,fun x H' y=> ?_⟩
  obtain⟨e,y⟩:=y
  subst e y
  exact hs i acc σ _ hlt p
 ·have e:i=n:=by omega
  subst e
  exact .inl ⟨aU _,by omega,hd acc σ H p⟩
end
end L2
namespace vX
open PySem PySem.W PyProof.Rows
section
variable{O:KeyOrd}{key:Nat->O.α}{N:Nat}{cmp:Nat->Nat->(Bool->Shared->Prop)->Shared->Prop}{s:Shared}
def jQ(O:KeyOrd)(key:Nat->O.α)(N:Nat)(cmp:Nat->Nat->(Bool->Shared->Prop)->Shared->Prop)(s:Shared):Prop:=
 ∀i j (C:Bool->Shared->Prop),i<N->j<N->C (O.blt (key i) (key j)) s->cmp i j C s
def KN(key:Nat->O.α)(p:Array Nat)(i:Nat):O.α:=key (p.getD i 0)
def So(key:Nat->O.α)(p:Array Nat)(k:Nat):Prop:=∀i j,i<=j->j<k->O.kle (KN key p i) (KN key p j)
def Ni(key:Nat->O.α)(p:Array Nat)(k:Nat):Prop:=∀i j,i<=j->j<k->O.kle (KN key p j) (KN key p i)
structure Ord(N:Nat)(p:Array Nat):Prop where
 perm:p.Perm (List.toArray (List.range N))
theorem Ord.size{p:Array Nat}(h:Ord N p):p.size=N:=by have:=h.perm.size_eq;simpa using this
theorem Ord.lt{p:Array Nat}(h:Ord N p){i:Nat}(hi:i<N):p.getD i 0<N:=by
 have hi':i<p.size:=by rw[h.size];exact hi
 have e:p.getD i 0=p[i]:=by simp[Array.getD,hi']
 rw[e]
 have m:p[i]∈p.toList:=by simp
 have:=(Zk.mp h.perm).mem_iff.mp m
 simpa using this
theorem Ord.rev{p:Array Nat}(h:Ord N p)(i j:Nat):Ord N (kas_rev p i j):=⟨(mirror_perm _ _ _ _).trans h.perm⟩
theorem Ord.bub{p:Array Nat}(h:Ord N p)(i j:Nat):Ord N (bubble p i j):=⟨(bubble_perm _ _ _).trans h.perm⟩
theorem qY(p:Array Nat)(i:Nat):p.getD i 0=(p[i]?).getD 0:=by simp
theorem BL{p:Array Nat}{i j:Nat}(hj:j<=p.size)(k:Nat):KN key (kas_rev p i j) k=if i<=k/\k<j then KN key p (i+j-1-k)else KN key p k:=by
 have e:=getElem?_mirror_all (i:=i) hj k
 unfold KN kas_rev
 rw[qY,e]
 split
 ·rw[qY]
 ·rw[qY]
theorem Uq{p:Array Nat}{i j:Nat}(hj:j<=p.size)(heq:∀k,i<=k->k<j->KN key p k=KN key p (j-1))(k:Nat):KN key (kas_rev p i j) k=KN key p k:=by
 rw[BL hj]
 split
 ·rename_i h
  rw[heq k h.1 h.2,heq _ (by omega) (by omega)]
 ·rfl
theorem K7{p:Array Nat}{src d:Nat}(hs:src<p.size)(hd:d<=src)(k:Nat):KN key (bubble p src d) k=if k=src-d then KN key p src else if src-d<k/\k<=src then KN key p (k-1)else KN key p k:=by
 have e:=getElem?_bubble hs d hd k
 have q:KN key (bubble p src d) k=key (((bubble p src d)[k]?).getD 0):=iW key (qY _ _)
 have q2:∀i,KN key p i=key ((p[i]?).getD 0):=fun i=>iW key (qY _ _)
 rw[q,e,q2,q2,q2]
 by_cases h1:k=src-d
 ·rw[aA h1,aA h1]
 ·rw[ao h1,ao h1]
  by_cases h2:src-d<k/\k<=src
  ·rw[aA h2,aA h2]
  ·rw[ao h2,ao h2]
theorem Dm{i j:Nat}(h:i<=j)(hn:¬i=j):i<=j-1:=Yg (Ph h hn)
theorem Bg{j n:Nat}(h:j<n+1)(hn:¬j<n):j=n:=QH (Pg h) (Nat.not_lt.mp hn)
theorem jf{x k:Nat}(h:1<=x)(hk:x<=k):x-1<k:=U5 h hk
theorem Aw{x f N:Nat}(h:x+(f+1)<=N):x<N:=jx (Nat.lt_add_of_pos_right (wg f)) h
theorem uG{x f N:Nat}(h:x+(f+1)<=N):x+1+f<=N:=dW (Cg (Yj x f)) h
theorem Pr{x f m:Nat}(h:m<=x+1+f):m<=x+(f+1):=dW h (Cg (Yj x f))
theorem Ro{i j n:Nat}(h:i<=j):0+n-1-j<=0+n-1-i:=Nat.sub_le_sub_left h _
theorem Rn{i n:Nat}(h:i<n):0+n-1-i<n:=by
 rw[Yq]
 exact GK (Yn _ _) (U5 (GK (cY _) h) (aU _))
theorem asc(ok:jQ O key N cmp s){p:Array Nat}(hp:Ord N p){Q:Nat->Shared->Prop}:∀(f n:Nat),1<=n->n+f<=N->So key p n->(∀m,n<=m->m<=n+f->So key p m->(m=n+f\/O.klt (KN key p m) (KN key p (m-1)))->Q m s)->(kas_asc p f n).kasWp cmp Q s
 |0,n,_,_,hs,h=>h n (aU _) (aU _) hs (.inl rfl)
 |f+1,n,h1,hn,hs,h=>by
  have RX:n<N:=Aw hn
  refine ok _ _ _ (hp.lt RX) (hp.lt (jf h1 (cM RX))) ?_
  cases hless:O.blt (key (p.getD n 0)) (key (p.getD (n-1) 0))with
  |true=>
   show Q n s
   exact h n (aU _) (Nat.le_add_right _ _) hs (.inr hless)
  |false=>
   show(kas_asc p f (n+1)).kasWp cmp Q s
   refine asc ok hp f (n+1) (wg _) (uG hn) (fun i j hij hj=> ?_) fun m a b c d=>h m (ZL a) (Pr b) c (d.imp (fun z=>z.trans (Yj n f)) id)
   by_cases hjn:j<n
   ·exact hs i j hij hjn
   ·have hj':j=n:=Bg hj hjn
    subst hj'
    by_cases hi':i=j
    ·subst hi';exact Mj _
    ·exact Yy (hs i (j-1) (Dm hij hi') (jf h1 (aU _))) hless
theorem tail3(ok:jQ O key N cmp s){p:Array Nat}(hp:Ord N p){n:Nat}{Q:Nat×Array Nat->Shared->Prop}(h1:1<=n)(hn:n<=N)(hs:Ni key p n)(h:∀m p',Ord N p'->1<=m->m<=N->So key p' m->Q (m,p') s):(kas_tail3 n N p).kasWp cmp Q s:=by
 unfold kas_tail3
 rw[Vk]
 have hsz:n<=p.size:=by rw[hp.size];exact hn
 have hN:n+(N-n)=N:=Z9 hn
 refine asc ok (hp.rev 0 n) (N-n) n h1 (Cg hN) (fun i j hij hj=> ?_) fun m a b c _=>h m _ (hp.rev 0 n) (dW h1 a) (dW b (Cg hN)) c
 rw[BL hsz,BL hsz,aA ⟨cY _,GK hij hj⟩,aA ⟨cY _,hj⟩]
 exact hs _ _ (Ro hij) (Rn (GK hij hj))
theorem KH{p p':Array Nat}{x:Nat}(h1:1<=x)(hs:Ni key p x)(hless:O.kle (KN key p x) (KN key p (x-1)))(hk:∀k,KN key p' k=KN key p k):Ni key p' (x+1):=by
 intro i j hij hj
 rw[hk,hk]
 by_cases hjx:j<x
 ·exact hs i j hij hjx
 ·have hj':j=x:=Bg hj hjx
  subst hj'
  by_cases hi':i=j
  ·subst hi';exact Mj _
  ·exact Yy hless (hs i (j-1) (Dm hij hi') (jf h1 (aU _)))
theorem one_eq{p:Array Nat}{x i:Nat}(h1:x+1-(0+1)<=i)(h2:i<x+1):KN key p i=KN key p (x+1-1):=iW _ (QH (Pg h2) h1)
theorem desc(ok:jQ O key N cmp s){Q:Array Nat×Nat×Nat->Shared->Prop}:∀(f:Nat) (p:Array Nat) (x neq:Nat),Ord N p->1<=x->x+f<=N->Ni key p x->neq+1<=x->(∀i,x-(neq+1)<=i->i<x->KN key p i=KN key p (x-1))->
  (∀p' m q,Ord N p'->x<=m->m<=x+f->Ni key p' m->q+1<=m->(∀i,m-(q+1)<=i->i<m->KN key p' i=KN key p' (m-1))->Q (p',m,q) s)->(kas_desc f p x neq).kasWp cmp Q s
 |0,p,x,neq,hp,_,_,hs,hq,he,h=>h p x neq hp (aU _) (aU _) hs hq he
 |f+1,p,x,neq,hp,h1,hn,hs,hq,he,h=>by
  have YX:x<N:=Aw hn
  have hsz:x<=p.size:=by rw[hp.size];exact cM YX
  have hx1:x-1<N:=jf h1 (cM YX)
  have hh:∀p' m q,Ord N p'->x+1<=m->m<=x+1+f->Ni key p' m->q+1<=m->(∀i,m-(q+1)<=i->i<m->KN key p' i=KN key p' (m-1))->Q (p',m,q) s:=fun p' m q a b c d e g=>h p' m q a (ZL b) (Pr c) d e g
  refine ok _ _ _ (hp.lt YX) (hp.lt hx1) ?_
  cases hless:O.blt (key (p.getD x 0)) (key (p.getD (x-1) 0))with
  |true=>
   show(if neq>0 then kas_desc f (kas_rev p (x-(neq+1)) x) (x+1) 0 else kas_desc f p (x+1) 0).kasWp cmp Q s
   by_cases hneq:neq>0
   ·rw[aA hneq]
    exact desc ok f _ (x+1) 0 (hp.rev _ _) (wg _) (uG hn) (KH h1 hs (Vm hless) (Uq hsz he)) (wg _) (fun i h1 h2=>one_eq h1 h2) hh
   ·rw[ao hneq]
    exact desc ok f _ (x+1) 0 hp (wg _) (uG hn) (KH h1 hs (Vm hless) fun _=>rfl) (wg _) (fun i h1 h2=>one_eq h1 h2) hh
  |false=>
   show(KasT.ask (p.getD (x-1) 0) (p.getD x 0) fun d=>if d=true then KasT.ret (p,x,neq)else kas_desc f p (x+1) (neq+1)).kasWp cmp Q s
   refine ok _ _ _ (hp.lt hx1) (hp.lt YX) ?_
   cases hl:O.blt (key (p.getD (x-1) 0)) (key (p.getD x 0))with
   |true=>exact h p x neq hp (aU _) (Nat.le_add_right _ _) hs hq he
   |false=>
    show(kas_desc f p (x+1) (neq+1)).kasWp cmp Q s
    have heqx:KN key p x=KN key p (x-1):=KeyOrd.kle_antisymm hl hless
    refine desc ok f _ (x+1) (neq+1) hp (wg _) (uG hn) (KH h1 hs (by rw[heqx];exact Mj _) fun _=>rfl) (Nat.succ_le_succ hq) (fun i h1 h2=> ?_) hh
    show KN key p i=KN key p x
    by_cases hix:i=x
    ·subst hix;rfl
    ·rw[heqx];exact he i (dW (Cg (Nat.succ_sub_succ x (neq+1)).symm) h1) (Ph (Pg h2) hix)
theorem descPart(ok:jQ O key N cmp s){p:Array Nat}(hp:Ord N p){n:Nat}{Q:Nat×Array Nat->Shared->Prop}(hn:n+1<=N)(hs:Ni key p (n+1))(h:∀m p',Ord N p'->1<=m->m<=N->So key p' m->Q (m,p') s):(kas_descPart n N p).kasWp cmp Q s:=by
 unfold kas_descPart
 rw[Vk]
 have hN:n+1+(N-(n+1))<=N:=Cg (Z9 hn)
 refine desc ok _ _ _ _ hp (wg _) hN hs (wg _) (fun i h1 h2=>one_eq h1 h2) fun p' m q a b c d e g=> ?_
 have hm:m<=N:=dW c hN
 have hm1:1<=m:=dW (wg _) b
 have hsz:m<=p'.size:=by rw[a.size];exact hm
 dsimp only
 by_cases hq:q>0
 ·rw[aA hq]
  refine tail3 ok (a.rev _ _) hm1 hm (fun i j hij hj=> ?_) h
  rw[Uq hsz g,Uq hsz g]
  exact d i j hij hj
 ·rw[ao hq]
  exact tail3 ok a hm1 hm d h
theorem count(ok:jQ O key N cmp s){p:Array Nat}(hp:Ord N p){Q:Nat×Array Nat->Shared->Prop}(h1:1<=N)(h:∀m p',Ord N p'->1<=m->m<=N->So key p' m->Q (m,p') s):(kas_count N p).kasWp cmp Q s:=by
 unfold kas_count
 rw[Vk]
 have hN:1+(N-1)=N:=Z9 h1
 refine asc ok hp (N-1) 1 (aU _) (Cg hN) (fun i j hij hj=>by
  have hj0:j=0:=Nat.lt_one_iff.mp hj
  subst hj0
  have hi0:i=0:=Nat.le_zero.mp hij
  subst hi0;exact Mj _) fun n a b hsn hor=> ?_
 have RX:n<=N:=dW b (Cg hN)
 by_cases hnn:n=N
 ·rw[aA (by simpa using hnn)]
  exact h n p hp a RX hsn
 ·rw[ao (by simpa using hnn)]
  have hlt:O.klt (KN key p n) (KN key p (n-1)):=hor.resolve_left fun z=>hnn (z.trans hN)
  have RZ:n<N:=Ph RX hnn
  by_cases hgt:n>1
  ·rw[aA hgt]
   have hn1:n-1<n:=jf a (aU _)
   refine ok _ _ _ (hp.lt h1) (hp.lt (LC hn1 RZ)) ?_
   cases hrose:O.blt (key (p.getD 0 0)) (key (p.getD (n-1) 0))with
   |true=>exact h n p hp a RX hsn
   |false=>
    show(kas_descPart n N (kas_rev p 0 n)).kasWp cmp Q s
    have hsz:n<=p.size:=by rw[hp.size];exact RX
    have hall:∀k,0<=k->k<n->KN key p k=KN key p (n-1):=fun k _ hk=>
     KeyOrd.kle_antisymm (hsn k (n-1) (Yg hk) hn1) (Yy hrose (hsn 0 k (cY _) hk))
    refine descPart ok (hp.rev 0 n) RZ (fun i j hij hj=> ?_) h
    rw[Uq hsz hall,Uq hsz hall]
    by_cases hjn:j<n
    ·rw[hall i (cY _) (GK hij hjn),hall j (cY _) hjn];exact Mj _
    ·have hj':j=n:=Bg hj hjn
     subst hj'
     by_cases hi':i=j
     ·subst hi';exact Mj _
     ·rw[hall i (cY _) (Ph hij hi')];exact Vm hlt
  ·rw[ao hgt]
   have hn1':n=1:=QH (Nat.not_lt.mp hgt) a
   subst hn1'
   refine descPart ok hp RZ (fun i j hij hj=> ?_) h
   by_cases hi':i=j
   ·subst hi';exact Mj _
   ·have hij':i<j:=Ph hij hi'
    have hj1:j=1:=QH (Pg hj) (GK (cY i) hij')
    subst hj1
    have hi0:i=0:=Nat.lt_one_iff.mp hij'
    subst hi0
    exact Vm hlt
theorem half_lt{l r:Nat}(h:l<r):(l+r)/2<r:=by omega
theorem NP{l r:Nat}(h:l<r):l<=(l+r)/2:=by omega
theorem place(ok:jQ O key N cmp s){p:Array Nat}(hp:Ord N p){k:Nat}{Q:Nat->Shared->Prop}(hk:k<N)(hs:So key p k):∀(f l r:Nat),l<=r->r<=k->r-l<=f->(∀i,i<l->O.kle (KN key p i) (KN key p k))->(∀i,r<=i->i<k->O.klt (KN key p k) (KN key p i))->
  (∀l,l<=k->(∀i,i<l->O.kle (KN key p i) (KN key p k))->(∀i,l<=i->i<k->O.klt (KN key p k) (KN key p i))->Q l s)->(kas_place p k f l r).kasWp cmp Q s
 |0,l,r,hlr,hrk,hm,hlo,hhi,h=>by
  have e:l=r:=QH hlr (Nat.sub_eq_zero_iff_le.mp (Nat.le_zero.mp hm))
  subst e
  exact h l hrk hlo hhi
 |f+1,l,r,hlr,hrk,hm,hlo,hhi,h=>by
  show(if l≥r then KasT.ret l else KasT.ask (p.getD k 0) (p.getD ((l+r)/2) 0) fun c=>if c=true then kas_place p k f l ((l+r)/2)else kas_place p k f ((l+r)/2+1) r).kasWp cmp Q s
  by_cases hge:l≥r
  ·rw[aA hge]
   have e:l=r:=QH hlr hge
   subst e
   exact h l hrk hlo hhi
  ·rw[ao hge]
   have hc:(l+r)/2<r:=half_lt (Nat.not_le.mp hge)
   have hd:l<=(l+r)/2:=NP (Nat.not_le.mp hge)
   generalize (l+r)/2=c at hc hd⊢
   refine ok _ _ _ (hp.lt hk) (hp.lt (LC (jx hc hrk) hk)) ?_
   cases hless:O.blt (key (p.getD k 0)) (key (p.getD c 0))with
   |true=>
    refine place ok hp hk hs f l c hd (cM (jx hc hrk)) (Pg (jx (Nat.sub_lt_sub_right hd hc) hm)) hlo (fun i h1 h2=> ?_) h
    by_cases hi:i=c
    ·subst hi;exact hless
    ·exact KeyOrd.klt_of_klt_of_kle hless (hs c i h1 h2)
   |false=>
    refine place ok hp hk hs f (c+1) r hc hrk (Pg (jx (Nat.sub_lt_sub_left (GK hd hc) (Nat.lt_succ_of_le hd)) hm)) (fun i h1=> ?_) hhi h
    by_cases hi:i=c
    ·subst hi;exact hless
    ·exact Yy (hs i c (Pg h1) (jx hc hrk)) hless
theorem Xp{p:Array Nat}{k l:Nat}(hs:So key p k)(hl:l<=k)(hsz:k<p.size)(hlo:∀i,i<l->O.kle (KN key p i) (KN key p k))(hhi:∀i,l<=i->i<k->O.klt (KN key p k) (KN key p i)):So key (bubble p k (k-l)) (k+1):=by
 intro i j hij hj
 have e:k-(k-l)=l:=Nat.sub_sub_self hl
 rw[K7 hsz (Yn _ _),K7 hsz (Yn _ _),e]
 have hjk:j<=k:=Pg hj
 by_cases hi1:i=l
 ·rw[aA hi1]
  by_cases hj1:j=l
  ·rw[aA hj1];exact Mj _
  ·have lj:l<j:=Ph (hi1▸hij) (lE hj1)
   rw[ao hj1,aA ⟨lj,hjk⟩]
   exact Vm (hhi (j-1) (Yg lj) (U5 (GK (cY _) lj) hjk))
 ·rw[ao hi1]
  by_cases hi2:l<i/\i<=k
  ·have lj:l<j:=jx hi2.1 hij
   rw[aA hi2,ao (lE (iK lj)),aA ⟨lj,hjk⟩]
   exact hs _ _ (Nat.sub_le_sub_right hij 1) (U5 (GK (cY _) lj) hjk)
  ·rw[ao hi2]
   have il:i<l:=Ph (Nat.not_lt.mp fun z=>hi2 ⟨z,dW hij hjk⟩) hi1
   by_cases hj1:j=l
   ·rw[aA hj1];exact hlo i il
   ·rw[ao hj1]
    by_cases hj2:l<j/\j<=k
    ·rw[aA hj2];exact hs _ _ (Yg (LC il hj2.1)) (U5 (GK (cY _) hj2.1) hjk)
    ·rw[ao hj2];exact hs _ _ hij (jx (Ph (Nat.not_lt.mp fun z=>hj2 ⟨z,hjk⟩) hj1) hl)
theorem bins(ok:jQ O key N cmp s){Q:Array Nat->Shared->Prop}:∀(f:Nat) (p:Array Nat) (k:Nat),Ord N p->1<=k->k+f=N->So key p k->(∀p',Ord N p'->So key p' N->Q p' s)->(kas_bin f p k).kasWp cmp Q s
 |0,p,k,hp,_,hf,hs,h=>h p hp ((show k=N from hf)▸hs)
 |f+1,p,k,hp,h1,hf,hs,h=>by
  show((kas_place p k k 0 k).bind fun l=>kas_bin f (bubble p k (k-l)) (k+1)).kasWp cmp Q s
  rw[Vk]
  have hk:k<N:=Aw (Cg hf)
  have hsz:k<p.size:=by rw[hp.size];exact hk
  refine place ok hp hk hs k 0 k (cY _) (aU _) (Yn _ _) (fun i hi=>absurd hi (QG _)) (fun i h1 h2=>absurd h2 (Nat.not_lt.mpr h1)) fun l hl hlo hhi=> ?_
  exact bins ok f _ (k+1) (hp.bub _ _) (wg _) ((Yj k f).trans hf) (Xp hs hl hsz hlo hhi) h
theorem sort(ok:jQ O key N cmp s){Q:Array Nat->Shared->Prop}(h1:1<=N)(h:∀p',Ord N p'->So key p' N->Q p' s):(kas_sort N).kasWp cmp Q s:=by
 unfold kas_sort
 rw[Vk]
 refine count ok ⟨Array.Perm.refl _⟩ h1 fun m p' hp hm1 hm2 hs=> ?_
 dsimp only
 by_cases hlt:m<N
 ·rw[aA hlt]
  have e:max m 1=m:=by omega
  rw[e]
  exact bins ok _ _ _ hp hm1 (by omega) hs h
 ·rw[ao hlt]
  have e:m=N:=by omega
  subst e
  exact h p' hp hs
end
end vX
namespace vX
open PySem PySem.W PyProof.Rows PySem.Calls
def Ov{O:KeyOrd}(key:Nat->O.α)(vs out:List Value):Prop:=∃p:Array Nat,Ord vs.length p/\So key p vs.length/\out=p.toList.map fun i=>vs.getD i Value.none
section
variable{prog:Program}{w:World}{A:Around}{E:Value->Shared->Prop}{s:Shared}{O:KeyOrd}{key:Nat->O.α}{κ:SortKind}{vs:List Value}
theorem Ad(h2:vs.length<2):Ov key vs vs:=by
 refine⟨List.toArray (List.range vs.length),⟨Array.Perm.refl _⟩,fun i j hij hj=> ?_,?_⟩
 ·have e:i=j:=by omega
  subst e;exact Mj _
 ·match vs,h2 with
  |[],_=>rfl
  |[v],_=>rfl
  |_::_::_,h=>simp at h;omega
theorem sI{a:Addr}{n:Nat}{P:PySem.Fin->Shared->Prop}(ho:s.heap.get? a=some (seqObj "list" vs.toArray n))(h64:vs.length<64)(hkind:2<=vs.length->∀h',(∀b o,b≠a->s.heap.get? b=some o->h'.get? b=some o)->∀Q:SortKind->Shared->Prop,Q κ {s with heap:=h'}->wpAny (model prog w) A (keyKind' vs.toArray) Q E {s with heap:=h'})(R3:2<=vs.length->∀h',(∀b o,b≠a->s.heap.get? b=some o->h'.get? b=some o)->jQ O key vs.length (kas_ask prog w A κ vs) {s with heap:=h'})(h:∀h' out c,Ov key vs out->(∀b o,b≠a->s.heap.get? b=some o->h'.get? b=some o)->h'.get? a=some (seqObj "list" (List.toArray out) c)->P (.done (.ret .none)) {s with heap:=h'}):
  wpAny (model prog w) A (Builtin.«list.sort» ⟨[.ref a],[]⟩) P E s:=by
 have ha:a<s.heap.objs.size:=fD ho
 have s1:=T4 s.heap a (Obj.mapSeq fun _=>(#[]:Array Value))
 obtain⟨e1,ho1⟩:∃e1,(s.heap.update a (Obj.mapSeq fun _=>(#[]:Array Value))).get? a=some (seqObj "list" #[] e1):=⟨_,Vj ho fun _=>#[]⟩
 have keep:∀b o,b≠a->s.heap.get? b=some o->(((s.heap.update a (Obj.mapSeq fun _=>(#[]:Array Value))).push (seqObj "tuple" vs.toArray 0)).push (seqObj "list" #[] 0)).get? b=some o:=fun b o hb e=>
  jy _ (jy _ ((s1.2 b hb).trans e))
 have ho6:(((s.heap.update a (Obj.mapSeq fun _=>(#[]:Array Value))).push (seqObj "tuple" vs.toArray 0)).push (seqObj "list" #[] 0)).get? a=some (seqObj "list" #[] e1):=jy _ (jy _ ho1)
 rw[list_sort_plain]
 refine bO (listItems_at ho rfl ?_)
 refine bO (listUpdate_at ho rfl ?_ (by rw[gw,dO];omega) (cY _))
 refine bO (seqEpoch_at ho1 rfl ?_)
 refine bO (wpAny_newTuple ?_ (by show vs.length<=_;rw[dO];omega))
 refine bO (wpAny_newList ?_ (cY _))
 refine Mi ?_
 show wpAny (model prog w) A _ P E {s with heap:=((s.heap.update a (Obj.mapSeq fun _=>(#[]:Array Value))).push (seqObj "tuple" vs.toArray 0)).push (seqObj "list" #[] 0)}
 dsimp only
 by_cases h2:vs.toArray.size<2
 ·have h2':vs.length<2:=by simpa using h2
  rw[aA h2,aA h2]
  refine bO (gR ?_)
  rw[StateT.run_pure]
  refine bO (gR ?_)
  dsimp only
  refine bO (seqEpoch_at ho6 rfl ?_)
  refine bO (listUpdate_at ho6 rfl ?_ (cY _) (by rw[Array.size_map];show(pairsOf vs).size<=_;rw[pairsOf_size,dO];omega))
  simp only[bne_self_eq_false,ZS,U8]
  refine gR ?_
  have eo:(vs.toArray.zip vs.toArray).map (·.2)=List.toArray vs:=by
   apply Array.toList_inj.mp
   simp[List.map_snd_zip]
  have s2:=T4 (((s.heap.update a (Obj.mapSeq fun _=>(#[]:Array Value))).push (seqObj "tuple" vs.toArray 0)).push (seqObj "list" #[] 0)) a (Obj.mapSeq fun _=>List.toArray vs)
  obtain⟨c2,hc2⟩:∃c2,((((s.heap.update a (Obj.mapSeq fun _=>(#[]:Array Value))).push (seqObj "tuple" vs.toArray 0)).push (seqObj "list" #[] 0)).update a (Obj.mapSeq fun _=>List.toArray vs)).get? a=some (seqObj "list" (List.toArray vs) c2):=⟨_,Vj ho6 fun _=>List.toArray vs⟩
  have fin:=h _ vs c2 (Ad h2') (fun b o hb e=>(s2.2 b hb).trans (keep b o hb e)) hc2
  first
   |exact fin
   |(rw[<-eo]at fin;exact fin)
   |(show P _ {s with heap:=Heap.update _ a (Obj.mapSeq fun _=>(vs.toArray.zip vs.toArray).map (·.2))};rw[eo];exact fin)
 ·have h2':2<=vs.length:=by rw[gw]at h2;omega
  rw[ao h2,ao h2]
  refine bO (hkind h2' _ keep _ ?_)
  refine bO (QT (kat_run (Q:=fun st' s'=>s'={s with heap:=((s.heap.update a (Obj.mapSeq fun _=>(#[]:Array Value))).push (seqObj "tuple" vs.toArray 0)).push (seqObj "list" #[] 0)}/\∃p:Array Nat,p.size=vs.length/\arrOf st'=p.map (kas_item (vs.toArray.zip vs.toArray))/\failedOf st'=none/\Ord vs.length p/\So key p vs.length)
   (G:=fun p s'=>s'={s with heap:=((s.heap.update a (Obj.mapSeq fun _=>(#[]:Array Value))).push (seqObj "tuple" vs.toArray 0)).push (seqObj "list" #[] 0)}/\Ord vs.length p/\So key p vs.length)
   rfl h2' h64 (fun p' st' s' a1 a2 a3 a4=>⟨a4.1,p',a1,a2,a3,a4.2.1,a4.2.2⟩) (sort (R3 h2' _ keep) (by omega) fun p' hp hs=>⟨rfl,hp,hs⟩)) ?_ fun _ _ e=>e)
  rintro⟨⟨⟩,st'⟩ s' ⟨rfl,p,hp,har,hf,hor,hso⟩
  dsimp only
  have hout:=kat_snds rfl har
  have hsz:(List.toArray (p.toList.map fun i=>vs.getD i Value.none)).size=vs.length:=by rw[gw,aM,QM,hp]
  rw[hout]
  refine bO (seqEpoch_at ho6 rfl ?_)
  refine bO (listUpdate_at ho6 rfl ?_ (cY _) (dW (Cg hsz) (by rw[dO];omega)))
  rw[hf]
  simp only[bne_self_eq_false,ZS,U8]
  have s2:=T4 (((s.heap.update a (Obj.mapSeq fun _=>(#[]:Array Value))).push (seqObj "tuple" vs.toArray 0)).push (seqObj "list" #[] 0)) a (Obj.mapSeq fun _=>List.toArray (p.toList.map fun i=>vs.getD i Value.none))
  obtain⟨c2,hc2⟩:∃c2,((((s.heap.update a (Obj.mapSeq fun _=>(#[]:Array Value))).push (seqObj "tuple" vs.toArray 0)).push (seqObj "list" #[] 0)).update a (Obj.mapSeq fun _=>List.toArray (p.toList.map fun i=>vs.getD i Value.none))).get? a=some (seqObj "list" (List.toArray (p.toList.map fun i=>vs.getD i Value.none)) c2):=⟨_,Vj ho6 fun _=>_⟩
  exact gR (h _ _ c2 ⟨p,hor,hso,rfl⟩ (fun b o hb e=>(s2.2 b hb).trans (keep b o hb e)) hc2)
theorem qF{l:Addr}{Q:Value->Shared->Prop}(hl:s.heap.IsList l vs.toArray)(h64:vs.length<64)(hkind:2<=vs.length->∀h',(∀b o,s.heap.get? b=some o->h'.get? b=some o)->∀(E:Value->Shared->Prop) (Q:SortKind->Shared->Prop),Q κ {s with heap:=h'}->wpAny (model prog w) A.in1.in1 (keyKind' vs.toArray) Q E {s with heap:=h'})(R3:2<=vs.length->∀h',(∀b o,s.heap.get? b=some o->h'.get? b=some o)->jQ O key vs.length (kas_ask prog w A.in1.in1 κ vs) {s with heap:=h'})(h:∀D h' out c,Ov key vs out->s.heap.objs.size<=D->(∀b o,s.heap.get? b=some o->h'.get? b=some o)->h'.get? D=some (seqObj "list" (List.toArray out) c)->Q (.ref D) {s with heap:=h'}):
  wpAny (model prog w) A (call (.builtin "sorted") [.ref l]) Q E s:=by
 refine Calls.call_function_entry kind_sorted plain_sorted entry_sorted (args_sorted1 _) ?_
 unfold Builtin.«sorted»
 refine bO (m:=checkCount "sorted" 1 1 _) (gR ?_)
 refine bO (collect_list hl ?_ (by rw[dO];omega))
 refine bO (wpAny_newList ?_ (by rw[dO];omega))
 have hsz:((s.heap.push (seqObj "list" #[] 0)).update s.heap.objs.size (Obj.mapSeq (· ++vs.toArray))).objs.size=s.heap.objs.size+1:=by
  rw[Heap.size_update,size_push']
 have hoL:(((s.heap.push (seqObj "list" #[] 0)).update s.heap.objs.size (Obj.mapSeq (· ++vs.toArray))).push (seqObj "list" vs.toArray 0)).get? (s.heap.objs.size+1)=some (seqObj "list" vs.toArray 0):=by
  rw[<-hsz];exact wj _ rfl
 have keep:∀b o,s.heap.get? b=some o->(((s.heap.push (seqObj "list" #[] 0)).update s.heap.objs.size (Obj.mapSeq (· ++vs.toArray))).push (seqObj "list" vs.toArray 0)).get? b=some o:=fun b o q=>by
  have hlt:b<s.heap.objs.size:=fD q
  rw[Heap.get?_push_ne _ _ _ (by rw[hsz];exact iK (rZ hlt)),Heap.get?_update_ne _ _ _ _ (iK hlt),Heap.get?_push_ne _ _ _ (iK hlt)]
  exact q
 have ne:∀b o,s.heap.get? b=some o->b≠s.heap.objs.size+1:=fun b o q=>iK (rZ (fD q))
 show wpAny _ _ _ _ _ {s with heap:=((s.heap.push (seqObj "list" #[] 0)).update s.heap.objs.size (Obj.mapSeq (· ++vs.toArray))).push (seqObj "list" vs.toArray 0)}
 rw[hsz]
 refine bO (Mi (wpAny_call_entry slot_list_sort ⟨_,hoL,rfl⟩ entry_list_sort ?body (args_list_sort _)))
 case body=>
  refine sI (key:=key) (κ:=κ) (s:={s with heap:=((s.heap.push (seqObj "list" #[] 0)).update s.heap.objs.size (Obj.mapSeq (· ++vs.toArray))).push (seqObj "list" vs.toArray 0)}) hoL h64
   (fun h2 h' k Q hq=>hkind h2 h' (fun b o q=>k b o (ne b o q) (keep b o q)) _ Q hq) (fun h2 h' k=>R3 h2 h' fun b o q=>k b o (ne b o q) (keep b o q)) fun h' out c ho k hc=> ?_
  exact⟨_,rfl,gR ⟨_,rfl,h _ h' out c ho (TV _) (fun b o q=>k b o (ne b o q) (keep b o q)) hc⟩⟩
end
end vX
namespace HT
open PySem PyProof.Rows
theorem bB:∀(a b:List Int),lexLt a b=decide (a<b)
 |[],[]=>by simp[lexLt]
 |[],_::_=>by simp[lexLt]
 |_::_,[]=>by simp[lexLt]
 |x::xs,y::ys=>by
  rw[lexLt_cons,bB xs ys]
  by_cases e:x=y
  ·subst e;simp
  ·rw[ao e]
   by_cases l:x<y
   ·simp[l,Yh]
   ·have:¬(x::xs<y::ys):=by rw[Yh];simp[l,e]
    simp[l,this]
end HT
namespace vX
open PySem PySem.W PyProof.Rows PySem.Calls
def lexOrd:KeyOrd where
 α:=List Int
 blt a b:=decide (a<b)
 irrefl a:=by simpa using List.lt_irrefl a
 trans a b c h1 h2:=by simp only[wz]at *;exact List.lt_trans h1 h2
 negTrans a b c h:=by
  simp only[wz]at *
  by_cases hab:a<b
  ·exact .inl hab
  ·exact .inr (List.lt_of_le_of_lt (GC.mp hab) h)
 total a b h1 h2:=by simp only[YF]at *;exact ZF (GC.mp h2) (GC.mp h1)
section
variable{prog:Program}{w:World}{A:Around}{E:Value->Shared->Prop}{s:Shared}{Q:Bool->Shared->Prop}
theorem xY{na nb:Nat}{xs ys:List Value}{ns ms:List Int}(i:Nat)(hx:IntsAre xs ns)(hy:IntsAre ys ms)(hl:ns.length+nb=ms.length+na)(h:Q (HT.lexLt ns ms) s):KatLex prog w A true (decide (na<nb)) Q (xs.zip ys) i s:=by
 induction hx generalizing ys ms i with
 |nil=>
  rw[List.zip_nil_left]
  refine kat_nil ?_
  cases hy with
  |nil=>
   rw[HT.lexLt_nil_nil]at h
   rw[iY (by simp only[QJ]at hl;omega)];exact h
  |cons c u hw=>
   rw[HT.lexLt_nil_cons]at h
   rw[cI (by simp only[QJ,wK]at hl;omega)];exact h
 |cons a t hv ih=>
  cases hy with
  |nil=>
   rw[List.zip_nil_right]
   refine kat_nil ?_
   rw[HT.lexLt_cons_nil]at h
   rw[iY (by simp only[QJ,wK]at hl;omega)];exact h
  |cons c u hw=>
   rw[ZV]
   rw[HT.lexLt_cons]at h
   refine kat_cons (wpAny_eqBool_int ?_)
   refine kat_go (fun e=> ?_) fun e=> ?_
   ·have e':a=c:=by simpa using e
    rw[aA e']at h
    exact kat_yes (ih (i+1) hw (by simp only[wK]at hl;omega) h)
   ·have e':a≠c:=by simpa using e
    rw[ao e']at h
    refine kat_no ?_
    cases i with
    |zero=>exact oneLt_int h
    |succ i=>exact kat_one _ _ (lt_int (show PySem.W.BoolBack Q (.bool (decide (a<c))) s from h))
end
theorem Dg{O:KeyOrd}{key:Nat->O.α}{α:Type}{vs out:List Value}{its:List α}{d:α}{f:α->O.α}{R:α->Value->Prop}(hR:Paired R its vs)(hk:∀i (hi:i<its.length),key i=f its[i])(h:Ov key vs out):
  ∃its':List α,its'.Perm its/\Paired R its' out/\its'.Pairwise fun x y=>O.kle (f x) (f y):=by
 obtain⟨p,hp,hs,rfl⟩:=h
 have hl:=hR.length
 have get:∀{l₁:List α} {l₂:List Value} {i:Nat},Paired R l₁ l₂->(h:i<l₁.length)->∃v,l₂[i]? =some v/\R l₁[i] v:=by
  intro l₁ l₂ i q
  induction q generalizing i with
  |nil=>intro h;simp at h
  |cons r t ih=>
   intro h
   cases i with
   |zero=>exact⟨_,rfl,r⟩
   |succ i=>
    obtain⟨v,e,rv⟩:=ih (i:=i) (by simpa using h)
    exact⟨v,by simpa using e,by simpa using rv⟩
 have hlt:∀i∈p.toList,i<its.length:=fun i hi=>by
  have:=(Zk.mp hp.perm).mem_iff.mp hi
  rw[hl];simpa using this
 refine⟨p.toList.map fun i=>its.getD i d,?_,?_,?_⟩
 ·have q:=(Zk.mp hp.perm).map (fun i=>its.getD i d)
  refine q.trans ?_
  have e:(List.toArray (List.range vs.length)).toList.map (fun i=>its.getD i d)=its:=by
   rw[<-hl]
   apply YB
   intro i
   simp only[dY]
   by_cases hi:i<its.length
   ·simp[hi]
   ·simp[hi]
  rw[e]
 ·have mk:∀l:List Nat,(∀i∈l,i<its.length)->Paired R (l.map fun i=>its.getD i d) (l.map fun i=>vs.getD i Value.none):=by
   intro l
   induction l with
   |nil=>intro _;exact .nil
   |cons i l ih=>
    intro hb
    refine .cons ?_ (ih fun j hj=>hb j (iZ _ hj))
    have hi:=hb i jV
    obtain⟨v,e,r⟩:=get hR hi
    have e1:its.getD i d=its[i]:=by simp[hi]
    have e2:vs.getD i Value.none=v:=by rw[pN,e];rfl
    show R (its.getD i d) (vs.getD i Value.none)
    rw[e1,e2];exact r
  exact mk _ hlt
 ·rw[Yk]
  intro i j hi hj hij
  simp only[aM,QM]at hi hj
  simp only[List.getElem_map]
  have hsz:=hp.size
  have q:=hs i j (by omega) (by omega)
  have e:∀k (hk':k<p.size),KN key p k=f (its.getD p.toList[k] d):=fun k hk'=>by
   have e1:p.getD k 0=p.toList[k]:=by simp[Array.getD,hk']
   have hb:=hlt p.toList[k] (Cj _)
   have e2:its.getD p.toList[k] d=its[p.toList[k]]:=by simp only[pN,fX hb,Option.getD_some]
   unfold KN
   rw[e1,e2]
   exact hk _ hb
  rw[e i hi,e j hj]at q
  exact q
end vX
namespace L2
open PySem PySem.Spec PyProof.Rows PySem.W
section
variable{X:Cx}
theorem eG:CallR X (.builtin "sorted") (fun xs H Q=>∃(a:Addr) (its:List (Addr×List Int)),xs=[.ref a]/\SqL X.K H a (its.map fun p=>V.ref p.1)/\(∀p∈its,SqT X.K H p.1 (p.2.map V.int)/\p.2≠[])/\its.length<64/\
  ∀(l:Addr) (its':List (Addr×List Int)),H l=none->its'.Perm its->its'.Pairwise (fun p q=>HT.lexLt q.2 p.2=false)->Q (.ref l) (upd H l (.lst (its'.map fun p=>V.ref p.1)))):=by
 intro pins s σ H xs us Q I r h
 obtain⟨a,its,rfl,hS,hT,h64,q⟩:=h
 obtain⟨u,rfl,ru⟩:=r.one
 cases ru
 obtain⟨vs,rv,pl,hz⟩:=I.list hS
 have hlen:its.length=vs.length:=by have:=rv.length;simpa using this
 -- the values beside the tuples
 have pr:Paired (fun(p:Addr×List Int) (v:Value)=>v= .ref p.1) its vs:=by
  have go:∀(l:List (Addr×List Int)) (us:List Value),Vals (l.map fun p=>V.ref p.1) us->Paired (fun(p:Addr×List Int) (v:Value)=>v= .ref p.1) l us:=by
   intro l
   induction l with
   |nil=>intro us h;cases h;exact .nil
   |cons p l ih=>
    intro us h
    cases h with
    |cons r t=>exact .cons r (ih _ t)
  exact go its vs rv
 have tup:∀p∈its,∃(items:List Value),IntsAre items p.2/\IsTup s.heap p.1 items.toArray:=fun p hp=>by
  obtain⟨its',r',t',_⟩:=I.tuple (hT p hp).1
  exact⟨its',intsAre_of r',t'⟩
 refine vX.qF (O:=vX.lexOrd) (key:=fun i=>(its.getD i (0,[])).2) (κ:=tuples' true) (s:=s) pl.isList (by omega) (fun h2 h' k E' Q' hq=> ?_) (fun h2 h' k=> ?_) (fun D h' out c ho hD k hc=> ?_)
 ·have kt:∀(l:List (Addr×List Int)) (us:List Value),Paired (fun(p:Addr×List Int) (v:Value)=>v= .ref p.1) l us->(∀p∈l,p∈its)->∃fs:List Value,KatTups h' us fs/\fs.length=us.length/\∀v∈fs,∃i t,v=Value.int i t:=by
   intro l us h
   induction h with
   |nil=>intro _;exact⟨[],trivial,rfl,fun _ hv=>nomatch hv⟩
   | @cons p v l us r t ih=>
    intro hs
    obtain⟨fs,k1,k2,k3⟩:=ih fun p hp=>hs p (iZ _ hp)
    obtain⟨items,hi,o,e,hc,n,hd⟩:=tup p (hs p jV)
    have hne:=(hT p (hs p jV)).2
    obtain⟨pa,pn⟩:=p
    dsimp only at hi hne e r
    cases hi with
    |nil=>exact absurd rfl hne
    |cons i t hi'=>
     rw[r]
     refine⟨Value.int i t::fs,KatTups.cons (k _ _ e) hc hd (by simp) k1,by simp[k2],fun v hv=> ?_⟩
     rcases eN.mp hv with e|e
     ·exact⟨i,t,e⟩
     ·exact k3 v e
  obtain⟨fs,k1,k2,k3⟩:=kt its vs pr fun _ hp=>hp
  refine kat_kind (s:={s with heap:=h'}) (T:= .type "int") k1 (by omega) (fun v hv=> ?_) (by rfl) hq
  obtain⟨i,t,rfl⟩:=k3 v hv
  exact fun A Q E s _ q=>gR q
 ·intro i j C hi hj hC
  rw[<-hlen]at hi hj
  have get:∀i (hi:i<its.length),vs.getD i Value.none= .ref its[i].1:=by
   have go:∀(l:List (Addr×List Int)) (us:List Value),Paired (fun(p:Addr×List Int) (v:Value)=>v= .ref p.1) l us->∀i (hi:i<l.length),us.getD i Value.none= .ref l[i].1:=by
    intro l us h
    induction h with
    |nil=>intro i hi;simp at hi
    |cons r t ih=>
     intro i hi
     cases i with
     |zero=>exact r
     |succ i=>simpa using ih i (by simpa using hi)
   exact go its vs pr
  unfold kas_ask
  rw[get i hi,get j hj]
  obtain⟨xi,hxi,oi,ei,ci,ni,di⟩:=tup its[i] (Cj _)
  obtain⟨xj,Wn,oj,ej,cj,nj,dj⟩:=tup its[j] (Cj _)
  refine kat_lt (s:={s with heap:=h'}) (k _ _ ei) di (k _ _ ej) dj ?_
  refine vX.xY 0 hxi Wn ?_ ?_
  ·have:=hxi.length;have:=Wn.length
   simp only[gw]
   omega
  ·rw[HT.bB]
   have e1:its.getD i (0,[])=its[i]:=by simp[hi]
   have e2:its.getD j (0,[])=its[j]:=by simp[hj]
   have hC':C (decide ((its.getD i (0,[])).2<(its.getD j (0,[])).2)) {s with heap:=h'}:=hC
   rw[e1,e2]at hC'
   exact hC'
 ·obtain⟨its',hp,hr,hw⟩:=vX.Dg (d:=((0,[]):Addr×List Int)) (f:=fun p=>p.2) pr (fun i hi=>by show(its.getD i (0,[])).2=_;simp[hi]) ho
  have hn:H D=none:=I.hok.fresh hD
  have rv':Vals (its'.map fun p=>V.ref p.1) out:=by
   have go:∀(l:List (Addr×List Int)) (us:List Value),Paired (fun(p:Addr×List Int) (v:Value)=>v= .ref p.1) l us->Vals (l.map fun p=>V.ref p.1) us:=by
    intro l us h
    induction h with
    |nil=>exact .nil
    |cons r t ih=>exact .cons r ih
   exact go its' out hr
  have zl:(its'.map fun p=>V.ref p.1).length<=sizeLine:=by
   have:=hp.length_eq
   rw[aM]
   exact cM (small1000 (by omega))
  have J:Inv X pins σ (upd H D (.lst (its'.map fun p=>V.ref p.1))) {s with heap:=h',toks:=s.toks}:=I.laid k hD ⟨zl,out,c,rv',hc⟩
  refine⟨.ref D,_,J,rfl,q D its' hn hp (hw.imp fun{x y} hxy=> ?_)⟩
  rw[HT.bB];exact hxy
end
end L2
namespace L2
open PySem PySem.Spec PyProof.Rows
section
variable{X:Cx}
theorem yK:∀{bs:List Bool} {us:List Value},Vals (bs.map V.bl) us->us=bs.map Value.bool
 |[],_,h=>by cases h;rfl
 |b::bs,_,h=>by
  cases h with
  |cons r t=>rw[LK,yK t];exact iW (· ::_) r
theorem mK(hc:X.calm=true):CallR X (.builtin "all") (fun xs H Q=>∃(a:Addr) (bs:List Bool),xs=[.ref a]/\SqL X.K H a (bs.map V.bl)/\Q (.bl (bs.all id)) H):=by
 intro pins s σ H xs us Q I r h
 obtain⟨a,bs,rfl,hS,q⟩:=h
 obtain⟨u,rfl,ru⟩:=r.one
 cases ru
 obtain⟨vs,rv,pl,hz⟩:=I.list hS
 have hv:=yK rv
 have hl:=pl.isList
 have hlt:a<s.heap.objs.size:=by obtain⟨_,e,_⟩:=hl;exact fD e
 refine call_all_walk (Yz hl ?_)
 refine⟨s.heap.objs.size,[s.heap.objs.size,a],[s.heap.objs.size],vs.toArray.size,_,_,fun i=>(bs[i]?).getD true,rfl,Walks.list (A:=X.A.in1) (I.ok.hd hc) _ a (iK hlt) vs.toArray,
  ⟨⟨_,wj _ rfl,rfl,rfl⟩,hl.push _⟩,fun i v s' Q' E' hP hQ=> ?_,fun h' tk hk=> ?_⟩
 ·have hP':vs[i]? =some v:=by simpa using hP
  rw[hv,dY]at hP'
  cases e:bs[i]? with
  |none=>rw[e]at hP';cases hP'
  |some b=>
   rw[e]at hP'
   cases hP'
   simp only[e,Option.getD_some]at hQ
   exact Hu hQ
 ·have e:((List.range vs.toArray.size).all fun i=>(bs[i]?).getD true)=bs.all id:=by
   rw[gw,hv,aM];exact LSm.range_all bs
  rw[e]
  exact⟨.bl _,H,I.kept (LSm.kept_iter hk),rfl,q⟩
def Qv(K:W.Frag)(H:Hp):V->String->Prop
 | .non,T=>T="NoneType"
 | .bl _,T=>T="bool"
 | .int _,T=>T="int"
 | .str _,T=>T="str"
 | .ref a,T=>(T="tuple"/\∃xs,SqT K H a xs)\/(T="list"/\∃xs,SqL K H a xs)\/(T="dict"/\∃kvs,H a=some (.dK kvs))
 |_,_=>False
def Az(T C:String):Bool:=T==C||(T=="bool"&&C=="int")
theorem gM:CallR X (.builtin "isinstance") (fun xs H Q=>∃(x:V) (T C:String),xs=[x,.ty C]/\Qv X.K H x T/\(C="int"\/C="bool"\/C="tuple"\/C="list")/\Q (.bl (Az T C)) H):=by
 intro pins s σ H xs us Q I r h
 obtain⟨x,T,C,rfl,hk,hC,q⟩:=h
 obtain⟨u,v,rfl,ru,rv⟩:=r.two
 cases rv
 have Ks:∀b,b=Az T C->EP X pins σ Q (.bool b) s:=fun b e=>⟨.bl b,H,I,rfl,by rw[e];exact q⟩
 have fB:∀b,b=Az T C->EP X pins σ Q (.bool b) {s with toks:=s.toks+1}:=fun b e=>⟨.bl b,H,I.tok _,rfl,by rw[e];exact q⟩
 cases x with
 |non=>
  cases ru;cases hk
  rcases hC with rfl|rfl|rfl|rfl
  ·exact IsiPair.NoneType_int (fB _ rfl)
  ·exact IsiPair.NoneType_bool (fB _ rfl)
  ·exact IsiPair.NoneType_tuple (fB _ rfl)
  ·exact IsiPair.NoneType_list (fB _ rfl)
 |bl b=>
  cases ru;cases hk
  rcases hC with rfl|rfl|rfl|rfl
  ·exact IsiPair.bool_int (Ks _ rfl)
  ·exact IsiPair.bool_bool (Ks _ rfl)
  ·exact IsiPair.bool_tuple (fB _ rfl)
  ·exact IsiPair.bool_list (fB _ rfl)
 |int i=>
  obtain⟨t,rfl⟩:=ru;cases hk
  rcases hC with rfl|rfl|rfl|rfl
  ·exact IsiPair.int_int (Ks _ rfl)
  ·exact IsiPair.int_bool (fB _ rfl)
  ·exact IsiPair.int_tuple (fB _ rfl)
  ·exact IsiPair.int_list (fB _ rfl)
 |str z=>
  obtain⟨t,rfl⟩:=ru;cases hk
  rcases hC with rfl|rfl|rfl|rfl
  ·exact IsiPair.str_int (fB _ rfl)
  ·exact IsiPair.str_bool (fB _ rfl)
  ·exact IsiPair.str_tuple (fB _ rfl)
  ·exact IsiPair.str_list (fB _ rfl)
 |ref a=>
  cases ru
  rcases hk with⟨rfl,xs,hS⟩|⟨rfl,xs,hS⟩|⟨rfl,kvs,hS⟩
  ·obtain⟨its,_,⟨o,e,c,n,d⟩,_⟩:=I.tuple hS
   rcases hC with rfl|rfl|rfl|rfl
   ·exact IsiPair.tuple_int e c (fB _ rfl)
   ·exact IsiPair.tuple_bool e c (fB _ rfl)
   ·exact IsiPair.tuple_tuple e c (Ks _ rfl)
   ·exact IsiPair.tuple_list e c (fB _ rfl)
  ·obtain⟨its,_,⟨o,n,e,c,d,_⟩,_⟩:=I.list hS
   rcases hC with rfl|rfl|rfl|rfl
   ·exact IsiPair.list_int e c (fB _ rfl)
   ·exact IsiPair.list_bool e c (fB _ rfl)
   ·exact IsiPair.list_tuple e c (fB _ rfl)
   ·exact IsiPair.list_list e c (Ks _ rfl)
  ·obtain⟨_,_,vs,_,o,es,ep,e,c,_⟩:=I.hok a _ hS
   have c':o.cls= .type "dict":=c.1
   rcases hC with rfl|rfl|rfl|rfl
   ·exact IsiPair.dict_int e c' (fB _ rfl)
   ·exact IsiPair.dict_bool e c' (fB _ rfl)
   ·exact IsiPair.dict_tuple e c' (fB _ rfl)
   ·exact IsiPair.dict_list e c' (fB _ rfl)
 |_=>exact hk.elim
end
mutual
inductive DV(K:W.Frag)(H:Hp):V->PyData->Prop
 |non:DV K H .non .none
 |bl (b:Bool):DV K H (.bl b) (.bool b)
 |int (i:Int):DV K H (.int i) (.int i)
 |str (x:Str):DV K H (.str x) (.str x)
 |tup {a:Addr} {xs:List V} {ds:List PyData} (h:SqT K H a xs) (t:cB K H xs ds):DV K H (.ref a) (.tuple ds)
 |lst {a:Addr} {xs:List V} {ds:List PyData} (h:SqL K H a xs) (t:cB K H xs ds):DV K H (.ref a) (.list ds)
 |dc0 {a:Addr} (h:H a=some (.dK [])):DV K H (.ref a) (.dict [])
 |dc1 {a b:Addr} {i:Int} (h:H a=some (.dK [(Sum.inl i,.ref b)])) (t:SqT K H b []):DV K H (.ref a) (.dict [(.int i,.tuple [])])
inductive cB(K:W.Frag)(H:Hp):List V->List PyData->Prop
 |nil:cB K H [] []
 |cons {x:V} {d:PyData} {xs:List V} {ds:List PyData} (h:DV K H x d) (t:cB K H xs ds):cB K H (x::xs) (d::ds)
end
theorem Same.tup{K:W.Frag}{H H':Hp}{a:Addr}{xs:List V}(e:Same H H')(h:SqT K H a xs):SqT K H' a xs:=by
 rcases h with(h|⟨o,h⟩)|h
 ·exact .inl (.inl (e _ _ h))
 ·exact .inl (.inr ⟨o,e _ _ h⟩)
 ·exact .inr h
theorem cB.same{K:W.Frag}{H H':Hp}(e:Same H H'){xs:List V}{ds:List PyData}(h:cB K H xs ds):cB K H' xs ds:=
 cB.rec (motive_1:=fun x d _=>DV K H' x d) (motive_2:=fun xs ds _=>cB K H' xs ds) .non (fun b=> .bl b) (fun i=> .int i) (fun x=> .str x) (fun h _ t=> .tup (e.tup h) t) (fun h _ t=> .lst (e.seq h) t) (fun h=> .dc0 (e _ _ h)) (fun h t=> .dc1 (e _ _ h) (e.tup t)) .nil (fun _ _ h t=> .cons h t) h
theorem Fl{P:Program}{w:World}{es:List DictEntry}(h:Pairs (mixKind P w) es []):es=[]:=by
 cases h;rfl
theorem Fj{P:Program}{w:World}{es:List DictEntry}{k:Key}{u:Value}(h:Pairs (mixKind P w) es [(k,u)]):∃e,es=[e]/\keyIs k e.key=true/\e.val=u:=by
 cases h with
 |cons h1 h2 h3=>
  cases h3
  exact⟨_,rfl,h1,h2⟩
section
variable{X:Cx}{pins:List (Addr×Obj)}{σ:St}{H:Hp}{s:Shared}
theorem Gm(I:Inv X pins σ H s){a:Addr}(h:H a=some (.dK [])):Reads s.heap (.ref a) (.dict []) (a::[]++[])/\(a==sysModules)=false:=by
 obtain⟨_,hne,vs,r0,o,es,ep,e,c,d,_,pr,_⟩:=I.hok _ _ h
 cases r0
 have hes:es.toList=[]:=Fl pr
 refine⟨.dict (kvs:=[]) (as:=[]) (bs:=[]) e c.1 d ?_ ?_,hne⟩
 ·rw[hes];exact .nil
 ·rw[hes];exact .nil
theorem Gk(I:Inv X pins σ H s){a b:Addr}{i:Int}(h:H a=some (.dK [(Sum.inl i,.ref b)]))(t:SqT X.K H b []):Reads s.heap (.ref a) (.dict [(.int i,.tuple [])]) (a::([]++[])++([]++[]))/\(a==sysModules)=false:=by
 obtain⟨_,hne,vs,r0,o,es,ep,e,c,d,_,pr,_⟩:=I.hok _ _ h
 obtain⟨its,rv,⟨o2,e2,c2,n2,d2⟩,_⟩:=I.tuple t
 cases rv
 cases r0 with
 | @cons p q ps qs hq tl=>
  cases tl
  obtain⟨en,he,hk,hv⟩:=Fj pr
  obtain⟨k,u⟩:=q
  dsimp only at hq
  obtain⟨hk1,hu1⟩:=hq
  subst hk1
  cases hu1
  obtain⟨tk,ek⟩:∃tk,en.key=Value.int i tk:=by
   rcases Lh hk with⟨i',t',e3,e4⟩|⟨x,t',e3,e4⟩
   ·cases e3;exact⟨t',e4⟩
   ·cases e3
  refine⟨.dict (kvs:=[(.int i,.tuple [])]) (as:=[]++[]) (bs:=[]++[]) e c.1 d ?_ ?_,hne⟩
  ·rw[he]
   show ReadsAll s.heap [en.key] [PyData.int i] _
   rw[ek]
   exact .cons (.int i tk) .nil
  ·rw[he]
   show ReadsAll s.heap [en.val] [PyData.tuple []] _
   rw[hv]
   exact .cons (.tuple e2 c2 d2 .nil) .nil
end
section
variable{X:Cx}{pins:List (Addr×Obj)}{σ:St}{H:Hp}{s:Shared}
theorem Fb(I:Inv X pins σ H s){a:Addr}{xs:List V}{ds:List PyData}(h:SqT X.K H a xs)(t:∀{us:List Value},Vals xs us->∃as,ReadsAll s.heap us ds as){u:Value}(r:RelV (.ref a) u):∃as,Reads s.heap u (.tuple ds) as:=by
 cases r
 obtain⟨its,rv,⟨o,e,c,n,d⟩,_⟩:=I.tuple h
 obtain⟨as,ra⟩:=t rv
 exact⟨_,.tuple e c d (by simpa using ra)⟩
theorem Fd(I:Inv X pins σ H s){a:Addr}{xs:List V}{ds:List PyData}(h:SqL X.K H a xs)(t:∀{us:List Value},Vals xs us->∃as,ReadsAll s.heap us ds as){u:Value}(r:RelV (.ref a) u):∃as,Reads s.heap u (.list ds) as:=by
 cases r
 obtain⟨its,rv,⟨o,n,e,c,_,d⟩,_⟩:=I.list h
 obtain⟨as,ra⟩:=t rv
 exact⟨_,.list e c d (by simpa using ra)⟩
theorem DV.reads(I:Inv X pins σ H s){x:V}{d:PyData}{u:Value}(h:DV X.K H x d)(r:RelV x u):∃as,Reads s.heap u d as:=
 DV.rec (motive_1:=fun x d _=>∀{u:Value},RelV x u->∃as,Reads s.heap u d as) (motive_2:=fun xs ds _=>∀{us:List Value},Vals xs us->∃as,ReadsAll s.heap us ds as)
  (fun r=>by cases r;exact⟨_,.none⟩) (fun b _ r=>by cases r;exact⟨_,.bool b⟩) (fun i _ r=>by obtain⟨t,rfl⟩:=r;exact⟨_,.int i t⟩) (fun x _ r=>by obtain⟨t,rfl⟩:=r;exact⟨_,.str x t⟩)
  (fun h _ t _ r=>Fb I h t r) (fun h _ t _ r=>Fd I h t r) (fun h _ r=>by cases r;exact⟨_,(Gm I h).1⟩) (fun h t _ r=>by cases r;exact⟨_,(Gk I h t).1⟩)
  (fun r=>by cases r;exact⟨_,.nil⟩) (fun _ _ h t _ r=>by
   cases r with
   |cons r rr=>
    obtain⟨as,ra⟩:=h r
    obtain⟨bs,rb⟩:=t rr
    exact⟨_,.cons ra rb⟩) h r
theorem cB.reads(I:Inv X pins σ H s){xs:List V}{ds:List PyData}{us:List Value}(h:cB X.K H xs ds)(r:Vals xs us):∃as,ReadsAll s.heap us ds as:=
 cB.rec (motive_1:=fun _ _ _=>True) (motive_2:=fun xs ds _=>∀{us:List Value},Vals xs us->∃as,ReadsAll s.heap us ds as) trivial (fun _=>trivial) (fun _=>trivial) (fun _=>trivial) (fun _ _ _=>trivial) (fun _ _ _=>trivial) (fun _=>trivial) (fun _ _=>trivial)
  (fun r=>by cases r;exact⟨_,.nil⟩) (fun h _ _ t _ r=>by
   cases r with
   |cons r rr=>
    obtain⟨as,ra⟩:=DV.reads I h r
    obtain⟨bs,rb⟩:=t rr
    exact⟨_,.cons ra rb⟩) h r
end
mutual
def noL:PyData->Bool
 | .list _=>false
 | .tuple ds=>V9 ds
 |_=>true
def V9:List PyData->Bool
 |[]=>true
 |d::ds=>noL d&&V9 ds
end
section
variable{X:Cx}{pins:List (Addr×Obj)}{σ:St}{H:Hp}{s:Shared}
end
theorem cB.ints{K:W.Frag}{H:Hp}:∀(ns:List Int),cB K H (ns.map V.int) (ns.map PyData.int)
 |[]=> .nil
 |n::ns=> .cons (.int n) (cB.ints ns)
theorem cB.len{K:W.Frag}{H:Hp}{xs:List V}{ds:List PyData}(h:cB K H xs ds):xs.length=ds.length:=
 cB.rec (motive_1:=fun _ _ _=>True) (motive_2:=fun xs ds _=>xs.length=ds.length) trivial (fun _=>trivial) (fun _=>trivial) (fun _=>trivial) (fun _ _ _=>trivial) (fun _ _ _=>trivial) (fun _=>trivial) (fun _ _=>trivial) rfl (fun _ _ _ t=>iW Nat.succ t) h
section
variable{X:Cx}
theorem JB(hu:X.A.units+64<cLine):OpR X (compareOp .Eq) (fun x y H Q=>∃da db,DV X.K H x da/\DV X.K H y db/\da.canLay0=true/\db.canLay0=true/\min da.depth db.depth<=64/\Q (.bl (PyData.eqv da db)) H):=by
 intro pins s σ H x y v u Q I rx ry h
 obtain⟨da,db,hx,hy,ca,cb,hd,q⟩:=h
 obtain⟨as,ra⟩:=DV.reads I hx rx
 obtain⟨bs,rb⟩:=DV.reads I hy ry
 exact SeqAt.rcAt_reads ra rb ca cb (by omega) _ _ _ _ ⟨.bl _,H,I,rfl,q⟩
theorem qQ(hu:X.A.units+64<cLine):OpR X (compareOp .NotEq) (fun x y H Q=>∃da db,DV X.K H x da/\DV X.K H y db/\da.canLay0=true/\db.canLay0=true/\min da.depth db.depth<=64/\Q (.bl (!PyData.eqv da db)) H):=by
 intro pins s σ H x y v u Q I rx ry h
 obtain⟨da,db,hx,hy,ca,cb,hd,q⟩:=h
 obtain⟨as,ra⟩:=DV.reads I hx rx
 obtain⟨bs,rb⟩:=DV.reads I hy ry
 exact SeqAt.rcNeAt_reads ra rb ca cb (by omega) _ _ _ _ ⟨.bl _,H,I,rfl,q⟩
theorem Bx:∀{ds:List PyData},PyData.canLayAll0 ds=true->∀d∈ds,d.canLay0=true
 |[],_,d,h=>nomatch h
 |e::ds,h,d,hd=>by
  have h':(e.canLay0&&PyData.canLayAll0 ds)=true:=h
  rw[qm]at h'
  rcases eN.mp hd with rfl|hd
  ·exact h'.1
  ·exact Bx h'.2 d hd
open Classical in
theorem Jz(hu:X.A.units+64<cLine):OpR X (compareOp .In) (fun x y H Q=>∃(p:Addr) (xs:List V) (ds:List PyData) (dx:PyData),y= .ref p/\(SqL X.K H p xs\/SqT X.K H p xs)/\cB X.K H xs ds/\DV X.K H x dx/\PyData.canLayAll0 ds=true/\dx.canLay0=true/\dx.depth<=60/\
  Q (.bl (ds.any fun d=>PyData.eqv d dx)) H):=by
 intro pins s σ H x y v u Q I rx ry h
 obtain⟨p,xs,ds,dx,rfl,hq,hds,hx,ca,cb,hd,q⟩:=h
 cases ry
 obtain⟨bs,rb⟩:=DV.reads I hx rx
 have key:∀{its:List Value},Vals xs its->(∀y∈its,SeqAt.EqAt X.A.in1 s y v (decide (∃d as,Reads s.heap y d as/\d∈ds/\PyData.eqv d dx=true)))/\(its.any fun y=>decide (∃d as,Reads s.heap y d as/\d∈ds/\PyData.eqv d dx=true))=ds.any fun d=>PyData.eqv d dx:=by
  intro its rv
  obtain⟨as,ra⟩:=cB.reads I hds rv
  have each:∀{us:List Value} {es:List PyData} {as:List Addr},ReadsAll s.heap us es as->(∀e∈es,e∈ds)->(∀y∈us,SeqAt.EqAt X.A.in1 s y v (decide (∃d as,Reads s.heap y d as/\d∈ds/\PyData.eqv d dx=true)))/\(us.any fun y=>decide (∃d as,Reads s.heap y d as/\d∈ds/\PyData.eqv d dx=true))=es.any fun d=>PyData.eqv d dx:=by
   intro us
   induction us with
   |nil=>intro es as h _;cases h;exact⟨(fun y hy=>(nomatch hy)),rfl⟩
   |cons y us ih=>
    intro es as h hs
    cases h with
    | @cons _ _ d ds' as' bs' r rr=>
     obtain⟨i1,i2⟩:=ih rr fun e he=>hs e (iZ _ he)
     have cl:=Bx ca d (hs d jV)
     have e:decide (∃d as,Reads s.heap y d as/\d∈ds/\PyData.eqv d dx=true)=PyData.eqv d dx:=by
      rw[uE,wz]
      constructor
      ·rintro⟨d',as'',r',_,q'⟩
       obtain⟨rfl,_⟩:=(PySem.Reads.unique r _ _ r')
       exact q'
      ·intro q'
       exact⟨d,_,r,hs d jV,q'⟩
     refine⟨fun z hz=> ?_,?_⟩
     ·rcases eN.mp hz with rfl|hz
      ·rw[e]
       exact SeqAt.eqAt_reads d dx _ s _ _ _ _ r rb cl cb (by show X.A.units+1+min d.depth dx.depth<cLine;omega)
      ·exact i1 z hz
     ·rw[Vh,Vh,i2,e]
  exact each ra fun e he=>he
 rcases hq with hq|hq
 ·obtain⟨its,r,pl,hz⟩:=I.list hq
  obtain⟨k1,k2⟩:=key r
  refine SeqAt.in_listAt _ pl.isList (fun w hw=>k1 w (by simpa using hw)) ⟨.bl _,H,I,rfl,?_⟩
  rw[show∀f:Value->Bool,its.toArray.any f=its.any f from fun f=>by simp,k2]
  exact q
 ·obtain⟨its,r,pl,hz⟩:=I.tuple hq
  obtain⟨k1,k2⟩:=key r
  refine SeqAt.in_tupleAt _ pl (fun w hw=>k1 w (by simpa using hw)) ⟨.bl _,H,I,rfl,?_⟩
  rw[show∀f:Value->Bool,its.toArray.any f=its.any f from fun f=>by simp,k2]
  exact q
end
end L2
namespace HT
open PySem PyProof.Rows
section
open PySem.SeqAt
open PySem.AutoSeq1 (wpAny_loadPart')
open PySem.MeetsSeq PySem.MeetsSeq2 PySem.MeetsSeq3
end
section
variable{prog:Program}{w:World}{A:Around}{E:Value->Shared->Prop}{s:Shared}
end
end HT
namespace L2
open PySem PySem.Spec PyProof.Rows
section
variable{X:Cx}
theorem jg:OpR X (binaryOp .FloorDiv) (rI (fun _ j=>0<j/\j<1000000000000000000000000000000) fun i j=> .int (i/j)):=opI fun i j _ _ _ _ _ hc q=>by
 have h1:(0:Int)<j:=hc.1
 have h2:j<1000000000000000000000000000000:=hc.2
 refine floordiv_int (by omega) ?_ (Or.inl (wdq ?_))
 ·rw[Zm _ (by omega)]
  exact q
 ·have h3:j.natAbs≠0:=by omega
  have h4:j.natAbs<2^100:=by
   have:(2:Nat)^100=1267650600228229401496703205376:=by decide
   omega
  have:=(Nat.log2_lt h3).mpr h4
  omega
def Qg(K:W.Frag):R2:=fun x y H Q=>∃a b xs ys,x= .ref a/\y= .ref b/\SqT K H a xs/\SqT K H b ys/\xs.length+ys.length<=sizeLine/\∀r H',Same H H'->SqT K H' r (xs++ys)->Q (.ref r) H'
theorem M7:OpR X (binaryOp .Add) (Qg X.K):=by
 intro pins s σ H x y v u Q I rx ry h
 obtain⟨a,b,xs,ys,rfl,rfl,ha,hb,hz,q⟩:=h
 by_cases hx:xs=[]
 ·subst hx
  cases rx
  cases ry
  obtain⟨its,r1,p1,_⟩:=I.tuple ha
  obtain⟨its2,r2,p2,_⟩:=I.tuple hb
  cases r1
  obtain⟨⟨cls,dd,data,sl⟩,ho,hc,n,hd⟩:=id p1
  obtain⟨⟨cls2,dd2,data2,sl2⟩,ho2,hc2,n2,hd2⟩:=id p2
  simp only at hc hd hc2 hd2
  subst hc hd hc2 hd2
  exact concat_meets ⟨_,ho,rfl⟩ ⟨_,ho2,rfl⟩ wed seq_tuple_add wbz wbs (wbp _ _)
   (tuple_addW0 a b _ _ n n2 dd dd2 sl sl2 (by simp)) ⟨ho,ho2,⟨.ref b,H,I,rfl,q b H (Same.refl _) hb⟩⟩
 ·refine op_catT pins s σ H _ _ v u Q I rx ry ⟨a,b,xs,ys,rfl,rfl,ha,hb,hx,hz,fun e=> ?_,fun e p hp=> ?_⟩
  ·subst e
   exact q a H (Same.refl _) (by rw[Ci];exact ha)
  ·exact q p _ (fun c o e=>by rw[cL (pJ e hp)];exact e) (SqT.of aH)
end
end L2
namespace HT
open PySem PySem.Calls PySem.Spec PyProof.Rows PySem.W
section
variable{prog:Program}{w:World}{A:Around}{E:Value->Shared->Prop}{s:Shared}
end
end HT
namespace L2
open PySem PySem.Spec PyProof.Rows
section
variable{X:Cx}{e m:Expr}{te:TE}{tm:TO}{pos p2:Pos}
end
section
variable{X:Cx}{tg:Expr}
def RT(K:W.Frag)(tl:TE):TI:=fun σ H R=>tl σ H fun x H1=>∃a xs,x= .ref a/\SqL K H1 a xs/\(xs.length<=sizeLine->R (Itl K a) H1)
def Wm(K:W.Frag)(tl:TE):TI:=fun σ H R=>tl σ H fun x H1=>∃a xs,x= .ref a/\SqT K H1 a xs/\(xs.length<=sizeLine->R (Itt K a) H1)
theorem Ec{l:Expr}{tl:TE}(hl:PE X l tl):PI X tg l (RT X.K tl):=by
 intro pins s σ H R I h
 refine thn (hl pins s σ H _ I h) fun v s1 ⟨x,H1,I1,r1,q1⟩=> ?_
 obtain⟨a,xs,e,hq,q⟩:=q1
 subst e
 cases r1
 obtain⟨its,rv,p,hz⟩:=I1.list hq
 refine Yz p.isList ?_
 refine⟨s1.heap.objs.size,[s1.heap.objs.size],_,_,H1,rfl,I1.kept (t':=s1.toks) fun b o e=>jy _ e,turn_list a _,⟨_,wj _ rfl,rfl,rfl⟩,fun b hb=> ?_,q hz⟩
 have e:b=s1.heap.objs.size:=by simpa using hb
 subst e
 exact I1.fpOk (aU _) (I1.hok.fresh (aU _))
theorem fV{l:Expr}{tl:TE}(hl:PE X l tl):PI X tg l (Wm X.K tl):=by
 intro pins s σ H R I h
 refine thn (hl pins s σ H _ I h) fun v s1 ⟨x,H1,I1,r1,q1⟩=> ?_
 obtain⟨a,xs,e,hq,q⟩:=q1
 subst e
 cases r1
 obtain⟨its,rv,p,hz⟩:=I1.tuple hq
 refine wpAny_pyIter_tuple (show s1.heap.IsTuple a its.toArray from p) ?_
 refine⟨s1.heap.objs.size,[s1.heap.objs.size],_,_,H1,rfl,I1.kept (t':=s1.toks) fun b o e=>jy _ e,turn_tuple a _,⟨_,wj _ rfl,rfl,rfl⟩,fun b hb=> ?_,q hz⟩
 have e:b=s1.heap.objs.size:=by simpa using hb
 subst e
 exact I1.fpOk (aU _) (I1.hok.fresh (aU _))
theorem yX:CallR X (.builtin "len") (fun xs H Q=>∃p ys,xs=[.ref p]/\(SqL X.K H p ys\/SqT X.K H p ys)/\(ys.length<=16777216->Q (.int ys.length) H)):=by
 intro pins s σ H xs us Q I r h
 obtain⟨p,ys,rfl,hq,q⟩:=h
 have hz:ys.length<=16777216:=by
  rw[<-dO]
  rcases hq with hq|hq
  ·exact(I.list hq).choose_spec.2.2
  ·exact(I.tuple hq).choose_spec.2.2
 exact call_len_seq pins s σ H _ us Q I r ⟨p,ys,rfl,hq,q hz⟩
end
mutual
inductive DX(K:W.Frag)(H:Hp):V->PyData->Prop
 |non:DX K H .non .none
 |bl (b:Bool):DX K H (.bl b) (.bool b)
 |int (i:Int):DX K H (.int i) (.int i)
 |str (x:Str):DX K H (.str x) (.str x)
 |tup {a:Addr} {xs:List V} {ds:List PyData} (h:SqT K H a xs) (t:ju K H xs ds):DX K H (.ref a) (.tuple ds)
 |lst {a:Addr} {xs:List V} {ds:List PyData} (h:SqL K H a xs) (t:ju K H xs ds):DX K H (.ref a) (.list ds)
 |dct {a:Addr} {kvs:List (Key×V)} (ds:List (PyData×PyData)) (h:H a=some (.dK kvs)):DX K H (.ref a) (.dict ds)
inductive ju(K:W.Frag)(H:Hp):List V->List PyData->Prop
 |nil:ju K H [] []
 |cons {x:V} {d:PyData} {xs:List V} {ds:List PyData} (h:DX K H x d) (t:ju K H xs ds):ju K H (x::xs) (d::ds)
end
theorem DX.same{K:W.Frag}{H H':Hp}(e:Same H H'){x:V}{d:PyData}(h:DX K H x d):DX K H' x d:=
 DX.rec (motive_1:=fun x d _=>DX K H' x d) (motive_2:=fun xs ds _=>ju K H' xs ds) .non (fun b=> .bl b) (fun i=> .int i) (fun x=> .str x) (fun h _ t=> .tup (e.tup h) t) (fun h _ t=> .lst (e.seq h) t) (fun ds h=> .dct ds (e _ _ h)) .nil (fun _ _ h t=> .cons h t) h
theorem ju.same{K:W.Frag}{H H':Hp}(e:Same H H'){xs:List V}{ds:List PyData}(h:ju K H xs ds):ju K H' xs ds:=
 ju.rec (motive_1:=fun x d _=>DX K H' x d) (motive_2:=fun xs ds _=>ju K H' xs ds) .non (fun b=> .bl b) (fun i=> .int i) (fun x=> .str x) (fun h _ t=> .tup (e.tup h) t) (fun h _ t=> .lst (e.seq h) t) (fun ds h=> .dct ds (e _ _ h)) .nil (fun _ _ h t=> .cons h t) h
theorem DV.dx{K:W.Frag}{H:Hp}{x:V}{d:PyData}(h:DV K H x d):DX K H x d:=
 DV.rec (motive_1:=fun x d _=>DX K H x d) (motive_2:=fun xs ds _=>ju K H xs ds) .non (fun b=> .bl b) (fun i=> .int i) (fun x=> .str x) (fun h _ t=> .tup h t) (fun h _ t=> .lst h t) (fun h=> .dct [] h) (fun h _=> .dct _ h) .nil (fun _ _ h t=> .cons h t) h
def yc:PyData->String
 | .none=>"NoneType"
 | .bool _=>"bool"
 | .int _=>"int"
 | .str _=>"str"
 | .list _=>"list"
 | .tuple _=>"tuple"
 | .dict _=>"dict"
theorem DX.kind{K:W.Frag}{H:Hp}:∀{x:V} {d:PyData},DX K H x d->Qv K H x (yc d)
 |_,_,.non=>rfl
 |_,_,.bl _=>rfl
 |_,_,.int _=>rfl
 |_,_,.str _=>rfl
 |_,_,.tup h _=> .inl ⟨rfl,_,h⟩
 |_,_,.lst h _=> .inr (.inl ⟨rfl,_,h⟩)
 |_,_,.dct _ h=> .inr (.inr ⟨rfl,_,h⟩)
theorem ju.len{K:W.Frag}{H:Hp}{xs:List V}{ds:List PyData}(h:ju K H xs ds):xs.length=ds.length:=
 ju.rec (motive_1:=fun _ _ _=>True) (motive_2:=fun xs ds _=>xs.length=ds.length) trivial (fun _=>trivial) (fun _=>trivial) (fun _=>trivial) (fun _ _ _=>trivial) (fun _ _ _=>trivial) (fun _ _=>trivial) rfl (fun _ _ _ t=>iW Nat.succ t) h
theorem ju.get{K:W.Frag}{H:Hp}:∀{xs:List V} {ds:List PyData} {i:Nat} {x:V},ju K H xs ds->xs[i]? =some x->∃d,ds[i]? =some d/\DX K H x d
 |_,_,_,_,.nil,e=>by simp at e
 |_,_,0,_,.cons h _,e=>by simp at e;subst e;exact⟨_,rfl,h⟩
 |_,_,i+1,x,.cons _ t,e=>by
  obtain⟨d,h1,h2⟩:=ju.get (i:=i) t (by simpa using e)
  exact⟨d,by simpa using h1,h2⟩
structure bF(K:W.Frag)(mg:Str->Option Value)(x:Str)(st:Stmt)(ps:List Str)(f:Addr)(fd:FuncData):Prop where
 F:Fun K x x st f fd
 b:Binds K fd ps []
 m:mg x=some (.ref f)
theorem pc{X:Cx}{x:Str}{st:Stmt}{ps:List Str}{f:Addr}{fd:FuncData}{j k:Nat}{sp:Sp}{E:XK}{e:Expr}{es:List Expr}{t:TA}{p pos:Pos}(F:FnOk X.prog X.w X.K X.mg X.base CX0 j f fd ps sp)(hr:Room k X.A)(D:bF X.K X.mg x st ps f fd)(ha:PA X (e::es) t)(hj:j<=k:=by decide)(hg:Gl X x:=by rfl)(hx:Passes CX0 X E:=by exact pass0)(hdb:(x==("__debug__":Str))=false:=by decide)(he:starEach (e::es) X.env=(false,eval e X.env)::starEach es X.env:=by rfl)(hpl:(backTo pos (starEach es X.env)).any (·.1)=false:=by rfl):PE X (.Call (.Name x p) (e::es) [] pos) (tCall sp [] E t):=pe_call (F.mono hj) hr hg D.m D.F.kp D.b .nil hx ha hdb he hpl
theorem fsc{N P:List Str}{sc:Scope}(a:sc.kind= .function:=by rfl)(b:sc.isCoroutine=false:=by rfl)(c:sc.isGenerator=false:=by rfl)(d:N.Nodup:=by decide+kernel)(e:N.take P.length=P:=by rfl)(f:∀x∈P,sc.names.lookup x=some .local\/sc.names.lookup x=some .cell:=by decide+kernel)(g:∀y∈sc.names,y.2≠.free:=by decide+kernel):FnScope N P sc:=⟨a,b,c,d,e,f,g⟩
theorem aP{H:Hp}{p:Addr}(h:H p=none)(o:HO):Same H (upd H p o):=fun b u q=>by rw[cL (pJ q h)];exact q
end L2
namespace wB
open PySem L2
def ql:PyData->Bool
 | .int _=>true
 |_=>false
def bR(n:Int):PyData->Bool
 | .int i=>decide (0<=i)&&decide (i<n)
 |_=>false
def intD:PyData->Int
 | .int i=>i
 |_=>0
def kids:PyData->List PyData
 | .tuple ds=>ds
 |_=>[]
def iC(ns:List Int):Bool:=(List.range (ns.length-1)).all fun k=>decide (ns.getD k 0<ns.getD (k+1) 0)
def iB(ts:List (List Int)):Bool:=(List.range (ts.length-1)).all fun k=>HT.lexLt (ts.getD k []) (ts.getD (k+1) [])
def lM(n:Int):PyData->Bool
 | .tuple ds=>ds.all (bR n)&&iC (ds.map intD)
 |_=>false
def jX(n:Int)(d:PyData):Bool:=lM n d&&decide ((kids d).length=2)
def lG(n:Int):PyData->Bool
 | .tuple ds=>ds.all (jX n)&&iB (ds.map fun t=>(kids t).map intD)
 |_=>false
def su:PyData->Bool
 | .tuple [n,t]=>ql n&&(decide (0<=intD n)&&decide (intD n<=10))&&lG (intD n) t
 |_=>false
theorem Ac{n:Int}:∀{d:PyData},bR n d=true->∃i,d= .int i/\0<=i/\i<n
 | .int i,h=>⟨i,rfl,by simpa[bR]using h⟩
end wB
namespace L2
open PySem PySem.Spec PyProof.Rows
section
variable{X:Cx}
theorem iG(K:W.Frag)(h:X.K=K:=by rfl):IxR X (rIxT K):=by subst h;exact fH
theorem gK(K:W.Frag)(h:X.K=K:=by rfl):IxR X (rIxL K):=by subst h;exact oJ
theorem um(K:W.Frag)(h:X.K=K:=by rfl):CallR X (.builtin "len") (fun xs H Q=>∃p ys,xs=[.ref p]/\(SqL K H p ys\/SqT K H p ys)/\(ys.length<=16777216->Q (.int ys.length) H)):=by subst h;exact yX
theorem M6(K:W.Frag)(hu:X.A.units<cLine)(h:X.K=K:=by rfl):OpR X (compareOp .Lt) (rLtT K):=by subst h;exact op_ltT hu
theorem p7(K:W.Frag)(hu:X.A.units+64<cLine)(h:X.K=K:=by rfl):OpR X (compareOp .In) (fun x y H Q=>∃(p:Addr) (xs:List V) (ds:List PyData) (dx:PyData),y= .ref p/\(SqL K H p xs\/SqT K H p xs)/\cB K H xs ds/\DV K H x dx/\PyData.canLayAll0 ds=true/\dx.canLay0=true/\dx.depth<=60/\
  Q (.bl (ds.any fun d=>PyData.eqv d dx)) H):=by subst h;exact Jz hu
theorem dD(K:W.Frag){es:List Expr}{k:Nat}{t:TGs}{n:Nat}{pos:Pos}(hc:X.calm=true)(h:PGs X es t)(hn:(assignEach es X.env).length=n:=by rfl)(hst:(assignEach es X.env).findIdx? (·.1)=none:=by rfl)(hK:X.K=K:=by rfl):PG X (.Tuple es k pos) (gTup K n t):=by subst hK;exact pg_tup hc h hn hst
end
end L2
namespace PySem
open Sem (wp)
open AutoSeq1 (wpAny_loadPart')
section
variable{prog:Program}{w:World}{A:Around}{E:Value->Shared->Prop}{s:Shared}
theorem jH{Q:List Value->Shared->Prop}{r:Addr}{a b c:Int}{t u v:Tok}{n:Nat}(hh:A.handled=none)(hr:IsRange s.heap r a b c t u v)(hsmall:Builtin.Range.small a b c=true)(hn:Builtin.Range.rangeSize a b c=n)(hlen:n<=2^24)(hQ:∀h' tk acc,(∀b o',s.heap.get? b=some o'->h'.get? b=some o')->ItemsOf (fun i v=>∃t,v= .int (a+i*c) t) acc n->Q acc.toList {s with heap:=h',toks:=tk}):
  wpAny (model prog w) A (collect (.ref r)) Q E s:=by
 unfold collect
 refine bO (wpAny_runValue (Vi F.entry_proto_collect ?_));rw[Vp F.plain_proto_collect _];show wpAny _ A.in1 (newList []>>=fun l=>again (.builtin "list.__iadd__" ⟨[l,.ref r],[]⟩)) _ _ s;refine bO (Vn ?_);refine gR ⟨Vg F.plain_list_iadd _,Vi F.entry_list_iadd ?_⟩;rw[Vp F.plain_list_iadd _]
 show wpAny _ A.in1 (Builtin.List.listExtendWith (.ref s.heap.objs.size) (.ref r) (.ref s.heap.objs.size)) _ _ _;have hS:(s.heap.push {cls:= .type "list",data:= .seq ([]:List Value).toArray}).get? s.heap.objs.size=some {cls:= .type "list",data:= .seq #[] 0}:=wj _ rfl;have fin':∀h' tk acc' c',(∀b o,b≠s.heap.objs.size->(s.heap.push {cls:= .type "list",data:= .seq ([]:List Value).toArray}).get? b=some o->h'.get? b=some o)->
   h'.get? s.heap.objs.size=some {cls:= .type "list",dict:=none,data:= .seq acc' c',slots:=#[]}->ItemsOf (fun i v=>∃t,v= .int (a+i*c) t) acc' n->wpAny (model prog w) A (match Value.ref s.heap.objs.size with
   |Value.ref a=>do
    match(<-load a).data with
     |Data.seq xs _=>pure xs.toList
     |_=>unsupported "internal:collect"
   |_=>unsupported "internal:collect") Q E {s with heap:=h',toks:=tk}:=fun h' tk acc' c' hk hS' hacc=>by
  show wpAny _ A (load s.heap.objs.size>>=_) _ _ _
  refine bO (wpAny_load hS' ?_)
  refine gR ?_
  exact hQ h' tk acc' (fun b o e=>hk b o (iK (fD e)) (jy _ e)) hacc
 refine QT (wpAny_extend_range (A:=A) (R:=fun r s'=>r= .ok (.ret (.ref s.heap.objs.size))/\∃h' tk acc' c',s'={s with heap:=h',toks:=tk}/\(∀b o,b≠s.heap.objs.size->(s.heap.push {cls:= .type "list",data:= .seq ([]:List Value).toArray}).get? b=some o->h'.get? b=some o)/\
   h'.get? s.heap.objs.size=some {cls:= .type "list",dict:=none,data:= .seq acc' c',slots:=#[]}/\ItemsOf (fun i v=>∃t,v= .int (a+i*c) t) acc' n) (s:={s with heap:=s.heap.push {cls:= .type "list",data:= .seq ([]:List Value).toArray}}) hh (jy _ hr) hsmall hn hlen s.heap.objs.size (.ref s.heap.objs.size) 0 hS (fun h' tk acc' c' hk hS' hacc=>⟨rfl,h',tk,acc',c',rfl,hk,hS',hacc⟩)) (fun fin s' h=> ?_) (fun e s' h=> ?_)
 ·cases fin with
  |done f=>
   obtain⟨e,h',tk,acc',c',rfl,h1,h2,h3⟩:=h
   cases e
   exact fin' h' tk acc' c' h1 h2 h3
  |again c'=>exact⟨h.1,Vc h.2 fun r s'' hr=>by obtain⟨rfl,h',tk,acc',c',rfl,h1,h2,h3⟩:=hr;exact fin' h' tk acc' c' h1 h2 h3⟩
 ·exact absurd h.1 (by simp)
end
theorem iT(r:Addr)(a b c:Int)(t u v:Tok)(n:Nat)(hsmall:Builtin.Range.small a b c=true)(hn:Builtin.Range.rangeSize a b c=n)(hlen:n<=2^24):
  Meets (Builtin.«tuple.__new__» ⟨[.type "tuple",.ref r],[]⟩)
   (fun A R s=>A.handled=none/\IsRange s.heap r a b c t u v/\∀(h':Heap) tk acc,(∀b o',s.heap.get? b=some o'->h'.get? b=some o')->ItemsOf (fun i v=>∃t,v= .int (a+i*c) t) acc n->R (.ok (.ret (.ref h'.objs.size))) {s with heap:=h'.push {cls:= .type "tuple",data:= .seq acc},toks:=tk}):=
 .of_wp fun prog w A R s h=>by
  obtain⟨hp,g,d,tk,os⟩:=s;obtain⟨hh,ht,h⟩:=h
  have hsub:=sub_tuple_self
  have hinit:=init_tuple_lookup
  have hmh:=madeHere_tuple
  have hT:Shared.TypeIs ⟨hp,g,d,tk,os⟩ (.ref r) "range":=⟨_,ht,rfl⟩
  wp_walk using wpAny_loadPart' ht,wpAny_typeOf hT,jH (A:=A.in1) hh ht hsmall hn hlen
  intro h' tk' acc hk hacc
  show wpAny _ _ (Builtin.Tuple.tupleExact acc.toList.toArray>>=fun v=>ret v) _ _ _
  unfold Builtin.Tuple.tupleExact
  refine bO (Vn ?_ (by show acc.toList.toArray.size<=sizeLine;rw[dO];simp;rw[hacc.1];omega))
  refine gR ⟨_,rfl,?_⟩
  have e:acc.toList.toArray=acc:=by simp
  rw[e]
  exact h h' tk' acc hk hacc
section
variable{prog:Program}{w:World}{A:Around}{E:Value->Shared->Prop}{s:Shared}
theorem nW{Q:Value->Shared->Prop}{r:Addr}{a b c:Int}{t u v:Tok}{n:Nat}(hh:A.handled=none)(hr:IsRange s.heap r a b c t u v)(hsmall:Builtin.Range.small a b c=true)(hn:Builtin.Range.rangeSize a b c=n)(hlen:n<=2^24)(h:∀(h':Heap) tk acc,(∀b o',s.heap.get? b=some o'->h'.get? b=some o')->ItemsOf (fun i v=>∃t,v= .int (a+i*c) t) acc n->Q (.ref h'.objs.size) {s with heap:=h'.push {cls:= .type "tuple",data:= .seq acc},toks:=tk}):
  wpAny (model prog w) A (call (.type "tuple") [.ref r]) Q E s:=
 callType_new F.called_tuple (by decide) (F.typeCall_tuple_1 _) (F.newCall_tuple_1 _) (fun obj=>F.args_object_init_2 obj _) F.entry_tuple_new
  (iT r a b c t u v n hsmall hn hlen) ⟨hh,hr,fun h' tk acc hk hacc=>⟨⟨_,wj _ rfl,rfl⟩,h h' tk acc hk hacc⟩⟩
end
end PySem
namespace L2
open PySem PySem.Spec PyProof.Rows
section
variable{X:Cx}{p p' pos pos':Pos}{a:Expr}{ta:TA}
def dR(n:Nat):List V:=(List.range n).map fun(k:Nat)=>V.int (k:Int)
def Vt(ta:TA):TE:=fun σ H Q=>ta σ H fun vs H1=>∃j:Int,vs=[.int j]/\0<=j/\j<=16777216/\∀l,H1 l=none->Q (.ref l) (upd H1 l (.tup (dR j.toNat)))
theorem qt:∀{n:Nat} {us:List Value},us.length=n->(∀(j:Nat) (u:Value),us[j]? =some u->∃t:Tok,u=Value.int (0+((j:Nat):Int)*1) t)->Vals (dR n) us:=by
 intro n us hl hi
 have go:∀(us:List Value) (k:Nat),(∀(j:Nat) (u:Value),us[j]? =some u->∃t:Tok,u=Value.int (0+((j+k:Nat):Int)*1) t)->Vals ((List.range' k us.length).map fun(k:Nat)=>V.int (k:Int)) us:=by
  intro us
  induction us with
  |nil=>intro k _;exact .nil
  |cons u us ih=>
   intro k h
   obtain⟨t,e⟩:=h 0 u rfl
   refine .cons ⟨t,?_⟩ (ih (k+1) fun j u' hj=> ?_)
   ·rw[e];congr 1;omega
   ·obtain⟨t',e'⟩:=h (j+1) u' (by simpa using hj)
    refine⟨t',?_⟩
    rw[e'];congr 1;omega
 have:=go us 0 (fun j u hj=>by obtain⟨t,e⟩:=hi j u hj;exact⟨t,by rw[e];rfl⟩)
 unfold dR
 rw[List.range_eq_range',<-hl]
 exact this
theorem xM(hc:X.calm=true)(Ww:Gl X "tuple")(Wt:X.mg "tuple"=none)(hg:Gl X "range")(hm:X.mg "range"=none)(ha:PA X [a] ta)(hs:starEach [a] X.env=[(false,eval a X.env)]:=by rfl)(hs2:starEach [Expr.Call (.Name "range" p') [a] [] pos'] X.env=[(false,eval (Expr.Call (.Name "range" p') [a] [] pos') X.env)]:=by rfl):
  PE X (.Call (.Name "tuple" p) [.Call (.Name "range" p') [a] [] pos'] [] pos) (Vt ta):=by
 intro pins s σ H Q I h
 refine Pq (ld_blt I Ww Wt (show bootBuiltins "tuple"=some (.type "tuple")from by decide+kernel) ?_ (by decide) (by decide))
 refine Lp ?_ hs2 rfl
 rw[hs2]
 refine YD ?_
 refine Call_ (ld_blt I hg hm U9 (Lp (thn (ha pos' pins s σ H _ I h) fun us s1 ⟨vs,H1,I1,r1,q1⟩=> ?_) hs rfl))
 obtain⟨j,e,q1,q2,q⟩:=q1
 subst e
 cases r1 with
 |cons r rr=>
  cases rr
  obtain⟨t,rfl⟩:=r
  refine call_range_1 ?_
  refine YC ?_
  have hn:Builtin.Range.rangeSize 0 j 1=((j.toNat:Nat):Int):=by rw[Yt];split<;>omega
  refine nW (I.ok.hd hc) (Yp ..) (small_one (by decide) (by decide) (by omega) (by omega)) hn (by omega) fun h' tk acc hk hacc=> ?_
  have I2:Inv X pins σ H1 {s1 with heap:=h',toks:=tk}:=I1.kept fun b o e=>hk b o (jy _ e)
  have hv:Vals (dR j.toNat) acc.toList:=qt (by rw[QM];exact hacc.1) (fun i u hu=>hacc.2 i u (by simpa using hu))
  have hz:(dR j.toNat).length<=sizeLine:=by unfold dR;rw[dO];simp;omega
  have I3:Inv X pins σ (upd H1 h'.objs.size (.tup (dR j.toNat))) {s1 with heap:=h'.push {cls:= .type "tuple",data:= .seq acc},toks:=tk}:=
   I2.laid (t':=tk) (fun b o e=>jy _ e) (aU _) (show ObjOk X.prog X.w _ _ _ (.tup (dR j.toNat))from⟨hz,acc.toList,hv,by rw[show acc=acc.toList.toArray by simp];exact TF _ _⟩)
  exact⟨.ref h'.objs.size,_,I3,rfl,q _ (I2.hok.fresh (aU _))⟩
open Classical in
theorem nG(hu:X.A.units+64<cLine):OpR X (compareOp .NotIn) (fun x y H Q=>∃(p:Addr) (xs:List V) (ds:List PyData) (dx:PyData),y= .ref p/\(SqL X.K H p xs\/SqT X.K H p xs)/\cB X.K H xs ds/\DV X.K H x dx/\PyData.canLayAll0 ds=true/\dx.canLay0=true/\dx.depth<=60/\
  Q (.bl (!(ds.any fun d=>PyData.eqv d dx))) H):=by
 intro pins s σ H x y v u Q I rx ry h
 obtain⟨p,xs,ds,dx,rfl,hq,hds,hx,ca,cb,hd,q⟩:=h
 cases ry
 obtain⟨bs,rb⟩:=DV.reads I hx rx
 have key:∀{its:List Value},Vals xs its->(∀y∈its,SeqAt.EqAt X.A.in1 s y v (decide (∃d as,Reads s.heap y d as/\d∈ds/\PyData.eqv d dx=true)))/\(its.any fun y=>decide (∃d as,Reads s.heap y d as/\d∈ds/\PyData.eqv d dx=true))=ds.any fun d=>PyData.eqv d dx:=by
  intro its rv
  obtain⟨as,ra⟩:=cB.reads I hds rv
  have each:∀{us:List Value} {es:List PyData} {as:List Addr},ReadsAll s.heap us es as->(∀e∈es,e∈ds)->(∀y∈us,SeqAt.EqAt X.A.in1 s y v (decide (∃d as,Reads s.heap y d as/\d∈ds/\PyData.eqv d dx=true)))/\(us.any fun y=>decide (∃d as,Reads s.heap y d as/\d∈ds/\PyData.eqv d dx=true))=es.any fun d=>PyData.eqv d dx:=by
   intro us
   induction us with
   |nil=>intro es as h _;cases h;exact⟨(fun y hy=>(nomatch hy)),rfl⟩
   |cons y us ih=>
    intro es as h hs
    cases h with
    | @cons _ _ d ds' as' bs' r rr=>
     obtain⟨i1,i2⟩:=ih rr fun e he=>hs e (iZ _ he)
     have cl:=Bx ca d (hs d jV)
     have e:decide (∃d as,Reads s.heap y d as/\d∈ds/\PyData.eqv d dx=true)=PyData.eqv d dx:=by
      rw[uE,wz]
      constructor
      ·rintro⟨d',as'',r',_,q'⟩
       obtain⟨rfl,_⟩:=(PySem.Reads.unique r _ _ r')
       exact q'
      ·intro q'
       exact⟨d,_,r,hs d jV,q'⟩
     refine⟨fun z hz=> ?_,?_⟩
     ·rcases eN.mp hz with rfl|hz
      ·rw[e]
       exact SeqAt.eqAt_reads d dx _ s _ _ _ _ r rb cl cb (by show X.A.units+1+min d.depth dx.depth<cLine;omega)
      ·exact i1 z hz
     ·rw[Vh,Vh,i2,e]
  exact each ra fun e he=>he
 rcases hq with hq|hq
 ·obtain⟨its,r,pl,hz⟩:=I.list hq
  obtain⟨k1,k2⟩:=key r
  refine SeqAt.notIn_listAt _ pl.isList (fun w hw=>k1 w (by simpa using hw)) ⟨.bl _,H,I,rfl,?_⟩
  rw[show∀f:Value->Bool,its.toArray.any f=its.any f from fun f=>by simp,k2]
  exact q
 ·obtain⟨its,r,pl,hz⟩:=I.tuple hq
  obtain⟨k1,k2⟩:=key r
  refine SeqAt.notIn_tupleAt _ pl (fun w hw=>k1 w (by simpa using hw)) ⟨.bl _,H,I,rfl,?_⟩
  rw[show∀f:Value->Bool,its.toArray.any f=its.any f from fun f=>by simp,k2]
  exact q
theorem Ae(K:W.Frag)(hu:X.A.units+64<cLine)(h:X.K=K:=by rfl):OpR X (compareOp .NotIn) (fun x y H Q=>∃(p:Addr) (xs:List V) (ds:List PyData) (dx:PyData),y= .ref p/\(SqL K H p xs\/SqT K H p xs)/\cB K H xs ds/\DV K H x dx/\PyData.canLayAll0 ds=true/\dx.canLay0=true/\dx.depth<=60/\
  Q (.bl (!(ds.any fun d=>PyData.eqv d dx))) H):=by subst h;exact nG hu
end
end L2
namespace PySem
open Sem (wp)
open Builtin
open AutoSeq1 (wpAny_loadPart')
theorem nH:fillsNumberSlot (.type "tuple") "mul"=pure false:=
 fillsNumberSlot_seq (id:="tuple.__mul__") (r:=some (.builtin "tuple.__rmul__")) F.slot_tuple_mul.lookup (by decide+kernel) F.slot_tuple_rmul.lookup (by decide+kernel)
theorem uW:seqRepeat? (.type "tuple")=pure (some (.builtin "tuple.__mul__")):=by
 unfold seqRepeat?
 rw[seqSlot_of (T:="tuple") (name:="__mul__") (id:="tuple.__mul__") F.slot_tuple_mul.lookup (by decide+kernel),seqSlot_of (T:="tuple") (name:="__rmul__") (id:="tuple.__rmul__") F.slot_tuple_rmul.lookup (by decide+kernel)]
 rfl
theorem vD(a:Int)(t:Tok)(l:Addr)(items:Array Value)(n:Nat)(d:Option Addr)(sl:Array (Option Value)):
  Meets (Builtin.«int.__rmul__» ⟨[.int a t,.ref l],[]⟩) (fun _ R s=>s.heap.get? l=some {cls:= .type "tuple",dict:=d,data:= .seq items n,slots:=sl}/\R (.ok (.ret Value.notImplemented)) s):=
 .of_wp fun prog w A R s h=>by obtain⟨hp,g,d,tk,os⟩:=s;obtain⟨hl,h⟩:=h;wp_walk;exact⟨_,rfl,h⟩
theorem tup_mul_1(l:Addr)(items:Array Value)(n:Nat)(d:Option Addr)(sl:Array (Option Value))(x:Int)(u:Tok)(hx:x=1):
  Meets (Builtin.«tuple.__mul__» ⟨[.ref l,.int x u],[]⟩) (fun _ R s=>s.heap.get? l=some {cls:= .type "tuple",dict:=d,data:= .seq items n,slots:=sl}/\R (.ok (.ret (Value.ref l))) s):=
 .of_wp fun prog w A R s h=>by
  subst hx
  obtain⟨hp,g,d,tk,os⟩:=s;obtain⟨hl,h⟩:=h;have f1:=ZD
  wp_walk using wpAny_loadPart' hl;exact⟨_,rfl,h⟩
theorem tup_mul_0(l:Addr)(items:Array Value)(n:Nat)(d:Option Addr)(sl:Array (Option Value))(x:Int)(u:Tok)(hx:x<=0)(hlo: -(2^63)<=x)(hne:items.isEmpty=false):
  Meets (Builtin.«tuple.__mul__» ⟨[.ref l,.int x u],[]⟩) (fun _ R s=>s.heap.get? l=some {cls:= .type "tuple",dict:=d,data:= .seq items n,slots:=sl}/\R (.ok (.ret (Value.ref s.heap.objs.size))) {s with heap:=s.heap.push {cls:=Value.type "tuple",data:=Data.seq #[]},toks:=s.toks}):=
 .of_wp fun prog w A R s h=>by
  obtain⟨hp,g,d,tk,os⟩:=s;obtain⟨hl,h⟩:=h;have f1:=ZD
  have c1:¬((decide (x< -(2^63))||decide (x≥2^63))=true):=by simp;omega
  have c2:¬((items.isEmpty||x==1)=true):=by rw[hne];simp;omega
  have c3:(decide (x<=0)||items.isEmpty)=true:=by rw[hne];simp;omega
  wp_walk using wpAny_loadPart' hl;rw[ao c1];wp_walk using wpAny_loadPart' hl;rw[ao c2];wp_walk using wpAny_loadPart' hl;exact⟨_,rfl,h⟩
theorem Ej(l:Addr)(items:Array Value)(n:Nat)(d:Option Addr)(sl:Array (Option Value))(x:Int)(u:Tok)(hx:1<x)(hhi:x<2^63)(hne:items.isEmpty=false)(hsz:items.size*x.toNat<=1000):
  Meets (Builtin.«tuple.__mul__» ⟨[.ref l,.int x u],[]⟩) (fun _ R s=>s.heap.get? l=some {cls:= .type "tuple",dict:=d,data:= .seq items n,slots:=sl}/\R (.ok (.ret (Value.ref s.heap.objs.size))) {s with heap:=s.heap.push {cls:=Value.type "tuple",data:=Data.seq (List.foldl (fun x1 x2=>x1++x2) #[] (List.replicate x.toNat items))},toks:=s.toks}):=
 .of_wp fun prog w A R s h=>by
  obtain⟨hp,g,d,tk,os⟩:=s;obtain⟨hl,h⟩:=h;have f1:=ZD
  have c1:¬((decide (x< -(2^63))||decide (x≥2^63))=true):=by simp;omega
  have c2:¬((items.isEmpty||x==1)=true):=by rw[hne];simp;omega
  have c3:¬((decide (x<=0)||items.isEmpty)=true):=by rw[hne];simp;omega
  have hxs:(items.size:Int)*x=((items.size*x.toNat:Nat):Int):=by rw[Pa,U4 (by omega)]
  have c4:¬((items.size:Int)*x>(2^63-1)/8):=by rw[hxs];omega
  have c5:¬(Builtin.Tuple.tupleTooMany ((items.size:Int)*x)=true):=by
   rw[hxs]
   intro z
   have z':((items.size*x.toNat:Nat):Int)>(sizeLine:Int):=eY z
   have:=dO
   generalize items.size*x.toNat=m at *
   omega
  have htake:(List.foldl (fun x1 x2=>x1++x2) #[] (List.replicate x.toNat items)).size<=sizeLine:=by
   have e:List.foldl (fun x1 x2=>x1++x2) #[] (List.replicate x.toNat items)=(List.replicate x.toNat items.toList).flatten.toArray:=by
    have:=PyProof.Rows.listMul_foldl_if items x.toNat
    rw[ao (by rw[hne];simp)]at this
    exact this
   rw[e,gw]
   have:(List.replicate x.toNat items.toList).flatten.length=x.toNat*items.size:=by simp
   rw[this,Lj,dO]
   omega
  wp_walk using wpAny_loadPart' hl;rw[ao c1];wp_walk using wpAny_loadPart' hl;rw[ao c2];wp_walk using wpAny_loadPart' hl;rw[ao c3]
  try dsimp only
  rw[ao c4]
  try dsimp only
  rw[ao c5]
  try dsimp only
  unfold Builtin.Tuple.tupleExact
  refine bO (Vn (gR ?_) htake)
  exact⟨_,rfl,h⟩
end PySem
namespace L2
open PySem PySem.Spec PyProof.Rows
section
variable{X:Cx}{p p' pos pos':Pos}{a:Expr}{ta:TA}
theorem Vals.VL{xs:List V}{us:List Value}(h:Vals xs us):∀k:Nat,Vals (List.replicate k xs).flatten (List.replicate k us).flatten
 |0=> .nil
 |k+1=>by rw[QL,QL,UL,UL];exact h.append (Vals.VL h k)
def VP(K:W.Frag):R2:=fun x y H Q=>∃a k xs,x= .ref a/\y= .int k/\SqT K H a xs/\xs≠[]/\ -(2^63)<=k/\k<2^63/\xs.length*k.toNat<=1000/\∀r H',Same H H'->SqT K H' r (List.replicate k.toNat xs).flatten->Q (.ref r) H'
theorem M5:OpR X (binaryOp .Mult) (VP X.K):=by
 intro pins s σ H x y v u Q I rx ry h
 obtain⟨a,k,xs,rfl,rfl,ha,hne,h1,h2,hz,q⟩:=h
 cases rx
 obtain⟨t,rfl⟩:=ry
 obtain⟨its,r1,p1,_⟩:=I.tuple ha
 obtain⟨⟨cls,dd,data,sl⟩,ho,hc,n,hd⟩:=id p1
 simp only at hc hd
 subst hc hd
 have hlen:=r1.length
 have hem:its.toArray.isEmpty=false:=by
  cases its with
  |nil=>cases r1;exact absurd rfl hne
  |cons _ _=>rfl
 have road:∀{S:PySem.Spec},Meets (Builtin.«tuple.__mul__» ⟨[.ref a,.int k t],[]⟩) S->S X.A (wants (EP X pins σ Q) X.xe) s->wpAny (model X.prog X.w) X.A (binaryOp .Mult (.ref a) (.int k t)) (EP X pins σ Q) X.xe s:=fun M hS=>
  wpAny_binaryOp_repeat_ref (T:="tuple") (U:="int") (by decide) ⟨_,ho,rfl⟩ (fun s'=>typeIs_int s' k t) nH F.fills_int_mul F.slot_int_rmul uW F.slot_int_index.lookup
   (TJ F.slot_int_rmul (typeIs_int s k t) F.entry_int_rmul (F.args_int_rmul_2 _ _) (vD k t a its.toArray n dd sl)
    ⟨ho,rfl,⟨_,ho,rfl⟩,TJ F.slot_tuple_mul ⟨_,ho,rfl⟩ F.entry_tuple_mul (F.args_tuple_mul_2 _ _) M hS⟩)
 by_cases c1:k=1
 ·refine road (tup_mul_1 a its.toArray n dd sl k t c1) ⟨ho,⟨.ref a,H,I,rfl,q a H (Same.refl _) ?_⟩⟩
  subst c1
  have:(List.replicate (1:Int).toNat xs).flatten=xs:=by simp
  rw[this];exact ha
 by_cases c0:k<=0
 ·refine road (tup_mul_0 a its.toArray n dd sl k t c0 h1 hem) ⟨ho,?_⟩
  have e0:k.toNat=0:=by omega
  refine⟨.ref s.heap.objs.size,_,I.laid (t':=s.toks) (o:= .tup []) (fun b ob q=>jy _ q) (aU _) ⟨cY _,[],.nil,TF _ _⟩,rfl,q _ _ (fun c o e=>by rw[cL (pJ e (I.hok.fresh (aU _)))];exact e) ?_⟩
  rw[e0]
  exact SqT.of aH
 ·have hsz:its.toArray.size*k.toNat<=1000:=by rw[gw,<-hlen];exact hz
  refine road (Ej a its.toArray n dd sl k t (by omega) h2 hem hsz) ⟨ho,?_⟩
  have hnew:List.foldl (fun x1 x2=>x1++x2) #[] (List.replicate k.toNat its.toArray)=(List.replicate k.toNat its).flatten.toArray:=by
   have:=foldl_rep its k.toNat []
   rw[List.nil_append]at this
   exact this
  rw[hnew]
  have hz':(List.replicate k.toNat xs).flatten.length<=sizeLine:=by
   rw[len_rep,Lj]
   exact dW hz (by rw[dO];decide)
  refine⟨.ref s.heap.objs.size,_,I.laid (t':=s.toks) (o:= .tup (List.replicate k.toNat xs).flatten) (fun b ob q=>jy _ q) (aU _) ⟨hz',_,Vals.VL r1 k.toNat,TF _ _⟩,rfl,q _ _ (fun c o e=>by rw[cL (pJ e (I.hok.fresh (aU _)))];exact e) (SqT.of aH)⟩
def Vu(ta:TA):TE:=fun σ H Q=>ta σ H fun vs H1=>∃j:Int,vs=[.int j]/\0<=j/\j<=16777216/\∀l,H1 l=none->Q (.ref l) (upd H1 l (.lst (dR j.toNat)))
theorem oU(hc:X.calm=true)(Ww:Gl X "list")(Wt:X.mg "list"=none)(hg:Gl X "range")(hm:X.mg "range"=none)(ha:PA X [a] ta)(hs:starEach [a] X.env=[(false,eval a X.env)]:=by rfl)(hs2:starEach [Expr.Call (.Name "range" p') [a] [] pos'] X.env=[(false,eval (Expr.Call (.Name "range" p') [a] [] pos') X.env)]:=by rfl):
  PE X (.Call (.Name "list" p) [.Call (.Name "range" p') [a] [] pos'] [] pos) (Vu ta):=by
 intro pins s σ H Q I h
 refine Pq (ld_blt I Ww Wt (show bootBuiltins "list"=some (.type "list")from by decide+kernel) ?_ (by decide) (by decide))
 refine Lp ?_ hs2 rfl
 rw[hs2]
 refine YD ?_
 refine Call_ (ld_blt I hg hm U9 (Lp (thn (ha pos' pins s σ H _ I h) fun us s1 ⟨vs,H1,I1,r1,q1⟩=> ?_) hs rfl))
 obtain⟨j,e,q1,q2,q⟩:=q1
 subst e
 cases r1 with
 |cons r rr=>
  cases rr
  obtain⟨t,rfl⟩:=r
  refine call_range_1 ?_
  refine YC ?_
  have hn:Builtin.Range.rangeSize 0 j 1=((j.toNat:Nat):Int):=by rw[Yt];split<;>omega
  refine call_list_range (I.ok.hd hc) (Yp ..) (small_one (by decide) (by decide) (by omega) (by omega)) hn (by omega) fun h' tk acc c hk hS hacc=> ?_
  have hv:Vals (dR j.toNat) acc.toList:=qt (by rw[QM];exact hacc.1) (fun i u hu=>hacc.2 i u (by simpa using hu))
  have hz:(dR j.toNat).length<=sizeLine:=by unfold dR;rw[dO];simp;omega
  have I2:Inv X pins σ H1 {s1 with heap:=s1.heap.push {cls:=Value.type "range",data:=Data.fields #[Value.int 0 s1.toks,Value.int j t,Value.int 1 (s1.toks+1)]},toks:=s1.toks+1+1}:=I1.kept fun b o e=>jy _ e
  exact⟨.ref _,_,I2.laid (t':=tk) (o:= .lst (dR j.toNat)) hk (aU _) ⟨hz,acc.toList,c,hv,by simpa using hS⟩,rfl,q _ (I2.hok.fresh (aU _))⟩
end
end L2
namespace PySem
open Sem (wp)
open AutoSeq1 (wpAny_loadPart')
section
variable{prog:Program}{w:World}{A:Around}{E:Value->Shared->Prop}{s:Shared}
end
section
variable{prog:Program}{w:World}{A:Around}{E:Value->Shared->Prop}{s:Shared}
end
end PySem
namespace L2
open PySem PySem.Spec PyProof.Rows
section
variable{X:Cx}{pins:List (Addr×Obj)}{σ:St}{H:Hp}{s:Shared}{h':Heap}
theorem Inv.Ei{t':Nat}{fp:List Addr}{T:Addr}{o:HO}(I:Inv X pins σ H s)(k:∀b o,b∉fp->s.heap.get? b=some o->h'.get? b=some o)(hf:∀b∈fp,FpOk X pins H b)(hT:s.heap.objs.size<=T)(new:ObjOk X.prog X.w (upd H T o) h' T o):
  Inv X pins σ (upd H T o) {s with heap:=h',toks:=t'}:=by
 have hTn:H T=none:=I.hok.fresh hT
 have Wa:∀b u,H b=some u->b∉fp:=fun b u e z=>by rw[(hf b z).1]at e;cases e
 have neT:∀b o,s.heap.get? b=some o->b≠T:=fun b o e=>iK (jx (fD e) hT)
 have Wb:∀b u,H b=some u->b≠T:=fun b u e z=>by rw[z,hTn]at e;cases e
 refine I.step (g':=s.gens) (d':=s.drawn) (ch:=fp) (fun b hb=> ?_) (fun b o _ _ hc e _=>k b o hc e) (fun b o _ _ hc e _=>⟨o.slots,k b o hc e⟩) (fun b o _ e n=>by rw[cL (neT b o e)];exact n)
  (fun b o hc e=>⟨o,k b o hc e⟩) (fun b xs e=>by rw[cL (Wb b _ e)];exact e) (fun b o u e=>by rw[cL (Wb b _ e)];exact e) (fun b ps e=>⟨#[],by rw[cL (Wb b _ e),e];simp⟩) (fun m hm=> ?_) (fun b u e=> ?_) I.bare
 ·obtain⟨f0,f1,f2,f3,f4,f5⟩:=hf b hb
  exact⟨f3,f1,f4,f5⟩
 ·obtain⟨o,es,ep,ho,r⟩:=hm
  exact⟨o,es,ep,k _ o (fun z=>(hf _ z).2.1 rfl) ho,r⟩
 ·by_cases hb:b=T
  ·subst hb
   rw[aH]at e
   cases e
   exact new
  ·rw[cL hb]at e
   refine(I.hok b u e).stay (fun c v hc q=>k c v ?_ q) (fun c q=>by rw[cL (Wb c _ q)];exact q) fun c xs q=>by rw[cL (Wb c _ q)];exact q
   rcases hc with z|z
   ·rw[z];exact Wa b u e
   ·exact Wa c _ z
theorem Inv.turns{t':Nat}{fp:List Addr}(I:Inv X pins σ H s)(k:∀b o,b∉fp->s.heap.get? b=some o->h'.get? b=some o)(hf:∀b∈fp,FpOk X pins H b):Inv X pins σ H {s with heap:=h',toks:=t'}:=by
 have Wa:∀b u,H b=some u->b∉fp:=fun b u e z=>by rw[(hf b z).1]at e;cases e
 refine I.step (g':=s.gens) (d':=s.drawn) (ch:=fp) (fun b hb=> ?_) (fun b o _ _ hc e _=>k b o hc e) (fun b o _ _ hc e _=>⟨o.slots,k b o hc e⟩) (fun b o _ e n=>n)
  (fun b o hc e=>⟨o,k b o hc e⟩) (fun b xs e=>e) (fun b o u e=>e) (fun b ps e=>⟨#[],by rw[e];simp⟩) (fun m hm=> ?_) (fun b u e=> ?_) I.bare
 ·obtain⟨f0,f1,f2,f3,f4,f5⟩:=hf b hb
  exact⟨f3,f1,f4,f5⟩
 ·obtain⟨o,es,ep,ho,r⟩:=hm
  exact⟨o,es,ep,k _ o (fun z=>(hf _ z).2.1 rfl) ho,r⟩
 ·refine(I.hok b u e).stay (fun c v hc q=>k c v ?_ q) (fun c q=>q) fun c xs q=>q
  rcases hc with z|z
  ·rw[z];exact Wa b u e
  ·exact Wa c _ z
end
def SqE(K:W.Frag)(b:Bool)(H:Hp)(a:Addr)(xs:List V):Prop:=match b with
 |false=>SqL K H a xs
 |true=>SqT K H a xs
def Ite(K:W.Frag)(b:Bool)(a:Addr)(xs:List V):It:=
 ⟨fun i H=>SqE K b H a xs/\i<xs.length,fun i H x H'=>∃t v,x= .ref t/\H t=none/\H'=upd H t (.tup [.int (i:Int),v])/\xs[i]? =some v,fun i H=>SqE K b H a xs/\i=xs.length⟩
theorem zF{P:Program}{w:World}{K:W.Frag}{es:List Expr}{k:Nat}{pos:Pos}(a e it:Addr)(xs:List V)(hne:e≠it):
  Turn P w K (.Tuple es k pos) (Ite K false a xs) [e,it] e (fun i h=>(∃old,IsEnum h e it (i:Int) old)/\h.IsListIter it a i) where
 mem:=by simp
 obj:=fun i h st b hb=>by
  obtain⟨⟨old,he⟩,o,e1,c,d⟩:=st
  rcases eN.mp hb with z|hb
  ·subst z;exact⟨_,he,fun v z=>by cases z⟩
  ·have z:b=it:=by simpa using hb
   subst z
   exact⟨o,e1,fun v z=>by rw[d]at z;cases z⟩
 keep:=fun i h h' st k=>⟨st.1.imp fun old he=>k e (by simp) _ he,st.2.at fun o e=>k it (by simp) o e⟩
 item:=by
  intro X hP hw hK hc i pins s σ H E I hf st hg
  subst hP hw hK
  obtain⟨hq0,hi⟩:=hg
  have hq:SqL X.K H a xs:=hq0
  obtain⟨its,rv,p,hz⟩:=I.list hq
  have hx:xs[i]? =some xs[i]:=fX hi
  obtain⟨u,hu,ru⟩:=rv.get hx
  obtain⟨⟨old,he⟩,hit⟩:=st
  refine wpAny_pyNext_enum_item he hit p.isList (x:=u) (by simpa using hu) hne fun h1 ho hit1 hT hsz hk=>⟨_,rfl,?_⟩
  refine wpAny_letOwnedTupleGo_enum ho fun h2 he2 hs2=> ?_
  have RW:Heap.SameBut e h1 h2:=hs2
  have nTe:s.heap.objs.size≠e:=fun z=>absurd (fD he) (by rw[<-z];exact oM _)
  have keep:∀b o,b∉[e,it]->s.heap.get? b=some o->h2.get? b=some o:=fun b o hb q=>(RW.2 b fun z=>hb (by simp[z])).trans (hk b o (fun z=>hb (by simp[z])) (fun z=>hb (by simp[z])) q)
  have hT2:h2.get? s.heap.objs.size=some {cls:= .type "tuple",data:= .seq #[.int i s.toks,u]}:=(RW.2 _ nTe).trans hT
  have I2:=I.Ei (h':=h2) (t':=s.toks+1) (o:= .tup [.int (i:Int),xs[i]]) keep hf (aU _) ⟨(by show 2<=sizeLine;decide),[.int i s.toks,u],.cons ⟨_,rfl⟩ (.cons ru .nil),_,hT2,rfl,_,rfl⟩
  exact⟨.ref s.heap.objs.size,_,I2,rfl,⟨_,_,rfl,I.hok.fresh (aU _),rfl,hx⟩,⟨⟨_,by simpa using he2⟩,hit1.at fun o q=>(RW.2 it hne.symm).trans q⟩,fun b hb=>by
   rw[cL (fun z=> ?_)]
   ·exact(hf b hb).1
   ·obtain⟨_,q1,_⟩:=hit
    rcases eN.mp hb with y|y
    ·exact nTe (z.symm.trans y)
    ·have y:b=it:=by simpa using y
     rw[<-y,z]at q1
     exact absurd (fD q1) (oM _)⟩
 done:=by
  intro X hP hw hK hc i pins s σ H E I hf st hg
  subst hP hw hK
  obtain⟨hq0,hi⟩:=hg
  have hq:SqL X.K H a xs:=hq0
  obtain⟨its,rv,p,hz⟩:=I.list hq
  have hl:=rv.length
  obtain⟨⟨old,he⟩,hit⟩:=st
  exact wpAny_pyNext_enum_end (I.ok.hd hc) he hit p.isList (by simp;omega) fun h' eb=>⟨rfl,I.turns (t':=s.toks) (fp:=[e,it]) (fun b o hb q=>eb b o (fun z=>hb (by simp[z])) q) hf⟩
 self:=fun _ _ _ _ _ st h=>by
  obtain⟨⟨old,he⟩,_⟩:=st
  exact wpAny_pyIter_enum he h
section
variable{X:Cx}{es:List Expr}{k:Nat}{Jr:Pos}
end
section
variable{ini:St}{H:Hp}{g:TG}{tc:TT}{te:TE}{Fin:List V->Hp->Prop}{K:W.Frag}{b:Bool}{a:Addr}{xs:List V}
theorem nU(Pv:Nat->List V->St->Hp->Prop)(h0:Pv 0 [] ini H)(hl:∀(i:Nat) acc σ H,i<=xs.length->Pv i acc σ H->SqE K b H a xs)(hz:∀(i:Nat) acc σ H,i<=xs.length->Pv i acc σ H->acc.length<=i)(hx:xs.length<=sizeLine)(hs:∀(i:Nat) v t acc σ H,xs[i]? =some v->Pv i acc σ H->H t=none->g (.ref t) σ (upd H t (.tup [.int (i:Int),v])) fun σ2 H2=>tc σ2 H2 fun b H3=>if b=true then te σ2 H3 fun v H4=>Pv (i+1) (acc++[v]) σ2 H4 else Pv (i+1) acc σ2 H3)(hd:∀acc σ H,Pv xs.length acc σ H->Fin acc H):yW (Ite K b a xs) ini H g tc te Fin:=by
 refine⟨fun i m acc σ H=>m=xs.length-i/\i<=xs.length/\Pv i acc σ H,⟨xs.length,by simp,cY _,h0⟩,?_⟩
 rintro i m acc σ H ⟨rfl,hi,p⟩
 have q:=hl i acc σ H hi p
 have z:=hz i acc σ H hi p
 by_cases hlt:i<xs.length
 ·refine .inr ⟨⟨q,hlt⟩,by omega,fun acc σ H=>Pv (i+1) acc σ H,fun acc' σ' H' r=>⟨_,by omega,rfl,hlt,r⟩,fun x H' y=> ?_⟩
  obtain⟨t,v,rfl,ht,rfl,hv⟩:=y
  exact hs i v t acc σ H hv p ht
 ·have e:i=xs.length:=by omega
  subst e
  exact .inl ⟨⟨q,rfl⟩,by omega,hd acc σ H p⟩
end
section
variable{X:Cx}{e m a:Expr}{te:TE}{tm:TO}{ta:TA}{p p' pos pos' p2:Pos}
theorem xQ(K:W.Frag)(h:X.K=K:=by rfl):OpR X (binaryOp .Add) (Qg K):=by subst h;exact M7
end
section
variable{ini:St}{H:Hp}{g:TG}{tc:TT}{te:TE}{Fin:List V->Hp->Prop}{K:W.Frag}{b:Bool}{a:Addr}{xs:List V}
end
theorem gW{s u:TS}{D:Ends}{σ:St}{H:Hp}(I:St->Hp->Prop)(h1:∀N:St->Hp->Prop,(∀σ' H',I σ' H'->N σ' H')->s {D with nx:=N} σ H)(h2:∀σ' H',I σ' H'->u D σ' H'):tSeq s u D σ H:=h1 (u D) h2
section
variable{K:W.Frag}{σ:St}{H0:Hp}{tp:Addr}
end
theorem Bk:∀(names:List (Str×NameKind)) (n:Nat) (acc:List (Str×Addr)) {x:Str} {c:Addr},(x,c)∈cellsFrom n names acc->(x,c)∈acc\/((x,NameKind.cell)∈names/\n<=c)
 |[],_,_,_,_,h=> .inl h
 |(nm,k)::r,n,acc,x,c,h=>by
  unfold cellsFrom at h
  split at h
  ·rename_i hk
   have ek:k=NameKind.cell:=by simpa using hk
   rcases Bk r _ _ h with q|⟨q,m⟩
   ·rcases eN.mp q with e|e
    ·cases e
     subst ek
     exact .inr ⟨jV,aU _⟩
    ·exact .inl e
   ·exact .inr ⟨iZ _ q,by omega⟩
  ·rcases Bk r _ _ h with q|⟨q,m⟩
   ·exact .inl q
   ·exact .inr ⟨iZ _ q,m⟩
theorem vR:∀(names:List (Str×NameKind)) (n:Nat) (acc:List (Str×Addr)) {p:Str×Addr},p∈acc->p∈cellsFrom n names acc
 |[],_,_,_,h=>h
 |(nm,k)::r,n,acc,p,h=>by
  unfold cellsFrom
  split
  ·exact vR r _ _ (iZ _ h)
  ·exact vR r _ _ h
theorem Bm:∀(names:List (Str×NameKind)) (n:Nat) (acc:List (Str×Addr)) {x:Str},(x,NameKind.cell)∈names->∃c,(x,c)∈cellsFrom n names acc
 |(nm,k)::r,n,acc,x,h=>by
  unfold cellsFrom
  rcases eN.mp h with e|e
  ·cases e
   rw[aA (show(NameKind.cell==NameKind.cell)=true from rfl)]
   exact⟨n,vR r _ _ jV⟩
  ·split
   ·exact Bm r _ _ e
   ·exact Bm r _ _ e
theorem Bl{n0:Nat}:∀(names:List (Str×NameKind)) (n:Nat) (acc:List (Str×Addr)),n0<=n->(∀x y c,(x,c)∈acc->(y,c)∈acc->n0<=c->x=y)->(∀x c,(x,c)∈acc->c<n)->∀x y c,(x,c)∈cellsFrom n names acc->(y,c)∈cellsFrom n names acc->n0<=c->x=y
 |[],_,_,_,h,_=>h
 |(nm,k)::r,n,acc,hn,h,hl=>by
  unfold cellsFrom
  split
  ·refine Bl r (n+1) ((nm,n)::acc) (by omega) (fun x y c hx hy hc=> ?_) (fun x c hx=> ?_)
   ·rcases eN.mp hx with e1|e1<;>rcases eN.mp hy with e2|e2
    ·cases e1;cases e2;rfl
    ·cases e1;exact absurd (hl _ _ e2) (oM _)
    ·cases e2;exact absurd (hl _ _ e1) (oM _)
    ·exact h x y c e1 e2 hc
   ·rcases eN.mp hx with e1|e1
    ·cases e1;exact qj _
    ·exact rZ (hl _ _ e1)
  ·exact Bl r n acc hn h hl
theorem vQ:∀(names:List (Str×NameKind)) (h:Heap) (acc:List (Str×Addr)) {x:Str} {c:Addr},(x,c)∈cellsFrom h.objs.size names acc->(x,c)∈acc\/(pushCells h names).IsCell c none
 |[],_,_,_,_,h=> .inl h
 |(nm,k)::r,h,acc,x,c,hm=>by
  unfold cellsFrom at hm
  unfold pushCells
  split at hm
  ·rename_i hk
   rw[aA hk]
   have hm':(x,c)∈cellsFrom (h.push {cls:= .type "cell",data:= .cell none}).objs.size r ((nm,h.objs.size)::acc):=by rw[QD];exact hm
   rcases vQ r (h.push {cls:= .type "cell",data:= .cell none}) _ hm' with q|q
   ·rcases eN.mp q with e|e
    ·cases e
     exact .inr ⟨_,Yw _ _ _ _ (wj _ rfl),rfl⟩
    ·exact .inl e
   ·exact .inr q
  ·rename_i hk
   rw[ao hk]
   exact vQ r h acc hm
theorem Nr{M:Model}{A:Around}{E:Value->Shared->Prop}{s:Shared}{scope:Scope}{globals:Addr}{closure:List (Str×Addr)}{qual:Str}{env:Env}{Q:Env->Shared->Prop}(hQ:Q (newEnv scope s.heap.objs.size globals (cellsFrom (s.heap.objs.size+1) scope.names closure) qual none Value.none (some env) 0) {s with heap:=pushCells (s.heap.push {cls:= .type "dict",data:= .dict #[]}) scope.names}):
  wpAny M A (newFunctionEnv scope globals closure [] qual none .none (some env)) Q E s:=by
 simp only[newFunctionEnv,Option.isSome_some,Tz]
 refine bO (wpAny_alloc ?_)
 refine bO (wpAny_layCells _ (fun name kind cells=>by cases hkc:kind==NameKind.cell<;>simp[hkc]) _ _ _ _ ?_)
 rw[List.forIn_nil]
 refine bO (gR (gR ?_))
 rw[show({s with heap:=s.heap.push {cls:= .type "dict",data:= .dict #[]}}:Shared).heap.objs.size=s.heap.objs.size+1 from QD ..]
 exact hQ
def aX(sc scope:Scope):Bool:=scope.names.all fun p=>(p.2 !=NameKind.cell||scope.names.lookup p.1==some NameKind.cell)&&(p.2 !=NameKind.local||scope.names.lookup p.1==some NameKind.local)&&
 (p.2 !=NameKind.free||(scope.names.lookup p.1==some NameKind.free&&(sc.names.lookup p.1==some NameKind.cell||sc.names.lookup p.1==some NameKind.free)))
section
variable{sc scope:Scope}
theorem aX.cell(h:aX sc scope=true){x:Str}(hy:(x,NameKind.cell)∈scope.names):scope.names.lookup x=some .cell:=by
 have q:=jT.mp h _ hy
 simpa using q
theorem aX.names(h:aX sc scope=true):∀y∈scope.names,y.2= .local->scope.names.lookup y.1=some .local:=fun y hy e=>by
 have q:=jT.mp h y hy
 simpa[e]using q
theorem aX.free(h:aX sc scope=true){x:Str}(hy:(x,NameKind.free)∈scope.names):scope.names.lookup x=some .free/\(sc.names.lookup x=some .cell\/sc.names.lookup x=some .free):=by
 have q:=jT.mp h _ hy
 simpa using q
end
theorem xK{scope:Scope}{env:Env}{x:Str}(h:(relabel scope env).names.lookup x=some .cell\/(relabel scope env).names.lookup x=some .free):(x,NameKind.free)∈scope.names\/(x,NameKind.cell)∈scope.names:=by
 cases e:scope.names.lookup x with
 |none=>
  have q:=qL (env:=env) e
  rcases h with h|h
  ·rw[show(relabel scope env).names.lookup x=none from q]at h;cases h
  ·rw[show(relabel scope env).names.lookup x=none from q]at h;cases h
 |some k=>
  have q:=j6 (env:=env) e
  have m:=Hv e
  by_cases hk:k= .free
  ·subst hk;exact .inl m
  ·have q':(relabel scope env).names.lookup x=some k:=by
    refine Eq.trans q ?_
    have:(k==NameKind.free)=false:=by simpa using hk
    simp[this]
   rw[q']at h
   rcases h with h|h
   ·cases h;exact .inr m
   ·cases h;exact absurd rfl hk
def cF(X:Cx)(scope:Scope)(N:List Str)(s:Shared)(H:Hp)(cl:List (Str×Addr))(C:Addr)(ex:List Addr):Cx:=
 {X with N:=N,s₀:=s,H₀:=H,env:=compEnvC scope cl C X.env,outer:=X.stack,ex:=ex,fn:=fun x=>scope.names.lookup x==some NameKind.cell,pn:=[],xe:=fun _ _=>False}
section
variable{X:Cx}{tg iter elt:Expr}{ifs:List Expr}{scope:Scope}{pos:Pos}{own caps:List Str}{ix:List Nat}{g:TG}{tc:TT}{te:TE}
abbrev GX(X:Cx)(scope:Scope)(C:Addr):List (Str×Addr):=cellsFrom (C+1) scope.names (jJ X.env.cells scope.names [])
theorem vP{pins:List (Addr×Obj)}{s:Shared}{σ:St}{H:Hp}{C:Addr}(ck:aX X.env.scope scope=true)(I:Inv X pins σ H s){x:Str}{c:Addr}(e:(GX X scope C).lookup x=some c):
  (X.env.cells.lookup x=some c/\(x,NameKind.free)∈scope.names)\/((x,NameKind.cell)∈scope.names/\C<c/\(x,c)∉jJ X.env.cells scope.names []):=by
 have old:(x,c)∈jJ X.env.cells scope.names []->X.env.cells.lookup x=some c/\(x,NameKind.free)∈scope.names:=fun q=>by
  rcases mF q with q|⟨q,mm⟩
  ·cases q
  ·obtain⟨d,hd⟩:=I.ok.has x (aX.free ck mm).2
   rw[hd]at q
   have q:c=d:=q
   rw[q]
   exact⟨hd,mm⟩
 rcases Bk _ _ _ (Hv e)with q|⟨q,m⟩
 ·exact .inl (old q)
 ·refine .inr ⟨q,m,fun z=> ?_⟩
  have h1:=aX.cell ck q
  have h2:=(aX.free ck (old z).2).1
  rw[h1]at h2;cases h2
theorem yH{pins:List (Addr×Obj)}{s s':Shared}{σ:St}{H:Hp}{fp:List Addr}{C:Addr}{m:Str->Option Value}(ck:aX X.env.scope scope=true)(hkind:scope.kind= .function)(hcap:oH X scope caps ix)
  (I:Inv X pins σ H s)(f2:∀b∈fp,FpOk X pins H b)(hlt:∀b∈fp,b<s.heap.objs.size)(hC:s.heap.objs.size<=C)(hos:s'.os=s.os)(hg:AllBare s'.gens)(hk:∀b o,s.heap.get? b=some o->s'.heap.get? b=some o)(hn:s'.heap.Ns C m)(hcl:∀x c,(GX X scope C).lookup x=some c->(x,c)∉jJ X.env.cells scope.names []->s'.heap.IsCell c none):
  Inv (cF X scope (own++caps) s H (GX X scope C) C fp) [] (yg own ix σ) H s':=by
 have cl1:=fun x c e=>vP (C:=C) (x:=x) (c:=c) ck I e
 have Dh:∀x c,X.env.cells.lookup x=some c->c<s.heap.objs.size:=fun x c e=>by
  obtain⟨v,o,ho,_⟩:=I.cell x c e
  exact fD ho
 have cl2:∀x,(x,NameKind.free)∈scope.names\/(x,NameKind.cell)∈scope.names->∃c,(GX X scope C).lookup x=some c:=fun x mm=>by
  rcases mm with mm|mm
  ·obtain⟨c,hc⟩:=yI (cells:=X.env.cells) (acc:=[]) mm
   obtain⟨d,hd,_⟩:=XS (vR scope.names (C+1) _ hc)
   exact⟨d,hd⟩
  ·obtain⟨c,hc⟩:=Bm scope.names (C+1) (jJ X.env.cells scope.names []) mm
   obtain⟨d,hd,_⟩:=XS hc
   exact⟨d,hd⟩
 have inj:∀x y c,(GX X scope C).lookup x=some c->(GX X scope C).lookup y=some c->x=y:=fun x y c h1 h2=>by
  rcases cl1 x c h1 with⟨q1,_⟩|⟨q1,m1,_⟩<;>rcases cl1 y c h2 with⟨q2,_⟩|⟨q2,m2,_⟩
  ·exact I.ok.inj x y c q1 q2
  ·exact absurd (LC (jx (Dh x c q1) hC) m2) (oM _)
  ·exact absurd (LC (jx (Dh y c q2) hC) m1) (oM _)
  ·refine Bl (n0:=C+1) scope.names (C+1) _ (aU _) (fun x y c hx hy hc=> ?_) (fun x c hx=> ?_) x y c (Hv h1) (Hv h2) m1
   ·obtain⟨d,hd,_⟩:=XS hx
    rcases mF hx with q|⟨q,mm⟩
    ·cases q
    ·obtain⟨d,hd⟩:=I.ok.has x (aX.free ck mm).2
     rw[hd]at q
     have q:c=d:=q
     subst q
     exact absurd (jx (jx (Dh x c hd) hC) (cM hc)) (oM _)
   ·rcases mF hx with q|⟨q,mm⟩
    ·cases q
    ·obtain⟨d,hd⟩:=I.ok.has x (aX.free ck mm).2
     rw[hd]at q
     have q:c=d:=q
     subst q
     exact rZ (jx (Dh x c hd) hC)
 have bsz:X.base.objs.size<=s.heap.objs.size:=dW I.ok.bsz I.sz
 refine⟨⟨I.ok.mod,hkind,I.ok.glob,I.ok.blt,hC,inj,fun x hx=>cl2 x (xK hx),fun x c h e=> ?cab,I.ok.hd,I.ok.frames,.inl rfl,fun b hb=>⟨iK (jx (hlt b hb) hC),fun x c e=> ?exf⟩,I.bs,bsz,
  fun b o e hb=> ?_,fun b hb hz=> ?_,I.stack,I.stkFree⟩,?_,hg,Un.kept hk,⟨m,hn,fun i x v h1 h2 h3=> ?_⟩,fun x c e=> ?_,I.hok.fresh hC,fun x c e=> ?frc,fun p hp=>absurd (show p∈([]:List (Addr×Obj))from hp) (by simp),I.hok.kept hk,?_⟩
 case cab=>
  rcases cl1 x c e with⟨_,q⟩|⟨_,q,_⟩
  ·have y1:=(aX.free ck q).1
   have y2:(scope.names.lookup x==some NameKind.cell)=true:=h
   rw[y1]at y2
   exact absurd y2 (by decide)
  ·exact dW hC (cM q)
 case exf=>
  rcases cl1 x c e with⟨q,_⟩|⟨_,q,_⟩
  ·exact(f2 b hb).2.2.2.2.1 x c q
  ·exact lE (iK (LC (jx (hlt b hb) hC) q))
 case frc=>
  rcases cl1 x c e with⟨q,_⟩|⟨_,q,_⟩
  ·exact I.freeC x c q
  ·exact I.hok.fresh (dW hC (cM q))
 ·rcases(f2 b hb).2.2.2.1 with z|z
  ·exact I.ok.noex b o e z
  ·exact absurd (jx (fD e) (dW I.ok.bsz z)) (oM _)
 ·rcases eN.mp (I.stkSub b hz)with z|z
  ·exact(f2 b hb).2.1 z
  ·exact(f2 b hb).2.2.1 z
 ·exact hos
 ·have h1:(own++caps)[i]? =some x:=h1
  have h2:(own.map (fun _=>(none:Option V))++ix.map fun j=>(σ[j]?).join)[i]? =some (some v):=h2
  by_cases hi:i<own.length
  ·rw[Yl (by simpa using hi),dY]at h2
   cases e:own[i]? <;>rw[e]at h2<;>simp at h2
  ·rw[U7 (by simpa using hi)]at h2
   rw[U7 (by omega)]at h1
   rw[aM]at h2
   obtain⟨j,e1,e2,e3⟩:=hcap.get h1
   rw[dY,e1]at h2
   have h2':(σ[j]?).join=some v:=by simpa using h2
   have h4:σ[j]? =some (some v):=by
    cases q:σ[j]? with
    |none=>rw[q]at h2';cases h2'
    |some w=>rw[q]at h2';exact iW some h2'
   obtain⟨m0,hn0,hl0⟩:=I.loc
   have mm:=Hv e3
   have vis:=(aX.free ck mm).2
   obtain⟨u,r,l⟩:=hl0 j x v e2 h4 (.inr vis)
   refine⟨u,r,.inr ?_⟩
   rcases l with⟨k,_⟩|⟨k,c,e,z⟩
   ·rcases vis with q|q
    ·rw[show X.env.kindOf x=some .cell from q]at k;cases k
    ·rw[show X.env.kindOf x=some .free from q]at k;cases k
   ·obtain⟨d,hd⟩:=cl2 x (.inl mm)
    rcases cl1 x d hd with⟨this,_⟩|⟨qc,_⟩
    ·rw[e]at this
     cases this
     exact⟨Ab e3,c,hd,z.keeps hk⟩
    ·have y1:=aX.cell ck qc
     rw[e3]at y1;cases y1
 ·rcases cl1 x c e with⟨q,_⟩|⟨_,_,q⟩
  ·obtain⟨v,z⟩:=I.cell x c q
   exact⟨v,z.keeps hk⟩
  ·exact⟨none,hcl x c e q⟩
 ·show(own.map (fun _=>(none:Option V))++ix.map fun j=>(σ[j]?).join).length=(own++caps).length
  simp[hcap.len]
theorem rB(ck:aX X.env.scope scope=true)(hkind:scope.kind= .function)(hcap:oH X scope caps ix)(hc:X.calm=true)(hg:∀s H cl C ex,PG (cF X scope (own++caps) s H cl C ex) tg g)(ht:∀s H cl C ex,Uk (cF X scope (own++caps) s H cl C ex) ifs tc)(he:∀s H cl C ex,PE (cF X scope (own++caps) s H cl C ex) elt te){pins:List (Addr×Obj)}{s2:Shared}{σ:St}{H2:Hp}{E:Value->Shared->Prop}(I2:Inv X pins σ H2 s2){it:Addr}{fp:List Addr}{tn:Nat->Heap->Prop}{J:It}(T:Turn X.prog X.w X.K tg J fp it tn)(st2:tn 0 s2.heap)(f2:∀b∈fp,FpOk X pins H2 b)
  {W:Nat->Nat->List V->St->Hp->Prop}{m0:Nat}(w0:W 0 m0 [] (yg own ix σ) H2){Fin:List V->Hp->Prop}(turn:∀i m acc σ H,W i m acc σ H->(J.stop i H/\acc.length<=sizeLine/\Fin acc H)\/(J.go i H/\acc.length<sizeLine/\∃N:List V->St->Hp->Prop,(∀acc' σ' H',N acc' σ' H'->∃m',m'<m/\W (i+1) m' acc' σ' H')/\∀x H',J.yld i H x H'->g x σ H' fun σ2 H2=>tc σ2 H2 fun b H3=>
   if b=true then te σ2 H3 fun v H4=>N (acc++[v]) σ2 H4 else N acc σ2 H3))
  {RR:Value->Addr->Result->Shared->Prop}(hRR:∀D C s' acc Hf m,Inv X pins σ (upd Hf D (.lst acc)) s'->Hf D=none->s'.heap.Ns C m->FpOk X pins (upd Hf D (.lst acc)) C->Fin acc Hf->RR (.ref D) C (.ok .next) s'):
  wpAny (model X.prog X.w) X.A (newList []) (fun acc s₃=>wpAny (model X.prog X.w) X.A (newFunctionEnv scope X.env.globals (jJ X.env.cells scope.names []) [] X.env.qual none .none (some X.env)) (fun cenv s₄=>
   codeAny (model X.prog X.w) X.A (.compStart (.ListComp elt [⟨tg,iter,ifs,0⟩] scope pos) 0 (.ref it) acc {cenv with scope:=relabel scope X.env}) (RR acc cenv.locals) s₄) E s₃) E s2:=by
 refine Vn (Nr ?_)
 generalize hP:s2.heap.push {cls:= .type "list",dict:=none,data:= .seq ([]:List Value).toArray}=P1
 have hC:P1.objs.size=s2.heap.objs.size+1:=by rw[<-hP,QD]
 have hlt:∀b∈fp,b<s2.heap.objs.size:=fun b hb=>by
  obtain⟨o,e,_⟩:=T.obj _ _ st2 b hb
  exact fD e
 generalize hh1:pushCells (P1.push {cls:= .type "dict",data:= .dict #[]}) scope.names=h₁
 have hns₁:h₁.Ns P1.objs.size (fun _=>none):=by rw[<-hh1];exact(Heap.Ns.new P1 (.type "dict")).keeps (Yw _ _)
 have old:∀b o,s2.heap.get? b=some o->h₁.get? b=some o:=fun b o e=>by
  rw[<-hh1];exact Yw _ _ b o (jy _ (hP▸jy _ e))
 have hD1:h₁.get? s2.heap.objs.size=some {cls:= .type "list",data:= .seq ([]:List Value).toArray 0}:=by
  rw[<-hh1];exact Yw _ _ _ _ (jy _ (hP▸wj _ rfl))
 have Wz:∀x c,(GX X scope P1.objs.size).lookup x=some c->(x,c)∉jJ X.env.cells scope.names []->h₁.IsCell c none:=fun x c e n=>by
  have e':(x,c)∈cellsFrom (P1.objs.size+1) scope.names (jJ X.env.cells scope.names []):=Hv e
  rw[show P1.objs.size+1=(P1.push {cls:= .type "dict",data:= .dict #[]}).objs.size from(QD ..).symm]at e'
  rcases vQ _ _ _ e' with q|q
  ·exact absurd q n
  ·rw[<-hh1];exact q
 show codeAny (model X.prog X.w) X.A (.compStart (.ListComp elt [⟨tg,iter,ifs,0⟩] scope pos) 0 (.ref it) (.ref s2.heap.objs.size) {newEnv scope P1.objs.size X.env.globals (GX X scope P1.objs.size) X.env.qual none Value.none (some X.env) 0 with scope:=relabel scope X.env}) (RR (.ref s2.heap.objs.size) P1.objs.size) {s2 with heap:=h₁}
 generalize NQ:s2.heap.objs.size=D at *
 rw[hC]at hns₁ Wz⊢
 have entry:Inv (cF X scope (own++caps) s2 H2 (GX X scope (D+1)) (D+1) fp) [] (yg own ix σ) H2 {s2 with heap:=h₁}:=
  yH ck hkind hcap I2 f2 (by rw[NQ];exact hlt) (by rw[NQ];exact TV _) rfl I2.bare old hns₁ Wz
 generalize hX':cF X scope (own++caps) s2 H2 (GX X scope (D+1)) (D+1) fp=X' at entry
 have eP:X'.prog=X.prog:=by rw[<-hX'];rfl
 have ew:X'.w=X.w:=by rw[<-hX'];rfl
 have eK:X'.K=X.K:=by rw[<-hX'];rfl
 have eA:X'.A=X.A:=by rw[<-hX'];rfl
 have Qn:X'.calm=true:=by rw[<-hX'];exact hc
 have efs:X'.fs=frs X.stack:=by rw[<-hX'];rfl
 have eex:X'.ex=fp:=by rw[<-hX'];rfl
 have epn:X'.pn=[]:=by rw[<-hX'];rfl
 have es0:X'.s₀=s2:=by rw[<-hX'];rfl
 have eH0:X'.H₀=H2:=by rw[<-hX'];rfl
 have exe:X'.xe=fun _ _=>False:=by rw[<-hX'];rfl
 have Oi:X'.env=compEnvC scope (GX X scope (D+1)) (D+1) X.env:=by rw[<-hX'];rfl
 have Kw:X'.env.locals=D+1:=by rw[Oi];rfl
 have hg':PG X' tg g:=by rw[<-hX'];exact hg _ _ _ _ _
 have ht':Uk X' ifs tc:=by rw[<-hX'];exact ht _ _ _ _ _
 have he':PE X' elt te:=by rw[<-hX'];exact he _ _ _ _ _
 have ecl:∀x c,X'.env.cells.lookup x=some c->c≠D:=fun x c e=>by
  rw[Oi]at e
  rcases vP (C:=D+1) ck I2 e with⟨q,_⟩|⟨_,q,_⟩
  ·obtain⟨v',o',ho',_⟩:=I2.cell x c q
   exact iK (by rw[<-NQ];exact fD ho')
  ·exact lE (iK (LC (qj D) q))
 have dfs:D∉frs X.stack:=fun hb=>by
  rcases eN.mp (I2.stkSub D hb)with z|z
  ·exact absurd (Nat.lt_of_lt_of_eq I2.lt NQ) (by rw[z];exact oM _)
  ·exact I2.nofs (Cg NQ) z
 have fpn:∀{H':Hp} {o:Obj},(∀b∈fp,H' b=none)->∀b∈fp,FpOk X' [(D,o)] H' b:=fun{H' o} hn b hb=>by
  have hbl:=hlt b hb
  refine⟨hn b hb,by rw[Kw];exact iK (rZ hbl),?_,.inl (by rw[eex];exact hb),fun x c e=> ?_,fun p hp=> ?_⟩
  ·rw[efs]
   intro z
   rcases eN.mp (I2.stkSub b z)with z|z
   ·exact(f2 b hb).2.1 z
   ·exact(f2 b hb).2.2.1 z
  ·rw[Oi]at e
   rcases vP (C:=D+1) ck I2 e with⟨q,_⟩|⟨_,q,_⟩
   ·exact(f2 b hb).2.2.2.2.1 x c q
   ·exact lE (iK (LC (rZ hbl) q))
  ·rw[epn]at hp
   have:p=(D,o):=by simpa using hp
   rw[this]
   exact O1 hbl
 have aaf:∀{σ':St} {H':Hp} {s':Shared} {o:Obj},Inv X' [] σ' H' s'->s'.heap.get? D=some o->H' D=none->(∀v,o.data≠.cell v)->Inv X' [(D,o)] σ' H' s':=fun{σ' H' s' o} I e n d=>
  I.pins_of fun p hp=>by
   have:p=(D,o):=by simpa using hp
   subst this
   exact⟨e,n,by rw[Kw];exact iK (qj D),by rw[efs];exact dfs,d⟩
 have loop:∀s₃:Shared,s₃={s2 with heap:=h₁}->
   codeAny (model X.prog X.w) X.A (.compLoop (.ListComp elt [⟨tg,iter,ifs,0⟩] scope pos) 0 (.ref it) (.ref D) X'.env) (RR (.ref D) (D+1)) s₃:=by
  intro s₃ hs₃
  refine codeAny_loop rfl (fun n s'=>∃i acc its k σ' H',Inv X' [] σ' H' s'/\tn i s'.heap/\(∀b∈fp,H' b=none)/\s'.heap.get? D=some {cls:= .type "list",data:= .seq (List.toArray its) k}/\Vals acc its/\H' D=none/\W i n acc σ' H') ?_ m0
   ⟨0,[],[],0,yg own ix σ,H2,by rw[hs₃];exact entry,by rw[hs₃];exact T.keep _ _ _ st2 fun b _ o e=>old b o e,fun b hb=>(f2 b hb).1,by rw[hs₃];exact hD1,.nil,I2.hok.fresh (Cg NQ),w0⟩
  rintro n s3 ⟨i,acc,its,k,σ3,H3,I3,st3,fr3,eD,rv,nD,w3⟩
  show wpAny _ X.A ((compTurn (.ListComp elt [⟨tg,iter,ifs,0⟩] scope pos) 0 (.ref it) (.ref D) X'.env).onRaise (fun x=>do noteFrame x X'.env;theTreesLotGoes x)) _ _ s3
  refine wpAny_noted ?_
  rw[compTurn_list]
  have noE:∀{α:Type} {t:Sem α} {Q:α->Shared->Prop} {E':Value->Shared->Prop} {s:Shared},wpAny (model X'.prog X'.w) X'.A t Q X'.xe s->wpAny (model X.prog X.w) X.A t Q E' s:=fun{α t Q E' s} h=>by
   rw[eP,ew,eA,exe]at h
   exact QT h (fun _ _ q=>q) fun _ _ z=>z.elim
  have I3':=aaf (o:={cls:= .type "list",data:= .seq (List.toArray its) k}) I3 eD nD (fun v z=>by
   have z':Data.seq (List.toArray its) k=Data.cell v:=z
   cases z')
  refine bO (Yu (bO ?_))
  rcases turn i n acc σ3 H3 w3 with⟨stop,hz,fin⟩|⟨go,hz,Nn,hN,step⟩
  ·have q:=T.done X' eP ew eK Qn i [(D,_)] s3 σ3 H3 (notedBy (model X.prog X.w) X.A X'.env fun e s'=>RR (.ref D) (D+1) (.error e) s') I3' (fpn fr3) st3 stop
   rw[eA]at q
   refine thn q fun r s4 ⟨hr,I4⟩=> ?_
   subst hr
   refine gR ?_
   obtain⟨e4,_⟩:=I4.pin (D,_) (Cp _ jV)
   obtain⟨mC,hnC,_⟩:=I4.loc
   have u4:=I4.base
   rw[efs,eex,eH0,es0]at u4
   have ok4:=I4.hok
   rw[eP,ew]at ok4
   have nC:H3 (D+1)=none:=by have:=I4.free;rw[Kw]at this;exact this
   have hok:HOk X.prog X.w (upd H3 D (.lst acc)) s4.heap:=ok4.add nD ⟨hz,its,k,rv,e4⟩
   refine hRR D (D+1) s4 acc H3 mC ?_ nD (by rw[Kw]at hnC;exact hnC) ?_ fin
   ·refine I2.call' (s':=s4) (ch:=fp) ?_ (u4.add (by rw[NQ];exact aU _) nD) hok I4.bare fun b hb=> ?_
    ·have:=I4.os;rw[es0]at this;exact this
    ·obtain⟨f0,f1,f3,f4,f5,f6⟩:=f2 b hb
     exact⟨f4,f1,f5,f6⟩
   ·refine I2.fpOk (by rw[NQ];exact TV _) ?_
    rw[cL (O1 (qj D))]
    exact nC
  ·have q:=T.item X' eP ew eK Qn i [(D,_)] s3 σ3 H3 (notedBy (model X.prog X.w) X.A X'.env fun e s'=>RR (.ref D) (D+1) (.error e) s') I3' (fpn fr3) st3 go
   rw[eA]at q
   refine thn q fun r s4 ⟨u,hr,h4⟩=> ?_
   subst hr
   dsimp only
   refine bO (thn h4 fun _ s5 ⟨x,H5,I5,r5,y5,st5,fr5⟩=> ?_)
   have I5':=I5.pinned (fpn fr5) (T.obj _ _ st5)
   have again:∀{σ7:St} {H7:Hp} {s7:Shared},Inv X' ([(D,{cls:= .type "list",data:= .seq (List.toArray its) k})]++pinsAt fp s5.heap) σ7 H7 s7->tn (i+1) s7.heap/\(∀b∈fp,H7 b=none)/\s7.heap.get? D=some {cls:= .type "list",data:= .seq (List.toArray its) k}/\H7 D=none:=fun{σ7 H7 s7} I7=>by
    refine⟨T.keep _ _ _ st5 fun b hb o e=>(I7.pin (b,o) (Cp _ (Cp _ (mem_pinsAt hb e)))).1,fun b hb=> ?_,?_⟩
    ·obtain⟨o,e,d⟩:=T.obj _ _ st5 b hb
     exact(I7.pin (b,o) (Cp _ (Cp _ (mem_pinsAt hb e)))).2.1
    ·have:=I7.pin (D,_) (Cp _ (Tt _ jV))
     exact⟨this.1,this.2.1⟩
   refine bO (thn (noE (hg' _ s5 σ3 H5 x u _ I5' r5 (step x H5 y5))) fun _ s6 ⟨σ6,H6,I6,q6⟩=> ?_)
   refine bO (thn (noE (ht' _ s6 σ6 H6 _ I6 q6)) fun ok s7 ⟨H7,I7,q7⟩=> ?_)
   cases ok with
   |false=>
    rw[ao sW]at q7
    obtain⟨m',hm,w7⟩:=hN _ _ _ q7
    obtain⟨a1,a2,a3,a4⟩:=again I7
    exact gR ⟨rfl,m',hm,i+1,acc,its,k,σ6,H7,I7.pins_of (fun p hp=>nomatch hp),a1,a2,a3,rv,a4,w7⟩
   |true=>
    rw[aA rfl]at q7
    refine bO (bO (thn (noE (he' _ s7 σ6 H7 _ I7 q7)) fun v s8 ⟨y,H8,I8,r8,q8⟩=> ?_))
    obtain⟨m',hm,w8⟩:=hN _ _ _ q8
    obtain⟨a1,a2,a3,a4⟩:=again I8
    have hl:=rv.length
    refine bO (TJ F.slot_list_append ⟨_,a3,rfl⟩ F.entry_list_append (F.args_list_append_2 _ _) (PySem.list_append D its.toArray k v (by rw[gw];omega)) ⟨a3,?_⟩)
    refine gR (gR ⟨rfl,m',hm,i+1,acc++[y],its++[v],?_⟩)
    have qD:=PySem.IsL.update a3 (fun a:Array Value=>a.push v)
    rw[List.push_toArray]at qD
    have kp:∀b o,b≠D->s8.heap.get? b=some o->(s8.heap.update D (Obj.mapSeq fun a=>a.push v)).get? b=some o:=fun b o hb e=>(wca s8.heap _ (lE hb)).trans e
    have I8':Inv X' [] σ6 H8 {s8 with heap:=s8.heap.update D (Obj.mapSeq fun a=>a.push v)}:=by
     refine(I8.pins_of (pins':=[]) (fun p hp=>nomatch hp)).turned (t':=s8.toks) (it:=D) kp a4 (by rw[Kw];exact iK (qj D)) (.inr (by rw[es0,NQ];exact aU _)) (fun x c e=>ecl x c e) (fun p hp=> ?_)
     rw[epn]at hp
     exact nomatch hp
    exact⟨_,σ6,H8,I8',T.keep _ _ _ a1 fun b hb o e=>kp b o (iK (hlt b hb)) e,a2,qD,rv.append (.cons r8 .nil),a4,w8⟩
 have Xf:({newEnv scope (D+1) X.env.globals (GX X scope (D+1)) X.env.qual none Value.none (some X.env) 0 with scope:=relabel scope X.env}:Env)=X'.env:=by rw[Oi];rfl
 have L:=loop _ rfl
 rw[<-Xf]at L
 exact codeAny_compStart_list L (T.self X.A 0 _ _ _ (T.keep _ _ _ st2 fun b _ o e=>old b o e) L)
end
section
variable{X:Cx}{tg iter elt:Expr}{ifs:List Expr}{scope:Scope}{pos:Pos}{own caps:List Str}{ix:List Nat}{wi:TI}{g:TG}{tc:TT}{te:TE}
theorem oK(hc:X.calm=true)(hi:PI X tg iter wi)(ck:aX X.env.scope scope=true)(hkind:scope.kind= .function)(hcap:oH X scope caps ix)(hg:∀s H cl C ex,PG (cF X scope (own++caps) s H cl C ex) tg g)(ht:∀s H cl C ex,Uk (cF X scope (own++caps) s H cl C ex) ifs tc)(he:∀s H cl C ex,PE (cF X scope (own++caps) s H cl C ex) elt te)(hs:∀x,foldedSetIterable iter X.env x=pure x:=by intro _;rfl):PE X (.ListComp elt [⟨tg,iter,ifs,0⟩] scope pos) (Pz wi own ix g tc te):=by
 intro pins s σ H Q I h
 rw[eval_ListComp]
 refine wpAny_comprehension_free (use:=none) rfl hs (rC fun x hx=>I.ok.has x ((aX.free ck hx).2)) hkind (aX.names ck) (thn (hi pins s σ H _ I h) fun xv s1 h1=>thn h1 fun itv s2 h2=> ?_)
 obtain⟨it,fp,tn,J,H2,e,I2,T,st2,f2,W,⟨m0,w0⟩,turn⟩:=h2
 subst e
 refine rB (RR:=fun acc C=>compPost (model X.prog X.w) X.A X.xe none (EP X pins σ Q) acc C) ck hkind hcap hc hg ht he I2 T st2 f2 w0 turn ?_
 intro D C s' acc Hf m I' nD hn fC fin
 refine⟨m,hn,fun h' sb=> ?_⟩
 obtain⟨f0,f1,f3,f4,f5,f6⟩:=fC
 exact⟨.ref D,_,I'.turned (t':=s'.toks) (it:=C) (fun b o hb e=>(sb.2 b hb).trans e) f0 f1 f4 f5 f6,rfl,fin D nD⟩
theorem Qy{i:Nat}{y:Str}{py spos:Pos}(hN:X.N.Nodup)(hiN:X.N[i]? =some y)(hx:Loc X.env.scope y)(hc:X.calm=true)(hi:PI X tg iter wi)(ck:aX X.env.scope scope=true)(hkind:scope.kind= .function)(hcap:oH X scope caps ix)(hg:∀s H cl C ex,PG (cF X scope (own++caps) s H cl C ex) tg g)(ht:∀s H cl C ex,Uk (cF X scope (own++caps) s H cl C ex) ifs tc)(he:∀s H cl C ex,PE (cF X scope (own++caps) s H cl C ex) elt te)(hsw:swapsWith (.ListComp elt [⟨tg,iter,ifs,0⟩] scope pos) (some (.Name y py)) spos.line X.env=pure true:=by rfl)(hf:X.fn y=true\/X.env.scope.names.lookup y=some .local:=by first |exact .inl rfl|exact .inr rfl|assumption)(hs:∀x,foldedSetIterable iter X.env x=pure x:=by intro _;rfl):PS X (.Assign [.Name y py] (.ListComp elt [⟨tg,iter,ifs,0⟩] scope pos) spos) (tAsg (Pz wi own ix g tc te) (gName i)):=by
 intro pins s σ H Dn I h
 rw[exec_Assign_Name_used _ _ _ _ hsw]
 refine bO (Yu (bO ?_))
 show wpAny _ X.A (do let _<-comprehension (.ListComp elt [⟨tg,iter,ifs,0⟩] scope pos) scope X.env _ (newList []) false (eval iter X.env) (some (assign (.Name y py) X.env))) _ _ s
 refine bO (QT (wpAny_comprehension_free (use:=some (assign (.Name y py) X.env)) (Q:=fun _ s'=>SP X pins Dn .next s') rfl hs (rC fun x hx=>I.ok.has x ((aX.free ck hx).2)) hkind (aX.names ck)
  (thn (hi pins s σ H _ I h) fun xv s1 h1=>thn h1 fun itv s2 h2=> ?_)) (fun _ s' hq=>gR (gR hq)) fun _ _ e=>e)
 obtain⟨it,fp,tn,J,H2,e,I2,T,st2,f2,W,⟨m0,w0⟩,turn⟩:=h2
 subst e
 refine rB (RR:=fun acc C=>compPost (model X.prog X.w) X.A X.xe (some (assign (.Name y py) X.env)) (fun _ s'=>SP X pins Dn .next s') acc C) ck hkind hcap hc hg ht he I2 T st2 f2 w0 turn ?_
 intro D C s' acc Hf m I' nD hn fC fin
 obtain⟨f0,f1,f3,f4,f5,f6⟩:=fC
 show wpAny _ X.A (assign (.Name y py) X.env (.ref D)) _ _ _
 refine wpAny_assign_Name (store_ok2 I' hN hiN hx (show RelV (.ref D) (.ref D)from rfl) (fun s'' I'' ⟨a,sb,ha⟩=> ?_) hf)
 have hCa:C≠a:=by
  rcases ha with ha|ha
  ·rw[ha];exact f1
  ·exact fun z=>f5 y a ha z.symm
 refine⟨m,hn.sameBut sb hCa,fun h' sb'=> ?_⟩
 exact⟨_,_,I''.turned (t':=s''.toks) (it:=C) (fun b o hb e=>(sb'.2 b hb).trans e) f0 f1 f4 f5 f6,fin D nD⟩
end
section
variable{prog:Program}{w:World}{A:Around}{E:Value->Shared->Prop}{s:Shared}
end
section
variable{X:Cx}{a:Expr}{ta:TA}{p p' pos pos':Pos}
end
end L2
namespace vX
open PySem PySem.W PyProof.Rows PySem.Calls
section
variable{prog:Program}{w:World}{A:Around}{E:Value->Shared->Prop}{s:Shared}{O:KeyOrd}{key:Nat->O.α}{κ:SortKind}{vs:List Value}
end
end vX
namespace L2
open PySem PySem.Spec PyProof.Rows
section
variable{X:Cx}
end
section
variable{K:W.Frag}{σ:St}{H0:Hp}
end
end L2
namespace L2
open PySem PySem.W PySem.Spec PyProof.Rows
section
variable{X:Cx}
theorem vV:CallR X (.builtin "sorted") (fun xs H Q=>∃(a:Addr) (its:List (Addr×List Int)),xs=[.ref a]/\SqL X.K H a (its.map fun p=>V.ref p.1)/\(∀p∈its,SqT X.K H p.1 (p.2.map V.int)/\(2<=its.length->p.2≠[]))/\its.length<64/\
  ∀(l:Addr) (its':List (Addr×List Int)),H l=none->its'.Perm its->its'.Pairwise (fun p q=>HT.lexLt q.2 p.2=false)->Q (.ref l) (upd H l (.lst (its'.map fun p=>V.ref p.1)))):=by
 intro pins s σ H xs us Q I r h
 obtain⟨a,its,rfl,hS,hT,h64,q⟩:=h
 obtain⟨u,rfl,ru⟩:=r.one
 cases ru
 obtain⟨vs,rv,pl,hz⟩:=I.list hS
 have hlen:its.length=vs.length:=by have:=rv.length;simpa using this
 -- the values beside the tuples
 have pr:Paired (fun(p:Addr×List Int) (v:Value)=>v= .ref p.1) its vs:=by
  have go:∀(l:List (Addr×List Int)) (us:List Value),Vals (l.map fun p=>V.ref p.1) us->Paired (fun(p:Addr×List Int) (v:Value)=>v= .ref p.1) l us:=by
   intro l
   induction l with
   |nil=>intro us h;cases h;exact .nil
   |cons p l ih=>
    intro us h
    cases h with
    |cons r t=>exact .cons r (ih _ t)
  exact go its vs rv
 have tup:∀p∈its,∃(items:List Value),IntsAre items p.2/\IsTup s.heap p.1 items.toArray:=fun p hp=>by
  obtain⟨its',r',t',_⟩:=I.tuple (hT p hp).1
  exact⟨its',intsAre_of r',t'⟩
 refine vX.qF (O:=vX.lexOrd) (key:=fun i=>(its.getD i (0,[])).2) (κ:=tuples' true) (s:=s) pl.isList (by omega) (fun h2 h' k E' Q' hq=> ?_) (fun h2 h' k=> ?_) (fun D h' out c ho hD k hc=> ?_)
 ·have kt:∀(l:List (Addr×List Int)) (us:List Value),Paired (fun(p:Addr×List Int) (v:Value)=>v= .ref p.1) l us->(∀p∈l,p∈its)->∃fs:List Value,KatTups h' us fs/\fs.length=us.length/\∀v∈fs,∃i t,v=Value.int i t:=by
   intro l us h
   induction h with
   |nil=>intro _;exact⟨[],trivial,rfl,fun _ hv=>nomatch hv⟩
   | @cons p v l us r t ih=>
    intro hs
    obtain⟨fs,k1,k2,k3⟩:=ih fun p hp=>hs p (iZ _ hp)
    obtain⟨items,hi,o,e,hc,n,hd⟩:=tup p (hs p jV)
    have hne:=(hT p (hs p jV)).2 (by omega)
    obtain⟨pa,pn⟩:=p
    dsimp only at hi hne e r
    cases hi with
    |nil=>exact absurd rfl hne
    |cons i t hi'=>
     rw[r]
     refine⟨Value.int i t::fs,KatTups.cons (k _ _ e) hc hd (by simp) k1,by simp[k2],fun v hv=> ?_⟩
     rcases eN.mp hv with e|e
     ·exact⟨i,t,e⟩
     ·exact k3 v e
  obtain⟨fs,k1,k2,k3⟩:=kt its vs pr fun _ hp=>hp
  refine kat_kind (s:={s with heap:=h'}) (T:= .type "int") k1 (by omega) (fun v hv=> ?_) (by rfl) hq
  obtain⟨i,t,rfl⟩:=k3 v hv
  exact fun A Q E s _ q=>gR q
 ·intro i j C hi hj hC
  rw[<-hlen]at hi hj
  have get:∀i (hi:i<its.length),vs.getD i Value.none= .ref its[i].1:=by
   have go:∀(l:List (Addr×List Int)) (us:List Value),Paired (fun(p:Addr×List Int) (v:Value)=>v= .ref p.1) l us->∀i (hi:i<l.length),us.getD i Value.none= .ref l[i].1:=by
    intro l us h
    induction h with
    |nil=>intro i hi;simp at hi
    |cons r t ih=>
     intro i hi
     cases i with
     |zero=>exact r
     |succ i=>simpa using ih i (by simpa using hi)
   exact go its vs pr
  unfold kas_ask
  rw[get i hi,get j hj]
  obtain⟨xi,hxi,oi,ei,ci,ni,di⟩:=tup its[i] (Cj _)
  obtain⟨xj,Wn,oj,ej,cj,nj,dj⟩:=tup its[j] (Cj _)
  refine kat_lt (s:={s with heap:=h'}) (k _ _ ei) di (k _ _ ej) dj ?_
  refine vX.xY 0 hxi Wn ?_ ?_
  ·have:=hxi.length;have:=Wn.length
   simp only[gw]
   omega
  ·rw[HT.bB]
   have e1:its.getD i (0,[])=its[i]:=by simp[hi]
   have e2:its.getD j (0,[])=its[j]:=by simp[hj]
   have hC':C (decide ((its.getD i (0,[])).2<(its.getD j (0,[])).2)) {s with heap:=h'}:=hC
   rw[e1,e2]at hC'
   exact hC'
 ·obtain⟨its',hp,hr,hw⟩:=vX.Dg (d:=((0,[]):Addr×List Int)) (f:=fun p=>p.2) pr (fun i hi=>by show(its.getD i (0,[])).2=_;simp[hi]) ho
  have hn:H D=none:=I.hok.fresh hD
  have rv':Vals (its'.map fun p=>V.ref p.1) out:=by
   have go:∀(l:List (Addr×List Int)) (us:List Value),Paired (fun(p:Addr×List Int) (v:Value)=>v= .ref p.1) l us->Vals (l.map fun p=>V.ref p.1) us:=by
    intro l us h
    induction h with
    |nil=>exact .nil
    |cons r t ih=>exact .cons r ih
   exact go its' out hr
  have zl:(its'.map fun p=>V.ref p.1).length<=sizeLine:=by
   have:=hp.length_eq
   rw[aM]
   exact cM (small1000 (by omega))
  have J:Inv X pins σ (upd H D (.lst (its'.map fun p=>V.ref p.1))) {s with heap:=h',toks:=s.toks}:=I.laid k hD ⟨zl,out,c,rv',hc⟩
  refine⟨.ref D,_,J,rfl,q D its' hn hp (hw.imp fun{x y} hxy=> ?_)⟩
  rw[HT.bB];exact hxy
theorem tV(K:W.Frag){a:Expr}{ta:TE}(ha:PE X a ta)(he:∀whole,isTrue a X.env whole=(do let v<-whole;standAt a.pos;holding [v] (truthy v)))(h:X.K=K:=by rfl):
  PT X a (fun σ H Q=>ta σ H fun x H'=>∃k,TruV K x H' k/\Q k H'):=by subst h;exact pt_truth ha he
end
end L2
namespace L2
open PySem PySem.Spec PyProof.Rows
section
variable{prog:Program}{w:World}{A:Around}{E:Value->Shared->Prop}{s:Shared}{l:Addr}{kid:String}{vs:List Value}{R:Result->Shared->Prop}{Q:Value->Shared->Prop}
def Kp(s:Shared)(h:Heap):Prop:=∀b o,s.heap.get? b=some o->h.get? b=some o
theorem RP(kf:Nat->Int)(hA:A.handled=none)(hl:s.heap.IsList l vs.toArray)(turn:∀(i:Nat) (v:Value),vs[i]? =some v->∀(h:Heap) (tk:Nat),Kp s h->∀Q E:Value->Shared->Prop,(∀t tk',Q (.int (kf i) t) {s with heap:=h,toks:=tk'})->wpAny (model prog w) A.in1 (call (.builtin kid) [v]) Q E {s with heap:=h,toks:=tk})(hR:∀i v h' tk',vs[i]? =some v->(∀j,j<vs.length->kf j<=kf i/\(j<i->kf j<kf i))->Kp s h'->R (.ok (.ret v)) {s with heap:=h',toks:=tk'}):
  ∀(r j i:Nat) (h:Heap) (tk:Nat) (vb:Value) (tb:Tok) (c:Nat),vs.length-(j+1)=r->j+1<=vs.length->Kp s h->h.get? (s.heap.objs.size+1)=some (seqObj "list" #[vb,.int (kf i) tb] c)->h.IsListIter s.heap.objs.size l (j+1)->vs[i]? =some vb->i<=j->(∀j',j'<=j->kf j'<=kf i/\(j'<i->kf j'<kf i))->
   codeAny (model prog w) A (.builtin "max.loop" ⟨[.ref s.heap.objs.size,.builtin kid,.ref (s.heap.objs.size+1)],[]⟩) R {s with heap:=h,toks:=tk}:=by
 have nm:(toString "max"++toString ".loop":String)="max.loop":=by decide
 obtain⟨ol,hol,hlc,RZ,hld⟩:=id hl
 have nlI:l≠s.heap.objs.size:=iK (fD hol)
 have W:=Walks.list (prog:=prog) (w:=w) (A:=A.in1) hA s.heap.objs.size l nlI vs.toArray
 have zs:vs.toArray.size=vs.length:=gw ..
 have nSI:s.heap.objs.size+1≠s.heap.objs.size:=O1 (qj _)
 have hlK:∀h,Kp s h->h.IsList l vs.toArray:=fun h k=>⟨ol,k _ _ hol,hlc,RZ,hld⟩
 have kI:∀h h',Kp s h->(∀b o,b∉[s.heap.objs.size]->h.get? b=some o->h'.get? b=some o)->Kp s h':=fun h h' k q b o e=>q b o (fun z=>oM _ ((oN.mp z)▸fD e)) (k b o e)
 have kS:∀h h',Kp s h->(∀b,b≠s.heap.objs.size+1->h'.get? b=h.get? b)->Kp s h':=fun h h' k q b o e=>(q b (iK (rZ (fD e)))).trans (k b o e)
 intro r
 induction r with
 |zero=>
  intro j i h tk vb tb c hr hj k hS hit hvb hij hbest
  refine Vi wcb (by
   rw[Vp QX _]
   show wpAny _ A.in1 (seqItems? (.ref (s.heap.objs.size+1))>>=_) _ _ _
   refine bO (wpAny_seqItems hS rfl (?_))
   show wpAny _ A.in1 (tryCatch (pyNext (.ref s.heap.objs.size)) _>>=_) _ _ _
   refine bO (TY (W.done _ _ _ ⟨by rw[zs,<-show j+1=vs.length by omega];exact hit,hlK h k⟩ fun h' tk' hk'=> ?_))
   have g:=hk' (s.heap.objs.size+1) _ (by simp) hS
   show wpAny _ A.in1 (updateSeq (s.heap.objs.size+1) (fun _=>#[])>>=_) _ _ _
   refine bO (Zw g rfl (bO (Yo (gR ?_))))
   exact hR i vb _ _ hvb (fun j' hj'=>hbest j' (by omega)) (kS _ _ (kI _ _ k hk') (T4 h' (s.heap.objs.size+1) (Obj.mapSeq fun _=>(#[]:Array Value))).2))
 |succ r ih=>
  intro j i h tk vb tb c hr hj k hS hit hvb hij hbest
  have hlt:j+1<vs.length:=by omega
  refine Vi wcb (by
   rw[Vp QX _]
   show wpAny _ A.in1 (seqItems? (.ref (s.heap.objs.size+1))>>=_) _ _ _
   refine bO (wpAny_seqItems hS rfl (?_))
   show wpAny _ A.in1 (tryCatch (pyNext (.ref s.heap.objs.size)) _>>=_) _ _ _
   refine bO (TY (W.item (j+1) _ _ _ (by rw[zs];exact hlt) ⟨hit,hlK h k⟩ fun v h' tk' hP hst' hk'=> ?_))
   have hv:vs[j+1]? =some v:=(by simpa using hP)
   have k1:=kI _ _ k hk'
   have g:=hk' (s.heap.objs.size+1) _ (by simp) hS
   show wpAny _ A.in1 (tryCatch (holding [v] (call (.builtin kid) [v])) _>>=_) _ _ _
   refine bO (TY (Mi (turn (j+1) v hv h' tk' k1 _ _ fun t2 tk2=> ?_)))
   show wpAny _ A.in1 (tryCatch (holding [v,.int (kf (j+1)) t2] (richCompare .Gt (.int (kf (j+1)) t2) (.int (kf i) tb)>>=_)) _>>=_) _ _ _
   refine bO (TY (Mi (bO (CmpOf.ints_gt (prog:=prog) (w:=w) (A:=A.in1) (P:=fun i v=>∃t,v= .int (kf i) t) kf (fun i v h=>h) (j+1) i _ _ _ _ _ ⟨t2,rfl⟩ ⟨tb,rfl⟩ (bO (Mi (Hu (bO (Yo (gR ?_))))))))))
   by_cases hb:kf (j+1)>kf i
   ·have sb:=T4 h' (s.heap.objs.size+1) (Obj.mapSeq fun _=>#[v,.int (kf (j+1)) t2])
    obtain⟨c2,hc2⟩:∃c2,(h'.update (s.heap.objs.size+1) (Obj.mapSeq fun _=>#[v,.int (kf (j+1)) t2])).get? (s.heap.objs.size+1)=some (seqObj "list" #[v,.int (kf (j+1)) t2] c2):=⟨_,Vj g fun _=>#[v,.int (kf (j+1)) t2]⟩
    simp only[hb,decide_true,Tz]
    refine bO (Zw g rfl (bO (Yo ?_)))
    obtain⟨oI,hoI,hoc,hod⟩:=id hst'.1
    rw[nm]
    refine gR ⟨Vg QX _,ih (j+1) (j+1) _ _ v t2 c2 (by omega) hlt (kS _ _ k1 sb.2) hc2 ⟨oI,(sb.2 _ nSI.symm).trans hoI,hoc,hod⟩ hv (aU _) fun j' hj'=> ?_⟩
    by_cases e:j'=j+1
    ·subst e;exact⟨pK _,fun z=>absurd z (oM _)⟩
    ·have q:=(hbest j' (by omega)).1
     exact⟨by omega,fun _=>by omega⟩
   ·simp only[hb,decide_false,ZS,U8]
    refine bO (Yo (?_))
    rw[nm]
    refine gR ⟨Vg QX _,ih (j+1) i _ _ vb tb c (by omega) hlt k1 g hst'.1 hvb (by omega) fun j' hj'=> ?_⟩
    by_cases e:j'=j+1
    ·subst e;exact⟨by omega,fun z=>by omega⟩
    ·exact hbest j' (by omega))
theorem Nu(kf:Nat->Int)(hA:A.handled=none)(hl:s.heap.IsList l vs.toArray)(hne:0<vs.length)(turn:∀(i:Nat) (v:Value),vs[i]? =some v->∀(h:Heap) (tk:Nat),Kp s h->∀Q E:Value->Shared->Prop,(∀t tk',Q (.int (kf i) t) {s with heap:=h,toks:=tk'})->wpAny (model prog w) A.in1 (call (.builtin kid) [v]) Q E {s with heap:=h,toks:=tk})(hQ:∀i v h' tk',vs[i]? =some v->(∀j,j<vs.length->kf j<=kf i/\(j<i->kf j<kf i))->Kp s h'->Q v {s with heap:=h',toks:=tk'}):
  wpAny (model prog w) A (call (.builtin "max") [.ref l] [(Str.ofString "key",.builtin kid)]) Q E s:=by
 have nm:(toString "max"++toString ".loop":String)="max.loop":=by decide
 obtain⟨ol,hol,hlc,RZ,hld⟩:=id hl
 have nlI:l≠s.heap.objs.size:=iK (fD hol)
 refine kmb_tree PySem.F.kind_max PySem.F.plain_max PySem.F.entry_max (kmb_max_key _ _) (by
  show wpAny _ A.in1 (Builtin.Builtins.bindParams "max" ["key","default"] 0 ⟨[],[(Str.ofString "key",.builtin kid)]⟩>>=_) _ _ s
  refine bO (wpAny_of_eq (show Builtin.Builtins.bindParams "max" ["key","default"] 0 ⟨[],[(Str.ofString "key",.builtin kid)]⟩=pure [some (.builtin kid),none]from rfl) (bO (gR (bO (Yz hl (bO (wpAny_newList ?_ (cY _))))))))
  rw[nm]
  have zS:(s.heap.push {cls:= .type "list_iterator",data:= .fields #[.ref l,.int 0 0]}).objs.size=s.heap.objs.size+1:=size_push' ..
  rw[zS]
  have k0:Kp s ((s.heap.push {cls:= .type "list_iterator",data:= .fields #[.ref l,.int 0 0]}).push (seqObj "list" #[] 0)):=fun b o e=>jy _ (jy _ e)
  have gI:((s.heap.push {cls:= .type "list_iterator",data:= .fields #[.ref l,.int 0 0]}).push (seqObj "list" #[] 0)).IsListIter s.heap.objs.size l 0:=⟨_,jy _ (wj _ rfl),rfl,rfl⟩
  have gS:((s.heap.push {cls:= .type "list_iterator",data:= .fields #[.ref l,.int 0 0]}).push (seqObj "list" #[] 0)).get? (s.heap.objs.size+1)=some (seqObj "list" #[] 0):=by rw[<-zS];exact wj _ rfl
  have W:=Walks.list (prog:=prog) (w:=w) (A:=A.in1) hA s.heap.objs.size l nlI vs.toArray
  refine gR ⟨Vg QX _,Vi wcb ?_⟩
  rw[Vp QX _]
  show wpAny _ A.in1 (seqItems? (.ref (s.heap.objs.size+1))>>=_) _ _ _
  refine bO (wpAny_seqItems gS rfl (?_))
  show wpAny _ A.in1 (tryCatch (pyNext (.ref s.heap.objs.size)) _>>=_) _ _ _
  refine bO (TY (W.item 0 _ _ _ (by rw[gw];exact hne) ⟨gI,⟨ol,k0 _ _ hol,hlc,RZ,hld⟩⟩ fun v h' tk' hP hst' hk'=> ?_))
  have hv:vs[0]? =some v:=(by simpa using hP)
  have k1:Kp s h':=fun b o e=>hk' b o (fun z=>oM _ ((oN.mp z)▸fD e)) (k0 b o e)
  have g:=hk' (s.heap.objs.size+1) _ (by simp) gS
  show wpAny _ A.in1 (tryCatch (holding [v] (call (.builtin kid) [v])) _>>=_) _ _ _
  refine bO (TY (Mi (turn 0 v hv h' tk' k1 _ _ fun t2 tk2=> ?_)))
  have sb:=T4 h' (s.heap.objs.size+1) (Obj.mapSeq fun _=>#[v,.int (kf 0) t2])
  obtain⟨c2,hc2⟩:∃c2,(h'.update (s.heap.objs.size+1) (Obj.mapSeq fun _=>#[v,.int (kf 0) t2])).get? (s.heap.objs.size+1)=some (seqObj "list" #[v,.int (kf 0) t2] c2):=⟨_,Vj g fun _=>#[v,.int (kf 0) t2]⟩
  obtain⟨oI,hoI,hoc,hod⟩:=id hst'.1
  show wpAny _ A.in1 (updateSeq (s.heap.objs.size+1) (fun _=>#[v,.int (kf 0) t2])>>=_) _ _ _
  refine bO (Zw g rfl ?_)
  rw[nm]
  exact gR ⟨Vg QX _,RP kf hA hl turn hQ _ 0 0 _ _ v t2 c2 rfl hne (fun b o e=>(sb.2 b (iK (rZ (fD e)))).trans (k1 b o e)) hc2 ⟨oI,(sb.2 _ (iK (qj _))).trans hoI,hoc,hod⟩ hv (aU _) fun j' hj'=>by
   have e:j'=0:=by omega
   subst e
   exact⟨pK _,fun z=>absurd z (oM _)⟩⟩)
end
section
variable{X:Cx}{a:Expr}{ta:TA}{p p2 kp pos:Pos}
def Mp(K:W.Frag)(ta:TA):TE:=fun σ H Q=>ta σ H fun vs H1=>∃(l:Addr) (its:List (Addr×List Int)),vs=[.ref l]/\SqL K H1 l (its.map fun p=>V.ref p.1)/\(∀p∈its,SqT K H1 p.1 (p.2.map V.int))/\its≠[]/\
 ∀(i:Nat) (p:Addr×List Int),its[i]? =some p->(∀(j:Nat) r,its[j]? =some r->r.2.length<=p.2.length/\(j<i->r.2.length<p.2.length))->Q (.ref p.1) H1
theorem qp:∀{its:List (Addr×List Int)} {us:List Value} {i:Nat} {v:Value},Vals (its.map fun p=>V.ref p.1) us->us[i]? =some v->∃p,its[i]? =some p/\v= .ref p.1
 |[],_,i,v,h,e=>by cases h;simp at e
 |p::its,_,0,v,h,e=>by
  cases h with
  |cons r t=>
   cases r
   simp at e
   exact⟨p,rfl,e.symm⟩
 |p::its,_,i+1,v,h,e=>by
  cases h with
  |cons r t=>exact qp (i:=i) t (by simpa using e)
theorem Fi(hc:X.calm=true)(hg:Gl X "max")(hm:X.mg "max"=none)(Wx:Gl X "len")(hmL:X.mg "len"=none)(ha:PA X [a] ta)(hs:starEach [a] X.env=[(false,eval a X.env)]:=by rfl)(he:backTo pos (starEach [a] X.env)=(false,eval a X.env)::backTo pos (starEach [] X.env):=by rfl)(hp:(backTo pos (starEach [a] X.env)).any (·.1)=false:=by rfl):PE X (.Call (.Name "max" p) [a] [⟨some "key",.Name "len" p2,kp⟩] pos) (Mp X.K ta):=by
 intro pins s σ H Q I h
 refine Pq (ld_blt I hg hm (show bootBuiltins "max"=some (.builtin "max")from by decide+kernel) ?_ (by decide) (by decide))
 refine PyProof.Rows.callWith_kw (thn (ha pos pins s σ H _ I h) fun us s1 ⟨vs,H1,I1,r1,q1⟩=>kws_cons (ld_blt I1 Wx hmL wk (kws_nil ?_) (by decide) (by decide))) he hp
 obtain⟨l,its,e,hq,hT,hne,q⟩:=q1
 subst e
 cases r1 with
 |cons r rr=>
  cases rr
  cases r
  obtain⟨ws,rv,pl,hz⟩:=I1.list hq
  have hlen:its.length=ws.length:=by have:=rv.length;simpa using this
  have hpos:0<ws.length:=by
   rw[<-hlen]
   cases its with
   |nil=>exact absurd rfl hne
   |cons _ _=>simp
  have kf:∀i p,its[i]? =some p->its.getD i (0,[])=p:=fun i p e=>by rw[pN,e];rfl
  show wpAny (model X.prog X.w) X.A (call (.builtin "max") [.ref l] [(Str.ofString "key",.builtin "len")]) (EP X pins σ Q) X.xe s1
  refine Nu (fun i=>((its.getD i (0,[])).2.length:Int)) (I.ok.hd hc) pl.isList hpos (fun i v hv h' tk k Q' E' hq'=> ?_) (fun i v h' tk' hv hb k=> ?_)
  ·obtain⟨p,e1,rfl⟩:=qp rv hv
   obtain⟨xs,rx,px,hx⟩:=I1.tuple (hT p (uy e1))
   obtain⟨o,ho,ho2,n,hd⟩:=id px
   have hxl:xs.length=p.2.length:=by have:=rx.length;simpa using this.symm
   have hz2:xs.toArray.size=p.2.length:=by rw[gw];exact hxl
   refine len_tuple (s:={s1 with heap:=h',toks:=tk}) (t:=p.1) (items:=xs.toArray) ⟨o,k _ _ ho,ho2,n,hd⟩ ?_ ?_
   ·rw[gw]
    have:xs.length<=sizeLine:=by rw[hxl];simpa using hx
    rw[dO]at this
    omega
   ·have z:=hq' (tk+1) (tk+1+1)
    rw[kf i p e1]at z
    rw[hz2]
    exact z
  ·obtain⟨p,e1,rfl⟩:=qp rv hv
   have I2:Inv X pins σ H1 {s1 with heap:=h',toks:=tk'}:=I1.kept k
   refine⟨.ref p.1,H1,I2,rfl,q i p e1 fun j r hr=> ?_⟩
   have hj:j<ws.length:=by rw[<-hlen];exact(pL.mp hr).1
   have z:=hb j hj
   rw[kf i p e1,kf j r hr]at z
   exact⟨by omega,fun hji=>by have:=z.2 hji;omega⟩
end
section
variable{P:Program}{w:World}{K:W.Frag}{mg:Str->Option Value}{base:Heap}{N:List Str}{qual:Str}{scope:Scope}{f:Addr}{cd:Value}{A:Around}{outer:List Env}{s:Shared}{H:Hp}{E:XK}
end
section
variable{P:Program}{w:World}{K:W.Frag}{mg:Str->Option Value}{base:Heap}{N:List Str}{qual:Str}{scope:Scope}{f:Addr}{cd:Value}{A:Around}{outer:List Env}{s:Shared}{H:Hp}{E:XK}
end
end L2
namespace L2
open PySem PySem.Spec PySem.Calls PyProof.Rows PySem.W PySem.Builtin.Getset_descriptor
section
variable{prog:Program}{w:World}{A:Around}{E:Value->Shared->Prop}{s:Shared}{K:Frag}{x D:Addr}
end
end L2
namespace L2
open PySem PySem.Spec PyProof.Rows
section
variable{X:Cx}{pins:List (Addr×Obj)}{σ:St}{H H':Hp}{s s':Shared}{e C:Addr}{B:Heap}
end
section
variable{X:Cx}{k:Nat}{f D:Addr}{fd:FuncData}{ps:List Str}{sp:Sp}{fn x n:Str}{p cpos epos np hpos pos:Pos}{a:Expr}{as:List Expr}{t:TA}{ts:TS}{b₀:Stmt}{suite:List Stmt}{i:Nat}
end
section
variable{X:Cx}
end
mutual
def FZ:Nat->Expr->Option PyData
 |0,_=>none
 |n+1,e=>match e with
  | .Constant (.int i) _ _=>some (.int i)
  | .Constant (.bool b) _ _=>some (.bool b)
  | .Constant .none _ _=>some .none
  | .Constant (.str x) _ _=>some (.str x)
  | .UnaryOp .USub (.Constant (.int i) _ _) _=>some (.int (-i))
  | .Tuple es _ _=>(fu n es).map .tuple
  | .List es _=>(fu n es).map .list
  | .Dict [] [] _=>some (.dict [])
  |_=>none
def fu:Nat->List Expr->Option (List PyData)
 |0,_=>none
 |_+1,[]=>some []
 |n+1,e::es=>match FZ n e,fu n es with
  |some d,some ds=>some (d::ds)
  |_,_=>none
end
def aad(K:W.Frag)(d:PyData):TE:=fun _ H Q=>∀x H',Same H H'->DX K H' x d->Q x H'
def Cz(K:W.Frag)(ds:List PyData):TA:=fun _ H Q=>∀xs H',Same H H'->ju K H' xs ds->Q xs H'
theorem starEach_lit{env:Env}{n:Nat}{e:Expr}{es:List Expr}{d:PyData}(h:FZ n e=some d):starEach (e::es) env=(false,eval e env)::starEach es env:=by
 cases n with
 |zero=>cases h
 |succ n=>
  unfold FZ at h
  split at h<;>first |rfl|cases h
theorem Jv{X:Cx}{pos:Pos}:PE X (.Dict [] [] pos) (fun _ H Q=>∀p,H p=none->Q (.ref p) (upd H p (.dK []))):=fun pins s σ H Q I h=>by
 have big:sysModules<s.heap.objs.size:=LC (by decide) (I.mod.glob.keeps I.bk).lt
 refine wpAny_Dict_empty ⟨.ref s.heap.objs.size,_,I.laid (a:=s.heap.objs.size) (o:= .dK []) (t':=s.toks) (fun _ _ q=>jy _ q) (aU _) ?_,rfl,h _ (I.hok.fresh (aU _))⟩
 exact⟨cY _,beq_eq_false_iff_ne.mpr fun z=>oM _ (z▸big),[],.nil,Heap.DictOf.new s.heap⟩
theorem qX:∀{n:Nat} {es:List Expr} {ds:List PyData},fu n es=some ds->ds.length<=n
 |0,_,_,h=>by cases h
 |n+1,[],ds,h=>by cases h;exact cY _
 |n+1,e::es,ds,h=>by
  unfold fu at h
  split at h
  ·rename_i d ds' _ h2
   cases h
   exact Nat.succ_le_succ (qX h2)
  ·cases h
section
variable{X:Cx}
theorem Ds:∀n:Nat,n<=1000->(∀e d,FZ n e=some d->PE X e (aad X.K d))/\(∀es ds,fu n es=some ds->PA X es (Cz X.K ds))
 |0,_=>⟨fun e d h=>by simp[FZ]at h,fun es ds h=>by simp[fu]at h⟩
 |n+1,hn=>by
  obtain⟨ih1,ih2⟩:=Ds n (by omega)
  refine⟨fun e d h=> ?_,fun es ds h=> ?_⟩
  ·unfold FZ at h
   split at h
   ·cases h;exact fun pins s σ H Q I q=>aL pins s σ H Q I (q _ _ (Same.refl _) (.int _))
   ·cases h;exact fun pins s σ H Q I q=>pe_bl pins s σ H Q I (q _ _ (Same.refl _) (.bl _))
   ·cases h;exact fun pins s σ H Q I q=>pe_non pins s σ H Q I (q _ _ (Same.refl _) .non)
   ·cases h;exact fun pins s σ H Q I q=>pe_str pins s σ H Q I (q _ _ (Same.refl _) (.str _))
   ·cases h;exact fun pins s σ H Q I q=>pe_un un_neg aL pins s σ H Q I ⟨_,rfl,q _ _ (Same.refl _) (.int _)⟩
   ·rename_i es k pos
    cases hl:fu n es with
    |none=>rw[hl]at h;cases h
    |some ds=>
     rw[hl]at h;cases h
     intro pins s σ H Q I q
     refine gP (ih2 es ds hl) pins s σ H Q I fun xs H1 s1 hx=>⟨?_,fun p hp=> ?_⟩
     ·have z:=qX hl
      rw[hx.len,dO];omega
     ·exact q _ _ (s1.trans (aP hp _)) (.tup (SqT.of aH) (hx.same (aP hp _)))
   ·rename_i es pos
    cases hl:fu n es with
    |none=>rw[hl]at h;cases h
    |some ds=>
     rw[hl]at h;cases h
     intro pins s σ H Q I q
     refine wD (ih2 es ds hl) pins s σ H Q I fun xs H1 s1 hx=>⟨?_,fun p hp=> ?_⟩
     ·have z:=qX hl
      rw[hx.len,dO];omega
     ·exact q _ _ (s1.trans (aP hp _)) (.lst (SqL.of aH) (hx.same (aP hp _)))
   ·cases h
    exact fun pins s σ H Q I q=>Jv pins s σ H Q I fun p hp=>q _ _ (aP hp _) (.dct _ aH)
   ·cases h
  ·cases es with
   |nil=>
    simp[fu]at h
    subst h
    exact fun pos pins s σ H Q I q=>aq pos pins s σ H Q I (q _ _ (Same.refl _) .nil)
   |cons e es=>
    unfold fu at h
    split at h
    ·rename_i d ds' h1 h2
     cases h
     intro pos pins s σ H Q I q
     refine aj (ih1 e d h1) (ih2 es ds' h2) (starEach_lit h1) pos pins s σ H Q I fun x H1 s1 hx=> ?_
     exact fun xs H2 s2 hxs=>q _ _ (s1.trans s2) (.cons (hx.same s2) hxs)
    ·cases h
theorem MP{es:List Expr}{ds:List PyData}(h:fu 60 es=some ds):PA X es (Cz X.K ds):=(Ds 60 (by decide)).2 es ds h
theorem Jx(K:W.Frag){es:List Expr}{ds:List PyData}(h:fu 60 es=some ds)(hk:X.K=K:=by rfl):PA X es (Cz K ds):=hk▸MP h
end
end L2
namespace L2
open PySem PySem.Spec PyProof.Rows
section
variable{κ:Type} [DecidableEq κ]
end
section
variable{P:Program}{w:World}{H:Hp}{h:Heap}{a:Addr}
end
section
variable{X:Cx}{pins:List (Addr×Obj)}{σ:St}{H:Hp}{s:Shared}{a:Addr}{y v:V}{u r:Value}{o:Option V}{A:Around}{E:Value->Shared->Prop}
end
section
variable{X:Cx}{pins:List (Addr×Obj)}{σ:St}{H:Hp}{s:Shared}{a:Addr}{kvs:List (Key×V)}{k:Key}{u:Value}{A:Around}{E:Value->Shared->Prop}
end
section
variable{X:Cx}{o i e value:Expr}{pos pos' tpos:Pos}{td ty tv:TE}
end
section
variable{X:Cx}{pos:Pos}
end
end L2
namespace PySem
namespace F
end F
section
variable{prog:Program}{w:World}{A:Around}{E:Value->Shared->Prop}{s:Shared}
end
end PySem
namespace L2
open PySem PySem.Spec PyProof.Rows
section
variable{X:Cx}{tg:Expr}
end
section
variable{X:Cx}
theorem Gp(hc:X.calm=true):CallR X (.builtin "min") (fun xs H Q=>∃(a:Addr) (ns:List Int),xs=[.ref a]/\SqL X.K H a (ns.map V.int)/\ns≠[]/\∀m∈ns,(∀n∈ns,m<=n)->Q (.int m) H):=by
 intro pins s σ H xs us Q I r h
 obtain⟨a,ns,rfl,hS,hne,q⟩:=h
 obtain⟨u,rfl,ru⟩:=r.one
 cases ru
 obtain⟨vs,rv,pl,hz⟩:=I.list hS
 have hl:=pl.isList
 have hlt:a<s.heap.objs.size:=by obtain⟨_,e,_⟩:=hl;exact fD e
 have hlen:=rv.length
 rw[aM]at hlen
 have hI:∀(i:Nat) (v:Value),vs.toArray[i]? =some v->∃t,v= .int (ns.getD i 0) t:=fun i v hv=>by
  have hv':vs[i]? =some v:=by simpa using hv
  have hi:i<ns.length:=by have:=(pL.mp hv').1;omega
  have hn:(ns.map V.int)[i]? =some (.int (ns.getD i 0)):=by rw[dY,fX hi,pN,fX hi];rfl
  obtain⟨u,hu,ru⟩:=rv.get hn
  rw[hv']at hu
  cases hu
  obtain⟨t,rfl⟩:=ru
  exact⟨t,rfl⟩
 refine call_min_walk (Yz hl ?_)
 refine⟨s.heap.objs.size,[s.heap.objs.size,a],[s.heap.objs.size],vs.toArray.size,_,_,_,rfl,Walks.list (A:=X.A.in1) (I.ok.hd hc) _ a (iK hlt) vs.toArray,
  ⟨⟨_,wj _ rfl,rfl,rfl⟩,hl.push _⟩,?_,?_,CmpOf.ints_lt (fun i=>ns.getD i 0) hI,fun v h' tk hP hk=> ?_⟩
 ·intro b hb
  show b<(s.heap.push _).objs.size
  rw[QD]
  rcases eN.mp hb with rfl|hb
  ·exact qj _
  ·rw[oN.mp hb];exact rZ hlt
 ·rw[gw,<-hlen];exact List.length_pos_iff.mpr hne
 ·obtain⟨t,rfl⟩:=hI _ v hP
  obtain⟨h1,h2⟩:=argBest_lt (fun i=>ns.getD i 0) (vs.toArray.size-1)
  have hn0:0<ns.length:=List.length_pos_iff.mpr hne
  have hb:argBest (fun i j=>decide (ns.getD i 0<ns.getD j 0)) (vs.toArray.size-1)<ns.length:=by
   have:vs.toArray.size=ns.length:=by rw[gw];omega
   omega
  refine⟨.int _,H,I.kept (LSm.kept_iter hk),⟨t,rfl⟩,q _ ?_ fun n hn=> ?_⟩
  ·rw[pN,fX hb];exact Cj hb
  ·obtain⟨j,hj,rfl⟩:=Mf hn
   have:=h2 j (by rw[gw];omega)
   rw[pN (i:=j),fX hj]at this
   exact this
end
end L2
namespace PySem
section
variable{prog:Program}{w:World}{Ky:Type} [DecidableEq Ky]{knd:KeyKind prog w Ky}{A:Around}{E:Value->Shared->Prop}{s:Shared}
end
end PySem
namespace L2
open PySem PySem.Spec PyProof.Rows
section
variable{X:Cx}
end
end L2
namespace L2
open PySem
end L2
namespace PySem
namespace F
end F
end PySem
namespace PySem
section
variable{prog:Program}{w:World}{A:Around}{E:Value->Shared->Prop}{s:Shared}
end
end PySem
namespace PySem
section
variable{prog:Program}{w:World}{A:Around}{E:Value->Shared->Prop}{s:Shared}
end
end PySem
namespace PySem
section
variable{prog:Program}{w:World}{A:Around}{E:Value->Shared->Prop}{s:Shared}
end
end PySem
namespace L2
open PySem PySem.Spec PyProof.Rows
section
variable{prog:Program}{w:World}{A:Around}{E:Value->Shared->Prop}{s:Shared}
end
section
variable{prog:Program}{w:World}{A:Around}{R:Result->Shared->Prop}{I:Addr}{fp wr:List Addr}{G:Array GenState->Array GenState->Prop}{n:Nat}{P:Nat->Value->Prop}{St:Nat->Shared->Prop}
end
section
variable{prog:Program}{w:World}{A:Around}{E:Value->Shared->Prop}{s:Shared}
end
end L2
namespace vX
open PySem PySem.W PyProof.Rows PySem.Calls
section
variable{prog:Program}{w:World}{A:Around}{E:Value->Shared->Prop}{s:Shared}
end
end vX
namespace L2
open PySem PySem.Spec PyProof.Rows
section
variable{prog:Program}{w:World}{A:Around}{E:Value->Shared->Prop}{s:Shared}
end
end L2
namespace vX
open PySem PySem.W PyProof.Rows PySem.Calls
section
variable{prog:Program}{w:World}{A:Around}{E:Value->Shared->Prop}{s:Shared}
end
end vX
namespace L2
open PySem PySem.Spec PyProof.Rows
section
variable{X:Cx}{a:Expr}{ta:TA}{p p' pos pos':Pos}
end
section
variable{prog:Program}{w:World}{A:Around}{E:Value->Shared->Prop}{s:Shared}
end
section
variable{X:Cx}{o e:Expr}{to:TE}{t:TA}{apos cpos:Pos}
end
section
variable{X:Cx}{e e1 e2:Expr}{es:List Expr}{te:TE}{pos:Pos}
end
section
variable{X:Cx}{e:Expr}{te:TE}{pos:Pos}
end
section
variable{X:Cx}{tg l:Expr}{tl:TE}
end
section
variable{g:TG}{tc:TT}{te:TE}{Fin:List V->Hp->Prop}{ini:St}{H:Hp}
end
end L2
namespace aas
open PySem PySem.StrLaws PySem.Builtin.Str
section
variable{c:Nat}{ys:List Nat}
end
end aas
namespace DH
open PySem PySem.W PyProof.Rows PySem.Calls
section
variable{prog:Program}{w:World}{A:Around}{E:Value->Shared->Prop}{s:Shared}{d it:Addr}{es:Array DictEntry}{ep i:Nat}
end
section
variable{M:Model}{A:Around}{E:Value->Shared->Prop}{s:Shared}
end
section
variable{prog:Program}{w:World}{A:Around}{E:Value->Shared->Prop}{s:Shared}
end
section
variable{prog:Program}{w:World}{A:Around}{E:Value->Shared->Prop}{s:Shared}{d:Addr}{es:Array DictEntry}{ep:Nat}
end
end DH
namespace L2
open PySem PySem.Spec PyProof.Rows
section
variable{X:Cx}
end
end L2
namespace DH
open PySem PySem.W PyProof.Rows PySem.Calls
section
variable{prog:Program}{w:World}{K:Type} [DecidableEq K]{knd:HeapKind prog w K}{A:Around}{E:Value->Shared->Prop}{s:Shared}
end
end DH
namespace L2
open PySem PySem.Spec PyProof.Rows
section
variable{X:Cx}
end
section
variable{X:Cx}
end
section
variable{X:Cx}{scope:Scope}{caps:List Str}{ix:List Nat}{y:Str}{A:Around}{pins:List (Addr×Obj)}{σ:St}{H:Hp}{s:Shared}{f:Addr}{cdv:Value}{v:V}{u:Value}
end
section
variable{X:Cx}{scope:Scope}{pins:List (Addr×Obj)}{σ:St}{H:Hp}{s:Shared}{c P:Addr}{pos:Pos}{params:Arguments}{body:Expr}{A:Around}{E:Value->Shared->Prop}{Q:Value->Shared->Prop}
end
section
variable{X:Cx}{σ:St}{H:Hp}{s:Shared}{pins:List (Addr×Obj)}
variable{I S f l:Addr}{fo:Obj}{vs:List Value}{RR:Result->Shared->Prop}
end
section
variable{X:Cx}{a body:Expr}{ta:TA}{te:TE}{p kp pos aaw:Pos}{k:Nat}{scope:Scope}{caps:List Str}{ix:List Nat}{y:Str}{params:Arguments}{c P:Addr}
end
end L2
namespace DH
open PySem PySem.W PyProof.Rows PySem.Calls
section
variable{prog:Program}{w:World}{A:Around}{E:Value->Shared->Prop}{s:Shared}{d it v:Addr}{es:Array DictEntry}{ep i:Nat}
end
end DH
namespace L2
open PySem PySem.Spec PyProof.Rows
section
variable{X:Cx}{pins aau:List (Addr×Obj)}{σ σ0:St}{H H0:Hp}{s s0:Shared}{d:Addr}{kvs:List (List Key×V)}{o:Obj}
end
section
variable{d:Addr}{o:Obj}{kvs:List (List Key×V)}{g:TG}{tc:TT}{te:TE}{Fin:List V->Hp->Prop}{ini:St}{H:Hp}
end
def isK(k:Int):Value->Bool
 | .int i _=>i==k
 |_=>false
theorem Eh{i:Int}:∀{n:Nat} {us:List Value},us.length=n->(∀(j:Nat) (u:Value),us[j]? =some u->∃t:Tok,u=Value.int (i+((j:Nat):Int)*1) t)->Vals (((List.range n).map fun(k:Nat)=>i+(k:Int)).map V.int) us:=by
 intro n us hl hi
 have go:∀(us:List Value) (k:Nat),(∀(j:Nat) (u:Value),us[j]? =some u->∃t:Tok,u=Value.int (i+((j+k:Nat):Int)*1) t)->Vals (((List.range' k us.length).map fun(k:Nat)=>i+(k:Int)).map V.int) us:=by
  intro us
  induction us with
  |nil=>intro k _;exact .nil
  |cons u us ih=>
   intro k h
   obtain⟨t,e⟩:=h 0 u rfl
   refine .cons ⟨t,?_⟩ ?_
   ·rw[e]
    show Value.int (i+((0+k:Nat):Int)*1) t=Value.int (i+(k:Int)) t
    congr 1;omega
   ·refine ih (k+1) fun j u hu=> ?_
    obtain⟨t,e⟩:=h (j+1) u (by simpa using hu)
    exact⟨t,by rw[e];congr 1;omega⟩
 have:=go us 0 fun j u hu=>hi j u hu
 rw[hl,<-List.range_eq_range']at this
 exact this
section
variable{X:Cx}{e a b:Expr}{ta:TE}{f:Str}{pos p p' pos':Pos}
theorem MN(K:W.Frag)(he:PE X e ta)(hb:attributeBase e f X.env (eval e X.env)=eval e X.env)(h:X.K=K:=by rfl):PE X (.Attribute e f pos) (tFld K ta f):=by subst h;exact m7 he hb
theorem nJ:MtM X "list.index" (fun x vs H Q=>∃(l:Addr) (ns:List Int) (k:Int) (j:Nat),x= .ref l/\vs=[.int k]/\H l=some (.lst (ns.map V.int))/\ns[j]? =some k/\(∀i,i<j->ns[i]? ≠some k)/\ns.length<=1000/\Q (.int (j:Nat)) H):=by
 intro pins s σ H x vs v us Q I rx rv h
 obtain⟨l,ns,k,j,rfl,rfl,hH,hj,hno,hb,q⟩:=h
 cases rx
 obtain⟨u,rfl,ru⟩:=rv.one
 obtain⟨t,rfl⟩:=ru
 obtain⟨z,its,n,r,hl,e⟩:=I.lstM hH
 rw[aM]at z hl
 have hI:∀(i:Nat) (v:Value),its[i]? =some v->∃t,v= .int (ns.getD i 0) t/\ns[i]? =some (ns.getD i 0):=fun i v hv=>by
  have hi:i<ns.length:=by have:=(pL.mp hv).1;omega
  have e0:ns[i]? =some (ns.getD i 0):=by rw[pN,fX hi];rfl
  obtain⟨u,hu,ru⟩:=r.get (show(ns.map V.int)[i]? =some (.int (ns.getD i 0)) by rw[dY,e0];rfl)
  rw[hv]at hu
  cases hu
  obtain⟨t,rfl⟩:=ru
  exact⟨t,rfl,e0⟩
 have hj':j<its.length:=by have:=(pL.mp hj).1;omega
 refine TJ F.slot_list_index ⟨_,e,rfl⟩ F.entry_list_index (F.args_list_index_2 _ _)
  (MeetsSeq.list_index l its.toArray n (.int k t) (isK k) (fun y hy=> ?_) j (by simpa using hj') (by omega) ?_ (fun i hi hlt=> ?_)) ⟨e,?_⟩
 ·obtain⟨i,hi,rfl⟩:=Mf (show y∈its by simpa using hy)
  obtain⟨t',e',_⟩:=hI i its[i] (fX hi)
  rw[e']
  exact MeetsSeq.EqGives.int _ _ _ _
 ·obtain⟨t',e',e0⟩:=hI j its[j] (fX hj')
  show isK k its[j]=true
  rw[e']
  rw[hj]at e0
  have:k=ns.getD j 0:=sy e0
  show(ns.getD j 0==k)=true
  rw[<-this];exact beq_self_eq_true _
 ·have hi':i<its.length:=by simpa using hi
  obtain⟨t',e',e0⟩:=hI i its[i] (fX hi')
  show isK k its[i]=false
  rw[e']
  show(ns.getD i 0==k)=false
  refine beq_eq_false_iff_ne.mpr fun z=>hno i hlt ?_
  rw[e0,z]
 ·exact⟨.int (j:Nat),H,I.tok _,⟨s.toks,rfl⟩,q⟩
end
section
variable{X:Cx}{a b:Expr}{ta:TA}{p pos p' pos':Pos}
def lY(i:Int)(n:Nat):List Int:=(List.range n).map fun(k:Nat)=>i+(k:Int)
def Q5(ta:TA):TE:=fun σ H Q=>ta σ H fun vs H1=>∃i j:Int,vs=[.int i,.int j]/\0<=i/\i<=j/\j<=1000000/\∀l,H1 l=none->Q (.ref l) (upd H1 l (.lst ((lY i (j-i).toNat).map V.int)))
theorem uY(hc:X.calm=true)(Ww:Gl X "list")(Wt:X.mg "list"=none)(hg:Gl X "range")(hm:X.mg "range"=none)(ha:PA X [a,b] ta)(hs:starEach [a,b] X.env=[(false,eval a X.env),(false,eval b X.env)]:=by rfl)(hs':starEach [b] X.env=[(false,eval b X.env)]:=by rfl)(hs2:starEach [Expr.Call (.Name "range" p') [a,b] [] pos'] X.env=[(false,eval (Expr.Call (.Name "range" p') [a,b] [] pos') X.env)]:=by rfl):
  PE X (.Call (.Name "list" p) [.Call (.Name "range" p') [a,b] [] pos'] [] pos) (Q5 ta):=by
 intro pins s σ H Q I h
 refine Pq (ld_blt I Ww Wt (show bootBuiltins "list"=some (.type "list")from by decide+kernel) ?_ (by decide) (by decide))
 refine Lp ?_ hs2 rfl
 rw[hs2]
 refine YD ?_
 refine Call_ (ld_blt I hg hm U9 (Lp (thn (ha pos' pins s σ H _ I h) fun us s1 ⟨vs,H1,I1,r1,q1⟩=> ?_) (by rw[hs,hs']) (by rw[hs'];rfl)))
 obtain⟨i,j,e,q0,q1,q2,q⟩:=q1
 subst e
 cases r1 with
 |cons r rr=>
  cases rr with
  |cons r' rr=>
   cases rr
   obtain⟨t,rfl⟩:=r
   obtain⟨t',rfl⟩:=r'
   refine call_range_2 ?_
   refine YC ?_
   have hn:Builtin.Range.rangeSize i j 1=(((j-i).toNat:Nat):Int):=by rw[Yt];split<;>omega
   refine call_list_range (I.ok.hd hc) (Yp ..) (small_one (by omega) (by omega) (by omega) (by omega)) hn (by omega) fun h' tk acc c hk hS hacc=> ?_
   have hv:Vals ((lY i (j-i).toNat).map V.int) acc.toList:=Eh (by rw[QM];exact hacc.1) (fun k u hu=>hacc.2 k u (by simpa using hu))
   have hz:((lY i (j-i).toNat).map V.int).length<=sizeLine:=by unfold lY;rw[dO];simp;omega
   have I2:Inv X pins σ H1 {s1 with heap:=s1.heap.push {cls:=Value.type "range",data:=Data.fields #[Value.int i t,Value.int j t',Value.int 1 s1.toks]},toks:=s1.toks+1}:=I1.kept fun b o e=>jy _ e
   exact⟨.ref _,_,I2.laid (t':=tk) (o:= .lst ((lY i (j-i).toNat).map V.int)) hk (aU _) ⟨hz,acc.toList,c,hv,by simpa using hS⟩,rfl,q _ (I2.hok.fresh (aU _))⟩
end
structure Gq(K:W.Frag)(C:Addr)(x qual:Str)(st:Stmt)(ps:List Str)(f:Addr)(fd:FuncData):Prop where
 F:Fun K x qual st f fd
 b:Binds K fd ps []
 m:Meth K C x f
end L2
namespace PySem
open Sem (wp)
section
variable{prog:Program}{w:World}{A:Around}{E:Value->Shared->Prop}{s:Shared}
end
section
variable{prog:Program}{w:World}{A:Around}{E:Value->Shared->Prop}{s:Shared}
end
end PySem
namespace L2
open PySem PySem.Spec PyProof.Rows
section
variable{X:Cx}{es:List Expr}{k:Nat}{Jr:Pos}
end
section
variable{ini:St}{H:Hp}{g:TG}{tc:TT}{te:TE}{Fin:List V->Hp->Prop}{K:W.Frag}{a b:Addr}{xs ys:List V}
end
end L2
namespace HT
open PySem PyProof.Rows
section
open PySem.SeqAt
open PySem.AutoSeq1 (wpAny_loadPart')
open PySem.MeetsSeq PySem.MeetsSeq2 PySem.MeetsSeq3
end
section
variable{prog:Program}{w:World}{A:Around}{E:Value->Shared->Prop}{s:Shared}
end
end HT
namespace L2
open PySem PySem.Spec PyProof.Rows
section
variable{X:Cx}
end
end L2
namespace Sx
abbrev Vec:=Nat->Int
abbrev sS:=Nat->Vec
def sm:Nat->(Nat->Int)->Int
 |0,_=>0
 |k+1,f=>sm k f+f k
theorem ak{f g:Nat->Int}:∀k,(∀i,i<k->f i=g i)->sm k f=sm k g
 |0,_=>rfl
 |k+1,h=>by
  show sm k f+f k=sm k g+g k
  rw[ak k fun i hi=>h i (rZ hi),h k (qj k)]
theorem cN(f g:Nat->Int):∀k,sm k (fun i=>f i+g i)=sm k f+sm k g
 |0=>rfl
 |k+1=>by
  show sm k (fun i=>f i+g i)+(f k+g k)=sm k f+f k+(sm k g+g k)
  rw[cN f g k];omega
theorem aK(a:Int)(f:Nat->Int):∀k,sm k (fun i=>a*f i)=a*sm k f
 |0=>by show(0:Int)=a*0;rw[v9]
 |k+1=>by
  show sm k (fun i=>a*f i)+a*f k=a*(sm k f+f k)
  rw[aK a f k,Int.mul_add]
theorem aN{f:Nat->Int}:∀k,(∀i,i<k->f i=0)->sm k f=0
 |0,_=>rfl
 |k+1,h=>by
  show sm k f+f k=0
  rw[aN k fun i hi=>h i (rZ hi),h k (qj k)];rfl
theorem bf{f:Nat->Int}{j:Nat}:∀k,j<k->(∀i,i<k->i≠j->f i=0)->sm k f=f j
 |k+1,hj,h=>by
  show sm k f+f k=f j
  by_cases e:j=k
  ·subst e
   rw[aN j fun i hi=>h i (rZ hi) (iK hi),Vb]
  ·rw[bf k (by omega) fun i hi=>h i (rZ hi),h k (qj k) (lE e),Zu]
theorem Ik{f:Nat->Int}{j:Nat}:∀k,j+1<k->(∀i,i<k->i≠j->i≠j+1->f i=0)->f j+f (j+1)=0->sm k f=0
 |k+1,hj,h,z=>by
  show sm k f+f k=0
  by_cases e:j+1=k
  ·subst e
   rw[bf (j:=j) (j+1) (qj _) fun i hi hn=>h i (rZ hi) hn (iK hi)]
   exact z
  ·rw[Ik k (by omega) (fun i hi=>h i (rZ hi)) z,h k (qj k) (by omega) (lE e)];rfl
theorem pR(f:Nat->Nat->Int)(m:Nat):∀k,sm k (fun i=>sm m (fun j=>f i j))=sm m (fun j=>sm k (fun i=>f i j))
 |0=>by show(0:Int)=sm m fun _=>0;rw[aN m fun _ _=>rfl]
 |k+1=>by
  show sm k (fun i=>sm m (fun j=>f i j))+sm m (fun j=>f k j)=sm m (fun j=>sm k (fun i=>f i j)+f k j)
  rw[pR f m k,cN]
theorem tK{f:Nat->Int}:∀k,(∀i,i<k->0<=f i)->0<=sm k f
 |0,_=>pK _
 |k+1,h=>Int.add_nonneg (tK k fun i hi=>h i (rZ hi)) (h k (qj k))
theorem fJ{f g:Nat->Int}:∀k,(∀i,i<k->f i<=g i)->sm k f<=sm k g
 |0,_=>pK _
 |k+1,h=>Int.add_le_add (fJ k fun i hi=>h i (rZ hi)) (h k (qj k))
theorem Il{f:Nat->Int}:∀k,sm k f<0->∃i,i<k/\f i<0
 |0,h=>absurd h (Yr 0)
 |k+1,h=>by
  by_cases c:f k<0
  ·exact⟨k,qj k,c⟩
  ·have h':sm k f+f k<0:=h
   obtain⟨i,hi,hf⟩:=Il k (f:=f) (by omega)
   exact⟨i,rZ hi,hf⟩
theorem CZ{f:Nat->Int}:∀k,(∀i,i<k->0<=f i)->sm k f<=0->∀i,i<k->f i=0
 |0,_,_,i,hi=>absurd hi (QG i)
 |k+1,h,z,i,hi=>by
  have h1:=tK k fun i hi=>h i (rZ hi)
  have h2:=h k (qj k)
  have z':sm k f+f k<=0:=z
  by_cases e:i=k
  ·subst e;omega
  ·exact CZ k (fun i hi=>h i (rZ hi)) (by omega) i (by omega)
def sg(i:Nat):Int:=if i %2=0 then 1 else -1
theorem Ms(i:Nat):sg (i+1)= -sg i:=by
 unfold sg
 rcases Nat.mod_two_eq_zero_or_one i with h|h
 ·rw[aA h,ao (by omega)]
 ·rw[aA (by omega),ao (by omega)];rfl
theorem Q7(i:Nat):sg i=1\/sg i= -1:=by unfold sg;split;exact .inl rfl;exact .inr rfl
def GR(i r:Nat):Nat:=if r<i then r else r+1
def Lq(i r:Nat):Nat:=if r<i then r else r-1
theorem Io(i r:Nat):GR i r≠i:=by unfold GR;split<;>omega
theorem pW{i r j:Nat}(h:j≠i):GR i r=j↔r=Lq i j:=by unfold GR Lq;split<;>split<;>omega
theorem zO{i r k:Nat}(hi:i<k+1)(hr:r<k):GR i r<k+1:=by unfold GR;split<;>omega
theorem QZ{i j k:Nat}(h:j≠i)(hi:i<k+1)(hj:j<k+1):Lq i j<k:=by unfold Lq;split<;>omega
def qW(M:sS)(i:Nat):sS:=fun r c=>M (GR i r) (c+1)
def det:Nat->sS->Int
 |0,_=>1
 |k+1,M=>sm (k+1) fun i=>sg i*M i 0*det k (qW M i)
def put(M:sS)(r:Nat)(v:Vec):sS:=fun i=>if i=r then v else M i
theorem put_same(M:sS)(r:Nat)(v:Vec):put M r v r=v:=by unfold put;rw[aA rfl]
theorem gj(M:sS){r i:Nat}(v:Vec)(h:i≠r):put M r v i=M i:=by unfold put;rw[ao h]
theorem qM(M:sS)(r:Nat):put M r (M r)=M:=by funext i;unfold put;split;rename_i h;rw[h];rfl
theorem gF(M:sS){r t:Nat}(u v:Vec)(h:r≠t):put (put M r u) t v=put (put M t v) r u:=by
 funext i;unfold put
 by_cases h1:i=t
 ·by_cases h2:i=r
  ·exact absurd (h2.symm.trans h1) h
  ·rw[aA h1,ao h2,aA h1]
 ·rw[ao h1]
  by_cases h2:i=r
  ·rw[aA h2,aA h2]
  ·rw[ao h2,ao h2,ao h1]
theorem iD(M:sS)(i:Nat)(v:Vec):qW (put M i v) i=qW M i:=by
 funext r c;unfold qW;rw[gj _ _ (Io i r)]
theorem vh(M:sS){i j:Nat}(v:Vec)(h:j≠i):qW (put M j v) i=put (qW M i) (Lq i j) (fun c=>v (c+1)):=by
 funext r c
 unfold qW put
 by_cases e:r=Lq i j
 ·rw[aA e,aA ((pW h).mpr e)]
 ·rw[ao e,ao fun z=>e ((pW h).mp z)]
theorem uf:∀k {M N:sS},(∀i,i<k->∀j,j<k->M i j=N i j)->det k M=det k N
 |0,_,_,_=>rfl
 |k+1,M,N,h=>ak (k+1) fun i hi=>by
  rw[h i hi 0 (wg k),uf k (M:=qW M i) (N:=qW N i) fun r hr c hc=>h _ (zO hi hr) _ (Nat.succ_lt_succ hc)]
theorem vN:∀k (M:sS) (r:Nat) (a b:Int) (u v:Vec),r<k->det k (put M r fun c=>a*u c+b*v c)=a*det k (put M r u)+b*det k (put M r v)
 |k+1,M,r,a,b,u,v,hr=>by
  unfold det
  rw[<-aK,<-aK,<-cN]
  refine ak (k+1) fun i hi=> ?_
  by_cases e:r=i
  ·subst e
   rw[iD,iD,iD,put_same,put_same,put_same]
   grind
  ·rw[vh _ _ e,vh _ _ e,vh _ _ e,gj _ _ (lE e),gj _ _ (lE e),gj _ _ (lE e),vN k (qW M i) (Lq i r) a b (fun c=>u (c+1)) (fun c=>v (c+1)) (QZ e hi hr)]
   grind
theorem qe:∀k (M:sS) (r:Nat),r+1<k->M r=M (r+1)->det k M=0
 |k+1,M,r,hr,e=>by
  unfold det
  refine Ik (j:=r) (k+1) hr (fun i hi h1 h2=> ?_) ?_
  ·have z:det k (qW M i)=0:=by
    by_cases c:i<r
    ·refine qe k (qW M i) (r-1) (by omega) ?_
     funext x;unfold qW GR
     rw[ao (by omega),ao (by omega),show r-1+1=r by omega,e]
    ·refine qe k (qW M i) r (by omega) ?_
     funext x;unfold qW GR
     rw[aA (by omega),aA (by omega),e]
   rw[z,v9]
  ·have z:qW M r=qW M (r+1):=by
    funext x c;unfold qW GR
    by_cases h1:x<r
    ·rw[aA h1,aA (by omega)]
    ·rw[ao h1]
     by_cases h2:x=r
     ·subst h2;rw[aA (by omega),e]
     ·rw[ao (by omega)]
   rw[z,e,Ms]
   grind
theorem KD(k:Nat)(M:sS)(t:Nat)(u v:Vec)(h:t+1<k):det k (put (put M t u) (t+1) v)= -det k (put (put M t v) (t+1) u):=by
 have n1:t≠t+1:=by omega
 have z:∀w:Vec,det k (put (put M t w) (t+1) w)=0:=fun w=>qe k _ t h (by rw[gj _ _ n1,put_same,put_same])
 have RQ:∀(N:sS) (r:Nat) (a b:Vec),r<k->det k (put N r fun c=>a c+b c)=det k (put N r a)+det k (put N r b):=fun N r a b hr=>by
  have:=vN k N r 1 1 a b hr
  simp only[Gz]at this
  exact this
 have z1:=z fun c=>u c+v c
 rw[RQ _ (t+1) u v h,gF M _ _ n1,gF M _ _ n1,RQ _ t u v (by omega),RQ _ t u v (by omega),<-gF M _ _ n1,<-gF M _ _ n1,<-gF M _ _ n1,<-gF M _ _ n1,z u,z v]at z1
 omega
theorem nR:∀(d k:Nat) (M:sS) (r:Nat),r+d+1<k->M r=M (r+d+1)->det k M=0
 |0,k,M,r,h,e=>qe k M r h e
 |d+1,k,M,r,h,e=>by
  have f:=KD k M (r+d+1) (M (r+d+1)) (M (r+d+1+1)) h
  rw[qM,qM]at f
  rw[f,nR d k _ r (by omega) (by rw[gj _ _ (by omega),gj _ _ (by omega),gj _ _ (by omega),put_same,e];rfl)]
  rfl
theorem KC{k:Nat}{M:sS}{r t:Nat}(hr:r<k)(ht:t<k)(h:r≠t)(e:M r=M t):det k M=0:=by
 by_cases c:r<t
 ·exact nR (t-r-1) k M r (by omega) (by rw[e];congr 1;omega)
 ·exact nR (r-t-1) k M t (by omega) (by rw[<-e];congr 1;omega)
theorem yG:∀k (M:sS),(∀i,i<k->∀j,j<k->M i j=if i=j then 1 else 0)->det k M=1
 |0,_,_=>rfl
 |k+1,M,h=>by
  unfold det
  rw[bf (j:=0) (k+1) (wg k) fun i hi hn=>by rw[h i hi 0 (wg k),ao hn];grind]
  rw[h 0 (wg k) 0 (wg k),aA rfl,yG k (qW M 0) fun i hi j hj=> ?_]
  ·rfl
  ·unfold qW GR
   rw[ao (by omega),h _ (by omega) _ (by omega)]
   by_cases e:i=j
   ·rw[aA e,aA (by omega)]
   ·rw[ao e,ao (by omega)]
def fct:Nat->Int
 |0=>1
 |k+1=>(k+1:Int)*fct k
theorem Im{f:Nat->Int}{b:Int}:∀k,(∀i,i<k-> -b<=f i/\f i<=b)-> -((k:Int)*b)<=sm k f/\sm k f<=(k:Int)*b
 |0,_=>by
  show -((0:Int)*b)<=0/\(0:Int)<=0*b
  omega
 |k+1,h=>by
  have ih:=Im k fun i hi=>h i (rZ hi)
  have hk:=h k (qj k)
  show -((k+1:Nat)*b)<=sm k f+f k/\sm k f+f k<=(k+1:Nat)*b
  rw[show(((k+1:Nat):Int))*b=(k:Int)*b+b by rw[Int.natCast_succ,Int.add_mul,Gz]]
  omega
theorem Dk{x y a b:Int}(hx: -a<=x/\x<=a)(hy: -b<=y/\y<=b): -(a*b)<=x*y/\x*y<=a*b:=by
 have h1:0<=(a-x)*(b-y):=pq (by omega) (by omega)
 have h2:0<=(a+x)*(b+y):=pq (by omega) (by omega)
 have h3:0<=(a-x)*(b+y):=pq (by omega) (by omega)
 have h4:0<=(a+x)*(b-y):=pq (by omega) (by omega)
 constructor<;>grind
theorem vO:∀k (M:sS) (c:Nat) (B:Int),1<=B->(∀i,i<k->∀j,j<k->i≠c-> -1<=M i j/\M i j<=1)->(∀j,j<k->c<k-> -B<=M c j/\M c j<=B)-> -(fct k*B)<=det k M/\det k M<=fct k*B
 |0,M,c,B,hB,_,_=>by
  show -(1*B)<=1/\(1:Int)<=1*B
  omega
 |k+1,M,c,B,hB,h1,h2=>by
  unfold det
  have e:fct (k+1)*B=((k+1:Nat):Int)*(fct k*B):=by show((k:Int)+1)*fct k*B=_;rw[Vf];rfl
  rw[e]
  refine Im (k+1) fun i hi=> ?_
  have hs:∀x y:Int, -y<=x/\x<=y-> -y<=sg i*x/\sg i*x<=y:=fun x y h=>by
   rcases Q7 i with s|s
   ·rw[s,Gz];exact h
   ·rw[s];omega
  rw[Vf]
  refine hs _ _ ?_
  by_cases ci:i=c
  ·subst ci
   have a:=vO k (qW M i) k 1 (by decide) (fun r hr x hx _=>h1 _ (zO hi hr) _ (by omega) (Io i r)) (fun x hx hk=>absurd hk (oM k))
   have b:=h2 0 (wg k) hi
   rw[TX]at a
   have:=Dk b a
   rw[jN (fct k) B]
   exact this
  ·have a:=vO k (qW M i) (Lq i c) B hB (fun r hr x hx hn=>h1 _ (zO hi hr) _ (by omega) fun z=>hn ((pW (lE ci)).mp z)) (fun x hx hk=>by
    have hc:GR i (Lq i c)=c:=(pW (lE ci)).mpr rfl
    have hlt:c<k+1:=by unfold Lq at hk;split at hk<;>omega
    have:=h2 (x+1) (by omega) hlt
    unfold qW
    rw[hc];exact this)
   have b:=h1 i hi 0 (wg k) ci
   have:=Dk b a
   rw[Gz]at this
   exact this
end Sx
namespace Sx
structure Tab where
 col:Nat->Nat
 row:Nat->Nat
 cell:Nat->Nat->Int
 over:Int
 s:Int
def one:Vec:=fun j=>if j=0 then 1 else 0
section
variable(n m:Nat)(S:Nat->Nat->Bool)(w:Nat->Int)
def nv(a:Nat):Vec:=fun j=>if a<n then(if j=a+1 then 1 else 0)else(if j=0 then 1 else if S (a-n) (j-1)=true then -1 else 0)
def zv:Vec:=fun j=>if j=0 then 0 else w (j-1)
def rv(T:Tab)(r:Nat):Vec:=if r<m then nv n S (T.row r)else zv w
def sO(T:Tab):sS:=fun i=>if i=0 then one else nv n S (T.col (i-1))
def Fn(T:Tab)(c:Nat)(v:Vec):Int:=T.s*det (n+1) (put (sO n S T) c v)
structure Good(T:Tab):Prop where
 pos:0<T.over
 eq:∀r,r<=m->∀j,j<=n->T.over*rv n m S w T r j=T.cell r n*one j-sm n (fun c=>T.cell r c*nv n S (T.col c) j)
 sg:T.s=1\/T.s= -1
 dt:T.over=T.s*det (n+1) (sO n S T)
 Bj:∀c c',c<n->c'<n->T.col c=T.col c'->c=c'
 Jk:∀r r',r<m->r'<m->T.row r=T.row r'->r=r'
 dis:∀c r,c<n->r<m->T.col c≠T.row r
 Oq:∀c,c<n->T.col c<n+m
 rlt:∀r,r<m->T.row r<n+m
 all:∀a,a<n+m->(∃c,c<n/\T.col c=a)\/∃r,r<m/\T.row r=a
 Ug:∀r,r<m->0<=T.cell r n
end
section
variable{n m:Nat}{S:Nat->Nat->Bool}{w:Nat->Int}{T:Tab}
theorem dU{r:Nat}(h:r<m):rv n m S w T r=nv n S (T.row r):=aA h
theorem fQ:rv n m S w T m=zv w:=ao (oM m)
theorem yL:sO n S T 0=one:=rfl
theorem DR(c:Nat):sO n S T (c+1)=nv n S (T.col c):=by unfold sO;rw[ao (wJ c)];rfl
theorem vZ{c:Nat}(hc:c<=n)(a b:Int)(u v:Vec):Fn n S T c (fun j=>a*u j+b*v j)=a*Fn n S T c u+b*Fn n S T c v:=by
 unfold Fn;rw[vN (n+1) (sO n S T) c a b u v (by omega)];grind
theorem Hh{c:Nat}{u v:Vec}(h:∀j,j<=n->u j=v j):Fn n S T c u=Fn n S T c v:=by
 unfold Fn
 rw[uf (n+1) (M:=put (sO n S T) c u) (N:=put (sO n S T) c v) fun i _ j hj=> ?_]
 unfold put
 split
 ·exact h j (by omega)
 ·rfl
theorem iH{c:Nat}(hc:c<=n)(x:Int)(a:Vec)(y:Nat->Int)(W:Nat->Vec):∀k,Fn n S T c (fun j=>x*a j-sm k (fun i=>y i*W i j))=x*Fn n S T c a-sm k (fun i=>y i*Fn n S T c (W i))
 |0=>by
  have h:=vZ (T:=T) (S:=S) hc x 0 a a
  rw[Hh (v:=fun j=>x*a j+0*a j) fun j _=>by show x*a j-0=_;omega,h]
  show _=_-0
  omega
 |k+1=>by
  have h:=vZ (T:=T) (S:=S) hc 1 (-(y k)) (fun j=>x*a j-sm k (fun i=>y i*W i j)) (W k)
  rw[Hh (v:=fun j=>1*(x*a j-sm k (fun i=>y i*W i j))+ -(y k)*W k j) fun j _=>by show x*a j-(sm k _+y k*W k j)=_;grind,h,iH hc x a y W k]
  show _=x*Fn n S T c a-(sm k _+y k*Fn n S T c (W k))
  grind
theorem mV{c:Nat}(hc:c<=n)(a:Int)(u:Vec):Fn n S T c (fun j=>a*u j)=a*Fn n S T c u:=by
 have h:=vZ (T:=T) (S:=S) hc a 0 u u
 rw[Hh (v:=fun j=>a*u j+0*u j) fun j _=>by omega,h];omega
theorem K9(g:T.over=T.s*det (n+1) (sO n S T)){c i:Nat}(hc:c<=n)(hi:i<=n):Fn n S T c (sO n S T i)=if i=c then T.over else 0:=by
 unfold Fn
 by_cases e:i=c
 ·subst e;rw[aA rfl,qM,<-g]
 ·rw[ao e,KC (r:=c) (t:=i) (by omega) (by omega) (lE e) (by rw[put_same,gj _ _ e]),v9]
theorem jq(g:T.over=T.s*det (n+1) (sO n S T)){c:Nat}(hc:c<=n):Fn n S T c one=if c=0 then T.over else 0:=by
 have:=K9 g hc (cY n)
 rw[yL]at this
 rw[this]
 by_cases e:c=0
 ·rw[aA e,aA e.symm]
 ·rw[ao e,ao (lE e)]
theorem wC(g:T.over=T.s*det (n+1) (sO n S T)){c i:Nat}(hc:c<=n)(hi:i<n):Fn n S T c (nv n S (T.col i))=if i+1=c then T.over else 0:=by
 have:=K9 g hc (show i+1<=n by omega)
 rw[DR]at this
 exact this
theorem Uv{a x y:Int}(h:0<a)(e:a*x=a*y):x=y:=Zj (by omega) e
theorem Good.base(G:Good n m S w T){r:Nat}(hr:r<=m):Fn n S T 0 (rv n m S w T r)=T.cell r n:=by
 have h1:=mV (T:=T) (S:=S) (c:=0) (cY n) T.over (rv n m S w T r)
 rw[Hh fun j hj=>G.eq r hr j hj,iH (cY n) _ _ (T.cell r) (fun c=>nv n S (T.col c)),jq G.dt (cY n),aA rfl,aN n fun c hc=>by rw[wC G.dt (cY n) hc,ao (wJ c),v9]]at h1
 refine Uv G.pos ?_
 rw[<-h1,jN];omega
theorem Good.dir(G:Good n m S w T){r c:Nat}(hr:r<=m)(hc:c<n):Fn n S T (c+1) (rv n m S w T r)= -T.cell r c:=by
 have h1:=mV (T:=T) (S:=S) (c:=c+1) hc T.over (rv n m S w T r)
 rw[Hh fun j hj=>G.eq r hr j hj,iH hc _ _ (T.cell r) (fun c=>nv n S (T.col c)),jq G.dt hc,ao (wJ c),bf (j:=c) n hc fun i hi hn=>by rw[wC G.dt hc hi,ao (by omega),v9],wC G.dt hc hc,aA rfl]at h1
 refine Uv G.pos ?_
 rw[<-h1];grind
def turn(T:Tab)(p q:Nat):Tab where
 col:=fun c=>if c=q then T.row p else T.col c
 row:=fun r=>if r=p then T.col q else T.row r
 over:=T.cell p q
 s:= -T.s
 cell:=fun r c=>if r=p then(if c=q then T.over else T.cell p c)else if c=q then -T.cell r q else(T.cell r c*T.cell p q-T.cell r q*T.cell p c)/T.over
theorem Hy{p q:Nat}:sO n S (turn T p q)=put (sO n S T) (q+1) (nv n S (T.row p)):=by
 funext i
 unfold sO put turn
 dsimp only
 by_cases h0:i=0
 ·rw[aA h0,ao (by omega),aA h0]
 ·rw[ao h0]
  by_cases h1:i=q+1
  ·rw[aA h1,aA (by omega)]
  ·rw[ao h1,ao (by omega),ao h0]
theorem Ml{p q r:Nat}(h:r≠p):rv n m S w (turn T p q) r=rv n m S w T r:=by
 unfold rv turn
 dsimp only
 rw[ao h]
theorem Good.sX(G:Good n m S w T){p q:Nat}(hp:p<m)(hq:q<n):(turn T p q).over=(turn T p q).s*det (n+1) (sO n S (turn T p q)):=by
 have h:=G.dir (r:=p) (cM hp) hq
 rw[dU hp]at h
 unfold Fn at h
 rw[Hy]
 show T.cell p q= -T.s*_
 grind
theorem Good.exact(G:Good n m S w T){p q r c:Nat}(hp:p<m)(hq:q<n)(hb:0<T.cell p q)(hr:r<=m)(hrp:r≠p)(hc:c<=n)(R0:c≠q):
  T.over*(turn T p q).cell r c=T.cell r c*T.cell p q-T.cell r q*T.cell p c:=by
 have g':=G.sX hp hq
 have aai:∀j,j<=n->T.cell p q*T.over*rv n m S w T r j=(T.cell r n*T.cell p q-T.cell r q*T.cell p n)*one j-sm n (fun c=>(T.cell r c*T.cell p q-T.cell r q*T.cell p c)*nv n S (T.col c) j)+T.over*T.cell r q*nv n S (T.row p) j:=fun j hj=>by
  have e1:=G.eq r hr j hj
  have e2:=G.eq p (cM hp) j hj
  rw[dU hp]at e2
  have e3:sm n (fun c=>(T.cell r c*T.cell p q-T.cell r q*T.cell p c)*nv n S (T.col c) j)=T.cell p q*sm n (fun c=>T.cell r c*nv n S (T.col c) j)+ -(T.cell r q)*sm n (fun c=>T.cell p c*nv n S (T.col c) j):=by
   rw[<-aK,<-aK,<-cN]
   exact ak n fun c _=>by grind
  rw[e3]
  generalize sm n (fun c=>T.cell r c*nv n S (T.col c) j)=A at *
  generalize sm n (fun c=>T.cell p c*nv n S (T.col c) j)=B at *
  grind
 have app:∀d,d<=n->T.cell p q*T.over*Fn n S (turn T p q) d (rv n m S w T r)=(T.cell r n*T.cell p q-T.cell r q*T.cell p n)*Fn n S (turn T p q) d one-sm n (fun c=>(T.cell r c*T.cell p q-T.cell r q*T.cell p c)*Fn n S (turn T p q) d (nv n S (T.col c)))+T.over*T.cell r q*Fn n S (turn T p q) d (nv n S (T.row p)):=fun d hd=>by
  rw[<-mV hd,Hh aai,<-iH hd _ _ (fun c=>T.cell r c*T.cell p q-T.cell r q*T.cell p c) (fun c=>nv n S (T.col c))]
  have h:=vZ (T:=turn T p q) (S:=S) hd 1 (T.over*T.cell r q) (fun j=>(T.cell r n*T.cell p q-T.cell r q*T.cell p n)*one j-sm n (fun c=>(T.cell r c*T.cell p q-T.cell r q*T.cell p c)*nv n S (T.col c) j)) (nv n S (T.row p))
  simp only[Gz]at h
  exact h
 have Xl:nv n S ((turn T p q).col q)=nv n S (T.row p):=by unfold turn;dsimp only;rw[aA rfl]
 have SN:∀c,c≠q->nv n S ((turn T p q).col c)=nv n S (T.col c):=fun c h=>by unfold turn;dsimp only;rw[ao h]
 have ov:(turn T p q).over=T.cell p q:=rfl
 have key:∃x,T.cell r c*T.cell p q-T.cell r q*T.cell p c=T.over*x:=by
  by_cases hl:c=n
  ·subst hl
   have h:=app 0 (cY _)
   have f1:=jq g' (cY c)
   have f2:=wC g' (cY c) hq
   rw[aA rfl,ov]at f1
   rw[Xl,ao (wJ q)]at f2
   rw[f1,f2,aN c fun i hi=> ?_]at h
   ·refine⟨Fn c S (turn T p q) 0 (rv c m S w T r),Uv hb ?_⟩
    grind
   ·by_cases Wv:i=q
    ·subst Wv;rw[Int.sub_self,Tp]
    ·have f3:=wC g' (cY c) hi
     rw[SN i Wv,ao (wJ i)]at f3
     rw[f3,v9]
  ·have hc':c<n:=by omega
   have h:=app (c+1) hc'
   have f1:=jq g' (show c+1<=n from hc')
   have f2:=wC g' (show c+1<=n from hc') hq
   have f3:=wC g' (show c+1<=n from hc') hc'
   rw[ao (wJ c)]at f1
   rw[Xl,ao (by omega)]at f2
   rw[SN c R0,aA rfl,ov]at f3
   rw[f1,f2,bf (j:=c) n hc' fun i hi hn=> ?_,f3]at h
   ·refine⟨-Fn n S (turn T p q) (c+1) (rv n m S w T r),Uv hb ?_⟩
    grind
   ·by_cases Wv:i=q
    ·subst Wv;rw[Int.sub_self,Tp]
    ·have f4:=wC g' (show c+1<=n from hc') hi
     rw[SN i Wv,ao (by omega)]at f4
     rw[f4,v9]
 obtain⟨x,hx⟩:=key
 show T.over*(if r=p then _ else if c=q then _ else(T.cell r c*T.cell p q-T.cell r q*T.cell p c)/T.over)=_
 rw[ao hrp,ao R0,hx,wdr _ (Va G.pos)]
theorem Good.turn(G:Good n m S w T){p q:Nat}(hp:p<m)(hq:q<n)(hb:0<T.cell p q)(ra:∀r,r<m->0<T.cell r q->T.cell p n*T.cell r q<=T.cell r n*T.cell p q):Good n m S w (turn T p q):=by
 have hqn:n≠q:=by omega
 have c1:∀r,r≠p->(Sx.turn T p q).cell r q= -T.cell r q:=fun r h=>by unfold Sx.turn;dsimp only;rw[ao h,aA rfl]
 have c2:(Sx.turn T p q).cell p q=T.over:=by unfold Sx.turn;dsimp only;rw[aA rfl,aA rfl]
 have c3:∀c,c≠q->(Sx.turn T p q).cell p c=T.cell p c:=fun c h=>by unfold Sx.turn;dsimp only;rw[aA rfl,ao h]
 have k1:(Sx.turn T p q).col q=T.row p:=by unfold Sx.turn;dsimp only;rw[aA rfl]
 have k2:∀c,c≠q->(Sx.turn T p q).col c=T.col c:=fun c h=>by unfold Sx.turn;dsimp only;rw[ao h]
 have r1:(Sx.turn T p q).row p=T.col q:=by unfold Sx.turn;dsimp only;rw[aA rfl]
 have r2:∀r,r≠p->(Sx.turn T p q).row r=T.row r:=fun r h=>by unfold Sx.turn;dsimp only;rw[ao h]
 refine⟨hb,fun r hr j hj=> ?_,?_,G.sX hp hq,fun c c' hc hc' e=> ?_,fun r r' hr hr' e=> ?_,fun c r hc hr e=> ?_,fun c hc=> ?_,fun r hr=> ?_,fun a ha=> ?_,fun r hr=> ?_⟩
 ·have e2:=G.eq p (cM hp) j hj
  rw[dU hp]at e2
  by_cases h:r=p
  ·subst h
   rw[dU hp,r1,c3 n hqn]
   have e3:sm n (fun c=>(Sx.turn T r q).cell r c*nv n S ((Sx.turn T r q).col c) j)=sm n (fun c=>T.cell r c*nv n S (T.col c) j)+(T.over*nv n S (T.row r) j-T.cell r q*nv n S (T.col q) j):=by
    have:sm n (fun c=>if c=q then T.over*nv n S (T.row r) j-T.cell r q*nv n S (T.col q) j else 0)=T.over*nv n S (T.row r) j-T.cell r q*nv n S (T.col q) j:=by
     rw[bf (j:=q) n hq fun i _ hn=>ao hn,aA rfl]
    rw[<-this,<-cN]
    refine ak n fun c _=> ?_
    by_cases hc:c=q
    ·subst hc;rw[c2,k1,aA rfl];omega
    ·rw[c3 c hc,k2 c hc,ao hc];omega
   rw[e3]
   show T.cell r q*nv n S (T.col q) j=_
   omega
  ·rw[Ml h]
   have e1:=G.eq r hr j hj
   have e3:T.over*sm n (fun c=>(Sx.turn T p q).cell r c*nv n S ((Sx.turn T p q).col c) j)=T.cell p q*sm n (fun c=>T.cell r c*nv n S (T.col c) j)+ -(T.cell r q)*sm n (fun c=>T.cell p c*nv n S (T.col c) j)+ -(T.over*T.cell r q*nv n S (T.row p) j):=by
    have:sm n (fun c=>if c=q then -(T.over*T.cell r q*nv n S (T.row p) j)else 0)= -(T.over*T.cell r q*nv n S (T.row p) j):=by
     rw[bf (j:=q) n hq fun i _ hn=>ao hn,aA rfl]
    rw[<-this,<-aK,<-aK,<-aK,<-cN,<-cN]
    refine ak n fun c hc=> ?_
    by_cases R0:c=q
    ·subst R0;rw[c1 r h,k1,aA rfl];grind
    ·have:=G.exact hp hq hb hr h (cM hc) R0
     rw[k2 c R0,ao R0,<-Vf,this];grind
   have e4:=G.exact hp hq hb hr h (aU n) hqn
   refine Uv G.pos ?_
   show T.over*(T.cell p q*rv n m S w T r j)=_
   rw[Int.mul_sub,e3,<-Vf T.over ((Sx.turn T p q).cell r n),e4]
   generalize sm n (fun c=>T.cell r c*nv n S (T.col c) j)=A at *
   generalize sm n (fun c=>T.cell p c*nv n S (T.col c) j)=B at *
   grind
 ·rcases G.sg with e|e
  ·exact .inr (by show -T.s= -1;rw[e])
  ·exact .inl (by show -T.s=1;rw[e];rfl)
 ·by_cases h1:c=q
  ·by_cases h2:c'=q
   ·rw[h1,h2]
   ·rw[h1,k1,k2 c' h2]at e;exact absurd e.symm (G.dis c' p hc' hp)
  ·by_cases h2:c'=q
   ·rw[h2,k1,k2 c h1]at e;exact absurd e (G.dis c p hc hp)
   ·rw[k2 c h1,k2 c' h2]at e;exact G.Bj c c' hc hc' e
 ·by_cases h1:r=p
  ·by_cases h2:r'=p
   ·rw[h1,h2]
   ·rw[h1,r1,r2 r' h2]at e;exact absurd e (G.dis q r' hq hr')
  ·by_cases h2:r'=p
   ·rw[h2,r1,r2 r h1]at e;exact absurd e.symm (G.dis q r hq hr)
   ·rw[r2 r h1,r2 r' h2]at e;exact G.Jk r r' hr hr' e
 ·by_cases h1:c=q
  ·by_cases h2:r=p
   ·rw[h1,h2,k1,r1]at e;exact G.dis q p hq hp e.symm
   ·rw[h1,k1,r2 r h2]at e;exact h2 (G.Jk p r hp hr e).symm
  ·by_cases h2:r=p
   ·rw[h2,k2 c h1,r1]at e;exact h1 (G.Bj c q hc hq e)
   ·rw[k2 c h1,r2 r h2]at e;exact G.dis c r hc hr e
 ·by_cases h1:c=q
  ·rw[h1,k1];exact G.rlt p hp
  ·rw[k2 c h1];exact G.Oq c hc
 ·by_cases h1:r=p
  ·rw[h1,r1];exact G.Oq q hq
  ·rw[r2 r h1];exact G.rlt r hr
 ·rcases G.all a ha with⟨c,hc,e⟩|⟨r,hr,e⟩
  ·by_cases h1:c=q
   ·exact .inr ⟨p,hp,by rw[r1,<-h1,e]⟩
   ·exact .inl ⟨c,hc,by rw[k2 c h1,e]⟩
  ·by_cases h1:r=p
   ·exact .inl ⟨q,hq,by rw[k1,<-h1,e]⟩
   ·exact .inr ⟨r,hr,by rw[r2 r h1,e]⟩
 ·by_cases h1:r=p
  ·rw[h1,c3 n hqn];exact G.Ug p hp
  ·have e:=G.exact hp hq hb (cM hr) h1 (aU n) hqn
   have f1:=G.Ug r hr
   have f2:=G.Ug p hp
   have z:0<=T.cell r n*T.cell p q-T.cell r q*T.cell p n:=by
    by_cases hc:0<T.cell r q
    ·have:=ra r hr hc
     rw[jN (T.cell r q)];omega
    ·have a1:0<=T.cell r n*T.cell p q:=pq f1 (by omega)
     have a2:0<= -(T.cell r q)*T.cell p n:=pq (by omega) f2
     grind
   rw[<-e]at z
   have:=G.pos
   refine Int.not_lt.mp fun hn=> ?_
   have:T.over*(Sx.turn T p q).cell r n<0:=Int.mul_neg_of_pos_of_neg G.pos hn
   omega
end
end Sx
namespace Sx
structure Step(n m:Nat)(T:Tab)(p q:Nat):Prop where
 hp:p<m
 hq:q<n
 neg:T.cell m q<0
 ent:∀c,c<n->T.cell m c<0->T.col q<=T.col c
 by_:0<T.cell p q
 lev:∀r,r<m->0<T.cell r q->T.cell p n*T.cell r q<T.cell r n*T.cell p q\/(T.cell p n*T.cell r q=T.cell r n*T.cell p q/\T.row p<=T.row r)
def inC(n:Nat)(T:Tab)(a:Nat):Prop:=∃c,c<n/\T.col c=a
section
variable{n m:Nat}{S:Nat->Nat->Bool}{w:Nat->Int}
theorem Step.good{T:Tab}{p q:Nat}(s:Step n m T p q)(G:Good n m S w T):Good n m S w (turn T p q):=
 G.turn s.hp s.hq s.by_ fun r hr h=>(s.lev r hr h).elim lC fun e=>Tn e.1
theorem Step.worth{T:Tab}{p q:Nat}(s:Step n m T p q)(G:Good n m S w T):T.over*(turn T p q).cell m n-(turn T p q).over*T.cell m n= -(T.cell m q)*T.cell p n:=by
 have h:=G.exact s.hp s.hq s.by_ (aU m) (O1 s.hp) (aU n) (O1 s.hq)
 rw[h]
 show _-T.cell p q*_=_
 grind
theorem Step.le{T:Tab}{p q:Nat}(s:Step n m T p q)(G:Good n m S w T):(turn T p q).over*T.cell m n<=T.over*(turn T p q).cell m n:=by
 have h:=s.worth G
 have:=pq (a:= -(T.cell m q)) (b:=T.cell p n) (by have:=s.neg;omega) (G.Ug p s.hp)
 omega
theorem vK{a b c d e f:Int}(hd:0<d)(hb:0<b)(hf:0<f)(h1:d*a<=b*c)(h2:f*c<=d*e):f*a<=b*e:=by
 have x:=pA h1 (lC hf)
 have y:=pA h2 (lC hb)
 refine Int.le_of_mul_le_mul_left (a:=d) ?_ hd
 grind
theorem vJ{a b c d e f:Int}(hd:0<d)(hb:0<b)(hf:0<f)(h1:d*a<=b*c)(h2:f*c<d*e):f*a<b*e:=by
 have x:=pA h1 (lC hf)
 have y:=wcz h2 hb
 refine wdk (a:=d) ?_ (lC hd)
 grind
theorem yD{a b c d e f:Int}(hd:0<d)(hb:0<b)(hf:0<f)(h1:d*a<b*c)(h2:f*c<=d*e):f*a<b*e:=by
 have x:=wcz h1 hf
 have y:=pA h2 (lC hb)
 refine wdk (a:=d) ?_ (lC hd)
 grind
theorem goes{P:Nat->Prop}{s:Nat}:∀d,P s->¬P (s+d)->∃t,s<=t/\t<s+d/\P t/\¬P (t+1)
 |0,h,h'=>absurd h h'
 |d+1,h,h'=>by
  by_cases c:P (s+d)
  ·exact⟨s+d,by omega,by omega,c,h'⟩
  ·obtain⟨t,a,b,x⟩:=goes d h c
   exact⟨t,a,by omega,x⟩
theorem yp{P:Nat->Prop}{s e:Nat}(hse:s<=e)(h:P s)(h':¬P e):∃t,s<=t/\t<e/\P t/\¬P (t+1):=by
 obtain⟨t,a,b,x⟩:=goes (s:=s) (e-s) h (by rw[show s+(e-s)=e by omega];exact h')
 exact⟨t,a,by omega,x⟩
theorem most{P:Nat->Prop}:∀N,(∃a,P a)->(∀a,P a->a<N)->∃a,P a/\∀b,P b->b<=a
 |0,⟨a,h⟩,hb=>absurd (hb a h) (QG a)
 |N+1,h,hb=>by
  by_cases c:P N
  ·exact⟨N,c,fun b hP=>by have:=hb b hP;omega⟩
  ·exact most N h fun a hP=>by
    have:=hb a hP
    have:a≠N:=fun e=>c (e▸hP)
    omega
structure Run(n m:Nat)(S:Nat->Nat->Bool)(w:Nat->Int)(T:Nat->Tab)(p q:Nat->Nat)(L:Nat):Prop where
 first:Good n m S w (T 0)
 step:∀t,t<L->Step n m (T t) (p t) (q t)
 next:∀t,t<L->T (t+1)=turn (T t) (p t) (q t)
variable{T:Nat->Tab}{p q:Nat->Nat}{L:Nat}
theorem Run.good(R:Run n m S w T p q L):∀t,t<=L->Good n m S w (T t)
 |0,_=>R.first
 |t+1,h=>by rw[R.next t h];exact(R.step t h).good (R.good t (ZL h))
theorem Run.worth(R:Run n m S w T p q L){i:Nat}:∀d,i+d<=L->(T (i+d)).over*(T i).cell m n<=(T i).over*(T (i+d)).cell m n
 |0,_=>pK _
 |d+1,h=>by
  have ih:=R.worth d (i:=i) (by omega)
  have g1:=R.good (i+d) (by omega)
  have st:=(R.step (i+d) (by omega)).le g1
  rw[<-R.next (i+d) (by omega)]at st
  exact vK g1.pos (R.good i (by omega)).pos (R.good (i+d+1) h).pos ih st
theorem Run.Hq(R:Run n m S w T p q L){i j:Nat}(hij:i<=j)(hj:j<=L):(T j).over*(T i).cell m n<=(T i).over*(T j).cell m n:=by
 have:=R.worth (i:=i) (j-i) (by omega)
 rwa [show i+(j-i)=j by omega]at this
theorem zY{A B:Tab}(GA:Good n m S w A)(GB:Good n m S w B)(h:∀a,inC n B a->inC n A a):B.over*A.cell m n=A.over*B.cell m n:=by
 have h1:=mV (T:=A) (S:=S) (c:=0) (cY n) B.over (zv w)
 have e:=GB.eq m (aU m)
 rw[fQ]at e
 have b:=GA.base (aU m)
 rw[fQ]at b
 rw[Hh e,iH (cY n) _ _ (B.cell m) (fun c=>nv n S (B.col c)),jq GA.dt (cY n),aA rfl,aN n fun c hc=> ?_,b]at h1
 ·rw[<-h1,jN];omega
 ·obtain⟨c',hc',e'⟩:=h _ ⟨c,hc,rfl⟩
  rw[<-e',wC GA.dt (cY n) hc',ao (wJ c'),v9]
theorem Hx{T:Tab}{p q:Nat}(G:Good n m S w T)(hp:p<m)(hq:q<n)(a:Nat):inC n (turn T p q) a↔(inC n T a/\a≠T.col q)\/a=T.row p:=by
 constructor
 ·rintro⟨c,hc,e⟩
  have e':(if c=q then T.row p else T.col c)=a:=e
  by_cases h:c=q
  ·rw[aA h]at e';exact .inr e'.symm
  ·rw[ao h]at e'
   exact .inl ⟨⟨c,hc,e'⟩,fun z=>h (G.Bj c q hc hq (e'.trans z))⟩
 ·rintro(⟨⟨c,hc,e⟩,hn⟩|e)
  ·have h:c≠q:=fun z=>hn (by rw[<-e,z])
   exact⟨c,hc,by show(if c=q then _ else _)=a;rw[ao h];exact e⟩
  ·exact⟨q,hq,by show(if q=q then _ else _)=a;rw[aA rfl];exact e.symm⟩
theorem flat{T:Tab}{p q:Nat}(G:Good n m S w T)(G':Good n m S w (turn T p q))(s:Step n m T p q)(h0:T.cell p n=0){a:Nat}(ha:a<n+m):Fn n S (turn T p q) 0 (nv n S a)=0↔Fn n S T 0 (nv n S a)=0:=by
 have z0:=cY n
 rcases G'.all a ha with⟨c,hc,e⟩|⟨r,hr,e⟩
 ·have f1:=wC G'.dt z0 hc
  rw[e,ao (wJ c)]at f1
  refine⟨fun _=> ?_,fun _=>f1⟩
  have e':(if c=q then T.row p else T.col c)=a:=e
  by_cases h:c=q
  ·rw[aA h]at e'
   have:=G.base (cM s.hp)
   rw[dU s.hp,e']at this
   rw[this,h0]
  ·rw[ao h]at e'
   have:=wC G.dt z0 hc
   rw[e',ao (wJ c)]at this
   exact this
 ·have f1:=G'.base (cM hr)
  rw[dU hr,e]at f1
  have e':(if r=p then T.col q else T.row r)=a:=e
  rw[f1]
  by_cases h:r=p
  ·rw[aA h]at e'
   have f2:=wC G.dt z0 s.hq
   rw[e',ao (wJ q)]at f2
   have f3:(turn T p q).cell r n=T.cell p n:=by
    show(if r=p then(if n=q then _ else _)else _)=_
    rw[aA h,ao (O1 s.hq)]
   rw[f3,h0]
   exact⟨fun _=>f2,fun _=>rfl⟩
  ·rw[ao h]at e'
   have f2:=G.base (cM hr)
   rw[dU hr,e']at f2
   rw[f2]
   have x:=G.exact s.hp s.hq s.by_ (cM hr) h (aU n) (O1 s.hq)
   rw[h0,v9,Int.sub_zero]at x
   constructor
   ·intro z
    rw[z,v9]at x
    rcases Int.mul_eq_zero.mp x.symm with y|y
    ·exact y
    ·have:=s.by_;omega
   ·intro z
    rw[z,Tp]at x
    rcases Int.mul_eq_zero.mp x with y|y
    ·have:=G.pos;omega
    ·exact y
theorem Run.FQ(R:Run n m S w T p q L){i j:Nat}(hij:i<j)(hj:j<=L):¬∀a,inC n (T i) a↔inC n (T j) a:=by
 intro same
 have Gt:∀t,i<=t->t<=j->Good n m S w (T t):=fun t _ h=>R.good t (dW h hj)
 have D:=zY (Gt i (aU i) (cM hij)) (Gt j (cM hij) (aU j)) fun a=>(same a).mpr
 have St:∀t,t<j->Step n m (T t) (p t) (q t):=fun t h=>R.step t (jx h hj)
 have nx:∀t,t<j->T (t+1)=turn (T t) (p t) (q t):=fun t h=>R.next t (jx h hj)
 -- every turn of these is flat
 have fl:∀t,i<=t->t<j->(T t).cell (p t) n=0:=fun t hi ht=>by
  have g:=Gt t hi (cM ht)
  have W:=(St t ht).worth g
  have F:=g.Ug (p t) (St t ht).hp
  have N:=(St t ht).neg
  by_cases z:(T t).cell (p t) n=0
  ·exact z
  ·exfalso
   have B:(turn (T t) (p t) (q t)).over*(T t).cell m n<(T t).over*(turn (T t) (p t) (q t)).cell m n:=by
    have:=OJ (a:= -((T t).cell m (q t))) (b:=(T t).cell (p t) n) (by omega) (by omega)
    omega
   rw[<-nx t ht]at B
   have A:=R.Hq (i:=i) (j:=t) hi (by omega)
   have C:=R.Hq (i:=t+1) (j:=j) ht hj
   have o1:=(Gt i (aU i) (cM hij)).pos
   have o2:=g.pos
   have o3:=(Gt (t+1) (by omega) ht).pos
   have o4:=(Gt j (cM hij) (aU j)).pos
   have x:=vJ o2 o1 o3 A B
   have y:=yD o3 o1 o4 x C
   omega
 have ic:∀t,t<j->i<=t->∀a,inC n (T (t+1)) a↔(inC n (T t) a/\a≠(T t).col (q t))\/a=(T t).row (p t):=fun t ht hi a=>by
  rw[nx t ht];exact Hx (Gt t hi (cM ht)) (St t ht).hp (St t ht).hq a
 have zeros:∀{a:Nat},a<n+m->∀d s,i<=s->s+d<=j->(Fn n S (T (s+d)) 0 (nv n S a)=0↔Fn n S (T s) 0 (nv n S a)=0):=fun{a} ha d=>by
  induction d with
  |zero=>intro s _ _;exact Iff.rfl
  |succ d ih=>
   intro s hs hd
   have f:=flat (Gt (s+d) (by omega) (by omega)) (by rw[<-nx (s+d) (by omega)];exact Gt (s+d+1) (by omega) hd) (St (s+d) (by omega)) (fl (s+d) (by omega) (by omega)) ha
   rw[<-nx (s+d) (by omega)]at f
   exact f.trans (ih s hs (by omega))
 have Uo:∀{a s t:Nat},a<n+m->i<=s->s<=j->i<=t->t<=j->Fn n S (T s) 0 (nv n S a)=0->Fn n S (T t) 0 (nv n S a)=0:=fun{a s t} ha h1 h2 h3 h4 z=>by
  by_cases c:s<=t
  ·have:=zeros ha (t-s) s h1 (by omega)
   rw[show s+(t-s)=t by omega]at this
   exact this.mpr z
  ·have:=zeros ha (s-t) t h3 (by omega)
   rw[show t+(s-t)=s by omega]at this
   exact this.mp z
 -- the greatest name that comes and goes
 let Fk:Nat->Prop:=fun a=>∃t,i<=t/\t<j/\((inC n (T t) a/\¬inC n (T (t+1)) a)\/(¬inC n (T t) a/\inC n (T (t+1)) a))
 have fkc:∀t,i<=t->t<j->Fk ((T t).col (q t)):=fun t hi ht=>by
  have g:=Gt t hi (cM ht)
  refine⟨t,hi,ht,.inl ⟨⟨q t,(St t ht).hq,rfl⟩,fun z=> ?_⟩⟩
  rcases(ic t ht hi _).mp z with⟨_,z⟩|z
  ·exact z rfl
  ·exact g.dis (q t) (p t) (St t ht).hq (St t ht).hp z
 have lt:∀a,Fk a->a<n+m:=fun a h=>by
  obtain⟨t,hi,ht,(⟨⟨c,hc,e⟩,_⟩|⟨_,⟨c,hc,e⟩⟩)⟩:=h
  ·rw[<-e];exact(Gt t hi (cM ht)).Oq c hc
  ·rw[<-e];exact(Gt (t+1) (by omega) ht).Oq c hc
 obtain⟨tt,hF,hmax⟩:=most (n+m) ⟨_,fkc i (aU i) hij⟩ lt
 have diff:∀{a s e:Nat},i<=s->s<=j->i<=e->e<=j->inC n (T s) a->¬inC n (T e) a->Fk a:=fun{a s e} h1 h2 h3 h4 x y=>by
  by_cases c:s<=e
  ·obtain⟨t,a1,a2,a3,a4⟩:=yp (P:=fun t=>inC n (T t) a) c x y
   exact⟨t,by omega,by omega,.inl ⟨a3,a4⟩⟩
  ·obtain⟨t,a1,a2,a3,a4⟩:=yp (P:=fun t=>¬inC n (T t) a) (s:=e) (e:=s) (by omega) y (fun z=>z x)
   exact⟨t,by omega,by omega,.inr ⟨a3,Classical.not_not.mp a4⟩⟩
 obtain⟨t1,WT,Ue,h1a,h1b⟩:∃t,i<=t/\t<j/\inC n (T t) tt/\¬inC n (T (t+1)) tt:=by
  obtain⟨t,hi,ht,(⟨x,y⟩|⟨x,y⟩)⟩:=hF
  ·exact⟨t,hi,ht,x,y⟩
  ·by_cases c:inC n (T j) tt
   ·obtain⟨u,a1,a2,a3,a4⟩:=yp (P:=fun t=>inC n (T t) tt) hi ((same tt).mpr c) x
    exact⟨u,a1,by omega,a3,a4⟩
   ·obtain⟨u,a1,a2,a3,a4⟩:=yp (P:=fun t=>inC n (T t) tt) (s:=t+1) (e:=j) ht y c
    exact⟨u,by omega,a2,a3,a4⟩
 obtain⟨t2,Ud,R9,h2a,h2b⟩:∃t,i<=t/\t<j/\¬inC n (T t) tt/\inC n (T (t+1)) tt:=by
  have up:∀s e,i<=s->s<=e->e<=j->¬inC n (T s) tt->inC n (T e) tt->∃t,i<=t/\t<j/\¬inC n (T t) tt/\inC n (T (t+1)) tt:=fun s e a b c x y=>by
   obtain⟨u,a1,a2,a3,a4⟩:=yp (P:=fun t=>¬inC n (T t) tt) b x (fun z=>z y)
   exact⟨u,by omega,by omega,a3,Classical.not_not.mp a4⟩
  by_cases c:inC n (T j) tt
  ·exact up (t1+1) j (by omega) Ue (aU j) h1b c
  ·exact up i t1 (aU i) WT (by omega) (fun z=>c ((same tt).mp z)) h1a
 have e1:tt=(T t1).col (q t1):=by
  refine T5 fun hn=>h1b ((ic t1 Ue WT tt).mpr (.inl ⟨h1a,hn⟩))
 have e2:tt=(T t2).row (p t2):=by
  rcases(ic t2 R9 Ud tt).mp h2b with⟨z,_⟩|z
  ·exact absurd z h2a
  ·exact z
 have G1:=Gt t1 WT (cM Ue)
 have G2:=Gt t2 Ud (cM R9)
 have S1:=St t1 Ue
 have S2:=St t2 R9
 -- along the column that enters at t2
 have hq2:q t2+1<=n:=S2.hq
 have dz:=G2.dir (aU m) S2.hq
 rw[fQ]at dz
 have sum:=mV (T:=T t2) (S:=S) hq2 (T t1).over (zv w)
 have eq1:=G1.eq m (aU m)
 rw[fQ]at eq1
 rw[Hh eq1,iH hq2 _ _ ((T t1).cell m) (fun c=>nv n S ((T t1).col c)),jq G2.dt hq2,ao (wJ _),dz]at sum
 have neg:sm n (fun c=>(T t1).cell m c*Fn n S (T t2) (q t2+1) (nv n S ((T t1).col c)))<0:=by
  have:=OJ G1.pos (b:= -((T t2).cell m (q t2))) (by have:=S2.neg;omega)
  omega
 obtain⟨c,hc,hlt⟩:=Il n neg
 have hnm:=G1.Oq c hc
 rcases G2.all _ hnm with⟨c0,hc0,e0⟩|⟨r0,hr0,e0⟩
 ·have f:=wC G2.dt hq2 hc0
  rw[e0]at f
  by_cases z:c0=q t2
  ·rw[aA (by omega)]at f
   rw[f]at hlt
   have cn:(T t1).cell m c<0:=by
    refine Int.not_le.mp fun h=> ?_
    have:=pq h (lC G2.pos)
    omega
   have a:=S1.ent c hc cn
   rw[<-e1,<-e0,z]at a
   have b:=hmax _ (fkc t2 Ud R9)
   have:tt=(T t2).col (q t2):=QH a b
   exact G2.dis (q t2) (p t2) S2.hq S2.hp (this.symm.trans e2)
  ·rw[ao (by omega)]at f
   rw[f,v9]at hlt
   exact absurd hlt (Yr 0)
 ·have f:=G2.dir (cM hr0) S2.hq
  rw[dU hr0,e0]at f
  rw[f]at hlt
  have fk:Fk ((T t1).col c):=diff WT (cM Ue) Ud (cM R9) ⟨c,hc,rfl⟩ (fun⟨c',hc',e'⟩=>G2.dis c' r0 hc' hr0 (e'.trans e0.symm))
  have le:=hmax _ fk
  by_cases z:(T t1).col c=tt
  ·have cq:c=q t1:=G1.Bj c (q t1) hc S1.hq (z.trans e1)
   have rp:r0=p t2:=G2.Jk r0 (p t2) hr0 S2.hp (e0.trans (z.trans e2))
   subst cq rp
   have a:=S1.neg
   have b:=S2.by_
   have:=OJ (a:= -((T t1).cell m (q t1))) (b:=(T t2).cell (p t2) (q t2)) (by omega) b
   grind
  ·have cn:¬(T t1).cell m c<0:=fun h=>by
    have:=S1.ent c hc h
    omega
   have Jr:0<(T t2).cell r0 (q t2):=by
    refine Int.not_le.mp fun h=> ?_
    have:=pq (a:=(T t1).cell m c) (b:= -((T t2).cell r0 (q t2))) (by omega) (by omega)
    omega
   have v1:Fn n S (T t1) 0 (nv n S ((T t1).col c))=0:=by rw[wC G1.dt (cY n) hc,ao (wJ c)]
   have v2:=Uo hnm WT (cM Ue) Ud (cM R9) v1
   have b:=G2.base (cM hr0)
   rw[dU hr0,e0,v2]at b
   have k:=fl t2 Ud R9
   rcases S2.lev r0 hr0 Jr with h|⟨_,h⟩
   ·rw[k,<-b,Tp,Tp]at h
    exact absurd h (Yr 0)
   ·rw[<-e2,e0]at h
    omega
def enc:List Bool->Nat
 |[]=>0
 |b::l=>(if b=true then 1 else 0)+2*enc l
theorem Kv:∀l:List Bool,enc l<2^l.length
 |[]=>by decide
 |b::l=>by
  have:=Kv l
  show(if b=true then 1 else 0)+2*enc l<2^(l.length+1)
  rw[Zt]
  split<;>omega
theorem DP:∀{l l':List Bool},l.length=l'.length->enc l=enc l'->l=l'
 |[],[],_,_=>rfl
 |b::l,b'::l',h,e=>by
  have e':(if b=true then 1 else 0)+2*enc l=(if b'=true then 1 else 0)+2*enc l':=e
  have hb:b=b':=by cases b<;>cases b'<;>simp at e'⊢<;>omega
  subst hb
  rw[DP (l:=l) (l':=l') (by simpa using h) (by omega)]
theorem few:∀(K:Nat) (l:List Nat),l.Nodup->(∀x∈l,x<K)->l.length<=K
 |0,[],_,_=>aU 0
 |0,x::_,_,h=>absurd (h x jV) (QG x)
 |K+1,l,nd,h=>by
  have a:=few K (l.filter fun x=>decide (x≠K)) (nd.filter _) fun x hx=>by
   obtain⟨h1,h2⟩:=iR.mp hx
   have:=h x h1
   have:=eY h2
   omega
  have b:l.length<=(l.filter fun x=>decide (x≠K)).length+1:=by
   clear a h
   induction l with
   |nil=>exact cY _
   |cons y l ih=>
    have nd':=Hl.mp nd
    rw[GD]
    by_cases c:y=K
    ·subst c
     rw[ao (by simp)]
     have:l.filter (fun x=>decide (x≠y))=l:=List.filter_eq_self.mpr fun x hx=>cI fun e=>nd'.1 (e▸hx)
     rw[this];exact aU _
    ·rw[aA (cI c)]
     have:=ih nd'.2
     simp only[wK]
     omega
  omega
open Classical in
def code(n m:Nat)(T:Tab):Nat:=enc ((List.range (n+m)).map fun a=>decide (inC n T a))
theorem Run.short(R:Run n m S w T p q L):L<2^(n+m):=by
 have inj:∀i j,i<=L->j<=L->code n m (T i)=code n m (T j)->i=j:=by
  have one:∀i j,i<j->j<=L->code n m (T i)≠code n m (T j):=fun i j hij hj e=>by
   have l:=DP (by simp) e
   refine R.FQ hij hj fun a=> ?_
   by_cases ha:a<n+m
   ·have:=iW (fun l:List Bool=>l[a]?) l
    simp only[dY,U3 ha,Option.map_some,Option.some.injEq,decide_eq_decide]at this
    exact this
   ·exact⟨fun⟨c,hc,e⟩=>absurd ((R.good i (by omega)).Oq c hc) (by omega),fun⟨c,hc,e⟩=>absurd ((R.good j hj).Oq c hc) (by omega)⟩
  intro i j hi hj e
  rcases Pb i j with h|h|h
  ·exact absurd e (one i j h hj)
  ·exact h
  ·exact absurd e.symm (one j i h hi)
 have nd:((List.range (L+1)).map fun t=>code n m (T t)).Nodup:=by
  refine Ck.mpr (List.nodup_range.imp_of_mem fun{a b} ha hb hab e=>hab (inj a b ?_ ?_ e))
  ·have:=m8.mp ha;omega
  ·have:=m8.mp hb;omega
 have:=few (2^(n+m)) _ nd fun x hx=>by
  obtain⟨t,_,rfl⟩:=jw.mp hx
  have:=Kv ((List.range (n+m)).map fun a=> @decide (inC n (T t) a) (Classical.propDecidable _))
  rw[aM,wL]at this
  exact this
 rw[aM,wL]at this
 omega
end
end Sx
namespace Sx
section
variable{n m:Nat}{S:Nat->Nat->Bool}{w:Nat->Int}{T:Tab}
theorem j7{a j:Nat}(h:a<n):nv n S a j=if j=a+1 then 1 else 0:=aA h
theorem u9{k j:Nat}:nv n S (n+k) j=if j=0 then 1 else if S k (j-1)=true then -1 else 0:=by
 unfold nv;rw[ao (by omega),show n+k-n=k by omega]
theorem CW{y:Nat->Int}{j:Nat}(hj:j<=n):sm n (fun c=>y c*nv n S c j)=if j=0 then 0 else y (j-1):=by
 by_cases h:j=0
 ·rw[aA h]
  exact aN n fun c hc=>by rw[j7 hc,ao (by omega),v9]
 ·rw[ao h,bf (j:=j-1) n (by omega) fun c hc hn=>by rw[j7 hc,ao (by omega),v9],j7 (by omega),aA (by omega),TX]
theorem Al{k j:Nat}(hj:j<=n):nv n S (n+k) j=1*one j-sm n (fun c=>(if S k c=true then 1 else 0)*nv n S c j):=by
 rw[u9,CW hj]
 unfold one
 by_cases h:j=0
 ·rw[aA h,aA h,aA h];rfl
 ·rw[ao h,ao h,ao h]
  split<;>rfl
theorem Hg{j:Nat}(hj:j<=n):zv w j=0*one j-sm n (fun c=> -(w c)*nv n S c j):=by
 rw[CW hj]
 unfold zv
 by_cases h:j=0
 ·rw[aA h,aA h];omega
 ·rw[ao h,ao h];omega
def start(n m:Nat)(S:Nat->Nat->Bool)(w:Nat->Int):Tab where
 col:=fun c=>c
 row:=fun r=>n+r
 cell:=fun r c=>if r=m then(if c=n then 0 else -(w c))else if c=n then 1 else if S r c=true then 1 else 0
 over:=1
 s:=1
theorem zH:Good n m S w (start n m S w):=by
 refine⟨Int.one_pos,fun r hr j hj=> ?_,.inl rfl,?_,fun c c' _ _ e=>e,fun r r' _ _ e=>by have:n+r=n+r':=e;omega,fun c r hc _ e=>by have:c=n+r:=e;omega,fun c hc=>by show c<n+m;omega,fun r hr=>by show n+r<n+m;omega,fun a ha=> ?_,fun r hr=> ?_⟩
 ·show 1*rv n m S w (start n m S w) r j=(start n m S w).cell r n*one j-sm n (fun c=>(start n m S w).cell r c*nv n S c j)
  by_cases h:r<m
  ·rw[dU h]
   show 1*nv n S (n+r) j=_
   rw[Gz,Al hj]
   have e1:(start n m S w).cell r n=1:=by show(if r=m then _ else if n=n then(1:Int)else _)=1;rw[ao (by omega),aA rfl]
   rw[e1,ak n fun c hc=> ?_]
   show _=(if r=m then _ else if c=n then(1:Int)else if S r c=true then 1 else 0)*_
   rw[ao (show¬r=m by omega),ao (show¬c=n by omega)]
  ·have e:r=m:=by omega
   subst e
   rw[fQ,Gz,Hg (n:=n) (S:=S) hj]
   have e1:(start n r S w).cell r n=0:=by show(if r=r then(if n=n then(0:Int)else _)else _)=0;rw[aA rfl,aA rfl]
   rw[e1,ak n fun c hc=> ?_]
   show _=(if r=r then(if c=n then(0:Int)else -(w c))else _)*_
   rw[aA rfl,ao (show¬c=n by omega)]
 ·show(1:Int)=1*det (n+1) _
  rw[yG (n+1) _ fun i hi j hj=> ?_]; · rfl
  by_cases h:i=0
  ·subst h
   rw[yL]
   unfold one
   by_cases e:j=0
   ·rw[aA e,aA e.symm]
   ·rw[ao e,ao (lE e)]
  ·obtain⟨c,rfl⟩:∃c,i=c+1:=⟨i-1,by omega⟩
   rw[DR]
   show nv n S c j=_
   rw[j7 (by omega)]
   by_cases e:j=c+1
   ·rw[aA e,aA e.symm]
   ·rw[ao e,ao (lE e)]
 ·by_cases h:a<n
  ·exact .inl ⟨a,h,rfl⟩
  ·exact .inr ⟨a-n,by omega,by show n+(a-n)=a;omega⟩
 ·show 0<=(if r=m then _ else if n=n then(1:Int)else _)
  rw[ao (by omega),aA rfl];decide
theorem Good.bounded(G:Good n m S w T)(cov:∀p,p<n->∃k,k<m/\S k p=true){q:Nat}(hq:q<n):∃r,r<m/\0<T.cell r q:=by
 refine T5 fun no=> ?_
 have no':∀r,r<m->T.cell r q<=0:=fun r hr=>Int.not_lt.mp fun h=>no ⟨r,hr,h⟩
 have hq':q+1<=n:=hq
 have nn:∀a,a<n+m->0<=Fn n S T (q+1) (nv n S a):=fun a ha=>by
  rcases G.all a ha with⟨c,hc,e⟩|⟨r,hr,e⟩
  ·rw[<-e,wC G.dt hq' hc]
   split
   ·exact lC G.pos
   ·exact pK 0
  ·have:=G.dir (cM hr) hq
   rw[dU hr,e]at this
   rw[this]
   have:=no' r hr
   omega
 have set:∀k,Fn n S T (q+1) (nv n S (n+k))= -sm n (fun p=>(if S k p=true then 1 else 0)*Fn n S T (q+1) (nv n S p)):=fun k=>by
  rw[Hh fun j hj=>Al hj,iH hq' _ _ (fun c=>if S k c=true then 1 else 0) (fun c=>nv n S c),jq G.dt hq',ao (wJ q)]
  omega
 have low:∀p,p<n->Fn n S T (q+1) (nv n S p)=0:=fun p hp=>by
  obtain⟨k,hk,hs⟩:=cov p hp
  have a:=nn (n+k) (by omega)
  rw[set k]at a
  have:=CZ n (f:=fun p=>(if S k p=true then 1 else 0)*Fn n S T (q+1) (nv n S p)) (fun i hi=> ?_) (by omega) p hp
  ·rw[aA hs,Gz]at this
   exact this
  ·have:=nn i (by omega)
   split<;>omega
 have z:Fn n S T (q+1) (nv n S (T.col q))=0:=by
  have hc:=G.Oq q hq
  by_cases h:T.col q<n
  ·exact low _ h
  ·have e:T.col q=n+(T.col q-n):=by omega
   rw[e,set,aN n fun p hp=>by rw[low p hp,v9]];rfl
 rw[wC G.dt hq' hq,aA rfl]at z
 have:=G.pos
 omega
theorem JR(a j:Nat): -1<=nv n S a j/\nv n S a j<=1:=by
 unfold nv
 split
 ·split<;>decide
 ·split
  ·decide
  ·split<;>decide
theorem DW(i j:Nat): -1<=sO n S T i j/\sO n S T i j<=1:=by
 unfold sO
 split
 ·unfold one;split<;>decide
 ·exact JR _ _
theorem BP(G:Good n m S w T){c:Nat}{v:Vec}{B:Int}(hB:1<=B)(h:∀j,j<=n-> -B<=v j/\v j<=B): -(fct (n+1)*B)<=Fn n S T c v/\Fn n S T c v<=fct (n+1)*B:=by
 have d:=vO (n+1) (put (sO n S T) c v) c B hB (fun i _ j _ hn=>by rw[gj _ _ hn];exact DW i j) (fun j hj _=>by rw[put_same];exact h j (by omega))
 unfold Fn
 rcases G.sg with s|s
 ·rw[s,Gz];exact d
 ·rw[s];omega
theorem Good.M4(G:Good n m S w T):T.over<=fct (n+1):=by
 have d:=BP G (c:=0) (v:=sO n S T 0) (B:=1) (by decide) fun j _=>DW 0 j
 rw[K9 G.dt (cY n) (cY n),aA rfl]at d
 omega
theorem Good.KQ(G:Good n m S w T)(hw:∀p,p<n->0<=w p/\w p<=99){r c:Nat}(hr:r<=m)(hc:c<=n): -(fct (n+1)*99)<=T.cell r c/\T.cell r c<=fct (n+1)*99:=by
 have hv:∀j,j<=n-> -99<=rv n m S w T r j/\rv n m S w T r j<=99:=fun j hj=>by
  unfold rv
  split
  ·have:=JR (n:=n) (S:=S) (T.row r) j;omega
  ·unfold zv
   split
   ·decide
   ·have:=hw (j-1) (by omega);omega
 by_cases h:c=n
 ·subst h
  have d:=BP G (c:=0) (B:=99) (by decide) hv
  rw[G.base hr]at d
  exact d
 ·have d:=BP G (c:=c+1) (B:=99) (by decide) hv
  rw[G.dir hr (by omega)]at d
  omega
theorem Ku:∀{k:Nat},k<=11->fct k<=39916800
 |0,_|1,_|2,_|3,_|4,_|5,_|6,_|7,_|8,_|9,_|10,_|11,_=>by decide
def Ys(n m:Nat)(T:Tab)(a:Nat):Int:=sm n fun c=>if T.col c=a then T.cell m c else 0
def Xs(n m:Nat)(T:Tab)(a:Nat):Int:=sm m fun r=>if T.row r=a then T.cell r n else 0
theorem Good.Uz(G:Good n m S w T){c:Nat}(hc:c<n):Ys n m T (T.col c)=T.cell m c:=by
 unfold Ys
 rw[bf (j:=c) n hc fun i hi hn=>ao fun e=>hn (G.Bj i c hi hc e),aA rfl]
theorem Uy{a:Nat}(h:∀c,c<n->T.col c≠a):Ys n m T a=0:=aN n fun c hc=>ao (h c hc)
theorem Good.Pn(G:Good n m S w T){r:Nat}(hr:r<m):Xs n m T (T.row r)=T.cell r n:=by
 unfold Xs
 rw[bf (j:=r) m hr fun i hi hn=>ao fun e=>hn (G.Jk i r hi hr e),aA rfl]
theorem Pj{a:Nat}(h:∀r,r<m->T.row r≠a):Xs n m T a=0:=aN m fun r hr=>ao (h r hr)
theorem Good.Ho(G:Good n m S w T){a:Nat}(ha:a<n+m):Fn n S T 0 (nv n S a)=Xs n m T a:=by
 rcases G.all a ha with⟨c,hc,e⟩|⟨r,hr,e⟩
 ·rw[<-e,wC G.dt (cY n) hc,ao (wJ c),Pj fun r hr z=>G.dis c r hc hr z.symm]
 ·rw[<-e,G.Pn hr]
  have:=G.base (cM hr)
  rw[dU hr]at this
  exact this
theorem Good.Pk(G:Good n m S w T)(a:Nat):0<=Xs n m T a:=tK m fun r hr=>by
 have:=G.Ug r hr
 split
 ·exact this
 ·exact pK 0
theorem Oz(h:∀c,c<n->0<=T.cell m c)(a:Nat):0<=Ys n m T a:=tK n fun c hc=>by
 have:=h c hc
 split
 ·exact this
 ·exact pK 0
theorem Hi(f:Nat->Int)(a:Nat):∀b,sm (a+b) f=sm a f+sm b fun k=>f (a+k)
 |0=>by show sm a f=sm a f+0;omega
 |b+1=>by
  show sm (a+b) f+f (a+b)=_
  rw[Hi f a b]
  show _=sm a f+(sm b (fun k=>f (a+k))+f (a+b))
  omega
theorem Good.VN(G:Good n m S w T)(g:Nat->Int):sm n (fun c=>T.cell m c*g (T.col c))=sm n (fun a=>Ys n m T a*g a)+sm m (fun k=>Ys n m T (n+k)*g (n+k)):=by
 rw[<-Hi (fun a=>Ys n m T a*g a)]
 have e:∀a,Ys n m T a*g a=sm n fun c=>(if T.col c=a then T.cell m c else 0)*g a:=fun a=>by
  unfold Ys
  rw[jN,<-aK]
  exact ak n fun c _=>jN _ _
 rw[ak (n+m) fun a _=>e a,pR (fun a c=>(if T.col c=a then T.cell m c else 0)*g a)]
 refine ak n fun c hc=> ?_
 rw[bf (j:=T.col c) (n+m) (G.Oq c hc) fun a _ hn=>by rw[ao (lE hn),Tp],aA rfl]
theorem Good.total(G:Good n m S w T):sm m (fun k=>Ys n m T (n+k))=T.cell m n:=by
 have e:=G.eq m (aU m) 0 (cY n)
 rw[fQ,G.VN (fun a=>nv n S a 0),aN n fun a ha=>by rw[j7 ha,ao (by omega),v9]]at e
 have z:zv w 0=0:=rfl
 have o:one 0=1:=rfl
 rw[z,o,ak m fun k _=>show Ys n m T (n+k)*nv n S (n+k) 0=Ys n m T (n+k) by rw[u9,aA rfl,TX]]at e
 omega
theorem Good.enough(G:Good n m S w T){p:Nat}(hp:p<n):sm m (fun k=>if S k p=true then Ys n m T (n+k)else 0)=T.over*w p+Ys n m T p:=by
 have e:=G.eq m (aU m) (p+1) hp
 rw[fQ,G.VN (fun a=>nv n S a (p+1)),bf (j:=p) n hp fun a ha hn=>by rw[j7 ha,ao (by omega),v9],j7 hp,aA rfl]at e
 have z:zv w (p+1)=w p:=by unfold zv;rw[ao (wJ p)];rfl
 have o:one (p+1)=0:=ao (wJ p)
 rw[z,o,ak m fun k _=>show Ys n m T (n+k)*nv n S (n+k) (p+1)= -1*(if S k p=true then Ys n m T (n+k)else 0) by
  rw[u9,ao (wJ p),Nat.add_sub_cancel]
  split<;>omega,aK]at e
 omega
theorem Good.light(G:Good n m S w T){k:Nat}(hk:k<m):sm n (fun p=>if S k p=true then Xs n m T p else 0)<=T.over:=by
 have h:Fn n S T 0 (nv n S (n+k))=1*Fn n S T 0 one-sm n (fun p=>(if S k p=true then 1 else 0)*Fn n S T 0 (nv n S p)):=by
  rw[Hh fun j hj=>Al hj,iH (cY n) _ _ (fun c=>if S k c=true then 1 else 0) (fun c=>nv n S c)]
 rw[jq G.dt (cY n),aA rfl,G.Ho (by omega),ak n fun p hp=>show(if S k p=true then(1:Int)else 0)*Fn n S T 0 (nv n S p)=if S k p=true then Xs n m T p else 0 by
  rw[G.Ho (by omega)]
  split<;>omega]at h
 have:=G.Pk (n+k)
 omega
theorem Good.prices(G:Good n m S w T):sm n (fun p=>w p*Xs n m T p)=T.cell m n:=by
 have h:=G.base (aU m)
 rw[fQ,Hh fun j hj=>Hg (n:=n) (S:=S) hj,iH (cY n) _ _ (fun c=> -(w c)) (fun c=>nv n S c),ak n fun p hp=>show -(w p)*Fn n S T 0 (nv n S p)= -1*(w p*Xs n m T p) by rw[G.Ho (by omega)];grind,aK]at h
 omega
end
end Sx
namespace Sx
theorem pU(f:Nat->Int)(b:Nat):∀a,sm (a*b) f=sm a fun i=>sm b fun j=>f (i*b+j)
 |0=>by rw[Nat.zero_mul];rfl
 |a+1=>by
  rw[Tq,Hi,pU f b a];rfl
def jR(n:Nat)(t:Nat->Nat->Bool)(s:Nat->Bool):Prop:=∀i j,i<n->j<n->s i=true->s j=true->i≠j->t i j=false
def aY(n:Nat)(X:Nat->Int)(s:Nat->Bool):Int:=sm n fun p=>if s p=true then X p else 0
theorem zy{n:Nat}{X:Nat->Int}{s:Nat->Bool}(h:∀p,0<=X p):aY n X s<=sm n X:=fJ n fun p _=>by
 split
 ·exact pK _
 ·exact h p
theorem jW{n:Nat}{X:Nat->Int}{s:Nat->Bool}(h:∀p,0<=X p):0<=aY n X s:=tK n fun p _=>by
 split
 ·exact h p
 ·exact pK _
theorem heaviest{n:Nat}{t:Nat->Nat->Bool}{X:Nat->Int}(h:∀p,0<=X p):∀(d:Nat) (s:Nat->Bool),jR n t s->sm n X-aY n X s<=(d:Int)->∃s',jR n t s'/\∀u,jR n t u->aY n X u<=aY n X s'
 |0,s,hs,hd=>⟨s,hs,fun u _=>by have:=zy (n:=n) (s:=u) h;omega⟩
 |d+1,s,hs,hd=>by
  by_cases c:∃u,jR n t u/\aY n X s<aY n X u
  ·obtain⟨u,hu,lt⟩:=c
   exact heaviest h d u hu (by omega)
  ·exact⟨s,hs,fun u hu=>by
    rcases Int.lt_or_le (aY n X s) (aY n X u)with q|q
    ·exact absurd ⟨u,hu,q⟩ c
    ·exact q⟩
theorem heavy{n:Nat}{t:Nat->Nat->Bool}{X:Nat->Int}(h:∀p,0<=X p):∃s,jR n t s/\∀u,jR n t u->aY n X u<=aY n X s:=
 heaviest h (sm n X-aY n X fun _=>false).toNat (fun _=>false) (fun i j _ _ hi=>by cases hi) (by omega)
structure FV(n:Nat)(t:Nat->Nat->Bool)(ov Z:Int):Prop where
 pos:0<ov
 pr:∃X:Nat->Int,(∀p,0<=X p)/\(∀s,jR n t s->aY n X s<=ov)/\sm n X=Z
 up:∀(X:Nat->Int) (c:Int),(∀p,0<=X p)->(∀s,jR n t s->aY n X s<=c)->sm n X*ov<=Z*c
theorem FV.nn{n:Nat}{t:Nat->Nat->Bool}{ov Z:Int}(h:FV n t ov Z):0<=Z:=by
 obtain⟨X,h1,_,h3⟩:=h.pr
 rw[<-h3];exact tK n fun p _=>h1 p
structure gq(n1 n2:Nat)(t1 t2 t:Nat->Nat->Bool):Prop where
 one:∀i j,i<n1->j<n1->t i j=t1 i j
 two:∀i j,i<n2->j<n2->t (n1+i) (n1+j)=t2 i j
theorem pO{n1 n2:Nat}{X:Nat->Int}{s:Nat->Bool}:aY (n1+n2) X s=aY n1 X s+aY n2 (fun i=>X (n1+i)) (fun i=>s (n1+i)):=Hi _ _ _
theorem gq.left{n1 n2:Nat}{t1 t2 t:Nat->Nat->Bool}(b:gq n1 n2 t1 t2 t){s:Nat->Bool}(h:jR (n1+n2) t s):jR n1 t1 s:=fun i j hi hj a c e=>by
 rw[<-b.one i j hi hj];exact h i j (by omega) (by omega) a c e
theorem gq.right{n1 n2:Nat}{t1 t2 t:Nat->Nat->Bool}(b:gq n1 n2 t1 t2 t){s:Nat->Bool}(h:jR (n1+n2) t s):jR n2 t2 fun i=>s (n1+i):=fun i j hi hj a c e=>by
 rw[<-b.two i j hi hj];exact h (n1+i) (n1+j) (by omega) (by omega) a c (by omega)
def cat(n1:Nat){α:Type}(f g:Nat->α)(p:Nat):α:=if p<n1 then f p else g (p-n1)
theorem jP{n1:Nat}{α:Type}{f g:Nat->α}{p:Nat}(h:p<n1):cat n1 f g p=f p:=aA h
theorem mJ{n1:Nat}{α:Type}{f g:Nat->α}{p:Nat}:cat n1 f g (n1+p)=g p:=by unfold cat;rw[ao (by omega),wec]
theorem Bo{n1:Nat}{f g:Nat->Int}(hf:∀p,0<=f p)(hg:∀p,0<=g p)(p:Nat):0<=cat n1 f g p:=by
 unfold cat
 split
 ·exact hf p
 ·exact hg _
theorem zN{n1 n2:Nat}{f g:Nat->Int}:sm (n1+n2) (cat n1 f g)=sm n1 f+sm n2 g:=by
 rw[Hi]
 have e1:sm n1 (cat n1 f g)=sm n1 f:=ak n1 fun p hp=>jP hp
 have e2:(sm n2 fun p=>cat n1 f g (n1+p))=sm n2 g:=ak n2 fun p _=>mJ
 rw[e1,e2]
theorem uD{n1 n2:Nat}{f g:Nat->Int}{s:Nat->Bool}:aY (n1+n2) (cat n1 f g) s=aY n1 f s+aY n2 g fun i=>s (n1+i):=by
 rw[pO]
 unfold aY
 have e1:(sm n1 fun p=>if s p=true then cat n1 f g p else 0)=sm n1 fun p=>if s p=true then f p else 0:=ak n1 fun p hp=>by rw[jP hp]
 have e2:(sm n2 fun p=>if s (n1+p)=true then cat n1 f g (n1+p)else 0)=sm n2 fun p=>if s (n1+p)=true then g p else 0:=ak n2 fun p _=>by rw[mJ]
 show(sm n1 fun p=>if s p=true then cat n1 f g p else 0)+(sm n2 fun p=>if s (n1+p)=true then cat n1 f g (n1+p)else 0)=_
 rw[e1,e2]
theorem BJ{n1 n2:Nat}{t1 t2 t:Nat->Nat->Bool}{o1 Z1 o2 Z2 o Z:Int}(b:gq n1 n2 t1 t2 t)(x:∀i j,i<n1->j<n2->t i (n1+j)=true)(h1:FV n1 t1 o1 Z1)(h2:FV n2 t2 o2 Z2)(h:FV (n1+n2) t o Z):Z*(o1*o2)=(Z1*o2+Z2*o1)*o:=by
 have p1:=h1.pos
 have p2:=h2.pos
 have p:=h.pos
 refine QF ?_ ?_
 ·obtain⟨X,a1,a2,a3⟩:=h.pr
  have u1:=h1.up X o a1 fun s hs=>by
   have:=a2 (cat n1 s fun _=>false) fun i j hi hj c d e=>by
    rcases QB i n1 with q|q
    ·rcases QB j n1 with q2|q2
     ·rw[jP q]at c;rw[jP q2]at d
      rw[b.one i j q q2];exact hs i j q q2 c d e
     ·obtain⟨j',rfl⟩:=QS q2
      rw[mJ]at d;cases d
    ·obtain⟨i',rfl⟩:=QS q
     rw[mJ]at c;cases c
   rw[pO]at this
   have e1:aY n1 X (cat n1 s fun _=>false)=aY n1 X s:=ak n1 fun p hp=>by rw[jP hp]
   have e2:=jW (n:=n2) (s:=fun i=>cat n1 s (fun _=>false) (n1+i)) fun i=>a1 (n1+i)
   omega
  have u2:=h2.up (fun i=>X (n1+i)) o (fun i=>a1 _) fun s hs=>by
   have:=a2 (cat n1 (fun _=>false) s) fun i j hi hj c d e=>by
    rcases QB i n1 with q|q
    ·rw[jP q]at c;cases c
    ·obtain⟨i',rfl⟩:=QS q
     rcases QB j n1 with q2|q2
     ·rw[jP q2]at d;cases d
     ·obtain⟨j',rfl⟩:=QS q2
      rw[mJ]at c d
      rw[b.two i' j' (by omega) (by omega)];exact hs i' j' (by omega) (by omega) c d (by omega)
   rw[pO]at this
   have e1:aY n2 (fun i=>X (n1+i)) (fun i=>cat n1 (fun _=>false) s (n1+i))=aY n2 (fun i=>X (n1+i)) s:=ak n2 fun p _=>by show(if cat n1 (fun _=>false) s (n1+p)=true then X (n1+p)else 0)=_;rw[mJ]
   have e2:=jW (n:=n1) (s:=cat n1 (fun _=>false) s) a1
   omega
  rw[Hi]at a3
  have m1:=zu u1 (lC p2)
  have m2:=zu u2 (lC p1)
  rw[<-a3]
  generalize sm n1 X=x1 at *
  generalize sm n2 (fun i=>X (n1+i))=x2 at *
  have e1:(x1+x2)*(o1*o2)=x1*o1*o2+x2*o2*o1:=by grind
  have e2:(Z1*o2+Z2*o1)*o=Z1*o*o2+Z2*o*o1:=by grind
  rw[e1,e2];omega
 ·obtain⟨X1,a1,a2,a3⟩:=h1.pr
  obtain⟨X2,b1,b2,b3⟩:=h2.pr
  have:=h.up (cat n1 (fun p=>o2*X1 p) fun p=>o1*X2 p) (o1*o2) (Bo (fun p=>pq (lC p2) (a1 p)) fun p=>pq (lC p1) (b1 p)) fun s hs=>by
   rw[uD]
   have e1:aY n1 (fun p=>o2*X1 p) s=o2*aY n1 X1 s:=by
    unfold aY;rw[<-aK];exact ak n1 fun p _=>by split<;>simp
   have e2:aY n2 (fun p=>o1*X2 p) (fun i=>s (n1+i))=o1*aY n2 X2 fun i=>s (n1+i):=by
    unfold aY;rw[<-aK];exact ak n2 fun p _=>by split<;>simp
   rw[e1,e2]
   by_cases c:∃i,i<n1/\s i=true
   ·obtain⟨i,hi,si⟩:=c
    have z:(aY n2 X2 fun i=>s (n1+i))=0:=aN n2 fun j hj=>by
     refine ao fun sj=> ?_
     have:=hs i (n1+j) (by omega) (by omega) si sj (by omega)
     rw[x i j hi hj]at this;cases this
    rw[z]
    have:=pA (a2 s (b.left hs)) (lC p2)
    rw[jN o1 o2];omega
   ·have z:aY n1 X1 s=0:=aN n1 fun j hj=>ao fun sj=>c ⟨j,hj,sj⟩
    rw[z]
    have:=pA (b2 _ (b.right hs)) (lC p1)
    omega
  rw[zN,aK,aK,a3,b3,jN o2,jN o1 Z2]at this
  exact this
theorem Bv{n1 n2:Nat}{t1 t2 t:Nat->Nat->Bool}{o1 Z1 o2 Z2 o Z:Int}(b:gq n1 n2 t1 t2 t)(x:∀i j,i<n1->j<n2->t i (n1+j)=false/\t (n1+j) i=false)(h1:FV n1 t1 o1 Z1)(h2:FV n2 t2 o2 Z2)(h:FV (n1+n2) t o Z):
  Z1*o<=Z*o1/\Z2*o<=Z*o2/\(Z1*o2<=Z2*o1->Z*o2<=Z2*o)/\(Z2*o1<=Z1*o2->Z*o1<=Z1*o):=by
 have p1:=h1.pos
 have p2:=h2.pos
 have p:=h.pos
 have l1:Z1*o<=Z*o1:=by
  obtain⟨X1,a1,a2,a3⟩:=h1.pr
  have:=h.up (cat n1 X1 fun _=>0) o1 (Bo a1 fun _=>pK _) fun s hs=>by
   rw[uD]
   have z:(aY n2 (fun _=>0) fun i=>s (n1+i))=0:=aN n2 fun j _=>by split<;>rfl
   have:=a2 s (b.left hs)
   omega
  rw[zN,a3,aN n2 fun _ _=>rfl,Zu]at this
  exact this
 have l2:Z2*o<=Z*o2:=by
  obtain⟨X2,a1,a2,a3⟩:=h2.pr
  have:=h.up (cat n1 (fun _=>0) X2) o2 (Bo (fun _=>pK _) a1) fun s hs=>by
   rw[uD]
   have z:aY n1 (fun _=>0) s=0:=aN n1 fun j _=>by split<;>rfl
   have:=a2 _ (b.right hs)
   omega
  rw[zN,a3,aN n1 fun _ _=>rfl,Vb]at this
  exact this
 have key:∃w1 w2 x1 x2:Int,0<=w1/\0<=w2/\w1+w2<=o/\x1+x2=Z/\x1*o1<=Z1*w1/\x2*o2<=Z2*w2:=by
  obtain⟨X,a1,a2,a3⟩:=h.pr
  obtain⟨s1,c1,d1⟩:=heavy (n:=n1) (t:=t1) a1
  obtain⟨s2,c2,d2⟩:=heavy (n:=n2) (t:=t2) (X:=fun i=>X (n1+i)) fun i=>a1 _
  refine⟨aY n1 X s1,aY n2 (fun i=>X (n1+i)) s2,sm n1 X,sm n2 fun i=>X (n1+i),jW a1,jW fun i=>a1 _,?_,by rw[<-a3,Hi],h1.up X _ a1 d1,h2.up _ _ (fun i=>a1 _) d2⟩
  have:=a2 (cat n1 s1 s2) fun i j hi hj c d e=>by
   rcases QB i n1 with q|q
   ·rw[jP q]at c
    rcases QB j n1 with q2|q2
    ·rw[jP q2]at d
     rw[b.one i j q q2];exact c1 i j q q2 c d e
    ·obtain⟨j',rfl⟩:=QS q2
     exact(x i j' q (by omega)).1
   ·obtain⟨i',rfl⟩:=QS q
    rw[mJ]at c
    rcases QB j n1 with q2|q2
    ·exact(x j i' q2 (by omega)).2
    ·obtain⟨j',rfl⟩:=QS q2
     rw[mJ]at d
     rw[b.two i' j' (by omega) (by omega)];exact c2 i' j' (by omega) (by omega) c d (by omega)
  rw[pO]at this
  have e1:aY n1 X (cat n1 s1 s2)=aY n1 X s1:=ak n1 fun p hp=>by rw[jP hp]
  have e2:aY n2 (fun i=>X (n1+i)) (fun i=>cat n1 s1 s2 (n1+i))=aY n2 (fun i=>X (n1+i)) s2:=ak n2 fun p _=>by show(if cat n1 s1 s2 (n1+p)=true then X (n1+p)else 0)=_;rw[mJ]
  rw[e1,e2]at this
  exact this
 obtain⟨w1,w2,x1,x2,w10,w20,hw,hx,u1,u2⟩:=key
 refine⟨l1,l2,fun c=> ?_,fun c=> ?_⟩
 ·refine Tw (a:=o1) ?_ p1
  have m1:=zu u1 (lC p2)
  have m2:=zu u2 (lC p1)
  have m3:=zu c w10
  have m4:=pA hw (pq h2.nn (lC p1))
  rw[<-hx]
  have e1:(x1+x2)*o2*o1=x1*o1*o2+x2*o2*o1:=by grind
  have e2:Z2*o*o1=Z2*o1*o:=by grind
  have e3:Z1*w1*o2=Z1*o2*w1:=by grind
  have e4:Z2*w2*o1=Z2*o1*w2:=by grind
  have e5:Z2*o1*(w1+w2)=Z2*o1*w1+Z2*o1*w2:=by grind
  rw[e1,e2];omega
 ·refine Tw (a:=o2) ?_ p2
  have m1:=zu u1 (lC p2)
  have m2:=zu u2 (lC p1)
  have m3:=zu c w20
  have m4:=pA hw (pq h1.nn (lC p2))
  rw[<-hx]
  have e1:(x1+x2)*o1*o2=x1*o1*o2+x2*o2*o1:=by grind
  have e2:Z1*o*o2=Z1*o2*o:=by grind
  have e3:Z1*w1*o2=Z1*o2*w1:=by grind
  have e4:Z2*w2*o1=Z2*o1*w2:=by grind
  have e5:Z1*o2*(w1+w2)=Z1*o2*w1+Z1*o2*w2:=by grind
  rw[e1,e2];omega
structure Within(n1 n2:Nat)(t1 t2 t:Nat->Nat->Bool):Prop where
 same:∀i j j',i<n1->j<n2->j'<n2->t (i*n2+j) (i*n2+j')=t2 j j'
 other:∀i i' j j',i<n1->i'<n1->i≠i'->j<n2->j'<n2->t (i*n2+j) (i'*n2+j')=t1 i i'
theorem uo{n1 n2 i j:Nat}(hi:i<n1)(hj:j<n2):i*n2+j<n1*n2:=by
 have:(i+1)*n2<=n1*n2:=Nat.mul_le_mul_right n2 hi
 rw[Tq]at this;omega
theorem Xq{n2 i i' j j':Nat}(hj:j<n2)(hj':j'<n2)(e:i*n2+j=i'*n2+j'):i=i'/\j=j':=by
 have d1:(i*n2+j)/n2=i:=by rw[Lj,Zv (by omega),ZC hj,Zr]
 have d2:(i'*n2+j')/n2=i':=by rw[Lj,Zv (by omega),ZC hj',Zr]
 have:i=i':=by rw[<-d1,<-d2,e]
 subst this
 exact⟨rfl,by omega⟩
theorem jl{n2 i j:Nat}(hj:j<n2):(i*n2+j)/n2=i/\(i*n2+j) %n2=j:=by
 refine⟨by rw[Lj,Zv (by omega),ZC hj,Zr],?_⟩
 rw[Lj,Nat.mul_add_mod,Nat.mod_eq_of_lt hj]
theorem wM{n1 n2:Nat}{X:Nat->Int}{s:Nat->Bool}:aY (n1*n2) X s=sm n1 fun i=>aY n2 (fun j=>X (i*n2+j)) fun j=>s (i*n2+j):=pU _ _ _
open Classical in
theorem zx{n1 n2:Nat}{t1 t2 t:Nat->Nat->Bool}{o1 Z1 o2 Z2 o Z:Int}(b:Within n1 n2 t1 t2 t)(h1:FV n1 t1 o1 Z1)(h2:FV n2 t2 o2 Z2)(h:FV (n1*n2) t o Z):Z*(o1*o2)=Z1*Z2*o:=by
 have p1:=h1.pos
 have p2:=h2.pos
 have p:=h.pos
 refine QF ?_ ?_
 ·obtain⟨X,a1,a2,a3⟩:=h.pr
  have ch:∀i,∃s,jR n2 t2 s/\∀u,jR n2 t2 u->aY n2 (fun j=>X (i*n2+j)) u<=aY n2 (fun j=>X (i*n2+j)) s:=fun i=>heavy fun j=>a1 _
  let S:Nat->Nat->Bool:=fun i=>Classical.choose (ch i)
  have hS:∀i,jR n2 t2 (S i)/\∀u,jR n2 t2 u->aY n2 (fun j=>X (i*n2+j)) u<=aY n2 (fun j=>X (i*n2+j)) (S i):=fun i=>Classical.choose_spec (ch i)
  let w:Nat->Int:=fun i=>aY n2 (fun j=>X (i*n2+j)) (S i)
  have wn:∀i,0<=w i:=fun i=>jW fun j=>a1 _
  have u1:=h1.up w o wn fun I hI=>by
   have:=a2 (fun q=>I (q/n2)&&S (q/n2) (q %n2)) fun q q' hq hq' c d e=>by
    have n20:0<n2:=by
     rcases U0 n2 with z|z
     ·rw[z,Nat.mul_zero]at hq;omega
     ·exact z
    have r1:=Ym q n20
    have r2:=Ym q' n20
    have g1:q/n2<n1:=Nat.div_lt_of_lt_mul (by rw[Lj];exact hq)
    have g2:q'/n2<n1:=Nat.div_lt_of_lt_mul (by rw[Lj];exact hq')
    have k1:q=q/n2*n2+q %n2:=by rw[Lj];exact(Nat.div_add_mod q n2).symm
    have k2:q'=q'/n2*n2+q' %n2:=by rw[Lj];exact(Nat.div_add_mod q' n2).symm
    rw[qm]at c d
    by_cases ei:q/n2=q'/n2
    ·rw[k1,k2,ei,b.same _ _ _ g2 r1 r2]
     refine(hS (q'/n2)).1 _ _ r1 r2 (by rw[<-ei];exact c.2) d.2 fun z=>e ?_
     rw[k1,k2,ei,z]
    ·rw[k1,k2,b.other _ _ _ _ g1 g2 ei r1 r2]
     exact hI _ _ g1 g2 c.1 d.1 ei
   rw[wM]at this
   refine Lz (Tn ?_) this
   refine ak n1 fun i _=> ?_
   cases e:I i with
   |true=>
    rw[aA rfl]
    refine ak n2 fun j hj=> ?_
    show(if S i j=true then X (i*n2+j)else 0)=if(I ((i*n2+j)/n2)&&S ((i*n2+j)/n2) ((i*n2+j) %n2))=true then X (i*n2+j)else 0
    rw[(jl hj).1,(jl hj).2,e,Bool.true_and]
   |false=>
    rw[ao (by decide)]
    refine(aN n2 fun j hj=> ?_).symm
    show(if(I ((i*n2+j)/n2)&&S ((i*n2+j)/n2) ((i*n2+j) %n2))=true then X (i*n2+j)else 0)=0
    rw[(jl hj).1,e,Yv,ao (by decide)]
  have u2:Z*o2<=Z2*sm n1 w:=by
   rw[<-a3,pU,<-aK,jN,<-aK]
   refine fJ n1 fun i _=> ?_
   have:=h2.up (fun j=>X (i*n2+j)) (w i) (fun j=>a1 _) (hS i).2
   rw[jN o2];exact this
  have m1:=zu u2 (lC p1)
  have m2:=pA u1 h2.nn
  have e1:Z*(o1*o2)=Z*o2*o1:=by grind
  have e2:Z2*sm n1 w*o1=Z2*(sm n1 w*o1):=by grind
  have e3:Z1*Z2*o=Z2*(Z1*o):=by grind
  rw[e1,e3];omega
 ·obtain⟨X1,a1,a2,a3⟩:=h1.pr
  obtain⟨X2,b1,b2,b3⟩:=h2.pr
  have:=h.up (fun q=>X1 (q/n2)*X2 (q %n2)) (o1*o2) (fun q=>pq (a1 _) (b1 _)) fun s hs=>by
   rw[wM]
   have step:∀i,i<n1->(aY n2 (fun j=>X1 ((i*n2+j)/n2)*X2 ((i*n2+j) %n2)) fun j=>s (i*n2+j))<=o2*(if decide (∃j,j<n2/\s (i*n2+j)=true)=true then X1 i else 0):=fun i hi=>by
    have e:(aY n2 (fun j=>X1 ((i*n2+j)/n2)*X2 ((i*n2+j) %n2)) fun j=>s (i*n2+j))=X1 i*aY n2 X2 fun j=>s (i*n2+j):=by
     unfold aY
     rw[<-aK]
     refine ak n2 fun j hj=> ?_
     show(if s (i*n2+j)=true then X1 ((i*n2+j)/n2)*X2 ((i*n2+j) %n2)else 0)=X1 i*(if s (i*n2+j)=true then X2 j else 0)
     rw[(jl hj).1,(jl hj).2]
     split<;>simp
    rw[e]
    by_cases c:∃j,j<n2/\s (i*n2+j)=true
    ·rw[aA (cI c),jN o2]
     refine pA (b2 _ fun j j' hj hj' u v e=> ?_) (a1 i)
     rw[<-b.same i j j' hi hj hj']
     exact hs _ _ (uo hi hj) (uo hi hj') u v (by omega)
    ·rw[ao (by rw[wz];exact c)]
     have z:(aY n2 X2 fun j=>s (i*n2+j))=0:=aN n2 fun j hj=>ao fun u=>c ⟨j,hj,u⟩
     rw[z];simp
   refine Lz (fJ n1 step) ?_
   rw[aK,jN o1]
   refine pA ?_ (lC p2)
   refine a2 (fun i=>decide (∃j,j<n2/\s (i*n2+j)=true)) fun i i' hi hi' u v e=> ?_
   obtain⟨j,hj,sj⟩:=eY u
   obtain⟨j',hj',sj'⟩:=eY v
   rw[<-b.other i i' j j' hi hi' e hj hj']
   exact hs _ _ (uo hi hj) (uo hi' hj') sj sj' fun z=>e (Xq hj hj' z).1
  have tot:sm (n1*n2) (fun q=>X1 (q/n2)*X2 (q %n2))=Z1*Z2:=by
   rw[pU]
   have e:∀i,i<n1->(sm n2 fun j=>X1 ((i*n2+j)/n2)*X2 ((i*n2+j) %n2))=Z2*X1 i:=fun i _=>by
    have:(sm n2 fun j=>X1 ((i*n2+j)/n2)*X2 ((i*n2+j) %n2))=sm n2 fun j=>X1 i*X2 j:=ak n2 fun j hj=>by rw[(jl hj).1,(jl hj).2]
    rw[this,aK,b3,jN]
   rw[ak n1 e,aK,a3,jN]
  rw[tot]at this
  exact this
def rR(n:Nat)(t:Nat->Nat->Bool)(ov Z:Int):Prop:=∃(m:Nat) (S:Nat->Nat->Bool) (Y:Nat->Int),(∀k,0<=Y k)/\(∀k,k<m->jR n t (S k))/\sm m Y=Z/\∀p,p<n->ov<=sm m fun k=>if S k p=true then Y k else 0
structure yP(n:Nat)(t t':Nat->Nat->Bool):Prop where
 Qj:∀i,i<n->t i i=false
 sym:∀i j,i<n->j<n->t i j=t j i
 vv:∀i j,i<n->j<n->t' i j=t i j
 vu:∀i j,i<n->j<n->t' i (n+j)=t i j/\t' (n+j) i=t i j
 uu:∀i j,i<n->j<n->t' (n+i) (n+j)=false
 ur:∀i,i<n->t' (n+i) (2*n)=true/\t' (2*n) (n+i)=true
 vr:∀i,i<n->t' i (2*n)=false/\t' (2*n) i=false
def tri(n:Nat){α:Type}(f g:Nat->α)(r:α)(p:Nat):α:=if p<n then f p else if p<2*n then g (p-n)else r
theorem sY{n:Nat}{α:Type}{f g:Nat->α}{r:α}{p:Nat}(h:p<n):tri n f g r p=f p:=aA h
theorem sZ{n:Nat}{α:Type}{f g:Nat->α}{r:α}{p:Nat}(h:p<n):tri n f g r (n+p)=g p:=by unfold tri;rw[ao (by omega),aA (by omega),wec]
theorem wO{n:Nat}{α:Type}{f g:Nat->α}{r:α}:tri n f g r (2*n)=r:=by unfold tri;rw[ao (by omega),ao (by omega)]
theorem uM{n:Nat}(f:Nat->Int):sm (2*n+1) f=sm n f+(sm n fun i=>f (n+i))+f (2*n):=by
 show sm (2*n) f+f (2*n)=_
 have e:2*n=n+n:=by omega
 have:sm (2*n) f=sm n f+sm n fun i=>f (n+i):=by rw[e,Hi]
 rw[this]
theorem vU{n p:Nat}(h:p<2*n+1):p<n\/(∃i,i<n/\p=n+i)\/p=2*n:=by
 by_cases c:p<n
 ·exact .inl c
 ·by_cases d:p<2*n
  ·exact .inr (.inl ⟨p-n,by omega,by omega⟩)
  ·exact .inr (.inr (by omega))
theorem yP.apt{n:Nat}{t t':Nat->Nat->Bool}(g:yP n t t'){a c:Nat->Bool}{r:Bool}(h1:jR n t a)(h2:∀i j,i<n->j<n->a i=true->c j=true->t i j=false)(h3:r=true->∀i,i<n->c i=false):jR (2*n+1) t' (tri n a c r):=fun p q hp hq u v e=>by
 rcases vU hp with x|⟨i,x,rfl⟩|rfl
 ·rw[sY x]at u
  rcases vU hq with y|⟨j,y,rfl⟩|rfl
  ·rw[sY y]at v;rw[g.vv p q x y];exact h1 p q x y u v e
  ·rw[sZ y]at v;rw[(g.vu p j x y).1];exact h2 p j x y u v
  ·exact(g.vr p x).1
 ·rw[sZ x]at u
  rcases vU hq with y|⟨j,y,rfl⟩|rfl
  ·rw[sY y]at v;rw[(g.vu q i y x).2];exact h2 q i y x v u
  ·exact g.uu i j x y
  ·rw[wO]at v;rw[h3 v i x]at u;cases u
 ·rw[wO]at u
  rcases vU hq with y|⟨j,y,rfl⟩|rfl
  ·exact(g.vr q y).2
  ·rw[sZ y]at v;rw[h3 u j y]at v;cases v
  ·exact absurd rfl e
theorem uz{n:Nat}{X:Nat->Int}{a c:Nat->Bool}{r:Bool}:aY (2*n+1) X (tri n a c r)=aY n X a+aY n (fun i=>X (n+i)) c+if r=true then X (2*n)else 0:=by
 unfold aY
 rw[uM]
 have e1:(sm n fun p=>if tri n a c r p=true then X p else 0)=sm n fun p=>if a p=true then X p else 0:=ak n fun p hp=>by rw[sY hp]
 have e2:(sm n fun p=>if tri n a c r (n+p)=true then X (n+p)else 0)=sm n fun p=>if c p=true then X (n+p)else 0:=ak n fun p hp=>by rw[sZ hp]
 rw[e1,e2,wO]
theorem nT{n m:Nat}{S:Nat->Nat->Bool}{Y x:Nat->Int}{ov:Int}(hx:∀p,0<=x p)(hc:∀p,p<n->ov<=sm m fun k=>if S k p=true then Y k else 0):ov*sm n x<=sm m fun k=>Y k*aY n x (S k):=by
 have e:(sm m fun k=>Y k*aY n x (S k))=sm n fun p=>x p*sm m fun k=>if S k p=true then Y k else 0:=by
  have e1:(sm m fun k=>Y k*aY n x (S k))=sm m fun k=>sm n fun p=>if S k p=true then Y k*x p else 0:=ak m fun k _=>by
   unfold aY
   rw[<-aK]
   exact ak n fun p _=>by split<;>simp
  have e2:(sm n fun p=>x p*sm m fun k=>if S k p=true then Y k else 0)=sm n fun p=>sm m fun k=>if S k p=true then Y k*x p else 0:=ak n fun p _=>by
   rw[<-aK]
   exact ak m fun k _=>by
    split
    ·exact jN _ _
    ·exact v9 _
  rw[e1,e2,pR]
 rw[e,<-aK]
 refine fJ n fun p hp=> ?_
 rw[jN]
 exact pA (hc p hp) (hx p)
theorem FV.one_le{n:Nat}{t:Nat->Nat->Bool}{ov Z:Int}(h:FV n t ov Z)(hn:0<n):ov<=Z:=by
 have:=h.up (fun p=>if p=0 then 1 else 0) 1 (fun p=>by split<;>decide) fun s _=>by
  refine Lz (zy fun p=>by split<;>decide) ?_
  rw[bf (j:=0) n hn fun i _ hi=>ao hi]
  decide
 rw[bf (j:=0) n hn fun i _ hi=>ao hi,aA rfl]at this
 omega
theorem Ge{n:Nat}{t t':Nat->Nat->Bool}{o1 Z1 o Z:Int}(g:yP n t t')(hn:0<n)(h1:FV n t o1 Z1)(c1:rR n t o1 Z1)(h:FV (2*n+1) t' o Z):Z*(Z1*o1)=(Z1*Z1+o1*o1)*o:=by
 have p1:=h1.pos
 have p:=h.pos
 have v1:=h1.one_le hn
 refine QF ?_ ?_
 ·obtain⟨X,a1,a2,a3⟩:=h.pr
  obtain⟨m,S,Y,y1,y2,y3,y4⟩:=c1
  have q1:(sm m fun k=>Y k*aY n X (S k))+Z1*X (2*n)<=Z1*o:=by
   have:(sm m fun k=>Y k*(aY n X (S k)+X (2*n)))<=sm m fun k=>Y k*o:=fJ m fun k hk=>by
    refine pA ?_ (y1 k)
    have:=a2 _ (g.apt (c:=fun _=>false) (r:=true) (y2 k hk) (fun i j _ _ _ u=>by cases u) fun _ _ _=>rfl)
    rw[uz,aA rfl]at this
    have z:aY n (fun i=>X (n+i)) (fun _=>false)=0:=aN n fun i _=>ao sW
    omega
   have e1:(sm m fun k=>Y k*(aY n X (S k)+X (2*n)))=(sm m fun k=>Y k*aY n X (S k))+Z1*X (2*n):=by
    rw[<-y3,jN,<-aK,<-cN]
    exact ak m fun k _=>by grind
   have e2:(sm m fun k=>Y k*o)=Z1*o:=by
    rw[<-y3,jN,<-aK]
    exact ak m fun k _=>jN _ _
   rw[e1,e2]at this;exact this
  have q2:(sm m fun k=>Y k*aY n X (S k))+(sm m fun k=>Y k*aY n (fun i=>X (n+i)) (S k))<=Z1*o:=by
   have:(sm m fun k=>Y k*(aY n X (S k)+aY n (fun i=>X (n+i)) (S k)))<=sm m fun k=>Y k*o:=fJ m fun k hk=>by
    refine pA ?_ (y1 k)
    have:=a2 _ (g.apt (c:=S k) (r:=false) (y2 k hk) (fun i j hi hj u v=>by
     by_cases e:i=j
     ·rw[e];exact g.Qj j hj
     ·exact y2 k hk i j hi hj u v e) fun u=>by cases u)
    rw[uz,ao (by decide)]at this
    omega
   have e1:(sm m fun k=>Y k*(aY n X (S k)+aY n (fun i=>X (n+i)) (S k)))=(sm m fun k=>Y k*aY n X (S k))+sm m fun k=>Y k*aY n (fun i=>X (n+i)) (S k):=by
    rw[<-cN]
    exact ak m fun k _=>by grind
   have e2:(sm m fun k=>Y k*o)=Z1*o:=by
    rw[<-y3,jN,<-aK]
    exact ak m fun k _=>jN _ _
   rw[e1,e2]at this;exact this
  have q3:(sm n fun i=>X (n+i))<=o:=by
   have:=a2 _ (g.apt (a:=fun _=>false) (c:=fun _=>true) (r:=false) (fun i j _ _ u=>by cases u) (fun i j _ _ u=>by cases u) fun u=>by cases u)
   rw[uz,ao (by decide)]at this
   have z:aY n X (fun _=>false)=0:=aN n fun i _=>ao sW
   have z2:aY n (fun i=>X (n+i)) (fun _=>true)=sm n fun i=>X (n+i):=ak n fun i _=>aA rfl
   omega
  have r1:=nT a1 y4
  have r2:=nT (x:=fun i=>X (n+i)) (fun i=>a1 _) y4
  rw[uM]at a3
  rw[<-a3]
  generalize (sm m fun k=>Y k*aY n X (S k))=A at *
  generalize (sm m fun k=>Y k*aY n (fun i=>X (n+i)) (S k))=B at *
  generalize sm n X=x at *
  generalize (sm n fun i=>X (n+i))=y at *
  generalize X (2*n)=z at *
  have m1:=pA q1 (lC p1)
  have m2:=pA q2 (show 0<=Z1-o1 by omega)
  have m3:=pA q3 (pq (lC p1) (lC p1))
  have m4:=pA r1 h1.nn
  have m5:=pA r2 (show 0<=Z1-o1 by omega)
  grind
 ·obtain⟨f,a1,a2,a3⟩:=h1.pr
  have:=h.up (tri n (fun i=>(Z1-o1)*f i) (fun i=>o1*f i) (o1*o1)) (Z1*o1) (fun p=>by
   unfold tri
   split
   ·exact pq (by omega) (a1 _)
   ·split
    ·exact pq (by omega) (a1 _)
    ·exact pq (by omega) (by omega)) fun s hs=>by
   have sA:jR n t s:=fun i j hi hj u v e=>by rw[<-g.vv i j hi hj];exact hs i j (by omega) (by omega) u v e
   have sAC:∀i j,i<n->j<n->s i=true->s (n+j)=true->t i j=false:=fun i j hi hj u v=>by
    rw[<-(g.vu i j hi hj).1];exact hs i (n+j) (by omega) (by omega) u v (by omega)
   have ew:aY (2*n+1) (tri n (fun i=>(Z1-o1)*f i) (fun i=>o1*f i) (o1*o1)) s=(Z1-o1)*aY n f s+o1*(aY n f fun i=>s (n+i))+if s (2*n)=true then o1*o1 else 0:=by
    unfold aY
    rw[uM,<-aK,<-aK,wO]
    have e1:(sm n fun p=>if s p=true then tri n (fun i=>(Z1-o1)*f i) (fun i=>o1*f i) (o1*o1) p else 0)=sm n fun p=>(Z1-o1)*if s p=true then f p else 0:=ak n fun p hp=>by rw[sY hp];split<;>simp
    have e2:(sm n fun p=>if s (n+p)=true then tri n (fun i=>(Z1-o1)*f i) (fun i=>o1*f i) (o1*o1) (n+p)else 0)=sm n fun p=>o1*if s (n+p)=true then f p else 0:=ak n fun p hp=>by rw[sZ hp];split<;>simp
    rw[e1,e2]
   rw[ew]
   have wa:=a2 s sA
   have wa0:=jW (n:=n) (s:=s) a1
   by_cases c:s (2*n)=true
   ·rw[aA c]
    have z:(aY n f fun i=>s (n+i))=0:=aN n fun i hi=>ao fun u=>by
     have:=hs (n+i) (2*n) (by omega) (by omega) u c (by omega)
     rw[(g.ur i hi).1]at this;cases this
    rw[z]
    have:=pA wa (show 0<=Z1-o1 by omega)
    grind
   ·rw[ao c]
    have up:=h1.up (fun p=>if(s (n+p)&& !s p)=true then f p else 0) (o1-aY n f s) (fun p=>by
     split
     ·exact a1 p
     ·exact pK _) fun u hu=>by
     have:=a2 (fun p=>s p||(u p&&(s (n+p)&& !s p))) fun i j hi hj a b e=>by
      simp only[QV,qm]at a b
      rcases a with a|a<;>rcases b with b|b
      ·exact sA i j hi hj a b e
      ·exact sAC i j hi hj a b.2.1
      ·rw[g.sym i j hi hj];exact sAC j i hj hi b a.2.1
      ·exact hu i j hi hj a.1 b.1 e
     have e:(aY n f fun p=>s p||(u p&&(s (n+p)&& !s p)))=aY n f s+aY n (fun p=>if(s (n+p)&& !s p)=true then f p else 0) u:=by
      unfold aY
      rw[<-cN]
      refine ak n fun p _=> ?_
      show(if(s p||(u p&&(s (n+p)&& !s p)))=true then f p else 0)=(if s p=true then f p else 0)+(if u p=true then(if(s (n+p)&& !s p)=true then f p else 0)else 0)
      generalize s p=x
      generalize u p=y
      generalize s (n+p)=z
      cases x<;>cases y<;>cases z<;>simp
     omega
    have wb:(aY n f fun i=>s (n+i))<=aY n f s+sm n fun p=>if(s (n+p)&& !s p)=true then f p else 0:=by
     unfold aY
     rw[<-cN]
     refine fJ n fun p _=> ?_
     have:=a1 p
     show(if s (n+p)=true then f p else 0)<=(if s p=true then f p else 0)+(if(s (n+p)&& !s p)=true then f p else 0)
     generalize s p=x
     generalize s (n+p)=z
     cases x<;>cases z<;>simp <;>omega
    have m1:=pA wb (lC p1)
    grind
  have tot:sm (2*n+1) (tri n (fun i=>(Z1-o1)*f i) (fun i=>o1*f i) (o1*o1))=(Z1-o1)*Z1+o1*Z1+o1*o1:=by
   rw[uM,wO]
   have e1:sm n (tri n (fun i=>(Z1-o1)*f i) (fun i=>o1*f i) (o1*o1))=sm n fun i=>(Z1-o1)*f i:=ak n fun p hp=>sY hp
   have e2:(sm n fun p=>tri n (fun i=>(Z1-o1)*f i) (fun i=>o1*f i) (o1*o1) (n+p))=sm n fun i=>o1*f i:=ak n fun p hp=>sZ hp
   rw[e1,e2,aK,aK,a3]
  rw[tot]at this
  grind
theorem FV.cov{n:Nat}{t:Nat->Nat->Bool}{o Z d C:Int}(h:FV n t o Z)(c:rR n t d C):Z*d<=C*o:=by
 obtain⟨X,a1,a2,a3⟩:=h.pr
 obtain⟨m,S,Y,y1,y2,y3,y4⟩:=c
 have r:=nT a1 y4
 have:(sm m fun k=>Y k*aY n X (S k))<=sm m fun k=>o*Y k:=fJ m fun k hk=>by
  rw[jN o]
  exact pA (a2 _ (y2 k hk)) (y1 k)
 rw[aK,y3]at this
 rw[a3]at r
 rw[jN Z,jN C]
 exact Lz r this
end Sx
namespace Sx
theorem FV.cert{n:Nat}{t:Nat->Nat->Bool}{o Z c T d C:Int}(h:FV n t o Z)(X:Nat->Int)(hx:∀p,0<=X p)(hc:∀s,jR n t s->aY n X s<=c)(hT:sm n X=T)(cv:rR n t d C)(c0:0<c)(e:T*d=C*c)(d0:0<=d):Z*d=C*o:=by
 refine QF (h.cov cv) ?_
 have u:=h.up X c hx hc
 rw[hT]at u
 refine Tw (a:=c) ?_ c0
 have m:=zu u d0
 have e1:T*o*d=C*c*o:=by rw[<-e];grind
 have e2:C*o*c=C*c*o:=by grind
 have e3:Z*c*d=Z*d*c:=by grind
 rw[e1,e3]at m
 rw[e2];exact m
def aZ(n i j:Nat):Bool:=decide (i+1=j)||decide (j+1=i)||(decide (i=0)&&decide (j+1=n))||(decide (j=0)&&decide (i+1=n))
def bI(s:Nat->Bool)(i:Nat):Int:=if s i=true then 1 else 0
theorem Qp{s:Nat->Bool}{i:Nat}:0<=bI s i/\bI s i<=1:=by unfold bI;split<;>decide
theorem qP{s:Nat->Bool}{a:Nat}:∀m,(∀i,i<m->¬(s (a+2*i)=true/\s (a+2*i+1)=true))->(sm (2*m) fun i=>bI s (a+i))<=(m:Int)
 |0,_=>pK _
 |m+1,h=>by
  have ih:=qP (s:=s) (a:=a) m fun i hi=>h i (by omega)
  have e:(sm (2*(m+1)) fun i=>bI s (a+i))=(sm (2*m) fun i=>bI s (a+i))+bI s (a+2*m)+bI s (a+(2*m+1)):=rfl
  have k:=h m (qj m)
  have:bI s (a+2*m)+bI s (a+(2*m+1))<=1:=by
   unfold bI
   by_cases c:s (a+2*m)=true
   ·rw[aA c,ao (show¬s (a+(2*m+1))=true from fun d=>k ⟨c,d⟩)];decide
   ·rw[ao c]
    split<;>decide
  rw[e];omega
theorem Jo{k:Nat}(hk:0<k){s:Nat->Bool}(h:jR (2*k+1) (aZ (2*k+1)) s):aY (2*k+1) (fun _=>1) s<=(k:Int):=by
 have no:∀i,i+1<2*k+1->¬(s i=true/\s (i+1)=true):=fun i hi ⟨a,b⟩=>by
  have:=h i (i+1) (by omega) hi a b (by omega)
  simp[aZ]at this
 show(sm (2*k) fun i=>bI s i)+bI s (2*k)<=_
 by_cases c:s (2*k)=true
 ·have z0:s 0=false:=by
   cases e:s 0 with
   |false=>rfl
   |true=>
    have:=h 0 (2*k) (by omega) (by omega) e c (by omega)
    simp[aZ]at this
  obtain⟨j,rfl⟩:∃j,k=j+1:=⟨k-1,by omega⟩
  have z1:s (2*j+1)=false:=by
   cases e:s (2*j+1)with
   |false=>rfl
   |true=>exact absurd ⟨e,c⟩ (no (2*j+1) (by omega))
  have e1:(sm (2*(j+1)) fun i=>bI s i)=(sm (1+2*j) fun i=>bI s i)+bI s (2*j+1):=by
   rw[Nat.add_comm 1];rfl
  rw[e1,Hi]
  have p:=qP (s:=s) (a:=1) j fun i hi=>by
   have:=no (1+2*i) (by omega)
   exact this
  have e2:(sm 1 fun i=>bI s i)=bI s 0:=by show 0+bI s 0=_;omega
  have e3:bI s 0=0:=by unfold bI;rw[z0];rfl
  have e4:bI s (2*j+1)=0:=by unfold bI;rw[z1];rfl
  have e5:=(Qp (s:=s) (i:=2*(j+1))).2
  rw[e2,e3,e4]
  omega
 ·have e:bI s (2*k)=0:=by unfold bI;rw[ao c]
  have p:=qP (s:=s) (a:=0) k fun i hi=>by
   have:=no (2*i) (by omega)
   rw[Yq];exact this
  have e2:(sm (2*k) fun i=>bI s (0+i))=sm (2*k) fun i=>bI s i:=ak _ fun i _=>by rw[Yq]
  rw[e2]at p
  rw[e];omega
def YS(n k r p:Nat):Bool:=(List.range k).any fun q=>decide ((r+2*q) %n=p)
theorem dF{n m:Nat}{t:Nat->Nat->Bool}{S:Nat->Nat->Bool}{d:Nat}(h1:∀k:Fin m,∀i j:Fin n,S k i=true->S k j=true->i≠j->t i j=false)(h2:∀p:Fin n,(d:Int)<=sm m fun k=>if S k p=true then 1 else 0):rR n t (d:Int) (m:Int):=by
 refine⟨m,S,fun _=>1,fun _=>(by decide:(0:Int)<=1),fun k hk i j hi hj u v e=>h1 ⟨k,hk⟩ ⟨i,hi⟩ ⟨j,hj⟩ u v fun z=>e (by injection z),?_,fun p hp=>h2 ⟨p,hp⟩⟩
 clear h1 h2
 induction m with
 |zero=>rfl
 |succ m ih=>show sm m (fun _=>1)+1=_;rw[ih];omega
theorem Jp:rR 3 (aZ 3) 1 3/\rR 5 (aZ 5) 2 5/\rR 7 (aZ 7) 3 7/\rR 9 (aZ 9) 4 9:=
 ⟨dF (S:=YS 3 1) (d:=1) (by decide+kernel) (by decide+kernel),dF (S:=YS 5 2) (d:=2) (by decide+kernel) (by decide+kernel),dF (S:=YS 7 3) (d:=3) (by decide+kernel) (by decide+kernel),dF (S:=YS 9 4) (d:=4) (by decide+kernel) (by decide+kernel)⟩
theorem EY:rR 4 (aZ 4) 1 2/\rR 6 (aZ 6) 1 2/\rR 8 (aZ 8) 1 2/\rR 10 (aZ 10) 1 2:=
 ⟨dF (S:=fun k p=>decide (p %2=k)) (d:=1) (by decide+kernel) (by decide+kernel),dF (S:=fun k p=>decide (p %2=k)) (d:=1) (by decide+kernel) (by decide+kernel),dF (S:=fun k p=>decide (p %2=k)) (d:=1) (by decide+kernel) (by decide+kernel),dF (S:=fun k p=>decide (p %2=k)) (d:=1) (by decide+kernel) (by decide+kernel)⟩
theorem jz:∀m:Nat,sm m (fun _=>1)=(m:Int)
 |0=>rfl
 |m+1=>by show sm m (fun _=>1)+1=_;rw[jz m];omega
theorem VJ{k:Nat}{o Z:Int}(hk:0<k)(cv:rR (2*k+1) (aZ (2*k+1)) (k:Int) ((2*k+1:Nat):Int))(h:FV (2*k+1) (aZ (2*k+1)) o Z):Z*(k:Int)=((2*k+1:Nat):Int)*o:=
 h.cert (fun _=>1) (fun _=>by decide) (fun s hs=>Jo hk hs) (jz _) cv (by omega) rfl (by omega)
theorem lZ{n:Nat}{o Z:Int}(hn:2<n)(cv:rR n (aZ n) 1 2)(h:FV n (aZ n) o Z):Z*1=2*o:=by
 obtain⟨m,rfl⟩:∃m,n=2+m:=⟨n-2,by omega⟩
 refine h.cert (c:=1) (T:=2) (fun p=>if p<2 then 1 else 0) (fun p=>by split<;>decide) (fun s hs=> ?_) ?_ cv (by decide) rfl (by decide)
 ·unfold aY
  rw[Hi,aN m fun i _=>by
   dsimp only
   rw[ao (show¬2+i<2 by omega)]
   split<;>rfl]
  show(0+(if s 0=true then 1 else 0)+(if s 1=true then 1 else 0))+0<=(1:Int)
  by_cases a:s 0=true
  ·have:¬s 1=true:=fun b=>by
    have:=hs 0 1 (by omega) (by omega) a b (by omega)
    simp[aZ]at this
   rw[aA a,ao this];decide
  ·rw[ao a]
   split<;>decide
 ·rw[Hi,aN m fun i _=>ao (show¬2+i<2 by omega)]
  rfl
end Sx
namespace Sx
theorem jR.two{n:Nat}{t:Nat->Nat->Bool}{s:Nat->Bool}(h:jR n t s){i j:Nat}(hi:i<n)(hj:j<n)(e:i≠j)(ht:t i j=true):bI s i+bI s j<=1:=by
 unfold bI
 by_cases a:s i=true
 ·rw[aA a,ao fun b=>by rw[h i j hi hj a b e]at ht;cases ht];decide
 ·rw[ao a]
  split<;>decide
theorem Dz{t:Nat->Nat->Bool}{s:Nat->Bool}:∀n,(∀i j,i<n->j<n->i≠j->t i j=true)->jR n t s->aY n (fun _=>1) s<=1
 |0,_,_=>by show(0:Int)<=1;decide
 |n+1,h,hs=>by
  show(aY n (fun _=>1) s)+bI s n<=1
  by_cases c:s n=true
  ·have z:aY n (fun _=>1) s=0:=aN n fun i hi=>ao fun a=>by
    have:=hs i n (by omega) (by omega) a c (by omega)
    rw[h i n (by omega) (by omega) (by omega)]at this;cases this
   have:=(Qp (s:=s) (i:=n)).2
   omega
  ·have ih:=Dz (t:=t) (s:=s) n (fun i j hi hj=>h i j (by omega) (by omega)) fun i j hi hj=>hs i j (by omega) (by omega)
   have:bI s n=0:=ao c
   omega
theorem Kq{n:Nat}{t:Nat->Nat->Bool}{o Z:Int}(ht:∀i j,i<n->j<n->i≠j->t i j=true)(h:FV n t o Z):Z*1=(n:Int)*o:=by
 refine h.cert (c:=1) (T:=(n:Int)) (fun _=>1) (fun _=>(by decide:(0:Int)<=1)) (fun s hs=>Dz n ht hs) (jz n) ⟨n,fun k p=>decide (k=p),fun _=>1,fun _=>(by decide:(0:Int)<=1),fun k _ i j _ _ a b e=>absurd ((eY a).symm.trans (eY b)) e,jz n,fun p hp=> ?_⟩ (by decide) (by omega) (by decide)
 rw[bf (j:=p) n hp fun i _ hi=>ao (by rw[wz];exact hi),aA (cI rfl)]
 exact pK _
theorem KY{n:Nat}{t:Nat->Nat->Bool}{o Z:Int}(hn:0<n)(ht:∀i j,i<n->j<n->t i j=false)(h:FV n t o Z):Z*1=1*o:=by
 refine h.cert (c:=1) (T:=1) (fun p=>if p=0 then 1 else 0) (fun p=>by split<;>decide) (fun s _=> ?_) ?_ ⟨1,fun _ _=>true,fun _=>1,fun _=>(by decide:(0:Int)<=1),fun _ _ i j hi hj _ _ _=>ht i j hi hj,rfl,fun p hp=>(by decide:(1:Int)<=0+1)⟩ (by decide) rfl (by decide)
 ·refine Lz (zy fun p=>by split<;>decide) ?_
  rw[bf (j:=0) n hn fun i _ hi=>ao hi]
  decide
 ·rw[bf (j:=0) n hn fun i _ hi=>ao hi];rfl
theorem Jw{n a b m:Nat}{t:Nat->Nat->Bool}{o Z:Int}{d:Nat}(ha:a<n)(hb:b<n)(hab:a<b)(ht:t a b=true)(cv:rR n t (d:Int) (m:Int))(e:2*(d:Int)=(m:Int)*1)(h:FV n t o Z):Z*(d:Int)=(m:Int)*o:=by
 refine h.cert (c:=1) (T:=2) (fun p=>(if p=a then 1 else 0)+if p=b then 1 else 0) (fun p=>by split<;>split<;>decide) (fun s hs=> ?_) ?_ cv (by decide) e (by omega)
 ·have e1:aY n (fun p=>(if p=a then 1 else 0)+if p=b then 1 else 0) s=(sm n fun p=>if p=a then bI s p else 0)+sm n fun p=>if p=b then bI s p else 0:=by
   unfold aY
   rw[<-cN]
   refine ak n fun p _=> ?_
   unfold bI
   by_cases c:s p=true
   ·rw[aA c,aA c]
   ·rw[ao c,ao c];split<;>split<;>rfl
  rw[e1,bf (j:=a) n ha fun i _ hi=>ao hi,bf (j:=b) n hb fun i _ hi=>ao hi,aA rfl,aA rfl]
  exact hs.two ha hb (by omega) ht
 ·rw[cN,bf (j:=a) n ha fun i _ hi=>ao hi,bf (j:=b) n hb fun i _ hi=>ao hi,aA rfl,aA rfl]
  rfl
theorem jR.five{n:Nat}{t:Nat->Nat->Bool}{s:Nat->Bool}(h:jR n t s){a b c d e:Nat}(ha:a<n)(hb:b<n)(hc:c<n)(hd:d<n)(he:e<n)(n1:a≠b)(n2:b≠c)(n3:c≠d)(n4:d≠e)(n5:e≠a)(t1:t a b=true)(t2:t b c=true)(t3:t c d=true)(t4:t d e=true)(t5:t e a=true):bI s a+bI s b+bI s c+bI s d+bI s e<=2:=by
 have:=h.two ha hb n1 t1
 have:=h.two hb hc n2 t2
 have:=h.two hc hd n3 t3
 have:=h.two hd he n4 t4
 have:=h.two he ha n5 t5
 omega
theorem Fg{t:Nat->Nat->Bool}{o Z:Int}(ht:t 0 7=true/\t 7 3=true/\t 3 4=true/\t 4 9=true/\t 9 0=true/\t 1 5=true/\t 5 8=true/\t 8 2=true/\t 2 6=true/\t 6 1=true)(cv:rR 10 t 2 5)(h:FV 10 t o Z):Z*2=5*o:=by
 obtain⟨t1,t2,t3,t4,t5,u1,u2,u3,u4,u5⟩:=ht
 refine h.cert (c:=4) (T:=10) (fun _=>1) (fun _=>(by decide:(0:Int)<=1)) (fun s hs=> ?_) (jz 10) cv (by decide) rfl (by decide)
 have a:=hs.five (a:=0) (b:=7) (c:=3) (d:=4) (e:=9) (by decide) (by decide) (by decide) (by decide) (by decide) (by decide) (by decide) (by decide) (by decide) (by decide) t1 t2 t3 t4 t5
 have b:=hs.five (a:=1) (b:=5) (c:=8) (d:=2) (e:=6) (by decide) (by decide) (by decide) (by decide) (by decide) (by decide) (by decide) (by decide) (by decide) (by decide) u1 u2 u3 u4 u5
 show 0+bI s 0+bI s 1+bI s 2+bI s 3+bI s 4+bI s 5+bI s 6+bI s 7+bI s 8+bI s 9<=(4:Int)
 omega
end Sx
namespace Hs
open PySem L2 wB
def top(i:Nat):Stmt:=PySem.Challenge.pw_hueshare_k27_whole_webs_put_together.main.body.getD i (.Pass ⟨0,0,0,0⟩)
abbrev Qw:Stmt:=top 9
abbrev iu:Stmt:=top 10
abbrev eE:Stmt:=top 11
abbrev dH:Stmt:=top 12
abbrev jd:Stmt:=top 13
abbrev iy:Stmt:=top 14
abbrev lV:Stmt:=top 15
abbrev Gy:Stmt:=top 16
abbrev ig:Stmt:=top 17
abbrev Uu:Stmt:=top 18
abbrev Qx:Stmt:=top 19
abbrev g8:Stmt:=top 20
abbrev iz:Stmt:=top 21
abbrev eU:Stmt:=top 22
abbrev Uw:Stmt:=top 24
abbrev eO:Stmt:=top 25
abbrev dI:Stmt:=top 26
abbrev Ur:Stmt:=top 27
abbrev Xx:Stmt:=top 28
abbrev Ux:Stmt:=top 29
abbrev XM:Stmt:=top 30
abbrev XQ:Stmt:=top 31
abbrev Yc:Stmt:=top 33
abbrev gC:Stmt:=top 34
abbrev Xy:Stmt:=inClass (top 37) 0
abbrev Ye:Stmt:=inClass (top 37) 1
abbrev Yd:Stmt:=inClass (top 37) 2
abbrev X7:Stmt:=inClass (top 37) 3
abbrev XJ:Stmt:=inClass (top 37) 4
abbrev Xz:Stmt:=inClass (top 37) 5
abbrev XF:Stmt:=inClass (top 37) 6
abbrev Tj:Stmt:=inClass (top 37) 7
abbrev X8:Stmt:=inClass (top 37) 8
abbrev Yb:Stmt:=inClass (top 37) 9
abbrev dZ:Stmt:=top 38
abbrev lR:Stmt:=top 39
abbrev lQ:Stmt:=top 40
abbrev Ut:Stmt:=top 42
abbrev XD:Stmt:=top 43
abbrev je:Stmt:=top 44
abbrev lW:Stmt:=top 45
abbrev XH:Stmt:=top 46
abbrev lO:Stmt:=top 47
abbrev fL:Stmt:=top 48
abbrev iw:Stmt:=top 49
abbrev uT:Stmt:=top 52
abbrev pY:Stmt:=top 53
abbrev pZ:Stmt:=top 54
abbrev fO:Stmt:=top 56
abbrev fM:Stmt:=top 57
abbrev Us:Stmt:=top 58
abbrev Tg:Stmt:=top 59
abbrev cX:Stmt:=top 60
abbrev eZ:Stmt:=top 61
abbrev XC:Stmt:=top 62
abbrev XR:Stmt:=top 63
abbrev Qz:Stmt:=top 64
abbrev lU:Stmt:=top 65
end Hs
namespace L2
open PySem PySem.Spec PyProof.Rows
section
variable{X:Cx}{es:List Expr}{k:Nat}{Jr:Pos}
def aar(K:W.Frag)(b:Bool)(H:Hp)(a:Addr)(xs:List V):Prop:=match b with
 |false=>SqL K H a xs
 |true=>False
def RV(K:W.Frag)(ta:TA):TI:=fun σ H R=>ta σ H fun vs H1=>∃(b:Bool) (a:Addr) (xs:List V),vs=[.ref a]/\aar K b H1 a xs/\(xs.length<=sizeLine->R (Ite K b a xs) H1)
theorem qO{a:Expr}{ta:TA}{p pos:Pos}(hg:Gl X "enumerate")(hm:X.mg "enumerate"=none)(ha:PA X [a] ta)(hs:starEach [a] X.env=[(false,eval a X.env)]:=by rfl):
  PI X (.Tuple es k Jr) (.Call (.Name "enumerate" p) [a] [] pos) (RV X.K ta):=by
 intro pins s σ H R I h
 refine Call_ (ld_blt I hg hm (show bootBuiltins "enumerate"=some (.type "enumerate")from by decide+kernel) (Lp (thn (ha pos pins s σ H _ I h) fun us s1 ⟨vs,H1,I1,r1,q1⟩=> ?_) hs rfl))
 obtain⟨b,l,xs,e,hq,q⟩:=q1
 subst e
 cases r1 with
 |cons r rr=>
  cases rr
  cases r
  cases b with
  |false=>
   obtain⟨its,rv,pl,hz⟩:=I1.list (show SqL X.K H1 l xs from hq)
   refine call_enumerate_list pl.isList fun h' he hit hsz hk=> ?_
   refine wpAny_pyIter_enum he ?_
   have I2:Inv X pins σ H1 {s1 with heap:=h'}:=I1.kept (t':=s1.toks) hk
   have hne:s1.heap.objs.size+1≠s1.heap.objs.size:=Nat.succ_ne_self _
   refine⟨s1.heap.objs.size+1,[s1.heap.objs.size+1,s1.heap.objs.size],_,_,H1,rfl,I2,zF l _ _ xs hne,⟨⟨_,he⟩,hit⟩,fun c hc=> ?_,q hz⟩
   rcases eN.mp hc with z|z
   ·subst z;exact I1.fpOk (TV _) (I1.hok.fresh (TV _))
   ·have z:c=s1.heap.objs.size:=by simpa using z
    subst z;exact I1.fpOk (aU _) (I1.hok.fresh (aU _))
  |true=>exact hq.elim
end
mutual
def Zb:Nat->PyData->PyData->Bool
 |0,_,_=>false
 |n+1,a,b=>match a,b with
  | .none,.none=>true
  | .bool x,.bool y=>x==y
  | .int x,.int y=>x==y
  | .str x,.str y=>x==y
  | .list xs,.list ys=>Bh n xs ys
  | .tuple xs,.tuple ys=>Bh n xs ys
  | .dict [],.dict []=>true
  |_,_=>false
def Bh:Nat->List PyData->List PyData->Bool
 |0,_,_=>false
 |n+1,xs,ys=>match xs,ys with
  |[],[]=>true
  |x::xs,y::ys=>Zb n x y&&Bh n xs ys
  |_,_=>false
end
theorem DN:∀n:Nat,(∀a b,Zb n a b=true->a=b)/\(∀xs ys,Bh n xs ys=true->xs=ys)
 |0=>⟨fun a b h=>by simp[Zb]at h,fun a b h=>by simp[Bh]at h⟩
 |n+1=>by
  obtain⟨i1,i2⟩:=DN n
  refine⟨fun a b h=> ?_,fun xs ys h=> ?_⟩
  ·unfold Zb at h
   split at h
   ·rfl
   ·rw[beq_iff_eq.mp h]
   ·rw[beq_iff_eq.mp h]
   ·rw[beq_iff_eq.mp h]
   ·rw[i2 _ _ h]
   ·rw[i2 _ _ h]
   ·rfl
   ·cases h
  ·unfold Bh at h
   split at h
   ·rfl
   ·rw[qm]at h
    rw[i1 _ _ h.1,i2 _ _ h.2]
   ·cases h
def xX(es:List Expr)(ds:List PyData):Bool:=match fu 60 es with
 |some ds'=>Bh 60 ds' ds
 |none=>false
theorem J4{es:List Expr}{ds:List PyData}(h:xX es ds=true):fu 60 es=some ds:=by
 unfold xX at h
 split at h
 ·rename_i ds' e
  rw[e,(DN 60).2 _ _ h]
 ·cases h
theorem xO{X:Cx}(K:W.Frag){es:List Expr}{ds:List PyData}(h:xX es ds=true)(hk:X.K=K:=by rfl):PA X es (Cz K ds):=Jx K (J4 h) hk
end L2
namespace Hs
open PySem L2 wB
section
variable{P:Program}{w:World}{K:W.Frag}{mg:Str->Option Value}{base:Heap}
def lH(K:W.Frag):Sp:=fun vs H Q _=>∃x d,vs=[x]/\DX K H x d/\Q (.bl (ql d)) H
theorem Iu:FnScope ["thing"] ["thing"] (defScope Qw):=fsc
theorem JC{f:Addr}{fd:FuncData}(F:Fun K "is_whole" "is_whole" Qw f fd)(mi:mg "isinstance"=none)(mI:mg "int"=none)(mB:mg "bool"=none):FnOk P w K mg base CX0 1 f fd ["thing"] (lH K):=by
 refine F.ok Iu (fun vs H Q E h=> ?_) (fun cdv A outer s H vs Q E hr h=> ?_)
 ·obtain⟨x,d,rfl,_⟩:=h
  rfl
 obtain⟨x,d,rfl,hx,q⟩:=h
 refine⟨_,bA (cG (pe_and (gQ gM rfl mi (by decide+kernel) (aj (pv 0) (aj (pe_bltn rfl mI (v:= .ty "int") (by decide+kernel) rfl) aq)))
  (pe_one (pe_not (gQ gM rfl mi (by decide+kernel) (aj (pv 0) (aj (pe_bltn rfl mB (v:= .ty "bool") (by decide+kernel) rfl) aq))))))),?_⟩
 refine⟨_,rfl,x,_,_,rfl,hx.kind,.inl rfl,_,rfl,?_⟩
 refine ite2 (fun c=> ?_) (fun c=> ?_)
 ·refine⟨_,rfl,x,_,_,rfl,hx.kind,.inr (.inl rfl),_,rfl,?_⟩
  cases d<;>first |exact q|(simp[Az,yc]at c;done)
 ·cases d<;>first |exact q|(exfalso;exact c rfl)
def CK(K:W.Frag):Sp:=fun vs H Q _=>∃(n:Int) (x:V) (d:PyData),vs=[.int n,x]/\DX K H x d/\Q (.bl (bR n d)) H
theorem Iz:FnScope ["n","thing"] ["n","thing"] (defScope iu):=fsc
theorem JH{f g:Addr}{fd gd:FuncData}(F:Fun K "is_place" "is_place" iu f fd)(D:bF K mg "is_whole" Qw ["thing"] g gd)(G:FnOk P w K mg base CX0 1 g gd ["thing"] (lH K)):FnOk P w K mg base CX0 2 f fd ["n","thing"] (CK K):=by
 refine F.ok Iz (fun vs H Q E h=> ?_) (fun cdv A outer s H vs Q E hr h=> ?_)
 ·obtain⟨n,x,d,rfl,_⟩:=h
  rfl
 obtain⟨n,x,d,rfl,hx,q⟩:=h
 refine⟨_,bA (cG (pe_and (pe_call G hr rfl D.m D.F.kp D.b .nil pass0 (aj (pv 1) aq)) (pe_one (pe_chain op_le op_lt aL (pv 1) (pv 0))))),?_⟩
 refine⟨_,rfl,x,d,rfl,hx,_,rfl,?_⟩
 refine ite2 (fun c=> ?_) (fun c=> ?_)
 ·cases hx with
  |int i=>
   refine⟨_,rfl,_,_,rfl,rfl,_,rfl,?_⟩
   refine ite2 (fun c2=> ?_) (fun c2=> ?_)
   ·refine⟨_,rfl,_,_,rfl,rfl,?_⟩
    have e:bR n (.int i)=decide (i<n):=by show(decide (0<=i)&&decide (i<n))=_;rw[c2];rfl
    rw[e]at q;exact q
   ·have e:bR n (.int i)=false:=by show(decide (0<=i)&&decide (i<n))=_;rw[Bool.eq_false_iff.mpr c2];rfl
    rw[e]at q;exact q
  |_=>simp[ql]at c
 ·have e:bR n d=false:=by
   cases d<;>first |rfl|(exfalso;exact c rfl)
  rw[e]at q;exact q
def wW(K:W.Frag):Sp:=fun vs H Q _=>∃(n:Int) (a:Addr) (xs:List V) (ds:List PyData),vs=[.int n,.ref a]/\SqT K H a xs/\ju K H xs ds/\∀H',Same H H'->Q (.bl (ds.all (bR n))) H'
theorem En:FnScope ["n","things"] ["n","things"] (defScope eE):=fsc
theorem rF{α:Type}(ds:List α)(p:α->Bool):(ds.map p).all id=ds.all p:=by rw[Zq];rfl
theorem Ft{f g:Addr}{fd gd:FuncData}(F:Fun K "are_places" "are_places" eE f fd)(D:bF K mg "is_place" iu ["n","thing"] g gd)(G:FnOk P w K mg base CX0 2 g gd ["n","thing"] (CK K))(mA:mg "all"=none):FnOk P w K mg base CX0 3 f fd ["n","things"] (wW K):=by
 refine F.ok En (fun vs H Q E h=> ?_) (fun cdv A outer s H vs Q E hr h=> ?_)
 ·obtain⟨n,a,xs,ds,rfl,_⟩:=h
  rfl
 obtain⟨n,a,xs,ds,rfl,hS,hd,q⟩:=h
 refine⟨_,bA (cG (gQ (mK rfl) rfl mA (by decide+kernel) (aj (oK (own:=["thing"]) (caps:=["n"]) (ix:=[0]) rfl (fV (pv 1)) rfl rfl (.cons rfl rfl .nil) (fun _ _ _ _ _=>cJ (i:=0) (show(["thing","n"]:List Str).Nodup from by decide+kernel) rfl (Or.inl rfl)) (fun _ _ _ _ _=>rY) (fun _ _ _ _ _=>pe_call G hr rfl D.m D.F.kp D.b .nil pass0 (aj (pv 1) (aj (pv 0) aq)))) aq))),?_⟩
 refine⟨_,rfl,a,xs,rfl,hS,fun hz=> ?_⟩
 have hl:=hd.len
 refine dM (xs:=xs) (fun i acc σ H'=>acc=((ds.take i).map (bR n)).map V.bl/\Same H H'/\∃o,σ=[o,some (.int n)]) ⟨rfl,Same.refl _,_,rfl⟩ (fun i acc σ H' _ p=>p.2.1.tup hS) (fun i acc σ H' hi p=> ?_) hz (fun i x acc σ H' hx p=> ?_) (fun acc σ H' p=> ?_)
 ·rw[p.1];simp;omega
 ·obtain⟨rfl,sm,o,rfl⟩:=p
  obtain⟨d,e1,e2⟩:=hd.get hx
  refine⟨_,rfl,_,rfl,n,x,d,rfl,DX.same sm e2,?_,sm,_,rfl⟩
  rw[GJ,e1]
  simp
 ·intro p1 hp1
  obtain⟨rfl,sm,_⟩:=p
  refine⟨p1,(ds.map (bR n)),rfl,SqL.of (by rw[aH,hl,yZ]),?_⟩
  rw[rF]
  exact q _ (sm.trans (aP hp1 _))
def Te(K:W.Frag)(H:Hp)(x y:V)(b:Bool):Prop:=(∃i j,x= .int i/\y= .int j/\b=decide (i<j))\/(∃p q ns ms,x= .ref p/\y= .ref q/\SqT K H p (ns.map V.int)/\SqT K H q (ms.map V.int)/\b=HT.lexLt ns ms)
def qw(K:W.Frag):Sp:=fun vs H Q _=>∃(a:Addr) (xs:List V) (bs:Nat->Bool),vs=[.ref a]/\SqT K H a xs/\(∀k,k+1<xs.length->∃x y,xs[k]? =some x/\xs[k+1]? =some y/\Te K H x y (bs k))/\
 ∀H',Same H H'->Q (.bl ((List.range (xs.length-1)).all bs)) H'
theorem Em:FnScope ["things"] ["things"] (defScope dH):=fsc
theorem Fq{f:Addr}{fd:FuncData}(F:Fun K "is_rising" "is_rising" dH f fd)(mA:mg "all"=none)(mR:mg "range"=none)(mL:mg "len"=none):FnOk P w K mg base CX0 1 f fd ["things"] (qw K):=by
 refine F.ok Em (fun vs H Q E h=> ?_) (fun cdv A outer s H vs Q E hr h=> ?_)
 ·obtain⟨a,xs,bs,rfl,_⟩:=h
  rfl
 obtain⟨a,xs,bs,rfl,hS,hb,q⟩:=h
 refine⟨_,bA (cG (gQ (mK rfl) rfl mA (by decide+kernel) (aj (oK (own:=["k"]) (caps:=["things"]) (ix:=[0]) rfl
  (pi_range2 rfl mR (aj aL (aj (gQ yX rfl mL wk (aj (pv 0) aq)) aq))) rfl rfl (.cons rfl rfl .nil) (fun _ _ _ _ _=>cJ (i:=0) (show(["k","things"]:List Str).Nodup from by decide+kernel) rfl (Or.inl rfl)) (fun _ _ _ _ _=>rY) (fun _ _ _ _ _=>pe_cmpR (op_lt.or (M6 K hr.units0)) (bK (iG K) (pv 1) (bH op_sub (pv 0) aL) (fun _ _=>rfl)) (bK (iG K) (pv 1) (pv 0) (fun _ _=>rfl)) (nomark _))) aq))),?_⟩
 refine⟨_,rfl,a,xs,rfl,.inr hS,fun hz=>⟨1,_,rfl,⟨by omega,by omega,by omega,by omega⟩,?_⟩⟩
 have en:((xs.length:Int)-1).toNat=xs.length-1:=by omega
 rw[en]
 refine Lg (fun i acc σ H'=>acc=((List.range i).map bs).map V.bl/\Same H H'/\∃o,σ=[o,some (.ref a)]) ⟨rfl,Same.refl _,_,rfl⟩ (fun i acc σ H' hi p=>by rw[p.1];simp) (by rw[dO];omega) (fun i acc σ H' hi p=> ?_) (fun acc σ H' p=> ?_)
 ·obtain⟨rfl,sm,o,rfl⟩:=p
  obtain⟨x,y,hx,hy,hxy⟩:=hb i (by omega)
  have e1:(1+(i:Int))-1=((i:Nat):Int):=by omega
  have e2:(1+(i:Int))=((i+1:Nat):Int):=by omega
  have a1:atI xs (1+(i:Int)-1)=some x:=by rw[e1];exact atI_nat hx
  have a2:atI xs (1+(i:Int))=some y:=by rw[e2];exact atI_nat hy
  refine⟨_,rfl,_,rfl,_,_,rfl,rfl,a,xs,_,x,rfl,rfl,sm.tup hS,a1,_,rfl,_,rfl,a,xs,_,y,rfl,rfl,sm.tup hS,a2,?_⟩
  have ea:((List.range i).map bs).map V.bl++[V.bl (bs i)]=((List.range (i+1)).map bs).map V.bl:=by rw[wI];simp
  rcases hxy with⟨u,v,rfl,rfl,e⟩|⟨p,p',ns,ms,rfl,rfl,h1,h2,e⟩
  ·refine .inl ⟨u,v,rfl,rfl,?_,sm,_,rfl⟩
   show _++[V.bl (decide (u<v))]=_
   rw[<-e];exact ea
  ·refine .inr ⟨p,p',ns,ms,rfl,rfl,sm.tup h1,sm.tup h2,?_,sm,_,rfl⟩
   show _++[V.bl (HT.lexLt ns ms)]=_
   rw[<-e];exact ea
 ·intro p1 hp1
  obtain⟨rfl,sm,_⟩:=p
  refine⟨p1,(List.range (xs.length-1)).map bs,rfl,SqL.of aH,?_⟩
  rw[rF]
  exact q _ (sm.trans (aP hp1 _))
theorem ints_of{H:Hp}{n:Int}{xs:List V}{ds:List PyData}(h:ju K H xs ds)(hp:ds.all (bR n)=true):xs=(ds.map intD).map V.int:=by
 induction ds generalizing xs with
 |nil=>cases h;rfl
 |cons d ds ih=>
  rw[List.all_cons,qm]at hp
  cases h with
  |cons h t=>
   obtain⟨i,rfl,_⟩:=Ac hp.1
   cases h
   rw[LK,LK,<-ih t hp.2]
   rfl
theorem Ey{H:Hp}(ns:List Int):∀k,k+1<(ns.map V.int).length->∃x y,(ns.map V.int)[k]? =some x/\(ns.map V.int)[k+1]? =some y/\Te K H x y (decide (ns.getD k 0<ns.getD (k+1) 0)):=fun k hk=>by
 rw[aM]at hk
 have h1:k<ns.length:=by omega
 refine⟨.int (ns.getD k 0),.int (ns.getD (k+1) 0),by simp[h1],by simp[hk],.inl ⟨_,_,rfl,rfl,rfl⟩⟩
def Ib(K:W.Frag):Sp:=fun vs H Q _=>∃(n:Int) (x:V) (d:PyData),vs=[.int n,x]/\DX K H x d/\∀H',Same H H'->Q (.bl (lM n d)) H'
theorem Rf:FnScope ["n","thing"] ["n","thing"] (defScope jd):=fsc
theorem RB{f f1 f2:Addr}{fd d1 d2:FuncData}(F:Fun K "is_set" "is_set" jd f fd)(D1:bF K mg "are_places" eE ["n","things"] f1 d1)(G1:FnOk P w K mg base CX0 3 f1 d1 ["n","things"] (wW K))(D2:bF K mg "is_rising" dH ["things"] f2 d2)(G2:FnOk P w K mg base CX0 1 f2 d2 ["things"] (qw K))(mi:mg "isinstance"=none)(mT:mg "tuple"=none):FnOk P w K mg base CX0 4 f fd ["n","thing"] (Ib K):=by
 refine F.ok Rf (fun vs H Q E h=> ?_) (fun cdv A outer s H vs Q E hr h=> ?_)
 ·obtain⟨n,x,d,rfl,_⟩:=h
  rfl
 obtain⟨n,x,d,rfl,hx,q⟩:=h
 refine⟨_,bA (cG (pe_and (gQ gM rfl mi (by decide+kernel) (aj (pv 1) (aj (pe_bltn rfl mT (v:= .ty "tuple") (by decide+kernel) rfl) aq)))
  (pe_and (pc G1 hr D1 (aj (pv 0) (aj (pv 1) aq))) (pe_one (pc G2 hr D2 (aj (pv 1) aq)))))),?_⟩
 refine⟨_,rfl,x,_,_,rfl,hx.kind,.inr (.inr (.inl rfl)),_,rfl,?_⟩
 refine ite2 (fun c=> ?_) (fun c=> ?_)
 ·cases hx with
  | @tup a xs ds h t=>
   refine⟨_,rfl,_,rfl,n,a,xs,ds,rfl,h,t,fun H1 sm=>⟨_,rfl,?_⟩⟩
   refine ite2 (fun c2=> ?_) (fun c2=> ?_)
   ·have ex:=ints_of t c2
    refine⟨_,rfl,a,xs,fun k=>decide ((ds.map intD).getD k 0<(ds.map intD).getD (k+1) 0),rfl,sm.tup h,?_,fun H2 sm2=> ?_⟩
    ·rw[ex];exact Ey _
    ·have e:lM n (.tuple ds)=(List.range (xs.length-1)).all fun k=>decide ((ds.map intD).getD k 0<(ds.map intD).getD (k+1) 0):=by
      show(ds.all (bR n)&&iC (ds.map intD))=_
      rw[c2,t.len]
      show iC (ds.map intD)=_
      unfold iC
      rw[aM]
     have:=q H2 (sm.trans sm2)
     rw[e]at this;exact this
   ·have e:lM n (.tuple ds)=false:=by
     show(ds.all (bR n)&&iC (ds.map intD))=_
     rw[Bool.eq_false_iff.mpr c2];rfl
    have:=q H1 sm
    rw[e]at this;exact this
  |_=>simp[Az,yc]at c
 ·have e:lM n d=false:=by
   cases d<;>first |rfl|(exfalso;exact c rfl)
  have:=q H (Same.refl _)
  rw[e]at this;exact this
def HN(K:W.Frag):Sp:=fun vs H Q _=>∃(n:Int) (x:V) (d:PyData),vs=[.int n,x]/\DX K H x d/\∀H',Same H H'->Q (.bl (lG n d)) H'
theorem Mv:FnScope ["n","thing"] ["n","thing"] (defScope iy):=fsc
theorem Cy{H:Hp}{n:Int}{x:V}{d:PyData}(h:DX K H x d)(ht:jX n d=true):∃p,x= .ref p/\SqT K H p (((kids d).map intD).map V.int):=by
 cases h with
 | @tup a xs ds h t=>
  have q:(ds.all (bR n)&&iC (ds.map intD)&&decide (ds.length=2))=true:=ht
  rw[qm,qm]at q
  exact⟨a,rfl,by rw[ints_of t q.1.1]at h;exact h⟩
 |_=>simp[jX,lM]at ht
theorem Ew{H:Hp}{n:Int}{xs:List V}{ds:List PyData}(t:ju K H xs ds)(ha:ds.all (jX n)=true):∀k,k+1<xs.length->∃x y,xs[k]? =some x/\xs[k+1]? =some y/\
  Te K H x y (HT.lexLt ((ds.map fun t=>(kids t).map intD).getD k []) ((ds.map fun t=>(kids t).map intD).getD (k+1) [])):=fun k hk=>by
 have hl:=t.len
 have h1:k<xs.length:=by omega
 obtain⟨d1,e1,x1⟩:=t.get (i:=k) (x:=xs[k]) (by simp[h1])
 obtain⟨d2,e2,x2⟩:=t.get (i:=k+1) (x:=xs[k+1]) (by simp[hk])
 have m1:=jT.mp ha d1 (uy e1)
 have m2:=jT.mp ha d2 (uy e2)
 obtain⟨p1,q1,s1⟩:=Cy x1 m1
 obtain⟨p2,q2,s2⟩:=Cy x2 m2
 refine⟨xs[k],xs[k+1],by simp[h1],by simp[hk],.inr ⟨p1,p2,_,_,q1,q2,s1,s2,?_⟩⟩
 have g1:(ds.map fun t=>(kids t).map intD).getD k []=(kids d1).map intD:=by rw[pN,dY,e1];rfl
 have g2:(ds.map fun t=>(kids t).map intD).getD (k+1) []=(kids d2).map intD:=by rw[pN,dY,e2];rfl
 rw[g1,g2]
theorem M9{f f1 f2:Addr}{fd d1 d2:FuncData}(F:Fun K "are_ties" "are_ties" iy f fd)(D1:bF K mg "is_set" jd ["n","thing"] f1 d1)(G1:FnOk P w K mg base CX0 4 f1 d1 ["n","thing"] (Ib K))(D2:bF K mg "is_rising" dH ["things"] f2 d2)(G2:FnOk P w K mg base CX0 1 f2 d2 ["things"] (qw K))(mi:mg "isinstance"=none)(mT:mg "tuple"=none)(mA:mg "all"=none)(mL:mg "len"=none):FnOk P w K mg base CX0 5 f fd ["n","thing"] (HN K):=by
 refine F.ok Mv (fun vs H Q E h=> ?_) (fun cdv A outer s H vs Q E hr h=> ?_)
 ·obtain⟨n,x,d,rfl,_⟩:=h
  rfl
 obtain⟨n,x,d,rfl,hx,q⟩:=h
 refine⟨_,aO (o8 (pt_not (pt_val (gQ gM rfl mi (by decide+kernel) (aj (pv 1) (aj (pe_bltn rfl mT (v:= .ty "tuple") (by decide+kernel) rfl) aq))))) (bA (cG pe_bl)) o9) (bA (cG (pe_and (gQ (mK rfl) rfl mA (by decide+kernel) (aj (oK (own:=["tie"]) (caps:=["n"]) (ix:=[0]) rfl (fV (pv 1)) rfl rfl (.cons rfl rfl .nil) (fun _ _ _ _ _=>cJ (i:=0) (show(["tie","n"]:List Str).Nodup from by decide+kernel) rfl (Or.inl rfl)) (fun _ _ _ _ _=>rY) (fun _ _ _ _ _=>pe_and (pc G1 hr D1 (aj (pv 1) (aj (pv 0) aq))) (pe_one (pe_cmpR op_eq (gQ (um K) rfl mL wk (aj (pv 0) aq)) aL (nomark _))))) aq))
  (pe_one (pc G2 hr D2 (aj (pv 1) aq)))))),?_⟩
 refine⟨_,rfl,x,_,_,rfl,hx.kind,.inr (.inr (.inl rfl)),_,rfl,?_⟩
 refine ite2 (fun c=> ?_) (fun c=> ?_)
 ·have e:lG n d=false:=by
   cases d<;>first |rfl|(exfalso;simp[Az,yc]at c;done)
  have:=q H (Same.refl _)
  rw[e]at this;exact this
 ·cases hx with
  | @tup a xs ds h t=>
   refine⟨_,rfl,a,xs,rfl,h,fun hz=> ?_⟩
   have hl:=t.len
   refine dM (xs:=xs) (fun i acc σ H'=>acc=((ds.take i).map (jX n)).map V.bl/\Same H H'/\∃o,σ=[o,some (.int n)]) ⟨rfl,Same.refl _,_,rfl⟩ (fun i acc σ H' _ p=>p.2.1.tup h) (fun i acc σ H' hi p=> ?_) hz (fun i x acc σ H' hx p=> ?_) (fun acc σ H' p=> ?_)
   ·rw[p.1];simp;omega
   ·obtain⟨rfl,sm,o,rfl⟩:=p
    obtain⟨d,e1,e2⟩:=t.get hx
    refine⟨_,rfl,_,rfl,n,x,d,rfl,DX.same sm e2,fun H1 sm1=>⟨_,rfl,?_⟩⟩
    have ea:∀b,b=jX n d->((ds.take i).map (jX n)).map V.bl++[V.bl b]=((ds.take (i+1)).map (jX n)).map V.bl:=fun b hb=>by
     rw[GJ,e1,hb];simp
    refine ite2 (fun c2=> ?_) (fun c2=> ?_)
    ·cases e2 with
     | @tup a2 xs2 ds2 h2 t2=>
      refine⟨_,rfl,a2,xs2,rfl,.inr (sm1.tup (sm.tup h2)),fun hz2=>⟨rfl,ea _ ?_,sm.trans sm1,_,rfl⟩⟩
      show decide (V.int (xs2.length:Int)=V.int 2)=(lM n (.tuple ds2)&&decide (ds2.length=2))
      rw[c2,t2.len]
      by_cases e3:ds2.length=2
      ·rw[e3];rfl
      ·rw[iY e3,iY (by intro z;injection z with z;exact e3 (by omega))];rfl
     |_=>simp[lM]at c2
    ·refine⟨ea _ ?_,sm.trans sm1,_,rfl⟩
     show false=(lM n d&&decide ((kids d).length=2))
     rw[Bool.eq_false_iff.mpr c2];rfl
   ·intro p1 hp1
    obtain⟨rfl,sm,_⟩:=p
    have sm':Same H (upd H' p1 (.lst (((ds.take xs.length).map (jX n)).map V.bl))):=sm.trans (aP hp1 _)
    refine⟨p1,(ds.map (jX n)),rfl,SqL.of (by rw[aH,hl,yZ]),_,rfl,?_⟩
    rw[rF]
    refine ite2 (fun c2=> ?_) (fun c2=> ?_)
    ·refine⟨_,rfl,a,xs,fun k=>HT.lexLt ((ds.map fun t=>(kids t).map intD).getD k []) ((ds.map fun t=>(kids t).map intD).getD (k+1) []),rfl,sm'.tup h,?_,fun H2 sm2=> ?_⟩
     ·exact Ew (ju.same sm' t) c2
     ·have e:lG n (.tuple ds)=(List.range (xs.length-1)).all fun k=>HT.lexLt ((ds.map fun t=>(kids t).map intD).getD k []) ((ds.map fun t=>(kids t).map intD).getD (k+1) []):=by
       show(ds.all (jX n)&&iB (ds.map fun t=>(kids t).map intD))=_
       rw[c2,hl]
       show iB (ds.map fun t=>(kids t).map intD)=_
       unfold iB
       rw[aM]
      have:=q H2 (sm'.trans sm2)
      rw[e]at this;exact this
    ·have e:lG n (.tuple ds)=false:=by
      show(ds.all (jX n)&&iB (ds.map fun t=>(kids t).map intD))=_
      rw[Bool.eq_false_iff.mpr c2];rfl
     have:=q _ sm'
     rw[e]at this;exact this
  |_=>exfalso;exact c rfl
end
end Hs
namespace wB
open PySem L2
def pairD(p:Int×Int):PyData:= .tuple [.int p.1,.int p.2]
def fY(n:Int)(ts:List (Int×Int)):PyData:= .tuple [.int n,.tuple (ts.map pairD)]
def dN(K:W.Frag)(H:Hp)(a:Addr)(n:Int)(ts:List (Int×Int)):Prop:=∃t rs,SqT K H a [.int n,.ref t]/\SqT K H t rs/\cB K H rs (ts.map pairD)
theorem dN.dv{K:W.Frag}{H:Hp}{a:Addr}{n:Int}{ts:List (Int×Int)}(h:dN K H a n ts):DV K H (.ref a) (fY n ts):=by
 obtain⟨t,rs,h1,h2,h3⟩:=h
 exact .tup h1 (.cons (.int n) (.cons (.tup h2 h3) .nil))
theorem dN.same{K:W.Frag}{H H':Hp}{a:Addr}{n:Int}{ts:List (Int×Int)}(h:dN K H a n ts)(e:Same H H'):dN K H' a n ts:=by
 obtain⟨t,rs,h1,h2,h3⟩:=h
 exact⟨t,rs,e.tup h1,e.tup h2,cB.same e h3⟩
def nP(ts:List (Int×Int))(i j:Int):Bool:=decide ((if j<i then j else i,if j>i then j else i)∈ts)
theorem rA(p q:Int×Int):PyData.eqv (pairD p) (pairD q)=decide (p=q):=by
 obtain⟨a,b⟩:=p
 obtain⟨c,d⟩:=q
 show((a==c)&&((b==d)&&true))=_
 rw[uE]
 simp
theorem jE:∀ts:List (Int×Int),PyData.canLayAll0 (ts.map pairD)=true
 |[]=>rfl
 |p::ts=>by
  show(PyData.canLay0 (pairD p)&&PyData.canLayAll0 (ts.map pairD))=true
  rw[jE ts];rfl
theorem yN(ts:List (Int×Int))(q:Int×Int):((ts.map pairD).any fun d=>PyData.eqv d (pairD q))=decide (q∈ts):=by
 rw[List.any_map,uE,List.any_eq_true]
 constructor
 ·rintro⟨p,hp,h⟩
  have h':PyData.eqv (pairD p) (pairD q)=true:=h
  rw[rA]at h'
  have e:p=q:=eY h'
  subst e
  exact cI hp
 ·intro h
  refine⟨q,eY h,?_⟩
  show PyData.eqv (pairD q) (pairD q)=true
  rw[rA]
  exact cI rfl
end wB
namespace Hs
open PySem L2 wB
section
variable{P:Program}{w:World}{K:W.Frag}{mg:Str->Option Value}{base:Heap}
def PB(K:W.Frag):Sp:=fun vs H Q _=>∃(x:V) (d:PyData),vs=[x]/\DX K H x d/\∀H',Same H H'->Q (.bl (su d)) H'
theorem Iv:FnScope ["thing","n"] ["thing"] (defScope lV):=fsc
theorem Rp{f f1 f2:Addr}{fd d1 d2:FuncData}{tk:Tok}(F:Fun K "is_web" "is_web" lV f fd)(D1:bF K mg "is_whole" Qw ["thing"] f1 d1)(G1:FnOk P w K mg base CX0 1 f1 d1 ["thing"] (lH K))(D2:bF K mg "are_ties" iy ["n","thing"] f2 d2)(G2:FnOk P w K mg base CX0 5 f2 d2 ["n","thing"] (HN K))(mi:mg "isinstance"=none)(mT:mg "tuple"=none)(mL:mg "len"=none)(mM:mg "MOST_PLACES"=some (.int 10 tk)):FnOk P w K mg base CX0 6 f fd ["thing"] (PB K):=by
 refine F.ok Iv (fun vs H Q E h=> ?_) (fun cdv A outer s H vs Q E hr h=> ?_)
 ·obtain⟨x,d,rfl,_⟩:=h
  rfl
 obtain⟨x,d,rfl,hx,q⟩:=h
 refine⟨_,aO (o8 (PW.pt (pw_or (pt_not (pt_val (gQ gM rfl mi (by decide+kernel) (aj (pv 0) (aj (pe_bltn rfl mT (v:= .ty "tuple") (by decide+kernel) rfl) aq)))))
   (pw_or1 (jM op_ne (gQ yX rfl mL wk (aj (pv 0) aq)) aL (nomark _))))) (bA (cG pe_bl)) o9) (aO (cg (i:=1) Iv.nd rfl (Or.inl rfl) (bK fH (pv 0) aL (fun _ _=>rfl))) (bA (cG (pe_and (pc G1 hr D1 (aj (pv 1) aq)) (pe_and (pe_chain op_le op_le aL (pv 1) (pe_glob rfl mM (v:= .int 10) ⟨_,rfl⟩))
   (pe_one (pc G2 hr D2 (aj (pv 1) (aj (bK fH (pv 0) aL (fun _ _=>rfl)) aq))))))))),?_⟩
 refine⟨_,rfl,x,_,_,rfl,hx.kind,.inr (.inr (.inl rfl)),_,rfl,?_⟩
 refine ite2 (fun c=> ?_) (fun c=> ?_)
 ·have e:su d=false:=by
   cases d<;>first |rfl|(exfalso;simp[Az,yc]at c;done)
  have:=q H (Same.refl _)
  rw[e]at this;exact this
 ·cases hx with
  | @tup a xs ds h t=>
   have hl:=t.len
   refine⟨_,rfl,a,xs,rfl,.inr h,fun hz=>⟨rfl,_,rfl,?_⟩⟩
   refine ite2 (fun c2=> ?_) (fun c2=> ?_)
   ·have e:su (.tuple ds)=false:=by
     match ds,hl with
     |[],_=>rfl
     |[_],_=>rfl
     |[_,_],hl=>
      exfalso
      have e2:(!decide (V.int (xs.length:Int)=V.int 2))=true:=c2
      rw[hl]at e2
      simp at e2
     |_::_::_::_,_=>rfl
    have:=q H (Same.refl _)
    rw[e]at this;exact this
   ·have e2:xs.length=2:=by
     have e2:¬(!decide (V.int (xs.length:Int)=V.int 2))=true:=c2
     simp at e2
     omega
    cases t with
    |nil=>simp at e2
    |cons h0 t0=>
     cases t0 with
     |nil=>simp at e2
     | @cons x1 Uh xs1 ds1 h1 t1=>
      cases t1 with
      |cons _ _=>simp at e2
      |nil=>
       rename_i x0 Ui
       refine⟨_,rfl,a,_,_,x0,rfl,rfl,h,by rfl,?_⟩
       refine⟨_,rfl,x0,Ui,rfl,h0,_,rfl,?_⟩
       refine ite2 (fun c3=> ?_) (fun c3=> ?_)
       ·cases h0 with
        |int n=>
         refine⟨_,rfl,_,_,rfl,rfl,_,rfl,?_⟩
         have fin:∀b,b=su (.tuple [.int n,Uh])->∀H',Same H H'->Q (.bl b) H':=fun b hb H' sm=>by rw[hb];exact q H' sm
         have wd:su (.tuple [.int n,Uh])=((decide (0<=n)&&decide (n<=10))&&lG n Uh):=rfl
         refine ite2 (fun c4=> ?_) (fun c4=> ?_)
         ·refine⟨_,_,rfl,rfl,_,rfl,?_⟩
          refine ite2 (fun c5=> ?_) (fun c5=> ?_)
          ·refine⟨_,rfl,_,rfl,a,_,_,x1,rfl,rfl,h,by rfl,n,x1,Uh,rfl,h1,fun H' sm=>fin _ ?_ H' sm⟩
           rw[wd,c4,c5];rfl
          ·refine fin _ ?_ H (Same.refl _)
           rw[wd,Bool.eq_false_iff.mpr c5,Bool.and_false];rfl
         ·refine⟨_,rfl,?_⟩
          refine iteF (fin _ ?_ H (Same.refl _))
          rw[wd,Bool.eq_false_iff.mpr c4];rfl
        |_=>simp[ql]at c3
       ·have e:su (.tuple [Ui,Uh])=false:=by
         show(ql Ui&&(decide (0<=intD Ui)&&decide (intD Ui<=10))&&lG (intD Ui) Uh)=false
         rw[Bool.eq_false_iff.mpr c3];rfl
        have:=q H (Same.refl _)
        rw[e]at this;exact this
  |_=>exfalso;exact c rfl
def bQ(K:W.Frag):Sp:=fun vs H Q _=>∃(x:V) (d:PyData),vs=[x]/\DX K H x d/\su d=true/\∀H',Same H H'->Q .non H'
theorem zU:FnScope ["thing"] ["thing"] (defScope Gy):=fsc
theorem Af{f f1:Addr}{fd d1:FuncData}(F:Fun K "need_web" "need_web" Gy f fd)(D1:bF K mg "is_web" lV ["thing"] f1 d1)(G1:FnOk P w K mg base CX0 6 f1 d1 ["thing"] (PB K)):FnOk P w K mg base CX0 7 f fd ["thing"] (bQ K):=by
 refine F.ok zU (fun vs H Q E h=> ?_) (fun cdv A outer s H vs Q E hr h=> ?_)
 ·obtain⟨x,d,rfl,_⟩:=h
  rfl
 obtain⟨x,d,rfl,hx,hw,q⟩:=h
 refine⟨_,bA (o8 (pt_not (pt_val (pc G1 hr D1 (aj (pv 0) aq)))) pss_never o9),?_⟩
 refine⟨_,rfl,x,d,rfl,hx,fun H' sm=>⟨_,rfl,?_⟩⟩
 rw[hw]
 exact iteF (q H' sm)
def CT(K:W.Frag):Sp:=fun vs H Q _=>∃(a:Addr) (n i j:Int) (ts:List (Int×Int)),vs=[.ref a,.int i,.int j]/\dN K H a n ts/\∀H',Same H H'->Q (.bl (nP ts i j)) H'
theorem Rg:FnScope ["web","one","other"] ["web","one","other"] (defScope eU):=fsc
theorem RG{f:Addr}{fd:FuncData}(F:Fun K "has_tie" "has_tie" eU f fd)(mi:mg "min"=none)(ma:mg "max"=none):FnOk P w K mg base CX0 1 f fd ["web","one","other"] (CT K):=by
 refine F.ok Rg (fun vs H Q E h=> ?_) (fun cdv A outer s H vs Q E hr h=> ?_)
 ·obtain⟨a,n,i,j,ts,rfl,_⟩:=h
  rfl
 obtain⟨a,n,i,j,ts,rfl,hW,q⟩:=h
 refine⟨_,bA (cG (pe_cmpR (Jz hr.units) (gP (aj (gQ (call_min2 rfl) rfl mi (by decide+kernel) (aj (pv 1) (aj (pv 2) aq))) (aj (gQ (call_max2 rfl) rfl ma (by decide+kernel) (aj (pv 1) (aj (pv 2) aq))) aq)))
  (bK fH (pv 0) aL (fun _ _=>rfl)) (by with_unfolding_all rfl))),?_⟩
 refine⟨_,rfl,_,rfl,_,_,rfl,_,rfl,_,rfl,_,_,rfl,(by show 2<=sizeLine;decide),fun p hp=> ?_⟩
 have sm:=aP hp (.tup [.int (if j<i then j else i),.int (if j>i then j else i)])
 obtain⟨t,rs,h1,h2,h3⟩:=hW.same sm
 refine⟨_,rfl,a,_,_,.ref t,rfl,rfl,h1,rfl,t,rs,_,pairD (if j<i then j else i,if j>i then j else i),rfl,.inr h2,h3,.tup (SqT.of aH) (.cons (.int _) (.cons (.int _) .nil)),jE ts,rfl,(by show max 0 (max 0 0)+1<=60;decide),?_⟩
 rw[yN]
 exact q _ sm
end
def jm(n:Int)(ts:List (Int×Int)):Prop:=su (fY n ts)=true
section
variable{P:Program}{w:World}{K:W.Frag}{mg:Str->Option Value}{base:Heap}
def tu(K:W.Frag):Sp:=fun vs H Q _=>∃(a:Addr) (n:Int) (t x:V) (d:PyData),vs=[.ref a,x]/\SqT K H a [.int n,t]/\DX K H x d/\lM n d=true/\∀H',Same H H'->Q .non H'
theorem zV:FnScope ["web","thing"] ["web","thing"] (defScope ig):=fsc
theorem Ag{f f1:Addr}{fd d1:FuncData}(F:Fun K "need_set" "need_set" ig f fd)(D1:bF K mg "is_set" jd ["n","thing"] f1 d1)(G1:FnOk P w K mg base CX0 4 f1 d1 ["n","thing"] (Ib K)):FnOk P w K mg base CX0 5 f fd ["web","thing"] (tu K):=by
 refine F.ok zV (fun vs H Q E h=> ?_) (fun cdv A outer s H vs Q E hr h=> ?_)
 ·obtain⟨a,n,t,x,d,rfl,_⟩:=h
  rfl
 obtain⟨a,n,t,x,d,rfl,ha,hx,hd,q⟩:=h
 refine⟨_,bA (o8 (pt_not (pt_val (pc G1 hr D1 (aj (bK fH (pv 0) aL (fun _ _=>rfl)) (aj (pv 1) aq))))) pss_never o9),?_⟩
 refine⟨_,rfl,a,_,_,.int n,rfl,rfl,ha,rfl,_,rfl,n,x,d,rfl,hx,fun H' sm=>⟨_,rfl,?_⟩⟩
 rw[hd]
 exact iteF (q H' sm)
def gB(K:W.Frag):Sp:=fun vs H Q _=>∃(n:Int),vs=[.int n]/\n<=10/\Q .non H
theorem zW:FnScope ["n"] ["n"] (defScope Qx):=fsc
theorem Ah{f:Addr}{fd:FuncData}{tk:Tok}(F:Fun K "need_few" "need_few" Qx f fd)(mM:mg "MOST_PLACES"=some (.int 10 tk)):FnOk P w K mg base CX0 1 f fd ["n"] (gB K):=by
 refine F.ok zW (fun vs H Q E h=> ?_) (fun cdv A outer s H vs Q E hr h=> ?_)
 ·obtain⟨n,rfl,_⟩:=h
  rfl
 obtain⟨n,rfl,hn,q⟩:=h
 refine⟨_,bA (o8 (jM op_gt (pv 0) (pe_glob rfl mM (v:= .int 10) ⟨_,rfl⟩) (nomark _)) pss_never o9),?_⟩
 refine⟨_,rfl,_,_,rfl,rfl,_,rfl,?_⟩
 rw[iY (show¬(10:Int)<n by omega)]
 exact iteF q
theorem S9{b:Bool}{A B:Prop}(h:b=true)(hA:A):if b=true then A else B:=by rw[h];exact iteT hA
theorem S8{b:Bool}{A B:Prop}(h:b=false)(hB:B):if b=true then A else B:=by rw[h];exact iteF hB
def qx(K:W.Frag):Sp:=fun vs H Q _=>∃a b i:Int,vs=[.int a,.int b,.int i]/\a<=i/\i<=b/\Q .non H
theorem Er:FnScope ["least","most","thing"] ["least","most","thing"] (defScope Uu):=fsc
theorem Fy{f f1:Addr}{fd d1:FuncData}(F:Fun K "need_from_to" "need_from_to" Uu f fd)(D1:bF K mg "is_whole" Qw ["thing"] f1 d1)(G1:FnOk P w K mg base CX0 1 f1 d1 ["thing"] (lH K)):
  FnOk P w K mg base CX0 2 f fd ["least","most","thing"] (qx K):=by
 refine F.ok Er (fun vs H Q E h=> ?_) (fun cdv A outer s H vs Q E hr h=> ?_)
 ·obtain⟨_,_,_,rfl,_⟩:=h
  rfl
 obtain⟨a,b,i,rfl,h0,h1,q⟩:=h
 refine⟨_,bA (o8 (PW.pt (pw_or (pt_not (pt_val (pc G1 hr D1 (aj (pv 2) aq)))) (pw_or1 (pt_not (pt_chain op_le op_le (pv 0) (pv 2) (pv 1)))))) pss_never o9),?_⟩
 refine⟨_,rfl,.int i,.int i,rfl,.int i,_,rfl,?_⟩
 refine iteF ?_
 refine⟨_,rfl,_,rfl,_,_,rfl,rfl,_,rfl,?_⟩
 refine S9 (cI h0) ?_
 refine⟨_,rfl,_,_,rfl,rfl,_,rfl,?_⟩
 refine S8 (by rw[cI h1];rfl) q
end
end Hs
namespace L2
open PySem
def aV(t:Addr)(H H':Hp):Prop:=∀b o,b≠t->H b=some o->H' b=some o
theorem aV.refl(t:Addr)(H:Hp):aV t H H:=fun _ _ _ h=>h
theorem aV.trans{t:Addr}{H H1 H2:Hp}(a:aV t H H1)(b:aV t H1 H2):aV t H H2:=fun c o n h=>b c o n (a c o n h)
theorem Same.x{H H':Hp}(h:Same H H')(t:Addr):aV t H H':=fun b o _ e=>h b o e
theorem aV.upd{t:Addr}{H H':Hp}{o:HO}(h:aV t H H'):aV t H (upd H' t o):=fun b u n e=>by rw[cL n];exact h b u n e
def yO(K:W.Frag)(H:Hp)(pB:Addr)(ns:List Int):Prop:=(∃o,H pB=some (.frz o (.lst (ns.map V.int))))\/
 ∃(o:Obj) (its:Array Value) (n:Nat),K.lookup pB=some o/\o.cls= .type "list"/\o.dict=none/\o.data= .seq its n/\its.size<=sizeLine/\Vals (ns.map V.int) its.toList
theorem yO.sq{K:W.Frag}{H:Hp}{pB:Addr}{ns:List Int}(h:yO K H pB ns):SqL K H pB (ns.map V.int):=by
 rcases h with⟨o,h⟩|h
 ·exact .inl (.inr ⟨o,h⟩)
 ·exact .inr h
theorem yO.same{K:W.Frag}{H H':Hp}{pB:Addr}{ns:List Int}(h:yO K H pB ns)(e:Same H H'):yO K H' pB ns:=by
 rcases h with⟨o,h⟩|h
 ·exact .inl ⟨o,e _ _ h⟩
 ·exact .inr h
theorem lay_ints:∀ns:List Int,PyData.canLayAll0 (ns.map PyData.int)=true
 |[]=>rfl
 |n::ns=>by
  show(true&&PyData.canLayAll0 (ns.map PyData.int))=true
  rw[lay_ints ns];rfl
theorem JT{H:Hp}{a b:Addr}{o:HO}(h:H a=some o)(n:H b=none):b≠a:=fun e=>by rw[e,h]at n;cases n
end L2
namespace Hs
open PySem L2 wB
section
variable{P:Program}{w:World}{K:W.Frag}{mg:Str->Option Value}{base:Heap}
theorem Aq(a:Int){b:Int}(h:0<b):0<=a %b:=Int.emod_nonneg _ (by omega)
theorem mod_lt(a:Int){b:Int}(h:0<b):a %b<b:=Int.emod_lt_of_pos _ h
theorem Ot{ns:List Int}{k:Int}(h0:0<=k)(h1:k<(ns.length:Int)):∃v:Int,atI (ns.map V.int) k=some (.int v):=by
 have hk:k.toNat<ns.length:=by omega
 have ek:((k.toNat:Nat):Int)=k:=by omega
 have q:atI (ns.map V.int) ((k.toNat:Nat):Int)=some (.int ns[k.toNat]):=atI_nat (by rw[dY,fX hk];rfl)
 rw[ek]at q
 exact⟨_,q⟩
def Ih(K:W.Frag):Sp:=fun vs H Q _=>∃(pB:Addr) (ns:List Int) (k:Int),vs=[.ref pB,.int k]/\yO K H pB ns/\0<=k/\∀c:Int,Q (.int c) H
theorem Mw:FnScope ["script","k"] ["script","k"] (defScope fO):=fsc
theorem Ng{f:Addr}{fd:FuncData}(F:Fun K "_law_acell" "_law_acell" fO f fd)(mL:mg "len"=none):FnOk P w K mg base CX0 1 f fd ["script","k"] (Ih K):=by
 refine F.ok Mw (fun vs H Q E h=> ?_) (fun cdv A outer s H vs Q E hr h=> ?_)
 ·obtain⟨m,n,k,rfl,_⟩:=h
  rfl
 obtain⟨pB,ns,k,rfl,hS,hk,q⟩:=h
 refine⟨_,aO (o8 (jM op_lt (pv 1) (gQ yX rfl mL wk (aj (pv 0) aq)) (nomark _)) (bA (cG (bK oJ (pv 0) (pv 1) (fun _ _=>rfl)))) o9) (bA (cG aL)),?_⟩
 refine⟨_,rfl,_,rfl,pB,_,rfl,.inl hS.sq,fun hz=>⟨_,_,rfl,rfl,_,rfl,?_⟩⟩
 refine ite2 (fun c=> ?_) (fun c=> ?_)
 ·have c3:k<((ns.map V.int).length:Int):=eY c
  rw[aM]at c3
  obtain⟨v,hx⟩:=Ot hk c3
  exact⟨_,rfl,_,rfl,pB,_,_,_,rfl,rfl,hS.sq,hx,q v⟩
 ·exact q 0
def HS(K:W.Frag):Sp:=fun vs H Q _=>∃(pB:Addr) (ns:List Int) (k:Int),vs=[.ref pB,.int k]/\yO K H pB ns/\0<=k/\∀p H' t,Same H H'->H' p=some (.lst [.int t])->H p=none->Q (.ref p) H'
theorem fK:FnScope ["script","k","cell","p","number","last","turn"] ["script","k"] (defScope fM):=fsc
theorem Nb{f f1:Addr}{fd d1:FuncData}(F:Fun K "_law_atape" "_law_atape" fM f fd)(D1:bF K mg "_law_acell" fO ["script","k"] f1 d1)(G1:FnOk P w K mg base CX0 1 f1 d1 ["script","k"] (Ih K))(mR:mg "range"=none):
  FnOk P w K mg base CX0 2 f fd ["script","k"] (HS K):=by
 refine F.ok fK (fun vs H Q E h=> ?_) (fun cdv A outer s H vs Q E hr h=> ?_)
 ·obtain⟨m,n,k,rfl,_⟩:=h
  rfl
 obtain⟨pB,ns,k,rfl,hS,hk,q⟩:=h
 refine⟨_,aO (cg (i:=2) fK.nd rfl (Or.inl rfl) (pc G1 hr D1 (aj (pv 0) (aj (pv 1) aq)))) (aO (o8 (jM op_eq (bH op_mod (pv 2) aL) aL (nomark _)) (bA (cG (wD (aj (bH op_fdiv (pv 2) aL) aq)))) o9) (aO (cg (i:=3) fK.nd rfl (Or.inl rfl) aL) (aO (cg (i:=4) fK.nd rfl (Or.inl rfl) aL) (aO (cg (i:=5) fK.nd rfl (Or.inl rfl) (bH op_mod (bH pI (bH pI (bH rW (bH op_mod (pv 2) (pv 3)) aL) (bH rW aL (pv 1))) aL) (pv 3))) (aO (ps_for was rfl (zp rfl mR (aj aL aq)) (cJ (i:=6) fK.nd rfl (Or.inl rfl)) (aO (cg (i:=4) fK.nd rfl (Or.inl rfl) (bH pI (bH rW (pv 4) (pv 3)) (pv 5))) (bA (cg (i:=5) fK.nd rfl (Or.inl rfl) (bH op_mod (bH pI (bH pI (bH rW (pv 5) (pv 5)) (bH rW aL (pv 1))) (pv 6)) (pv 3)))))) (bA (cG (wD (aj (pv 4) aq))))))))),?_⟩
 refine⟨_,rfl,_,rfl,pB,ns,k,rfl,hS,hk,fun c=> ?_⟩
 refine⟨_,rfl,_,_,rfl,rfl,(by show(0:Int)<2;decide),rfl,_,rfl,?_⟩
 refine ite2 (fun c1=> ?_) (fun c1=> ?_)
 ·exact⟨_,rfl,_,_,rfl,rfl,⟨by decide,by decide⟩,(by show 1<=sizeLine;decide),fun p hp=>q p _ _ (aP hp _) aH hp⟩
 ·refine⟨_,rfl,_,rfl,_,_,rfl,rfl,(by show(0:Int)<2305843009213693951;decide),_,_,rfl,rfl,.inr ⟨by decide,by decide⟩,_,rfl,_,_,rfl,rfl,.inl ⟨by decide,by decide⟩,_,_,rfl,rfl,_,_,rfl,rfl,_,rfl,_,_,rfl,rfl,(by show(0:Int)<2305843009213693951;decide),?_⟩
  generalize hfirst:((fun i j=>V.int (i %j)) _ _:V)=vf
  obtain⟨a1,e1,a2,a3⟩:∃a:Int,vf= .int a/\0<=a/\a<2305843009213693951:=⟨_,hfirst.symm,Aq _ (by decide),mod_lt _ (by decide)⟩
  rw[e1]
  refine⟨9,rfl,by decide,by decide,?_⟩
  refine Lw (n:=9) (fun i σ H'=>H'=H/\∃(b l:Int) (o:Option V),σ=[some (.ref pB),some (.int k),some (.int c),some (.int 2305843009213693951),some (.int b),some (.int l),o]/\0<=l/\l<2305843009213693951) ⟨rfl,_,_,_,rfl,a2,a3⟩ (fun i σ H' hi p=> ?_) (fun σ H' p=> ?_)
  ·obtain⟨rfl,b,l,o,rfl,h0,h1⟩:=p
   refine⟨_,rfl,_,rfl,_,_,rfl,rfl,.inr ⟨by decide,by decide⟩,_,rfl,_,_,rfl,rfl,?_⟩
   refine⟨_,rfl,_,rfl,_,_,rfl,rfl,.inl ⟨by omega,by omega⟩,_,rfl,_,_,rfl,rfl,.inl ⟨by decide,by decide⟩,_,_,rfl,rfl,_,rfl,_,_,rfl,rfl,_,rfl,_,_,rfl,rfl,(by show(0:Int)<2305843009213693951;decide),?_⟩
   exact⟨rfl,_,_,_,rfl,Aq _ (by decide),mod_lt _ (by decide)⟩
  ·obtain⟨rfl,b,l,o,rfl,h0,h1⟩:=p
   exact⟨_,rfl,(by show 1<=sizeLine;decide),fun p hp=>q p _ _ (aP hp _) aH hp⟩
def Ig(K:W.Frag):Sp:=fun vs H Q _=>∃(tp:Addr) (t m:Int),vs=[.ref tp,.int m]/\H tp=some (.lst [.int t])/\0<m/\m<1000000000000000000000000000000/\∀r t':Int,0<=r->r<m->Q (.int r) (upd H tp (.lst [.int t']))
theorem I9:FnScope ["tape","many","found"] ["tape","many"] (defScope Us):=fsc
theorem RJ{f:Addr}{fd:FuncData}(F:Fun K "_law_adigit" "_law_adigit" Us f fd):FnOk P w K mg base CX0 1 f fd ["tape","many"] (Ig K):=by
 refine F.ok I9 (fun vs H Q E h=> ?_) (fun cdv A outer s H vs Q E hr h=> ?_)
 ·obtain⟨m,n,k,rfl,_⟩:=h
  rfl
 obtain⟨tp,t,m,rfl,hH,hm0,hm1,q⟩:=h
 refine⟨_,aO (cg (i:=2) I9.nd rfl (Or.inl rfl) (bH op_mod (bK oJ (pv 0) aL (fun _ _=>rfl)) (pv 1))) (aO (ps_asg (bH jg (bK oJ (pv 0) aL (fun _ _=>rfl)) (pv 1)) (pg_sub (pv 0) aL set_list)) (bA (cG (pv 2)))),?_⟩
 refine⟨_,rfl,tp,_,_,.int t,rfl,rfl,SqL.of hH,rfl,_,rfl,_,_,rfl,rfl,hm0,?_⟩
 refine⟨_,rfl,tp,_,_,.int t,rfl,rfl,SqL.of hH,rfl,_,rfl,_,_,rfl,rfl,⟨hm0,hm1⟩,_,rfl,tp,_,_,0,rfl,rfl,hH,rfl,?_⟩
 exact⟨_,rfl,q _ _ (Aq _ hm0) (mod_lt _ hm0)⟩
end
end Hs
namespace L2
open PySem
theorem cB.append{K:W.Frag}{H:Hp}{xs ys:List V}{ds es:List PyData}(h:cB K H xs ds)(h':cB K H ys es):cB K H (xs++ys) (ds++es):=
 cB.rec (motive_1:=fun _ _ _=>True) (motive_2:=fun xs ds _=>cB K H (xs++ys) (ds++es)) trivial (fun _=>trivial) (fun _=>trivial) (fun _=>trivial) (fun _ _ _=>trivial) (fun _ _ _=>trivial) (fun _=>trivial) (fun _ _=>trivial) h' (fun h _ _ t=> .cons h t) h
theorem aV.tup{K:W.Frag}{t:Addr}{H H':Hp}{a:Addr}{xs zs:List V}(e:aV t H H')(n:H t=some (.lst zs))(h:SqT K H a xs):SqT K H' a xs:=by
 rcases h with(h|⟨o,h⟩)|h
 ·exact .inl (.inl (e _ _ (ne_of h n (by intro z;cases z)) h))
 ·exact .inl (.inr ⟨o,e _ _ (ne_of h n (by intro z;cases z)) h⟩)
 ·exact .inr h
end L2
namespace wB
open PySem L2
theorem Ti{K:W.Frag}{t:Addr}{H H':Hp}{zs:List V}(e:aV t H H')(n:H t=some (.lst zs)){rs:List V}{ps:List (Int×Int)}(h:cB K H rs (ps.map pairD)):cB K H' rs (ps.map pairD):=by
 induction ps generalizing rs with
 |nil=>cases h;exact .nil
 |cons p ps ih=>
  cases h with
  |cons h tl=>
   refine .cons ?_ (ih tl)
   cases h with
   |tup h hd=>
    cases hd with
    |cons a1 t1=>
     cases a1
     cases t1 with
     |cons a2 t2=>
      cases a2
      cases t2
      exact .tup (e.tup n h) (.cons (.int _) (.cons (.int _) .nil))
theorem dN.Jc{K:W.Frag}{t:Addr}{H H':Hp}{zs:List V}{a:Addr}{n:Int}{ts:List (Int×Int)}(h:dN K H a n ts)(e:aV t H H')(hn:H t=some (.lst zs)):dN K H' a n ts:=by
 obtain⟨u,rs,h1,h2,h3⟩:=h
 exact⟨u,rs,e.tup hn h1,e.tup hn h2,Ti e hn h3⟩
structure Sub(j:Nat)(l:List Int):Prop where
 nd:l.Nodup
 lt:∀i∈l,0<=i/\i<(j:Int)
theorem gH{α:Type} [DecidableEq α]:∀{l m:List α},l.Nodup->(∀a∈l,a∈m)->l.length<=m.length
 |[],m,_,_=>cY _
 |a::l,m,nd,h=>by
  have ha:=h a jV
  have nd':=Hl.mp nd
  have q:∀b∈l,b∈m.erase a:=fun b hb=>by
   have hne:b≠a:=fun e=>nd'.1 (e▸hb)
   exact(List.mem_erase_of_ne hne).mpr (h b (iZ _ hb))
  have:=gH nd'.2 q
  have e:=List.length_erase_of_mem ha
  have:0<m.length:=wcc ha
  simp only[wK]
  omega
theorem Sub.len{j:Nat}{l:List Int}(h:Sub j l):l.length<=j:=by
 have q:=gH (m:=(List.range j).map fun(k:Nat)=>(k:Int)) h.nd fun i hi=>by
  have:=h.lt i hi
  exact jw.mpr ⟨i.toNat,m8.mpr (by omega),by omega⟩
 simpa using q
structure aD(n:Int)(ps:List (Int×Int)):Prop where
 nd:ps.Nodup
 lt:∀p∈ps,0<=p.1/\p.1<p.2/\p.2<n
def Xu(n:Nat):List (Int×Int):=((List.range n).map fun(j:Nat)=>(List.range j).map fun(i:Nat)=>((i:Int),(j:Int))).flatten
theorem pairs_len{n:Int}{ps:List (Int×Int)}(h:aD n ps)(hn:n<=10):ps.length<=45:=by
 have q:=gH (m:=Xu 10) h.nd fun p hp=>by
  obtain⟨h0,h1,h2⟩:=h.lt p hp
  obtain⟨a,b⟩:=p
  dsimp only at h0 h1 h2
  refine List.mem_flatten.mpr ⟨(List.range b.toNat).map fun(i:Nat)=>((i:Int),((b.toNat:Nat):Int)),jw.mpr ⟨b.toNat,m8.mpr (by omega),rfl⟩,jw.mpr ⟨a.toNat,m8.mpr (by omega),?_⟩⟩
  have e1:((a.toNat:Nat):Int)=a:=by omega
  have e2:((b.toNat:Nat):Int)=b:=by omega
  rw[e1,e2]
 have e:(Xu 10).length=45:=by decide
 omega
def pl(p:Int×Int):List Int:=[p.1,p.2]
theorem Js{p q:Int×Int}(h:pl p=pl q):p=q:=by
 obtain⟨a,b⟩:=p
 obtain⟨c,d⟩:=q
 unfold pl at h
 simp at h
 rw[h.1,h.2]
theorem J5{a b:List Int}(h:HT.lexLt b a=false)(ne:a≠b):HT.lexLt a b=true:=by
 rw[HT.bB]at h⊢
 have h1:¬b<a:=Vo h
 have h2:a<=b:=GC.mp h1
 refine cI ?_
 rcases Classical.em (a<b)with h3|h3
 ·exact h3
 ·exact absurd (ZF h2 (GC.mp h3)) ne
theorem HJ{n:Int}{p:Int×Int}(h0:0<=p.1)(h1:p.1<p.2)(h2:p.2<n):jX n (pairD p)=true:=by
 show((bR n (.int p.1)&&(bR n (.int p.2)&&true))&&iC [p.1,p.2]&&decide (([PyData.int p.1,PyData.int p.2]).length=2))=true
 have e1:bR n (.int p.1)=true:=by
  show(decide (0<=p.1)&&decide (p.1<n))=true
  rw[cI h0,cI (by omega)];rfl
 have e2:bR n (.int p.2)=true:=by
  show(decide (0<=p.2)&&decide (p.2<n))=true
  rw[cI (by omega),cI h2];rfl
 have e3:iC [p.1,p.2]=true:=by
  show(decide (p.1<p.2)&&true)=true
  rw[cI h1];rfl
 rw[e1,e2,e3];rfl
theorem Ht{n:Int}{ts:List (Int×Int)}(hn0:0<=n)(hn1:n<=10)(h:aD n ts)(hs:ts.Pairwise fun p q=>HT.lexLt (pl q) (pl p)=false):su (fY n ts)=true:=by
 show(true&&(decide (0<=n)&&decide (n<=10))&&((ts.map pairD).all (jX n)&&iB ((ts.map pairD).map fun t=>(kids t).map intD)))=true
 have e1:(ts.map pairD).all (jX n)=true:=by
  rw[Zq,jT]
  intro p hp
  obtain⟨h0,h1,h2⟩:=h.lt p hp
  exact HJ h0 h1 h2
 have e2:(ts.map pairD).map (fun t=>(kids t).map intD)=ts.map pl:=by rw[zq];rfl
 have e3:iB (ts.map pl)=true:=by
  unfold iB
  rw[jT]
  intro k hk
  have hk':k<ts.length-1:=by simpa using hk
  have g1:(ts.map pl).getD k []=pl ts[k]:=by rw[pN,dY,fX (by omega)];rfl
  have g2:(ts.map pl).getD (k+1) []=pl ts[k+1]:=by rw[pN,dY,fX (by omega)];rfl
  rw[g1,g2]
  refine J5 (Yk.mp hs k (k+1) (by omega) (by omega) (by omega)) fun e=> ?_
  have:=(List.getElem_inj h.nd).mp (Js e)
  omega
 rw[cI hn0,cI hn1,e1,e2,e3];rfl
theorem yd{K:W.Frag}{H:Hp}{rs:List V}{ps:List (Int×Int)}(h:cB K H rs (ps.map pairD)):∃its:List (Addr×(Int×Int)),rs=its.map (fun p=>V.ref p.1)/\its.map (·.2)=ps/\∀p∈its,SqT K H p.1 ((pl p.2).map V.int):=by
 induction ps generalizing rs with
 |nil=>cases h;exact⟨[],rfl,rfl,fun p h=>(nomatch h)⟩
 |cons p ps ih=>
  cases h with
  |cons h tl=>
   obtain⟨its,e1,e2,e3⟩:=ih tl
   cases h with
   | @tup a _ _ h hd=>
    cases hd with
    |cons a1 t1=>
     cases a1
     cases t1 with
     |cons a2 t2=>
      cases a2
      cases t2
      refine⟨(a,p)::its,by rw[e1];rfl,by rw[<-e2];rfl,fun q hq=> ?_⟩
      rcases eN.mp hq with e|e
      ·rw[e];exact h
      ·exact e3 q e
theorem qT{K:W.Frag}{H:Hp}:∀(its:List (Addr×(Int×Int))),(∀p∈its,SqT K H p.1 ((pl p.2).map V.int))->cB K H (its.map fun p=>V.ref p.1) ((its.map (·.2)).map pairD)
 |[],_=> .nil
 |p::its,h=> .cons (.tup (h p jV) (.cons (.int _) (.cons (.int _) .nil))) (qT its fun q hq=>h q (iZ _ hq))
theorem oV:∀ts:List (Int×Int),PyData.depthAll (ts.map pairD)<=1
 |[]=>cY _
 |p::ts=>by
  show max (max 0 (max 0 0)+1) (PyData.depthAll (ts.map pairD))<=1
  have:=oV ts
  omega
def aG(ts:List (Int×Int))(i j:Int):Bool:=decide ((i,j)∈ts)||decide ((j,i)∈ts)
theorem tied_eq{n:Int}{ts:List (Int×Int)}(h:aD n ts)(i j:Int):nP ts i j=aG ts i j:=by
 unfold nP aG
 have no:∀{a b:Int},b<=a->decide ((a,b)∈ts)=false:=fun{a b} hab=>iY fun hm=>by
  have:=(h.lt _ hm).2.1
  dsimp only at this
  omega
 rcases Int.lt_trichotomy i j with c|c|c
 ·rw[ao (show¬j<i by omega),aA (show j>i by omega),no (show i<=j by omega),Ve]
 ·subst c
  rw[ao (show¬i<i by omega),Bool.or_self]
  try rw[ao (show¬i>i by omega)]
 ·rw[aA (show j<i by omega),ao (show¬j>i by omega),no (show j<=i by omega),Bool.false_or]
end wB
namespace Hs
open PySem L2 wB
def fG(p q:Int×Int):Prop:=p.1<q.1\/(p.1=q.1/\p.2<q.2)
theorem fG.trans{p q r:Int×Int}(a:fG p q)(b:fG q r):fG p r:=by
 unfold fG at *;omega
theorem fG.Qj{p:Int×Int}(a:fG p p):False:=by
 unfold fG at a;omega
theorem eq_of_sorted:∀{l m:List (Int×Int)},l.Pairwise fG->m.Pairwise fG->(∀p,p∈l↔p∈m)->l=m
 |[],[],_,_,_=>rfl
 |[],q::m,_,_,h=>absurd ((h q).mpr (jV ..)) (by simp)
 |p::l,[],_,_,h=>absurd ((h p).mp (jV ..)) (by simp)
 |p::l,q::m,hl,hm,h=>by
  rw[ZR]at hl hm
  have e:p=q:=by
   rcases eN.mp ((h p).mp (jV ..))with e|e
   ·exact e
   rcases eN.mp ((h q).mpr (jV ..))with e'|e'
   ·exact e'.symm
   exact(fG.Qj ((hl.1 _ e').trans (hm.1 _ e))).elim
  subst e
  have:l=m:=eq_of_sorted hl.2 hm.2 (fun r=>by
   have hr:=h r
   rw[eN,eN]at hr
   constructor
   ·intro hi
    rcases hr.mp (.inr hi)with e|e
    ·subst e;exact(fG.Qj (hl.1 _ hi)).elim
    ·exact e
   ·intro hi
    rcases hr.mpr (.inr hi)with e|e
    ·subst e;exact(fG.Qj (hm.1 _ hi)).elim
    ·exact e)
  rw[this]
theorem vC{p q:Int×Int}(h:HT.lexLt (pl p) (pl q)=true):fG p q:=by
 rw[HT.bB]at h
 have:=eY h
 unfold pl at this
 rw[Yh]at this
 rcases this with a|⟨a,b⟩
 ·exact .inl a
 ·rw[Yh]at b
  rcases b with b|⟨_,b⟩
  ·exact .inr ⟨a,b⟩
  ·exact absurd b (by simp)
theorem Nv{p q:Int×Int}(h:HT.lexLt (pl q) (pl p)=false)(ne:p≠q):fG p q:=vC (J5 h (fun e=>ne (Js e)))
theorem qG{l:List (Int×Int)}(hs:l.Pairwise fun p q=>HT.lexLt (pl q) (pl p)=false)(nd:l.Nodup):l.Pairwise fG:=
 (List.Pairwise.and hs nd).imp fun h=>Nv h.1 h.2
theorem pC{l:List (Int×Int)}(h:∀k,(hk:k+1<l.length)->fG l[k] l[k+1]):l.Pairwise fG:=by
 rw[Yk]
 intro i j hi hj hij
 have go:∀d:Nat,(hd:i+1+d<l.length)->fG l[i] l[i+1+d]:=by
  intro d
  induction d with
  |zero=>intro hd;exact h i hd
  |succ d ih=>intro hd;exact(ih (by omega)).trans (h (i+1+d) hd)
 have e:j=i+1+(j-i-1):=by omega
 have:=go (j-i-1) (by omega)
 simpa[<-e]using this
theorem eX{n:Int}{ts:List (Int×Int)}(h:jm n ts):ts.Pairwise fG:=by
 have h1:lG n (.tuple (ts.map pairD))=true:=by
  unfold jm fY su at h
  rw[qm]at h
  exact h.2
 unfold lG at h1
 rw[qm]at h1
 have h2:=h1.2
 unfold iB at h2
 rw[jT]at h2
 refine pC fun k hk=> ?_
 have e:(List.map (fun t=>(kids t).map intD) (ts.map pairD))=ts.map pl:=by
  rw[zq];rfl
 rw[e,aM]at h2
 have h3:=h2 k (by rw[m8];omega)
 have g:∀j,(hj:j<ts.length)->(ts.map pl).getD j []=pl ts[j]:=fun j hj=>by
  rw[pN,dY,fX hj];rfl
 rw[g k (by omega),g (k+1) hk]at h3
 exact vC h3
def row(so:Int->Int->Bool)(i:Int)(k:Nat):List (Int×Int):=((List.range k).map fun(t:Nat)=>(i,i+1+(t:Int))).filter fun p=>so p.1 p.2
def rows(so:Int->Int->Bool)(m:Int)(i:Nat):List (Int×Int):=((List.range i).map fun(t:Nat)=>row so (0+(t:Int)) (m-(0+(t:Int)+1)).toNat).flatten
theorem xr(so:Int->Int->Bool)(i:Int)(k:Nat):row so i (k+1)=row so i k++(if so i (i+1+(k:Int))=true then[(i,i+1+(k:Int))]else[]):=by
 unfold row
 rw[wI,cu,LR]
 congr 1
 show List.filter _ [(i,i+1+(k:Int))]=_
 rw[GD]
 rfl
theorem jB(so:Int->Int->Bool)(m:Int)(i:Nat):rows so m (i+1)=rows so m i++row so (0+(i:Int)) (m-(0+(i:Int)+1)).toNat:=by
 unfold rows
 rw[wI,cu,List.flatten_append]
 simp
theorem p8{so:Int->Int->Bool}{i:Int}{k:Nat}{p:Int×Int}:p∈row so i k↔p.1=i/\i<p.2/\p.2<i+1+(k:Int)/\so p.1 p.2=true:=by
 unfold row
 rw[iR,jw]
 constructor
 ·rintro⟨⟨t,ht,rfl⟩,h⟩
  rw[m8]at ht
  exact⟨rfl,by show i<i+1+(t:Int);omega,by show i+1+(t:Int)<_;omega,h⟩
 ·rintro⟨h1,h2,h3,h4⟩
  refine⟨⟨(p.2-i-1).toNat,by rw[m8];omega,?_⟩,h4⟩
  apply Cr
  ·exact h1.symm
  ·show i+1+(((p.2-i-1).toNat:Nat):Int)=p.2;omega
theorem wH{so:Int->Int->Bool}{m:Int}:∀{i:Nat} {p:Int×Int},p∈rows so m i↔0<=p.1/\p.1<(i:Int)/\p.1<p.2/\p.2<m/\so p.1 p.2=true
 |0,p=>by
  constructor
  ·intro h;simp[rows]at h
  ·intro h;omega
 |i+1,p=>by
  rw[jB,lD,wH (i:=i),p8]
  constructor
  ·rintro(h|h)
   ·exact⟨h.1,by omega,h.2.2⟩
   ·exact⟨by omega,by omega,by omega,by omega,h.2.2.2⟩
  ·rintro⟨h1,h2,h3,h4,h5⟩
   by_cases e:p.1<(i:Int)
   ·exact .inl ⟨h1,e,h3,h4,h5⟩
   ·exact .inr ⟨by omega,by omega,by omega,h5⟩
theorem qK(so:Int->Int->Bool)(i:Int)(k:Nat):(row so i k).Pairwise fG:=by
 unfold row
 refine List.Pairwise.filter _ ?_
 rw[Ck]
 exact U6.imp fun h=> .inr ⟨rfl,by show i+1+_<i+1+_;omega⟩
theorem Li(so:Int->Int->Bool)(m:Int):∀i:Nat,(rows so m i).Pairwise fG
 |0=>by unfold rows;exact List.Pairwise.nil
 |i+1=>by
  rw[jB,Tr]
  refine⟨Li so m i,qK so _ _,fun p hp q hq=> ?_⟩
  rw[wH]at hp
  rw[p8]at hq
  exact .inl (by omega)
theorem rows_eq{so:Int->Int->Bool}{m:Int}{l:List (Int×Int)}(hm:0<=m)(hs:l.Pairwise fG)(h:∀p:Int×Int,p∈l↔0<=p.1/\p.1<p.2/\p.2<m/\so p.1 p.2=true):l=rows so m m.toNat:=by
 refine eq_of_sorted hs (Li so m _) fun p=> ?_
 rw[h,wH]
 constructor
 ·rintro⟨a,b,c,d⟩;exact⟨a,by omega,b,c,d⟩
 ·rintro⟨a,b,c,d,e⟩;exact⟨a,c,d,e⟩
theorem uV{so:Int->Int->Bool}{m:Int}{i:Nat}:aD m (rows so m i):=
 ⟨(Li so m i).imp fun h e=>by subst e;exact fG.Qj h,fun p hp=>by rw[wH]at hp;exact⟨hp.1,hp.2.2.1,hp.2.2.2.1⟩⟩
theorem gG{l:List (Int×Int)}(h:l.Pairwise fG):l.Nodup:=h.imp fun h e=>by subst e;exact fG.Qj h
end Hs
namespace L2
open PySem
theorem cB.get'{K:W.Frag}{H:Hp}:∀{xs:List V} {ds:List PyData} {i:Nat},cB K H xs ds->i<ds.length->∃x d,xs[i]? =some x/\ds[i]? =some d/\DV K H x d
 |_,_,i,.nil,h=>by simp at h
 |_,_,0,.cons h _,_=>⟨_,_,rfl,rfl,h⟩
 |_,_,i+1,.cons _ t,h=>by
  obtain⟨x,d,h1,h2,h3⟩:=cB.get' (i:=i) t (by simpa using h)
  exact⟨x,d,by simpa using h1,by simpa using h2,h3⟩
end L2
namespace Hs
open PySem L2 wB
structure bJ(K:W.Frag)(H:Hp)(a:Addr)(n:Int)(ts:List (Int×Int)):Prop where
 web:dN K H a n ts
 h0:0<=n
 h1:n<=10
 pk:aD n ts
 ok:jm n ts
theorem bJ.same{K:W.Frag}{H H':Hp}{a:Addr}{n:Int}{ts:List (Int×Int)}(h:bJ K H a n ts)(e:Same H H'):bJ K H' a n ts:=⟨h.web.same e,h.h0,h.h1,h.pk,h.ok⟩
theorem bJ.Jc{K:W.Frag}{H H':Hp}{t a:Addr}{zs:List V}{n:Int}{ts:List (Int×Int)}(h:bJ K H a n ts)(e:aV t H H')(hn:H t=some (.lst zs)):bJ K H' a n ts:=⟨h.web.Jc e hn,h.h0,h.h1,h.pk,h.ok⟩
theorem bJ.len{K:W.Frag}{H:Hp}{a:Addr}{n:Int}{ts:List (Int×Int)}(h:bJ K H a n ts):ts.length<=45:=pairs_len h.pk h.h1
theorem bJ.Q6{K:W.Frag}{H:Hp}{a:Addr}{n:Int}{ts:List (Int×Int)}(h:bJ K H a n ts):ts.Pairwise fG:=eX h.ok
def tt(_ _:Int):Bool:=true
theorem Dq{p q:Int×Int}(h:fG p q):HT.lexLt (pl q) (pl p)=false:=by
 rw[HT.bB]
 refine iY fun z=> ?_
 have:fG q p:=vC (by rw[HT.bB];exact cI z)
 exact fG.Qj (h.trans this)
theorem zB{n:Int}{ts:List (Int×Int)}{i:Nat}(h0:0<=n)(h1:n<=10)(h:ts.Sublist (rows tt n i)):aD n ts/\jm n ts:=by
 have hs:ts.Pairwise fG:=(Li tt n i).sublist h
 have ho:aD n ts:=⟨gG hs,fun p hp=>(uV (so:=tt) (m:=n) (i:=i)).lt p (h.subset hp)⟩
 exact⟨ho,Ht h0 h1 ho (hs.imp Dq)⟩
theorem jD{K:W.Frag}{H:Hp}{rs:List V}{ps:List (Int×Int)}{i:Nat}{x:V}(h:cB K H rs (ps.map pairD))(hx:rs[i]? =some x):∃(t:Addr) (hi:i<ps.length),x= .ref t/\SqT K H t [.int (ps[i]).1,.int (ps[i]).2]:=by
 have hlen:=h.len
 rw[aM]at hlen
 have hi:i<ps.length:=by rw[<-hlen];exact(pL.mp hx).1
 obtain⟨x',d,e1,e2,e3⟩:=cB.get' (i:=i) h (by rw[aM];exact hi)
 rw[hx]at e1;cases e1
 rw[dY,fX hi]at e2
 cases e2
 cases e3 with
 |tup hp tp=>
  cases tp with
  |cons ta tb=>
   cases tb with
   |cons tc td=>
    cases td
    cases ta
    cases tc
    exact⟨_,hi,rfl,hp⟩
theorem Qq{xs:List Int}{i:Int}(h0:0<=i)(h1:i<(xs.length:Int)):atI (xs.map V.int) i=some (.int (xs.getD i.toNat 0)):=by
 have hk:i.toNat<xs.length:=by omega
 have ek:((i.toNat:Nat):Int)=i:=by omega
 have q:atI (xs.map V.int) ((i.toNat:Nat):Int)=some (.int (xs.getD i.toNat 0)):=atI_nat (by rw[dY,fX hk,pN,fX hk];rfl)
 rw[ek]at q
 exact q
def fW(K:W.Frag)(H:Hp)(l:Addr)(R:List (Int×Int))(P:Int×Int->Prop):Prop:=∃(rs:List V) (ts:List (Int×Int)),H l=some (.lst rs)/\cB K H rs (ts.map pairD)/\ts.Sublist R/\∀p∈ts,P p
theorem fW.nil{K:W.Frag}{H:Hp}{l:Addr}{R:List (Int×Int)}{P:Int×Int->Prop}(h:H l=some (.lst [])):fW K H l R P:=⟨[],[],h,.nil,List.nil_sublist _,fun p hp=>(nomatch hp)⟩
theorem fW.step{K:W.Frag}{H H':Hp}{l c:Addr}{R:List (Int×Int)}{P:Int×Int->Prop}{zs:List V}(h:fW K H l R P)(e:aV c H H')(hc:H c=some (.lst zs))(n:l≠c):fW K H' l R P:=by
 obtain⟨rs,ts,h1,h2,h3⟩:=h
 exact⟨rs,ts,e _ _ n h1,Ti e hc h2,h3⟩
theorem fW.mono{K:W.Frag}{H:Hp}{l:Addr}{R R':List (Int×Int)}{P:Int×Int->Prop}(h:fW K H l R P)(e:R.Sublist R'):fW K H l R' P:=by
 obtain⟨rs,ts,h1,h2,h3,h4⟩:=h
 exact⟨rs,ts,h1,h2,h3.trans e,h4⟩
theorem fW.push{K:W.Frag}{H:Hp}{l p:Addr}{R:List (Int×Int)}{P:Int×Int->Prop}{i j:Int}{rs:List V}{ts:List (Int×Int)}(h1:H l=some (.lst rs))(h2:cB K H rs (ts.map pairD))(h3:ts.Sublist R)(h4:∀p∈ts,P p)(hp:SqT K H p [.int i,.int j])(hP:P (i,j)):fW K (upd H l (.lst (rs++[.ref p]))) l (R++[(i,j)]) P:=by
 have x:aV l H (upd H l (.lst (rs++[.ref p]))):=(aV.refl _ _).upd
 refine⟨_,ts++[(i,j)],aH,?_,h3.append (List.Sublist.refl _),fun q hq=> ?_⟩
 ·rw[cu]
  exact(Ti x h1 h2).append (.cons (.tup (x.tup h1 hp) (.cons (.int _) (.cons (.int _) .nil))) .nil)
 ·rcases lD.mp hq with q'|q'
  ·exact h4 q q'
  ·rw[oN.mp q'];exact hP
theorem sub_len{n:Int}{ts:List (Int×Int)}{i k:Nat}(h1:n<=10)(hk:0+(i:Int)+1+(k:Int)<=n)(h:ts.Sublist (rows tt n i++row tt (0+(i:Int)) k)):ts.length<=45:=by
 refine pairs_len (n:=n) ⟨?_,fun p hp=> ?_⟩ h1
 ·refine gG (List.Pairwise.sublist h ?_)
  rw[Tr]
  refine⟨Li _ _ _,qK _ _ _,fun p hp q hq=> ?_⟩
  rw[wH]at hp
  rw[p8]at hq
  exact .inl (by omega)
 ·rcases lD.mp (h.subset hp)with q|q
  ·rw[wH]at q;exact⟨q.1,q.2.2.1,q.2.2.2.1⟩
  ·rw[p8]at q;exact⟨by omega,by omega,by omega⟩
section
variable{P:Program}{w:World}{K:W.Frag}{mg:Str->Option Value}{base:Heap}
end
theorem Aa{so so':Int->Int->Bool}{m:Int}{i:Nat}(h:∀x y:Int,0<=x->x<y->y<m->so x y=so' x y):rows so m i=rows so' m i:=by
 refine eq_of_sorted (Li _ _ _) (Li _ _ _) fun p=> ?_
 rw[wH,wH]
 constructor
 ·rintro⟨a,b,c,d,e⟩;exact⟨a,b,c,d,by rw[<-h _ _ a c d];exact e⟩
 ·rintro⟨a,b,c,d,e⟩;exact⟨a,b,c,d,by rw[h _ _ a c d];exact e⟩
theorem fU{so:Int->Int->Bool}{m:Int}{i:Nat}:(rows tt m i).filter (fun p=>so p.1 p.2)=rows so m i:=by
 refine eq_of_sorted ((Li _ _ _).filter _) (Li _ _ _) fun p=> ?_
 rw[iR,wH,wH]
 constructor
 ·rintro⟨⟨a,b,c,d,_⟩,e⟩;exact⟨a,b,c,d,e⟩
 ·rintro⟨a,b,c,d,e⟩;exact⟨⟨a,b,c,d,rfl⟩,e⟩
section
variable{P:Program}{w:World}{K:W.Frag}{mg:Str->Option Value}{base:Heap}
structure Gs(K:W.Frag)(H:Hp)(l:Addr)(ps:List (Int×Int)):Prop where
 ex:∃rs,H l=some (.lst rs)/\cB K H rs (ps.map pairD)
theorem Gs.same{H H':Hp}{l:Addr}{ps:List (Int×Int)}(h:Gs K H l ps)(e:Same H H'):Gs K H' l ps:=by
 obtain⟨rs,h1,h2⟩:=h.ex
 exact⟨rs,e _ _ h1,h2.same e⟩
def qC(K:W.Frag):Sp:=fun vs H Q _=>∃(n:Int),vs=[.int n]/\0<=n/\n<=10/\∀l H',Same H H'->Gs K H' l (rows tt n n.toNat)->Q (.ref l) H'
theorem uR:FnScope ["n","found","one"] ["n"] (defScope g8):=fsc
theorem Nq{f:Addr}{fd:FuncData}(F:Fun K "pairs" "pairs" g8 f fd)(mR:mg "range"=none):FnOk P w K mg base CX0 1 f fd ["n"] (qC K):=by
 refine F.ok uR (fun vs H Q E h=> ?_) (fun cdv A outer s H vs Q E hr h=> ?_)
 ·obtain⟨n,rfl,_⟩:=h
  rfl
 obtain⟨n,rfl,hn0,hn1,q⟩:=h
 refine⟨_,aO (cg (i:=1) uR.nd rfl (Or.inl rfl) (wD aq)) (aO (ps_for was rfl (zp rfl mR (aj (pv 0) aq)) (cJ (i:=2) uR.nd rfl (Or.inr rfl)) (bA (lF (pe_bm Ln Vr Vq mt_extend (pv 1) (aj
    (oK (own:=["other"]) (caps:=["one"]) (ix:=[2]) rfl (pi_range2 rfl mR (aj (bH pI (pv 2) aL) (aj (pv 0) aq))) rfl rfl (.cons rfl rfl .nil) (fun _ _ _ _ _=>cJ (i:=0) (show(["other","one"]:List Str).Nodup from by decide+kernel) rfl (Or.inl rfl)) (fun _ _ _ _ _=>rY) (fun _ _ _ _ _=>gP (aj (pv 1) (aj (pv 0) aq)))) aq))))) (bA (cG (pv 1)))),?_⟩
 refine⟨(by show 0<=sizeLine;decide),fun l hl=> ?_⟩
 refine⟨_,rfl,n,rfl,by omega,by omega,?_⟩
 refine Lw (n:=n.toNat) (fun i σ H'=>Same H H'/\(∃rs,H' l=some (.lst rs)/\cB K H' rs ((rows tt n i).map pairD))/\∃o,σ=[some (.int n),some (.ref l),o]) ⟨aP hl _,⟨[],aH,.nil⟩,_,rfl⟩ (fun i σ H' hi p=> ?_) (fun σ H' p=> ?_)
 ·obtain⟨sm,⟨rs,hr1,hr2⟩,o,rfl⟩:=p
  have hlen:=hr2.len
  rw[aM]at hlen
  have h45:=pairs_len (uV (so:=tt) (m:=n) (i:=i)) hn1
  refine⟨_,rfl,.inl ⟨rfl,_,SqL.of hr1⟩,_,rfl,_,_,rfl,rfl,_,rfl,_,_,rfl,⟨by omega,by omega,by omega,by omega⟩,?_⟩
  refine Lg (n:=(n-(0+(i:Int)+1)).toNat) (fun k acc σ H2=>Same H' H2/\acc.length=k/\cB K H2 acc ((row tt (0+(i:Int)) k).map pairD)/\∃o1,σ=[o1,some (.int (0+(i:Int)))]) ⟨Same.refl _,rfl,.nil,_,rfl⟩ (fun k acc σ H2 hk p=>by rw[p.2.1];exact aU _) (by rw[dO];omega) (fun k acc σ H2 hk p=> ?_) (fun acc σ H2 p=> ?_)
  ·obtain⟨s2,hl2,hd,o1,rfl⟩:=p
   refine⟨_,rfl,_,rfl,(by show 2<=sizeLine;decide),fun p hp=> ?_⟩
   have s3:=aP hp (.tup [.int (0+(i:Int)),.int (0+(i:Int)+1+(k:Int))])
   refine⟨s2.trans s3,by rw[jU,hl2];rfl,?_,_,rfl⟩
   rw[xr,cu,aA (show tt (0+(i:Int)) (0+(i:Int)+1+(k:Int))=true from rfl)]
   exact(hd.same s3).append (.cons (.tup (SqT.of aH) (.cons (.int _) (.cons (.int _) .nil))) .nil)
  ·intro p1 hp1
   obtain⟨s2,hl2,hd,_⟩:=p
   have s3:=aP hp1 (.lst acc)
   have Wr:=s3 _ _ (s2 _ _ hr1)
   refine⟨l,p1,rs,acc,rfl,rfl,Wr,aH,?_,?_⟩
   ·rw[dO];omega
   ·have x4:aV l (upd H2 p1 (.lst acc)) (upd (upd H2 p1 (.lst acc)) l (.lst (rs++acc))):=(aV.refl _ _).upd
    refine⟨?_,⟨_,aH,?_⟩,_,rfl⟩
    ·intro b o hb
     have nb:b≠l:=fun e=>by rw[e,hl]at hb;cases hb
     exact x4 _ _ nb (s3 _ _ (s2 _ _ (sm _ _ hb)))
    ·rw[jB]
     exact Ti x4 Wr (by rw[cu];exact((hr2.same s2).same s3).append (hd.same s3))
 ·obtain⟨sm,⟨rs,hr1,hr2⟩,o,rfl⟩:=p
  exact⟨_,rfl,q l _ sm ⟨rs,hr1,hr2⟩⟩
theorem jk{so:Int×Int->Bool}{ps:List (Int×Int)}{i:Nat}(hi:i<ps.length):(ps.take (i+1)).filter so=(ps.take i).filter so++(if so ps[i]=true then[ps[i]]else[]):=by
 rw[GJ,fX hi,LR]
 congr 1
 show List.filter so [ps[i]]=_
 rw[GD]
 rfl
end
structure rK(n:Int)(xs:List Int):Prop where
 Q6:xs.Pairwise (· < ·)
 lt:∀x∈xs,0<=x/\x<n
theorem rK.len{n:Int}{xs:List Int}(h:rK n xs)(hn:n<=10):xs.length<=10:=by
 have h1:Sub n.toNat xs:=⟨h.Q6.imp fun h e=>by omega,fun i hi=>by have:=h.lt i hi;omega⟩
 have:=h1.len
 omega
theorem rK.lM{n:Int}{xs:List Int}(h:rK n xs):wB.lM n (.tuple (xs.map PyData.int))=true:=by
 unfold wB.lM
 rw[qm]
 refine⟨?_,?_⟩
 ·rw[Zq,jT]
  intro x hx
  have:=h.lt x hx
  show(decide (0<=x)&&decide (x<n))=true
  rw[cI this.1,cI this.2];rfl
 ·rw[zq]
  have e:xs.map (intD∘PyData.int)=xs:=(Ma fun x _=>rfl).trans (TQ xs)
  rw[e]
  unfold iC
  rw[jT]
  intro k hk
  rw[m8]at hk
  have h2:=Yk.mp h.Q6 k (k+1) (by omega) (by omega) (by omega)
  have g:∀j,(hj:j<xs.length)->xs.getD j 0=xs[j]:=fun j hj=>by rw[pN,fX hj];rfl
  rw[g k (by omega),g (k+1) (by omega)]
  exact cI h2
def T8(xs:List Int)(ts:List (Int×Int))(i j:Int):Bool:=nP ts (xs.getD i.toNat 0) (xs.getD j.toNat 0)
def qH(ts:List (Int×Int))(i j:Int):Bool:= !decide ((i,j)∈ts)
def upto(n:Nat):List Int:=(List.range n).map fun(k:Nat)=>(k:Int)
theorem Cu(n:Int):rK n (upto n.toNat):=by
 unfold upto
 refine⟨?_,fun x hx=> ?_⟩
 ·rw[Ck]
  exact U6.imp fun h=>by omega
 ·obtain⟨k,hk,rfl⟩:=jw.mp hx
  rw[m8]at hk
  omega
theorem Hw(n:Nat):(upto n).length=n:=by unfold upto;simp
section
variable{P:Program}{w:World}{K:W.Frag}{mg:Str->Option Value}{base:Heap}
end
end Hs
namespace Hs
open wB
end Hs
namespace Hs
def ff:Nat->Nat
 |0=>1
 |1=>1
 |2=>2
 |3=>3
 |4=>4
 |5=>6
 |6=>9
 |7=>12
 |8=>18
 |9=>27
 |_=>36
theorem vM:∀m n:Nat,m<=n->n<=10->ff m<=ff n:=by
 have h:∀n:Fin 11,∀m:Fin 11,m.val<=n.val->ff m.val<=ff n.val:=by decide
 intro m n hm hn
 exact h ⟨n,by omega⟩ ⟨m,by omega⟩ hm
theorem Og:∀n d:Nat,0<d->d<=n->n<=10->d*ff (n-d)<=ff n:=by
 have h:∀n:Fin 11,∀d:Fin 11,0<d.val->d.val<=n.val->d.val*ff (n.val-d.val)<=ff n.val:=by decide
 intro n d h0 hd hn
 exact h ⟨n,by omega⟩ ⟨d,by omega⟩ h0 hd
structure Full(r:Int->Int->Bool)(V:List Int)(s:List Int):Prop where
 up:s.Pairwise (· < ·)
 sub:∀x∈s,x∈V
 ind:∀x∈s,∀y∈s,x≠y->r x y=false
 max:∀v∈V,v∉s->∃x∈s,r x v=true
theorem xZ(g:Int->Nat):∀V:List Int,V≠[]->∃v∈V,∀u∈V,g v<=g u
 |[],h=>absurd rfl h
 |[x],_=>⟨x,by simp,fun u hu=>by rw[oN.mp hu];exact aU _⟩
 |x::y::V,_=>by
  obtain⟨v,hv,hm⟩:=xZ g (y::V) (by simp)
  by_cases c:g x<=g v
  ·refine⟨x,by simp,fun u hu=> ?_⟩
   rcases eN.mp hu with e|e
   ·rw[e];exact aU _
   ·exact dW c (hm u e)
  ·refine⟨v,iZ _ hv,fun u hu=> ?_⟩
   rcases eN.mp hu with e|e
   ·rw[e];omega
   ·exact hm u e
theorem kh{α:Type}(p:α->Bool):∀l:List α,(l.filter p).length+(l.filter fun x=> !p x).length=l.length
 |[]=>rfl
 |x::l=>by
  have ih:=kh p l
  rw[GD,GD]
  cases p x<;>simp <;>omega
theorem uh{α β:Type}(p:β->α->Bool)(m:Nat):∀(us:List β) (fs:List α),(∀s∈fs,∃u∈us,p u s=true)->(∀u∈us,∀gs:List α,gs.Sublist fs->(∀s∈gs,p u s=true)->gs.length<=m)->fs.length<=us.length*m
 |[],fs,h,_=>by
  cases fs with
  |nil=>simp
  |cons s fs=>obtain⟨u,hu,_⟩:=h s (by simp);cases hu
 |u::us,fs,h,hm=>by
  have e:=kh (p u) fs
  have a:=hm u (by simp) (fs.filter (p u)) Z8 (fun s hs=>(iR.mp hs).2)
  have b:=uh p m us (fs.filter fun x=> !p u x) (fun s hs=>by
   obtain⟨h1,h2⟩:=iR.mp hs
   obtain⟨w,hw,hp⟩:=h s h1
   rcases eN.mp hw with z|z
   ·rw[z]at hp;rw[hp]at h2;cases h2
   ·exact⟨w,z,hp⟩) (fun w hw gs hg hp=>hm w (iZ _ hw) gs (hg.trans Z8) hp)
  rw[wK,Tq]
  omega
theorem Cv:∀{xs ys:List Int},xs.Pairwise (· < ·)->ys.Pairwise (· < ·)->(∀k,k∈xs↔k∈ys)->xs=ys
 |[],[],_,_,_=>rfl
 |[],y::ys,_,_,h=>by have:=(h y).mpr (by simp);simp at this
 |x::xs,[],_,_,h=>by have:=(h x).mp (by simp);simp at this
 |x::xs,y::ys,hx,hy,h=>by
  rw[ZR]at hx hy
  have e:x=y:=by
   have a:=(h x).mp (by simp)
   have b:=(h y).mpr (by simp)
   rcases eN.mp a with a|a
   ·exact a
   ·rcases eN.mp b with b|b
    ·exact b.symm
    ·have:=hy.1 x a;have:=hx.1 y b;omega
  subst e
  rw[Cv hx.2 hy.2 fun k=> ?_]
  constructor
  ·intro hk
   rcases eN.mp ((h k).mp (iZ _ hk))with a|a
   ·have:=hx.1 k hk;omega
   ·exact a
  ·intro hk
   rcases eN.mp ((h k).mpr (iZ _ hk))with a|a
   ·have:=hy.1 k hk;omega
   ·exact a
theorem eV{α β:Type}{g:α->β}:∀{l:List α},l.Nodup->(∀a∈l,∀b∈l,g a=g b->a=b)->(l.map g).Nodup
 |[],_,_=>List.nodup_nil
 |a::l,h,hi=>by
  rw[Hl]at h
  rw[LK,Hl]
  refine⟨fun hm=> ?_,eV h.2 fun x hx y hy=>hi x (iZ _ hx) y (iZ _ hy)⟩
  obtain⟨b,hb,e⟩:=jw.mp hm
  have:=hi b (iZ _ hb) a (by simp) e
  rw[this]at hb
  exact h.1 hb
def bM(r:Int->Int->Bool)(v u:Int):Bool:=decide (u=v)||r u v
theorem Bf{r:Int->Int->Bool}(sym:∀i j,r i j=r j i):∀(n:Nat) (V:List Int),V.length=n->n<=10->∀fs:List (List Int),fs.Nodup->(∀s∈fs,Full r V s)->fs.length<=ff n:=by
 intro n
 induction n using Nat.strongRecOn with
 |ind n ih=>
  intro V hV hn fs nd hf
  by_cases hz:V=[]
  ·have e:∀s∈fs,s=[]:=fun s hs=>by
    cases s with
    |nil=>rfl
    |cons x s=>have:=(hf _ hs).sub x (by simp);rw[hz]at this;cases this
   have l1:fs.length<=1:=by
    match fs,nd,e with
    |[],_,_=>simp
    |[_],_,_=>simp
    |a::b::fs,nd,e=>
     exfalso
     rw[Hl]at nd
     apply nd.1
     rw[e a (by simp),e b (by simp)]
     simp
   have:1<=ff n:=by
    have:=vM 0 n (cY _) hn
    exact this
   omega
  obtain⟨v,hv,hmin⟩:=xZ (fun u=>(V.filter (bM r u)).length) V hz
  have key:=uh (fun(u:Int) (s:List Int)=>decide (u∈s)) (ff (n-(V.filter (bM r v)).length)) (V.filter (bM r v)) fs (fun s hs=> ?_) (fun u hu gs hg hp=> ?_)
  ·have hle:(V.filter (bM r v)).length<=n:=by rw[<-hV];exact Cm _ _
   have hpos:0<(V.filter (bM r v)).length:=wcc (iR.mpr ⟨hv,by unfold bM;simp⟩)
   exact dW key (Og n _ hpos hle hn)
  ·by_cases c:v∈s
   ·exact⟨v,iR.mpr ⟨hv,by unfold bM;simp⟩,cI c⟩
   ·obtain⟨x,hx,hr⟩:=(hf s hs).max v hv c
    exact⟨x,iR.mpr ⟨(hf s hs).sub x hx,by unfold bM;rw[hr];simp⟩,cI hx⟩
  ·have huV:u∈V:=(iR.mp hu).1
   have fg:∀s∈gs,Full r V s/\u∈s:=fun s hs=>⟨hf s (hg.subset hs),eY (hp s hs)⟩
   have hle:(V.filter (bM r u)).length<=n:=by rw[<-hV];exact Cm _ _
   have hge:=hmin u huV
   have hpos:0<(V.filter (bM r u)).length:=wcc (iR.mpr ⟨huV,by unfold bM;simp⟩)
   have hV2:(V.filter fun x=> !bM r u x).length=n-(V.filter (bM r u)).length:=by have:=kh (bM r u) V;omega
   have Ar:∀(s:List Int) (x:Int),x∈s.filter (fun x=> !decide (x=u))↔x∈s/\x≠u:=fun s x=>by rw[iR];simp
   have h1:=ih (n-(V.filter (bM r u)).length) (by omega) (V.filter fun x=> !bM r u x) hV2 (by omega) (gs.map fun s=>s.filter fun x=> !decide (x=u)) (eV (nd.sublist hg) fun s hs t ht e=> ?_) (fun t ht=> ?_)
   ·rw[aM]at h1
    exact dW h1 (vM _ _ (by omega) (by omega))
   ·obtain⟨a1,a2⟩:=fg s hs
    obtain⟨b1,b2⟩:=fg t ht
    refine Cv a1.up b1.up fun k=> ?_
    have hk:k∈s.filter (fun x=> !decide (x=u))↔k∈t.filter (fun x=> !decide (x=u)):=by rw[show s.filter (fun x=> !decide (x=u))=t.filter (fun x=> !decide (x=u))from e]
    rw[Ar,Ar]at hk
    by_cases c:k=u
    ·rw[c];exact⟨fun _=>b2,fun _=>a2⟩
    ·exact⟨fun z=>(hk.mp ⟨z,c⟩).1,fun z=>(hk.mpr ⟨z,c⟩).1⟩
   ·obtain⟨s,hs,rfl⟩:=jw.mp ht
    obtain⟨a1,a2⟩:=fg s hs
    refine⟨a1.up.sublist Z8,fun x hx=> ?_,fun x hx y hy=> ?_,fun w hw hn=> ?_⟩
    ·obtain⟨x1,x2⟩:=(Ar s x).mp hx
     refine iR.mpr ⟨a1.sub x x1,?_⟩
     unfold bM
     rw[a1.ind x x1 u a2 x2,iY x2]
     rfl
    ·exact a1.ind x ((Ar s x).mp hx).1 y ((Ar s y).mp hy).1
    ·obtain⟨w1,w2⟩:=iR.mp hw
     have w3:bM r u w=false:=by simpa using w2
     unfold bM at w3
     rw[Bool.or_eq_false_iff]at w3
     have wu:w≠u:=Vo w3.1
     have ws:w∉s:=fun z=>hn ((Ar s w).mpr ⟨z,wu⟩)
     obtain⟨x,hx,hr⟩:=a1.max w w1 ws
     have xu:x≠u:=fun z=>by rw[z,sym u w,w3.2]at hr;cases hr
     exact⟨x,(Ar s x).mpr ⟨hx,xu⟩,hr⟩
end Hs
namespace Hs
open PySem wB
def rng(n:Nat):List Int:=(List.range n).map fun k=>((k:Nat):Int)
theorem zm{n:Nat}{x:Int}:x∈rng n↔0<=x/\x<(n:Int):=by
 unfold rng
 rw[jw]
 constructor
 ·rintro⟨k,hk,rfl⟩
  have:=m8.mp hk
  omega
 ·rintro⟨h0,h1⟩
  exact⟨x.toNat,m8.mpr (by omega),by omega⟩
theorem Hj(ts:List (Int×Int))(i j:Int):aG ts i j=aG ts j i:=by unfold aG;rw[Bool.or_comm]
def goB(ts:List (Int×Int))(w:Bool)(s:List Int)(p:Int):Bool:=s.all fun q=>aG ts p q==w
def bh(ts:List (Int×Int))(w:Bool):Nat->List (List Int)
 |0=>[[]]
 |k+1=>bh ts w k++((bh ts w k).filter fun s=>goB ts w s (k:Int)).map fun s=>s++[(k:Int)]
def jO(ts:List (Int×Int))(w:Bool)(n:Nat)(s:List Int):Bool:= !((rng n).any fun p=> !decide (p∈s)&&goB ts w s p)
def cV(ts:List (Int×Int))(w:Bool)(n:Nat):List (List Int):=(bh ts w n).filter (jO ts w n)
structure mQ(ts:List (Int×Int))(w:Bool)(k:Nat)(s:List Int):Prop where
 up:s.Pairwise (· < ·)
 lt:∀x∈s,0<=x/\x<(k:Int)
 all:∀x∈s,∀y∈s,x≠y->(aG ts x y==w)=true
theorem jZ{ts:List (Int×Int)}{w:Bool}:∀(k:Nat) (s:List Int),s∈bh ts w k->mQ ts w k s
 |0,s,h=>by
  rw[oN.mp (show s∈[[]]from h)]
  exact⟨List.Pairwise.nil,fun x hx=>(nomatch hx),fun x hx=>(nomatch hx)⟩
 |k+1,s,h=>by
  rcases lD.mp (show s∈bh ts w k++((bh ts w k).filter fun s=>goB ts w s (k:Int)).map fun s=>s++[(k:Int)]from h)with q|q
  ·have S:=jZ k s q
   exact⟨S.up,fun x hx=>by have:=S.lt x hx;omega,S.all⟩
  ·obtain⟨t,ht,rfl⟩:=jw.mp q
   obtain⟨t1,t2⟩:=iR.mp ht
   have S:=jZ k t t1
   have g:∀y∈t,(aG ts (k:Int) y==w)=true:=fun y hy=>jT.mp t2 y hy
   refine⟨?_,fun x hx=> ?_,fun x hx y hy hne=> ?_⟩
   ·rw[Tr]
    refine⟨S.up,wbw _ _,fun x hx y hy=> ?_⟩
    rw[oN.mp hy]
    exact(S.lt x hx).2
   ·rcases lD.mp hx with z|z
    ·have:=S.lt x z;omega
    ·rw[oN.mp z];omega
   ·rcases lD.mp hx with z|z
    ·rcases lD.mp hy with z'|z'
     ·exact S.all x z y z' hne
     ·rw[oN.mp z',Hj];exact g x z
    ·rw[oN.mp z]at hne⊢
     rcases lD.mp hy with z'|z'
     ·exact g y z'
     ·exact absurd (oN.mp z').symm hne
theorem gU{ts:List (Int×Int)}{w:Bool}:∀k:Nat,(bh ts w k).Nodup
 |0=>by show([[]]:List (List Int)).Nodup;simp
 |k+1=>by
  show(bh ts w k++((bh ts w k).filter fun s=>goB ts w s (k:Int)).map fun s=>s++[(k:Int)]).Nodup
  refine UJ.mpr ⟨gU k,eV ((gU k).filter _) (fun a _ b _ e=>List.append_cancel_right e),fun a ha b hb e=> ?_⟩
  obtain⟨t,_,rfl⟩:=jw.mp hb
  have:=(jZ k a ha).lt (k:Int) (by rw[e];simp)
  omega
theorem w6{ts:List (Int×Int)}{w:Bool}:∀k:Nat,(bh ts w k).length<=2^k
 |0=>aU _
 |k+1=>by
  show(bh ts w k++((bh ts w k).filter fun s=>goB ts w s (k:Int)).map fun s=>s++[(k:Int)]).length<=2^(k+1)
  rw[jU,aM,Zt]
  have a:=w6 (ts:=ts) (w:=w) k
  have b:=Cm (fun s=>goB ts w s (k:Int)) (bh ts w k)
  omega
theorem vI{ts:List (Int×Int)}{w:Bool}{n:Nat}{s:List Int}(h:s∈cV ts w n):Full (fun i j=> !(aG ts i j==w)) (rng n) s:=by
 obtain⟨h1,h2⟩:=iR.mp h
 have S:=jZ n s h1
 refine⟨S.up,fun x hx=>zm.mpr (S.lt x hx),fun x hx y hy hne=>by rw[S.all x hx y hy hne];rfl,fun v hv hn=> ?_⟩
 unfold jO at h2
 apply T5
 intro hc
 have h3:((rng n).any fun p=> !decide (p∈s)&&goB ts w s p)=false:=by simpa using h2
 rw[UW]at h3
 apply h3 v hv
 rw[iY hn]
 show goB ts w s v=true
 unfold goB
 rw[jT]
 intro q hq
 cases e:(aG ts v q==w)with
 |true=>rfl
 |false=>exact absurd ⟨q,hq,by show(!(aG ts q v==w))=true;rw[Hj,e];rfl⟩ hc
theorem tY{ts:List (Int×Int)}{w:Bool}{n:Nat}(hn:n<=10):(cV ts w n).length<=36:=by
 have h:=Bf (r:=fun i j=> !(aG ts i j==w)) (fun i j=>by rw[Hj]) n (rng n) (by unfold rng;simp) hn (cV ts w n) ((gU n).filter _) (fun s hs=>vI hs)
 have:=vM n 10 hn (aU _)
 exact dW h this
def iM(ts:List (Int×Int))(w:Bool)(n:Nat)(s:List Int):List Int:=(rng n).filter fun p=>s.all fun q=> !decide (p=q)&&(aG ts q p==w)
def jG(ts:List (Int×Int))(w:Bool)(n:Nat)(q:Int):List Int:=(rng n).filter fun p=> !decide (p=q)&&(aG ts q p==w)
theorem J6(ts:List (Int×Int))(w:Bool)(n:Nat):iM ts w n []=rng n:=by unfold iM;exact List.filter_eq_self.mpr fun _ _=>rfl
theorem Gb(ts:List (Int×Int))(w:Bool)(n:Nat)(s:List Int)(k:Int):iM ts w n (s++[k])=(iM ts w n s).filter fun p=>decide (p∈jG ts w n k):=by
 unfold iM
 rw[List.filter_filter]
 refine List.filter_congr fun p hp=> ?_
 rw[List.all_append,Bool.and_comm]
 congr 1
 unfold jG
 rw[uE,wz,iR]
 simp[hp]
theorem NK{ts:List (Int×Int)}{w:Bool}{n k:Nat}{s:List Int}(hs:mQ ts w k s)(hk:k<n):decide ((k:Int)∈iM ts w n s)=goB ts w s (k:Int):=by
 unfold iM goB
 rw[uE,wz,iR,jT,jT]
 constructor
 ·rintro⟨_,h⟩ q hq
  have:=h q hq
  rw[qm]at this
  rw[Hj];exact this.2
 ·intro h
  refine⟨zm.mpr ⟨by omega,by omega⟩,fun q hq=> ?_⟩
  have:=(hs.lt q hq).2
  rw[qm]
  refine⟨?_,by rw[Hj];exact h q hq⟩
  rw[iY (by omega)];rfl
theorem Gd(ts:List (Int×Int))(w:Bool)(n:Nat)(s:List Int):decide (iM ts w n s=[])=jO ts w n s:=by
 unfold iM jO
 rw[uE,wz,List.filter_eq_nil_iff,Vl,UW]
 constructor
 ·intro h p hp hc
  rw[qm]at hc
  apply h p hp
  rw[jT]
  intro q hq
  have h1:p∉s:=by simpa using hc.1
  have h2:=jT.mp hc.2 q hq
  rw[qm]
  refine⟨?_,by rw[Hj];exact h2⟩
  have ne:¬p=q:=fun e=>h1 (by rw[e];exact hq)
  rw[iY ne];rfl
 ·intro h p hp hc
  apply h p hp
  rw[jT]at hc
  rw[qm]
  refine⟨?_,?_⟩
  ·have:p∉s:=fun z=>by
    have:=hc p z
    simp at this
   rw[iY this];rfl
  ·unfold goB
   rw[jT]
   intro q hq
   have:=hc q hq
   rw[qm]at this
   rw[Hj];exact this.2
theorem Dt{xs ys:List (List Int)}(h:xs.Perm ys)(hx:xs.Pairwise fun a b=>HT.lexLt b a=false)(hy:ys.Pairwise fun a b=>HT.lexLt b a=false):xs=ys:=by
 refine List.Perm.eq_of_pairwise (le:=fun a b=>HT.lexLt b a=false) (fun a b _ _ h1 h2=> ?_) hx hy h
 rw[HT.bB,YF]at h1 h2
 exact ZF (GC.mp h1) (GC.mp h2)
theorem oR:∀{xs ys:List Int},xs.Pairwise (· < ·)->ys.Pairwise (· < ·)->(∀k,k∈xs↔k∈ys)->xs=ys
 |[],[],_,_,_=>rfl
 |[],y::ys,_,_,h=>by have:=(h y).mpr (by simp);simp at this
 |x::xs,[],_,_,h=>by have:=(h x).mp (by simp);simp at this
 |x::xs,y::ys,hx,hy,h=>by
  rw[ZR]at hx hy
  have e:x=y:=by
   have a:=(h x).mp (by simp)
   have b:=(h y).mpr (by simp)
   rcases eN.mp a with a|a
   ·exact a
   ·rcases eN.mp b with b|b
    ·exact b.symm
    ·have:=hy.1 x a;have:=hx.1 y b;omega
  subst e
  rw[oR hx.2 hy.2 fun k=> ?_]
  constructor
  ·intro hk
   rcases eN.mp ((h k).mp (iZ _ hk))with a|a
   ·have:=hx.1 k hk;omega
   ·exact a
  ·intro hk
   rcases eN.mp ((h k).mpr (iZ _ hk))with a|a
   ·have:=hy.1 k hk;omega
   ·exact a
theorem lK{ts:List (Int×Int)}{w:Bool}:∀(k:Nat) (s:List Int),mQ ts w k s->s∈bh ts w k
 |0,s,h=>by
  cases s with
  |nil=>show([]:List Int)∈[[]];simp
  |cons x s=>have:=h.lt x (by simp);omega
 |k+1,s,h=>by
  show s∈bh ts w k++((bh ts w k).filter fun s=>goB ts w s (k:Int)).map fun s=>s++[(k:Int)]
  by_cases c:(k:Int)∈s
  ·have hm:∀x,x∈s.filter (fun x=> !decide (x=(k:Int)))↔x∈s/\x≠(k:Int):=fun x=>by rw[iR];simp
   refine Cp _ (jw.mpr ⟨s.filter (fun x=> !decide (x=(k:Int))),iR.mpr ⟨lK k _ ⟨h.up.filter _,fun x hx=> ?_,fun x hx y hy hne=> ?_⟩,?_⟩,?_⟩)
   ·have a:=(hm x).mp hx
    have b:=h.lt x a.1
    have:=a.2
    omega
   ·exact h.all x ((hm x).mp hx).1 y ((hm y).mp hy).1 hne
   ·unfold goB
    rw[jT]
    intro q hq
    have a:=(hm q).mp hq
    exact h.all _ c q a.1 (fun e=>a.2 e.symm)
   ·refine oR ?_ h.up fun x=> ?_
    ·rw[Tr]
     refine⟨h.up.filter _,wbw _ _,fun x hx y hy=> ?_⟩
     rw[oN.mp hy]
     have a:=(hm x).mp hx
     have b:=h.lt x a.1
     have:=a.2
     omega
    ·rw[lD,hm,oN]
     constructor
     ·rintro(a|a)
      ·exact a.1
      ·rw[a];exact c
     ·intro a
      by_cases e:x=(k:Int)
      ·exact .inr e
      ·exact .inl ⟨a,e⟩
  ·refine Tt _ (lK k s ⟨h.up,fun x hx=> ?_,h.all⟩)
   have b:=h.lt x hx
   have:x≠(k:Int):=fun e=>c (by rw[<-e];exact hx)
   omega
theorem mQ.of{ts:List (Int×Int)}{w:Bool}{n:Nat}{s:List Int}(F:Full (fun i j=> !(aG ts i j==w)) (rng n) s):mQ ts w n s:=
 ⟨F.up,fun x hx=>zm.mp (F.sub x hx),fun x hx y hy hne=>by
  have:=F.ind x hx y hy hne
  try dsimp only at this
  cases e:(aG ts x y==w)with
  |true=>rfl
  |false=>rw[e]at this;cases this⟩
theorem DG{ts:List (Int×Int)}{w:Bool}{n:Nat}{s:List Int}(F:Full (fun i j=> !(aG ts i j==w)) (rng n) s):s∈cV ts w n:=by
 refine iR.mpr ⟨lK n s (mQ.of F),?_⟩
 unfold jO
 rw[Vl,UW]
 intro p hp hc
 rw[qm]at hc
 have hn:p∉s:=by simpa using hc.1
 obtain⟨x,hx,hr⟩:=F.max p hp hn
 have:=jT.mp hc.2 x hx
 try dsimp only at hr this
 rw[Hj,this]at hr
 cases hr
theorem oX(ts:List (Int×Int))(w:Bool)(n:Nat):(cV ts w n).Nodup:=(gU n).filter _
theorem Ju{l m:List (List Int)}(h1:l.Nodup)(h2:m.Nodup)(h:∀s,s∈l↔s∈m):l.Perm m:=(List.perm_ext_iff_of_nodup h1 h2).mpr (fun{a}=>h a)
theorem tZ{ts ts':List (Int×Int)}{w w':Bool}{n:Nat}(h:∀i j:Int,0<=i->i<(n:Int)->0<=j->j<(n:Int)->i≠j->(aG ts i j==w)=(aG ts' i j==w')){s:List Int}(hs:s∈cV ts w n):s∈cV ts' w' n:=by
 have F:=vI hs
 have bd:∀x∈rng n,0<=x/\x<(n:Int):=fun x hx=>zm.mp hx
 refine DG ⟨F.up,F.sub,fun x hx y hy hne=> ?_,fun v hv hn=> ?_⟩
 ·have:=F.ind x hx y hy hne
  have a:=bd x (F.sub x hx)
  have b:=bd y (F.sub y hy)
  try dsimp only at this⊢
  rw[<-h x y a.1 a.2 b.1 b.2 hne];exact this
 ·obtain⟨x,hx,hr⟩:=F.max v hv hn
  have a:=bd x (F.sub x hx)
  have b:=bd v hv
  refine⟨x,hx,?_⟩
  try dsimp only at hr⊢
  rw[<-h x v a.1 a.2 b.1 b.2 (fun e=>hn (by rw[<-e];exact hx))];exact hr
theorem Bd{ts ts':List (Int×Int)}{w w':Bool}{n:Nat}(h:∀i j:Int,0<=i->i<(n:Int)->0<=j->j<(n:Int)->i≠j->(aG ts i j==w)=(aG ts' i j==w')):(cV ts w n).Perm (cV ts' w' n):=
 Ju (oX _ _ _) (oX _ _ _) fun s=>⟨tZ h,tZ fun i j a b c d e=>(h i j a b c d e).symm⟩
theorem nA{so:Int->Int->Bool}{m:Int}{i j:Int}(h0:0<=i)(h1:i<j)(h2:j<m):aG (rows so m m.toNat) i j=so i j:=by
 unfold aG
 have a:decide ((j,i)∈rows so m m.toNat)=false:=iY fun z=>by
  rw[wH]at z
  have:=z.2.2.1
  try dsimp only at this
  omega
 rw[a,Ve,uE,wz,wH]
 constructor
 ·exact fun z=>z.2.2.2.2
 ·intro z
  exact⟨h0,by show i<_;omega,h1,h2,z⟩
theorem Cw{n:Int}{ts:List (Int×Int)}(ht:aD n ts){i j:Int}(h:i<j):aG ts i j=decide ((i,j)∈ts):=by
 unfold aG
 have a:decide ((j,i)∈ts)=false:=iY fun z=>by
  have:=(ht.lt _ z).2.1
  try dsimp only at this
  omega
 rw[a,Ve]
theorem zG{n:Int}{ts:List (Int×Int)}(ht:aD n ts){i j:Int}(hi0:0<=i)(hi:i<n)(hj0:0<=j)(hj:j<n)(hne:i≠j):aG (rows (qH ts) n n.toNat) i j= !aG ts i j:=by
 rcases Int.lt_or_lt_of_ne hne with c|c
 ·rw[nA hi0 c hj,Cw ht c];rfl
 ·rw[Hj,nA hj0 c hi,Hj ts i j,Cw ht c];rfl
theorem Dl{α:Type}(g:α->Nat):∀V:List α,V≠[]->∃v∈V,∀u∈V,g u<=g v
 |[],h=>absurd rfl h
 |[x],_=>⟨x,by simp,fun u hu=>by rw[oN.mp hu];exact aU _⟩
 |x::y::V,_=>by
  obtain⟨v,hv,hm⟩:=Dl g (y::V) (by simp)
  by_cases c:g v<=g x
  ·refine⟨x,by simp,fun u hu=> ?_⟩
   rcases eN.mp hu with e|e
   ·rw[e];exact aU _
   ·exact dW (hm u e) c
  ·refine⟨v,iZ _ hv,fun u hu=> ?_⟩
   rcases eN.mp hu with e|e
   ·rw[e];omega
   ·exact hm u e
theorem yF{ts:List (Int×Int)}{w:Bool}{n:Nat}{s:List Int}(hs:mQ ts w n s):∃t∈cV ts w n,∀x∈s,x∈t:=by
 let C:=(bh ts w n).filter fun t=>s.all fun x=>decide (x∈t)
 have mC:∀t,t∈C↔t∈bh ts w n/\∀x∈s,x∈t:=fun t=>by
  show t∈(bh ts w n).filter _↔_
  rw[iR,jT]
  simp
 have hne:C≠[]:=fun e=>by
  have:s∈C:=(mC s).mpr ⟨lK n s hs,fun x hx=>hx⟩
  rw[e]at this;cases this
 obtain⟨t,ht,hm⟩:=Dl List.length C hne
 obtain⟨h1,h2⟩:=(mC t).mp ht
 have T:=jZ n t h1
 refine⟨t,DG ⟨T.up,fun x hx=>zm.mpr (T.lt x hx),fun x hx y hy hne=> ?_,fun v hv hn=> ?_⟩,h2⟩
 ·show(!(aG ts x y==w))=false
  rw[T.all x hx y hy hne];rfl
 ·apply T5
  intro hc
  have go:∀x∈t,(aG ts x v==w)=true:=fun x hx=>by
   cases e:(aG ts x v==w)with
   |true=>rfl
   |false=>exact absurd ⟨x,hx,by show(!(aG ts x v==w))=true;rw[e];rfl⟩ hc
  have mU:∀x,x∈(rng n).filter (fun x=>decide (x∈t)||decide (x=v))↔x∈t\/x=v:=fun x=>by
   rw[iR,QV,wz,wz]
   constructor
   ·exact fun z=>z.2
   ·rintro(z|z)
    ·exact⟨zm.mpr (T.lt x z),.inl z⟩
    ·exact⟨by rw[z];exact hv,.inr z⟩
  have up:((rng n).filter (fun x=>decide (x∈t)||decide (x=v))).Pairwise (· < ·):=by
   refine List.Pairwise.filter _ ?_
   unfold rng
   rw[Ck]
   exact U6.imp fun{a b} h=>by omega
  have U:mQ ts w n ((rng n).filter (fun x=>decide (x∈t)||decide (x=v))):=⟨up,fun x hx=>zm.mp (iR.mp hx).1,fun x hx y hy hne=>by
   rcases(mU x).mp hx with a|a
   ·rcases(mU y).mp hy with b|b
    ·exact T.all x a y b hne
    ·rw[b];exact go x a
   ·rcases(mU y).mp hy with b|b
    ·rw[a,Hj];exact go y b
    ·exact absurd (a.trans b.symm) hne⟩
  have inC:=(mC _).mpr ⟨lK n _ U,fun x hx=>(mU x).mpr (.inl (h2 x hx))⟩
  have l1:=hm _ inC
  have l2:=gH (l:=v::t) (m:=(rng n).filter (fun x=>decide (x∈t)||decide (x=v))) (Hl.mpr ⟨hn,T.up.imp fun{a b} h=>by omega⟩) (fun x hx=>by
   rcases eN.mp hx with z|z
   ·exact(mU x).mpr (.inr z)
   ·exact(mU x).mpr (.inl z))
  rw[wK]at l2
  omega
end Hs
namespace Hs
open PySem L2 wB
section
variable{P:Program}{w:World}{K:W.Frag}{mg:Str->Option Value}{base:Heap}
theorem blV_eq(a b:Bool):decide (V.bl a=V.bl b)=(a==b):=by cases a<;>cases b<;>rfl
theorem intV_eq(a b:Int):decide (V.int a=V.int b)=decide (a=b):=by
 by_cases e:a=b
 ·subst e;simp
 ·rw[iY e,iY (by intro z;injection z with z;exact e z)]
theorem Nz{a b:Int}:(!decide (V.int a=V.int b))= !decide (a=b):=by rw[intV_eq]
theorem any_ints(xs:List Int)(k:Int):((xs.map PyData.int).any fun d=>PyData.eqv d (.int k))=decide (k∈xs):=by
 induction xs with
 |nil=>simp
 |cons x xs ih=>
  rw[LK,Vh,ih]
  have e:PyData.eqv (.int x) (.int k)=decide (k=x):=by
   show(x==k)=_
   rw[uE];simp;exact⟨fun h=>h.symm,fun h=>h.symm⟩
  rw[e,uE]
  simp
theorem Zf{α:Type}{p:α->Bool}{l:List α}{i:Nat}(hi:i<l.length):(l.take (i+1)).filter p=(l.take i).filter p++(if p l[i]=true then[l[i]]else[]):=by
 rw[GJ,fX hi,LR]
 congr 1
 show[l[i]].filter p=_
 rw[GD]
 rfl
theorem Jj(k:Nat):rng (k+1)=rng k++[(k:Int)]:=by unfold rng;rw[wI,cu];rfl
theorem HB(n:Nat):dR n=(rng n).map V.int:=by unfold dR rng;rw[zq];rfl
def wX(K:W.Frag):Sp:=fun vs H Q _=>∃(l m:Addr) (xs ys:List Int),vs=[.ref l,.ref m]/\SqL K H l (xs.map V.int)/\SqL K H m (ys.map V.int)/\∀r H',Same H H'->H' r=some (.lst ((xs.filter fun p=>decide (p∈ys)).map V.int))->H r=none->Q (.ref r) H'
theorem tO:FnScope ["ones","others"] ["ones","others"] (defScope eO):=fsc
theorem Fv{f:Addr}{fd:FuncData}(F:Fun K "in_both" "in_both" eO f fd):
  FnOk P w K mg base CX0 1 f fd ["ones","others"] (wX K):=by
 refine F.ok tO (fun vs H Q E h=> ?_) (fun cdv A outer s H vs Q E hr h=> ?_)
 ·obtain⟨l,m,xs,ys,rfl,_⟩:=h
  rfl
 obtain⟨l,m,xs,ys,rfl,hL,hM,q⟩:=h
 refine⟨_,(bA (cG (oK (own:=["place"]) (caps:=["others"]) (ix:=[1]) rfl (Ec (pv 0)) rfl rfl (.cons rfl rfl .nil) (fun _ _ _ _ _=>(cJ (i:=0) (show(["place","others"]:List Str).Nodup from by decide+kernel) rfl (Or.inl rfl))) (fun _ _ _ _ _=>Gu (jM (p7 K hr.units) (pv 0) (pv 1) (by with_unfolding_all rfl))) (fun _ _ _ _ _=>(pv 0))))),?_⟩
 refine⟨_,rfl,l,_,rfl,hL,fun hz=> ?_⟩
 refine Gx (xs:=xs.map V.int) (fun k acc σ H'=>acc=((xs.take k).filter fun p=>decide (p∈ys)).map V.int/\Same H H'/\∃o,σ=[o,some (.ref m)]) ⟨rfl,Same.refl _,_,rfl⟩ (fun k acc σ H' _ p=>p.2.1.seq hL) (fun k acc σ H' hk p=> ?_) hz (fun k x acc σ H' hx p=> ?_) (fun acc σ H' p=> ?_)
 ·rw[p.1,aM]
  exact dW (Cm _ _) (by rw[Lk];exact O9 _ _)
 ·obtain⟨rfl,sm,o,rfl⟩:=p
  rw[dY]at hx
  cases ex:xs[k]? with
  |none=>rw[ex]at hx;cases hx
  |some y=>
   rw[ex]at hx
   cases hx
   obtain⟨hk,ey⟩:=pL.mp ex
   have e:=Zf (p:=fun p=>decide (p∈ys)) hk
   rw[ey]at e
   refine⟨_,rfl,_,rfl,m,_,_,.int y,rfl,.inl (sm.seq hM),cB.ints ys,.int _,lay_ints ys,rfl,(by show 0<=60;decide),_,rfl,?_⟩
   rw[any_ints]
   refine ite2 (fun c=> ?_) (fun c=> ?_)
   ·exact⟨_,rfl,by rw[e,aA c,cu];rfl,sm,_,rfl⟩
   ·exact⟨by rw[e,ao c,Ci],sm,_,rfl⟩
 ·intro p1 hp1
  obtain⟨rfl,sm,_⟩:=p
  rw[aM,yZ]
  exact q p1 _ (sm.trans (aP hp1 _)) aH (sm.free hp1)
def uJ(K:W.Frag):Sp:=fun vs H Q _=>∃(a:Addr) (n i:Int) (ts:List (Int×Int)) (w:Bool),vs=[.ref a,.int i,.bl w]/\bJ K H a n ts/\∀r H',Same H H'->H' r=some (.lst ((jG ts w n.toNat i).map V.int))->H r=none->Q (.ref r) H'
theorem Jb:FnScope ["web","place","tied"] ["web","place","tied"] (defScope Uw):=fsc
theorem JQ{f f1:Addr}{fd d1:FuncData}(F:Fun K "places_by_tie" "places_by_tie" Uw f fd)(D1:bF K mg "has_tie" eU ["web","one","other"] f1 d1)(G1:FnOk P w K mg base CX0 1 f1 d1 ["web","one","other"] (CT K))(aJ:mg "range"=none):
  FnOk P w K mg base CX0 2 f fd ["web","place","tied"] (uJ K):=by
 refine F.ok Jb (fun vs H Q E h=> ?_) (fun cdv A outer s H vs Q E hr h=> ?_)
 ·obtain⟨a,n,i,ts,w,rfl,_⟩:=h
  rfl
 obtain⟨a,n,i,ts,w,rfl,hA,q⟩:=h
 refine⟨_,(bA (cG (oK (own:=["other"]) (caps:=["place","web","tied"]) (ix:=[1,0,2]) rfl (zp rfl aJ (aj (bK fH (pv 0) aL (fun _ _=>rfl)) aq)) rfl rfl (.cons rfl rfl (.cons rfl rfl (.cons rfl rfl .nil))) (fun _ _ _ _ _=>(cJ (i:=0) (show(["other","place","web","tied"]:List Str).Nodup from by decide+kernel) rfl (Or.inl rfl))) (fun _ _ _ _ _=>Gu (PW.pt (pw_and (jM op_ne (pv 0) (pv 1) (nomark _)) (pw_and1 (jM op_eq (pc G1 hr D1 (aj (pv 2) (aj (pv 1) (aj (pv 0) aq)))) (pv 3) (nomark _)))))) (fun _ _ _ _ _=>(pv 0))))),?_⟩
 have h0:=hA.h0
 have h10:=hA.h1
 obtain⟨ta,ra,a1,a2,a3⟩:=id hA.web
 refine⟨_,rfl,a,_,_,.int n,rfl,rfl,a1,rfl,n,rfl,by omega,by omega,?_⟩
 refine Lg (n:=n.toNat) (fun k acc σ H'=>acc=((rng k).filter fun p=> !decide (p=i)&&(aG ts i p==w)).map V.int/\Same H H'/\∃o,σ=[o,some (.int i),some (.ref a),some (.bl w)]) ⟨rfl,Same.refl _,_,rfl⟩ (fun k acc σ H' hk p=> ?_) (by rw[dO];omega) (fun k acc σ H' hk p=> ?_) (fun acc σ H' p=> ?_)
 ·rw[p.1,aM]
  exact dW (Cm _ _) (by unfold rng;simp)
 ·obtain⟨rfl,sm,o,rfl⟩:=p
  have ek:(0+(k:Int))=(k:Int):=by omega
  rw[ek]
  have e:∀b,b=(!decide ((k:Int)=i)&&(aG ts i (k:Int)==w))->((rng (k+1)).filter fun p=> !decide (p=i)&&(aG ts i p==w))=((rng k).filter fun p=> !decide (p=i)&&(aG ts i p==w))++(if b=true then[(k:Int)]else[]):=fun b hb=>by
   rw[Jj,LR,GD,hb];rfl
  refine⟨_,rfl,_,rfl,rfl,_,rfl,?_⟩
  rw[Nz]
  refine ite2 (fun c=> ?_) (fun c=> ?_)
  ·refine⟨_,rfl,_,rfl,_,rfl,a,n,_,_,ts,rfl,(hA.same sm).web,fun H5 s5=>⟨_,rfl,rfl,_,rfl,?_⟩⟩
   rw[blV_eq,tied_eq hA.pk]
   refine ite2 (fun c2=> ?_) (fun c2=> ?_)
   ·exact⟨_,rfl,by rw[e true (by rw[c,c2];rfl),cu];rfl,sm.trans s5,_,rfl⟩
   ·exact⟨by rw[e false (by rw[c,Bool.eq_false_iff.mpr c2];rfl)];simp,sm.trans s5,_,rfl⟩
  ·exact⟨by rw[e false (by rw[Bool.eq_false_iff.mpr c];rfl)];simp,sm,_,rfl⟩
 ·intro p1 hp1
  obtain⟨rfl,sm,_⟩:=p
  exact q p1 _ (sm.trans (aP hp1 _)) aH (sm.free hp1)
def BK(K:W.Frag)(H:Hp)(r:Addr)(ss:List (List Int)):Prop:=∃its:List (Addr×List Int),H r=some (.lst (its.map fun p=>V.ref p.1))/\(∀p∈its,SqT K H p.1 (p.2.map V.int))/\its.map (fun p=>p.2)=ss
def bD(ss:List (List Int))(ts:List (Int×Int))(w:Bool)(n:Nat):Prop:=ss.Perm (cV ts w n)/\ss.Pairwise fun a b=>HT.lexLt b a=false
theorem Oc{ts:List (Int×Int)}{w:Bool}{n:Nat}(h2:2<=(cV ts w n).length):∀s∈cV ts w n,s≠[]:=by
 intro s hs e
 subst e
 have F:=vI hs
 cases n with
 |zero=>
  have:(cV ts w 0).length<=1:=by
   show(([[]]:List (List Int)).filter (jO ts w 0)).length<=1
   exact Cm _ _
  omega
 |succ n=>
  obtain⟨x,hx,_⟩:=F.max 0 (zm.mpr ⟨by omega,by omega⟩) (by simp)
  cases hx
structure Xw(K:W.Frag)(H:Hp)(ts:List (Int×Int))(w:Bool)(n:Nat)(q:Addr×Addr×Addr×List Int):Prop where
 pr:SqT K H q.1 [.ref q.2.1,.ref q.2.2.1]
 so:SqT K H q.2.1 (q.2.2.2.map V.int)
 le:H q.2.2.1=some (.lst ((iM ts w n q.2.2.2).map V.int))
theorem Xw.same{H H':Hp}{ts:List (Int×Int)}{w:Bool}{n:Nat}{q:Addr×Addr×Addr×List Int}(h:Xw K H ts w n q)(e:Same H H'):Xw K H' ts w n q:=⟨e.tup h.pr,e.tup h.so,e _ _ h.le⟩
def K8(K:W.Frag)(H:Hp)(fd:Addr)(ts:List (Int×Int))(w:Bool)(n:Nat)(ss:List (List Int)):Prop:=∃its:List (Addr×Addr×Addr×List Int),H fd=some (.lst (its.map fun q=>V.ref q.1))/\(∀q∈its,Xw K H ts w n q)/\its.map (fun q=>q.2.2.2)=ss
def jY(K:W.Frag):Sp:=fun vs H Q _=>∃(fl:Addr) (fas:List Addr) (ts:List (Int×Int)) (w:Bool) (n:Nat),vs=[.ref fl]/\H fl=some (.lst (fas.map V.ref))/\fas.length=n/\n<=10/\(∀(i:Nat) f,fas[i]? =some f->H f=some (.lst ((jG ts w n (i:Int)).map V.int)))/\
 ∀r ss H',Same H H'->BK K H' r ss->bD ss ts w n->H r=none->Q (.ref r) H'
theorem dG:FnScope ["friends","found","place","wider"] ["friends"] (defScope dI):=fsc
theorem xR{f f1:Addr}{fd d1:FuncData}(F:Fun K "full_sets" "full_sets" dI f fd)(D1:bF K mg "in_both" eO ["ones","others"] f1 d1)(G1:FnOk P w K mg base CX0 1 f1 d1 ["ones","others"] (wX K))(vq:mg "list"=none)(aJ:mg "range"=none)(cU:mg "len"=none)(fj:mg "sorted"=none):
  FnOk P w K mg base CX0 2 f fd ["friends"] (jY K):=by
 refine F.ok dG (fun vs H Q E h=> ?_) (fun cdv A outer s H vs Q E hr h=> ?_)
 ·obtain⟨fl,fas,ts,w,n,rfl,_⟩:=h
  rfl
 obtain⟨fl,fas,ts,w,n,rfl,hF,hn,h10,hfr,q⟩:=h
 refine⟨_,(aO (cg (i:=1) dG.nd rfl (Or.inl rfl) (wD (aj (gP (aj (gP aq) (aj (oU rfl rfl vq rfl aJ (aj (gQ yX rfl cU wk (aj (pv 0) aq)) aq)) aq))) aq))) (aO (ps_for was rfl (zp rfl aJ (aj (gQ yX rfl cU wk (aj (pv 0) aq)) aq)) (cJ (i:=2) dG.nd rfl (Or.inr rfl)) (aO (Qy (i:=3) (own:=["some","left"]) (caps:=["place","friends"]) (ix:=[2,0]) dG.nd rfl (Or.inl rfl) rfl (Ec (pv 1)) rfl rfl (.cons rfl rfl (.cons rfl rfl .nil)) (fun _ _ _ _ _=>(dD K (n:=2) rfl (mZ (cJ (i:=0) (show(["some","left","place","friends"]:List Str).Nodup from by decide+kernel) rfl (Or.inl rfl)) (mZ (cJ (i:=1) (show(["some","left","place","friends"]:List Str).Nodup from by decide+kernel) rfl (Or.inl rfl)) Cd)))) (fun _ _ _ _ _=>Gu (jM (p7 K hr.units) (pv 2) (pv 1) (by with_unfolding_all rfl))) (fun _ _ _ _ _=>(gP (aj (bH (xQ K) (pv 0) (gP (aj (pv 2) aq))) (aj (pc G1 hr D1 (aj (pv 1) (aj (bK (gK K) (pv 3) (pv 2) (fun _ _=>rfl)) aq))) aq))))) (bA (cg (i:=1) dG.nd rfl (Or.inl rfl) (bH op_cat (pv 1) (pv 3)))))) (bA (cG (gQ vV rfl fj (by decide+kernel) (aj (oK (own:=["some","left"]) (caps:=[]) (ix:=[]) rfl (Ec (pv 1)) rfl rfl .nil (fun _ _ _ _ _=>(dD K (n:=2) rfl (mZ (cJ (i:=0) (show(["some","left"]:List Str).Nodup from by decide+kernel) rfl (Or.inl rfl)) (mZ (cJ (i:=1) (show(["some","left"]:List Str).Nodup from by decide+kernel) rfl (Or.inl rfl)) Cd)))) (fun _ _ _ _ _=>Gu (pt_not (tV K (pv 1) (fun _=>rfl)))) (fun _ _ _ _ _=>(pv 0))) aq)))))),?_⟩
 have el:((fas.map V.ref).length:Int)=(n:Int):=by rw[aM,hn]
 refine⟨(by show 0<=sizeLine;decide),fun e1 he1=> ?_⟩
 have s1:=aP he1 (.tup [])
 have t1:SqT K (upd H e1 (.tup [])) e1 []:=SqT.of aH
 generalize (upd H e1 (.tup []))=H1 at *
 refine⟨_,rfl,fl,_,rfl,.inl (SqL.of (s1 _ _ hF)),fun _=>⟨_,rfl,by omega,by rw[el];omega,fun rl hrl=> ?_⟩⟩
 have er:dR ((fas.map V.ref).length:Int).toNat=(rng n).map V.int:=by rw[el,ZP,HB]
 rw[er]
 have s2:=aP hrl (.lst ((rng n).map V.int))
 have t2:(upd H1 rl (.lst ((rng n).map V.int))) rl=some (.lst ((rng n).map V.int)):=aH
 generalize (upd H1 rl (.lst ((rng n).map V.int)))=H2 at *
 refine⟨(by show 2<=sizeLine;decide),fun e3 he3=> ?_⟩
 have s3:=aP he3 (.tup [.ref e1,.ref rl])
 have t3:SqT K (upd H2 e3 (.tup [.ref e1,.ref rl])) e3 [.ref e1,.ref rl]:=SqT.of aH
 generalize (upd H2 e3 (.tup [.ref e1,.ref rl]))=H3 at *
 refine⟨(by show 1<=sizeLine;decide),fun fd hfd=> ?_⟩
 have s4:=aP hfd (.lst [.ref e3])
 have F4:K8 K (upd H3 fd (.lst [.ref e3])) fd ts w n (bh ts w 0):=by
  refine⟨[(e3,e1,rl,[])],aH,fun q hq=> ?_,rfl⟩
  rw[oN.mp hq]
  exact⟨s4.tup t3,s4.tup (s3.tup (s2.tup t1)),by rw[J6];exact s4 _ _ (s3 _ _ t2)⟩
 have s04:=s1.trans (s2.trans (s3.trans s4))
 generalize (upd H3 fd (.lst [.ref e3]))=H4 at *
 refine⟨_,rfl,fl,_,rfl,.inl (SqL.of (s04 _ _ hF)),fun _=>⟨_,rfl,by omega,by rw[el];omega,?_⟩⟩
 have en:((fas.map V.ref).length:Int).toNat=n:=by rw[el,ZP]
 rw[en]
 refine Lw (n:=n) (fun k σ H'=>Same H H'/\∃fd b2 b3,K8 K H' fd ts w n (bh ts w k)/\σ=[some (.ref fl),some (.ref fd),b2,b3]) ⟨s04,fd,_,_,F4,rfl⟩ (fun k σ H' hk p=> ?_) (fun σ H' p=> ?_)
 ·obtain⟨s5,fd,b2,b3,F5,rfl⟩:=p
  have ek:(0+(k:Int))=(k:Int):=by omega
  rw[ek]
  obtain⟨its,f1,f2,f3⟩:=F5
  have hlen:its.length<=1024:=by
   have a:=w6 (ts:=ts) (w:=w) k
   rw[<-f3,aM]at a
   have b:2^k<=2^10:=Nat.pow_le_pow_right (by decide) (by omega)
   have c:2^10=1024:=by decide
   omega
  have hkf:k<fas.length:=by omega
  have hfk:(fas.map V.ref)[k]? =some (.ref fas[k]):=by rw[dY,fX hkf];rfl
  have hgk:=hfr k fas[k] (fX hkf)
  refine⟨_,rfl,fd,_,rfl,SqL.of f1,fun hzf=> ?_⟩
  refine Gx (xs:=its.map fun q=>V.ref q.1) (fun i acc σ zj=>(∃its2:List (Addr×Addr×Addr×List Int),acc=its2.map (fun q=>V.ref q.1)/\(∀q∈its2,Xw K zj ts w n q)/\its2.map (fun q=>q.2.2.2)=(((bh ts w k).take i).filter fun s=>goB ts w s (k:Int)).map fun s=>s++[(k:Int)])/\Same H' zj/\∃o1 o2,σ=[o1,o2,some (.int (k:Int)),some (.ref fl)]) ⟨⟨[],rfl,fun q hq=>(nomatch hq),rfl⟩,Same.refl _,_,_,rfl⟩ (fun i acc σ zj _ p=>p.2.1.seq (SqL.of f1)) (fun i acc σ zj hi p=> ?_) hzf (fun i x acc σ zj hx p=> ?_) (fun acc σ zj p=> ?_)
  ·obtain⟨⟨its2,rfl,g2,g3⟩,_⟩:=p
   have a:=iW List.length g3
   rw[aM,aM]at a
   rw[aM,a]
   exact dW (Cm _ _) (by rw[Lk];exact O9 _ _)
  ·obtain⟨⟨its2,rfl,g2,g3⟩,sm,o1,o2,rfl⟩:=p
   rw[dY]at hx
   cases ex:its[i]? with
   |none=>rw[ex]at hx;cases hx
   |some v=>
    rw[ex]at hx
    cases hx
    have fv:=(f2 v (uy ex)).same sm
    have hsv:(bh ts w k)[i]? =some v.2.2.2:=by rw[<-f3,dY,ex];rfl
    obtain⟨hi,esv⟩:=pL.mp hsv
    have Sv:=jZ k v.2.2.2 (uy hsv)
    have e:=Zf (p:=fun s=>goB ts w s (k:Int)) hi
    rw[esv]at e
    refine⟨v.1,_,rfl,fv.pr,rfl,_,_,rfl,_,_,rfl,rfl,?_⟩
    refine⟨_,rfl,_,rfl,v.2.2.1,_,_,.int (k:Int),rfl,.inl (SqL.of fv.le),cB.ints _,.int _,lay_ints _,rfl,(by show 0<=60;decide),_,rfl,?_⟩
    rw[any_ints,NK Sv hk]
    refine ite2 (fun c=> ?_) (fun c=> ?_)
    ·refine⟨_,rfl,_,rfl,(by show 1<=sizeLine;decide),fun e5 he5=> ?_⟩
     have s6:=aP he5 (.tup [.int (k:Int)])
     have t6:SqT K (upd zj e5 (.tup [.int (k:Int)])) e5 [.int (k:Int)]:=SqT.of aH
     generalize (upd zj e5 (.tup [.int (k:Int)]))=H6 at *
     have hvl:v.2.2.2.length<=10:=by
      have a:=gH (l:=v.2.2.2) (m:=rng n) (Sv.up.imp fun{x y} h=>by omega) (fun x hx=>zm.mpr (by have:=Sv.lt x hx;omega))
      have b:(rng n).length=n:=by unfold rng;simp
      omega
     refine⟨v.2.1,e5,_,_,rfl,rfl,s6.tup fv.so,t6,(by rw[aM,dO];show v.2.2.2.length+1<=_;omega),fun r7 H7 s7 h7=> ?_⟩
     have YK:=s6.trans s7
     refine⟨_,rfl,_,rfl,_,rfl,fl,_,_,.ref fas[k],rfl,rfl,SqL.of ((s5.trans (sm.trans YK)) _ _ hF),atI_nat hfk,v.2.2.1,fas[k],_,_,rfl,SqL.of (YK _ _ fv.le),SqL.of ((s5.trans (sm.trans YK)) _ _ hgk),fun r8 H8 s8 h8 n8=> ?_⟩
     refine⟨(by show 2<=sizeLine;decide),fun e9 he9=> ?_⟩
     have s9:=aP he9 (.tup [.ref r7,.ref r8])
     have s69:=YK.trans (s8.trans s9)
     refine⟨⟨its2++[(e9,r7,r8,v.2.2.2++[(k:Int)])],by rw[cu];rfl,fun q hq=> ?_,by rw[cu,g3,e,aA c,cu];rfl⟩,sm.trans s69,_,_,rfl⟩
     rcases lD.mp hq with z|z
     ·exact(g2 q z).same s69
     ·rw[oN.mp z]
      refine⟨SqT.of aH,s9.tup (s8.tup ?_),by rw[Gb];exact s9 _ _ h8⟩
      rw[cu];exact h7
    ·exact⟨⟨its2,rfl,g2,by rw[g3,e,ao c,Ci]⟩,sm,_,_,rfl⟩
  ·intro p1 hp1
   obtain⟨⟨its2,rfl,g2,g3⟩,sm,o1,o2,rfl⟩:=p
   have hle:(its.map fun q=>V.ref q.1).length=(bh ts w k).length:=by rw[aM,<-f3,aM]
   rw[hle,yZ]at g3
   have s6:=aP hp1 (.lst (its2.map fun q=>V.ref q.1))
   have l2:its2.length<=1024:=by
    have a:=iW List.length g3
    rw[aM,aM]at a
    have b:=Cm (fun s=>goB ts w s (k:Int)) (bh ts w k)
    rw[<-f3,aM]at b
    rw[<-f3]at a
    omega
   refine⟨_,rfl,_,rfl,fd,p1,_,_,rfl,rfl,(sm.trans s6) _ _ f1,aH,by rw[aM,aM,dO];omega,fun p2 hp2=> ?_⟩
   have s7:=aP hp2 (.lst ((its.map fun q=>V.ref q.1)++(its2.map fun q=>V.ref q.1)))
   refine⟨s5.trans (sm.trans (s6.trans s7)),p2,_,_,⟨its++its2,by rw[aH,cu],fun q hq=> ?_,by rw[cu,f3,g3];rfl⟩,rfl⟩
   rcases lD.mp hq with z|z
   ·exact(f2 q z).same (sm.trans (s6.trans s7))
   ·exact(g2 q z).same (s6.trans s7)
 ·obtain⟨s5,fd,b2,b3,⟨its,f1,f2,f3⟩,rfl⟩:=p
  refine⟨_,rfl,fd,_,rfl,SqL.of f1,fun hzf=> ?_⟩
  refine Gx (xs:=its.map fun q=>V.ref q.1) (fun i acc σ zj=>(∃its2:List (Addr×List Int),acc=its2.map (fun q=>V.ref q.1)/\(∀q∈its2,SqT K H' q.1 (q.2.map V.int))/\its2.map (fun q=>q.2)=((bh ts w n).take i).filter (jO ts w n))/\Same H' zj/\∃o1 o2,σ=[o1,o2]) ⟨⟨[],rfl,fun q hq=>(nomatch hq),rfl⟩,Same.refl _,_,_,rfl⟩ (fun i acc σ zj _ p=>p.2.1.seq (SqL.of f1)) (fun i acc σ zj hi p=> ?_) hzf (fun i x acc σ zj hx p=> ?_) (fun acc σ zj p=> ?_)
  ·obtain⟨⟨its2,rfl,g2,g3⟩,_⟩:=p
   have a:=iW List.length g3
   rw[aM]at a
   rw[aM,a]
   exact dW (Cm _ _) (by rw[Lk];exact O9 _ _)
  ·obtain⟨⟨its2,rfl,g2,g3⟩,sm,o1,o2,rfl⟩:=p
   rw[dY]at hx
   cases ex:its[i]? with
   |none=>rw[ex]at hx;cases hx
   |some v=>
    rw[ex]at hx
    cases hx
    have fv:=f2 v (uy ex)
    have hsv:(bh ts w n)[i]? =some v.2.2.2:=by rw[<-f3,dY,ex];rfl
    obtain⟨hi,esv⟩:=pL.mp hsv
    have e:=Zf (p:=jO ts w n) hi
    rw[esv]at e
    refine⟨v.1,_,rfl,sm.tup fv.pr,rfl,_,_,rfl,_,_,rfl,rfl,?_⟩
    refine⟨_,rfl,_,.inl ⟨_,SqL.of (sm _ _ fv.le),rfl⟩,?_⟩
    have eb:(!!((iM ts w n v.2.2.2).map V.int).isEmpty)=jO ts w n v.2.2.2:=by
     rw[Zo,<-Gd]
     cases iM ts w n v.2.2.2<;>rfl
    dsimp only
    rw[eb]
    refine ite2 (fun c=> ?_) (fun c=> ?_)
    ·refine⟨_,rfl,⟨its2++[(v.2.1,v.2.2.2)],by rw[cu];rfl,fun q hq=> ?_,by rw[cu,g3,e,aA c];rfl⟩,sm,_,_,rfl⟩
     rcases lD.mp hq with z|z
     ·exact g2 q z
     ·rw[oN.mp z];exact fv.so
    ·exact⟨⟨its2,rfl,g2,by rw[g3,e,ao c,Ci]⟩,sm,_,_,rfl⟩
  ·intro p1 hp1
   obtain⟨⟨its2,rfl,g2,g3⟩,sm,_⟩:=p
   have hle:(its.map fun q=>V.ref q.1).length=(bh ts w n).length:=by rw[aM,<-f3,aM]
   rw[hle,yZ]at g3
   have g4:its2.map (fun q=>q.2)=cV ts w n:=g3
   have hl2:its2.length=(cV ts w n).length:=by rw[<-g4,aM]
   have h36:=tY (ts:=ts) (w:=w) h10
   have s6:=aP hp1 (.lst (its2.map fun q=>V.ref q.1))
   refine⟨p1,its2,rfl,SqL.of aH,fun p hp=>⟨(sm.trans s6).tup (g2 p hp),fun h2=> ?_⟩,by omega,fun l its' hl hpm hpw=> ?_⟩
   ·exact Oc (ts:=ts) (w:=w) (n:=n) (by omega) p.2 (by rw[<-g4];exact jw.mpr ⟨p,hp,rfl⟩)
   ·have s7:=aP hl (.lst (its'.map fun q=>V.ref q.1))
    have s57:=s5.trans (sm.trans (s6.trans s7))
    refine q l (its'.map fun q=>q.2) _ s57 ⟨its',aH,fun p hp=>(sm.trans (s6.trans s7)).tup (g2 p (hpm.mem_iff.mp hp)),rfl⟩ ⟨?_,?_⟩ ((s5.trans (sm.trans s6)).free hl)
    ·rw[<-g4];exact hpm.map _
    ·rw[Ck];exact hpw
def jc(K:W.Frag):Sp:=fun vs H Q _=>∃(a:Addr) (n:Int) (ts:List (Int×Int)),vs=[.ref a]/\bJ K H a n ts/\∀r ss H',Same H H'->BK K H' r ss->bD ss ts false n.toNat->H r=none->Q (.ref r) H'
theorem uQ:FnScope ["web"] ["web"] (defScope Ur):=fsc
theorem u6{f f1 f2 f3:Addr}{fd d1 d2 d3:FuncData}(F:Fun K "full_apart" "full_apart" Ur f fd)(D1:bF K mg "need_web" Gy ["thing"] f1 d1)(G1:FnOk P w K mg base CX0 7 f1 d1 ["thing"] (bQ K))(D2:bF K mg "full_sets" dI ["friends"] f2 d2)(G2:FnOk P w K mg base CX0 2 f2 d2 ["friends"] (jY K))(D3:bF K mg "places_by_tie" Uw ["web","place","tied"] f3 d3)(G3:FnOk P w K mg base CX0 2 f3 d3 ["web","place","tied"] (uJ K))(aJ:mg "range"=none):
  FnOk P w K mg base CX0 8 f fd ["web"] (jc K):=by
 refine F.ok uQ (fun vs H Q E h=> ?_) (fun cdv A outer s H vs Q E hr h=> ?_)
 ·obtain⟨a,n,ts,rfl,_⟩:=h
  rfl
 obtain⟨a,n,ts,rfl,hA,q⟩:=h
 refine⟨_,(aO (lF (pc G1 hr D1 (aj (pv 0) aq))) (bA (cG (pc G2 hr D2 (aj (oK (own:=["place"]) (caps:=["web"]) (ix:=[0]) rfl (zp rfl aJ (aj (bK fH (pv 0) aL (fun _ _=>rfl)) aq)) rfl rfl (.cons rfl rfl .nil) (fun _ _ _ _ _=>(cJ (i:=0) (show(["place","web"]:List Str).Nodup from by decide+kernel) rfl (Or.inl rfl))) (fun _ _ _ _ _=>rY) (fun _ _ _ _ _=>(pc G3 hr D3 (aj (pv 1) (aj (pv 0) (aj pe_bl aq)))))) aq))))),?_⟩
 have h0:=hA.h0
 have h10:=hA.h1
 refine⟨_,rfl,_,_,rfl,hA.web.dv.dx,hA.ok,fun H1 s1=> ?_⟩
 have zf:=hA.same s1
 obtain⟨ta,ra,a1,a2,a3⟩:=id zf.web
 refine⟨_,rfl,a,_,_,.int n,rfl,rfl,a1,rfl,n,rfl,by omega,by omega,?_⟩
 refine Lg (n:=n.toNat) (fun k acc σ H'=>(∃fas:List Addr,acc=fas.map V.ref/\fas.length=k/\∀(i:Nat) f,fas[i]? =some f->H' f=some (.lst ((jG ts false n.toNat (i:Int)).map V.int)))/\Same H1 H'/\∃o,σ=[o,some (.ref a)]) ⟨⟨[],rfl,rfl,fun i f h=>by simp at h⟩,Same.refl _,_,rfl⟩ (fun k acc σ H' hk p=> ?_) (by rw[dO];omega) (fun k acc σ H' hk p=> ?_) (fun acc σ H' p=> ?_)
 ·obtain⟨⟨fas,rfl,hl,_⟩,_⟩:=p
  rw[aM];omega
 ·obtain⟨⟨fas,rfl,hl,hf⟩,sm,o,rfl⟩:=p
  have ek:(0+(k:Int))=(k:Int):=by omega
  rw[ek]
  refine⟨_,rfl,_,rfl,a,n,_,ts,false,rfl,zf.same sm,fun r H5 s5 h5 n5=>⟨⟨fas++[r],by rw[cu];rfl,by rw[jU,hl];rfl,fun i f hi=> ?_⟩,sm.trans s5,_,rfl⟩⟩
  by_cases c:i<fas.length
  ·rw[Yl c]at hi
   exact s5 _ _ (hf i f hi)
  ·have hb:i<(fas++[r]).length:=(pL.mp hi).1
   rw[jU]at hb
   have e:i=fas.length:=by have:[r].length=1:=rfl;omega
   rw[e,U7 (aU _),Nat.sub_self]at hi
   cases hi
   rw[e,hl];exact h5
 ·intro p1 hp1
  obtain⟨⟨fas,rfl,hl,hf⟩,sm,_⟩:=p
  have s6:=aP hp1 (.lst (fas.map V.ref))
  exact⟨p1,fas,ts,false,n.toNat,rfl,aH,hl,by omega,fun i f hi=>s6 _ _ (hf i f hi),fun r ss H7 s7 h7 h8 n7=>q r ss H7 (s1.trans (sm.trans (s6.trans s7))) h7 h8 ((s1.trans (sm.trans s6)).free n7)⟩
def lJ(K:W.Frag):Sp:=fun vs H Q _=>∃(a:Addr) (n:Int) (ts:List (Int×Int)),vs=[.ref a]/\bJ K H a n ts/\∀r ss H',Same H H'->BK K H' r ss->bD ss ts true n.toNat->H r=none->Q (.ref r) H'
theorem sG:FnScope ["web"] ["web"] (defScope Xx):=fsc
theorem sH{f f1 f2 f3:Addr}{fd d1 d2 d3:FuncData}(F:Fun K "full_crowds" "full_crowds" Xx f fd)(D1:bF K mg "need_web" Gy ["thing"] f1 d1)(G1:FnOk P w K mg base CX0 7 f1 d1 ["thing"] (bQ K))(D2:bF K mg "full_sets" dI ["friends"] f2 d2)(G2:FnOk P w K mg base CX0 2 f2 d2 ["friends"] (jY K))(D3:bF K mg "places_by_tie" Uw ["web","place","tied"] f3 d3)(G3:FnOk P w K mg base CX0 2 f3 d3 ["web","place","tied"] (uJ K))(aJ:mg "range"=none):
  FnOk P w K mg base CX0 8 f fd ["web"] (lJ K):=by
 refine F.ok sG (fun vs H Q E h=> ?_) (fun cdv A outer s H vs Q E hr h=> ?_)
 ·obtain⟨a,n,ts,rfl,_⟩:=h
  rfl
 obtain⟨a,n,ts,rfl,hA,q⟩:=h
 refine⟨_,(aO (lF (pc G1 hr D1 (aj (pv 0) aq))) (bA (cG (pc G2 hr D2 (aj (oK (own:=["place"]) (caps:=["web"]) (ix:=[0]) rfl (zp rfl aJ (aj (bK fH (pv 0) aL (fun _ _=>rfl)) aq)) rfl rfl (.cons rfl rfl .nil) (fun _ _ _ _ _=>(cJ (i:=0) (show(["place","web"]:List Str).Nodup from by decide+kernel) rfl (Or.inl rfl))) (fun _ _ _ _ _=>rY) (fun _ _ _ _ _=>(pc G3 hr D3 (aj (pv 1) (aj (pv 0) (aj pe_bl aq)))))) aq))))),?_⟩
 have h0:=hA.h0
 have h10:=hA.h1
 refine⟨_,rfl,_,_,rfl,hA.web.dv.dx,hA.ok,fun H1 s1=> ?_⟩
 have zf:=hA.same s1
 obtain⟨ta,ra,a1,a2,a3⟩:=id zf.web
 refine⟨_,rfl,a,_,_,.int n,rfl,rfl,a1,rfl,n,rfl,by omega,by omega,?_⟩
 refine Lg (n:=n.toNat) (fun k acc σ H'=>(∃fas:List Addr,acc=fas.map V.ref/\fas.length=k/\∀(i:Nat) f,fas[i]? =some f->H' f=some (.lst ((jG ts true n.toNat (i:Int)).map V.int)))/\Same H1 H'/\∃o,σ=[o,some (.ref a)]) ⟨⟨[],rfl,rfl,fun i f h=>by simp at h⟩,Same.refl _,_,rfl⟩ (fun k acc σ H' hk p=> ?_) (by rw[dO];omega) (fun k acc σ H' hk p=> ?_) (fun acc σ H' p=> ?_)
 ·obtain⟨⟨fas,rfl,hl,_⟩,_⟩:=p
  rw[aM];omega
 ·obtain⟨⟨fas,rfl,hl,hf⟩,sm,o,rfl⟩:=p
  have ek:(0+(k:Int))=(k:Int):=by omega
  rw[ek]
  refine⟨_,rfl,_,rfl,a,n,_,ts,true,rfl,zf.same sm,fun r H5 s5 h5 n5=>⟨⟨fas++[r],by rw[cu];rfl,by rw[jU,hl];rfl,fun i f hi=> ?_⟩,sm.trans s5,_,rfl⟩⟩
  by_cases c:i<fas.length
  ·rw[Yl c]at hi
   exact s5 _ _ (hf i f hi)
  ·have hb:i<(fas++[r]).length:=(pL.mp hi).1
   rw[jU]at hb
   have e:i=fas.length:=by have:[r].length=1:=rfl;omega
   rw[e,U7 (aU _),Nat.sub_self]at hi
   cases hi
   rw[e,hl];exact h5
 ·intro p1 hp1
  obtain⟨⟨fas,rfl,hl,hf⟩,sm,_⟩:=p
  have s6:=aP hp1 (.lst (fas.map V.ref))
  exact⟨p1,fas,ts,true,n.toNat,rfl,aH,hl,by omega,fun i f hi=>s6 _ _ (hf i f hi),fun r ss H7 s7 h7 h8 n7=>q r ss H7 (s1.trans (sm.trans (s6.trans s7))) h7 h8 ((s1.trans (sm.trans s6)).free n7)⟩
def dX(ts:List (Int×Int))(w:Bool):Nat->List Int
 |0=>[]
 |k+1=>if goB ts w (dX ts w k) (k:Int)=true then dX ts w k++[(k:Int)]else dX ts w k
theorem tX{ts:List (Int×Int)}{w:Bool}:∀k:Nat,dX ts w k∈bh ts w k
 |0=>by show([]:List Int)∈[[]];simp
 |k+1=>by
  have ih:=tX (ts:=ts) (w:=w) k
  show dX ts w (k+1)∈bh ts w k++((bh ts w k).filter fun s=>goB ts w s (k:Int)).map fun s=>s++[(k:Int)]
  unfold dX
  by_cases c:goB ts w (dX ts w k) (k:Int)=true
  ·rw[aA c]
   exact Cp _ (jw.mpr ⟨_,iR.mpr ⟨ih,c⟩,rfl⟩)
  ·rw[ao c]
   exact Tt _ ih
theorem j9{ts:List (Int×Int)}{w:Bool}{x:Int}{k:Nat}(h:x∈dX ts w k):∀m:Nat,x∈dX ts w (k+m)
 |0=>h
 |m+1=>by
  have ih:=j9 h m
  show x∈dX ts w (k+m+1)
  unfold dX
  split
  ·exact Tt _ ih
  ·exact ih
theorem Ko(ts:List (Int×Int))(w:Bool)(n:Nat):cV ts w n≠[]:=by
 have h:dX ts w n∈cV ts w n:=by
  refine iR.mpr ⟨tX n,?_⟩
  unfold jO
  rw[Vl,UW]
  intro p hp hc
  rw[qm]at hc
  have hn:p∉dX ts w n:=by simpa using hc.1
  obtain⟨p0,p1⟩:=zm.mp hp
  have ep:((p.toNat:Nat):Int)=p:=by omega
  have hk:¬goB ts w (dX ts w p.toNat) p=true:=fun c=>by
   apply hn
   have h1:p∈dX ts w (p.toNat+1):=by
    unfold dX
    rw[ep,aA c]
    simp
   have h2:=j9 h1 (n-(p.toNat+1))
   rw[show p.toNat+1+(n-(p.toNat+1))=n by omega]at h2
   exact h2
  apply hk
  unfold goB
  rw[jT]
  intro q hq
  have h2:=j9 hq (n-p.toNat)
  rw[show p.toNat+(n-p.toNat)=n by omega]at h2
  exact jT.mp hc.2 q h2
 intro e
 rw[e]at h
 cases h
def qy(K:W.Frag):Sp:=fun vs H Q _=>∃(l:Addr) (its:List (Addr×List Int)),vs=[.ref l]/\SqL K H l (its.map fun p=>V.ref p.1)/\(∀p∈its,SqT K H p.1 (p.2.map V.int))/\its≠[]/\
 ∀(i:Nat) (p:Addr×List Int),its[i]? =some p->(∀(j:Nat) r,its[j]? =some r->r.2.length<=p.2.length/\(j<i->r.2.length<p.2.length))->Q (.ref p.1) H
theorem Es:FnScope ["sets"] ["sets"] (defScope Ux):=fsc
theorem Fz{f:Addr}{fd:FuncData}(F:Fun K "first_greatest" "first_greatest" Ux f fd)(JZ:mg "max"=none)(cU:mg "len"=none):
  FnOk P w K mg base CX0 1 f fd ["sets"] (qy K):=by
 refine F.ok Es (fun vs H Q E h=> ?_) (fun cdv A outer s H vs Q E hr h=> ?_)
 ·obtain⟨l,its,rfl,_⟩:=h
  rfl
 obtain⟨l,its,rfl,hL,hT,hne,q⟩:=h
 refine⟨_,(bA (cG (Fi rfl rfl JZ rfl cU (aj (pv 0) aq)))),?_⟩
 exact⟨_,rfl,l,its,rfl,hL,hT,hne,q⟩
def n6(s:List Int)(ts:List (Int×Int))(w:Bool)(n:Nat):Prop:=∃ss,bD ss ts w n/\∃i:Nat,ss[i]? =some s/\∀(j:Nat) t,ss[j]? =some t->t.length<=s.length/\(j<i->t.length<s.length)
theorem zL{ss tt:List (List Int)}{ts:List (Int×Int)}{w:Bool}{n:Nat}(h:bD ss ts w n)(h':bD tt ts w n):ss=tt:=Dt (h.1.trans h'.1.symm) h.2 h'.2
theorem JW{s t:List Int}{ts:List (Int×Int)}{w:Bool}{n:Nat}(h:n6 s ts w n)(h':n6 t ts w n):s=t:=by
 obtain⟨ss,a1,i,a2,a3⟩:=h
 obtain⟨tt,b1,j,b2,b3⟩:=h'
 have e:=zL a1 b1
 subst e
 have x:=a3 j t b2
 have y:=b3 i s a2
 have ij:i=j:=by
  rcases Pb i j with z|z|z
  ·have:=y.2 z;omega
  ·exact z
  ·have:=x.2 z;omega
 subst ij
 rw[a2]at b2
 cases b2
 rfl
theorem tH{ss:List (List Int)}{ts:List (Int×Int)}{w:Bool}{n:Nat}(h:bD ss ts w n):ss≠[]:=fun e=>by
 have:=h.1.length_eq
 rw[e]at this
 exact Ko ts w n (List.length_eq_zero_iff.mp this.symm)
def wZ(K:W.Frag):Sp:=fun vs H Q _=>∃(a:Addr) (n:Int) (ts:List (Int×Int)),vs=[.ref a]/\bJ K H a n ts/\∀(r:Addr) (s:List Int) H',Same H H'->SqT K H' r (s.map V.int)->n6 s ts false n.toNat->Q (.ref r) H'
theorem Ep:FnScope ["web"] ["web"] (defScope XM):=fsc
theorem Fx{f f1 f2:Addr}{fd d1 d2:FuncData}(F:Fun K "greatest_apart" "greatest_apart" XM f fd)(D1:bF K mg "first_greatest" Ux ["sets"] f1 d1)(G1:FnOk P w K mg base CX0 1 f1 d1 ["sets"] (qy K))(D2:bF K mg "full_apart" Ur ["web"] f2 d2)(G2:FnOk P w K mg base CX0 8 f2 d2 ["web"] (jc K)):
  FnOk P w K mg base CX0 9 f fd ["web"] (wZ K):=by
 refine F.ok Ep (fun vs H Q E h=> ?_) (fun cdv A outer s H vs Q E hr h=> ?_)
 ·obtain⟨a,n,ts,rfl,_⟩:=h
  rfl
 obtain⟨a,n,ts,rfl,hA,q⟩:=h
 refine⟨_,(bA (cG (pc G1 hr D1 (aj (pc G2 hr D2 (aj (pv 0) aq)) aq)))),?_⟩
 refine⟨_,rfl,a,n,ts,rfl,hA,fun r ss H1 s1 h1 h2 n1=> ?_⟩
 obtain⟨its,g1,g2,g3⟩:=h1
 refine⟨r,its,rfl,SqL.of g1,g2,fun e=>tH h2 (by rw[<-g3,e];rfl),fun i p hi hb=>q p.1 p.2 H1 s1 (g2 p (uy hi)) ⟨ss,h2,i,by rw[<-g3,dY,hi];rfl,fun j t ht=> ?_⟩⟩
 rw[<-g3,dY]at ht
 cases ej:its[j]? with
 |none=>rw[ej]at ht;cases ht
 |some r'=>
  rw[ej]at ht
  cases ht
  exact hb j r' ej
def wY(K:W.Frag):Sp:=fun vs H Q _=>∃(a:Addr) (n:Int) (ts:List (Int×Int)),vs=[.ref a]/\bJ K H a n ts/\∀(r:Addr) (s:List Int) H',Same H H'->SqT K H' r (s.map V.int)->n6 s ts true n.toNat->Q (.ref r) H'
theorem Eo:FnScope ["web"] ["web"] (defScope XQ):=fsc
theorem Fw{f f1 f2:Addr}{fd d1 d2:FuncData}(F:Fun K "greatest_crowd" "greatest_crowd" XQ f fd)(D1:bF K mg "first_greatest" Ux ["sets"] f1 d1)(G1:FnOk P w K mg base CX0 1 f1 d1 ["sets"] (qy K))(D2:bF K mg "full_crowds" Xx ["web"] f2 d2)(G2:FnOk P w K mg base CX0 8 f2 d2 ["web"] (lJ K)):
  FnOk P w K mg base CX0 9 f fd ["web"] (wY K):=by
 refine F.ok Eo (fun vs H Q E h=> ?_) (fun cdv A outer s H vs Q E hr h=> ?_)
 ·obtain⟨a,n,ts,rfl,_⟩:=h
  rfl
 obtain⟨a,n,ts,rfl,hA,q⟩:=h
 refine⟨_,(bA (cG (pc G1 hr D1 (aj (pc G2 hr D2 (aj (pv 0) aq)) aq)))),?_⟩
 refine⟨_,rfl,a,n,ts,rfl,hA,fun r ss H1 s1 h1 h2 n1=> ?_⟩
 obtain⟨its,g1,g2,g3⟩:=h1
 refine⟨r,its,rfl,SqL.of g1,g2,fun e=>tH h2 (by rw[<-g3,e];rfl),fun i p hi hb=>q p.1 p.2 H1 s1 (g2 p (uy hi)) ⟨ss,h2,i,by rw[<-g3,dY,hi];rfl,fun j t ht=> ?_⟩⟩
 rw[<-g3,dY]at ht
 cases ej:its[j]? with
 |none=>rw[ej]at ht;cases ht
 |some r'=>
  rw[ej]at ht
  cases ht
  exact hb j r' ej
def CP(K:W.Frag):Sp:=fun vs H Q _=>∃(a:Addr) (n:Int) (ts:List (Int×Int)),vs=[.ref a]/\bJ K H a n ts/\∀r H',Same H H'->dN K H' r n (rows (qH ts) n n.toNat)->Q (.ref r) H'
theorem IK:FnScope ["web"] ["web"] (defScope fL):=fsc
theorem JL{f f1 f3:Addr}{fd d1 d3:FuncData}(F:Fun K "other_web" "other_web" fL f fd)(D1:bF K mg "need_web" Gy ["thing"] f1 d1)(G1:FnOk P w K mg base CX0 7 f1 d1 ["thing"] (bQ K))(D3:bF K mg "pairs" g8 ["n"] f3 d3)(G3:FnOk P w K mg base CX0 1 f3 d3 ["n"] (qC K))(mT:mg "tuple"=none):
  FnOk P w K mg base CX0 8 f fd ["web"] (CP K):=by
 refine F.ok IK (fun vs H Q E h=> ?_) (fun cdv A outer s H vs Q E hr h=> ?_)
 ·obtain⟨a,n,ts,rfl,_⟩:=h
  rfl
 obtain⟨a,n,ts,rfl,hA,q⟩:=h
 refine⟨_,aO (lF (pc G1 hr D1 (aj (pv 0) aq))) (bA (cG (gP (aj (bK fH (pv 0) aL (fun _ _=>rfl)) (aj (Lf Lx rfl mT (by decide+kernel) (aj
   (oK (own:=["tie"]) (caps:=["web"]) (ix:=[0]) rfl (Ec (pc G3 hr D3 (aj (bK fH (pv 0) aL (fun _ _=>rfl)) aq))) rfl rfl (.cons rfl rfl .nil) (fun _ _ _ _ _=>cJ (i:=0) (show(["tie","web"]:List Str).Nodup from by decide+kernel) rfl (Or.inl rfl)) (fun _ _ _ _ _=>Gu (jM (Ae K hr.units) (pv 0) (bK (iG K) (pv 1) aL (fun _ _=>rfl)) (by with_unfolding_all rfl))) (fun _ _ _ _ _=>pv 0)) aq)) aq))))),?_⟩
 refine⟨_,rfl,_,_,rfl,hA.web.dv.dx,hA.ok,fun H1 s1=> ?_⟩
 obtain⟨ta,ra,a1,a2,a3⟩:=id (hA.same s1).web
 have WR:=hA.h0
 have zf:=hA.h1
 refine⟨_,rfl,a,_,_,.int n,rfl,rfl,a1,rfl,?_⟩
 refine⟨_,rfl,a,_,_,.int n,rfl,rfl,a1,rfl,n,rfl,WR,zf,fun l H3 s3 p1=> ?_⟩
 obtain⟨rs,e1,v1⟩:=p1.ex
 refine⟨l,rs,rfl,SqL.of e1,fun hz=> ?_⟩
 have hlen:=v1.len
 rw[aM]at hlen
 have xq:=s1.trans s3
 refine Gx (xs:=rs) (fun i acc σ H'=>Same H3 H'/\acc.length<=i/\cB K H' acc (((rows tt n n.toNat).take i).filter (fun p=>qH ts p.1 p.2)|>.map pairD)/\∃o,σ=[o,some (.ref a)]) ⟨Same.refl _,aU _,.nil,_,rfl⟩ (fun i acc σ H' _ p=>p.1.seq (SqL.of e1)) (fun i acc σ H' hi p=>p.2.1) hz (fun i x acc σ H' hx p=> ?_) (fun acc σ H' p=> ?_)
 ·obtain⟨sm,hl,hd,o,rfl⟩:=p
  obtain⟨t,hi,rfl,ht⟩:=jD v1 hx
  have sA:=s3.trans sm
  have hp:DV K H' (.ref t) (pairD (rows tt n n.toNat)[i]):= .tup (sm.tup ht) (.cons (.int _) (.cons (.int _) .nil))
  refine⟨_,rfl,_,rfl,a,_,_,.ref ta,rfl,rfl,sA.tup a1,rfl,ta,ra,_,_,rfl,.inr (sA.tup a2),a3.same sA,hp,jE ts,rfl,(by show max 0 (max 0 0)+1<=60;decide),_,rfl,?_⟩
  rw[yN,jk hi]
  refine ite2 (fun c=> ?_) (fun c=> ?_)
  ·refine⟨_,rfl,sm,by rw[jU];show acc.length+1<=i+1;omega,?_,_,rfl⟩
   rw[aA (show qH ts (rows tt n n.toNat)[i].fst (rows tt n n.toNat)[i].snd=true from c),cu]
   exact hd.append (.cons hp .nil)
  ·refine⟨sm,by omega,?_,_,rfl⟩
   rw[ao (show¬qH ts (rows tt n n.toNat)[i].fst (rows tt n n.toNat)[i].snd=true from c),Ci]
   exact hd
 ·intro p1 hp1
  obtain⟨sm,hl,hd,_⟩:=p
  rw[hlen,yZ,fU]at hd
  have s5:=aP hp1 (.lst acc)
  refine⟨p1,_,rfl,.inl ⟨SqL.of aH,fun t ht=> ?_⟩⟩
  have s6:=aP ht (.tup acc)
  refine⟨(by show 2<=sizeLine;decide),fun r hr'=> ?_⟩
  have s7:=aP hr' (.tup [.int n,.ref t])
  exact q r _ (xq.trans (sm.trans (s5.trans (s6.trans s7)))) ⟨t,acc,SqT.of aH,SqT.of (s7 _ _ aH),hd.same (s5.trans (s6.trans s7))⟩
def P0(K:W.Frag):Sp:=fun vs H Q _=>∃(a sm:Addr) (n:Int) (ts:List (Int×Int)) (xs:List Int),vs=[.ref a,.ref sm]/\bJ K H a n ts/\SqT K H sm (xs.map V.int)/\rK n xs/\
 ∀r H',Same H H'->dN K H' r (xs.length:Int) (rows (T8 xs ts) (xs.length:Int) (xs.length:Int).toNat)->Q (.ref r) H'
theorem Ja:FnScope ["web","some","kept"] ["web","some"] (defScope iw):=fsc
theorem RK{f f1 f2 f3 f4:Addr}{fd d1 d2 d3 d4:FuncData}(F:Fun K "cut_down" "cut_down" iw f fd)(D1:bF K mg "need_web" Gy ["thing"] f1 d1)(G1:FnOk P w K mg base CX0 7 f1 d1 ["thing"] (bQ K))(D2:bF K mg "need_set" ig ["web","thing"] f2 d2)(G2:FnOk P w K mg base CX0 5 f2 d2 ["web","thing"] (tu K))(D3:bF K mg "pairs" g8 ["n"] f3 d3)(G3:FnOk P w K mg base CX0 1 f3 d3 ["n"] (qC K))(D4:bF K mg "has_tie" eU ["web","one","other"] f4 d4)(G4:FnOk P w K mg base CX0 1 f4 d4 ["web","one","other"] (CT K))(mT:mg "tuple"=none)(mL:mg "len"=none):
  FnOk P w K mg base CX0 8 f fd ["web","some"] (P0 K):=by
 refine F.ok Ja (fun vs H Q E h=> ?_) (fun cdv A outer s H vs Q E hr h=> ?_)
 ·obtain⟨a,sm,n,ts,xs,rfl,_⟩:=h
  rfl
 obtain⟨a,sm,n,ts,xs,rfl,hA,hX,hok,q⟩:=h
 refine⟨_,aO (lF (pc G1 hr D1 (aj (pv 0) aq))) (aO (lF (pc G2 hr D2 (aj (pv 0) (aj (pv 1) aq)))) (aO (Qy (i:=2) (own:=["i","j"]) (caps:=["web","some"]) (ix:=[0,1]) Ja.nd rfl (Or.inl rfl) rfl (Ec (pc G3 hr D3 (aj (gQ yX rfl mL wk (aj (pv 1) aq)) aq))) rfl rfl (.cons rfl rfl (.cons rfl rfl .nil)) (fun _ _ _ _ _=>dD K (n:=2) rfl (mZ (cJ (i:=0) (show(["i","j","web","some"]:List Str).Nodup from by decide+kernel) rfl (Or.inl rfl)) (mZ (cJ (i:=1) (show(["i","j","web","some"]:List Str).Nodup from by decide+kernel) rfl (Or.inl rfl)) Cd))) (fun _ _ _ _ _=>Gu (pt_val (pc G4 hr D4 (aj (pv 2) (aj (bK (iG K) (pv 3) (pv 0) (fun _ _=>rfl)) (aj (bK (iG K) (pv 3) (pv 1) (fun _ _=>rfl)) aq)))))) (fun _ _ _ _ _=>gP (aj (pv 0) (aj (pv 1) aq)))) (bA (cG (gP (aj (gQ yX rfl mL wk (aj (pv 1) aq)) (aj (Lf Lx rfl mT (by decide+kernel) (aj (pv 2) aq)) aq))))))),?_⟩
 have zf:=hA.h1
 have h10:=hok.len zf
 refine⟨_,rfl,_,_,rfl,hA.web.dv.dx,hA.ok,fun H1 s1=> ?_⟩
 obtain⟨ta,ra,a1,a2,a3⟩:=id (hA.same s1).web
 have hDX:DX K H1 (.ref sm) (.tuple (xs.map PyData.int)):=(DV.tup (s1.tup hX) (cB.ints xs)).dx
 refine⟨_,rfl,_,rfl,a,n,_,_,_,rfl,a1,hDX,hok.lM,fun H2 s2=> ?_⟩
 have s12:=s1.trans s2
 refine⟨_,rfl,sm,_,rfl,.inr (s12.tup hX),fun _=>⟨_,rfl,by omega,by rw[aM];omega,fun l H3 s3 p1=> ?_⟩⟩
 rw[aM]at p1
 obtain⟨rs,e1,v1⟩:=p1.ex
 refine⟨l,rs,rfl,SqL.of e1,fun hz=> ?_⟩
 have hlen:=v1.len
 rw[aM]at hlen
 have xq:=s12.trans s3
 generalize hR:rows tt (xs.length:Int) (xs.length:Int).toNat=R at *
 have hR':∀p∈R,0<=p.1/\p.1<p.2/\p.2<(xs.length:Int):=fun p hp=>by rw[<-hR,wH]at hp;exact⟨hp.1,hp.2.2.1,hp.2.2.2.1⟩
 refine Gx (xs:=rs) (fun i acc σ H'=>Same H3 H'/\acc.length<=i/\cB K H' acc ((R.take i).filter (fun p=>T8 xs ts p.1 p.2)|>.map pairD)/\∃o1 o2,σ=[o1,o2,some (.ref a),some (.ref sm)]) ⟨Same.refl _,aU _,.nil,_,_,rfl⟩ (fun i acc σ H' _ p=>p.1.seq (SqL.of e1)) (fun i acc σ H' hi p=>p.2.1) hz (fun i x acc σ H' hx p=> ?_) (fun acc σ H' p=> ?_)
 ·obtain⟨sm',hl,hd,o1,o2,rfl⟩:=p
  obtain⟨t,hi,rfl,ht⟩:=jD v1 hx
  have sA:=xq.trans sm'
  have hb:=hR' _ (Cj hi)
  refine⟨t,_,rfl,sm'.tup ht,rfl,_,_,rfl,_,_,rfl,rfl,?_⟩
  refine⟨_,rfl,_,rfl,_,rfl,sm,_,_,_,rfl,rfl,sA.tup hX,Qq hb.1 (by omega),_,rfl,_,rfl,sm,_,_,_,rfl,rfl,sA.tup hX,Qq (by omega) hb.2.2,?_⟩
  refine⟨a,n,_,_,ts,rfl,(hA.same sA).web,fun H5 s5=>⟨_,rfl,?_⟩⟩
  rw[jk hi]
  refine ite2 (fun c=> ?_) (fun c=> ?_)
  ·refine⟨_,rfl,_,rfl,(by show 2<=sizeLine;decide),fun p hp=> ?_⟩
   have s6:=aP hp (.tup [.int (R[i]).1,.int (R[i]).2])
   refine⟨sm'.trans (s5.trans s6),by rw[jU];show acc.length+1<=i+1;omega,?_,_,_,rfl⟩
   rw[aA (show T8 xs ts _ _=true from c),cu]
   exact(hd.same (s5.trans s6)).append (.cons (.tup (SqT.of aH) (.cons (.int _) (.cons (.int _) .nil))) .nil)
  ·refine⟨sm'.trans s5,by omega,?_,_,_,rfl⟩
   rw[ao (show¬T8 xs ts _ _=true from c),Ci]
   exact hd.same s5
 ·intro p1 hp1
  obtain⟨sm',hl,hd,_⟩:=p
  rw[hlen,yZ,<-hR,fU]at hd
  have s5:=aP hp1 (.lst acc)
  have sA:=xq.trans (sm'.trans s5)
  refine⟨_,rfl,sm,_,rfl,.inr (sA.tup hX),fun _=>⟨_,rfl,p1,_,rfl,.inl ⟨SqL.of aH,fun t ht=> ?_⟩⟩⟩
  have s6:=aP ht (.tup acc)
  refine⟨(by show 2<=sizeLine;decide),fun r hr'=> ?_⟩
  rw[aM]
  have s7:=aP hr' (.tup [.int (xs.length:Int),.ref t])
  exact q r _ (sA.trans (s6.trans s7)) ⟨t,acc,SqT.of aH,SqT.of (s7 _ _ aH),hd.same (s5.trans (s6.trans s7))⟩
def sh(b:Int)(p:Int×Int):Int×Int:=(p.1+b,p.2+b)
def GZ(n m:Int)(i:Nat):List (Int×Int):=((List.range i).map fun(t:Nat)=>(List.range m.toNat).map fun(k:Nat)=>((0+(t:Int)),n+(0+(k:Int)))).flatten
theorem mO(n m:Int)(i:Nat):GZ n m (i+1)=GZ n m i++(List.range m.toNat).map fun(k:Nat)=>((0+(i:Int)),n+(0+(k:Int))):=by
 unfold GZ
 rw[wI,cu,List.flatten_append]
 simp
theorem DQ(n m:Int):∀i:Nat,(GZ n m i).length=i*m.toNat
 |0=>by simp[GZ]
 |i+1=>by rw[mO,jU,DQ n m i,aM,wL,Tq]
theorem qb{n m:Int}{i:Nat}{p:Int×Int}:p∈GZ n m i↔0<=p.1/\p.1<(i:Int)/\n<=p.2/\p.2<n+(m.toNat:Int):=by
 induction i with
 |zero=>
  constructor
  ·intro h;simp[GZ]at h
  ·intro h;omega
 |succ i ih=>
  rw[mO,lD,ih,jw]
  constructor
  ·rintro(h|⟨k,hk,rfl⟩)
   ·exact⟨h.1,by omega,h.2.2⟩
   ·rw[m8]at hk
    exact⟨by show(0:Int)<=0+_;omega,by show(0:Int)+_<_;omega,by show n<=n+(0+_);omega,by show n+(0+_)<_;omega⟩
  ·rintro⟨h1,h2,h3,h4⟩
   by_cases e:p.1<(i:Int)
   ·exact .inl ⟨h1,e,h3,h4⟩
   ·refine .inr ⟨(p.2-n).toNat,by rw[m8];omega,?_⟩
    apply Cr
    ·show(0:Int)+(i:Int)=p.1;omega
    ·show n+(0+(((p.2-n).toNat:Nat):Int))=p.2;omega
theorem rD(n m:Int):∀i:Nat,(GZ n m i).Pairwise fG
 |0=>by unfold GZ;exact List.Pairwise.nil
 |i+1=>by
  rw[mO,Tr]
  refine⟨rD n m i,?_,fun p hp q hq=> ?_⟩
  ·rw[Ck]
   exact U6.imp fun h=> .inr ⟨rfl,by show n+(0+_)<n+(0+_);omega⟩
  ·rw[qb]at hp
   rw[jw]at hq
   obtain⟨k,_,rfl⟩:=hq
   exact .inl (by show p.1<0+(i:Int);omega)
theorem tL{b:Int}{ts:List (Int×Int)}(h:ts.Pairwise fG):(ts.map (sh b)).Pairwise fG:=by
 rw[Ck]
 refine h.imp fun h=> ?_
 unfold fG sh at *
 omega
theorem Av{b:Int}{ts:List (Int×Int)}{p:Int×Int}:p∈ts.map (sh b)↔(p.1-b,p.2-b)∈ts:=by
 rw[jw]
 constructor
 ·rintro⟨q,hq,rfl⟩
  have e:(q.1+b-b,q.2+b-b)=q:=Cr (by show q.1+b-b=q.1;omega) (by show q.2+b-b=q.2;omega)
  show(q.1+b-b,q.2+b-b)∈ts
  rw[e];exact hq
 ·intro h
  exact⟨_,h,Cr (by show p.1-b+b=p.1;omega) (by show p.2-b+b=p.2;omega)⟩
def uI(K:W.Frag):Sp:=fun vs H Q _=>∃(a:Addr) (n b:Int) (ts:List (Int×Int)),vs=[.ref a,.int b]/\dN K H a n ts/\∀l H',Same H H'->Gs K H' l (ts.map (sh b))->H l=none->Q (.ref l) H'
theorem IV:FnScope ["web","by"] ["web","by"] (defScope Ut):=fsc
theorem JM{f:Addr}{fd:FuncData}(F:Fun K "moved_ties" "moved_ties" Ut f fd):FnOk P w K mg base CX0 1 f fd ["web","by"] (uI K):=by
 refine F.ok IV (fun vs H Q E h=> ?_) (fun cdv A outer s H vs Q E hr h=> ?_)
 ·obtain⟨a,n,b,ts,rfl,_⟩:=h
  rfl
 obtain⟨a,n,b,ts,rfl,hW,q⟩:=h
 refine⟨_,bA (cG (oK (own:=["one","other"]) (caps:=["by"]) (ix:=[1]) rfl (fV (bK fH (pv 0) aL (fun _ _=>rfl))) rfl rfl (.cons rfl rfl .nil) (fun _ _ _ _ _=>dD K (n:=2) rfl (mZ (cJ (i:=0) (show(["one","other","by"]:List Str).Nodup from by decide+kernel) rfl (Or.inl rfl)) (mZ (cJ (i:=1) (show(["one","other","by"]:List Str).Nodup from by decide+kernel) rfl (Or.inl rfl)) Cd))) (fun _ _ _ _ _=>rY) (fun _ _ _ _ _=>gP (aj (bH pI (pv 0) (pv 2)) (aj (bH pI (pv 1) (pv 2)) aq))))),?_⟩
 obtain⟨t,rs,h1,h2,h3⟩:=hW
 refine⟨_,rfl,a,_,_,.ref t,rfl,rfl,h1,rfl,t,rs,rfl,h2,fun hz=> ?_⟩
 have hlen:=h3.len
 rw[aM]at hlen
 refine dM (xs:=rs) (fun i acc σ H'=>Same H H'/\acc.length=i/\cB K H' acc (((ts.take i).map (sh b)).map pairD)/\∃o1 o2,σ=[o1,o2,some (.int b)]) ⟨Same.refl _,rfl,.nil,_,_,rfl⟩ (fun i acc σ H' _ p=>p.1.tup h2) (fun i acc σ H' hi p=>by rw[p.2.1];exact aU _) hz (fun i x acc σ H' hx p=> ?_) (fun acc σ H' p=> ?_)
 ·obtain⟨sm,hl,hd,o1,o2,rfl⟩:=p
  have hi:i<ts.length:=by rw[<-hlen];exact(pL.mp hx).1
  obtain⟨x',d,e1,e2,e3⟩:=cB.get' (i:=i) h3 (by rw[aM];exact hi)
  rw[hx]at e1;cases e1
  rw[dY,fX hi]at e2
  cases e2
  cases e3 with
  |tup hp tp=>
   cases tp with
   |cons ta tb=>
    cases tb with
    |cons tc td=>
     cases td
     cases ta
     cases tc
     refine⟨_,_,rfl,sm.tup hp,rfl,_,_,rfl,_,_,rfl,rfl,?_⟩
     refine⟨_,rfl,_,rfl,_,_,rfl,rfl,_,rfl,_,rfl,_,_,rfl,rfl,(by show 2<=sizeLine;decide),fun p hp'=> ?_⟩
     have s2:=aP hp' (.tup [.int (ts[i].1+b),.int (ts[i].2+b)])
     refine⟨sm.trans s2,by rw[jU,hl];rfl,?_,_,_,rfl⟩
     rw[GJ,fX hi]
     simp only[ZQ,cu]
     refine(hd.same s2).append (.cons (.tup (SqT.of aH) (.cons (.int _) (.cons (.int _) .nil))) .nil)
 ·intro p1 hp1
  obtain⟨sm,hl,hd,_⟩:=p
  rw[hlen,yZ]at hd
  have s2:=aP hp1 (.lst acc)
  exact q p1 _ (sm.trans s2) ⟨acc,aH,hd.same s2⟩ (sm.free hp1)
def tE(K:W.Frag):Sp:=fun vs H Q _=>∃(n m:Int),vs=[.int n,.int m]/\0<=n/\n<=10/\0<=m/\m<=10/\∀l H',Same H H'->Gs K H' l (GZ n m n.toNat)->Q (.ref l) H'
theorem j4:FnScope ["n","m","ties","place"] ["n","m"] (defScope XD):=fsc
theorem Aj{f:Addr}{fd:FuncData}(F:Fun K "ties_between" "ties_between" XD f fd)(mR:mg "range"=none):FnOk P w K mg base CX0 1 f fd ["n","m"] (tE K):=by
 refine F.ok j4 (fun vs H Q E h=> ?_) (fun cdv A outer s H vs Q E hr h=> ?_)
 ·obtain⟨n,m,rfl,_⟩:=h
  rfl
 obtain⟨n,m,rfl,hn0,hn1,hm0,hm1,q⟩:=h
 refine⟨_,aO (cg (i:=2) j4.nd rfl (Or.inl rfl) (wD aq)) (aO (ps_for was rfl (zp rfl mR (aj (pv 0) aq)) (cJ (i:=3) j4.nd rfl (Or.inr rfl)) (bA (lF (pe_bm Ln Vr Vq mt_extend (pv 2) (aj
    (oK (own:=["k"]) (caps:=["place","n"]) (ix:=[3,0]) rfl (zp rfl mR (aj (pv 1) aq)) rfl rfl (.cons rfl rfl (.cons rfl rfl .nil)) (fun _ _ _ _ _=>cJ (i:=0) (show(["k","place","n"]:List Str).Nodup from by decide+kernel) rfl (Or.inl rfl)) (fun _ _ _ _ _=>rY) (fun _ _ _ _ _=>gP (aj (pv 1) (aj (bH pI (pv 2) (pv 0)) aq)))) aq))))) (bA (cG (pv 2)))),?_⟩
 refine⟨(by show 0<=sizeLine;decide),fun l hl=> ?_⟩
 refine⟨_,rfl,n,rfl,by omega,by omega,?_⟩
 refine Lw (n:=n.toNat) (fun i σ H'=>Same H H'/\(∃rs,H' l=some (.lst rs)/\cB K H' rs ((GZ n m i).map pairD))/\∃o,σ=[some (.int n),some (.int m),some (.ref l),o]) ⟨aP hl _,⟨[],aH,.nil⟩,_,rfl⟩ (fun i σ H' hi p=> ?_) (fun σ H' p=> ?_)
 ·obtain⟨sm,⟨rs,hr1,hr2⟩,o,rfl⟩:=p
  have hlen:=hr2.len
  rw[aM,DQ]at hlen
  refine⟨_,rfl,.inl ⟨rfl,_,SqL.of hr1⟩,_,rfl,m,rfl,by omega,by omega,?_⟩
  refine Lg (n:=m.toNat) (fun k acc σ H2=>Same H' H2/\acc.length=k/\cB K H2 acc (((List.range k).map fun(k:Nat)=>((0+(i:Int)),n+(0+(k:Int)))).map pairD)/\∃o1,σ=[o1,some (.int (0+(i:Int))),some (.int n)]) ⟨Same.refl _,rfl,.nil,_,rfl⟩ (fun k acc σ H2 hk p=>by rw[p.2.1];exact aU _) (by rw[dO];omega) (fun k acc σ H2 hk p=> ?_) (fun acc σ H2 p=> ?_)
  ·obtain⟨s2,hl2,hd,o1,rfl⟩:=p
   refine⟨_,rfl,_,rfl,_,rfl,_,_,rfl,rfl,(by show 2<=sizeLine;decide),fun p hp=> ?_⟩
   have s3:=aP hp (.tup [.int (0+(i:Int)),.int (n+(0+(k:Int)))])
   refine⟨s2.trans s3,by rw[jU,hl2];rfl,?_,_,rfl⟩
   rw[wI,cu,cu]
   exact(hd.same s3).append (.cons (.tup (SqT.of aH) (.cons (.int _) (.cons (.int _) .nil))) .nil)
  ·intro p1 hp1
   obtain⟨s2,hl2,hd,_⟩:=p
   have s3:=aP hp1 (.lst acc)
   have Wr:=s3 _ _ (s2 _ _ hr1)
   refine⟨l,p1,rs,acc,rfl,rfl,Wr,aH,?_,?_⟩
   ·have h1:i*m.toNat<=10*10:=UG (by omega) (by omega)
    rw[dO];omega
   ·-- the list itself changes
    have hne:p1≠l:=fun e=>by rw[e]at hp1;rw[s2 _ _ hr1]at hp1;cases hp1
    have x4:aV l (upd H2 p1 (.lst acc)) (upd (upd H2 p1 (.lst acc)) l (.lst (rs++acc))):=(aV.refl _ _).upd
    refine⟨?_,⟨_,aH,?_⟩,_,rfl⟩
    ·intro b o hb
     have nb:b≠l:=fun e=>by rw[e,hl]at hb;cases hb
     exact x4 _ _ nb (s3 _ _ (s2 _ _ (sm _ _ hb)))
    ·rw[mO]
     exact Ti x4 Wr (by rw[cu];exact((hr2.same s2).same s3).append (hd.same s3))
 ·obtain⟨sm,⟨rs,hr1,hr2⟩,o,rfl⟩:=p
  exact⟨_,rfl,q l _ sm ⟨rs,hr1,hr2⟩⟩
def Ls(n1:Int)(t1 t2:List (Int×Int)):List (Int×Int):=t1.map (sh 0)++t2.map (sh n1)
def Qt(n1 n2:Int)(t1 t2:List (Int×Int)):List (Int×Int):=Ls n1 t1 t2++GZ n1 n2 n1.toNat
def GQ(n1:Int)(t1 t2:List (Int×Int))(tied:Bool)(i j:Int):Bool:=if j<n1 then decide ((i,j)∈t1)else if n1<=i then decide ((i-n1,j-n1)∈t2)else tied
theorem vo{n1:Int}{t1 t2:List (Int×Int)}{p:Int×Int}:p∈Ls n1 t1 t2↔p∈t1\/(p.1-n1,p.2-n1)∈t2:=by
 unfold Ls
 rw[lD,Av,Av]
 have e:(p.1-0,p.2-0)=p:=Cr (by show p.1-0=p.1;omega) (by show p.2-0=p.2;omega)
 rw[e]
theorem rE{n1 n2:Int}{t1 t2:List (Int×Int)}(h1:aD n1 t1)(h2:aD n2 t2)(s1:t1.Pairwise fG)(s2:t2.Pairwise fG):(Ls n1 t1 t2).Pairwise fG:=by
 unfold Ls
 rw[Tr]
 refine⟨tL s1,tL s2,fun p hp q hq=> ?_⟩
 rw[Av]at hp hq
 have a:=h1.lt _ hp
 have b:=h2.lt _ hq
 exact .inl (by have a1:p.1-0<p.2-0:=a.2.1;have a2:p.2-0<n1:=a.2.2;have b1:0<=q.1-n1:=b.1;omega)
theorem Bw{n1 n2:Int}{t1 t2:List (Int×Int)}(h1:aD n1 t1)(h2:aD n2 t2)(hn1:0<=n1)(hn2:0<=n2):∀p∈Ls n1 t1 t2,0<=p.1/\p.1<p.2/\p.2<n1+n2/\(p.2<n1\/n1<=p.1):=by
 intro p hp
 rw[vo]at hp
 rcases hp with hp|hp
 ·have a:=h1.lt _ hp
  omega
 ·obtain⟨b1,b2,b3⟩:=h2.lt _ hp
  have b1':0<=p.1-n1:=b1
  have b2':p.1-n1<p.2-n1:=b2
  have b3':p.2-n1<n2:=b3
  omega
theorem K4{n1 n2:Int}{t1 t2:List (Int×Int)}(h1:aD n1 t1)(h2:aD n2 t2)(hn1:0<=n1)(hn2:0<=n2)(s1:t1.Pairwise fG)(s2:t2.Pairwise fG):aD (n1+n2) (Qt n1 n2 t1 t2):=by
 unfold Qt
 refine⟨UJ.mpr ⟨gG (rE h1 h2 s1 s2),gG (rD _ _ _),fun p hp q hq e=> ?_⟩,fun p hp=> ?_⟩
 ·subst e
  have a:=Bw h1 h2 hn1 hn2 p hp
  rw[qb]at hq
  omega
 ·rw[lD]at hp
  rcases hp with hp|hp
  ·have a:=Bw h1 h2 hn1 hn2 p hp
   exact⟨a.1,a.2.1,a.2.2.1⟩
  ·rw[qb]at hp
   omega
theorem acr_eq{n1 n2:Int}{t1 t2 ts:List (Int×Int)}(h1:aD n1 t1)(h2:aD n2 t2)(hn1:0<=n1)(hn2:0<=n2)(s1:t1.Pairwise fG)(s2:t2.Pairwise fG)(hp:ts.Perm (Qt n1 n2 t1 t2))(hs:ts.Pairwise fun p q=>HT.lexLt (pl q) (pl p)=false):
  ts=rows (GQ n1 t1 t2 true) (n1+n2) (n1+n2).toNat:=by
 have hok:=K4 h1 h2 hn1 hn2 s1 s2
 refine rows_eq (by omega) (qG hs (hp.nodup_iff.mpr hok.nd)) fun p=> ?_
 rw[hp.mem_iff]
 unfold Qt
 rw[lD,vo,qb]
 unfold GQ
 constructor
 ·rintro((h|h)|h)
  ·have a:=h1.lt _ h
   refine⟨a.1,a.2.1,by omega,?_⟩
   rw[aA a.2.2]
   exact cI h
  ·obtain⟨b1,b2,b3⟩:=h2.lt _ h
   have b1':0<=p.1-n1:=b1
   have b2':p.1-n1<p.2-n1:=b2
   have b3':p.2-n1<n2:=b3
   refine⟨by omega,by omega,by omega,?_⟩
   rw[ao (by omega),aA (by omega)]
   exact cI h
  ·refine⟨by omega,by omega,by omega,?_⟩
   rw[ao (by omega),ao (by omega)]
 ·rintro⟨a1,a2,a3,a4⟩
  split at a4
  ·exact .inl (.inl (eY a4))
  ·split at a4
   ·exact .inl (.inr (eY a4))
   ·exact .inr (by omega)
def qz(K:W.Frag):Sp:=fun vs H Q _=>∃(a b:Addr) (n1 n2:Int) (t1 t2:List (Int×Int)),vs=[.ref a,.ref b]/\dN K H a n1 t1/\dN K H b n2 t2/\jm n1 t1/\jm n2 t2/\t1.length<=45/\t2.length<=45/\n1+n2<=10/\∀r H',Same H H'->dN K H' r (n1+n2) (Ls n1 t1 t2)->Q (.ref r) H'
theorem tQ:FnScope ["one","other","n"] ["one","other"] (defScope je):=fsc
theorem FJ{f f1 f2 f3:Addr}{fd d1 d2 d3:FuncData}(F:Fun K "beside" "beside" je f fd)(D1:bF K mg "need_web" Gy ["thing"] f1 d1)(G1:FnOk P w K mg base CX0 7 f1 d1 ["thing"] (bQ K))(D2:bF K mg "need_few" Qx ["n"] f2 d2)(G2:FnOk P w K mg base CX0 1 f2 d2 ["n"] (gB K))(D3:bF K mg "moved_ties" Ut ["web","by"] f3 d3)(G3:FnOk P w K mg base CX0 1 f3 d3 ["web","by"] (uI K))(mT:mg "tuple"=none):
  FnOk P w K mg base CX0 8 f fd ["one","other"] (qz K):=by
 refine F.ok tQ (fun vs H Q E h=> ?_) (fun cdv A outer s H vs Q E hr h=> ?_)
 ·obtain⟨a,b,n1,n2,t1,t2,rfl,_⟩:=h
  rfl
 obtain⟨a,b,n1,n2,t1,t2,rfl,hA,hB,oA,oB,lA,lB,hn,q⟩:=h
 refine⟨_,aO (lF (pc G1 hr D1 (aj (pv 0) aq))) (aO (lF (pc G1 hr D1 (aj (pv 1) aq))) (aO (cg (i:=2) tQ.nd rfl (Or.inl rfl) (bH pI (bK fH (pv 0) aL (fun _ _=>rfl)) (bK fH (pv 1) aL (fun _ _=>rfl)))) (aO (lF (pc G2 hr D2 (aj (pv 2) aq))) (bA (cG (gP (aj (pv 2) (aj (Lf Lx rfl mT (by decide+kernel) (aj (bH op_cat
   (pc G3 hr D3 (aj (pv 0) (aj aL aq)))
   (pc G3 hr D3 (aj (pv 1) (aj (bK fH (pv 0) aL (fun _ _=>rfl)) aq)))) aq)) aq)))))))),?_⟩
 refine⟨_,rfl,_,_,rfl,hA.dv.dx,oA,fun H1 s1=> ?_⟩
 refine⟨_,rfl,_,_,rfl,(hB.same s1).dv.dx,oB,fun H2 s2=> ?_⟩
 have s12:=s1.trans s2
 obtain⟨ta,ra,a1,a2,a3⟩:=id (hA.same s12)
 obtain⟨tb,rb,b1,b2,b3⟩:=id (hB.same s12)
 refine⟨_,rfl,a,_,_,.int n1,rfl,rfl,a1,rfl,_,rfl,b,_,_,.int n2,rfl,rfl,b1,rfl,_,_,rfl,rfl,?_⟩
 refine⟨_,rfl,n1+n2,rfl,hn,?_⟩
 refine⟨_,rfl,_,rfl,a,n1,0,t1,rfl,hA.same s12,fun l1 H3 s3 p1 _=> ?_⟩
 refine⟨_,rfl,_,rfl,a,_,_,.int n1,rfl,rfl,s3.tup a1,rfl,b,n2,n1,t2,rfl,(hB.same s12).same s3,fun l2 H4 s4 p2 _=> ?_⟩
 obtain⟨r1,e1,v1⟩:=(p1.same s4).ex
 obtain⟨r2,e2,v2⟩:=p2.ex
 have hl1:=v1.len
 have hl2:=v2.len
 simp only[aM]at hl1 hl2
 refine⟨l1,l2,r1,r2,rfl,rfl,e1,e2,by rw[dO];omega,fun p hp=> ?_⟩
 have s5:=aP hp (.lst (r1++r2))
 refine⟨p,_,rfl,.inl ⟨SqL.of aH,fun t ht=> ?_⟩⟩
 have s6:=aP ht (.tup (r1++r2))
 refine⟨(by show 2<=sizeLine;decide),fun r hr'=> ?_⟩
 have s7:=aP hr' (.tup [.int (n1+n2),.ref t])
 refine q r _ (s12.trans (s3.trans (s4.trans (s5.trans (s6.trans s7))))) ⟨t,r1++r2,SqT.of aH,SqT.of (s7 _ _ aH),?_⟩
 unfold Ls
 rw[cu]
 exact((v1.append v2).same s5).same (s6.trans s7)
def w5(K:W.Frag):Sp:=fun vs H Q _=>∃(a b:Addr) (n1 n2:Int) (t1 t2:List (Int×Int)),vs=[.ref a,.ref b]/\dN K H a n1 t1/\dN K H b n2 t2/\jm n1 t1/\jm n2 t2/\aD n1 t1/\aD n2 t2/\0<=n1/\0<=n2/\n1+n2<=10/\∀r H',Same H H'->dN K H' r (n1+n2) (rows (GQ n1 t1 t2 true) (n1+n2) (n1+n2).toNat)->Q (.ref r) H'
theorem tR:FnScope ["one","other","web"] ["one","other"] (defScope lW):=fsc
theorem FN{f f1 f2:Addr}{fd d1 d2:FuncData}(F:Fun K "across" "across" lW f fd)(D1:bF K mg "beside" je ["one","other"] f1 d1)(G1:FnOk P w K mg base CX0 8 f1 d1 ["one","other"] (qz K))(D2:bF K mg "ties_between" XD ["n","m"] f2 d2)(G2:FnOk P w K mg base CX0 1 f2 d2 ["n","m"] (tE K))(mT:mg "tuple"=none)(mS:mg "sorted"=none)(mLi:mg "list"=none):
  FnOk P w K mg base CX0 9 f fd ["one","other"] (w5 K):=by
 refine F.ok tR (fun vs H Q E h=> ?_) (fun cdv A outer s H vs Q E hr h=> ?_)
 ·obtain⟨a,b,n1,n2,t1,t2,rfl,_⟩:=h
  rfl
 obtain⟨a,b,n1,n2,t1,t2,rfl,hA,hB,oA,oB,kA,kB,hn1,hn2,hn,q⟩:=h
 refine⟨_,aO (cg (i:=2) tR.nd rfl (Or.inl rfl) (pc G1 hr D1 (aj (pv 0) (aj (pv 1) aq)))) (bA (cG (gP (aj (bK fH (pv 2) aL (fun _ _=>rfl)) (aj (Lf Lx rfl mT (by decide+kernel) (aj (gQ eG rfl mS (by decide+kernel) (aj (bH op_cat
   (Lf call_list_of rfl mLi (by decide+kernel) (aj (bK fH (pv 2) aL (fun _ _=>rfl)) aq))
   (pc G2 hr D2 (aj (bK fH (pv 0) aL (fun _ _=>rfl)) (aj (bK fH (pv 1) aL (fun _ _=>rfl)) aq)))) aq)) aq)) aq))))),?_⟩
 refine⟨_,rfl,_,rfl,a,b,n1,n2,t1,t2,rfl,hA,hB,oA,oB,pairs_len kA (by omega),pairs_len kB (by omega),hn,fun wb H1 s1 hW=> ?_⟩
 obtain⟨t,rs,w1,w2,w3⟩:=hW
 obtain⟨ta,ra,a1,a2,a3⟩:=id (hA.same s1)
 obtain⟨tb,rb,b1,b2,b3⟩:=id (hB.same s1)
 refine⟨_,rfl,wb,_,_,.int (n1+n2),rfl,rfl,w1,rfl,?_⟩
 refine⟨_,rfl,wb,_,_,.ref t,rfl,rfl,w1,rfl,t,rs,rfl,.inr w2,fun l1 hl1=> ?_⟩
 have s2:=aP hl1 (.lst rs)
 refine⟨_,rfl,a,_,_,.int n1,rfl,rfl,s2.tup a1,rfl,_,rfl,b,_,_,.int n2,rfl,rfl,s2.tup b1,rfl,n1,n2,rfl,hn1,by omega,hn2,by omega,fun l2 H3 s3 p2=> ?_⟩
 obtain⟨r2,e2,v2⟩:=p2.ex
 have g1:=w3.len
 have g2:=v2.len
 have v1:=(w3.same s2).same s3
 have YG:cB K H3 (rs++r2) ((Qt n1 n2 t1 t2).map pairD):=by
  unfold Qt
  rw[cu]
  exact v1.append v2
 have hok:=K4 kA kB hn1 hn2 (eX oA) (eX oB)
 have h45:=pairs_len hok hn
 have g3:=YG.len
 rw[jU,aM]at g3
 refine⟨l1,l2,rs,r2,rfl,rfl,s3 _ _ aH,e2,by rw[dO];omega,fun p hp=> ?_⟩
 have s4:=aP hp (.lst (rs++r2))
 obtain⟨its,i1,i2,i3⟩:=yd (YG.same s4)
 refine⟨p,its.map (fun p=>(p.1,pl p.2)),rfl,?_,?_,?_,fun l its' hl hperm jj=> ?_⟩
 ·rw[zq]
  have:(its.map ((fun(p:Addr×List Int)=>V.ref p.1)∘fun p=>(p.1,pl p.2)))=rs++r2:=i1.symm
  rw[this]
  exact SqL.of aH
 ·intro p hp
  rw[jw]at hp
  obtain⟨q',hq',rfl⟩:=hp
  exact⟨i3 _ hq',by simp[pl]⟩
 ·have:its.length=(Qt n1 n2 t1 t2).length:=by rw[<-i2,aM]
  rw[aM];omega
 ·-- back to pairs
  have s5:=aP hl (.lst (its'.map fun p=>V.ref p.1))
  obtain⟨jts,j1,j2⟩:∃jts:List (Addr×(Int×Int)),its'=jts.map (fun p=>(p.1,pl p.2))/\jts.Perm its:=by
   have hh:∀x∈its',∃y∈its,x=(y.1,pl y.2):=fun x hx=>by
    obtain⟨y,hy,e⟩:=jw.mp (hperm.mem_iff.mp hx)
    exact⟨y,hy,e.symm⟩
   let back:Addr×List Int->Addr×(Int×Int):=fun x=>(x.1,(x.2.getD 0 0,x.2.getD 1 0))
   have hb:∀y:Addr×(Int×Int),back (y.1,pl y.2)=y:=fun y=>rfl
   refine⟨its'.map back,?_,?_⟩
   ·rw[zq]
    refine(TQ its').symm.trans (Ma fun x hx=> ?_)
    obtain⟨y,_,rfl⟩:=hh x hx
    rfl
   ·have:=hperm.map back
    rw[zq]at this
    have e:its.map (back∘fun p=>(p.1,pl p.2))=its:=by
     refine(Ma fun x _=> ?_).trans (TQ its)
     rfl
    rw[e]at this
    exact this
  have hp2:(jts.map (·.2)).Perm (Qt n1 n2 t1 t2):=by rw[<-i2];exact j2.map _
  have hs2:(jts.map (·.2)).Pairwise fun p q=>HT.lexLt (pl q) (pl p)=false:=by
   rw[j1,Ck]at jj
   rw[Ck]
   exact jj
  have e:=acr_eq kA kB hn1 hn2 (eX oA) (eX oB) hp2 hs2
  have items:∀y∈jts,SqT K (upd H3 p (.lst (rs++r2))) y.1 ((pl y.2).map V.int):=fun y hy=>i3 _ (j2.mem_iff.mp hy)
  have ev:its'.map (fun p=>V.ref p.1)=jts.map fun p=>V.ref p.1:=by rw[j1,zq];rfl
  refine⟨l,_,rfl,.inl ⟨SqL.of aH,fun t' ht'=> ?_⟩⟩
  have s6:=aP ht' (.tup (its'.map fun p=>V.ref p.1))
  refine⟨(by show 2<=sizeLine;decide),fun r hr'=> ?_⟩
  have s7:=aP hr' (.tup [.int (n1+n2),.ref t'])
  refine q r _ (s1.trans (s2.trans (s3.trans (s4.trans (s5.trans (s6.trans s7)))))) ⟨t',its'.map (fun p=>V.ref p.1),SqT.of aH,SqT.of (s7 _ _ aH),?_⟩
  rw[<-e]
  have z:=((qT jts items).same s5).same (s6.trans s7)
  rw[<-ev]at z
  exact z
def Mq(m:Int)(t1 t2:List (Int×Int))(i j:Int):Bool:=if i/m=j/m then nP t2 (i %m) (j %m)else nP t1 (i/m) (j/m)
def Vy(m:Int)(t1 t2:List (Int×Int))(i j:Int):Bool:=aG t1 (i/m) (j/m)||(decide (i/m=j/m)&&aG t2 (i %m) (j %m))
theorem so8_eq{n1 n2 m:Int}{t1 t2:List (Int×Int)}(h1:aD n1 t1)(h2:aD n2 t2)(i j:Int):Mq m t1 t2 i j=Vy m t1 t2 i j:=by
 unfold Mq Vy
 rw[tied_eq h1,tied_eq h2]
 have none:∀x:Int,aG t1 x x=false:=fun x=>by
  have:¬((x,x)∈t1):=fun z=>by have:=h1.lt _ z;exact absurd this.2.1 (Yr _)
  unfold aG
  rw[iY this];rfl
 split
 ·rename_i e
  rw[e,none,cI rfl]
  simp
 ·rename_i e
  rw[iY e]
  simp
def CG(K:W.Frag):Sp:=fun vs H Q _=>∃(a b t:Addr) (n1 n2 i j:Int) (t1 t2:List (Int×Int)),vs=[.ref a,.ref b,.ref t]/\dN K H a n1 t1/\dN K H b n2 t2/\0<n2/\n2<=10/\SqT K H t [.int i,.int j]/\∀H',Same H H'->Q (.bl (Mq n2 t1 t2 i j)) H'
theorem lN:FnScope ["one","other","tie","m","i","j"] ["one","other","tie"] (defScope XH):=fsc
theorem JF{f f1:Addr}{fd d1:FuncData}(F:Fun K "is_tie_within" "is_tie_within" XH f fd)(D1:bF K mg "has_tie" eU ["web","one","other"] f1 d1)(G1:FnOk P w K mg base CX0 1 f1 d1 ["web","one","other"] (CT K)):
  FnOk P w K mg base CX0 2 f fd ["one","other","tie"] (CG K):=by
 refine F.ok lN (fun vs H Q E h=> ?_) (fun cdv A outer s H vs Q E hr h=> ?_)
 ·obtain⟨a,b,t,n1,n2,i,j,t1,t2,rfl,_⟩:=h
  rfl
 obtain⟨a,b,t,n1,n2,i,j,t1,t2,rfl,hA,hB,hn,hn',ht,q⟩:=h
 refine⟨_,aO (cg (i:=3) lN.nd rfl (Or.inl rfl) (bK fH (pv 1) aL (fun _ _=>rfl))) (aO (cg (i:=4) lN.nd rfl (Or.inl rfl) (bH jg (bK fH (pv 2) aL (fun _ _=>rfl)) (pv 3))) (aO (cg (i:=5) lN.nd rfl (Or.inl rfl) (bH jg (bK fH (pv 2) aL (fun _ _=>rfl)) (pv 3))) (aO (o8 (jM op_eq (pv 4) (pv 5) (nomark _)) (bA (cG (pc G1 hr D1 (aj (pv 1) (aj (bH op_mod (bK fH (pv 2) aL (fun _ _=>rfl)) (pv 3)) (aj (bH op_mod (bK fH (pv 2) aL (fun _ _=>rfl)) (pv 3)) aq)))))) o9) (bA (cG (pc G1 hr D1 (aj (pv 0) (aj (pv 4) (aj (pv 5) aq))))))))),?_⟩
 obtain⟨tb,rb,b1,b2,b3⟩:=id hB
 refine⟨_,rfl,b,_,_,.int n2,rfl,rfl,b1,rfl,?_⟩
 refine⟨_,rfl,t,_,_,.int i,rfl,rfl,ht,rfl,_,rfl,_,_,rfl,rfl,⟨hn,by omega⟩,?_⟩
 refine⟨_,rfl,t,_,_,.int j,rfl,rfl,ht,rfl,_,rfl,_,_,rfl,rfl,⟨hn,by omega⟩,?_⟩
 refine⟨_,rfl,_,rfl,rfl,_,rfl,?_⟩
 refine ite2 (fun c=> ?_) (fun c=> ?_)
 ·have e:i/n2=j/n2:=by have:=eY c;injection this
  refine⟨_,rfl,_,rfl,t,_,_,.int i,rfl,rfl,ht,rfl,_,rfl,_,_,rfl,rfl,hn,_,rfl,t,_,_,.int j,rfl,rfl,ht,rfl,_,rfl,_,_,rfl,rfl,hn,?_⟩
  refine⟨b,n2,_,_,t2,rfl,hB,fun H' sm=> ?_⟩
  have:=q H' sm
  unfold Mq at this
  rw[aA e]at this
  exact this
 ·have e:¬(i/n2=j/n2):=fun z=>c (cI (iW V.int z))
  refine⟨_,rfl,_,rfl,_,rfl,a,n1,_,_,t1,rfl,hA,fun H' sm=> ?_⟩
  have:=q H' sm
  unfold Mq at this
  rw[ao e]at this
  exact this
def wR(K:W.Frag):Sp:=fun vs H Q _=>∃(a b:Addr) (n1 n2:Int) (t1 t2:List (Int×Int)),vs=[.ref a,.ref b]/\bJ K H a n1 t1/\bJ K H b n2 t2/\n1*n2<=10/\∀r H',Same H H'->dN K H' r (n1*n2) (rows (Mq n2 t1 t2) (n1*n2) (n1*n2).toNat)->Q (.ref r) H'
theorem tM:FnScope ["one","other","n"] ["one","other"] (defScope lO):=fsc
theorem Fo{f f1 f2 f3 f4:Addr}{fd d1 d2 d3 d4:FuncData}(F:Fun K "within" "within" lO f fd)(D1:bF K mg "need_web" Gy ["thing"] f1 d1)(G1:FnOk P w K mg base CX0 7 f1 d1 ["thing"] (bQ K))(D2:bF K mg "need_few" Qx ["n"] f2 d2)(G2:FnOk P w K mg base CX0 1 f2 d2 ["n"] (gB K))(D3:bF K mg "pairs" g8 ["n"] f3 d3)(G3:FnOk P w K mg base CX0 1 f3 d3 ["n"] (qC K))(D4:bF K mg "is_tie_within" XH ["one","other","tie"] f4 d4)(G4:FnOk P w K mg base CX0 2 f4 d4 ["one","other","tie"] (CG K))(mT:mg "tuple"=none):
  FnOk P w K mg base CX0 8 f fd ["one","other"] (wR K):=by
 refine F.ok tM (fun vs H Q E h=> ?_) (fun cdv A outer s H vs Q E hr h=> ?_)
 ·obtain⟨a,b,n1,n2,t1,t2,rfl,_⟩:=h
  rfl
 obtain⟨a,b,n1,n2,t1,t2,rfl,hA,hB,hn,q⟩:=h
 refine⟨_,aO (lF (pc G1 hr D1 (aj (pv 0) aq))) (aO (lF (pc G1 hr D1 (aj (pv 1) aq))) (aO (cg (i:=2) tM.nd rfl (Or.inl rfl) (bH rW (bK fH (pv 0) aL (fun _ _=>rfl)) (bK fH (pv 1) aL (fun _ _=>rfl)))) (aO (lF (pc G2 hr D2 (aj (pv 2) aq))) (bA (cG (gP (aj (pv 2) (aj (Lf Lx rfl mT (by decide+kernel) (aj
   (oK (own:=["tie"]) (caps:=["one","other"]) (ix:=[0,1]) rfl (Ec (pc G3 hr D3 (aj (pv 2) aq))) rfl rfl (.cons rfl rfl (.cons rfl rfl .nil)) (fun _ _ _ _ _=>cJ (i:=0) (show(["tie","one","other"]:List Str).Nodup from by decide+kernel) rfl (Or.inl rfl)) (fun _ _ _ _ _=>Gu (pt_val (pc G4 hr D4 (aj (pv 1) (aj (pv 2) (aj (pv 0) aq)))))) (fun _ _ _ _ _=>pv 0)) aq)) aq)))))))),?_⟩
 refine⟨_,rfl,_,_,rfl,hA.web.dv.dx,hA.ok,fun H1 s1=> ?_⟩
 refine⟨_,rfl,_,_,rfl,(hB.same s1).web.dv.dx,hB.ok,fun H2 s2=> ?_⟩
 have s12:=s1.trans s2
 obtain⟨ta,ra,a1,a2,a3⟩:=id (hA.same s12).web
 obtain⟨tb,rb,b1,b2,b3⟩:=id (hB.same s12).web
 have WR:=hA.h0
 have zf:=hA.h1
 have hB0:=hB.h0
 have hB1:=hB.h1
 have hm0:0<=n1*n2:=pq WR hB0
 refine⟨_,rfl,a,_,_,.int n1,rfl,rfl,a1,rfl,_,rfl,b,_,_,.int n2,rfl,rfl,b1,rfl,_,_,rfl,rfl,.inl ⟨by omega,by omega⟩,?_⟩
 generalize hmm:((fun i j=>V.int (i*j)) _ _:V)=vm
 obtain⟨m,em,hm⟩:∃m:Int,vm= .int m/\n1*n2=m:=⟨_,hmm.symm,rfl⟩
 subst em
 simp only[hm]at hn q hm0
 refine⟨_,rfl,m,rfl,hn,?_⟩
 refine⟨_,rfl,_,rfl,m,rfl,hm0,hn,fun l H3 s3 p1=> ?_⟩
 obtain⟨rs,e1,v1⟩:=p1.ex
 refine⟨l,rs,rfl,SqL.of e1,fun hz=> ?_⟩
 have hlen:=v1.len
 rw[aM]at hlen
 have hpos:∀i:Nat,(h:i<(rows tt m m.toNat).length)->0<n2:=fun i h=>by
  have hmem:=Cj h
  rw[wH]at hmem
  have hmp:0<m:=by omega
  rcases Int.lt_or_le 0 n2 with c|c
  ·exact c
  ·have:n2=0:=by omega
   rw[this,v9]at hm
   omega
 have Rj:=s12.trans s3
 refine Gx (xs:=rs) (fun i acc σ H'=>Same H3 H'/\acc.length<=i/\cB K H' acc (((rows tt m m.toNat).take i).filter (fun p=>Mq n2 t1 t2 p.1 p.2)|>.map pairD)/\∃o,σ=[o,some (.ref a),some (.ref b)]) ⟨Same.refl _,aU _,.nil,_,rfl⟩ (fun i acc σ H' _ p=>p.1.seq (SqL.of e1)) (fun i acc σ H' hi p=>p.2.1) hz (fun i x acc σ H' hx p=> ?_) (fun acc σ H' p=> ?_)
 ·obtain⟨sm,hl,hd,o,rfl⟩:=p
  obtain⟨t,hi,rfl,ht⟩:=jD v1 hx
  refine⟨_,rfl,_,rfl,_,rfl,a,b,t,n1,n2,_,_,t1,t2,rfl,(hA.same (Rj.trans sm)).web,(hB.same (Rj.trans sm)).web,hpos i hi,hB1,sm.tup ht,fun H5 s5=>⟨_,rfl,?_⟩⟩
  rw[jk hi]
  refine ite2 (fun c=> ?_) (fun c=> ?_)
  ·refine⟨_,rfl,sm.trans s5,by rw[jU];show acc.length+1<=i+1;omega,?_,_,rfl⟩
   rw[aA c,cu]
   exact(hd.same s5).append (.cons (.tup ((sm.trans s5).tup ht) (.cons (.int _) (.cons (.int _) .nil))) .nil)
  ·refine⟨sm.trans s5,by omega,?_,_,rfl⟩
   rw[ao c,Ci]
   exact hd.same s5
 ·intro p1 hp1
  obtain⟨sm,hl,hd,_⟩:=p
  rw[hlen,yZ,fU]at hd
  have s5:=aP hp1 (.lst acc)
  refine⟨p1,_,rfl,.inl ⟨SqL.of aH,fun t ht=> ?_⟩⟩
  have s6:=aP ht (.tup acc)
  refine⟨(by show 2<=sizeLine;decide),fun r hr'=> ?_⟩
  have s7:=aP hr' (.tup [.int m,.ref t])
  exact q r _ (Rj.trans (sm.trans (s5.trans (s6.trans s7)))) ⟨t,acc,SqT.of aH,SqT.of (s7 _ _ aH),hd.same (s5.trans (s6.trans s7))⟩
theorem KJ{so:Int->Int->Bool}{m i j:Int}(h0:0<=i)(h1:i<j)(h2:j<m):decide ((i,j)∈rows so m m.toNat)=so i j:=by
 rw[uE,wz,wH]
 exact⟨fun z=>z.2.2.2.2,fun z=>⟨h0,by show i<_;omega,h1,h2,z⟩⟩
theorem Et{n:Int}{ts:List (Int×Int)}(hn:0<=n)(h:aD n ts)(hs:ts.Pairwise fG):rows (fun i j=>decide ((i,j)∈ts)) n n.toNat=ts:=
 (rows_eq hn hs fun p=>⟨fun hp=>⟨(h.lt p hp).1,(h.lt p hp).2.1,(h.lt p hp).2.2,cI hp⟩,fun z=>eY z.2.2.2⟩).symm
theorem MF{n:Int}{ts:List (Int×Int)}{so:Int->Int->Bool}(hn:0<=n)(h:aD n ts)(hs:ts.Pairwise fG)(e:∀i j:Int,0<=i->i<j->j<n->so i j=decide ((i,j)∈ts)):rows so n n.toNat=ts:=(Aa e).trans (Et hn h hs)
def gr(n:Int)(ts:List (Int×Int)):List (Int×Int):=ts.map (sh 0)++(ts.map fun p=>(p.1,n+p.2))++(ts.map fun p=>(p.2,n+p.1))++(List.range n.toNat).map fun(k:Nat)=>(n+(0+(k:Int)),2*n)
def zc(n:Int)(ts:List (Int×Int))(i j:Int):Bool:=if j<n then decide ((i,j)∈ts)else if j<2*n then aG ts i (j-n)else decide (n<=i)
theorem sh0(ts:List (Int×Int)):ts.map (sh 0)=ts:=(Ma fun p _=>Cr (by show p.1+0=p.1;omega) (by show p.2+0=p.2;omega)).trans (TQ ts)
theorem JX{n:Int}{ts:List (Int×Int)}{p:Int×Int}:p∈gr n ts↔p∈ts\/(p.1,p.2-n)∈ts\/(p.2-n,p.1)∈ts\/(p.2=2*n/\n<=p.1/\p.1<n+(n.toNat:Int)):=by
 unfold gr
 rw[sh0,lD,lD,lD,jw,jw,jw]
 constructor
 ·rintro(((h|⟨q,hq,rfl⟩)|⟨q,hq,rfl⟩)|⟨k,hk,rfl⟩)
  ·exact .inl h
  ·refine .inr (.inl ?_)
   show(q.1,n+q.2-n)∈ts
   rw[show n+q.2-n=q.2 by omega];exact hq
  ·refine .inr (.inr (.inl ?_))
   show(n+q.1-n,q.2)∈ts
   rw[show n+q.1-n=q.1 by omega];exact hq
  ·have:=m8.mp hk
   exact .inr (.inr (.inr ⟨rfl,by show n<=n+(0+_);omega,by show n+(0+_)<_;omega⟩))
 ·rintro(h|h|h|⟨h1,h2,h3⟩)
  ·exact .inl (.inl (.inl h))
  ·exact .inl (.inl (.inr ⟨_,h,Cr rfl (by show n+(p.2-n)=p.2;omega)⟩))
  ·exact .inl (.inr ⟨_,h,Cr rfl (by show n+(p.2-n)=p.2;omega)⟩)
  ·exact .inr ⟨(p.1-n).toNat,m8.mpr (by omega),Cr (by show n+(0+(((p.1-n).toNat:Nat):Int))=p.1;omega) h1.symm⟩
theorem Qk{n:Int}{ts:List (Int×Int)}(h0:0<=n)(h:aD n ts):aD (2*n+1) (gr n ts):=by
 have b:∀p∈ts,0<=p.1/\p.1<p.2/\p.2<n:=h.lt
 constructor
 ·unfold gr
  rw[sh0]
  refine UJ.mpr ⟨UJ.mpr ⟨UJ.mpr ⟨h.nd,eV h.nd fun p _ q _ e=> ?_,fun p hp q hq e=> ?_⟩,eV h.nd fun p _ q _ e=> ?_,fun p hp q hq e=> ?_⟩,eV List.nodup_range fun i _ j _ e=> ?_,fun p hp q hq e=> ?_⟩
  ·injection e with e1 e2
   exact Cr e1 (by omega)
  ·obtain⟨r,hr,rfl⟩:=jw.mp hq
   have z:=b p hp
   rw[e]at z
   have z2:n+r.2<n:=z.2.2
   have z3:=b r hr
   omega
  ·injection e with e1 e2
   exact Cr (by omega) e1
  ·obtain⟨r,hr,rfl⟩:=jw.mp hq
   have br:=b r hr
   rcases lD.mp hp with hp|hp
   ·have z:=b p hp
    rw[e]at z
    have z2:n+r.1<n:=z.2.2
    omega
   ·obtain⟨s,hs,e2⟩:=jw.mp hp
    have bs:=b s hs
    rw[<-e2]at e
    injection e with e3 e4
    omega
  ·injection e with e1 e2
   omega
  ·obtain⟨k,hk,rfl⟩:=jw.mp hq
   rcases lD.mp hp with hp|hp
   ·rcases lD.mp hp with hp|hp
    ·have z:=b p hp
     rw[e]at z
     have z2:2*n<n:=z.2.2
     omega
    ·obtain⟨s,hs,e2⟩:=jw.mp hp
     have bs:=b s hs
     rw[<-e2]at e
     injection e with e3 e4
     omega
   ·obtain⟨s,hs,e2⟩:=jw.mp hp
    have bs:=b s hs
    rw[<-e2]at e
    injection e with e3 e4
    omega
 ·intro p hp
  rcases JX.mp hp with c|c|c|c
  ·have:=b p c;omega
  ·obtain⟨z1,z2,z3⟩:=b _ c
   have Zi:0<=p.1:=z1
   have Zh:p.1<p.2-n:=z2
   have Zg:p.2-n<n:=z3
   omega
  ·obtain⟨z1,z2,z3⟩:=b _ c
   have Zi:0<=p.2-n:=z1
   have Zh:p.2-n<p.1:=z2
   have Zg:p.1<n:=z3
   omega
  ·omega
theorem gr_eq{n:Int}{ts l:List (Int×Int)}(h0:0<=n)(h:aD n ts)(hp:l.Perm (gr n ts))(hs:l.Pairwise fun p q=>HT.lexLt (pl q) (pl p)=false):l=rows (zc n ts) (2*n+1) (2*n+1).toNat:=by
 have ok:=Qk h0 h
 have b:∀p∈ts,0<=p.1/\p.1<p.2/\p.2<n:=h.lt
 refine rows_eq (by omega) (qG hs (hp.nodup_iff.mpr ok.nd)) fun p=> ?_
 rw[hp.mem_iff]
 have bd:p∈gr n ts->0<=p.1/\p.1<p.2/\p.2<2*n+1:=fun z=>ok.lt p z
 rw[JX]at bd⊢
 unfold zc
 constructor
 ·intro z
  refine⟨(bd z).1,(bd z).2.1,(bd z).2.2,?_⟩
  rcases z with c|c|c|c
  ·rw[aA (b p c).2.2];exact cI c
  ·obtain⟨z1,z2,z3⟩:=b _ c
   have Zh:p.1<p.2-n:=z2
   have Zg:p.2-n<n:=z3
   have Zi:0<=p.1:=z1
   rw[ao (by omega),aA (by omega)]
   unfold aG
   rw[cI c];rfl
  ·obtain⟨z1,z2,z3⟩:=b _ c
   have Zi:0<=p.2-n:=z1
   have Zg:p.1<n:=z3
   have Zh:p.2-n<p.1:=z2
   rw[ao (by omega),aA (by omega)]
   unfold aG
   rw[cI c,Bool.or_true]
  ·rw[ao (by omega),ao (by omega)]
   exact cI c.2.1
 ·rintro⟨z1,z2,z3,z4⟩
  split at z4
  ·exact .inl (eY z4)
  ·split at z4
   ·unfold aG at z4
    rw[QV]at z4
    rcases z4 with z|z
    ·exact .inr (.inl (eY z))
    ·exact .inr (.inr (.inl (eY z)))
   ·exact .inr (.inr (.inr ⟨by omega,eY z4,by have:=eY z4;omega⟩))
structure Gw(K:W.Frag)(H H':Hp)(l:Addr)(ps:List (Int×Int)):Prop where
 sm:Same H H'
 nl:H l=none
 ex:∃rs,H' l=some (.lst rs)/\cB K H' rs (ps.map pairD)
theorem Gw.step{H H' H2:Hp}{l p1:Addr}{ps qs:List (Int×Int)}{rs acc:List V}(g:Gw K H H' l ps)(e1:H' l=some (.lst rs))(s2:Same H' H2)(hd:cB K H2 acc (qs.map pairD))(hp1:H2 p1=none):Gw K H (upd (upd H2 p1 (.lst acc)) l (.lst (rs++acc))) l (ps++qs):=by
 obtain⟨rs',e1',e2⟩:=g.ex
 rw[e1]at e1'
 cases e1'
 have s3:=aP hp1 (.lst acc)
 have x4:aV l (upd H2 p1 (.lst acc)) (upd (upd H2 p1 (.lst acc)) l (.lst (rs++acc))):=(aV.refl _ _).upd
 refine⟨?_,g.nl,_,aH,?_⟩
 ·intro b o hb
  have nb:b≠l:=fun e=>by rw[e,g.nl]at hb;cases hb
  exact x4 _ _ nb (s3 _ _ (s2 _ _ (g.sm _ _ hb)))
 ·exact Ti x4 (s3 _ _ (s2 _ _ e1)) (by rw[cu];exact((e2.same s2).same s3).append (hd.same s3))
def CV(K:W.Frag):Sp:=fun vs H Q _=>∃(a:Addr) (n:Int) (ts:List (Int×Int)),vs=[.ref a]/\bJ K H a n ts/\2*n+1<=10/\∀r H',Same H H'->dN K H' r (2*n+1) (rows (zc n ts) (2*n+1) (2*n+1).toNat)->Q (.ref r) H'
theorem qJ:FnScope ["web","n","ties"] ["web"] (defScope pZ):=fsc
theorem JN{f f1 f2 f3:Addr}{fd d1 d2 d3:FuncData}(F:Fun K "grown" "grown" pZ f fd)(D1:bF K mg "need_web" Gy ["thing"] f1 d1)(G1:FnOk P w K mg base CX0 7 f1 d1 ["thing"] (bQ K))(D2:bF K mg "need_few" Qx ["n"] f2 d2)(G2:FnOk P w K mg base CX0 1 f2 d2 ["n"] (gB K))(D3:bF K mg "moved_ties" Ut ["web","by"] f3 d3)(G3:FnOk P w K mg base CX0 1 f3 d3 ["web","by"] (uI K))(aJ:mg "range"=none)(cT:mg "tuple"=none)(fj:mg "sorted"=none):
  FnOk P w K mg base CX0 8 f fd ["web"] (CV K):=by
 refine F.ok qJ (fun vs H Q E h=> ?_) (fun cdv A outer s H vs Q E hr h=> ?_)
 ·obtain⟨a,n,ts,rfl,_⟩:=h
  rfl
 obtain⟨a,n,ts,rfl,hA,hn,q⟩:=h
 refine⟨_,(aO (lF (pc G1 hr D1 (aj (pv 0) aq))) (aO (cg (i:=1) qJ.nd rfl (Or.inr rfl) (bK fH (pv 0) aL (fun _ _=>rfl))) (aO (lF (pc G2 hr D2 (aj (bH pI (bH rW aL (pv 1)) aL) aq))) (aO (cg (i:=2) qJ.nd rfl (Or.inl rfl) (pc G3 hr D3 (aj (pv 0) (aj aL aq)))) (aO (lF (pe_bm Ln Vr Vq mt_extend (pv 2) (aj (oK (own:=["one","other"]) (caps:=["n"]) (ix:=[1]) rfl (fV (bK fH (pv 0) aL (fun _ _=>rfl))) rfl rfl (.cons rfl rfl .nil) (fun _ _ _ _ _=>(dD K (n:=2) rfl (mZ (cJ (i:=0) (show(["one","other","n"]:List Str).Nodup from by decide+kernel) rfl (Or.inl rfl)) (mZ (cJ (i:=1) (show(["one","other","n"]:List Str).Nodup from by decide+kernel) rfl (Or.inl rfl)) Cd)))) (fun _ _ _ _ _=>rY) (fun _ _ _ _ _=>(gP (aj (pv 0) (aj (bH pI (pv 2) (pv 1)) aq))))) aq))) (aO (lF (pe_bm Ln Vr Vq mt_extend (pv 2) (aj (oK (own:=["one","other"]) (caps:=["n"]) (ix:=[1]) rfl (fV (bK fH (pv 0) aL (fun _ _=>rfl))) rfl rfl (.cons rfl rfl .nil) (fun _ _ _ _ _=>(dD K (n:=2) rfl (mZ (cJ (i:=0) (show(["one","other","n"]:List Str).Nodup from by decide+kernel) rfl (Or.inl rfl)) (mZ (cJ (i:=1) (show(["one","other","n"]:List Str).Nodup from by decide+kernel) rfl (Or.inl rfl)) Cd)))) (fun _ _ _ _ _=>rY) (fun _ _ _ _ _=>(gP (aj (pv 1) (aj (bH pI (pv 2) (pv 0)) aq))))) aq))) (aO (lF (pe_bm Ln Vr Vq mt_extend (pv 2) (aj (oK (own:=["place"]) (caps:=["n"]) (ix:=[1]) rfl (zp rfl aJ (aj (pv 1) aq)) rfl rfl (.cons rfl rfl .nil) (fun _ _ _ _ _=>(cJ (i:=0) (show(["place","n"]:List Str).Nodup from by decide+kernel) rfl (Or.inl rfl))) (fun _ _ _ _ _=>rY) (fun _ _ _ _ _=>(gP (aj (bH pI (pv 1) (pv 0)) (aj (bH rW aL (pv 1)) aq))))) aq))) (bA (cG (gP (aj (bH pI (bH rW aL (pv 1)) aL) (aj (Lf Lx rfl cT (by decide+kernel) (aj (gQ eG rfl fj (by decide+kernel) (aj (pv 2) aq)) aq)) aq)))))))))))),?_⟩
 have h0:=hA.h0
 have h45:=hA.len
 refine⟨_,rfl,_,_,rfl,hA.web.dv.dx,hA.ok,fun H1 s1=> ?_⟩
 have zf:=hA.same s1
 obtain⟨ta,ra,a1,a2,a3⟩:=id zf.web
 have hra:=a3.len
 rw[aM]at hra
 refine⟨_,rfl,a,_,_,.int n,rfl,rfl,a1,rfl,?_⟩
 refine⟨_,rfl,_,_,rfl,rfl,.inl ⟨by omega,by omega⟩,_,_,rfl,rfl,2*n+1,rfl,hn,?_⟩
 refine⟨_,rfl,a,n,0,ts,rfl,zf.web,fun l H2 s2 p2 nl=> ?_⟩
 obtain⟨r0,e0,v0⟩:=p2.ex
 have g0:Gw K H1 H2 l (ts.map (sh 0)):=⟨s2,nl,r0,e0,v0⟩
 have l0:=v0.len
 rw[aM,aM]at l0
 refine⟨_,rfl,.inl ⟨rfl,_,SqL.of e0⟩,_,rfl,a,_,_,.ref ta,rfl,rfl,g0.sm.tup a1,rfl,ta,ra,rfl,g0.sm.tup a2,fun hz=> ?_⟩
 refine dM (xs:=ra) (fun i acc σ H'=>Same H2 H'/\acc.length=i/\cB K H' acc (((ts.take i).map fun p=>(p.1,n+p.2)).map pairD)/\∃o1 o2,σ=[o1,o2,some (.int n)]) ⟨Same.refl _,rfl,.nil,_,_,rfl⟩ (fun i acc σ H' _ p=>(g0.sm.trans p.1).tup a2) (fun i acc σ H' hi p=>by rw[p.2.1];exact aU _) hz (fun i x acc σ H' hx p=> ?_) (fun acc σ H' p=> ?_)
 ·obtain⟨sm,hl,hd,o1,o2,rfl⟩:=p
  obtain⟨t,hi,rfl,ht⟩:=jD a3 hx
  refine⟨t,_,rfl,(g0.sm.trans sm).tup ht,rfl,_,_,rfl,_,_,rfl,rfl,?_⟩
  refine⟨_,rfl,_,rfl,_,rfl,_,_,rfl,rfl,(by show 2<=sizeLine;decide),fun p hp=> ?_⟩
  have s3:=aP hp (.tup [.int (ts[i]).1,.int (n+(ts[i]).2)])
  refine⟨sm.trans s3,by rw[jU,hl];rfl,?_,_,_,rfl⟩
  rw[GJ,fX hi]
  simp only[ZQ,cu]
  exact(hd.same s3).append (.cons (.tup (SqT.of aH) (.cons (.int _) (.cons (.int _) .nil))) .nil)
 intro p1 hp1
 obtain⟨sm,hl,hd,o1,o2,rfl⟩:=p
 rw[hra,yZ]at hd
 have g1:=g0.step e0 sm hd hp1
 refine⟨l,p1,r0,acc,rfl,rfl,(aP hp1 _) _ _ (sm _ _ e0),aH,(by rw[dO];omega),?_⟩
 have e1:(upd (upd H' p1 (.lst acc)) l (.lst (r0++acc))) l=some (.lst (r0++acc)):=aH
 have l1:(r0++acc).length=ts.length+ts.length:=by rw[jU];omega
 generalize (upd (upd H' p1 (.lst acc)) l (.lst (r0++acc)))=H3 at *
 generalize r0++acc=r1 at *
 clear hd sm hl hp1
 refine⟨_,rfl,.inl ⟨rfl,_,SqL.of e1⟩,_,rfl,a,_,_,.ref ta,rfl,rfl,g1.sm.tup a1,rfl,ta,ra,rfl,g1.sm.tup a2,fun hz=> ?_⟩
 refine dM (xs:=ra) (fun i acc σ H'=>Same H3 H'/\acc.length=i/\cB K H' acc (((ts.take i).map fun p=>(p.2,n+p.1)).map pairD)/\∃o1 o2,σ=[o1,o2,some (.int n)]) ⟨Same.refl _,rfl,.nil,_,_,rfl⟩ (fun i acc σ H' _ p=>(g1.sm.trans p.1).tup a2) (fun i acc σ H' hi p=>by rw[p.2.1];exact aU _) hz (fun i x acc σ H' hx p=> ?_) (fun iU σ H4 p=> ?_)
 ·obtain⟨sm,hl,hd,o1,o2,rfl⟩:=p
  obtain⟨t,hi,rfl,ht⟩:=jD a3 hx
  refine⟨t,_,rfl,(g1.sm.trans sm).tup ht,rfl,_,_,rfl,_,_,rfl,rfl,?_⟩
  refine⟨_,rfl,_,rfl,_,rfl,_,_,rfl,rfl,(by show 2<=sizeLine;decide),fun p hp=> ?_⟩
  have s3:=aP hp (.tup [.int (ts[i]).2,.int (n+(ts[i]).1)])
  refine⟨sm.trans s3,by rw[jU,hl];rfl,?_,_,_,rfl⟩
  rw[GJ,fX hi]
  simp only[ZQ,cu]
  exact(hd.same s3).append (.cons (.tup (SqT.of aH) (.cons (.int _) (.cons (.int _) .nil))) .nil)
 intro p3 hp3
 obtain⟨sm,hl,hd,o1,o2,rfl⟩:=p
 rw[hra,yZ]at hd
 have g2:=g1.step e1 sm hd hp3
 refine⟨l,p3,r1,iU,rfl,rfl,(aP hp3 _) _ _ (sm _ _ e1),aH,(by rw[dO];omega),?_⟩
 have e2:(upd (upd H4 p3 (.lst iU)) l (.lst (r1++iU))) l=some (.lst (r1++iU)):=aH
 have l2:(r1++iU).length=ts.length+ts.length+ts.length:=by rw[jU];omega
 generalize (upd (upd H4 p3 (.lst iU)) l (.lst (r1++iU)))=H5 at *
 generalize r1++iU=r2 at *
 clear hd sm hl hp3
 refine⟨_,rfl,.inl ⟨rfl,_,SqL.of e2⟩,_,rfl,n,rfl,by omega,by omega,?_⟩
 refine Lg (n:=n.toNat) (fun k acc σ H'=>Same H5 H'/\acc.length=k/\cB K H' acc (((List.range k).map fun(k:Nat)=>(n+(0+(k:Int)),2*n)).map pairD)/\∃o1,σ=[o1,some (.int n)]) ⟨Same.refl _,rfl,.nil,_,rfl⟩ (fun k acc σ H' hk p=>by rw[p.2.1];exact aU _) (by rw[dO];omega) (fun k acc σ H' hk p=> ?_) (fun vW σ H6 p=> ?_)
 ·obtain⟨sm,hl,hd,o1,rfl⟩:=p
  refine⟨_,rfl,_,rfl,_,_,rfl,rfl,_,rfl,_,_,rfl,rfl,.inl ⟨by omega,by omega⟩,(by show 2<=sizeLine;decide),fun p hp=> ?_⟩
  have s3:=aP hp (.tup [.int (n+(0+(k:Int))),.int (2*n)])
  refine⟨sm.trans s3,by rw[jU,hl];rfl,?_,_,rfl⟩
  rw[wI,cu,cu]
  exact(hd.same s3).append (.cons (.tup (SqT.of aH) (.cons (.int _) (.cons (.int _) .nil))) .nil)
 intro p5 hp5
 obtain⟨sm,hl,hd,o1,rfl⟩:=p
 have g3:=g2.step e2 sm hd hp5
 refine⟨l,p5,r2,vW,rfl,rfl,(aP hp5 _) _ _ (sm _ _ e2),aH,(by rw[dO];omega),?_⟩
 have e3:(upd (upd H6 p5 (.lst vW)) l (.lst (r2++vW))) l=some (.lst (r2++vW)):=aH
 have g3':Gw K H1 (upd (upd H6 p5 (.lst vW)) l (.lst (r2++vW))) l (gr n ts):=g3
 generalize (upd (upd H6 p5 (.lst vW)) l (.lst (r2++vW)))=H7 at *
 generalize r2++vW=r3 at *
 obtain⟨r4,e4,v4⟩:=g3'.ex
 rw[e3]at e4
 cases e4
 have hok:=Qk h0 hA.pk
 have aaz:=pairs_len hok hn
 refine⟨_,rfl,_,_,rfl,rfl,.inl ⟨by omega,by omega⟩,_,_,rfl,rfl,?_⟩
 obtain⟨its,i1,i2,i3⟩:=yd v4
 refine⟨_,rfl,l,its.map (fun p=>(p.1,pl p.2)),rfl,?_,?_,?_,fun l' its' hl' hperm jj=> ?_⟩
 ·rw[zq]
  have:(its.map ((fun(p:Addr×List Int)=>V.ref p.1)∘fun p=>(p.1,pl p.2)))=r3:=i1.symm
  rw[this]
  exact SqL.of e3
 ·intro p hp
  rw[jw]at hp
  obtain⟨q',hq',rfl⟩:=hp
  exact⟨i3 _ hq',by simp[pl]⟩
 ·have:its.length=(gr n ts).length:=by rw[<-i2,aM]
  rw[aM];omega
 ·have s5:=aP hl' (.lst (its'.map fun p=>V.ref p.1))
  obtain⟨jts,j1,j2⟩:∃jts:List (Addr×(Int×Int)),its'=jts.map (fun p=>(p.1,pl p.2))/\jts.Perm its:=by
   have hh:∀x∈its',∃y∈its,x=(y.1,pl y.2):=fun x hx=>by
    obtain⟨y,hy,e⟩:=jw.mp (hperm.mem_iff.mp hx)
    exact⟨y,hy,e.symm⟩
   let back:Addr×List Int->Addr×(Int×Int):=fun x=>(x.1,(x.2.getD 0 0,x.2.getD 1 0))
   refine⟨its'.map back,?_,?_⟩
   ·rw[zq]
    refine(TQ its').symm.trans (Ma fun x hx=> ?_)
    obtain⟨y,_,rfl⟩:=hh x hx
    rfl
   ·have:=hperm.map back
    rw[zq]at this
    have e:its.map (back∘fun p=>(p.1,pl p.2))=its:=by
     refine(Ma fun x _=> ?_).trans (TQ its)
     rfl
    rw[e]at this
    exact this
  have hp2:(jts.map (·.2)).Perm (gr n ts):=by rw[<-i2];exact j2.map _
  have hs2:(jts.map (·.2)).Pairwise fun p q=>HT.lexLt (pl q) (pl p)=false:=by
   rw[j1,Ck]at jj
   rw[Ck]
   exact jj
  have e:=gr_eq h0 hA.pk hp2 hs2
  have items:∀y∈jts,SqT K H7 y.1 ((pl y.2).map V.int):=fun y hy=>i3 _ (j2.mem_iff.mp hy)
  have ev:its'.map (fun p=>V.ref p.1)=jts.map fun p=>V.ref p.1:=by rw[j1,zq];rfl
  refine⟨l',_,rfl,.inl ⟨SqL.of aH,fun t' ht'=> ?_⟩⟩
  have s6:=aP ht' (.tup (its'.map fun p=>V.ref p.1))
  refine⟨(by show 2<=sizeLine;decide),fun r hr'=> ?_⟩
  have s7:=aP hr' (.tup [.int (2*n+1),.ref t'])
  refine q r _ (s1.trans (g3'.sm.trans (s5.trans (s6.trans s7)))) ⟨t',its'.map (fun p=>V.ref p.1),SqT.of aH,SqT.of (s7 _ _ aH),?_⟩
  rw[<-e]
  have z:=((qT jts items).same s5).same (s6.trans s7)
  rw[<-ev]at z
  exact z
def rJ:Nat->List (List Int)
 |0=>[[]]
 |k+1=>rJ k++(rJ k).map fun s=>s++[(k:Int)]
theorem rH:∀k,(rJ k).length=2^k
 |0=>rfl
 |k+1=>by
  show(rJ k++(rJ k).map fun s=>s++[(k:Int)]).length=_
  rw[jU,aM,rH k,Zt];omega
theorem rG:∀k,∀s∈rJ k,s.length<=k
 |0,s,h=>by rw[oN.mp h];exact aU _
 |k+1,s,h=>by
  rcases lD.mp h with z|z
  ·exact Nat.le_succ_of_le (rG k s z)
  ·obtain⟨t,ht,rfl⟩:=jw.mp z
   have:=rG k t ht
   rw[jU]
   show t.length+1<=k+1
   omega
abbrev DY(K:W.Frag)(H:Hp)(its:List (Addr×List Int)):Prop:=∀p∈its,SqT K H p.1 (p.2.map V.int)
def tG(K:W.Frag):Sp:=fun vs H Q _=>∃n:Int,vs=[.int n]/\0<=n/\n<=10/\∀(r:Addr) (its:List (Addr×List Int)) H',Same H H'->H' r=some (.lst (its.map fun p=>V.ref p.1))->DY K H' its->its.map (·.2)=rJ n.toNat->Q (.ref r) H'
theorem gZ:FnScope ["n","found","place"] ["n"] (defScope iz):=fsc
theorem Ak{f:Addr}{fd:FuncData}(F:Fun K "all_sets" "all_sets" iz f fd)(aJ:mg "range"=none):
  FnOk P w K mg base CX0 1 f fd ["n"] (tG K):=by
 refine F.ok gZ (fun vs H Q E h=> ?_) (fun cdv A outer s H vs Q E hr h=> ?_)
 ·obtain⟨n,rfl,_⟩:=h
  rfl
 obtain⟨n,rfl,h0,h1,q⟩:=h
 refine⟨_,(aO (cg (i:=1) gZ.nd rfl (Or.inl rfl) (wD (aj (gP aq) aq))) (aO (ps_for was rfl (zp rfl aJ (aj (pv 0) aq)) (cJ (i:=2) gZ.nd rfl (Or.inr rfl)) (bA (cg (i:=1) gZ.nd rfl (Or.inl rfl) (bH op_cat (pv 1) (oK (own:=["some"]) (caps:=["place"]) (ix:=[2]) rfl (Ec (pv 1)) rfl rfl (.cons rfl rfl .nil) (fun _ _ _ _ _=>(cJ (i:=0) (show(["some","place"]:List Str).Nodup from by decide+kernel) rfl (Or.inl rfl))) (fun _ _ _ _ _=>rY) (fun _ _ _ _ _=>(bH (xQ K) (pv 0) (gP (aj (pv 1) aq))))))))) (bA (cG (pv 1))))),?_⟩
 refine⟨(by show 0<=sizeLine;decide),fun p0 hp0=> ?_⟩
 have s0:=aP hp0 (.tup [])
 refine⟨(by show 1<=sizeLine;decide),fun l0 hl0=> ?_⟩
 have s1:=aP hl0 (.lst [.ref p0])
 refine⟨_,rfl,n,rfl,by omega,by omega,?_⟩
 refine Lw (n:=n.toNat) (fun k σ H'=>∃(l:Addr) (its:List (Addr×List Int)) (b2:Option V),σ=[some (.int n),some (.ref l),b2]/\Same H H'/\H' l=some (.lst (its.map fun p=>V.ref p.1))/\DY K H' its/\its.map (·.2)=rJ k) ⟨l0,[(p0,[])],_,rfl,s0.trans s1,aH,fun p hp=>by rw[oN.mp hp];exact s1.tup (SqT.of aH),rfl⟩ (fun k σ H1 hk p=> ?_) (fun σ H1 p=> ?_)
 ·obtain⟨l,its,b2,rfl,sm,hl,hT,hm⟩:=p
  have hlen:its.length=2^k:=by rw[<-rH k,<-hm,aM]
  have aaA:2^k<=512:=Nat.pow_le_pow_right (n:=2) (by decide) (show k<=9 by omega)
  refine⟨_,rfl,_,rfl,l,_,rfl,SqL.of hl,fun hz=> ?_⟩
  refine Gx (xs:=its.map fun p=>V.ref p.1) (fun i acc σ H2=>∃jts:List (Addr×List Int),acc=jts.map (fun p=>V.ref p.1)/\jts.map (·.2)=((its.take i).map (·.2)).map (fun s=>s++[(k:Int)])/\DY K H2 jts/\Same H1 H2/\∃o,σ=[o,some (.int (0+(k:Int)))]) ⟨[],rfl,rfl,fun p hp=>(nomatch hp),Same.refl _,_,rfl⟩ (fun i acc σ H2 _ p=> ?_) (fun i acc σ H2 hi p=> ?_) hz (fun i x acc σ H2 hx p=> ?_) (fun acc σ H2 p=> ?_)
  ·obtain⟨_,_,_,_,s2,_⟩:=p
   exact s2.seq (SqL.of hl)
  ·obtain⟨jts,rfl,hj,_⟩:=p
   have:=iW List.length hj
   simp only[aM,Lk]at this
   rw[aM,this];exact O9 _ _
  ·obtain⟨jts,rfl,hj,hJ,s2,o,rfl⟩:=p
   rw[dY]at hx
   cases ex:its[i]? with
   |none=>rw[ex]at hx;cases hx
   |some v=>
    rw[ex]at hx
    cases hx
    have mv:=uy ex
    have lv:v.2.length<=10:=by
     have:=rG k v.2 (by rw[<-hm];exact Z0 mv)
     omega
    refine⟨_,rfl,_,rfl,(by show 1<=sizeLine;decide),fun p1 hp1=> ?_⟩
    have s3:=aP hp1 (.tup [.int (0+(k:Int))])
    refine⟨v.1,p1,_,_,rfl,rfl,(s2.trans s3).tup (hT v mv),SqT.of aH,(by rw[aM,dO];show _+1<=_;omega),fun r H4 s4 h4=> ?_⟩
    have ek:(0+(k:Int))=(k:Int):=by omega
    have Lr:=s3.trans s4
    refine⟨jts++[(r,v.2++[(k:Int)])],by rw[cu];rfl,?_,fun p hp=> ?_,s2.trans Lr,_,rfl⟩
    ·rw[cu,hj,GJ,ex,cu,cu];rfl
    ·rcases lD.mp hp with z|z
     ·exact Lr.tup (hJ p z)
     ·rw[oN.mp z]
      show SqT K H4 r ((v.2++[(k:Int)]).map V.int)
      rw[cu,<-ek]
      exact h4
  ·intro p1 hp1
   obtain⟨jts,rfl,hj,hJ,s2,o,rfl⟩:=p
   rw[aM,yZ,hm]at hj
   have hjl:jts.length=2^k:=by
    have:=iW List.length hj
    rw[aM,aM,rH]at this
    exact this
   have s3:=aP hp1 (.lst (jts.map fun p=>V.ref p.1))
   refine⟨l,p1,_,_,rfl,rfl,s3 _ _ (s2 _ _ hl),aH,(by rw[aM,aM,hjl,hlen,dO];omega),fun l2 hl2=> ?_⟩
   have s4:=aP hl2 (.lst (its.map (fun p=>V.ref p.1)++jts.map fun p=>V.ref p.1))
   have Lr:=s3.trans s4
   refine⟨l2,its++jts,_,rfl,sm.trans (s2.trans Lr),by rw[aH,cu],fun p hp=> ?_,?_⟩
   ·rcases lD.mp hp with z|z
    ·exact(s2.trans Lr).tup (hT p z)
    ·exact Lr.tup (hJ p z)
   ·rw[cu,hm,hj];rfl
 ·obtain⟨l,its,b2,rfl,sm,hl,hT,hm⟩:=p
  exact⟨_,rfl,q l its H1 sm hl hT hm⟩
def gn(m k:Int):Nat:=((rJ m.toNat).filter fun s=>decide (s.length=k.toNat)).length
theorem Oo{its:List (Addr×List Int)}{m k:Int}(h:its.map (·.2)=rJ m.toNat):(its.filter fun p=>decide (p.2.length=k.toNat)).length=gn m k:=by
 unfold gn
 rw[<-h,List.filter_map,aM]
 rfl
theorem Fe{H:Hp}{its:List (Addr×List Int)}{k:Int}{i:Nat}{v:Addr×List Int}(h:its[i]? =some v):((its.take (i+1)).filter fun p=>decide (p.2.length=k.toNat))=((its.take i).filter fun p=>decide (p.2.length=k.toNat))++(if decide (v.2.length=k.toNat)=true then[v]else[]):=by
 rw[GJ,h,LR]
 show _++([v].filter _)=_
 rw[GD]
 rfl
def cD(m k:Nat):List (List Int):=(rJ m).filter fun s=>decide (s.length=k)
def El(l:List (List Int)):List (List Int):=l.mergeSort fun a b=> !HT.lexLt b a
theorem Ek(l:List (List Int)):(El l).Perm l:=List.mergeSort_perm _ _
theorem wQ(l:List (List Int)):(El l).Pairwise fun a b=>HT.lexLt b a=false:=by
 have h:=List.pairwise_mergeSort (le:=fun a b:List Int=> !HT.lexLt b a) (fun a b c h1 h2=> ?_) (fun a b=> ?_) l
 ·exact h.imp fun{a b} z=>by simpa using z
 ·simp only[Vl,HT.bB,YF]at h1 h2⊢
  exact GC.mpr (List.le_trans (GC.mp h1) (GC.mp h2))
 ·simp only[QV,Vl,HT.bB,YF]
  rcases List.le_total a b with z|z
  ·exact .inl (GC.mpr z)
  ·exact .inr (GC.mpr z)
theorem pQ{xs l:List (List Int)}(h:xs.Perm l)(hx:xs.Pairwise fun a b=>HT.lexLt b a=false):xs=El l:=Dt (h.trans (Ek l).symm) hx (wQ l)
def Qh(m k:Nat):List (List Int):=El (cD m k)
def eF(L:List (List Int))(i j:Int):Bool:=((L.getD i.toNat []).filter fun o=>decide (o∈L.getD j.toNat [])).isEmpty
def tU(n:Int):List (List Int):=((List.range (n-1).toNat).map fun(t:Nat)=>[0+(t:Int),0+(t:Int)+1])++[[0,n-1]]
def Pu(l:List Int):Int×Int:=(l.getD 0 0,l.getD 1 0)
def aZ(n:Int):List (Int×Int):=(El (tU n)).map Pu
theorem Oe{p:Int->Bool}{xs:List Int}{i:Nat}{y:Int}(ex:xs[i]? =some y):(xs.take (i+1)).filter p=(xs.take i).filter p++(if p y=true then[y]else[]):=by
 rw[GJ,ex,LR]
 show _++List.filter p [y]=_
 rw[GD]
 split<;>rfl
def tD(K:W.Frag):Sp:=fun vs H Q _=>∃(a b:Addr) (xs ys:List Int),vs=[.ref a,.ref b]/\SqT K H a (xs.map V.int)/\SqT K H b (ys.map V.int)/\∀(r:Addr) H',Same H H'->H' r=some (.lst ((xs.filter fun o=>decide (o∈ys)).map V.int))->Q (.ref r) H'
theorem Ai{f:Addr}{fd:FuncData}(F:Fun K "in_both" "in_both" eO f fd):
  FnOk P w K mg base CX0 1 f fd ["ones","others"] (tD K):=by
 refine F.ok tO (fun vs H Q E h=> ?_) (fun cdv A outer s H vs Q E hr h=> ?_)
 ·obtain⟨a,b,xs,ys,rfl,_⟩:=h
  rfl
 obtain⟨a,b,xs,ys,rfl,hX,hY,q⟩:=h
 refine⟨_,(bA (cG (oK (own:=["place"]) (caps:=["others"]) (ix:=[1]) rfl (fV (pv 0)) rfl rfl (.cons rfl rfl .nil) (fun _ _ _ _ _=>(cJ (i:=0) (show(["place","others"]:List Str).Nodup from by decide+kernel) rfl (Or.inl rfl))) (fun _ _ _ _ _=>Gu (jM (p7 K hr.units) (pv 0) (pv 1) (by with_unfolding_all rfl))) (fun _ _ _ _ _=>(pv 0))))),?_⟩
 refine⟨_,rfl,a,_,rfl,hX,fun hz=> ?_⟩
 refine dM (xs:=xs.map V.int) (fun i acc σ H'=>acc=((xs.take i).filter fun o=>decide (o∈ys)).map V.int/\Same H H'/\∃o,σ=[o,some (.ref b)]) ⟨rfl,Same.refl _,_,rfl⟩ (fun i acc σ H' _ p=>p.2.1.tup hX) (fun i acc σ H' _ p=> ?_) hz (fun i x acc σ H' hx p=> ?_) (fun acc σ H' p=> ?_)
 ·rw[p.1,aM]
  exact dW (Cm _ _) (by rw[Lk];exact O9 _ _)
 ·obtain⟨rfl,sm,o,rfl⟩:=p
  rw[dY]at hx
  cases ex:xs[i]? with
  |none=>rw[ex]at hx;cases hx
  |some y=>
   rw[ex]at hx
   cases hx
   refine⟨_,rfl,_,rfl,b,_,_,.int y,rfl,.inr (sm.tup hY),cB.ints ys,.int _,lay_ints ys,rfl,(by show 0<=60;decide),_,rfl,?_⟩
   rw[any_ints]
   have go:=Oe (p:=fun o=>decide (o∈ys)) ex
   refine ite2 (fun c=> ?_) (fun c=> ?_)
   ·exact⟨_,rfl,by rw[go,aA c,cu];rfl,sm,_,rfl⟩
   ·exact⟨by rw[go,ao c,Ci],sm,_,rfl⟩
 ·intro p1 hp1
  obtain⟨rfl,sm,_⟩:=p
  rw[aM,yZ]
  exact q p1 _ (sm.trans (aP hp1 _)) aH
theorem Kz{H:Hp}:∀its:List (Addr×List Int),(∀p∈its,SqT K H p.1 (p.2.map V.int)/\p.2.length=2)->cB K H (its.map fun p=>V.ref p.1) ((its.map fun p=>Pu p.2).map pairD)
 |[],_=> .nil
 |(a,l)::its,h=>by
  obtain⟨h1,h2⟩:=h _ jV
  have ih:=Kz its fun p hp=>h p (iZ _ hp)
  match l,h2 with
  |[x,y],_=>exact .cons (.tup h1 (.cons (.int _) (.cons (.int _) .nil))) ih
theorem xH{n:Int}:∀l∈tU n,l.length=2:=fun l hl=>by
 rcases lD.mp hl with z|z
 ·obtain⟨t,_,rfl⟩:=jw.mp z;rfl
 ·rw[oN.mp z];rfl
theorem Jl{H:Hp}{n:Int}{its its':List (Addr×List Int)}{t1 wb:Addr}(hm:(its.map (·.2)).Perm (tU n))(hperm:its'.Perm its)(jj:its'.Pairwise fun p q=>HT.lexLt q.2 p.2=false)(hT:∀p∈its,SqT K H p.1 (p.2.map V.int))(hwb:SqT K H wb [.int n,.ref t1])(ht1:SqT K H t1 (its'.map fun p=>V.ref p.1)):dN K H wb n (aZ n):=by
 have e:its'.map (·.2)=El (tU n):=pQ ((hperm.map _).trans hm) (by rw[Ck];exact jj)
 refine⟨t1,_,hwb,ht1,?_⟩
 rw[show aZ n=its'.map fun p=>Pu p.2 from by unfold aZ;rw[<-e,zq];rfl]
 exact Kz its' fun p hp=>⟨hT p (hperm.mem_iff.mp hp),xH p.2 ((hm.mem_iff).mp (Z0 (hperm.mem_iff.mp hp)))⟩
def CJ(K:W.Frag):Sp:=fun vs H Q _=>∃n:Int,vs=[.int n]/\3<=n/\n<=10/\∀r H',Same H H'->dN K H' r n (aZ n)->Q (.ref r) H'
theorem xg:FnScope ["n","around"] ["n"] (defScope uT):=fsc
theorem JG{f f1:Addr}{fd d1:FuncData}{tk0:Tok}{tk1:Tok}(F:Fun K "ring" "ring" uT f fd)(D1:bF K mg "need_from_to" Uu ["least","most","thing"] f1 d1)(G1:FnOk P w K mg base CX0 2 f1 d1 ["least","most","thing"] (qx K))(aJ:mg "range"=none)(cT:mg "tuple"=none)(fj:mg "sorted"=none)(vB:mg "LEAST_RING"=some (.int 3 tk0))(gk:mg "MOST_PLACES"=some (.int 10 tk1)):
  FnOk P w K mg base CX0 3 f fd ["n"] (CJ K):=by
 refine F.ok xg (fun vs H Q E h=> ?_) (fun cdv A outer s H vs Q E hr h=> ?_)
 ·obtain⟨n,rfl,_⟩:=h
  rfl
 obtain⟨n,rfl,h0,h1,q⟩:=h
 refine⟨_,(aO (lF (pc G1 hr D1 (aj (pe_glob rfl vB (v:= .int 3) ⟨_,rfl⟩) (aj (pe_glob rfl gk (v:= .int 10) ⟨_,rfl⟩) (aj (pv 0) aq))))) (aO (cg (i:=1) xg.nd rfl (Or.inl rfl) (bH op_cat (oK (own:=["place"]) (caps:=[]) (ix:=[]) rfl (zp rfl aJ (aj (bH op_sub (pv 0) aL) aq)) rfl rfl .nil (fun _ _ _ _ _=>(cJ (i:=0) (show(["place"]:List Str).Nodup from by decide+kernel) rfl (Or.inl rfl))) (fun _ _ _ _ _=>rY) (fun _ _ _ _ _=>(gP (aj (pv 0) (aj (bH pI (pv 0) aL) aq))))) (wD (aj (gP (aj aL (aj (bH op_sub (pv 0) aL) aq))) aq)))) (bA (cG (gP (aj (pv 0) (aj (Lf Lx rfl cT (by decide+kernel) (aj (gQ eG rfl fj (by decide+kernel) (aj (pv 1) aq)) aq)) aq))))))),?_⟩
 refine⟨_,rfl,3,10,n,rfl,h0,h1,?_⟩
 refine⟨_,rfl,_,_,rfl,rfl,_,rfl,by omega,by omega,?_⟩
 refine Lg (n:=(n-1).toNat) (fun i acc σ H'=>∃its:List (Addr×List Int),acc=its.map (fun p=>V.ref p.1)/\its.map (·.2)=((List.range i).map fun(t:Nat)=>[0+(t:Int),0+(t:Int)+1])/\(∀p∈its,SqT K H' p.1 (p.2.map V.int))/\Same H H'/\∃o,σ=[o]) ⟨[],rfl,rfl,fun p hp=>(nomatch hp),Same.refl _,_,rfl⟩ (fun i acc σ H' hi p=> ?_) (by rw[dO];omega) (fun i acc σ H' hi p=> ?_) (fun acc σ H' p=> ?_)
 ·obtain⟨its,rfl,hl,_⟩:=p
  have:=iW List.length hl
  rw[aM,aM,wL]at this
  rw[aM,this];exact aU _
 ·obtain⟨its,rfl,hl,hok,sm,o,rfl⟩:=p
  refine⟨_,rfl,_,rfl,_,_,rfl,rfl,(by show 2<=sizeLine;decide),fun pn hpn=> ?_⟩
  have sn:=aP hpn (.tup [.int (0+(i:Int)),.int (0+(i:Int)+1)])
  refine⟨its++[(pn,[0+(i:Int),0+(i:Int)+1])],by rw[cu];rfl,by rw[cu,hl,wI,cu];rfl,fun p hp=> ?_,sm.trans sn,_,rfl⟩
  rcases lD.mp hp with z|z
  ·exact sn.tup (hok p z)
  ·rw[oN.mp z]
   exact SqT.of aH
 ·intro p1 hp1
  obtain⟨its,rfl,hl,hok,sm,_⟩:=p
  have hlen:its.length=(n-1).toNat:=by
   have:=iW List.length hl
   rwa [aM,aM,wL]at this
  have s2:=aP hp1 (.lst (its.map fun p=>V.ref p.1))
  refine⟨_,rfl,_,_,rfl,rfl,(by show 2<=sizeLine;decide),fun p2 hp2=> ?_⟩
  have s3:=aP hp2 (.tup [.int 0,.int (n-1)])
  have k3:SqT K (upd (upd H' p1 (.lst (its.map fun p=>V.ref p.1))) p2 (.tup [.int 0,.int (n-1)])) p2 (([0,n-1]:List Int).map V.int):=SqT.of aH
  refine⟨(by show 1<=sizeLine;decide),fun p3 hp3=> ?_⟩
  have s4:=aP hp3 (.lst [.ref p2])
  refine⟨p1,p3,_,_,rfl,rfl,s4 _ _ (s3 _ _ aH),aH,(by rw[aM,hlen,dO];show _+1<=_;omega),fun p4 Ws=> ?_⟩
  have s5:=aP Ws (.lst (its.map (fun p=>V.ref p.1)++[.ref p2]))
  have s25:=s2.trans (s3.trans (s4.trans s5))
  have k5:=(s4.trans s5).tup k3
  have e5:(upd (upd (upd (upd H' p1 (.lst (its.map fun p=>V.ref p.1))) p2 (.tup [.int 0,.int (n-1)])) p3 (.lst [.ref p2])) p4 (.lst (its.map (fun p=>V.ref p.1)++[.ref p2]))) p4=some (.lst ((its++[(p2,[0,n-1])]).map fun p=>V.ref p.1)):=by rw[aH,cu];rfl
  generalize (upd (upd (upd (upd H' p1 (.lst (its.map fun p=>V.ref p.1))) p2 (.tup [.int 0,.int (n-1)])) p3 (.lst [.ref p2])) p4 (.lst (its.map (fun p=>V.ref p.1)++[.ref p2])))=H5 at *
  have hT:∀p∈its++[(p2,[0,n-1])],SqT K H5 p.1 (p.2.map V.int):=fun p hp=>by
   rcases lD.mp hp with z|z
   ·exact s25.tup (hok p z)
   ·rw[oN.mp z];exact k5
  have hm:((its++[(p2,[0,n-1])]).map (·.2)).Perm (tU n):=by rw[cu,hl];exact List.Perm.refl _
  refine⟨_,rfl,_,rfl,p4,its++[(p2,[0,n-1])],rfl,SqL.of e5,fun p hp=>⟨hT p hp,fun e=> ?_⟩,by rw[jU,hlen];show _+1<64;omega,fun l its' hl' hperm jj=> ?_⟩
  ·have:=xH p.2 ((hm.mem_iff).mp (Z0 hp))
   rw[e]at this;cases this
  ·have s6:=aP hl' (.lst (its'.map fun p=>V.ref p.1))
   refine⟨l,_,rfl,.inl ⟨SqL.of aH,fun t ht=>⟨(by show 2<=sizeLine;decide),fun r hr'=> ?_⟩⟩⟩
   have s7:=aP ht (.tup (its'.map fun p=>V.ref p.1))
   have s8:=aP hr' (.tup [.int n,.ref t])
   refine q r _ (sm.trans (s25.trans (s6.trans (s7.trans s8)))) ?_
   exact Jl hm hperm jj (fun p hp=>(s6.trans (s7.trans s8)).tup (hT p hp)) (SqT.of aH) (s8.tup (SqT.of aH))
def Ua(m k:Int):List (Int×Int):=rows (eF (Qh m.toNat k.toNat)) (gn m k) (gn m k:Int).toNat
theorem uU{so:Int->Int->Bool}{l:List (Int×Int)}{i:Nat}{p:Int×Int}(ex:l[i]? =some p):(l.take (i+1)).filter (fun q=>so q.1 q.2)=(l.take i).filter (fun q=>so q.1 q.2)++(if so p.1 p.2=true then[p]else[]):=by
 rw[GJ,ex,LR]
 show _++List.filter _ [p]=_
 rw[GD]
 split<;>rfl
theorem KZ{its:List (Addr×List Int)}{L:List (List Int)}(h:its.map (·.2)=L){j:Int}(j0:0<=j)(j1:j<its.length):∃v∈its,atI (its.map fun p=>V.ref p.1) j=some (.ref v.1)/\v.2=L.getD j.toNat []:=by
 have hj:j.toNat<its.length:=by omega
 refine⟨its[j.toNat],Cj hj,?_,?_⟩
 ·have z:atI (its.map fun p=>V.ref p.1) ((j.toNat:Nat):Int)=some (.ref its[j.toNat].1):=atI_nat (by rw[dY,fX hj];rfl)
  rwa [show((j.toNat:Nat):Int)=j by omega]at z
 ·rw[<-h,pN,dY,fX hj];rfl
def CN(K:W.Frag):Sp:=fun vs H Q _=>∃m k:Int,vs=[.int m,.int k]/\1<=m/\m<=10/\1<=k/\k<=m/\gn m k<=10/\∀r H',Same H H'->dN K H' r (gn m k) (Ua m k)->Q (.ref r) H'
theorem qI:FnScope ["m","k","picked","n"] ["m","k"] (defScope pY):=fsc
theorem JK{f f1 f2 f3 f4 f5:Addr}{fd d1 d2 d3 d4 d5:FuncData}{tk0:Tok}(F:Fun K "picks" "picks" pY f fd)(D1:bF K mg "need_from_to" Uu ["least","most","thing"] f1 d1)(G1:FnOk P w K mg base CX0 2 f1 d1 ["least","most","thing"] (qx K))(D2:bF K mg "all_sets" iz ["n"] f2 d2)(G2:FnOk P w K mg base CX0 1 f2 d2 ["n"] (tG K))(D3:bF K mg "need_few" Qx ["n"] f3 d3)(G3:FnOk P w K mg base CX0 1 f3 d3 ["n"] (gB K))(D4:bF K mg "in_both" eO ["ones","others"] f4 d4)(G4:FnOk P w K mg base CX0 1 f4 d4 ["ones","others"] (tD K))(D5:bF K mg "pairs" g8 ["n"] f5 d5)(G5:FnOk P w K mg base CX0 1 f5 d5 ["n"] (qC K))(fj:mg "sorted"=none)(cU:mg "len"=none)(cT:mg "tuple"=none)(gk:mg "MOST_PLACES"=some (.int 10 tk0)):
  FnOk P w K mg base CX0 3 f fd ["m","k"] (CN K):=by
 refine F.ok qI (fun vs H Q E h=> ?_) (fun cdv A outer s H vs Q E hr h=> ?_)
 ·obtain⟨m,k,rfl,_⟩:=h
  rfl
 obtain⟨m,k,rfl,m0,m1,k0,k1,hc,q⟩:=h
 refine⟨_,(aO (lF (pc G1 hr D1 (aj aL (aj (pe_glob rfl gk (v:= .int 10) ⟨_,rfl⟩) (aj (pv 0) aq))))) (aO (lF (pc G1 hr D1 (aj aL (aj (pv 0) (aj (pv 1) aq))))) (aO (cg (i:=2) qI.nd rfl (Or.inr rfl) (gQ eG rfl fj (by decide+kernel) (aj (oK (own:=["some"]) (caps:=["k"]) (ix:=[1]) rfl (Ec (pc G2 hr D2 (aj (pv 0) aq))) rfl rfl (.cons rfl rfl .nil) (fun _ _ _ _ _=>(cJ (i:=0) (show(["some","k"]:List Str).Nodup from by decide+kernel) rfl (Or.inl rfl))) (fun _ _ _ _ _=>Gu (jM op_eq (gQ (um K) rfl cU wk (aj (pv 0) aq)) (pv 1) (nomark _))) (fun _ _ _ _ _=>(pv 0))) aq))) (aO (cg (i:=3) qI.nd rfl (Or.inl rfl) (gQ yX rfl cU wk (aj (pv 2) aq))) (aO (lF (pc G3 hr D3 (aj (pv 3) aq))) (bA (cG (gP (aj (pv 3) (aj (Lf Lx rfl cT (by decide+kernel) (aj (oK (own:=["i","j"]) (caps:=["picked"]) (ix:=[2]) rfl (Ec (pc G5 hr D5 (aj (pv 3) aq))) rfl rfl (.cons rfl rfl .nil) (fun _ _ _ _ _=>(dD K (n:=2) rfl (mZ (cJ (i:=0) (show(["i","j","picked"]:List Str).Nodup from by decide+kernel) rfl (Or.inl rfl)) (mZ (cJ (i:=1) (show(["i","j","picked"]:List Str).Nodup from by decide+kernel) rfl (Or.inl rfl)) Cd)))) (fun _ _ _ _ _=>Gu (pt_not (tV K (pc G4 hr D4 (aj (bK (gK K) (pv 2) (pv 0) (fun _ _=>rfl)) (aj (bK (gK K) (pv 2) (pv 1) (fun _ _=>rfl)) aq))) (fun _=>rfl)))) (fun _ _ _ _ _=>(gP (aj (pv 0) (aj (pv 1) aq))))) aq)) aq)))))))))),?_⟩
 refine⟨_,rfl,1,10,m,rfl,m0,m1,?_⟩
 refine⟨_,rfl,_,rfl,1,m,k,rfl,k0,k1,?_⟩
 refine⟨_,rfl,m,rfl,by omega,m1,fun r its H1 s1 hr1 hT hm=> ?_⟩
 refine⟨r,_,rfl,SqL.of hr1,fun hz=> ?_⟩
 refine Gx (xs:=its.map fun p=>V.ref p.1) (fun i acc σ H'=>acc=((its.take i).filter fun p=>decide (p.2.length=k.toNat)).map (fun p=>V.ref p.1)/\Same H1 H'/\∃o,σ=[o,some (.int k)]) ⟨rfl,Same.refl _,_,rfl⟩ (fun i acc σ H' _ p=>p.2.1.seq (SqL.of hr1)) (fun i acc σ H' hi p=> ?_) hz (fun i x acc σ H' hx p=> ?_) (fun acc σ H' p=> ?_)
 ·rw[p.1,aM]
  exact dW (Cm _ _) (by rw[Lk];exact O9 _ _)
 ·obtain⟨rfl,sm,o,rfl⟩:=p
  rw[dY]at hx
  cases ex:its[i]? with
  |none=>rw[ex]at hx;cases hx
  |some v=>
   rw[ex]at hx
   cases hx
   have mv:=uy ex
   refine⟨_,rfl,v.1,_,rfl,.inr (sm.tup (hT v mv)),fun _=>⟨_,rfl,rfl,_,rfl,?_⟩⟩
   have e:decide (V.int (((v.2.map V.int).length:Nat):Int)=V.int k)=decide (v.2.length=k.toNat):=by
    refine decide_eq_decide.mpr ⟨fun z=> ?_,fun z=> ?_⟩
    ·have:=V.int.inj z
     rw[aM]at this
     omega
    ·rw[aM,z]
     congr 1
     omega
   rw[e]
   have go:=Fe (H:=H) (k:=k) ex
   refine ite2 (fun c=> ?_) (fun c=> ?_)
   ·exact⟨_,rfl,by rw[go,aA c,cu];rfl,sm,_,rfl⟩
   ·exact⟨by rw[go,ao c,Ci],sm,_,rfl⟩
 intro p1 hp1
 obtain⟨rfl,sm,_⟩:=p
 rw[aM,yZ]
 have Wy:=Oo (k:=k) hm
 have s2:=aP hp1 (.lst ((its.filter fun p=>decide (p.2.length=k.toNat)).map fun p=>V.ref p.1))
 have s02:=s1.trans (sm.trans s2)
 have hJ:∀p∈(its.filter fun p=>decide (p.2.length=k.toNat)),SqT K (upd H' p1 (.lst ((its.filter fun p=>decide (p.2.length=k.toNat)).map fun p=>V.ref p.1))) p.1 (p.2.map V.int)/\p.2≠[]:=fun p hp=>by
  obtain⟨z1,z2⟩:=iR.mp hp
  refine⟨(sm.trans s2).tup (hT p z1),fun e=> ?_⟩
  have:=eY z2
  rw[e,QJ]at this
  omega
 refine⟨p1,_,rfl,SqL.of aH,hJ,by rw[Wy];omega,fun l its' hl hperm jj=> ?_⟩
 have s3:=aP hl (.lst (its'.map fun p=>V.ref p.1))
 have hlen:its'.length=gn m k:=by rw[hperm.length_eq,Wy]
 have e3:(upd (upd H' p1 (.lst ((its.filter fun p=>decide (p.2.length=k.toNat)).map fun p=>V.ref p.1))) l (.lst (its'.map fun p=>V.ref p.1))) l=some (.lst (its'.map fun p=>V.ref p.1)):=aH
 have hJ3:DY K (upd (upd H' p1 (.lst ((its.filter fun p=>decide (p.2.length=k.toNat)).map fun p=>V.ref p.1))) l (.lst (its'.map fun p=>V.ref p.1))) its':=fun p hp=>s3.tup (hJ p (hperm.mem_iff.mp hp)).1
 have s03:=s02.trans s3
 generalize (upd (upd H' p1 (.lst ((its.filter fun p=>decide (p.2.length=k.toNat)).map fun p=>V.ref p.1))) l (.lst (its'.map fun p=>V.ref p.1)))=H3 at *
 have hL:its'.map (·.2)=Qh m.toNat k.toNat:=by
  refine pQ ((hperm.map _).trans ?_) (by rw[Ck];exact jj)
  have e:cD m.toNat k.toNat=(its.filter fun p=>decide (p.2.length=k.toNat)).map (·.2):=by
   unfold cD
   rw[<-hm,List.filter_map]
   rfl
  rw[e]
 refine⟨_,rfl,l,_,rfl,.inl (SqL.of e3),fun _=> ?_⟩
 rw[aM,hlen]
 refine⟨_,rfl,(gn m k:Int),rfl,by omega,?_⟩
 refine⟨_,rfl,_,rfl,(gn m k:Int),rfl,by omega,by omega,fun l2 H4 s4 hP=> ?_⟩
 obtain⟨rs,e1,v1⟩:=hP.ex
 refine⟨l2,rs,rfl,SqL.of e1,fun hz2=> ?_⟩
 have hrs:rs.length=(rows tt (gn m k:Int) (gn m k:Int).toNat).length:=by have:=v1.len;rwa [aM]at this
 refine Gx (xs:=rs) (fun i acc σ H'=>cB K H' acc ((((rows tt (gn m k:Int) (gn m k:Int).toNat).take i).filter fun q=>eF (Qh m.toNat k.toNat) q.1 q.2).map pairD)/\Same H4 H'/\∃o1 o2,σ=[o1,o2,some (.ref l)]) ⟨.nil,Same.refl _,_,_,rfl⟩ (fun i acc σ H' _ p=>p.2.1.seq (SqL.of e1)) (fun i acc σ H' _ p=> ?_) hz2 (fun i x acc σ H5 hx p=> ?_) (fun acc σ H5 p=> ?_)
 ·have z:=p.1.len
  rw[z,aM]
  exact dW (Cm _ _) (by rw[Lk];exact O9 _ _)
 ·obtain⟨hla,s5,o1,o2,rfl⟩:=p
  obtain⟨t,hi,rfl,ht⟩:=jD v1 hx
  have hmem:=Cj hi
  have hget:(rows tt (gn m k:Int) (gn m k:Int).toNat)[i]? =some (rows tt (gn m k:Int) (gn m k:Int).toNat)[i]:=fX hi
  have go:=uU (so:=eF (Qh m.toNat k.toNat)) hget
  generalize (rows tt (gn m k:Int) (gn m k:Int).toNat)[i]=pr at *
  obtain⟨q0,q1,q2,q3,_⟩:=wH.mp hmem
  have s45:=s4.trans s5
  have hLs:SqL K H5 l (its'.map fun p=>V.ref p.1):=SqL.of (s45 _ _ e3)
  obtain⟨v,mv,av,ev⟩:=KZ hL (j:=pr.1) q0 (by omega)
  obtain⟨u,mu,au,eu⟩:=KZ hL (j:=pr.2) (by omega) (by omega)
  refine⟨t,_,rfl,s5.tup ht,rfl,_,_,rfl,_,_,rfl,rfl,?_⟩
  refine⟨_,rfl,_,rfl,l,_,_,_,rfl,rfl,hLs,av,_,rfl,_,rfl,l,_,_,_,rfl,rfl,hLs,au,v.1,u.1,v.2,u.2,rfl,s45.tup (hJ3 v mv),s45.tup (hJ3 u mu),fun r6 H6 s6 h6=>⟨_,.inl ⟨_,SqL.of h6,rfl⟩,?_⟩⟩
  have nb:(!(!((v.2.filter fun o=>decide (o∈u.2)).map V.int).isEmpty))=eF (Qh m.toNat k.toNat) pr.1 pr.2:=by
   unfold eF
   rw[Zo,List.isEmpty_map,ev,eu]
  dsimp only
  rw[nb]
  refine ite2 (fun c=> ?_) (fun c=> ?_)
  ·refine⟨_,rfl,_,rfl,(by show 2<=sizeLine;decide),fun pn hpn=> ?_⟩
   have s7:=s6.trans (aP hpn (.tup [.int pr.1,.int pr.2]))
   refine⟨?_,s5.trans s7,_,_,rfl⟩
   rw[go,aA c,cu]
   exact(hla.same s7).append (.cons (.tup (SqT.of aH) (.cons (.int _) (.cons (.int _) .nil))) .nil)
  ·refine⟨?_,s5.trans s6,_,_,rfl⟩
   rw[go,ao c,Ci]
   exact hla.same s6
 ·intro p2 hp2
  obtain⟨hla,s5,_⟩:=p
  rw[hrs,yZ,fU]at hla
  refine⟨p2,_,rfl,.inl ⟨SqL.of aH,fun t ht=>⟨(by show 2<=sizeLine;decide),fun r' hr'=> ?_⟩⟩⟩
  have s6:=aP hp2 (.lst acc)
  have s7:=aP ht (.tup acc)
  have s8:=aP hr' (.tup [.int (gn m k:Int),.ref t])
  refine q r' _ (s03.trans (s4.trans (s5.trans (s6.trans (s7.trans s8))))) ?_
  exact⟨t,acc,SqT.of aH,s8.tup (SqT.of aH),hla.same (s6.trans (s7.trans s8))⟩
end
end Hs
namespace L2
open PySem PySem.Spec PyProof.Rows
theorem Tc{n:Nat}(h:n<=10^200):n<2^700:=GK h (by decide+kernel)
section
variable{X:Cx}
theorem mj:OpR X (binaryOp .FloorDiv) (rI (fun _ j=>0<j/\j.natAbs<=10^200) fun i j=> .int (i/j)):=opI fun i j _ _ _ _ _ hc q=>by
 have h1:(0:Int)<j:=hc.1
 refine floordiv_int (by omega) ?_ (Or.inl (wdq ?_))
 ·rw[Zm _ (by omega)]
  exact q
 ·have h3:j.natAbs≠0:=by omega
  have h4:=(Nat.log2_lt h3).mpr (Tc hc.2)
  omega
end
end L2
namespace Hs
open PySem L2 wB
theorem yq(m n:Nat):Nat.gcd n (m %n)=Nat.gcd m n:=by
 rw[Nat.gcd_comm m n,Nat.gcd_rec n m,Nat.gcd_comm]
structure Low(a:Int)(b:Nat)(u:Int)(v:Nat):Prop where
 pos:0<v
 cop:Nat.gcd u.natAbs v=1
 eq:u*(b:Int)=a*(v:Int)
 lu:u.natAbs<=a.natAbs
 lv:v<=b
 nn:0<=a->0<=u
theorem Ax(a:Int)(b:Nat)(hb:0<b):Low a b (a/((Nat.gcd a.natAbs b:Nat):Int)) (b/Nat.gcd a.natAbs b):=by
 have hg:0<Nat.gcd a.natAbs b:=wbq _ hb
 obtain⟨x,hx⟩:((Nat.gcd a.natAbs b:Nat):Int)∣a:=Int.natAbs_dvd_natAbs.mp (by rw[QK];exact Nat.gcd_dvd_left _ _)
 obtain⟨y,hy⟩:=ZK a.natAbs b
 generalize hgg:Nat.gcd a.natAbs b=g at *
 have e1:a/(g:Int)=x:=by rw[hx];exact wdr _ (by omega)
 have e2:b/g=y:=by rw[hy];exact Yi _ hg
 rw[e1,e2]
 have hna:a.natAbs=g*x.natAbs:=by rw[hx,QC];rfl
 have hy0:0<y:=by
  rcases U0 y with h|h
  ·subst h;simp at hy;omega
  ·exact h
 refine⟨hy0,?_,?_,?_,?_,fun h=> ?_⟩
 ·have h2:Nat.gcd (g*x.natAbs) (g*y)=g:=by rw[<-hna,<-hy];exact hgg
  rw[Nat.gcd_mul_left]at h2
  have h3:g*Nat.gcd x.natAbs y=g*1:=by omega
  exact Nat.eq_of_mul_eq_mul_left hg h3
 ·rw[hx]
  have:(b:Int)=(g:Int)*(y:Int):=by rw[hy];exact Pa _ _
  rw[this,jN (g:Int) x,Vf]
 ·rw[hna];exact wel _ hg
 ·rw[hy];exact wel _ hg
 ·rw[<-e1];exact Int.ediv_nonneg h (by omega)
theorem abs_eq(i:Int):(if i<0 then -i else i)=((i.natAbs:Nat):Int):=by split<;>omega
theorem J7(a:Int)(b:Nat)(hb:0<b):Nat.gcd a.natAbs b<=b:=Nat.le_of_dvd hb (ZK _ _)
section
variable{P:Program}{w:World}{K:W.Frag}{mg:Str->Option Value}{base:Heap}
def Vx(K:W.Frag):Sp:=fun vs H Q _=>∃(m n:Nat),vs=[.int m,.int n]/\Q (.int ((Nat.gcd m n:Nat):Int)) H
theorem Df:FnScope ["one","other","rest"] ["one","other"] (defScope Yc):=fsc
theorem V8{f:Addr}{fd:FuncData}(F:Fun K "greatest_divisor" "greatest_divisor" Yc f fd):FnOk P w K mg base CX0 1 f fd ["one","other"] (Vx K):=by
 refine F.ok Df (fun vs H Q E h=> ?_) (fun cdv A outer s H vs Q E hr h=> ?_)
 ·obtain⟨m,n,rfl,_⟩:=h
  rfl
 obtain⟨m,n,rfl,q⟩:=h
 refine⟨_,aO (ps_while was (pt_truth (pv 1) (fun _=>rfl)) (aO (cg (i:=2) Df.nd rfl (Or.inl rfl) (bH op_mod (pv 0) (pv 1))) (aO (cg (i:=0) Df.nd rfl (Or.inl rfl) (pv 1)) (bA (cg (i:=1) Df.nd rfl (Or.inl rfl) (pv 2)))))) (bA (cG (pv 0))),?_⟩
 refine⟨fun k σ H'=>H'=H/\∃(m':Nat) (r:Option V),σ=[some (.int (m':Int)),some (.int (k:Int)),r]/\Nat.gcd m' k=Nat.gcd m n,⟨n,rfl,m,_,rfl,rfl⟩,?_⟩
 rintro k σ H' ⟨rfl,m',r,rfl,hg⟩
 refine⟨_,rfl,_,rfl,?_⟩
 refine ite2 (fun c=> ?_) (fun c=> ?_)
 ·have hk:0<k:=by
   rcases U0 k with h|h
   ·subst h;exact absurd c (by decide)
   ·exact h
  refine⟨fun σ' H2=>H2=H'/\∃r',σ'=[some (.int (k:Int)),some (.int ((m' %k:Nat):Int)),r'],fun σ' H2 ⟨e1,r',e2⟩=>⟨m' %k,Ym _ hk,e1,k,r',e2,?_⟩,?_⟩
  ·rw[yq];exact hg
  ·exact⟨_,rfl,_,rfl,_,_,rfl,rfl,Ly.mpr hk,_,rfl,_,rfl,rfl,_,rfl⟩
 ·have hk:k=0:=by
   rcases U0 k with h|h
   ·exact h
   ·exfalso;apply c;show((k:Int) !=0)=true;simp;omega
  subst hk
  rw[Nat.gcd_zero_right]at hg
  refine⟨_,rfl,?_⟩
  rw[hg];exact q
def CQ(K:W.Frag):Sp:=fun vs H Q _=>∃(a:Int) (b:Nat),vs=[.int a,.int b]/\0<b/\b<=10^200/\∀p H' u v,Same H H'->H' p=some (.tup [.int u,.int ((v:Nat):Int)])->Low a b u v->Q (.ref p) H'
theorem IW:FnScope ["a","b","by"] ["a","b"] (defScope gC):=fsc
theorem Dr{H:Hp}{a:Int}{b:Nat}{p:Addr}(hp:H p=none):(upd H p (.tup [.int (a/((Nat.gcd a.natAbs b:Nat):Int)),.int ((b:Int)/((Nat.gcd a.natAbs b:Nat):Int))])) p=some (.tup [.int (a/((Nat.gcd a.natAbs b:Nat):Int)),.int (((b/Nat.gcd a.natAbs b:Nat)):Int)]):=by
 rw[aH,Int.natCast_ediv]
theorem RD{f f1:Addr}{fd d1:FuncData}(F:Fun K "lowest" "lowest" gC f fd)(D1:bF K mg "greatest_divisor" Yc ["one","other"] f1 d1)(G1:FnOk P w K mg base CX0 1 f1 d1 ["one","other"] (Vx K))(mA:mg "abs"=none):
  FnOk P w K mg base CX0 2 f fd ["a","b"] (CQ K):=by
 refine F.ok IW (fun vs H Q E h=> ?_) (fun cdv A outer s H vs Q E hr h=> ?_)
 ·obtain⟨m,n,rfl,_⟩:=h
  rfl
 obtain⟨a,b,rfl,hb,hB,q⟩:=h
 refine⟨_,aO (cg (i:=2) IW.nd rfl (Or.inl rfl) (pc G1 hr D1 (aj (gQ call_abs rfl mA (by decide+kernel) (aj (pv 0) aq)) (aj (pv 1) aq)))) (bA (cG (gP (aj (bH mj (pv 0) (pv 2)) (aj (bH mj (pv 1) (pv 2)) aq))))),?_⟩
 refine⟨_,rfl,a,rfl,_,rfl,a.natAbs,b,?_,?_⟩
 ·rw[abs_eq];rfl
 have hg:0<Nat.gcd a.natAbs b:=wbq _ hb
 have hg2:(((Nat.gcd a.natAbs b:Nat):Int)).natAbs<=10^200:=dW (J7 a b hb) hB
 refine⟨_,rfl,_,rfl,_,_,rfl,rfl,⟨Ly.mpr hg,hg2⟩,_,rfl,_,rfl,_,_,rfl,rfl,⟨Ly.mpr hg,hg2⟩,(by show 2<=sizeLine;decide),fun p hp=> ?_⟩
 exact q p _ _ _ (aP hp _) (Dr hp) (Ax a b hb)
def aR(n:Nat)(X:Nat->Int):List V:=((List.range (n+1)).map X).map V.int
def bL(n:Nat)(c:Nat->Nat):List Int:=(List.range n).map fun k=>((c k:Nat):Int)
def flds(cl co ro:Addr)(o:Int):List (Str×V):=[("cells",.ref cl),("over",.int o),("columns",.ref co),("rows",.ref ro)]
structure bV(K:W.Frag)(C:Addr)(H0 H:Hp)(o dx cl co ro:Addr)(rws:List Addr)(n m:Nat)(T:Sx.Tab):Prop where
 same:Same H0 H
 o0:H0 o=none
 SQ:H0 cl=none
 Qo:H0 co=none
 Qf:H0 ro=none
 ne:co≠ro
 nc:co∉rws
 nr:ro∉rws
 at_:H o=some (.ins C dx (flds cl co ro T.over))
 cells:H cl=some (.lst (rws.map V.ref))
 len:rws.length=m+1
 row:∀r a,rws[r]? =some a->H a=some (.lst (aR n (T.cell r)))
 cols:H co=some (.lst ((bL n T.col).map V.int))
 rows:H ro=some (.lst ((bL m T.row).map V.int))
def jo(K:W.Frag)(C:Addr)(H0 H:Hp)(o:Addr)(n m:Nat)(T:Sx.Tab):Prop:=∃dx cl co ro rws,bV K C H0 H o dx cl co ro rws n m T
theorem bV.sm{C:Addr}{H0 H H':Hp}{o dx cl co ro:Addr}{rws:List Addr}{n m:Nat}{T:Sx.Tab}(h:bV K C H0 H o dx cl co ro rws n m T)(s:Same H H'):bV K C H0 H' o dx cl co ro rws n m T:=
 ⟨h.same.trans s,h.o0,h.SQ,h.Qo,h.Qf,h.ne,h.nc,h.nr,s _ _ h.at_,s _ _ h.cells,h.len,fun r a e=>s _ _ (h.row r a e),s _ _ h.cols,s _ _ h.rows⟩
theorem jo.sm{C:Addr}{H0 H H':Hp}{o:Addr}{n m:Nat}{T:Sx.Tab}(h:jo K C H0 H o n m T)(s:Same H H'):jo K C H0 H' o n m T:=by
 obtain⟨dx,cl,co,ro,rws,h⟩:=h
 exact⟨dx,cl,co,ro,rws,h.sm s⟩
structure TG(n m:Nat)(S:Nat->Nat->Bool)(wt:Nat->Int)(T:Sx.Tab):Prop where
 good:Sx.Good n m S wt T
 n10:n<=10
 Wh:m<=40
 wb:∀p,p<n->0<=wt p/\wt p<=99
 cov:∀p,p<n->∃k,k<m/\S k p=true
theorem TG.cell{n m:Nat}{S:Nat->Nat->Bool}{wt:Nat->Int}{T:Sx.Tab}(h:TG n m S wt T){r c:Nat}(hr:r<=m)(hc:c<=n): -4000000000<=T.cell r c/\T.cell r c<=4000000000:=by
 have a:=h.good.KQ h.wb hr hc
 have b:=Sx.Ku (k:=n+1) (by have:=h.n10;omega)
 omega
theorem TG.over{n m:Nat}{S:Nat->Nat->Bool}{wt:Nat->Int}{T:Sx.Tab}(h:TG n m S wt T):0<T.over/\T.over<=39916800:=by
 have a:=h.good.M4
 have b:=Sx.Ku (k:=n+1) (by have:=h.n10;omega)
 exact⟨h.good.pos,by omega⟩
theorem Ed(n:Nat)(X:Nat->Int):(aR n X).length=n+1:=by unfold aR;rw[aM,aM,wL]
theorem lX{n c:Nat}(X:Nat->Int)(h:c<=n):(aR n X)[c]? =some (.int (X c)):=by
 unfold aR;rw[dY,dY,U3 (by omega)];rfl
theorem dB{n c:Nat}(X:Nat->Int)(h:c<=n):atI (aR n X) (c:Int)=some (.int (X c)):=atI_nat (lX X h)
theorem atI_last{xs:List V}{v:V}(h:xs[xs.length-1]? =some v)(h0:0<xs.length):atI xs (-1)=some v:=by
 have e:ixN xs.length (-1)=some (xs.length-1):=by
  unfold ixN
  rw[ao (by decide),aA (by omega)]
  congr 1
  omega
 unfold atI
 rw[e]
 exact h
theorem nF(n:Nat)(X:Nat->Int):atI (aR n X) (-1)=some (.int (X n)):=atI_last (by rw[Ed];exact lX X (aU n)) (by rw[Ed];omega)
theorem Ef(n:Nat)(c:Nat->Nat):(bL n c).length=n:=by unfold bL;rw[aM,wL]
theorem Ce{n k:Nat}(c:Nat->Nat)(h:k<n):(bL n c)[k]? =some ((c k:Nat):Int):=by
 unfold bL;rw[dY,U3 h];rfl
theorem mq{n k:Nat}(c:Nat->Nat)(h:k<n):atI ((bL n c).map V.int) (k:Int)=some (.int ((c k:Nat):Int)):=atI_nat (by rw[dY,Ce c h];rfl)
theorem tW{n k:Nat}(c:Nat->Nat)(v:Nat)(h:k<n):(bL n c).set k (v:Int)=bL n (fun i=>if i=k then v else c i):=by
 refine YB fun i=> ?_
 rw[ZJ]
 by_cases hi:i<n
 ·rw[Ce _ hi,Ce _ hi,Ef]
  by_cases e:k=i
  ·rw[aA e,aA h,aA e.symm]
  ·rw[ao e,ao (lE e)]
 ·rw[Tv (by rw[Ef];omega),Tv (by rw[Ef];omega),ao (by omega)]
theorem bV.Eu{C:Addr}{H0 H:Hp}{o dx cl co ro:Addr}{rws:List Addr}{n m:Nat}{T:Sx.Tab}(h:bV K C H0 H o dx cl co ro rws n m T){r:Nat}(hr:r<=m):∃a,rws[r]? =some a/\atI (rws.map V.ref) (r:Int)=some (.ref a)/\H a=some (.lst (aR n (T.cell r))):=by
 have hl:=h.len
 have e:rws[r]? =some rws[r]:=fX (by omega)
 exact⟨rws[r],e,atI_nat (by rw[dY,e];rfl),h.row r _ e⟩
theorem bV.VH{C:Addr}{H0 H:Hp}{o dx cl co ro:Addr}{rws:List Addr}{n m:Nat}{T:Sx.Tab}(h:bV K C H0 H o dx cl co ro rws n m T):∃a,rws[m]? =some a/\atI (rws.map V.ref) (-1)=some (.ref a)/\H a=some (.lst (aR n (T.cell m))):=by
 obtain⟨a,e,_,f⟩:=h.Eu (aU m)
 exact⟨a,e,atI_last (by rw[aM,h.len,dY,Nat.add_sub_cancel,e];rfl) (by rw[aM,h.len];omega),f⟩
def Ia(K:W.Frag)(C:Addr):Sp:=fun vs H Q _=>∃(o:Addr) (H0:Hp) (n m:Nat) (S:Nat->Nat->Bool) (wt:Nat->Int) (T:Sx.Tab),vs=[.ref o]/\jo K C H0 H o n m T/\TG n m S wt T/\
 ((∀c,c<n->0<=T.cell m c)->∀H',Same H H'->Q .non H')/\∀(q:Nat) H',q<n->T.cell m q<0->(∀c,c<n->T.cell m c<0->T.col q<=T.col c)->Same H H'->Q (.int (q:Int)) H'
theorem zT:FnScope ["self","worth","names"] ["self"] (defScope Ye):=fsc
theorem Ry{f C:Addr}{fd:FuncData}(F:Fun K "next_column" "Tableau.next_column" Ye f fd)
  (Cc:Cls K C)(aW:NoAttr K C "cells")(cH:NoAttr K C "over")(aQ:NoAttr K C "columns")(bU:NoAttr K C "rows")(dJ:mg "enumerate"=none)(xT:mg "min"=none):
  FnOk P w K mg base CX0 1 f fd ["self"] (Ia K C):=by
 refine F.ok zT (fun vs H Q E h=> ?_) (fun cdv A outer s H vs Q E hr h=> ?_)
 ·obtain⟨o,H0,n,m,S,wt,T,rfl,_⟩:=h
  rfl
 obtain⟨o,H0,n,m,S,wt,T,rfl,⟨dx,cl,co,ro,rws,hT⟩,hG,q1,q2⟩:=h
 refine⟨_,(aO (cg (i:=1) zT.nd rfl (Or.inr rfl) (bK oJ (m7 (pv 0) rfl) (pe_un un_neg aL) (fun _ _=>rfl))) (aO (Qy (i:=2) (own:=["k","name"]) (caps:=["worth"]) (ix:=[1]) zT.nd rfl (Or.inl rfl) rfl (qO rfl dJ (aj (m7 (pv 0) rfl) aq)) rfl rfl (.cons rfl rfl .nil) (fun _ _ _ _ _=>(dD K (n:=2) rfl (mZ (cJ (i:=0) (show(["k","name","worth"]:List Str).Nodup from by decide+kernel) rfl (Or.inl rfl)) (mZ (cJ (i:=1) (show(["k","name","worth"]:List Str).Nodup from by decide+kernel) rfl (Or.inl rfl)) Cd)))) (fun _ _ _ _ _=>Gu (jM op_lt (bK (gK K) (pv 2) (pv 0) (fun _ _=>rfl)) aL (nomark _))) (fun _ _ _ _ _=>(pv 1))) (bA (cG (pe_ifExp (pt_truth (pv 2) (fun _=>rfl)) (pe_bm Ln wbx wby nJ (m7 (pv 0) rfl) (aj (gQ (Gp rfl) rfl xT (by decide+kernel) (aj (pv 2) aq)) aq)) pe_non))))),?_⟩
 obtain⟨za,ze,zi,zr⟩:=hT.VH
 refine⟨_,rfl,o,C,dx,_,_,rfl,hT.at_,Cc,aW,rfl,_,rfl,cl,_,_,_,rfl,rfl,SqL.of hT.cells,zi,?_⟩
 refine⟨_,rfl,o,C,dx,_,_,rfl,hT.at_,Cc,aQ,rfl,false,co,_,rfl,SqL.of hT.cols,fun hz=> ?_⟩
 refine nU (K:=K) (b:=false) (a:=co) (xs:=(bL n T.col).map V.int) (fun i acc σ H'=>acc=(((List.range i).filter fun c=>decide (T.cell m c<0)).map fun c=>((T.col c:Nat):Int)).map V.int/\Same H H'/\∃o1 o2,σ=[o1,o2,some (.ref za)]) ⟨rfl,Same.refl _,_,_,rfl⟩ (fun i acc σ H' _ p=>p.2.1.seq (SqL.of hT.cols)) (fun i acc σ H' _ p=> ?_) hz (fun i v t acc σ H' hv p ht=> ?_) (fun acc σ H' p=> ?_)
 ·rw[p.1,aM,aM]
  exact dW (Cm _ _) (by rw[wL];exact aU _)
 ·obtain⟨rfl,sm,o1,o2,rfl⟩:=p
  have hi:i<n:=by
   have:=(pL.mp hv).1
   rw[aM,Ef]at this
   exact this
  rw[dY,Ce _ hi]at hv
  cases hv
  have s1:=aP ht (.tup [.int (i:Int),.int ((T.col i:Nat):Int)])
  refine⟨t,_,rfl,SqT.of aH,rfl,_,_,rfl,_,_,rfl,rfl,?_⟩
  refine⟨_,rfl,_,rfl,za,_,_,_,rfl,rfl,SqL.of ((sm.trans s1) _ _ zr),dB _ (cM hi),_,_,rfl,rfl,_,rfl,?_⟩
  have go:((List.range (i+1)).filter fun c=>decide (T.cell m c<0))=((List.range i).filter fun c=>decide (T.cell m c<0))++(if decide (T.cell m i<0)=true then[i]else[]):=by
   rw[wI,LR]
   congr 1
   rw[GD]
   split<;>rfl
  refine ite2 (fun c=> ?_) (fun c=> ?_)
  ·exact⟨_,rfl,by rw[go,aA c,cu,cu];rfl,sm.trans s1,_,_,rfl⟩
  ·exact⟨by rw[go,ao c,Ci],sm.trans s1,_,_,rfl⟩
 ·intro p1 hp1
  obtain⟨rfl,sm,_⟩:=p
  rw[aM,Ef]
  have s1:=aP hp1 (.lst ((((List.range n).filter fun c=>decide (T.cell m c<0)).map fun c=>((T.col c:Nat):Int)).map V.int))
  have e1:(upd H' p1 (.lst ((((List.range n).filter fun c=>decide (T.cell m c<0)).map fun c=>((T.col c:Nat):Int)).map V.int))) p1=some (.lst ((((List.range n).filter fun c=>decide (T.cell m c<0)).map fun c=>((T.col c:Nat):Int)).map V.int)):=aH
  have s2:=sm.trans s1
  generalize (upd H' p1 (.lst ((((List.range n).filter fun c=>decide (T.cell m c<0)).map fun c=>((T.col c:Nat):Int)).map V.int)))=H1 at *
  have hT1:=hT.sm s2
  refine⟨_,rfl,_,.inl ⟨_,SqL.of e1,rfl⟩,?_⟩
  cases hl:(List.range n).filter fun c=>decide (T.cell m c<0)with
  |nil=>
   refine iteF ?_
   refine q1 (fun c hc=>Int.not_lt.mp fun hn=> ?_) _ s2
   have:c∈(List.range n).filter fun c=>decide (T.cell m c<0):=iR.mpr ⟨m8.mpr hc,cI hn⟩
   rw[hl]at this
   cases this
  |cons c0 rest=>
   rw[hl]at e1
   refine iteT ?_
   refine⟨_,rfl,o,C,dx,_,_,rfl,hT1.at_,Cc,aQ,rfl,.inl ⟨rfl,_,SqL.of hT1.cols⟩,_,rfl,p1,_,rfl,SqL.of e1,(fun e=>nomatch e),fun mn hmn hle=> ?_⟩
   rw[<-hl]at hmn hle
   obtain⟨c,hc,rfl⟩:=jw.mp hmn
   obtain⟨hc1,hc2⟩:=iR.mp hc
   have hcn:=m8.mp hc1
   refine⟨co,bL n T.col,_,c,rfl,rfl,hT1.cols,Ce _ hcn,fun i hi e=> ?_,by rw[Ef];have:=hG.n10;omega,?_⟩
   ·rw[Ce _ (by omega)]at e
    have:T.col i=T.col c:=Vd (sy e)
    have:=hG.good.Bj i c (by omega) hcn this
    omega
   ·refine q2 c _ hcn (eY hc2) (fun c' hc' hn=> ?_) s2
    have:=hle _ (jw.mpr ⟨c',iR.mpr ⟨m8.mpr hc',cI hn⟩,rfl⟩)
    omega
def T7(n q:Nat)(T:Sx.Tab)(r t:Nat):Bool:=decide (T.cell r n*T.cell t q<T.cell t n*T.cell r q)||(decide (T.cell r n*T.cell t q=T.cell t n*T.cell r q)&&decide (T.row r<T.row t))
def PL(K:W.Frag)(C:Addr):Sp:=fun vs H Q _=>∃(o:Addr) (H0:Hp) (n m q r t:Nat) (S:Nat->Nat->Bool) (wt:Nat->Int) (T:Sx.Tab),vs=[.ref o,.int (q:Int),.int (r:Int),.int (t:Int)]/\jo K C H0 H o n m T/\TG n m S wt T/\q<n/\r<m/\t<m/\Q (.bl (T7 n q T r t)) H
theorem zP:FnScope ["self","column","row","other","one","two"] ["self","column","row","other"] (defScope Yd):=fsc
theorem Rr{f C:Addr}{fd:FuncData}(F:Fun K "is_tighter" "Tableau.is_tighter" Yd f fd)
  (Cc:Cls K C)(aW:NoAttr K C "cells")(cH:NoAttr K C "over")(aQ:NoAttr K C "columns")(bU:NoAttr K C "rows"):
  FnOk P w K mg base CX0 1 f fd ["self","column","row","other"] (PL K C):=by
 refine F.ok zP (fun vs H Q E h=> ?_) (fun cdv A outer s H vs Q E hr h=> ?_)
 ·obtain⟨o,H0,n,m,q,r,t,S,wt,T,rfl,_⟩:=h
  rfl
 obtain⟨o,H0,n,m,q,r,t,S,wt,T,rfl,⟨dx,cl,co,ro,rws,hT⟩,hG,hq,hr0,ht,qq⟩:=h
 refine⟨_,(aO (cg (i:=4) zP.nd rfl (Or.inl rfl) (bH rW (bK oJ (bK oJ (m7 (pv 0) rfl) (pv 2) (fun _ _=>rfl)) (pe_un un_neg aL) (fun _ _=>rfl)) (bK oJ (bK oJ (m7 (pv 0) rfl) (pv 3) (fun _ _=>rfl)) (pv 1) (fun _ _=>rfl)))) (aO (cg (i:=5) zP.nd rfl (Or.inl rfl) (bH rW (bK oJ (bK oJ (m7 (pv 0) rfl) (pv 3) (fun _ _=>rfl)) (pe_un un_neg aL) (fun _ _=>rfl)) (bK oJ (bK oJ (m7 (pv 0) rfl) (pv 2) (fun _ _=>rfl)) (pv 1) (fun _ _=>rfl)))) (bA (cG (pe_or (pe_cmpR op_lt (pv 4) (pv 5) (nomark _)) (pe_one (pe_and (pe_cmpR op_eq (pv 4) (pv 5) (nomark _)) (pe_one (pe_cmpR op_lt (bK oJ (m7 (pv 0) rfl) (pv 2) (fun _ _=>rfl)) (bK oJ (m7 (pv 0) rfl) (pv 3) (fun _ _=>rfl)) (nomark _)))))))))),?_⟩
 obtain⟨ra,re,ri,rr⟩:=hT.Eu (cM hr0)
 obtain⟨ta,te,ti,tr⟩:=hT.Eu (cM ht)
 have b1:=hG.cell (cM hr0) (aU n)
 have b2:=hG.cell (cM ht) (aU n)
 refine⟨_,rfl,o,C,dx,_,_,rfl,hT.at_,Cc,aW,rfl,_,rfl,cl,_,_,_,rfl,rfl,SqL.of hT.cells,ri,_,rfl,ra,_,_,_,rfl,rfl,SqL.of rr,nF _ _,?_⟩
 refine⟨_,rfl,o,C,dx,_,_,rfl,hT.at_,Cc,aW,rfl,_,rfl,cl,_,_,_,rfl,rfl,SqL.of hT.cells,ti,_,rfl,ta,_,_,_,rfl,rfl,SqL.of tr,dB _ (cM hq),_,_,rfl,rfl,.inl ⟨by omega,by omega⟩,?_⟩
 refine⟨_,rfl,o,C,dx,_,_,rfl,hT.at_,Cc,aW,rfl,_,rfl,cl,_,_,_,rfl,rfl,SqL.of hT.cells,ti,_,rfl,ta,_,_,_,rfl,rfl,SqL.of tr,nF _ _,?_⟩
 refine⟨_,rfl,o,C,dx,_,_,rfl,hT.at_,Cc,aW,rfl,_,rfl,cl,_,_,_,rfl,rfl,SqL.of hT.cells,ri,_,rfl,ra,_,_,_,rfl,rfl,SqL.of rr,dB _ (cM hq),_,_,rfl,rfl,.inl ⟨by omega,by omega⟩,?_⟩
 refine⟨_,rfl,_,rfl,_,_,rfl,rfl,_,rfl,?_⟩
 unfold T7 at qq
 refine ite2 (fun c=> ?_) (fun c=> ?_)
 ·rw[c,Bool.true_or]at qq;exact qq
 ·rw[eq_false_of_ne_true c,Bool.false_or]at qq
  refine⟨_,rfl,_,rfl,rfl,_,rfl,?_⟩
  refine ite2 (fun c2=> ?_) (fun c2=> ?_)
  ·have c2':decide (T.cell r n*T.cell t q=T.cell t n*T.cell r q)=true:=cI (V.int.inj (eY c2))
   rw[c2',Bool.true_and]at qq
   refine⟨_,rfl,o,C,dx,_,_,rfl,hT.at_,Cc,bU,rfl,_,rfl,ro,_,_,_,rfl,rfl,SqL.of hT.rows,mq _ hr0,?_⟩
   refine⟨_,rfl,o,C,dx,_,_,rfl,hT.at_,Cc,bU,rfl,_,rfl,ro,_,_,_,rfl,rfl,SqL.of hT.rows,mq _ ht,_,_,rfl,rfl,?_⟩
   rw[<-show decide (((T.row r:Nat):Int)<((T.row t:Nat):Int))=decide (T.row r<T.row t)from decide_eq_decide.mpr Ly]at qq
   exact qq
  ·have c2':decide (T.cell r n*T.cell t q=T.cell t n*T.cell r q)=false:=iY fun e=>c2 (cI (iW V.int e))
   rw[c2',Yv]at qq
   exact qq
def Qu(n q:Nat)(T:Sx.Tab)(p r:Nat):Prop:=T.cell p n*T.cell r q<T.cell r n*T.cell p q\/(T.cell p n*T.cell r q=T.cell r n*T.cell p q/\T.row p<=T.row r)
theorem Ga{n q:Nat}{T:Sx.Tab}{a b c:Nat}(ha:0<T.cell a q)(hb:0<T.cell b q)(hc:0<T.cell c q)(h1:Qu n q T a b)(h2:Qu n q T b c):Qu n q T a c:=by
 have cm:∀x y:Nat,T.cell x n*T.cell y q=T.cell y q*T.cell x n:=fun x y=>jN _ _
 have cn:∀x y:Nat,T.cell y n*T.cell x q=T.cell x q*T.cell y n:=fun x y=>jN _ _
 unfold Qu at *
 rw[cm a b,cn a b]at h1
 rw[cm b c,cn b c]at h2
 rw[cm a c,cn a c]
 rcases h1 with h1|⟨h1,l1⟩
 ·rcases h2 with h2|⟨h2,_⟩
  ·exact .inl (Sx.vJ hb ha hc (lC h1) h2)
  ·exact .inl (Sx.yD hb ha hc h1 (Tn h2))
 ·rcases h2 with h2|⟨h2,l2⟩
  ·exact .inl (Sx.vJ hb ha hc (Tn h1) h2)
  ·exact .inr ⟨QF (Sx.vK hb ha hc (Tn h1) (Tn h2)) (Sx.vK hb hc ha (by rw[<-h2];exact pK _) (by rw[<-h1];exact pK _)),dW l1 l2⟩
theorem Q0{n q:Nat}{T:Sx.Tab}{r t:Nat}(h:T7 n q T r t=true):Qu n q T r t:=by
 unfold T7 at h
 rw[QV,qm]at h
 rcases h with h|⟨h1,h2⟩
 ·exact .inl (eY h)
 ·exact .inr ⟨eY h1,cM (eY h2)⟩
theorem Vs{n q:Nat}{T:Sx.Tab}{r t:Nat}(h:T7 n q T r t=false):Qu n q T t r:=by
 unfold T7 at h
 rw[Bool.or_eq_false_iff,Bool.and_eq_false_iff]at h
 have h1:=Vo h.1
 by_cases c:T.cell r n*T.cell t q=T.cell t n*T.cell r q
 ·refine .inr ⟨c.symm,?_⟩
  rcases h.2 with z|z
  ·exact absurd c (Vo z)
  ·exact Nat.not_lt.mp (Vo z)
 ·exact .inl (by omega)
def PX(K:W.Frag)(C:Addr):Sp:=fun vs H Q _=>∃(o:Addr) (H0:Hp) (n m q:Nat) (S:Nat->Nat->Bool) (wt:Nat->Int) (T:Sx.Tab),vs=[.ref o,.int (q:Int)]/\jo K C H0 H o n m T/\TG n m S wt T/\q<n/\
 ∀p:Nat,p<m->0<T.cell p q->(∀r,r<m->0<T.cell r q->Qu n q T p r)->Q (.int (p:Int)) H
theorem uO:FnScope ["self","column","tightest","row"] ["self","column"] (defScope X7):=fsc
theorem Rx{f f1 C:Addr}{fd d1:FuncData}(F:Fun K "next_row" "Tableau.next_row" X7 f fd)
  (Cc:Cls K C)(aW:NoAttr K C "cells")(cH:NoAttr K C "over")(aQ:NoAttr K C "columns")(bU:NoAttr K C "rows")(D1:Gq K C "is_tighter" "Tableau.is_tighter" Yd ["self","column","row","other"] f1 d1)(G1:FnOk P w K mg base CX0 1 f1 d1 ["self","column","row","other"] (PL K C))(aJ:mg "range"=none)(cU:mg "len"=none):
  FnOk P w K mg base CX0 2 f fd ["self","column"] (PX K C):=by
 refine F.ok uO (fun vs H Q E h=> ?_) (fun cdv A outer s H vs Q E hr h=> ?_)
 ·obtain⟨o,H0,n,m,q,S,wt,T,rfl,_⟩:=h
  rfl
 obtain⟨o,H0,n,m,q,S,wt,T,rfl,⟨dx,cl,co,ro,rws,hT⟩,hG,hq,qq⟩:=h
 refine⟨_,(aO (cg (i:=2) uO.nd rfl (Or.inl rfl) pe_non) (aO (ps_for was rfl (zp rfl aJ (aj (gQ yX rfl cU wk (aj (m7 (pv 0) rfl) aq)) aq)) (cJ (i:=3) uO.nd rfl (Or.inl rfl)) (bA (o8 (PW.pt (pw_and (jM op_gt (bK oJ (bK oJ (m7 (pv 0) rfl) (pv 3) (fun _ _=>rfl)) (pv 1) (fun _ _=>rfl)) aL (nomark _)) (pw_and1 (PW.pt (pw_or (jM op_isN (pv 2) pe_non (nomark _)) (pw_or1 (pt_val (pe_meth (pv 0) Cc D1.m G1 hr D1.b .nil pass0 (aj (pv 1) (aj (pv 3) (aj (pv 2) aq))))))))))) (bA (cg (i:=2) uO.nd rfl (Or.inl rfl) (pv 3))) o9))) (bA (cG (pv 2))))),?_⟩
 refine⟨_,rfl,o,C,dx,_,_,rfl,hT.at_,Cc,bU,rfl,ro,_,rfl,.inl (SqL.of hT.rows),fun _=> ?_⟩
 rw[aM,Ef]
 refine⟨_,rfl,by have:=hG.Wh;omega,by have:=hG.Wh;omega,?_⟩
 refine Lw (n:=m) (fun i σ H'=>H'=H/\∃(x:V) (o3:Option V),σ=[some (.ref o),some (.int (q:Int)),some x,o3]/\((x= .non/\∀r,r<i->T.cell r q<=0)\/∃p:Nat,p<i/\x= .int (p:Int)/\0<T.cell p q/\∀r,r<i->0<T.cell r q->Qu n q T p r)) ⟨rfl,_,_,rfl,.inl ⟨rfl,fun r hr=>absurd hr (QG r)⟩⟩ (fun i σ H' hi p=> ?_) (fun σ H' p=> ?_)
 ·obtain⟨rfl,x,o3,rfl,hx⟩:=p
  rw[Vb]
  obtain⟨ra,re,ri,rr⟩:=hT.Eu (cM hi)
  refine⟨_,rfl,o,C,dx,_,_,rfl,hT.at_,Cc,aW,rfl,_,rfl,cl,_,_,_,rfl,rfl,SqL.of hT.cells,ri,_,rfl,ra,_,_,_,rfl,rfl,SqL.of rr,dB _ (cM hq),_,_,rfl,rfl,_,rfl,?_⟩
  refine ite2 (fun c=> ?_) (fun c=> ?_)
  ·have c':0<T.cell i q:=eY c
   rcases hx with⟨rfl,hx⟩|⟨p,hp,rfl,hp0,hlev⟩
   ·refine⟨_,rfl,rfl,_,rfl,?_⟩
    refine iteT ?_
    refine iteT ?_
    refine⟨_,rfl,rfl,_,_,rfl,.inr ⟨i,qj i,rfl,c',fun r hr h0=> ?_⟩⟩
    by_cases e:r=i
    ·subst e;exact .inr ⟨rfl,aU _⟩
    ·have:=hx r (by omega);omega
   ·refine⟨_,rfl,rfl,_,rfl,?_⟩
    refine iteF ?_
    refine⟨_,rfl,o,dx,_,rfl,hT.at_,rfl,_,rfl,_,rfl,_,rfl,o,H0,n,m,q,i,p,S,wt,T,rfl,⟨dx,cl,co,ro,rws,hT⟩,hG,hq,hi,by omega,_,rfl,?_⟩
    refine ite2 (fun z=> ?_) (fun z=> ?_)
    ·refine⟨_,rfl,rfl,_,_,rfl,.inr ⟨i,qj i,rfl,c',fun r hr h0=> ?_⟩⟩
     by_cases e:r=i
     ·subst e;exact .inr ⟨rfl,aU _⟩
     ·exact Ga c' hp0 h0 (Q0 z) (hlev r (by omega) h0)
    ·refine⟨rfl,_,_,rfl,.inr ⟨p,by omega,rfl,hp0,fun r hr h0=> ?_⟩⟩
     by_cases e:r=i
     ·subst e;exact Vs (eq_false_of_ne_true z)
     ·exact hlev r (by omega) h0
  ·refine iteF ?_
   have c':T.cell i q<=0:=Int.not_lt.mp fun h=>c (cI h)
   refine⟨rfl,_,_,rfl,?_⟩
   rcases hx with⟨rfl,hx⟩|⟨p,hp,rfl,hp0,hlev⟩
   ·refine .inl ⟨rfl,fun r hr=> ?_⟩
    by_cases e:r=i
    ·subst e;exact c'
    ·exact hx r (by omega)
   ·refine .inr ⟨p,by omega,rfl,hp0,fun r hr h0=> ?_⟩
    by_cases e:r=i
    ·subst e;omega
    ·exact hlev r (by omega) h0
 ·obtain⟨rfl,x,o3,rfl,hx⟩:=p
  rcases hx with⟨rfl,hx⟩|⟨p,hp,rfl,hp0,hlev⟩
  ·obtain⟨r,hr0,h0⟩:=hG.good.bounded hG.cov hq
   have:=hx r hr0
   omega
  ·exact⟨_,rfl,qq p hp hp0 hlev⟩
def YH(ov:Int)(X Y:Nat->Int)(q c:Nat):Int:=if c=q then -X q else(X c*Y q-X q*Y c)/ov
theorem xG{n q:Nat}(X:Nat->Int)(v:Int)(h:q<=n):(aR n X).set q (.int v)=aR n fun c=>if c=q then v else X c:=by
 refine YB fun i=> ?_
 rw[ZJ]
 by_cases hi:i<=n
 ·rw[lX _ hi,lX _ hi,Ed]
  by_cases e:q=i
  ·rw[aA e,aA (by omega),aA e.symm]
  ·rw[ao e,ao (lE e)]
 ·rw[Tv (by rw[Ed];omega),Tv (by rw[Ed];omega),ao (by omega)]
theorem j5{n:Nat}{X Y:Nat->Int}(h:∀c,c<=n->X c=Y c):aR n X=aR n Y:=by
 unfold aR
 rw[Ma fun c hc=>h c (by have:=m8.mp hc;omega)]
def PN(K:W.Frag)(C:Addr):Sp:=fun vs H Q _=>∃(o xa ya:Addr) (H0:Hp) (n m q:Nat) (X Y:Nat->Int) (T:Sx.Tab),vs=[.ref o,.ref xa,.ref ya,.int (q:Int)]/\jo K C H0 H o n m T/\n<=10/\(0<T.over/\T.over<=39916800)/\q<=n/\H xa=some (.lst (aR n X))/\H ya=some (.lst (aR n Y))/\
 (∀c,c<=n->(-4000000000<=X c/\X c<=4000000000)/\(-4000000000<=Y c/\Y c<=4000000000))/\∀r H',Same H H'->H r=none->H' r=some (.lst (aR n (YH T.over X Y q)))->Q (.ref r) H'
theorem zQ:FnScope ["self","cells","pivots","column","by","fresh"] ["self","cells","pivots","column"] (defScope XJ):=fsc
theorem Rt{f C:Addr}{fd:FuncData}(F:Fun K "turned" "Tableau.turned" XJ f fd)
  (Cc:Cls K C)(aW:NoAttr K C "cells")(cH:NoAttr K C "over")(aQ:NoAttr K C "columns")(bU:NoAttr K C "rows")(dJ:mg "enumerate"=none):
  FnOk P w K mg base CX0 1 f fd ["self","cells","pivots","column"] (PN K C):=by
 refine F.ok zQ (fun vs H Q E h=> ?_) (fun cdv A outer s H vs Q E hr h=> ?_)
 ·obtain⟨o,xa,ya,H0,n,m,q,X,Y,T,rfl,_⟩:=h
  rfl
 obtain⟨o,xa,ya,H0,n,m,q,X,Y,T,rfl,⟨dx,cl,co,ro,rws,hT⟩,hn,⟨ho0,ho1⟩,hq,hX,hY,hb,qq⟩:=h
 refine⟨_,(aO (cg (i:=4) zQ.nd rfl (Or.inr rfl) (bK oJ (pv 2) (pv 3) (fun _ _=>rfl))) (aO (Qy (i:=5) (own:=["k","cell"]) (caps:=["by","cells","column","pivots","self"]) (ix:=[4,1,3,2,0]) zQ.nd rfl (Or.inl rfl) rfl (qO rfl dJ (aj (pv 1) aq)) rfl rfl (.cons rfl rfl (.cons rfl rfl (.cons rfl rfl (.cons rfl rfl (.cons rfl rfl .nil))))) (fun _ _ _ _ _=>(dD K (n:=2) rfl (mZ (cJ (i:=0) (show(["k","cell","by","cells","column","pivots","self"]:List Str).Nodup from by decide+kernel) rfl (Or.inl rfl)) (mZ (cJ (i:=1) (show(["k","cell","by","cells","column","pivots","self"]:List Str).Nodup from by decide+kernel) rfl (Or.inl rfl)) Cd)))) (fun _ _ _ _ _=>rY) (fun _ _ _ _ _=>(bH jg (bH op_sub (bH rW (pv 1) (pv 2)) (bH rW (bK (gK K) (pv 3) (pv 4) (fun _ _=>rfl)) (bK (gK K) (pv 5) (pv 0) (fun _ _=>rfl)))) (MN K (pv 6) rfl)))) (aO (ps_asg (pe_un un_neg (bK oJ (pv 1) (pv 3) (fun _ _=>rfl))) (pg_sub (pv 5) (pv 3) set_list)) (bA (cG (pv 5)))))),?_⟩
 refine⟨_,rfl,_,rfl,ya,_,_,_,rfl,rfl,SqL.of hY,dB _ hq,?_⟩
 refine⟨_,rfl,false,xa,_,rfl,SqL.of hX,fun hz=> ?_⟩
 refine nU (K:=K) (b:=false) (a:=xa) (xs:=aR n X) (fun i acc σ H'=>acc=((List.range i).map fun c=>(X c*Y q-X q*Y c)/T.over).map V.int/\Same H H'/\∃o1 o2,σ=[o1,o2,some (.int (Y q)),some (.ref xa),some (.int (q:Int)),some (.ref ya),some (.ref o)]) ⟨rfl,Same.refl _,_,_,rfl⟩ (fun i acc σ H' _ p=>p.2.1.seq (SqL.of hX)) (fun i acc σ H' _ p=> ?_) hz (fun i v t acc σ H' hv p ht=> ?_) (fun acc σ H' p=> ?_)
 ·rw[p.1,aM,aM,wL];exact aU _
 ·obtain⟨rfl,sm,o1,o2,rfl⟩:=p
  have hi:i<=n:=by
   have:=(pL.mp hv).1
   rw[Ed]at this
   omega
  rw[lX _ hi]at hv
  cases hv
  have s1:=aP ht (.tup [.int (i:Int),.int (X i)])
  have s2:=sm.trans s1
  have bi:=(hb i hi).1
  have bq:=(hb q hq).1
  refine⟨t,_,rfl,SqT.of aH,rfl,_,_,rfl,_,_,rfl,rfl,?_⟩
  refine⟨_,rfl,_,rfl,_,_,rfl,rfl,.inl ⟨by omega,by omega⟩,?_⟩
  refine⟨_,rfl,_,rfl,xa,_,_,_,rfl,rfl,SqL.of (s2 _ _ hX),dB _ hq,_,rfl,_,rfl,ya,_,_,_,rfl,rfl,SqL.of (s2 _ _ hY),dB _ hi,_,_,rfl,rfl,.inl ⟨by omega,by omega⟩,_,_,rfl,rfl,?_⟩
  refine⟨_,rfl,o,C,dx,_,_,rfl,s2 _ _ hT.at_,Cc,cH,rfl,_,_,rfl,rfl,⟨ho0,by omega⟩,?_⟩
  exact⟨by rw[wI,cu,cu];rfl,s2,_,_,rfl⟩
 ·intro p1 hp1
  obtain⟨rfl,sm,_⟩:=p
  rw[Ed]
  have s1:=aP hp1 (.lst (aR n fun c=>(X c*Y q-X q*Y c)/T.over))
  have s2:=sm.trans s1
  have h0:H p1=none:=by
   cases e:H p1 with
   |none=>rfl
   |some u=>rw[sm _ _ e]at hp1;cases hp1
  refine⟨_,rfl,_,rfl,xa,_,_,_,rfl,rfl,SqL.of (s2 _ _ hX),dB _ hq,_,rfl,?_⟩
  refine⟨_,rfl,_,rfl,p1,_,_,q,rfl,rfl,aH,?_,?_⟩
  ·have e:ixN (aR n fun c=>(X c*Y q-X q*Y c)/T.over).length (q:Int)=some q:=by
    rw[Ed];unfold ixN
    rw[aA (by omega),aA (by omega)];rfl
   exact e
  ·refine⟨_,rfl,qq p1 _ (fun b u hb=> ?_) h0 ?_⟩
   ·have nb:b≠p1:=fun e=>by rw[e,h0]at hb;cases hb
    rw[cL nb]
    exact s2 _ _ hb
   ·rw[aH]
    have e:=xG (fun c=>(X c*Y q-X q*Y c)/T.over) (-X q) hq
    exact iW (fun l=>some (HO.lst l)) e
theorem Ol{xs:List V}{k:Nat}(hk:k<=xs.length):cutV xs none (some (k:Int))=xs.take k:=by
 unfold cutV
 rw[HT.sIx_nat,HT.sIx_none,Nat.min_eq_left hk,List.drop_zero,Nat.sub_zero]
theorem Gn{xs:List V}{k:Nat}(hk:k<=xs.length):cutV xs (some (k:Int)) none=xs.drop k:=by
 unfold cutV
 rw[HT.sIx_nat,HT.sIx_none,Nat.min_eq_left hk,wem (by rw[List.length_drop];omega)]
theorem _root_.L2.Same.sE{H0 H:Hp}{a:Addr}{u:HO}(s:Same H0 H)(h:H0 a=none):Same H0 (upd H a u):=fun b o hb=>by
 have nb:b≠a:=fun e=>by rw[e,h]at hb;cases hb
 rw[cL nb];exact s _ _ hb
theorem _root_.L2.Same.none{H0 H:Hp}{a:Addr}(s:Same H0 H)(h:H a=none):H0 a=none:=by
 cases e:H0 a with
 |none=>rfl
 |some u=>rw[s _ _ e]at h;cases h
section
variable{C:Addr}{H0 H:Hp}{o dx cl co ro:Addr}{rws:List Addr}{n m:Nat}{T:Sx.Tab}
theorem bV.ocl(h:bV K C H0 H o dx cl co ro rws n m T):o≠cl:=ne_of h.at_ h.cells fun e=>nomatch e
theorem bV.oco(h:bV K C H0 H o dx cl co ro rws n m T):o≠co:=ne_of h.at_ h.cols fun e=>nomatch e
theorem bV.oro(h:bV K C H0 H o dx cl co ro rws n m T):o≠ro:=ne_of h.at_ h.rows fun e=>nomatch e
theorem jC{rws:List Addr}{xs:List Int}(h:0<rws.length)(e:rws.map V.ref=xs.map V.int):False:=by
 cases rws with
 |nil=>exact absurd h (oM 0)
 |cons a r=>
  cases xs with
  |nil=>cases e
  |cons x xs=>injection e with e1 _;cases e1
theorem bV.Xo(h:bV K C H0 H o dx cl co ro rws n m T):cl≠co:=fun e=>by
 have z:=h.cols
 rw[<-e,h.cells]at z
 exact jC (by rw[h.len];omega) (HO.lst.inj (sy z))
theorem bV.Xn(h:bV K C H0 H o dx cl co ro rws n m T):cl≠ro:=fun e=>by
 have z:=h.rows
 rw[<-e,h.cells]at z
 exact jC (by rw[h.len];omega) (HO.lst.inj (sy z))
theorem bV.Xm(h:bV K C H0 H o dx cl co ro rws n m T){r:Nat}{a:Addr}(e:rws[r]? =some a):a≠cl:=fun z=>by
 have y:=h.row r a e
 rw[z,h.cells]at y
 exact jC (by rw[h.len];omega) (HO.lst.inj (sy y))
theorem bV.orow(h:bV K C H0 H o dx cl co ro rws n m T){r:Nat}{a:Addr}(e:rws[r]? =some a):a≠o:=fun z=>by
 have y:=h.row r a e
 rw[z,h.at_]at y
 cases y
theorem bV.Ir(h:bV K C H0 H o dx cl co ro rws n m T){Uj:Addr}{zZ:List Addr}{X:Nat->Nat->Int}(h0:H0 Uj=none)(hc:H Uj=some (.lst (zZ.map V.ref)))(hl:zZ.length=m+1)(hr:∀r a,zZ[r]? =some a->H a=some (.lst (aR n (X r))))(n1:co∉zZ)(n2:ro∉zZ):
  bV K C H0 (upd H o (.ins C dx (putF "cells" (.ref Uj) (flds cl co ro T.over)))) o dx Uj co ro zZ n m {T with cell:=X}:=by
 have k:∀b,b≠o->∀u,H b=some u->(upd H o (.ins C dx (putF "cells" (.ref Uj) (flds cl co ro T.over)))) b=some u:=fun b hb u e=>by rw[cL hb];exact e
 refine⟨h.same.sE h.o0,h.o0,h0,h.Qo,h.Qf,h.ne,n1,n2,aH,k _ (fun e=> ?_) _ hc,hl,fun r a e=>k _ (fun z=> ?_) _ (hr r a e),k _ h.oco.symm _ h.cols,k _ h.oro.symm _ h.rows⟩
 ·rw[e,h.at_]at hc;cases hc
 ·have y:=hr r a e
  rw[z,h.at_]at y
  cases y
theorem bV.Q8(h:bV K C H0 H o dx cl co ro rws n m T){p:Nat}{a:Addr}{X:Nat->Int}(hp:p<=m)(ha:H a=some (.lst (aR n X)))(n1:co≠a)(n2:ro≠a):
  bV K C H0 (upd H cl (.lst ((rws.map V.ref).set p (.ref a)))) o dx cl co ro (rws.set p a) n m {T with cell:=fun r c=>if r=p then X c else T.cell r c}:=by
 have k:∀b,b≠cl->∀u,H b=some u->(upd H cl (.lst ((rws.map V.ref).set p (.ref a)))) b=some u:=fun b hb u e=>by rw[cL hb];exact e
 have hac:a≠cl:=fun z=>by
  rw[z,h.cells]at ha
  exact jC (by rw[h.len];omega) (HO.lst.inj (sy ha))
 refine⟨h.same.sE h.SQ,h.o0,h.SQ,h.Qo,h.Qf,h.ne,fun z=> ?_,fun z=> ?_,k _ h.ocl _ h.at_,by rw[aH,Zn],by rw[List.length_set];exact h.len,fun r b e=> ?_,k _ h.Xo.symm _ h.cols,k _ h.Xn.symm _ h.rows⟩
 ·rcases wdl z with z|z
  ·exact h.nc z
  ·exact n1 z
 ·rcases wdl z with z|z
  ·exact h.nr z
  ·exact n2 z
 ·rw[ZJ]at e
  by_cases c:p=r
  ·rw[aA c,aA (by rw[h.len];omega)]at e
   cases e
   rw[k _ hac _ ha]
   exact iW (fun l=>some (HO.lst l)) (j5 fun c' _=>by show X c'=if r=p then X c' else T.cell r c';rw[aA c.symm])
  ·rw[ao c]at e
   rw[k _ (h.Xm e) _ (h.row r b e)]
   exact iW (fun l=>some (HO.lst l)) (j5 fun c' _=>by show T.cell r c'=if r=p then X c' else T.cell r c';rw[ao (lE c)])
theorem bV.setOver(h:bV K C H0 H o dx cl co ro rws n m T)(v:Int):bV K C H0 (upd H o (.ins C dx (putF "over" (.int v) (flds cl co ro T.over)))) o dx cl co ro rws n m {T with over:=v}:=by
 have k:∀b,b≠o->∀u,H b=some u->(upd H o (.ins C dx (putF "over" (.int v) (flds cl co ro T.over)))) b=some u:=fun b hb u e=>by rw[cL hb];exact e
 exact⟨h.same.sE h.o0,h.o0,h.SQ,h.Qo,h.Qf,h.ne,h.nc,h.nr,aH,k _ h.ocl.symm _ h.cells,h.len,fun r a e=>k _ (h.orow e) _ (h.row r a e),k _ h.oco.symm _ h.cols,k _ h.oro.symm _ h.rows⟩
theorem bV.Mt(h:bV K C H0 H o dx cl co ro rws n m T){p:Nat}(v:Nat)(hp:p<m):bV K C H0 (upd H ro (.lst (((bL m T.row).map V.int).set p (.int (v:Int))))) o dx cl co ro rws n m {T with row:=fun r=>if r=p then v else T.row r}:=by
 have k:∀b,b≠ro->∀u,H b=some u->(upd H ro (.lst (((bL m T.row).map V.int).set p (.int (v:Int))))) b=some u:=fun b hb u e=>by rw[cL hb];exact e
 refine⟨h.same.sE h.Qf,h.o0,h.SQ,h.Qo,h.Qf,h.ne,h.nc,h.nr,k _ h.oro _ h.at_,k _ h.Xn _ h.cells,h.len,fun r a e=>k _ (fun z=>h.nr (z▸uy e)) _ (h.row r a e),k _ h.ne _ h.cols,?_⟩
 rw[aH,<-Zn,tW _ _ hp]
theorem bV.Mu(h:bV K C H0 H o dx cl co ro rws n m T){q:Nat}(v:Nat)(hq:q<n):bV K C H0 (upd H co (.lst (((bL n T.col).map V.int).set q (.int (v:Int))))) o dx cl co ro rws n m {T with col:=fun c=>if c=q then v else T.col c}:=by
 have k:∀b,b≠co->∀u,H b=some u->(upd H co (.lst (((bL n T.col).map V.int).set q (.int (v:Int))))) b=some u:=fun b hb u e=>by rw[cL hb];exact e
 refine⟨h.same.sE h.Qo,h.o0,h.SQ,h.Qo,h.Qf,h.ne,h.nc,h.nr,k _ h.oco _ h.at_,k _ h.Xo _ h.cells,h.len,fun r a e=>k _ (fun z=>h.nc (z▸uy e)) _ (h.row r a e),?_,k _ h.ne.symm _ h.rows⟩
 rw[aH,<-Zn,tW _ _ hq]
end
theorem Jh{n q:Nat}(X:Nat->Int)(v:Int)(h:q<=n):((aR n X).take q++[.int v])++(aR n X).drop (q+1)=aR n fun c=>if c=q then v else X c:=by
 rw[<-xG X v h,List.set_eq_take_append_cons_drop,aA (by rw[Ed];omega),ZM]
 rfl
def PJ(K:W.Frag)(C:Addr):Sp:=fun vs H Q _=>∃(o:Addr) (H0:Hp) (n m p q:Nat) (S:Nat->Nat->Bool) (wt:Nat->Int) (T:Sx.Tab),vs=[.ref o,.int (p:Int),.int (q:Int)]/\jo K C H0 H o n m T/\TG n m S wt T/\p<m/\q<n/\∀H',jo K C H0 H' o n m (Sx.turn T p q)->Q .non H'
theorem uN:FnScope ["self","row","column","pivots","by","name"] ["self","row","column"] (defScope Xz):=fsc
theorem Rq{f f1 C:Addr}{fd d1:FuncData}(F:Fun K "turn" "Tableau.turn" Xz f fd)
  (Cc:Cls K C)(aW:NoAttr K C "cells")(cH:NoAttr K C "over")(aQ:NoAttr K C "columns")(bU:NoAttr K C "rows")(D1:Gq K C "turned" "Tableau.turned" XJ ["self","cells","pivots","column"] f1 d1)(G1:FnOk P w K mg base CX0 1 f1 d1 ["self","cells","pivots","column"] (PN K C)):
  FnOk P w K mg base CX0 2 f fd ["self","row","column"] (PJ K C):=by
 refine F.ok uN (fun vs H Q E h=> ?_) (fun cdv A outer s H vs Q E hr h=> ?_)
 ·obtain⟨o,H0,n,m,p,q,S,wt,T,rfl,_⟩:=h
  rfl
 obtain⟨o,H0,n,m,p,q,S,wt,T,rfl,⟨dx,cl,co,ro,rws,hT⟩,hG,hp,hq,qq⟩:=h
 refine⟨_,(aO (cg (i:=3) uN.nd rfl (Or.inr rfl) (bK oJ (m7 (pv 0) rfl) (pv 1) (fun _ _=>rfl))) (aO (cg (i:=4) uN.nd rfl (Or.inl rfl) (bK oJ (pv 3) (pv 2) (fun _ _=>rfl))) (aO (ps_fld (pv 0) (oK (own:=["cells"]) (caps:=["self","pivots","column"]) (ix:=[0,3,2]) rfl (Ec (m7 (pv 0) rfl)) rfl rfl (.cons rfl rfl (.cons rfl rfl (.cons rfl rfl .nil))) (fun _ _ _ _ _=>(cJ (i:=0) (show(["cells","self","pivots","column"]:List Str).Nodup from by decide+kernel) rfl (Or.inl rfl))) (fun _ _ _ _ _=>rY) (fun _ _ _ _ _=>(pe_meth (pv 1) Cc D1.m G1 hr D1.b .nil pass0 (aj (pv 0) (aj (pv 2) (aj (pv 3) aq)))))) rfl) (aO (ps_asg (bH op_cat (bH op_cat (pe_slice sl_list (pv 3) po_none (po_some (pv 2))) (wD (aj (m7 (pv 0) rfl) aq))) (pe_slice sl_list (pv 3) (po_some (bH pI (pv 2) aL)) po_none)) (pg_sub (m7 (pv 0) rfl) (pv 1) set_list)) (aO (ps_fld (pv 0) (pv 4) rfl) (aO (cg (i:=5) uN.nd rfl (Or.inl rfl) (bK oJ (m7 (pv 0) rfl) (pv 1) (fun _ _=>rfl))) (aO (ps_asg (bK oJ (m7 (pv 0) rfl) (pv 2) (fun _ _=>rfl)) (pg_sub (m7 (pv 0) rfl) (pv 1) set_list)) (bA (ps_asg (pv 5) (pg_sub (m7 (pv 0) rfl) (pv 2) set_list)))))))))),?_⟩
 obtain⟨pa,pe,pi,pr⟩:=hT.Eu (cM hp)
 refine⟨_,rfl,o,C,dx,_,_,rfl,hT.at_,Cc,aW,rfl,_,rfl,cl,_,_,_,rfl,rfl,SqL.of hT.cells,pi,?_⟩
 refine⟨_,rfl,_,rfl,pa,_,_,_,rfl,rfl,SqL.of pr,dB _ (cM hq),?_⟩
 refine⟨_,rfl,o,C,dx,_,_,rfl,hT.at_,Cc,aW,rfl,cl,_,rfl,SqL.of hT.cells,fun hz=> ?_⟩
 refine Gx (xs:=rws.map V.ref) (fun i acc σ H'=>∃as:List Addr,acc=as.map V.ref/\as.length=i/\Same H H'/\(∀r a,as[r]? =some a->H a=none/\H' a=some (.lst (aR n (YH T.over (T.cell r) (T.cell p) q))))/\∃o1,σ=[o1,some (.ref o),some (.ref pa),some (.int (q:Int))]) ⟨[],rfl,rfl,Same.refl _,fun r a e=>(nomatch e),_,rfl⟩ (fun i acc σ H' _ x=> ?_) (fun i acc σ H' _ x=> ?_) hz (fun i v acc σ H' hv x=> ?_) (fun acc σ H' x=> ?_)
 ·obtain⟨_,_,_,sm,_⟩:=x
  exact sm.seq (SqL.of hT.cells)
 ·obtain⟨as,rfl,hl,_⟩:=x
  rw[aM,hl];exact aU _
 ·obtain⟨as,rfl,hl,sm,has,o1,rfl⟩:=x
  rw[dY]at hv
  cases er:rws[i]? with
  |none=>rw[er]at hv;cases hv
  |some ra=>
   rw[er]at hv
   cases hv
   have him:i<=m:=by have:=(pL.mp er).1;rw[hT.len]at this;omega
   refine⟨_,rfl,o,dx,_,rfl,sm _ _ hT.at_,rfl,_,rfl,_,rfl,_,rfl,o,ra,pa,H0,n,m,q,T.cell i,T.cell p,T,rfl,⟨dx,cl,co,ro,rws,hT.sm sm⟩,hG.n10,hG.over,cM hq,sm _ _ (hT.row i ra er),sm _ _ pr,fun c hc=>⟨hG.cell him hc,hG.cell (cM hp) hc⟩,fun r1 H1 s1 h1 e1=> ?_⟩
   refine⟨as++[r1],by rw[cu];rfl,by rw[jU,hl];rfl,sm.trans s1,fun r a e=> ?_,_,rfl⟩
   rw[wci]at e
   by_cases c:r<as.length
   ·rw[aA c]at e
    exact⟨(has r a e).1,s1 _ _ (has r a e).2⟩
   ·rw[ao c]at e
    have Xe:r-as.length=0:=by
     have:=(pL.mp e).1
     have:r-as.length<1:=this
     omega
    rw[Xe]at e
    cases e
    have:r=i:=by omega
    subst this
    exact⟨sm.none h1,e1⟩
 ·intro p1 hp1
  obtain⟨as,rfl,hl,sm,has,_⟩:=x
  rw[aM,hT.len]at hl
  have s1:=aP hp1 (.lst (as.map V.ref))
  have hT1:=hT.sm (sm.trans s1)
  have h10:H0 p1=none:=hT.same.none (sm.none hp1)
  have nas:∀b u,H b=some u->b∉as:=fun b u hb hm=>by
   obtain⟨r,hr1,rfl⟩:=Mf hm
   have:=(has r _ (fX hr1)).1
   rw[hb]at this;cases this
  have hT2:=hT1.Ir (Uj:=p1) (zZ:=as) (X:=fun r=>YH T.over (T.cell r) (T.cell p) q) h10 aH hl (fun r a e=>s1 _ _ (has r a e).2) (nas _ _ hT.cols) (nas _ _ hT.rows)
  refine⟨_,rfl,o,C,dx,_,rfl,hT1.at_,Cc,aW,(by show 4<1000;decide),?_⟩
  have npo:pa≠o:=hT.orow pe
  have pr2:=(sm.trans s1) _ _ pr
  have pr3:(upd (upd H' p1 (.lst (as.map V.ref))) o (.ins C dx (putF "cells" (.ref p1) (flds cl co ro T.over)))) pa=some (.lst (aR n (T.cell p))):=by rw[cL npo];exact pr2
  generalize (upd (upd H' p1 (.lst (as.map V.ref))) o (.ins C dx (putF "cells" (.ref p1) (flds cl co ro T.over))))=H2 at *
  -- the row of the turn
  refine⟨_,rfl,_,rfl,_,rfl,pa,_,rfl,SqL.of pr3,fun l1 hl1=> ?_⟩
  have t1:=aP hl1 (.lst (cutV (aR n (T.cell p)) none (some (q:Int))))
  have f1:(upd H2 l1 (.lst (cutV (aR n (T.cell p)) none (some (q:Int))))) l1=some (.lst (cutV (aR n (T.cell p)) none (some (q:Int)))):=aH
  generalize (upd H2 l1 (.lst (cutV (aR n (T.cell p)) none (some (q:Int)))))=H3 at *
  refine⟨_,rfl,o,C,dx,_,_,rfl,t1 _ _ hT2.at_,Cc,cH,rfl,(by show 1<=sizeLine;decide),fun l2 hl2=> ?_⟩
  have t2:=aP hl2 (.lst [.int T.over])
  have f2:(upd H3 l2 (.lst [.int T.over])) l2=some (.lst [.int T.over]):=aH
  have f1':=t2 _ _ f1
  refine⟨l1,l2,_,_,rfl,rfl,f1',f2,?_,fun l3 hl3=> ?_⟩
  ·have:=cutV_length (aR n (T.cell p)) none (some (q:Int))
   rw[Ed]at this
   have:=hG.n10
   rw[dO];show _+1<=_;omega
  have t3:=aP hl3 (.lst (cutV (aR n (T.cell p)) none (some (q:Int))++[.int T.over]))
  have f3:(upd (upd H3 l2 (.lst [.int T.over])) l3 (.lst (cutV (aR n (T.cell p)) none (some (q:Int))++[.int T.over]))) l3=some (.lst (cutV (aR n (T.cell p)) none (some (q:Int))++[.int T.over])):=aH
  have YJ:=t1.trans (t2.trans t3)
  generalize (upd (upd H3 l2 (.lst [.int T.over])) l3 (.lst (cutV (aR n (T.cell p)) none (some (q:Int))++[.int T.over])))=H5 at *
  refine⟨_,rfl,_,rfl,_,_,rfl,rfl,_,rfl,pa,_,rfl,SqL.of (YJ _ _ pr3),fun l4 hl4=> ?_⟩
  have t4:=aP hl4 (.lst (cutV (aR n (T.cell p)) (some ((q:Int)+1)) none))
  refine⟨l3,l4,_,_,rfl,rfl,t4 _ _ f3,aH,?_,fun l5 hl5=> ?_⟩
  ·have a1:=cutV_length (aR n (T.cell p)) none (some (q:Int))
   have a2:=cutV_length (aR n (T.cell p)) (some ((q:Int)+1)) none
   rw[Ed]at a1 a2
   have:=hG.n10
   rw[jU,dO];show _+1+_<=_;omega
  have t5:=aP hl5 (.lst ((cutV (aR n (T.cell p)) none (some (q:Int))++[.int T.over])++cutV (aR n (T.cell p)) (some ((q:Int)+1)) none))
  have aan:(cutV (aR n (T.cell p)) none (some (q:Int))++[.int T.over])++cutV (aR n (T.cell p)) (some ((q:Int)+1)) none=aR n fun c=>if c=q then T.over else T.cell p c:=by
   rw[Ol (by rw[Ed];omega),show(q:Int)+1=((q+1:Nat):Int)from by omega,Gn (by rw[Ed];omega)]
   exact Jh _ _ (cM hq)
  rw[aan]at t5⊢
  have hT3:=hT2.sm (YJ.trans (t4.trans t5))
  have f5:(upd (upd H5 l4 (.lst (cutV (aR n (T.cell p)) (some ((q:Int)+1)) none))) l5 (.lst (aR n fun c=>if c=q then T.over else T.cell p c))) l5=some (.lst (aR n fun c=>if c=q then T.over else T.cell p c)):=aH
  have g1:co≠l5:=pJ ((YJ.trans t4) _ _ hT2.cols) hl5
  have g2:ro≠l5:=pJ ((YJ.trans t4) _ _ hT2.rows) hl5
  generalize (upd (upd H5 l4 (.lst (cutV (aR n (T.cell p)) (some ((q:Int)+1)) none))) l5 (.lst (aR n fun c=>if c=q then T.over else T.cell p c)))=H6 at *
  have Uc:=hT3.Q8 (p:=p) (cM hp) f5 g1 g2
  refine⟨_,rfl,o,C,dx,_,_,rfl,hT3.at_,Cc,aW,rfl,_,rfl,p1,_,_,p,rfl,rfl,hT3.cells,?_,?_⟩
  ·have e:ixN (as.map V.ref).length (p:Int)=some p:=by
    rw[aM,hl];unfold ixN
    rw[aA (by omega),aA (by omega)];rfl
   exact e
  generalize (upd H6 p1 (.lst ((as.map V.ref).set p (.ref l5))))=H7 at *
  have hT5:=Uc.setOver (T.cell p q)
  refine⟨_,rfl,_,rfl,o,C,dx,_,rfl,Uc.at_,Cc,cH,(by show 4<1000;decide),?_⟩
  generalize (upd H7 o (.ins C dx (putF "over" (.int (T.cell p q)) (flds p1 co ro T.over))))=H8 at *
  refine⟨_,rfl,o,C,dx,_,_,rfl,hT5.at_,Cc,bU,rfl,_,rfl,ro,_,_,_,rfl,rfl,SqL.of hT5.rows,mq _ hp,?_⟩
  refine⟨_,rfl,o,C,dx,_,_,rfl,hT5.at_,Cc,aQ,rfl,_,rfl,co,_,_,_,rfl,rfl,SqL.of hT5.cols,mq _ hq,?_⟩
  have Ub:=hT5.Mt (p:=p) (T.col q) hp
  refine⟨_,rfl,o,C,dx,_,_,rfl,hT5.at_,Cc,bU,rfl,_,rfl,ro,_,_,p,rfl,rfl,hT5.rows,?_,?_⟩
  ·have e:ixN ((bL m T.row).map V.int).length (p:Int)=some p:=by
    rw[aM,Ef];unfold ixN
    rw[aA (by omega),aA (by omega)];rfl
   exact e
  generalize (upd H8 ro (.lst (((bL m T.row).map V.int).set p (.int ((T.col q:Nat):Int)))))=H9 at *
  have yh:=Ub.Mu (q:=q) (T.row p) hq
  refine⟨_,rfl,_,rfl,o,C,dx,_,_,rfl,Ub.at_,Cc,aQ,rfl,_,rfl,co,_,_,q,rfl,rfl,Ub.cols,?_,?_⟩
  ·have e:ixN ((bL n T.col).map V.int).length (q:Int)=some q:=by
    rw[aM,Ef];unfold ixN
    rw[aA (by omega),aA (by omega)];rfl
   exact e
  refine qq _ ⟨dx,p1,co,ro,_,yh.same,yh.o0,yh.SQ,yh.Qo,yh.Qf,yh.ne,yh.nc,yh.nr,yh.at_,yh.cells,yh.len,fun r a e=> ?_,yh.cols,yh.rows⟩
  rw[yh.row r a e]
  refine iW (fun l=>some (HO.lst l)) (j5 fun c _=> ?_)
  show(if r=p then(if c=q then T.over else T.cell p c)else YH T.over (T.cell r) (T.cell p) q c)=_
  rfl
end
section
variable{P:Program}{w:World}{K:W.Frag}{mg:Str->Option Value}{base:Heap}
theorem Jg{n m:Nat}{S:Nat->Nat->Bool}{wt:Nat->Int}{Ts:Nat->Sx.Tab}{ps qs:Nat->Nat}{L p q:Nat}(R:Sx.Run n m S wt Ts ps qs L)(s:Sx.Step n m (Ts L) p q):
  Sx.Run n m S wt (fun t=>if t<=L then Ts t else Sx.turn (Ts L) p q) (fun t=>if t<L then ps t else p) (fun t=>if t<L then qs t else q) (L+1):=by
 refine⟨by rw[aA (cY L)];exact R.first,fun t ht=> ?_,fun t ht=> ?_⟩
 ·by_cases c:t<L
  ·rw[aA (cM c),aA c,aA c];exact R.step t c
  ·have e:t=L:=by omega
   subst e
   rw[aA (aU t),ao c,ao c];exact s
 ·by_cases c:t<L
  ·rw[aA (show t+1<=L from c),aA (cM c),aA c,aA c];exact R.next t c
  ·have e:t=L:=by omega
   subst e
   rw[ao (by omega),aA (aU t),ao c,ao c]
structure Zc(n m:Nat)(S:Nat->Nat->Bool)(wt:Nat->Int):Prop where
 n10:n<=10
 Wh:m<=40
 wb:∀p,p<n->0<=wt p/\wt p<=99
 cov:∀p,p<n->∃k,k<m/\S k p=true
theorem Zc.tg{n m:Nat}{S:Nat->Nat->Bool}{wt:Nat->Int}{T:Sx.Tab}(h:Zc n m S wt)(g:Sx.Good n m S wt T):TG n m S wt T:=⟨g,h.n10,h.Wh,h.wb,h.cov⟩
def NcV(n m:Nat)(T:Sx.Tab)(x:V):Prop:=(x= .non/\∀c,c<n->0<=T.cell m c)\/∃q:Nat,x= .int (q:Int)/\q<n/\T.cell m q<0/\∀c,c<n->T.cell m c<0->T.col q<=T.col c
def K6(K:W.Frag)(C o:Addr)(H0:Hp)(n m:Nat)(S:Nat->Nat->Bool)(wt:Nat->Int)(k:Nat)(σ:St)(H:Hp):Prop:=
 ∃(Ts:Nat->Sx.Tab) (ps qs:Nat->Nat) (L:Nat) (x:V),Sx.Run n m S wt Ts ps qs L/\L+k=2^(n+m)/\jo K C H0 H o n m (Ts L)/\σ=[some (.ref o),some x]/\NcV n m (Ts L) x
def HW(K:W.Frag)(C:Addr):Sp:=fun vs H Q _=>∃(o:Addr) (H0:Hp) (n m:Nat) (S:Nat->Nat->Bool) (wt:Nat->Int) (T:Sx.Tab),vs=[.ref o]/\jo K C H0 H o n m T/\Zc n m S wt/\Sx.Good n m S wt T/\
 ∀T' H',jo K C H0 H' o n m T'->Sx.Good n m S wt T'->(∀c,c<n->0<=T'.cell m c)->Q .non H'
theorem zR:FnScope ["self","column"] ["self"] (defScope XF):=fsc
theorem Ru{f f1 f2 f3 C:Addr}{fd d1 d2 d3:FuncData}(F:Fun K "solve" "Tableau.solve" XF f fd)
  (Cc:Cls K C)(aW:NoAttr K C "cells")(cH:NoAttr K C "over")(aQ:NoAttr K C "columns")(bU:NoAttr K C "rows")(D1:Gq K C "next_column" "Tableau.next_column" Ye ["self"] f1 d1)(G1':FnOk P w K mg base CX0 1 f1 d1 ["self"] (Ia K C))(D2:Gq K C "turn" "Tableau.turn" Xz ["self","row","column"] f2 d2)(G2:FnOk P w K mg base CX0 2 f2 d2 ["self","row","column"] (PJ K C))(D3:Gq K C "next_row" "Tableau.next_row" X7 ["self","column"] f3 d3)(G3:FnOk P w K mg base CX0 2 f3 d3 ["self","column"] (PX K C)):
  FnOk P w K mg base CX0 3 f fd ["self"] (HW K C):=by
 have G1:FnOk P w K mg base CX0 2 f1 d1 ["self"] (Ia K C):=G1'.mono (by decide)
 refine F.ok zR (fun vs H Q E h=> ?_) (fun cdv A outer s H vs Q E hr h=> ?_)
 ·obtain⟨o,H0,n,m,S,wt,T,rfl,_⟩:=h
  rfl
 obtain⟨o,H0,n,m,S,wt,T,rfl,hT,hS,hg,qq⟩:=h
 refine⟨_,(aO (cg (i:=1) zR.nd rfl (Or.inl rfl) (pe_meth0 (pv 0) Cc D1.m G1 hr D1.b .nil pass0)) (bA (ps_while was (jM op_notN (pv 1) pe_non (nomark _)) (aO (lF (pe_meth (pv 0) Cc D2.m G2 hr D2.b .nil pass0 (aj (pe_meth (pv 0) Cc D3.m G3 hr D3.b .nil pass0 (aj (pv 1) aq)) (aj (pv 1) aq)))) (bA (cg (i:=1) zR.nd rfl (Or.inl rfl) (pe_meth0 (pv 0) Cc D1.m G1 hr D1.b .nil pass0))))))),?_⟩
 have key:∀(x:V) (H1:Hp),jo K C H0 H1 o n m T->NcV n m T x->∃k,K6 K C o H0 n m S wt k [some (.ref o),some x] H1:=fun x H1 h1 h2=>
  ⟨2^(n+m),fun _=>T,fun _=>0,fun _=>0,0,x,⟨hg,fun t ht=>absurd ht (QG t),fun t ht=>absurd ht (QG t)⟩,Yq _,h1,rfl,h2⟩
 obtain⟨dx,cl,co,ro,rws,WR⟩:=id hT
 refine⟨_,rfl,o,dx,_,rfl,WR.at_,rfl,o,H0,n,m,S,wt,T,rfl,hT,hS.tg hg,?a,?b⟩
 case' a=>
  intro h H1 s1
  have w0:=key _ _ (hT.sm s1) (.inl ⟨rfl,h⟩)
  refine⟨K6 K C o H0 n m S wt,w0,?_⟩
  clear w0 s1 h
 case' b=>
  intro q H1 hq hn he s1
  have w0:=key _ _ (hT.sm s1) (.inr ⟨q,rfl,hq,hn,he⟩)
  refine⟨K6 K C o H0 n m S wt,w0,?_⟩
  clear w0 s1 he hn hq q
 all_goals
  clear H1
  intro k σ H1 h
  obtain⟨Ts,ps,qs,L,x,R,hk,⟨dx',cl,co,ro,rws,hA⟩,rfl,hx⟩:=h
  have Wx:=R.good L (aU L)
  have hG:=hS.tg Wx
  have hsh:=R.short
  rcases hx with⟨rfl,hx⟩|⟨q,rfl,hq,hn,he⟩
  ·refine⟨_,rfl,rfl,_,rfl,?_⟩
   refine iteF ?_
   exact qq (Ts L) H1 ⟨dx',cl,co,ro,rws,hA⟩ Wx hx
  ·refine⟨_,rfl,rfl,_,rfl,?_⟩
   refine iteT ?_
   refine⟨K6 K C o H0 n m S wt (k-1),fun σ' H' z=>⟨k-1,by omega,z⟩,?_⟩
   refine⟨_,rfl,o,dx',_,rfl,hA.at_,rfl,_,rfl,o,dx',_,rfl,hA.at_,rfl,_,rfl,o,H0,n,m,q,S,wt,Ts L,rfl,⟨dx',cl,co,ro,rws,hA⟩,hG,hq,fun p hp h0 hlev=> ?_⟩
   have st:Sx.Step n m (Ts L) p q:=⟨hp,hq,hn,he,h0,hlev⟩
   refine⟨_,rfl,o,H0,n,m,p,q,S,wt,Ts L,rfl,⟨dx',cl,co,ro,rws,hA⟩,hG,hp,hq,fun H2 hT2=> ?_⟩
   have R2:=Jg R st
   have g2:=st.good Wx
   obtain⟨dx2,cl2,co2,ro2,aav,Y7⟩:=id hT2
   have fin:∀(x:V) (H3:Hp),Same H2 H3->NcV n m (Sx.turn (Ts L) p q) x->K6 K C o H0 n m S wt (k-1) [some (.ref o),some x] H3:=fun x H3 s3 hx=>by
    refine⟨_,_,_,L+1,x,R2,by omega,?_,rfl,?_⟩
    ·rw[ao (by omega)];exact hT2.sm s3
    ·rw[ao (by omega)];exact hx
   exact⟨_,rfl,o,dx2,_,rfl,Y7.at_,rfl,o,H0,n,m,S,wt,_,rfl,hT2,hS.tg g2,fun h H3 s3=>fin _ H3 s3 (.inl ⟨rfl,h⟩),fun q' H3 hq' hn' he' s3=>fin _ H3 s3 (.inr ⟨q',rfl,hq',hn',he'⟩)⟩
def Xv(k:Nat)(i:Int)(r:Nat):Prop:=(i=(r:Int)/\r<=k)\/(i= -1/\r=k)
def wU(K:W.Frag)(C:Addr):Sp:=fun vs H Q _=>∃(o:Addr) (H0:Hp) (n m r c:Nat) (i j:Int) (S:Nat->Nat->Bool) (wt:Nat->Int) (T:Sx.Tab),vs=[.ref o,.int i,.int j]/\jo K C H0 H o n m T/\TG n m S wt T/\Xv m i r/\Xv n j c/\
 ∀p H' u v,Same H H'->H' p=some (.tup [.int u,.int ((v:Nat):Int)])->Low (T.cell r c) T.over.toNat u v->Q (.ref p) H'
theorem Rb:FnScope ["self","row","column"] ["self","row","column"] (defScope Tj):=fsc
theorem Rz{f f1 C:Addr}{fd d1:FuncData}(F:Fun K "fraction_at" "Tableau.fraction_at" Tj f fd)
  (Cc:Cls K C)(aW:NoAttr K C "cells")(cH:NoAttr K C "over")(aQ:NoAttr K C "columns")(bU:NoAttr K C "rows")(D1:bF K mg "lowest" gC ["a","b"] f1 d1)(G1:FnOk P w K mg base CX0 2 f1 d1 ["a","b"] (CQ K)):
  FnOk P w K mg base CX0 3 f fd ["self","row","column"] (wU K C):=by
 refine F.ok Rb (fun vs H Q E h=> ?_) (fun cdv A outer s H vs Q E hr h=> ?_)
 ·obtain⟨o,H0,n,m,r,c,i,j,S,wt,T,rfl,_⟩:=h
  rfl
 obtain⟨o,H0,n,m,r,c,i,j,S,wt,T,rfl,⟨dx,cl,co,ro,rws,hT⟩,hG,hi,hj,qq⟩:=h
 refine⟨_,(bA (cG (pc G1 hr D1 (aj (bK oJ (bK oJ (m7 (pv 0) rfl) (pv 1) (fun _ _=>rfl)) (pv 2) (fun _ _=>rfl)) (aj (m7 (pv 0) rfl) aq))))),?_⟩
 have hri:∃a,atI (rws.map V.ref) i=some (.ref a)/\H a=some (.lst (aR n (T.cell r))):=by
  rcases hi with⟨rfl,h⟩|⟨rfl,rfl⟩
  ·obtain⟨a,_,h1,h2⟩:=hT.Eu h
   exact⟨a,h1,h2⟩
  ·obtain⟨a,_,h1,h2⟩:=hT.VH
   exact⟨a,h1,h2⟩
 have hcj:atI (aR n (T.cell r)) j=some (.int (T.cell r c)):=by
  rcases hj with⟨rfl,h⟩|⟨rfl,rfl⟩
  ·exact dB _ h
  ·exact nF _ _
 obtain⟨a,h1,h2⟩:=hri
 have ho:=hG.over
 refine⟨_,rfl,o,C,dx,_,_,rfl,hT.at_,Cc,aW,rfl,_,rfl,cl,_,_,_,rfl,rfl,SqL.of hT.cells,h1,_,rfl,a,_,_,_,rfl,rfl,SqL.of h2,hcj,?_⟩
 refine⟨_,rfl,o,C,dx,_,_,rfl,hT.at_,Cc,cH,rfl,T.cell r c,T.over.toNat,?_,by omega,dW (show T.over.toNat<=39916800 by omega) (by decide),fun p H' u v s e l=>qq p H' u v s e l⟩
 rw[show((T.over.toNat:Nat):Int)=T.over by omega];rfl
theorem xV{u:Int}{v b:Nat}(hb:0<b)(h:Low 0 1 u v):Low 0 b u v:=by
 have e:=h.eq
 have hu:u=0:=by omega
 subst hu
 have c:=h.cop
 rw[show(0:Int).natAbs=0 from rfl,Nat.gcd_zero_left]at c
 subst c
 exact⟨by decide,rfl,by omega,aU _,hb,fun _=>pK _⟩
def HY(K:W.Frag)(C:Addr):Sp:=fun vs H Q _=>∃(o:Addr) (H0:Hp) (n m a:Nat) (S:Nat->Nat->Bool) (wt:Nat->Int) (T:Sx.Tab),vs=[.ref o,.int (a:Int)]/\jo K C H0 H o n m T/\TG n m S wt T/\
 ∀p H' u v,Same H H'->H' p=some (.tup [.int u,.int ((v:Nat):Int)])->Low (Sx.Xs n m T a) T.over.toNat u v->Q (.ref p) H'
theorem Ra:FnScope ["self","name"] ["self","name"] (defScope X8):=fsc
theorem Rw{f f1 f2 C:Addr}{fd d1 d2:FuncData}(F:Fun K "price_of" "Tableau.price_of" X8 f fd)
  (Cc:Cls K C)(aW:NoAttr K C "cells")(cH:NoAttr K C "over")(aQ:NoAttr K C "columns")(bU:NoAttr K C "rows")(D1:bF K mg "lowest" gC ["a","b"] f1 d1)(G1:FnOk P w K mg base CX0 2 f1 d1 ["a","b"] (CQ K))(D2:Gq K C "fraction_at" "Tableau.fraction_at" Tj ["self","row","column"] f2 d2)(G2:FnOk P w K mg base CX0 3 f2 d2 ["self","row","column"] (wU K C)):
  FnOk P w K mg base CX0 4 f fd ["self","name"] (HY K C):=by
 refine F.ok Ra (fun vs H Q E h=> ?_) (fun cdv A outer s H vs Q E hr h=> ?_)
 ·obtain⟨o,H0,n,m,a,S,wt,T,rfl,_⟩:=h
  rfl
 obtain⟨o,H0,n,m,a,S,wt,T,rfl,⟨dx,cl,co,ro,rws,hT⟩,hG,qq⟩:=h
 refine⟨_,(aO (o8 (jM (nG hr.units) (pv 1) (m7 (pv 0) rfl) (by with_unfolding_all rfl)) (bA (cG (pc G1 hr D1 (aj aL (aj aL aq))))) o9) (bA (cG (pe_meth (pv 0) Cc D2.m G2 hr D2.b .nil pass0 (aj (pe_bm Ln wbx wby nJ (m7 (pv 0) rfl) (aj (pv 1) aq)) (aj (pe_un un_neg aL) aq)))))),?_⟩
 have ho:=hG.over
 refine⟨_,rfl,_,rfl,o,C,dx,_,_,rfl,hT.at_,Cc,bU,rfl,ro,_,_,.int (a:Int),rfl,.inl (SqL.of hT.rows),cB.ints _,.int _,lay_ints _,rfl,(by show 0<=60;decide),_,rfl,?_⟩
 rw[any_ints]
 refine ite2 (fun c=> ?_) (fun c=> ?_)
 ·have c':((a:Nat):Int)∉bL m T.row:=by
   intro hm
   rw[cI hm]at c
   cases c
  refine⟨0,1,rfl,by decide,by decide,fun p H' u v s e l=>qq p H' u v s e ?_⟩
  rw[Sx.Pj fun r hr z=>c' (by
   have:=Ce T.row hr
   rw[z]at this
   exact uy this)]
  exact xV (by omega) l
 ·have c':((a:Nat):Int)∈bL m T.row:=by
   refine T5 fun hm=>c ?_
   rw[iY hm];rfl
  obtain⟨r,hr1,er⟩:=Mf c'
  have hr0:r<m:=by rw[Ef]at hr1;exact hr1
  have e0:=fX hr1
  rw[er]at e0
  have ea:T.row r=a:=by
   rw[Ce _ hr0]at e0
   exact Vd (sy e0)
  subst ea
  refine⟨_,rfl,o,dx,_,rfl,hT.at_,rfl,_,rfl,o,C,dx,_,_,rfl,hT.at_,Cc,bU,rfl,.inl ⟨rfl,_,SqL.of hT.rows⟩,_,rfl,ro,bL m T.row,_,r,rfl,rfl,hT.rows,Ce _ hr0,fun i hi e=> ?_,by rw[Ef];have:=hG.Wh;omega,?_⟩
  ·rw[Ce _ (by omega)]at e
   have:=hG.good.Jk i r (by omega) hr0 (Vd (sy e))
   omega
  ·refine⟨_,rfl,o,H0,n,m,r,n,_,_,S,wt,T,rfl,⟨dx,cl,co,ro,rws,hT⟩,hG,.inl ⟨rfl,cM hr0⟩,.inr ⟨rfl,rfl⟩,fun p H' u v s e l=>qq p H' u v s e ?_⟩
   rw[hG.good.Pn hr0]
   exact l
def HX(K:W.Frag)(C:Addr):Sp:=fun vs H Q _=>∃(o:Addr) (H0:Hp) (n m a:Nat) (S:Nat->Nat->Bool) (wt:Nat->Int) (T:Sx.Tab),vs=[.ref o,.int (a:Int)]/\jo K C H0 H o n m T/\TG n m S wt T/\
 ∀p H' u v,Same H H'->H' p=some (.tup [.int u,.int ((v:Nat):Int)])->Low (Sx.Ys n m T a) T.over.toNat u v->Q (.ref p) H'
theorem Q9:FnScope ["self","name"] ["self","name"] (defScope Yb):=fsc
theorem Rv{f f1 f2 C:Addr}{fd d1 d2:FuncData}(F:Fun K "share_of" "Tableau.share_of" Yb f fd)
  (Cc:Cls K C)(aW:NoAttr K C "cells")(cH:NoAttr K C "over")(aQ:NoAttr K C "columns")(bU:NoAttr K C "rows")(D1:bF K mg "lowest" gC ["a","b"] f1 d1)(G1:FnOk P w K mg base CX0 2 f1 d1 ["a","b"] (CQ K))(D2:Gq K C "fraction_at" "Tableau.fraction_at" Tj ["self","row","column"] f2 d2)(G2:FnOk P w K mg base CX0 3 f2 d2 ["self","row","column"] (wU K C)):
  FnOk P w K mg base CX0 4 f fd ["self","name"] (HX K C):=by
 refine F.ok Q9 (fun vs H Q E h=> ?_) (fun cdv A outer s H vs Q E hr h=> ?_)
 ·obtain⟨o,H0,n,m,a,S,wt,T,rfl,_⟩:=h
  rfl
 obtain⟨o,H0,n,m,a,S,wt,T,rfl,⟨dx,cl,co,ro,rws,hT⟩,hG,qq⟩:=h
 refine⟨_,(aO (o8 (jM (nG hr.units) (pv 1) (m7 (pv 0) rfl) (by with_unfolding_all rfl)) (bA (cG (pc G1 hr D1 (aj aL (aj aL aq))))) o9) (bA (cG (pe_meth (pv 0) Cc D2.m G2 hr D2.b .nil pass0 (aj (pe_un un_neg aL) (aj (pe_bm Ln wbx wby nJ (m7 (pv 0) rfl) (aj (pv 1) aq)) aq)))))),?_⟩
 have ho:=hG.over
 refine⟨_,rfl,_,rfl,o,C,dx,_,_,rfl,hT.at_,Cc,aQ,rfl,co,_,_,.int (a:Int),rfl,.inl (SqL.of hT.cols),cB.ints _,.int _,lay_ints _,rfl,(by show 0<=60;decide),_,rfl,?_⟩
 rw[any_ints]
 refine ite2 (fun c=> ?_) (fun c=> ?_)
 ·have c':((a:Nat):Int)∉bL n T.col:=by
   intro hm
   rw[cI hm]at c
   cases c
  refine⟨0,1,rfl,by decide,by decide,fun p H' u v s e l=>qq p H' u v s e ?_⟩
  rw[Sx.Uy fun r hr z=>c' (by
   have:=Ce T.col hr
   rw[z]at this
   exact uy this)]
  exact xV (by omega) l
 ·have c':((a:Nat):Int)∈bL n T.col:=by
   refine T5 fun hm=>c ?_
   rw[iY hm];rfl
  obtain⟨r,hr1,er⟩:=Mf c'
  have hr0:r<n:=by rw[Ef]at hr1;exact hr1
  have e0:=fX hr1
  rw[er]at e0
  have ea:T.col r=a:=by
   rw[Ce _ hr0]at e0
   exact Vd (sy e0)
  subst ea
  refine⟨_,rfl,o,dx,_,rfl,hT.at_,rfl,_,rfl,_,rfl,o,C,dx,_,_,rfl,hT.at_,Cc,aQ,rfl,.inl ⟨rfl,_,SqL.of hT.cols⟩,_,rfl,co,bL n T.col,_,r,rfl,rfl,hT.cols,Ce _ hr0,fun i hi e=> ?_,by rw[Ef];have:=hG.n10;omega,?_⟩
  ·rw[Ce _ (by omega)]at e
   have:=hG.good.Bj i r (by omega) hr0 (Vd (sy e))
   omega
  ·refine⟨o,H0,n,m,m,r,_,_,S,wt,T,rfl,⟨dx,cl,co,ro,rws,hT⟩,hG,.inr ⟨rfl,rfl⟩,.inl ⟨rfl,cM hr0⟩,fun p H' u v s e l=>qq p H' u v s e ?_⟩
   rw[hG.good.Uz hr0]
   exact l
def cC(L:List (List Int))(k p:Nat):Bool:=decide (((p:Nat):Int)∈L.getD k [])
def m9(wl:List Int)(p:Nat):Int:=wl.getD p 0
theorem Rm{n m r:Nat}{L:List (List Int)}{wt:Nat->Int}(hr:r<m):((List.range n).map fun(p:Nat)=>if decide (((p:Nat):Int)∈L.getD r [])=true then(1:Int)else 0).map V.int++[.int 1]=aR n ((Sx.start n m (cC L) wt).cell r):=by
 unfold aR
 rw[wI,cu,cu]
 congr 1
 ·refine iW _ (Ma fun c hc=> ?_)
  have hc':=m8.mp hc
  show _=if r=m then _ else if c=n then(1:Int)else if cC L r c=true then 1 else 0
  rw[ao (show¬r=m by omega),ao (show¬c=n by omega)]
  rfl
 ·show[V.int 1]=[V.int (if r=m then _ else if n=n then(1:Int)else _)]
  rw[ao (by omega),aA rfl]
theorem MJ{m:Nat}{L:List (List Int)}{wl:List Int}:(wl.map fun x=> -x).map V.int++[.int 0]=aR wl.length ((Sx.start wl.length m (cC L) (m9 wl)).cell m):=by
 unfold aR
 rw[wI,cu,cu]
 congr 1
 ·refine iW _ (YB fun i=> ?_)
  rw[dY,dY]
  by_cases hi:i<wl.length
  ·rw[fX hi,U3 hi]
   show some (-wl[i])=some (if m=m then(if i=wl.length then(0:Int)else -(wl.getD i 0))else _)
   rw[aA rfl,ao (by omega),pN,fX hi]
   rfl
  ·rw[Tv (by omega),Tv (by rw[wL];omega)];rfl
 ·show[V.int 0]=[V.int (if m=m then(if wl.length=wl.length then(0:Int)else _)else _)]
  rw[aA rfl,aA rfl]
theorem _root_.L2.SqT.aac{H:Hp}{a o C dx:Addr}{fs:List (Str×V)}{u:HO}{xs:List V}(hO:H o=some (.ins C dx fs))(h:SqT K H a xs):SqT K (upd H o u) a xs:=by
 rcases h with(h|⟨ob,h⟩)|h
 ·exact .inl (.inl (by rw[cL (ne_of h hO fun e=>nomatch e)];exact h))
 ·exact .inl (.inr ⟨ob,by rw[cL (ne_of h hO fun e=>nomatch e)];exact h⟩)
 ·exact .inr h
def zJ(K:W.Frag)(C:Addr):Sp:=fun vs H Q _=>∃(o dx sl wa:Addr) (H0:Hp) (its:List (Addr×List Int)) (wl:List Int),vs=[.ref o,.ref sl,.ref wa]/\H o=some (.ins C dx [])/\Same H0 H/\H0 o=none/\H sl=some (.lst (its.map fun p=>V.ref p.1))/\(∀p∈its,SqT K H p.1 (p.2.map V.int))/\SqT K H wa (wl.map V.int)/\wl.length<=10/\its.length<=40/\
 ∀H',jo K C H0 H' o wl.length its.length (Sx.start wl.length its.length (cC (its.map (·.2))) (m9 wl))->Q .non H'
theorem Dd:FnScope ["self","sets","wants","n"] ["self","sets","wants"] (defScope Xy):=fsc
theorem Nf{f C:Addr}{fd:FuncData}(F:Fun K "__init__" "Tableau.__init__" Xy f fd)
  (Cc:Cls K C)(aW:NoAttr K C "cells")(cH:NoAttr K C "over")(aQ:NoAttr K C "columns")(bU:NoAttr K C "rows")(cU:mg "len"=none)(aJ:mg "range"=none)(vq:mg "list"=none):
  FnOk P w K mg base CX0 1 f fd ["self","sets","wants"] (zJ K C):=by
 refine F.ok Dd (fun vs H Q E h=> ?_) (fun cdv A outer s H vs Q E hr h=> ?_)
 ·obtain⟨o,dx,sl,wa,H0,its,wl,rfl,_⟩:=h
  rfl
 obtain⟨o,dx,sl,wa,H0,its,wl,rfl,hO,hS0,h0,hS,hP,hW,hn,hm,qq⟩:=h
 refine⟨_,(aO (cg (i:=3) Dd.nd rfl (Or.inr rfl) (gQ yX rfl cU wk (aj (pv 2) aq))) (aO (ps_fld (pv 0) (oK (own:=["some"]) (caps:=["n"]) (ix:=[3]) rfl (Ec (pv 1)) rfl rfl (.cons rfl rfl .nil) (fun _ _ _ _ _=>(cJ (i:=0) (show(["some","n"]:List Str).Nodup from by decide+kernel) rfl (Or.inr rfl))) (fun _ _ _ _ _=>rY) (fun _ _ _ _ _=>(bH op_cat (oK (own:=["place"]) (caps:=["some"]) (ix:=[0]) rfl (zp rfl aJ (aj (pv 1) aq)) rfl rfl (.cons rfl rfl .nil) (fun _ _ _ _ _=>(cJ (i:=0) (show(["place","some"]:List Str).Nodup from by decide+kernel) rfl (Or.inl rfl))) (fun _ _ _ _ _=>rY) (fun _ _ _ _ _=>(pe_ifExp (jM (p7 K hr.units) (pv 0) (pv 1) (by with_unfolding_all rfl)) aL aL))) (wD (aj aL aq))))) rfl) (aO (lF (pe_bm Ln wdu wdv mt_append (m7 (pv 0) rfl) (aj (bH op_cat (oK (own:=["want"]) (caps:=[]) (ix:=[]) rfl (fV (pv 2)) rfl rfl .nil (fun _ _ _ _ _=>(cJ (i:=0) (show(["want"]:List Str).Nodup from by decide+kernel) rfl (Or.inl rfl))) (fun _ _ _ _ _=>rY) (fun _ _ _ _ _=>(pe_un un_neg (pv 0)))) (wD (aj aL aq))) aq))) (aO (ps_fld (pv 0) aL rfl) (aO (ps_fld (pv 0) (oU rfl rfl vq rfl aJ (aj (pv 3) aq)) rfl) (bA (ps_fld (pv 0) (uY rfl rfl vq rfl aJ (aj (pv 3) (aj (bH pI (pv 3) (gQ yX rfl cU wk (aj (pv 1) aq))) aq))) rfl))))))),?_⟩
 refine⟨_,rfl,wa,_,rfl,.inr hW,fun _=> ?_⟩
 rw[aM]
 refine⟨_,rfl,sl,_,rfl,SqL.of hS,fun hz=> ?_⟩
 refine Gx (xs:=its.map fun p=>V.ref p.1) (fun i acc σ H'=>∃as:List Addr,acc=as.map V.ref/\as.length=i/\Same H H'/\(∀r a,as[r]? =some a->H' a=some (.lst (aR wl.length ((Sx.start wl.length its.length (cC (its.map (·.2))) (m9 wl)).cell r))))/\∃o1,σ=[o1,some (.int (wl.length:Int))]) ⟨[],rfl,rfl,Same.refl _,fun r a e=>(nomatch e),_,rfl⟩ (fun i acc σ H' _ x=> ?_) (fun i acc σ H' _ x=> ?_) hz (fun i v acc σ H1 hv x=> ?_) (fun acc σ H1 x=> ?_)
 ·obtain⟨_,_,_,sm,_⟩:=x
  exact sm.seq (SqL.of hS)
 ·obtain⟨as,rfl,hl,_⟩:=x
  rw[aM,hl];exact aU _
 ·obtain⟨as,rfl,hl,sm,has,o1,rfl⟩:=x
  rw[dY]at hv
  cases ev:its[i]? with
  |none=>rw[ev]at hv;cases hv
  |some it=>
   rw[ev]at hv
   cases hv
   have him:i<its.length:=(pL.mp ev).1
   have hit:=hP it (uy ev)
   have eg:(its.map (·.2)).getD i []=it.2:=by rw[pN,dY,ev];rfl
   refine⟨_,rfl,_,rfl,by omega,by omega,?_⟩
   refine Lg (n:=wl.length) (fun c acc σ H'=>acc=((List.range c).map fun(p:Nat)=>if decide (((p:Nat):Int)∈it.2)=true then(1:Int)else 0).map V.int/\H'=H1/\∃o2,σ=[o2,some (.ref it.1)]) ⟨rfl,rfl,_,rfl⟩ (fun c acc σ H' hc y=> ?_) (by rw[dO];omega) (fun c acc σ H' hc y=> ?_) (fun acc σ H' y=> ?_)
   ·rw[y.1,aM,aM,wL];exact aU _
   ·obtain⟨rfl,rfl,o2,rfl⟩:=y
    refine⟨_,rfl,_,rfl,it.1,_,_,.int (0+(c:Int)),rfl,.inr (sm.tup hit),cB.ints _,.int _,lay_ints _,rfl,(by show 0<=60;decide),_,rfl,?_⟩
    rw[any_ints,Vb]
    refine ite2 (fun z=> ?_) (fun z=> ?_)
    ·exact⟨by rw[wI,cu,cu];show _=_++[V.int (if _ then _ else _)];rw[aA z],rfl,_,rfl⟩
    ·exact⟨by rw[wI,cu,cu];show _=_++[V.int (if _ then _ else _)];rw[ao z],rfl,_,rfl⟩
   ·intro p1 hp1
    obtain⟨rfl,rfl,_⟩:=y
    have s1:=aP hp1 (.lst (((List.range wl.length).map fun(p:Nat)=>if decide (((p:Nat):Int)∈it.2)=true then(1:Int)else 0).map V.int))
    refine⟨(by show 1<=sizeLine;decide),fun p2 hp2=> ?_⟩
    have s2:=aP hp2 (.lst [.int 1])
    refine⟨p1,p2,_,_,rfl,rfl,s2 _ _ aH,aH,(by rw[aM,aM,wL,dO];show _+1<=_;omega),fun p3 hp3=> ?_⟩
    have s3:=aP hp3 (.lst (((List.range wl.length).map fun(p:Nat)=>if decide (((p:Nat):Int)∈it.2)=true then(1:Int)else 0).map V.int++[.int 1]))
    have xq:=s1.trans (s2.trans s3)
    refine⟨as++[p3],by rw[cu];rfl,by rw[jU,hl];rfl,sm.trans xq,fun r a e=> ?_,_,rfl⟩
    rw[wci]at e
    by_cases c:r<as.length
    ·rw[aA c]at e
     exact xq _ _ (has r a e)
    ·rw[ao c]at e
     have Xe:r-as.length=0:=by
      have:=(pL.mp e).1
      have:r-as.length<1:=this
      omega
     rw[Xe]at e
     cases e
     have:r=i:=by omega
     subst this
     rw[aH,<-Rm (wt:=m9 wl) him,eg]
 ·intro p1 hp1
  obtain⟨as,rfl,hl,sm,has,_⟩:=x
  rw[aM]at hl
  have s1:=aP hp1 (.lst (as.map V.ref))
  have hO1:=(sm.trans s1) _ _ hO
  refine⟨_,rfl,o,C,dx,_,rfl,hO1,Cc,aW,(by show 0<1000;decide),?_⟩
  -- what lies beside the object
  have np:p1≠o:=(pJ (sm _ _ hO) hp1).symm
  have h10:H p1=none:=sm.none hp1
  have K1:∀r a,as[r]? =some a->a≠o/\a≠p1:=fun r a e=>⟨fun z=>(by have y:=has r a e;rw[z,sm _ _ hO]at y;cases y),fun z=>(by have y:=has r a e;rw[z,hp1]at y;cases y)⟩
  have W2:SqT K (upd (upd H1 p1 (.lst (as.map V.ref))) o (.ins C dx (putF "cells" (.ref p1) []))) wa (wl.map V.int):=((sm.trans s1).tup hW).aac hO1
  have S2:(upd (upd H1 p1 (.lst (as.map V.ref))) o (.ins C dx (putF "cells" (.ref p1) []))) sl=some (.lst (its.map fun p=>V.ref p.1)):=by
   rw[cL (ne_of ((sm.trans s1) _ _ hS) hO1 fun e=>nomatch e)];exact(sm.trans s1) _ _ hS
  have A2:∀r a,as[r]? =some a->(upd (upd H1 p1 (.lst (as.map V.ref))) o (.ins C dx (putF "cells" (.ref p1) []))) a=some (.lst (aR wl.length ((Sx.start wl.length its.length (cC (its.map (·.2))) (m9 wl)).cell r))):=fun r a e=>by
   rw[cL (K1 r a e).1];exact s1 _ _ (has r a e)
  have P2:(upd (upd H1 p1 (.lst (as.map V.ref))) o (.ins C dx (putF "cells" (.ref p1) []))) p1=some (.lst (as.map V.ref)):=by rw[cL np,aH]
  have O2:(upd (upd H1 p1 (.lst (as.map V.ref))) o (.ins C dx (putF "cells" (.ref p1) []))) o=some (.ins C dx [("cells",.ref p1)]):=aH
  have Z2:Same H0 (upd (upd H1 p1 (.lst (as.map V.ref))) o (.ins C dx (putF "cells" (.ref p1) []))):=Same.sE (hS0.trans (sm.trans s1)) h0
  generalize (upd (upd H1 p1 (.lst (as.map V.ref))) o (.ins C dx (putF "cells" (.ref p1) [])))=H2 at *
  refine⟨_,rfl,o,C,dx,_,_,rfl,O2,Cc,aW,rfl,.inl ⟨rfl,_,SqL.of P2⟩,_,rfl,wa,_,rfl,W2,fun hz2=> ?_⟩
  refine dM (xs:=wl.map V.int) (fun i acc σ H'=>acc=((wl.take i).map fun x=> -x).map V.int/\H'=H2/\∃o2,σ=[o2]) ⟨rfl,rfl,_,rfl⟩ (fun i acc σ H' _ y=>by rw[y.2.1];exact W2) (fun i acc σ H' _ y=> ?_) hz2 (fun i v acc σ H' hv y=> ?_) (fun acc σ H' y=> ?_)
  ·rw[y.1,aM,aM,Lk];exact O9 _ _
  ·obtain⟨rfl,rfl,o2,rfl⟩:=y
   rw[dY]at hv
   cases ev:wl[i]? with
   |none=>rw[ev]at hv;cases hv
   |some x=>
    rw[ev]at hv
    cases hv
    exact⟨_,rfl,_,rfl,by rw[GJ,ev,cu,cu];rfl,rfl,_,rfl⟩
  intro p2 hp2
  obtain⟨rfl,rfl,_⟩:=y
  rw[aM,yZ]
  have s2:=aP hp2 (.lst ((wl.map fun x=> -x).map V.int))
  refine⟨(by show 1<=sizeLine;decide),fun p3 hp3=> ?_⟩
  have s3:=aP hp3 (.lst [.int 0])
  refine⟨p2,p3,_,_,rfl,rfl,s3 _ _ aH,aH,(by rw[aM,aM,dO];show _+1<=_;omega),fun p4 Ws=> ?_⟩
  have s4:=aP Ws (.lst ((wl.map fun x=> -x).map V.int++[.int 0]))
  have T9:=s2.trans (s3.trans s4)
  rw[MJ (m:=its.length) (L:=its.map (·.2))]at T9 s4⊢
  have e4:(upd (upd (upd H' p2 (.lst ((wl.map fun x=> -x).map V.int))) p3 (.lst [.int 0])) p4 (.lst (aR wl.length ((Sx.start wl.length its.length (cC (its.map (·.2))) (m9 wl)).cell its.length)))) p4=some (.lst (aR wl.length ((Sx.start wl.length its.length (cC (its.map (·.2))) (m9 wl)).cell its.length))):=aH
  have n4:p4≠p1:=(pJ (s3 _ _ (s2 _ _ P2)) Ws).symm
  have n4o:p4≠o:=(pJ (s3 _ _ (s2 _ _ O2)) Ws).symm
  have P3:=T9 _ _ P2
  have O3:=T9 _ _ O2
  have S3:=T9 _ _ S2
  have Z3:=Z2.trans T9
  have A3:∀r a,as[r]? =some a->_:=fun r a e=>T9 _ _ (A2 r a e)
  generalize (upd (upd (upd H' p2 (.lst ((wl.map fun x=> -x).map V.int))) p3 (.lst [.int 0])) p4 (.lst (aR wl.length ((Sx.start wl.length its.length (cC (its.map (·.2))) (m9 wl)).cell its.length))))=H3 at *
  refine⟨p1,_,_,rfl,rfl,P3,(by rw[aM,dO];omega),?_⟩
  -- all rows
  have h1n:H0 p1=none:=hS0.none h10
  have nos:o≠p1:=np.symm
  have nsl:sl≠p1:=(pJ hS h10)
  have C4:(upd H3 p1 (.lst (as.map V.ref++[.ref p4]))) p1=some (.lst ((as++[p4]).map V.ref)):=by rw[aH,cu];rfl
  have O4:(upd H3 p1 (.lst (as.map V.ref++[.ref p4]))) o=some (.ins C dx [("cells",.ref p1)]):=by rw[cL nos];exact O3
  have S4:(upd H3 p1 (.lst (as.map V.ref++[.ref p4]))) sl=some (.lst (its.map fun p=>V.ref p.1)):=by rw[cL nsl];exact S3
  have Z4:Same H0 (upd H3 p1 (.lst (as.map V.ref++[.ref p4]))):=Same.sE Z3 h1n
  have R4:∀r a,(as++[p4])[r]? =some a->(upd H3 p1 (.lst (as.map V.ref++[.ref p4]))) a=some (.lst (aR wl.length ((Sx.start wl.length its.length (cC (its.map (·.2))) (m9 wl)).cell r)))/\a≠o:=fun r a e=>by
   rw[wci]at e
   by_cases c:r<as.length
   ·rw[aA c]at e
    refine⟨?_,(K1 r a e).1⟩
    rw[cL (K1 r a e).2];exact A3 r a e
   ·rw[ao c]at e
    have Xe:r-as.length=0:=by
     have:=(pL.mp e).1
     have:r-as.length<1:=this
     omega
    rw[Xe]at e
    cases e
    have:r=its.length:=by omega
    subst this
    refine⟨?_,n4o⟩
    rw[cL n4];exact e4
  generalize (upd H3 p1 (.lst (as.map V.ref++[.ref p4])))=H4 at *
  refine⟨_,rfl,o,C,dx,_,rfl,O4,Cc,cH,(by show 1<1000;decide),?_⟩
  have O5:(upd H4 o (.ins C dx (putF "over" (.int 1) [("cells",.ref p1)]))) o=some (.ins C dx [("cells",.ref p1),("over",.int 1)]):=aH
  have k5:∀b u,b≠o->H4 b=some u->(upd H4 o (.ins C dx (putF "over" (.int 1) [("cells",.ref p1)]))) b=some u:=fun b u hb e=>by rw[cL hb];exact e
  have nso:sl≠o:=ne_of S4 O4 fun e=>nomatch e
  have C5:=k5 _ _ np C4
  have S5:=k5 _ _ nso S4
  have Z5:Same H0 (upd H4 o (.ins C dx (putF "over" (.int 1) [("cells",.ref p1)]))):=Same.sE Z4 h0
  have R5:∀r a,(as++[p4])[r]? =some a->_:=fun r a e=>k5 _ _ (R4 r a e).2 (R4 r a e).1
  generalize (upd H4 o (.ins C dx (putF "over" (.int 1) [("cells",.ref p1)])))=H5 at *
  refine⟨_,rfl,(wl.length:Int),rfl,by omega,by omega,fun co hco=> ?_⟩
  have s6:=aP hco (.lst (dR (wl.length:Int).toNat))
  have O6:=s6 _ _ O5
  refine⟨_,rfl,o,C,dx,_,rfl,O6,Cc,aQ,(by show 2<1000;decide),?_⟩
  have nco:co≠o:=(pJ O5 hco).symm
  have k7:∀b u,b≠o->(upd H5 co (.lst (dR (wl.length:Int).toNat))) b=some u->(upd (upd H5 co (.lst (dR (wl.length:Int).toNat))) o (.ins C dx (putF "columns" (.ref co) [("cells",.ref p1),("over",.int 1)]))) b=some u:=fun b u hb e=>by rw[cL hb];exact e
  have O7:(upd (upd H5 co (.lst (dR (wl.length:Int).toNat))) o (.ins C dx (putF "columns" (.ref co) [("cells",.ref p1),("over",.int 1)]))) o=some (.ins C dx [("cells",.ref p1),("over",.int 1),("columns",.ref co)]):=aH
  have C7:=k7 _ _ np (s6 _ _ C5)
  have S7:=k7 _ _ nso (s6 _ _ S5)
  have L7:=k7 _ _ nco aH
  have R7:∀r a,(as++[p4])[r]? =some a->_:=fun r a e=>k7 _ _ (R4 r a e).2 (s6 _ _ (R5 r a e))
  have Z7:Same H0 (upd (upd H5 co (.lst (dR (wl.length:Int).toNat))) o (.ins C dx (putF "columns" (.ref co) [("cells",.ref p1),("over",.int 1)]))):=Same.sE (Z5.trans s6) h0
  have c0:H0 co=none:=Z5.none hco
  have ncr:co∉as++[p4]:=fun hm=>by
   obtain⟨r,hr1,e⟩:=Mf hm
   have:=R5 r _ (fX hr1)
   rw[e,hco]at this;cases this
  generalize (upd (upd H5 co (.lst (dR (wl.length:Int).toNat))) o (.ins C dx (putF "columns" (.ref co) [("cells",.ref p1),("over",.int 1)])))=H7 at *
  refine⟨_,rfl,_,rfl,_,rfl,sl,_,rfl,.inl (SqL.of S7),fun _=>⟨_,_,rfl,rfl,_,_,rfl,by omega,?_,?_,fun ro Wq=> ?_⟩⟩
  ·rw[aM];omega
  ·rw[aM];omega
  rw[aM]
  have s8:=aP Wq (.lst ((lY (wl.length:Int) ((wl.length:Int)+(its.length:Int)-(wl.length:Int)).toNat).map V.int))
  have O8:=s8 _ _ O7
  refine⟨_,rfl,o,C,dx,_,rfl,O8,Cc,bU,(by show 3<1000;decide),?_⟩
  have nro:ro≠o:=(pJ O7 Wq).symm
  have k9:∀b u,b≠o->(upd H7 ro (.lst ((lY (wl.length:Int) ((wl.length:Int)+(its.length:Int)-(wl.length:Int)).toNat).map V.int))) b=some u->(upd (upd H7 ro (.lst ((lY (wl.length:Int) ((wl.length:Int)+(its.length:Int)-(wl.length:Int)).toNat).map V.int))) o (.ins C dx (putF "rows" (.ref ro) [("cells",.ref p1),("over",.int 1),("columns",.ref co)]))) b=some u:=fun b u hb e=>by rw[cL hb];exact e
  refine qq _ ⟨dx,p1,co,ro,as++[p4],Same.sE (Z7.trans s8) h0,h0,h1n,c0,Z7.none Wq,pJ L7 Wq,ncr,fun hm=> ?_,aH,k9 _ _ np (s8 _ _ C7),by rw[jU,hl];rfl,fun r a e=>k9 _ _ (R4 r a e).2 (s8 _ _ (R7 r a e)),?_,?_⟩
  ·obtain⟨r,hr1,e⟩:=Mf hm
   have:=R7 r _ (fX hr1)
   rw[e,Wq]at this;cases this
  ·rw[k9 _ _ nco (s8 _ _ L7)]
   congr 2
   unfold dR bL
   rw[zq,show(wl.length:Int).toNat=wl.length by omega]
   rfl
  ·rw[k9 _ _ nro aH]
   congr 2
   unfold lY bL
   rw[show((wl.length:Int)+(its.length:Int)-(wl.length:Int)).toNat=its.length by omega]
   refine iW _ (Ma fun k _=> ?_)
   show(wl.length:Int)+(k:Int)=((wl.length+k:Nat):Int)
   omega
end
def aB(a:Int)(b:Nat):Int×Nat:=(a/((Nat.gcd a.natAbs b:Nat):Int),b/Nat.gcd a.natAbs b)
theorem wG(a:Int){b:Nat}(hb:0<b):Low a b (aB a b).1 (aB a b).2:=Ax a b hb
theorem J0{a:Int}{b:Nat}{u u':Int}{v v':Nat}(hb:0<b)(h:Low a b u v)(h':Low a b u' v'):u=u'/\v=v':=by
 have e1:=h.eq
 have e2:=h'.eq
 have bi:(0:Int)<(b:Int):=by omega
 have cr:u*(v':Int)=u'*(v:Int):=by
  refine Zj (a:=(b:Int)) (by omega) ?_
  have x:(b:Int)*(u*(v':Int))=u*(b:Int)*(v':Int):=by grind
  have y:(b:Int)*(u'*(v:Int))=u'*(b:Int)*(v:Int):=by grind
  rw[x,y,e1,e2];grind
 have cn:u.natAbs*v'=u'.natAbs*v:=by
  have:=iW Int.natAbs cr
  rwa [QC,QC,QK,QK]at this
 have d1:v∣v':=by
  have:v∣u.natAbs*v':=by rw[cn];exact LQ _ _
  exact(T3 h.cop).dvd_of_dvd_mul_left this
 have d2:v'∣v:=by
  have:v'∣u'.natAbs*v:=by rw[<-cn];exact LQ _ _
  exact(T3 h'.cop).dvd_of_dvd_mul_left this
 have ev:=Zz d1 d2
 subst ev
 refine⟨?_,rfl⟩
 have hv:=h.pos
 exact Mg (a:=(v:Int)) (by omega) cr
theorem nO{a:Int}{b:Nat}{u:Int}{v:Nat}(hb:0<b)(h:Low a b u v):(u,v)=aB a b:=by
 obtain⟨e1,e2⟩:=J0 hb h (wG a hb)
 rw[e1,e2]
theorem qN{x y:Int}(h:0<x*y)(hy:0<y):0<x:=by
 refine Int.not_le.mp fun hn=> ?_
 have:=pq (a:= -x) (b:=y) (by omega) (by omega)
 grind
theorem xW{a:Int}{b:Nat}(hb:0<b):0<(aB a b).1↔0<a:=by
 have l:=wG a hb
 have e:=l.eq
 have hv:(0:Int)<((aB a b).2:Int):=by have:=l.pos;omega
 have bi:(0:Int)<(b:Int):=by omega
 constructor
 ·intro h
  have:0<(aB a b).1*(b:Int):=OJ h bi
  rw[e]at this
  exact qN this hv
 ·intro h
  have:0<a*((aB a b).2:Int):=OJ h hv
  rw[<-e]at this
  exact qN this bi
structure Sh(n:Nat)(L:List (List Int))(wl:List Int)(ov:Nat)(Z:Int)(Y X:Nat->Int):Prop where
 pos:0<ov
 big:ov<=39916800
 yn:∀k,0<=Y k
 xn:∀p,0<=X p
 tot:Sx.sm L.length Y=Z
 eno:∀p,p<n->(ov:Int)*m9 wl p<=Sx.sm L.length fun k=>if cC L k p=true then Y k else 0
 lig:∀k,k<L.length->(Sx.sm n fun p=>if cC L k p=true then X p else 0)<=(ov:Int)
 wor:(Sx.sm n fun p=>m9 wl p*X p)=Z
theorem Vz{n:Nat}{L:List (List Int)}{wl:List Int}{T:Sx.Tab}(hg:TG n L.length (cC L) (m9 wl) T)(hz:∀c,c<n->0<=T.cell L.length c):
  Sh n L wl T.over.toNat (T.cell L.length n) (fun k=>Sx.Ys n L.length T (n+k)) (fun p=>Sx.Xs n L.length T p):=by
 have ho:=hg.over
 have eo:((T.over.toNat:Nat):Int)=T.over:=by omega
 refine⟨by omega,by omega,fun k=>Sx.Oz hz _,fun p=>hg.good.Pk _,hg.good.total,fun p hp=> ?_,fun k hk=> ?_,hg.good.prices⟩
 ·rw[eo,hg.good.enough hp]
  have:=Sx.Oz hz p
  omega
 ·rw[eo];exact hg.good.light hk
theorem SM{ts:List (Int×Int)}{n:Nat}{ss:List (List Int)}(h:bD ss ts false n){p:Nat}(hp:p<n):∃k,k<ss.length/\cC ss k p=true:=by
 have sk:mQ ts false n [(p:Int)]:=⟨wbw _ _,fun x hx=>by rw[oN.mp hx];omega,fun x hx y hy hn=>absurd ((oN.mp hx).trans (oN.mp hy).symm) hn⟩
 obtain⟨t,ht,hx⟩:=yF sk
 have ht':=h.1.mem_iff.mpr ht
 obtain⟨k,hk,rfl⟩:=Mf ht'
 refine⟨k,hk,?_⟩
 unfold cC
 rw[pN,fX hk]
 exact cI (hx _ jV)
theorem zM{ts:List (Int×Int)}{n:Nat}{ss:List (List Int)}(h:bD ss ts false n)(hn:n<=10):ss.length<=36:=by rw[h.1.length_eq];exact tY hn
def Wi(ss:List (List Int))(ov:Nat)(Y:Nat->Int):List (List Int×(Int×Nat)):=((List.range ss.length).filter fun k=>decide (0<Y k)).map fun k=>(ss.getD k [],aB (Y k) ov)
def VR(n ov:Nat)(X:Nat->Int):List (Int×Nat):=(List.range n).map fun p=>aB (X p) ov
section
variable{K:W.Frag}
def m6(K:W.Frag)(H:Hp)(a:Addr)(f:Int×Nat):Prop:=SqT K H a [.int f.1,.int ((f.2:Nat):Int)]
def Ou(K:W.Frag)(H:Hp)(v:V)(q:List Int×(Int×Nat)):Prop:=∃t sa fa,v= .ref t/\SqT K H t [.ref sa,.ref fa]/\SqT K H sa (q.1.map V.int)/\m6 K H fa q.2
def sU(K:W.Frag)(H:Hp):List V->List (List Int×(Int×Nat))->Prop:=Paired (Ou K H)
def vY(K:W.Frag)(H:Hp):List V->List (Int×Nat)->Prop:=Paired fun v f=>∃a,v= .ref a/\m6 K H a f
theorem Ou.same{H H':Hp}{v:V}{q:List Int×(Int×Nat)}(h:Ou K H v q)(s:Same H H'):Ou K H' v q:=by
 obtain⟨t,sa,fa,e,h1,h2,h3⟩:=h
 exact⟨t,sa,fa,e,s.tup h1,s.tup h2,s.tup h3⟩
theorem sU.same{H H':Hp}{vs:List V}{l:List (List Int×(Int×Nat))}(h:sU K H vs l)(s:Same H H'):sU K H' vs l:=Paired.mapP h fun _ _ z=>z.same s
theorem vY.same{H H':Hp}{vs:List V}{l:List (Int×Nat)}(h:vY K H vs l)(s:Same H H'):vY K H' vs l:=Paired.mapP h fun _ _ ⟨a,e,z⟩=>⟨a,e,s.tup z⟩
theorem Paired.snoc{α β:Type}{R:α->β->Prop}:∀{l:List α} {m:List β} {a:α} {b:β},Paired R l m->R a b->Paired R (l++[a]) (m++[b])
 |_,_,_,_,.nil,h=> .cons h .nil
 |_,_,_,_,.cons r t,h=> .cons r (Paired.snoc t h)
theorem Paired.at_{α β:Type}{R:α->β->Prop}:∀{l:List α} {m:List β} {i:Nat} {a:α},Paired R l m->l[i]? =some a->∃b,m[i]? =some b/\R a b
 |_,_,_,_,.nil,e=>by simp at e
 |_,_,0,_,.cons r _,e=>by simp at e;subst e;exact⟨_,rfl,r⟩
 |_,_,i+1,a,.cons _ t,e=>by
  obtain⟨b,h1,h2⟩:=Paired.at_ (i:=i) (a:=a) t (by simpa using e)
  exact⟨b,by simpa using h1,h2⟩
theorem Paired.Ay{α β:Type}{R:α->β->Prop}:∀{l:List α} {m:List β},Paired R l m->l.length=m.length
 |_,_,.nil=>rfl
 |_,_,.cons _ t=>by simp[Paired.Ay t]
end
section
variable{P:Program}{w:World}{K:W.Frag}{mg:Str->Option Value}{base:Heap}
def K5(n:Int)(wl:List Int):Prop:=(wl.length:Int)=n/\∀x∈wl,0<=x/\x<=99
theorem all_true(k:Nat):(List.replicate k true).all id=true:=by
 rw[jT]
 intro b hb
 rw[(List.mem_replicate.mp hb).2];rfl
def oO(K:W.Frag):Sp:=fun vs H Q _=>∃(a wa:Addr) (n:Int) (t:V) (wl:List Int),vs=[.ref a,.ref wa]/\SqT K H a [.int n,t]/\SqT K H wa (wl.map V.int)/\K5 n wl/\∀H',Same H H'->Q .non H'
theorem uP:FnScope ["web","thing"] ["web","thing"] (defScope dZ):=fsc
theorem uZ{f f1:Addr}{fd d1:FuncData}{tk0:Tok}(F:Fun K "need_wants" "need_wants" dZ f fd)(D1:bF K mg "is_whole" Qw ["thing"] f1 d1)(G1:FnOk P w K mg base CX0 1 f1 d1 ["thing"] (lH K))(cU:mg "len"=none)(vA:mg "isinstance"=none)(cT:mg "tuple"=none)(Wg:mg "all"=none)(xU:mg "MOST_WANT"=some (.int 99 tk0)):
  FnOk P w K mg base CX0 2 f fd ["web","thing"] (oO K):=by
 refine F.ok uP (fun vs H Q E h=> ?_) (fun cdv A outer s H vs Q E hr h=> ?_)
 ·obtain⟨a,wa,n,t,wl,rfl,_⟩:=h
  rfl
 obtain⟨a,wa,n,t,wl,rfl,hA,hW,⟨hl,hb⟩,qq⟩:=h
 refine⟨_,(aO (o8 (PW.pt (pw_or (pt_not (pt_val (gQ gM rfl vA (by decide+kernel) (aj (pv 1) (aj (pe_bltn rfl cT (v:= .ty "tuple") (by decide+kernel) rfl) aq))))) (pw_or1 (jM op_ne (gQ yX rfl cU wk (aj (pv 1) aq)) (bK fH (pv 0) aL (fun _ _=>rfl)) (nomark _))))) pss_never o9) (bA (o8 (pt_not (pt_val (gQ (mK rfl) rfl Wg (by decide+kernel) (aj (oK (own:=["want"]) (caps:=[]) (ix:=[]) rfl (fV (pv 1)) rfl rfl .nil (fun _ _ _ _ _=>(cJ (i:=0) (show(["want"]:List Str).Nodup from by decide+kernel) rfl (Or.inl rfl))) (fun _ _ _ _ _=>rY) (fun _ _ _ _ _=>(pe_and (pc G1 hr D1 (aj (pv 0) aq)) (pe_one (pe_chain op_le op_le aL (pv 0) (pe_glob rfl xU (v:= .int 99) ⟨_,rfl⟩)))))) aq)))) pss_never o9))),?_⟩
 refine⟨_,rfl,.ref wa,"tuple",_,rfl,.inl ⟨rfl,_,hW⟩,.inr (.inr (.inl rfl)),_,rfl,?_⟩
 refine iteF ?_
 refine⟨_,rfl,wa,_,rfl,.inr hW,fun hz=>⟨_,rfl,a,_,_,.int n,rfl,rfl,hA,rfl,rfl,_,rfl,?_⟩⟩
 have e1:(!decide (V.int (((wl.map V.int).length:Nat):Int)=V.int n))=false:=by rw[aM,hl];simp
 rw[e1]
 refine iteF ?_
 refine⟨_,rfl,wa,_,rfl,hW,fun hz=> ?_⟩
 refine dM (xs:=wl.map V.int) (fun i acc σ H'=>acc=(List.replicate i true).map V.bl/\H'=H/\∃o,σ=[o]) ⟨rfl,rfl,_,rfl⟩ (fun i acc σ H' _ p=>by rw[p.2.1];exact hW) (fun i acc σ H' _ p=>by rw[p.1,aM,wcg];exact aU _) hz (fun i x acc σ H' hx p=> ?_) (fun acc σ H' p=> ?_)
 ·obtain⟨rfl,rfl,o,rfl⟩:=p
  rw[dY]at hx
  cases ex:wl[i]? with
  |none=>rw[ex]at hx;cases hx
  |some y=>
   rw[ex]at hx
   cases hx
   have hy:=hb y (uy ex)
   refine⟨_,rfl,.int y,.int y,rfl,.int _,_,rfl,iteT ?_⟩
   refine⟨_,rfl,_,_,rfl,rfl,_,rfl,?_⟩
   rw[cI hy.1]
   refine iteT ?_
   refine⟨_,_,rfl,rfl,?_,rfl,_,rfl⟩
   show _++[V.bl (decide (y<=99))]=_
   rw[cI hy.2,List.replicate_succ',cu];rfl
 ·intro p1 hp1
  obtain⟨rfl,rfl,_⟩:=p
  refine⟨p1,_,rfl,SqL.of aH,_,rfl,?_⟩
  rw[all_true]
  exact iteF (qq _ (aP hp1 _))
def wV(K:W.Frag):Sp:=fun vs H Q _=>∃(a wa:Addr) (n:Int) (ts:List (Int×Int)) (wl:List Int),vs=[.ref a,.ref wa]/\bJ K H a n ts/\SqT K H wa (wl.map V.int)/\K5 n wl/\
 ∀(r va la pa:Addr) (lrefs Jq:List V) (ss:List (List Int)) (ov:Nat) (Z:Int) (Y X:Nat->Int) H',Same H H'->H' r=some (.tup [.ref va,.ref la,.ref pa])->m6 K H' va (aB Z ov)->H' la=some (.lst lrefs)->sU K H' lrefs (Wi ss ov Y)->H' pa=some (.lst Jq)->vY K H' Jq (VR n.toNat ov X)->
  bD ss ts false n.toNat->Sh n.toNat ss wl ov Z Y X->H la=none->H pa=none->la≠pa->Q (.ref r) H'
theorem cW:FnScope ["web","wants","n","sets","tableau","given","laying","prices"] ["web","wants"] (defScope lR):=fsc
theorem Fp{f f1 f2 f3 f4 f5 f6 f7 f8 C:Addr}{fd d1 d2 d3 d4 d5 d6 d7 d8:FuncData}(F:Fun K "shares" "shares" lR f fd)
  (Cc:Cls K C)(aW:NoAttr K C "cells")(cH:NoAttr K C "over")(aQ:NoAttr K C "columns")(bU:NoAttr K C "rows")(nM:mg "Tableau"=some (.ref C))(D1:bF K mg "need_web" Gy ["thing"] f1 d1)(G1:FnOk P w K mg base CX0 7 f1 d1 ["thing"] (bQ K))(D2:bF K mg "need_wants" dZ ["web","thing"] f2 d2)(G2:FnOk P w K mg base CX0 2 f2 d2 ["web","thing"] (oO K))(D3:bF K mg "full_apart" Ur ["web"] f3 d3)(G3:FnOk P w K mg base CX0 8 f3 d3 ["web"] (jc K))(D4:Gq K C "__init__" "Tableau.__init__" Xy ["self","sets","wants"] f4 d4)(Mk4:Mk K C f4)(aat:FnOk P w K mg base CX0 1 f4 d4 ["self","sets","wants"] (zJ K C))(D5:Gq K C "solve" "Tableau.solve" XF ["self"] f5 d5)(G5':FnOk P w K mg base CX0 3 f5 d5 ["self"] (HW K C))(D6:Gq K C "share_of" "Tableau.share_of" Yb ["self","name"] f6 d6)(G6':FnOk P w K mg base CX0 4 f6 d6 ["self","name"] (HX K C))(D7:Gq K C "price_of" "Tableau.price_of" X8 ["self","name"] f7 d7)(G7':FnOk P w K mg base CX0 4 f7 d7 ["self","name"] (HY K C))(D8:Gq K C "fraction_at" "Tableau.fraction_at" Tj ["self","row","column"] f8 d8)(G8':FnOk P w K mg base CX0 3 f8 d8 ["self","row","column"] (wU K C))(dJ:mg "enumerate"=none)(aJ:mg "range"=none):
  FnOk P w K mg base CX0 9 f fd ["web","wants"] (wV K):=by
 have G4m:FnOk P w K mg base CX0 7 f4 d4 ["self","sets","wants"] (zJ K C):=aat.mono (by decide)
 have G5:FnOk P w K mg base CX0 8 f5 d5 ["self"] (HW K C):=G5'.mono (by decide)
 have G6:FnOk P w K mg base CX0 8 f6 d6 ["self","name"] (HX K C):=G6'.mono (by decide)
 have G7:FnOk P w K mg base CX0 8 f7 d7 ["self","name"] (HY K C):=G7'.mono (by decide)
 have G8:FnOk P w K mg base CX0 8 f8 d8 ["self","row","column"] (wU K C):=G8'.mono (by decide)
 refine F.ok cW (fun vs H Q E h=> ?_) (fun cdv A outer s H vs Q E hr h=> ?_)
 ·obtain⟨a,wa,n,ts,wl,rfl,_⟩:=h
  rfl
 obtain⟨a,wa,n,ts,wl,rfl,hA,hW,hwl,qq⟩:=h
 refine⟨_,(aO (lF (pc G1 hr D1 (aj (pv 0) aq))) (aO (lF (pc G2 hr D2 (aj (pv 0) (aj (pv 1) aq)))) (aO (cg (i:=2) cW.nd rfl (Or.inr rfl) (bK fH (pv 0) aL (fun _ _=>rfl))) (aO (cg (i:=3) cW.nd rfl (Or.inl rfl) (pc G3 hr D3 (aj (pv 0) aq))) (aO (cg (i:=4) cW.nd rfl (Or.inr rfl) (pe_make Mk4 G4m hr rfl nM D4.b .nil pass0 (aj (pv 3) (aj (pv 1) aq)))) (aO (lF (pe_meth0 (pv 4) Cc D5.m G5 hr D5.b .nil pass0)) (aO (Qy (i:=5) (own:=["k","some"]) (caps:=["tableau","n"]) (ix:=[4,2]) cW.nd rfl (Or.inl rfl) rfl (qO rfl dJ (aj (pv 3) aq)) rfl rfl (.cons rfl rfl (.cons rfl rfl .nil)) (fun _ _ _ _ _=>(dD K (n:=2) rfl (mZ (cJ (i:=0) (show(["k","some","tableau","n"]:List Str).Nodup from by decide+kernel) rfl (Or.inl rfl)) (mZ (cJ (i:=1) (show(["k","some","tableau","n"]:List Str).Nodup from by decide+kernel) rfl (Or.inl rfl)) Cd)))) (fun _ _ _ _ _=>rY) (fun _ _ _ _ _=>(gP (aj (pv 1) (aj (pe_meth (pv 2) Cc D6.m G6 hr D6.b .nil pass0 (aj (bH pI (pv 3) (pv 0)) aq)) aq))))) (aO (Qy (i:=6) (own:=["share"]) (caps:=[]) (ix:=[]) cW.nd rfl (Or.inl rfl) rfl (Ec (pv 5)) rfl rfl .nil (fun _ _ _ _ _=>(cJ (i:=0) (show(["share"]:List Str).Nodup from by decide+kernel) rfl (Or.inl rfl))) (fun _ _ _ _ _=>Gu (jM op_gt (bK (iG K) (bK (iG K) (pv 0) aL (fun _ _=>rfl)) aL (fun _ _=>rfl)) aL (nomark _))) (fun _ _ _ _ _=>(pv 0))) (aO (Qy (i:=7) (own:=["place"]) (caps:=["tableau"]) (ix:=[4]) cW.nd rfl (Or.inl rfl) rfl (zp rfl aJ (aj (pv 2) aq)) rfl rfl (.cons rfl rfl .nil) (fun _ _ _ _ _=>(cJ (i:=0) (show(["place","tableau"]:List Str).Nodup from by decide+kernel) rfl (Or.inl rfl))) (fun _ _ _ _ _=>rY) (fun _ _ _ _ _=>(pe_meth (pv 1) Cc D7.m G7 hr D7.b .nil pass0 (aj (pv 0) aq)))) (bA (cG (gP (aj (pe_meth (pv 4) Cc D8.m G8 hr D8.b .nil pass0 (aj (pe_un un_neg aL) (aj (pe_un un_neg aL) aq))) (aj (pv 6) (aj (pv 7) aq))))))))))))))),?_⟩
 have h0:=hA.h0
 have h10:=hA.h1
 refine⟨_,rfl,.ref a,_,rfl,hA.web.dv.dx,hA.ok,fun H1 s1=> ?_⟩
 obtain⟨tt1,rr1,w1,w2,w3⟩:=id (hA.same s1).web
 refine⟨_,rfl,_,rfl,a,wa,n,_,wl,rfl,w1,s1.tup hW,hwl,fun H2 s2=> ?_⟩
 have s12:=s1.trans s2
 have Y7:=hA.same s12
 obtain⟨tt2,rr2,x1,x2,x3⟩:=id Y7.web
 refine⟨_,rfl,a,_,_,.int n,rfl,rfl,x1,rfl,?_⟩
 refine⟨_,rfl,a,n,ts,rfl,Y7,fun sl ss H3 s3 aal yj hsl=> ?_⟩
 obtain⟨its,hS,hP,hss⟩:=aal
 have xq:=s12.trans s3
 have hm:its.length=ss.length:=by rw[<-hss,aM]
 have aax:=zM yj (by omega)
 have hwn:wl.length=n.toNat:=by have:=hwl.1;omega
 refine⟨_,rfl,_,rfl,fun o dx ho hdx hne=> ?_⟩
 have sM:Same H3 (upd (upd H3 dx (.own o)) o (.ins C dx [])):=(aP hdx _).trans (aP (by rw[cL (lE hne)];exact ho) _)
 refine⟨o,dx,sl,wa,H3,its,wl,rfl,aH,sM,ho,sM _ _ hS,fun p hp=>sM.tup (hP p hp),sM.tup (xq.tup hW),by omega,by omega,fun H4 Uc=>⟨rfl,?_⟩⟩
 rw[hss,hm,hwn]at Uc
 have WL:Zc n.toNat ss.length (cC ss) (m9 wl):=by
  refine⟨by omega,by omega,fun p hp=> ?_,fun p hp=>SM yj hp⟩
  unfold m9
  rw[pN,fX (by omega)]
  exact hwl.2 _ (Cj _)
 obtain⟨dx4,cl4,co4,ro4,rw4,hA4⟩:=id Uc
 refine⟨_,rfl,o,dx4,_,rfl,hA4.at_,rfl,o,H3,n.toNat,ss.length,cC ss,m9 wl,_,rfl,Uc,WL,Sx.zH,fun T H5 hT5 hg5 hz5=> ?_⟩
 have hG:=WL.tg hg5
 have hSh:=Vz hG hz5
 obtain⟨dx5,cl5,co5,ro5,rw5,WQ⟩:=id hT5
 have Je:=WQ.same
 have YW:=hSh.pos
 generalize hY:(fun k=>Sx.Ys n.toNat ss.length T (n.toNat+k))=Y at *
 generalize hX:(fun p=>Sx.Xs n.toNat ss.length T p)=X at *
 -- given
 refine⟨_,rfl,false,sl,_,rfl,SqL.of (Je _ _ hS),fun hz=> ?_⟩
 refine nU (K:=K) (b:=false) (a:=sl) (xs:=its.map fun p=>V.ref p.1) (fun i acc σ H'=>sU K H' acc ((List.range i).map fun k=>(ss.getD k [],aB (Y k) T.over.toNat))/\Same H5 H'/\∃o1 o2,σ=[o1,o2,some (.ref o),some (.int n)]) ⟨.nil,Same.refl _,_,_,rfl⟩ (fun i acc σ H' _ p=>p.2.1.seq (SqL.of (Je _ _ hS))) (fun i acc σ H' _ p=> ?_) hz (fun i v t acc σ H' hv p ht=> ?_) (fun acc σ H' p=> ?_)
 ·rw[Paired.Ay p.1,aM,wL];exact aU _
 ·obtain⟨hl,sm,o1,o2,rfl⟩:=p
  rw[dY]at hv
  cases ev:its[i]? with
  |none=>rw[ev]at hv;cases hv
  |some it=>
   rw[ev]at hv
   cases hv
   have eg:ss.getD i []=it.2:=by rw[<-hss,pN,dY,ev];rfl
   have t1:=aP ht (.tup [.int (i:Int),.ref it.1])
   have Ub:=hT5.sm (sm.trans t1)
   obtain⟨dx6,cl6,co6,ro6,rw6,hA6⟩:=id Ub
   refine⟨t,_,rfl,SqT.of aH,rfl,_,_,rfl,_,_,rfl,rfl,?_⟩
   refine⟨_,rfl,_,rfl,o,dx6,_,rfl,hA6.at_,rfl,_,rfl,_,rfl,_,_,rfl,rfl,o,H3,n.toNat,ss.length,n.toNat+i,cC ss,m9 wl,T,?_,Ub,hG,fun fa H7 u v' s7 e7 l7=> ?_⟩
   ·rw[show(((n.toNat+i:Nat)):Int)=n+(i:Int) by omega];rfl
   ·refine⟨(by show 2<=sizeLine;decide),fun tp htp=> ?_⟩
    have s8:=aP htp (.tup [.ref it.1,.ref fa])
    have s68:=t1.trans (s7.trans s8)
    have hlow:(u,v')=aB (Y i) T.over.toNat:=by rw[<-hY];exact nO YW l7
    refine⟨?_,sm.trans s68,_,_,rfl⟩
    rw[wI,cu]
    refine Paired.snoc (sU.same hl s68) ⟨tp,it.1,fa,rfl,SqT.of aH,?_,?_⟩
    ·show SqT K _ it.1 ((ss.getD i []).map V.int)
     rw[eg]
     exact(Je.trans (sm.trans s68)).tup (hP it (uy ev))
    ·show m6 K _ fa (aB (Y i) T.over.toNat)
     rw[<-hlow]
     exact s8.tup (SqT.of e7)
 intro gl hgl
 obtain⟨hl,sm5,_⟩:=p
 rw[aM,hm]at hl
 have g1:=aP hgl (.lst acc)
 have s6:=sm5.trans g1
 have eg1:(upd H' gl (.lst acc)) gl=some (.lst acc):=aH
 have hl6:=sU.same hl g1
 generalize (upd H' gl (.lst acc))=H6 at *
 -- laying
 refine⟨_,rfl,gl,_,rfl,SqL.of eg1,fun hz=> ?_⟩
 refine Gx (xs:=acc) (fun i acc' σ H'=>H'=H6/\sU K H6 acc' (((List.range i).filter fun k=>decide (0<Y k)).map fun k=>(ss.getD k [],aB (Y k) T.over.toNat))/\∃o1,σ=[o1]) ⟨rfl,.nil,_,rfl⟩ (fun i acc' σ H' _ p=>by rw[p.1];exact SqL.of eg1) (fun i acc' σ H' _ p=> ?_) hz (fun i v acc' σ H' hv p=> ?_) (fun acc' σ H' p=> ?_)
 ·rw[Paired.Ay p.2.1,aM]
  exact dW (Cm _ _) (by rw[wL];exact aU _)
 ·obtain⟨rfl,hl',o1,rfl⟩:=p
  obtain⟨qv,eq1,hv1⟩:=Paired.at_ hl6 hv
  have hi:i<ss.length:=by
   have:=(pL.mp hv).1
   rw[Paired.Ay hl6,aM,wL]at this
   exact this
  rw[dY,U3 hi]at eq1
  have eq2:qv=(ss.getD i [],aB (Y i) T.over.toNat):=(sy eq1).symm
  obtain⟨t,sa,fa,rfl,h1,h2,h3⟩:=id hv1
  have h3':m6 K H' fa (aB (Y i) T.over.toNat):=by rw[eq2]at h3;exact h3
  refine⟨_,rfl,t,_,_,.ref fa,rfl,rfl,h1,rfl,fa,_,_,.int (aB (Y i) T.over.toNat).1,rfl,rfl,h3',rfl,_,_,rfl,rfl,_,rfl,?_⟩
  have go:((List.range (i+1)).filter fun k=>decide (0<Y k))=((List.range i).filter fun k=>decide (0<Y k))++(if decide (0<Y i)=true then[i]else[]):=by
   rw[wI,LR]
   congr 1
   rw[GD]
   split<;>rfl
  have ed:decide (0<(aB (Y i) T.over.toNat).1)=decide (0<Y i):=decide_eq_decide.mpr (xW YW)
  refine ite2 (fun c=> ?_) (fun c=> ?_)
  ·have c':decide (0<Y i)=true:=by rw[<-ed];exact c
   refine⟨_,rfl,rfl,?_,_,rfl⟩
   rw[go,aA c',cu]
   refine Paired.snoc hl' ?_
   rw[eq2]at hv1
   exact hv1
  ·have c':¬decide (0<Y i)=true:=by rw[<-ed];exact c
   refine⟨rfl,?_,_,rfl⟩
   rw[go,ao c',Ci]
   exact hl'
 intro la hla
 obtain⟨rfl,hlay,_⟩:=p
 rw[Paired.Ay hl6,aM,wL]at hlay
 have g2:=aP hla (.lst acc')
 have s7:=s6.trans g2
 have ela:(upd H' la (.lst acc')) la=some (.lst acc'):=aH
 have Wu:=sU.same hlay g2
 have yh:=hT5.sm s7
 generalize (upd H' la (.lst acc'))=H7 at *
 -- prices
 refine⟨_,rfl,n,rfl,by omega,by omega,?_⟩
 refine Lg (n:=n.toNat) (fun i iU σ H2=>vY K H2 iU ((List.range i).map fun p=>aB (X p) T.over.toNat)/\Same H7 H2/\∃o1,σ=[o1,some (.ref o)]) ⟨.nil,Same.refl _,_,rfl⟩ (fun i iU σ H2 hi p=> ?_) (by rw[dO];omega) (fun i iU σ H2 hi p=> ?_) (fun iU σ H2 p=> ?_)
 ·rw[Paired.Ay p.1,aM,wL];exact aU _
 ·obtain⟨hf,sm,o1,rfl⟩:=p
  have hT8:=yh.sm sm
  obtain⟨dx8,cl8,co8,ro8,rw8,R6⟩:=id hT8
  refine⟨_,rfl,o,dx8,_,rfl,R6.at_,rfl,_,rfl,o,H3,n.toNat,ss.length,i,cC ss,m9 wl,T,by rw[Vb];rfl,hT8,hG,fun fa H9 u v' s9 e9 l9=> ?_⟩
  have hlow:(u,v')=aB (X i) T.over.toNat:=by rw[<-hX];exact nO YW l9
  refine⟨?_,sm.trans s9,_,rfl⟩
  rw[wI,cu]
  refine Paired.snoc (vY.same hf s9) ⟨fa,rfl,?_⟩
  show m6 K H9 fa (aB (X i) T.over.toNat)
  rw[<-hlow]
  exact SqT.of e9
 intro pa hpa
 obtain⟨hf,sm7,_⟩:=p
 have g3:=aP hpa (.lst iU)
 have s8:=sm7.trans g3
 have epa:(upd H2 pa (.lst iU)) pa=some (.lst iU):=aH
 have hf8:=vY.same hf g3
 have hT8:=yh.sm s8
 have nlp:la≠pa:=pJ (sm7 _ _ ela) hpa
 generalize (upd H2 pa (.lst iU))=H8 at *
 obtain⟨dx8,cl8,co8,ro8,rw8,R6⟩:=id hT8
 refine⟨_,rfl,o,dx8,_,rfl,R6.at_,rfl,_,rfl,_,rfl,o,H3,n.toNat,ss.length,ss.length,n.toNat,_,_,cC ss,m9 wl,T,rfl,hT8,hG,.inr ⟨rfl,rfl⟩,.inr ⟨rfl,rfl⟩,fun va H9 u v' s9 e9 l9=> ?_⟩
 refine⟨_,rfl,_,rfl,(by show 3<=sizeLine;decide),fun r hr'=> ?_⟩
 have Mx:=aP hr' (.tup [.ref va,.ref la,.ref pa])
 have Jd:=s9.trans Mx
 have hlow:(u,v')=aB (T.cell ss.length n.toNat) T.over.toNat:=nO YW l9
 refine qq r va la pa acc' iU ss T.over.toNat (T.cell ss.length n.toNat) Y X _ (xq.trans (Je.trans (s7.trans (s8.trans Jd)))) aH ?_ ((s8.trans Jd) _ _ ela) (sU.same Wu (s8.trans Jd)) (Jd _ _ epa) (vY.same hf8 Jd) yj hSh ?_ ?_ nlp
 ·rw[<-hlow];exact Mx.tup (SqT.of e9)
 ·exact(xq.trans (Je.trans s6)).none hla
 ·exact(xq.trans (Je.trans (s7.trans sm7))).none hpa
def qR(n:Nat):List Int:=List.replicate n 1
def uH(K:W.Frag):Sp:=fun vs H Q _=>∃(a:Addr) (n:Int) (ts:List (Int×Int)),vs=[.ref a]/\bJ K H a n ts/\
 ∀(va:Addr) (ss:List (List Int)) (ov:Nat) (Z:Int) (Y X:Nat->Int) H',Same H H'->m6 K H' va (aB Z ov)->bD ss ts false n.toNat->Sh n.toNat ss (qR n.toNat) ov Z Y X->Q (.ref va) H'
theorem Iw:FnScope ["web"] ["web"] (defScope lQ):=fsc
theorem JD{f f1 f2:Addr}{fd d1 d2:FuncData}(F:Fun K "value" "value" lQ f fd)(D1:bF K mg "need_web" Gy ["thing"] f1 d1)(G1:FnOk P w K mg base CX0 7 f1 d1 ["thing"] (bQ K))(D2:bF K mg "shares" lR ["web","wants"] f2 d2)(G2:FnOk P w K mg base CX0 9 f2 d2 ["web","wants"] (wV K)):
  FnOk P w K mg base CX0 10 f fd ["web"] (uH K):=by
 refine F.ok Iw (fun vs H Q E h=> ?_) (fun cdv A outer s H vs Q E hr h=> ?_)
 ·obtain⟨a,n,ts,rfl,_⟩:=h
  rfl
 obtain⟨a,n,ts,rfl,hA,qq⟩:=h
 refine⟨_,(aO (lF (pc G1 hr D1 (aj (pv 0) aq))) (bA (cG (bK fH (pc G2 hr D2 (aj (pv 0) (aj (bH M5 (gP (aj aL aq)) (bK fH (pv 0) aL (fun _ _=>rfl))) aq))) aL (fun _ _=>rfl))))),?_⟩
 have h0:=hA.h0
 have h10:=hA.h1
 refine⟨_,rfl,.ref a,_,rfl,hA.web.dv.dx,hA.ok,fun H1 s1=> ?_⟩
 obtain⟨tt1,rr1,w1,w2,w3⟩:=id (hA.same s1).web
 refine⟨_,rfl,(by show 1<=sizeLine;decide),fun p1 hp1=> ?_⟩
 have s2:=aP hp1 (.tup [.int 1])
 refine⟨_,rfl,a,_,_,.int n,rfl,rfl,s2.tup w1,rfl,p1,n,_,rfl,rfl,SqT.of aH,(fun e=>nomatch e),by omega,by omega,?_,fun wa H3 s3 h3=> ?_⟩
 ·show 1*n.toNat<=1000
  omega
 have ew:(List.replicate n.toNat [V.int 1]).flatten=(qR n.toNat).map V.int:=by
  unfold qR
  generalize n.toNat=k
  induction k with
  |zero=>rfl
  |succ k ih=>rw[QL,UL,ih,QL];rfl
 rw[ew]at h3
 have xq:=s1.trans (s2.trans s3)
 refine⟨a,wa,n,ts,qR n.toNat,rfl,hA.same xq,h3,⟨by unfold qR;rw[wcg];omega,fun x hx=> ?_⟩,fun r va la pa lrefs Jq ss ov Z Y X H4 s4 e1 e2 e3 e4 e5 e6 yj hSh _ _ _=> ?_⟩
 ·rw[(List.mem_replicate.mp hx).2];decide
 exact⟨r,_,_,.ref va,rfl,rfl,SqT.of e1,rfl,qq va ss ov Z Y X H4 (xq.trans s4) e2 yj hSh⟩
def oY(D:Nat):List (Int×Nat)->Int
 |[]=>0
 |f::fs=>f.1*((D/f.2:Nat):Int)+oY D fs
theorem DK(D:Nat):∀(l m:List (Int×Nat)),oY D (l++m)=oY D l+oY D m
 |[],m=>by simp[oY]
 |f::l,m=>by simp[oY,DK D l m,Int.add_assoc]
theorem Od(D:Nat)(f:Int×Nat):oY D [f]=f.1*((D/f.2:Nat):Int):=by simp[oY]
structure Ze(D:Nat)(fs:List (Int×Nat)):Prop where
 pos:0<D
 le:D<=10000000000000000
 all:∀f∈fs,0<=f.1/\0<f.2/\f.2∣D
theorem J3{a:Int}{D:Nat}(hD:0<D):(aB a D).2∣D:=⟨Nat.gcd a.natAbs D,(Nat.div_mul_cancel (ZK _ _)).symm⟩
theorem J2{a:Int}{D:Nat}(hD:0<D):(aB a D).1*((D/(aB a D).2:Nat):Int)=a:=by
 have l:=wG a hD
 have e:=l.eq
 have hv:=l.pos
 obtain⟨c,hc⟩:=J3 (a:=a) hD
 generalize (aB a D).1=u at *
 generalize (aB a D).2=v at *
 have:D/v=c:=by rw[hc];exact Yi _ hv
 rw[this]
 rw[hc]at e
 push_cast at e
 refine Mg (a:=(v:Int)) (by omega) ?_
 grind
theorem J1{D v:Nat}{S a t u':Int}{bl v':Nat}(hD:0<D)(h:Low S D t bl)(hv:0<v)(dv:v∣D)(h2:Low (t*(v:Int)+a*(bl:Int)) (bl*v) u' v'):(u',v')=aB (S+a*((D/v:Nat):Int)) D:=by
 have e1:=h.eq
 have e2:=h2.eq
 have hb:=h.pos
 obtain⟨c,hc⟩:=dv
 have ec:D/v=c:=by rw[hc];exact Yi _ hv
 have key:u'*(D:Int)=(S+a*((D/v:Nat):Int))*(v':Int):=by
  rw[ec]
  refine Mg (a:=(bl:Int)*(v:Int)) ?_ ?_
  ·have:=OJ (a:=(bl:Int)) (b:=(v:Int)) (by omega) (by omega)
   omega
  ·have hcI:(D:Int)=(v:Int)*(c:Int):=by rw[hc];push_cast;rfl
   push_cast at e2
   have x1:u'*(D:Int)*((bl:Int)*(v:Int))=(D:Int)*(u'*((bl:Int)*(v:Int))):=by grind
   rw[x1,e2]
   have x2:(D:Int)*((t*(v:Int)+a*(bl:Int))*(v':Int))=((t*(D:Int))*(v:Int)+a*(D:Int)*(bl:Int))*(v':Int):=by grind
   rw[x2,e1]
   grind
 have l:=wG (S+a*((D/v:Nat):Int)) hD
 generalize (S+a*((D/v:Nat):Int))=W at *
 -- lowest terms are one
 have e3:=l.eq
 have cr:u'*((aB W D).2:Int)=(aB W D).1*(v':Int):=by
  refine Zj (a:=(D:Int)) (by omega) ?_
  have x:(D:Int)*(u'*((aB W D).2:Int))=u'*(D:Int)*((aB W D).2:Int):=by grind
  have y:(D:Int)*((aB W D).1*(v':Int))=(aB W D).1*(D:Int)*(v':Int):=by grind
  rw[x,y,key,e3];grind
 have cn:u'.natAbs*(aB W D).2=(aB W D).1.natAbs*v':=by
  have:=iW Int.natAbs cr
  rwa [QC,QC,QK,QK]at this
 have d1:v'∣(aB W D).2:=(T3 h2.cop).dvd_of_dvd_mul_left (by rw[cn];exact LQ _ _)
 have d2:(aB W D).2∣v':=(T3 l.cop).dvd_of_dvd_mul_left (by rw[<-cn];exact LQ _ _)
 have ev:=Zz d1 d2
 have hp:=h2.pos
 refine Cr ?_ ev
 rw[<-ev]at cr
 exact Mg (a:=(v':Int)) (by omega) cr
theorem Kr{D:Nat}:∀{fs:List (Int×Nat)},(∀f∈fs,0<=f.1)->0<=oY D fs
 |[],_=>pK _
 |f::fs,h=>by
  have h1:=h f jV
  have h2:=Kr (D:=D) (fs:=fs) fun g hg=>h g (iZ _ hg)
  have:=pq h1 (Int.natCast_nonneg (D/f.2))
  show 0<=f.1*((D/f.2:Nat):Int)+oY D fs
  omega
theorem mD{n:Nat}{X:Nat->Int}:∀{xs:List Int},xs.Nodup->(∀x∈xs,0<=x/\x<(n:Int))->(xs.map fun x=>X x.toNat).sum=Sx.sm n fun p=>if decide (((p:Nat):Int)∈xs)=true then X p else 0
 |[],_,_=>(Sx.aN n fun i _=>by simp).symm
 |x::xs,nd,hb=>by
  obtain⟨nx,nd'⟩:=Hl.mp nd
  have hx:=hb x jV
  have ih:=mD (X:=X) nd' fun y hy=>hb y (iZ _ hy)
  show X x.toNat+(xs.map fun x=>X x.toNat).sum=_
  rw[ih]
  have e1:Sx.sm n (fun p=>if p=x.toNat then X p else 0)=X x.toNat:=by
   rw[Sx.bf (j:=x.toNat) n (by omega) fun i _ hi=>ao hi,aA rfl]
  rw[<-e1,<-Sx.cN]
  refine Sx.ak n fun p hp=> ?_
  by_cases h:p=x.toNat
  ·have h1:((p:Nat):Int)=x:=by omega
   rw[aA h,ao (by rw[h1];simpa using nx),aA (by rw[h1];simp)]
   omega
  ·have h1:((p:Nat):Int)≠x:=by omega
   rw[ao h]
   have:decide (((p:Nat):Int)∈x::xs)=decide (((p:Nat):Int)∈xs):=by
    refine decide_eq_decide.mpr ⟨fun z=> ?_,iZ _⟩
    rcases eN.mp z with z|z
    ·exact absurd z h1
    ·exact z
   rw[this];omega
theorem fJ{f g:Nat->Int}:∀k,(∀i,i<k->f i<=g i)->Sx.sm k f<=Sx.sm k g
 |0,_=>pK _
 |k+1,h=>Int.add_le_add (fJ k fun i hi=>h i (by omega)) (h k (by omega))
theorem Dc{n:Nat}{ts:List (Int×Int)}{ss:List (List Int)}(hS:bD ss ts false n){s:List Int}(h:s∈ss):mQ ts false n s:=jZ n s (iR.mp (hS.1.mem_iff.mp h)).1
theorem qU{k:Nat}(h:k<=10000000000000000)(x:Int):CMul x ((k:Nat):Int):= .inr ⟨by omega,by omega⟩
def uK(K:W.Frag):Sp:=fun vs H Q _=>∃(a b:Nat),vs=[.int (a:Int),.int b]/\0<b/\b<=10^200/\∀p H' u v,Same H H'->H' p=some (.tup [.int u,.int ((v:Nat):Int)])->Low (a:Int) b u v->Q (.ref p) H'
theorem pX:FnScope ["a","b","one","other"] ["a","b"] (defScope cX):=fsc
theorem Np{f:Addr}{fd:FuncData}(F:Fun K "_law_alow" "_law_alow" cX f fd):FnOk P w K mg base CX0 1 f fd ["a","b"] (uK K):=by
 refine F.ok pX (fun vs H Q E h=> ?_) (fun cdv A outer s H vs Q E hr h=> ?_)
 ·obtain⟨m,n,rfl,_⟩:=h
  rfl
 obtain⟨a,b,rfl,hb,hB,q⟩:=h
 refine⟨_,aO (cg (i:=2) pX.nd rfl (Or.inl rfl) (pv 0)) (aO (cg (i:=3) pX.nd rfl (Or.inl rfl) (pv 1)) (aO (ps_while was (jM op_gt (pv 3) aL (nomark _)) (bA (ps_par (i:=2) (j:=3) rfl pX.nd rfl rfl (by decide) rfl rfl (aj (pv 3) (aj (bH op_mod (pv 2) (pv 3)) aq)) rfl))) (bA (cG (gP (aj (bH mj (pv 0) (pv 2)) (aj (bH mj (pv 1) (pv 2)) aq))))))),?_⟩
 refine⟨_,rfl,_,rfl,?_⟩
 refine⟨fun k σ H'=>H'=H/\∃(m':Nat),σ=[some (.int (a:Int)),some (.int (b:Int)),some (.int (m':Int)),some (.int (k:Int))]/\Nat.gcd m' k=Nat.gcd a b,⟨b,rfl,a,rfl,rfl⟩,?_⟩
 rintro k σ H' ⟨rfl,m',rfl,hg⟩
 refine⟨_,rfl,_,_,rfl,rfl,_,rfl,?_⟩
 refine ite2 (fun c=> ?_) (fun c=> ?_)
 ·have hk:0<k:=Ly.mp (eY c)
  refine⟨fun σ' H2=>H2=H'/\σ'=[some (.int (a:Int)),some (.int (b:Int)),some (.int (k:Int)),some (.int ((m' %k:Nat):Int))],fun σ' H2 ⟨e1,e2⟩=>⟨m' %k,Ym _ hk,e1,k,e2,?_⟩,?_⟩
  ·rw[yq];exact hg
  ·exact⟨_,rfl,_,rfl,_,rfl,_,_,rfl,rfl,Ly.mpr hk,_,_,rfl,rfl,rfl⟩
 ·have hk:k=0:=by
   rcases U0 k with h|h
   ·exact h
   ·exfalso;exact c (cI (Ly.mpr h))
  subst hk
  rw[Nat.gcd_zero_right]at hg
  have hg1:0<Nat.gcd a b:=wbq _ hb
  have hg2:(((Nat.gcd a b:Nat):Int)).natAbs<=10^200:=dW (J7 (a:Int) b hb) hB
  rw[hg]
  refine⟨_,rfl,_,rfl,_,_,rfl,rfl,⟨Ly.mpr hg1,hg2⟩,_,rfl,_,rfl,_,_,rfl,rfl,⟨Ly.mpr hg1,hg2⟩,(by show 2<=sizeLine;decide),fun p hp=> ?_⟩
  exact q p _ _ _ (aP hp _) (Dr (a:=(a:Int)) hp) (Ax (a:Int) b hb)
theorem aap:10000000000000000*10000000000000000<=10^200:=by decide+kernel
def zK(K:W.Frag):Sp:=fun vs H Q _=>∃(la:Addr) (rs:List V) (fs:List (Int×Nat)) (D:Nat),vs=[.ref la]/\SqL K H la rs/\vY K H rs fs/\Ze D fs/\rs.length<=1000/\
 ∀(p:Addr) H',Same H H'->m6 K H' p (aB (oY D fs) D)->Q (.ref p) H'
theorem gY:FnScope ["some","top","below","a","b"] ["some"] (defScope eZ):=fsc
theorem Nk{f f1:Addr}{fd d1:FuncData}(F:Fun K "_law_asum" "_law_asum" eZ f fd)(D1:bF K mg "_law_alow" cX ["a","b"] f1 d1)(G1:FnOk P w K mg base CX0 1 f1 d1 ["a","b"] (uK K)):
  FnOk P w K mg base CX0 2 f fd ["some"] (zK K):=by
 refine F.ok gY (fun vs H Q E h=> ?_) (fun cdv A outer s H vs Q E hr h=> ?_)
 ·obtain⟨la,rs,fs,D,rfl,_⟩:=h
  rfl
 obtain⟨la,rs,fs,D,rfl,hL,hF,hD,hlen,q⟩:=h
 refine⟨_,(aO (cg (i:=1) gY.nd rfl (Or.inl rfl) aL) (aO (cg (i:=2) gY.nd rfl (Or.inl rfl) aL) (aO (ps_for was rfl (Ec (pv 0)) (pg_tup rfl (mZ (cJ (i:=3) gY.nd rfl (Or.inl rfl)) (mZ (cJ (i:=4) gY.nd rfl (Or.inl rfl)) Cd))) (bA (ps_asg (pc G1 hr D1 (aj (bH pI (bH rW (pv 1) (pv 4)) (bH rW (pv 3) (pv 2))) (aj (bH rW (pv 2) (pv 4)) aq))) (pg_tup rfl (mZ (cJ (i:=1) gY.nd rfl (Or.inl rfl)) (mZ (cJ (i:=2) gY.nd rfl (Or.inl rfl)) Cd)))))) (bA (cG (gP (aj (pv 1) (aj (pv 2) aq)))))))),?_⟩
 have hl:=Paired.Ay hF
 have WM:=hD.pos
 have hD1:=hD.le
 have nn:∀i,0<=oY D (fs.take i):=fun i=>Kr fun f hf=>(hD.all f (List.mem_of_mem_take hf)).1
 have z0:aB 0 D=(0,1):=by
  have:=wG 0 WM
  refine(nO WM ⟨by omega,by decide,by omega,by simp,by omega,fun _=>by omega⟩).symm
 refine⟨_,rfl,la,rs,rfl,hL,fun hz=> ?_⟩
 refine for_list (xs:=rs) (fun i σ H'=>Same H H'/\∃(o1 o2:Option V),σ=[some (.ref la),some (.int (aB (oY D (fs.take i)) D).1),some (.int (((aB (oY D (fs.take i)) D).2:Nat):Int)),o1,o2]) ⟨Same.refl _,_,_,by show _=[_,some (V.int (aB 0 D).1),some (V.int (((aB 0 D).2:Nat):Int)),_,_];rw[z0];rfl⟩ (fun i σ H' _ p=>p.1.seq hL) (fun i x σ H' hx p=> ?_) (fun σ H' p=> ?_)
 ·obtain⟨sm,o1,o2,rfl⟩:=p
  obtain⟨f,hf,t,rfl,ht0⟩:=Paired.at_ hF hx
  have ht:=sm.tup ht0
  obtain⟨f0,f1,f2⟩:=hD.all f (uy hf)
  have hfD:=Nat.le_of_dvd WM f2
  have l:=wG (oY D (fs.take i)) WM
  have l0:=l.nn (nn i)
  have lv:=l.lv
  have lp:=l.pos
  have es:oY D (fs.take (i+1))=oY D (fs.take i)+f.1*((D/f.2:Nat):Int):=by
   obtain⟨hi,rfl⟩:=pL.mp hf
   rw[List.take_succ_eq_append_getElem hi,DK,Od]
  rw[es]
  generalize hS:oY D (fs.take i)=S at *
  generalize hu:(aB S D).1=u at *
  generalize hv:(aB S D).2=v at *
  refine⟨t,_,rfl,ht,rfl,_,_,rfl,_,_,rfl,rfl,?_⟩
  refine⟨_,rfl,_,rfl,_,_,rfl,rfl,qU (by omega) _,_,rfl,_,rfl,_,_,rfl,rfl,qU (by omega) _,_,_,rfl,rfl,_,rfl,_,rfl,_,_,rfl,rfl,qU (by omega) _,?_⟩
  have p0:0<=u*(f.2:Int)+f.1*(v:Int):=Int.add_nonneg (pq l0 (by omega)) (pq f0 (by omega))
  have ea:(((u*(f.2:Int)+f.1*(v:Int)).toNat:Nat):Int)=u*(f.2:Int)+f.1*(v:Int):=U4 p0
  have hvf:0<v*f.2:=OD lp f1
  have hvb:v*f.2<=10^200:=dW (UG (dW lv hD1) (dW hfD hD1)) aap
  refine⟨(u*(f.2:Int)+f.1*(v:Int)).toNat,v*f.2,?_,hvf,hvb,fun p H2 u2 v2 s2 h2 hl2=> ?_⟩
  ·rw[ea];rfl
  rw[ea]at hl2
  have e2:=J1 WM l f1 f2 hl2
  refine⟨p,_,rfl,SqT.of h2,rfl,_,_,rfl,_,_,rfl,rfl,sm.trans s2,some (.int f.1),some (.int ((f.2:Nat):Int)),?_⟩
  rw[<-e2];rfl
 ·obtain⟨sm,o1,o2,rfl⟩:=p
  refine⟨_,rfl,_,rfl,(by show 2<=sizeLine;decide),fun r hr'=> ?_⟩
  refine q r _ (sm.trans (aP hr' _)) ?_
  have e2:aB (oY D fs) D=aB (oY D (fs.take rs.length)) D:=by rw[wem (by omega)]
  rw[e2]
  exact SqT.of aH
def Qa(K:W.Frag):Sp:=fun vs H Q _=>∃(p p':Addr) (u u':Int) (v v':Nat),vs=[.ref p,.ref p']/\SqT K H p [.int u,.int ((v:Nat):Int)]/\SqT K H p' [.int u',.int ((v':Nat):Int)]/\v<=10000000000000000/\v'<=10000000000000000/\Q (.bl (decide (u*(v':Int)<=u'*(v:Int)))) H
theorem Rh:FnScope ["one","other"] ["one","other"] (defScope XC):=fsc
theorem RL{f:Addr}{fd:FuncData}(F:Fun K "_law_ano_more" "_law_ano_more" XC f fd):
  FnOk P w K mg base CX0 1 f fd ["one","other"] (Qa K):=by
 refine F.ok Rh (fun vs H Q E h=> ?_) (fun cdv A outer s H vs Q E hr h=> ?_)
 ·obtain⟨p,p1,u,u1,v,v1,rfl,_⟩:=h
  rfl
 obtain⟨p,p1,u,u1,v,v1,rfl,h1,h2,b1,b2,q⟩:=h
 refine⟨_,(bA (cG (pe_cmpR op_le (bH rW (bK fH (pv 0) aL (fun _ _=>rfl)) (bK fH (pv 1) aL (fun _ _=>rfl))) (bH rW (bK fH (pv 1) aL (fun _ _=>rfl)) (bK fH (pv 0) aL (fun _ _=>rfl))) (nomark _)))),?_⟩
 exact⟨_,rfl,p,_,_,.int u,rfl,rfl,h1,rfl,_,rfl,p1,_,_,.int v1,rfl,rfl,h2,rfl,_,_,rfl,rfl,qU b2 _,_,rfl,p1,_,_,.int u1,rfl,rfl,h2,rfl,_,rfl,p,_,_,.int v,rfl,rfl,h1,rfl,_,_,rfl,rfl,qU b1 _,_,_,rfl,rfl,q⟩
end
theorem uX{D:Nat}{X:Nat->Int}(hD:0<D):∀xs:List Int,oY D (xs.map fun x=>aB (X x.toNat) D)=(xs.map fun x=>X x.toNat).sum
 |[]=>rfl
 |x::xs=>by
  show _*_+oY D (xs.map _)=_
  rw[uX hD xs,J2 hD];rfl
theorem yM{n:Nat}{ts:List (Int×Int)}{ss:List (List Int)}{wl:List Int}{ov:Nat}{Z:Int}{Y X:Nat->Int}(hS:bD ss ts false n)(h:Sh n ss wl ov Z Y X){xs:List Int}(hk:mQ ts false n xs):
  oY ov (xs.map fun x=>aB (X x.toNat) ov)<=1*(ov:Int):=by
 have nd:xs.Nodup:=hk.up.imp fun h e=>by omega
 rw[uX h.pos,mD nd hk.lt,Gz]
 obtain⟨t,ht,hx⟩:=yF hk
 obtain⟨k,hk',rfl⟩:=Mf (hS.1.mem_iff.mpr ht)
 refine Lz (fJ n fun p hp=> ?_) (h.lig k hk')
 have hxn:=h.xn p
 by_cases c:decide (((p:Nat):Int)∈xs)=true
 ·rw[aA c,aA]
  ·exact pK _
  ·unfold cC
   rw[pN,fX hk']
   exact cI (hx _ (eY c))
 ·rw[ao c]
  split
  ·exact hxn
  ·exact pK _
theorem Ji(n:Nat):(rng n).Pairwise (· < ·):=by
 unfold rng
 rw[Ck]
 exact U6.imp fun{a b} h=>by omega
theorem FW{u u':Int}{v v':Nat}(hv:0<v)(c1:Nat.gcd u.natAbs v=1)(c2:Nat.gcd u'.natAbs v'=1)(cr:u*(v':Int)=u'*(v:Int)):u=u'/\v=v':=by
 have cn:u.natAbs*v'=u'.natAbs*v:=by
  have:=iW Int.natAbs cr
  rwa [QC,QC,QK,QK]at this
 have d1:v∣v':=(T3 c1).dvd_of_dvd_mul_left (by rw[cn];exact LQ _ _)
 have d2:v'∣v:=(T3 c2).dvd_of_dvd_mul_left (by rw[<-cn];exact LQ _ _)
 have ev:=Zz d1 d2
 subst ev
 exact⟨Mg (a:=(v:Int)) (by omega) cr,rfl⟩
theorem zA{n:Int}{ts:List (Int×Int)}(h0:0<=n)(h1:n<=10)(hs:ts.Pairwise fG)(hl:∀p∈ts,0<=p.1/\p.1<p.2/\p.2<n):aD n ts/\jm n ts:=by
 have ho:aD n ts:=⟨gG hs,hl⟩
 exact⟨ho,Ht h0 h1 ho (hs.imp Dq)⟩
theorem SJ{n:Nat}{ts:List (Int×Int)}{ss':List (List Int)}{wl:List Int}{ov ov':Nat}{Z':Int}{X Y' X':Nat->Int}(hx:∀p,0<=X p)(hl:∀xs,mQ ts false n xs->(xs.map fun x=>X x.toNat).sum<=(ov:Int))(hS':bD ss' ts false n)(h':Sh n ss' wl ov' Z' Y' X'):(Sx.sm n fun p=>m9 wl p*X p)*(ov':Int)<=Z'*(ov:Int):=by
 have lig:∀k,k<ss'.length->(Sx.sm n fun p=>if cC ss' k p=true then X p else 0)<=(ov:Int):=fun k hk=>by
  have hK:=Dc hS' (Cj hk)
  have e:=hl _ hK
  rw[mD (n:=n) (hK.up.imp fun{a b} h=>by omega) hK.lt]at e
  have:∀p,cC ss' k p=decide (((p:Nat):Int)∈ss'[k]):=fun p=>by
   unfold cC
   rw[pN,fX hk];rfl
  simp only[this]
  exact e
 have a1:(Sx.sm n fun p=>m9 wl p*X p)*(ov':Int)=Sx.sm n fun p=>(ov':Int)*(m9 wl p*X p):=by rw[Sx.aK,jN]
 have a2:(Sx.sm n fun p=>(ov':Int)*(m9 wl p*X p))<=Sx.sm n fun p=>Sx.sm ss'.length fun k=>X p*(if cC ss' k p=true then Y' k else 0):=by
  refine fJ n fun p hp=> ?_
  rw[Sx.aK]
  have:=pA (h'.eno p hp) (hx p)
  have x:(ov':Int)*(m9 wl p*X p)=X p*((ov':Int)*m9 wl p):=by grind
  rw[x];exact this
 have a3:=Sx.pR (fun p k=>X p*(if cC ss' k p=true then Y' k else 0)) ss'.length n
 have a4:(Sx.sm ss'.length fun k=>Sx.sm n fun p=>X p*(if cC ss' k p=true then Y' k else 0))<=Sx.sm ss'.length fun k=>(ov:Int)*Y' k:=by
  refine fJ _ fun k hk=> ?_
  have e:(Sx.sm n fun p=>X p*(if cC ss' k p=true then Y' k else 0))=Sx.sm n fun p=>Y' k*(if cC ss' k p=true then X p else 0):=Sx.ak n fun p _=>by split<;>grind
  rw[e,Sx.aK]
  have:=pA (lig k hk) (h'.yn k)
  rw[jN (ov:Int)];exact this
 have a5:(Sx.sm ss'.length fun k=>(ov:Int)*Y' k)=Z'*(ov:Int):=by rw[Sx.aK,h'.tot,jN]
 rw[a1]
 refine Lz a2 ?_
 rw[a3]
 refine Lz a4 ?_
 rw[a5]
 exact pK _
def tN(ts:List (Int×Int))(i j:Nat):Bool:=aG ts ((i:Nat):Int) ((j:Nat):Int)
theorem Ip{n:Nat}{ts:List (Int×Int)}{xs:List Int}(h:mQ ts false n xs):Sx.jR n (tN ts) fun p=>decide (((p:Nat):Int)∈xs):=fun i j hi hj u v e=>by
 have:=h.all _ (eY u) _ (eY v) (by omega)
 unfold tN
 simpa using this
theorem RM{n:Nat}{ts:List (Int×Int)}{s:Nat->Bool}(h:Sx.jR n (tN ts) s):mQ ts false n ((rng n).filter fun x=>s x.toNat):=by
 refine⟨(Ji n).filter _,fun x hx=>zm.mp (iR.mp hx).1,fun x hx y hy e=> ?_⟩
 obtain⟨a1,a2⟩:=iR.mp hx
 obtain⟨b1,b2⟩:=iR.mp hy
 have r1:=zm.mp a1
 have r2:=zm.mp b1
 have:=h x.toNat y.toNat (by omega) (by omega) a2 b2 (by omega)
 unfold tN at this
 rw[show((x.toNat:Nat):Int)=x by omega,show((y.toNat:Nat):Int)=y by omega]at this
 rw[this];rfl
theorem sum_set{n:Nat}{X:Nat->Int}{s:Nat->Bool}:(((rng n).filter fun x=>s x.toNat).map fun x=>X x.toNat).sum=Sx.aY n X s:=by
 rw[mD (n:=n) (((Ji n).filter _).imp fun{a b} h=>by omega) fun x hx=>zm.mp (iR.mp hx).1]
 refine Sx.ak n fun p hp=> ?_
 have:decide (((p:Nat):Int)∈(rng n).filter fun x=>s x.toNat)=s p:=by
  rw[uE,wz,iR]
  exact⟨fun z=>by simpa using z.2,fun z=>⟨zm.mpr ⟨by omega,by omega⟩,by simpa using z⟩⟩
 rw[this]
theorem Cq{n p:Nat}(h:p<n):m9 (qR n) p=1:=by
 unfold m9 qR
 rw[pN,wdz,aA h];rfl
theorem Xd{n:Nat}{ts:List (Int×Int)}{ss:List (List Int)}{ov:Nat}{Z:Int}{Y X:Nat->Int}(hS:bD ss ts false n)(h:Sh n ss (qR n) ov Z Y X):Sx.FV n (tN ts) (ov:Int) Z:=by
 have e1:∀X:Nat->Int,(Sx.sm n fun p=>m9 (qR n) p*X p)=Sx.sm n X:=fun X=>Sx.ak n fun p hp=>by rw[Cq hp,Gz]
 refine⟨by have:=h.pos;omega,⟨X,h.xn,fun s hs=> ?_,by rw[<-e1];exact h.wor⟩,fun X' c hx hc=> ?_⟩
 ·have:=yM hS h (RM hs)
  rw[uX h.pos,sum_set,Gz]at this
  exact this
 ·have c0:0<=c:=by
   have:=hc (fun _=>false) fun i j _ _ u=>by cases u
   have z:=Sx.jW (n:=n) (s:=fun _=>false) hx
   omega
  have:=SJ (X:=X') (ov:=c.toNat) hx (fun xs hk=>by
   have:=hc _ (Ip hk)
   rw[mD (n:=n) (hk.up.imp fun{a b} h=>by omega) hk.lt]
   show Sx.aY n X' (fun p=>decide (((p:Nat):Int)∈xs))<=_
   omega) hS h
  rw[e1,show((c.toNat:Nat):Int)=c by omega]at this
  exact this
theorem Om{n:Nat}{ts:List (Int×Int)}{ss:List (List Int)}{ov:Nat}{Z:Int}{Y X:Nat->Int}(hS:bD ss ts false n)(h:Sh n ss (qR n) ov Z Y X):Sx.rR n (tN ts) (ov:Int) Z:=by
 refine⟨ss.length,fun k p=>cC ss k p,Y,h.yn,fun k hk=> ?_,h.tot,fun p hp=> ?_⟩
 ·have:=Ip (Dc hS (Cj hk))
  have e:(fun p=>cC ss k p)=fun p:Nat=>decide (((p:Nat):Int)∈ss[k]):=by
   funext p
   unfold cC
   rw[pN,fX hk];rfl
  show Sx.jR n (tN ts) fun p=>cC ss k p
  rw[e];exact this
 ·have:=h.eno p hp
  rw[Cq hp,TX]at this
  exact this
theorem wF{ts:List (Int×Int)}{i j:Nat}:tN ts i j=tN ts j i:=Bool.or_comm _ _
theorem nu{n:Int}{ts:List (Int×Int)}(h:aD n ts){i:Nat}:tN ts i i=false:=by
 have no:decide ((((i:Nat):Int),((i:Nat):Int))∈ts)=false:=iY fun z=>by
  have:=h.lt _ z
  dsimp only at this
  omega
 unfold tN aG
 rw[no];rfl
theorem HF{n:Int}{ts:List (Int×Int)}(h:aD n ts){i j:Nat}(hij:i<j):tN ts i j=decide ((((i:Nat):Int),((j:Nat):Int))∈ts):=by
 have no:decide ((((j:Nat):Int),((i:Nat):Int))∈ts)=false:=iY fun z=>by
  have:=h.lt _ z
  dsimp only at this
  omega
 unfold tN aG
 rw[no,Ve]
theorem Gv{so:Int->Int->Bool}{N:Nat}{m:Int}(hm:m=((N:Nat):Int)){i j:Nat}(hij:i<j)(hj:j<N):tN (rows so m m.toNat) i j=so ((i:Nat):Int) ((j:Nat):Int):=nA (by omega) (by omega) (by omega)
theorem gA{so:Int->Int->Bool}{m:Int}{i:Nat}:tN (rows so m m.toNat) i i=false:=by
 have no:decide ((((i:Nat):Int),((i:Nat):Int))∈rows so m m.toNat)=false:=iY fun z=>by
  rw[wH]at z
  omega
 unfold tN aG
 rw[no];rfl
theorem K3{n1 n2:Nat}{t1 t2:List (Int×Int)}{m:Int}(hm:m=((n1+n2:Nat):Int))(h1:aD (n1:Int) t1)(h2:aD (n2:Int) t2):Sx.gq n1 n2 (tN t1) (tN t2) (tN (rows (GQ (n1:Int) t1 t2 true) m m.toNat))/\∀i j,i<n1->j<n2->tN (rows (GQ (n1:Int) t1 t2 true) m m.toNat) i (n1+j)=true:=by
 have one:∀i j,i<j->j<n1->tN (rows (GQ (n1:Int) t1 t2 true) m m.toNat) i j=tN t1 i j:=fun i j hij hj=>by
  rw[Gv hm hij (by omega),HF h1 hij]
  unfold GQ
  rw[aA (by omega)]
 have two:∀i j,i<j->j<n2->tN (rows (GQ (n1:Int) t1 t2 true) m m.toNat) (n1+i) (n1+j)=tN t2 i j:=fun i j hij hj=>by
  rw[Gv hm (by omega) (by omega),HF h2 hij]
  unfold GQ
  rw[ao (by omega),aA (by omega),show((n1+i:Nat):Int)-(n1:Int)=(i:Int) by omega,show((n1+j:Nat):Int)-(n1:Int)=(j:Int) by omega]
 refine⟨⟨fun i j hi hj=> ?_,fun i j hi hj=> ?_⟩,fun i j hi hj=> ?_⟩
 ·rcases Pb i j with c|c|c
  ·exact one i j c hj
  ·subst c;rw[gA,nu h1]
  ·rw[wF,wF (ts:=t1)];exact one j i c hi
 ·rcases Pb i j with c|c|c
  ·exact two i j c hj
  ·subst c;rw[gA,nu h2]
  ·rw[wF,wF (ts:=t2)];exact two j i c hi
 ·rw[Gv hm (by omega) (by omega)]
  unfold GQ
  rw[ao (by omega),ao (by omega)]
theorem qu{ts:List (Int×Int)}{i j:Nat}:tN ts i j=true↔(((i:Nat):Int),((j:Nat):Int))∈ts\/(((j:Nat):Int),((i:Nat):Int))∈ts:=by
 unfold tN aG
 rw[QV,wz,wz]
theorem KR{n1 n2:Nat}{t1 t2 B:List (Int×Int)}(hb:∀p:Int×Int,p∈B↔p∈t1\/(p.1-(n1:Int),p.2-(n1:Int))∈t2)(h1:aD (n1:Int) t1)(h2:aD (n2:Int) t2):Sx.gq n1 n2 (tN t1) (tN t2) (tN B)/\∀i j,i<n1->j<n2->tN B i (n1+j)=false/\tN B (n1+j) i=false:=by
 have k2:∀{a b:Int},(a,b)∈t2->0<=a/\a<b/\b<(n2:Int):=fun z=>h2.lt _ z
 have k1:∀{a b:Int},(a,b)∈t1->0<=a/\a<b/\b<(n1:Int):=fun z=>h1.lt _ z
 have low:∀{a b:Nat},a<n1\/b<n1->((((a:Nat):Int),((b:Nat):Int))∈B↔(((a:Nat):Int),((b:Nat):Int))∈t1):=fun{a b} h=>by
  rw[hb]
  refine⟨fun z=>z.elim id fun z=> ?_,.inl⟩
  have:=k2 z
  omega
 have high:∀{a b:Nat},(((n1+a:Nat):Int),((n1+b:Nat):Int))∈B↔(((a:Nat):Int),((b:Nat):Int))∈t2:=fun{a b}=>by
  rw[hb]
  dsimp only
  rw[show((n1+a:Nat):Int)-(n1:Int)=(a:Int) by omega,show((n1+b:Nat):Int)-(n1:Int)=(b:Int) by omega]
  refine⟨fun z=>z.elim (fun z=> ?_) id,.inr⟩
  have:=k1 z
  omega
 have cross:∀i j,i<n1->j<n2->tN B i (n1+j)=false:=fun i j hi hj=>by
  cases e:tN B i (n1+j)with
  |false=>rfl
  |true=>
   rcases qu.mp e with z|z
   ·have:=k1 ((low (.inl hi)).mp z)
    omega
   ·have:=k1 ((low (.inr hi)).mp z)
    omega
 refine⟨⟨fun i j hi hj=> ?_,fun i j hi hj=> ?_⟩,fun i j hi hj=>⟨cross i j hi hj,by rw[wF];exact cross i j hi hj⟩⟩
 ·rw[uE,qu,qu,low (.inl hi),low (.inl hj)]
 ·rw[uE,qu,qu,high,high]
theorem Hr{n1 n2:Nat}{t1 t2:List (Int×Int)}{so:Int->Int->Bool}{m:Int}(hm:m=((n1*n2:Nat):Int))(hs:∀i j:Int,so i j=(aG t1 (i/(n2:Int)) (j/(n2:Int))||(decide (i/(n2:Int)=j/(n2:Int))&&aG t2 (i %(n2:Int)) (j %(n2:Int)))))(h1:aD (n1:Int) t1)(h2:aD (n2:Int) t2):Sx.Within n1 n2 (tN t1) (tN t2) (tN (rows so m m.toNat)):=by
 have dv:∀i j:Nat,j<n2->((i*n2+j:Nat):Int)/(n2:Int)=(i:Int)/\((i*n2+j:Nat):Int) %(n2:Int)=(j:Int):=fun i j hj=>by
  have:=Sx.jl (i:=i) hj
  exact⟨by rw[<-Int.natCast_ediv,this.1],by rw[<-Int.natCast_emod,this.2]⟩
 have val:∀i i' j j',j<n2->j'<n2->so ((i*n2+j:Nat):Int) ((i'*n2+j':Nat):Int)=(tN t1 i i'||(decide (i=i')&&tN t2 j j')):=fun i i' j j' hj hj'=>by
  rw[hs,(dv i j hj).1,(dv i j hj).2,(dv i' j' hj').1,(dv i' j' hj').2]
  have:decide ((i:Int)=(i':Int))=decide (i=i'):=decide_eq_decide.mpr (by omega)
  rw[this];rfl
 have lt:∀i i' j j',i<i'->j<n2->i*n2+j<i'*n2+j':=fun i i' j j' h hj=>by
  have:(i+1)*n2<=i'*n2:=Nat.mul_le_mul_right n2 h
  rw[Tq]at this;omega
 have same:∀i j j',i<n1->j<j'->j'<n2->tN (rows so m m.toNat) (i*n2+j) (i*n2+j')=tN t2 j j':=fun i j j' hi hj hj'=>by
  rw[Gv hm (by omega) (Sx.uo hi hj'),val i i j j' (by omega) hj',nu h1,cI rfl];rfl
 have other:∀i i' j j',i<i'->i'<n1->j<n2->j'<n2->tN (rows so m m.toNat) (i*n2+j) (i'*n2+j')=tN t1 i i':=fun i i' j j' hi hi' hj hj'=>by
  rw[Gv hm (lt i i' j j' hi hj) (Sx.uo hi' hj'),val i i' j j' hj hj',iY (by omega),Yv,Ve]
 refine⟨fun i j j' hi hj hj'=> ?_,fun i i' j j' hi hi' e hj hj'=> ?_⟩
 ·rcases Pb j j' with c|c|c
  ·exact same i j j' hi c hj'
  ·subst c;rw[gA,nu h2]
  ·rw[wF,wF (ts:=t2)];exact same i j' j hi c hj
 ·rcases Nat.lt_or_gt_of_ne e with c|c
  ·exact other i i' j j' c hi' hj hj'
  ·rw[wF,wF (ts:=t1)];exact other i' i j' j c hi hj' hj
theorem NZ{n:Nat}{ts:List (Int×Int)}{m:Int}(hm:m=((2*n+1:Nat):Int))(h:aD (n:Int) ts):Sx.yP n (tN ts) (tN (rows (zc (n:Int) ts) m m.toNat)):=by
 have vv:∀i j,i<j->j<n->tN (rows (zc (n:Int) ts) m m.toNat) i j=tN ts i j:=fun i j hij hj=>by
  rw[Gv hm hij (by omega),HF h hij]
  unfold zc
  rw[aA (by omega)]
 have vu:∀i j,i<n->j<n->tN (rows (zc (n:Int) ts) m m.toNat) i (n+j)=tN ts i j:=fun i j hi hj=>by
  rw[Gv hm (by omega) (by omega)]
  unfold zc
  rw[ao (by omega),aA (by omega),show((n+j:Nat):Int)-(n:Int)=(j:Int) by omega]
  rfl
 have uu:∀i j,i<j->j<n->tN (rows (zc (n:Int) ts) m m.toNat) (n+i) (n+j)=false:=fun i j hij hj=>by
  rw[Gv hm (by omega) (by omega)]
  unfold zc
  rw[ao (by omega),aA (by omega)]
  unfold aG
  rw[iY fun z=>by have:=h.lt _ z;dsimp only at this;omega,iY fun z=>by have:=h.lt _ z;dsimp only at this;omega]
  rfl
 have ur:∀i,i<n->tN (rows (zc (n:Int) ts) m m.toNat) (n+i) (2*n)=true:=fun i hi=>by
  rw[Gv hm (by omega) (by omega)]
  unfold zc
  rw[ao (by omega),ao (by omega)]
  exact cI (by omega)
 have vr:∀i,i<n->tN (rows (zc (n:Int) ts) m m.toNat) i (2*n)=false:=fun i hi=>by
  rw[Gv hm (by omega) (by omega)]
  unfold zc
  rw[ao (by omega),ao (by omega)]
  exact iY (by omega)
 refine⟨fun i _=>nu h,fun i j _ _=>wF,fun i j hi hj=> ?_,fun i j hi hj=>⟨vu i j hi hj,by rw[wF];exact vu i j hi hj⟩,fun i j hi hj=> ?_,fun i hi=>⟨ur i hi,by rw[wF];exact ur i hi⟩,fun i hi=>⟨vr i hi,by rw[wF];exact vr i hi⟩⟩
 ·rcases Pb i j with c|c|c
  ·exact vv i j c hj
  ·subst c;rw[gA,nu h]
  ·rw[wF,wF (ts:=ts)];exact vv j i c hi
 ·rcases Pb i j with c|c|c
  ·exact uu i j c hj
  ·subst c;exact gA
  ·rw[wF];exact uu j i c hi
def Val(n:Nat)(ts:List (Int×Int))(f:Int×Nat):Prop:=∃(ov:Nat) (Z:Int),f=aB Z ov/\0<ov/\ov<=39916800/\Sx.FV n (tN ts) (ov:Int) Z/\Sx.rR n (tN ts) (ov:Int) Z
theorem fZ{n:Nat}{ts:List (Int×Int)}{ss:List (List Int)}{ov:Nat}{Z:Int}{Y X:Nat->Int}(hS:bD ss ts false n)(h:Sh n ss (qR n) ov Z Y X):Val n ts (aB Z ov):=⟨ov,Z,rfl,h.pos,h.big,Xd hS h,Om hS h⟩
theorem low_eq{a c:Int}{b d:Nat}(hb:0<b)(hd:0<d)(e:a*(d:Int)=c*(b:Int)):aB a b=aB c d:=by
 have l:=wG a hb
 have l':=wG c hd
 have e1:=l.eq
 have e2:=l'.eq
 obtain⟨x,y⟩:=FW l.pos l.cop l'.cop (by
  refine Mg (a:=(b:Int)*(d:Int)) (Va (OJ (by omega) (by omega))) ?_
  generalize (aB a b).1=u at *
  generalize (aB a b).2=v at *
  generalize (aB c d).1=u' at *
  generalize (aB c d).2=v' at *
  have x1:u*(v':Int)*((b:Int)*(d:Int))=(u*(b:Int))*((v':Int)*(d:Int)):=by grind
  have x2:u'*(v:Int)*((b:Int)*(d:Int))=(u'*(d:Int))*((v:Int)*(b:Int)):=by grind
  rw[x1,x2,e1,e2]
  have x3:a*(v:Int)*((v':Int)*(d:Int))=(a*(d:Int))*((v:Int)*(v':Int)):=by grind
  rw[x3,e];grind)
 exact Cr x y
structure FrK(f:Int×Nat):Prop where
 nn:0<=f.1
 pos:0<f.2
 big:f.2<=39916800
 slf:aB f.1 f.2=f
theorem Val.k{n:Nat}{ts:List (Int×Int)}{f:Int×Nat}(h:Val n ts f):FrK f:=by
 obtain⟨ov,Z,rfl,p,b,F,_⟩:=h
 have l:=wG Z p
 exact⟨l.nn F.nn,l.pos,dW l.lv b,low_eq l.pos p l.eq⟩
theorem j8{a b:Nat}(ha:0<a)(hb:0<b):(0:Int)<(a:Int)*(b:Int):=OJ (by omega) (by omega)
theorem Val.across{n1 n2:Nat}{t1 t2 t:List (Int×Int)}{f g k:Int×Nat}(b:Sx.gq n1 n2 (tN t1) (tN t2) (tN t))(x:∀i j,i<n1->j<n2->tN t i (n1+j)=true)(h1:Val n1 t1 f)(h2:Val n2 t2 g)(h:Val (n1+n2) t k):k=aB (f.1*(g.2:Int)+g.1*(f.2:Int)) (f.2*g.2):=by
 obtain⟨o1,Z1,rfl,p1,_,F1,_⟩:=h1
 obtain⟨o2,Z2,rfl,p2,_,F2,_⟩:=h2
 obtain⟨o,Z,rfl,p,_,F,_⟩:=h
 have l1:=wG Z1 p1
 have l2:=wG Z2 p2
 have e:=Sx.BJ b x F1 F2 F
 have e1:=l1.eq
 have e2:=l2.eq
 refine low_eq p (OD l1.pos l2.pos) ?_
 generalize (aB Z1 o1).1=a1 at *
 generalize (aB Z1 o1).2=b1 at *
 generalize (aB Z2 o2).1=a2 at *
 generalize (aB Z2 o2).2=b2 at *
 refine Mg (a:=(o1:Int)*(o2:Int)) (Va (j8 p1 p2)) ?_
 rw[Pa]
 have x1:Z*((b1:Int)*(b2:Int))*((o1:Int)*(o2:Int))=Z*((o1:Int)*(o2:Int))*((b1:Int)*(b2:Int)):=by grind
 have x2:(a1*(b2:Int)+a2*(b1:Int))*(o:Int)*((o1:Int)*(o2:Int))=((a1*(o1:Int))*((b2:Int)*(o2:Int))+(a2*(o2:Int))*((b1:Int)*(o1:Int)))*(o:Int):=by grind
 rw[x1,x2,e,e1,e2];grind
theorem Ny{a1 a2 Z1 Z2:Int}{b1 b2 o1 o2:Nat}(p1:0<o1)(p2:0<o2)(q1:0<b1)(q2:0<b2)(e1:a1*(o1:Int)=Z1*(b1:Int))(e2:a2*(o2:Int)=Z2*(b2:Int)):a1*(b2:Int)<=a2*(b1:Int)↔Z1*(o2:Int)<=Z2*(o1:Int):=by
 have x1:a1*(b2:Int)*((o1:Int)*(o2:Int))=Z1*(o2:Int)*((b1:Int)*(b2:Int)):=by
  have:a1*(b2:Int)*((o1:Int)*(o2:Int))=a1*(o1:Int)*((b2:Int)*(o2:Int)):=by grind
  rw[this,e1];grind
 have x2:a2*(b1:Int)*((o1:Int)*(o2:Int))=Z2*(o1:Int)*((b1:Int)*(b2:Int)):=by
  have:a2*(b1:Int)*((o1:Int)*(o2:Int))=a2*(o2:Int)*((b1:Int)*(o1:Int)):=by grind
  rw[this,e2];grind
 refine⟨fun h=> ?_,fun h=> ?_⟩
 ·refine Tw (a:=(b1:Int)*(b2:Int)) ?_ (j8 q1 q2)
  rw[<-x1,<-x2]
  exact zu h (lC (j8 p1 p2))
 ·refine Tw (a:=(o1:Int)*(o2:Int)) ?_ (j8 p1 p2)
  rw[x1,x2]
  exact zu h (lC (j8 q1 q2))
theorem Val.beside{n1 n2:Nat}{t1 t2 t:List (Int×Int)}{f g k:Int×Nat}(b:Sx.gq n1 n2 (tN t1) (tN t2) (tN t))(x:∀i j,i<n1->j<n2->tN t i (n1+j)=false/\tN t (n1+j) i=false)(h1:Val n1 t1 f)(h2:Val n2 t2 g)(h:Val (n1+n2) t k):k=if f.1*(g.2:Int)<=g.1*(f.2:Int)then g else f:=by
 obtain⟨o1,Z1,rfl,p1,_,F1,_⟩:=h1
 obtain⟨o2,Z2,rfl,p2,_,F2,_⟩:=h2
 obtain⟨o,Z,rfl,p,_,F,_⟩:=h
 have l1:=wG Z1 p1
 have l2:=wG Z2 p2
 obtain⟨m1,m2,m3,m4⟩:=Sx.Bv b x F1 F2 F
 have i:=Ny p1 p2 l1.pos l2.pos l1.eq l2.eq
 by_cases c:(aB Z1 o1).1*((aB Z2 o2).2:Int)<=(aB Z2 o2).1*((aB Z1 o1).2:Int)
 ·rw[aA c]
  exact low_eq p p2 (QF (m3 (i.mp c)) m2)
 ·rw[ao c]
  have:Z2*(o1:Int)<=Z1*(o2:Int):=by
   rcases Int.le_total (Z2*(o1:Int)) (Z1*(o2:Int))with z|z
   ·exact z
   ·exact absurd (i.mpr z) c
  exact low_eq p p1 (QF (m4 this) m1)
theorem Val.within{n1 n2:Nat}{t1 t2 t:List (Int×Int)}{f g k:Int×Nat}(b:Sx.Within n1 n2 (tN t1) (tN t2) (tN t))(h1:Val n1 t1 f)(h2:Val n2 t2 g)(h:Val (n1*n2) t k):k=aB (f.1*g.1) (f.2*g.2):=by
 obtain⟨o1,Z1,rfl,p1,_,F1,_⟩:=h1
 obtain⟨o2,Z2,rfl,p2,_,F2,_⟩:=h2
 obtain⟨o,Z,rfl,p,_,F,_⟩:=h
 have l1:=wG Z1 p1
 have l2:=wG Z2 p2
 have e:=Sx.zx b F1 F2 F
 have e1:=l1.eq
 have e2:=l2.eq
 refine low_eq p (OD l1.pos l2.pos) ?_
 generalize (aB Z1 o1).1=a1 at *
 generalize (aB Z1 o1).2=b1 at *
 generalize (aB Z2 o2).1=a2 at *
 generalize (aB Z2 o2).2=b2 at *
 refine Mg (a:=(o1:Int)*(o2:Int)) (Va (j8 p1 p2)) ?_
 rw[Pa]
 have x1:Z*((b1:Int)*(b2:Int))*((o1:Int)*(o2:Int))=Z*((o1:Int)*(o2:Int))*((b1:Int)*(b2:Int)):=by grind
 have x2:a1*a2*(o:Int)*((o1:Int)*(o2:Int))=(a1*(o1:Int))*(a2*(o2:Int))*(o:Int):=by grind
 rw[x1,x2,e,e1,e2];grind
theorem M8(n:Nat)(t:Nat->Nat->Bool):Sx.rR n t 1 (n:Int):=by
 refine⟨n,fun k p=>decide (k=p),fun _=>1,fun _=>(by decide:(0:Int)<=1),fun k _ i j _ _ a b e=>absurd ((eY a).symm.trans (eY b)) e,Sx.jz n,fun p hp=> ?_⟩
 rw[Sx.bf (j:=p) n hp fun i _ hi=>ao (by rw[wz];exact hi),aA (cI rfl)]
 exact pK _
theorem Val.le{n:Nat}{ts:List (Int×Int)}{f:Int×Nat}(h:Val n ts f):f.1<=(n:Int)*(f.2:Int):=by
 obtain⟨o,Z,rfl,p,_,F,_⟩:=h
 have l:=wG Z p
 have b:=F.cov (M8 n (tN ts))
 have e:=l.eq
 generalize (aB Z o).1=u at *
 generalize (aB Z o).2=v at *
 refine Tw (a:=(o:Int)) ?_ (by omega)
 rw[e]
 have:=zu b (Int.natCast_nonneg v)
 rw[TX]at this
 have x:(n:Int)*(v:Int)*(o:Int)=(n:Int)*(o:Int)*(v:Int):=by grind
 rw[x];exact this
theorem Val.cm{n:Nat}{ts:List (Int×Int)}{f:Int×Nat}(hn:n<=10)(h:Val n ts f):f.1<=399168000:=by
 have a:=h.le
 have b:=h.k.big
 have c:(n:Int)*(f.2:Int)<=10*(f.2:Int):=zu (by omega) (by omega)
 omega
theorem Val.top{n:Nat}{ts:List (Int×Int)}{f:Int×Nat}(hn:0<n)(h:Val n ts f):0<f.1:=by
 obtain⟨o,Z,rfl,p,_,F,_⟩:=h
 have a:=F.one_le hn
 exact(xW p).mpr (by omega)
theorem Val.grown{n:Nat}{t t':List (Int×Int)}{f k:Int×Nat}(g:Sx.yP n (tN t) (tN t'))(hn:0<n)(h1:Val n t f)(h:Val (2*n+1) t' k):k=aB (f.1*f.1+(f.2:Int)*(f.2:Int)) (f.2*f.1.toNat):=by
 have t1:=h1.top hn
 obtain⟨o1,Z1,rfl,p1,_,F1,C1⟩:=h1
 obtain⟨o,Z,rfl,p,_,F,_⟩:=h
 have l1:=wG Z1 p1
 have e:=Sx.Ge g hn F1 C1 F
 have e1:=l1.eq
 refine low_eq p (OD l1.pos (by omega)) ?_
 rw[Pa,U4 (by omega)]
 generalize (aB Z1 o1).1=a at *
 generalize (aB Z1 o1).2=b at *
 refine Mg (a:=(o1:Int)*(o1:Int)) (Va (j8 p1 p1)) ?_
 have x1:Z*((b:Int)*a)*((o1:Int)*(o1:Int))=Z*((b:Int)*(o1:Int))*(a*(o1:Int)):=by grind
 have x2:(a*a+(b:Int)*(b:Int))*(o:Int)*((o1:Int)*(o1:Int))=((a*(o1:Int))*(a*(o1:Int))+(b:Int)*(b:Int)*((o1:Int)*(o1:Int)))*(o:Int):=by grind
 have x3:Z*((b:Int)*(o1:Int))*(Z1*(b:Int))=Z*(Z1*(o1:Int))*((b:Int)*(b:Int)):=by grind
 rw[x1,x2,e1,x3,e];grind
theorem uq{n:Nat}{t t':Nat->Nat->Bool}(h:∀i j,i<n->j<n->t i j=t' i j){s:Nat->Bool}(a:Sx.jR n t s):Sx.jR n t' s:=fun i j hi hj u v e=>by rw[<-h i j hi hj];exact a i j hi hj u v e
theorem yC{n:Nat}{t t':Nat->Nat->Bool}{o Z:Int}(h:∀i j,i<n->j<n->t i j=t' i j)(F:Sx.FV n t o Z):Sx.FV n t' o Z:=by
 have h':∀i j,i<n->j<n->t' i j=t i j:=fun i j hi hj=>(h i j hi hj).symm
 obtain⟨X,a,b,c⟩:=F.pr
 exact⟨F.pos,⟨X,a,fun s hs=>b s (uq h' hs),c⟩,fun X c x y=>F.up X c x fun s hs=>y s (uq h hs)⟩
def Vw(L:List (List Int)):Bool:=decide (L.Pairwise fun a b=>HT.lexLt b a=false)
def lZ(n:Nat):List (List Int):=[0,1]::[0,(n:Int)-1]::(List.range (n-2)).map fun(t:Nat)=>[(t:Int)+1,(t:Int)+2]
def xJ(n:Nat):Bool:=(lZ n).isPerm (tU (n:Int))&&Vw (lZ n)&&((lZ n).map Pu).all (fun p=>decide (0<=p.1)&&decide (p.1<p.2)&&decide (p.2<(n:Int)))&&decide (((lZ n).map Pu).Pairwise fun p q=>p.1<q.1\/(p.1=q.1/\p.2<q.2))&&(List.range n).all fun i=>(List.range n).all fun j=>tN ((lZ n).map Pu) i j==Sx.aZ n i j
theorem Ez:((List.range 8).all fun n=>xJ (n+3))=true:=by decide+kernel
theorem Jm{n:Nat}(h0:3<=n)(h1:n<=10):aD (n:Int) (aZ (n:Int))/\jm (n:Int) (aZ (n:Int))/\∀i j:Nat,i<n->j<n->tN (aZ (n:Int)) i j=Sx.aZ n i j:=by
 have h:=jT.mp Ez (n-3) (m8.mpr (by omega))
 rw[show n-3+3=n by omega]at h
 unfold xJ at h
 simp only[qm]at h
 obtain⟨⟨⟨⟨h1',h2⟩,h3⟩,h4⟩,h5⟩:=h
 have e:aZ (n:Int)=(lZ n).map Pu:=by unfold aZ;rw[pQ (List.isPerm_iff.mp h1') (eY h2)]
 rw[e]
 have h4':=eY h4
 obtain⟨w1,w2⟩:=zA (n:=(n:Int)) (ts:=(lZ n).map Pu) (by omega) (by omega) h4' fun p hp=>by
  have z:=jT.mp h3 p hp
  simp only[qm]at z
  exact⟨eY z.1.1,eY z.1.2,eY z.2⟩
 exact⟨w1,w2,fun i j hi hj=>eq_of_beq (jT.mp (jT.mp h5 i (m8.mpr hi)) j (m8.mpr hj))⟩
theorem Val.ring{n:Nat}(h0:3<=n)(h1:n<=10){f:Int×Nat}(h:Val n (aZ (n:Int)) f):(n %2=1->f=aB (n:Int) (n/2))/\(n %2=0->f=(2,1)):=by
 obtain⟨o,Z,rfl,p,_,F,_⟩:=h
 have F':=yC (Jm h0 h1).2.2 F
 have odd:∀k:Nat,0<k->n=2*k+1->Sx.rR (2*k+1) (Sx.aZ (2*k+1)) (k:Int) ((2*k+1:Nat):Int)->aB Z o=aB (n:Int) (n/2):=fun k hk e cv=>by
  subst e
  rw[show(2*k+1)/2=k by omega]
  exact low_eq p hk (Sx.VJ hk cv F')
 have even:Sx.rR n (Sx.aZ n) 1 2->aB Z o=(2,1):=fun cv=>by
  have:=low_eq (c:=2) (d:=1) p (by decide) (Sx.lZ (by omega) cv F')
  exact this
 obtain⟨c3,c5,c7,c9⟩:=Sx.Jp
 obtain⟨c4,c6,c8,c10⟩:=Sx.EY
 have c:n=3\/n=4\/n=5\/n=6\/n=7\/n=8\/n=9\/n=10:=by omega
 rcases c with rfl|rfl|rfl|rfl|rfl|rfl|rfl|rfl
 ·exact⟨fun _=>odd 1 (by decide) rfl c3,fun z=>by cases z⟩
 ·exact⟨(fun z=>by cases z),fun _=>even c4⟩
 ·exact⟨fun _=>odd 2 (by decide) rfl c5,fun z=>by cases z⟩
 ·exact⟨(fun z=>by cases z),fun _=>even c6⟩
 ·exact⟨fun _=>odd 3 (by decide) rfl c7,fun z=>by cases z⟩
 ·exact⟨(fun z=>by cases z),fun _=>even c8⟩
 ·exact⟨fun _=>odd 4 (by decide) rfl c9,fun z=>by cases z⟩
 ·exact⟨(fun z=>by cases z),fun _=>even c10⟩
def Wk(x:List Int):List (List Int)->List (List Int)
 |[]=>[x]
 |y::ys=>if HT.lexLt y x=true then y::Wk x ys else x::y::ys
def Qi:List (List Int)->List (List Int)
 |[]=>[]
 |x::xs=>Wk x (Qi xs)
def rT(m k:Nat):List (List Int):=Qi (cD m k)
def Jy:List (Nat×Nat):=[(5,2),(4,2),(5,3),(5,1),(10,1),(3,2),(1,1),(10,9),(5,4),(4,1),(10,10),(6,5),(3,1)]
def wA(L:List (List Int))(i j:Nat):Bool:=if i<j then eF L (i:Int) (j:Int)else if j<i then eF L (j:Int) (i:Int)else false
def Td(N:Nat)(L:List (List Int))(b:Bool):Bool:=(List.range N).all fun i=>(List.range N).all fun j=>decide (i=j)||wA L i j==b
def Jt(p:Nat×Nat):Bool:=decide (1<=p.2)&&decide (p.2<=p.1)&&decide (p.1<=10)&&decide (1<=(cD p.1 p.2).length)&&decide ((cD p.1 p.2).length<=10)&&(rT p.1 p.2).isPerm (cD p.1 p.2)&&Vw (rT p.1 p.2)&&
 (if p.2*2<=p.1 then(if p.2=1 then decide ((cD p.1 p.2).length=p.1)&&Td p.1 (rT p.1 p.2) true else decide (p=(5,2)\/p=(4,2)))else Td (cD p.1 p.2).length (rT p.1 p.2) false)
theorem MK:(Jy.all Jt)=true:=by decide+kernel
theorem Xk:Sx.rR 6 (wA (rT 4 2)) ((1:Nat):Int) ((2:Nat):Int):=Sx.dF (S:=fun k p=>decide (p/3=k)) (d:=1) (by decide+kernel) (by decide+kernel)
theorem Xj:Sx.rR 10 (wA (rT 5 2)) ((2:Nat):Int) ((5:Nat):Int):=Sx.dF (S:=fun k p=>decide ((k:Int)∈(rT 5 2).getD p [])) (d:=2) (by decide+kernel) (by decide+kernel)
theorem Py:wA (rT 4 2) 0 5=true/\(cD 4 2).length=6:=by decide+kernel
theorem Px:(wA (rT 5 2) 0 7=true/\wA (rT 5 2) 7 3=true/\wA (rT 5 2) 3 4=true/\wA (rT 5 2) 4 9=true/\wA (rT 5 2) 9 0=true/\wA (rT 5 2) 1 5=true/\wA (rT 5 2) 5 8=true/\wA (rT 5 2) 8 2=true/\wA (rT 5 2) 2 6=true/\wA (rT 5 2) 6 1=true)/\(cD 5 2).length=10:=by decide+kernel
theorem Qs{N:Nat}{L:List (List Int)}{b:Bool}(h:Td N L b=true){i j:Nat}(hi:i<N)(hj:j<N)(e:i≠j):wA L i j=b:=by
 have:=jT.mp (jT.mp h i (m8.mpr hi)) j (m8.mpr hj)
 rw[QV]at this
 rcases this with z|z
 ·exact absurd (eY z) e
 ·exact eq_of_beq z
theorem Nt{m k:Nat}(h:Qh m k=rT m k){i j:Nat}(hi:i<(cD m k).length)(hj:j<(cD m k).length):tN (Ua (m:Int) (k:Int)) i j=wA (rT m k) i j:=by
 have e:Ua (m:Int) (k:Int)=rows (eF (rT m k)) ((cD m k).length:Int) ((cD m k).length:Int).toNat:=by
  rw[<-h];rfl
 rw[e]
 unfold wA
 rcases Pb i j with c|c|c
 ·rw[aA c,Gv rfl c hj]
 ·subst c;rw[ao (oM _),ao (oM _),gA]
 ·rw[ao (by omega),aA c,wF,Gv rfl c hi]
theorem Val.picks{p:Nat×Nat}(hp:p∈Jy):1<=p.2/\p.2<=p.1/\p.1<=10/\(cD p.1 p.2).length<=10/\∀f,Val (cD p.1 p.2).length (Ua (p.1:Int) (p.2:Int)) f->f=if p.2*2<=p.1 then aB (p.1:Int) p.2 else(1,1):=by
 have h:=jT.mp MK p hp
 unfold Jt at h
 simp only[qm,wz]at h
 obtain⟨⟨⟨⟨⟨⟨⟨h1,h2⟩,h3⟩,h9⟩,h4⟩,h5⟩,h6⟩,h7⟩:=h
 refine⟨h1,h2,h3,h4,fun f V=> ?_⟩
 obtain⟨o,Z,rfl,po,_,F,_⟩:=V
 have eL:Qh p.1 p.2=rT p.1 p.2:=(pQ (List.isPerm_iff.mp h5) (eY h6)).symm
 have F':=yC (fun i j hi hj=>Nt eL hi hj) F
 by_cases c:p.2*2<=p.1
 ·rw[aA c]at h7⊢
  by_cases c1:p.2=1
  ·rw[aA c1,qm]at h7
   obtain⟨g1,g2⟩:=h7
   rw[eY g1]at F'
   have:=Sx.Kq (fun i j hi hj e=>Qs g2 hi hj e) F'
   rw[c1]
   exact low_eq po (by decide) this
  ·rw[ao c1]at h7
   rcases eY h7 with rfl|rfl
   ·rw[show((5,2):Nat×Nat).1=5 from rfl,show((5,2):Nat×Nat).2=2 from rfl,Px.2]at F'
    exact low_eq po (by decide) (Sx.Fg Px.1 Xj F')
   ·rw[show((4,2):Nat×Nat).1=4 from rfl,show((4,2):Nat×Nat).2=2 from rfl,Py.2]at F'
    have:=Sx.Jw (by decide) (by decide) (by decide) Py.1 Xk (by decide) F'
    exact low_eq po (by decide) (by
     show Z*2=4*(o:Int)
     have:Z*1=2*(o:Int):=this
     omega)
 ·rw[ao c]at h7⊢
  have:=Sx.KY (by omega) (fun i j hi hj=>by
   by_cases e:i=j
   ·subst e;unfold wA;rw[ao (oM _),ao (oM _)]
   ·exact Qs h7 hi hj e) F'
  exact low_eq (c:=1) (d:=1) po (by decide) this
theorem Ao{n:Int}{ts:List (Int×Int)}{s t:List Int}(hn:0<=n)(h:aD n ts)(h1:n6 s (rows (qH ts) n n.toNat) true n.toNat)(h2:n6 t ts false n.toNat):s=t:=by
 obtain⟨ss,⟨a1,a2⟩,b⟩:=h1
 refine JW ⟨ss,⟨a1.trans (Bd fun i j i0 i1 j0 j1 e=> ?_),a2⟩,b⟩ h2
 rw[zG h i0 (by omega) j0 (by omega) e]
 cases aG ts i j<;>rfl
theorem xP{n:Int}{ts:List (Int×Int)}(hn:0<=n)(h:aD n ts)(hs:ts.Pairwise fG):rows (qH (rows (qH ts) n n.toNat)) n n.toNat=ts:=by
 refine MF hn h hs fun i j h0 h1 h2=> ?_
 show(!decide ((i,j)∈rows (qH ts) n n.toNat))=_
 rw[KJ h0 h1 h2]
 show(!!decide ((i,j)∈ts))=_
 rw[Zo]
theorem gD{so:Int->Int->Bool}{m:Int}(h0:0<=m)(h1:m<=10):aD m (rows so m m.toNat)/\jm m (rows so m m.toNat):=zA h0 h1 (Li so m _) (uV (so:=so) (m:=m)).lt
section
variable{P:Program}{w:World}{K:W.Frag}{mg:Str->Option Value}{base:Heap}
def uL(K:W.Frag):Sp:=fun vs H Q _=>∃(tp:Addr) (t m:Int),vs=[.ref tp,.int m]/\H tp=some (.lst [.int t])/\0<=m/\m<=10/\
 ∀r n ts H' t',aV tp H H'->H' tp=some (.lst [.int t'])->bJ K H' r n ts->n<=m->Q (.ref r) H'
theorem jA:FnScope ["tape","most","n","often","ties","i","j"] ["tape","most"] (defScope Tg):=fsc
theorem Nh{f f1:Addr}{fd d1:FuncData}(F:Fun K "_law_aweb" "_law_aweb" Tg f fd)(D1:bF K mg "_law_adigit" Us ["tape","many"] f1 d1)(G1:FnOk P w K mg base CX0 1 f1 d1 ["tape","many"] (Ig K))(aJ:mg "range"=none)(cT:mg "tuple"=none):
  FnOk P w K mg base CX0 2 f fd ["tape","most"] (uL K):=by
 refine F.ok jA (fun vs H Q E h=> ?_) (fun cdv A outer s H vs Q E hr h=> ?_)
 ·obtain⟨tp,t,m,rfl,_⟩:=h
  rfl
 obtain⟨tp,t,m,rfl,hT,hm0,hm1,q⟩:=h
 refine⟨_,(aO (cg (i:=2) jA.nd rfl (Or.inl rfl) (pc G1 hr D1 (aj (pv 0) (aj (bH pI (pv 1) aL) aq)))) (aO (cg (i:=3) jA.nd rfl (Or.inl rfl) (bH pI aL (pc G1 hr D1 (aj (pv 0) (aj aL aq))))) (aO (cg (i:=4) jA.nd rfl (Or.inl rfl) (wD aq)) (aO (ps_for was rfl (zp rfl aJ (aj (pv 2) aq)) (cJ (i:=5) jA.nd rfl (Or.inl rfl)) (bA (ps_for was rfl (pi_range2 rfl aJ (aj (bH pI (pv 5) aL) (aj (pv 2) aq))) (cJ (i:=6) jA.nd rfl (Or.inl rfl)) (bA (o8 (jM op_lt (pc G1 hr D1 (aj (pv 0) (aj aL aq))) (pv 3) (nomark _)) (bA (lF (pe_bm Ln wdu wdv mt_append (pv 4) (aj (gP (aj (pv 5) (aj (pv 6) aq))) aq)))) o9))))) (bA (cG (gP (aj (pv 2) (aj (Lf Lx rfl cT (by decide+kernel) (aj (pv 4) aq)) aq))))))))),?_⟩
 refine⟨_,rfl,_,rfl,_,_,rfl,rfl,tp,t,m+1,rfl,hT,by omega,by omega,fun n t1 hn0 hn1'=> ?_⟩
 have hn1:n<=10:=by omega
 refine⟨_,rfl,tp,t1,5,rfl,aH,by decide,by decide,fun o t2 ho0 ho1=>⟨_,_,rfl,rfl,?_⟩⟩
 refine⟨(by show 0<=sizeLine;decide),fun tl htl=> ?_⟩
 have ntc:tl≠tp:=JT (aH (H:=upd H tp (.lst [.int t1])) (a:=tp) (o:= .lst [.int t2])) htl
 have s2:=aP htl (.lst [])
 have tl0:H tl=none:=by
  have z:∀t1 t2:Int,upd (upd H tp (.lst [.int t1])) tp (.lst [.int t2])=upd H tp (.lst [.int t2]):=fun _ _=>upd_upd
  rw[z,cL ntc]at htl
  exact htl
 refine⟨_,rfl,n,rfl,by omega,by omega,?_⟩
 refine Lw (n:=n.toNat) (fun i σ H'=>aV tp H H'/\(∃t',H' tp=some (.lst [.int t']))/\fW K H' tl (rows tt n i) (fun _=>True)/\∃a4 a5,σ=[some (.ref tp),some (.int m),some (.int n),some (.int (1+o)),some (.ref tl),a4,a5])
  ⟨((aV.refl tp H).upd.upd).trans (s2.x _),⟨_,s2 _ _ aH⟩,fW.nil aH,_,_,rfl⟩ (fun i σ H' hi p=> ?_) (fun σ H' p=> ?_)
 ·obtain⟨x,⟨t0,c⟩,tl1,a4,a5,rfl⟩:=p
  refine⟨_,rfl,_,_,rfl,rfl,_,rfl,_,_,rfl,⟨by omega,by omega,by omega,by omega⟩,?_⟩
  refine Lw (n:=(n-(0+(i:Int)+1)).toNat) (fun k σ H'=>aV tp H H'/\(∃t',H' tp=some (.lst [.int t']))/\fW K H' tl (rows tt n i++row tt (0+(i:Int)) k) (fun _=>True)/\∃a5,σ=[some (.ref tp),some (.int m),some (.int n),some (.int (1+o)),some (.ref tl),some (.int (0+(i:Int))),a5])
   ⟨x,⟨_,c⟩,by rw[show row tt (0+(i:Int)) 0=[]from rfl,Ci];exact tl1,_,rfl⟩ (fun k σ H' hk p=> ?_) (fun σ H' p=> ?_)
  ·obtain⟨x,⟨t0,c⟩,tl1,a5,rfl⟩:=p
   refine⟨_,rfl,tp,t0,6,rfl,c,by decide,by decide,fun d t2 hd0 hd1=>⟨_,rfl,_,_,rfl,rfl,_,rfl,?_⟩⟩
   have x2:aV tp H' (upd H' tp (.lst [.int t2])):=(aV.refl _ _).upd
   have c2:(upd H' tp (.lst [.int t2])) tp=some (.lst [.int t2]):=aH
   have tl2:=tl1.step x2 c ntc
   have er:rows tt n i++row tt (0+(i:Int)) (k+1)=(rows tt n i++row tt (0+(i:Int)) k)++[(0+(i:Int),0+(i:Int)+1+(k:Int))]:=by rw[xr,aA (show tt _ _=true from rfl),ZM]
   rw[er]
   generalize upd H' tp (.lst [.int t2])=H2 at *
   refine ite2 (fun cc=> ?_) (fun cc=> ?_)
   ·obtain⟨rs,ts,h1,h2,h3,h4⟩:=tl2
    have hl:=sub_len hn1 (by omega) h3
    have hrl:=h2.len
    rw[aM]at hrl
    refine⟨_,rfl,.inl ⟨rfl,_,SqL.of h1⟩,_,rfl,_,rfl,(by show 2<=sizeLine;decide),fun p hp=> ?_⟩
    have s3:=aP hp (.tup [.int (0+(i:Int)),.int (0+(i:Int)+1+(k:Int))])
    refine⟨tl,rs,_,rfl,rfl,s3 _ _ h1,(by rw[dO];omega),?_⟩
    have xw:aV tl (upd H2 p (.tup [.int (0+(i:Int)),.int (0+(i:Int)+1+(k:Int))])) (upd (upd H2 p (.tup [.int (0+(i:Int)),.int (0+(i:Int)+1+(k:Int))])) tl (.lst (rs++[.ref p]))):=(aV.refl _ _).upd
    refine⟨fun q o hq e=> ?_,⟨t2,xw _ _ ntc.symm (s3 _ _ c2)⟩,fW.push (s3 _ _ h1) (h2.same s3) h3 h4 (SqT.of aH) trivial,_,rfl⟩
    have nq:q≠tl:=fun z=>by rw[z,tl0]at e;cases e
    exact xw _ _ nq (s3 _ _ (x2 _ _ hq (x _ _ hq e)))
   ·exact⟨x.trans x2,⟨_,c2⟩,tl2.mono (List.sublist_append_left _ _),_,rfl⟩
  ·obtain⟨x,c,tl1,a5,rfl⟩:=p
   rw[<-jB]at tl1
   exact⟨x,c,tl1,_,_,rfl⟩
 ·obtain⟨x,⟨t0,c⟩,⟨rs,ts,h1,h2,h3,h4⟩,a4,a5,rfl⟩:=p
  refine⟨_,rfl,_,rfl,tl,rs,rfl,.inl ⟨SqL.of h1,fun t ht=>⟨(by show 2<=sizeLine;decide),fun wb hwb=> ?_⟩⟩⟩
  have s3:=aP ht (.tup rs)
  have s4:=aP hwb (.tup [.int n,.ref t])
  have Lr:=s3.trans s4
  obtain⟨g1,g2⟩:=zB hn0 hn1 h3
  exact q wb n ts _ t0 (x.trans (Lr.x _)) (Lr _ _ c) ⟨⟨t,rs,SqT.of aH,SqT.of (s4 _ _ aH),h2.same Lr⟩,hn0,hn1,g1,g2⟩ (by omega)
def yE(f:Int×Nat):PyData:= .tuple [.int f.1,.int ((f.2:Nat):Int)]
theorem m6.dv{H:Hp}{a:Addr}{f:Int×Nat}(h:m6 K H a f):DV K H (.ref a) (yE f):= .tup h (.cons (.int _) (.cons (.int _) .nil))
theorem Same.V7{H0 H H':Hp}{d:Addr}(s:Same H0 H)(n:H0 d=none)(e:aV d H H'):Same H0 H':=fun b u h=>e _ _ (fun z=>by rw[z,n]at h;cases h) (s _ _ h)
theorem Gj(xs ys:List Int):PyData.eqv (.tuple (xs.map PyData.int)) (.tuple (ys.map PyData.int))=decide (xs=ys):=by
 have:∀(xs ys:List Int),PyData.eqvAll (xs.map PyData.int) (ys.map PyData.int)=decide (xs=ys):=by
  intro xs
  induction xs with
  |nil=>intro ys;cases ys<;>simp[PyData.eqvAll]
  |cons x xs ih=>intro ys;cases ys with
   |nil=>simp[PyData.eqvAll]
   |cons y ys=>
    have e:(x==y)=decide (x=y):=by rw[uE];simp
    simp[PyData.eqvAll,PyData.eqv,ih,e]
 simp[PyData.eqv,this]
theorem nQ(f g:Int×Nat):PyData.eqv (yE f) (yE g)=decide (f=g):=by
 have h:=Gj [f.1,((f.2:Nat):Int)] [g.1,((g.2:Nat):Int)]
 refine(show PyData.eqv (yE f) (yE g)=_ from h).trans (decide_eq_decide.mpr ⟨fun e=> ?_,fun e=>by rw[e]⟩)
 obtain⟨e1,e2⟩:=List.cons.inj e
 obtain⟨e3,_⟩:=List.cons.inj e2
 exact Cr e1 (by omega)
theorem Hz(n:Nat):dR n=(upto n).map V.int:=by unfold dR upto;rw[zq];rfl
theorem zE(n:Int)(ts:List (Int×Int)):(fY n ts).depth<=3:=by
 have h:=oV ts
 show max 0 (max (PyData.depthAll (ts.map pairD)+1) 0)+1<=3
 omega
theorem q9:∀ts:List (Int×Int),PyData.eqvAll (ts.map pairD) (ts.map pairD)=true
 |[]=>by simp[PyData.eqvAll]
 |p::ts=>by
  show(PyData.eqv (pairD p) (pairD p)&&PyData.eqvAll (ts.map pairD) (ts.map pairD))=true
  rw[q9 ts,rA,cI rfl];rfl
theorem Oh(n:Int)(ts:List (Int×Int)):PyData.eqv (fY n ts) (fY n ts)=true:=by
 show(PyData.eqv (.int n) (.int n)&&(PyData.eqvAll (ts.map pairD) (ts.map pairD)&&PyData.eqvAll [] []))=true
 rw[q9 ts]
 have e:PyData.eqv (.int n) (.int n)=true:=by show(n==n)=true;simp
 rw[e];simp[PyData.eqvAll]
theorem Du(n:Int)(ts:List (Int×Int)):(fY n ts).canLay0=true:=by
 show(true&&(PyData.canLayAll0 (ts.map pairD)&&true))=true
 rw[jE ts];rfl
theorem Mh(n:Int)(ts:List (Int×Int)):min (fY n ts).depth (fY n ts).depth<=64:=by
 have:=zE n ts
 omega
theorem vL{f g:Int×Nat}(hf:0<f.2)(hg:0<g.2):oY (f.2*g.2) [f,g]=f.1*(g.2:Int)+g.1*(f.2:Int):=by
 show f.1*((f.2*g.2/f.2:Nat):Int)+(g.1*((f.2*g.2/g.2:Nat):Int)+0)=_
 rw[Yi _ hf,Nat.mul_div_cancel _ hg,Zu]
def Ii(K:W.Frag):Sp:=fun vs H Q _=>∃(tp a:Addr) (t:Int) (n:Nat) (ts:List (Int×Int)),vs=[.ref tp,.ref a]/\H tp=some (.lst [.int t])/\bJ K H a (n:Int) ts/\n<=5/\
 ∀H' t',aV tp H H'->H' tp=some (.lst [.int t'])->Q (.bl true) H'
theorem cO:FnScope ["tape","one","other","first","second","high","room","small","told","turned"] ["tape","one"] (defScope XR):=fsc
theorem Nj{f f1 f2 f3 f4 f5 f6 f7 f8 f9 Za f11 Y9:Addr}{fd d1 d2 d3 d4 d5 d6 d7 d8 d9 d10 d11 d12:FuncData}(F:Fun K "_law_atwo_right" "_law_atwo_right" XR f fd)(D1:bF K mg "_law_aweb" Tg ["tape","most"] f1 d1)(G1:FnOk P w K mg base CX0 2 f1 d1 ["tape","most"] (uL K))(D2:bF K mg "value" lQ ["web"] f2 d2)(G2:FnOk P w K mg base CX0 10 f2 d2 ["web"] (uH K))(D3:bF K mg "_law_ano_more" XC ["one","other"] f3 d3)(G3:FnOk P w K mg base CX0 1 f3 d3 ["one","other"] (Qa K))(D4:bF K mg "across" lW ["one","other"] f4 d4)(G4:FnOk P w K mg base CX0 9 f4 d4 ["one","other"] (w5 K))(D5:bF K mg "_law_asum" eZ ["some"] f5 d5)(G5:FnOk P w K mg base CX0 2 f5 d5 ["some"] (zK K))(D6:bF K mg "beside" je ["one","other"] f6 d6)(G6:FnOk P w K mg base CX0 8 f6 d6 ["one","other"] (qz K))(D7:bF K mg "cut_down" iw ["web","some"] f7 d7)(G7:FnOk P w K mg base CX0 8 f7 d7 ["web","some"] (P0 K))(D8:bF K mg "within" lO ["one","other"] f8 d8)(G8:FnOk P w K mg base CX0 8 f8 d8 ["one","other"] (wR K))(D9:bF K mg "_law_alow" cX ["a","b"] f9 d9)(G9:FnOk P w K mg base CX0 1 f9 d9 ["a","b"] (uK K))(D10:bF K mg "other_web" fL ["web"] Za d10)(G10:FnOk P w K mg base CX0 8 Za d10 ["web"] (CP K))(D11:bF K mg "greatest_crowd" XQ ["web"] f11 d11)(G11:FnOk P w K mg base CX0 9 f11 d11 ["web"] (wY K))(D12:bF K mg "greatest_apart" XM ["web"] Y9 d12)(G12:FnOk P w K mg base CX0 9 Y9 d12 ["web"] (wZ K))(cT:mg "tuple"=none)(aJ:mg "range"=none)(xT:mg "min"=none)(cU:mg "len"=none):
  FnOk P w K mg base CX0 11 f fd ["tape","one"] (Ii K):=by
 refine F.ok cO (fun vs H Q E h=> ?_) (fun cdv A outer s H vs Q E hr h=> ?_)
 ·obtain⟨tp,a,t,n,ts,rfl,_⟩:=h
  rfl
 obtain⟨tp,a,t,n,ts,rfl,Y0,hA,hn5,qq⟩:=h
 refine⟨_,(aO (cg (i:=2) cO.nd rfl (Or.inl rfl) (pc G1 hr D1 (aj (pv 0) (aj aL aq)))) (aO (cg (i:=3) cO.nd rfl (Or.inl rfl) (pc G2 hr D2 (aj (pv 1) aq))) (aO (cg (i:=4) cO.nd rfl (Or.inl rfl) (pc G2 hr D2 (aj (pv 2) aq))) (aO (cg (i:=5) cO.nd rfl (Or.inl rfl) (pv 3)) (aO (o8 (pt_val (pc G3 hr D3 (aj (pv 3) (aj (pv 4) aq)))) (bA (cg (i:=5) cO.nd rfl (Or.inl rfl) (pv 4))) o9) (aO (o8 (PW.pt (pw_or (jM (qQ hr.units) (pc G2 hr D2 (aj (pc G6 hr D6 (aj (pv 1) (aj (pv 2) aq))) aq)) (pv 5) (nomark _)) (pw_or1 (jM (qQ hr.units) (pc G2 hr D2 (aj (pc G4 hr D4 (aj (pv 1) (aj (pv 2) aq))) aq)) (pc G5 hr D5 (aj (wD (aj (pv 3) (aj (pv 4) aq))) aq)) (nomark _))))) (bA (cG pe_bl)) o9) (aO (cg (i:=6) cO.nd rfl (Or.inl rfl) aL) (aO (o8 (jM op_gt (bK fH (pv 1) aL (fun _ _=>rfl)) aL (nomark _)) (bA (cg (i:=6) cO.nd rfl (Or.inl rfl) (bH jg aL (bK fH (pv 1) aL (fun _ _=>rfl))))) o9) (aO (cg (i:=7) cO.nd rfl (Or.inl rfl) (pc G7 hr D7 (aj (pv 2) (aj (xM rfl rfl cT rfl aJ (aj (gQ (call_min2 rfl) rfl xT (by decide+kernel) (aj (bK fH (pv 2) aL (fun _ _=>rfl)) (aj (pv 6) aq))) aq)) aq)))) (aO (cg (i:=8) cO.nd rfl (Or.inl rfl) (pc G2 hr D2 (aj (pv 7) aq))) (aO (o8 (jM (qQ hr.units) (pc G2 hr D2 (aj (pc G8 hr D8 (aj (pv 1) (aj (pv 7) aq))) aq)) (pc G9 hr D9 (aj (bH rW (bK fH (pv 3) aL (fun _ _=>rfl)) (bK fH (pv 8) aL (fun _ _=>rfl))) (aj (bH rW (bK fH (pv 3) aL (fun _ _=>rfl)) (bK fH (pv 8) aL (fun _ _=>rfl))) aq))) (nomark _)) (bA (cG pe_bl)) o9) (aO (cg (i:=9) cO.nd rfl (Or.inl rfl) (pc G10 hr D10 (aj (pv 1) aq))) (bA (cG (pe_and (pe_cmpR op_eq (gQ yX rfl cU wk (aj (pc G11 hr D11 (aj (pv 9) aq)) aq)) (gQ yX rfl cU wk (aj (pc G12 hr D12 (aj (pv 1) aq)) aq)) (nomark _)) (pe_one (pe_cmpR (JB hr.units) (pc G10 hr D10 (aj (pv 9) aq)) (pv 1) (nomark _)))))))))))))))))),?_⟩
 refine⟨_,rfl,tp,t,5,rfl,Y0,by decide,by decide,fun r n2' HD H1 t1 x1 ht1 hB hn2=> ?_⟩
 obtain⟨n2,rfl⟩:∃m:Nat,n2'=(m:Int):=⟨n2'.toNat,by have:=hB.h0;omega⟩
 have zf:=hA.Jc x1 Y0
 refine⟨_,rfl,a,n,ts,rfl,zf,fun va ss1 o1 Z1 Y1 X1 H2 s2 e2 hS1 WD=> ?_⟩
 have V1:Val n ts (aB Z1 o1):=fZ hS1 WD
 generalize aB Z1 o1=f at *
 refine⟨_,rfl,r,n2,HD,rfl,hB.same s2,fun vb ss2 o2 Z2 Y2 X2 H3 s3 e3 hS2 hW2=> ?_⟩
 have V2:Val n2 HD (aB Z2 o2):=fZ hS2 hW2
 generalize aB Z2 o2=g at *
 have e2':m6 K H3 va f:=s3.tup e2
 have k1:=V1.k
 have k2:=V2.k
 have s23:=s2.trans s3
 have fb:=k1.big
 have gb:=k2.big
 refine⟨_,rfl,?_⟩
 dsimp only[gName,List.set]
 refine gW (fun σ' H'=>∃hg,σ'=[some (.ref tp),some (.ref a),some (.ref r),some (.ref va),some (.ref vb),some (.ref hg),none,none,none,none]/\H'=H3/\m6 K H3 hg (if f.1*(g.2:Int)<=g.1*(f.2:Int)then g else f)) (fun N hN=> ?_) (fun σ' H' p=> ?_)
 ·refine⟨_,rfl,_,rfl,va,vb,f.1,g.1,f.2,g.2,rfl,e2',e3,by omega,by omega,_,rfl,?_⟩
  refine ite2 (fun c=> ?_) (fun c=> ?_)
  ·have c':=eY c
   exact⟨_,rfl,hN _ _ ⟨vb,rfl,rfl,by rw[aA c'];exact e3⟩⟩
  ·have c':¬f.1*(g.2:Int)<=g.1*(f.2:Int):=fun z=>c (cI z)
   exact hN _ _ ⟨va,rfl,rfl,by rw[ao c'];exact e2'⟩
 obtain⟨hg,rfl,rfl,eh⟩:=p
 have Ba:=zf.same s23
 have hB3:=hB.same s23
 -- side by side
 refine⟨_,rfl,_,rfl,a,r,n,n2,ts,HD,rfl,Ba.web,hB3.web,Ba.ok,hB3.ok,Ba.len,hB3.len,by omega,fun rb H4 s4 W4=> ?_⟩
 have ub:=zA (n:=(n:Int)+(n2:Int)) (ts:=Ls n ts HD) (by omega) (by omega) (rE Ba.pk hB3.pk Ba.Q6 hB3.Q6) fun p hp=>by
  have:=Bw Ba.pk hB3.pk (by omega) (by omega) p hp
  exact⟨this.1,this.2.1,this.2.2.1⟩
 refine⟨rb,_,_,rfl,⟨W4,by omega,by omega,ub.1,ub.2⟩,fun vc ss3 o3 Z3 Y3 X3 H5 s5 e5 hS3 hW3=> ?_⟩
 have V3:Val (n+n2) (Ls n ts HD) (aB Z3 o3):=by
  have:=fZ hS3 hW3
  rwa [show((n:Int)+(n2:Int)).toNat=n+n2 by omega]at this
 generalize aB Z3 o3=k3 at *
 have Je:=s4.trans s5
 obtain⟨b1,b2⟩:=KR (fun p=>vo) Ba.pk hB3.pk
 have ek3:=V1.beside b1 b2 V2 V3
 refine⟨_,rfl,yE k3,yE _,m6.dv e5,m6.dv (Je.tup eh),rfl,rfl,(by show min 1 1<=64;decide),_,rfl,?_⟩
 rw[nQ,cI ek3]
 refine iteF ?_
 have WQ:=Ba.same Je
 have hB5:=hB3.same Je
 -- across
 refine⟨_,rfl,_,rfl,a,r,n,n2,ts,HD,rfl,WQ.web,hB5.web,WQ.ok,hB5.ok,WQ.pk,hB5.pk,by omega,by omega,by omega,fun rc H6 s6 W6=> ?_⟩
 have uc:=gD (so:=GQ (n:Int) ts HD true) (m:=(n:Int)+(n2:Int)) (by omega) (by omega)
 refine⟨rc,_,_,rfl,⟨W6,by omega,by omega,uc.1,uc.2⟩,fun vd ss4 o4 Z4 Y4 X4 H7 s7 e7 hS4 hW4=> ?_⟩
 have V4:Val (n+n2) (rows (GQ (n:Int) ts HD true) ((n:Int)+(n2:Int)) ((n:Int)+(n2:Int)).toNat) (aB Z4 o4):=by
  have:=fZ hS4 hW4
  rwa [show((n:Int)+(n2:Int)).toNat=n+n2 by omega]at this⊢
 generalize aB Z4 o4=k4 at *
 obtain⟨c1,c2⟩:=K3 (m:=(n:Int)+(n2:Int)) (by omega) Ba.pk hB3.pk
 have ek4:=V1.across c1 c2 V2 V4
 have s57:=s6.trans s7
 have s37:=Je.trans s57
 refine⟨_,rfl,_,rfl,(by show 2<=sizeLine;decide),fun p6 hp6=> ?_⟩
 have s8:=aP hp6 (.lst [.ref va,.ref vb])
 have hD:Ze (f.2*g.2) [f,g]:=by
  refine⟨OD k1.pos k2.pos,dW (UG k1.big k2.big) (by decide),fun q hq=> ?_⟩
  simp only[eN,Zy,or_false]at hq
  rcases hq with rfl|rfl
  ·exact⟨k1.nn,k1.pos,ZG _ _⟩
  ·exact⟨k2.nn,k2.pos,LQ _ _⟩
 refine⟨p6,_,[f,g],f.2*g.2,rfl,SqL.of aH,.cons ⟨va,rfl,(s37.trans s8).tup e2'⟩ (.cons ⟨vb,rfl,(s37.trans s8).tup e3⟩ .nil),hD,(by show 2<=1000;decide),fun pS H8 s9 eS=> ?_⟩
 rw[vL k1.pos k2.pos,<-ek4]at eS
 refine⟨yE k4,yE k4,m6.dv ((s8.trans s9).tup e7),m6.dv eS,rfl,rfl,(by show min 1 1<=64;decide),_,rfl,?_⟩
 rw[nQ,cI rfl]
 refine iteF ?_
 have YL:=s37.trans (s8.trans s9)
 have R6:=Ba.same YL
 have hB8:=hB3.same YL
 have f8:=YL.tup e2'
 obtain⟨tt1,rr1,w1,w2,w3⟩:=id R6.web
 obtain⟨tt2,rr2,y1,y2,y3⟩:=id hB8.web
 -- within
 refine gW (fun σ' H'=>σ'=[some (.ref tp),some (.ref a),some (.ref r),some (.ref va),some (.ref vb),some (.ref hg),none,none,none,none]/\H'=H8) (fun N hN=>hN _ _ ⟨rfl,rfl⟩) (fun σ' H8' p=> ?_)
 obtain⟨rfl,rfl⟩:=p
 refine gW (fun σ' H'=>σ'=[some (.ref tp),some (.ref a),some (.ref r),some (.ref va),some (.ref vb),some (.ref hg),some (.int 10),none,none,none]/\H'=H8') (fun N hN=>by show N [some (.ref tp),some (.ref a),some (.ref r),some (.ref va),some (.ref vb),some (.ref hg),some (.int 10),none,none,none] H8';exact hN _ _ ⟨rfl,rfl⟩) (fun σ' H' p=> ?_)
 obtain⟨rfl,rfl⟩:=p
 refine gW (fun σ' zj=>∃rm:Int,σ'=[some (.ref tp),some (.ref a),some (.ref r),some (.ref va),some (.ref vb),some (.ref hg),some (.int rm),none,none,none]/\zj=H'/\0<=rm/\(n:Int)*rm<=10) (fun N hN=> ?_) (fun σ' H9 p=> ?_)
 ·refine⟨_,rfl,a,_,_,.int n,rfl,rfl,w1,rfl,_,_,rfl,rfl,_,rfl,?_⟩
  refine ite2 (fun c=> ?_) (fun c=> ?_)
  ·have c':0<(n:Int):=eY c
   refine⟨_,rfl,a,_,_,.int n,rfl,rfl,w1,rfl,_,_,rfl,rfl,⟨c',by omega⟩,?_⟩
   have:=Int.ediv_mul_le 10 (show(n:Int)≠0 by omega)
   exact hN _ _ ⟨10/(n:Int),rfl,rfl,Int.ediv_nonneg (by decide) (by omega),by rw[jN];exact this⟩
  ·have c':¬0<(n:Int):=fun z=>c (cI z)
   exact hN _ _ ⟨10,rfl,rfl,by decide,by omega⟩
 obtain⟨rm,rfl,rfl,rm0,rm1⟩:=p
 refine⟨_,rfl,_,rfl,r,_,_,.int n2,rfl,rfl,y1,rfl,_,rfl,_,_,rfl,?_⟩
 obtain⟨m,em,m0,m1⟩:∃m:Nat,(if rm<(n2:Int)then rm else(n2:Int))=(m:Int)/\m<=n2/\(m:Int)<=rm:=⟨(if rm<(n2:Int)then rm else(n2:Int)).toNat,by split<;>omega,by split<;>omega,by split<;>omega⟩
 rw[em]
 refine⟨(m:Int),rfl,by omega,by omega,fun l hl=> ?_⟩
 rw[Hz]
 have sl:=aP hl (.tup ((upto (m:Int).toNat).map V.int))
 have sx:rK (n2:Int) (upto (m:Int).toNat):=⟨(Cu (m:Int)).Q6,fun x hx=>by have:=(Cu (m:Int)).lt x hx;omega⟩
 refine⟨r,l,n2,HD,upto (m:Int).toNat,rfl,hB8.same sl,SqT.of aH,sx,fun rd Zd Mx W10=> ?_⟩
 rw[Hw]at W10
 rw[show(((m:Int).toNat:Nat):Int)=(m:Int) by omega]at W10
 have ud:=gD (so:=T8 (upto (m:Int).toNat) HD) (m:=(m:Int)) (by omega) (by omega)
 generalize rows (T8 (upto (m:Int).toNat) HD) (m:Int) (m:Int).toNat=T6 at *
 have NT:bJ K Zd rd (m:Int) T6:=⟨W10,by omega,by omega,ud.1,ud.2⟩
 refine⟨_,rfl,rd,m,T6,rfl,NT,fun ve ss5 o5 Z5 Y5 X5 H11 s11 e11 hS5 hW5=> ?_⟩
 have V5:Val m T6 (aB Z5 o5):=fZ hS5 hW5
 generalize aB Z5 o5=k5 at *
 have q5:=V5.k
 have nm0:0<=(n:Int)*(m:Int):=pq (by omega) (by omega)
 have nm:(n:Int)*(m:Int)<=10:=Lz (pA m1 (by omega)) rm1
 have Ri:=sl.trans (Mx.trans s11)
 refine⟨_,rfl,_,rfl,a,rd,n,m,ts,T6,rfl,R6.same Ri,NT.same s11,nm,fun re Um s12 W12=> ?_⟩
 have ue:=gD (so:=Mq (m:Int) ts T6) (m:=(n:Int)*(m:Int)) nm0 nm
 refine⟨re,_,_,rfl,⟨W12,nm0,nm,ue.1,ue.2⟩,fun vf ss6 o6 Z6 Y6 X6 Ul xq e13 hS6 hW6=> ?_⟩
 have V6:Val (n*m) (rows (Mq (m:Int) ts T6) ((n:Int)*(m:Int)) ((n:Int)*(m:Int)).toNat) (aB Z6 o6):=by
  have:=fZ hS6 hW6
  rwa [show((n:Int)*(m:Int)).toNat=n*m by rw[<-Pa];rfl]at this⊢
 generalize aB Z6 o6=k6 at *
 have ek6:=V1.within (Hr (m:=(n:Int)*(m:Int)) (Pa n m).symm (fun i j=>so8_eq Ba.pk NT.pk i j) Ba.pk NT.pk) V5 V6
 have Jf:=s12.trans xq
 have Y8:m6 K Ul va f:=(Ri.trans Jf).tup f8
 have g13:m6 K Ul ve k5:=Jf.tup e11
 have cf:=V1.cm (by omega)
 have cn:=k1.nn
 have q5b:=q5.big
 have q5n:=q5.nn
 have ppn:0<=f.1*k5.1:=pq cn q5n
 refine⟨_,rfl,va,_,_,.int f.1,rfl,rfl,Y8,rfl,_,rfl,ve,_,_,.int k5.1,rfl,rfl,g13,rfl,_,_,rfl,rfl,.inl ⟨by omega,by omega⟩,_,rfl,va,_,_,.int ((f.2:Nat):Int),rfl,rfl,Y8,rfl,_,rfl,ve,_,_,.int ((k5.2:Nat):Int),rfl,rfl,g13,rfl,_,_,rfl,rfl,.inl ⟨by omega,by omega⟩,?_⟩
 refine⟨(f.1*k5.1).toNat,f.2*k5.2,by rw[U4 ppn,Pa];rfl,OD k1.pos q5.pos,dW (UG k1.big q5.big) (by decide+kernel),fun pl H14 u v YQ e14 YZ=> ?_⟩
 rw[U4 ppn]at YZ
 have ew:(u,v)=k6:=(nO (OD k1.pos q5.pos) YZ).trans ek6.symm
 refine⟨yE k6,yE (u,v),m6.dv (YQ.tup e13),m6.dv (SqT.of e14),rfl,rfl,(by show min 1 1<=64;decide),_,rfl,?_⟩
 rw[nQ,cI ew.symm]
 refine iteF ?_
 have VB:=Ri.trans (Jf.trans YQ)
 have R8:=R6.same VB
 -- the other web
 refine⟨_,rfl,a,n,ts,rfl,R8,fun rt H15 YM W15=> ?_⟩
 have ut:=gD (so:=qH ts) (m:=(n:Int)) (by omega) (by omega)
 have WK:bJ K H15 rt (n:Int) (rows (qH ts) (n:Int) (n:Int).toNat):=⟨W15,by omega,by omega,ut.1,ut.2⟩
 refine⟨_,rfl,rt,n,_,rfl,WK,fun rg sg H16 Qc eg mG=>⟨rg,_,rfl,.inr eg,fun _=> ?_⟩⟩
 refine⟨_,rfl,a,n,ts,rfl,R8.same (YM.trans Qc),fun rh sh H17 VF eh' mH=>⟨rh,_,rfl,.inr eh',fun _=> ?_⟩⟩
 have es:=Ao (by omega) Ba.pk mG mH
 subst es
 refine⟨rfl,_,rfl,?_⟩
 rw[cI rfl]
 refine iteT ?_
 refine⟨_,rfl,rt,n,_,rfl,WK.same (Qc.trans VF),fun ro H18 s18 W18=> ?_⟩
 rw[xP (by omega) Ba.pk Ba.Q6]at W18
 have Qd:=YM.trans (Qc.trans (VF.trans s18))
 refine⟨_,rfl,_,_,W18.dv,(R8.same Qd).web.dv,Du _ _,Du _ _,Mh _ _,?_⟩
 rw[Oh]
 have VG:Same H1 H18:=s23.trans (YL.trans (VB.trans Qd))
 exact qq H18 t1 (x1.trans (VG.x tp)) (VG _ _ ht1)
theorem Oj{H:Hp}{xs ys:List V}{ds es:List PyData}(h:ju K H xs ds)(h':ju K H ys es):ju K H (xs++ys) (ds++es):=
 ju.rec (motive_1:=fun _ _ _=>True) (motive_2:=fun xs ds _=>ju K H (xs++ys) (ds++es)) trivial (fun _=>trivial) (fun _=>trivial) (fun _=>trivial) (fun _ _ _=>trivial) (fun _ _ _=>trivial) (fun _ _=>trivial) h' (fun h _ _ t=> .cons h t) h
def Ij(K:W.Frag):Sp:=fun vs H Q _=>∃(tp:Addr) (t:Int),vs=[.ref tp]/\H tp=some (.lst [.int t])/\
 ∀H' t',aV tp H H'->H' tp=some (.lst [.int t'])->Q (.bl true) H'
def YT(p:Nat×Nat):PyData:= .tuple [.int (p.1:Int),.int (p.2:Int)]
theorem Mr:∃(es1 es2:List Expr) (p1 p2 p3 q1 q2 q3 q4 q5:Pos),defBody Qz=(defBody Qz).take 6++(.Assign [.Name "pairs_v" p1] (.List es1 p2) p3:: .Assign [.Name "pairs_v" q1] (.BinOp (.Name "pairs_v" q2) .Add (.List es2 q3) q4) q5::(defBody Qz).drop 8)/\xX es1 ((Jy.take 11).map YT)=true/\xX es2 ((Jy.drop 11).map YT)=true:=
 ⟨_,_,_,_,_,_,_,_,_,_,rfl,by decide+kernel,by decide+kernel⟩
theorem ju.pairs{H:Hp}:∀{ps:List (Nat×Nat)} {xs:List V},ju K H xs (ps.map YT)->xs.length=ps.length/\∀(i:Nat) p,ps[i]? =some p->∃a,xs[i]? =some (.ref a)/\SqT K H a [.int (p.1:Int),.int (p.2:Int)]
 |[],_,.nil=>⟨rfl,fun i p h=>by cases h⟩
 |q::ps,_,.cons h t=>by
  obtain⟨l,g⟩:=ju.pairs t
  refine⟨by rw[wK,wK,l],fun i p e=> ?_⟩
  cases i with
  |zero=>
   cases e
   cases h with
   |tup hs ht=>
    cases ht with
    |cons h1 t1=>
     cases h1
     cases t1 with
     |cons h2 t2=>
      cases h2
      cases t2
      exact⟨_,rfl,hs⟩
  |succ i=>exact g i p e
theorem Eb:FnScope ["tape","web","a","b","n","due","pairs_v","m","k"] ["tape"] (defScope Qz):=fsc
theorem Nm{f f1 f2 f3 f4 f5 f6 f7 f8:Addr}{fd d1 d2 d3 d4 d5 d6 d7 d8:FuncData}(F:Fun K "_law_ashapes_right" "_law_ashapes_right" Qz f fd)(D1:bF K mg "_law_aweb" Tg ["tape","most"] f1 d1)(G1:FnOk P w K mg base CX0 2 f1 d1 ["tape","most"] (uL K))(D2:bF K mg "value" lQ ["web"] f2 d2)(G2:FnOk P w K mg base CX0 10 f2 d2 ["web"] (uH K))(D3:bF K mg "grown" pZ ["web"] f3 d3)(G3:FnOk P w K mg base CX0 8 f3 d3 ["web"] (CV K))(D4:bF K mg "_law_asum" eZ ["some"] f4 d4)(G4:FnOk P w K mg base CX0 2 f4 d4 ["some"] (zK K))(D5:bF K mg "_law_adigit" Us ["tape","many"] f5 d5)(G5:FnOk P w K mg base CX0 1 f5 d5 ["tape","many"] (Ig K))(D6:bF K mg "ring" uT ["n"] f6 d6)(G6:FnOk P w K mg base CX0 3 f6 d6 ["n"] (CJ K))(D7:bF K mg "_law_alow" cX ["a","b"] f7 d7)(G7:FnOk P w K mg base CX0 1 f7 d7 ["a","b"] (uK K))(D8:bF K mg "picks" pY ["m","k"] f8 d8)(G8:FnOk P w K mg base CX0 3 f8 d8 ["m","k"] (CN K)):
  FnOk P w K mg base CX0 11 f fd ["tape"] (Ij K):=by
 refine F.ok Eb (fun vs H Q E h=> ?_) (fun cdv A outer s H vs Q E hr h=> ?_)
 ·obtain⟨tp,t,rfl,_⟩:=h
  rfl
 obtain⟨tp,t,rfl,Y0,qq⟩:=h
 obtain⟨es1,es2,p1,p2,p3,q1,q2,q3,q4,q5,eb,k1,k2⟩:=Mr
 rw[eb]
 refine⟨_,(aO (cg (i:=1) Eb.nd rfl (Or.inl rfl) (pc G1 hr D1 (aj (pv 0) (aj aL aq)))) (aO (o8 (jM op_gt (bK fH (pv 1) aL (fun _ _=>rfl)) aL (nomark _)) (aO (ps_asg (pc G2 hr D2 (aj (pv 1) aq)) (pg_tup rfl (mZ (cJ (i:=2) Eb.nd rfl (Or.inl rfl)) (mZ (cJ (i:=3) Eb.nd rfl (Or.inl rfl)) Cd)))) (bA (o8 (jM (qQ hr.units) (pc G2 hr D2 (aj (pc G3 hr D3 (aj (pv 1) aq)) aq)) (pc G4 hr D4 (aj (wD (aj (gP (aj (pv 2) (aj (pv 3) aq))) (aj (gP (aj (pv 3) (aj (pv 2) aq))) aq))) aq)) (nomark _)) (bA (cG pe_bl)) o9))) o9) (aO (cg (i:=4) Eb.nd rfl (Or.inl rfl) (bH pI aL (pc G5 hr D5 (aj (pv 0) (aj aL aq))))) (aO (cg (i:=5) Eb.nd rfl (Or.inl rfl) (gP (aj aL (aj aL aq)))) (aO (o8 (jM op_eq (bH op_mod (pv 4) aL) aL (nomark _)) (bA (cg (i:=5) Eb.nd rfl (Or.inl rfl) (pc G4 hr D4 (aj (wD (aj (gP (aj aL (aj aL aq))) (aj (gP (aj aL (aj (bH op_fdiv (pv 4) aL) aq))) aq))) aq)))) o9) (aO (o8 (jM (qQ hr.units) (pc G2 hr D2 (aj (pc G6 hr D6 (aj (pv 4) aq)) aq)) (pv 5) (nomark _)) (bA (cG pe_bl)) o9) (aO (cg (i:=6) Eb.nd rfl (Or.inl rfl) (wD (xO K k1))) (aO (cg (i:=6) Eb.nd rfl (Or.inl rfl) (bH op_cat (pv 6) (wD (xO K k2)))) (aO (ps_asg (bK oJ (pv 6) (pc G5 hr D5 (aj (pv 0) (aj aL aq))) (fun _ _=>rfl)) (pg_tup rfl (mZ (cJ (i:=7) Eb.nd rfl (Or.inl rfl)) (mZ (cJ (i:=8) Eb.nd rfl (Or.inl rfl)) Cd)))) (aO (cg (i:=5) Eb.nd rfl (Or.inl rfl) (gP (aj aL (aj aL aq)))) (aO (o8 (jM op_ge (pv 7) (bH rW aL (pv 8)) (nomark _)) (bA (cg (i:=5) Eb.nd rfl (Or.inl rfl) (pc G7 hr D7 (aj (pv 7) (aj (pv 8) aq))))) o9) (bA (cG (pe_cmpR (JB hr.units) (pc G2 hr D2 (aj (pc G8 hr D8 (aj (pv 7) (aj (pv 8) aq))) aq)) (pv 5) (nomark _))))))))))))))),?_⟩
 refine⟨_,rfl,tp,t,4,rfl,Y0,by decide,by decide,fun r n' ts H1 t1 x1 ht1 hB hn'=> ?_⟩
 obtain⟨n,rfl⟩:∃m:Nat,n'=(m:Int):=⟨n'.toNat,by have:=hB.h0;omega⟩
 obtain⟨tt1,rr1,w1,w2,w3⟩:=id hB.web
 dsimp only[gName,List.set]
 refine gW (fun σ' H'=>∃o2 o3,σ'=[some (.ref tp),some (.ref r),o2,o3,none,none,none,none,none]/\Same H1 H') (fun N hN=> ?_) (fun σ' H2 p=> ?_)
 ·refine⟨_,rfl,r,_,_,.int n,rfl,rfl,w1,rfl,_,_,rfl,rfl,_,rfl,?_⟩
  refine ite2 (fun c=> ?_) (fun c=>hN _ _ ⟨_,_,rfl,Same.refl _⟩)
  have c':0<(n:Int):=eY c
  refine⟨_,rfl,r,n,ts,rfl,hB,fun va ss1 o1 Z1 Y1 X1 H2 s2 e2 hS1 WD=> ?_⟩
  have V1:Val n ts (aB Z1 o1):=fZ hS1 WD
  generalize aB Z1 o1=f at *
  have k1:=V1.k
  have tp1:=V1.top (by omega)
  have cm1:=V1.cm (by omega)
  obtain⟨f1,b⟩:=f
  obtain⟨a,rfl⟩:∃a:Nat,f1=(a:Int):=⟨f1.toNat,by have:=k1.nn;dsimp only at this;omega⟩
  refine⟨va,_,rfl,e2,rfl,_,_,rfl,_,_,rfl,rfl,?_⟩
  refine⟨_,rfl,r,n,ts,rfl,hB.same s2,by omega,fun rg H3 s3 W3=> ?_⟩
  have ug:=gD (so:=zc (n:Int) ts) (m:=2*(n:Int)+1) (by omega) (by omega)
  refine⟨rg,_,_,rfl,⟨W3,by omega,by omega,ug.1,ug.2⟩,fun vg ss2 o2 Z2 Y2 X2 H4 s4 e4 hS2 hW2=> ?_⟩
  have V2:Val (2*n+1) (rows (zc (n:Int) ts) (2*(n:Int)+1) (2*(n:Int)+1).toNat) (aB Z2 o2):=by
   have:=fZ hS2 hW2
   rwa [show(2*(n:Int)+1).toNat=2*n+1 by omega]at this⊢
  generalize aB Z2 o2=k2 at *
  have ek:=V1.grown (NZ (m:=2*(n:Int)+1) (by omega) hB.pk) (by omega) V2
  have ap:0<a:=by dsimp only at tp1;omega
  have bp:0<b:=k1.pos
  have am:a<=399168000:=by dsimp only at cm1;omega
  have bm:b<=39916800:=k1.big
  refine⟨_,rfl,_,rfl,(by show 2<=sizeLine;decide),fun p1 hp1=>⟨_,rfl,_,rfl,(by show 2<=sizeLine;decide),fun p2 hp2=>⟨(by show 2<=sizeLine;decide),fun p3 hp3=> ?_⟩⟩⟩
  have q1:=aP hp1 (.tup [.int (a:Int),.int (b:Int)])
  have q2:=aP hp2 (.tup [.int (b:Int),.int (a:Int)])
  have q3:=aP hp3 (.lst [.ref p1,.ref p2])
  have hD:Ze (b*a) [((a:Int),b),((b:Int),a)]:=by
   refine⟨OD bp ap,dW (UG bm (show a<=250000000 from ?_)) (by decide),fun q hq=> ?_⟩
   ·have l:=V1.le
    dsimp only at l
    have c:(n:Int)*(b:Int)<=4*(b:Int):=zu (by omega) (by omega)
    omega
   ·simp only[eN,Zy,or_false]at hq
    rcases hq with rfl|rfl
    ·exact⟨by show 0<=(a:Int);omega,bp,ZG _ _⟩
    ·exact⟨by show 0<=(b:Int);omega,ap,LQ _ _⟩
  refine⟨p3,_,[((a:Int),b),((b:Int),a)],b*a,rfl,SqL.of aH,.cons ⟨p1,rfl,(q2.trans q3).tup (SqT.of aH)⟩ (.cons ⟨p2,rfl,q3.tup (SqT.of aH)⟩ .nil),hD,(by show 2<=1000;decide),fun pS H8 s9 eS=> ?_⟩
  have eD:oY (b*a) [((a:Int),b),((b:Int),a)]=(a:Int)*(a:Int)+(b:Int)*(b:Int):=vL (f:=((a:Int),b)) (g:=((b:Int),a)) bp ap
  rw[eD]at eS
  have ek':k2=aB ((a:Int)*(a:Int)+(b:Int)*(b:Int)) (b*a):=ek
  rw[<-ek']at eS
  refine⟨yE k2,yE k2,m6.dv ((q1.trans (q2.trans (q3.trans s9))).tup e4),m6.dv eS,rfl,rfl,(by show min 1 1<=64;decide),_,rfl,?_⟩
  rw[nQ,cI rfl]
  refine iteF ?_
  exact hN _ _ ⟨_,_,rfl,s2.trans (s3.trans (s4.trans (q1.trans (q2.trans (q3.trans s9)))))⟩
 obtain⟨o2,o3,rfl,s2⟩:=p
 have ht2:=s2 _ _ ht1
 refine⟨_,rfl,tp,t1,8,rfl,ht2,by decide,by decide,fun dg t3 d0 d1=>⟨_,_,rfl,rfl,?_⟩⟩
 have x3:aV tp H2 (upd H2 tp (.lst [.int t3])):=(aV.refl _ _).upd
 have ht3:(upd H2 tp (.lst [.int t3])) tp=some (.lst [.int t3]):=aH
 generalize (upd H2 tp (.lst [.int t3]))=H3 at *
 have x13:aV tp H H3:=x1.trans ((s2.x tp).trans x3)
 obtain⟨N,hN⟩:∃N:Nat,3+dg=(N:Int):=⟨(3+dg).toNat,by omega⟩
 dsimp only[gName,List.set]
 rw[hN]
 have N3:3<=N:=by omega
 have N10:N<=10:=by omega
 refine⟨(by show 2<=sizeLine;decide),fun du hdu=> ?_⟩
 have s4:=aP hdu (.tup [.int 2,.int 1])
 have ed4:(upd H3 du (.tup [.int 2,.int 1])) du=some (.tup [.int 2,.int 1]):=aH
 generalize (upd H3 du (.tup [.int 2,.int 1]))=H4 at *
 dsimp only[gName,List.set]
 refine gW (fun σ' H'=>∃dv,σ'=[some (.ref tp),some (.ref r),o2,o3,some (.int N),some (.ref dv),none,none,none]/\Same H4 H'/\m6 K H' dv (if N %2=1 then aB (N:Int) (N/2)else(2,1))) (fun M hM=> ?_) (fun σ' H5 p=> ?_)
 ·refine⟨_,rfl,_,_,rfl,rfl,(by show(0:Int)<2;decide),rfl,_,rfl,?_⟩
  have em:decide (V.int ((N:Int) %2)=V.int 1)=decide (N %2=1):=decide_eq_decide.mpr ⟨fun z=>by have:=V.int.inj z;omega,fun z=>by congr 1;omega⟩
  rw[em]
  refine ite2 (fun c=> ?_) (fun c=> ?_)
  ·have c':N %2=1:=eY c
   refine⟨(by show 2<=sizeLine;decide),fun p1 hp1=>⟨_,rfl,_,_,rfl,rfl,⟨by decide,by decide⟩,(by show 2<=sizeLine;decide),fun p2 hp2=>⟨(by show 2<=sizeLine;decide),fun p3 hp3=> ?_⟩⟩⟩
   have q1:=aP hp1 (.tup [.int 2,.int 1])
   have q2:=aP hp2 (.tup [.int 1,.int ((N:Int)/2)])
   have q3:=aP hp3 (.lst [.ref p1,.ref p2])
   have hk:0<N/2:=by omega
   have eh:((N/2:Nat):Int)=(N:Int)/2:=by omega
   have hD:Ze (1*(N/2)) [((2:Int),1),((1:Int),N/2)]:=by
    refine⟨by omega,by omega,fun q hq=> ?_⟩
    simp only[eN,Zy,or_false]at hq
    rcases hq with rfl|rfl
    ·exact⟨by show(0:Int)<=2;decide,by show 0<1;decide,ZG _ _⟩
    ·exact⟨by show(0:Int)<=1;decide,hk,LQ _ _⟩
   have z2:SqT K (upd (upd (upd H4 p1 (.tup [.int 2,.int 1])) p2 (.tup [.int 1,.int ((N:Int)/2)])) p3 (.lst [.ref p1,.ref p2])) p2 [.int 1,.int ((N/2:Nat):Int)]:=by rw[eh];exact q3.tup (SqT.of aH)
   refine⟨p3,_,[((2:Int),1),((1:Int),N/2)],1*(N/2),rfl,SqL.of aH,.cons ⟨p1,rfl,(q2.trans q3).tup (SqT.of aH)⟩ (.cons ⟨p2,rfl,z2⟩ .nil),hD,(by show 2<=1000;decide),fun pS H8 s9 eS=> ?_⟩
   have eD:oY (1*(N/2)) [((2:Int),1),((1:Int),N/2)]=2*((N/2:Nat):Int)+1*((1:Nat):Int):=vL (f:=((2:Int),1)) (g:=((1:Int),N/2)) (by decide) hk
   rw[eD,Nat.one_mul,show 2*((N/2:Nat):Int)+1*((1:Nat):Int)=(N:Int) by omega]at eS
   exact hM _ _ ⟨pS,rfl,q1.trans (q2.trans (q3.trans s9)),by rw[aA c'];exact eS⟩
  ·have c':¬N %2=1:=fun z=>c (cI z)
   exact hM _ _ ⟨du,rfl,Same.refl _,by rw[ao c'];exact SqT.of ed4⟩
 obtain⟨dv,rfl,s5,ed5⟩:=p
 -- the ring
 obtain⟨u1,u2,_⟩:=Jm N3 N10
 refine⟨_,rfl,(N:Int),rfl,by omega,by omega,fun rr H6 s6 W6=> ?_⟩
 refine⟨rr,_,_,rfl,⟨W6,by omega,by omega,u1,u2⟩,fun vr ss1 o1 Z1 Y1 X1 H7 s7 e7 hS1 WD=> ?_⟩
 have V1:Val N (aZ (N:Int)) (aB Z1 o1):=fZ hS1 WD
 generalize aB Z1 o1=f at *
 have er:f=if N %2=1 then aB (N:Int) (N/2)else(2,1):=by
  obtain⟨r1,r2⟩:=V1.ring N3 N10
  split
  ·rename_i c;exact r1 c
  ·rename_i c;exact r2 (by omega)
 rw[<-er]at ed5
 refine⟨_,rfl,yE f,yE f,m6.dv e7,m6.dv ((s6.trans s7).tup ed5),rfl,rfl,(by show min 1 1<=64;decide),_,rfl,?_⟩
 rw[nQ,cI rfl]
 refine iteF ?_
 -- the picks
 intro xs1 H8 s8 v1
 obtain⟨l1,g1⟩:=ju.pairs v1
 refine⟨by rw[l1,dO];decide,fun pa hpa=> ?_⟩
 have t1':=aP hpa (.lst xs1)
 have epa:(upd H8 pa (.lst xs1)) pa=some (.lst xs1):=aH
 generalize (upd H8 pa (.lst xs1))=H9 at *
 refine⟨_,rfl,fun xs2 Zd Mx v2=> ?_⟩
 obtain⟨l2,g2⟩:=ju.pairs v2
 refine⟨by rw[l2,dO];decide,fun pb hpb=> ?_⟩
 have Vv:=aP hpb (.lst xs2)
 have epb:(upd Zd pb (.lst xs2)) pb=some (.lst xs2):=aH
 generalize (upd Zd pb (.lst xs2))=H11 at *
 refine⟨pa,pb,xs1,xs2,rfl,rfl,Vv _ _ (Mx _ _ epa),epb,by rw[l1,l2,dO];decide,fun pc hpc=> ?_⟩
 have t3':=aP hpc (.lst (xs1++xs2))
 have epc:(upd H11 pc (.lst (xs1++xs2))) pc=some (.lst (xs1++xs2)):=aH
 generalize (upd H11 pc (.lst (xs1++xs2)))=Um at *
 have YG:ju K Um (xs1++xs2) (Jy.map YT):=Oj (v1.same (t1'.trans (Mx.trans (Vv.trans t3')))) (v2.same (Vv.trans t3'))
 obtain⟨l3,g3⟩:=ju.pairs YG
 have VD:=s5.trans (s6.trans (s7.trans (s8.trans (t1'.trans (Mx.trans (Vv.trans t3'))))))
 have Wo:=VD _ _ (s4 _ _ ht3)
 refine⟨_,rfl,_,rfl,tp,t3,13,rfl,Wo,by decide,by decide,fun dh t4 h0 h1=> ?_⟩
 have x12:aV tp Um (upd Um tp (.lst [.int t4])):=(aV.refl _ _).upd
 have aak:(upd Um tp (.lst [.int t4])) tp=some (.lst [.int t4]):=aH
 generalize (upd Um tp (.lst [.int t4]))=Ul at *
 have npc:pc≠tp:=fun z=>by
  have:=Vv _ _ (Mx _ _ (t1' _ _ (s8 _ _ (s7 _ _ (s6 _ _ (s5 _ _ (s4 _ _ ht3)))))))
  rw[<-z,hpc]at this;cases this
 have lp:Jy.length=13:=rfl
 have hi:dh.toNat<Jy.length:=by omega
 obtain⟨pr,e3,h3⟩:=g3 dh.toNat Jy[dh.toNat] (fX hi)
 have hm:Jy[dh.toNat]∈Jy:=Cj hi
 generalize Jy[dh.toNat]=p at *
 have at3:atI (xs1++xs2) dh=some (.ref pr):=by
  have:=atI_nat e3
  rwa [show((dh.toNat:Nat):Int)=dh by omega]at this
 have h3':SqT K Ul pr [.int (p.1:Int),.int (p.2:Int)]:=x12.tup Wo h3
 refine⟨pc,_,_,.ref pr,rfl,rfl,SqL.of (x12 _ _ npc epc),at3,pr,_,rfl,h3',rfl,_,_,rfl,_,_,rfl,rfl,?_⟩
 obtain⟨c1,c2,c3,c4,cv⟩:=Val.picks hm
 refine⟨(by show 2<=sizeLine;decide),fun dw hdw=> ?_⟩
 have YQ:=aP hdw (.tup [.int 1,.int 1])
 have aao:(upd Ul dw (.tup [.int 1,.int 1])) dw=some (.tup [.int 1,.int 1]):=aH
 generalize (upd Ul dw (.tup [.int 1,.int 1]))=H14 at *
 dsimp only[gName,List.set]
 refine gW (fun σ' H'=>∃dv o6,σ'=[some (.ref tp),some (.ref r),o2,o3,some (.int N),some (.ref dv),o6,some (.int p.1),some (.int p.2)]/\Same H14 H'/\m6 K H' dv (if p.2*2<=p.1 then aB (p.1:Int) p.2 else(1,1))) (fun M hM=> ?_) (fun σ' H15 q=> ?_)
 ·refine⟨_,rfl,_,rfl,_,_,rfl,rfl,.inl ⟨by decide,by decide⟩,_,_,rfl,rfl,_,rfl,?_⟩
  have em:decide (2*(p.2:Int)<=(p.1:Int))=decide (p.2*2<=p.1):=decide_eq_decide.mpr ⟨fun z=>by omega,fun z=>by omega⟩
  rw[em]
  refine ite2 (fun c=> ?_) (fun c=> ?_)
  ·have c':p.2*2<=p.1:=eY c
   refine⟨_,rfl,_,rfl,p.1,p.2,rfl,by omega,dW (show p.2<=10 by omega) (by decide+kernel),fun pl H16 u v Qc e16 YZ=> ?_⟩
   exact hM _ _ ⟨pl,_,rfl,Qc,by rw[aA c',<-nO (by omega) YZ];exact SqT.of e16⟩
  ·have c':¬p.2*2<=p.1:=fun z=>c (cI z)
   exact hM _ _ ⟨dw,_,rfl,Same.refl _,by rw[ao c'];exact SqT.of aao⟩
 obtain⟨dv',o6,rfl,YM,Xg⟩:=q
 have ec:gn (p.1:Int) (p.2:Int)=(cD p.1 p.2).length:=rfl
 refine⟨_,rfl,_,rfl,(p.1:Int),(p.2:Int),rfl,by omega,by omega,by omega,by omega,by rw[ec];exact c4,fun rp H16 Qc W16=> ?_⟩
 rw[ec]at W16
 have up:=gD (so:=eF (Qh p.1 p.2)) (m:=((cD p.1 p.2).length:Int)) (by omega) (by omega)
 have aaq:bJ K H16 rp ((cD p.1 p.2).length:Int) (Ua (p.1:Int) (p.2:Int)):=⟨W16,by omega,by omega,up.1,up.2⟩
 refine⟨rp,_,_,rfl,aaq,fun vp ss2 o2' Z2 Y2 X2 H17 VF e17 hS2 hW2=> ?_⟩
 have V2:Val (cD p.1 p.2).length (Ua (p.1:Int) (p.2:Int)) (aB Z2 o2'):=fZ hS2 hW2
 generalize aB Z2 o2'=g at *
 rw[<-cv g V2]at Xg
 refine⟨_,rfl,yE g,yE g,m6.dv e17,m6.dv ((Qc.trans VF).tup Xg),rfl,rfl,(by show min 1 1<=64;decide),?_⟩
 rw[nQ,cI rfl]
 have Qe:=YQ.trans (YM.trans (Qc.trans VF))
 exact qq H17 t4 (x13.trans (((s4.trans VD).x tp).trans (x12.trans (Qe.x tp)))) (Qe _ _ aak)
def spLaw(K:W.Frag):Sp:=fun vs H Q _=>∃(a:Addr) (ns:List Int),vs=[.ref a]/\yO K H a ns/\ns.length<=63/\∀H',Q (.bl true) H'
theorem Ie{H:Hp}{a:Addr}{ns:List Int}(hl:ns.length<=63)(hO:Only H)(hS:SqL K H a (ns.map V.int)):spLaw K [.ref a] H (fun v _=>v= .bl true) fun _ _ _=>False:=by
 refine⟨a,ns,rfl,?_,hl,fun _=>rfl⟩
 rcases hS with(h|⟨o,h⟩)|h
 ·rcases hO a with q|⟨o,xs,q⟩
  ·rw[q]at h;cases h
  ·rw[q]at h;cases h
 ·exact .inl ⟨o,h⟩
 ·exact .inr h
theorem zX:FnScope ["script","start","tape"] ["script"] (defScope lU):=fsc
theorem ok_law{f f1 f2 f3 f4:Addr}{fd d1 d2 d3 d4:FuncData}(F:Fun K "law" "law" lU f fd)(D1:bF K mg "_law_atape" fM ["script","k"] f1 d1)(G1:FnOk P w K mg base CX0 2 f1 d1 ["script","k"] (HS K))(D2:bF K mg "_law_ashapes_right" Qz ["tape"] f2 d2)(G2:FnOk P w K mg base CX0 11 f2 d2 ["tape"] (Ij K))(D3:bF K mg "_law_atwo_right" XR ["tape","one"] f3 d3)(G3:FnOk P w K mg base CX0 11 f3 d3 ["tape","one"] (Ii K))(D4:bF K mg "_law_aweb" Tg ["tape","most"] f4 d4)(G4:FnOk P w K mg base CX0 2 f4 d4 ["tape","most"] (uL K))(aJ:mg "range"=none)(JZ:mg "max"=none)(xT:mg "min"=none)(cU:mg "len"=none):
  FnOk P w K mg base CX0 12 f fd ["script"] (spLaw K):=by
 refine F.ok zX (fun vs H Q E h=> ?_) (fun cdv A outer s H vs Q E hr h=> ?_)
 ·obtain⟨pB,ns,rfl,_⟩:=h
  rfl
 obtain⟨pB,ns,rfl,hS,aay,q⟩:=h
 refine⟨_,(aO (ps_for was rfl (pi_range2 rfl aJ (aj aL (aj (gQ (call_max2 rfl) rfl JZ (by decide+kernel) (aj aL (aj (gQ (call_min2 rfl) rfl xT (by decide+kernel) (aj aL (aj (gQ yX rfl cU wk (aj (pv 0) aq)) aq))) aq))) aq))) (cJ (i:=1) zX.nd rfl (Or.inl rfl)) (aO (cg (i:=2) zX.nd rfl (Or.inl rfl) (pc G1 hr D1 (aj (pv 0) (aj (pv 1) aq)))) (bA (o8 (PW.pt (pw_or (pt_not (pt_val (pc G3 hr D3 (aj (pv 2) (aj (pc G4 hr D4 (aj (pv 2) (aj aL aq))) aq))))) (pw_or1 (pt_not (pt_val (pc G2 hr D2 (aj (pv 2) aq))))))) (bA (cG pe_bl)) o9)))) (bA (cG pe_bl))),?_⟩
 refine⟨_,rfl,pB,_,rfl,.inl hS.sq,fun hz=>⟨_,_,rfl,_,_,rfl,_,_,rfl,?_⟩⟩
 obtain⟨m,em,hm0,hm1⟩:∃m:Int,(if(if((ns.map V.int).length:Int)<3 then((ns.map V.int).length:Int)else 3)>1 then(if((ns.map V.int).length:Int)<3 then((ns.map V.int).length:Int)else 3)else 1)=m/\0<=m/\m<=3:=by
  refine⟨_,rfl,?_,?_⟩
  ·split
   ·split<;>omega
   ·omega
  ·split
   ·split<;>omega
   ·omega
 rw[em]
 refine⟨⟨by decide,by decide,by omega,by omega⟩,?_⟩
 refine Lw (n:=(m-0).toNat) (fun i σ H'=>Same H H'/\∃o1 o2,σ=[some (.ref pB),o1,o2]) ⟨Same.refl _,_,_,rfl⟩ (fun i σ H1 hi p=> ?_) (fun σ H1 p=> ?_)
 ·obtain⟨s1,o1,o2,rfl⟩:=p
  refine⟨_,rfl,_,rfl,pB,ns,0+(i:Int),rfl,hS.same s1,by omega,fun tp H2 t s2 htp aaj=> ?_⟩
  refine⟨_,rfl,_,rfl,tp,t,5,rfl,htp,by decide,by decide,fun r n' ts H3 t3 x3 h3 hW hn=> ?_⟩
  obtain⟨n,rfl⟩:∃m:Nat,n'=(m:Int):=⟨n'.toNat,by have:=hW.h0;omega⟩
  refine⟨tp,r,t3,n,ts,rfl,h3,hW,by omega,fun H4 t4 x4 h4=>⟨_,rfl,?_⟩⟩
  refine iteF ?_
  refine⟨_,rfl,tp,t4,rfl,h4,fun H5 t5 x5 h5=>⟨_,rfl,?_⟩⟩
  refine iteF ?_
  exact⟨s1.trans (Same.V7 s2 aaj (x3.trans (x4.trans x5))),_,_,rfl⟩
 ·exact q _
end
end Hs
namespace L2
open PySem
section
variable{K:W.Frag}{x y:Str}{st:Stmt}{f C:Addr}{fd:FuncData}{oc:Value}{od an:Option Addr}{osl:Array (Option Value)}{kV doc pm cdv ct:Value}{mg:Str->Option Value}{h:Heap}
def DA(K:W.Frag)(x:Str)(st:Stmt)(f:Addr):Prop:=∃fd,Fun K x x st f fd/\PySem.W.nsIn K mainGlobals x=some (some (.ref f))
theorem DA.of(a:PySem.W.nsIn K mainGlobals x=some (some (.ref f)):=by k_is)(l:K.lookup f=some ⟨oc,od,.func (PySem.W.fnOf x x (defArgs st) (defBody st) (defScope st) .none kV doc pm an cdv ct),osl⟩:=by k_is)(c:PySem.W.codeIn K cdv x=true:=by k_is)(k:PySem.W.keepIn K (.ref f)=true:=by k_is):DA K x st f:=⟨_,fun_mk l c k,a⟩
def MA(K:W.Frag)(C:Addr)(x y:Str)(st:Stmt)(f:Addr):Prop:=∃fd,Fun K x y st f fd/\PySem.W.findIn K (.ref C) x=some (some (.ref f))/\PySem.W.isFn K (.ref f)=true/\PySem.W.keepIn K (.ref f)=true
theorem MA.of(a:PySem.W.findIn K (.ref C) x=some (some (.ref f)):=by k_is)(l:K.lookup f=some ⟨oc,od,.func (PySem.W.fnOf x y (defArgs st) (defBody st) (defScope st) .none kV doc pm an cdv ct),osl⟩:=by k_is)(c:PySem.W.codeIn K cdv y=true:=by k_is)(k:PySem.W.keepIn K (.ref f)=true:=by k_is)(i:PySem.W.isFn K (.ref f)=true:=by k_is):MA K C x y st f:=⟨_,fun_mk l c k,a,i,k⟩
theorem DA.d{ps:List Str}(X:K.In h)(G:h.Ns mainGlobals mg)(F:Fun K x x st f fd)(a:PySem.W.nsIn K mainGlobals x=some (some (.ref f)))(b:∀(kV doc pm:Value) (an:Option Addr) (cdv ct:Value) (us:List Value),us.length=ps.length->bindArgs (PySem.W.fnOf x x (defArgs st) (defBody st) (defScope st) .none kV doc pm an cdv ct) ⟨us,[]⟩=pure (ps.zip us)):bF K mg x st ps f fd:=⟨F,F.binds b,PySem.W.mg_of X G a⟩
theorem MA.d{ps:List Str}(F:Fun K x y st f fd)(a:PySem.W.findIn K (.ref C) x=some (some (.ref f))/\PySem.W.isFn K (.ref f)=true/\PySem.W.keepIn K (.ref f)=true)(b:∀(kV doc pm:Value) (an:Option Addr) (cdv ct:Value) (us:List Value),us.length=ps.length->bindArgs (PySem.W.fnOf x y (defArgs st) (defBody st) (defScope st) .none kV doc pm an cdv ct) ⟨us,[]⟩=pure (ps.zip us)):Gq K C x y st ps f fd:=⟨F,F.binds b,⟨a.1,a.2.1,a.2.2⟩⟩
theorem sJ{p1:Str}{P:List Value->Prop}(h:∀a,P [a])(us:List Value)(hl:us.length=[p1].length):P us:=by
 match us,hl with
 |[a],_=>exact h a
theorem nZ{p1 p2:Str}{P:List Value->Prop}(h:∀a b,P [a,b])(us:List Value)(hl:us.length=[p1,p2].length):P us:=by
 match us,hl with
 |[a,b],_=>exact h a b
theorem S6{p1 p2 p3:Str}{P:List Value->Prop}(h:∀a b c,P [a,b,c])(us:List Value)(hl:us.length=[p1,p2,p3].length):P us:=by
 match us,hl with
 |[a,b,c],_=>exact h a b c
theorem bn4{p1 p2 p3 p4:Str}{P:List Value->Prop}(h:∀a b c d,P [a,b,c,d])(us:List Value)(hl:us.length=[p1,p2,p3,p4].length):P us:=by
 match us,hl with
 |[a,b,c,d],_=>exact h a b c d
end
end L2
namespace Hs
open PySem L2 wB
theorem all_mk{l:W.OpenLaw}{w:World}{K:W.Frag}{h:Heap}{mg:Str->Option Value}{fa:Addr}(X:K.In h)(G:h.Ns mainGlobals mg)(hfa:mg "law"=some (.ref fa))
  {f0 f1 f2 f3 f4 f5 f6 f7 f8 f9 Za f11 Y9 Y8 f14 f15 f16 f17 f18 f19 f20 f21 f22 f23 f24 f25 f26 f27 f28 f29 f30 f31 f32 f33 f34 f35 f36 f37 f38 f39 f40 f41 f42 f43 f44 f45 f46 mf0 mf1 mf2 mf3 mf4 mf5 mf6 mf7 mf8 mf9:Addr}{f47:Addr}{aag Xr:Option Addr}{aae:Array (Option Value)}{aah Wj Xh V0 SX Xi:Value}{tk0:Tok}{tk1:Tok}{tk2:Tok}{aF:Addr}(a0:DA K "is_whole" Qw f0)(a1:DA K "is_place" iu f1)(a2:DA K "are_places" eE f2)(a3:DA K "is_rising" dH f3)(a4:DA K "is_set" jd f4)(a5:DA K "are_ties" iy f5)(a6:DA K "is_web" lV f6)(a7:DA K "need_web" Gy f7)(a8:DA K "need_set" ig f8)(a9:DA K "need_from_to" Uu f9)(a10:DA K "need_few" Qx Za)(a11:DA K "pairs" g8 f11)(a12:DA K "all_sets" iz Y9)(a13:DA K "has_tie" eU Y8)(a14:DA K "places_by_tie" Uw f14)(a15:DA K "in_both" eO f15)(a16:DA K "full_sets" dI f16)(a17:DA K "full_apart" Ur f17)(a18:DA K "full_crowds" Xx f18)(a19:DA K "first_greatest" Ux f19)(a20:DA K "greatest_apart" XM f20)(a21:DA K "greatest_crowd" XQ f21)(a22:DA K "greatest_divisor" Yc f22)(a23:DA K "lowest" gC f23)(a24:DA K "need_wants" dZ f24)(a25:DA K "shares" lR f25)(a26:DA K "value" lQ f26)(a27:DA K "moved_ties" Ut f27)(a28:DA K "ties_between" XD f28)(a29:DA K "beside" je f29)(a30:DA K "across" lW f30)(a31:DA K "is_tie_within" XH f31)(a32:DA K "within" lO f32)(a33:DA K "other_web" fL f33)(a34:DA K "cut_down" iw f34)(a35:DA K "ring" uT f35)(a36:DA K "picks" pY f36)(a37:DA K "grown" pZ f37)(a38:DA K "_law_acell" fO f38)(a39:DA K "_law_atape" fM f39)(a40:DA K "_law_adigit" Us f40)(a41:DA K "_law_aweb" Tg f41)(a42:DA K "_law_alow" cX f42)(a43:DA K "_law_asum" eZ f43)(a44:DA K "_law_ano_more" XC f44)(a45:DA K "_law_atwo_right" XR f45)(a46:DA K "_law_ashapes_right" Qz f46)(a47:W.nsIn K mainGlobals "law"=some (some (.ref f47)))(l47:K.lookup f47=some ⟨aah,aag,.func (W.fnOf "law" "law" (defArgs lU) (defBody lU) (defScope lU) .none Wj Xh V0 Xr SX Xi),aae⟩)(c47:W.codeIn K SX "law"=true)(k47:W.keepIn K (.ref f47)=true)(x0:W.nsIn K mainGlobals "MOST_PLACES"=some (some (.int 10 tk0)))(x1:W.nsIn K mainGlobals "MOST_WANT"=some (some (.int 99 tk1)))(x2:W.nsIn K mainGlobals "LEAST_RING"=some (some (.int 3 tk2)))(z0:W.nsIn K mainGlobals "abs"=some none)(z1:W.nsIn K mainGlobals "all"=some none)(z2:W.nsIn K mainGlobals "bool"=some none)(z3:W.nsIn K mainGlobals "enumerate"=some none)(z4:W.nsIn K mainGlobals "int"=some none)(z5:W.nsIn K mainGlobals "isinstance"=some none)(z6:W.nsIn K mainGlobals "len"=some none)(z7:W.nsIn K mainGlobals "list"=some none)(z8:W.nsIn K mainGlobals "max"=some none)(z9:W.nsIn K mainGlobals "min"=some none)(z10:W.nsIn K mainGlobals "range"=some none)(z11:W.nsIn K mainGlobals "sorted"=some none)(z12:W.nsIn K mainGlobals "tuple"=some none)(y0:W.nsIn K mainGlobals "Tableau"=some (some (.ref aF)))(Wf:MA K aF "__init__" "Tableau.__init__" Xy mf0)(ma1:MA K aF "next_column" "Tableau.next_column" Ye mf1)(ma2:MA K aF "is_tighter" "Tableau.is_tighter" Yd mf2)(ma3:MA K aF "next_row" "Tableau.next_row" X7 mf3)(ma4:MA K aF "turned" "Tableau.turned" XJ mf4)(ma5:MA K aF "turn" "Tableau.turn" Xz mf5)(ma6:MA K aF "solve" "Tableau.solve" XF mf6)(ma7:MA K aF "fraction_at" "Tableau.fraction_at" Tj mf7)(ma8:MA K aF "price_of" "Tableau.price_of" X8 mf8)(ma9:MA K aF "share_of" "Tableau.share_of" Yb mf9)(Bu:W.plainGet K aF Str.empty=true)(Bt:W.hasDictIn K aF=true)(Bs:W.plainOver K aF=true)(Br:W.findIn K (.ref aF) "__setattr__"=some (some (.builtin "object.__setattr__")))(Bq:W.makesIn K aF=true)(Bp:W.keepIn K (.ref aF)=true)(nY:W.findIn K (.ref aF) "cells"=some none)(pF:W.findIn K (.ref aF) "over"=some none)(kj:W.findIn K (.ref aF) "columns"=some none)(pD:W.findIn K (.ref aF) "rows"=some none):
  ∃fd:FuncData,(∀(s:Shared) (v:Value),BindsTo s fd ⟨[v],[]⟩ [("script",v)])/\∀base:Heap,K.In base->base.Ns mainGlobals mg->FnOk l.prog w K mg base CX0 12 fa fd ["script"] (spLaw K):=by
 have e:=hfa.symm.trans (W.mg_of X G a47)
 cases e
 obtain⟨d0,F0,a0⟩:=a0
 have iJ:=DA.d (ps:=["thing"]) X G F0 a0 (fun _ _ _ _ _ _=>sJ fun _=>rfl)
 obtain⟨d1,F1,a1⟩:=a1
 have BW:=DA.d (ps:=["n","thing"]) X G F1 a1 (fun _ _ _ _ _ _=>nZ fun _ _=>rfl)
 obtain⟨d2,F2,a2⟩:=a2
 have v8:=DA.d (ps:=["n","things"]) X G F2 a2 (fun _ _ _ _ _ _=>nZ fun _ _=>rfl)
 obtain⟨d3,F3,a3⟩:=a3
 have oZ:=DA.d (ps:=["things"]) X G F3 a3 (fun _ _ _ _ _ _=>sJ fun _=>rfl)
 obtain⟨d4,F4,a4⟩:=a4
 have yU:=DA.d (ps:=["n","thing"]) X G F4 a4 (fun _ _ _ _ _ _=>nZ fun _ _=>rfl)
 obtain⟨d5,F5,a5⟩:=a5
 have BZ:=DA.d (ps:=["n","thing"]) X G F5 a5 (fun _ _ _ _ _ _=>nZ fun _ _=>rfl)
 obtain⟨d6,F6,a6⟩:=a6
 have Ld:=DA.d (ps:=["thing"]) X G F6 a6 (fun _ _ _ _ _ _=>sJ fun _=>rfl)
 obtain⟨d7,F7,a7⟩:=a7
 have bN:=DA.d (ps:=["thing"]) X G F7 a7 (fun _ _ _ _ _ _=>sJ fun _=>rfl)
 obtain⟨d8,F8,a8⟩:=a8
 have BR:=DA.d (ps:=["web","thing"]) X G F8 a8 (fun _ _ _ _ _ _=>nZ fun _ _=>rfl)
 obtain⟨d9,F9,a9⟩:=a9
 have jr:=DA.d (ps:=["least","most","thing"]) X G F9 a9 (fun _ _ _ _ _ _=>S6 fun _ _ _=>rfl)
 obtain⟨d10,F10,a10⟩:=a10
 have iI:=DA.d (ps:=["n"]) X G F10 a10 (fun _ _ _ _ _ _=>sJ fun _=>rfl)
 obtain⟨d11,F11,a11⟩:=a11
 have qg:=DA.d (ps:=["n"]) X G F11 a11 (fun _ _ _ _ _ _=>sJ fun _=>rfl)
 obtain⟨d12,F12,a12⟩:=a12
 have Ca:=DA.d (ps:=["n"]) X G F12 a12 (fun _ _ _ _ _ _=>sJ fun _=>rfl)
 obtain⟨d13,F13,a13⟩:=a13
 have ou:=DA.d (ps:=["web","one","other"]) X G F13 a13 (fun _ _ _ _ _ _=>S6 fun _ _ _=>rfl)
 obtain⟨d14,F14,a14⟩:=a14
 have iQ:=DA.d (ps:=["web","place","tied"]) X G F14 a14 (fun _ _ _ _ _ _=>S6 fun _ _ _=>rfl)
 obtain⟨d15,F15,a15⟩:=a15
 have ux:=DA.d (ps:=["ones","others"]) X G F15 a15 (fun _ _ _ _ _ _=>nZ fun _ _=>rfl)
 obtain⟨d16,F16,a16⟩:=a16
 have o7:=DA.d (ps:=["friends"]) X G F16 a16 (fun _ _ _ _ _ _=>sJ fun _=>rfl)
 obtain⟨d17,F17,a17⟩:=a17
 have mY:=DA.d (ps:=["web"]) X G F17 a17 (fun _ _ _ _ _ _=>sJ fun _=>rfl)
 obtain⟨d18,F18,a18⟩:=a18
 have sV:=DA.d (ps:=["web"]) X G F18 a18 (fun _ _ _ _ _ _=>sJ fun _=>rfl)
 obtain⟨d19,F19,a19⟩:=a19
 have gO:=DA.d (ps:=["sets"]) X G F19 a19 (fun _ _ _ _ _ _=>sJ fun _=>rfl)
 obtain⟨d20,F20,a20⟩:=a20
 have oF:=DA.d (ps:=["web"]) X G F20 a20 (fun _ _ _ _ _ _=>sJ fun _=>rfl)
 obtain⟨d21,F21,a21⟩:=a21
 have oE:=DA.d (ps:=["web"]) X G F21 a21 (fun _ _ _ _ _ _=>sJ fun _=>rfl)
 obtain⟨d22,F22,a22⟩:=a22
 have kW:=DA.d (ps:=["one","other"]) X G F22 a22 (fun _ _ _ _ _ _=>nZ fun _ _=>rfl)
 obtain⟨d23,F23,a23⟩:=a23
 have rN:=DA.d (ps:=["a","b"]) X G F23 a23 (fun _ _ _ _ _ _=>nZ fun _ _=>rfl)
 obtain⟨d24,F24,a24⟩:=a24
 have v7:=DA.d (ps:=["web","thing"]) X G F24 a24 (fun _ _ _ _ _ _=>nZ fun _ _=>rfl)
 obtain⟨d25,F25,a25⟩:=a25
 have Lb:=DA.d (ps:=["web","wants"]) X G F25 a25 (fun _ _ _ _ _ _=>nZ fun _ _=>rfl)
 obtain⟨d26,F26,a26⟩:=a26
 have Ea:=DA.d (ps:=["web"]) X G F26 a26 (fun _ _ _ _ _ _=>sJ fun _=>rfl)
 obtain⟨d27,F27,a27⟩:=a27
 have mW:=DA.d (ps:=["web","by"]) X G F27 a27 (fun _ _ _ _ _ _=>nZ fun _ _=>rfl)
 obtain⟨d28,F28,a28⟩:=a28
 have rM:=DA.d (ps:=["n","m"]) X G F28 a28 (fun _ _ _ _ _ _=>nZ fun _ _=>rfl)
 obtain⟨d29,F29,a29⟩:=a29
 have yV:=DA.d (ps:=["one","other"]) X G F29 a29 (fun _ _ _ _ _ _=>nZ fun _ _=>rfl)
 obtain⟨d30,F30,a30⟩:=a30
 have Le:=DA.d (ps:=["one","other"]) X G F30 a30 (fun _ _ _ _ _ _=>nZ fun _ _=>rfl)
 obtain⟨d31,F31,a31⟩:=a31
 have pG:=DA.d (ps:=["one","other","tie"]) X G F31 a31 (fun _ _ _ _ _ _=>S6 fun _ _ _=>rfl)
 obtain⟨d32,F32,a32⟩:=a32
 have La:=DA.d (ps:=["one","other"]) X G F32 a32 (fun _ _ _ _ _ _=>nZ fun _ _=>rfl)
 obtain⟨d33,F33,a33⟩:=a33
 have yQ:=DA.d (ps:=["web"]) X G F33 a33 (fun _ _ _ _ _ _=>sJ fun _=>rfl)
 obtain⟨d34,F34,a34⟩:=a34
 have BX:=DA.d (ps:=["web","some"]) X G F34 a34 (fun _ _ _ _ _ _=>nZ fun _ _=>rfl)
 obtain⟨d35,F35,a35⟩:=a35
 have Tf:=DA.d (ps:=["n"]) X G F35 a35 (fun _ _ _ _ _ _=>sJ fun _=>rfl)
 obtain⟨d36,F36,a36⟩:=a36
 have Ow:=DA.d (ps:=["m","k"]) X G F36 a36 (fun _ _ _ _ _ _=>nZ fun _ _=>rfl)
 obtain⟨d37,F37,a37⟩:=a37
 have Ox:=DA.d (ps:=["web"]) X G F37 a37 (fun _ _ _ _ _ _=>sJ fun _=>rfl)
 obtain⟨d38,F38,a38⟩:=a38
 have yS:=DA.d (ps:=["script","k"]) X G F38 a38 (fun _ _ _ _ _ _=>nZ fun _ _=>rfl)
 obtain⟨d39,F39,a39⟩:=a39
 have yR:=DA.d (ps:=["script","k"]) X G F39 a39 (fun _ _ _ _ _ _=>nZ fun _ _=>rfl)
 obtain⟨d40,F40,a40⟩:=a40
 have mX:=DA.d (ps:=["tape","many"]) X G F40 a40 (fun _ _ _ _ _ _=>nZ fun _ _=>rfl)
 obtain⟨d41,F41,a41⟩:=a41
 have kJ:=DA.d (ps:=["tape","most"]) X G F41 a41 (fun _ _ _ _ _ _=>nZ fun _ _=>rfl)
 obtain⟨d42,F42,a42⟩:=a42
 have kO:=DA.d (ps:=["a","b"]) X G F42 a42 (fun _ _ _ _ _ _=>nZ fun _ _=>rfl)
 obtain⟨d43,F43,a43⟩:=a43
 have rO:=DA.d (ps:=["some"]) X G F43 a43 (fun _ _ _ _ _ _=>sJ fun _=>rfl)
 obtain⟨d44,F44,a44⟩:=a44
 have rP:=DA.d (ps:=["one","other"]) X G F44 a44 (fun _ _ _ _ _ _=>nZ fun _ _=>rfl)
 obtain⟨d45,F45,a45⟩:=a45
 have oh:=DA.d (ps:=["tape","one"]) X G F45 a45 (fun _ _ _ _ _ _=>nZ fun _ _=>rfl)
 obtain⟨d46,F46,a46⟩:=a46
 have jK:=DA.d (ps:=["tape"]) X G F46 a46 (fun _ _ _ _ _ _=>sJ fun _=>rfl)
 have F47:=fun_mk (st:=lU) l47 c47 k47
 have cZ:=W.mg_of X G x0
 have wN:=W.mg_of X G x1
 have uF:=W.mg_of X G x2
 have Wd:=way X G z0
 have Dj:=way X G z1
 have RN:=way X G z2
 have ji:=way X G z3
 have Wc:=way X G z4
 have cR:=way X G z5
 have gJ:=way X G z6
 have Am:=way X G z7
 have JV:=way X G z8
 have Di:=way X G z9
 have bC:=way X G z10
 have jh:=way X G z11
 have bY:=way X G z12
 have nM:=W.mg_of X G y0
 obtain⟨md0,FM0,Wf⟩:=Wf
 have lq:=MA.d (ps:=["self","sets","wants"]) FM0 Wf (fun _ _ _ _ _ _=>S6 fun _ _ _=>rfl)
 obtain⟨md1,FM1,ma1⟩:=ma1
 have iV:=MA.d (ps:=["self"]) FM1 ma1 (fun _ _ _ _ _ _=>sJ fun _=>rfl)
 obtain⟨md2,FM2,ma2⟩:=ma2
 have jt:=MA.d (ps:=["self","column","row","other"]) FM2 ma2 (fun _ _ _ _ _ _=>bn4 fun _ _ _ _=>rfl)
 obtain⟨md3,FM3,ma3⟩:=ma3
 have lg:=MA.d (ps:=["self","column"]) FM3 ma3 (fun _ _ _ _ _ _=>nZ fun _ _=>rfl)
 obtain⟨md4,FM4,ma4⟩:=ma4
 have oG:=MA.d (ps:=["self","cells","pivots","column"]) FM4 ma4 (fun _ _ _ _ _ _=>bn4 fun _ _ _ _=>rfl)
 obtain⟨md5,FM5,ma5⟩:=ma5
 have rQ:=MA.d (ps:=["self","row","column"]) FM5 ma5 (fun _ _ _ _ _ _=>S6 fun _ _ _=>rfl)
 obtain⟨md6,FM6,ma6⟩:=ma6
 have pH:=MA.d (ps:=["self"]) FM6 ma6 (fun _ _ _ _ _ _=>sJ fun _=>rfl)
 obtain⟨md7,FM7,ma7⟩:=ma7
 have bW:=MA.d (ps:=["self","row","column"]) FM7 ma7 (fun _ _ _ _ _ _=>S6 fun _ _ _=>rfl)
 obtain⟨md8,FM8,ma8⟩:=ma8
 have kZ:=MA.d (ps:=["self","name"]) FM8 ma8 (fun _ _ _ _ _ _=>nZ fun _ _=>rfl)
 obtain⟨md9,FM9,ma9⟩:=ma9
 have kY:=MA.d (ps:=["self","name"]) FM9 ma9 (fun _ _ _ _ _ _=>nZ fun _ _=>rfl)
 have bx:Cls K aF:=⟨Bu,Bt,Bs,Br⟩
 have bZ:NoAttr K aF "cells":=nY
 have cQ:NoAttr K aF "over":=pF
 have bw:NoAttr K aF "columns":=kj
 have cP:NoAttr K aF "rows":=pD
 have mk_Tableau:Mk K aF mf0:=⟨Bq,Wf.1,Wf.2.1,Bp⟩
 refine⟨W.fnOf "law" "law" (defArgs lU) (defBody lU) (defScope lU) .none Wj Xh V0 Xr SX Xi,fun s v=> .of_eq rfl,fun base _ _=> ?_⟩
 have qd:=JC (P:=l.prog) (w:=w) (base:=base) F0 cR Wc RN
 have N7:=JH (P:=l.prog) (w:=w) (base:=base) F1 iJ qd
 have Kc:=Ft (P:=l.prog) (w:=w) (base:=base) F2 BW N7 Dj
 have yr:=Fq (P:=l.prog) (w:=w) (mg:=mg) (base:=base) F3 Dj bC gJ
 have Ql:=RB (P:=l.prog) (w:=w) (base:=base) F4 v8 Kc oZ yr cR bY
 have Sd:=M9 (P:=l.prog) (w:=w) (base:=base) F5 yU Ql oZ yr cR bY Dj gJ
 have WW:=Rp (P:=l.prog) (w:=w) (base:=base) F6 iJ qd BZ Sd cR bY gJ cZ
 have cA:=Af (P:=l.prog) (w:=w) (base:=base) F7 Ld WW
 have Gf:=Ag (P:=l.prog) (w:=w) (base:=base) F8 yU Ql
 have jF:=Ah (P:=l.prog) (w:=w) (base:=base) F10 cZ
 have yu:=Fy (P:=l.prog) (w:=w) (mg:=mg) (base:=base) F9 iJ qd
 have Kf:=RG (P:=l.prog) (w:=w) (mg:=mg) (base:=base) F13 Di JV
 have vH:=Nq (P:=l.prog) (w:=w) (base:=base) F11 bC
 have Dy:=JQ (P:=l.prog) (w:=w) (mg:=mg) (base:=base) F14 ou Kf bC
 have Ke:=Fv (P:=l.prog) (w:=w) (mg:=mg) (base:=base) F15
 have qZ:=xR (P:=l.prog) (w:=w) (mg:=mg) (base:=base) F16 ux Ke Am bC gJ jh
 have oW:=u6 (P:=l.prog) (w:=w) (mg:=mg) (base:=base) F17 bN cA o7 qZ iQ Dy bC
 have aam:=V8 (P:=l.prog) (w:=w) (mg:=mg) (base:=base) F22
 have Kd:=RD (P:=l.prog) (w:=w) (base:=base) F23 kW aam Wd
 have Ss:=Ng (P:=l.prog) (w:=w) (base:=base) F38 gJ
 have Sg:=Nb (P:=l.prog) (w:=w) (base:=base) F39 yS Ss bC
 have Qm:=RJ (P:=l.prog) (w:=w) (mg:=mg) (base:=base) F40
 have Bb:=Nh (P:=l.prog) (w:=w) (mg:=mg) (base:=base) F41 mX Qm bC bY
 have Xa:=Ry (P:=l.prog) (w:=w) (mg:=mg) (base:=base) FM1 bx bZ cQ bw cP ji Di
 have WY:=Rr (P:=l.prog) (w:=w) (mg:=mg) (base:=base) FM2 bx bZ cQ bw cP
 have W9:=Rx (P:=l.prog) (w:=w) (mg:=mg) (base:=base) FM3 bx bZ cQ bw cP jt WY bC gJ
 have W0:=Rt (P:=l.prog) (w:=w) (mg:=mg) (base:=base) FM4 bx bZ cQ bw cP ji
 have WX:=Rq (P:=l.prog) (w:=w) (mg:=mg) (base:=base) FM5 bx bZ cQ bw cP oG W0
 have W5:=Ru (P:=l.prog) (w:=w) (mg:=mg) (base:=base) FM6 bx bZ cQ bw cP iV Xa rQ WX lg W9
 have J9:=Rz (P:=l.prog) (w:=w) (mg:=mg) (base:=base) FM7 bx bZ cQ bw cP rN Kd
 have W8:=Rw (P:=l.prog) (w:=w) (mg:=mg) (base:=base) FM8 bx bZ cQ bw cP rN Kd bW J9
 have W7:=Rv (P:=l.prog) (w:=w) (mg:=mg) (base:=base) FM9 bx bZ cQ bw cP rN Kd bW J9
 have Sq:=Nf (P:=l.prog) (w:=w) (mg:=mg) (base:=base) FM0 bx bZ cQ bw cP gJ bC Am
 have yt:=uZ (P:=l.prog) (w:=w) (mg:=mg) (base:=base) F24 iJ qd gJ cR bY Dj wN
 have Ka:=Fp (P:=l.prog) (w:=w) (mg:=mg) (base:=base) F25 bx bZ cQ bw cP nM bN cA v7 yt mY oW lq mk_Tableau Sq pH W5 kY W7 kZ W8 bW J9 ji bC
 have Dv:=JD (P:=l.prog) (w:=w) (mg:=mg) (base:=base) F26 bN cA Lb Ka
 have vG:=sH (P:=l.prog) (w:=w) (mg:=mg) (base:=base) F18 bN cA o7 qZ iQ Dy bC
 have yw:=Fz (P:=l.prog) (w:=w) (mg:=mg) (base:=base) F19 JV gJ
 have Kh:=Fx (P:=l.prog) (w:=w) (mg:=mg) (base:=base) F20 gO yw mY oW
 have Kg:=Fw (P:=l.prog) (w:=w) (mg:=mg) (base:=base) F21 gO yw sV vG
 have Xb:=RK (P:=l.prog) (w:=w) (base:=base) F34 bN cA BR Gf qg vH ou Kf bY gJ
 have Dw:=JM (P:=l.prog) (w:=w) (mg:=mg) (base:=base) F27
 have Gh:=Aj (P:=l.prog) (w:=w) (base:=base) F28 bC
 have yx:=FJ (P:=l.prog) (w:=w) (base:=base) F29 bN cA iI jF mW Dw bY
 have Km:=FN (P:=l.prog) (w:=w) (base:=base) F30 yV yx rM Gh bY jh Am
 have Oa:=JL (P:=l.prog) (w:=w) (base:=base) F33 bN cA qg vH bY
 have N5:=JF (P:=l.prog) (w:=w) (base:=base) F31 ou Kf
 have J8:=Fo (P:=l.prog) (w:=w) (base:=base) F32 bN cA iI jF qg vH pG N5 bY
 have Ob:=JN (P:=l.prog) (w:=w) (mg:=mg) (base:=base) F37 bN cA iI jF mW Dw bC bY jh
 have N6:=JG (P:=l.prog) (w:=w) (mg:=mg) (base:=base) F35 jr yu bC bY jh uF cZ
 have Gi:=Ak (P:=l.prog) (w:=w) (mg:=mg) (base:=base) F12 bC
 have Gg:=Ai (P:=l.prog) (w:=w) (mg:=mg) (base:=base) F15
 have N8:=JK (P:=l.prog) (w:=w) (mg:=mg) (base:=base) F36 jr yu Ca Gi iI jF ux Gg qg vH jh gJ bY cZ
 have Bc:=Np (P:=l.prog) (w:=w) (mg:=mg) (base:=base) F42
 have Kl:=Nk (P:=l.prog) (w:=w) (mg:=mg) (base:=base) F43 kO Bc
 have Xc:=RL (P:=l.prog) (w:=w) (mg:=mg) (base:=base) F44
 have Sw:=Nj (P:=l.prog) (w:=w) (mg:=mg) (base:=base) F45 kJ Bb Ea Dv rP Xc Le Km rO Kl yV yx BX Xb La J8 kO Bc yQ Oa oE Kg oF Kh bY bC Di gJ
 have Sy:=Nm (P:=l.prog) (w:=w) (mg:=mg) (base:=base) F46 kJ Bb Ea Dv Ox Ob rO Kl mX Qm Tf N6 kO Bc Ow N8
 exact ok_law (P:=l.prog) (w:=w) (mg:=mg) (base:=base) F47 yR Sg jK Sy oh Sw kJ Bb bC JV Di gJ
theorem walk{l:PySem.W.OpenLaw}{q:Program}{loose:List Str}{XP:(Str->Option Value)->Heap->Prop}{YP:World->Heap->Prop}{d:DefRec}{K:Params->PySem.W.Frag}(hn:l.most=some 63)(hdf:d.params.defaults=[])(hY:∀(w:World) (h:Heap),YP w h->(K w.params).In h)
  (F:∀(w:World) (mg:Str->Option Value) (fa:Addr) (h:Heap),(K w.params).In h->h.Ns mainGlobals mg->mg d.name=some (.ref fa)->
   ∃fd:FuncData,(∀(s:Shared) (u:Value),BindsTo s fd ⟨[u],[]⟩ [("script",u)])/\∀base:Heap,(K w.params).In base->base.Ns mainGlobals mg->FnOk l.prog w (K w.params) mg base CX0 12 fa fd ["script"] (spLaw (K w.params))):
  PySem.W.WalkO q loose XP YP l.row.toRowW d [] (fun f vs=>PySem.call f vs):=
 L2.walk_of (n:=63) (k:=12) (x:="script") (CX:=fun _=>CX0) (sp:=fun w=>spLaw (K w.params)) hn (by decide) hdf ⟨rfl,by decide,by decide,rfl⟩ hY F (fun _ _ a ns hl hO hS=>Ie hl hO hS) fun _ _ _ _ _ z=>z
end Hs
open PySem PySem.W PyProof.Rows
set_option maxRecDepth 100000 in
set_option maxHeartbeats 0 in
theorem PySem.Challenge.cw_hueshare_k27_whole_webs_put_together_holds : PySem.Challenge.rw_hueshare_k27_whole_webs_put_together.Holds := by
 refine Hd.early.2 ?_
 unfold Hd.early
 dsimp only
 k_fill
 refine Hs.walk (l:=PySem.Challenge.rw_hueshare_k27_whole_webs_put_together) rfl rfl (fun w h Y=>PySem.W.kIn_of Y) ?F
 case F=>
  intro w mg fa h KX G hmg
  refine' Hs.all_mk KX G hmg .of .of .of .of .of .of .of .of .of .of .of .of .of .of .of .of .of .of .of .of .of .of .of .of .of .of .of .of .of .of .of .of .of .of .of .of .of .of .of .of .of .of .of .of .of .of .of (by k_is) (by k_is) (by k_is) (by k_is) (by k_is) (by k_is) (by k_is) (by k_is) (by k_is) (by k_is) (by k_is) (by k_is) (by k_is) (by k_is) (by k_is) (by k_is) (by k_is) (by k_is) (by k_is) (by k_is) (by k_is) .of .of .of .of .of .of .of .of .of .of (by k_is) (by k_is) (by k_is) (by k_is) (by k_is) (by k_is) (by k_is) (by k_is) (by k_is) (by k_is)
