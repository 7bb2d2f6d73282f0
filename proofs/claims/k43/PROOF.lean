import PyProof.Rows.All
import Wide.All
import OpenK.AllK
import Wide.FinOn
import Lean
import PyProof.EqAt
import PyProof.EqKinds
import PyProof.TupleCall
import PyProof.ListRange
import PyProof.TupleOfSeq
import PyProof.Draws
import PyProof.EnumMake
import PyProof.TupleIter
import PyProof.Rows.SetFrom
import PyProof.SetRoads
import PyProof.WalksMore
import PyProof.Rows.SortShell
import KE.KMinBuiltin
import PyProof.Rows.CallKwBuiltin
import KE.KRevIter
import PyProof.Rows.Tup
import PyProof.Rows.Range3
import PyProof.DictWalks
import PyProof.DictTruth
import PyProof.TupleKey
import PyProof.Rows.SeqMore2
import PyProof.FString
import PyProof.StrWalks
import PyProof.StrBlockH
import PyProof.StrCalls2
import PyProof.SliceStr2
import KE.KIntText
import PyProof.StrLawsTight
import KE.KDictList
import PyProof.DictRoadsH
import KE.KLam
import KE.KNestM
import PyProof.DictItems
import PyProof.IsiHeapPairs
import KE.KPairComp
import PyProof.MinMaxWalk
import PyProof.MeetsSeq
import PySem.Challenge.RW_hueshare_k43_ways_told
set_option Elab.async false
set_option linter.all false
set_option maxRecDepth 100000

noncomputable section
abbrev aR:=@PySem.wpAny_bind
abbrev cH:=@decide_eq_true
abbrev fL:=@Bool.and_eq_true
abbrev fQ:=@decide_eq_false
abbrev iV:=@of_decide_eq_true
abbrev cA:=@PySem.wpAny_pure
abbrev aN:=@if_pos
abbrev aP:=@if_neg
abbrev mK:=@Bool.false_ne_true
abbrev eF:=@PySem.sizeLine_eq
abbrev mY:=@Bool.eq_iff_iff
abbrev oV:=@PySem.PassesOwn.never
abbrev um:=@PySem.mem_of_lookup
abbrev zT:=@PyProof.Rows.callWith_type1
abbrev rM:=@PySem.boot_len
abbrev zR:=@PySem.F.plainAttrs_list
abbrev zQ:=@PySem.F.plain_min_loop
abbrev uh:=@Option.some.inj
abbrev was:=@congrArg
abbrev wV:=@PySem.wpAny_truthy_bool
abbrev wU:=@decide_eq_true_eq
abbrev CG:=@PySem.F.slot_list_append
abbrev Cz:=@PySem.F.type_list_append
abbrev wR:=@PyProof.Rows.KeyOrd.kle_refl
abbrev way:=@PySem.W.mg_none_of
abbrev zP:=@PySem.wpAny_Call_Name_kw
abbrev Cy:=@PySem.Heap.SameBut.update
abbrev wQ:=@PySem.wpAny_holding
abbrev Eb:=@PySem.Around.under_plainId
abbrev Hl:=@List.Pairwise.imp_of_mem
abbrev Ea:=@Bool.false_eq_true
abbrev Cw:=@PyProof.Rows.get?_update_seq
abbrev wC:=@PySem.wpAny_mono
abbrev DY:=@PyProof.Rows.KeyOrd.kle_of_klt
abbrev Cv:=@PySem.wpAny_tryCatch
abbrev oM:=@Ne.symm
abbrev Jb:=@PySem.F.args_tuple_add_2
abbrev DW:=@PySem.wpAny_passesOwn
abbrev Ja:=@PySem.F.entry_tuple_add
abbrev DR:=@PySem.W.KasT.kasWp_bind
abbrev DQ:=@PySem.codeAny_builtin
abbrev I9:=@PySem.F.slot_tuple_add
abbrev IW:=@PySem.Heap.get?_update_other
abbrev IV:=@PySem.F.entry_min_loop
abbrev Hj:=@PySem.wpAny_newObj_type
abbrev Hi:=@List.any_eq_false
abbrev Hh:=@PySem.wpAny_pyIter_list
abbrev Hg:=@Int.lt_trichotomy
abbrev G9:=@List.Sublist.refl
abbrev Cu:=@PySem.codeAny_mono
abbrev IK:=@List.getElem?_eq_none
abbrev GZ:=@PyProof.Rows.KeyOrd.kle_trans
abbrev K1:=@List.eq_nil_of_length_eq_zero
abbrev Iz:=@List.getElem?_append
abbrev Iw:=@Nat.mul_le_mul_right
abbrev DP:=@PySem.plainId_quiet
abbrev KZ:=@List.dropLast_concat_getLast
abbrev Iv:=@PySem.W.plainGet_of
abbrev Cr:=@Nat.le_succ
abbrev Iu:=@Nat.add_sub_cancel'
abbrev GX:=@PySem.pushCells_keeps
abbrev Ir:=@List.getElem_of_mem
abbrev Ip:=@Nat.add_le_add_left
abbrev Io:=@PyProof.Rows.assignInOrder_cons
abbrev DK:=@Nat.ne_of_gt
abbrev Im:=@PySem.Calls.spliced_cons
abbrev Il:=@PySem.W.callWith_K
abbrev Ik:=@List.zip_cons_cons
abbrev GR:=@PySem.wpAny_seqItems
abbrev KY:=@Classical.byContradiction
abbrev Ij:=@PySem.Calls.spliced_nil
abbrev GQ:=@PySem.wpAny_standAt
abbrev KR:=@decide_eq_false_iff_not
abbrev GK:=@Nat.add_assoc
abbrev DG:=@Int.le_refl
abbrev Ii:=@PySem.wpAny_forIn_list
abbrev Ih:=@PySem.noFill_tuple_add
abbrev Ig:=@Option.getD_some
abbrev Ie:=@List.any_eq_true
abbrev KQ:=@List.getElem?_set_self
abbrev KJ:=@PySem.W.cellsFrom_some
abbrev Ib:=@PySem.wpAny_execs_nil
abbrev Ia:=@List.of_mem_zip
abbrev HY:=@PySem.wpAny_specialOf
abbrev HX:=@PySem.wpAny_updateSeq
abbrev GJ:=@List.all_map
abbrev KH:=@List.Pairwise.sublist
abbrev GF:=@Nat.sub_self
abbrev GD:=@PySem.wpAny_letGo
abbrev HW:=@List.any_cons
abbrev Cq:=@Prod.ext
abbrev GC:=@Nat.sub_le
abbrev HS:=@Nat.zero_add
abbrev Dz:=@if_false
abbrev aQ:=@List.length_map
abbrev bV:=@List.map_append
abbrev fO:=@PySem.Heap.get?_push_of_some
abbrev eE:=@List.mem_cons_of_mem
abbrev cQ:=@List.mem_cons_self
abbrev dJ:=@Nat.lt_of_lt_of_le
abbrev bD:=@Nat.le_refl
abbrev gP:=@List.mem_append_right
abbrev dI:=@List.size_toArray
abbrev dH:=@List.getElem?_map
abbrev jQ:=@List.getElem?_eq_getElem
abbrev mJ:=@List.getD_eq_getElem?_getD
abbrev gO:=@List.length_append
abbrev cB:=@PySem.Heap.lt_size
abbrev iJ:=@List.all_eq_true
abbrev cP:=@Nat.le_trans
abbrev cT:=@Nat.ne_of_lt
abbrev cR:=@List.mem_map
abbrev lq:=@PySem.Heap.get?_push_size
abbrev fK:=@List.mem_cons
abbrev lg:=@List.mem_singleton
abbrev eX:=@Nat.zero_le
abbrev jX:=@List.mem_append
abbrev kZ:=@List.mem_filter
abbrev mX:=@List.length_cons
abbrev mW:=@List.append_nil
abbrev tR:=@List.mem_of_getElem?
abbrev ql:=@List.take_add_one
abbrev oO:=@List.take_length
abbrev yP:=@List.getElem?_eq_some_iff
abbrev ug:=@Nat.lt_of_le_of_lt
abbrev tQ:=@List.lookup_cons
abbrev mV:=@List.map_map
abbrev yO:=@List.length_filter_le
abbrev qj:=@Nat.lt_irrefl
abbrev qg:=@Nat.le_of_eq
abbrev yN:=@Nat.lt_of_le_of_ne
abbrev wO:=@Nat.lt_succ_self
abbrev yM:=@Nat.le_of_lt_succ
abbrev yL:=@List.getElem_mem
abbrev yK:=@List.filter_cons
abbrev wB:=@List.map_cons
abbrev wN:=@List.mem_range
abbrev uf:=@Nat.le_of_lt
abbrev ud:=@Nat.succ_pos
abbrev zN:=@Nat.lt_succ_of_lt
abbrev zM:=@List.pairwise_map
abbrev Cp:=@Array.length_toList
abbrev Gz:=@List.getElem?_append_right
abbrev zL:=@List.length_take
abbrev Cm:=@List.filter_append
abbrev Dy:=@Nat.sub_one_lt_of_le
abbrev Dw:=@List.pairwise_append
abbrev zK:=@List.nodup_cons
abbrev Gy:=@Nat.succ_add_eq_add_succ
abbrev Ck:=@List.append_assoc
abbrev Gx:=@List.sublist_append_left
abbrev wM:=@Nat.lt_trans
abbrev Dv:=@List.filterMap_cons
abbrev zJ:=@PySem.Heap.size_push
abbrev Cj:=@List.length_nil
abbrev Ci:=@Nat.le_antisymm
abbrev Gw:=@List.cons_lt_cons_iff
abbrev HN:=@Array.perm_iff_toList_perm
abbrev Gv:=@List.mem_append_left
abbrev Gu:=@Nat.le_sub_one_of_lt
abbrev HJ:=@List.getElem?_append_left
abbrev Du:=@Nat.le_add_right
abbrev Dt:=@List.range_succ
abbrev Ds:=@Nat.min_le_left
abbrev Cg:=@Nat.lt_or_ge
namespace Hd
open PySem PySem.W PySem.Calls PyProof.Rows
-- a run of the text's top over the heap as a tree, as one fold
def Ab(tb:String->Option Builtin)(p:Program)(w:World)(m:Nat)(ann:Option Value)(n:Nat):SharedT->Thread->Option SharedT:=
 @Nat.rec (fun _=>SharedT->Thread->Option SharedT) (fun _ _=>none)
  (fun _ ih s t=> @Bool.rec (fun _=>Option SharedT)
   (@Bool.rec (fun _=>Option SharedT) none
    (@Option.rec (SharedT×Thread) (fun _=>Option SharedT) none (fun r=>ih r.1 r.2) (stepT (denote tb) p w s t)) (stepOk m ann t))
   (some s) (through t)) n
theorem xg{tb:String->Option Builtin}{p:Program}{w:World}{m:Nat}{ann:Option Value}:∀(n:Nat) (s s':SharedT) (t:Thread),
  Ab tb p w m ann n s t=some s'->topRun tb p w m ann n s.abs t=some s'.abs:=by
 intro n
 induction n with
 |zero=>intro s s' t h;exact absurd h (by intro h;cases h)
 |succ n ih=>
  intro s s' t h
  have h1: @Bool.rec (fun _=>Option SharedT) (@Bool.rec (fun _=>Option SharedT) none
    (@Option.rec (SharedT×Thread) (fun _=>Option SharedT) none (fun r=>Ab tb p w m ann n r.1 r.2) (stepT (denote tb) p w s t)) (stepOk m ann t))
    (some s) (through t)=some s':=h
  unfold topRun
  cases e1:through t with
  |true=>rw[e1]at h1;injection h1 with h1;rw[h1]
  |false=>
   rw[e1]at h1
   cases e2:stepOk m ann t with
   |false=>rw[e2]at h1;cases h1
   |true=>
    rw[e2]at h1
    cases e3:stepT (denote tb) p w s t with
    |none=>rw[e3]at h1;cases h1
    |some r=>
     rw[e3]at h1
     have e4:=stepT_spec (s':=r.1) (t':=r.2) e3
     show(match step (denote tb) p w s.abs t with | .go a b=>topRun tb p w m ann n a b| .halt _ _=>none)=_
     rw[e4]
     exact ih _ _ _ h1
def treeOf(l:List Obj):BT:=(l.foldl (fun x o=>(x.1.ins x.2 o,x.2+1)) ((BT.nil,0):BT×Nat)).1
-- the run from the start that the kit has laid
def ran(p:Program)(N:Nat)(w:World)(os:OsState):Option SharedT:=
 Ab treeTable p w 11 (some (.ref 6)) N ⟨treeOf (boot_heap w.params).objs.toList,11,{},Array.mk [],boot_drawn,boot_toks,os⟩ (topStub p)
-- what is looked at behind the run
def looked(p q:Program)(loose:List Str)(Xt:Shared->Bool)(g0:Bool)(h:Heap)(s:Shared):=
 ((staticsOk (importedModules p.main.body) h s.heap&&namesBound p s.heap&&gensDone s&&laidKept h s.heap),openSeen q loose (importedModules p.main.body) Xt g0 s)
def kW(p q:Program)(loose:List Str)(Xt:Shared->Bool)(g0:Bool)(N:Nat):Prop:=
 ∀(w:World) (os:OsState),(ran p N w os).map (fun s=>looked p q loose Xt g0 (boot_heap w.params) s.abs)=some (true,openGood q loose)
theorem xY{p q:Program}{loose:List Str}{Xt:Shared->Bool}{α:Type}{Yf:Shared->α}{Ya:World->α}{N:Nat}{g0:Bool}(r:kW p q loose Xt g0 N)(e:opening p=plainProg p.main.scope.names)(hN:Nat.ble 600 N=true)(f:∀s,fenceModules? p s=some s)(y:∀(w:World) (os:OsState),(ran p N w os).map (fun s=>Yf s.abs)=some (Ya w)):
  LeftO p q loose Xt Yf Ya N g0:=fun w=>by
 have b:((boot_heap w.params).isNs mainGlobals&&(Array.mk []:Array GenState).size==0,(boot_heap w.params).objs.size,(boot_heap w.params).nsMap mainGlobals "__annotations__")=(true,11,some (.ref 6)):=by kernel_rfl
 have c:absHeap (treeOf (boot_heap w.params).objs.toList) 11 {}=boot_heap w.params:=by kernel_rfl
 obtain⟨⟨h,gs',d',k',os⟩,e1,e'⟩:=Option.map_eq_some_iff.mp (boot_open e hN f w)
 obtain⟨rfl,rfl,rfl,rfl⟩:h=boot_heap w.params/\gs'=Array.mk []/\d'=boot_drawn/\k'=boot_toks:=by simpa using e'
 obtain⟨b1,b2,b3⟩:_/\_/\_:=by simpa only[Prod.mk.injEq]using b
 obtain⟨s,r1,r2⟩:=Option.map_eq_some_iff.mp (r w os)
 obtain⟨s',y1,y2⟩:=Option.map_eq_some_iff.mp (y w os)
 have es:s'=s:=by rw[r1]at y1;injection y1 with y1;exact y1.symm
 subst es
 obtain⟨l1,l2⟩:_/\_:=by simpa only[looked,Prod.mk.injEq]using r2
 have t1:=xg N _ _ _ r1
 have ab:SharedT.abs ⟨treeOf (boot_heap w.params).objs.toList,11,{},Array.mk [],boot_drawn,boot_toks,os⟩=⟨boot_heap w.params,Array.mk [],boot_drawn,boot_toks,os⟩:=by unfold SharedT.abs;rw[c]
 rw[ab]at t1
 have t:topFrom treeTable p w N ⟨boot_heap w.params,Array.mk [],boot_drawn,boot_toks,os⟩=some s'.abs:=by
  unfold topFrom
  dsimp only
  rw[b1,b2,b3,t1]
  show(match staticsOk (importedModules p.main.body) (boot_heap w.params) s'.abs.heap&&namesBound p s'.abs.heap&&gensDone s'.abs&&laidKept (boot_heap w.params) s'.abs.heap with |true=>_|false=>_)=_
  rw[l1]
 unfold openEnds
 rw[e1]
 show(topFrom treeTable p w N _).map _=_
 rw[t]
 show some (_,_)=_
 rw[l2,y2]
end Hd
section
open PySem PySem.W PyProof.Rows
namespace Hd
abbrev L:=PySem.Challenge.rw_hueshare_k43_ways_told
def Q:Program:=view L.row.toRowW.prog [1,2,3,5,6,7,8,9,10,11,12,13,14,15,16,18,19,20,21,22,24,25,26,27,28,29,30,31,32,33,34,35,36]
abbrev X:Shared->Bool:=fun s=>xlAt Q [] s&&recOk (RowW.records L.row.toRowW) s
set_option maxRecDepth 100000 in
theorem looks:kW L.row.toRowW.prog Q [] X true 3738:=fun w os=>by kernel_rfl
end Hd
local macro_rules
 |`(tactic|o_head $H)=>`(tactic|
  refine holds_open (q:=Hd.Q) (loose:=[]) (N:=3738) (Xt:=Hd.X) (XP:=XL Hd.Q [])
   (Yf:=Hook.obs $H) (Ya:=Hook.val $H) (YP:=Hook.says $H)
   (Hd.xY Hd.looks (by kernel_rfl) rfl (fun _=>by kernel_rfl) (fun _ _=>by kernel_rfl))
   (Hook.of $H) (Hook.keeps $H) (fun s e=>xl_of s (Bool.and_eq_true_iff.mp e).1) XL.keeps
   (by rfl) (by rfl) (by rfl) (fun s e=>recFacts_of (Bool.and_eq_true_iff.mp e).2) (by rfl)
   (by first |assumption|decide+kernel) (by decide+kernel) ⟨rfl,rfl,rfl,rfl,rfl,by decide+kernel⟩ ?hw ?hc)
set_option maxRecDepth 100000 in
set_option maxHeartbeats 0 in
def Hd.early:PSigma fun P:Prop=>P->PySem.Challenge.rw_hueshare_k43_ways_told.Holds:=by
 refine⟨?P,fun W=> ?_⟩
 rotate_left
 w_on;o_law;k_head;(case hw=>w_witness2)
 exact W
end
namespace L2
open PySem PySem.Spec PyProof.Rows
abbrev Key:=Sum Int Str
def keyIs:Key->Value->Bool
 | .inl k,v=>Value.isInt k v
 | .inr x,v=>Value.isStrOf x v
def keyH(w:World):Key->Int
 | .inl k=>hashInt k
 | .inr x=>hashStr w x
theorem wz:∀{k:Key} {v:Value},keyIs k v=true->(∃i t,k=Sum.inl i/\v=Value.int i t)\/(∃x t,k=Sum.inr x/\v=Value.str x t)
 | .inl i,v,h=>by
  obtain⟨t,e⟩:=Value.isInt_shape (k:=i) (v:=v) h
  exact .inl ⟨i,t,rfl,e⟩
 | .inr x,v,h=>by
  obtain⟨t,e⟩:=Value.isStrOf_shape (x:=x) (v:=v) h
  exact .inr ⟨x,t,rfl,e⟩
theorem key_ll(a b:Int):decide ((Sum.inl a:Key)=Sum.inl b)=(a==b):=by
 by_cases e:a=b
 ·subst e;simp
 ·have h:¬(Sum.inl a:Key)=Sum.inl b:=fun q=>e (Sum.inl.inj q)
  rw[fQ h]
  exact(beq_eq_false_iff_ne.mpr e).symm
theorem key_rr(a b:Str):decide ((Sum.inr a:Key)=Sum.inr b)=decide (a=b):=by
 by_cases e:a=b
 ·subst e;simp
 ·have h:¬(Sum.inr a:Key)=Sum.inr b:=fun q=>e (Sum.inr.inj q)
  rw[fQ h,fQ e]
theorem key_lr(a:Int)(b:Str):decide ((Sum.inl a:Key)=Sum.inr b)=false:=fQ (fun q=>nomatch q)
theorem key_rl(a:Str)(b:Int):decide ((Sum.inr a:Key)=Sum.inl b)=false:=fQ (fun q=>nomatch q)
def mixKind(prog:Program)(w:World):PySem.KeyKind prog w Key where
 is:=keyIs
 hash:=keyH w
 inj:=fun v a b ha hb=>by
  rcases wz ha with⟨i,t,rfl,rfl⟩|⟨x,t,rfl,rfl⟩
  ·rcases wz hb with⟨j,u,rfl,e⟩|⟨y,u,rfl,e⟩
   ·injection e with e1 _;rw[e1]
   ·exact nomatch e
  ·rcases wz hb with⟨j,u,rfl,e⟩|⟨y,u,rfl,e⟩
   ·exact nomatch e
   ·injection e with e1 _;rw[e1]
 byValue:=fun k v h=>by
  rcases wz h with⟨i,t,rfl,rfl⟩|⟨x,t,rfl,rfl⟩<;>rfl
 pyHash:=fun hv h=>by
  rcases wz hv with⟨i,t,rfl,rfl⟩|⟨x,t,rfl,rfl⟩
  ·exact wpAny_pyHash_int h
  ·exact wpAny_pyHash_str h
 eqBool:=fun hu hv h=>by
  rcases wz hu with⟨i,t,rfl,rfl⟩|⟨x,t,rfl,rfl⟩
  ·rcases wz hv with⟨j,u,rfl,rfl⟩|⟨y,u,rfl,rfl⟩
   ·rw[key_ll]at h;exact wpAny_eqBool_int h
   ·rw[key_lr]at h;exact SeqAt.EqAt.int_str i t y u _ _ _ _ h
  ·rcases wz hv with⟨j,u,rfl,rfl⟩|⟨y,u,rfl,rfl⟩
   ·rw[key_rl]at h;exact SeqAt.EqAt.str_int x t j u _ _ _ _ h
   ·rw[key_rr]at h;exact wpAny_eqBool_str h
 «strs»:=fun k x t v h=>by
  rcases wz h with⟨i,u,rfl,e⟩|⟨y,u,rfl,e⟩
  ·exact nomatch e
  ·injection e with e1 _
   subst e1
   cases v<;>rfl
inductive V where
 |non|bl (b:Bool)|int (i:Int)|str (x:Str)|byt (b:Array UInt8)|flt (b:UInt64)|ref (a:Addr)|ty (n:String)
 deriving DecidableEq
def RelV:V->Value->Prop
 | .non,u=>u=Value.none
 | .bl b,u=>u=Value.bool b
 | .int i,u=>∃t,u=Value.int i t
 | .str x,u=>∃t,u=Value.str x t
 | .byt b,u=>∃t,u=Value.bytes b t
 | .flt b,u=>∃t,u=Value.float b t
 | .ref a,u=>u=Value.ref a
 | .ty n,u=>u=Value.type n
abbrev Vals:List V->List Value->Prop:=Paired RelV
theorem Vals.length{xs:List V}{us:List Value}(r:Vals xs us):xs.length=us.length:=Paired.length r
theorem Vals.get:∀{xs:List V} {us:List Value} {i:Nat} {x:V},Vals xs us->xs[i]? =some x->∃u,us[i]? =some u/\RelV x u
 |_,_,_,_,.nil,e=>by simp at e
 |_,_,0,_,.cons r _,e=>by simp at e;subst e;exact⟨_,rfl,r⟩
 |_,_,i+1,x,.cons _ t,e=>by
  obtain⟨u,h1,h2⟩:=Vals.get (i:=i) (x:=x) t (by simpa using e)
  exact⟨u,by simpa using h1,h2⟩
theorem Vals.set{x:V}{u:Value}(r:RelV x u):∀{xs:List V} {us:List Value} (i:Nat),Vals xs us->Vals (xs.set i x) (us.set i u)
 |_,_,_,.nil=> .nil
 |_,_,0,.cons _ t=> .cons r t
 |_,_,i+1,.cons q t=> .cons q (Vals.set r i t)
theorem Vals.append:∀{xs ys:List V} {us ws:List Value},Vals xs us->Vals ys ws->Vals (xs++ys) (us++ws)
 |_,_,_,_,.nil,s=>s
 |_,_,_,_,.cons r t,s=> .cons r (Vals.append t s)
def RelO:Option V->Option Value->Prop
 |some v,some u=>RelV v u
 |none,none=>True
 |_,_=>False
def KV{κ:Type}:List (κ×V)->List (κ×Value)->Prop:=Paired fun(p:κ×V) (q:κ×Value)=>p.1=q.1/\RelV p.2 q.2
def kV:Key->V
 | .inl i=> .int i
 | .inr x=> .str x
inductive HO where
 /-- a list -/
 |lst (xs:List V)
 /-- a tuple (never changes) -/
 |tup (xs:List V)
 /-- a dict whose keys are ints and texts; one whose keys are tuples of ints and texts (the empty one is both) -/
 |dK (kvs:List (Key×V))|dT (kvs:List (List Key×V))
 /-- a set of ints: its members, its size -/
 |set (S:Int->Bool) (n:Nat)
 /-- an instance of the class at C, its dict at dx, its attributes -/
 |ins (C dx:Addr) (fs:List (Str×V))
 /-- the dict of the instance at x -/
 |own (x:Addr)
 /-- the dict of an exception -/
 |xd (fs:List (Str×V))
 /-- a bound method, f of x -/
 |met (f x:Addr)
 /-- a range object lo, lo + 1, .. below hi -/
 |rng (lo hi:Int)
 /-- a thing that is known to the object (the script; a dict while a loop walks it): read, never written while it is so -/
 |frz (o:Obj) (u:HO)
 /-- a code object's table -/
 |tbl (ps:Array Value)
 /-- any other thing, by what is true of its one object (a def of one's own: SetO a S n := HO.ext fun h => ..) -/
 |ext (φ:Heap->Prop)
abbrev Hp:=Addr->Option HO
def upd(H:Hp)(a:Addr)(o:HO):Hp:=fun b=>if b=a then some o else H b
theorem aL{H:Hp}{a:Addr}{o:HO}:upd H a o a=some o:=by unfold upd;rw[aN rfl]
theorem dG{H:Hp}{a b:Addr}{o:HO}(h:b≠a):upd H a o b=H b:=by unfold upd;rw[aP h]
theorem ne_of{H:Hp}{a b:Addr}{o u:HO}(h:H a=some o)(h':H b=some u)(d:o≠u):a≠b:=by
 intro e;subst e;rw[h]at h';exact d (uh h')
theorem jP{H:Hp}{a b:Addr}{o:HO}(h:H a=some o)(h':H b=none):a≠b:=by
 intro e;subst e;rw[h]at h';cases h'
section
variable(P:Program)(w:World)
def ObjOk(H:Hp)(h:Heap)(a:Addr):HO->Prop
 | .lst xs=>xs.length<=sizeLine/\∃(its:List Value) (n:Nat),Vals xs its/\h.get? a=some {cls:= .type "list",data:= .seq its.toArray n}
 | .tup xs=>xs.length<=sizeLine/\∃its:List Value,Vals xs its/\IsTup h a its.toArray
 | .dK kvs=>kvs.length<=sizeLine/\(a==sysModules)=false/\∃vs,KV kvs vs/\h.DictOf (mixKind P w) a vs
 | .dT kvs=>kvs.length<=sizeLine/\(a==sysModules)=false/\∃xs:List (List Key×Addr×Value),
   Paired (fun(p:List Key×V) (q:List Key×Addr×Value)=>p.1=q.1/\H q.2.1=some (.tup (p.1.map kV))/\RelV p.2 q.2.2) kvs xs/\
   ∃o es ep,h.get? a=some o/\o.ExactDict/\o.data= .dict es ep/\es.toList=xs.map (entryOfKey (tupleKind (mixKind P w)))/\(xs.map (·.1)).Nodup
 | .set S n=>h.SetOf (intKind P w) a S n
 | .ins C dx fs=>H dx=some (.own a)/\fs.length<=1000/\dx≠a/\h.get? a=some (PySem.W.instObj C dx)/\
   ∃mA,h.Ns1 dx mA/\(∀f,RelO (fs.lookup f) (mA f))/\PySem.Within mA (fs.map (·.1))
 | .own _=>∃o,h.get? a=some o
 | .xd fs=>∃mA,h.Ns1 a mA/\∀f,RelO (fs.lookup f) (mA f)
 | .rng lo hi=>∃t u v,h.get? a=some {cls:= .type "range",data:= .fields #[.int lo t,.int hi u,.int 1 v]}
 | .frz o u=>h.get? a=some o/\ObjOk H h a u
 | .tbl ps=>h.get? a=some {cls:= .none,data:= .fields ps}
 | .met f x=>h.get? a=some (PySem.W.methodObj (.ref f) (.ref x))
 | .ext φ=>φ h/\(∃o,h.get? a=some o)/\∀h1 h2:Heap,φ h1->(∀o,h1.get? a=some o->h2.get? a=some o)->φ h2
def HOk(H:Hp)(h:Heap):Prop:=∀a o,H a=some o->ObjOk P w H h a o
end
section
variable{P:Program}{w:World}{H H':Hp}{h h':Heap}{a:Addr}{o:HO}
theorem ObjOk.lt(x:ObjOk P w H h a o):a<h.objs.size:=by
 cases o with
 |lst xs=>obtain⟨_,_,_,_,e⟩:=x;exact cB e
 |tup xs=>obtain⟨_,_,_,p⟩:=x;exact p.lt
 |dK kvs=>obtain⟨_,_,_,_,o,_,_,e,_⟩:=x;exact cB e
 |dT kvs=>obtain⟨_,_,_,_,o,_,_,e,_⟩:=x;exact cB e
 |set S n=>obtain⟨o,_,_,_,e,_⟩:=x;exact cB e
 |ins C dx fs=>obtain⟨_,_,_,e,_⟩:=x;exact cB e
 |own y=>obtain⟨_,e⟩:=x;exact cB e
 |xd fs=>obtain⟨_,⟨_,_,_,e,_⟩,_⟩:=x;exact cB e
 |rng lo hi=>obtain⟨_,_,_,e⟩:=x;exact cB e
 |frz ob u=>obtain⟨e,_⟩:=x;exact cB e
 |tbl ps=>exact cB (show h.get? a=some _ from x)
 |met f y=>exact cB (show h.get? a=some _ from x)
 |ext φ=>obtain⟨_,⟨_,e⟩,_⟩:=x;exact cB e
theorem Paired.mapP{α β:Type}{F G:α->β->Prop}:∀{l₁:List α} {l₂:List β},Paired F l₁ l₂->(∀a b,F a b->G a b)->Paired G l₁ l₂
 |_,_,.nil,_=> .nil
 |_,_,.cons r t,f=> .cons (f _ _ r) (Paired.mapP t f)
theorem ObjOk.stay(x:ObjOk P w H h a o)(k:∀b u,(b=a\/H b=some (.own a))->h.get? b=some u->h'.get? b=some u)(ho:∀b,H b=some (.own a)->H' b=some (.own a))(ht:∀b xs,H b=some (.tup xs)->H' b=some (.tup xs)):ObjOk P w H' h' a o:=by
 induction o with
 |lst xs=>obtain⟨z,its,n,r,e⟩:=x;exact⟨z,its,n,r,k _ _ (.inl rfl) e⟩
 |tup xs=>obtain⟨z,its,r,ob,e,c⟩:=x;exact⟨z,its,r,ob,k _ _ (.inl rfl) e,c⟩
 |dK kvs=>obtain⟨z,y,vs,r,ob,es,ep,e,c⟩:=x;exact⟨z,y,vs,r,ob,es,ep,k _ _ (.inl rfl) e,c⟩
 |dT kvs=>
  obtain⟨z,y,xs,r,ob,es,ep,e,c⟩:=x
  exact⟨z,y,xs,Paired.mapP r fun p q z=>⟨z.1,ht _ _ z.2.1,z.2.2⟩,ob,es,ep,k _ _ (.inl rfl) e,c⟩
 |set S n=>obtain⟨ob,es,ep,t,e,c⟩:=x;exact⟨ob,es,ep,t,k _ _ (.inl rfl) e,c⟩
 |ins C dx fs=>
  obtain⟨d,z,ne,e,mA,⟨od,es,ep,e2,c⟩,r⟩:=x
  exact⟨ho _ d,z,ne,k _ _ (.inl rfl) e,mA,⟨od,es,ep,k _ _ (.inr d) e2,c⟩,r⟩
 |own y=>obtain⟨ob,e⟩:=x;exact⟨ob,k _ _ (.inl rfl) e⟩
 |xd fs=>obtain⟨mA,⟨od,es,ep,e,c⟩,r⟩:=x;exact⟨mA,⟨od,es,ep,k _ _ (.inl rfl) e,c⟩,r⟩
 |rng lo hi=>obtain⟨t,u,v,e⟩:=x;exact⟨t,u,v,k _ _ (.inl rfl) e⟩
 |frz ob u ih=>obtain⟨e,q⟩:=x;exact⟨k _ _ (.inl rfl) e,ih q⟩
 |tbl ps=>
  have e:h.get? a=some {cls:= .none,data:= .fields ps}:=x
  show h'.get? a=some {cls:= .none,data:= .fields ps}
  exact k a _ (.inl rfl) e
 |met f y=>
  have e:h.get? a=some (PySem.W.methodObj (.ref f) (.ref y)):=x
  show h'.get? a=some (PySem.W.methodObj (.ref f) (.ref y))
  exact k a _ (.inl rfl) e
 |ext φ=>obtain⟨p,⟨o,e⟩,st⟩:=x;exact⟨st _ _ p fun o q=>k _ _ (.inl rfl) q,⟨o,k _ _ (.inl rfl) e⟩,st⟩
theorem HOk.lt(x:HOk P w H h)(e:H a=some o):a<h.objs.size:=(x a o e).lt
theorem HOk.fresh(x:HOk P w H h)(e:h.objs.size<=a):H a=none:=by
 cases q:H a with
 |none=>rfl
 |some u=>exact absurd (dJ (x.lt q) e) (qj _)
theorem HOk.kept(x:HOk P w H h)(k:∀b u,h.get? b=some u->h'.get? b=some u):HOk P w H h':=fun a o e=>
 (x a o e).stay (fun b u _ q=>k b u q) (fun _ q=>q) fun _ _ q=>q
theorem HOk.laid(x:HOk P w H h)(k:∀b u,h.get? b=some u->h'.get? b=some u)(hp:h.objs.size<=a)(new:ObjOk P w (upd H a o) h' a o):HOk P w (upd H a o) h':=fun b u e=>by
 have hn:=x.fresh hp
 by_cases hb:b=a
 ·subst hb;rw[aL]at e;cases e;exact new
 ·rw[dG hb]at e
  exact(x b u e).stay (fun c v _ q=>k c v q) (fun c q=>by rw[dG (jP q hn)];exact q) fun c xs q=>by rw[dG (jP q hn)];exact q
end
def Rd(H:Hp)(a:Addr)(u:HO):Prop:=H a=some u\/∃o,H a=some (.frz o u)
theorem Rd.ok{P:Program}{w:World}{H:Hp}{h:Heap}{a:Addr}{u:HO}(r:Rd H a u)(x:HOk P w H h):ObjOk P w H h a u:=by
 rcases r with r|⟨o,r⟩
 ·exact x a u r
 ·obtain⟨_,q⟩:=x a _ r
  exact q
def Mut:Option HO->Prop
 |some (.lst _)=>True
 |some (.dK _)=>True
 |some (.dT _)=>True
 |some (.set _ _)=>True
 |some (.ins _ _ _)=>True
 |some (.ext _)=>True
 |_=>False
section
variable{P:Program}{w:World}{H:Hp}{h h':Heap}{x e:Addr}{o':HO}
theorem HOk.write(ok:HOk P w H h)(mu:Mut (H x))(he:e=x\/H e=some (.own x))(k:∀b u,b≠e->h.get? b=some u->h'.get? b=some u)(heo:∃u,h'.get? e=some u)(new:ObjOk P w (upd H x o') h' x o'):HOk P w (upd H x o') h':=fun b u q=>by
 have nown:∀c y,H c=some (.own y)->c≠x:=fun c y r z=>by subst z;rw[r]at mu;exact mu
 have ntup:∀c xs,H c=some (.tup xs)->c≠x:=fun c xs r z=>by subst z;rw[r]at mu;exact mu
 by_cases hb:b=x
 ·subst hb;rw[aL]at q;cases q;exact new
 ·rw[dG hb]at q
  by_cases hbe:b=e
  ·have q':H b=some (.own x):=by
    rcases he with z|z
    ·exact absurd (hbe.trans z) hb
    ·rw[hbe];exact z
   rw[q]at q';cases q'
   obtain⟨v,hv⟩:=heo
   exact⟨v,by rw[hbe];exact hv⟩
  ·refine(ok b u q).stay (fun c v hc r=>k c v ?_ r) (fun c r=>by rw[dG (nown c b r)];exact r) fun c xs r=>by rw[dG (ntup c xs r)];exact r
   rcases hc with rfl|hc
   ·exact hbe
   ·rintro rfl
    rcases he with z|z
    ·exact nown c b hc z
    ·rw[hc]at z;cases z;exact hb rfl
end
structure Un(fs ex:List Addr)(H H':Hp)(h h':Heap):Prop where
 keep:∀b o,h.get? b=some o->H b=none->b∉fs->b∉ex->h'.get? b=some o
 slot:∀b o,h.get? b=some o->H b=none->b∈fs->b∉ex->∃sl,h'.get? b=some {o with slots:=sl}
 free:∀b o,h.get? b=some o->H b=none->b∉ex->H' b=none
 there:∀b o,h.get? b=some o->b∉ex->∃o',h'.get? b=some o'
 tups:∀b xs,H b=some (.tup xs)->H' b=some (.tup xs)
 frzs:∀b o u,H b=some (.frz o u)->H' b=some (.frz o u)
 tbls:∀b ps,H b=some (.tbl ps)->∃more,H' b=some (.tbl (ps++more))
section
variable{fs fs' ex ex':List Addr}{H H1 H2:Hp}{h h1 h2 h':Heap}{a x e:Addr}{o:HO}
theorem Un.any(u:Un fs ex H H1 h h1){b:Addr}{ob:Obj}(q:h.get? b=some ob)(n:H b=none)(hx:b∉ex):∃sl,h1.get? b=some {ob with slots:=sl}:=by
 by_cases hb:b∈fs
 ·exact u.slot b ob q n hb hx
 ·exact⟨ob.slots,u.keep b ob q n hb hx⟩
theorem Un.kept(k:∀b u,h.get? b=some u->h'.get? b=some u):Un fs ex H H h h':=
 ⟨fun b ob q _ _ _=>k b ob q,fun b ob q _ _ _=>⟨ob.slots,k b ob q⟩,fun _ _ _ n _=>n,fun b ob q _=>⟨ob,k b ob q⟩,fun _ _ q=>q,fun _ _ _ q=>q,fun _ ps q=>⟨#[],by rw[q];simp⟩⟩
theorem Un.refl:Un fs ex H H h h:=Un.kept fun _ _ q=>q
theorem Un.laid(k:∀b u,h.get? b=some u->h'.get? b=some u)(hp:h.objs.size<=a)(hn:H a=none):Un fs ex H (upd H a o) h h' where
 keep:=fun b u q _ _ _=>k b u q
 slot:=fun b u q _ _ _=>⟨u.slots,k b u q⟩
 free:=fun b u q n _=>by rw[dG (cT (dJ (cB q) hp))];exact n
 there:=fun b u q _=>⟨u,k b u q⟩
 tups:=fun b xs q=>by rw[dG (jP q hn)];exact q
 frzs:=fun b u xs q=>by rw[dG (jP q hn)];exact q
 tbls:=fun b ps q=>⟨#[],by rw[dG (jP q hn),q];simp⟩
theorem Un.write(mu:Mut (H x))(he:e=x\/H e=some (.own x))(k:∀b u,b≠e->h.get? b=some u->h'.get? b=some u)(heo:∃u,h'.get? e=some u):Un fs ex H (upd H x o) h h':=by
 have hx:∀b,H b=none->b≠x:=fun b n z=>by subst z;rw[n]at mu;exact mu
 have hb:∀b,H b=none->b≠e:=fun b n z=>by
  subst z
  rcases he with r|r
  ·exact hx b n r
  ·rw[n]at r;cases r
 have hm:∀b u,H b=some u->¬Mut (some u)->b≠x:=fun b u q nm z=>by subst z;rw[q]at mu;exact nm mu
 refine⟨fun b u q n _ _=>k b u (hb b n) q,fun b u q n _ _=>⟨u.slots,k b u (hb b n) q⟩,fun b u q n _=>by rw[dG (hx b n)];exact n,fun b u q _=> ?_,
  fun b xs q=>by rw[dG (hm b _ q fun z=>z)];exact q,fun b u xs q=>by rw[dG (hm b _ q fun z=>z)];exact q,fun b ps q=>⟨#[],by rw[dG (hm b _ q fun z=>z),q];simp⟩⟩
 by_cases hbe:b=e
 ·subst hbe;exact heo
 ·exact⟨u,k b u hbe q⟩
end
def trk(h:Heap)(H:Hp):List Addr:=(List.range h.objs.size).filter fun a=>(H a).isSome
def hidT(h:Heap)(H:Hp):Heap:=PySem.W.hideAll h (trk h H)
theorem hidT_size(h:Heap)(H:Hp):(hidT h H).objs.size=h.objs.size:=PySem.W.hideAll_size _ _
theorem hidT_get{h:Heap}{H:Hp}{b:Addr}{o:Obj}(e:h.get? b=some o)(n:H b=none):(hidT h H).get? b=some o:=
 PySem.W.hideAll_get _ e fun hm=>by
  have q:(H b).isSome=true:=(kZ.mp hm).2
  rw[n]at q;simp at q
theorem of_hidT{h:Heap}{H:Hp}{b:Addr}{o:Obj}(e:(hidT h H).get? b=some o):h.get? b=some o/\H b=none:=by
 have e':h.get? b=some o:=PySem.W.of_hideAll (trk h H) e
 refine⟨e',?_⟩
 cases q:H b with
 |none=>rfl
 |some x=>
  have hm:b∈trk h H:=kZ.mpr ⟨wN.mpr (cB e'),by simp[q]⟩
  have z:(hidT h H).get? b=none:=PySem.W.hideAll_none (trk h H) hm
  rw[z]at e;cases e
structure Mod(K:W.Frag)(mg:Str->Option Value)(base:Heap):Prop where
 kin:K.In base
 glob:base.Ns mainGlobals mg
 blt:∃mb,base.Ns builtinsNs mb/\∀x:Str,x≠"__name__"->mb x=bootBuiltins x
 nolimit:base.NoLimit
structure Cx where
 prog:Program
 w:World
 K:W.Frag
 mg:Str->Option Value
 base:Heap
 A:Around
 N:List Str
 s₀:Shared
 H₀:Hp
 env:Env
 outer:List Env
 stack:List Env
 ex:List Addr
 fn:Str->Bool
 calm:Bool
 pn:List (Addr×Obj)
 xe:Value->Shared->Prop
def frs(l:List Env):List Addr:=l.filterMap (·.frame)
abbrev Cx.fs(X:Cx):List Addr:=frs X.outer
def Vis(sc:Scope)(x:Str):Prop:=sc.names.lookup x=some .local\/sc.names.lookup x=some .cell\/sc.names.lookup x=some .free
def Loc(sc:Scope)(x:Str):Prop:=sc.names.lookup x=some .local\/sc.names.lookup x=some .cell
def Look(env:Env)(h:Heap)(m:Str->Option Value)(x:Str)(u:Value):Prop:=
 (env.kindOf x=some .local/\m x=some u)\/((env.kindOf x=some .cell\/env.kindOf x=some .free)/\∃c,env.cells.lookup x=some c/\h.IsCell c (some u))
structure Cx.Ok(X:Cx):Prop where
 mod:Mod X.K X.mg X.base
 kind:X.env.scope.kind= .function
 glob:X.env.globals=mainGlobals
 blt:X.env.builtins=builtinsNs
 above:X.s₀.heap.objs.size<=X.env.locals
 inj:∀x y c,X.env.cells.lookup x=some c->X.env.cells.lookup y=some c->x=y
 has:∀x,(X.env.kindOf x=some .cell\/X.env.kindOf x=some .free)->∃c,X.env.cells.lookup x=some c
 cab:∀x c,X.fn x=true->X.env.cells.lookup x=some c->X.s₀.heap.objs.size<=c
 hd:X.calm=true->X.A.handled=none
 frames:X.A.frames=some X.stack
 stk:X.stack=X.outer\/(X.stack=X.env::X.outer/\X.env.frame=some X.env.locals)
 exf:∀b∈X.ex,b≠X.env.locals/\∀x c,X.env.cells.lookup x=some c->c≠b
 bs:∀b o,X.base.get? b=some o->X.s₀.heap.get? b=some o/\X.H₀ b=none
 bsz:X.base.objs.size<=X.s₀.heap.objs.size
 noex:∀b o,X.base.get? b=some o->b∉X.ex
 exfs:∀b∈X.ex,b∉X.fs
 funs:X.s₀.heap.FunFrames X.base X.outer
 frf:∀b∈X.fs,X.H₀ b=none
structure Inv(X:Cx)(pins:List (Addr×Obj))(σ:List (Option V))(H:Hp)(s:Shared):Prop where
 ok:X.Ok
 os:s.os=X.s₀.os
 bare:AllBare s.gens
 base:Un X.fs X.ex X.H₀ H X.s₀.heap s.heap
 loc:∃m,s.heap.Ns X.env.locals m/\∀(i:Nat) (x:Str) (v:V),X.N[i]? =some x->σ[i]? =some (some v)->Vis X.env.scope x->∃u,RelV v u/\Look X.env s.heap m x u
 cell:∀x c,X.env.cells.lookup x=some c->∃v,s.heap.IsCell c v
 free:H X.env.locals=none
 freeC:∀x c,X.env.cells.lookup x=some c->H c=none
 pin:∀p∈X.pn++pins,s.heap.get? p.1=some p.2/\H p.1=none/\p.1≠X.env.locals/\p.1∉X.fs/\∀v,p.2.data≠.cell v
 hok:HOk X.prog X.w H s.heap
 len:σ.length=X.N.length
section
variable{X:Cx}{pins:List (Addr×Obj)}{σ:List (Option V)}{H H':Hp}{s:Shared}{h':Heap}
theorem Cx.Ok.nofr(ok:X.Ok){b:Addr}{o:Obj}(e:X.base.get? b=some o):b∉X.fs:=fun hb=>by
 have:=(ok.funs.mem hb).1
 rw[e]at this;cases this
theorem Inv.bs(I:Inv X pins σ H s):∀b o,X.base.get? b=some o->s.heap.get? b=some o/\H b=none:=fun b o e=>
 ⟨I.base.keep b o (I.ok.bs b o e).1 (I.ok.bs b o e).2 (I.ok.nofr e) (I.ok.noex b o e),I.base.free b o (I.ok.bs b o e).1 (I.ok.bs b o e).2 (I.ok.noex b o e)⟩
theorem Inv.bk(I:Inv X pins σ H s):∀b o,X.base.get? b=some o->s.heap.get? b=some o:=fun b o e=>(I.bs b o e).1
theorem Inv.mod(I:Inv X pins σ H s):Mod X.K X.mg X.base:=I.ok.mod
theorem Inv.kIn(I:Inv X pins σ H s):X.K.In s.heap:=I.ok.mod.kin.keeps I.bk
theorem Inv.lt(I:Inv X pins σ H s):X.env.locals<s.heap.objs.size:=let⟨_,hn,_⟩:=I.loc;hn.lt
theorem Inv.sz(I:Inv X pins σ H s):X.s₀.heap.objs.size<=s.heap.objs.size:=cP I.ok.above (uf I.lt)
theorem Inv.nofs(I:Inv X pins σ H s){a:Addr}(h:s.heap.objs.size<=a):a∉X.fs:=fun hb=>by
 obtain⟨_,o,ho,_⟩:=I.ok.funs.mem hb
 exact absurd (dJ (cB ho) (cP I.sz h)) (qj _)
theorem Inv.cne(I:Inv X pins σ H s):∀x c,X.env.cells.lookup x=some c->c≠X.env.locals:=fun x c e z=>by
 obtain⟨v,o,ho,hd⟩:=I.cell x c e
 obtain⟨m,⟨o',es,ep,ho',hd',_⟩,_⟩:=I.loc
 rw[z,ho']at ho;cases ho;rw[hd']at hd;cases hd
theorem Inv.funs(I:Inv X pins σ H s):s.heap.FunFrames X.base X.outer:=by
 have all:∀(l:List Env),(∀b∈frs l,b∈X.fs)->X.s₀.heap.FunFrames X.base l->s.heap.FunFrames X.base l:=by
  intro l
  induction l with
  |nil=>intro _ _;trivial
  |cons env r ih=>
   intro hs hl
   obtain⟨hk,⟨L,o,hf,hn,ho,hd⟩,hr⟩:=hl
   have hL:L∈X.fs:=hs L (by unfold frs;rw[Dv,hf];exact cQ)
   obtain⟨sl,e⟩:=I.base.slot L o ho (I.ok.frf L hL) hL fun z=>I.ok.exfs L z hL
   exact⟨hk,⟨L,_,hf,hn,e,hd⟩,ih (fun b hb=>hs b (by unfold frs;rw[Dv,hf];exact eE _ hb)) hr⟩
 exact all X.outer (fun _ hb=>hb) I.ok.funs
theorem Inv.stack(I:Inv X pins σ H s):s.heap.FunFrames X.base X.stack:=by
 rcases I.ok.stk with e|⟨e,hf⟩
 ·rw[e];exact I.funs
 ·rw[e]
  obtain⟨m,hn,_⟩:=I.loc
  refine .cons (by rw[I.ok.kind];decide) hf hn ?_ I.funs
  exact Heap.get?_none_of_le (cP I.ok.bsz I.ok.above)
theorem Inv.stkSub(I:Inv X pins σ H s):∀b∈frs X.stack,b∈X.env.locals::X.fs:=fun b hb=>by
 rcases I.ok.stk with e|⟨e,hf⟩
 ·rw[e]at hb;exact eE _ hb
 ·rw[e]at hb
  unfold frs at hb
  rw[Dv,hf]at hb
  exact hb
theorem Inv.stkFree(I:Inv X pins σ H s):∀b∈frs X.stack,H b=none:=fun b hb=>by
 rcases fK.mp (I.stkSub b hb)with e|hb
 ·rw[e];exact I.free
 ·obtain⟨_,o,ho,_⟩:=I.ok.funs.mem hb
  exact I.base.free b o ho (I.ok.frf b hb) fun z=>I.ok.exfs b z hb
theorem Inv.step{g':Array GenState}{t':Nat}{d':Drawn}{ch:List Addr}(I:Inv X pins σ H s)(hch:∀b∈ch,(b∈X.ex\/X.s₀.heap.objs.size<=b)/\b≠X.env.locals/\(∀x c,X.env.cells.lookup x=some c->c≠b)/\∀p∈X.pn++pins,p.1≠b)(keep:∀b o,b≠X.env.locals->b∉X.fs->b∉ch->s.heap.get? b=some o->H b=none->h'.get? b=some o)(slot:∀b o,b≠X.env.locals->b∈X.fs->b∉ch->s.heap.get? b=some o->H b=none->∃sl,h'.get? b=some {o with slots:=sl})(free:∀b o,b∉ch->s.heap.get? b=some o->H b=none->H' b=none)(there:∀b o,b∉ch->s.heap.get? b=some o->∃o',h'.get? b=some o')(tups:∀b xs,H b=some (.tup xs)->H' b=some (.tup xs))(frzs:∀b o u,H b=some (.frz o u)->H' b=some (.frz o u))(tbls:∀b ps,H b=some (.tbl ps)->∃more,H' b=some (.tbl (ps++more)))(ns:∀m,s.heap.Ns X.env.locals m->h'.Ns X.env.locals m)(hok:HOk X.prog X.w H' h')(hg:AllBare g'):
  Inv X pins σ H' {s with heap:=h',gens:=g',drawn:=d',toks:=t'}:=by
 have neL:∀b o,X.s₀.heap.get? b=some o->b≠X.env.locals:=fun b o e=>cT (dJ (cB e) I.ok.above)
 have neC:∀b o,X.s₀.heap.get? b=some o->b∉X.ex->b∉ch:=fun b o e hx hb=>by
  rcases(hch b hb).1 with z|z
  ·exact hx z
  ·exact absurd (dJ (cB e) z) (qj _)
 have cellK:∀x c,X.env.cells.lookup x=some c->∀v,s.heap.IsCell c v->h'.IsCell c v:=fun x c e v ⟨o,ho,hd⟩=>by
  have nch:c∉ch:=fun z=>(hch c z).2.2.1 x c e rfl
  by_cases hc:c∈X.fs
  ·obtain⟨sl,q⟩:=slot c o (I.cne x c e) hc nch ho (I.freeC x c e)
   exact⟨_,q,hd⟩
  ·exact⟨o,keep c o (I.cne x c e) hc nch ho (I.freeC x c e),hd⟩
 refine⟨I.ok,I.os,hg,⟨fun b o e n hb hx=> ?_,fun b o e n hb hx=> ?_,fun b o e n hx=> ?_,fun b o e hx=> ?_,fun b xs e=>tups b xs (I.base.tups b xs e),fun b o xs e=>frzs b o xs (I.base.frzs b o xs e),fun b ps e=> ?_⟩,?_,fun x c e=> ?_,?_,fun x c e=> ?_,fun p hp=> ?_,hok,I.len⟩
 ·exact keep b o (neL b o e) hb (neC b o e hx) (I.base.keep b o e n hb hx) (I.base.free b o e n hx)
 ·obtain⟨sl,e1⟩:=I.base.slot b o e n hb hx
  obtain⟨sl',e2⟩:=slot b _ (neL b o e) hb (neC b o e hx) e1 (I.base.free b o e n hx)
  exact⟨sl',e2⟩
 ·obtain⟨o',e1⟩:=I.base.there b o e hx
  exact free b o' (neC b o e hx) e1 (I.base.free b o e n hx)
 ·obtain⟨o',e1⟩:=I.base.there b o e hx
  exact there b o' (neC b o e hx) e1
 ·obtain⟨m1,e1⟩:=I.base.tbls b ps e
  obtain⟨m2,e2⟩:=tbls b _ e1
  exact⟨m1++m2,by rw[e2,Array.append_assoc]⟩
 ·obtain⟨m,hn,hl⟩:=I.loc
  refine⟨m,ns m hn,fun i x v e1 e2 e3=> ?_⟩
  obtain⟨u,r,l⟩:=hl i x v e1 e2 e3
  refine⟨u,r,?_⟩
  rcases l with l|⟨k,c,e,z⟩
  ·exact .inl l
  ·exact .inr ⟨k,c,e,cellK x c e _ z⟩
 ·obtain⟨v,z⟩:=I.cell x c e
  exact⟨v,cellK x c e v z⟩
 ·obtain⟨m,⟨o,_,_,ho,_⟩,_⟩:=I.loc
  exact free _ o (fun z=>(hch _ z).2.1 rfl) ho I.free
 ·obtain⟨v,o,ho,hd⟩:=I.cell x c e
  exact free c o (fun z=>(hch c z).2.2.1 x c e rfl) ho (I.freeC x c e)
 ·obtain⟨e,n,ne,nf,d⟩:=I.pin p hp
  have nch:p.1∉ch:=fun z=>(hch p.1 z).2.2.2 p hp rfl
  exact⟨keep p.1 p.2 ne nf nch e n,free p.1 p.2 nch e n,ne,nf,d⟩
theorem Inv.un{t':Nat}(I:Inv X pins σ H s)(u:Un X.fs [] H H' s.heap h')(hok:HOk X.prog X.w H' h'):Inv X pins σ H' {s with heap:=h',toks:=t'}:=by
 obtain⟨m,⟨o,es,ep,ho,r⟩,_⟩:=id I.loc
 obtain⟨sl,hL⟩:=u.any ho I.free (by simp)
 exact I.step (g':=s.gens) (d':=s.drawn) (ch:=[]) (fun _ z=>nomatch z) (fun b o _ hb _ e n=>u.keep b o e n hb (by simp)) (fun b o _ hb _ e n=>u.slot b o e n hb (by simp)) (fun b o _ e n=>u.free b o e n (by simp)) (fun b o _ e=>u.there b o e (by simp)) u.tups u.frzs u.tbls (fun m' hm=>by
  obtain⟨o',es',ep',ho',r'⟩:=hm
  rw[ho]at ho';cases ho'
  exact⟨_,es',ep',hL,r'⟩) hok I.bare
theorem Inv.call{g':Array GenState}{t':Nat}{d':Drawn}{ch:List Addr}(I:Inv X pins σ H s)(u:Un (frs X.stack) ch H H' s.heap h')(hok:HOk X.prog X.w H' h')(hg:AllBare g')(hch:∀b∈ch,(b∈X.ex\/X.s₀.heap.objs.size<=b)/\b≠X.env.locals/\(∀x c,X.env.cells.lookup x=some c->c≠b)/\∀p∈X.pn++pins,p.1≠b):
  Inv X pins σ H' {s with heap:=h',gens:=g',drawn:=d',toks:=t'}:=by
 obtain⟨m,⟨o,es,ep,ho,r⟩,_⟩:=id I.loc
 obtain⟨sl,hL⟩:=u.any ho I.free fun z=>(hch _ z).2.1 rfl
 exact I.step (ch:=ch) hch (fun b o hL hb hc e n=>u.keep b o e n (fun z=>(fK.mp (I.stkSub b z)).elim hL hb) hc) (fun b o _ _ hc e n=>u.any e n hc) (fun b o hc e n=>u.free b o e n hc) (fun b o hc e=>u.there b o e hc) u.tups u.frzs u.tbls (fun m' hm=>by
  obtain⟨o',es',ep',ho',r'⟩:=hm
  rw[ho]at ho';cases ho'
  exact⟨_,es',ep',hL,r'⟩) hok hg
theorem Inv.turned{t':Nat}{it:Addr}(I:Inv X pins σ H s)(k:∀b o,b≠it->s.heap.get? b=some o->h'.get? b=some o)(hn:H it=none)(hL:it≠X.env.locals)(h1:it∈X.ex\/X.s₀.heap.objs.size<=it)(h2:∀x c,X.env.cells.lookup x=some c->c≠it)(h3:∀p∈X.pn++pins,p.1≠it):Inv X pins σ H {s with heap:=h',toks:=t'}:=by
 have nit:∀b u,H b=some u->b≠it:=fun b u e z=>by rw[z,hn]at e;cases e
 refine I.step (g':=s.gens) (d':=s.drawn) (ch:=[it]) (fun b hb=> ?_) (fun b o _ _ hc e _=>k b o (fun z=>hc (by simp[z])) e) (fun b o _ _ hc e _=>⟨o.slots,k b o (fun z=>hc (by simp[z])) e⟩) (fun _ _ _ _ n=>n)
  (fun b o hc e=>⟨o,k b o (fun z=>hc (by simp[z])) e⟩) (fun _ _ e=>e) (fun _ _ _ e=>e) (fun b ps e=>⟨#[],by rw[e];simp⟩) (fun m hm=> ?_) (fun b u e=> ?_) I.bare
 ·have e:b=it:=by simpa using hb
  subst e
  exact⟨h1,hL,h2,h3⟩
 ·obtain⟨o,es,ep,ho,r⟩:=hm
  exact⟨o,es,ep,k _ o (oM hL) ho,r⟩
 ·refine(I.hok b u e).stay (fun c v hc q=>k c v ?_ q) (fun _ q=>q) fun _ _ q=>q
  rcases hc with z|z
  ·rw[z];exact nit b u e
  ·exact nit c _ z
theorem Inv.tok(I:Inv X pins σ H s)(t:Nat):Inv X pins σ H {s with toks:=t}:=I.un (h':=s.heap) (t':=t) Un.refl I.hok
theorem Inv.kept{t':Nat}(I:Inv X pins σ H s)(k:∀b u,s.heap.get? b=some u->h'.get? b=some u):Inv X pins σ H {s with heap:=h',toks:=t'}:=I.un (Un.kept k) (I.hok.kept k)
theorem Inv.laid{a:Addr}{o:HO}{t':Nat}(I:Inv X pins σ H s)(k:∀b u,s.heap.get? b=some u->h'.get? b=some u)(hp:s.heap.objs.size<=a)(new:ObjOk X.prog X.w (upd H a o) h' a o):
  Inv X pins σ (upd H a o) {s with heap:=h',toks:=t'}:=I.un (Un.laid k hp (I.hok.fresh hp)) (I.hok.laid k hp new)
theorem Inv.write{x e:Addr}{o:HO}{t':Nat}(I:Inv X pins σ H s)(mu:Mut (H x))(he:e=x\/H e=some (.own x))(k:∀b u,b≠e->s.heap.get? b=some u->h'.get? b=some u)(heo:∃u,h'.get? e=some u)(new:ObjOk X.prog X.w (upd H x o) h' x o):Inv X pins σ (upd H x o) {s with heap:=h',toks:=t'}:=I.un (Un.write mu he k heo) (I.hok.write mu he k heo new)
theorem Inv.pins_of{pins':List (Addr×Obj)}(I:Inv X pins σ H s)(h:∀p∈pins',s.heap.get? p.1=some p.2/\H p.1=none/\p.1≠X.env.locals/\p.1∉X.fs/\∀v,p.2.data≠.cell v):Inv X pins' σ H s:=
 ⟨I.ok,I.os,I.bare,I.base,I.loc,I.cell,I.free,I.freeC,fun p hp=>(jX.mp hp).elim (fun z=>I.pin p (Gv _ z)) (h p),I.hok,I.len⟩
theorem nodup_ix{N:List Str}(hN:N.Nodup){i j:Nat}{x:Str}(a:N[i]? =some x)(b:N[j]? =some x):i=j:=by
 obtain⟨h1,e1⟩:=yP.mp a
 obtain⟨h2,e2⟩:=yP.mp b
 exact(List.getElem_inj hN).mp (e1.trans e2.symm)
theorem store_ok2{M:Model}{A:Around}{E:Value->Shared->Prop}{i:Nat}{x:Str}{v:V}{u:Value}{Q:Unit->Shared->Prop}(I:Inv X pins σ H s)(hN:X.N.Nodup)(hi:X.N[i]? =some x)(hx:Loc X.env.scope x)(r:RelV v u)(h:∀s',Inv X pins (σ.set i (some v)) H s'->(∃a,Heap.SameBut a s.heap s'.heap/\(a=X.env.locals\/X.env.cells.lookup x=some a))->Q () s')(hf:X.fn x=true\/X.env.scope.names.lookup x=some .local:=by first |exact .inl rfl|exact .inr rfl|assumption):wpAny M A (storeName X.env x u) Q E s:=by
 obtain⟨m,hn,hl⟩:=id I.loc
 have hcls:(X.env.scope.kind== .class||(X.env.scope.kind== .module&&X.env.locals !=X.env.globals))=false:=by rw[I.ok.kind];rfl
 have hiσ:i<σ.length:=by rw[I.len];exact(yP.mp hi).1
 have cne:=I.cne
 have tracked:∀{a:Addr} {h':Heap},(∃o,s.heap.get? a=some o/\H a=none)->Heap.SameBut a s.heap h'->HOk X.prog X.w H h':=fun{a h'} ha hs b ob e=>by
  obtain⟨_,_,hfree⟩:=ha
  refine(I.hok b ob e).stay (fun c w' hc q=>(hs.2 c ?_).trans q) (fun _ q=>q) fun _ _ q=>q
  rintro rfl
  rcases hc with rfl|hc
  ·rw[hfree]at e;cases e
  ·rw[hfree]at hc;cases hc
 rcases hx with hk|hk
 ·refine wpAny_storeName_local hk hn (fun h' hn' hs=> ?_) hcls
  obtain⟨oL,_,_,hoL,_⟩:=id hn
  refine h _ ⟨I.ok,I.os,I.bare,⟨fun b o e n hb hx=> ?_,fun b o e n hb hx=> ?_,I.base.free,fun b o e hx=> ?_,I.base.tups,I.base.frzs,I.base.tbls⟩,⟨_,hn',fun j y v' e1 e2 e3=> ?_⟩,fun y c e=> ?_,I.free,I.freeC,fun p hp=> ?_,tracked ⟨oL,hoL,I.free⟩ hs,by simpa using I.len⟩ ⟨_,hs,.inl rfl⟩
  ·exact(hs.2 b (cT (dJ (cB e) I.ok.above))).trans (I.base.keep b o e n hb hx)
  ·obtain⟨sl,e1⟩:=I.base.slot b o e n hb hx
   exact⟨sl,(hs.2 b (cT (dJ (cB e) I.ok.above))).trans e1⟩
  ·obtain⟨o',e1⟩:=I.base.there b o e hx
   exact⟨o',(hs.2 b (cT (dJ (cB e) I.ok.above))).trans e1⟩
  ·by_cases hj:j=i
   ·subst hj
    rw[hi]at e1;cases e1
    rw[KQ hiσ]at e2
    cases e2
    exact⟨u,r,.inl ⟨hk,by simp⟩⟩
   ·rw[List.getElem?_set_ne (oM hj)]at e2
    obtain⟨u',r',q⟩:=hl j y v' e1 e2 e3
    refine⟨u',r',?_⟩
    rcases q with⟨k,e⟩|⟨k,c,e,z⟩
    ·refine .inl ⟨k,?_⟩
     have:y≠x:=fun e=>hj (nodup_ix hN e1 (e▸hi))
     simp[this,e]
    ·exact .inr ⟨k,c,e,z.sameBut hs (cne y c e)⟩
  ·obtain⟨w',z⟩:=I.cell y c e
   exact⟨w',z.sameBut hs (cne y c e)⟩
  ·obtain⟨e,n,ne,nf,d⟩:=I.pin p hp
   exact⟨(hs.2 p.1 ne).trans e,n,ne,nf,d⟩
 ·have hfn:X.fn x=true:=by
   rcases hf with z|z
   ·exact z
   ·rw[z]at hk;cases hk
  obtain⟨c,hc⟩:=I.ok.has x (.inl hk)
  obtain⟨w',z⟩:=I.cell x c hc
  refine wpAny_storeName_cell I.ok.kind hk hc z (fun h' hc' hs=> ?_)
  obtain⟨oc,hoc,hocd⟩:=id z
  refine h {s with heap:=h'} ⟨I.ok,I.os,I.bare,⟨fun b o e n hb hx=> ?_,fun b o e n hb hx=> ?_,I.base.free,fun b o e hx=> ?_,I.base.tups,I.base.frzs,I.base.tbls⟩,⟨m,hn.sameBut hs (oM (cne x c hc)),fun j y v' e1 e2 e3=> ?_⟩,fun y c' e=> ?_,I.free,I.freeC,fun p hp=> ?_,tracked ⟨oc,hoc,I.freeC x c hc⟩ hs,by simpa using I.len⟩ ⟨c,hs,.inr hc⟩
  ·exact(hs.2 b (cT (dJ (cB e) (I.ok.cab x c hfn hc)))).trans (I.base.keep b o e n hb hx)
  ·obtain⟨sl,e1⟩:=I.base.slot b o e n hb hx
   exact⟨sl,(hs.2 b (cT (dJ (cB e) (I.ok.cab x c hfn hc)))).trans e1⟩
  ·obtain⟨o',e1⟩:=I.base.there b o e hx
   exact⟨o',(hs.2 b (cT (dJ (cB e) (I.ok.cab x c hfn hc)))).trans e1⟩
  ·by_cases hj:j=i
   ·subst hj
    rw[hi]at e1;cases e1
    rw[KQ hiσ]at e2
    cases e2
    exact⟨u,r,.inr ⟨.inl hk,c,hc,hc'⟩⟩
   ·rw[List.getElem?_set_ne (oM hj)]at e2
    obtain⟨u',r',q⟩:=hl j y v' e1 e2 e3
    refine⟨u',r',?_⟩
    rcases q with q|⟨k,c',e,z'⟩
    ·exact .inl q
    ·refine .inr ⟨k,c',e,z'.sameBut hs ?_⟩
     rintro rfl
     exact hj (nodup_ix hN e1 (I.ok.inj _ _ _ e hc▸hi))
  ·by_cases hcc:c'=c
   ·subst hcc;exact⟨_,hc'⟩
   ·obtain⟨w2,z2⟩:=I.cell y c' e
    exact⟨w2,z2.sameBut hs hcc⟩
  ·obtain⟨e,n,ne,nf,d⟩:=I.pin p hp
   refine⟨(hs.2 p.1 ?_).trans e,n,ne,nf,d⟩
   intro q
   rw[q,hoc]at e
   have q':oc=p.2:=uh e
   exact d w' (by rw[<-q'];exact hocd)
theorem store_ok{M:Model}{A:Around}{E:Value->Shared->Prop}{i:Nat}{x:Str}{v:V}{u:Value}{Q:Unit->Shared->Prop}(I:Inv X pins σ H s)(hN:X.N.Nodup)(hi:X.N[i]? =some x)(hx:Loc X.env.scope x)(r:RelV v u)(h:∀s',Inv X pins (σ.set i (some v)) H s'->Q () s')(hf:X.fn x=true\/X.env.scope.names.lookup x=some .local:=by first |exact .inl rfl|exact .inr rfl|assumption):wpAny M A (storeName X.env x u) Q E s:=
 store_ok2 I hN hi hx r (fun s' I' _=>h s' I') hf
theorem Inv.call'{s':Shared}{ch:List Addr}(I:Inv X pins σ H s)(ho:s'.os=s.os)(u:Un (frs X.stack) ch H H' s.heap s'.heap)(hok:HOk X.prog X.w H' s'.heap)(hg:AllBare s'.gens)(hch:∀b∈ch,(b∈X.ex\/X.s₀.heap.objs.size<=b)/\b≠X.env.locals/\(∀x c,X.env.cells.lookup x=some c->c≠b)/\∀p∈X.pn++pins,p.1≠b):Inv X pins σ H' s':=by
 obtain⟨h',g',d',t',o'⟩:=s'
 have e:o'=s.os:=ho
 subst e
 exact I.call (g':=g') (t':=t') (d':=d') u hok hg hch
end
abbrev XK:=Value->Option Addr->Hp->Prop
abbrev St:=List (Option V)
abbrev VK:=V->Hp->Prop
abbrev TE:=St->Hp->VK->Prop
abbrev TT:=St->Hp->(Bool->Hp->Prop)->Prop
abbrev TA:=St->Hp->(List V->Hp->Prop)->Prop
structure Ends where
 nx:St->Hp->Prop
 rt:VK
 bk:St->Hp->Prop:=fun _ _=>False
 ct:St->Hp->Prop:=fun _ _=>False
abbrev TS:=Ends->St->Hp->Prop
def EP(X:Cx)(pins:List (Addr×Obj))(σ:St)(Q:VK)(u:Value)(s':Shared):Prop:=∃v H',Inv X pins σ H' s'/\RelV v u/\Q v H'
def TP(X:Cx)(pins:List (Addr×Obj))(σ:St)(Q:Bool->Hp->Prop)(b:Bool)(s':Shared):Prop:=∃H',Inv X pins σ H' s'/\Q b H'
def AP(X:Cx)(pins:List (Addr×Obj))(σ:St)(Q:List V->Hp->Prop)(us:List Value)(s':Shared):Prop:=∃vs H',Inv X pins σ H' s'/\Vals vs us/\Q vs H'
def SP(X:Cx)(pins:List (Addr×Obj))(D:Ends)(f:Flow)(s':Shared):Prop:=
 match f with
 | .next=>∃σ' H',Inv X pins σ' H' s'/\D.nx σ' H'
 | .brk=>∃σ' H',Inv X pins σ' H' s'/\D.bk σ' H'
 | .cont=>∃σ' H',Inv X pins σ' H' s'/\D.ct σ' H'
 | .ret u=>∃v σ' H',Inv X pins σ' H' s'/\RelV v u/\D.rt v H'
def PE(X:Cx)(e:Expr)(t:TE):Prop:=
 ∀(pins:List (Addr×Obj)) (s:Shared) (σ:St) (H:Hp) (Q:VK),Inv X pins σ H s->t σ H Q->wpAny (model X.prog X.w) X.A (eval e X.env) (EP X pins σ Q) X.xe s
def PT(X:Cx)(e:Expr)(t:TT):Prop:=
 ∀(pins:List (Addr×Obj)) (s:Shared) (σ:St) (H:Hp) (Q:Bool->Hp->Prop),Inv X pins σ H s->t σ H Q->wpAny (model X.prog X.w) X.A (isTrue e X.env (eval e X.env)) (TP X pins σ Q) X.xe s
def PW(X:Cx)(e:Expr)(t:TT):Prop:=
 ∀(whole:Sem Value) (pins:List (Addr×Obj)) (s:Shared) (σ:St) (H:Hp) (Q:Bool->Hp->Prop),Inv X pins σ H s->t σ H Q->wpAny (model X.prog X.w) X.A (isTrue e X.env whole) (TP X pins σ Q) X.xe s
theorem PW.pt{X:Cx}{e:Expr}{t:TT}(h:PW X e t):PT X e t:=h _
def PA(X:Cx)(es:List Expr)(t:TA):Prop:=
 ∀(pos:Pos) (pins:List (Addr×Obj)) (s:Shared) (σ:St) (H:Hp) (Q:List V->Hp->Prop),Inv X pins σ H s->t σ H Q->wpAny (model X.prog X.w) X.A (spliced (backTo pos (starEach es X.env))) (AP X pins σ Q) X.xe s
def PS(X:Cx)(st:Stmt)(t:TS):Prop:=
 ∀(pins:List (Addr×Obj)) (s:Shared) (σ:St) (H:Hp) (D:Ends),Inv X pins σ H s->t D σ H->wpAny (model X.prog X.w) X.A (exec st X.env) (SP X pins D) X.xe s
def PSs(X:Cx)(st:List Stmt)(t:TS):Prop:=
 ∀(pins:List (Addr×Obj)) (s:Shared) (σ:St) (H:Hp) (D:Ends),Inv X pins σ H s->t D σ H->wpAny (model X.prog X.w) X.A (execs st X.env) (SP X pins D) X.xe s
theorem thn{α:Type}{t:Sem α}{Q Q':α->Shared->Prop}{M:Model}{A:Around}{E:Value->Shared->Prop}{s:Shared}(h:wpAny M A t Q E s)(hQ:∀a s,Q a s->Q' a s):wpAny M A t Q' E s:=wC h hQ fun _ _ x=>x
section
variable{X:Cx}
def tVar(i:Nat):TE:=fun σ H Q=>∃v,σ[i]? =some (some v)/\Q v H
def tC(v:V):TE:=fun _ H Q=>Q v H
theorem pe_var{i:Nat}{x:Str}{pos:Pos}(hN:X.N[i]? =some x)(hv:Vis X.env.scope x)(hd:(x==("__debug__":Str))=false:=by decide)(hcd:(x==("__classdict__":Str))=false:=by decide):PE X (.Name x pos) (tVar i):=by
 intro pins s σ H Q I h
 obtain⟨v,e,h⟩:=h
 obtain⟨m,hn,hl⟩:=I.loc
 obtain⟨u,r,l⟩:=hl i x v hN e hv
 have fin:EP X pins σ Q u s:=⟨v,H,I,r,h⟩
 rcases l with⟨hk,hm⟩|⟨hk,c,hc,hcell⟩
 ·exact wpAny_Name (wpAny_loadName_local I.ok.kind hk hn hm fin) hd
 ·rcases hk with hk|hk
  ·exact wpAny_Name (wpAny_loadName_cell I.ok.kind hk hc hcell fin) hd
  ·exact wpAny_Name (wpAny_loadName_free I.ok.kind hk hc hcell fin hcd) hd
theorem aK{i j pos}:PE X (.Constant (.int i) j pos) (tC (.int i)):=fun _ _ _ H _ I h=>wpAny_Constant_int ⟨.int i,H,I.tok _,⟨_,rfl⟩,h⟩
theorem mH{b j pos}:PE X (.Constant (.bool b) j pos) (tC (.bl b)):=fun _ _ _ H _ I h=>Constant_bool ⟨.bl b,H,I,rfl,h⟩
theorem pe_non{j pos}:PE X (.Constant .none j pos) (tC .non):=fun _ _ _ H _ I h=>Constant_none ⟨.non,H,I,rfl,h⟩
def Gl(X:Cx)(x:Str):Prop:=X.env.kindOf x=some .globalImplicit
theorem ld_glob{E:Value->Shared->Prop}{pins:List (Addr×Obj)}{s:Shared}{σ:St}{H:Hp}{x:Str}{u:Value}{pos:Pos}{Q:Value->Shared->Prop}(I:Inv X pins σ H s)(hg:Gl X x)(hm:X.mg x=some u)(h:Q u s)(hd:(x==("__debug__":Str))=false:=by decide):wpAny (model X.prog X.w) X.A (eval (.Name x pos) X.env) Q E s:=
 Calls.Name_function_global I.ok.kind hg (Calls.loadGlobal_global (by rw[I.ok.glob];exact I.mod.glob.keeps I.bk) hm h) hd
theorem ld_blt{E:Value->Shared->Prop}{pins:List (Addr×Obj)}{s:Shared}{σ:St}{H:Hp}{x:Str}{u:Value}{pos:Pos}{Q:Value->Shared->Prop}(I:Inv X pins σ H s)(hg:Gl X x)(hm:X.mg x=none)(hv:bootBuiltins x=some u)(h:Q u s)(hn:x≠"__name__":=by decide)(hd:(x==("__debug__":Str))=false:=by decide):wpAny (model X.prog X.w) X.A (eval (.Name x pos) X.env) Q E s:=by
 obtain⟨mb,h1,h2⟩:=I.mod.blt
 exact Calls.Name_function_global I.ok.kind hg (Calls.loadGlobal_builtin (by rw[I.ok.glob];exact I.mod.glob.keeps I.bk) hm (by rw[I.ok.blt];exact h1.keeps I.bk) ((h2 x hn).trans hv) h) hd
theorem pe_glob{x:Str}{v:V}{u:Value}{pos:Pos}(hg:Gl X x)(hm:X.mg x=some u)(r:RelV v u)(hd:(x==("__debug__":Str))=false:=by decide):PE X (.Name x pos) (tC v):=
 fun _ _ _ H _ I h=>ld_glob I hg hm ⟨v,H,I,r,h⟩ hd
theorem wI{x:Str}{v:V}{u:Value}{pos:Pos}(hg:Gl X x)(hm:X.mg x=none)(hv:bootBuiltins x=some u)(r:RelV v u)(hn:x≠"__name__":=by decide)(hd:(x==("__debug__":Str))=false:=by decide):PE X (.Name x pos) (tC v):=
 fun _ _ _ H _ I h=>ld_blt I hg hm hv ⟨v,H,I,r,h⟩ hn hd
variable{a b:Expr}{ta tb:TE}{pos:Pos}
def tB(t:TE):TT:=fun σ H Q=>t σ H fun x H1=>∃c,x= .bl c/\Q c H1
theorem jN{e:Expr}{t:TE}(h:PE X e t)(he:∀whole,isTrue e X.env whole=(do let v<-whole;standAt e.pos;holding [v] (truthy v)):=by intro _;rfl):PT X e (tB t):=by
 intro pins s σ H Q I hw
 refine isTrue_plain (thn (h pins s σ H _ I hw) fun v s1 ⟨x,H1,I1,r1,q1⟩=> ?_) (he _)
 obtain⟨d,rfl,q⟩:=q1
 cases r1
 exact wV ⟨H1,I1,q⟩
variable{tA tB':TT}{rest:List Expr}
def tAnd(t u:TT):TT:=fun σ H Q=>t σ H fun c H1=>if c=true then u σ H1 Q else Q false H1
def tOr(t u:TT):TT:=fun σ H Q=>t σ H fun c H1=>if c=true then Q true H1 else u σ H1 Q
def tNot(t:TT):TT:=fun σ H Q=>t σ H fun c H1=>Q (!c) H1
theorem pw_and1(ha:PT X a tA):PW X (.BoolOp .And [a] pos) tA:=by
 intro wh pins s σ H Q I h
 refine isTrue_and (thn (ha pins s σ H Q I h) fun c s1 e=> ?_)
 cases c with
 |true=>exact isTrue_and_nil e
 |false=>exact e
theorem pw_or1(ha:PT X a tA):PW X (.BoolOp .Or [a] pos) tA:=by
 intro wh pins s σ H Q I h
 refine isTrue_or (thn (ha pins s σ H Q I h) fun c s1 e=> ?_)
 cases c with
 |false=>exact isTrue_or_nil e
 |true=>exact e
theorem pw_and(ha:PT X a tA)(hb:PW X (.BoolOp .And (b::rest) pos) tB'):PW X (.BoolOp .And (a::b::rest) pos) (tAnd tA tB'):=by
 intro wh pins s σ H Q I h
 refine isTrue_and (thn (ha pins s σ H _ I h) fun c s1 ⟨H1,I1,q1⟩=> ?_)
 cases c with
 |true=>exact hb wh pins s1 σ H1 Q I1 q1
 |false=>exact⟨H1,I1,q1⟩
theorem pw_or(ha:PT X a tA)(hb:PW X (.BoolOp .Or (b::rest) pos) tB'):PW X (.BoolOp .Or (a::b::rest) pos) (tOr tA tB'):=by
 intro wh pins s σ H Q I h
 refine isTrue_or (thn (ha pins s σ H _ I h) fun c s1 ⟨H1,I1,q1⟩=> ?_)
 cases c with
 |true=>exact⟨H1,I1,q1⟩
 |false=>exact hb wh pins s1 σ H1 Q I1 q1
theorem mQ(ha:PT X a tA):PT X (.UnaryOp .Not a pos) (tNot tA):=by
 intro pins s σ H Q I h
 exact isTrue_not (ha pins s σ H (fun c H1=>Q (!c) H1) I h)
def tAndV(ta tb:TE):TE:=fun σ H Q=>ta σ H fun x H1=>∃c,x= .bl c/\if c=true then tb σ H1 Q else Q (.bl false) H1
def tNotV(ta:TE):TE:=fun σ H Q=>ta σ H fun x H1=>∃c,x= .bl c/\Q (.bl (!c)) H1
theorem pe_one{op}{t:TE}(h:PE X a t):PE X (.BoolOp op [a] pos) t:=fun pins s σ H Q I hw=>BoolOp_one (h pins s σ H Q I hw)
theorem pe_and(ha:PE X a ta)(hb:PE X (.BoolOp .And (b::rest) pos) tb):PE X (.BoolOp .And (a::b::rest) pos) (tAndV ta tb):=by
 intro pins s σ H Q I h
 refine BoolOp_and (thn (ha pins s σ H _ I h) fun v s1 ⟨x,H1,I1,r1,q1⟩=> ?_)
 obtain⟨c,rfl,q1⟩:=q1
 cases r1
 refine wV ?_
 cases c with
 |true=>exact hb pins s1 σ H1 Q I1 q1
 |false=>exact⟨.bl false,H1,I1,rfl,q1⟩
theorem pe_not(ha:PE X a ta):PE X (.UnaryOp .Not a pos) (tNotV ta):=by
 intro pins s σ H Q I h
 refine UnaryOp_ (thn (ha pins s σ H _ I h) fun v s1 ⟨x,H1,I1,r1,q1⟩=> ?_)
 obtain⟨c,rfl,q1⟩:=q1
 cases r1
 exact not_of (wV ⟨.bl (!c),H1,I1,rfl,q1⟩)
def tIf(t:TT)(ta tb:TE):TE:=fun σ H Q=>t σ H fun c H1=>if c=true then ta σ H1 Q else tb σ H1 Q
theorem pe_ifExp{c:Expr}(hc:PT X c tA)(ha:PE X a ta)(hb:PE X b tb):PE X (.IfExp c a b pos) (tIf tA ta tb):=by
 intro pins s σ H Q I h
 refine wpAny_IfExp (thn (hc pins s σ H _ I h) fun d s1 ⟨H1,I1,q1⟩=> ?_)
 cases d with
 |true=>exact ha pins s1 σ H1 Q I1 q1
 |false=>exact hb pins s1 σ H1 Q I1 q1
end
def SqL(K:W.Frag)(H:Hp)(a:Addr)(xs:List V):Prop:=
 Rd H a (.lst xs)\/
  ∃(o:Obj) (its:Array Value) (n:Nat),K.lookup a=some o/\o.cls= .type "list"/\o.dict=none/\o.data= .seq its n/\its.size<=sizeLine/\Vals xs its.toList
def SqT(K:W.Frag)(H:Hp)(a:Addr)(xs:List V):Prop:=
 Rd H a (.tup xs)\/
  ∃(o:Obj) (its:Array Value) (n:Nat),K.lookup a=some o/\o.cls= .type "tuple"/\o.data= .seq its n/\its.size<=sizeLine/\Vals xs its.toList
def absV:Value->Option V
 | .none=>some .non
 | .bool b=>some (.bl b)
 | .int i _=>some (.int i)
 | .str x _=>some (.str x)
 | .bytes b _=>some (.byt b)
 | .float b _=>some (.flt b)
 | .ref a=>some (.ref a)
 | .type n=>some (.ty n)
 |_=>none
theorem RelV.abs{x:V}{u:Value}(r:RelV x u):absV u=some x:=by
 cases x with
 |non=>cases r;rfl
 |bl _=>cases r;rfl
 |int _=>obtain⟨t,rfl⟩:=r;rfl
 |str _=>obtain⟨t,rfl⟩:=r;rfl
 |byt _=>obtain⟨t,rfl⟩:=r;rfl
 |flt _=>obtain⟨t,rfl⟩:=r;rfl
 |ref _=>cases r;rfl
 |ty _=>cases r;rfl
theorem RelV.inj{x y:V}{u:Value}(r:RelV x u)(q:RelV y u):x=y:=uh (r.abs.symm.trans q.abs)
theorem Vals.inj{xs ys:List V}{us:List Value}(h:Vals xs us)(h':Vals ys us):xs=ys:=by
 induction h generalizing ys with
 |nil=>cases h';rfl
 |cons r _ ih=>cases h' with |cons r' t'=>rw[r.inj r',ih t']
section
variable{X:Cx}{pins:List (Addr×Obj)}{σ:St}{H:Hp}{s:Shared}{a:Addr}{xs ys:List V}
theorem SqL.of{K:W.Frag}(h:H a=some (.lst xs)):SqL K H a xs:= .inl (.inl h)
theorem SqT.of{K:W.Frag}(h:H a=some (.tup xs)):SqT K H a xs:= .inl (.inl h)
theorem Inv.list(I:Inv X pins σ H s)(h:SqL X.K H a xs):∃its:List Value,Vals xs its/\PlainL s.heap a its.toArray/\xs.length<=sizeLine:=by
 rcases h with h|⟨o,its,n,hk,hc,hd,hs,hz,r⟩
 ·obtain⟨z,its,n,r,e⟩:=h.ok I.hok
  exact⟨its,r,⟨_,n,e,rfl,rfl,rfl⟩,z⟩
 ·refine⟨its.toList,r,⟨o,n,I.kIn a o hk,hc,hd,by simpa using hs⟩,?_⟩
  have e:=r.length
  simp only[Cp]at e
  omega
theorem Inv.tuple(I:Inv X pins σ H s)(h:SqT X.K H a xs):∃its:List Value,Vals xs its/\IsTup s.heap a its.toArray/\xs.length<=sizeLine:=by
 rcases h with h|⟨o,its,n,hk,hc,hs,hz,r⟩
 ·obtain⟨z,its,r,p⟩:=h.ok I.hok
  exact⟨its,r,p,z⟩
 ·refine⟨its.toList,r,⟨o,I.kIn a o hk,hc,n,by simpa using hs⟩,?_⟩
  have e:=r.length
  simp only[Cp]at e
  omega
theorem Inv.list_inj(I:Inv X pins σ H s)(h:SqL X.K H a xs)(h':SqL X.K H a ys):xs=ys:=by
 obtain⟨its,r,⟨o,n,e,_,_,d⟩,_⟩:=I.list h
 obtain⟨its',r',⟨o',n',e',_,_,d'⟩,_⟩:=I.list h'
 rw[e]at e';cases e'
 rw[d]at d'
 injection d' with d1 _
 have:its=its':=by simpa using was Array.toList d1
 subst this
 exact r.inj r'
theorem Inv.tuple_inj(I:Inv X pins σ H s)(h:SqT X.K H a xs)(h':SqT X.K H a ys):xs=ys:=by
 obtain⟨its,r,⟨o,e,_,n,d⟩,_⟩:=I.tuple h
 obtain⟨its',r',⟨o',e',_,n',d'⟩,_⟩:=I.tuple h'
 rw[e]at e';cases e'
 rw[d]at d'
 injection d' with d1 _
 have:its=its':=by simpa using was Array.toList d1
 subst this
 exact r.inj r'
end
abbrev Cx.wish(X:Cx)(E:Value->Shared->Prop):Cx:={X with xe:=E}
abbrev Cx.nox(X:Cx):Cx:=X.wish fun _ _=>False
theorem Cx.Ok.wish{X:Cx}(ok:X.Ok)(E:Value->Shared->Prop):(X.wish E).Ok:=
 ⟨ok.mod,ok.kind,ok.glob,ok.blt,ok.above,ok.inj,ok.has,ok.cab,ok.hd,ok.frames,ok.stk,ok.exf,ok.bs,ok.bsz,ok.noex,ok.exfs,ok.funs,ok.frf⟩
theorem Cx.Ok.unwish{X:Cx}{E:Value->Shared->Prop}(ok:(X.wish E).Ok):X.Ok:=
 ⟨ok.mod,ok.kind,ok.glob,ok.blt,ok.above,ok.inj,ok.has,ok.cab,ok.hd,ok.frames,ok.stk,ok.exf,ok.bs,ok.bsz,ok.noex,ok.exfs,ok.funs,ok.frf⟩
section
variable{X:Cx}{pins:List (Addr×Obj)}{σ:St}{H:Hp}{s:Shared}{E:Value->Shared->Prop}
theorem Inv.wish(I:Inv X pins σ H s)(E:Value->Shared->Prop):Inv (X.wish E) pins σ H s:=⟨I.ok.wish E,I.os,I.bare,I.base,I.loc,I.cell,I.free,I.freeC,I.pin,I.hok,I.len⟩
theorem Inv.unwish(I:Inv (X.wish E) pins σ H s):Inv X pins σ H s:=⟨I.ok.unwish,I.os,I.bare,I.base,I.loc,I.cell,I.free,I.freeC,I.pin,I.hok,I.len⟩
theorem SP.unwish{D:Ends}{f:Flow}{s':Shared}(h:SP (X.wish E) pins D f s'):SP X pins D f s':=by
 cases f with
 |next=>obtain⟨σ',H',I,q⟩:=h;exact⟨σ',H',I.unwish,q⟩
 |brk=>obtain⟨σ',H',I,q⟩:=h;exact⟨σ',H',I.unwish,q⟩
 |cont=>obtain⟨σ',H',I,q⟩:=h;exact⟨σ',H',I.unwish,q⟩
 |ret u=>obtain⟨v,σ',H',I,r,q⟩:=h;exact⟨v,σ',H',I.unwish,r,q⟩
theorem PSs.nox{st:List Stmt}{t:TS}(h:PSs X.nox st t):PSs X st t:=fun pins s σ H D I hw=>
 wC (h pins s σ H D (I.wish _) hw) (fun _ _ q=>q.unwish) fun _ _ z=>False.elim z
end
section
variable{X:Cx}{st:Stmt}{rest:List Stmt}{t u:TS}{e:Expr}{te:TE}{pos:Pos}
def tNext:TS:=fun D σ H=>D.nx σ H
def tSeq(t u:TS):TS:=fun D σ H=>t {D with nx:=u D} σ H
theorem gM:PSs X [] tNext:=fun _ _ σ H _ I h=>Ib ⟨σ,H,I,h⟩
theorem aZ(h1:PS X st t)(h2:PSs X rest u):PSs X (st::rest) (tSeq t u):=by
 intro pins s σ H D I h
 refine wpAny_execs_cons (thn (h1 pins s σ H {D with nx:=u D} I h) fun f s1 q=> ?_)
 cases f with
 |next=>
  obtain⟨σ',H',I',q⟩:=q
  exact h2 pins s1 σ' H' D I' q
 |ret v=>exact q
 |brk=>exact q
 |cont=>exact q
theorem aW(h1:PS X st t):PSs X [st] t:=by
 intro pins s σ H D I h
 refine wpAny_execs_cons (thn (h1 pins s σ H D I h) fun f s1 q=> ?_)
 cases f with
 |next=>exact Ib q
 |ret v=>exact q
 |brk=>exact q
 |cont=>exact q
def tBreak:TS:=fun D σ H=>D.bk σ H
theorem ps_break:PS X (.Break pos) tBreak:=fun _ _ σ H _ I h=>wpAny_Break ⟨σ,H,I,h⟩
theorem Inv.quiet{pins:List (Addr×Obj)}{σ:St}{H:Hp}{s:Shared}(I:Inv X pins σ H s):interactive X.env=false:=by simp[interactive,I.ok.kind]
def tDrop(te:TE):TS:=fun D σ H=>te σ H fun _ H1=>D.nx σ H1
theorem rJ(he:PE X e te)(hs:swapsWith e none pos.line X.env=pure false:=by rfl):PS X (.Expr e pos) (tDrop te):=by
 intro pins s σ H D I h
 exact wpAny_Expr_any (thn (he pins s σ H _ I h) fun v s1 ⟨x,H1,I1,r1,q1⟩=>⟨σ,H1,I1,q1⟩) I.quiet hs
def tRet(te:TE):TS:=fun D σ H=>te σ H D.rt
theorem bY(he:PE X e te):PS X (.Return (some e) pos) (tRet te):=by
 intro pins s σ H D I h
 exact wpAny_Return_some (thn (he pins s σ H _ I h) fun v s1 ⟨x,H1,I1,r1,q1⟩=>⟨x,σ,H1,I1,r1,q1⟩)
def tIfS(c:TT)(t u:TS):TS:=fun D σ H=>c σ H fun b H1=>if b=true then t D σ H1 else u D σ H1
theorem fM{c:Expr}{a b:List Stmt}{tc:TT}(hc:PT X c tc)(ha:PSs X a t)(hb:PSs X b u):PS X (.If c a b pos) (tIfS tc t u):=by
 intro pins s σ H D I h
 refine wpAny_If (thn (hc pins s σ H _ I h) fun d s1 ⟨H1,I1,q1⟩=> ?_)
 cases d with
 |true=>exact ha pins s1 σ H1 D I1 q1
 |false=>exact hb pins s1 σ H1 D I1 q1
def tNever:TS:=fun _ _ _=>False
theorem pss_never{sts:List Stmt}:PSs X sts tNever:=fun _ _ _ _ _ _ h=>h.elim
end
abbrev TG:=V->St->Hp->(St->Hp->Prop)->Prop
abbrev TGs:=List V->St->Hp->(St->Hp->Prop)->Prop
def PG(X:Cx)(target:Expr)(t:TG):Prop:=
 ∀(pins:List (Addr×Obj)) (s:Shared) (σ:St) (H:Hp) (v:V) (u:Value) (Q:St->Hp->Prop),Inv X pins σ H s->RelV v u->t v σ H Q->
  wpAny (model X.prog X.w) X.A (assign target X.env u) (fun _ s'=>∃σ' H',Inv X pins σ' H' s'/\Q σ' H') X.xe s
def PGs(X:Cx)(ts:List Expr)(t:TGs):Prop:=
 ∀(pins:List (Addr×Obj)) (s:Shared) (σ:St) (H:Hp) (vs:List V) (us:List Value) (Q:St->Hp->Prop),Inv X pins σ H s->Vals vs us->t vs σ H Q->
  wpAny (model X.prog X.w) X.A (assignInOrder ((assignEach ts X.env).map (·.2)) us) (fun _ s'=>∃σ' H',Inv X pins σ' H' s'/\Q σ' H') X.xe s
abbrev TSet:=V->V->V->Hp->(Hp->Prop)->Prop
def PSet(X:Cx)(t:TSet):Prop:=
 ∀(pins:List (Addr×Obj)) (s:Shared) (σ:St) (H:Hp) (o i v:V) (ov iv u:Value) (Q:Hp->Prop),Inv X pins σ H s->RelV o ov->RelV i iv->RelV v u->t o i v H Q->
  wpAny (model X.prog X.w) X.A (setItem ov iv u) (fun _ s'=>∃H',Inv X pins σ H' s'/\Q H') X.xe s
section
variable{X:Cx}{pos:Pos}
def gName(i:Nat):TG:=fun v σ H Q=>Q (σ.set i (some v)) H
theorem cF{i:Nat}{x:Str}(hN:X.N.Nodup)(hi:X.N[i]? =some x)(hx:Loc X.env.scope x)(hf:X.fn x=true\/X.env.scope.names.lookup x=some .local:=by first |exact .inl rfl|exact .inr rfl|assumption):PG X (.Name x pos) (gName i):=by
 intro pins s σ H v u Q I r h
 exact wpAny_assign_Name (store_ok I hN hi hx r (fun s' I'=>⟨_,H,I',h⟩) hf)
def gNil:TGs:=fun vs σ H Q=>vs=[]/\Q σ H
def gCons(t:TG)(u:TGs):TGs:=fun vs σ H Q=>∃v r,vs=v::r/\t v σ H fun σ' H'=>u r σ' H' Q
theorem pgs_nil:PGs X [] gNil:=by
 intro pins s σ H vs us Q I r h
 obtain⟨e,h⟩:=h
 subst e
 cases r
 exact assignInOrder_nil ⟨σ,H,I,h⟩
theorem tO{e:Expr}{es:List Expr}{t:TG}{u:TGs}(h1:PG X e t)(h2:PGs X es u)(hs:(assignEach (e::es) X.env).map (·.2)=assign e X.env::(assignEach es X.env).map (·.2):=by rfl):PGs X (e::es) (gCons t u):=by
 intro pins s σ H vs us Q I r h
 obtain⟨v,vr,e1,h⟩:=h
 subst e1
 cases r with
 |cons r rr=>
  rw[hs]
  refine Io (thn (h1 pins s σ H _ _ _ I r h) fun _ s1 ⟨σ1,H1,I1,q1⟩=> ?_)
  exact h2 pins s1 σ1 H1 _ _ Q I1 rr q1
def gTup(K:W.Frag)(n:Nat)(t:TGs):TG:=fun v σ H Q=>∃a xs,v= .ref a/\SqT K H a xs/\xs.length=n/\t xs σ H Q
theorem pg_tup{es:List Expr}{k:Nat}{t:TGs}{n:Nat}(hc:X.calm=true)(h:PGs X es t)(hn:(assignEach es X.env).length=n:=by rfl)(hst:(assignEach es X.env).findIdx? (·.1)=none:=by rfl):PG X (.Tuple es k pos) (gTup X.K n t):=by
 intro pins s σ H v u Q I r hw
 obtain⟨a,xs,e1,hq,hl,hw⟩:=hw
 subst e1
 cases r
 obtain⟨its,rv,ht,hz⟩:=I.tuple hq
 refine assign_Tuple_tuple (I.ok.hd hc) ht (by simp[hn,<-hl,rv.length]) hst fun h' hx=> ?_
 have I1:Inv X pins σ H {s with heap:=h'}:=I.kept (t':=s.toks) fun b o e=>hx b o (cT (cB e)) e
 exact h pins _ σ H xs _ Q I1 (by simpa using rv) hw
def gSub(to ti:TE)(t:TSet):TG:=fun v σ H Q=>to σ H fun o H1=>ti σ H1 fun i H2=>t o i v H2 fun H3=>Q σ H3
theorem pg_sub{o i:Expr}{to ti:TE}{t:TSet}(ho:PE X o to)(hi:PE X i ti)(hs:PSet X t)(ha:∀v,assign (.Subscript o i pos) X.env v=(do
   let ov<-holding [v] (eval o X.env)
   let iv<-holding [v,ov] (eval i X.env)
   standAt pos
   holding [v,ov,iv] (setItem ov iv v)
   release [v,ov,iv] []):=by intro _;rfl):PG X (.Subscript o i pos) (gSub to ti t):=by
 intro pins s σ H v u Q I r h
 rw[ha]
 refine aR (wQ (thn (ho pins s σ H _ I h) fun ov s1 ⟨x,H1,I1,r1,q1⟩=> ?_))
 refine aR (wQ (thn (hi pins s1 σ H1 _ I1 q1) fun iv s2 ⟨y,H2,I2,r2,q2⟩=> ?_))
 refine aR (GQ (aR (wQ (thn (hs pins s2 σ H2 x y v ov iv u _ I2 r1 r2 r q2) fun _ s3 ⟨H3,I3,q3⟩=> ?_))))
 exact wpAny_release ⟨σ,H3,I3,q3⟩
def tAsg(te:TE)(g:TG):TS:=fun D σ H=>te σ H fun x H1=>g x σ H1 D.nx
theorem ps_asg{tg e:Expr}{te:TE}{g:TG}(he:PE X e te)(hg:PG X tg g)(hs:swapsWithSole [tg] e pos.line X.env=pure false:=by rfl)(hw:swappedStores [tg] e X.env=pure none:=by rfl)(h1:(assignEach [tg] X.env).map (·.2)=[assign tg X.env]:=by rfl):PS X (.Assign [tg] e pos) (tAsg te g):=by
 intro pins s σ H D I h
 refine wpAny_Assign_stores (thn (he pins s σ H _ I h) fun v s1 ⟨x,H1,I1,r1,q1⟩=> ?_) hs hw
 rw[h1]
 exact thn (hg pins s1 σ H1 x v _ I1 r1 q1) fun _ s2 q=>q
theorem dF{i:Nat}{x:Str}{e:Expr}{te:TE}{pos':Pos}(hN:X.N.Nodup)(hi:X.N[i]? =some x)(hx:Loc X.env.scope x)(he:PE X e te)(hs:swapsWith e (some (.Name x pos')) pos.line X.env=pure false:=by rfl)(hf:X.fn x=true\/X.env.scope.names.lookup x=some .local:=by first |exact .inl rfl|exact .inr rfl|assumption):
  PS X (.Assign [.Name x pos'] e pos) (tAsg te (gName i)):=by
 intro pins s σ H D I h
 refine wpAny_Assign_Name (thn (he pins s σ H _ I h) fun v s1 ⟨y,H1,I1,r1,q1⟩=> ?_) hs
 exact store_ok I1 hN hi hx r1 (fun s2 I2=>⟨_,H1,I2,q1⟩) hf
def tPar(i j:Nat)(ta:TA):TS:=fun D σ H=>ta σ H fun vs H1=>∃v w,vs=[v,w]/\D.nx ((σ.set i (some v)).set j (some w)) H1
theorem ps_par{i j:Nat}{x y:Str}{a b:Expr}{ta:TA}{px py pt:Pos}{kt k2 pt2}(hc:X.calm=true)(hN:X.N.Nodup)(hi:X.N[i]? =some x)(hj:X.N[j]? =some y)(hij:i≠j)(hx:X.env.scope.names.lookup x=some .local)(hy:X.env.scope.names.lookup y=some .local)(ha:PA X [a,b] ta)(hw:swappedStores [.Tuple [.Name x px,.Name y py] kt pt] (.Tuple [a,b] k2 pt2) X.env=pure (some [x,y]))(hs:swapsWithSole [.Tuple [.Name x px,.Name y py] kt pt] (.Tuple [a,b] k2 pt2) pos.line X.env=pure false:=by rfl):
  PS X (.Assign [.Tuple [.Name x px,.Name y py] kt pt] (.Tuple [a,b] k2 pt2) pos) (tPar i j ta):=by
 intro pins s σ H D I h
 rw[exec_Assign_arm]
 refine aR (GQ ?_)
 rw[hs]
 refine aR (cA ?_)
 rw[aP (by decide)]
 refine aR (Tuple_ (thn (ha _ pins s σ H _ I h) fun us s1 ⟨vs,H1,I1,r1,q1⟩=> ?_))
 obtain⟨v,w,e1,q1⟩:=q1
 subst e1
 obtain⟨u1,u2,rfl,rv,rw'⟩:∃u1 u2,us=[u1,u2]/\RelV v u1/\RelV w u2:=by
  cases r1 with
  |cons p q=>
   cases q with
   |cons p' q'=>
    cases q'
    exact⟨_,_,rfl,p,p'⟩
 refine Hj ?_ (by show 2<=sizeLine;decide)
 have I2:Inv X pins σ H1 {s1 with heap:=s1.heap.push {cls:= .type "tuple",data:= .seq [u1,u2].toArray}}:=I1.kept (t':=s1.toks) fun b o e=>fO _ e
 rw[hw]
 refine aR (cA ?_)
 show wpAny (model X.prog X.w) X.A (do rule "assign.swapped-stores";let items<-unpackItems (.ref s1.heap.objs.size) 2 none;assignInOrder [fun v=>bindName X.env y v,fun v=>bindName X.env x v] items.reverse;pure Flow.next) _ _ _
 refine aR (wpAny_rule (aR (unpackItems_tuple (items:=#[u1,u2]) (I.ok.hd hc) (IsTup.new s1.heap _) fun h' hx'=> ?_)))
 have I3:=I2.kept (h':=h') (t':=s1.toks) fun b o e=>hx' b o (cT (cB e)) e
 show wpAny _ _ (assignInOrder [fun v=>bindName X.env y v,fun v=>bindName X.env x v] [u2,u1]>>=fun _=>pure Flow.next) _ _ _
 refine aR (Io (wpAny_bindName (store_ok I3 hN hj (.inl hy) rw' (fun s2 I4=> ?_) (.inr hy))))
 refine Io (wpAny_bindName (store_ok I4 hN hi (.inl hx) rv (fun s3 I5=>assignInOrder_nil (cA ?_)) (.inr hx)))
 rw[List.set_comm _ _ (oM hij)]at I5
 exact⟨_,H1,I5,q1⟩
end
section
variable{X:Cx}{pos:Pos}
end
structure It where
 go:Nat->Hp->Prop
 yld:Nat->Hp->V->Hp->Prop
 stop:Nat->Hp->Prop
def FpOk(X:Cx)(pins:List (Addr×Obj))(H:Hp)(b:Addr):Prop:=
 H b=none/\b≠X.env.locals/\b∉X.fs/\(b∈X.ex\/X.s₀.heap.objs.size<=b)/\(∀x c,X.env.cells.lookup x=some c->c≠b)/\∀p∈X.pn++pins,p.1≠b
theorem Inv.fpOk{X:Cx}{pins:List (Addr×Obj)}{σ:St}{H H':Hp}{s:Shared}{b:Addr}(I:Inv X pins σ H s)(hb:s.heap.objs.size<=b)(hn:H' b=none):FpOk X pins H' b:=by
 refine⟨hn,DK (dJ I.lt hb),I.nofs hb,.inr (cP I.sz hb),fun x c e z=> ?_,fun p hp z=> ?_⟩
 ·obtain⟨v,q⟩:=I.cell x c e
  exact absurd (dJ q.lt (by rw[z];exact hb)) (qj _)
 ·exact absurd (dJ (cB (I.pin p hp).1) (by rw[z];exact hb)) (qj _)
structure Turn(P:Program)(w:World)(K:W.Frag)(tg:Expr)(J:It)(fp:List Addr)(it:Addr)(tn:Nat->Heap->Prop):Prop where
 mem:it∈fp
 obj:∀i h,tn i h->∀b∈fp,∃o,h.get? b=some o/\∀v,o.data≠.cell v
 keep:∀i h h',tn i h->(∀b∈fp,∀o,h.get? b=some o->h'.get? b=some o)->tn i h'
 item:∀(X:Cx),X.prog=P->X.w=w->X.K=K->X.calm=true->∀(i:Nat) (pins:List (Addr×Obj)) (s:Shared) (σ:St) (H:Hp) (E:Value->Shared->Prop),Inv X pins σ H s->(∀b∈fp,FpOk X pins H b)->tn i s.heap->J.go i H->
  wpAny (model P w) X.A (pyNext (.ref it)) (fun r s1=>∃u,r=some u/\
   wpAny (model P w) X.A (letOwnedTupleGo tg (.ref it) u) (fun _ s2=>∃x H',Inv X pins σ H' s2/\RelV x u/\J.yld i H x H'/\tn (i+1) s2.heap/\∀b∈fp,H' b=none) E s1) E s
 done:∀(X:Cx),X.prog=P->X.w=w->X.K=K->X.calm=true->∀(i:Nat) (pins:List (Addr×Obj)) (s:Shared) (σ:St) (H:Hp) (E:Value->Shared->Prop),Inv X pins σ H s->(∀b∈fp,FpOk X pins H b)->tn i s.heap->J.stop i H->
  wpAny (model P w) X.A (pyNext (.ref it)) (fun r s1=>r=none/\Inv X pins σ H s1) E s
 self:∀(A:Around) (i:Nat) (s:Shared) (Q:Value->Shared->Prop) (E:Value->Shared->Prop),tn i s.heap->Q (.ref it) s->wpAny (model P w) A (pyIter (.ref it)) Q E s
abbrev TI:=St->Hp->(It->Hp->Prop)->Prop
def PIE(X:Cx)(pins:List (Addr×Obj))(σ:St)(tg:Expr)(R:It->Hp->Prop)(itv:Value)(s2:Shared):Prop:=
 ∃(it:Addr) (fp:List Addr) (tn:Nat->Heap->Prop) (J:It) (H':Hp),itv= .ref it/\Inv X pins σ H' s2/\Turn X.prog X.w X.K tg J fp it tn/\tn 0 s2.heap/\(∀b∈fp,FpOk X pins H' b)/\R J H'
def PI(X:Cx)(tg iter:Expr)(wi:TI):Prop:=
 ∀(pins:List (Addr×Obj)) (s:Shared) (σ:St) (H:Hp) (R:It->Hp->Prop),Inv X pins σ H s->wi σ H R->
  wpAny (model X.prog X.w) X.A (eval iter X.env) (fun v s1=>wpAny (model X.prog X.w) X.A (pyIter v) (PIE X pins σ tg R) X.xe s1) X.xe s
theorem go_of{M:Model}{A:Around}{E:Value->Shared->Prop}{s:Shared}{tg:Expr}{it:Addr}{u:Value}{o:Obj}{n:String}{vs:Array Value}{Q:Unit->Shared->Prop}(ho:s.heap.get? it=some o)(hc:o.cls= .type n)(hd:o.data= .fields vs)(hn:["enumerate","zip","dict_itemiterator","dict_reverseitemiterator","odict_iterator","itertools.zip_longest","itertools.pairwise"].contains n=false)(hQ:Q () s):wpAny M A (letOwnedTupleGo tg (.ref it) u) Q E s:=by
 unfold letOwnedTupleGo
 cases tg<;>first
  |exact cA hQ
  |(cases u<;>first
    |exact cA hQ
    |(refine aR (wpAny_load ho ?_)
      rw[hc,hd]
      show wpAny M A (if(["enumerate","zip","dict_itemiterator","dict_reverseitemiterator","odict_iterator","itertools.zip_longest","itertools.pairwise"].contains n&&vs[0]? ==some (rawInt _))=true then _ else _) Q E s
      rw[aP (by intro h;rw[hn,Bool.false_and]at h;cases h)]
      exact cA hQ))
def Itl(K:W.Frag)(a:Addr):It:=
 ⟨fun i H=>∃xs x,SqL K H a xs/\xs[i]? =some x,fun i H x H'=>H'=H/\∀xs,SqL K H a xs->xs[i]? =some x,fun i H=>∃xs,SqL K H a xs/\xs.length<=i⟩
def Itt(K:W.Frag)(a:Addr):It:=
 ⟨fun i H=>∃xs x,SqT K H a xs/\xs[i]? =some x,fun i H x H'=>H'=H/\∀xs,SqT K H a xs->xs[i]? =some x,fun i H=>∃xs,SqT K H a xs/\xs.length<=i⟩
def Itr(lo:Int)(n:Nat):It:=⟨fun i _=>i<n,fun i H x H'=>H'=H/\x= .int (lo+i),fun i _=>n<=i⟩
theorem turn_list{P:Program}{w:World}{K:W.Frag}{tg:Expr}(a it:Addr):Turn P w K tg (Itl K a) [it] it (fun i h=>h.IsListIter it a i) where
 mem:=by simp
 obj:=fun i h st b hb=>by
  have e:b=it:=by simpa using hb
  subst e
  obtain⟨o,e,c,d⟩:=st
  exact⟨o,e,fun v z=>by rw[d]at z;cases z⟩
 keep:=fun i h h' st k=>st.at fun o e=>k it (by simp) o e
 item:=by
  intro X hP hw hK hc i pins s σ H E I hf st hg
  subst hP hw hK
  obtain⟨xs,x,hq,hx⟩:=hg
  obtain⟨its,rv,p,hz⟩:=I.list hq
  obtain⟨u,hu,ru⟩:=rv.get hx
  obtain⟨f0,f1,f2,f3,f4,f5⟩:=hf it (by simp)
  refine wpAny_pyNext_list_item st p.isList (x:=u) (by simpa using hu) fun h' st' sb=> ?_
  have I1:Inv X pins σ H {s with heap:=h'}:=I.turned (t':=s.toks) (fun b o hb e=>(sb.2 b hb).trans e) f0 f1 f3 f4 f5
  obtain⟨o,e,c,d⟩:=id st'
  exact⟨u,rfl,go_of (s:={s with heap:=h'}) e c d (by decide) ⟨x,H,I1,ru,⟨rfl,fun ys hy=>by rw[I.list_inj hy hq];exact hx⟩,st',fun b hb=>(hf b hb).1⟩⟩
 done:=by
  intro X hP hw hK hc i pins s σ H E I hf st hg
  subst hP hw hK
  obtain⟨xs,hq,hx⟩:=hg
  obtain⟨its,rv,p,hz⟩:=I.list hq
  obtain⟨f0,f1,f2,f3,f4,f5⟩:=hf it (by simp)
  have hl:=rv.length
  exact wpAny_pyNext_list_end (I.ok.hd hc) st p.isList (by simp;omega) fun h' eb=>⟨rfl,I.turned (t':=s.toks) (fun b o hb e=>eb b o hb e) f0 f1 f3 f4 f5⟩
 self:=fun _ _ _ _ _ st h=>wpAny_pyIter_listiter st h
theorem turn_tuple{P:Program}{w:World}{K:W.Frag}{tg:Expr}(a it:Addr):Turn P w K tg (Itt K a) [it] it (fun i h=>h.IsTupleIter it a i) where
 mem:=by simp
 obj:=fun i h st b hb=>by
  have e:b=it:=by simpa using hb
  subst e
  obtain⟨o,e,c,d⟩:=st
  exact⟨o,e,fun v z=>by rw[d]at z;cases z⟩
 keep:=fun i h h' st k=>st.at fun o e=>k it (by simp) o e
 item:=by
  intro X hP hw hK hc i pins s σ H E I hf st hg
  subst hP hw hK
  obtain⟨xs,x,hq,hx⟩:=hg
  obtain⟨its,rv,p,hz⟩:=I.tuple hq
  obtain⟨u,hu,ru⟩:=rv.get hx
  obtain⟨f0,f1,f2,f3,f4,f5⟩:=hf it (by simp)
  refine wpAny_pyNext_tuple_item st (show s.heap.IsTuple a its.toArray from p) (x:=u) (by simpa using hu) fun h' st' sb=> ?_
  have I1:Inv X pins σ H {s with heap:=h'}:=I.turned (t':=s.toks) (fun b o hb e=>(sb.2 b hb).trans e) f0 f1 f3 f4 f5
  obtain⟨o,e,c,d⟩:=id st'
  exact⟨u,rfl,go_of (s:={s with heap:=h'}) e c d (by decide) ⟨x,H,I1,ru,⟨rfl,fun ys hy=>by rw[I.tuple_inj hy hq];exact hx⟩,st',fun b hb=>(hf b hb).1⟩⟩
 done:=by
  intro X hP hw hK hc i pins s σ H E I hf st hg
  subst hP hw hK
  obtain⟨xs,hq,hx⟩:=hg
  obtain⟨its,rv,p,hz⟩:=I.tuple hq
  obtain⟨f0,f1,f2,f3,f4,f5⟩:=hf it (by simp)
  have hl:=rv.length
  exact wpAny_pyNext_tuple_end (I.ok.hd hc) st (show s.heap.IsTuple a its.toArray from p) (by simp;omega) fun h' eb=>⟨rfl,I.turned (t':=s.toks) (fun b o hb e=>eb b o hb e) f0 f1 f3 f4 f5⟩
 self:=fun _ _ _ _ _ st h=>wpAny_pyIter_tupleiter st h
theorem turn_range{P:Program}{w:World}{K:W.Frag}{tg:Expr}(it:Addr)(lo:Int)(n:Nat):Turn P w K tg (Itr lo n) [it] it (fun i h=>IsRangeIter h it (lo+(i:Nat)*1) ((n:Int)-(i:Nat)) 1) where
 mem:=by simp
 obj:=fun i h st b hb=>by
  have e:b=it:=by simpa using hb
  subst e
  exact⟨_,st,fun v z=>by
   have z':Data.fields _=Data.cell v:=z
   cases z'⟩
 keep:=fun i h h' st k=>k it (by simp) _ st
 item:=by
  intro X hP hw hK hc i pins s σ H E I hf st hg
  subst hP hw hK
  obtain⟨f0,f1,f2,f3,f4,f5⟩:=hf it (by simp)
  have W:=Walks.range (prog:=X.prog) (w:=X.w) (I.ok.hd hc) it lo 1 n
  refine W.item i s _ _ hg st fun v h' tk hv st' kk=> ?_
  obtain⟨t,rfl⟩:=hv
  have I1:Inv X pins σ H {s with heap:=h',toks:=tk}:=I.turned (fun b o hb e=>kk b o (by simpa using hb) e) f0 f1 f3 f4 f5
  refine⟨_,rfl,go_of (s:={s with heap:=h',toks:=tk}) (n:="range_iterator") st' rfl rfl (by decide) ⟨.int (lo+i),H,I1,⟨t,?_⟩,⟨rfl,rfl⟩,st',fun b hb=>(hf b hb).1⟩⟩
  rw[Int.mul_one]
 done:=by
  intro X hP hw hK hc i pins s σ H E I hf st hg
  subst hP hw hK
  obtain⟨f0,f1,f2,f3,f4,f5⟩:=hf it (by simp)
  exact wpAny_pyNext_range_end (I.ok.hd hc) st (by have:n<=i:=hg;omega) fun h' eb=>⟨rfl,I.turned (t':=s.toks) (fun b o hb e=>eb b o hb e) f0 f1 f3 f4 f5⟩
 self:=fun _ _ _ _ _ st h=>wpAny_pyIter_rangeiter st h
section
variable{X:Cx}{tg:Expr}
theorem range_it{pins:List (Addr×Obj)}{σ:St}{H:Hp}{s:Shared}{R:It->Hp->Prop}{E:Value->Shared->Prop}{lo hi:Int}{t u v:Tok}{tk:Nat}(I:Inv X pins σ H s)(h1: -(2^62)<=lo)(h2:lo<2^62)(h3: -(2^62)<=hi)(h4:hi<2^62)(q:R (Itr lo (hi-lo).toNat) H):wpAny (model X.prog X.w) X.A (pyIter (.ref s.heap.objs.size)) (PIE X pins σ tg R) E {s with heap:=s.heap.push {cls:= .type "range",data:= .fields #[.int lo t,.int hi u,.int 1 v]},toks:=tk}:=by
 refine wpAny_pyIter_range (IsRange.new ..) (small_one h1 h2 h3 h4) ?_
 have I1:Inv X pins σ H {s with heap:=s.heap.push {cls:= .type "range",data:= .fields #[.int lo t,.int hi u,.int 1 v]},toks:=tk}:=I.kept fun b o e=>fO _ e
 refine⟨(s.heap.push {cls:= .type "range",data:= .fields #[.int lo t,.int hi u,.int 1 v]}).objs.size,[(s.heap.push {cls:= .type "range",data:= .fields #[.int lo t,.int hi u,.int 1 v]}).objs.size],_,_,H,rfl,
  I1.kept (t':=tk) fun b o e=>fO _ e,turn_range _ lo (hi-lo).toNat,?_,fun b hb=> ?_,q⟩
 ·have e1:lo+((0:Nat):Int)*1=lo:=by simp
  have e2:(((hi-lo).toNat:Nat):Int)-((0:Nat):Int)=Builtin.Range.rangeSize lo hi 1:=by rw[rangeSize_one];split<;>omega
  show IsRangeIter _ _ (lo+((0:Nat):Int)*1) ((((hi-lo).toNat:Nat):Int)-((0:Nat):Int)) 1
  rw[e1,e2]
  exact lq _ rfl
 ·have e:b=(s.heap.push {cls:= .type "range",data:= .fields #[.int lo t,.int hi u,.int 1 v]}).objs.size:=by simpa using hb
  subst e
  exact I1.fpOk (bD _) (I1.hok.fresh (bD _))
def iRng1(ta:TA):TI:=fun σ H R=>ta σ H fun vs H1=>∃j:Int,vs=[.int j]/\ -(2^62)<=j/\j<2^62/\R (Itr 0 j.toNat) H1
def iRng2(ta:TA):TI:=fun σ H R=>ta σ H fun vs H1=>∃i j:Int,vs=[.int i,.int j]/\(-(2^62)<=i/\i<2^62/\ -(2^62)<=j/\j<2^62)/\R (Itr i (j-i).toNat) H1
theorem rK{a:Expr}{ta:TA}{p pos:Pos}(hg:Gl X "range")(hm:X.mg "range"=none)(ha:PA X [a] ta)(hs:starEach [a] X.env=[(false,eval a X.env)]:=by rfl):PI X tg (.Call (.Name "range" p) [a] [] pos) (iRng1 ta):=by
 intro pins s σ H R I h
 refine Call_ (ld_blt I hg hm boot_range (zT (thn (ha pos pins s σ H _ I h) fun us s1 ⟨vs,H1,I1,r1,q1⟩=> ?_) hs rfl))
 obtain⟨j,e,q1,q2,q⟩:=q1
 subst e
 cases r1 with
 |cons r rr=>
  cases rr
  obtain⟨t,rfl⟩:=r
  exact call_range_1 (range_it I1 (by omega) (by omega) q1 q2 (by simpa using q))
theorem BR{a b:Expr}{ta:TA}{p pos:Pos}(hg:Gl X "range")(hm:X.mg "range"=none)(ha:PA X [a,b] ta)(hs:starEach [a,b] X.env=[(false,eval a X.env),(false,eval b X.env)]:=by rfl)(hs2:starEach [b] X.env=[(false,eval b X.env)]:=by rfl):
  PI X tg (.Call (.Name "range" p) [a,b] [] pos) (iRng2 ta):=by
 intro pins s σ H R I h
 refine Call_ (ld_blt I hg hm boot_range (zT (thn (ha pos pins s σ H _ I h) fun us s1 ⟨vs,H1,I1,r1,q1⟩=> ?_) (by rw[hs,hs2]) (by rw[hs2];rfl)))
 obtain⟨i,j,e,⟨q1,q2,q3,q4⟩,q⟩:=q1
 subst e
 cases r1 with
 |cons r rr=>
  cases rr with
  |cons r' rr=>
   cases rr
   obtain⟨t,rfl⟩:=r
   obtain⟨t',rfl⟩:=r'
   exact call_range_2 (range_it I1 q1 q2 q3 q4 q)
def tFor(wi:TI)(g:TG)(tb:TS):TS:=fun D σ H=>wi σ H fun J H1=>∃W:Nat->Nat->St->Hp->Prop,(∃m,W 0 m σ H1)/\∀i m σ H,W i m σ H->
 (J.stop i H/\D.nx σ H)\/(J.go i H/\∃N:St->Hp->Prop,(∀σ' H',N σ' H'->∃m',m'<m/\W (i+1) m' σ' H')/\∀x H',J.yld i H x H'->g x σ H' fun σ2 H2=>tb {D with nx:=N,ct:=N,bk:=D.nx} σ2 H2)
def pinsAt(fp:List Addr)(h:Heap):List (Addr×Obj):=fp.filterMap fun b=>(h.get? b).map fun o=>(b,o)
theorem FZ{fp:List Addr}{h:Heap}{b:Addr}{o:Obj}(hb:b∈fp)(e:h.get? b=some o):(b,o)∈pinsAt fp h:=List.mem_filterMap.mpr ⟨b,hb,by rw[e];rfl⟩
theorem of_pinsAt{fp:List Addr}{h:Heap}{p:Addr×Obj}(hp:p∈pinsAt fp h):p.1∈fp/\h.get? p.1=some p.2:=by
 obtain⟨b,hb,e⟩:=List.mem_filterMap.mp hp
 cases q:h.get? b with
 |none=>rw[q]at e;cases e
 |some o=>
  rw[q]at e
  have e':(b,o)=p:=uh e
  subst e'
  exact⟨hb,q⟩
theorem Inv.pinned{pins:List (Addr×Obj)}{σ:St}{H:Hp}{s:Shared}{fp:List Addr}(I:Inv X pins σ H s)(hf:∀b∈fp,FpOk X pins H b)(ho:∀b∈fp,∃o,s.heap.get? b=some o/\∀v,o.data≠.cell v):Inv X (pins++pinsAt fp s.heap) σ H s:=
 I.pins_of fun p hp=>(jX.mp hp).elim (fun z=>I.pin p (gP _ z)) fun z=>by
  obtain⟨hb,e⟩:=of_pinsAt z
  obtain⟨f0,f1,f2,_⟩:=hf p.1 hb
  obtain⟨o,e',d⟩:=ho p.1 hb
  rw[e]at e';cases e'
  exact⟨e,f0,f1,f2,d⟩
theorem Inv.unpinned{pins pl:List (Addr×Obj)}{σ:St}{H:Hp}{s:Shared}(I:Inv X (pins++pl) σ H s):Inv X pins σ H s:=I.pins_of fun p hp=>I.pin p (gP _ (Gv _ hp))
theorem oN{iter:Expr}{body:List Stmt}{wi:TI}{g:TG}{tb:TS}{pos:Pos}(hp:PassesOwn (model X.prog X.w) X.A X.env X.xe)(hc:X.calm=true)(hi:PI X tg iter wi)(hg:PG X tg g)(hb:PSs X body tb)(hs:∀x,foldedSetIterable iter X.env x=pure x:=by intro _;rfl):PS X (.For tg iter body [] pos) (tFor wi g tb):=by
 intro pins s σ H D I h
 refine wpAny_For (thn (hi pins s σ H _ I h) fun v s1 h1=>thn h1 fun itv s2 h2=> ?_) hs
 obtain⟨it,fp,tn,J,H2,e,I2,T,st2,f2,W,⟨m0,w0⟩,turn⟩:=h2
 subst e
 -- what stays true of the iterator's objects through the loop
 have stat:∀{H':Hp},(∀b∈fp,H' b=none)->∀b∈fp,FpOk X pins H' b:=fun hn b hb=>⟨hn b hb,(f2 b hb).2⟩
 refine codeAny_forLoop_any (fun n s'=>∃i σ' H',Inv X pins σ' H' s'/\tn i s'.heap/\(∀b∈fp,H' b=none)/\W i n σ' H') ?_ m0 ⟨0,σ,H2,I2,st2,fun b hb=>(f2 b hb).1,w0⟩
 rintro n s3 ⟨i,σ3,H3,I3,st3,fr3,w3⟩
 rcases turn i n σ3 H3 w3 with⟨stop,qn⟩|⟨go,N,hN,step⟩
 ·refine DW hp (thn (T.done X rfl rfl rfl hc i pins s3 σ3 H3 X.xe I3 (stat fr3) st3 stop) fun r s4 ⟨hr,I4⟩=> ?_)
  subst hr
  exact Ib ⟨σ3,H3,I4,qn⟩
 ·refine DW hp (thn (T.item X rfl rfl rfl hc i pins s3 σ3 H3 X.xe I3 (stat fr3) st3 go) fun r s4 ⟨u,hr,h4⟩=> ?_)
  subst hr
  refine DW hp (thn h4 fun _ s5 ⟨x,H5,I5,r5,y5,st5,fr5⟩=> ?_)
  have I5':=I5.pinned (stat fr5) (T.obj _ _ st5)
  refine DW hp (thn (hg _ s5 σ3 H5 x u _ I5' r5 (step x H5 y5)) fun _ s6 ⟨σ6,H6,I6,q6⟩=> ?_)
  refine DW hp (thn (hb _ s6 σ6 H6 _ I6 q6) fun f s7 q7=> ?_)
  have again:∀{σ7:St} {H7:Hp},Inv X (pins++pinsAt fp s5.heap) σ7 H7 s7->N σ7 H7->∃m,m<n/\∃i σ' H',Inv X pins σ' H' s7/\tn i s7.heap/\(∀b∈fp,H' b=none)/\W i m σ' H':=fun{σ7 H7} I7 n7=>by
   obtain⟨m',hm,w7⟩:=hN σ7 H7 n7
   refine⟨m',hm,i+1,σ7,H7,I7.unpinned,T.keep _ _ _ st5 fun b hb o e=>(I7.pin (b,o) (gP _ (gP _ (FZ hb e)))).1,fun b hb=> ?_,w7⟩
   obtain⟨o,e,d⟩:=T.obj _ _ st5 b hb
   exact(I7.pin (b,o) (gP _ (gP _ (FZ hb e)))).2.1
  cases f with
  |next=>obtain⟨σ7,H7,I7,n7⟩:=q7;exact again I7 n7
  |cont=>obtain⟨σ7,H7,I7,n7⟩:=q7;exact again I7 n7
  |brk=>obtain⟨σ7,H7,I7,q7⟩:=q7;exact⟨σ7,H7,I7.unpinned,q7⟩
  |ret v=>obtain⟨x7,σ7,H7,I7,r7,q7⟩:=q7;exact⟨x7,σ7,H7,I7.unpinned,r7,q7⟩
end
theorem for_list{K:W.Frag}{a:Addr}{xs:List V}{g:TG}{tb:TS}{D:Ends}{σ:St}{H:Hp}(Pv:Nat->St->Hp->Prop)(h0:Pv 0 σ H)(hl:∀i σ H,i<=xs.length->Pv i σ H->SqL K H a xs)(hs:∀i x σ H,xs[i]? =some x->Pv i σ H->g x σ H fun σ2 H2=>tb {D with nx:=Pv (i+1),ct:=Pv (i+1),bk:=D.nx} σ2 H2)(hd:∀σ H,Pv xs.length σ H->D.nx σ H):
  ∃W:Nat->Nat->St->Hp->Prop,(∃m,W 0 m σ H)/\∀i m σ H,W i m σ H->
   ((Itl K a).stop i H/\D.nx σ H)\/((Itl K a).go i H/\∃N:St->Hp->Prop,(∀σ' H',N σ' H'->∃m',m'<m/\W (i+1) m' σ' H')/\∀x H',(Itl K a).yld i H x H'->g x σ H' fun σ2 H2=>tb {D with nx:=N,ct:=N,bk:=D.nx} σ2 H2):=by
 refine⟨fun i m σ H=>m=xs.length-i/\i<=xs.length/\Pv i σ H,⟨xs.length,by simp,eX _,h0⟩,?_⟩
 rintro i m σ H ⟨rfl,hi,p⟩
 have q:=hl i σ H hi p
 by_cases hlt:i<xs.length
 ·refine .inr ⟨⟨xs,xs[i],q,by simp[hlt]⟩,Pv (i+1),fun σ' H' p'=>⟨xs.length-(i+1),by omega,rfl,hlt,p'⟩,fun x H' y=> ?_⟩
  obtain⟨e,y⟩:=y
  subst e
  exact hs i x σ _ (y xs q) p
 ·have e:i=xs.length:=by omega
  subst e
  exact .inl ⟨⟨xs,q,bD _⟩,hd σ H p⟩
theorem for_tup{K:W.Frag}{a:Addr}{xs:List V}{g:TG}{tb:TS}{D:Ends}{σ:St}{H:Hp}(Pv:Nat->St->Hp->Prop)(h0:Pv 0 σ H)(hl:∀i σ H,i<=xs.length->Pv i σ H->SqT K H a xs)(hs:∀i x σ H,xs[i]? =some x->Pv i σ H->g x σ H fun σ2 H2=>tb {D with nx:=Pv (i+1),ct:=Pv (i+1),bk:=D.nx} σ2 H2)(hd:∀σ H,Pv xs.length σ H->D.nx σ H):
  ∃W:Nat->Nat->St->Hp->Prop,(∃m,W 0 m σ H)/\∀i m σ H,W i m σ H->
   ((Itt K a).stop i H/\D.nx σ H)\/((Itt K a).go i H/\∃N:St->Hp->Prop,(∀σ' H',N σ' H'->∃m',m'<m/\W (i+1) m' σ' H')/\∀x H',(Itt K a).yld i H x H'->g x σ H' fun σ2 H2=>tb {D with nx:=N,ct:=N,bk:=D.nx} σ2 H2):=by
 refine⟨fun i m σ H=>m=xs.length-i/\i<=xs.length/\Pv i σ H,⟨xs.length,by simp,eX _,h0⟩,?_⟩
 rintro i m σ H ⟨rfl,hi,p⟩
 have q:=hl i σ H hi p
 by_cases hlt:i<xs.length
 ·refine .inr ⟨⟨xs,xs[i],q,by simp[hlt]⟩,Pv (i+1),fun σ' H' p'=>⟨xs.length-(i+1),by omega,rfl,hlt,p'⟩,fun x H' y=> ?_⟩
  obtain⟨e,y⟩:=y
  subst e
  exact hs i x σ _ (y xs q) p
 ·have e:i=xs.length:=by omega
  subst e
  exact .inl ⟨⟨xs,q,bD _⟩,hd σ H p⟩
theorem tY{lo:Int}{n:Nat}{g:TG}{tb:TS}{D:Ends}{σ:St}{H:Hp}(Pv:Nat->St->Hp->Prop)(h0:Pv 0 σ H)(hs:∀i σ H,i<n->Pv i σ H->g (.int (lo+i)) σ H fun σ2 H2=>tb {D with nx:=Pv (i+1),ct:=Pv (i+1),bk:=D.nx} σ2 H2)(hd:∀σ H,Pv n σ H->D.nx σ H):
  ∃W:Nat->Nat->St->Hp->Prop,(∃m,W 0 m σ H)/\∀i m σ H,W i m σ H->
   ((Itr lo n).stop i H/\D.nx σ H)\/((Itr lo n).go i H/\∃N:St->Hp->Prop,(∀σ' H',N σ' H'->∃m',m'<m/\W (i+1) m' σ' H')/\∀x H',(Itr lo n).yld i H x H'->g x σ H' fun σ2 H2=>tb {D with nx:=N,ct:=N,bk:=D.nx} σ2 H2):=by
 refine⟨fun i m σ H=>m=n-i/\i<=n/\Pv i σ H,⟨n,by simp,eX _,h0⟩,?_⟩
 rintro i m σ H ⟨rfl,hi,p⟩
 by_cases hlt:i<n
 ·refine .inr ⟨hlt,Pv (i+1),fun σ' H' p'=>⟨n-(i+1),by omega,rfl,hlt,p'⟩,fun x H' y=> ?_⟩
  obtain⟨e,y⟩:=y
  subst e y
  exact hs i σ _ hlt p
 ·have e:i=n:=by omega
  subst e
  exact .inl ⟨bD _,hd σ H p⟩
abbrev R2:=V->V->Hp->VK->Prop
def OpR(X:Cx)(f:Value->Value->Sem Value)(r:R2):Prop:=
 ∀(pins:List (Addr×Obj)) (s:Shared) (σ:St) (H:Hp) (x y:V) (v u:Value) (Q:VK),Inv X pins σ H s->RelV x v->RelV y u->r x y H Q->
  wpAny (model X.prog X.w) X.A (f v u) (EP X pins σ Q) X.xe s
def CallR(X:Cx)(f:Value)(r:List V->Hp->VK->Prop):Prop:=
 ∀(pins:List (Addr×Obj)) (s:Shared) (σ:St) (H:Hp) (xs:List V) (us:List Value) (Q:VK),Inv X pins σ H s->Vals xs us->r xs H Q->
  wpAny (model X.prog X.w) X.A (call f us) (EP X pins σ Q) X.xe s
def TruR(X:Cx)(r:V->Hp->(Bool->Hp->Prop)->Prop):Prop:=
 ∀(pins:List (Addr×Obj)) (s:Shared) (σ:St) (H:Hp) (x:V) (v:Value) (Q:Bool->Hp->Prop),Inv X pins σ H s->RelV x v->r x H Q->
  wpAny (model X.prog X.w) X.A (truthy v) (TP X pins σ Q) X.xe s
def tOp(r:R2)(ta tb:TE):TE:=fun σ H Q=>ta σ H fun x H1=>tb σ H1 fun y H2=>r x y H2 Q
def rI(C:Int->Int->Prop)(g:Int->Int->V):R2:=fun x y H Q=>∃i j,x= .int i/\y= .int j/\C i j/\Q (g i j) H
def rI0(g:Int->Int->V):R2:=fun x y H Q=>∃i j,x= .int i/\y= .int j/\Q (g i j) H
section
variable{X:Cx}{a b c:Expr}{ta tb tc:TE}{pos:Pos}
theorem binT(ha:PE X a ta)(hb:PE X b tb){pins:List (Addr×Obj)}{s:Shared}{σ:St}{H:Hp}{R:V->V->Hp->Prop}(I:Inv X pins σ H s)(h:ta σ H fun x H1=>tb σ H1 fun y H2=>R x y H2){Q:Value->Shared->Prop}{f:Value->Value->Sem Value}(hf:∀v u s2 x y H2,Inv X pins σ H2 s2->RelV x v->RelV y u->R x y H2->wpAny (model X.prog X.w) X.A (f v u) Q X.xe s2):
  wpAny (model X.prog X.w) X.A (eval a X.env) (fun v s₁=>wpAny (model X.prog X.w) X.A (eval b X.env) (fun u s₂=>wpAny (model X.prog X.w) X.A (f v u) Q X.xe s₂) X.xe s₁) X.xe s:=by
 refine thn (ha pins s σ H _ I h) fun v s1 ⟨x,H1,I1,r1,q1⟩=> ?_
 refine thn (hb pins s1 σ H1 _ I1 q1) fun u s2 ⟨y,H2,I2,r2,q2⟩=> ?_
 exact hf v u s2 x y H2 I2 r1 r2 q2
theorem bN{op:Operator}{r:R2}(ho:OpR X (binaryOp op) r)(ha:PE X a ta)(hb:PE X b tb):PE X (.BinOp a op b pos) (tOp r ta tb):=by
 intro pins s σ H Q I h
 exact wpAny_BinOp (binT ha hb I h fun v u s2 x y H2 I2 rx ry q=>ho pins s2 σ H2 x y v u Q I2 rx ry q)
theorem opI{f:Value->Value->Sem Value}{C:Int->Int->Prop}{g:Int->Int->Int}(rule:∀(i j:Int) (t u:Tok) (s:Shared) (Q:Value->Shared->Prop) (E:Value->Shared->Prop),C i j->Q (.int (g i j) s.toks) {s with toks:=s.toks+1}->wpAny (model X.prog X.w) X.A (f (.int i t) (.int j u)) Q E s):
  OpR X f (rI C fun i j=> .int (g i j)):=by
 intro pins s σ H x y v u Q I rx ry h
 obtain⟨i,j,rfl,rfl,hc,q⟩:=h
 obtain⟨t,rfl⟩:=rx
 obtain⟨t',rfl⟩:=ry
 exact rule i j t t' s _ _ hc ⟨.int (g i j),H,I.tok _,⟨_,rfl⟩,q⟩
theorem opI0{f:Value->Value->Sem Value}{g:Int->Int->Int}(rule:∀(i j:Int) (t u:Tok) (s:Shared) (Q:Value->Shared->Prop) (E:Value->Shared->Prop),Q (.int (g i j) s.toks) {s with toks:=s.toks+1}->wpAny (model X.prog X.w) X.A (f (.int i t) (.int j u)) Q E s):
  OpR X f (rI0 fun i j=> .int (g i j)):=by
 intro pins s σ H x y v u Q I rx ry h
 obtain⟨i,j,rfl,rfl,q⟩:=h
 obtain⟨t,rfl⟩:=rx
 obtain⟨t',rfl⟩:=ry
 exact rule i j t t' s _ _ ⟨.int (g i j),H,I.tok _,⟨_,rfl⟩,q⟩
theorem opB0{f:Value->Value->Sem Value}{g:Int->Int->Bool}(rule:∀(i j:Int) (t u:Tok) (s:Shared) (Q:Value->Shared->Prop) (E:Value->Shared->Prop),Q (.bool (g i j)) s->wpAny (model X.prog X.w) X.A (f (.int i t) (.int j u)) Q E s):
  OpR X f (rI0 fun i j=> .bl (g i j)):=by
 intro pins s σ H x y v u Q I rx ry h
 obtain⟨i,j,rfl,rfl,q⟩:=h
 obtain⟨t,rfl⟩:=rx
 obtain⟨t',rfl⟩:=ry
 exact rule i j t t' s _ _ ⟨.bl (g i j),H,I,rfl,q⟩
def CPow(i j:Int):Prop:=0<=j/\j<=1000000/\i.natAbs<2^64
def CMul(i j:Int):Prop:=(-(2^64)<i/\i<2^64)\/(-(2^64)<j/\j<2^64)
theorem CMul.ok{i j:Int}(h:CMul i j):IntMulOk i j:=by
 rcases h with⟨h1,h2⟩|⟨h1,h2⟩
 ·exact .of_left (intBits_le_64 h1 h2)
 ·exact .of_right (intBits_le_64 h1 h2)
theorem gK:OpR X (binaryOp .Add) (rI0 fun i j=> .int (i+j)):=opI0 fun _ _ _ _ _ _ _ q=>add_int q
theorem op_sub:OpR X (binaryOp .Sub) (rI0 fun i j=> .int (i-j)):=opI0 fun _ _ _ _ _ _ _ q=>sub_int q
theorem tM:OpR X (binaryOp .Mult) (rI CMul fun i j=> .int (i*j)):=opI fun _ _ _ _ _ _ _ hc q=>mul_int q hc.ok
theorem op_mod:OpR X (binaryOp .Mod) (rI (fun _ j=>0<j) fun i j=> .int (i %j)):=opI fun i j _ _ _ _ _ hc q=>by
 have h1:(0:Int)<j:=hc
 exact mod_int' (by omega) (by rw[Int.fmod_eq_emod_of_nonneg i (by omega)];exact q)
theorem op_pow:OpR X (binaryOp .Pow) (rI CPow fun i j=> .int (i^j.toNat)):=opI fun _ _ _ _ _ _ _ hc q=>pow_int_small hc.1 hc.2.1 hc.2.2 q
end
def scal:V->V->Bool
 | .non,.non=>true| .non,.int _=>true| .int _,.non=>true| .non,.bl _=>true| .bl _,.non=>true| .non,.str _=>true| .str _,.non=>true
 | .int _,.int _=>true| .bl _,.bl _=>true| .str _,.str _=>true| .byt _,.byt _=>true
 | .int _,.str _=>true| .str _,.int _=>true| .bl _,.str _=>true| .str _,.bl _=>true
 |_,_=>false
def rEq:R2:=fun x y H Q=>scal x y=true/\Q (.bl (decide (x=y))) H
def rNe:R2:=fun x y H Q=>scal x y=true/\Q (.bl (!decide (x=y))) H
theorem dec_int{i j:Int}:decide (V.int i=V.int j)=(i==j):=by
 rw[mY]
 simp
theorem dec_bl{i j:Bool}:decide (V.bl i=V.bl j)=(i==j):=by
 rw[mY]
 simp
theorem dec_str{i j:Str}:decide (V.str i=V.str j)=(i==j):=by
 rw[mY]
 simp
theorem dec_byt{i j:Array UInt8}:decide (V.byt i=V.byt j)=(i.toList==j.toList):=by
 rw[mY]
 cases i
 cases j
 simp
section
variable{X:Cx}{a b c:Expr}{ta tb tc:TE}{pos:Pos}
theorem dY{pins:List (Addr×Obj)}{σ:St}{H:Hp}{s:Shared}{Q:VK}{k k':Bool}(I:Inv X pins σ H s)(q:Q (.bl k) H)(e:k=k'):EP X pins σ Q (.bool k') s:=by
 subst e
 exact⟨.bl k,H,I,rfl,q⟩
theorem op_eq:OpR X (compareOp .Eq) rEq:=by
 intro pins s σ H x y v u Q I rx ry h
 obtain⟨hs,q⟩:=h
 cases x with
 |non=>
  cases rx
  cases y with
  |non=>cases ry;exact PySem.EqNone.eq_none_none (dY I q (by simp))
  |bl j=>cases ry;exact PySem.EqNone.eq_none_bool (dY I q (by simp))
  |int j=>obtain⟨t',rfl⟩:=ry;exact PySem.EqNone.eq_none_int (dY I q (by simp))
  |str j=>obtain⟨t',rfl⟩:=ry;exact PySem.EqNone.eq_none_str (dY I q (by simp))
  |_=>exact absurd (show false=true from hs) mK
 |bl i=>
  cases rx
  cases y with
  |non=>cases ry;exact PySem.EqNone.eq_bool_none (dY I q (by simp))
  |bl j=>cases ry;exact eq_bool (dY I q dec_bl)
  |str j=>obtain⟨t',rfl⟩:=ry;exact PySem.EqMixed.eq_bool_str (dY I q (by simp))
  |_=>exact absurd (show false=true from hs) mK
 |int i=>
  obtain⟨t,rfl⟩:=rx
  cases y with
  |non=>cases ry;exact PySem.EqNone.eq_int_none (dY I q (by simp))
  |int j=>obtain⟨t',rfl⟩:=ry;exact eq_int (dY I q dec_int)
  |str j=>obtain⟨t',rfl⟩:=ry;exact PySem.EqMixed.eq_int_str (dY I q (by simp))
  |_=>exact absurd (show false=true from hs) mK
 |str i=>
  obtain⟨t,rfl⟩:=rx
  cases y with
  |non=>cases ry;exact PySem.EqNone.eq_str_none (dY I q (by simp))
  |bl j=>cases ry;exact PySem.EqMixed.eq_str_bool (dY I q (by simp))
  |int j=>obtain⟨t',rfl⟩:=ry;exact PySem.EqMixed.eq_str_int (dY I q (by simp))
  |str j=>obtain⟨t',rfl⟩:=ry;exact eq_str (dY I q dec_str)
  |_=>exact absurd (show false=true from hs) mK
 |byt i=>
  obtain⟨t,rfl⟩:=rx
  cases y with
  |byt j=>obtain⟨t',rfl⟩:=ry;exact PySem.W.eq_bytes (dY I q dec_byt)
  |_=>exact absurd (show false=true from hs) mK
 |_=>cases y<;>exact absurd (show false=true from hs) mK
theorem op_ne:OpR X (compareOp .NotEq) rNe:=by
 intro pins s σ H x y v u Q I rx ry h
 obtain⟨hs,q⟩:=h
 cases x with
 |non=>
  cases rx
  cases y with
  |non=>cases ry;exact PySem.EqNone.ne_none_none (dY I q (by simp))
  |bl j=>cases ry;exact PySem.EqNone.ne_none_bool (dY I q (by simp))
  |int j=>obtain⟨t',rfl⟩:=ry;exact PySem.EqNone.ne_none_int (dY I q (by simp))
  |str j=>obtain⟨t',rfl⟩:=ry;exact PySem.EqNone.ne_none_str (dY I q (by simp))
  |_=>exact absurd (show false=true from hs) mK
 |bl i=>
  cases rx
  cases y with
  |non=>cases ry;exact PySem.EqNone.ne_bool_none (dY I q (by simp))
  |bl j=>cases ry;exact ne_bool (dY I q (was not dec_bl))
  |str j=>obtain⟨t',rfl⟩:=ry;exact PySem.EqMixed.ne_bool_str (dY I q (by simp))
  |_=>exact absurd (show false=true from hs) mK
 |int i=>
  obtain⟨t,rfl⟩:=rx
  cases y with
  |non=>cases ry;exact PySem.EqNone.ne_int_none (dY I q (by simp))
  |int j=>obtain⟨t',rfl⟩:=ry;exact ne_int (dY I q (was not dec_int))
  |str j=>obtain⟨t',rfl⟩:=ry;exact PySem.EqMixed.ne_int_str (dY I q (by simp))
  |_=>exact absurd (show false=true from hs) mK
 |str i=>
  obtain⟨t,rfl⟩:=rx
  cases y with
  |non=>cases ry;exact PySem.EqNone.ne_str_none (dY I q (by simp))
  |bl j=>cases ry;exact PySem.EqMixed.ne_str_bool (dY I q (by simp))
  |int j=>obtain⟨t',rfl⟩:=ry;exact PySem.EqMixed.ne_str_int (dY I q (by simp))
  |str j=>obtain⟨t',rfl⟩:=ry;exact ne_str (dY I q (was not dec_str))
  |_=>exact absurd (show false=true from hs) mK
 |byt i=>
  obtain⟨t,rfl⟩:=rx
  cases y with
  |byt j=>obtain⟨t',rfl⟩:=ry;exact PySem.W.ne_bytes (dY I q (was not dec_byt))
  |_=>exact absurd (show false=true from hs) mK
 |_=>cases y<;>exact absurd (show false=true from hs) mK
theorem op_lt:OpR X (compareOp .Lt) (rI0 fun i j=> .bl (decide (i<j))):=opB0 fun _ _ _ _ _ _ _ q=>lt_int q
theorem op_le:OpR X (compareOp .LtE) (rI0 fun i j=> .bl (decide (i<=j))):=opB0 fun _ _ _ _ _ _ _ q=>le_int q
theorem op_gt:OpR X (compareOp .Gt) (rI0 fun i j=> .bl (decide (j<i))):=opB0 fun _ _ _ _ _ _ _ q=>gt_int q
theorem op_ge:OpR X (compareOp .GtE) (rI0 fun i j=> .bl (decide (j<=i))):=opB0 fun _ _ _ _ _ _ _ q=>ge_int q
theorem op_isN:OpR X (compareOp .Is) (fun x y H Q=>y= .non/\Q (.bl (decide (x= .non))) H):=by
 intro pins s σ H x y v u Q I rx ry h
 obtain⟨rfl,q⟩:=h
 cases ry
 refine is_none_gen (dY I q ?_)
 cases x<;>first
  |(cases rx;rfl)
  |(obtain⟨t,rfl⟩:=rx;rfl)
theorem op_notN:OpR X (compareOp .IsNot) (fun x y H Q=>y= .non/\Q (.bl (!decide (x= .non))) H):=by
 intro pins s σ H x y v u Q I rx ry h
 obtain⟨rfl,q⟩:=h
 cases ry
 refine isnot_none_gen (dY I q ?_)
 cases x<;>first
  |(cases rx;rfl)
  |(obtain⟨t,rfl⟩:=rx;rfl)
theorem OpR.or{f:Value->Value->Sem Value}{r r':R2}(h:OpR X f r)(h':OpR X f r'):OpR X f (fun x y H Q=>r x y H Q\/r' x y H Q):=by
 intro pins s σ H x y v u Q I rx ry q
 rcases q with q|q
 ·exact h pins s σ H x y v u Q I rx ry q
 ·exact h' pins s σ H x y v u Q I rx ry q
theorem nomark(b:Expr){op:CmpOp}(h:op≠.In:=by decide)(h2:op≠.NotIn:=by decide):behindInMarks op b=false:=by
 have e1:(op==CmpOp.In)=false:=by cases op<;>first |rfl|exact absurd rfl h
 have e2:(op==CmpOp.NotIn)=false:=by cases op<;>first |rfl|exact absurd rfl h2
 cases b<;>simp[behindInMarks,e1,e2]
theorem pe_cmpR{op:CmpOp}{r:R2}(ho:OpR X (compareOp op) r)(ha:PE X a ta)(hb:PE X b tb)(hm:behindInMarks op b=false):PE X (.Compare a [op] [b] pos) (tOp r ta tb):=by
 intro pins s σ H Q I h
 exact wpAny_Compare1 (binT ha hb I h fun v u s2 x y H2 I2 rx ry q=>ho pins s2 σ H2 x y v u Q I2 rx ry q) hm
def tTest(t:TE):TT:=fun σ H Q=>t σ H fun x H'=>∃k,x= .bl k/\Q k H'
theorem iU{op:CmpOp}{r:R2}(ho:OpR X (compareOp op) r)(ha:PE X a ta)(hb:PE X b tb)(hm:behindInMarks op b=false):PT X (.Compare a [op] [b] pos) (tTest (tOp r ta tb)):=by
 intro pins s σ H Q I h
 refine wpAny_isTrue_Compare1 (thn (ha pins s σ H _ I h) fun v s1 ⟨x,H1,I1,r1,q1⟩=>thn (hb pins s1 σ H1 _ I1 q1) fun u s2 ⟨y,H2,I2,r2,q2⟩=>
  thn (ho pins s2 σ H2 x y v u _ I2 r1 r2 q2) fun c s3 ⟨z,H3,I3,r3,k,e,q3⟩=> ?_) hm
 subst e
 cases r3
 exact wV ⟨H3,I3,q3⟩
def tChain(r r':R2)(ta tb tc:TE):TE:=fun σ H Q=>ta σ H fun x H1=>tb σ H1 fun y H2=>r x y H2 fun z H3=>∃k,z= .bl k/\
 (if k=true then tc σ H3 fun w' H4=>r' y w' H4 Q else Q (.bl false) H3)
theorem pe_chain{op op':CmpOp}{r r':R2}(ho:OpR X (compareOp op) r)(ho':OpR X (compareOp op') r')(ha:PE X a ta)(hb:PE X b tb)(hc:PE X c tc)(hm:lastMarks [op,op'] [b,c]=false:=by with_unfolding_all rfl):PE X (.Compare a [op,op'] [b,c] pos) (tChain r r' ta tb tc):=by
 intro pins s σ H Q I h
 refine Compare_chain (thn (ha pins s σ H _ I h) fun v s1 ⟨x,H1,I1,r1,q1⟩=>chain_link (thn (hb pins s1 σ H1 _ I1 q1) fun u s2 ⟨y,H2,I2,r2,q2⟩=>
  thn (ho pins s2 σ H2 x y v u _ I2 r1 r2 q2) fun d s3 ⟨z,H3,I3,r3,k,e,q3⟩=> ?_)) hm
 subst e
 cases r3
 refine wV ?_
 cases k with
 |false=>exact ite_ff ⟨.bl false,H3,I3,rfl,q3⟩
 |true=>exact ite_tt (chain_last (thn (hc pins s3 σ H3 _ I3 q3) fun w' s4 ⟨z',H4,I4,r4,q4⟩=>ho' pins s4 σ H4 y z' u w' Q I4 r2 r4 q4))
def TruV(K:W.Frag)(x:V)(H:Hp)(k:Bool):Prop:=
 match x with
 | .non=>k=false
 | .bl b=>k=b
 | .int i=>k=(i !=0)
 | .str y=>y.length<=sizeLine/\k=((y.length:Int) !=0)
 | .byt y=>y.size<=sizeLine/\k=((y.size:Int) !=0)
 | .ref p=>(∃xs,SqL K H p xs/\k= !xs.isEmpty)\/(∃xs,SqT K H p xs/\k= !xs.isEmpty)\/∃kvs,H p=some (.dK kvs)/\k= !kvs.isEmpty
 |_=>False
theorem isEmpty_kv{κ:Type}{kvs:List (κ×V)}{vs:List (κ×Value)}(r:KV kvs vs):(!vs.isEmpty)= !kvs.isEmpty:=by
 cases r<;>rfl
theorem isEmpty_of{xs:List V}{its:List Value}(r:Vals xs its):(!its.toArray.isEmpty)= !xs.isEmpty:=by
 cases r<;>simp
theorem line63:(sizeLine:Nat)<2^63:=by rw[eF];decide
theorem tru_ok:TruR X (fun x H Q=>∃k,TruV X.K x H k/\Q k H):=by
 intro pins s σ H x v Q I rx h
 obtain⟨k,e,q⟩:=h
 have hl:=line63
 have hs:sizeLine=16777216:=eF
 cases x with
 |non=>
  cases rx
  have e':k=false:=e
  subst e'
  exact truthy_none ⟨H,I,q⟩
 |bl b=>
  cases rx
  have e':k=b:=e
  subst e'
  exact wV ⟨H,I,q⟩
 |int i=>
  obtain⟨t,rfl⟩:=rx
  have e':k=(i !=0):=e
  subst e'
  exact PySem.P.truthy_int ⟨H,I,q⟩
 |str y=>
  obtain⟨t,rfl⟩:=rx
  obtain⟨hy,e'⟩:y.length<=sizeLine/\k=((y.length:Int) !=0):=e
  subst e'
  exact PySem.P.truthy_str (by omega) ⟨H,I.tok _,q⟩
 |byt y=>
  obtain⟨t,rfl⟩:=rx
  obtain⟨hy,e'⟩:y.size<=sizeLine/\k=((y.size:Int) !=0):=e
  subst e'
  exact PySem.W.truthy_bytes (by omega) ⟨H,I.tok _,q⟩
 |ref p=>
  cases rx
  have e':(∃xs,SqL X.K H p xs/\k= !xs.isEmpty)\/(∃xs,SqT X.K H p xs/\k= !xs.isEmpty)\/∃kvs,H p=some (.dK kvs)/\k= !kvs.isEmpty:=e
  rcases e' with⟨xs,hx,e'⟩|⟨xs,hx,e'⟩|⟨kvs,hx,e'⟩
  ·subst e'
   obtain⟨its,r,pl,hz⟩:=I.list hx
   have hlen:=r.length
   exact wpAny_truthy_list pl.isList (by simp only[dI];omega) ⟨H,I.tok _,by rw[isEmpty_of r];exact q⟩
  ·subst e'
   obtain⟨its,r,pl,hz⟩:=I.tuple hx
   have hlen:=r.length
   exact truthy_tuple pl (by simp only[dI];omega) ⟨H,I.tok _,by rw[isEmpty_of r];exact q⟩
  ·subst e'
   obtain⟨hz,hS,vs,r,m⟩:kvs.length<=sizeLine/\(p==sysModules)=false/\∃vs,KV kvs vs/\s.heap.DictOf (mixKind X.prog X.w) p vs:=I.hok p _ hx
   have hlen:kvs.length=vs.length:=Paired.length r
   exact wpAny_truthy_dict hS m (by omega) ⟨H,I.tok _,by rw[isEmpty_kv r];exact q⟩
 |_=>exact(show False from e).elim
theorem pt_truth(ha:PE X a ta)(he:∀whole,isTrue a X.env whole=(do let v<-whole;standAt a.pos;holding [v] (truthy v))):
  PT X a (fun σ H Q=>ta σ H fun x H'=>∃k,TruV X.K x H' k/\Q k H'):=by
 intro pins s σ H Q I h
 exact isTrue_plain (thn (ha pins s σ H _ I h) fun v s1 ⟨x,H1,I1,r1,q1⟩=>tru_ok pins s1 σ H1 x v Q I1 r1 q1) (he _)
theorem vals1{x:V}{us:List Value}(r:Vals [x] us):∃u,us=[u]/\RelV x u:=by
 cases r with
 |cons r1 r2=>cases r2;exact⟨_,rfl,r1⟩
theorem vals2{x y:V}{us:List Value}(r:Vals [x,y] us):∃u w',us=[u,w']/\RelV x u/\RelV y w':=by
 cases r with
 |cons r1 r2=>
  cases r2 with
  |cons r3 r4=>cases r4;exact⟨_,_,rfl,r1,r3⟩
theorem call_max2(hc:X.calm=true):CallR X (.builtin "max") (fun xs H Q=>∃i j,xs=[.int i,.int j]/\Q (.int (if j>i then j else i)) H):=by
 intro pins s σ H xs us Q I r h
 obtain⟨i,j,rfl,q⟩:=h
 obtain⟨u,w',rfl,⟨t,rfl⟩,⟨t',rfl⟩⟩:=vals2 r
 refine max_two_ints (I.ok.hd hc) fun h' tk k=>⟨_,H,I.kept k,?_,q⟩
 by_cases hj:j>i
 ·rw[aN hj,aN hj];exact⟨_,rfl⟩
 ·rw[aP hj,aP hj];exact⟨_,rfl⟩
theorem call_min2(hc:X.calm=true):CallR X (.builtin "min") (fun xs H Q=>∃i j,xs=[.int i,.int j]/\Q (.int (if j<i then j else i)) H):=by
 intro pins s σ H xs us Q I r h
 obtain⟨i,j,rfl,q⟩:=h
 obtain⟨u,w',rfl,⟨t,rfl⟩,⟨t',rfl⟩⟩:=vals2 r
 refine min_two_ints (I.ok.hd hc) fun h' tk k=>⟨_,H,I.kept k,?_,q⟩
 by_cases hj:j<i
 ·rw[aN hj,aN hj];exact⟨_,rfl⟩
 ·rw[aP hj,aP hj];exact⟨_,rfl⟩
end
structure ObjM(h:Heap)(x dx C:Addr)(mA:Str->Option Value):Prop where
 obj:h.get? x=some (PySem.W.instObj C dx)
 ns:h.Ns1 dx mA
 ne:dx≠x
theorem lookIn_ns{h:Heap}{dx:Addr}{mA:Str->Option Value}(n:h.Ns1 dx mA):∃od,h.get? dx=some od/\∀name,PySem.W.lookIn name od=some (mA name):=by
 obtain⟨o,es,ep,ho,hd,hk,_,hm⟩:=n
 refine⟨o,ho,fun name=> ?_⟩
 have e:=hm name
 unfold nsFind findBy at e
 rw[<-Array.find?_toList]at e
 unfold PySem.W.lookIn
 rw[hd]
 dsimp only
 split
 ·rename_i y q
  rw[q]at e
  exact was some e
 ·rename_i q
  rw[q]at e
  have a:es.toList.any (·.refKey)=false:=by
   rw[Hi]
   intro y hy
   obtain⟨z,t,hkey⟩:=hk y (Array.mem_toList_iff.mp hy)
   simp[DictEntry.refKey,hkey]
  have a':¬es.toList.any (·.refKey)=true:=by rw[a];exact mK
  rw[aP a']
  exact was some e
theorem ObjM.look{h:Heap}{x dx C:Addr}{mA:Str->Option Value}(I:ObjM h x dx C mA):∃od,PySem.W.InstAt h x (PySem.W.instObj C dx) C (some od)/\∀name,PySem.W.lookIn name od=some (mA name):=
 let⟨od,ho,hl⟩:=lookIn_ns I.ns
 ⟨od,⟨I.obj,rfl,rfl,ho⟩,hl⟩
section
variable{prog:Program}{w:World}{A:Around}{E:Value->Shared->Prop}{s:Shared}{K:W.Frag}{x dx C f:Addr}{mA:Str->Option Value}{name:Str}{v:Value}
theorem get_map{expr:Bool}{Q:Value->Shared->Prop}(X:K.In s.heap)(I:ObjM s.heap x dx C mA)(hg:PySem.W.plainGet K C name=true)(hh:PySem.W.hasDictIn K C=true)(ha:PySem.W.findIn K (.ref C) name=some none)(hv:mA name=some v)(hv':PySem.W.handedIn v=true)(h:Q v {s with toks:=s.toks+1}):
  wpAny (model prog w) A (getAttr (.ref x) name expr) Q E s:=by
 obtain⟨od,J,hl⟩:=I.look
 exact PySem.W.get_value X J (Iv hg).1 (PySem.W.findObj_own hh ha rfl (by rw[hl,hv])) hv' h
theorem get_meth{pl:Sem Bool}{Q:Value×List Value->Shared->Prop}(X:K.In s.heap)(I:ObjM s.heap x dx C mA)(hg:PySem.W.plainGet K C name=true)(hf:PySem.W.findIn K (.ref C) name=some (some (.ref f)))(ht:PySem.W.isFn K (.ref f)=true)(hv:mA name=none)(h:Q (.ref f,[.ref x]) s):
  wpAny (model prog w) A (getMethod (.ref x) name pl) Q E s:=by
 obtain⟨od,J,hl⟩:=I.look
 exact PySem.W.method_fn X J (Iv hg).1 (Iv hg).2 hf (beq_iff_eq.mp ht) (by show(PySem.W.lookIn name od).map (·.isSome)=some false;rw[hl,hv];rfl) h
theorem set_map{ns:List Str}{Q:Unit->Shared->Prop}(X:K.In s.heap)(I:ObjM s.heap x dx C mA)(hs:PySem.W.findIn K (.ref C) "__setattr__"=some (some (.builtin "object.__setattr__")))(hp:PySem.W.plainOver K C=true)(ht:PySem.W.takerIn K C name=some none)(hh:PySem.W.hasDictIn K C=true)(hw:PySem.Within mA ns)(hsz:ns.length<=sizeLine)(h:∀h',ObjM h' x dx C (fun y=>if y=name then some v else mA y)->Heap.SameBut dx s.heap h'->Q () {s with heap:=h',toks:=s.toks+2}):
  wpAny (model prog w) A (setAttr (.ref x) name v) Q E s:=by
 obtain⟨od,J,hl⟩:=I.look
 refine PySem.W.set_plain X J hs (PySem.W.osa_open (s:={s with toks:=s.toks+1}) (r:=none) X J hp ht fun b=> ?_)
 obtain⟨cd,hc,hd'⟩:=PySem.W.any_some hh
 have hx:s.heap.get? x=some ⟨.ref C,some dx,.plain,#[]⟩:=I.obj
 refine aR (cA (aR (aR (wpAny_loadPart hx (aR (PySem.W.Looks.here (s:={s with toks:=s.toks+1}) (PySem.W.looks_clsIn X hc) ?_))))))
 rw[hd']
 refine cA (a:=some dx) (aR (cA (aR ?_)))
 refine wpAny_nsSet1 (s:={s with toks:=s.toks+1}) I.ns fun h' hn2 hs2=> ?_
 obtain⟨oD,esD,epD,hoD,hdD,hcD⟩:=hn2.count (PySem.Within.cons name v hw)
 refine aR (wpAny_lookBehind hoD (by rw[hdD];exact pastItsLine_dict (cP hcD (by rw[mX];omega))) ?_)
 exact cA (h _ ⟨(hs2.2 _ (oM I.ne)).trans I.obj,hn2,I.ne⟩ hs2)
theorem make_map{R:Result->Shared->Prop}{vs:List Value}{kw:List (Str×Value)}(X:K.In s.heap)(hm:PySem.W.makesIn K C=true)(hi:PySem.W.findIn K (.ref C) "__init__"=some (some (.ref f)))(hf:PySem.W.typeIn K (.ref f)=some (.type "function"))(h:codeAny (model prog w) (A.under (.builtin "type.__call__" ⟨.ref C::vs,kw⟩)) (.call (.ref f) ⟨.ref (s.heap.objs.size+1)::vs,kw⟩) (PySem.W.InitBack (s.heap.objs.size+1) R)
   {s with heap:=(s.heap.push PySem.W.emptyDict).push (PySem.W.instObj C s.heap.objs.size)}):
  codeAny (model prog w) A (.call (.ref C) ⟨vs,kw⟩) R s:=by
 obtain⟨hh,g,d,t,os⟩:=s
 exact PySem.W.make_core (PySem.W.makes_of X hm) (PySem.W.looks_findIn X hi) (fun self=>PySem.W.bind_fn X self hf) (.inl rfl) h
end
def putF(f:Str)(v:V):List (Str×V)->List (Str×V)
 |[]=>[(f,v)]
 |(g,x)::r=>if g=f then(g,v)::r else(g,x)::putF f v r
theorem lookup_putF(f g:Str)(v:V):∀fs:List (Str×V),(putF f v fs).lookup g=if g=f then some v else fs.lookup g
 |[]=>by
  show List.lookup g [(f,v)]=_
  by_cases h:g=f
  ·have hb:(g==f)=true:=beq_iff_eq.mpr h
   simp only[List.lookup,hb,aN h]
  ·have hb:(g==f)=false:=beq_eq_false_iff_ne.mpr h
   simp only[List.lookup,hb,aP h]
 |(k,x)::r=>by
  have ih:=lookup_putF f g v r
  rw[show putF f v ((k,x)::r)=(if k=f then(k,v)::r else(k,x)::putF f v r)from rfl]
  by_cases hk:k=f
  ·rw[aN hk]
   by_cases h:g=k
   ·have hb:(g==k)=true:=beq_iff_eq.mpr h
    simp only[List.lookup,hb,aN (h.trans hk)]
   ·have hb:(g==k)=false:=beq_eq_false_iff_ne.mpr h
    simp only[List.lookup,hb,aP (fun e:g=f=>h (e.trans hk.symm))]
  ·rw[aP hk]
   by_cases h:g=k
   ·have hb:(g==k)=true:=beq_iff_eq.mpr h
    simp only[List.lookup,hb,aP (fun e:g=f=>hk (h.symm.trans e))]
   ·have hb:(g==k)=false:=beq_eq_false_iff_ne.mpr h
    simp only[List.lookup,hb]
    exact ih
theorem keys_putF(f:Str)(v:V):∀fs:List (Str×V),f∈(putF f v fs).map (·.1)/\∀g,g∈fs.map (·.1)->g∈(putF f v fs).map (·.1)
 |[]=>⟨by simp[putF],fun g h=>by simp at h⟩
 |(k,x)::r=>by
  obtain⟨i1,i2⟩:=keys_putF f v r
  rw[show putF f v ((k,x)::r)=(if k=f then(k,v)::r else(k,x)::putF f v r)from rfl]
  by_cases hk:k=f
  ·rw[aN hk]
   subst hk
   exact⟨by simp,fun g h=>by simpa using h⟩
  ·rw[aP hk]
   refine⟨?_,fun g h=> ?_⟩
   ·rw[wB]
    exact eE _ i1
   ·rw[wB]at h⊢
    rcases fK.mp h with e|e
    ·exact fK.mpr (.inl e)
    ·exact eE _ (i2 g e)
theorem length_putF(f:Str)(v:V):∀fs:List (Str×V),(putF f v fs).length<=fs.length+1
 |[]=>by simp[putF]
 |(k,x)::r=>by
  have ih:=length_putF f v r
  rw[show putF f v ((k,x)::r)=(if k=f then(k,v)::r else(k,x)::putF f v r)from rfl]
  by_cases hk:k=f
  ·rw[aN hk,mX,mX];omega
  ·rw[aP hk,mX,mX];omega
theorem RelO.some_of{v:V}{o:Option Value}(r:RelO (some v) o):∃u,o=some u/\RelV v u:=by
 cases o with
 |none=>exact(show False from r).elim
 |some u=>exact⟨u,rfl,r⟩
theorem RelO.none_of{o:Option Value}(r:RelO none o):o=none:=by
 cases o with
 |none=>rfl
 |some u=>exact(show False from r).elim
theorem handed_of{v:V}{u:Value}(r:RelV v u):PySem.W.handedIn u=true:=by
 cases v with
 |non=>cases(show u=Value.none from r);rfl
 |bl b=>cases(show u=Value.bool b from r);rfl
 |int i=>obtain⟨t,e⟩:=(show∃t,u=Value.int i t from r);cases e;rfl
 |str x=>obtain⟨t,e⟩:=(show∃t,u=Value.str x t from r);cases e;rfl
 |byt b=>obtain⟨t,e⟩:=(show∃t,u=Value.bytes b t from r);cases e;rfl
 |flt b=>obtain⟨t,e⟩:=(show∃t,u=Value.float b t from r);cases e;rfl
 |ref a=>cases(show u=Value.ref a from r);rfl
 |ty n=>cases(show u=Value.type n from r);rfl
section
variable{P:Program}{w:World}{H H':Hp}{h h':Heap}{a C dx:Addr}{fs fs':List (Str×V)}
theorem ins_get(hok:HOk P w H h)(e:H a=some (.ins C dx fs)):∃mA,ObjM h a dx C mA/\(∀f,RelO (fs.lookup f) (mA f))/\PySem.Within mA (fs.map (·.1))/\fs.length<=1000/\H dx=some (.own a):=by
 obtain⟨d,z,ne,ob,mA,n,r,q⟩:=(show ObjOk P w H h a (.ins C dx fs)from hok a _ e)
 exact⟨mA,⟨ob,n,ne⟩,r,q,z,d⟩
end
structure Cls(K:W.Frag)(C:Addr):Prop where
 pg:PySem.W.plainGet K C Str.empty=true
 hd:PySem.W.hasDictIn K C=true
 po:PySem.W.plainOver K C=true
 sa:PySem.W.findIn K (.ref C) "__setattr__"=some (some (.builtin "object.__setattr__"))
theorem Cls.get{K:W.Frag}{C:Addr}(c:Cls K C)(f:Str):PySem.W.plainGet K C f=true:=c.pg
def NoAttr(K:W.Frag)(C:Addr)(f:Str):Prop:=PySem.W.findIn K (.ref C) f=some none
theorem NoAttr.taker{K:W.Frag}{C:Addr}{f:Str}(n:NoAttr K C f):PySem.W.takerIn K C f=some none:=by
 unfold PySem.W.takerIn
 rw[show PySem.W.findIn K (.ref C) f=some none from n]
 rfl
structure Meth(K:W.Frag)(C:Addr)(m:Str)(f:Addr):Prop where
 at_:PySem.W.findIn K (.ref C) m=some (some (.ref f))
 fn:PySem.W.isFn K (.ref f)=true
 kp:PySem.W.keepIn K (.ref f)=true
section
variable{X:Cx}{pins:List (Addr×Obj)}{σ:St}{H:Hp}{s:Shared}{a C dx:Addr}{fs:List (Str×V)}{f:Str}{v:V}{A:Around}{E:Value->Shared->Prop}
theorem getattr_ok{b:Bool}{Q:Value->Shared->Prop}(I:Inv X pins σ H s)(e:H a=some (.ins C dx fs))(c:Cls X.K C)(n:NoAttr X.K C f)(l:fs.lookup f=some v)(h:∀u s',Inv X pins σ H s'->RelV v u->Q u s'):wpAny (model X.prog X.w) A (getAttr (.ref a) f b) Q E s:=by
 obtain⟨mA,O,r,_,_,_⟩:=ins_get I.hok e
 obtain⟨u,hu,ru⟩:=RelO.some_of (v:=v) (o:=mA f) (by rw[<-l];exact r f)
 exact get_map I.kIn O (c.get f) c.hd n hu (handed_of ru) (h u _ (I.tok _) ru)
theorem getmeth_ok{m:Str}{g:Addr}{pl:Sem Bool}{Q:Value×List Value->Shared->Prop}(I:Inv X pins σ H s)(e:H a=some (.ins C dx fs))(c:Cls X.K C)(k:Meth X.K C m g)(l:fs.lookup m=none)(h:Q (.ref g,[.ref a]) s):wpAny (model X.prog X.w) A (getMethod (.ref a) m pl) Q E s:=by
 obtain⟨mA,O,r,_,_,_⟩:=ins_get I.hok e
 have hn:mA m=none:=RelO.none_of (by rw[<-l];exact r m)
 exact get_meth I.kIn O (c.get m) k.at_ k.fn hn h
theorem setattr_ok{y:V}{u:Value}{Q:Unit->Shared->Prop}(I:Inv X pins σ H s)(e:H a=some (.ins C dx fs))(c:Cls X.K C)(n:NoAttr X.K C f)(hl:fs.length<1000)(ry:RelV y u)(h:∀s',Inv X pins σ (upd H a (.ins C dx (putF f y fs))) s'->Q () s'):wpAny (model X.prog X.w) A (setAttr (.ref a) f u) Q E s:=by
 obtain⟨mA,O,r,wi,_,ho⟩:=ins_get I.hok e
 have hz:(fs.map (·.1)).length<=sizeLine:=by rw[aQ,eF];omega
 refine set_map I.kIn O c.sa c.po n.taker c.hd wi hz fun h' O' sb=>h _ ?_
 have hd:∃o,h'.get? dx=some o:=let⟨o,_,_,e',_⟩:=O'.ns;⟨o,e'⟩
 refine I.write (x:=a) (e:=dx) (by rw[e];exact True.intro) (.inr ho) (fun b q hb z=>(sb.2 b hb).trans z) hd ?_
 refine⟨by rw[dG O.ne];exact ho,?_,O.ne,O'.obj,_,O'.ns,fun g=> ?_,fun g hg=> ?_⟩
 ·have:=length_putF f y fs;omega
 ·show RelO ((putF f y fs).lookup g) (if g=f then some u else mA g)
  rw[lookup_putF]
  by_cases q:g=f
  ·rw[aN q,aN q];exact ry
  ·rw[aP q,aP q];exact r g
 ·by_cases q:g=f
  ·rw[q];exact(keys_putF f y fs).1
  ·refine(keys_putF f y fs).2 g (wi g fun z=>hg ?_)
   show(if g=f then some u else mA g)=none
   rw[aP q];exact z
theorem Inv.made(I:Inv X pins σ H s):Inv X pins σ (upd (upd H s.heap.objs.size (.own (s.heap.objs.size+1))) (s.heap.objs.size+1) (.ins C s.heap.objs.size []))
  {s with heap:=(s.heap.push PySem.W.emptyDict).push (PySem.W.instObj C s.heap.objs.size)}:=by
 have e1:(s.heap.push PySem.W.emptyDict).get? s.heap.objs.size=some PySem.W.emptyDict:=lq s.heap rfl
 have e2:((s.heap.push PySem.W.emptyDict).push (PySem.W.instObj C s.heap.objs.size)).get? (s.heap.objs.size+1)=some (PySem.W.instObj C s.heap.objs.size):=by
  have:=lq (s.heap.push PySem.W.emptyDict) (o:=PySem.W.instObj C s.heap.objs.size) rfl
  rwa [zJ]at this
 have e3:(s.heap.push PySem.W.emptyDict).Ns s.heap.objs.size (fun _=>none):=⟨PySem.W.emptyDict,#[],_,e1,rfl,(fun e he=>absurd he (by simp)),fun _=>rfl⟩
 have I1:=I.laid (a:=s.heap.objs.size) (o:= .own (s.heap.objs.size+1)) (h':=s.heap.push PySem.W.emptyDict) (t':=s.toks) (fun b u q=>fO _ q) (bD _) ⟨_,e1⟩
 refine I1.laid (a:=s.heap.objs.size+1) (o:= .ins C s.heap.objs.size []) (t':=s.toks) (fun b u q=>fO _ q) (qg (zJ _ _)) ?_
 have ne:s.heap.objs.size≠s.heap.objs.size+1:=cT (wO _)
 refine⟨by rw[dG ne,aL],eX _,ne,e2,fun _=>none,(Heap.Ns1.of_empty e3).at fun o q=>fO _ q,fun _=>True.intro,fun y hy=>absurd rfl hy⟩
theorem attr_of{prog:Program}{w:World}{env:Env}{e:Expr}{f:Str}{pos:Pos}{s:Shared}{Q:Value->Shared->Prop}(hb:attributeBase e f env (eval e env)=eval e env)(h:wpAny (model prog w) A (eval e env) (fun o s₁=>wpAny (model prog w) A (getAttr o f true) Q E s₁) E s):wpAny (model prog w) A (eval (.Attribute e f pos) env) Q E s:=
 Attribute_any_ h (by rw[arm_eval_Attribute,hb])
end
def tFld(K:W.Frag)(ta:TE)(f:Str):TE:=fun σ H Q=>ta σ H fun x H1=>∃a C dx fs v,x= .ref a/\H1 a=some (.ins C dx fs)/\Cls K C/\NoAttr K C f/\fs.lookup f=some v/\Q v H1
def sFld(K:W.Frag)(ta tv:TE)(f:Str):TS:=fun D σ H=>tv σ H fun y H1=>ta σ H1 fun x H2=>∃a C dx fs,x= .ref a/\H2 a=some (.ins C dx fs)/\Cls K C/\NoAttr K C f/\fs.length<1000/\
 D.nx σ (upd H2 a (.ins C dx (putF f y fs)))
section
variable{X:Cx}{o e value:Expr}{f:Str}{pos pos' tpos:Pos}{ta tv:TE}
theorem pe_fld(he:PE X e ta)(hb:attributeBase e f X.env (eval e X.env)=eval e X.env):PE X (.Attribute e f pos) (tFld X.K ta f):=by
 intro pins s σ H Q I h
 refine attr_of hb (thn (he pins s σ H _ I h) fun u s1 ⟨x,H1,I1,rx,a,C,dx,fs,v,ex,ea,c,n,l,q⟩=> ?_)
 subst ex
 obtain rfl:u=Value.ref a:=rx
 exact getattr_ok I1 ea c n l fun u' s2 I2 ru=>⟨v,H1,I2,ru,q⟩
theorem ps_fld(ha:PE X o ta)(hv:PE X value tv)(hs:swapsWith value (some (.Attribute o f pos')) pos.line X.env=pure false):PS X (.Assign [.Attribute o f pos'] value pos) (sFld X.K ta tv f):=by
 intro pins s σ H D I h
 refine plainObj_wpAny_Assign_Attribute (thn (hv pins s σ H _ I h) fun u s1 ⟨y,H1,I1,ry,q⟩=>thn (ha pins s1 σ H1 _ I1 q) fun ov s2 ⟨x,H2,I2,rx,a,C,dx,fs,ex,ea,c,n,l,q2⟩=> ?_) hs
 subst ex
 obtain rfl:ov=Value.ref a:=rx
 exact setattr_ok I2 ea c n l ry fun s3 I3=>⟨σ,_,I3,q2⟩
end
section
variable{X:Cx}{pins:List (Addr×Obj)}{σ:St}{H:Hp}{s:Shared}{A:Around}{E:Value->Shared->Prop}{Q:Value->Shared->Prop}{c:Value}{b:Bool}
end
structure Room(k:Nat)(A:Around):Prop where
 hd:A.handled=none
 dp:A.depth+3*k+5<recursionLimit
 un:A.units+16*k+200<cLine
 gd:A.guards=some []
theorem Room.mono{j k:Nat}{A:Around}(r:Room k A)(h:j<=k):Room j A:=⟨r.hd,by have:=r.dp;omega,by have:=r.un;omega,r.gd⟩
theorem Room.deeper{k:Nat}{A:Around}(r:Room (k+1) A)(env:Env):Room k (A.deeper env):=
 ⟨r.hd,by have:=r.dp;show A.depth+1+3*k+5<_;omega,by have:=r.un;show A.units+3+16*k+200<_;omega,r.gd⟩
theorem Room.in1{k:Nat}{A:Around}(r:Room (k+1) A):Room k A.in1:=
 ⟨r.hd,by have:=r.dp;show A.depth+3*k+5<_;omega,by have:=r.un;show A.units+1+16*k+200<_;omega,r.gd⟩
theorem make_depth{A:Around}{C:Addr}{us:List Value}{kw:List (Str×Value)}:(A.under (.builtin "type.__call__" ⟨.ref C::us,kw⟩)).depth=A.depth+1:=by
 first |rfl|simp[Around.under,Code.weight,Code.isCreation,Code.isGuard,Code.isCaller,Code.frames,Code.isFrame,guardIds]
theorem make_units{A:Around}{C:Addr}{us:List Value}{kw:List (Str×Value)}:(A.under (.builtin "type.__call__" ⟨.ref C::us,kw⟩)).units=A.units+1:=by
 first |rfl|simp[Around.under,Code.cUnits,Code.frames,Code.isFrame]
theorem Room.make{k:Nat}{A:Around}(r:Room (k+1) A)(C:Addr)(us:List Value)(kw:List (Str×Value)):Room k (A.under (.builtin "type.__call__" ⟨.ref C::us,kw⟩)):=
 ⟨r.hd,by have:=r.dp;rw[make_depth];omega,by have:=r.un;rw[make_units];omega,by
  have q:=r.gd
  first |exact q|(simp[Around.under,Code.isGuard,guardIds];exact q)|(unfold Around.under;simp[Code.isGuard,guardIds,q])⟩
theorem Room.depth{k:Nat}{A:Around}(r:Room k A):A.depth<recursionLimit:=by have:=r.dp;omega
theorem Room.units{k:Nat}{A:Around}(r:Room k A):A.units+64<cLine:=by have:=r.un;omega
theorem Room.units0{k:Nat}{A:Around}(r:Room k A):A.units<cLine:=by have:=r.un;omega
def tNil:TA:=fun _ H Q=>Q [] H
def tCons(ta:TE)(tr:TA):TA:=fun σ H Q=>ta σ H fun x H1=>tr σ H1 fun xs H2=>Q (x::xs) H2
section
variable{X:Cx}{e:Expr}{es:List Expr}{te:TE}{t:TA}{pos:Pos}
theorem aq:PA X [] tNil:=fun _ _ _ _ H Q I h=>Ij ⟨[],H,I,.nil,h⟩
theorem ak(ha:PE X e te)(hr:PA X es t)(hs:starEach (e::es) X.env=(false,eval e X.env)::starEach es X.env:=by rfl):PA X (e::es) (tCons te t):=by
 intro pos pins s σ H Q I h
 rw[hs]
 show wpAny _ _ (spliced ((false,eval e X.env)::backTo pos (starEach es X.env))) _ _ s
 refine Im (thn (ha pins s σ H _ I h) fun u s1 ⟨x,H1,I1,r1,q1⟩=> ?_)
 exact thn (hr pos pins s1 σ H1 _ I1 q1) fun us s2 ⟨xs,H2,I2,r2,q2⟩=>⟨x::xs,H2,I2,.cons r1 r2,q2⟩
def tTup(t:TA):TE:=fun σ H Q=>t σ H fun xs H1=>xs.length<=sizeLine/\∀p,H1 p=none->Q (.ref p) (upd H1 p (.tup xs))
def tLst(t:TA):TE:=fun σ H Q=>t σ H fun xs H1=>xs.length<=sizeLine/\∀p,H1 p=none->Q (.ref p) (upd H1 p (.lst xs))
theorem jM{x1}(h:PA X es t):PE X (.Tuple es x1 pos) (tTup t):=by
 intro pins s σ H Q I hq
 refine wpAny_Tuple_spliced (thn (h pos pins s σ H _ I hq) fun us s1 ⟨xs,H1,I1,r,z,q⟩=>⟨by rw[<-r.length];exact z,?_⟩)
 have hf:H1 s1.heap.objs.size=none:=I1.hok.fresh (bD _)
 refine⟨.ref s1.heap.objs.size,upd H1 s1.heap.objs.size (.tup xs),I1.laid (t':=s1.toks) (fun b u e=>fO _ e) (bD _) ?_,rfl,q _ hf⟩
 exact⟨z,us,r,⟨_,lq _ rfl,rfl,_,rfl⟩⟩
theorem pe_lst(h:PA X es t):PE X (.List es pos) (tLst t):=by
 intro pins s σ H Q I hq
 refine wpAny_List_spliced (thn (h pos pins s σ H _ I hq) fun us s1 ⟨xs,H1,I1,r,z,q⟩=>⟨by rw[<-r.length];exact z,?_⟩)
 have hf:H1 s1.heap.objs.size=none:=I1.hok.fresh (bD _)
 refine⟨.ref s1.heap.objs.size,upd H1 s1.heap.objs.size (.lst xs),I1.laid (t':=s1.toks) (fun b u e=>fO _ e) (bD _) ?_,rfl,q _ hf⟩
 exact⟨z,us,0,r,lq _ rfl⟩
end
abbrev Sp:=List V->Hp->VK->XK->Prop
abbrev CXT:=List Env->Hp->Shared->XK->Value->Shared->Prop
structure Env0(P:Program)(w:World)(K:W.Frag)(mg:Str->Option Value)(base:Heap)(A:Around)(outer:List Env)(s:Shared)(H:Hp):Prop where
 frames:A.frames=some outer
 mod:Mod K mg base
 bs:∀b o,base.get? b=some o->s.heap.get? b=some o/\H b=none
 bsz:base.objs.size<=s.heap.objs.size
 funs:s.heap.FunFrames base outer
 frf:∀b∈frs outer,H b=none
 hok:HOk P w H s.heap
 bare:AllBare s.gens
def CE(outer:List Env)(P:Program)(w:World)(H:Hp)(s:Shared)(Q:VK)(u:Value)(s':Shared):Prop:=
 ∃v H',s'.os=s.os/\AllBare s'.gens/\Un (frs outer) [] H H' s.heap s'.heap/\HOk P w H' s'.heap/\RelV v u/\Q v H'
def CR(CX:CXT)(outer:List Env)(P:Program)(w:World)(H:Hp)(s:Shared)(Q:VK)(E:XK)(r:Result)(s':Shared):Prop:=
 match r with
 | .ok (.ret u)=>CE outer P w H s Q u s'
 | .ok _=>False
 | .error e=>CX outer H s E e s'
structure FnOk(P:Program)(w:World)(K:W.Frag)(mg:Str->Option Value)(base:Heap)(CX:CXT)(k:Nat)(f:Addr)(fd:FuncData)(ps:List Str)(sp:Sp):Prop where
 len:∀vs H Q E,sp vs H Q E->vs.length=ps.length
 run:∀(A:Around) (outer:List Env) (s:Shared) (H:Hp) (args:Args) (us:List Value) (vs:List V) (Q:VK) (E:XK),Room k A->Env0 P w K mg base A outer s H->BindsTo s fd args (ps.zip us)->Vals vs us->sp vs H Q E->
  codeAny (model P w) A (.call (.ref f) args) (CR CX outer P w H s Q E) s
theorem FnOk.mono{P:Program}{w:World}{K:W.Frag}{mg:Str->Option Value}{base:Heap}{CX:CXT}{j k:Nat}{f:Addr}{fd:FuncData}{ps:List Str}{sp:Sp}(F:FnOk P w K mg base CX j f fd ps sp)(h:j<=k):
  FnOk P w K mg base CX k f fd ps sp:=⟨F.len,fun A outer s H args us vs Q E hr=>F.run A outer s H args us vs Q E (hr.mono h)⟩
theorem Env0.make{P:Program}{w:World}{K:W.Frag}{mg:Str->Option Value}{base:Heap}{A:Around}{outer:List Env}{s:Shared}{H:Hp}(e:Env0 P w K mg base A outer s H)(C:Addr)(us:List Value)(kw:List (Str×Value)):
  Env0 P w K mg base (A.under (.builtin "type.__call__" ⟨.ref C::us,kw⟩)) outer s H:=⟨by first |exact e.frames|(simpa[Around.under,Code.envs,Code.isFrame,pushEnvs]using e.frames),e.mod,e.bs,e.bsz,e.funs,e.frf,e.hok,e.bare⟩
theorem Env0.in1{P:Program}{w:World}{K:W.Frag}{mg:Str->Option Value}{base:Heap}{A:Around}{outer:List Env}{s:Shared}{H:Hp}(e:Env0 P w K mg base A outer s H):
  Env0 P w K mg base A.in1 outer s H:=⟨e.frames,e.mod,e.bs,e.bsz,e.funs,e.frf,e.hok,e.bare⟩
section
variable{X:Cx}{pins:List (Addr×Obj)}{σ:St}{H:Hp}{s s':Shared}
theorem Inv.env0(I:Inv X pins σ H s):Env0 X.prog X.w X.K X.mg X.base X.A X.stack s H:=
 ⟨I.ok.frames,I.ok.mod,I.bs,cP I.ok.bsz I.sz,I.stack,I.stkFree,I.hok,I.bare⟩
theorem Inv.after{Q:VK}{u:Value}(I:Inv X pins σ H s)(h:CE X.stack X.prog X.w H s Q u s'):EP X pins σ Q u s':=by
 obtain⟨v,H',os,bare,un,hok,r,q⟩:=h
 obtain⟨hh,g,d,t,os'⟩:=s'
 obtain rfl:os'=s.os:=os
 exact⟨v,H',I.call (h':=hh) (g':=g) (d':=d) (t':=t) (ch:=[]) un hok bare (fun b z=>absurd z (by simp)),r,q⟩
end
def tCall(sp:Sp)(dvs:List V)(E:XK)(t:TA):TE:=fun σ H Q=>t σ H fun vs H1=>sp (vs++dvs) H1 Q E
def tMeth(C:Addr)(m:Str)(sp:Sp)(dvs:List V)(E:XK)(ta:TE)(t:TA):TE:=fun σ H Q=>ta σ H fun x H1=>∃a dx fs,x= .ref a/\H1 a=some (.ins C dx fs)/\fs.lookup m=none/\
 t σ H1 fun vs H2=>sp (x::(vs++dvs)) H2 Q E
def tMake(C:Addr)(sp:Sp)(dvs:List V)(E:XK)(t:TA):TE:=fun σ H Q=>t σ H fun vs H1=>∀x dx,H1 x=none->H1 dx=none->dx≠x->
 sp (.ref x::(vs++dvs)) (upd (upd H1 dx (.own x)) x (.ins C dx [])) (fun v H2=>v= .non/\Q (.ref x) H2) E
def Binds(K:W.Frag)(fd:FuncData)(ps:List Str)(ds:List Value):Prop:=
 ∀(s:Shared) (us:List Value),K.In s.heap->(us++ds).length=ps.length->BindsTo s fd ⟨us,[]⟩ (ps.zip (us++ds))
theorem Binds.all{K:W.Frag}{fd:FuncData}{ps:List Str}(h:∀us:List Value,us.length=ps.length->bindArgs fd ⟨us,[]⟩=pure (ps.zip us)):Binds K fd ps []:=fun s us _ hl=>by
 rw[mW]at hl⊢
 exact .of_eq (h us hl)
def Passes(CX:CXT)(X:Cx)(E:XK):Prop:=∀(pins:List (Addr×Obj)) (σ:St) (H:Hp) (s:Shared) (e:Value) (s':Shared),Inv X pins σ H s->CX X.stack H s E e s'->X.xe e s'
section
variable{X:Cx}{CX:CXT}{k:Nat}{f C:Addr}{fd:FuncData}{ps:List Str}{sp:Sp}{dvs:List V}{ds:List Value}{E:XK}{x m:Str}{p pos apos:Pos}{e o:Expr}{es:List Expr}{ta:TE}{t:TA}
theorem run_fn{pins:List (Addr×Obj)}{σ:St}{H:Hp}{s:Shared}{Q:VK}{us:List Value}{vs:List V}(F:FnOk X.prog X.w X.K X.mg X.base CX k f fd ps sp)(hr:Room k X.A)(hb:Binds X.K fd ps ds)(hd:Vals dvs ds)(hx:Passes CX X E)
  (I:Inv X pins σ H s)(r:Vals vs us)(h:sp (vs++dvs) H Q E):wpAny (model X.prog X.w) X.A (call (.ref f) us) (EP X pins σ Q) X.xe s:=by
 have r2:Vals (vs++dvs) (us++ds):=r.append hd
 have hl:(us++ds).length=ps.length:=by rw[<-r2.length];exact F.len _ _ _ _ h
 refine wpAny_call (Cu (F.run X.A X.stack s H ⟨us,[]⟩ (us++ds) (vs++dvs) Q E hr I.env0 (hb s us I.kIn hl) r2 h) fun r s' hq=> ?_)
 cases r with
 |error e=>exact hx pins σ H s e s' I hq
 |ok fl=>
  cases fl with
  |ret u=>exact I.after hq
  |next=>exact False.elim hq
  |brk=>exact False.elim hq
  |cont=>exact False.elim hq
theorem pe_call(F:FnOk X.prog X.w X.K X.mg X.base CX k f fd ps sp)(hr:Room k X.A)(hg:Gl X x)(hm:X.mg x=some (.ref f))(hk:PySem.W.keepIn X.K (.ref f)=true)(hb:Binds X.K fd ps ds)(hd:Vals dvs ds)(hx:Passes CX X E)(ha:PA X (e::es) t)(hdb:(x==("__debug__":Str))=false:=by decide)(he:starEach (e::es) X.env=(false,eval e X.env)::starEach es X.env:=by rfl)(hpl:(backTo pos (starEach es X.env)).any (·.1)=false:=by rfl):
  PE X (.Call (.Name x p) (e::es) [] pos) (tCall sp dvs E t):=by
 intro pins s σ H Q I h
 refine zP (ld_glob I hg hm ?_ hdb)
 refine Il (h₀:=X.base) I.ok.mod.kin hk (thn (ha pos pins s σ H _ I h) fun us s1 ⟨vs,H1,I1,r,q⟩=>⟨I1.kIn,?_⟩) he hpl
 exact run_fn F hr hb hd hx I1 r q
theorem pe_meth{pl:Sem Bool}(he:PE X o ta)(c:Cls X.K C)(hm:Meth X.K C m f)(F:FnOk X.prog X.w X.K X.mg X.base CX k f fd ps sp)(hr:Room k X.A)(hb:Binds X.K fd ps ds)(hd:Vals dvs ds)(hx:Passes CX X E)(ha:PA X (e::es) t)(hst:starEach (e::es) X.env=(false,eval e X.env)::starEach es X.env:=by rfl)(hpl:(backTo pos (starEach es X.env)).any (·.1)=false:=by rfl)(ht:eval (.Call (.Attribute o m apos) (e::es) [] pos) X.env=(do
   let ov<-eval o X.env
   standAt apos.atName
   let(f,first)<-holding [ov] (getMethod ov m pl)
   callWith pos f first (backTo pos (starEach (e::es) X.env)) (backToKw pos (keywordEach [] X.env))):=by rfl):
  PE X (.Call (.Attribute o m apos) (e::es) [] pos) (tMeth C m sp dvs E ta t):=by
 intro pins s σ H Q I h
 refine PySem.W.methodCall_KW (pl:=pl) (thn (he pins s σ H _ I h) fun u s1 ⟨x,H1,I1,rx,a,dx,fs,ex,ea,l,q⟩=> ?_) ht
 subst ex
 obtain rfl:u=Value.ref a:=rx
 refine getmeth_ok I1 ea c hm l ?_
 refine Il (first:=[.ref a]) (h₀:=X.base) I.ok.mod.kin hm.kp (thn (ha pos pins s1 σ H1 _ I1 q) fun us s2 ⟨vs,H2,I2,r,q2⟩=>⟨I2.kIn,?_⟩) hst hpl
 exact run_fn (us:= .ref a::us) (vs:= .ref a::vs) F hr hb hd hx I2 (.cons rfl r) q2
structure Mk(K:W.Frag)(C f:Addr):Prop where
 makes:PySem.W.makesIn K C=true
 init:PySem.W.findIn K (.ref C) "__init__"=some (some (.ref f))
 fn:PySem.W.isFn K (.ref f)=true
 kp:PySem.W.keepIn K (.ref C)=true
theorem run_make{pins:List (Addr×Obj)}{σ:St}{H:Hp}{s:Shared}{Q:VK}{us:List Value}{vs:List V}(M:Mk X.K C f)(F:FnOk X.prog X.w X.K X.mg X.base CX k f fd ps sp)(hr:Room (k+1) X.A)(hb:Binds X.K fd ps ds)(hd:Vals dvs ds)(hx:Passes CX X E)(I:Inv X pins σ H s)(r:Vals vs us)(h:∀x dx,H x=none->H dx=none->dx≠x->sp (.ref x::(vs++dvs)) (upd (upd H dx (.own x)) x (.ins C dx [])) (fun v H2=>v= .non/\Q (.ref x) H2) E):
  wpAny (model X.prog X.w) X.A (call (.ref C) us) (EP X pins σ Q) X.xe s:=by
 have hq:=h (s.heap.objs.size+1) s.heap.objs.size (I.hok.fresh (Cr _)) (I.hok.fresh (bD _)) (cT (wO _))
 have I2:=Inv.made (C:=C) I
 have r2:Vals (V.ref (s.heap.objs.size+1)::(vs++dvs)) (Value.ref (s.heap.objs.size+1)::(us++ds)):= .cons rfl (r.append hd)
 have hl:(Value.ref (s.heap.objs.size+1)::us++ds).length=ps.length:=by
  have e:=r2.length
  rw[F.len _ _ _ _ hq]at e
  exact e.symm
 refine wpAny_call (make_map (f:=f) I.kIn M.makes M.init (beq_iff_eq.mp M.fn) (Cu (F.run _ X.stack _ _ ⟨Value.ref (s.heap.objs.size+1)::us,[]⟩ (Value.ref (s.heap.objs.size+1)::(us++ds)) _ _ E (hr.make C us [])
  (I2.env0.make C us []) (hb _ (Value.ref (s.heap.objs.size+1)::us) I2.kIn hl) r2 hq) fun r s' hq'=> ?_))
 cases r with
 |error e=>exact hx pins σ _ _ e s' I2 hq'
 |ok fl=>
  cases fl with
  |ret u=>
   obtain⟨v,H',I3,rv,ev,q3⟩:=I2.after hq'
   subst ev
   exact⟨rv,⟨V.ref (s.heap.objs.size+1),H',I3,rfl,q3⟩⟩
  |next=>exact False.elim hq'
  |brk=>exact False.elim hq'
  |cont=>exact False.elim hq'
theorem pe_make(M:Mk X.K C f)(F:FnOk X.prog X.w X.K X.mg X.base CX k f fd ps sp)(hr:Room (k+1) X.A)(hg:Gl X x)(hm:X.mg x=some (.ref C))(hb:Binds X.K fd ps ds)(hd:Vals dvs ds)(hx:Passes CX X E)(ha:PA X (e::es) t)(hdb:(x==("__debug__":Str))=false:=by decide)(he:starEach (e::es) X.env=(false,eval e X.env)::starEach es X.env:=by rfl)(hpl:(backTo pos (starEach es X.env)).any (·.1)=false:=by rfl):
  PE X (.Call (.Name x p) (e::es) [] pos) (tMake C sp dvs E t):=by
 intro pins s σ H Q I h
 refine zP (ld_glob I hg hm ?_ hdb)
 refine Il (h₀:=X.base) I.ok.mod.kin M.kp (thn (ha pos pins s σ H _ I h) fun us s1 ⟨vs,H1,I1,r,q⟩=>⟨I1.kIn,?_⟩) he hpl
 exact run_make M F hr hb hd hx I1 r q
end
section
variable{X:Cx}{CX:CXT}{k:Nat}{f C:Addr}{fd:FuncData}{ps ks:List Str}{sp:Sp}{E:XK}{x m:Str}{p pos apos kpos:Pos}{e o:Expr}{es:List Expr}{kws:List Keyword}{te ta:TE}{t tk:TA}{nm:Option Str}
variable{g:List Value->List Value->List Value}{gV:List V->List V->List V}
end
structure FnScope(N P:List Str)(sc:Scope):Prop where
 kind:sc.kind= .function
 co:sc.isCoroutine=false
 gen:sc.isGenerator=false
 nd:N.Nodup
 pre:N.take P.length=P
 par:∀x∈P,sc.names.lookup x=some .local\/sc.names.lookup x=some .cell
 nofree:∀y∈sc.names,y.2≠.free
theorem bindL_out{kindOf:Str->Option NameKind}{x:Str}:∀{binds:List (Str×Value)} {m:Str->Option Value},(∀v,(x,v)∉binds)->bindL kindOf binds m x=m x
 |[],_,_=>rfl
 |(n,v)::r,m,h=>by
  unfold bindL
  rw[bindL_out fun w hw=>h w (eE _ hw)]
  split
  ·have:x≠n:=by rintro rfl;exact h v cQ
   simp[this]
  ·rfl
theorem bindC_out{kindOf:Str->Option NameKind}{x:Str}:∀{binds:List (Str×Value)} {m:Str->Option Value},(∀v,(x,v)∉binds)->bindC kindOf binds m x=m x
 |[],_,_=>rfl
 |(n,v)::r,m,h=>by
  unfold bindC
  rw[bindC_out fun w hw=>h w (eE _ hw)]
  split
  ·rfl
  ·have:x≠n:=by rintro rfl;exact h v cQ
   simp[this]
theorem bindL_get{kindOf:Str->Option NameKind}{x:Str}{v:Value}:∀{P:List Str} {vs:List Value} {i:Nat} {m:Str->Option Value},P.Nodup->P[i]? =some x->vs[i]? =some v->kindOf x=some .local->
  bindL kindOf (P.zip vs) m x=some v
 |[],_,_,_,_,h,_,_=>by simp at h
 |_::_,[],_,_,_,_,h,_=>by simp at h
 |p::P,w::vs,0,m,nd,h1,h2,hk=>by
  simp at h1 h2;subst h1;subst h2
  show bindL kindOf ((p,w)::P.zip vs) m p=_
  unfold bindL
  rw[bindL_out fun v hv=>(zK.mp nd).1 (Ia hv).1,aN hk]
  simp
 |p::P,w::vs,i+1,m,nd,h1,h2,hk=>by
  show bindL kindOf ((p,w)::P.zip vs) m x=_
  unfold bindL
  exact bindL_get (i:=i) (zK.mp nd).2 (by simpa using h1) (by simpa using h2) hk
theorem bindC_get{kindOf:Str->Option NameKind}{x:Str}{v:Value}:∀{P:List Str} {vs:List Value} {i:Nat} {m:Str->Option Value},P.Nodup->P[i]? =some x->vs[i]? =some v->kindOf x≠some .local->
  bindC kindOf (P.zip vs) m x=some v
 |[],_,_,_,_,h,_,_=>by simp at h
 |_::_,[],_,_,_,_,h,_=>by simp at h
 |p::P,w::vs,0,m,nd,h1,h2,hk=>by
  simp at h1 h2;subst h1;subst h2
  show bindC kindOf ((p,w)::P.zip vs) m p=_
  unfold bindC
  rw[bindC_out fun v hv=>(zK.mp nd).1 (Ia hv).1,aP hk]
  simp
 |p::P,w::vs,i+1,m,nd,h1,h2,hk=>by
  show bindC kindOf ((p,w)::P.zip vs) m x=_
  unfold bindC
  exact bindC_get (i:=i) (zK.mp nd).2 (by simpa using h1) (by simpa using h2) hk
def start(N:List Str)(vs:List V):St:=vs.map some++List.replicate (N.length-vs.length) none
def cxOf(CX:CXT)(P:Program)(w:World)(K:W.Frag)(mg:Str->Option Value)(base:Heap)(N:List Str)(qual:Str)(scope:Scope)(f:Addr)(cd:Value)(A:Around)(outer:List Env)(s:Shared)(H:Hp)(E:XK):Cx where
 prog:=P
 w:=w
 K:=K
 mg:=mg
 base:=base
 A:=A.deeper (envOfC qual scope s.heap.objs.size f cd)
 N:=N
 s₀:=s
 H₀:=H
 env:=envOfC qual scope s.heap.objs.size f cd
 outer:=outer
 stack:=envOfC qual scope s.heap.objs.size f cd::outer
 ex:=[]
 calm:=true
 fn:=fun _=>true
 pn:=[]
 xe:=fun e s'=>wpAny (model P w) (A.deeper (envOfC qual scope s.heap.objs.size f cd)) (leaving (envOfC qual scope s.heap.objs.size f cd) e) (fun _ s''=>CX outer H s E e s'') (fun e' s''=>CX outer H s E e' s'') s'
theorem cell_has{sc:Scope}{n:Nat}{x:Str}(h:sc.names.lookup x=some .cell):∃c,(cellsFrom n sc.names []).lookup x=some c:=by
 have q:=KJ sc.names n [] (.inl h)
 exact Option.isSome_iff_exists.mp q
theorem inv_start{CX:CXT}{P:Program}{w:World}{K:W.Frag}{mg:Str->Option Value}{base:Heap}{N ps:List Str}{qual:Str}{scope:Scope}{f:Addr}{cd:Value}{A:Around}{outer:List Env}{s s1:Shared}{H:Hp}{E:XK}{us:List Value}{vs:List V}
  (S:FnScope N ps scope)(hd:A.handled=none)(e0:Env0 P w K mg base A outer s H)(hl:vs.length=ps.length)(r:Vals vs us)(x:InCallC s s.heap.objs.size (bindL (envOfC qual scope s.heap.objs.size f cd).kindOf (ps.zip us) fun _=>none) (cellsFrom (s.heap.objs.size+1) scope.names []) (bindC (envOfC qual scope s.heap.objs.size f cd).kindOf (ps.zip us) fun _=>none) s1):
  Inv (cxOf CX P w K mg base N qual scope f cd A outer s H E) [] (start N vs) H s1:=by
 have hpl:ps.length<=N.length:=by have:=was List.length S.pre;rw[zL]at this;omega
 obtain⟨h1,tk,rfl,hk⟩:=x.done
 have noA:∀b:Addr,b∉(cxOf CX P w K mg base N qual scope f cd A outer s H E).ex:=fun b z=>absurd (show b∈([]:List Addr)from z) (by simp)
 refine⟨⟨e0.mod,S.kind,rfl,rfl,bD _,fun y z c h1 h2=> ?_,fun y hy=> ?_,fun y c _ h=> ?_,fun _=>hd,Around.frames_deeper e0.frames,.inr ⟨rfl,rfl⟩,fun b z=>absurd z (noA b),e0.bs,e0.bsz,fun b _ _=>noA b,fun b z=>absurd z (noA b),e0.funs,e0.frf⟩,
  rfl,e0.bare,Un.kept hk,⟨_,x.toInCall.ns,fun i y v h1 h2 h3=> ?_⟩,fun y c h=>⟨_,x.cell y c h⟩,e0.hok.fresh (bD _),fun y c h=> ?_,fun p hp=>absurd (show p∈([]:List (Addr×Obj))from hp) (by simp),e0.hok.kept hk,?_⟩
 ·exact name_of_addr x.apart (um h1) (um h2)
 ·have hy:scope.names.lookup y=some .cell\/scope.names.lookup y=some .free:=hy
  rcases hy with hy|hy
  ·exact cell_has hy
  ·exact absurd rfl (S.nofree _ (um hy))
 ·exact uf (x.above y c (um h))
 ·have hi:i<vs.length:=by
   unfold start at h2
   by_cases hi:i<vs.length
   ·exact hi
   ·rw[Gz (by simpa using hi)]at h2
    rw[List.getElem?_replicate]at h2
    split at h2<;>cases h2
  have ha:vs[i]? =some v:=by
   unfold start at h2
   rw[HJ (by simpa using hi),dH]at h2
   cases e:vs[i]? with
   |none=>rw[e]at h2;cases h2
   |some a=>rw[e]at h2;cases h2;rfl
  obtain⟨u,hu,rv⟩:=r.get ha
  have hp:ps[i]? =some y:=by
   rw[<-S.pre,List.getElem?_take_of_lt (by omega)];exact h1
  have ndP:ps.Nodup:=by rw[<-S.pre];exact S.nd.sublist (List.take_sublist _ _)
  refine⟨u,rv,?_⟩
  rcases S.par y (tR hp)with k|k
  ·exact .inl ⟨k,bindL_get ndP hp hu k⟩
  ·obtain⟨c,e⟩:=cell_has (n:=s.heap.objs.size+1) k
   refine .inr ⟨.inl k,c,e,?_⟩
   have q:=x.cell y c e
   rw[bindC_get ndP hp hu (by show scope.names.lookup y≠_;rw[k];decide)]at q
   exact q
 ·exact e0.hok.fresh (uf (x.above y c (um h)))
 ·unfold start
  show _=N.length
  rw[gO,aQ,List.length_replicate]
  omega
theorem fn_of{CX:CXT}{P:Program}{w:World}{K:W.Frag}{mg:Str->Option Value}{base:Heap}{k:Nat}{f:Addr}{name qual:Str}{params:Arguments}{body:List Stmt}{scope:Scope}{dV kV doc pm cdv ct oc:Value}{an od:Option Addr}{osl:Array (Option Value)}{N ps:List Str}{sp:Sp}(lk:K.lookup f=some ⟨oc,od,.func (PySem.W.fnOf name qual params body scope dV kV doc pm an cdv ct),osl⟩)(hcd:PySem.W.codeIn K cdv qual=true)(S:FnScope N ps scope)(len:∀vs H Q E,sp vs H Q E->vs.length=ps.length)(hbody:∀(A:Around) (outer:List Env) (s:Shared) (H:Hp) (vs:List V) (Q:VK) (E:XK),Room k (A.deeper (envOfC qual scope s.heap.objs.size f cdv))->sp vs H Q E->
   ∃t,PSs (cxOf CX P w K mg base N qual scope f cdv A outer s H E) body t/\t {nx:=fun _ H'=>Q .non H',rt:=Q} (start N vs) H):
  FnOk P w K mg base CX (k+1) f (PySem.W.fnOf name qual params body scope dV kV doc pm an cdv ct) ps sp:=by
 refine⟨len,fun A outer s H args us vs Q E hr e0 hb r hsp=> ?_⟩
 have hl:=len _ _ _ _ hsp
 have KX:K.In s.heap:=e0.mod.kin.keeps fun b o e=>(e0.bs b o e).1
 have lim:s.heap.NoLimit:=e0.mod.nolimit.keeps fun b o e=>(e0.bs b o e).1
 have hkind:∀y∈ps.zip us,scope.names.lookup y.1=some .local\/(scope.names.lookup y.1=some .cell/\((cellsFrom (s.heap.objs.size+1) scope.names []).lookup y.1).isSome=true):=fun⟨n,v⟩ hy=>by
  rcases S.par n (Ia hy).1 with q|q
  ·exact .inl q
  ·exact .inr ⟨q,KJ _ _ _ (.inl q)⟩
 refine codeAny_call_function hr.depth (KX _ _ lk) rfl S.co S.gen rfl (PySem.W.codeRec_of KX hcd) (hb _ _ _ _ ?_)
 refine wpAny_newFunctionEnv_cells S.kind hkind fun env he s1 x=> ?_
 subst he
 refine⟨lim.keeps x.toInCall.keep,codeAny_func ?_⟩
 obtain⟨t,ht,hq⟩:=hbody A outer s H vs Q E (hr.deeper _) hsp
 have I:Inv (cxOf CX P w K mg base N qual scope f cdv A outer s H E) [] (start N vs) H s1:=inv_start S hr.hd e0 hl r x
 refine wC (ht [] s1 (start N vs) H _ I hq) (fun fl s' hs=> ?_) fun e s' hs=>hs
 have fin:∀{σ':St} {H':Hp} {v:V} {u:Value},Inv (cxOf CX P w K mg base N qual scope f cdv A outer s H E) [] σ' H' s'->RelV v u->Q v H'->CE outer P w H s Q u s':=
  fun{σ' H' v u} J rv q=>⟨v,H',J.os,J.bare,J.base,J.hok,rv,q⟩
 cases fl with
 |ret u=>
  obtain⟨v,σ',H',J,rv,q⟩:=hs
  exact fin J rv q
 |next=>
  obtain⟨σ',H',J,q⟩:=hs
  exact fin (v:=V.non) (u:=Value.none) J rfl q
 |brk=>
  obtain⟨_,_,_,q⟩:=hs
  exact False.elim q
 |cont=>
  obtain⟨_,_,_,q⟩:=hs
  exact False.elim q
section
variable{X:Cx}{x:Str}{p pos:Pos}{e:Expr}{es:List Expr}{t:TA}{id T:String}{r:List V->Hp->VK->Prop}
def tCB(r:List V->Hp->VK->Prop)(t:TA):TE:=fun σ H Q=>t σ H fun vs H1=>r vs H1 Q
theorem cG(hc:CallR X (.builtin id) r)(hg:Gl X x)(hm:X.mg x=none)(hv:bootBuiltins x=some (.builtin id))(ha:PA X (e::es) t)(hn:x≠"__name__":=by decide)(hdb:(x==("__debug__":Str))=false:=by decide)(he:starEach (e::es) X.env=(false,eval e X.env)::starEach es X.env:=by rfl)(hpl:(backTo pos (starEach es X.env)).any (·.1)=false:=by rfl):PE X (.Call (.Name x p) (e::es) [] pos) (tCB r t):=by
 intro pins s σ H Q I h
 refine zP (ld_blt I hg hm hv ?_ hn hdb)
 exact PyProof.Rows.callWith_builtin1 (thn (ha pos pins s σ H _ I h) fun us s1 ⟨vs,H1,I1,r1,q1⟩=>hc pins s1 σ H1 vs us Q I1 r1 q1) he hpl
theorem tZ(hc:CallR X (.type T) r)(hg:Gl X x)(hm:X.mg x=none)(hv:bootBuiltins x=some (.type T))(ha:PA X (e::es) t)(hn:x≠"__name__":=by decide)(hdb:(x==("__debug__":Str))=false:=by decide)(he:starEach (e::es) X.env=(false,eval e X.env)::starEach es X.env:=by rfl)(hpl:(backTo pos (starEach es X.env)).any (·.1)=false:=by rfl):PE X (.Call (.Name x p) (e::es) [] pos) (tCB r t):=by
 intro pins s σ H Q I h
 refine zP (ld_blt I hg hm hv ?_ hn hdb)
 exact zT (thn (ha pos pins s σ H _ I h) fun us s1 ⟨vs,H1,I1,r1,q1⟩=>hc pins s1 σ H1 vs us Q I1 r1 q1) he hpl
end
end L2
namespace HT
open PySem PyProof.Rows
def lexLt:List Int->List Int->Bool
 |[],[]=>false
 |[],_::_=>true
 |_::_,[]=>false
 |x::xs,y::ys=>if x=y then lexLt xs ys else decide (x<y)
theorem lexLt_cons(x y:Int)(xs ys:List Int):lexLt (x::xs) (y::ys)=if x=y then lexLt xs ys else decide (x<y):=rfl
theorem lexLt_nil_nil:lexLt [] []=false:=rfl
theorem lexLt_nil_cons(y:Int)(ys:List Int):lexLt [] (y::ys)=true:=rfl
theorem lexLt_cons_nil(x:Int)(xs:List Int):lexLt (x::xs) []=false:=rfl
theorem eqAt_int(A:Around)(s:Shared)(a:Int)(t:Tok)(c:Int)(u:Tok):∃e,SeqAt.EqAt A s (.int a t) (.int c u) e/\(e=true↔a=c):=
 ⟨(a==c),SeqAt.EqAt.int_int a t c u,by simp⟩
theorem rcLt_int(A:Around)(s:Shared)(a:Int)(t:Tok)(c:Int)(u:Tok)(prog:Program)(w:World)(E:Value->Shared->Prop)(Q:Value->Shared->Prop)(h:Q (.bool (decide (a<c))) s):
  wpAny (model prog w) A (richCompare .Lt (.int a t) (.int c u)) Q E s:=
 (PyProof.Rows.lt_int h:wpAny (model prog w) A (compareOp .Lt (.int a t) (.int c u)) Q E s)
section
open PySem.SeqAt
open PySem.AutoSeq1 (wpAny_loadPart')
open PySem.MeetsSeq PySem.MeetsSeq2 PySem.MeetsSeq3
theorem tuple_lt_ints(l b:Addr)(items items2:Array Value)(n n2:Nat)(dd dd2:Option Addr)(sl sl2:Array (Option Value))(ns ms:List Int)(hi:IntsAre items.toList ns)(hj:IntsAre items2.toList ms):
  Meets (Builtin.«tuple.__lt__» ⟨[.ref l,.ref b],[]⟩)
   (fun _ R s=>s.heap.get? l=some {cls:= .type "tuple",dict:=dd,data:= .seq items n,slots:=sl}/\s.heap.get? b=some {cls:= .type "tuple",dict:=dd2,data:= .seq items2 n2,slots:=sl2}/\
    R (.ok (.ret (.bool (lexLt ns ms)))) s):=
 .of_wp fun prog w A R s h=>by
  obtain⟨hp,g,d,tk,os⟩:=s;obtain⟨hl,hb,h⟩:=h
  have f2:=AutoSeq1.sub_tuple_tuple
  have z1:items.size=ns.length:=by rw[<-hi.length];simp
  have z2:items2.size=ms.length:=by rw[<-hj.length];simp
  wp_walk using wpAny_loadPart' hl,wpAny_loadPart' hb,Ii _ (fun rest b s'=>b.1=none/\s'=⟨hp,g,d,tk,os⟩/\∃(vs ws:List Value) (ns' ms':List Int),rest=vs.zip ws/\
   IntsAre vs ns'/\IntsAre ws ms'/\ns'.length+items2.size=ms'.length+items.size/\R (.ok (.ret (.bool (lexLt ns' ms')))) ⟨hp,g,d,tk,os⟩) _
  case turn=>
   rintro⟨y,x⟩ rest b s' ⟨hb',rfl,vs,ws,ns',ms',hz,hvi,hwi,hlen,hR⟩
   cases hvi with
   |nil=>rw[List.zip_nil_left]at hz;cases hz
   |cons a t hvi'=>
    cases hwi with
    |nil=>rw[List.zip_nil_right]at hz;cases hz
    |cons c u hwi'=>
     rw[Ik]at hz
     injection hz with hyx hrest
     injection hyx with hy hx
     subst hy hx
     rw[lexLt_cons]at hR
     simp only[mX]at hlen
     obtain⟨e,he,hiff⟩:=eqAt_int A.in1 ⟨hp,g,d,tk,os⟩ a t c u
     refine aR (he prog w _ _ ?_)
     cases e with
     |true=>
      rw[aN (hiff.mp rfl)]at hR
      wp_walk
      exact⟨rfl,rfl,_,_,_,_,hrest,hvi',hwi',by omega,hR⟩
     |false=>
      rw[aP (fun q=>absurd (hiff.mpr q) mK)]at hR
      have hri:=rcLt_int A.in1 ⟨hp,g,d,tk,os⟩ a t c u prog w
      wp_walk using hri
      exact⟨_,rfl,by simpa using hR⟩
  case fin=>
   rintro⟨b1,b2⟩ s' ⟨hb',rfl,vs,ws,ns',ms',hz,hvi,hwi,hlen,hR⟩
   simp only at hb'
   subst hb'
   have hv:lexLt ns' ms'=decide (items.size<items2.size):=by
    cases hvi with
    |nil=>
     cases hwi with
     |nil=>
      simp only[Cj]at hlen
      rw[lexLt_nil_nil]
      exact(fQ (by omega)).symm
     |cons c u hw=>
      simp only[Cj,mX]at hlen
      rw[lexLt_nil_cons]
      exact(cH (by omega)).symm
    |cons a t hv=>
     cases hwi with
     |nil=>
      simp only[Cj,mX]at hlen
      rw[lexLt_cons_nil]
      exact(fQ (by omega)).symm
     |cons c u hw=>
      rw[Ik]at hz
      cases hz
   rw[hv]at hR
   wp_walk
   exact⟨_,rfl,by simpa[Builtin.Tuple.tupleCompareSizes]using hR⟩
  case h=>
   exact⟨rfl,rfl,items.toList,items2.toList,ns,ms,rfl,hi,hj,by omega,h⟩
end
section
variable{prog:Program}{w:World}{A:Around}{E:Value->Shared->Prop}{s:Shared}
theorem lt_tupInts{l b:Addr}{items items2:Array Value}{ns ms:List Int}{Q:Value->Shared->Prop}(hl:IsTup s.heap l items)(hb:IsTup s.heap b items2)(hi:IntsAre items.toList ns)(hj:IntsAre items2.toList ms)(hu:A.units<cLine)(h:Q (.bool (lexLt ns ms)) s):wpAny (model prog w) A (compareOp .Lt (.ref l) (.ref b)) Q E s:=by
 obtain⟨⟨cls,dd,data,sl⟩,ho,hc,n,hd⟩:=id hl
 obtain⟨⟨cls2,dd2,data2,sl2⟩,ho2,hc2,n2,hd2⟩:=id hb
 simp only at hc hd hc2 hd2
 subst hc hd hc2 hd2
 exact richCompare_meets_room (op:= .Lt) ⟨_,ho,rfl⟩ ⟨_,ho2,rfl⟩ PySem.F.slot_tuple_lt PySem.F.entry_tuple_lt (PySem.F.args_tuple_lt_2 _ _) (tuple_lt_ints l b items items2 n n2 dd dd2 sl sl2 ns ms hi hj)
  ⟨ho,ho2,show Value.bool (lexLt ns ms)≠Value.notImplemented/\Q (.bool (lexLt ns ms)) s from⟨(fun x=>nomatch x),h⟩⟩ hu
theorem cat_tup{t b:Addr}{vs ws:List Value}{Q:Value->Shared->Prop}(ht:IsTup s.heap t vs.toArray)(hb:IsTup s.heap b ws.toArray)(hv:vs≠[])(h1:ws=[]->Q (.ref t) s)(h2:ws≠[]->Q (.ref s.heap.objs.size) {s with heap:=s.heap.push {cls:= .type "tuple",data:= .seq (vs++ws).toArray}})(hsz:vs.length+ws.length<=sizeLine):wpAny (model prog w) A (binaryOp .Add (.ref t) (.ref b)) Q E s:=by
 obtain⟨⟨cls,dd,data,sl⟩,ho,hc,n,hd⟩:=id ht
 obtain⟨⟨cls2,dd2,data2,sl2⟩,ho2,hc2,n2,hd2⟩:=id hb
 simp only at hc hd hc2 hd2
 subst hc hd hc2 hd2
 have e:vs.toArray++ws.toArray=(vs++ws).toArray:=by simp
 by_cases hw:ws=[]
 ·exact concat_meets ⟨_,ho,rfl⟩ ⟨_,ho2,rfl⟩ Ih seq_tuple_add I9 Ja (Jb _ _)
   (tuple_addW1 t b vs.toArray ws.toArray n n2 dd dd2 sl sl2 (by simpa using hv) (by simp[hw])) ⟨ho,ho2,h1 hw⟩
 ·refine concat_meets ⟨_,ho,rfl⟩ ⟨_,ho2,rfl⟩ Ih seq_tuple_add I9 Ja (Jb _ _)
   (tuple_addW2 t b vs.toArray ws.toArray n n2 dd dd2 sl sl2 (by simpa using hv) (by simpa using hw) (by rw[dI,dI];exact hsz)) ⟨ho,ho2,?_⟩
  rw[e]
  exact h2 hw
end
end HT
namespace L2
open PySem PySem.Spec PyProof.Rows
theorem intsAre_of{ns:List Int}:∀{us:List Value},Vals (ns.map V.int) us->IntsAre us ns:=by
 induction ns with
 |nil=>intro us r;rw[List.map_nil]at r;cases r;exact .nil
 |cons n ns ih=>
  intro us r
  rw[wB]at r
  cases r with
  |cons r1 r2=>
   obtain⟨t,e⟩:=r1
   subst e
   exact .cons n t (ih r2)
section
variable{X:Cx}{e:Expr}{te:TE}{lo hi:Option Expr}{tl th:TO}{pos p2:Pos}
def rLtT(K:W.Frag):R2:=fun x y H Q=>∃a b ns ms,x= .ref a/\y= .ref b/\SqT K H a (ns.map V.int)/\SqT K H b (ms.map V.int)/\Q (.bl (HT.lexLt ns ms)) H
theorem op_ltT(hu:X.A.units<cLine):OpR X (compareOp .Lt) (rLtT X.K):=by
 intro pins s σ H x y v u Q I rx ry h
 obtain⟨a,b,ns,ms,rfl,rfl,ha,hb,q⟩:=h
 cases rx
 cases ry
 obtain⟨its,r1,p1,_⟩:=I.tuple ha
 obtain⟨its2,r2,p2,_⟩:=I.tuple hb
 have i1:IntsAre its.toArray.toList ns:=intsAre_of r1
 have i2:IntsAre its2.toArray.toList ms:=intsAre_of r2
 exact HT.lt_tupInts p1 p2 i1 i2 hu ⟨.bl (HT.lexLt ns ms),H,I,rfl,q⟩
def rCatT(K:W.Frag):R2:=fun x y H Q=>∃a b xs ys,x= .ref a/\y= .ref b/\SqT K H a xs/\SqT K H b ys/\xs≠[]/\xs.length+ys.length<=sizeLine/\
 (ys=[]->Q (.ref a) H)/\(ys≠[]->∀p,H p=none->Q (.ref p) (upd H p (.tup (xs++ys))))
theorem Vals.nil_iff{xs:List V}{us:List Value}(r:Vals xs us):us=[]↔xs=[]:=by
 cases r with
 |nil=>simp
 |cons _ _=>simp
theorem op_catT:OpR X (binaryOp .Add) (rCatT X.K):=by
 intro pins s σ H x y v u Q I rx ry h
 obtain⟨a,b,xs,ys,rfl,rfl,ha,hb,hx,hz,q1,q2⟩:=h
 cases rx
 cases ry
 obtain⟨its,r1,p1,_⟩:=I.tuple ha
 obtain⟨its2,r2,p2,_⟩:=I.tuple hb
 refine HT.cat_tup p1 p2 (fun z=>hx (r1.nil_iff.mp z)) (fun z=>⟨.ref a,H,I,rfl,q1 (r2.nil_iff.mp z)⟩) (fun z=> ?_) (by rw[<-r1.length,<-r2.length];exact hz)
 refine⟨.ref s.heap.objs.size,_,I.laid (t':=s.toks) (o:= .tup (xs++ys)) (fun b ob q=>fO _ q) (bD _) ?_,rfl,q2 (fun w=>z (r2.nil_iff.mpr w)) _ (I.hok.fresh (bD _))⟩
 exact⟨by rw[gO];exact hz,_,r1.append r2,IsTup.new _ _⟩
end
def ixN(n:Nat)(i:Int):Option Nat:=if 0<=i then(if i<n then some i.toNat else none)else if -(n:Int)<=i then some (i+n).toNat else none
def atI{α:Type}(xs:List α)(i:Int):Option α:=(ixN xs.length i).bind fun j=>xs[j]?
theorem ixN_seq{n:Nat}{i:Int}{j:Nat}(h:ixN n i=some j):seqIndex? i n=some j/\j<n/\ -(n:Int)<=i/\i<n:=by
 unfold ixN at h
 by_cases h0:0<=i
 ·rw[aN h0]at h
  by_cases h1:i<n
  ·rw[aN h1]at h
   have e:i.toNat=j:=uh h
   exact⟨by rw[seqIndex_of h0 h1,e],by omega,by omega,h1⟩
  ·rw[aP h1]at h;cases h
 ·rw[aP h0]at h
  by_cases h1: -(n:Int)<=i
  ·rw[aN h1]at h
   have e:(i+n).toNat=j:=uh h
   exact⟨by rw[seqIndex_neg (by omega) h1,e],by omega,h1,by omega⟩
  ·rw[aP h1]at h;cases h
theorem atI_get{α:Type}{xs:List α}{i:Int}{v:α}(h:atI xs i=some v):∃j,seqIndex? i xs.length=some j/\xs[j]? =some v/\j<xs.length/\ -(xs.length:Int)<=i/\i<xs.length:=by
 unfold atI at h
 cases e:ixN xs.length i with
 |none=>rw[e]at h;cases h
 |some j=>
  rw[e]at h
  obtain⟨h1,h2,h3,h4⟩:=ixN_seq e
  exact⟨j,h1,h,h2,h3,h4⟩
theorem atI_nat{α:Type}{xs:List α}{j:Nat}{v:α}(h:xs[j]? =some v):atI xs (j:Int)=some v:=by
 have hj:j<xs.length:=(yP.mp h).1
 have e:ixN xs.length (j:Int)=some j:=by
  unfold ixN
  rw[aN (by omega),aN (by omega)];simp
 unfold atI;rw[e];exact h
def PlainIx(b:Expr):Prop:=∀o i,subscripted b false o i=operate [o,i] (getItem o i)
def IxR(X:Cx)(r:R2):Prop:=
 ∀(value slice:Expr) (pins:List (Addr×Obj)) (s:Shared) (σ:St) (H:Hp) (x y:V) (v u:Value) (Q:VK),Inv X pins σ H s->RelV x v->RelV y u->r x y H Q->
  subscripted slice false v u=operate [v,u] (getItem v u)->wpAny (model X.prog X.w) X.A (subscriptTail value slice v u) (EP X pins σ Q) X.xe s
def MtR(X:Cx)(id:String)(r:V->List V->Hp->VK->Prop):Prop:=
 ∀(pins:List (Addr×Obj)) (s:Shared) (σ:St) (H:Hp) (x:V) (xs:List V) (v:Value) (us:List Value) (Q:VK),Inv X pins σ H s->RelV x v->Vals xs us->r x xs H Q->
  wpAny (model X.prog X.w) X.A (call (.builtin id) (v::us)) (EP X pins σ Q) X.xe s
section
variable{X:Cx}{a b:Expr}{ta tb:TE}{pos:Pos}
theorem bR{r:R2}(hr:IxR X r)(ha:PE X a ta)(hb:PE X b tb)(hs:PlainIx b):PE X (.Subscript a b pos) (tOp r ta tb):=by
 intro pins s σ H Q I h
 exact Subscript_ (binT ha hb I h fun v u s2 x y H2 I2 rx ry q=>hr a b pins s2 σ H2 x y v u Q I2 rx ry q (hs _ _))
def rIxL(K:W.Frag):R2:=fun x y H Q=>∃p xs i v,x= .ref p/\y= .int i/\SqL K H p xs/\atI xs i=some v/\Q v H
def rIxT(K:W.Frag):R2:=fun x y H Q=>∃p xs i v,x= .ref p/\y= .int i/\SqT K H p xs/\atI xs i=some v/\Q v H
theorem qd:IxR X (rIxL X.K):=by
 intro value slice pins s σ H x y v u Q I rx ry h hs
 obtain⟨p,xs,i,z,rfl,rfl,hq,he,q⟩:=h
 cases rx
 obtain⟨t,rfl⟩:=ry
 obtain⟨its,r,pl,hz⟩:=I.list hq
 obtain⟨j,h1,h2,h3,h4,h5⟩:=atI_get he
 obtain⟨w,ew,rw'⟩:=r.get h2
 have hl:=r.length
 have hn:=line63
 have fin:EP X pins σ Q w s:=⟨z,H,I,rw',q⟩
 by_cases h0:0<=i
 ·have hj:i.toNat=j:=by
   rw[seqIndex_of h0 h5]at h1
   exact uh h1
  exact item_listR pl.isList h0 (by omega) (by rw[hj];simpa using ew) fin hs
 ·have hj:(i+(its.toArray.size:Int)).toNat=j:=by
   rw[seqIndex_neg (by omega) h4]at h1
   rw[dI,<-hl]
   exact uh h1
  exact subscriptTail_builtinR (x:=w) pl.isList.typeIs slot_list_getitem.lookup
   (wpAny_getItem_list_neg (Q:=fun r s'=>r=w/\EP X pins σ Q r s') pl.isList (by omega) (by rw[dI]<;>omega) (by omega) (by rw[hj];simpa using ew) ⟨rfl,fin⟩) hs
theorem dZ:IxR X (rIxT X.K):=by
 intro value slice pins s σ H x y v u Q I rx ry h hs
 obtain⟨p,xs,i,z,rfl,rfl,hq,he,q⟩:=h
 cases rx
 obtain⟨t,rfl⟩:=ry
 obtain⟨its,r,pl,hz⟩:=I.tuple hq
 obtain⟨j,h1,h2,h3,h4,h5⟩:=atI_get he
 obtain⟨w,ew,rw'⟩:=r.get h2
 have hl:=r.length
 have hn:=line63
 have fin:EP X pins σ Q w s:=⟨z,H,I,rw',q⟩
 exact subscriptTail_builtinR (x:=w) pl.typeIs slot_tuple_getitem.lookup
  (getItem_tuple (j:=j) (Q:=fun r s'=>r=w/\EP X pins σ Q r s') pl (by omega) (by omega) (by rw[dI,<-hl];exact h1) (by simpa using ew) ⟨rfl,fin⟩) hs
theorem mapSeq_set(its:List Value)(n j:Nat)(u:Value):Obj.mapSeq (·.setIfInBounds j u) {cls:= .type "list",data:= .seq its.toArray n}={cls:= .type "list",data:= .seq (its.set j u).toArray n}:=by
 simp[Obj.mapSeq]
theorem Inv.lst{pins:List (Addr×Obj)}{σ:St}{H:Hp}{s:Shared}{p:Addr}{xs:List V}(I:Inv X pins σ H s)(h:H p=some (.lst xs)):
  ∃(its:List Value) (n:Nat),Vals xs its/\s.heap.get? p=some {cls:= .type "list",data:= .seq its.toArray n}/\xs.length<=sizeLine:=by
 obtain⟨z,its,n,r,e⟩:=I.hok p _ h
 exact⟨its,n,r,e,z⟩
theorem Inv.lstUpd{pins:List (Addr×Obj)}{σ:St}{H:Hp}{s:Shared}{p:Addr}{xs ys:List V}{its its':List Value}{n n':Nat}{f:Obj->Obj}(I:Inv X pins σ H s)(h:H p=some (.lst xs))(ho:s.heap.get? p=some {cls:= .type "list",data:= .seq its.toArray n})(hf:f {cls:= .type "list",data:= .seq its.toArray n}={cls:= .type "list",data:= .seq its'.toArray n'})(r:Vals ys its')(hz:ys.length<=sizeLine)(t:Nat):
  Inv X pins σ (upd H p (.lst ys)) {s with heap:=s.heap.update p f,toks:=t}:=by
 have e:(s.heap.update p f).get? p=some {cls:= .type "list",data:= .seq its'.toArray n'}:=by
  rw[Heap.get?_update_self f ho (by rw[hf]<;>rfl),hf]
 refine I.write (x:=p) (e:=p) (by rw[h];trivial) (.inl rfl) (fun b u hb q=>(IW _ _ (oM hb)).trans q) ⟨_,e⟩ ?_
 exact⟨hz,its',n',r,e⟩
def rSetL:V->V->V->Hp->(Hp->Prop)->Prop:=fun o i v H Q=>∃p xs k j,o= .ref p/\i= .int k/\H p=some (.lst xs)/\ixN xs.length k=some j/\Q (upd H p (.lst (xs.set j v)))
theorem set_list:PSet X rSetL:=by
 intro pins s σ H o i v ov iv u Q I ro ri rv h
 obtain⟨p,xs,k,j,rfl,rfl,hp,hj,q⟩:=h
 cases ro
 obtain⟨t,rfl⟩:=ri
 obtain⟨its,n,r,ho,hz⟩:=I.lst hp
 obtain⟨h1,h2,h3,h4⟩:=ixN_seq hj
 have hl:=r.length
 have hn:=line63
 have I':Inv X pins σ (upd H p (.lst (xs.set j v))) {s with heap:=s.heap.update p (Obj.mapSeq (·.setIfInBounds j u))}:=
  I.lstUpd hp ho (mapSeq_set its n j u) (r.set rv j) (by rw[List.length_set];exact hz) s.toks
 by_cases h0:0<=k
 ·have hk:k.toNat=j:=by
   rw[seqIndex_of h0 h4]at h1
   exact uh h1
  exact PySem.W.ki_setAt ho h0 (by omega) (by rw[dI,<-hl];exact h4) (by rw[hk];exact⟨_,I',q⟩)
 ·have hk:(k+(its.toArray.size:Int)).toNat=j:=by
   rw[seqIndex_neg (by omega) h3]at h1
   rw[dI,<-hl]
   exact uh h1
  exact PySem.W.ki_setBack ho (by omega) (by rw[dI,<-hl];exact h3) (by omega) (by rw[hk];exact⟨_,I',q⟩)
theorem call_len_seq:CallR X (.builtin "len") (fun xs H Q=>∃p ys,xs=[.ref p]/\(SqL X.K H p ys\/SqT X.K H p ys)/\Q (.int ys.length) H):=by
 intro pins s σ H xs us Q I r h
 obtain⟨p,ys,rfl,hq,q⟩:=h
 obtain⟨u,rfl,rx⟩:=vals1 r
 cases rx
 have hn:=line63
 rcases hq with hq|hq
 ·obtain⟨its,r',pl,hz⟩:=I.list hq
  have hlen:=r'.length
  exact Calls.call_len_list pl.isList (by simp only[dI]<;>omega) ⟨.int ys.length,H,I.tok _,⟨s.toks+1,by rw[dI,hlen]⟩,q⟩
 ·obtain⟨its,r',pl,hz⟩:=I.tuple hq
  have hlen:=r'.length
  exact len_tuple pl (by simp only[dI]<;>omega) ⟨.int ys.length,H,I.tok _,⟨s.toks+1,by rw[dI,hlen]⟩,q⟩
theorem uc:CallR X (.type "tuple") (fun xs H Q=>∃p ys,xs=[.ref p]/\((SqL X.K H p ys/\∀l,H l=none->Q (.ref l) (upd H l (.tup ys)))\/(SqT X.K H p ys/\Q (.ref p) H))):=by
 intro pins s σ H xs us Q I r h
 obtain⟨p,ys,rfl,h⟩:=h
 obtain⟨u,rfl,rx⟩:=vals1 r
 cases rx
 rcases h with⟨hq,q⟩|⟨hq,q⟩
 ·obtain⟨its,r',pl,hz⟩:=I.list hq
  have hlen:=r'.length
  refine call_tuple_list pl.isList (fun h' kp=> ?_) (by simp only[dI]<;>omega)
  have I1:Inv X pins σ H {s with heap:=h'}:=I.kept (t':=s.toks) kp
  have I2:Inv X pins σ (upd H h'.objs.size (.tup ys)) {s with heap:=h'.push {cls:= .type "tuple",data:= .seq its.toArray}}:=
   I1.laid (t':=s.toks) (fun b o e=>fO _ e) (bD _) (show ObjOk X.prog X.w _ _ _ (.tup ys)from⟨hz,its,r',IsTup.new _ _⟩)
  exact⟨.ref h'.objs.size,_,I2,rfl,q _ (I1.hok.fresh (bD _))⟩
 ·obtain⟨its,r',pl,hz⟩:=I.tuple hq
  exact call_tuple_same pl ⟨.ref p,H,I,rfl,q⟩
def tyV(K:W.Frag)(T:String)(x:V)(H:Hp):Prop:=match x with
 | .str _=>T="str"
 | .int _=>T="int"
 | .ref p=>(T="list"/\∃xs,SqL K H p xs)\/(T="tuple"/\∃o,K.lookup p=some o/\o.cls= .type "tuple"/\o.dict=none)\/
   (T="dict"/\((∃kvs,H p=some (.dK kvs))\/∃kvs,H p=some (.dT kvs)))\/(T="set"/\∃S n,H p=some (.set S n))
 |_=>False
theorem tyV_is{pins:List (Addr×Obj)}{σ:St}{H:Hp}{s:Shared}{T:String}{x:V}{v:Value}(I:Inv X pins σ H s)(r:RelV x v)(ty:tyV X.K T x H):
  s.TypeIs v T/\∀a,v= .ref a->∃ob,s.heap.get? a=some ob/\ob.dict=none:=by
 cases x with
 |str z=>
  obtain⟨t,rfl⟩:=r
  cases(show T="str" from ty)
  exact⟨typeIs_str s z t,fun _ e=>nomatch e⟩
 |int i=>
  obtain⟨t,rfl⟩:=r
  cases(show T="int" from ty)
  exact⟨typeIs_int s i t,fun _ e=>nomatch e⟩
 |ref p=>
  cases r
  rcases ty with⟨rfl,xs,hq⟩|⟨rfl,o,hk,hc,hd⟩|⟨rfl,hk⟩|⟨rfl,S,n,hk⟩
  ·obtain⟨its,_,pl,_⟩:=I.list hq
   refine⟨pl.isList.typeIs,fun a e=> ?_⟩
   cases e
   obtain⟨o,n,e,c,hd,_⟩:=pl
   exact⟨o,e,hd⟩
  ·refine⟨⟨o,I.kIn p o hk,hc⟩,fun a e=> ?_⟩
   cases e
   exact⟨o,I.kIn _ o hk,hd⟩
  ·have z:∃o,s.heap.get? p=some o/\o.ExactDict:=by
    rcases hk with⟨kvs,hk⟩|⟨kvs,hk⟩
    ·obtain⟨_,_,_,_,o,_,_,e,ex,_⟩:=I.hok p _ hk
     exact⟨o,e,ex⟩
    ·obtain⟨_,_,_,_,o,_,_,e,ex,_⟩:=I.hok p _ hk
     exact⟨o,e,ex⟩
   obtain⟨o,e,ex⟩:=z
   refine⟨⟨o,e,ex.1⟩,fun a e2=> ?_⟩
   cases e2
   exact⟨o,e,ex.2.1⟩
  ·obtain⟨o,_,_,_,e,ex,_⟩:=I.hok p _ hk
   refine⟨⟨o,e,ex.1⟩,fun a e2=> ?_⟩
   cases e2
   exact⟨o,e,ex.2.1⟩
 |_=>exact False.elim ty
def tBM(K:W.Frag)(T:String)(r:V->List V->Hp->VK->Prop)(to:TE)(t:TA):TE:=fun σ H Q=>to σ H fun x H1=>tyV K T x H1/\t σ H1 fun xs H2=>r x xs H2 Q
variable{o e:Expr}{es:List Expr}{to:TE}{t:TA}{name:Str}{apos cpos:Pos}{T id:String}{r:V->List V->Hp->VK->Prop}
theorem pe_bm(pa:PlainAttrs T)(slot:Slot T name id)(hty:typeOf (.builtin id)=pure (.type "method_descriptor"))(hm:MtR X id r)(ho:PE X o to)(ha:PA X (e::es) t)(hbase:attributeBase o name X.env (eval o X.env)=eval o X.env:=by rfl)(hfew:((backTo cpos (starEach (e::es) X.env)).all (fun x=> !x.1)&&(backToKw cpos (keywordEach [] X.env)).all (fun x=>x.1.isSome)
   &&decide ((e::es).length+([]:List Keyword).length+(if([]:List Keyword).isEmpty then 0 else 1)<30))=true:=by rfl)(hline:(apos.endLine==cpos.line)=true:=by rfl)(hs:starEach (e::es) X.env=(false,eval e X.env)::starEach es X.env:=by rfl)(hplain:(backTo cpos (starEach es X.env)).any (·.1)=false:=by rfl):
  PE X (.Call (.Attribute o name apos) (e::es) [] cpos) (tBM X.K T r to t):=by
 intro pins s σ H Q I h
 refine wpAny_Call_method_late hbase hfew hline rfl (thn (ho pins s σ H _ I h) fun v s1 ⟨x,H1,I1,r1,ty,q1⟩=> ?_)
 obtain⟨h1,h2⟩:=tyV_is I1 r1 ty
 refine⟨T,id,pa,slot,hty,h1,h2,?_⟩
 have hA:=ha cpos pins s1 σ H1 _ I1 q1
 rw[hs]at hA⊢
 refine Calls.callWith_builtin (by show(false||(backTo cpos (starEach es X.env)).any (·.1))=false;rw[hplain]<;>rfl) (Calls.evalArgs_plain ?_)
 exact thn hA fun us s2 ⟨vs,H2,I2,r2,q2⟩=>hm pins s2 σ H2 x vs v us Q I2 r1 r2 q2
end
def MtM(X:Cx)(id:String)(r:V->List V->Hp->VK->Prop):Prop:=
 ∀(pins:List (Addr×Obj)) (s:Shared) (σ:St) (H:Hp) (x:V) (xs:List V) (v:Value) (us:List Value) (Q:VK),Inv X pins σ H s->RelV x v->Vals xs us->r x xs H Q->
  wpAny (model X.prog X.w) X.A (call (.builtin id) (v::us)) (EP X pins σ Q) X.xe s
theorem Vals.one{x:V}{us:List Value}(h:Vals [x] us):∃u,us=[u]/\RelV x u:=by
 cases h with
 |cons r h=>cases h;exact⟨_,rfl,r⟩
theorem Vals.two{x y:V}{us:List Value}(h:Vals [x,y] us):∃u v,us=[u,v]/\RelV x u/\RelV y v:=by
 cases h with
 |cons r h=>obtain⟨v,rfl,q⟩:=Vals.one h;exact⟨_,_,rfl,r,q⟩
section
variable{X:Cx}{pins:List (Addr×Obj)}{σ:St}{H:Hp}{s:Shared}{l b:Addr}{xs ys zs:List V}
theorem Inv.lset{its its':List Value}{n:Nat}{f:Array Value->Array Value}{t':Nat}(I:Inv X pins σ H s)(hH:H l=some (.lst xs))(e:s.heap.get? l=some {cls:= .type "list",data:= .seq its.toArray n})(hf:f its.toArray=its'.toArray)(hv:Vals ys its')(hz:ys.length<=sizeLine):
  Inv X pins σ (upd H l (.lst ys)) {s with heap:=s.heap.update l (Obj.mapSeq f),toks:=t'}:=by
 have q:=PySem.IsL.update e f
 rw[hf]at q
 refine I.write (x:=l) (e:=l) (by rw[hH];exact trivial) (.inl rfl) (fun b' u hb hu=>(IW s.heap (Obj.mapSeq f) (oM hb)).trans hu) ⟨_,q⟩ ?_
 exact⟨hz,its',_,hv,q⟩
theorem Inv.lnew{its:List Value}{t':Nat}(I:Inv X pins σ H s)(hv:Vals ys its)(hz:ys.length<=sizeLine):
  Inv X pins σ (upd H s.heap.objs.size (.lst ys)) {s with heap:=s.heap.push {cls:= .type "list",data:= .seq its.toArray},toks:=t'}:=
 I.laid (fun _ _ q=>fO _ q) (bD _) ⟨hz,its,0,hv,lq _ rfl⟩
theorem Inv.fresh(I:Inv X pins σ H s):H s.heap.objs.size=none:=I.hok.fresh (bD _)
theorem Inv.lstM(I:Inv X pins σ H s)(hH:H l=some (.lst xs)):xs.length<=sizeLine/\∃(its:List Value) (n:Nat),Vals xs its/\xs.length=its.length/\s.heap.get? l=some {cls:= .type "list",data:= .seq its.toArray n}:=by
 obtain⟨z,its,n,r,e⟩:=I.hok l _ hH
 exact⟨z,its,n,r,r.length,e⟩
theorem notLongL{n:Nat}(h:n<=sizeLine):Builtin.List.listTooLong n=false:=by
 unfold Builtin.List.listTooLong
 exact fQ (by omega)
end
section
variable{X:Cx}
def rAppend:V->List V->Hp->VK->Prop:=fun x vs H Q=>∃l xs y,x= .ref l/\vs=[y]/\H l=some (.lst xs)/\xs.length<sizeLine/\Q .non (upd H l (.lst (xs++[y])))
theorem BL:MtM X "list.append" rAppend:=by
 intro pins s σ H x vs v us Q I rx rv h
 obtain⟨l,xs,y,rfl,rfl,hH,hz,q⟩:=h
 cases rx
 obtain⟨u,rfl,ru⟩:=rv.one
 obtain⟨z,its,n,r,hl,e⟩:=I.lstM hH
 refine call_meets F.slot_list_append ⟨_,e,rfl⟩ F.entry_list_append (F.args_list_append_2 _ _) (PySem.list_append l its.toArray n u (by rw[dI];omega)) ⟨e,?_⟩
 refine⟨.non,_,I.lset (its':=its++[u]) hH e (by simp) (r.append (.cons ru .nil)) ?_,rfl,q⟩
 rw[gO,List.length_singleton]
 omega
def rExtend:V->List V->Hp->VK->Prop:=fun x vs H Q=>∃l b xs zs,x= .ref l/\vs=[.ref b]/\H l=some (.lst xs)/\H b=some (.lst zs)/\xs.length+zs.length<=sizeLine/\Q .non (upd H l (.lst (xs++zs)))
theorem mt_extend:MtM X "list.extend" rExtend:=by
 intro pins s σ H x vs v us Q I rx rv h
 obtain⟨l,b,xs,zs,rfl,rfl,hH,hB,hz,q⟩:=h
 cases rx
 obtain⟨u,rfl,ru⟩:=rv.one
 cases ru
 obtain⟨z,its,n,r,hl,e⟩:=I.lstM hH
 obtain⟨z2,its2,n2,r2,hl2,e2⟩:=I.lstM hB
 have hsz:its.toArray.size+its2.toArray.size<=sizeLine:=by rw[dI,dI];omega
 have hlong:¬(!its.toArray.isEmpty&&Builtin.List.listTooLong (its.toArray.size+its2.toArray.size))=true:=by
  rw[notLongL hsz,Bool.and_false]
  exact mK
 refine call_meets F.slot_list_extend ⟨_,e,rfl⟩ F.entry_list_extend (F.args_list_extend_2 _ _)
  (AutoSeq1.list_extend_list_list_0 l its.toArray n b its2.toArray n2 hlong (by rw[dI];omega) (by omega)) ⟨e,e2,?_⟩
 refine⟨.non,_,I.lset (its':=its++its2) hH e (by simp) (r.append r2) ?_,rfl,q⟩
 rw[gO]
 omega
def rCat:R2:=fun x y H Q=>∃l b xs zs,x= .ref l/\y= .ref b/\H l=some (.lst xs)/\H b=some (.lst zs)/\xs.length+zs.length<=sizeLine/\∀p,H p=none->Q (.ref p) (upd H p (.lst (xs++zs)))
theorem op_cat:OpR X (binaryOp .Add) rCat:=by
 intro pins s σ H x y v u Q I rx ry h
 obtain⟨l,b,xs,zs,rfl,rfl,hH,hB,hz,q⟩:=h
 cases rx
 cases ry
 obtain⟨z,its,n,r,hl,e⟩:=I.lstM hH
 obtain⟨z2,its2,n2,r2,hl2,e2⟩:=I.lstM hB
 refine PySem.P.add_list e e2 ?_ (by rw[dI,dI];omega)
 have ea:its.toArray++its2.toArray=(its++its2).toArray:=by simp
 rw[ea]
 exact⟨.ref _,_,I.lnew (t':=s.toks) (r.append r2) (by rw[gO];omega),rfl,q _ I.fresh⟩
end
section
variable{prog:Program}{w:World}{A:Around}{E:Value->Shared->Prop}{s:Shared}
end
section
variable{X:Cx}
end
end L2
namespace Att
open PySem PySem.W PySem.Calls PyProof.Rows
theorem ints_of_wellAll{P:Params}{h:Heap}:∀(ns:List Int) (vs:List Value),WellAll P h vs (ns.map WData.int)->IntsAre vs ns:=by
 intro ns
 induction ns with
 |nil=>
  intro vs w
  rw[List.map_nil]at w
  cases w
  exact .nil
 |cons n ns ih=>
  intro vs w
  rw[wB]at w
  cases w with
  |cons a b=>
   cases a
   exact .cons _ _ (ih _ b)
theorem script_of{l:OpenLaw}{n:Nat}(hn:l.most=some n){P:Params}{h:Heap}{args:List WData}{vals:List Value}(hpre:l.row.toRowW.claim.pre args=true)(hwl:WellAll P h vals args):
  ∃a vs ns,vals=[Value.ref a]/\args=[WData.list (ns.map WData.int)]/\h.get? a=some {cls:= .type "list",data:= .seq vs.toArray}/\IntsAre vs ns/\ns.length<=n:=by
 have hsh:WShape.hasAll [] args [.list .int]=true:=(pre_splitW hpre).1
 have hc:l.pre.holds [] {args:=args}=true:=(pre_splitW hpre).2
 obtain⟨d,r,rfl,h1,h2⟩:=hasAllW_cons hsh
 obtain rfl:=hasAllW_nil h2
 obtain⟨xs,rfl,h3⟩:=hasW_list h1
 obtain⟨ns,rfl⟩:=items_int h3
 have hlen:ns.length<=n:=by
  unfold OpenLaw.pre at hc
  have h4:(WTm.not (.lt (.lit (.int (n:Int))) (.len (.arg 0)))).holds [] {args:=[.list (ns.map .int)]}=true:=by
   have h4:=(holds_andW hc).1
   rw[hn]at h4
   exact h4
  have h5:=condW_of h4 (w_not (w_lt w_lit (w_len_list (w_arg rfl))))
  rw[aQ]at h5
  refine Nat.le_of_not_lt fun q=> ?_
  have q':(n:Int)<((ns.length:Nat):Int):=by omega
  first
   |(rw[cH q']at h5;exact absurd h5 (by decide))
   |(simp at h5;omega)
 cases hwl with
 |cons w1 w2=>
  cases w2
  cases w1 with
  |list ho hall=>exact⟨_,_,ns,rfl,rfl,ho,ints_of_wellAll ns _ hall,hlen⟩
theorem post_true(l:OpenLaw)(args:List WData):l.row.toRowW.claim.post args (.bool true) args=true:=
 postW_of (r:=l.row.toRowW) (X:=(true==true))
  (show WShape.has [] (.bool true) .bool=true by first |rfl|decide|simp[WShape.has,WShape.arms,WShape.armsAll])
  (show(WTm.eq .res (.lit (.bool true))).value [] {args:=args,res:=some (.bool true),after:=args}=some (.bool (true==true))from w_eq_bool (w_res rfl) w_lit) rfl
theorem attach_call{l:OpenLaw}{n:Nat}{q:Program}{loose:List Str}{XP:(Str->Option Value)->Heap->Prop}{YP:World->Heap->Prop}{d:DefRec}(hn:l.most=some n)(hdf:d.params.defaults=[])(call:∀(w:World) (s₀ s₁:Shared) (mg mb:Str->Option Value) (fa:Addr) (o:Obj) (pm cd doc:Value) (a:Addr) (vs:List Value) (ns:List Int),
   Ground q loose [] XP w s₀ mg mb s₁.heap->YP w s₁.heap->
   s₁.heap.get? fa=some o->o.data= .func (docDef d.name d.params d.body d.scope pm cd doc)->s₁.heap.CodeRec cd d.name->mg d.name=some (.ref fa)->
   s₁.heap.get? a=some {cls:= .type "list",data:= .seq vs.toArray}->IntsAre vs ns->ns.length<=n->s₁.gens=#[]->
   codeAny (model l.prog w) callerA (.call (.ref fa) ⟨[.ref a],[]⟩) (fun r s'=>r= .ok (.ret (.bool true))/\OldK s₁.heap s'.heap/\s'.os=s₁.os/\AllBare s'.gens) s₁):
  WalkO q loose XP YP l.row.toRowW d [] (fun f vs=>PySem.call f vs):=by
 intro w s₀ s₁ mg mb G Y fa o pm cd doc dV kV ho hd hcd hD hmg hg args vals as hpre hlay hrd hwl hlo
 obtain rfl:dV= .none:=Dflts.none hD hdf
 obtain rfl:kV= .none:=Dflts.noKw hD
 obtain⟨a,vs,ns,rfl,rfl,hobj,hints,hlen⟩:=script_of hn hpre hwl
 refine enter_call (Cu (call w s₀ s₁ mg mb fa o pm cd doc a vs ns G Y ho (fd_plain hd) hcd hmg hobj hints hlen hg) fun r s' hq=> ?_)
 obtain⟨rfl,h2,h3,h4⟩:=hq
 exact⟨.inl ⟨.bool true,.bool true,[],rfl,fun _=>rfl,.bool true,post_true l _,fun _=>⟨List.Pairwise.nil,fun _ hm=>(nomatch hm)⟩⟩,h2,h3,h4⟩
section
variable{prog:Program}{w:World}{A:Around}{E:Value->Shared->Prop}{s:Shared}{K:Frag}
end
end Att
namespace L2
open PySem PySem.Spec PyProof.Rows
theorem vals_ints:∀{vs:List Value} {ns:List Int},IntsAre vs ns->Vals (ns.map V.int) vs
 |_,_,.nil=> .nil
 |_,_,.cons n t h=> .cons ⟨t,rfl⟩ (vals_ints h)
def Only(H:Hp):Prop:=∀b,H b=none\/∃o xs,H b=some (.frz o (.lst xs))
theorem law_call{P:Program}{w:World}{K:W.Frag}{mg mb:Str->Option Value}{CX:CXT}{k:Nat}{fa a:Addr}{fd:FuncData}{x:Str}{sp:Sp}{s₁:Shared}{vs:List Value}{ns:List Int}
  (KX:K.In s₁.heap)(hns:s₁.heap.Ns mainGlobals mg)(hb:s₁.heap.Ns builtinsNs mb)(hbb:∀x:Str,x≠"__name__"->mb x=bootBuiltins x)(hlim:s₁.heap.NoLimit)(hg:s₁.gens=#[])(ha:s₁.heap.get? a=some {cls:= .type "list",data:= .seq vs.toArray})(hi:IntsAre vs ns)(hl:ns.length<=sizeLine)(hr:Room k callerA)
  (F:∀base:Heap,K.In base->base.Ns mainGlobals mg->FnOk P w K mg base CX k fa fd [x] sp)(hbind:∀(s:Shared) (u:Value),BindsTo s fd ⟨[u],[]⟩ [(x,u)])(hsp:∀H:Hp,Only H->SqL K H a (ns.map V.int)->sp [.ref a] H (fun v _=>v= .bl true) fun _ _ _=>False)(hCX:∀H e s',CX [] H s₁ (fun _ _ _=>False) e s'->False):
  codeAny (model P w) callerA (.call (.ref fa) ⟨[.ref a],[]⟩) (fun r s'=>r= .ok (.ret (.bool true))/\OldK s₁.heap s'.heap/\s'.os=s₁.os/\AllBare s'.gens) s₁:=by
 have rv:=vals_ints hi
 have lenV:=hi.length
 -- from an abstract heap in which nothing but the script may be tracked
 have core:∀H:Hp,Only H->SqL K H a (ns.map V.int)->HOk P w H s₁.heap->(∀b,H b≠none->b=a)->(H a≠none->K.lookup a=none)->
   codeAny (model P w) callerA (.call (.ref fa) ⟨[.ref a],[]⟩) (fun r s'=>r= .ok (.ret (.bool true))/\OldK s₁.heap s'.heap/\s'.os=s₁.os/\AllBare s'.gens) s₁:=by
  intro H hO hS hok hA hK
  have base_of:∀{b:Addr} {o:Obj},s₁.heap.get? b=some o->H b=none->(hidT s₁.heap H).get? b=some o:=fun e n=>hidT_get e n
  have noA:∀{b:Addr} {o:Obj} {es:Array DictEntry} {ep:Nat},s₁.heap.get? b=some o->o.data= .dict es ep->H b=none:=fun{b o es ep} e d=>by
   cases q:H b with
   |none=>rfl
   |some u=>
    have e':b=a:=hA b (by rw[q];simp)
    subst e'
    rw[ha]at e;cases e
    have d':Data.seq vs.toArray _=Data.dict es ep:=d
    cases d'
  have nsK:∀{b:Addr} {m:Str->Option Value},s₁.heap.Ns b m->(hidT s₁.heap H).Ns b m:=fun{b m} ⟨o,es,ep,e,d,r⟩=>⟨o,es,ep,base_of e (noA e d),d,r⟩
  have hKb:K.In (hidT s₁.heap H):=fun b o e=>base_of (KX b o e) (by
   cases q:H b with
   |none=>rfl
   |some u=>
    have e':b=a:=hA b (by rw[q];simp)
    subst e'
    rw[hK (by rw[q];simp)]at e;cases e)
  have hM:Mod K mg (hidT s₁.heap H):=⟨hKb,nsK hns,⟨mb,nsK hb,hbb⟩,let⟨mc,h1,h2⟩:=hlim;⟨mc,nsK h1,h2⟩⟩
  have e0:Env0 P w K mg (hidT s₁.heap H) callerA [] s₁ H:=⟨rfl,hM,fun b o e=>of_hidT e,qg (hidT_size _ _),trivial,fun b hb=>absurd (show b∈([]:List Addr)from hb) (by simp),hok,.of_eq hg⟩
  refine Cu ((F _ hKb (nsK hns)).run callerA [] s₁ H ⟨[.ref a],[]⟩ [.ref a] [.ref a] _ _ hr e0 (hbind s₁ (.ref a)) (.cons rfl .nil) (hsp H hO hS)) fun r s' h=> ?_
  cases r with
  |error e=>exact(hCX H e s' h).elim
  |ok fl=>
   cases fl with
   |next=>exact False.elim h
   |brk=>exact False.elim h
   |cont=>exact False.elim h
   |ret u=>
    obtain⟨v,H',os,bare,un,hok',r',q⟩:=h
    have q':v= .bl true:=q
    subst q'
    obtain rfl:u=Value.bool true:=r'
    refine⟨rfl,OldK.of_keep fun b o e=> ?_,os,bare⟩
    cases q:H b with
    |none=>exact un.keep b o e q (by intro z;exact absurd (show b∈([]:List Addr)from z) (by simp)) (by simp)
    |some u=>
     rcases hO b with z|⟨ob,xs,z⟩
     ·rw[q]at z;cases z
     ·have z2:=un.frzs b ob _ z
      obtain⟨e1,_⟩:=hok b _ z
      obtain⟨e2,_⟩:=hok' b _ z2
      rw[e]at e1;cases e1
      exact e2
 cases hk:K.lookup a with
 |some o=>
  -- the script is one of the module's own objects
  have e:=KX a o hk
  rw[ha]at e
  cases e
  refine core (fun _=>none) (fun _=> .inl rfl) (.inr ⟨_,vs.toArray,_,hk,rfl,rfl,rfl,by rw[dI,lenV];exact hl,by simpa using rv⟩) (fun b u z=>by have z':(none:Option HO)=some u:=z;cases z') (fun b z=>absurd rfl z) fun z=>absurd rfl z
 |none=>
  refine core (fun b=>if b=a then some (.frz {cls:= .type "list",data:= .seq vs.toArray} (.lst (ns.map V.int)))else none) (fun b=> ?_) (.inl (.inr ⟨{cls:= .type "list",data:= .seq vs.toArray},aN rfl⟩)) (fun b u z=> ?_) (fun b z=> ?_) fun _=>hk
  ·by_cases hb:b=a
   ·exact .inr ⟨_,_,aN hb⟩
   ·exact .inl (aP hb)
  ·by_cases hb:b=a
   ·have z':=(aN hb).symm.trans z
    cases z'
    subst hb
    exact⟨ha,by rw[aQ];exact hl,vs,_,rv,ha⟩
   ·have z':=(aP hb).symm.trans z
    cases z'
  ·by_cases hb:b=a
   ·exact hb
   ·exact absurd (aP hb) z
theorem walk_of{l:PySem.W.OpenLaw}{n k:Nat}{q:Program}{loose:List Str}{XP:(Str->Option Value)->Heap->Prop}{YP:World->Heap->Prop}{d:DefRec}{K:Params->PySem.W.Frag}{CX:World->CXT}{sp:World->Sp}{x:Str}(hn:l.most=some n)(hn2:n<=sizeLine)(hdf:d.params.defaults=[])(hr:Room k callerA)(hY:∀(w:World) (h:Heap),YP w h->(K w.params).In h)
  (F:∀(w:World) (mg:Str->Option Value) (fa:Addr) (h:Heap),(K w.params).In h->h.Ns mainGlobals mg->mg d.name=some (.ref fa)->
   ∃fd:FuncData,(∀(s:Shared) (u:Value),BindsTo s fd ⟨[u],[]⟩ [(x,u)])/\
    ∀base:Heap,(K w.params).In base->base.Ns mainGlobals mg->FnOk l.prog w (K w.params) mg base (CX w) k fa fd [x] (sp w))(hsp:∀(w:World) (H:Hp) (a:Addr) (ns:List Int),ns.length<=n->Only H->SqL (K w.params) H a (ns.map V.int)->sp w [.ref a] H (fun v _=>v= .bl true) fun _ _ _=>False)(hCX:∀(w:World) (H:Hp) (s:Shared) (e:Value) (s':Shared),CX w [] H s (fun _ _ _=>False) e s'->False):
  PySem.W.WalkO q loose XP YP l.row.toRowW d [] (fun f vs=>PySem.call f vs):=by
 refine Att.attach_call hn hdf fun w s₀ s₁ mg mb fa o pm cd doc a vs ns G Y ho hd hcd hmg hobj hints hlen hg=> ?_
 have KX:=hY w _ Y
 obtain⟨fd,hb,hF⟩:=F w mg fa _ KX G.T.g hmg
 exact law_call KX G.T.g G.T.b G.T.builtins G.T.nolimit hg hobj hints (cP hlen hn2) hr hF hb (fun H hO hS=>hsp w H a ns hlen hO hS) fun H e s'=>hCX w H s₁ e s'
def inClass(s:Stmt)(j:Nat):Stmt:=match s with
 | .ClassDef _ _ _ body _ _ _ _ _ _ _=>body.getD j (.Pass ⟨0,0,0,0⟩)
 |_=> .Pass ⟨0,0,0,0⟩
def defArgs(s:Stmt):Arguments:=match s with
 | .FunctionDef _ a _ _ _ _ _ _ _ _=>a
 |_=>{posonlyargs:=[],args:=[],vararg:=none,kwonlyargs:=[],kw_defaults:=[],kwarg:=none,defaults:=[]}
def defBody(s:Stmt):List Stmt:=match s with
 | .FunctionDef _ _ b _ _ _ _ _ _ _=>b
 |_=>[]
def defScope(s:Stmt):Scope:=match s with
 | .FunctionDef _ _ _ _ _ _ sc _ _ _=>sc
 |_=>{kind:= .function,names:=[],isGenerator:=false,isCoroutine:=false}
abbrev CX0:CXT:=fun _ _ _ _ _ _=>False
abbrev E0:XK:=fun _ _ _=>False
theorem pass0{X:Cx}:Passes CX0 X E0:=fun _ _ _ _ _ _ _ h=>h.elim
structure Fun(K:W.Frag)(x qual:Str)(st:Stmt)(f:Addr)(fd:FuncData):Prop where
 ex:∃(oc:Value) (od:Option Addr) (kV doc pm:Value) (an:Option Addr) (cdv ct:Value) (osl:Array (Option Value)),
  fd=PySem.W.fnOf x qual (defArgs st) (defBody st) (defScope st) .none kV doc pm an cdv ct/\K.lookup f=some ⟨oc,od,.func fd,osl⟩/\PySem.W.codeIn K cdv qual=true
 kp:PySem.W.keepIn K (.ref f)=true
section
variable{P:Program}{w:World}{K:W.Frag}{mg:Str->Option Value}{base:Heap}
theorem Fun.ok{x qual:Str}{st:Stmt}{f:Addr}{fd:FuncData}{N ps:List Str}{k:Nat}{sp:Sp}(F:Fun K x qual st f fd)(S:FnScope N ps (defScope st))(len:∀vs H Q E,sp vs H Q E->vs.length=ps.length)(hbody:∀(cdv:Value) (A:Around) (outer:List Env) (s:Shared) (H:Hp) (vs:List V) (Q:VK) (E:XK),Room k (A.deeper (envOfC qual (defScope st) s.heap.objs.size f cdv))->sp vs H Q E->
   ∃t,PSs (cxOf CX0 P w K mg base N qual (defScope st) f cdv A outer s H E).nox (defBody st) t/\t {nx:=fun _ H'=>Q .non H',rt:=Q} (start N vs) H):FnOk P w K mg base CX0 (k+1) f fd ps sp:=by
 obtain⟨oc,od,kV,doc,pm,an,cdv,ct,osl,rfl,lk,hcd⟩:=F.ex
 refine fn_of lk hcd S len fun A outer s H vs Q E hr hsp=> ?_
 obtain⟨t,h,q⟩:=hbody cdv A outer s H vs Q E hr hsp
 exact⟨t,h.nox,q⟩
theorem Fun.binds{x qual:Str}{st:Stmt}{f:Addr}{fd:FuncData}{ps:List Str}(F:Fun K x qual st f fd)(h:∀(kV doc pm:Value) (an:Option Addr) (cdv ct:Value) (us:List Value),us.length=ps.length->bindArgs (PySem.W.fnOf x qual (defArgs st) (defBody st) (defScope st) .none kV doc pm an cdv ct) ⟨us,[]⟩=pure (ps.zip us)):Binds K fd ps []:=by
 obtain⟨oc,od,kV,doc,pm,an,cdv,ct,osl,rfl,lk,hcd⟩:=F.ex
 exact .all (h kV doc pm an cdv ct)
theorem fun_mk{x qual:Str}{st:Stmt}{f:Addr}{oc:Value}{od an:Option Addr}{osl:Array (Option Value)}{kV doc pm cdv ct:Value}(l:K.lookup f=some ⟨oc,od,.func (PySem.W.fnOf x qual (defArgs st) (defBody st) (defScope st) .none kV doc pm an cdv ct),osl⟩)(c:PySem.W.codeIn K cdv qual=true)(k:PySem.W.keepIn K (.ref f)=true):Fun K x qual st f (PySem.W.fnOf x qual (defArgs st) (defBody st) (defScope st) .none kV doc pm an cdv ct):=⟨⟨oc,od,kV,doc,pm,an,cdv,ct,osl,rfl,l,c⟩,k⟩
end
theorem small1000{n:Nat}(h:n<=1000):n<sizeLine:=ug h (by decide)
section
variable{X:Cx}
theorem pv(i:Nat){x:Str}{pos:Pos}(hN:X.N[i]? =some x:=by rfl)(hv:Vis X.env.scope x:=by first |exact Or.inl rfl|exact Or.inr (Or.inl rfl)|exact Or.inr (Or.inr rfl))(hd:(x==("__debug__":Str))=false:=by decide)(hcd:(x==("__classdict__":Str))=false:=by decide):PE X (.Name x pos) (tVar i):=pe_var hN hv hd hcd
end
theorem iteF{A B:Prop}(h:B):if false=true then A else B:=by
 rw[aP mK]
 exact h
theorem iteT{A B:Prop}(h:A):if true=true then A else B:=by
 rw[aN rfl]
 exact h
theorem ite2{c A B:Prop} [Decidable c](h1:c->A)(h2:¬c->B):if c then A else B:=by
 by_cases h:c
 ·rw[aN h]
  exact h1 h
 ·rw[aP h]
  exact h2 h
def Same(H H':Hp):Prop:=∀b o,H b=some o->H' b=some o
theorem Same.refl(H:Hp):Same H H:=fun _ _ h=>h
theorem Same.trans{H H1 H2:Hp}(a:Same H H1)(b:Same H1 H2):Same H H2:=fun c o h=>b c o (a c o h)
theorem Same.seq{K:W.Frag}{H H':Hp}{a:Addr}{xs:List V}(e:Same H H')(h:SqL K H a xs):SqL K H' a xs:=by
 rcases h with(h|⟨o,h⟩)|h
 ·exact .inl (.inl (e _ _ h))
 ·exact .inl (.inr ⟨o,e _ _ h⟩)
 ·exact .inr h
end L2
set_option maxHeartbeats 4000000
namespace L2
open PySem PySem.Spec PyProof.Rows
def dW(cells:List (Str×Addr)):List (Str×NameKind)->List (Str×Addr)->List (Str×Addr)
 |[],acc=>acc
 |p::r,acc=>dW cells r (if(p.2==NameKind.free)=true then(p.1,(cells.lookup p.1).getD 0)::acc else acc)
theorem gA{cells:List (Str×Addr)}:∀{names:List (Str×NameKind)} {acc:List (Str×Addr)} {x:Str} {c:Addr},(x,c)∈dW cells names acc->(x,c)∈acc\/c=(cells.lookup x).getD 0/\(x,NameKind.free)∈names
 |[],_,_,_,h=> .inl h
 |(n,k)::r,acc,x,c,h=>by
  rcases gA (names:=r) h with q|⟨q,m⟩
  ·dsimp only at q
   split at q
   ·rename_i hk
    rcases fK.mp q with e|e
    ·cases e
     have:k=NameKind.free:=by simpa using hk
     subst this
     exact .inr ⟨rfl,cQ⟩
    ·exact .inl e
   ·exact .inl q
  ·exact .inr ⟨q,eE _ m⟩
theorem oG{cells:List (Str×Addr)}:∀{names:List (Str×NameKind)} {acc:List (Str×Addr)} {p:Str×Addr},p∈acc->p∈dW cells names acc
 |[],_,_,h=>h
 |(n,k)::r,acc,p,h=>by
  refine oG (names:=r) ?_
  split
  ·exact eE _ h
  ·exact h
theorem oF{cells:List (Str×Addr)}:∀{names:List (Str×NameKind)} {acc:List (Str×Addr)} {x:Str},(x,NameKind.free)∈names->∃c,(x,c)∈dW cells names acc
 |(n,k)::r,acc,x,h=>by
  rcases fK.mp h with e|e
  ·cases e
   refine⟨(cells.lookup n).getD 0,oG (names:=r) ?_⟩
   rw[aN (show(NameKind.free==NameKind.free)=true from rfl)]
   exact cQ
  ·exact oF (names:=r) e
theorem Gn{β:Type}:∀{l:List (Str×β)} {x:Str} {c:β},(x,c)∈l->∃d,l.lookup x=some d/\(x,d)∈l
 |(n,k)::r,x,c,h=>by
  cases hx:x==n with
  |true=>
   have e:x=n:=by simpa using hx
   subst e
   exact⟨k,by simp[tQ],cQ⟩
  |false=>
   rcases fK.mp h with e|e
   ·cases e;simp at hx
   ·obtain⟨d,h1,h2⟩:=Gn e
    exact⟨d,by simp only[tQ,hx];exact h1,eE _ h2⟩
section
variable{sc scope:Scope}
end
theorem jD{scope:Scope}{env:Env}(h:∀x,(x,NameKind.free)∈scope.names->∃c,env.cells.lookup x=some c):closureFor scope env=pure (dW env.cells scope.names []):=by
 have key:∀(names:List (Str×NameKind)) (acc:List (Str×Addr)),(∀x,(x,NameKind.free)∈names->∃c,env.cells.lookup x=some c)->
   (forIn names acc fun(x:Str×NameKind) (cs:List (Str×Addr))=>if(x.2==NameKind.free)=true then(do let y<-cellOf env x.1;pure (ForInStep.yield ((x.1,y)::cs)))else pure (ForInStep.yield cs):Sem (List (Str×Addr)))=pure (dW env.cells names acc):=by
  intro names
  induction names with
  |nil=>intro acc _;rfl
  |cons p r ih=>
   intro acc hh
   obtain⟨n,k⟩:=p
   rw[List.forIn_cons]
   dsimp only
   by_cases hk:(k==NameKind.free)=true
   ·have e:k=NameKind.free:=by simpa using hk
    subst e
    obtain⟨c,hc⟩:=hh n cQ
    rw[aN hk]
    unfold cellOf
    rw[hc]
    simp only[pure_bind]
    refine Eq.trans (ih _ fun x hx=>hh x (eE _ hx)) ?_
    show _=pure (dW env.cells r (if(NameKind.free==NameKind.free)=true then(n,(env.cells.lookup n).getD 0)::acc else acc))
    rw[aN hk,hc]
    rfl
   ·rw[aP hk]
    simp only[pure_bind]
    refine Eq.trans (ih _ fun x hx=>hh x (eE _ hx)) ?_
    show _=pure (dW env.cells r (if(k==NameKind.free)=true then(n,(env.cells.lookup n).getD 0)::acc else acc))
    rw[aP hk]
 have q:=key scope.names [] h
 unfold closureFor
 simp only[bind_pure]
 exact q
theorem fD{env:Env}:∀{names:List (Str×NameKind)} {x:Str} {k:NameKind},names.lookup x=some k->
  (names.map fun(n,k)=>if(k==NameKind.free&&env.scope.kind== .function&&env.kindOf n==some .cell)then(n,NameKind.cell)else(n,k)).lookup x=some (if(k==NameKind.free&&env.scope.kind== .function&&env.kindOf x==some .cell)=true then .cell else k)
 |[],_,_,h=>by simp at h
 |(n,k)::r,x,k',h=>by
  have ih:= @fD env r x k'
  show List.lookup x ((if(k==NameKind.free&&env.scope.kind== .function&&env.kindOf n==some .cell)=true then(n,NameKind.cell)else(n,k))::_)=_
  cases hx:x==n with
  |true=>
   have e:x=n:=by simpa using hx
   subst e
   simp only[tQ,hx]at h
   cases h
   by_cases hc:(k==NameKind.free&&env.scope.kind== .function&&env.kindOf x==some .cell)=true
   ·rw[aN hc,aN hc];simp[tQ]
   ·rw[aP hc,aP hc];simp[tQ]
  |false=>
   simp only[tQ,hx]at h
   by_cases hc:(k==NameKind.free&&env.scope.kind== .function&&env.kindOf n==some .cell)=true
   ·rw[aN hc];simp only[tQ,hx];exact ih h
   ·rw[aP hc];simp only[tQ,hx];exact ih h
theorem jq{env:Env}:∀{names:List (Str×NameKind)} {x:Str},names.lookup x=none->
  (names.map fun(n,k)=>if(k==NameKind.free&&env.scope.kind== .function&&env.kindOf n==some .cell)then(n,NameKind.cell)else(n,k)).lookup x=none
 |[],_,_=>rfl
 |(n,k)::r,x,h=>by
  have ih:= @jq env r x
  show List.lookup x ((if(k==NameKind.free&&env.scope.kind== .function&&env.kindOf n==some .cell)=true then(n,NameKind.cell)else(n,k))::_)=_
  cases hx:x==n with
  |true=>simp only[tQ,hx]at h;cases h
  |false=>
   simp only[tQ,hx]at h
   by_cases hc:(k==NameKind.free&&env.scope.kind== .function&&env.kindOf n==some .cell)=true
   ·rw[aN hc];simp only[tQ,hx];exact ih h
   ·rw[aP hc];simp only[tQ,hx];exact ih h
theorem o8{scope:Scope}{env:Env}{x:Str}(h:scope.names.lookup x=some .free):(relabel scope env).names.lookup x=some .cell\/(relabel scope env).names.lookup x=some .free:=by
 have q:=fD (env:=env) h
 by_cases hc:((NameKind.free==NameKind.free)&&env.scope.kind== .function&&env.kindOf x==some .cell)=true
 ·rw[aN hc]at q;exact .inl q
 ·rw[aP hc]at q;exact .inr q
inductive iy(X:Cx)(scope:Scope):List Str->List Nat->Prop
 |nil:iy X scope [] []
 |cons {x:Str} {j:Nat} {xs:List Str} {js:List Nat} (hN:X.N[j]? =some x) (hf:scope.names.lookup x=some .free) (t:iy X scope xs js):iy X scope (x::xs) (j::js)
theorem iy.get{X:Cx}{scope:Scope}:∀{xs:List Str} {js:List Nat} {k:Nat} {x:Str},iy X scope xs js->xs[k]? =some x->∃j,js[k]? =some j/\X.N[j]? =some x/\scope.names.lookup x=some .free
 |_,_,k,x,.nil,h=>by simp at h
 |_,_,0,x,.cons h1 h2 _,h=>by simp at h;subst h;exact⟨_,rfl,h1,h2⟩
 |_,_,k+1,x,.cons _ _ t,h=>by
  obtain⟨j,a,b⟩:=iy.get (k:=k) t (by simpa using h)
  exact⟨j,by simpa using a,b⟩
theorem iy.len{X:Cx}{scope:Scope}:∀{xs:List Str} {js:List Nat},iy X scope xs js->xs.length=js.length
 |_,_,.nil=>rfl
 |_,_,.cons _ _ t=>by simp[iy.len t]
def nW(own:List Str)(ix:List Nat)(σ:St):St:=own.map (fun _=>none)++ix.map fun j=>(σ[j]?).join
def CZ(X:Cx)(ifs:List Expr)(t:TT):Prop:=
 ∀(pins:List (Addr×Obj)) (s:Shared) (σ:St) (H:Hp) (Q:Bool->Hp->Prop),Inv X pins σ H s->t σ H Q->
  wpAny (model X.prog X.w) X.A (forIn ifs true fun c r=>if r=true then do let ok<-isTrue c X.env (eval c X.env);pure (ForInStep.yield ok)else pure (ForInStep.yield r)) (TP X pins σ Q) X.xe s
theorem qe{X:Cx}:CZ X [] (fun _ H Q=>Q true H):=fun _ _ _ H _ I h=>wpAny_tests_nil ⟨H,I,h⟩
theorem gb{X:Cx}{c:Expr}{t:TT}(h:PT X c t):CZ X [c] t:=fun pins s σ H Q I hq=>wpAny_tests_one (h pins s σ H Q I hq)
theorem HOk.add{P:Program}{w:World}{H:Hp}{h:Heap}{a:Addr}{o:HO}(x:HOk P w H h)(hn:H a=none)(new:ObjOk P w (upd H a o) h a o):HOk P w (upd H a o) h:=fun b u e=>by
 by_cases hb:b=a
 ·subst hb;rw[aL]at e;cases e;exact new
 ·rw[dG hb]at e
  exact(x b u e).stay (fun c v _ q=>q) (fun c q=>by rw[dG (jP q hn)];exact q) fun c xs q=>by rw[dG (jP q hn)];exact q
theorem Un.add{fs ex:List Addr}{H H':Hp}{h h':Heap}{a:Addr}{o:HO}(u:Un fs ex H H' h h')(ha:h.objs.size<=a)(hn:H' a=none):Un fs ex H (upd H' a o) h h' where
 keep:=u.keep
 slot:=u.slot
 free:=fun b ob q n hx=>by rw[dG (cT (dJ (cB q) ha))];exact u.free b ob q n hx
 there:=u.there
 tups:=fun b xs q=>by have:=u.tups b xs q;rw[dG (jP this hn)];exact this
 frzs:=fun b ob xs q=>by have:=u.frzs b ob xs q;rw[dG (jP this hn)];exact this
 tbls:=fun b ps q=>by obtain⟨m,e⟩:=u.tbls b ps q;exact⟨m,by rw[dG (jP e hn)];exact e⟩
section
variable{X:Cx}{tg iter elt:Expr}{ifs:List Expr}{scope:Scope}{pos:Pos}{own caps:List Str}{ix:List Nat}{g:TG}{tc:TT}{te:TE}
end
def rG(J:It)(ini:St)(H:Hp)(g:TG)(tc:TT)(te:TE)(Fin:List V->Hp->Prop):Prop:=
 ∃W:Nat->Nat->List V->St->Hp->Prop,(∃m,W 0 m [] ini H)/\∀i m acc σ H,W i m acc σ H->
  (J.stop i H/\acc.length<=sizeLine/\Fin acc H)\/(J.go i H/\acc.length<sizeLine/\∃N:List V->St->Hp->Prop,(∀acc' σ' H',N acc' σ' H'->∃m',m'<m/\W (i+1) m' acc' σ' H')/\∀x H',J.yld i H x H'->g x σ H' fun σ2 H2=>tc σ2 H2 fun b H3=>
   if b=true then te σ2 H3 fun v H4=>N (acc++[v]) σ2 H4 else N acc σ2 H3)
def yR(wi:TI)(own:List Str)(ix:List Nat)(g:TG)(tc:TT)(te:TE):TE:=fun σ H Q=>wi σ H fun J H1=>
 rG J (nW own ix σ) H1 g tc te fun acc H'=>∀p,H' p=none->Q (.ref p) (upd H' p (.lst acc))
section
variable{X:Cx}{tg iter elt:Expr}{ifs:List Expr}{scope:Scope}{pos:Pos}{own caps:List Str}{ix:List Nat}{wi:TI}{g:TG}{tc:TT}{te:TE}
end
section
variable{K:W.Frag}{a:Addr}{xs:List V}{g:TG}{tc:TT}{te:TE}{Fin:List V->Hp->Prop}{ini:St}{H:Hp}
theorem gZ(Pv:Nat->List V->St->Hp->Prop)(h0:Pv 0 [] ini H)(hl:∀(i:Nat) acc σ H,i<=xs.length->Pv i acc σ H->SqL K H a xs)(hz:∀(i:Nat) acc σ H,i<=xs.length->Pv i acc σ H->acc.length<=i)(hx:xs.length<=sizeLine)(hs:∀(i:Nat) x acc σ H,xs[i]? =some x->Pv i acc σ H->g x σ H fun σ2 H2=>tc σ2 H2 fun b H3=>if b=true then te σ2 H3 fun v H4=>Pv (i+1) (acc++[v]) σ2 H4 else Pv (i+1) acc σ2 H3)(hd:∀acc σ H,Pv xs.length acc σ H->Fin acc H):rG (Itl K a) ini H g tc te Fin:=by
 refine⟨fun i m acc σ H=>m=xs.length-i/\i<=xs.length/\Pv i acc σ H,⟨xs.length,by simp,eX _,h0⟩,?_⟩
 rintro i m acc σ H ⟨rfl,hi,p⟩
 have q:=hl i acc σ H hi p
 have z:=hz i acc σ H hi p
 by_cases hlt:i<xs.length
 ·refine .inr ⟨⟨xs,xs[i],q,by simp[hlt]⟩,by omega,fun acc σ H=>Pv (i+1) acc σ H,fun acc' σ' H' r=>⟨_,by omega,rfl,hlt,r⟩,fun x H' y=> ?_⟩
  obtain⟨e,y⟩:=y
  subst e
  exact hs i x acc σ _ (y xs q) p
 ·have e:i=xs.length:=by omega
  subst e
  exact .inl ⟨⟨xs,q,bD _⟩,by omega,hd acc σ H p⟩
theorem yH(Pv:Nat->List V->St->Hp->Prop)(h0:Pv 0 [] ini H)(hl:∀(i:Nat) acc σ H,i<=xs.length->Pv i acc σ H->SqT K H a xs)(hz:∀(i:Nat) acc σ H,i<=xs.length->Pv i acc σ H->acc.length<=i)(hx:xs.length<=sizeLine)(hs:∀(i:Nat) x acc σ H,xs[i]? =some x->Pv i acc σ H->g x σ H fun σ2 H2=>tc σ2 H2 fun b H3=>if b=true then te σ2 H3 fun v H4=>Pv (i+1) (acc++[v]) σ2 H4 else Pv (i+1) acc σ2 H3)(hd:∀acc σ H,Pv xs.length acc σ H->Fin acc H):rG (Itt K a) ini H g tc te Fin:=by
 refine⟨fun i m acc σ H=>m=xs.length-i/\i<=xs.length/\Pv i acc σ H,⟨xs.length,by simp,eX _,h0⟩,?_⟩
 rintro i m acc σ H ⟨rfl,hi,p⟩
 have q:=hl i acc σ H hi p
 have z:=hz i acc σ H hi p
 by_cases hlt:i<xs.length
 ·refine .inr ⟨⟨xs,xs[i],q,by simp[hlt]⟩,by omega,fun acc σ H=>Pv (i+1) acc σ H,fun acc' σ' H' r=>⟨_,by omega,rfl,hlt,r⟩,fun x H' y=> ?_⟩
  obtain⟨e,y⟩:=y
  subst e
  exact hs i x acc σ _ (y xs q) p
 ·have e:i=xs.length:=by omega
  subst e
  exact .inl ⟨⟨xs,q,bD _⟩,by omega,hd acc σ H p⟩
theorem yI{lo:Int}{n:Nat}(Pv:Nat->List V->St->Hp->Prop)(h0:Pv 0 [] ini H)(hz:∀(i:Nat) acc σ H,i<=n->Pv i acc σ H->acc.length<=i)(hx:n<=sizeLine)(hs:∀(i:Nat) acc σ H,i<n->Pv i acc σ H->g (.int (lo+i)) σ H fun σ2 H2=>tc σ2 H2 fun b H3=>if b=true then te σ2 H3 fun v H4=>Pv (i+1) (acc++[v]) σ2 H4 else Pv (i+1) acc σ2 H3)(hd:∀acc σ H,Pv n acc σ H->Fin acc H):rG (Itr lo n) ini H g tc te Fin:=by
 refine⟨fun i m acc σ H=>m=n-i/\i<=n/\Pv i acc σ H,⟨n,by simp,eX _,h0⟩,?_⟩
 rintro i m acc σ H ⟨rfl,hi,p⟩
 have z:=hz i acc σ H hi p
 by_cases hlt:i<n
 ·refine .inr ⟨hlt,by omega,fun acc σ H=>Pv (i+1) acc σ H,fun acc' σ' H' r=>⟨_,by omega,rfl,hlt,r⟩,fun x H' y=> ?_⟩
  obtain⟨e,y⟩:=y
  subst e y
  exact hs i acc σ _ hlt p
 ·have e:i=n:=by omega
  subst e
  exact .inl ⟨bD _,by omega,hd acc σ H p⟩
end
end L2
namespace pX
open PySem PySem.W PyProof.Rows
section
variable{O:KeyOrd}{key:Nat->O.α}{N:Nat}{cmp:Nat->Nat->(Bool->Shared->Prop)->Shared->Prop}{s:Shared}
def eV(O:KeyOrd)(key:Nat->O.α)(N:Nat)(cmp:Nat->Nat->(Bool->Shared->Prop)->Shared->Prop)(s:Shared):Prop:=
 ∀i j (C:Bool->Shared->Prop),i<N->j<N->C (O.blt (key i) (key j)) s->cmp i j C s
def KN(key:Nat->O.α)(p:Array Nat)(i:Nat):O.α:=key (p.getD i 0)
def So(key:Nat->O.α)(p:Array Nat)(k:Nat):Prop:=∀i j,i<=j->j<k->O.kle (KN key p i) (KN key p j)
def Ni(key:Nat->O.α)(p:Array Nat)(k:Nat):Prop:=∀i j,i<=j->j<k->O.kle (KN key p j) (KN key p i)
structure Ord(N:Nat)(p:Array Nat):Prop where
 perm:p.Perm (List.toArray (List.range N))
theorem Ord.size{p:Array Nat}(h:Ord N p):p.size=N:=by have:=h.perm.size_eq;simpa using this
theorem Ord.lt{p:Array Nat}(h:Ord N p){i:Nat}(hi:i<N):p.getD i 0<N:=by
 have hi':i<p.size:=by rw[h.size];exact hi
 have e:p.getD i 0=p[i]:=by simp[Array.getD,hi']
 rw[e]
 have m:p[i]∈p.toList:=by simp
 have:=(HN.mp h.perm).mem_iff.mp m
 simpa using this
theorem Ord.rev{p:Array Nat}(h:Ord N p)(i j:Nat):Ord N (kas_rev p i j):=⟨(mirror_perm _ _ _ _).trans h.perm⟩
theorem Ord.Pr{p:Array Nat}(h:Ord N p)(i j:Nat):Ord N (bubble p i j):=⟨(bubble_perm _ _ _).trans h.perm⟩
theorem jB(p:Array Nat)(i:Nat):p.getD i 0=(p[i]?).getD 0:=by simp
theorem pZ{p:Array Nat}{i j:Nat}(hj:j<=p.size)(k:Nat):KN key (kas_rev p i j) k=if i<=k/\k<j then KN key p (i+j-1-k)else KN key p k:=by
 have e:=getElem?_mirror_all (i:=i) hj k
 unfold KN kas_rev
 rw[jB,e]
 split
 ·rw[jB]
 ·rw[jB]
theorem Dm{p:Array Nat}{i j:Nat}(hj:j<=p.size)(heq:∀k,i<=k->k<j->KN key p k=KN key p (j-1))(k:Nat):KN key (kas_rev p i j) k=KN key p k:=by
 rw[pZ hj]
 split
 ·rename_i h
  rw[heq k h.1 h.2,heq _ (by omega) (by omega)]
 ·rfl
theorem v9{p:Array Nat}{src d:Nat}(hs:src<p.size)(hd:d<=src)(k:Nat):KN key (bubble p src d) k=if k=src-d then KN key p src else if src-d<k/\k<=src then KN key p (k-1)else KN key p k:=by
 have e:=getElem?_bubble hs d hd k
 have q:KN key (bubble p src d) k=key (((bubble p src d)[k]?).getD 0):=was key (jB _ _)
 have q2:∀i,KN key p i=key ((p[i]?).getD 0):=fun i=>was key (jB _ _)
 rw[q,e,q2,q2,q2]
 by_cases h1:k=src-d
 ·rw[aN h1,aN h1]
 ·rw[aP h1,aP h1]
  by_cases h2:src-d<k/\k<=src
  ·rw[aN h2,aN h2]
  ·rw[aP h2,aP h2]
theorem qX{i j:Nat}(h:i<=j)(hn:¬i=j):i<=j-1:=Gu (yN h hn)
theorem pL{j n:Nat}(h:j<n+1)(hn:¬j<n):j=n:=Ci (yM h) (Nat.not_lt.mp hn)
theorem dg{x k:Nat}(h:1<=x)(hk:x<=k):x-1<k:=Dy h hk
theorem pG{x f N:Nat}(h:x+(f+1)<=N):x<N:=dJ (Nat.lt_add_of_pos_right (ud f)) h
theorem gQ{x f N:Nat}(h:x+(f+1)<=N):x+1+f<=N:=cP (qg (Gy x f)) h
theorem yQ{x f m:Nat}(h:m<=x+1+f):m<=x+(f+1):=cP h (qg (Gy x f))
theorem Ad{i j n:Nat}(h:i<=j):0+n-1-j<=0+n-1-i:=Nat.sub_le_sub_left h _
theorem Ac{i n:Nat}(h:i<n):0+n-1-i<n:=by
 rw[HS]
 exact ug (GC _ _) (Dy (ug (eX _) h) (bD _))
theorem asc(ok:eV O key N cmp s){p:Array Nat}(hp:Ord N p){Q:Nat->Shared->Prop}:∀(f n:Nat),1<=n->n+f<=N->So key p n->(∀m,n<=m->m<=n+f->So key p m->(m=n+f\/O.klt (KN key p m) (KN key p (m-1)))->Q m s)->(kas_asc p f n).kasWp cmp Q s
 |0,n,_,_,hs,h=>h n (bD _) (bD _) hs (.inl rfl)
 |f+1,n,h1,hn,hs,h=>by
  have Bg:n<N:=pG hn
  refine ok _ _ _ (hp.lt Bg) (hp.lt (dg h1 (uf Bg))) ?_
  cases hless:O.blt (key (p.getD n 0)) (key (p.getD (n-1) 0))with
  |true=>
   show Q n s
   exact h n (bD _) (Du _ _) hs (.inr hless)
  |false=>
   show(kas_asc p f (n+1)).kasWp cmp Q s
   refine asc ok hp f (n+1) (ud _) (gQ hn) (fun i j hij hj=> ?_) fun m a b c d=>h m (Nat.le_of_succ_le a) (yQ b) c (d.imp (fun z=>z.trans (Gy n f)) id)
   by_cases hjn:j<n
   ·exact hs i j hij hjn
   ·have hj':j=n:=pL hj hjn
    subst hj'
    by_cases hi':i=j
    ·subst hi';exact wR _
    ·exact GZ (hs i (j-1) (qX hij hi') (dg h1 (bD _))) hless
theorem tail3(ok:eV O key N cmp s){p:Array Nat}(hp:Ord N p){n:Nat}{Q:Nat×Array Nat->Shared->Prop}(h1:1<=n)(hn:n<=N)(hs:Ni key p n)(h:∀m p',Ord N p'->1<=m->m<=N->So key p' m->Q (m,p') s):(kas_tail3 n N p).kasWp cmp Q s:=by
 unfold kas_tail3
 rw[DR]
 have hsz:n<=p.size:=by rw[hp.size];exact hn
 have hN:n+(N-n)=N:=Iu hn
 refine asc ok (hp.rev 0 n) (N-n) n h1 (qg hN) (fun i j hij hj=> ?_) fun m a b c _=>h m _ (hp.rev 0 n) (cP h1 a) (cP b (qg hN)) c
 rw[pZ hsz,pZ hsz,aN ⟨eX _,ug hij hj⟩,aN ⟨eX _,hj⟩]
 exact hs _ _ (Ad hij) (Ac (ug hij hj))
theorem vV{p p':Array Nat}{x:Nat}(h1:1<=x)(hs:Ni key p x)(hless:O.kle (KN key p x) (KN key p (x-1)))(hk:∀k,KN key p' k=KN key p k):Ni key p' (x+1):=by
 intro i j hij hj
 rw[hk,hk]
 by_cases hjx:j<x
 ·exact hs i j hij hjx
 ·have hj':j=x:=pL hj hjx
  subst hj'
  by_cases hi':i=j
  ·subst hi';exact wR _
  ·exact GZ hless (hs i (j-1) (qX hij hi') (dg h1 (bD _)))
theorem one_eq{p:Array Nat}{x i:Nat}(h1:x+1-(0+1)<=i)(h2:i<x+1):KN key p i=KN key p (x+1-1):=was _ (Ci (yM h2) h1)
theorem desc(ok:eV O key N cmp s){Q:Array Nat×Nat×Nat->Shared->Prop}:∀(f:Nat) (p:Array Nat) (x neq:Nat),Ord N p->1<=x->x+f<=N->Ni key p x->neq+1<=x->(∀i,x-(neq+1)<=i->i<x->KN key p i=KN key p (x-1))->
  (∀p' m q,Ord N p'->x<=m->m<=x+f->Ni key p' m->q+1<=m->(∀i,m-(q+1)<=i->i<m->KN key p' i=KN key p' (m-1))->Q (p',m,q) s)->(kas_desc f p x neq).kasWp cmp Q s
 |0,p,x,neq,hp,_,_,hs,hq,he,h=>h p x neq hp (bD _) (bD _) hs hq he
 |f+1,p,x,neq,hp,h1,hn,hs,hq,he,h=>by
  have Hy:x<N:=pG hn
  have hsz:x<=p.size:=by rw[hp.size];exact uf Hy
  have hx1:x-1<N:=dg h1 (uf Hy)
  have hh:∀p' m q,Ord N p'->x+1<=m->m<=x+1+f->Ni key p' m->q+1<=m->(∀i,m-(q+1)<=i->i<m->KN key p' i=KN key p' (m-1))->Q (p',m,q) s:=fun p' m q a b c d e g=>h p' m q a (Nat.le_of_succ_le b) (yQ c) d e g
  refine ok _ _ _ (hp.lt Hy) (hp.lt hx1) ?_
  cases hless:O.blt (key (p.getD x 0)) (key (p.getD (x-1) 0))with
  |true=>
   show(if neq>0 then kas_desc f (kas_rev p (x-(neq+1)) x) (x+1) 0 else kas_desc f p (x+1) 0).kasWp cmp Q s
   by_cases hneq:neq>0
   ·rw[aN hneq]
    exact desc ok f _ (x+1) 0 (hp.rev _ _) (ud _) (gQ hn) (vV h1 hs (DY hless) (Dm hsz he)) (ud _) (fun i h1 h2=>one_eq h1 h2) hh
   ·rw[aP hneq]
    exact desc ok f _ (x+1) 0 hp (ud _) (gQ hn) (vV h1 hs (DY hless) fun _=>rfl) (ud _) (fun i h1 h2=>one_eq h1 h2) hh
  |false=>
   show(KasT.ask (p.getD (x-1) 0) (p.getD x 0) fun d=>if d=true then KasT.ret (p,x,neq)else kas_desc f p (x+1) (neq+1)).kasWp cmp Q s
   refine ok _ _ _ (hp.lt hx1) (hp.lt Hy) ?_
   cases hl:O.blt (key (p.getD (x-1) 0)) (key (p.getD x 0))with
   |true=>exact h p x neq hp (bD _) (Du _ _) hs hq he
   |false=>
    show(kas_desc f p (x+1) (neq+1)).kasWp cmp Q s
    have heqx:KN key p x=KN key p (x-1):=KeyOrd.kle_antisymm hl hless
    refine desc ok f _ (x+1) (neq+1) hp (ud _) (gQ hn) (vV h1 hs (by rw[heqx];exact wR _) fun _=>rfl) (Nat.succ_le_succ hq) (fun i h1 h2=> ?_) hh
    show KN key p i=KN key p x
    by_cases hix:i=x
    ·subst hix;rfl
    ·rw[heqx];exact he i (cP (qg (Nat.succ_sub_succ x (neq+1)).symm) h1) (yN (yM h2) hix)
theorem descPart(ok:eV O key N cmp s){p:Array Nat}(hp:Ord N p){n:Nat}{Q:Nat×Array Nat->Shared->Prop}(hn:n+1<=N)(hs:Ni key p (n+1))(h:∀m p',Ord N p'->1<=m->m<=N->So key p' m->Q (m,p') s):(kas_descPart n N p).kasWp cmp Q s:=by
 unfold kas_descPart
 rw[DR]
 have hN:n+1+(N-(n+1))<=N:=qg (Iu hn)
 refine desc ok _ _ _ _ hp (ud _) hN hs (ud _) (fun i h1 h2=>one_eq h1 h2) fun p' m q a b c d e g=> ?_
 have hm:m<=N:=cP c hN
 have hm1:1<=m:=cP (ud _) b
 have hsz:m<=p'.size:=by rw[a.size];exact hm
 dsimp only
 by_cases hq:q>0
 ·rw[aN hq]
  refine tail3 ok (a.rev _ _) hm1 hm (fun i j hij hj=> ?_) h
  rw[Dm hsz g,Dm hsz g]
  exact d i j hij hj
 ·rw[aP hq]
  exact tail3 ok a hm1 hm d h
theorem count(ok:eV O key N cmp s){p:Array Nat}(hp:Ord N p){Q:Nat×Array Nat->Shared->Prop}(h1:1<=N)(h:∀m p',Ord N p'->1<=m->m<=N->So key p' m->Q (m,p') s):(kas_count N p).kasWp cmp Q s:=by
 unfold kas_count
 rw[DR]
 have hN:1+(N-1)=N:=Iu h1
 refine asc ok hp (N-1) 1 (bD _) (qg hN) (fun i j hij hj=>by
  have hj0:j=0:=Nat.lt_one_iff.mp hj
  subst hj0
  have hi0:i=0:=Nat.le_zero.mp hij
  subst hi0;exact wR _) fun n a b hsn hor=> ?_
 have Bg:n<=N:=cP b (qg hN)
 by_cases hnn:n=N
 ·rw[aN (by simpa using hnn)]
  exact h n p hp a Bg hsn
 ·rw[aP (by simpa using hnn)]
  have hlt:O.klt (KN key p n) (KN key p (n-1)):=hor.resolve_left fun z=>hnn (z.trans hN)
  have JW:n<N:=yN Bg hnn
  by_cases hgt:n>1
  ·rw[aN hgt]
   have hn1:n-1<n:=dg a (bD _)
   refine ok _ _ _ (hp.lt h1) (hp.lt (wM hn1 JW)) ?_
   cases hrose:O.blt (key (p.getD 0 0)) (key (p.getD (n-1) 0))with
   |true=>exact h n p hp a Bg hsn
   |false=>
    show(kas_descPart n N (kas_rev p 0 n)).kasWp cmp Q s
    have hsz:n<=p.size:=by rw[hp.size];exact Bg
    have hall:∀k,0<=k->k<n->KN key p k=KN key p (n-1):=fun k _ hk=>
     KeyOrd.kle_antisymm (hsn k (n-1) (Gu hk) hn1) (GZ hrose (hsn 0 k (eX _) hk))
    refine descPart ok (hp.rev 0 n) JW (fun i j hij hj=> ?_) h
    rw[Dm hsz hall,Dm hsz hall]
    by_cases hjn:j<n
    ·rw[hall i (eX _) (ug hij hjn),hall j (eX _) hjn];exact wR _
    ·have hj':j=n:=pL hj hjn
     subst hj'
     by_cases hi':i=j
     ·subst hi';exact wR _
     ·rw[hall i (eX _) (yN hij hi')];exact DY hlt
  ·rw[aP hgt]
   have hn1':n=1:=Ci (Nat.not_lt.mp hgt) a
   subst hn1'
   refine descPart ok hp JW (fun i j hij hj=> ?_) h
   by_cases hi':i=j
   ·subst hi';exact wR _
   ·have hij':i<j:=yN hij hi'
    have hj1:j=1:=Ci (yM hj) (ug (eX i) hij')
    subst hj1
    have hi0:i=0:=Nat.lt_one_iff.mp hij'
    subst hi0
    exact DY hlt
theorem half_lt{l r:Nat}(h:l<r):(l+r)/2<r:=by omega
theorem xZ{l r:Nat}(h:l<r):l<=(l+r)/2:=by omega
theorem place(ok:eV O key N cmp s){p:Array Nat}(hp:Ord N p){k:Nat}{Q:Nat->Shared->Prop}(hk:k<N)(hs:So key p k):∀(f l r:Nat),l<=r->r<=k->r-l<=f->(∀i,i<l->O.kle (KN key p i) (KN key p k))->(∀i,r<=i->i<k->O.klt (KN key p k) (KN key p i))->
  (∀l,l<=k->(∀i,i<l->O.kle (KN key p i) (KN key p k))->(∀i,l<=i->i<k->O.klt (KN key p k) (KN key p i))->Q l s)->(kas_place p k f l r).kasWp cmp Q s
 |0,l,r,hlr,hrk,hm,hlo,hhi,h=>by
  have e:l=r:=Ci hlr (Nat.sub_eq_zero_iff_le.mp (Nat.le_zero.mp hm))
  subst e
  exact h l hrk hlo hhi
 |f+1,l,r,hlr,hrk,hm,hlo,hhi,h=>by
  show(if l≥r then KasT.ret l else KasT.ask (p.getD k 0) (p.getD ((l+r)/2) 0) fun c=>if c=true then kas_place p k f l ((l+r)/2)else kas_place p k f ((l+r)/2+1) r).kasWp cmp Q s
  by_cases hge:l≥r
  ·rw[aN hge]
   have e:l=r:=Ci hlr hge
   subst e
   exact h l hrk hlo hhi
  ·rw[aP hge]
   have hc:(l+r)/2<r:=half_lt (Nat.not_le.mp hge)
   have hd:l<=(l+r)/2:=xZ (Nat.not_le.mp hge)
   generalize (l+r)/2=c at hc hd⊢
   refine ok _ _ _ (hp.lt hk) (hp.lt (wM (dJ hc hrk) hk)) ?_
   cases hless:O.blt (key (p.getD k 0)) (key (p.getD c 0))with
   |true=>
    refine place ok hp hk hs f l c hd (uf (dJ hc hrk)) (yM (dJ (Nat.sub_lt_sub_right hd hc) hm)) hlo (fun i h1 h2=> ?_) h
    by_cases hi:i=c
    ·subst hi;exact hless
    ·exact KeyOrd.klt_of_klt_of_kle hless (hs c i h1 h2)
   |false=>
    refine place ok hp hk hs f (c+1) r hc hrk (yM (dJ (Nat.sub_lt_sub_left (ug hd hc) (Nat.lt_succ_of_le hd)) hm)) (fun i h1=> ?_) hhi h
    by_cases hi:i=c
    ·subst hi;exact hless
    ·exact GZ (hs i c (yM h1) (dJ hc hrk)) hless
theorem FN{p:Array Nat}{k l:Nat}(hs:So key p k)(hl:l<=k)(hsz:k<p.size)(hlo:∀i,i<l->O.kle (KN key p i) (KN key p k))(hhi:∀i,l<=i->i<k->O.klt (KN key p k) (KN key p i)):So key (bubble p k (k-l)) (k+1):=by
 intro i j hij hj
 have e:k-(k-l)=l:=Nat.sub_sub_self hl
 rw[v9 hsz (GC _ _),v9 hsz (GC _ _),e]
 have hjk:j<=k:=yM hj
 by_cases hi1:i=l
 ·rw[aN hi1]
  by_cases hj1:j=l
  ·rw[aN hj1];exact wR _
  ·have lj:l<j:=yN (hi1▸hij) (oM hj1)
   rw[aP hj1,aN ⟨lj,hjk⟩]
   exact DY (hhi (j-1) (Gu lj) (Dy (ug (eX _) lj) hjk))
 ·rw[aP hi1]
  by_cases hi2:l<i/\i<=k
  ·have lj:l<j:=dJ hi2.1 hij
   rw[aN hi2,aP (oM (cT lj)),aN ⟨lj,hjk⟩]
   exact hs _ _ (Nat.sub_le_sub_right hij 1) (Dy (ug (eX _) lj) hjk)
  ·rw[aP hi2]
   have il:i<l:=yN (Nat.not_lt.mp fun z=>hi2 ⟨z,cP hij hjk⟩) hi1
   by_cases hj1:j=l
   ·rw[aN hj1];exact hlo i il
   ·rw[aP hj1]
    by_cases hj2:l<j/\j<=k
    ·rw[aN hj2];exact hs _ _ (Gu (wM il hj2.1)) (Dy (ug (eX _) hj2.1) hjk)
    ·rw[aP hj2];exact hs _ _ hij (dJ (yN (Nat.not_lt.mp fun z=>hj2 ⟨z,hjk⟩) hj1) hl)
theorem bins(ok:eV O key N cmp s){Q:Array Nat->Shared->Prop}:∀(f:Nat) (p:Array Nat) (k:Nat),Ord N p->1<=k->k+f=N->So key p k->(∀p',Ord N p'->So key p' N->Q p' s)->(kas_bin f p k).kasWp cmp Q s
 |0,p,k,hp,_,hf,hs,h=>h p hp ((show k=N from hf)▸hs)
 |f+1,p,k,hp,h1,hf,hs,h=>by
  show((kas_place p k k 0 k).bind fun l=>kas_bin f (bubble p k (k-l)) (k+1)).kasWp cmp Q s
  rw[DR]
  have hk:k<N:=pG (qg hf)
  have hsz:k<p.size:=by rw[hp.size];exact hk
  refine place ok hp hk hs k 0 k (eX _) (bD _) (GC _ _) (fun i hi=>absurd hi (Nat.not_lt_zero _)) (fun i h1 h2=>absurd h2 (Nat.not_lt.mpr h1)) fun l hl hlo hhi=> ?_
  exact bins ok f _ (k+1) (hp.Pr _ _) (ud _) ((Gy k f).trans hf) (FN hs hl hsz hlo hhi) h
theorem sort(ok:eV O key N cmp s){Q:Array Nat->Shared->Prop}(h1:1<=N)(h:∀p',Ord N p'->So key p' N->Q p' s):(kas_sort N).kasWp cmp Q s:=by
 unfold kas_sort
 rw[DR]
 refine count ok ⟨Array.Perm.refl _⟩ h1 fun m p' hp hm1 hm2 hs=> ?_
 dsimp only
 by_cases hlt:m<N
 ·rw[aN hlt]
  have e:max m 1=m:=by omega
  rw[e]
  exact bins ok _ _ _ hp hm1 (by omega) hs h
 ·rw[aP hlt]
  have e:m=N:=by omega
  subst e
  exact h p' hp hs
end
end pX
namespace pX
open PySem PySem.W PyProof.Rows PySem.Calls
def yC{O:KeyOrd}(key:Nat->O.α)(vs out:List Value):Prop:=∃p:Array Nat,Ord vs.length p/\So key p vs.length/\out=p.toList.map fun i=>vs.getD i Value.none
section
variable{prog:Program}{w:World}{A:Around}{E:Value->Shared->Prop}{s:Shared}{O:KeyOrd}{key:Nat->O.α}{κ:SortKind}{vs:List Value}
theorem pB(h2:vs.length<2):yC key vs vs:=by
 refine⟨List.toArray (List.range vs.length),⟨Array.Perm.refl _⟩,fun i j hij hj=> ?_,?_⟩
 ·have e:i=j:=by omega
  subst e;exact wR _
 ·match vs,h2 with
  |[],_=>rfl
  |[v],_=>rfl
  |_::_::_,h=>simp at h;omega
theorem jT{a:Addr}{n:Nat}{P:PySem.Fin->Shared->Prop}(ho:s.heap.get? a=some (seqObj "list" vs.toArray n))(h64:vs.length<64)(hkind:2<=vs.length->∀h',(∀b o,b≠a->s.heap.get? b=some o->h'.get? b=some o)->∀Q:SortKind->Shared->Prop,Q κ {s with heap:=h'}->wpAny (model prog w) A (keyKind' vs.toArray) Q E {s with heap:=h'})(Bh:2<=vs.length->∀h',(∀b o,b≠a->s.heap.get? b=some o->h'.get? b=some o)->eV O key vs.length (kas_ask prog w A κ vs) {s with heap:=h'})(h:∀h' out c,yC key vs out->(∀b o,b≠a->s.heap.get? b=some o->h'.get? b=some o)->h'.get? a=some (seqObj "list" (List.toArray out) c)->P (.done (.ret .none)) {s with heap:=h'}):
  wpAny (model prog w) A (Builtin.«list.sort» ⟨[.ref a],[]⟩) P E s:=by
 have ha:a<s.heap.objs.size:=cB ho
 have s1:=Cy s.heap a (Obj.mapSeq fun _=>(#[]:Array Value))
 obtain⟨e1,ho1⟩:∃e1,(s.heap.update a (Obj.mapSeq fun _=>(#[]:Array Value))).get? a=some (seqObj "list" #[] e1):=⟨_,Cw ho fun _=>#[]⟩
 have keep:∀b o,b≠a->s.heap.get? b=some o->(((s.heap.update a (Obj.mapSeq fun _=>(#[]:Array Value))).push (seqObj "tuple" vs.toArray 0)).push (seqObj "list" #[] 0)).get? b=some o:=fun b o hb e=>
  fO _ (fO _ ((s1.2 b hb).trans e))
 have ho6:(((s.heap.update a (Obj.mapSeq fun _=>(#[]:Array Value))).push (seqObj "tuple" vs.toArray 0)).push (seqObj "list" #[] 0)).get? a=some (seqObj "list" #[] e1):=fO _ (fO _ ho1)
 rw[list_sort_plain]
 refine aR (listItems_at ho rfl ?_)
 refine aR (listUpdate_at ho rfl ?_ (by rw[dI,eF];omega) (eX _))
 refine aR (seqEpoch_at ho1 rfl ?_)
 refine aR (wpAny_newTuple ?_ (by show vs.length<=_;rw[eF];omega))
 refine aR (wpAny_newList ?_ (eX _))
 refine wQ ?_
 show wpAny (model prog w) A _ P E {s with heap:=((s.heap.update a (Obj.mapSeq fun _=>(#[]:Array Value))).push (seqObj "tuple" vs.toArray 0)).push (seqObj "list" #[] 0)}
 dsimp only
 by_cases h2:vs.toArray.size<2
 ·have h2':vs.length<2:=by simpa using h2
  rw[aN h2,aN h2]
  refine aR (cA ?_)
  rw[StateT.run_pure]
  refine aR (cA ?_)
  dsimp only
  refine aR (seqEpoch_at ho6 rfl ?_)
  refine aR (listUpdate_at ho6 rfl ?_ (eX _) (by rw[Array.size_map];show(pairsOf vs).size<=_;rw[pairsOf_size,eF];omega))
  simp only[bne_self_eq_false,Ea,Dz]
  refine cA ?_
  have eo:(vs.toArray.zip vs.toArray).map (·.2)=List.toArray vs:=by
   apply Array.toList_inj.mp
   simp[List.map_snd_zip]
  have s2:=Cy (((s.heap.update a (Obj.mapSeq fun _=>(#[]:Array Value))).push (seqObj "tuple" vs.toArray 0)).push (seqObj "list" #[] 0)) a (Obj.mapSeq fun _=>List.toArray vs)
  obtain⟨c2,hc2⟩:∃c2,((((s.heap.update a (Obj.mapSeq fun _=>(#[]:Array Value))).push (seqObj "tuple" vs.toArray 0)).push (seqObj "list" #[] 0)).update a (Obj.mapSeq fun _=>List.toArray vs)).get? a=some (seqObj "list" (List.toArray vs) c2):=⟨_,Cw ho6 fun _=>List.toArray vs⟩
  have fin:=h _ vs c2 (pB h2') (fun b o hb e=>(s2.2 b hb).trans (keep b o hb e)) hc2
  first
   |exact fin
   |(rw[<-eo]at fin;exact fin)
   |(show P _ {s with heap:=Heap.update _ a (Obj.mapSeq fun _=>(vs.toArray.zip vs.toArray).map (·.2))};rw[eo];exact fin)
 ·have h2':2<=vs.length:=by rw[dI]at h2;omega
  rw[aP h2,aP h2]
  refine aR (hkind h2' _ keep _ ?_)
  refine aR (wC (kat_run (Q:=fun st' s'=>s'={s with heap:=((s.heap.update a (Obj.mapSeq fun _=>(#[]:Array Value))).push (seqObj "tuple" vs.toArray 0)).push (seqObj "list" #[] 0)}/\∃p:Array Nat,p.size=vs.length/\arrOf st'=p.map (kas_item (vs.toArray.zip vs.toArray))/\failedOf st'=none/\Ord vs.length p/\So key p vs.length)
   (G:=fun p s'=>s'={s with heap:=((s.heap.update a (Obj.mapSeq fun _=>(#[]:Array Value))).push (seqObj "tuple" vs.toArray 0)).push (seqObj "list" #[] 0)}/\Ord vs.length p/\So key p vs.length)
   rfl h2' h64 (fun p' st' s' a1 a2 a3 a4=>⟨a4.1,p',a1,a2,a3,a4.2.1,a4.2.2⟩) (sort (Bh h2' _ keep) (by omega) fun p' hp hs=>⟨rfl,hp,hs⟩)) ?_ fun _ _ e=>e)
  rintro⟨⟨⟩,st'⟩ s' ⟨rfl,p,hp,har,hf,hor,hso⟩
  dsimp only
  have hout:=kat_snds rfl har
  have hsz:(List.toArray (p.toList.map fun i=>vs.getD i Value.none)).size=vs.length:=by rw[dI,aQ,Cp,hp]
  rw[hout]
  refine aR (seqEpoch_at ho6 rfl ?_)
  refine aR (listUpdate_at ho6 rfl ?_ (eX _) (cP (qg hsz) (by rw[eF];omega)))
  rw[hf]
  simp only[bne_self_eq_false,Ea,Dz]
  have s2:=Cy (((s.heap.update a (Obj.mapSeq fun _=>(#[]:Array Value))).push (seqObj "tuple" vs.toArray 0)).push (seqObj "list" #[] 0)) a (Obj.mapSeq fun _=>List.toArray (p.toList.map fun i=>vs.getD i Value.none))
  obtain⟨c2,hc2⟩:∃c2,((((s.heap.update a (Obj.mapSeq fun _=>(#[]:Array Value))).push (seqObj "tuple" vs.toArray 0)).push (seqObj "list" #[] 0)).update a (Obj.mapSeq fun _=>List.toArray (p.toList.map fun i=>vs.getD i Value.none))).get? a=some (seqObj "list" (List.toArray (p.toList.map fun i=>vs.getD i Value.none)) c2):=⟨_,Cw ho6 fun _=>_⟩
  exact cA (h _ _ c2 ⟨p,hor,hso,rfl⟩ (fun b o hb e=>(s2.2 b hb).trans (keep b o hb e)) hc2)
theorem oZ{l:Addr}{Q:Value->Shared->Prop}(hl:s.heap.IsList l vs.toArray)(h64:vs.length<64)(hkind:2<=vs.length->∀h',(∀b o,s.heap.get? b=some o->h'.get? b=some o)->∀(E:Value->Shared->Prop) (Q:SortKind->Shared->Prop),Q κ {s with heap:=h'}->wpAny (model prog w) A.in1.in1 (keyKind' vs.toArray) Q E {s with heap:=h'})(Bh:2<=vs.length->∀h',(∀b o,s.heap.get? b=some o->h'.get? b=some o)->eV O key vs.length (kas_ask prog w A.in1.in1 κ vs) {s with heap:=h'})(h:∀D h' out c,yC key vs out->s.heap.objs.size<=D->(∀b o,s.heap.get? b=some o->h'.get? b=some o)->h'.get? D=some (seqObj "list" (List.toArray out) c)->Q (.ref D) {s with heap:=h'}):
  wpAny (model prog w) A (call (.builtin "sorted") [.ref l]) Q E s:=by
 refine Calls.call_function_entry kind_sorted plain_sorted entry_sorted (args_sorted1 _) ?_
 unfold Builtin.«sorted»
 refine aR (m:=checkCount "sorted" 1 1 _) (cA ?_)
 refine aR (collect_list hl ?_ (by rw[eF];omega))
 refine aR (wpAny_newList ?_ (by rw[eF];omega))
 have hsz:((s.heap.push (seqObj "list" #[] 0)).update s.heap.objs.size (Obj.mapSeq (· ++vs.toArray))).objs.size=s.heap.objs.size+1:=by
  rw[Heap.size_update,size_push']
 have hoL:(((s.heap.push (seqObj "list" #[] 0)).update s.heap.objs.size (Obj.mapSeq (· ++vs.toArray))).push (seqObj "list" vs.toArray 0)).get? (s.heap.objs.size+1)=some (seqObj "list" vs.toArray 0):=by
  rw[<-hsz];exact lq _ rfl
 have keep:∀b o,s.heap.get? b=some o->(((s.heap.push (seqObj "list" #[] 0)).update s.heap.objs.size (Obj.mapSeq (· ++vs.toArray))).push (seqObj "list" vs.toArray 0)).get? b=some o:=fun b o q=>by
  have hlt:b<s.heap.objs.size:=cB q
  rw[Heap.get?_push_ne _ _ _ (by rw[hsz];exact cT (zN hlt)),Heap.get?_update_ne _ _ _ _ (cT hlt),Heap.get?_push_ne _ _ _ (cT hlt)]
  exact q
 have ne:∀b o,s.heap.get? b=some o->b≠s.heap.objs.size+1:=fun b o q=>cT (zN (cB q))
 show wpAny _ _ _ _ _ {s with heap:=((s.heap.push (seqObj "list" #[] 0)).update s.heap.objs.size (Obj.mapSeq (· ++vs.toArray))).push (seqObj "list" vs.toArray 0)}
 rw[hsz]
 refine aR (wQ (wpAny_call_entry slot_list_sort ⟨_,hoL,rfl⟩ entry_list_sort ?body (args_list_sort _)))
 case body=>
  refine jT (key:=key) (κ:=κ) (s:={s with heap:=((s.heap.push (seqObj "list" #[] 0)).update s.heap.objs.size (Obj.mapSeq (· ++vs.toArray))).push (seqObj "list" vs.toArray 0)}) hoL h64
   (fun h2 h' k Q hq=>hkind h2 h' (fun b o q=>k b o (ne b o q) (keep b o q)) _ Q hq) (fun h2 h' k=>Bh h2 h' fun b o q=>k b o (ne b o q) (keep b o q)) fun h' out c ho k hc=> ?_
  exact⟨_,rfl,cA ⟨_,rfl,h _ h' out c ho (Cr _) (fun b o q=>k b o (ne b o q) (keep b o q)) hc⟩⟩
end
end pX
namespace HT
open PySem PyProof.Rows
theorem bF:∀(a b:List Int),lexLt a b=decide (a<b)
 |[],[]=>by simp[lexLt]
 |[],_::_=>by simp[lexLt]
 |_::_,[]=>by simp[lexLt]
 |x::xs,y::ys=>by
  rw[lexLt_cons,bF xs ys]
  by_cases e:x=y
  ·subst e;simp
  ·rw[aP e]
   by_cases l:x<y
   ·simp[l,Gw]
   ·have:¬(x::xs<y::ys):=by rw[Gw];simp[l,e]
    simp[l,this]
end HT
namespace pX
open PySem PySem.W PyProof.Rows PySem.Calls
def lexOrd:KeyOrd where
 α:=List Int
 blt a b:=decide (a<b)
 irrefl a:=by simpa using List.lt_irrefl a
 trans a b c h1 h2:=by simp only[wU]at *;exact List.lt_trans h1 h2
 negTrans a b c h:=by
  simp only[wU]at *
  by_cases hab:a<b
  ·exact .inl hab
  ·exact .inr (List.lt_of_le_of_lt (List.not_lt.mp hab) h)
 total a b h1 h2:=by simp only[KR]at *;exact List.le_antisymm (List.not_lt.mp h2) (List.not_lt.mp h1)
section
variable{prog:Program}{w:World}{A:Around}{E:Value->Shared->Prop}{s:Shared}{Q:Bool->Shared->Prop}
theorem vD{na nb:Nat}{xs ys:List Value}{ns ms:List Int}(i:Nat)(hx:IntsAre xs ns)(hy:IntsAre ys ms)(hl:ns.length+nb=ms.length+na)(h:Q (HT.lexLt ns ms) s):KatLex prog w A true (decide (na<nb)) Q (xs.zip ys) i s:=by
 induction hx generalizing ys ms i with
 |nil=>
  rw[List.zip_nil_left]
  refine kat_nil ?_
  cases hy with
  |nil=>
   rw[HT.lexLt_nil_nil]at h
   rw[fQ (by simp only[Cj]at hl;omega)];exact h
  |cons c u hw=>
   rw[HT.lexLt_nil_cons]at h
   rw[cH (by simp only[Cj,mX]at hl;omega)];exact h
 |cons a t hv ih=>
  cases hy with
  |nil=>
   rw[List.zip_nil_right]
   refine kat_nil ?_
   rw[HT.lexLt_cons_nil]at h
   rw[fQ (by simp only[Cj,mX]at hl;omega)];exact h
  |cons c u hw=>
   rw[Ik]
   rw[HT.lexLt_cons]at h
   refine kat_cons (wpAny_eqBool_int ?_)
   refine kat_go (fun e=> ?_) fun e=> ?_
   ·have e':a=c:=by simpa using e
    rw[aN e']at h
    exact kat_yes (ih (i+1) hw (by simp only[mX]at hl;omega) h)
   ·have e':a≠c:=by simpa using e
    rw[aP e']at h
    refine kat_no ?_
    cases i with
    |zero=>exact oneLt_int h
    |succ i=>exact kat_one _ _ (lt_int (show PySem.W.BoolBack Q (.bool (decide (a<c))) s from h))
end
theorem xG{O:KeyOrd}{key:Nat->O.α}{α:Type}{vs out:List Value}{its:List α}{d:α}{f:α->O.α}{R:α->Value->Prop}(hR:Paired R its vs)(hk:∀i (hi:i<its.length),key i=f its[i])(h:yC key vs out):
  ∃its':List α,its'.Perm its/\Paired R its' out/\its'.Pairwise fun x y=>O.kle (f x) (f y):=by
 obtain⟨p,hp,hs,rfl⟩:=h
 have hl:=hR.length
 have get:∀{l₁:List α} {l₂:List Value} {i:Nat},Paired R l₁ l₂->(h:i<l₁.length)->∃v,l₂[i]? =some v/\R l₁[i] v:=by
  intro l₁ l₂ i q
  induction q generalizing i with
  |nil=>intro h;simp at h
  |cons r t ih=>
   intro h
   cases i with
   |zero=>exact⟨_,rfl,r⟩
   |succ i=>
    obtain⟨v,e,rv⟩:=ih (i:=i) (by simpa using h)
    exact⟨v,by simpa using e,by simpa using rv⟩
 have hlt:∀i∈p.toList,i<its.length:=fun i hi=>by
  have:=(HN.mp hp.perm).mem_iff.mp hi
  rw[hl];simpa using this
 refine⟨p.toList.map fun i=>its.getD i d,?_,?_,?_⟩
 ·have q:=(HN.mp hp.perm).map (fun i=>its.getD i d)
  refine q.trans ?_
  have e:(List.toArray (List.range vs.length)).toList.map (fun i=>its.getD i d)=its:=by
   rw[<-hl]
   apply List.ext_getElem?
   intro i
   simp only[dH]
   by_cases hi:i<its.length
   ·simp[hi]
   ·simp[hi]
  rw[e]
 ·have mk:∀l:List Nat,(∀i∈l,i<its.length)->Paired R (l.map fun i=>its.getD i d) (l.map fun i=>vs.getD i Value.none):=by
   intro l
   induction l with
   |nil=>intro _;exact .nil
   |cons i l ih=>
    intro hb
    refine .cons ?_ (ih fun j hj=>hb j (eE _ hj))
    have hi:=hb i cQ
    obtain⟨v,e,r⟩:=get hR hi
    have e1:its.getD i d=its[i]:=by simp[hi]
    have e2:vs.getD i Value.none=v:=by rw[mJ,e];rfl
    show R (its.getD i d) (vs.getD i Value.none)
    rw[e1,e2];exact r
  exact mk _ hlt
 ·rw[List.pairwise_iff_getElem]
  intro i j hi hj hij
  simp only[aQ,Cp]at hi hj
  simp only[List.getElem_map]
  have hsz:=hp.size
  have q:=hs i j (by omega) (by omega)
  have e:∀k (hk':k<p.size),KN key p k=f (its.getD p.toList[k] d):=fun k hk'=>by
   have e1:p.getD k 0=p.toList[k]:=by simp[Array.getD,hk']
   have hb:=hlt p.toList[k] (yL _)
   have e2:its.getD p.toList[k] d=its[p.toList[k]]:=by simp only[mJ,jQ hb,Ig]
   unfold KN
   rw[e1,e2]
   exact hk _ hb
  rw[e i hi,e j hj]at q
  exact q
end pX
namespace L2
open PySem PySem.Spec PyProof.Rows PySem.W
section
variable{X:Cx}
theorem gB:CallR X (.builtin "sorted") (fun xs H Q=>∃(a:Addr) (its:List (Addr×List Int)),xs=[.ref a]/\SqL X.K H a (its.map fun p=>V.ref p.1)/\(∀p∈its,SqT X.K H p.1 (p.2.map V.int)/\p.2≠[])/\its.length<64/\
  ∀(l:Addr) (its':List (Addr×List Int)),H l=none->its'.Perm its->its'.Pairwise (fun p q=>HT.lexLt q.2 p.2=false)->Q (.ref l) (upd H l (.lst (its'.map fun p=>V.ref p.1)))):=by
 intro pins s σ H xs us Q I r h
 obtain⟨a,its,rfl,hS,hT,h64,q⟩:=h
 obtain⟨u,rfl,ru⟩:=r.one
 cases ru
 obtain⟨vs,rv,pl,hz⟩:=I.list hS
 have hlen:its.length=vs.length:=by have:=rv.length;simpa using this
 -- the values beside the tuples
 have pr:Paired (fun(p:Addr×List Int) (v:Value)=>v= .ref p.1) its vs:=by
  have go:∀(l:List (Addr×List Int)) (us:List Value),Vals (l.map fun p=>V.ref p.1) us->Paired (fun(p:Addr×List Int) (v:Value)=>v= .ref p.1) l us:=by
   intro l
   induction l with
   |nil=>intro us h;cases h;exact .nil
   |cons p l ih=>
    intro us h
    cases h with
    |cons r t=>exact .cons r (ih _ t)
  exact go its vs rv
 have tup:∀p∈its,∃(items:List Value),IntsAre items p.2/\IsTup s.heap p.1 items.toArray:=fun p hp=>by
  obtain⟨its',r',t',_⟩:=I.tuple (hT p hp).1
  exact⟨its',intsAre_of r',t'⟩
 refine pX.oZ (O:=pX.lexOrd) (key:=fun i=>(its.getD i (0,[])).2) (κ:=tuples' true) (s:=s) pl.isList (by omega) (fun h2 h' k E' Q' hq=> ?_) (fun h2 h' k=> ?_) (fun D h' out c ho hD k hc=> ?_)
 ·have kt:∀(l:List (Addr×List Int)) (us:List Value),Paired (fun(p:Addr×List Int) (v:Value)=>v= .ref p.1) l us->(∀p∈l,p∈its)->∃fs:List Value,KatTups h' us fs/\fs.length=us.length/\∀v∈fs,∃i t,v=Value.int i t:=by
   intro l us h
   induction h with
   |nil=>intro _;exact⟨[],trivial,rfl,fun _ hv=>nomatch hv⟩
   | @cons p v l us r t ih=>
    intro hs
    obtain⟨fs,k1,k2,k3⟩:=ih fun p hp=>hs p (eE _ hp)
    obtain⟨items,hi,o,e,hc,n,hd⟩:=tup p (hs p cQ)
    have hne:=(hT p (hs p cQ)).2
    obtain⟨pa,pn⟩:=p
    dsimp only at hi hne e r
    cases hi with
    |nil=>exact absurd rfl hne
    |cons i t hi'=>
     rw[r]
     refine⟨Value.int i t::fs,KatTups.cons (k _ _ e) hc hd (by simp) k1,by simp[k2],fun v hv=> ?_⟩
     rcases fK.mp hv with e|e
     ·exact⟨i,t,e⟩
     ·exact k3 v e
  obtain⟨fs,k1,k2,k3⟩:=kt its vs pr fun _ hp=>hp
  refine kat_kind (s:={s with heap:=h'}) (T:= .type "int") k1 (by omega) (fun v hv=> ?_) (by rfl) hq
  obtain⟨i,t,rfl⟩:=k3 v hv
  exact fun A Q E s _ q=>cA q
 ·intro i j C hi hj hC
  rw[<-hlen]at hi hj
  have get:∀i (hi:i<its.length),vs.getD i Value.none= .ref its[i].1:=by
   have go:∀(l:List (Addr×List Int)) (us:List Value),Paired (fun(p:Addr×List Int) (v:Value)=>v= .ref p.1) l us->∀i (hi:i<l.length),us.getD i Value.none= .ref l[i].1:=by
    intro l us h
    induction h with
    |nil=>intro i hi;simp at hi
    |cons r t ih=>
     intro i hi
     cases i with
     |zero=>exact r
     |succ i=>simpa using ih i (by simpa using hi)
   exact go its vs pr
  unfold kas_ask
  rw[get i hi,get j hj]
  obtain⟨xi,hxi,oi,ei,ci,ni,di⟩:=tup its[i] (yL _)
  obtain⟨xj,Lq,oj,ej,cj,nj,dj⟩:=tup its[j] (yL _)
  refine kat_lt (s:={s with heap:=h'}) (k _ _ ei) di (k _ _ ej) dj ?_
  refine pX.vD 0 hxi Lq ?_ ?_
  ·have:=hxi.length;have:=Lq.length
   simp only[dI]
   omega
  ·rw[HT.bF]
   have e1:its.getD i (0,[])=its[i]:=by simp[hi]
   have e2:its.getD j (0,[])=its[j]:=by simp[hj]
   have hC':C (decide ((its.getD i (0,[])).2<(its.getD j (0,[])).2)) {s with heap:=h'}:=hC
   rw[e1,e2]at hC'
   exact hC'
 ·obtain⟨its',hp,hr,hw⟩:=pX.xG (d:=((0,[]):Addr×List Int)) (f:=fun p=>p.2) pr (fun i hi=>by show(its.getD i (0,[])).2=_;simp[hi]) ho
  have hn:H D=none:=I.hok.fresh hD
  have rv':Vals (its'.map fun p=>V.ref p.1) out:=by
   have go:∀(l:List (Addr×List Int)) (us:List Value),Paired (fun(p:Addr×List Int) (v:Value)=>v= .ref p.1) l us->Vals (l.map fun p=>V.ref p.1) us:=by
    intro l us h
    induction h with
    |nil=>exact .nil
    |cons r t ih=>exact .cons r ih
   exact go its' out hr
  have zl:(its'.map fun p=>V.ref p.1).length<=sizeLine:=by
   have:=hp.length_eq
   rw[aQ]
   exact uf (small1000 (by omega))
  have J:Inv X pins σ (upd H D (.lst (its'.map fun p=>V.ref p.1))) {s with heap:=h',toks:=s.toks}:=I.laid k hD ⟨zl,out,c,rv',hc⟩
  refine⟨.ref D,_,J,rfl,q D its' hn hp (hw.imp fun{x y} hxy=> ?_)⟩
  rw[HT.bF];exact hxy
end
end L2
namespace L2
open PySem PySem.Spec PyProof.Rows
section
variable{X:Cx}
theorem jG:∀{bs:List Bool} {us:List Value},Vals (bs.map V.bl) us->us=bs.map Value.bool
 |[],_,h=>by cases h;rfl
 |b::bs,_,h=>by
  cases h with
  |cons r t=>rw[wB,jG t];exact was (· ::_) r
theorem zF(hc:X.calm=true):CallR X (.builtin "all") (fun xs H Q=>∃(a:Addr) (bs:List Bool),xs=[.ref a]/\SqL X.K H a (bs.map V.bl)/\Q (.bl (bs.all id)) H):=by
 intro pins s σ H xs us Q I r h
 obtain⟨a,bs,rfl,hS,q⟩:=h
 obtain⟨u,rfl,ru⟩:=r.one
 cases ru
 obtain⟨vs,rv,pl,hz⟩:=I.list hS
 have hv:=jG rv
 have hl:=pl.isList
 have hlt:a<s.heap.objs.size:=by obtain⟨_,e,_⟩:=hl;exact cB e
 refine call_all_walk (Hh hl ?_)
 refine⟨s.heap.objs.size,[s.heap.objs.size,a],[s.heap.objs.size],vs.toArray.size,_,_,fun i=>(bs[i]?).getD true,rfl,Walks.list (A:=X.A.in1) (I.ok.hd hc) _ a (cT hlt) vs.toArray,
  ⟨⟨_,lq _ rfl,rfl,rfl⟩,hl.push _⟩,fun i v s' Q' E' hP hQ=> ?_,fun h' tk hk=> ?_⟩
 ·have hP':vs[i]? =some v:=by simpa using hP
  rw[hv,dH]at hP'
  cases e:bs[i]? with
  |none=>rw[e]at hP';cases hP'
  |some b=>
   rw[e]at hP'
   cases hP'
   simp only[e,Ig]at hQ
   exact wV hQ
 ·have e:((List.range vs.toArray.size).all fun i=>(bs[i]?).getD true)=bs.all id:=by
   rw[dI,hv,aQ];exact LSm.range_all bs
  rw[e]
  exact⟨.bl _,H,I.kept (LSm.kept_iter hk),rfl,q⟩
theorem vX(hc:X.calm=true):CallR X (.builtin "any") (fun xs H Q=>∃(a:Addr) (bs:List Bool),xs=[.ref a]/\SqL X.K H a (bs.map V.bl)/\Q (.bl (bs.any id)) H):=by
 intro pins s σ H xs us Q I r h
 obtain⟨a,bs,rfl,hS,q⟩:=h
 obtain⟨u,rfl,ru⟩:=r.one
 cases ru
 obtain⟨vs,rv,pl,hz⟩:=I.list hS
 have hv:=jG rv
 have hl:=pl.isList
 have hlt:a<s.heap.objs.size:=by obtain⟨_,e,_⟩:=hl;exact cB e
 refine call_any_walk (Hh hl ?_)
 refine⟨s.heap.objs.size,[s.heap.objs.size,a],[s.heap.objs.size],vs.toArray.size,_,_,fun i=>(bs[i]?).getD false,rfl,Walks.list (A:=X.A.in1) (I.ok.hd hc) _ a (cT hlt) vs.toArray,
  ⟨⟨_,lq _ rfl,rfl,rfl⟩,hl.push _⟩,fun i v s' Q' E' hP hQ=> ?_,fun h' tk hk=> ?_⟩
 ·have hP':vs[i]? =some v:=by simpa using hP
  rw[hv,dH]at hP'
  cases e:bs[i]? with
  |none=>rw[e]at hP';cases hP'
  |some b=>
   rw[e]at hP'
   cases hP'
   simp only[e,Ig]at hQ
   exact wV hQ
 ·have e:((List.range vs.toArray.size).any fun i=>(bs[i]?).getD false)=bs.any id:=by
   rw[dI,hv,aQ];exact LSm.range_any bs
  rw[e]
  exact⟨.bl _,H,I.kept (LSm.kept_iter hk),rfl,q⟩
def zE(K:W.Frag)(H:Hp):V->String->Prop
 | .non,T=>T="NoneType"
 | .bl _,T=>T="bool"
 | .int _,T=>T="int"
 | .str _,T=>T="str"
 | .ref a,T=>(T="tuple"/\∃xs,SqT K H a xs)\/(T="list"/\∃xs,SqL K H a xs)\/(T="dict"/\∃kvs,H a=some (.dK kvs))
 |_,_=>False
def pK(T C:String):Bool:=T==C||(T=="bool"&&C=="int")
theorem wJ:CallR X (.builtin "isinstance") (fun xs H Q=>∃(x:V) (T C:String),xs=[x,.ty C]/\zE X.K H x T/\(C="int"\/C="bool"\/C="tuple"\/C="list")/\Q (.bl (pK T C)) H):=by
 intro pins s σ H xs us Q I r h
 obtain⟨x,T,C,rfl,hk,hC,q⟩:=h
 obtain⟨u,v,rfl,ru,rv⟩:=r.two
 cases rv
 have vO:∀b,b=pK T C->EP X pins σ Q (.bool b) s:=fun b e=>⟨.bl b,H,I,rfl,by rw[e];exact q⟩
 have bW:∀b,b=pK T C->EP X pins σ Q (.bool b) {s with toks:=s.toks+1}:=fun b e=>⟨.bl b,H,I.tok _,rfl,by rw[e];exact q⟩
 cases x with
 |non=>
  cases ru;cases hk
  rcases hC with rfl|rfl|rfl|rfl
  ·exact IsiPair.NoneType_int (bW _ rfl)
  ·exact IsiPair.NoneType_bool (bW _ rfl)
  ·exact IsiPair.NoneType_tuple (bW _ rfl)
  ·exact IsiPair.NoneType_list (bW _ rfl)
 |bl b=>
  cases ru;cases hk
  rcases hC with rfl|rfl|rfl|rfl
  ·exact IsiPair.bool_int (vO _ rfl)
  ·exact IsiPair.bool_bool (vO _ rfl)
  ·exact IsiPair.bool_tuple (bW _ rfl)
  ·exact IsiPair.bool_list (bW _ rfl)
 |int i=>
  obtain⟨t,rfl⟩:=ru;cases hk
  rcases hC with rfl|rfl|rfl|rfl
  ·exact IsiPair.int_int (vO _ rfl)
  ·exact IsiPair.int_bool (bW _ rfl)
  ·exact IsiPair.int_tuple (bW _ rfl)
  ·exact IsiPair.int_list (bW _ rfl)
 |str z=>
  obtain⟨t,rfl⟩:=ru;cases hk
  rcases hC with rfl|rfl|rfl|rfl
  ·exact IsiPair.str_int (bW _ rfl)
  ·exact IsiPair.str_bool (bW _ rfl)
  ·exact IsiPair.str_tuple (bW _ rfl)
  ·exact IsiPair.str_list (bW _ rfl)
 |ref a=>
  cases ru
  rcases hk with⟨rfl,xs,hS⟩|⟨rfl,xs,hS⟩|⟨rfl,kvs,hS⟩
  ·obtain⟨its,_,⟨o,e,c,n,d⟩,_⟩:=I.tuple hS
   rcases hC with rfl|rfl|rfl|rfl
   ·exact IsiPair.tuple_int e c (bW _ rfl)
   ·exact IsiPair.tuple_bool e c (bW _ rfl)
   ·exact IsiPair.tuple_tuple e c (vO _ rfl)
   ·exact IsiPair.tuple_list e c (bW _ rfl)
  ·obtain⟨its,_,⟨o,n,e,c,d,_⟩,_⟩:=I.list hS
   rcases hC with rfl|rfl|rfl|rfl
   ·exact IsiPair.list_int e c (bW _ rfl)
   ·exact IsiPair.list_bool e c (bW _ rfl)
   ·exact IsiPair.list_tuple e c (bW _ rfl)
   ·exact IsiPair.list_list e c (vO _ rfl)
  ·obtain⟨_,_,vs,_,o,es,ep,e,c,_⟩:=I.hok a _ hS
   have c':o.cls= .type "dict":=c.1
   rcases hC with rfl|rfl|rfl|rfl
   ·exact IsiPair.dict_int e c' (bW _ rfl)
   ·exact IsiPair.dict_bool e c' (bW _ rfl)
   ·exact IsiPair.dict_tuple e c' (bW _ rfl)
   ·exact IsiPair.dict_list e c' (bW _ rfl)
 |_=>exact hk.elim
end
mutual
inductive DV(K:W.Frag)(H:Hp):V->PyData->Prop
 |non:DV K H .non .none
 |bl (b:Bool):DV K H (.bl b) (.bool b)
 |int (i:Int):DV K H (.int i) (.int i)
 |str (x:Str):DV K H (.str x) (.str x)
 |tup {a:Addr} {xs:List V} {ds:List PyData} (h:SqT K H a xs) (t:bH K H xs ds):DV K H (.ref a) (.tuple ds)
 |lst {a:Addr} {xs:List V} {ds:List PyData} (h:SqL K H a xs) (t:bH K H xs ds):DV K H (.ref a) (.list ds)
 |LR {a:Addr} (h:H a=some (.dK [])):DV K H (.ref a) (.dict [])
 |dc1 {a b:Addr} {i:Int} (h:H a=some (.dK [(Sum.inl i,.ref b)])) (t:SqT K H b []):DV K H (.ref a) (.dict [(.int i,.tuple [])])
inductive bH(K:W.Frag)(H:Hp):List V->List PyData->Prop
 |nil:bH K H [] []
 |cons {x:V} {d:PyData} {xs:List V} {ds:List PyData} (h:DV K H x d) (t:bH K H xs ds):bH K H (x::xs) (d::ds)
end
theorem Same.tup{K:W.Frag}{H H':Hp}{a:Addr}{xs:List V}(e:Same H H')(h:SqT K H a xs):SqT K H' a xs:=by
 rcases h with(h|⟨o,h⟩)|h
 ·exact .inl (.inl (e _ _ h))
 ·exact .inl (.inr ⟨o,e _ _ h⟩)
 ·exact .inr h
theorem DV.same{K:W.Frag}{H H':Hp}(e:Same H H'){x:V}{d:PyData}(h:DV K H x d):DV K H' x d:=
 DV.rec (motive_1:=fun x d _=>DV K H' x d) (motive_2:=fun xs ds _=>bH K H' xs ds) .non (fun b=> .bl b) (fun i=> .int i) (fun x=> .str x) (fun h _ t=> .tup (e.tup h) t) (fun h _ t=> .lst (e.seq h) t) (fun h=> .LR (e _ _ h)) (fun h t=> .dc1 (e _ _ h) (e.tup t)) .nil (fun _ _ h t=> .cons h t) h
theorem bH.same{K:W.Frag}{H H':Hp}(e:Same H H'){xs:List V}{ds:List PyData}(h:bH K H xs ds):bH K H' xs ds:=
 bH.rec (motive_1:=fun x d _=>DV K H' x d) (motive_2:=fun xs ds _=>bH K H' xs ds) .non (fun b=> .bl b) (fun i=> .int i) (fun x=> .str x) (fun h _ t=> .tup (e.tup h) t) (fun h _ t=> .lst (e.seq h) t) (fun h=> .LR (e _ _ h)) (fun h t=> .dc1 (e _ _ h) (e.tup t)) .nil (fun _ _ h t=> .cons h t) h
theorem rZ{P:Program}{w:World}{es:List DictEntry}(h:Pairs (mixKind P w) es []):es=[]:=by
 cases h;rfl
theorem rY{P:Program}{w:World}{es:List DictEntry}{k:Key}{u:Value}(h:Pairs (mixKind P w) es [(k,u)]):∃e,es=[e]/\keyIs k e.key=true/\e.val=u:=by
 cases h with
 |cons h1 h2 h3=>
  cases h3
  exact⟨_,rfl,h1,h2⟩
section
variable{X:Cx}{pins:List (Addr×Obj)}{σ:St}{H:Hp}{s:Shared}
theorem sU(I:Inv X pins σ H s){a:Addr}(h:H a=some (.dK [])):Reads s.heap (.ref a) (.dict []) (a::[]++[])/\(a==sysModules)=false:=by
 obtain⟨_,hne,vs,r0,o,es,ep,e,c,d,_,pr,_⟩:=I.hok _ _ h
 cases r0
 have hes:es.toList=[]:=rZ pr
 refine⟨.dict (kvs:=[]) (as:=[]) (bs:=[]) e c.1 d ?_ ?_,hne⟩
 ·rw[hes];exact .nil
 ·rw[hes];exact .nil
theorem sS(I:Inv X pins σ H s){a b:Addr}{i:Int}(h:H a=some (.dK [(Sum.inl i,.ref b)]))(t:SqT X.K H b []):Reads s.heap (.ref a) (.dict [(.int i,.tuple [])]) (a::([]++[])++([]++[]))/\(a==sysModules)=false:=by
 obtain⟨_,hne,vs,r0,o,es,ep,e,c,d,_,pr,_⟩:=I.hok _ _ h
 obtain⟨its,rv,⟨o2,e2,c2,n2,d2⟩,_⟩:=I.tuple t
 cases rv
 cases r0 with
 | @cons p q ps qs hq tl=>
  cases tl
  obtain⟨en,he,hk,hv⟩:=rY pr
  obtain⟨k,u⟩:=q
  dsimp only at hq
  obtain⟨hk1,hu1⟩:=hq
  subst hk1
  cases hu1
  obtain⟨tk,ek⟩:∃tk,en.key=Value.int i tk:=by
   rcases wz hk with⟨i',t',e3,e4⟩|⟨x,t',e3,e4⟩
   ·cases e3;exact⟨t',e4⟩
   ·cases e3
  refine⟨.dict (kvs:=[(.int i,.tuple [])]) (as:=[]++[]) (bs:=[]++[]) e c.1 d ?_ ?_,hne⟩
  ·rw[he]
   show ReadsAll s.heap [en.key] [PyData.int i] _
   rw[ek]
   exact .cons (.int i tk) .nil
  ·rw[he]
   show ReadsAll s.heap [en.val] [PyData.tuple []] _
   rw[hv]
   exact .cons (.tuple e2 c2 d2 .nil) .nil
end
section
variable{X:Cx}{pins:List (Addr×Obj)}{σ:St}{H:Hp}{s:Shared}
theorem rR(I:Inv X pins σ H s){a:Addr}{xs:List V}{ds:List PyData}(h:SqT X.K H a xs)(t:∀{us:List Value},Vals xs us->∃as,ReadsAll s.heap us ds as){u:Value}(r:RelV (.ref a) u):∃as,Reads s.heap u (.tuple ds) as:=by
 cases r
 obtain⟨its,rv,⟨o,e,c,n,d⟩,_⟩:=I.tuple h
 obtain⟨as,ra⟩:=t rv
 exact⟨_,.tuple e c d (by simpa using ra)⟩
theorem rT(I:Inv X pins σ H s){a:Addr}{xs:List V}{ds:List PyData}(h:SqL X.K H a xs)(t:∀{us:List Value},Vals xs us->∃as,ReadsAll s.heap us ds as){u:Value}(r:RelV (.ref a) u):∃as,Reads s.heap u (.list ds) as:=by
 cases r
 obtain⟨its,rv,⟨o,n,e,c,_,d⟩,_⟩:=I.list h
 obtain⟨as,ra⟩:=t rv
 exact⟨_,.list e c d (by simpa using ra)⟩
theorem DV.reads(I:Inv X pins σ H s){x:V}{d:PyData}{u:Value}(h:DV X.K H x d)(r:RelV x u):∃as,Reads s.heap u d as:=
 DV.rec (motive_1:=fun x d _=>∀{u:Value},RelV x u->∃as,Reads s.heap u d as) (motive_2:=fun xs ds _=>∀{us:List Value},Vals xs us->∃as,ReadsAll s.heap us ds as)
  (fun r=>by cases r;exact⟨_,.none⟩) (fun b _ r=>by cases r;exact⟨_,.bool b⟩) (fun i _ r=>by obtain⟨t,rfl⟩:=r;exact⟨_,.int i t⟩) (fun x _ r=>by obtain⟨t,rfl⟩:=r;exact⟨_,.str x t⟩)
  (fun h _ t _ r=>rR I h t r) (fun h _ t _ r=>rT I h t r) (fun h _ r=>by cases r;exact⟨_,(sU I h).1⟩) (fun h t _ r=>by cases r;exact⟨_,(sS I h t).1⟩)
  (fun r=>by cases r;exact⟨_,.nil⟩) (fun _ _ h t _ r=>by
   cases r with
   |cons r rr=>
    obtain⟨as,ra⟩:=h r
    obtain⟨bs,rb⟩:=t rr
    exact⟨_,.cons ra rb⟩) h r
theorem bH.reads(I:Inv X pins σ H s){xs:List V}{ds:List PyData}{us:List Value}(h:bH X.K H xs ds)(r:Vals xs us):∃as,ReadsAll s.heap us ds as:=
 bH.rec (motive_1:=fun _ _ _=>True) (motive_2:=fun xs ds _=>∀{us:List Value},Vals xs us->∃as,ReadsAll s.heap us ds as) trivial (fun _=>trivial) (fun _=>trivial) (fun _=>trivial) (fun _ _ _=>trivial) (fun _ _ _=>trivial) (fun _=>trivial) (fun _ _=>trivial)
  (fun r=>by cases r;exact⟨_,.nil⟩) (fun h _ _ t _ r=>by
   cases r with
   |cons r rr=>
    obtain⟨as,ra⟩:=DV.reads I h r
    obtain⟨bs,rb⟩:=t rr
    exact⟨_,.cons ra rb⟩) h r
end
mutual
def Nh:PyData->Bool
 | .list _=>false
 | .tuple ds=>En ds
 |_=>true
def En:List PyData->Bool
 |[]=>true
 |d::ds=>Nh d&&En ds
end
section
variable{X:Cx}{pins:List (Addr×Obj)}{σ:St}{H:Hp}{s:Shared}
end
theorem bH.ints{K:W.Frag}{H:Hp}:∀(ns:List Int),bH K H (ns.map V.int) (ns.map PyData.int)
 |[]=> .nil
 |n::ns=> .cons (.int n) (bH.ints ns)
theorem bH.len{K:W.Frag}{H:Hp}{xs:List V}{ds:List PyData}(h:bH K H xs ds):xs.length=ds.length:=
 bH.rec (motive_1:=fun _ _ _=>True) (motive_2:=fun xs ds _=>xs.length=ds.length) trivial (fun _=>trivial) (fun _=>trivial) (fun _=>trivial) (fun _ _ _=>trivial) (fun _ _ _=>trivial) (fun _=>trivial) (fun _ _=>trivial) rfl (fun _ _ _ t=>was Nat.succ t) h
section
variable{X:Cx}
theorem v7:∀{ds:List PyData},PyData.canLayAll0 ds=true->∀d∈ds,d.canLay0=true
 |[],_,d,h=>nomatch h
 |e::ds,h,d,hd=>by
  have h':(e.canLay0&&PyData.canLayAll0 ds)=true:=h
  rw[fL]at h'
  rcases fK.mp hd with rfl|hd
  ·exact h'.1
  ·exact v7 h'.2 d hd
open Classical in
theorem lO(hu:X.A.units+64<cLine):OpR X (compareOp .In) (fun x y H Q=>∃(p:Addr) (xs:List V) (ds:List PyData) (dx:PyData),y= .ref p/\(SqL X.K H p xs\/SqT X.K H p xs)/\bH X.K H xs ds/\DV X.K H x dx/\PyData.canLayAll0 ds=true/\dx.canLay0=true/\dx.depth<=60/\
  Q (.bl (ds.any fun d=>PyData.eqv d dx)) H):=by
 intro pins s σ H x y v u Q I rx ry h
 obtain⟨p,xs,ds,dx,rfl,hq,hds,hx,ca,cb,hd,q⟩:=h
 cases ry
 obtain⟨bs,rb⟩:=DV.reads I hx rx
 have key:∀{its:List Value},Vals xs its->(∀y∈its,SeqAt.EqAt X.A.in1 s y v (decide (∃d as,Reads s.heap y d as/\d∈ds/\PyData.eqv d dx=true)))/\(its.any fun y=>decide (∃d as,Reads s.heap y d as/\d∈ds/\PyData.eqv d dx=true))=ds.any fun d=>PyData.eqv d dx:=by
  intro its rv
  obtain⟨as,ra⟩:=bH.reads I hds rv
  have each:∀{us:List Value} {es:List PyData} {as:List Addr},ReadsAll s.heap us es as->(∀e∈es,e∈ds)->(∀y∈us,SeqAt.EqAt X.A.in1 s y v (decide (∃d as,Reads s.heap y d as/\d∈ds/\PyData.eqv d dx=true)))/\(us.any fun y=>decide (∃d as,Reads s.heap y d as/\d∈ds/\PyData.eqv d dx=true))=es.any fun d=>PyData.eqv d dx:=by
   intro us
   induction us with
   |nil=>intro es as h _;cases h;exact⟨(fun y hy=>(nomatch hy)),rfl⟩
   |cons y us ih=>
    intro es as h hs
    cases h with
    | @cons _ _ d ds' as' bs' r rr=>
     obtain⟨i1,i2⟩:=ih rr fun e he=>hs e (eE _ he)
     have cl:=v7 ca d (hs d cQ)
     have e:decide (∃d as,Reads s.heap y d as/\d∈ds/\PyData.eqv d dx=true)=PyData.eqv d dx:=by
      rw[mY,wU]
      constructor
      ·rintro⟨d',as'',r',_,q'⟩
       obtain⟨rfl,_⟩:=(PySem.Reads.unique r _ _ r')
       exact q'
      ·intro q'
       exact⟨d,_,r,hs d cQ,q'⟩
     refine⟨fun z hz=> ?_,?_⟩
     ·rcases fK.mp hz with rfl|hz
      ·rw[e]
       exact SeqAt.eqAt_reads d dx _ s _ _ _ _ r rb cl cb (by show X.A.units+1+min d.depth dx.depth<cLine;omega)
      ·exact i1 z hz
     ·rw[HW,HW,i2,e]
  exact each ra fun e he=>he
 rcases hq with hq|hq
 ·obtain⟨its,r,pl,hz⟩:=I.list hq
  obtain⟨k1,k2⟩:=key r
  refine SeqAt.in_listAt _ pl.isList (fun w hw=>k1 w (by simpa using hw)) ⟨.bl _,H,I,rfl,?_⟩
  rw[show∀f:Value->Bool,its.toArray.any f=its.any f from fun f=>by simp,k2]
  exact q
 ·obtain⟨its,r,pl,hz⟩:=I.tuple hq
  obtain⟨k1,k2⟩:=key r
  refine SeqAt.in_tupleAt _ pl (fun w hw=>k1 w (by simpa using hw)) ⟨.bl _,H,I,rfl,?_⟩
  rw[show∀f:Value->Bool,its.toArray.any f=its.any f from fun f=>by simp,k2]
  exact q
end
end L2
namespace HT
open PySem PyProof.Rows
section
open PySem.SeqAt
open PySem.AutoSeq1 (wpAny_loadPart')
open PySem.MeetsSeq PySem.MeetsSeq2 PySem.MeetsSeq3
end
section
variable{prog:Program}{w:World}{A:Around}{E:Value->Shared->Prop}{s:Shared}
end
end HT
namespace L2
open PySem PySem.Spec PyProof.Rows
section
variable{X:Cx}
theorem Ag:OpR X (compareOp .Is) (fun x y H Q=>∃a b,x= .bl a/\y= .bl b/\Q (.bl (a==b)) H):=by
 intro pins s σ H x y v u Q I rx ry h
 obtain⟨a,b,rfl,rfl,q⟩:=h
 cases rx;cases ry
 exact is_bool ⟨.bl _,H,I,rfl,q⟩
theorem uY:OpR X (binaryOp .FloorDiv) (rI (fun _ j=>0<j/\j<1000000000000000000000000000000) fun i j=> .int (i/j)):=opI fun i j _ _ _ _ _ hc q=>by
 have h1:(0:Int)<j:=hc.1
 have h2:j<1000000000000000000000000000000:=hc.2
 refine floordiv_int (by omega) ?_ (Or.inl (PyProof.noPylong_of_log2 ?_))
 ·rw[Int.fdiv_eq_ediv_of_nonneg _ (by omega)]
  exact q
 ·have h3:j.natAbs≠0:=by omega
  have h4:j.natAbs<2^100:=by
   have:(2:Nat)^100=1267650600228229401496703205376:=by decide
   omega
  have:=(Nat.log2_lt h3).mpr h4
  omega
def zc(K:W.Frag):R2:=fun x y H Q=>∃a b xs ys,x= .ref a/\y= .ref b/\SqT K H a xs/\SqT K H b ys/\xs.length+ys.length<=sizeLine/\∀r H',Same H H'->SqT K H' r (xs++ys)->Q (.ref r) H'
theorem qQ:OpR X (binaryOp .Add) (zc X.K):=by
 intro pins s σ H x y v u Q I rx ry h
 obtain⟨a,b,xs,ys,rfl,rfl,ha,hb,hz,q⟩:=h
 by_cases hx:xs=[]
 ·subst hx
  cases rx
  cases ry
  obtain⟨its,r1,p1,_⟩:=I.tuple ha
  obtain⟨its2,r2,p2,_⟩:=I.tuple hb
  cases r1
  obtain⟨⟨cls,dd,data,sl⟩,ho,hc,n,hd⟩:=id p1
  obtain⟨⟨cls2,dd2,data2,sl2⟩,ho2,hc2,n2,hd2⟩:=id p2
  simp only at hc hd hc2 hd2
  subst hc hd hc2 hd2
  exact concat_meets ⟨_,ho,rfl⟩ ⟨_,ho2,rfl⟩ Ih seq_tuple_add I9 Ja (Jb _ _)
   (tuple_addW0 a b _ _ n n2 dd dd2 sl sl2 (by simp)) ⟨ho,ho2,⟨.ref b,H,I,rfl,q b H (Same.refl _) hb⟩⟩
 ·refine op_catT pins s σ H _ _ v u Q I rx ry ⟨a,b,xs,ys,rfl,rfl,ha,hb,hx,hz,fun e=> ?_,fun e p hp=> ?_⟩
  ·subst e
   exact q a H (Same.refl _) (by rw[mW];exact ha)
  ·exact q p _ (fun c o e=>by rw[dG (jP e hp)];exact e) (SqT.of aL)
end
end L2
namespace HT
open PySem PySem.Calls PySem.Spec PyProof.Rows PySem.W
section
variable{prog:Program}{w:World}{A:Around}{E:Value->Shared->Prop}{s:Shared}
end
end HT
namespace L2
open PySem PySem.Spec PyProof.Rows
section
variable{X:Cx}{e m:Expr}{te:TE}{tm:TO}{pos p2:Pos}
end
section
variable{X:Cx}{tg:Expr}
def Bf(K:W.Frag)(tl:TE):TI:=fun σ H R=>tl σ H fun x H1=>∃a xs,x= .ref a/\SqL K H1 a xs/\(xs.length<=sizeLine->R (Itl K a) H1)
def zq(K:W.Frag)(tl:TE):TI:=fun σ H R=>tl σ H fun x H1=>∃a xs,x= .ref a/\SqT K H1 a xs/\(xs.length<=sizeLine->R (Itt K a) H1)
theorem gj{l:Expr}{tl:TE}(hl:PE X l tl):PI X tg l (Bf X.K tl):=by
 intro pins s σ H R I h
 refine thn (hl pins s σ H _ I h) fun v s1 ⟨x,H1,I1,r1,q1⟩=> ?_
 obtain⟨a,xs,e,hq,q⟩:=q1
 subst e
 cases r1
 obtain⟨its,rv,p,hz⟩:=I1.list hq
 refine Hh p.isList ?_
 refine⟨s1.heap.objs.size,[s1.heap.objs.size],_,_,H1,rfl,I1.kept (t':=s1.toks) fun b o e=>fO _ e,turn_list a _,⟨_,lq _ rfl,rfl,rfl⟩,fun b hb=> ?_,q hz⟩
 have e:b=s1.heap.objs.size:=by simpa using hb
 subst e
 exact I1.fpOk (bD _) (I1.hok.fresh (bD _))
theorem tW{l:Expr}{tl:TE}(hl:PE X l tl):PI X tg l (zq X.K tl):=by
 intro pins s σ H R I h
 refine thn (hl pins s σ H _ I h) fun v s1 ⟨x,H1,I1,r1,q1⟩=> ?_
 obtain⟨a,xs,e,hq,q⟩:=q1
 subst e
 cases r1
 obtain⟨its,rv,p,hz⟩:=I1.tuple hq
 refine wpAny_pyIter_tuple (show s1.heap.IsTuple a its.toArray from p) ?_
 refine⟨s1.heap.objs.size,[s1.heap.objs.size],_,_,H1,rfl,I1.kept (t':=s1.toks) fun b o e=>fO _ e,turn_tuple a _,⟨_,lq _ rfl,rfl,rfl⟩,fun b hb=> ?_,q hz⟩
 have e:b=s1.heap.objs.size:=by simpa using hb
 subst e
 exact I1.fpOk (bD _) (I1.hok.fresh (bD _))
theorem tX:CallR X (.builtin "len") (fun xs H Q=>∃p ys,xs=[.ref p]/\(SqL X.K H p ys\/SqT X.K H p ys)/\(ys.length<=16777216->Q (.int ys.length) H)):=by
 intro pins s σ H xs us Q I r h
 obtain⟨p,ys,rfl,hq,q⟩:=h
 have hz:ys.length<=16777216:=by
  rw[<-eF]
  rcases hq with hq|hq
  ·exact(I.list hq).choose_spec.2.2
  ·exact(I.tuple hq).choose_spec.2.2
 exact call_len_seq pins s σ H _ us Q I r ⟨p,ys,rfl,hq,q hz⟩
end
mutual
inductive DX(K:W.Frag)(H:Hp):V->PyData->Prop
 |non:DX K H .non .none
 |bl (b:Bool):DX K H (.bl b) (.bool b)
 |int (i:Int):DX K H (.int i) (.int i)
 |str (x:Str):DX K H (.str x) (.str x)
 |tup {a:Addr} {xs:List V} {ds:List PyData} (h:SqT K H a xs) (t:jc K H xs ds):DX K H (.ref a) (.tuple ds)
 |lst {a:Addr} {xs:List V} {ds:List PyData} (h:SqL K H a xs) (t:jc K H xs ds):DX K H (.ref a) (.list ds)
 |dct {a:Addr} {kvs:List (Key×V)} (ds:List (PyData×PyData)) (h:H a=some (.dK kvs)):DX K H (.ref a) (.dict ds)
inductive jc(K:W.Frag)(H:Hp):List V->List PyData->Prop
 |nil:jc K H [] []
 |cons {x:V} {d:PyData} {xs:List V} {ds:List PyData} (h:DX K H x d) (t:jc K H xs ds):jc K H (x::xs) (d::ds)
end
theorem DX.same{K:W.Frag}{H H':Hp}(e:Same H H'){x:V}{d:PyData}(h:DX K H x d):DX K H' x d:=
 DX.rec (motive_1:=fun x d _=>DX K H' x d) (motive_2:=fun xs ds _=>jc K H' xs ds) .non (fun b=> .bl b) (fun i=> .int i) (fun x=> .str x) (fun h _ t=> .tup (e.tup h) t) (fun h _ t=> .lst (e.seq h) t) (fun ds h=> .dct ds (e _ _ h)) .nil (fun _ _ h t=> .cons h t) h
theorem jc.same{K:W.Frag}{H H':Hp}(e:Same H H'){xs:List V}{ds:List PyData}(h:jc K H xs ds):jc K H' xs ds:=
 jc.rec (motive_1:=fun x d _=>DX K H' x d) (motive_2:=fun xs ds _=>jc K H' xs ds) .non (fun b=> .bl b) (fun i=> .int i) (fun x=> .str x) (fun h _ t=> .tup (e.tup h) t) (fun h _ t=> .lst (e.seq h) t) (fun ds h=> .dct ds (e _ _ h)) .nil (fun _ _ h t=> .cons h t) h
theorem DV.dx{K:W.Frag}{H:Hp}{x:V}{d:PyData}(h:DV K H x d):DX K H x d:=
 DV.rec (motive_1:=fun x d _=>DX K H x d) (motive_2:=fun xs ds _=>jc K H xs ds) .non (fun b=> .bl b) (fun i=> .int i) (fun x=> .str x) (fun h _ t=> .tup h t) (fun h _ t=> .lst h t) (fun h=> .dct [] h) (fun h _=> .dct _ h) .nil (fun _ _ h t=> .cons h t) h
theorem bH.dx{K:W.Frag}{H:Hp}{xs:List V}{ds:List PyData}(h:bH K H xs ds):jc K H xs ds:=
 bH.rec (motive_1:=fun _ _ _=>True) (motive_2:=fun xs ds _=>jc K H xs ds) trivial (fun _=>trivial) (fun _=>trivial) (fun _=>trivial) (fun _ _ _=>trivial) (fun _ _ _=>trivial) (fun _=>trivial) (fun _ _=>trivial) .nil (fun h _ _ t=> .cons h.dx t) h
def nP:PyData->String
 | .none=>"NoneType"
 | .bool _=>"bool"
 | .int _=>"int"
 | .str _=>"str"
 | .list _=>"list"
 | .tuple _=>"tuple"
 | .dict _=>"dict"
theorem DX.kind{K:W.Frag}{H:Hp}:∀{x:V} {d:PyData},DX K H x d->zE K H x (nP d)
 |_,_,.non=>rfl
 |_,_,.bl _=>rfl
 |_,_,.int _=>rfl
 |_,_,.str _=>rfl
 |_,_,.tup h _=> .inl ⟨rfl,_,h⟩
 |_,_,.lst h _=> .inr (.inl ⟨rfl,_,h⟩)
 |_,_,.dct _ h=> .inr (.inr ⟨rfl,_,h⟩)
theorem jc.len{K:W.Frag}{H:Hp}{xs:List V}{ds:List PyData}(h:jc K H xs ds):xs.length=ds.length:=
 jc.rec (motive_1:=fun _ _ _=>True) (motive_2:=fun xs ds _=>xs.length=ds.length) trivial (fun _=>trivial) (fun _=>trivial) (fun _=>trivial) (fun _ _ _=>trivial) (fun _ _ _=>trivial) (fun _ _=>trivial) rfl (fun _ _ _ t=>was Nat.succ t) h
theorem jc.get{K:W.Frag}{H:Hp}:∀{xs:List V} {ds:List PyData} {i:Nat} {x:V},jc K H xs ds->xs[i]? =some x->∃d,ds[i]? =some d/\DX K H x d
 |_,_,_,_,.nil,e=>by simp at e
 |_,_,0,_,.cons h _,e=>by simp at e;subst e;exact⟨_,rfl,h⟩
 |_,_,i+1,x,.cons _ t,e=>by
  obtain⟨d,h1,h2⟩:=jc.get (i:=i) t (by simpa using e)
  exact⟨d,by simpa using h1,h2⟩
structure bU(K:W.Frag)(mg:Str->Option Value)(x:Str)(st:Stmt)(ps:List Str)(f:Addr)(fd:FuncData):Prop where
 F:Fun K x x st f fd
 b:Binds K fd ps []
 m:mg x=some (.ref f)
theorem pc{X:Cx}{x:Str}{st:Stmt}{ps:List Str}{f:Addr}{fd:FuncData}{j k:Nat}{sp:Sp}{E:XK}{e:Expr}{es:List Expr}{t:TA}{p pos:Pos}(F:FnOk X.prog X.w X.K X.mg X.base CX0 j f fd ps sp)(hr:Room k X.A)(D:bU X.K X.mg x st ps f fd)(ha:PA X (e::es) t)(hj:j<=k:=by first |decide|omega)(hg:Gl X x:=by rfl)(hx:Passes CX0 X E:=by exact pass0)(hdb:(x==("__debug__":Str))=false:=by decide)(he:starEach (e::es) X.env=(false,eval e X.env)::starEach es X.env:=by rfl)(hpl:(backTo pos (starEach es X.env)).any (·.1)=false:=by rfl):PE X (.Call (.Name x p) (e::es) [] pos) (tCall sp [] E t):=pe_call (F.mono hj) hr hg D.m D.F.kp D.b .nil hx ha hdb he hpl
theorem fsc{N P:List Str}{sc:Scope}(a:sc.kind= .function:=by rfl)(b:sc.isCoroutine=false:=by rfl)(c:sc.isGenerator=false:=by rfl)(d:N.Nodup:=by decide+kernel)(e:N.take P.length=P:=by rfl)(f:∀x∈P,sc.names.lookup x=some .local\/sc.names.lookup x=some .cell:=by decide+kernel)(g:∀y∈sc.names,y.2≠.free:=by decide+kernel):FnScope N P sc:=⟨a,b,c,d,e,f,g⟩
theorem aY{H:Hp}{p:Addr}(h:H p=none)(o:HO):Same H (upd H p o):=fun b u q=>by rw[dG (jP q h)];exact q
end L2
namespace tL
open PySem L2
def jd:PyData->Bool
 | .int _=>true
 |_=>false
def aV(n:Int):PyData->Bool
 | .int i=>decide (0<=i)&&decide (i<n)
 |_=>false
def intD:PyData->Int
 | .int i=>i
 |_=>0
def kids:PyData->List PyData
 | .tuple ds=>ds
 |_=>[]
def cY(ns:List Int):Bool:=(List.range (ns.length-1)).all fun k=>decide (ns.getD k 0<ns.getD (k+1) 0)
def cX(ts:List (List Int)):Bool:=(List.range (ts.length-1)).all fun k=>HT.lexLt (ts.getD k []) (ts.getD (k+1) [])
def lF(n:Int):PyData->Bool
 | .tuple ds=>ds.all (aV n)&&cY (ds.map intD)
 |_=>false
def fj(n:Int)(d:PyData):Bool:=lF n d&&decide ((kids d).length=2)
def jh(n:Int):PyData->Bool
 | .tuple ds=>ds.all (fj n)&&cX (ds.map fun t=>(kids t).map intD)
 |_=>false
def lu:PyData->Bool
 | .tuple [n,t]=>jd n&&(decide (0<=intD n)&&decide (intD n<=10))&&jh (intD n) t
 |_=>false
theorem pA{n:Int}:∀{d:PyData},aV n d=true->∃i,d= .int i/\0<=i/\i<n
 | .int i,h=>⟨i,rfl,by simpa[aV]using h⟩
end tL
namespace L2
open PySem PySem.Spec PyProof.Rows
section
variable{X:Cx}
theorem yE(K:W.Frag)(h:X.K=K:=by rfl):IxR X (rIxT K):=by subst h;exact dZ
theorem vI(K:W.Frag)(h:X.K=K:=by rfl):IxR X (rIxL K):=by subst h;exact qd
theorem ig(K:W.Frag)(h:X.K=K:=by rfl):CallR X (.builtin "len") (fun xs H Q=>∃p ys,xs=[.ref p]/\(SqL K H p ys\/SqT K H p ys)/\(ys.length<=16777216->Q (.int ys.length) H)):=by subst h;exact tX
theorem xH(K:W.Frag)(hu:X.A.units<cLine)(h:X.K=K:=by rfl):OpR X (compareOp .Lt) (rLtT K):=by subst h;exact op_ltT hu
theorem xJ(K:W.Frag)(hu:X.A.units+64<cLine)(h:X.K=K:=by rfl):OpR X (compareOp .In) (fun x y H Q=>∃(p:Addr) (xs:List V) (ds:List PyData) (dx:PyData),y= .ref p/\(SqL K H p xs\/SqT K H p xs)/\bH K H xs ds/\DV K H x dx/\PyData.canLayAll0 ds=true/\dx.canLay0=true/\dx.depth<=60/\
  Q (.bl (ds.any fun d=>PyData.eqv d dx)) H):=by subst h;exact lO hu
theorem gk(K:W.Frag){es:List Expr}{k:Nat}{t:TGs}{n:Nat}{pos:Pos}(hc:X.calm=true)(h:PGs X es t)(hn:(assignEach es X.env).length=n:=by rfl)(hst:(assignEach es X.env).findIdx? (·.1)=none:=by rfl)(hK:X.K=K:=by rfl):PG X (.Tuple es k pos) (gTup K n t):=by subst hK;exact pg_tup hc h hn hst
end
end L2
namespace PySem
open Sem (wp)
open AutoSeq1 (wpAny_loadPart')
section
variable{prog:Program}{w:World}{A:Around}{E:Value->Shared->Prop}{s:Shared}
theorem dU{Q:List Value->Shared->Prop}{r:Addr}{a b c:Int}{t u v:Tok}{n:Nat}(hh:A.handled=none)(hr:IsRange s.heap r a b c t u v)(hsmall:Builtin.Range.small a b c=true)(hn:Builtin.Range.rangeSize a b c=n)(hlen:n<=2^24)(hQ:∀h' tk acc,(∀b o',s.heap.get? b=some o'->h'.get? b=some o')->ItemsOf (fun i v=>∃t,v= .int (a+i*c) t) acc n->Q acc.toList {s with heap:=h',toks:=tk}):
  wpAny (model prog w) A (collect (.ref r)) Q E s:=by
 unfold collect
 refine aR (wpAny_runValue (DQ F.entry_proto_collect ?_));rw[Eb F.plain_proto_collect _];show wpAny _ A.in1 (newList []>>=fun l=>again (.builtin "list.__iadd__" ⟨[l,.ref r],[]⟩)) _ _ s;refine aR (Hj ?_);refine cA ⟨DP F.plain_list_iadd _,DQ F.entry_list_iadd ?_⟩;rw[Eb F.plain_list_iadd _]
 show wpAny _ A.in1 (Builtin.List.listExtendWith (.ref s.heap.objs.size) (.ref r) (.ref s.heap.objs.size)) _ _ _;have hS:(s.heap.push {cls:= .type "list",data:= .seq ([]:List Value).toArray}).get? s.heap.objs.size=some {cls:= .type "list",data:= .seq #[] 0}:=lq _ rfl;have fin':∀h' tk acc' c',(∀b o,b≠s.heap.objs.size->(s.heap.push {cls:= .type "list",data:= .seq ([]:List Value).toArray}).get? b=some o->h'.get? b=some o)->
   h'.get? s.heap.objs.size=some {cls:= .type "list",dict:=none,data:= .seq acc' c',slots:=#[]}->ItemsOf (fun i v=>∃t,v= .int (a+i*c) t) acc' n->wpAny (model prog w) A (match Value.ref s.heap.objs.size with
   |Value.ref a=>do
    match(<-load a).data with
     |Data.seq xs _=>pure xs.toList
     |_=>unsupported "internal:collect"
   |_=>unsupported "internal:collect") Q E {s with heap:=h',toks:=tk}:=fun h' tk acc' c' hk hS' hacc=>by
  show wpAny _ A (load s.heap.objs.size>>=_) _ _ _
  refine aR (wpAny_load hS' ?_)
  refine cA ?_
  exact hQ h' tk acc' (fun b o e=>hk b o (cT (cB e)) (fO _ e)) hacc
 refine wC (wpAny_extend_range (A:=A) (R:=fun r s'=>r= .ok (.ret (.ref s.heap.objs.size))/\∃h' tk acc' c',s'={s with heap:=h',toks:=tk}/\(∀b o,b≠s.heap.objs.size->(s.heap.push {cls:= .type "list",data:= .seq ([]:List Value).toArray}).get? b=some o->h'.get? b=some o)/\
   h'.get? s.heap.objs.size=some {cls:= .type "list",dict:=none,data:= .seq acc' c',slots:=#[]}/\ItemsOf (fun i v=>∃t,v= .int (a+i*c) t) acc' n) (s:={s with heap:=s.heap.push {cls:= .type "list",data:= .seq ([]:List Value).toArray}}) hh (fO _ hr) hsmall hn hlen s.heap.objs.size (.ref s.heap.objs.size) 0 hS (fun h' tk acc' c' hk hS' hacc=>⟨rfl,h',tk,acc',c',rfl,hk,hS',hacc⟩)) (fun fin s' h=> ?_) (fun e s' h=> ?_)
 ·cases fin with
  |done f=>
   obtain⟨e,h',tk,acc',c',rfl,h1,h2,h3⟩:=h
   cases e
   exact fin' h' tk acc' c' h1 h2 h3
  |again c'=>exact⟨h.1,Cu h.2 fun r s'' hr=>by obtain⟨rfl,h',tk,acc',c',rfl,h1,h2,h3⟩:=hr;exact fin' h' tk acc' c' h1 h2 h3⟩
 ·exact absurd h.1 (by simp)
end
theorem Mw(r:Addr)(a b c:Int)(t u v:Tok)(n:Nat)(hsmall:Builtin.Range.small a b c=true)(hn:Builtin.Range.rangeSize a b c=n)(hlen:n<=2^24):
  Meets (Builtin.«tuple.__new__» ⟨[.type "tuple",.ref r],[]⟩)
   (fun A R s=>A.handled=none/\IsRange s.heap r a b c t u v/\∀(h':Heap) tk acc,(∀b o',s.heap.get? b=some o'->h'.get? b=some o')->ItemsOf (fun i v=>∃t,v= .int (a+i*c) t) acc n->R (.ok (.ret (.ref h'.objs.size))) {s with heap:=h'.push {cls:= .type "tuple",data:= .seq acc},toks:=tk}):=
 .of_wp fun prog w A R s h=>by
  obtain⟨hp,g,d,tk,os⟩:=s;obtain⟨hh,ht,h⟩:=h
  have hsub:=sub_tuple_self
  have hinit:=init_tuple_lookup
  have hmh:=madeHere_tuple
  have hT:Shared.TypeIs ⟨hp,g,d,tk,os⟩ (.ref r) "range":=⟨_,ht,rfl⟩
  wp_walk using wpAny_loadPart' ht,wpAny_typeOf hT,dU (A:=A.in1) hh ht hsmall hn hlen
  intro h' tk' acc hk hacc
  show wpAny _ _ (Builtin.Tuple.tupleExact acc.toList.toArray>>=fun v=>ret v) _ _ _
  unfold Builtin.Tuple.tupleExact
  refine aR (Hj ?_ (by show acc.toList.toArray.size<=sizeLine;rw[eF];simp;rw[hacc.1];omega))
  refine cA ⟨_,rfl,?_⟩
  have e:acc.toList.toArray=acc:=by simp
  rw[e]
  exact h h' tk' acc hk hacc
section
variable{prog:Program}{w:World}{A:Around}{E:Value->Shared->Prop}{s:Shared}
theorem g8{Q:Value->Shared->Prop}{r:Addr}{a b c:Int}{t u v:Tok}{n:Nat}(hh:A.handled=none)(hr:IsRange s.heap r a b c t u v)(hsmall:Builtin.Range.small a b c=true)(hn:Builtin.Range.rangeSize a b c=n)(hlen:n<=2^24)(h:∀(h':Heap) tk acc,(∀b o',s.heap.get? b=some o'->h'.get? b=some o')->ItemsOf (fun i v=>∃t,v= .int (a+i*c) t) acc n->Q (.ref h'.objs.size) {s with heap:=h'.push {cls:= .type "tuple",data:= .seq acc},toks:=tk}):
  wpAny (model prog w) A (call (.type "tuple") [.ref r]) Q E s:=
 callType_new F.called_tuple (by decide) (F.typeCall_tuple_1 _) (F.newCall_tuple_1 _) (fun obj=>F.args_object_init_2 obj _) F.entry_tuple_new
  (Mw r a b c t u v n hsmall hn hlen) ⟨hh,hr,fun h' tk acc hk hacc=>⟨⟨_,lq _ rfl,rfl⟩,h h' tk acc hk hacc⟩⟩
end
end PySem
namespace L2
open PySem PySem.Spec PyProof.Rows
section
variable{X:Cx}{p p' pos pos':Pos}{a:Expr}{ta:TA}
def eZ(n:Nat):List V:=(List.range n).map fun(k:Nat)=>V.int (k:Int)
def Ec(ta:TA):TE:=fun σ H Q=>ta σ H fun vs H1=>∃j:Int,vs=[.int j]/\0<=j/\j<=16777216/\∀l,H1 l=none->Q (.ref l) (upd H1 l (.tup (eZ j.toNat)))
theorem jf:∀{n:Nat} {us:List Value},us.length=n->(∀(j:Nat) (u:Value),us[j]? =some u->∃t:Tok,u=Value.int (0+((j:Nat):Int)*1) t)->Vals (eZ n) us:=by
 intro n us hl hi
 have go:∀(us:List Value) (k:Nat),(∀(j:Nat) (u:Value),us[j]? =some u->∃t:Tok,u=Value.int (0+((j+k:Nat):Int)*1) t)->Vals ((List.range' k us.length).map fun(k:Nat)=>V.int (k:Int)) us:=by
  intro us
  induction us with
  |nil=>intro k _;exact .nil
  |cons u us ih=>
   intro k h
   obtain⟨t,e⟩:=h 0 u rfl
   refine .cons ⟨t,?_⟩ (ih (k+1) fun j u' hj=> ?_)
   ·rw[e];congr 1;omega
   ·obtain⟨t',e'⟩:=h (j+1) u' (by simpa using hj)
    refine⟨t',?_⟩
    rw[e'];congr 1;omega
 have:=go us 0 (fun j u hj=>by obtain⟨t,e⟩:=hi j u hj;exact⟨t,by rw[e];rfl⟩)
 unfold eZ
 rw[List.range_eq_range',<-hl]
 exact this
theorem nu(hc:X.calm=true)(JZ:Gl X "tuple")(JV:X.mg "tuple"=none)(hg:Gl X "range")(hm:X.mg "range"=none)(ha:PA X [a] ta)(hs:starEach [a] X.env=[(false,eval a X.env)]:=by rfl)(hs2:starEach [Expr.Call (.Name "range" p') [a] [] pos'] X.env=[(false,eval (Expr.Call (.Name "range" p') [a] [] pos') X.env)]:=by rfl):
  PE X (.Call (.Name "tuple" p) [.Call (.Name "range" p') [a] [] pos'] [] pos) (Ec ta):=by
 intro pins s σ H Q I h
 refine zP (ld_blt I JZ JV (show bootBuiltins "tuple"=some (.type "tuple")from by decide+kernel) ?_ (by decide) (by decide))
 refine zT ?_ hs2 rfl
 rw[hs2]
 refine Im ?_
 refine Call_ (ld_blt I hg hm boot_range (zT (thn (ha pos' pins s σ H _ I h) fun us s1 ⟨vs,H1,I1,r1,q1⟩=> ?_) hs rfl))
 obtain⟨j,e,q1,q2,q⟩:=q1
 subst e
 cases r1 with
 |cons r rr=>
  cases rr
  obtain⟨t,rfl⟩:=r
  refine call_range_1 ?_
  refine Ij ?_
  have hn:Builtin.Range.rangeSize 0 j 1=((j.toNat:Nat):Int):=by rw[rangeSize_one];split<;>omega
  refine g8 (I.ok.hd hc) (IsRange.new ..) (small_one (by decide) (by decide) (by omega) (by omega)) hn (by omega) fun h' tk acc hk hacc=> ?_
  have I2:Inv X pins σ H1 {s1 with heap:=h',toks:=tk}:=I1.kept fun b o e=>hk b o (fO _ e)
  have hv:Vals (eZ j.toNat) acc.toList:=jf (by rw[Cp];exact hacc.1) (fun i u hu=>hacc.2 i u (by simpa using hu))
  have hz:(eZ j.toNat).length<=sizeLine:=by unfold eZ;rw[eF];simp;omega
  have I3:Inv X pins σ (upd H1 h'.objs.size (.tup (eZ j.toNat))) {s1 with heap:=h'.push {cls:= .type "tuple",data:= .seq acc},toks:=tk}:=
   I2.laid (t':=tk) (fun b o e=>fO _ e) (bD _) (show ObjOk X.prog X.w _ _ _ (.tup (eZ j.toNat))from⟨hz,acc.toList,hv,by rw[show acc=acc.toList.toArray by simp];exact IsTup.new _ _⟩)
  exact⟨.ref h'.objs.size,_,I3,rfl,q _ (I2.hok.fresh (bD _))⟩
end
end L2
namespace PySem
open Sem (wp)
open Builtin
open AutoSeq1 (wpAny_loadPart')
end PySem
namespace L2
open PySem PySem.Spec PyProof.Rows
section
variable{X:Cx}{p p' pos pos':Pos}{a:Expr}{ta:TA}
def Ef(ta:TA):TE:=fun σ H Q=>ta σ H fun vs H1=>∃j:Int,vs=[.int j]/\0<=j/\j<=16777216/\∀l,H1 l=none->Q (.ref l) (upd H1 l (.lst (eZ j.toNat)))
theorem nA(hc:X.calm=true)(JZ:Gl X "list")(JV:X.mg "list"=none)(hg:Gl X "range")(hm:X.mg "range"=none)(ha:PA X [a] ta)(hs:starEach [a] X.env=[(false,eval a X.env)]:=by rfl)(hs2:starEach [Expr.Call (.Name "range" p') [a] [] pos'] X.env=[(false,eval (Expr.Call (.Name "range" p') [a] [] pos') X.env)]:=by rfl):
  PE X (.Call (.Name "list" p) [.Call (.Name "range" p') [a] [] pos'] [] pos) (Ef ta):=by
 intro pins s σ H Q I h
 refine zP (ld_blt I JZ JV (show bootBuiltins "list"=some (.type "list")from by decide+kernel) ?_ (by decide) (by decide))
 refine zT ?_ hs2 rfl
 rw[hs2]
 refine Im ?_
 refine Call_ (ld_blt I hg hm boot_range (zT (thn (ha pos' pins s σ H _ I h) fun us s1 ⟨vs,H1,I1,r1,q1⟩=> ?_) hs rfl))
 obtain⟨j,e,q1,q2,q⟩:=q1
 subst e
 cases r1 with
 |cons r rr=>
  cases rr
  obtain⟨t,rfl⟩:=r
  refine call_range_1 ?_
  refine Ij ?_
  have hn:Builtin.Range.rangeSize 0 j 1=((j.toNat:Nat):Int):=by rw[rangeSize_one];split<;>omega
  refine call_list_range (I.ok.hd hc) (IsRange.new ..) (small_one (by decide) (by decide) (by omega) (by omega)) hn (by omega) fun h' tk acc c hk hS hacc=> ?_
  have hv:Vals (eZ j.toNat) acc.toList:=jf (by rw[Cp];exact hacc.1) (fun i u hu=>hacc.2 i u (by simpa using hu))
  have hz:(eZ j.toNat).length<=sizeLine:=by unfold eZ;rw[eF];simp;omega
  have I2:Inv X pins σ H1 {s1 with heap:=s1.heap.push {cls:=Value.type "range",data:=Data.fields #[Value.int 0 s1.toks,Value.int j t,Value.int 1 (s1.toks+1)]},toks:=s1.toks+1+1}:=I1.kept fun b o e=>fO _ e
  exact⟨.ref _,_,I2.laid (t':=tk) (o:= .lst (eZ j.toNat)) hk (bD _) ⟨hz,acc.toList,c,hv,by simpa using hS⟩,rfl,q _ (I2.hok.fresh (bD _))⟩
end
end L2
namespace PySem
open Sem (wp)
open AutoSeq1 (wpAny_loadPart')
section
variable{prog:Program}{w:World}{A:Around}{E:Value->Shared->Prop}{s:Shared}
end
section
variable{prog:Program}{w:World}{A:Around}{E:Value->Shared->Prop}{s:Shared}
end
end PySem
namespace L2
open PySem PySem.Spec PyProof.Rows
section
variable{X:Cx}{pins:List (Addr×Obj)}{σ:St}{H:Hp}{s:Shared}{h':Heap}
end
section
variable{X:Cx}{es:List Expr}{k:Nat}{Nb:Pos}
end
section
variable{ini:St}{H:Hp}{g:TG}{tc:TT}{te:TE}{Fin:List V->Hp->Prop}{K:W.Frag}{b:Bool}{a:Addr}{xs:List V}
end
section
variable{X:Cx}{e m a:Expr}{te:TE}{tm:TO}{ta:TA}{p p' pos pos' p2:Pos}
theorem sW(K:W.Frag)(hc:X.calm=true)(h:X.K=K:=by rfl):CallR X (.builtin "any") (fun xs H Q=>∃(a:Addr) (bs:List Bool),xs=[.ref a]/\SqL K H a (bs.map V.bl)/\Q (.bl (bs.any id)) H):=by subst h;exact vX hc
theorem uW(K:W.Frag){tg l:Expr}{tl:TE}(hl:PE X l tl)(h:X.K=K:=by rfl):PI X tg l (zq K tl):=by subst h;exact tW hl
theorem uZ(K:W.Frag)(h:X.K=K:=by rfl):OpR X (binaryOp .Add) (zc K):=by subst h;exact qQ
end
section
variable{ini:St}{H:Hp}{g:TG}{tc:TT}{te:TE}{Fin:List V->Hp->Prop}{K:W.Frag}{b:Bool}{a:Addr}{xs:List V}
end
theorem qM{s u:TS}{D:Ends}{σ:St}{H:Hp}(I:St->Hp->Prop)(h1:∀N:St->Hp->Prop,(∀σ' H',I σ' H'->N σ' H')->s {D with nx:=N} σ H)(h2:∀σ' H',I σ' H'->u D σ' H'):tSeq s u D σ H:=h1 (u D) h2
section
variable{K:W.Frag}{σ:St}{H0:Hp}{tp:Addr}
end
theorem pN:∀(names:List (Str×NameKind)) (n:Nat) (acc:List (Str×Addr)) {x:Str} {c:Addr},(x,c)∈cellsFrom n names acc->(x,c)∈acc\/((x,NameKind.cell)∈names/\n<=c)
 |[],_,_,_,_,h=> .inl h
 |(nm,k)::r,n,acc,x,c,h=>by
  unfold cellsFrom at h
  split at h
  ·rename_i hk
   have ek:k=NameKind.cell:=by simpa using hk
   rcases pN r _ _ h with q|⟨q,m⟩
   ·rcases fK.mp q with e|e
    ·cases e
     subst ek
     exact .inr ⟨cQ,bD _⟩
    ·exact .inl e
   ·exact .inr ⟨eE _ q,by omega⟩
  ·rcases pN r _ _ h with q|⟨q,m⟩
   ·exact .inl q
   ·exact .inr ⟨eE _ q,m⟩
theorem lY:∀(names:List (Str×NameKind)) (n:Nat) (acc:List (Str×Addr)) {p:Str×Addr},p∈acc->p∈cellsFrom n names acc
 |[],_,_,_,h=>h
 |(nm,k)::r,n,acc,p,h=>by
  unfold cellsFrom
  split
  ·exact lY r _ _ (eE _ h)
  ·exact lY r _ _ h
theorem pQ:∀(names:List (Str×NameKind)) (n:Nat) (acc:List (Str×Addr)) {x:Str},(x,NameKind.cell)∈names->∃c,(x,c)∈cellsFrom n names acc
 |(nm,k)::r,n,acc,x,h=>by
  unfold cellsFrom
  rcases fK.mp h with e|e
  ·cases e
   rw[aN (show(NameKind.cell==NameKind.cell)=true from rfl)]
   exact⟨n,lY r _ _ cQ⟩
  ·split
   ·exact pQ r _ _ e
   ·exact pQ r _ _ e
theorem pO{n0:Nat}:∀(names:List (Str×NameKind)) (n:Nat) (acc:List (Str×Addr)),n0<=n->(∀x y c,(x,c)∈acc->(y,c)∈acc->n0<=c->x=y)->(∀x c,(x,c)∈acc->c<n)->∀x y c,(x,c)∈cellsFrom n names acc->(y,c)∈cellsFrom n names acc->n0<=c->x=y
 |[],_,_,_,h,_=>h
 |(nm,k)::r,n,acc,hn,h,hl=>by
  unfold cellsFrom
  split
  ·refine pO r (n+1) ((nm,n)::acc) (by omega) (fun x y c hx hy hc=> ?_) (fun x c hx=> ?_)
   ·rcases fK.mp hx with e1|e1<;>rcases fK.mp hy with e2|e2
    ·cases e1;cases e2;rfl
    ·cases e1;exact absurd (hl _ _ e2) (qj _)
    ·cases e2;exact absurd (hl _ _ e1) (qj _)
    ·exact h x y c e1 e2 hc
   ·rcases fK.mp hx with e1|e1
    ·cases e1;exact wO _
    ·exact zN (hl _ _ e1)
  ·exact pO r n acc hn h hl
theorem lX:∀(names:List (Str×NameKind)) (h:Heap) (acc:List (Str×Addr)) {x:Str} {c:Addr},(x,c)∈cellsFrom h.objs.size names acc->(x,c)∈acc\/(pushCells h names).IsCell c none
 |[],_,_,_,_,h=> .inl h
 |(nm,k)::r,h,acc,x,c,hm=>by
  unfold cellsFrom at hm
  unfold pushCells
  split at hm
  ·rename_i hk
   rw[aN hk]
   have hm':(x,c)∈cellsFrom (h.push {cls:= .type "cell",data:= .cell none}).objs.size r ((nm,h.objs.size)::acc):=by rw[zJ];exact hm
   rcases lX r (h.push {cls:= .type "cell",data:= .cell none}) _ hm' with q|q
   ·rcases fK.mp q with e|e
    ·cases e
     exact .inr ⟨_,GX _ _ _ _ (lq _ rfl),rfl⟩
    ·exact .inl e
   ·exact .inr q
  ·rename_i hk
   rw[aP hk]
   exact lX r h acc hm
theorem xV{M:Model}{A:Around}{E:Value->Shared->Prop}{s:Shared}{scope:Scope}{globals:Addr}{closure:List (Str×Addr)}{qual:Str}{env:Env}{Q:Env->Shared->Prop}(hQ:Q (newEnv scope s.heap.objs.size globals (cellsFrom (s.heap.objs.size+1) scope.names closure) qual none Value.none (some env) 0) {s with heap:=pushCells (s.heap.push {cls:= .type "dict",data:= .dict #[]}) scope.names}):
  wpAny M A (newFunctionEnv scope globals closure [] qual none .none (some env)) Q E s:=by
 simp only[newFunctionEnv,Option.isSome_some,if_true]
 refine aR (wpAny_alloc ?_)
 refine aR (wpAny_layCells _ (fun name kind cells=>by cases hkc:kind==NameKind.cell<;>simp[hkc]) _ _ _ _ ?_)
 rw[List.forIn_nil]
 refine aR (cA (cA ?_))
 rw[show({s with heap:=s.heap.push {cls:= .type "dict",data:= .dict #[]}}:Shared).heap.objs.size=s.heap.objs.size+1 from zJ ..]
 exact hQ
def aG(sc scope:Scope):Bool:=scope.names.all fun p=>(p.2 !=NameKind.cell||scope.names.lookup p.1==some NameKind.cell)&&(p.2 !=NameKind.local||scope.names.lookup p.1==some NameKind.local)&&
 (p.2 !=NameKind.free||(scope.names.lookup p.1==some NameKind.free&&(sc.names.lookup p.1==some NameKind.cell||sc.names.lookup p.1==some NameKind.free)))
section
variable{sc scope:Scope}
theorem aG.cell(h:aG sc scope=true){x:Str}(hy:(x,NameKind.cell)∈scope.names):scope.names.lookup x=some .cell:=by
 have q:=iJ.mp h _ hy
 simpa using q
theorem aG.names(h:aG sc scope=true):∀y∈scope.names,y.2= .local->scope.names.lookup y.1=some .local:=fun y hy e=>by
 have q:=iJ.mp h y hy
 simpa[e]using q
theorem aG.free(h:aG sc scope=true){x:Str}(hy:(x,NameKind.free)∈scope.names):scope.names.lookup x=some .free/\(sc.names.lookup x=some .cell\/sc.names.lookup x=some .free):=by
 have q:=iJ.mp h _ hy
 simpa using q
end
theorem m9{scope:Scope}{env:Env}{x:Str}(h:(relabel scope env).names.lookup x=some .cell\/(relabel scope env).names.lookup x=some .free):(x,NameKind.free)∈scope.names\/(x,NameKind.cell)∈scope.names:=by
 cases e:scope.names.lookup x with
 |none=>
  have q:=jq (env:=env) e
  rcases h with h|h
  ·rw[show(relabel scope env).names.lookup x=none from q]at h;cases h
  ·rw[show(relabel scope env).names.lookup x=none from q]at h;cases h
 |some k=>
  have q:=fD (env:=env) e
  have m:=um e
  by_cases hk:k= .free
  ·subst hk;exact .inl m
  ·have q':(relabel scope env).names.lookup x=some k:=by
    refine Eq.trans q ?_
    have:(k==NameKind.free)=false:=by simpa using hk
    simp[this]
   rw[q']at h
   rcases h with h|h
   ·cases h;exact .inr m
   ·cases h;exact absurd rfl hk
def bC(X:Cx)(scope:Scope)(N:List Str)(s:Shared)(H:Hp)(cl:List (Str×Addr))(C:Addr)(ex:List Addr):Cx:=
 {X with N:=N,s₀:=s,H₀:=H,env:=compEnvC scope cl C X.env,outer:=X.stack,ex:=ex,fn:=fun x=>scope.names.lookup x==some NameKind.cell,pn:=[],xe:=fun _ _=>False}
section
variable{X:Cx}{tg iter elt:Expr}{ifs:List Expr}{scope:Scope}{pos:Pos}{own caps:List Str}{ix:List Nat}{g:TG}{tc:TT}{te:TE}
abbrev tU(X:Cx)(scope:Scope)(C:Addr):List (Str×Addr):=cellsFrom (C+1) scope.names (dW X.env.cells scope.names [])
theorem lW{pins:List (Addr×Obj)}{s:Shared}{σ:St}{H:Hp}{C:Addr}(ck:aG X.env.scope scope=true)(I:Inv X pins σ H s){x:Str}{c:Addr}(e:(tU X scope C).lookup x=some c):
  (X.env.cells.lookup x=some c/\(x,NameKind.free)∈scope.names)\/((x,NameKind.cell)∈scope.names/\C<c/\(x,c)∉dW X.env.cells scope.names []):=by
 have old:(x,c)∈dW X.env.cells scope.names []->X.env.cells.lookup x=some c/\(x,NameKind.free)∈scope.names:=fun q=>by
  rcases gA q with q|⟨q,mm⟩
  ·cases q
  ·obtain⟨d,hd⟩:=I.ok.has x (aG.free ck mm).2
   rw[hd]at q
   have q:c=d:=q
   rw[q]
   exact⟨hd,mm⟩
 rcases pN _ _ _ (um e)with q|⟨q,m⟩
 ·exact .inl (old q)
 ·refine .inr ⟨q,m,fun z=> ?_⟩
  have h1:=aG.cell ck q
  have h2:=(aG.free ck (old z).2).1
  rw[h1]at h2;cases h2
theorem oE{pins:List (Addr×Obj)}{s s':Shared}{σ:St}{H:Hp}{fp:List Addr}{C:Addr}{m:Str->Option Value}(ck:aG X.env.scope scope=true)(hkind:scope.kind= .function)(hcap:iy X scope caps ix)
  (I:Inv X pins σ H s)(f2:∀b∈fp,FpOk X pins H b)(hlt:∀b∈fp,b<s.heap.objs.size)(hC:s.heap.objs.size<=C)(hos:s'.os=s.os)(hg:AllBare s'.gens)(hk:∀b o,s.heap.get? b=some o->s'.heap.get? b=some o)(hn:s'.heap.Ns C m)(hcl:∀x c,(tU X scope C).lookup x=some c->(x,c)∉dW X.env.cells scope.names []->s'.heap.IsCell c none):
  Inv (bC X scope (own++caps) s H (tU X scope C) C fp) [] (nW own ix σ) H s':=by
 have cl1:=fun x c e=>lW (C:=C) (x:=x) (c:=c) ck I e
 have qR:∀x c,X.env.cells.lookup x=some c->c<s.heap.objs.size:=fun x c e=>by
  obtain⟨v,o,ho,_⟩:=I.cell x c e
  exact cB ho
 have cl2:∀x,(x,NameKind.free)∈scope.names\/(x,NameKind.cell)∈scope.names->∃c,(tU X scope C).lookup x=some c:=fun x mm=>by
  rcases mm with mm|mm
  ·obtain⟨c,hc⟩:=oF (cells:=X.env.cells) (acc:=[]) mm
   obtain⟨d,hd,_⟩:=Gn (lY scope.names (C+1) _ hc)
   exact⟨d,hd⟩
  ·obtain⟨c,hc⟩:=pQ scope.names (C+1) (dW X.env.cells scope.names []) mm
   obtain⟨d,hd,_⟩:=Gn hc
   exact⟨d,hd⟩
 have inj:∀x y c,(tU X scope C).lookup x=some c->(tU X scope C).lookup y=some c->x=y:=fun x y c h1 h2=>by
  rcases cl1 x c h1 with⟨q1,_⟩|⟨q1,m1,_⟩<;>rcases cl1 y c h2 with⟨q2,_⟩|⟨q2,m2,_⟩
  ·exact I.ok.inj x y c q1 q2
  ·exact absurd (wM (dJ (qR x c q1) hC) m2) (qj _)
  ·exact absurd (wM (dJ (qR y c q2) hC) m1) (qj _)
  ·refine pO (n0:=C+1) scope.names (C+1) _ (bD _) (fun x y c hx hy hc=> ?_) (fun x c hx=> ?_) x y c (um h1) (um h2) m1
   ·obtain⟨d,hd,_⟩:=Gn hx
    rcases gA hx with q|⟨q,mm⟩
    ·cases q
    ·obtain⟨d,hd⟩:=I.ok.has x (aG.free ck mm).2
     rw[hd]at q
     have q:c=d:=q
     subst q
     exact absurd (dJ (dJ (qR x c hd) hC) (uf hc)) (qj _)
   ·rcases gA hx with q|⟨q,mm⟩
    ·cases q
    ·obtain⟨d,hd⟩:=I.ok.has x (aG.free ck mm).2
     rw[hd]at q
     have q:c=d:=q
     subst q
     exact zN (dJ (qR x c hd) hC)
 have bsz:X.base.objs.size<=s.heap.objs.size:=cP I.ok.bsz I.sz
 refine⟨⟨I.ok.mod,hkind,I.ok.glob,I.ok.blt,hC,inj,fun x hx=>cl2 x (m9 hx),fun x c h e=> ?cab,I.ok.hd,I.ok.frames,.inl rfl,fun b hb=>⟨cT (dJ (hlt b hb) hC),fun x c e=> ?exf⟩,I.bs,bsz,
  fun b o e hb=> ?_,fun b hb hz=> ?_,I.stack,I.stkFree⟩,?_,hg,Un.kept hk,⟨m,hn,fun i x v h1 h2 h3=> ?_⟩,fun x c e=> ?_,I.hok.fresh hC,fun x c e=> ?Oi,fun p hp=>absurd (show p∈([]:List (Addr×Obj))from hp) (by simp),I.hok.kept hk,?_⟩
 case cab=>
  rcases cl1 x c e with⟨_,q⟩|⟨_,q,_⟩
  ·have y1:=(aG.free ck q).1
   have y2:(scope.names.lookup x==some NameKind.cell)=true:=h
   rw[y1]at y2
   exact absurd y2 (by decide)
  ·exact cP hC (uf q)
 case exf=>
  rcases cl1 x c e with⟨q,_⟩|⟨_,q,_⟩
  ·exact(f2 b hb).2.2.2.2.1 x c q
  ·exact oM (cT (wM (dJ (hlt b hb) hC) q))
 case Oi=>
  rcases cl1 x c e with⟨q,_⟩|⟨_,q,_⟩
  ·exact I.freeC x c q
  ·exact I.hok.fresh (cP hC (uf q))
 ·rcases(f2 b hb).2.2.2.1 with z|z
  ·exact I.ok.noex b o e z
  ·exact absurd (dJ (cB e) (cP I.ok.bsz z)) (qj _)
 ·rcases fK.mp (I.stkSub b hz)with z|z
  ·exact(f2 b hb).2.1 z
  ·exact(f2 b hb).2.2.1 z
 ·exact hos
 ·have h1:(own++caps)[i]? =some x:=h1
  have h2:(own.map (fun _=>(none:Option V))++ix.map fun j=>(σ[j]?).join)[i]? =some (some v):=h2
  by_cases hi:i<own.length
  ·rw[HJ (by simpa using hi),dH]at h2
   cases e:own[i]? <;>rw[e]at h2<;>simp at h2
  ·rw[Gz (by simpa using hi)]at h2
   rw[Gz (by omega)]at h1
   rw[aQ]at h2
   obtain⟨j,e1,e2,e3⟩:=hcap.get h1
   rw[dH,e1]at h2
   have h2':(σ[j]?).join=some v:=by simpa using h2
   have h4:σ[j]? =some (some v):=by
    cases q:σ[j]? with
    |none=>rw[q]at h2';cases h2'
    |some w=>rw[q]at h2';exact was some h2'
   obtain⟨m0,hn0,hl0⟩:=I.loc
   have mm:=um e3
   have vis:=(aG.free ck mm).2
   obtain⟨u,r,l⟩:=hl0 j x v e2 h4 (.inr vis)
   refine⟨u,r,.inr ?_⟩
   rcases l with⟨k,_⟩|⟨k,c,e,z⟩
   ·rcases vis with q|q
    ·rw[show X.env.kindOf x=some .cell from q]at k;cases k
    ·rw[show X.env.kindOf x=some .free from q]at k;cases k
   ·obtain⟨d,hd⟩:=cl2 x (.inl mm)
    rcases cl1 x d hd with⟨this,_⟩|⟨qc,_⟩
    ·rw[e]at this
     cases this
     exact⟨o8 e3,c,hd,z.keeps hk⟩
    ·have y1:=aG.cell ck qc
     rw[e3]at y1;cases y1
 ·rcases cl1 x c e with⟨q,_⟩|⟨_,_,q⟩
  ·obtain⟨v,z⟩:=I.cell x c q
   exact⟨v,z.keeps hk⟩
  ·exact⟨none,hcl x c e q⟩
 ·show(own.map (fun _=>(none:Option V))++ix.map fun j=>(σ[j]?).join).length=(own++caps).length
  simp[hcap.len]
theorem jC(ck:aG X.env.scope scope=true)(hkind:scope.kind= .function)(hcap:iy X scope caps ix)(hc:X.calm=true)(hg:∀s H cl C ex,PG (bC X scope (own++caps) s H cl C ex) tg g)(ht:∀s H cl C ex,CZ (bC X scope (own++caps) s H cl C ex) ifs tc)(he:∀s H cl C ex,PE (bC X scope (own++caps) s H cl C ex) elt te){pins:List (Addr×Obj)}{s2:Shared}{σ:St}{H2:Hp}{E:Value->Shared->Prop}(I2:Inv X pins σ H2 s2){it:Addr}{fp:List Addr}{tn:Nat->Heap->Prop}{J:It}(T:Turn X.prog X.w X.K tg J fp it tn)(st2:tn 0 s2.heap)(f2:∀b∈fp,FpOk X pins H2 b)
  {W:Nat->Nat->List V->St->Hp->Prop}{m0:Nat}(w0:W 0 m0 [] (nW own ix σ) H2){Fin:List V->Hp->Prop}(turn:∀i m acc σ H,W i m acc σ H->(J.stop i H/\acc.length<=sizeLine/\Fin acc H)\/(J.go i H/\acc.length<sizeLine/\∃N:List V->St->Hp->Prop,(∀acc' σ' H',N acc' σ' H'->∃m',m'<m/\W (i+1) m' acc' σ' H')/\∀x H',J.yld i H x H'->g x σ H' fun σ2 H2=>tc σ2 H2 fun b H3=>
   if b=true then te σ2 H3 fun v H4=>N (acc++[v]) σ2 H4 else N acc σ2 H3))
  {RR:Value->Addr->Result->Shared->Prop}(hRR:∀D C s' acc Hf m,Inv X pins σ (upd Hf D (.lst acc)) s'->Hf D=none->s'.heap.Ns C m->FpOk X pins (upd Hf D (.lst acc)) C->Fin acc Hf->RR (.ref D) C (.ok .next) s'):
  wpAny (model X.prog X.w) X.A (newList []) (fun acc s₃=>wpAny (model X.prog X.w) X.A (newFunctionEnv scope X.env.globals (dW X.env.cells scope.names []) [] X.env.qual none .none (some X.env)) (fun cenv s₄=>
   codeAny (model X.prog X.w) X.A (.compStart (.ListComp elt [⟨tg,iter,ifs,0⟩] scope pos) 0 (.ref it) acc {cenv with scope:=relabel scope X.env}) (RR acc cenv.locals) s₄) E s₃) E s2:=by
 refine Hj (xV ?_)
 generalize hP:s2.heap.push {cls:= .type "list",dict:=none,data:= .seq ([]:List Value).toArray}=P1
 have hC:P1.objs.size=s2.heap.objs.size+1:=by rw[<-hP,zJ]
 have hlt:∀b∈fp,b<s2.heap.objs.size:=fun b hb=>by
  obtain⟨o,e,_⟩:=T.obj _ _ st2 b hb
  exact cB e
 generalize hh1:pushCells (P1.push {cls:= .type "dict",data:= .dict #[]}) scope.names=h₁
 have hns₁:h₁.Ns P1.objs.size (fun _=>none):=by rw[<-hh1];exact(Heap.Ns.new P1 (.type "dict")).keeps (GX _ _)
 have old:∀b o,s2.heap.get? b=some o->h₁.get? b=some o:=fun b o e=>by
  rw[<-hh1];exact GX _ _ b o (fO _ (hP▸fO _ e))
 have hD1:h₁.get? s2.heap.objs.size=some {cls:= .type "list",data:= .seq ([]:List Value).toArray 0}:=by
  rw[<-hh1];exact GX _ _ _ _ (fO _ (hP▸lq _ rfl))
 have Fd:∀x c,(tU X scope P1.objs.size).lookup x=some c->(x,c)∉dW X.env.cells scope.names []->h₁.IsCell c none:=fun x c e n=>by
  have e':(x,c)∈cellsFrom (P1.objs.size+1) scope.names (dW X.env.cells scope.names []):=um e
  rw[show P1.objs.size+1=(P1.push {cls:= .type "dict",data:= .dict #[]}).objs.size from(zJ ..).symm]at e'
  rcases lX _ _ _ e' with q|q
  ·exact absurd q n
  ·rw[<-hh1];exact q
 show codeAny (model X.prog X.w) X.A (.compStart (.ListComp elt [⟨tg,iter,ifs,0⟩] scope pos) 0 (.ref it) (.ref s2.heap.objs.size) {newEnv scope P1.objs.size X.env.globals (tU X scope P1.objs.size) X.env.qual none Value.none (some X.env) 0 with scope:=relabel scope X.env}) (RR (.ref s2.heap.objs.size) P1.objs.size) {s2 with heap:=h₁}
 generalize yc:s2.heap.objs.size=D at *
 rw[hC]at hns₁ Fd⊢
 have entry:Inv (bC X scope (own++caps) s2 H2 (tU X scope (D+1)) (D+1) fp) [] (nW own ix σ) H2 {s2 with heap:=h₁}:=
  oE ck hkind hcap I2 f2 (by rw[yc];exact hlt) (by rw[yc];exact Cr _) rfl I2.bare old hns₁ Fd
 generalize hX':bC X scope (own++caps) s2 H2 (tU X scope (D+1)) (D+1) fp=X' at entry
 have eP:X'.prog=X.prog:=by rw[<-hX'];rfl
 have ew:X'.w=X.w:=by rw[<-hX'];rfl
 have eK:X'.K=X.K:=by rw[<-hX'];rfl
 have eA:X'.A=X.A:=by rw[<-hX'];rfl
 have zx:X'.calm=true:=by rw[<-hX'];exact hc
 have Ko:X'.fs=frs X.stack:=by rw[<-hX'];rfl
 have LK:X'.ex=fp:=by rw[<-hX'];rfl
 have Lz:X'.pn=[]:=by rw[<-hX'];rfl
 have Kl:X'.s₀=s2:=by rw[<-hX'];rfl
 have Pa:X'.H₀=H2:=by rw[<-hX'];rfl
 have exe:X'.xe=fun _ _=>False:=by rw[<-hX'];rfl
 have yq:X'.env=compEnvC scope (tU X scope (D+1)) (D+1) X.env:=by rw[<-hX'];rfl
 have vP:X'.env.locals=D+1:=by rw[yq];rfl
 have hg':PG X' tg g:=by rw[<-hX'];exact hg _ _ _ _ _
 have ht':CZ X' ifs tc:=by rw[<-hX'];exact ht _ _ _ _ _
 have he':PE X' elt te:=by rw[<-hX'];exact he _ _ _ _ _
 have O9:∀x c,X'.env.cells.lookup x=some c->c≠D:=fun x c e=>by
  rw[yq]at e
  rcases lW (C:=D+1) ck I2 e with⟨q,_⟩|⟨_,q,_⟩
  ·obtain⟨v',o',ho',_⟩:=I2.cell x c q
   exact cT (by rw[<-yc];exact cB ho')
  ·exact oM (cT (wM (wO D) q))
 have Ph:D∉frs X.stack:=fun hb=>by
  rcases fK.mp (I2.stkSub D hb)with z|z
  ·exact absurd (Nat.lt_of_lt_of_eq I2.lt yc) (by rw[z];exact qj _)
  ·exact I2.nofs (qg yc) z
 have Kg:∀{H':Hp} {o:Obj},(∀b∈fp,H' b=none)->∀b∈fp,FpOk X' [(D,o)] H' b:=fun{H' o} hn b hb=>by
  have J4:=hlt b hb
  refine⟨hn b hb,by rw[vP];exact cT (zN J4),?_,.inl (by rw[LK];exact hb),fun x c e=> ?_,fun p hp=> ?_⟩
  ·rw[Ko]
   intro z
   rcases fK.mp (I2.stkSub b z)with z|z
   ·exact(f2 b hb).2.1 z
   ·exact(f2 b hb).2.2.1 z
  ·rw[yq]at e
   rcases lW (C:=D+1) ck I2 e with⟨q,_⟩|⟨_,q,_⟩
   ·exact(f2 b hb).2.2.2.2.1 x c q
   ·exact oM (cT (wM (zN J4) q))
  ·rw[Lz]at hp
   have:p=(D,o):=by simpa using hp
   rw[this]
   exact DK J4
 have Jq:∀{σ':St} {H':Hp} {s':Shared} {o:Obj},Inv X' [] σ' H' s'->s'.heap.get? D=some o->H' D=none->(∀v,o.data≠.cell v)->Inv X' [(D,o)] σ' H' s':=fun{σ' H' s' o} I e n d=>
  I.pins_of fun p hp=>by
   have:p=(D,o):=by simpa using hp
   subst this
   exact⟨e,n,by rw[vP];exact cT (wO D),by rw[Ko];exact Ph,d⟩
 have loop:∀s₃:Shared,s₃={s2 with heap:=h₁}->
   codeAny (model X.prog X.w) X.A (.compLoop (.ListComp elt [⟨tg,iter,ifs,0⟩] scope pos) 0 (.ref it) (.ref D) X'.env) (RR (.ref D) (D+1)) s₃:=by
  intro s₃ hs₃
  refine codeAny_loop rfl (fun n s'=>∃i acc its k σ' H',Inv X' [] σ' H' s'/\tn i s'.heap/\(∀b∈fp,H' b=none)/\s'.heap.get? D=some {cls:= .type "list",data:= .seq (List.toArray its) k}/\Vals acc its/\H' D=none/\W i n acc σ' H') ?_ m0
   ⟨0,[],[],0,nW own ix σ,H2,by rw[hs₃];exact entry,by rw[hs₃];exact T.keep _ _ _ st2 fun b _ o e=>old b o e,fun b hb=>(f2 b hb).1,by rw[hs₃];exact hD1,.nil,I2.hok.fresh (qg yc),w0⟩
  rintro n s3 ⟨i,acc,its,k,σ3,H3,I3,st3,fr3,eD,rv,nD,w3⟩
  show wpAny _ X.A ((compTurn (.ListComp elt [⟨tg,iter,ifs,0⟩] scope pos) 0 (.ref it) (.ref D) X'.env).onRaise (fun x=>do noteFrame x X'.env;theTreesLotGoes x)) _ _ s3
  refine wpAny_noted ?_
  rw[compTurn_list]
  have Ju:∀{α:Type} {t:Sem α} {Q:α->Shared->Prop} {E':Value->Shared->Prop} {s:Shared},wpAny (model X'.prog X'.w) X'.A t Q X'.xe s->wpAny (model X.prog X.w) X.A t Q E' s:=fun{α t Q E' s} h=>by
   rw[eP,ew,eA,exe]at h
   exact wC h (fun _ _ q=>q) fun _ _ z=>z.elim
  have Ml:=Jq (o:={cls:= .type "list",data:= .seq (List.toArray its) k}) I3 eD nD (fun v z=>by
   have z':Data.seq (List.toArray its) k=Data.cell v:=z
   cases z')
  refine aR (GQ (aR ?_))
  rcases turn i n acc σ3 H3 w3 with⟨stop,hz,fin⟩|⟨go,hz,Nn,hN,step⟩
  ·have q:=T.done X' eP ew eK zx i [(D,_)] s3 σ3 H3 (notedBy (model X.prog X.w) X.A X'.env fun e s'=>RR (.ref D) (D+1) (.error e) s') Ml (Kg fr3) st3 stop
   rw[eA]at q
   refine thn q fun r s4 ⟨hr,I4⟩=> ?_
   subst hr
   refine cA ?_
   obtain⟨e4,_⟩:=I4.pin (D,_) (gP _ cQ)
   obtain⟨mC,hnC,_⟩:=I4.loc
   have u4:=I4.base
   rw[Ko,LK,Pa,Kl]at u4
   have Lh:=I4.hok
   rw[eP,ew]at Lh
   have nC:H3 (D+1)=none:=by have:=I4.free;rw[vP]at this;exact this
   have hok:HOk X.prog X.w (upd H3 D (.lst acc)) s4.heap:=Lh.add nD ⟨hz,its,k,rv,e4⟩
   refine hRR D (D+1) s4 acc H3 mC ?_ nD (by rw[vP]at hnC;exact hnC) ?_ fin
   ·refine I2.call' (s':=s4) (ch:=fp) ?_ (u4.add (by rw[yc];exact bD _) nD) hok I4.bare fun b hb=> ?_
    ·have:=I4.os;rw[Kl]at this;exact this
    ·obtain⟨f0,f1,f3,f4,f5,f6⟩:=f2 b hb
     exact⟨f4,f1,f5,f6⟩
   ·refine I2.fpOk (by rw[yc];exact Cr _) ?_
    rw[dG (DK (wO D))]
    exact nC
  ·have q:=T.item X' eP ew eK zx i [(D,_)] s3 σ3 H3 (notedBy (model X.prog X.w) X.A X'.env fun e s'=>RR (.ref D) (D+1) (.error e) s') Ml (Kg fr3) st3 go
   rw[eA]at q
   refine thn q fun r s4 ⟨u,hr,h4⟩=> ?_
   subst hr
   dsimp only
   refine aR (thn h4 fun _ s5 ⟨x,H5,I5,r5,y5,st5,fr5⟩=> ?_)
   have I5':=I5.pinned (Kg fr5) (T.obj _ _ st5)
   have again:∀{σ7:St} {H7:Hp} {s7:Shared},Inv X' ([(D,{cls:= .type "list",data:= .seq (List.toArray its) k})]++pinsAt fp s5.heap) σ7 H7 s7->tn (i+1) s7.heap/\(∀b∈fp,H7 b=none)/\s7.heap.get? D=some {cls:= .type "list",data:= .seq (List.toArray its) k}/\H7 D=none:=fun{σ7 H7 s7} I7=>by
    refine⟨T.keep _ _ _ st5 fun b hb o e=>(I7.pin (b,o) (gP _ (gP _ (FZ hb e)))).1,fun b hb=> ?_,?_⟩
    ·obtain⟨o,e,d⟩:=T.obj _ _ st5 b hb
     exact(I7.pin (b,o) (gP _ (gP _ (FZ hb e)))).2.1
    ·have:=I7.pin (D,_) (gP _ (Gv _ cQ))
     exact⟨this.1,this.2.1⟩
   refine aR (thn (Ju (hg' _ s5 σ3 H5 x u _ I5' r5 (step x H5 y5))) fun _ s6 ⟨σ6,H6,I6,q6⟩=> ?_)
   refine aR (thn (Ju (ht' _ s6 σ6 H6 _ I6 q6)) fun ok s7 ⟨H7,I7,q7⟩=> ?_)
   cases ok with
   |false=>
    rw[aP mK]at q7
    obtain⟨m',hm,w7⟩:=hN _ _ _ q7
    obtain⟨a1,a2,a3,a4⟩:=again I7
    exact cA ⟨rfl,m',hm,i+1,acc,its,k,σ6,H7,I7.pins_of (fun p hp=>nomatch hp),a1,a2,a3,rv,a4,w7⟩
   |true=>
    rw[aN rfl]at q7
    refine aR (aR (thn (Ju (he' _ s7 σ6 H7 _ I7 q7)) fun v s8 ⟨y,H8,I8,r8,q8⟩=> ?_))
    obtain⟨m',hm,w8⟩:=hN _ _ _ q8
    obtain⟨a1,a2,a3,a4⟩:=again I8
    have hl:=rv.length
    refine aR (call_meets F.slot_list_append ⟨_,a3,rfl⟩ F.entry_list_append (F.args_list_append_2 _ _) (PySem.list_append D its.toArray k v (by rw[dI];omega)) ⟨a3,?_⟩)
    refine cA (cA ⟨rfl,m',hm,i+1,acc++[y],its++[v],?_⟩)
    have qD:=PySem.IsL.update a3 (fun a:Array Value=>a.push v)
    rw[List.push_toArray]at qD
    have kp:∀b o,b≠D->s8.heap.get? b=some o->(s8.heap.update D (Obj.mapSeq fun a=>a.push v)).get? b=some o:=fun b o hb e=>(IW s8.heap _ (oM hb)).trans e
    have PJ:Inv X' [] σ6 H8 {s8 with heap:=s8.heap.update D (Obj.mapSeq fun a=>a.push v)}:=by
     refine(I8.pins_of (pins':=[]) (fun p hp=>nomatch hp)).turned (t':=s8.toks) (it:=D) kp a4 (by rw[vP];exact cT (wO D)) (.inr (by rw[Kl,yc];exact bD _)) (fun x c e=>O9 x c e) (fun p hp=> ?_)
     rw[Lz]at hp
     exact nomatch hp
    exact⟨_,σ6,H8,PJ,T.keep _ _ _ a1 fun b hb o e=>kp b o (cT (hlt b hb)) e,a2,qD,rv.append (.cons r8 .nil),a4,w8⟩
 have Fy:({newEnv scope (D+1) X.env.globals (tU X scope (D+1)) X.env.qual none Value.none (some X.env) 0 with scope:=relabel scope X.env}:Env)=X'.env:=by rw[yq];rfl
 have L:=loop _ rfl
 rw[<-Fy]at L
 exact codeAny_compStart_list L (T.self X.A 0 _ _ _ (T.keep _ _ _ st2 fun b _ o e=>old b o e) L)
end
section
variable{X:Cx}{tg iter elt:Expr}{ifs:List Expr}{scope:Scope}{pos:Pos}{own caps:List Str}{ix:List Nat}{wi:TI}{g:TG}{tc:TT}{te:TE}
theorem mU(hc:X.calm=true)(hi:PI X tg iter wi)(ck:aG X.env.scope scope=true)(hkind:scope.kind= .function)(hcap:iy X scope caps ix)(hg:∀s H cl C ex,PG (bC X scope (own++caps) s H cl C ex) tg g)(ht:∀s H cl C ex,CZ (bC X scope (own++caps) s H cl C ex) ifs tc)(he:∀s H cl C ex,PE (bC X scope (own++caps) s H cl C ex) elt te)(hs:∀x,foldedSetIterable iter X.env x=pure x:=by intro _;rfl):PE X (.ListComp elt [⟨tg,iter,ifs,0⟩] scope pos) (yR wi own ix g tc te):=by
 intro pins s σ H Q I h
 rw[eval_ListComp]
 refine wpAny_comprehension_free (use:=none) rfl hs (jD fun x hx=>I.ok.has x ((aG.free ck hx).2)) hkind (aG.names ck) (thn (hi pins s σ H _ I h) fun xv s1 h1=>thn h1 fun itv s2 h2=> ?_)
 obtain⟨it,fp,tn,J,H2,e,I2,T,st2,f2,W,⟨m0,w0⟩,turn⟩:=h2
 subst e
 refine jC (RR:=fun acc C=>compPost (model X.prog X.w) X.A X.xe none (EP X pins σ Q) acc C) ck hkind hcap hc hg ht he I2 T st2 f2 w0 turn ?_
 intro D C s' acc Hf m I' nD hn fC fin
 refine⟨m,hn,fun h' sb=> ?_⟩
 obtain⟨f0,f1,f3,f4,f5,f6⟩:=fC
 exact⟨.ref D,_,I'.turned (t':=s'.toks) (it:=C) (fun b o hb e=>(sb.2 b hb).trans e) f0 f1 f4 f5 f6,rfl,fin D nD⟩
theorem iD{i:Nat}{y:Str}{py spos:Pos}(hN:X.N.Nodup)(N5:X.N[i]? =some y)(hx:Loc X.env.scope y)(hc:X.calm=true)(hi:PI X tg iter wi)(ck:aG X.env.scope scope=true)(hkind:scope.kind= .function)(hcap:iy X scope caps ix)(hg:∀s H cl C ex,PG (bC X scope (own++caps) s H cl C ex) tg g)(ht:∀s H cl C ex,CZ (bC X scope (own++caps) s H cl C ex) ifs tc)(he:∀s H cl C ex,PE (bC X scope (own++caps) s H cl C ex) elt te)(hsw:swapsWith (.ListComp elt [⟨tg,iter,ifs,0⟩] scope pos) (some (.Name y py)) spos.line X.env=pure true:=by rfl)(hf:X.fn y=true\/X.env.scope.names.lookup y=some .local:=by first |exact .inl rfl|exact .inr rfl|assumption)(hs:∀x,foldedSetIterable iter X.env x=pure x:=by intro _;rfl):PS X (.Assign [.Name y py] (.ListComp elt [⟨tg,iter,ifs,0⟩] scope pos) spos) (tAsg (yR wi own ix g tc te) (gName i)):=by
 intro pins s σ H Dn I h
 rw[exec_Assign_Name_used _ _ _ _ hsw]
 refine aR (GQ (aR ?_))
 show wpAny _ X.A (do let _<-comprehension (.ListComp elt [⟨tg,iter,ifs,0⟩] scope pos) scope X.env _ (newList []) false (eval iter X.env) (some (assign (.Name y py) X.env))) _ _ s
 refine aR (wC (wpAny_comprehension_free (use:=some (assign (.Name y py) X.env)) (Q:=fun _ s'=>SP X pins Dn .next s') rfl hs (jD fun x hx=>I.ok.has x ((aG.free ck hx).2)) hkind (aG.names ck)
  (thn (hi pins s σ H _ I h) fun xv s1 h1=>thn h1 fun itv s2 h2=> ?_)) (fun _ s' hq=>cA (cA hq)) fun _ _ e=>e)
 obtain⟨it,fp,tn,J,H2,e,I2,T,st2,f2,W,⟨m0,w0⟩,turn⟩:=h2
 subst e
 refine jC (RR:=fun acc C=>compPost (model X.prog X.w) X.A X.xe (some (assign (.Name y py) X.env)) (fun _ s'=>SP X pins Dn .next s') acc C) ck hkind hcap hc hg ht he I2 T st2 f2 w0 turn ?_
 intro D C s' acc Hf m I' nD hn fC fin
 obtain⟨f0,f1,f3,f4,f5,f6⟩:=fC
 show wpAny _ X.A (assign (.Name y py) X.env (.ref D)) _ _ _
 refine wpAny_assign_Name (store_ok2 I' hN N5 hx (show RelV (.ref D) (.ref D)from rfl) (fun s'' PL ⟨a,sb,ha⟩=> ?_) hf)
 have Oe:C≠a:=by
  rcases ha with ha|ha
  ·rw[ha];exact f1
  ·exact fun z=>f5 y a ha z.symm
 refine⟨m,hn.sameBut sb Oe,fun h' M4=> ?_⟩
 exact⟨_,_,PL.turned (t':=s''.toks) (it:=C) (fun b o hb e=>(M4.2 b hb).trans e) f0 f1 f4 f5 f6,fin D nD⟩
end
section
variable{prog:Program}{w:World}{A:Around}{E:Value->Shared->Prop}{s:Shared}
end
section
variable{X:Cx}{a:Expr}{ta:TA}{p p' pos pos':Pos}
end
end L2
namespace pX
open PySem PySem.W PyProof.Rows PySem.Calls
section
variable{prog:Program}{w:World}{A:Around}{E:Value->Shared->Prop}{s:Shared}{O:KeyOrd}{key:Nat->O.α}{κ:SortKind}{vs:List Value}
end
end pX
namespace L2
open PySem PySem.Spec PyProof.Rows
section
variable{X:Cx}
end
section
variable{K:W.Frag}{σ:St}{H0:Hp}
end
end L2
namespace L2
open PySem PySem.W PySem.Spec PyProof.Rows
section
variable{X:Cx}
end
end L2
namespace L2
open PySem PySem.Spec PyProof.Rows
section
variable{prog:Program}{w:World}{A:Around}{E:Value->Shared->Prop}{s:Shared}{l:Addr}{kid:String}{vs:List Value}{R:Result->Shared->Prop}{Q:Value->Shared->Prop}
end
section
variable{X:Cx}{a:Expr}{ta:TA}{p p2 kp pos:Pos}
end
section
variable{P:Program}{w:World}{K:W.Frag}{mg:Str->Option Value}{base:Heap}{N:List Str}{qual:Str}{scope:Scope}{f:Addr}{cd:Value}{A:Around}{outer:List Env}{s:Shared}{H:Hp}{E:XK}
end
section
variable{P:Program}{w:World}{K:W.Frag}{mg:Str->Option Value}{base:Heap}{N:List Str}{qual:Str}{scope:Scope}{f:Addr}{cd:Value}{A:Around}{outer:List Env}{s:Shared}{H:Hp}{E:XK}
end
end L2
namespace L2
open PySem PySem.Spec PySem.Calls PyProof.Rows PySem.W PySem.Builtin.Getset_descriptor
section
variable{prog:Program}{w:World}{A:Around}{E:Value->Shared->Prop}{s:Shared}{K:Frag}{x D:Addr}
end
end L2
namespace L2
open PySem PySem.Spec PyProof.Rows
section
variable{X:Cx}{pins:List (Addr×Obj)}{σ:St}{H H':Hp}{s s':Shared}{e C:Addr}{B:Heap}
end
section
variable{X:Cx}{k:Nat}{f D:Addr}{fd:FuncData}{ps:List Str}{sp:Sp}{fn x n:Str}{p cpos epos np hpos pos:Pos}{a:Expr}{as:List Expr}{t:TA}{ts:TS}{b₀:Stmt}{suite:List Stmt}{i:Nat}
end
section
variable{X:Cx}
end
mutual
def JB:Nat->Expr->Option PyData
 |0,_=>none
 |n+1,e=>match e with
  | .Constant (.int i) _ _=>some (.int i)
  | .Constant (.bool b) _ _=>some (.bool b)
  | .Constant .none _ _=>some .none
  | .Constant (.str x) _ _=>some (.str x)
  | .UnaryOp .USub (.Constant (.int i) _ _) _=>some (.int (-i))
  | .Tuple es _ _=>(vC n es).map .tuple
  | .List es _=>(vC n es).map .list
  | .Dict [] [] _=>some (.dict [])
  |_=>none
def vC:Nat->List Expr->Option (List PyData)
 |0,_=>none
 |_+1,[]=>some []
 |n+1,e::es=>match JB n e,vC n es with
  |some d,some ds=>some (d::ds)
  |_,_=>none
end
section
variable{X:Cx}
end
end L2
namespace L2
open PySem PySem.Spec PyProof.Rows
section
variable{κ:Type} [DecidableEq κ]
end
section
variable{P:Program}{w:World}{H:Hp}{h:Heap}{a:Addr}
end
section
variable{X:Cx}{pins:List (Addr×Obj)}{σ:St}{H:Hp}{s:Shared}{a:Addr}{y v:V}{u r:Value}{o:Option V}{A:Around}{E:Value->Shared->Prop}
theorem Inv.big(I:Inv X pins σ H s):sysModules<s.heap.objs.size:=by
 have h:mainGlobals<s.heap.objs.size:=(I.mod.glob.keeps I.bk).lt
 exact wM (by decide) h
theorem d_write{h':Heap}{t':Nat}{ob:HO}(I:Inv X pins σ H s)(mu:Mut (H a))(hs:Heap.SameBut a s.heap h')(he:∃q,h'.get? a=some q)(new:ObjOk X.prog X.w (upd H a ob) h' a ob):
  Inv X pins σ (upd H a ob) {s with heap:=h',toks:=t'}:=
 I.write (x:=a) (e:=a) mu (.inl rfl) (fun b q hb z=>(hs.2 b hb).trans z) he new
end
section
variable{X:Cx}{pins:List (Addr×Obj)}{σ:St}{H:Hp}{s:Shared}{a:Addr}{kvs:List (Key×V)}{k:Key}{u:Value}{A:Around}{E:Value->Shared->Prop}
end
section
variable{X:Cx}{o i e value:Expr}{pos pos' tpos:Pos}{td ty tv:TE}
end
section
variable{X:Cx}{pos:Pos}
end
end L2
namespace PySem
namespace F
end F
section
variable{prog:Program}{w:World}{A:Around}{E:Value->Shared->Prop}{s:Shared}
end
end PySem
namespace L2
open PySem PySem.Spec PyProof.Rows
section
variable{X:Cx}{tg:Expr}
end
section
variable{X:Cx}
end
end L2
namespace PySem
section
variable{prog:Program}{w:World}{Ky:Type} [DecidableEq Ky]{knd:KeyKind prog w Ky}{A:Around}{E:Value->Shared->Prop}{s:Shared}
end
end PySem
namespace L2
open PySem PySem.Spec PyProof.Rows
section
variable{X:Cx}
end
end L2
namespace L2
open PySem
end L2
namespace PySem
namespace F
end F
end PySem
namespace PySem
section
variable{prog:Program}{w:World}{A:Around}{E:Value->Shared->Prop}{s:Shared}
end
end PySem
namespace PySem
section
variable{prog:Program}{w:World}{A:Around}{E:Value->Shared->Prop}{s:Shared}
end
end PySem
namespace PySem
section
variable{prog:Program}{w:World}{A:Around}{E:Value->Shared->Prop}{s:Shared}
end
end PySem
namespace L2
open PySem PySem.Spec PyProof.Rows
section
variable{prog:Program}{w:World}{A:Around}{E:Value->Shared->Prop}{s:Shared}
end
section
variable{prog:Program}{w:World}{A:Around}{R:Result->Shared->Prop}{I:Addr}{fp wr:List Addr}{G:Array GenState->Array GenState->Prop}{n:Nat}{P:Nat->Value->Prop}{St:Nat->Shared->Prop}
end
section
variable{prog:Program}{w:World}{A:Around}{E:Value->Shared->Prop}{s:Shared}
end
end L2
namespace pX
open PySem PySem.W PyProof.Rows PySem.Calls
section
variable{prog:Program}{w:World}{A:Around}{E:Value->Shared->Prop}{s:Shared}
end
end pX
namespace L2
open PySem PySem.Spec PyProof.Rows
section
variable{prog:Program}{w:World}{A:Around}{E:Value->Shared->Prop}{s:Shared}
end
end L2
namespace pX
open PySem PySem.W PyProof.Rows PySem.Calls
section
variable{prog:Program}{w:World}{A:Around}{E:Value->Shared->Prop}{s:Shared}
end
end pX
namespace L2
open PySem PySem.Spec PyProof.Rows
section
variable{X:Cx}{a:Expr}{ta:TA}{p p' pos pos':Pos}
end
section
variable{prog:Program}{w:World}{A:Around}{E:Value->Shared->Prop}{s:Shared}
end
section
variable{X:Cx}{o e:Expr}{to:TE}{t:TA}{apos cpos:Pos}
end
section
variable{X:Cx}{e e1 e2:Expr}{es:List Expr}{te:TE}{pos:Pos}
end
section
variable{X:Cx}{e:Expr}{te:TE}{pos:Pos}
end
section
variable{X:Cx}{tg l:Expr}{tl:TE}
end
section
variable{g:TG}{tc:TT}{te:TE}{Fin:List V->Hp->Prop}{ini:St}{H:Hp}
end
end L2
namespace Kr
open PySem PySem.StrLaws PySem.Builtin.Str
section
variable{c:Nat}{ys:List Nat}
end
end Kr
namespace DH
open PySem PySem.W PyProof.Rows PySem.Calls
section
variable{prog:Program}{w:World}{A:Around}{E:Value->Shared->Prop}{s:Shared}{d it:Addr}{es:Array DictEntry}{ep i:Nat}
end
section
variable{M:Model}{A:Around}{E:Value->Shared->Prop}{s:Shared}
end
section
variable{prog:Program}{w:World}{A:Around}{E:Value->Shared->Prop}{s:Shared}
end
section
variable{prog:Program}{w:World}{A:Around}{E:Value->Shared->Prop}{s:Shared}{d:Addr}{es:Array DictEntry}{ep:Nat}
end
end DH
namespace L2
open PySem PySem.Spec PyProof.Rows
section
variable{X:Cx}
end
end L2
namespace DH
open PySem PySem.W PyProof.Rows PySem.Calls
section
variable{prog:Program}{w:World}{K:Type} [DecidableEq K]{knd:HeapKind prog w K}{A:Around}{E:Value->Shared->Prop}{s:Shared}
end
end DH
namespace L2
open PySem PySem.Spec PyProof.Rows
section
variable{X:Cx}
end
section
variable{X:Cx}
end
section
variable{X:Cx}{scope:Scope}{caps:List Str}{ix:List Nat}{y:Str}{A:Around}{pins:List (Addr×Obj)}{σ:St}{H:Hp}{s:Shared}{f:Addr}{cdv:Value}{v:V}{u:Value}
end
section
variable{X:Cx}{scope:Scope}{pins:List (Addr×Obj)}{σ:St}{H:Hp}{s:Shared}{c P:Addr}{pos:Pos}{params:Arguments}{body:Expr}{A:Around}{E:Value->Shared->Prop}{Q:Value->Shared->Prop}
end
structure iQ(X:Cx)(pins:List (Addr×Obj))(I:Addr):Prop where
 lo:X.s₀.heap.objs.size<=I
 loc:I≠X.env.locals
 fs:I∉X.fs
 cl:∀x c,X.env.cells.lookup x=some c->c≠I
 pn:∀p∈X.pn++pins,p.1≠I
section
variable{X:Cx}{σ:St}{H:Hp}{s:Shared}{pins:List (Addr×Obj)}
theorem iQ.new{I:Addr}(J:Inv X pins σ H s)(h:s.heap.objs.size<=I):iQ X pins I:=by
 refine⟨cP J.sz h,DK (dJ J.lt h),J.nofs h,fun x c e=> ?_,fun p hp=>cT (dJ (cB (J.pin p hp).1) h)⟩
 obtain⟨v,o,ho,_⟩:=J.cell x c e
 exact cT (dJ (cB ho) h)
theorem Inv.jg{p:Addr×Obj}(J:Inv X (p::pins) σ H s):Inv X pins σ H s:=J.pins_of fun q hq=>J.pin q (gP _ (eE _ hq))
theorem Inv.m8{I:Addr}{o o':Obj}{h':Heap}{tk:Nat}(J:Inv X ((I,o)::pins) σ H s)(m:iQ X pins I)(k:∀b x,b≠I->s.heap.get? b=some x->h'.get? b=some x)(e:h'.get? I=some o')(d:∀v,o'.data≠.cell v):
  Inv X ((I,o')::pins) σ H {s with heap:=h',toks:=tk}:=by
 have hI:=J.pin (I,o) (gP _ cQ)
 have K:=(J.jg).turned (t':=tk) (it:=I) k hI.2.1 m.loc (.inr m.lo) m.cl m.pn
 refine K.pins_of fun q hq=> ?_
 rcases fK.mp hq with z|z
 ·subst z;exact⟨e,hI.2.1,m.loc,m.fs,d⟩
 ·exact K.pin q (gP _ z)
theorem Inv.swap{p q:Addr×Obj}(J:Inv X (p::q::pins) σ H s):Inv X (q::p::pins) σ H s:=J.pins_of fun r hr=>J.pin r (gP _ (by
 rcases fK.mp hr with z|z
 ·rw[z];exact eE _ cQ
 ·rcases fK.mp z with z|z
  ·rw[z];exact cQ
  ·exact eE _ (eE _ z)))
theorem iQ.under{I:Addr}{p:Addr×Obj}(m:iQ X pins I)(n:p.1≠I):iQ X (p::pins) I:=⟨m.lo,m.loc,m.fs,m.cl,fun q hq=>by
 rcases jX.mp hq with z|z
 ·exact m.pn q (Gv _ z)
 ·rcases fK.mp z with z|z
  ·rw[z];exact n
  ·exact m.pn q (gP _ z)⟩
theorem lR{a:Array Value}{k:Nat}(T:String):∀v,(seqObj T a k).data≠.cell v:=fun v z=>by
 have z':Data.seq a k=Data.cell v:=z
 cases z'
variable{I S f l:Addr}{fo:Obj}{vs:List Value}{RR:Result->Shared->Prop}
end
section
variable{X:Cx}{a body:Expr}{ta:TA}{te:TE}{p kp pos Nr:Pos}{k:Nat}{scope:Scope}{caps:List Str}{ix:List Nat}{y:Str}{params:Arguments}{c P:Addr}
end
end L2
namespace DH
open PySem PySem.W PyProof.Rows PySem.Calls
section
variable{prog:Program}{w:World}{A:Around}{E:Value->Shared->Prop}{s:Shared}{d it v:Addr}{es:Array DictEntry}{ep i:Nat}
end
end DH
namespace L2
open PySem PySem.Spec PyProof.Rows
section
variable{X:Cx}{pins Lg:List (Addr×Obj)}{σ σ0:St}{H H0:Hp}{s s0:Shared}{d:Addr}{kvs:List (List Key×V)}{o:Obj}
end
section
variable{d:Addr}{o:Obj}{kvs:List (List Key×V)}{g:TG}{tc:TT}{te:TE}{Fin:List V->Hp->Prop}{ini:St}{H:Hp}
end
section
variable{X:Cx}{e a b:Expr}{ta:TE}{f:Str}{pos p p' pos':Pos}
theorem xu(K:W.Frag)(he:PE X e ta)(hb:attributeBase e f X.env (eval e X.env)=eval e X.env)(h:X.K=K:=by rfl):PE X (.Attribute e f pos) (tFld K ta f):=by subst h;exact pe_fld he hb
end
section
variable{X:Cx}{a b:Expr}{ta:TA}{p pos p' pos':Pos}
end
structure tK(K:W.Frag)(C:Addr)(x qual:Str)(st:Stmt)(ps:List Str)(f:Addr)(fd:FuncData):Prop where
 F:Fun K x qual st f fd
 b:Binds K fd ps []
 m:Meth K C x f
end L2
namespace NK
open PySem PySem.W
mutual
def hsh:PyData->Int
 | .int i=>hashInt i
 | .tuple xs=>reduceHash (Builtin.Tuple.tupleHashOf (iK xs))
 |_=>0
def iK:List PyData->List Int
 |[]=>[]
 |d::ds=>hsh d::iK ds
end
mutual
def Bu:PyData->Nat
 | .int _=>1
 | .tuple xs=>lV xs+1
 |_=>0
def lV:List PyData->Nat
 |[]=>0
 |d::ds=>Bu d+lV ds
end
mutual
def nG:PyData->Bool
 | .int _=>true
 | .tuple xs=>bZ xs
 |_=>false
def bZ:List PyData->Bool
 |[]=>true
 |d::ds=>nG d&&bZ ds
end
def p7(A:Around)(s:Shared)(v:Value)(d:PyData):Prop:=∀(prog:Program) (w:World) (E:Value->Shared->Prop) (t:Nat) (Q:Int->Shared->Prop),
 Q (hsh d) {s with toks:=t+Bu d}->wpAny (model prog w) A (pyHash v) Q E {s with toks:=t}
inductive dR(A:Around)(s:Shared):List Value->List PyData->Prop
 |nil:dR A s [] []
 |cons {v vs d ds} (h:p7 A s v d) (t:dR A s vs ds):dR A s (v::vs) (d::ds)
theorem vK{A:Around}{s:Shared}{a:Addr}{o:Obj}{vs:Array Value}{n:Nat}{xs:List PyData}(ho:s.heap.get? a=some o)(hc:o.cls= .type "tuple")(hd:o.data= .seq vs n)(hu:A.units<cLine)(hi:dR A.in1 s vs.toList xs):p7 A s (.ref a) (.tuple xs):=by
 intro prog w E t Q h
 have hT:({s with toks:=t}:Shared).TypeIs (.ref a) "tuple":=⟨o,ho,hc⟩
 unfold pyHash
 first |unfold pyHashByItsType|skip
 first |refine aR (wpAny_cRoomFor_or (.inr hu) ?_)|skip
 refine aR (HY hT F.slot_tuple_hash.lookup ?_)
 show wpAny _ _ (if(some (Value.builtin "tuple.__hash__")==some Value.none)=true then _ else _) Q E _
 rw[aP (by rw[beq_builtin_none];exact mK)]
 refine aR (HY hT F.slot_tuple_hash.lookup ?_)
 show wpAny _ _ (callSpecialIfBoundUnlessNone? (.ref a) "__hash__" _>>=_) Q E _
 refine aR (wpAny_callSpecialIfBoundUnlessNone?_slot hT F.slot_tuple_hash (wpAny_call_entry F.slot_tuple_hash hT F.entry_tuple_hash ?_ (F.args_tuple_hash_1 _)))
 show wpAny _ _ (Builtin.Tuple.tupleItemsOf (.ref a)>>=_) _ _ _
 refine aR (wpAny_tupleItemsOf ho hd (aR ?_))
 rw[<-Array.forIn_toList]
 refine Ii _ (fun rest (b:Array Int) s'=>∃left k,dR A.in1 s rest left/\b.toList++iK left=iK xs/\k+lV left=lV xs/\s'={s with toks:=t+k}) _ ?_ ?_ _ _ ⟨xs,0,hi,rfl,HS _,rfl⟩
 ·rintro x rest b s' ⟨left,k,hl,hb,hk,rfl⟩
  cases hl with
  | @cons _ _ d ds h1 hl'=>
   refine aR (h1 prog w E (t+k) _ ?_)
   have e1:(b.push (hsh d)).toList++iK ds=iK xs:=by rw[<-hb,Array.toList_push,Ck];rfl
   have e2:k+Bu d+lV ds=lV xs:=by rw[<-hk];show _=k+(Bu d+lV ds);omega
   first
    |exact cA ⟨ds,k+Bu d,hl',e1,e2,by rw[GK]⟩
    |exact aR (cA (cA ⟨ds,k+Bu d,hl',e1,e2,by rw[GK]⟩))
 ·rintro b s' ⟨left,k,hl,hb,hk,rfl⟩
  cases hl
  have e1:b.toList=iK xs:=by rw[<-hb];exact(mW _).symm
  have e2:k=lV xs:=by rw[<-hk];rfl
  subst e2
  show wpAny _ _ (retInt (Builtin.Tuple.tupleHashOf b.toList)) _ _ _
  rw[e1]
  refine wpAny_ret_mkInt ?_
  show wpAny _ _ (if(decide (-(2:Int)^63<=Builtin.Tuple.tupleHashOf (iK xs))&&decide (Builtin.Tuple.tupleHashOf (iK xs)<2^63))=true then _ else _) Q E _
  have h':Q (reduceHash (Builtin.Tuple.tupleHashOf (iK xs))) {s with toks:=t+(lV xs+1)}:=h
  unfold reduceHash at h'
  by_cases c:(decide (-(2:Int)^63<=Builtin.Tuple.tupleHashOf (iK xs))&&decide (Builtin.Tuple.tupleHashOf (iK xs)<2^63))=true
  ·rw[aN c]
   rw[aN c]at h'
   exact cA (by simpa[GK]using h')
  ·rw[aP c]
   rw[aP c]at h'
   exact aR (wpAny_rule (cA (by simpa[GK]using h')))
mutual
theorem jA:∀(d:PyData) (A:Around) (s:Shared) (v:Value) (as:List Addr),Reads s.heap v d as->nG d=true->A.units+d.depth<cLine->p7 A s v d
 | .int i,A,s,_,_,r,_,hu=>by
  cases r
  intro prog w E t Q h
  exact wpAny_pyHash_int h
 | .tuple xs,A,s,_,_,r,hn,hu=>by
  have hu':A.units+(PyData.depthAll xs+1)<cLine:=hu
  cases r with
  |tuple h1 h2 h3 h4=>exact vK h1 h2 h3 (by omega) (eO xs A.in1 s _ _ h4 hn (by show A.units+1+_<_;omega))
 | .none,_,_,_,_,_,hn,_=>by cases hn
 | .bool _,_,_,_,_,_,hn,_=>by cases hn
 | .str _,_,_,_,_,_,hn,_=>by cases hn
 | .list _,_,_,_,_,_,hn,_=>by cases hn
 | .dict _,_,_,_,_,_,hn,_=>by cases hn
theorem eO:∀(ds:List PyData) (A:Around) (s:Shared) (vs:List Value) (as:List Addr),ReadsAll s.heap vs ds as->bZ ds=true->A.units+PyData.depthAll ds<cLine->dR A s vs ds
 |[],_,_,_,_,r,_,_=>by cases r;exact .nil
 |d::ds,A,s,_,_,r,hn,hu=>by
  have hu':A.units+max d.depth (PyData.depthAll ds)<cLine:=hu
  have hn':(nG d&&bZ ds)=true:=hn
  rw[fL]at hn'
  cases r with
  |cons h1 h2=>exact .cons (jA d A s _ _ h1 hn'.1 (by omega)) (eO ds A s _ _ h2 hn'.2 (by omega))
end
def gG(A:Around)(s:Shared)(m:Nat)(v:Value):Prop:=∀(prog:Program) (w:World) (E:Value->Shared->Prop) (Q:Bool->Shared->Prop),Q true s->wpAny (model prog w) A (eqIsQuiet m v) Q E s
theorem rW{A:Around}{s:Shared}{a:Addr}{o:Obj}{vs:Array Value}{n m:Nat}(ho:s.heap.get? a=some o)(hc:o.cls= .type "tuple")(hd:o.data= .seq vs n)(hi:∀v∈vs.toList,gG A s m v):gG A s (m+1) (.ref a):=by
 intro prog w E Q h
 have hT:s.TypeIs (.ref a) "tuple":=⟨o,ho,hc⟩
 unfold eqIsQuiet
 refine aR (HY hT F.slot_tuple_eq.lookup ?_)
 show wpAny _ _ (isInstance (.ref a) (.type "tuple")>>=_) _ _ s
 refine aR (wpAny_isInstance hT isSubtype_tuple_tuple ?_)
 simp only[Bool.not_true,Ea,Dz]
 refine aR (GR ho hd (aR ?_))
 show wpAny _ _ (forIn vs _ _) _ _ s
 rw[<-Array.forIn_toList]
 refine Ii _ (fun rest r s'=>r.1=none/\s'=s/\∀v∈rest,gG A s m v) _ ?_ ?_ _ _ ⟨rfl,rfl,hi⟩
 ·rintro v rest r s' ⟨hr,rfl,hall⟩
  refine aR (hall v cQ prog w E _ ?_)
  simp only[Bool.not_true,Ea,Dz]
  exact cA ⟨rfl,rfl,fun u hu'=>hall u (eE _ hu')⟩
 ·rintro⟨r1,r2⟩ s' ⟨hr,rfl,_⟩
  simp only at hr
  subst hr
  exact cA h
mutual
theorem iC:∀(d:PyData) (A:Around) (s:Shared) (v:Value) (as:List Addr) (m:Nat),Reads s.heap v d as->nG d=true->d.depth<=m->gG A s m v
 | .int i,A,s,_,_,m,r,_,_=>by
  cases r
  intro prog w E Q h
  rw[eqIsQuiet_byValue m (v:= .int i _) rfl]
  exact cA h
 | .tuple xs,A,s,_,_,m,r,hn,hm=>by
  have hm':PyData.depthAll xs+1<=m:=hm
  obtain⟨k,rfl⟩:∃k,m=k+1:=⟨m-1,by omega⟩
  cases r with
  |tuple h1 h2 h3 h4=>exact rW h1 h2 h3 (cZ xs A s _ _ k h4 hn (by omega))
 | .none,_,_,_,_,_,_,hn,_=>by cases hn
 | .bool _,_,_,_,_,_,_,hn,_=>by cases hn
 | .str _,_,_,_,_,_,_,hn,_=>by cases hn
 | .list _,_,_,_,_,_,_,hn,_=>by cases hn
 | .dict _,_,_,_,_,_,_,hn,_=>by cases hn
theorem cZ:∀(ds:List PyData) (A:Around) (s:Shared) (vs:List Value) (as:List Addr) (m:Nat),ReadsAll s.heap vs ds as->bZ ds=true->PyData.depthAll ds<=m->∀v∈vs,gG A s m v
 |[],_,_,_,_,_,r,_,_=>by cases r;exact fun v hv=>(nomatch hv)
 |d::ds,A,s,_,_,m,r,hn,hm=>by
  have hm':max d.depth (PyData.depthAll ds)<=m:=hm
  have hn':(nG d&&bZ ds)=true:=hn
  rw[fL]at hn'
  cases r with
  |cons h1 h2=>
   intro v hv
   rcases fK.mp hv with rfl|hv
   ·exact iC d A s _ _ m h1 hn'.1 (by omega)
   ·exact cZ ds A s _ _ m h2 hn'.2 (by omega) v hv
end
abbrev SK:=List (Int×List Int)
def j9(p:Int×List Int):PyData:= .tuple [.int p.1,.tuple (p.2.map PyData.int)]
def toD(k:SK):PyData:= .tuple (k.map j9)
theorem nQ:∀l:List Int,bZ (l.map PyData.int)=true
 |[]=>rfl
 |x::l=>by show(true&&bZ (l.map PyData.int))=true;rw[nQ l];rfl
theorem nU:∀l:List Int,PyData.depthAll (l.map PyData.int)=0
 |[]=>rfl
 |x::l=>by show max 0 (PyData.depthAll (l.map PyData.int))=0;rw[nU l];rfl
theorem nR:∀l:List Int,PyData.canLayAll0 (l.map PyData.int)=true
 |[]=>rfl
 |x::l=>by show(PyData.canLay0 (.int x)&&PyData.canLayAll0 (l.map PyData.int))=true;rw[nR l];rfl
theorem nT:∀l m:List Int,PyData.eqvAll (l.map PyData.int) (m.map PyData.int)=decide (l=m)
 |[],[]=>by simp[PyData.eqvAll]
 |[],y::m=>by simp[PyData.eqvAll]
 |x::l,[]=>by simp[PyData.eqvAll]
 |x::l,y::m=>by
  show(PyData.eqv (.int x) (.int y)&&PyData.eqvAll (l.map PyData.int) (m.map PyData.int))=_
  rw[nT l m]
  have e:PyData.eqv (.int x) (.int y)=decide (x=y):=by
   show(x==y)=_
   rw[mY];simp
  rw[e,mY];simp
theorem Ae(p q:Int×List Int):PyData.eqv (j9 p) (j9 q)=decide (p=q):=by
 show(PyData.eqv (.int p.1) (.int q.1)&&(PyData.eqvAll (p.2.map PyData.int) (q.2.map PyData.int)&&PyData.eqvAll [] []))=_
 rw[nT]
 have e:PyData.eqv (.int p.1) (.int q.1)=decide (p.1=q.1):=by
  show(p.1==q.1)=_
  rw[mY];simp
 have e2:PyData.eqvAll [] []=true:=by simp[PyData.eqvAll]
 rw[e,e2,Bool.and_true,mY,fL,wU,wU,wU]
 exact⟨fun h=>Cq h.1 h.2,fun h=>by rw[h];exact⟨rfl,rfl⟩⟩
theorem iY:∀k:SK,bZ (k.map j9)=true/\PyData.depthAll (k.map j9)<=2/\PyData.canLayAll0 (k.map j9)=true
 |[]=>⟨rfl,eX _,rfl⟩
 |p::k=>by
  obtain⟨a,b,c⟩:=iY k
  refine⟨?_,?_,?_⟩
  ·show((true&&(bZ (p.2.map PyData.int)&&true))&&bZ (k.map j9))=true
   rw[nQ,a];rfl
  ·show max (max 0 (max (PyData.depthAll (p.2.map PyData.int)+1) 0)+1) (PyData.depthAll (k.map j9))<=2
   rw[nU];omega
  ·show(PyData.canLay0 (j9 p)&&PyData.canLayAll0 (k.map j9))=true
   have:PyData.canLay0 (j9 p)=true:=by
    show(PyData.canLay0 (.int p.1)&&(PyData.canLayAll0 (p.2.map PyData.int)&&PyData.canLayAll0 []))=true
    rw[nR];rfl
   rw[this,c];rfl
theorem qP:∀j k:SK,PyData.eqvAll (j.map j9) (k.map j9)=decide (j=k)
 |[],[]=>by simp[PyData.eqvAll]
 |[],y::m=>by simp[PyData.eqvAll]
 |x::l,[]=>by simp[PyData.eqvAll]
 |x::l,y::m=>by
  show(PyData.eqv (j9 x) (j9 y)&&PyData.eqvAll (l.map j9) (m.map j9))=_
  rw[qP l m,Ae,mY];simp
theorem toD_nst(k:SK):nG (toD k)=true:=(iY k).1
theorem toD_dep(k:SK):(toD k).depth<=3:=by
 show PyData.depthAll (k.map j9)+1<=3
 have:=(iY k).2.1
 omega
theorem toD_lay(k:SK):(toD k).canLay0=true:=(iY k).2.2
theorem toD_eqv(j k:SK):PyData.eqv (toD j) (toD k)=decide (j=k):=qP j k
theorem toD_inj{j k:SK}(h:toD j=toD k):j=k:=by
 have e:=toD_eqv j k
 have e2:=toD_eqv j j
 rw[cH rfl]at e2
 rw[<-h,e2]at e
 exact iV e.symm
theorem j8{h:Heap}{v:Value}{d:PyData}{as:List Addr}(r:Reads h v d as)(hn:nG d=true):as=[]:=
 Reads.rec (motive_1:=fun _ d as _=>nG d=true->as=[]) (motive_2:=fun _ ds as _=>bZ ds=true->as=[])
  (fun _=>rfl) (fun _ _=>rfl) (fun _ _ _=>rfl) (fun _ _ _=>rfl) (fun _ _ _ _ _ hn=>by cases hn) (fun _ _ _ _ ih hn=>ih hn) (fun _ _ _ _ _ _ _ hn=>by cases hn) (fun _=>rfl)
  (fun _ _ i1 i2 hn=>by
   have hn':(nG _&&bZ _)=true:=hn
   rw[fL]at hn'
   rw[i1 hn'.1,i2 hn'.2];rfl) r hn
theorem pq{h h':Heap}{dd:Addr}{o:Obj}{es:Array DictEntry}{ep:Nat}(ho:h.get? dd=some o)(hd:o.data= .dict es ep)(hs:Heap.SameBut dd h h'){v:Value}{d:PyData}{as:List Addr}(r:Reads h v d as)(hn:nG d=true):Reads h' v d as:=
 Reads.rec (motive_1:=fun v d as _=>nG d=true->Reads h' v d as) (motive_2:=fun vs ds as _=>bZ ds=true->ReadsAll h' vs ds as)
  (fun _=> .none) (fun b _=> .bool b) (fun i t _=> .int i t) (fun x t _=> .str x t) (fun _ _ _ _ _ hn=>by cases hn)
  (fun{a o' vs n xs as} h1 h2 h3 _ ih hn=>by
   have ne:a≠dd:=fun z=>by
    rw[z]at h1
    have e:=uh (h1.symm.trans ho)
    rw[e,hd]at h3
    cases h3
   exact .tuple ((hs.2 a ne).trans h1) h2 h3 (ih hn)) (fun _ _ _ _ _ _ _ hn=>by cases hn) (fun _=> .nil)
  (fun _ _ i1 i2 hn=>by
   have hn':(nG _&&bZ _)=true:=hn
   rw[fL]at hn'
   exact .cons (i1 hn'.1) (i2 hn'.2)) r hn
def lA(prog:Program)(w:World):HeapKind prog w SK where
 is:=fun h k a=>Reads h (.ref a) (toD k) []
 hash:=fun k=>hsh (toD k)
 draws:=fun k=>Bu (toD k)
 room:=fun A=>A.units+3<cLine
 inj:=fun hx hy=>toD_inj (PySem.Reads.unique hx _ _ hy).1
 keeps:=fun{h h' k a d o es ep} x ho hd hs=>pq ho hd hs x (toD_nst k)
 pyHash:=fun{A E s k a Q} hu hk h=>jA (toD k) A s (.ref a) [] hk (toD_nst k) (by have:=toD_dep k;omega) prog w E s.toks Q h
 eqBool:=fun{A E s x y a b Q} hu hx hy h=>by
  have e:=toD_eqv x y
  have:=toD_dep x
  exact SeqAt.eqAt_reads (toD x) (toD y) A s (.ref a) (.ref b) [] [] hx hy (toD_lay x) (toD_lay y) (by omega) prog w E Q (by rw[e];exact h)
 quiet:=fun{A E s k a Q} hk h=>iC (toD k) A s (.ref a) [] 8 hk (toD_nst k) (by have:=toD_dep k;omega) prog w E Q h
end NK
namespace L2
open PySem PySem.Spec PyProof.Rows
def Df(a:Addr)(xs:List (NK.SK×Addr))(h:Heap):Prop:=(a==sysModules)=false/\xs.length<=sizeLine/\
 ∃o es ep,h.get? a=some o/\o.ExactDict/\o.data= .dict es ep/\es.toList=xs.map (fun x=>(⟨NK.hsh (NK.toD x.1),.ref x.2,.bool true⟩:DictEntry))/\(xs.map (·.1)).Nodup
def BK(a:Addr)(xs:List (NK.SK×Addr)):HO:= .ext (Df a xs)
def DN(K:W.Frag)(H:Hp)(a:Addr)(ks:List NK.SK):Prop:=∃xs,H a=some (BK a xs)/\xs.map (·.1)=ks/\∀x∈xs,DV K H (.ref x.2) (NK.toD x.1)
theorem vQ{a:Addr}{xs:List (NK.SK×Addr)}:∀h1 h2:Heap,Df a xs h1->(∀o,h1.get? a=some o->h2.get? a=some o)->Df a xs h2:=fun h1 h2 ⟨x,y,o,es,ep,ho,r⟩ k=>⟨x,y,o,es,ep,k o ho,r⟩
theorem zy{P:Program}{w:World}{H:Hp}{h:Heap}{a:Addr}{xs:List (NK.SK×Addr)}(p:Df a xs h):ObjOk P w H h a (BK a xs):=by
 refine⟨p,?_,vQ⟩
 obtain⟨_,_,o,_,_,ho,_⟩:=p
 exact⟨o,ho⟩
theorem dM{K:W.Frag}{H H':Hp}{a b:Addr}{φ:Heap->Prop}{xs:List V}(ha:H a=some (.ext φ))(e:∀c o,c≠a->H c=some o->H' c=some o)(h:SqT K H b xs):SqT K H' b xs:=by
 rcases h with(q|⟨o,q⟩)|q
 ·exact .inl (.inl (e _ _ (fun z=>by rw[z,ha]at q;cases q) q))
 ·exact .inl (.inr ⟨o,e _ _ (fun z=>by rw[z,ha]at q;cases q) q⟩)
 ·exact .inr q
theorem lU{K:W.Frag}{H H':Hp}{a:Addr}{φ:Heap->Prop}(ha:H a=some (.ext φ))(e:∀c o,c≠a->H c=some o->H' c=some o){x:V}{d:PyData}(h:DV K H x d)(hn:NK.nG d=true):DV K H' x d:=
 DV.rec (motive_1:=fun x d _=>NK.nG d=true->DV K H' x d) (motive_2:=fun xs ds _=>NK.bZ ds=true->bH K H' xs ds)
  (fun _=> .non) (fun b _=> .bl b) (fun i _=> .int i) (fun x _=> .str x) (fun h _ t hn=> .tup (dM ha e h) (t hn)) (fun _ _ _ hn=>by cases hn) (fun _ hn=>by cases hn) (fun _ _ hn=>by cases hn) (fun _=> .nil)
  (fun _ _ i1 i2 hn=>by
   have hn':(NK.nG _&&NK.bZ _)=true:=hn
   rw[fL]at hn'
   exact .cons (i1 hn'.1) (i2 hn'.2)) h hn
theorem DN.same{K:W.Frag}{H H':Hp}{a:Addr}{ks:List NK.SK}(h:DN K H a ks)(e:Same H H'):DN K H' a ks:=by
 obtain⟨xs,h1,h2,h3⟩:=h
 exact⟨xs,e _ _ h1,h2,fun x hx=>(h3 x hx).same e⟩
section
variable{X:Cx}{pins:List (Addr×Obj)}{σ:St}{H:Hp}{s:Shared}
theorem zA{a:Addr}{xs:List (NK.SK×Addr)}(I:Inv X pins σ H s)(h:H a=some (BK a xs))(hk:∀x∈xs,DV X.K H (.ref x.2) (NK.toD x.1)):
  (a==sysModules)=false/\xs.length<=sizeLine/\s.heap.DictOfH (NK.lA X.prog X.w) a (xs.map fun x=>(x.1,x.2,Value.bool true)):=by
 obtain⟨⟨hd,hz,o,es,ep,ho,hx,hda,he,nd⟩,_⟩:=(show ObjOk X.prog X.w H s.heap a (BK a xs)from I.hok a _ h)
 refine⟨hd,hz,o,es,ep,ho,hx,hda,?_,fun y hy=> ?_,?_⟩
 ·rw[he,mV];rfl
 ·obtain⟨x,hx',rfl⟩:=cR.mp hy
  obtain⟨as,r⟩:=DV.reads I (hk x hx') (u:= .ref x.2) rfl
  have:=NK.j8 r (NK.toD_nst x.1)
  subst this
  exact r
 ·rw[mV];exact nd
theorem vR{b:Addr}{k:NK.SK}(I:Inv X pins σ H s)(h:DV X.K H (.ref b) (NK.toD k)):(NK.lA X.prog X.w).is s.heap k b:=by
 obtain⟨as,r⟩:=DV.reads I h (u:= .ref b) rfl
 have:=NK.j8 r (NK.toD_nst k)
 subst this
 exact r
theorem vU(k:NK.SK):∀xs:List (NK.SK×Addr),(atKey (xs.map fun x=>(x.1,x.2,Value.bool true)) k).isSome=decide (k∈xs.map (·.1))
 |[]=>rfl
 |x::xs=>by
  have ih:=vU k xs
  unfold atKey at ih⊢
  rw[wB,List.find?_cons]
  by_cases c:x.1=k
  ·subst c
   simp
  ·have e1:decide (x.1=k)=false:=fQ c
   show(Option.map _ (match decide (x.1=k)with |true=>_|false=>_)).isSome=_
   rw[e1]
   show(Option.map _ (List.find? _ _)).isSome=_
   rw[ih]
   refine decide_eq_decide.mpr ⟨fun h=>eE _ h,fun h=> ?_⟩
   rcases fK.mp h with z|z
   ·exact absurd z.symm c
   ·exact z
end
section
variable{X:Cx}{o i e value:Expr}{pos pos' tpos:Pos}{td ty tv:TE}
theorem Ah(hu:X.A.units+64<cLine):OpR X (compareOp .In) (fun x y H Q=>∃(a b:Addr) (ks:List NK.SK) (k:NK.SK),y= .ref a/\x= .ref b/\DN X.K H a ks/\DV X.K H (.ref b) (NK.toD k)/\Q (.bl (decide (k∈ks))) H):=by
 intro pins s σ H x y v u Q I rx ry h
 obtain⟨a,b,ks,k,rfl,rfl,⟨xs,h1,h2,h3⟩,hk,q⟩:=h
 cases ry
 cases(show v=Value.ref b from rx)
 obtain⟨hd,hz,dd⟩:=zA I h1 h3
 refine wpAny_in_heap (knd:=NK.lA X.prog X.w) (show X.A.units+1+3<cLine by omega) (vR I hk) hd dd ?_
 rw[vU,h2]
 exact⟨.bl _,H,I.tok _,rfl,q⟩
def Aa(K:W.Frag)(td ty tv:TE):TS:=fun D σ H=>tv σ H fun v H1=>td σ H1 fun x H2=>ty σ H2 fun y H3=>∃(a b:Addr) (ks:List NK.SK) (k:NK.SK),x= .ref a/\y= .ref b/\v= .bl true/\DN K H3 a ks/\DV K H3 (.ref b) (NK.toD k)/\k∉ks/\ks.length<sizeLine/\
 ∀H4,(∀c o,c≠a->H3 c=some o->H4 c=some o)->DN K H4 a (ks++[k])->D.nx σ H4
theorem uV(hu:X.A.units+64<cLine)(ho:PE X o td)(hi:PE X i ty)(hv:PE X value tv)(hs:swapsWith value (some (.Subscript o i pos')) pos.line X.env=pure false:=by rfl):
  PS X (.Assign [.Subscript o i pos'] value pos) (Aa X.K td ty tv):=by
 intro pins s σ H D I h
 refine wpAny_Assign_Subscript (thn (hv pins s σ H _ I h) fun r s1 ⟨v,H1,I1,rv,q1⟩=>thn (ho pins s1 σ H1 _ I1 q1) fun u s2 ⟨x,H2,I2,rx,q2⟩=>thn (hi pins s2 σ H2 _ I2 q2) fun iv s3 ⟨y,H3,I3,ry,a,b,ks,k,ex,ey,ev,⟨xs,h1,h2,h3⟩,hk,nk,lk,q3⟩=> ?_) hs
 subst ex ey ev
 obtain rfl:u=Value.ref a:=rx
 obtain rfl:iv=Value.ref b:=ry
 obtain rfl:r=Value.bool true:=rv
 obtain⟨hd,hz,dd⟩:=zA I3 h1 h3
 have none:atKey (xs.map fun x=>(x.1,x.2,Value.bool true)) k=none:=by
  have:=vU k xs
  rw[h2,fQ nk]at this
  exact Option.not_isSome_iff_eq_none.mp (by rw[this];decide)
 have kk:=vR I3 hk
 refine wpAny_setItem_heap (knd:=NK.lA X.prog X.w) (hsz:=by rw[aQ];exact hz) (show X.A.units+1+3<cLine by omega) kk dd fun h' dd' hb=> ?_
 rw[storedH_new none]at dd'
 obtain⟨o',es,ep,e1,e2,e3,e4,_,e5⟩:=dd'
 have hl:xs.length<sizeLine:=by rw[<-h2,aQ]at lk;exact lk
 have p:Df a (xs++[(k,b)]) h':=by
  refine⟨hd,by rw[gO];show xs.length+1<=_;omega,o',es,ep,e1,e2,e3,?_,?_⟩
  ·rw[e4,bV,bV,mV];rfl
  ·rw[bV,mV]at e5
   rw[bV];exact e5
 have keep:∀c o,c≠a->H3 c=some o->(upd H3 a (BK a (xs++[(k,b)]))) c=some o:=fun c o n z=>by rw[dG n];exact z
 refine⟨σ,upd H3 a (BK a (xs++[(k,b)])),d_write I3 (by rw[h1];exact True.intro) hb ⟨o',e1⟩ (zy p),q3 _ keep ⟨xs++[(k,b)],aL,by rw[bV,h2];rfl,fun x hx=> ?_⟩⟩
 rcases jX.mp hx with z|z
 ·exact lU h1 keep (h3 x z) (NK.toD_nst _)
 ·rw[lg.mp z]
  exact lU h1 keep hk (NK.toD_nst _)
theorem uX:PE X (.Dict [] [] pos) (fun _ H Q=>∀p H',Same H H'->H p=none->DN X.K H' p []->Q (.ref p) H'):=fun pins s σ H Q I h=>by
 have hn:H s.heap.objs.size=none:=I.hok.fresh (bD _)
 have p:Df s.heap.objs.size [] (s.heap.push {cls:= .type "dict",data:= .dict #[]}):=
  ⟨beq_eq_false_iff_ne.mpr (oM (cT I.big)),eX _,_,#[],0,lq _ rfl,⟨rfl,rfl,rfl⟩,rfl,rfl,List.nodup_nil⟩
 exact wpAny_Dict_empty ⟨.ref s.heap.objs.size,_,I.laid (a:=s.heap.objs.size) (o:=BK s.heap.objs.size []) (t':=s.toks) (fun _ _ q=>fO _ q) (bD _) (zy p),rfl,
  h _ _ (fun c o z=>by rw[dG (jP z hn)];exact z) hn ⟨[],aL,rfl,fun x hx=>(nomatch hx)⟩⟩
end
section
variable{X:Cx}{σ:St}{H:Hp}{s:Shared}{pins:List (Addr×Obj)}
variable{I S f l:Addr}{vs:List Value}{RR:Result->Shared->Prop}
theorem xW(kf:Nat->Int)(R:Nat->Hp->Prop)(hA:X.A.handled=none)(mI:iQ X pins I)(mS:iQ X pins S)(CP:S≠I)(Hx:l≠I)(hl:∀j H s,Inv X pins σ H s->R j H->s.heap.IsTuple l vs.toArray)(turn:∀j v (ps:List (Addr×Obj)) H s,vs[j]? =some v->Inv X ps σ H s->R j H->wpAny (model X.prog X.w) X.A.in1 (call (.ref f) [v]) (fun u s'=>∃H' t,u= .int (kf j) t/\Inv X ps σ H' s'/\R (j+1) H') (fun _ _=>False) s)(hR:∀i v H' s',vs[i]? =some v->(∀j,j<vs.length->kf i<=kf j/\(j<i->kf i<kf j))->Inv X pins σ H' s'->R vs.length H'->RR (.ok (.ret v)) s'):
  ∀(r j i:Nat) (H:Hp) (s:Shared) (vb:Value) (tb:Tok) (c:Nat) (oI:Obj),vs.length-(j+1)=r->j+1<=vs.length->Inv X ((I,oI)::(S,seqObj "list" #[vb,.int (kf i) tb] c)::pins) σ H s->R (j+1) H->s.heap.IsTupleIter I l (j+1)->vs[i]? =some vb->i<=j->(∀j',j'<=j->kf i<=kf j'/\(j'<i->kf i<kf j'))->
   codeAny (model X.prog X.w) X.A (.builtin "min.loop" ⟨[.ref I,.ref f,.ref S],[]⟩) RR s:=by
 have nm:(toString "min"++toString ".loop":String)="min.loop":=by decide
 have W:=Walks.tuple (prog:=X.prog) (w:=X.w) (A:=X.A.in1) hA I l Hx vs.toArray
 have zs:vs.toArray.size=vs.length:=dI ..
 have m2:∀o,iQ X ((S,o)::pins) I:=fun o=>mI.under (p:=(S,o)) CP
 have m3:∀o,iQ X ((I,o)::pins) S:=fun o=>mS.under (p:=(I,o)) CP.symm
 intro r
 induction r with
 |zero=>
  intro j i H s vb tb c oI hr hj J Fj hit hvb hij hbest
  have pS:=(J.pin _ (gP _ (eE _ cQ))).1
  refine DQ IV (by
   rw[Eb zQ _]
   show wpAny _ X.A.in1 (seqItems? (.ref S)>>=_) _ _ _
   refine aR (GR pS rfl (?_))
   show wpAny _ X.A.in1 (tryCatch (pyNext (.ref I)) _>>=_) _ _ _
   refine aR (Cv (W.done _ _ _ ⟨by rw[zs,<-show j+1=vs.length by omega];exact hit,hl (j+1) H s J.jg.jg Fj⟩ fun h' tk' hk'=> ?_))
   have k1:∀b x,b≠I->s.heap.get? b=some x->h'.get? b=some x:=fun b x hb e=>hk' b x (fun z=>hb (lg.mp z)) e
   have pI:=J.pin (I,oI) (gP _ cQ)
   have J1:Inv X ((S,seqObj "list" #[vb,.int (kf i) tb] c)::pins) σ H {s with heap:=h',toks:=tk'}:=J.jg.turned (t':=tk') (it:=I) k1 pI.2.1 mI.loc (.inr mI.lo) mI.cl (m2 _).pn
   have g:=(J1.pin _ (gP _ cQ)).1
   show wpAny _ X.A.in1 (updateSeq S (fun _=>#[])>>=_) _ _ _
   refine aR (HX g rfl (aR (GD (cA ?_))))
   have sb:=Cy h' S (Obj.mapSeq fun _=>(#[]:Array Value))
   have J2:=(J1.m8 (o':=seqObj "list" #[] _) (tk:=tk') mS (fun b x hb e=>(sb.2 b hb).trans e) (Cw g fun _=>#[]) (lR _))
   exact hR i vb H _ hvb (fun j' hj'=>hbest j' (by omega)) J2.jg (by rw[<-show j+1=vs.length by omega];exact Fj))
 |succ r ih=>
  intro j i H s vb tb c oI hr hj J Fj hit hvb hij hbest
  have hlt:j+1<vs.length:=by omega
  have pS:=(J.pin _ (gP _ (eE _ cQ))).1
  refine DQ IV (by
   rw[Eb zQ _]
   show wpAny _ X.A.in1 (seqItems? (.ref S)>>=_) _ _ _
   refine aR (GR pS rfl (?_))
   show wpAny _ X.A.in1 (tryCatch (pyNext (.ref I)) _>>=_) _ _ _
   refine aR (Cv (W.item (j+1) _ _ _ (by rw[zs];exact hlt) ⟨hit,hl (j+1) H s J.jg.jg Fj⟩ fun v h' tk' hP hst' hk'=> ?_))
   have hv:vs[j+1]? =some v:=(by simpa using hP)
   have k1:∀b x,b≠I->s.heap.get? b=some x->h'.get? b=some x:=fun b x hb e=>hk' b x (fun z=>hb (lg.mp z)) e
   obtain⟨oI',hoI,hoc,hod⟩:=id hst'.1
   have J1:=J.m8 (o':=oI') (tk:=tk') (m2 _) k1 hoI (fun v z=>by rw[hod]at z;cases z)
   show wpAny _ X.A.in1 (tryCatch (holding [v] (call (.ref f) [v])) _>>=_) _ _ _
   refine aR (Cv (wQ (wC (turn (j+1) v _ H _ hv J1 Fj) (fun u s2 z=> ?_) fun _ _ z=>z.elim)))
   obtain⟨H2,t2,rfl,J2,Hz⟩:=z
   have hit2:s2.heap.IsTupleIter I l (j+1+1):=⟨oI',(J2.pin _ (gP _ cQ)).1,hoc,hod⟩
   have g:=(J2.pin _ (gP _ (eE _ cQ))).1
   show wpAny _ X.A.in1 (tryCatch (holding [v,.int (kf (j+1)) t2] (richCompare .Lt (.int (kf (j+1)) t2) (.int (kf i) tb)>>=_)) _>>=_) _ _ _
   refine aR (Cv (wQ (aR (CmpOf.ints_lt (prog:=X.prog) (w:=X.w) (A:=X.A.in1) (P:=fun i v=>∃t,v= .int (kf i) t) kf (fun i v h=>h) (j+1) i _ _ _ _ _ ⟨t2,rfl⟩ ⟨tb,rfl⟩ (aR (wQ (wV (aR (GD (cA ?_))))))))))
   by_cases hb:kf (j+1)<kf i
   ·have sb:=Cy s2.heap S (Obj.mapSeq fun _=>#[v,.int (kf (j+1)) t2])
    simp only[hb,decide_true,if_true]
    refine aR (HX g rfl (aR (GD ?_)))
    rw[nm]
    have J3:=(J2.swap.m8 (o':=seqObj "list" #[v,.int (kf (j+1)) t2] _) (tk:=s2.toks) (m3 _) (fun b x hb e=>(sb.2 b hb).trans e) (Cw g fun _=>#[v,.int (kf (j+1)) t2]) (lR _)).swap
    refine cA ⟨DP zQ _,ih (j+1) (j+1) H2 _ v t2 _ oI' (by omega) hlt J3 Hz ⟨oI',(J3.pin _ (gP _ cQ)).1,hoc,hod⟩ hv (bD _) fun j' hj'=> ?_⟩
    by_cases e:j'=j+1
    ·subst e;exact⟨DG _,fun z=>absurd z (qj _)⟩
    ·have q:=(hbest j' (by omega)).1
     exact⟨by omega,fun _=>by omega⟩
   ·simp only[hb,decide_false,Ea,Dz]
    refine aR (GD (?_))
    rw[nm]
    refine cA ⟨DP zQ _,ih (j+1) i H2 _ vb tb c oI' (by omega) hlt J2 Hz hit2 hvb (by omega) fun j' hj'=> ?_⟩
    by_cases e:j'=j+1
    ·subst e;exact⟨by omega,fun z=>by omega⟩
    ·exact hbest j' (by omega))
theorem vB{Q:Value->Shared->Prop}{E:Value->Shared->Prop}(kf:Nat->Int)(R:Nat->Hp->Prop)(hA:X.A.handled=none)(hne:0<vs.length)(J:Inv X pins σ H s)(J8:R 0 H)(hl:∀j H s,Inv X pins σ H s->R j H->s.heap.IsTuple l vs.toArray)(turn:∀j v (ps:List (Addr×Obj)) H s,vs[j]? =some v->Inv X ps σ H s->R j H->wpAny (model X.prog X.w) X.A.in1 (call (.ref f) [v]) (fun u s'=>∃H' t,u= .int (kf j) t/\Inv X ps σ H' s'/\R (j+1) H') (fun _ _=>False) s)(hQ:∀i v H' s',vs[i]? =some v->(∀j,j<vs.length->kf i<=kf j/\(j<i->kf i<kf j))->Inv X pins σ H' s'->R vs.length H'->Q v s'):
  wpAny (model X.prog X.w) X.A (call (.builtin "min") [.ref l] [(Str.ofString "key",.ref f)]) Q E s:=by
 have nm:(toString "min"++toString ".loop":String)="min.loop":=by decide
 have hls:=hl 0 H s J J8
 obtain⟨ol,hol,_⟩:=id hls
 have Hx:l≠s.heap.objs.size:=cT (cB hol)
 refine kmb_tree PySem.F.kind_min PySem.F.plain_min PySem.F.entry_min (kmb_min_key _ _) (by
  show wpAny _ X.A.in1 (Builtin.Builtins.bindParams "min" ["key","default"] 0 ⟨[],[(Str.ofString "key",.ref f)]⟩>>=_) _ _ s
  refine aR (wpAny_of_eq (show Builtin.Builtins.bindParams "min" ["key","default"] 0 ⟨[],[(Str.ofString "key",.ref f)]⟩=pure [some (.ref f),none]from rfl) (aR (cA (aR (wpAny_pyIter_tuple hls (aR (wpAny_newList ?_ (eX _))))))))
  rw[nm]
  have zS:(s.heap.push {cls:= .type "tuple_iterator",data:= .fields #[.ref l,.int 0 0]}).objs.size=s.heap.objs.size+1:=size_push' ..
  rw[zS]
  have k0:∀b o,s.heap.get? b=some o->((s.heap.push {cls:= .type "tuple_iterator",data:= .fields #[.ref l,.int 0 0]}).push (seqObj "list" #[] 0)).get? b=some o:=fun b o e=>fO _ (fO _ e)
  have Ly:((s.heap.push {cls:= .type "tuple_iterator",data:= .fields #[.ref l,.int 0 0]}).push (seqObj "list" #[] 0)).get? s.heap.objs.size=some {cls:= .type "tuple_iterator",data:= .fields #[.ref l,.int 0 0]}:=fO _ (lq _ rfl)
  have gS:((s.heap.push {cls:= .type "tuple_iterator",data:= .fields #[.ref l,.int 0 0]}).push (seqObj "list" #[] 0)).get? (s.heap.objs.size+1)=some (seqObj "list" #[] 0):=by rw[<-zS];exact lq _ rfl
  have mI:=iQ.new J (bD _)
  have mS:=iQ.new J (Cr s.heap.objs.size)
  have CP:s.heap.objs.size+1≠s.heap.objs.size:=DK (wO _)
  have Jk:Inv X pins σ H {s with heap:=(s.heap.push {cls:= .type "tuple_iterator",data:= .fields #[.ref l,.int 0 0]}).push (seqObj "list" #[] 0),toks:=s.toks}:=J.kept k0
  have JI:Inv X ((s.heap.objs.size,{cls:= .type "tuple_iterator",data:= .fields #[.ref l,.int 0 0]})::(s.heap.objs.size+1,seqObj "list" #[] 0)::pins) σ H {s with heap:=(s.heap.push {cls:= .type "tuple_iterator",data:= .fields #[.ref l,.int 0 0]}).push (seqObj "list" #[] 0),toks:=s.toks}:=Jk.pins_of fun q hq=>by
   rcases fK.mp hq with z|z
   ·subst z;exact⟨Ly,J.hok.fresh (bD _),mI.loc,mI.fs,fun v z=>by have z':Data.fields #[Value.ref l,.int 0 0]=Data.cell v:=z;cases z'⟩
   ·rcases fK.mp z with z|z
    ·subst z;exact⟨gS,J.hok.fresh (Cr _),mS.loc,mS.fs,lR _⟩
    ·exact Jk.pin q (gP _ z)
  have W:=Walks.tuple (prog:=X.prog) (w:=X.w) (A:=X.A.in1) hA s.heap.objs.size l Hx vs.toArray
  refine cA ⟨DP zQ _,DQ IV ?_⟩
  rw[Eb zQ _]
  show wpAny _ X.A.in1 (seqItems? (.ref (s.heap.objs.size+1))>>=_) _ _ _
  refine aR (GR gS rfl (?_))
  show wpAny _ X.A.in1 (tryCatch (pyNext (.ref s.heap.objs.size)) _>>=_) _ _ _
  refine aR (Cv (W.item 0 _ _ _ (by rw[dI];exact hne) ⟨⟨_,Ly,rfl,rfl⟩,hl 0 H _ Jk J8⟩ fun v h' tk' hP hst' hk'=> ?_))
  have hv:vs[0]? =some v:=(by simpa using hP)
  obtain⟨oI',hoI,hoc,hod⟩:=id hst'.1
  have J1:=JI.m8 (o':=oI') (tk:=tk') (mI.under (p:=(s.heap.objs.size+1,seqObj "list" #[] 0)) CP) (fun b x hb e=>hk' b x (fun z=>hb (lg.mp z)) e) hoI (fun v z=>by rw[hod]at z;cases z)
  show wpAny _ X.A.in1 (tryCatch (holding [v] (call (.ref f) [v])) _>>=_) _ _ _
  refine aR (Cv (wQ (wC (turn 0 v _ H _ hv J1 J8) (fun u s2 z=> ?_) fun _ _ z=>z.elim)))
  obtain⟨H2,t2,rfl,J2,Hz⟩:=z
  have g:=(J2.pin _ (gP _ (eE _ cQ))).1
  have sb:=Cy s2.heap (s.heap.objs.size+1) (Obj.mapSeq fun _=>#[v,.int (kf 0) t2])
  show wpAny _ X.A.in1 (updateSeq (s.heap.objs.size+1) (fun _=>#[v,.int (kf 0) t2])>>=_) _ _ _
  refine aR (HX g rfl ?_)
  rw[nm]
  have J3:=(J2.swap.m8 (o':=seqObj "list" #[v,.int (kf 0) t2] _) (tk:=s2.toks) (mS.under (p:=(s.heap.objs.size,oI')) CP.symm) (fun b x hb e=>(sb.2 b hb).trans e) (Cw g fun _=>#[v,.int (kf 0) t2]) (lR _)).swap
  exact cA ⟨DP zQ _,xW kf R hA mI mS CP Hx hl turn hQ _ 0 0 H2 _ v t2 _ oI' rfl hne J3 Hz ⟨oI',(J3.pin _ (gP _ cQ)).1,hoc,hod⟩ hv (bD _) fun j' hj'=>by
   have e:j'=0:=by omega
   subst e
   exact⟨DG _,fun z=>absurd z (qj _)⟩⟩)
theorem w6{k:Nat}{fd:FuncData}{ps:List Str}{sp:Sp}{Q:VK}{us:List Value}{zs:List V}(F:FnOk X.prog X.w X.K X.mg X.base CX0 k f fd ps sp)(hr:Room k X.A.in1)(hb:Binds X.K fd ps [])(I:Inv X pins σ H s)(r:Vals zs us)(h:sp zs H Q E0):
  wpAny (model X.prog X.w) X.A.in1 (call (.ref f) us) (EP X pins σ Q) (fun _ _=>False) s:=by
 have hl:us.length=ps.length:=by rw[<-r.length];exact F.len _ _ _ _ h
 have bb:=hb s us I.kIn (by rw[mW];exact hl)
 rw[mW]at bb
 refine wpAny_call (Cu (F.run X.A.in1 X.stack s H ⟨us,[]⟩ us zs Q E0 hr I.env0.in1 bb r h) fun r s' hq=> ?_)
 cases r with
 |error e=>exact hq
 |ok fl=>
  cases fl with
  |ret u=>exact I.after hq
  |next=>exact False.elim hq
  |brk=>exact False.elim hq
  |cont=>exact False.elim hq
end
def Ed(K:W.Frag)(sp:Sp)(ta:TA):TE:=fun σ H Q=>ta σ H fun vs H1=>∃(l:Addr) (its:List Addr) (kf:Nat->Int),vs=[.ref l]/\SqT K H1 l (its.map V.ref)/\its≠[]/\
 (∀j p,its[j]? =some p->sp [.ref p] H1 (fun v H'=>v= .int (kf j)/\H'=H1) E0)/\
 ∀i p,its[i]? =some p->(∀j,j<its.length->kf i<=kf j/\(j<i->kf i<kf j))->Q (.ref p) H1
theorem je:∀{its:List Addr} {us:List Value},Vals (its.map V.ref) us->us=its.map Value.ref
 |[],_,h=>by cases h;rfl
 |p::its,_,h=>by
  cases h with
  |cons r t=>rw[je t];cases r;rfl
section
variable{X:Cx}{a:Expr}{ta:TA}{p kp p2 pos:Pos}{k:Nat}{f:Addr}{fd:FuncData}{q x:Str}{sp:Sp}
theorem xr(F:FnOk X.prog X.w X.K X.mg X.base CX0 k f fd [q] sp)(hc:X.calm=true)(hr:Room (k+1) X.A)(hg:Gl X "min")(hm:X.mg "min"=none)(N7:Gl X x)(hmx:X.mg x=some (.ref f))(hk:PySem.W.keepIn X.K (.ref f)=true)(hb:Binds X.K fd [q] [])(ha:PA X [a] ta)(hdb:(x==("__debug__":Str))=false:=by decide)(N8:backTo pos (starEach [a] X.env)=(false,eval a X.env)::backTo pos (starEach [] X.env):=by rfl)(hp:(backTo pos (starEach [a] X.env)).any (·.1)=false:=by rfl):PE X (.Call (.Name "min" p) [a] [⟨some "key",.Name x p2,kp⟩] pos) (Ed X.K sp ta):=by
 intro pins s σ H Q I h
 refine zP (ld_blt I hg hm (show bootBuiltins "min"=some (.builtin "min")from by decide+kernel) ?_ (by decide) (by decide))
 refine PyProof.Rows.callWith_kw (thn (ha pos pins s σ H _ I h) fun us s1 ⟨vs,H1,I1,r1,q1⟩=>kws_cons ?_) N8 hp
 obtain⟨l,its,kf,e,hq,hne,ht,q⟩:=q1
 subst e
 cases r1 with
 |cons r rr=>
  cases rr
  cases r
  refine ld_glob I1 N7 hmx (kws_nil ?_) hdb
  have Et:(its.map Value.ref).length=its.length:=aQ _
  show wpAny (model X.prog X.w) X.A (call (.builtin "min") [.ref l] [(Str.ofString "key",.ref f)]) (EP X pins σ Q) X.xe s1
  refine vB (vs:=its.map Value.ref) kf (fun j H=>H=H1) (I.ok.hd hc) (by rw[Et];exact List.length_pos_iff.mpr hne) I1 rfl (fun j H s J hj=> ?_) (fun j v ps H s hv' J hj=> ?_) fun i v H' s' hv' hb' J hj=> ?_
  ·subst hj
   obtain⟨ws,rv,pl,hz⟩:=J.tuple hq
   rw[je rv]at pl
   exact pl
  ·subst hj
   rw[dH]at hv'
   cases ej:its[j]? with
   |none=>rw[ej]at hv';cases hv'
   |some p=>
    rw[ej]at hv'
    cases hv'
    refine wC (w6 F (hr.in1) hb J (zs:=[.ref p]) (.cons rfl .nil) (ht j p ej)) (fun u s' z=> ?_) fun _ _ z=>z.elim
    obtain⟨w,H',J',rw',rfl,rfl⟩:=z
    obtain⟨t,rfl⟩:=rw'
    exact⟨H',t,rfl,J',rfl⟩
  ·subst hj
   rw[dH]at hv'
   cases ei:its[i]? with
   |none=>rw[ei]at hv';cases hv'
   |some p=>
    rw[ei]at hv'
    cases hv'
    rw[Et]at hb'
    exact⟨.ref p,H',J,rfl,q i p ei hb'⟩
end
end L2
namespace Sw
abbrev SK:=List (Int×List Int)
section
variable(T U:Int->Int->Bool)
def iG(k:SK)(l img:Int):SK:=k.filterMap fun p=>if T l p.1=true then some (p.1,p.2.filter fun y=>U img y)else if p.1=l then none else some p
structure tV(k:SK)(g:Int->Int):Prop where
 im:∀p∈k,g p.1∈p.2
 ti:∀p∈k,∀q∈k,T p.1 q.1=true->U (g p.1) (g q.1)=true
structure Ok:Prop where
 wF:∀x,T x x=false
 sym:∀x y,T x y=T y x
 MJ:∀x y,U x y=U y x
def Nd(k:SK):Prop:=(k.map (·.1)).Nodup
end
section
variable{T U:Int->Int->Bool}
theorem yF{k:SK}{l img:Int}{p:Int×List Int}:p∈iG T U k l img↔∃q∈k,q.1=p.1/\((T l q.1=true/\p.2=q.2.filter fun y=>U img y)\/(T l q.1=false/\q.1≠l/\p.2=q.2)):=by
 unfold iG
 rw[List.mem_filterMap]
 refine⟨fun⟨q,hq,e⟩=>⟨q,hq,?_⟩,fun⟨q,hq,e,h⟩=>⟨q,hq,?_⟩⟩
 ·by_cases c:T l q.1=true
  ·rw[aN c]at e
   cases e
   exact⟨rfl,.inl ⟨c,rfl⟩⟩
  ·rw[aP c]at e
   by_cases c2:q.1=l
   ·rw[aN c2]at e;cases e
   ·rw[aP c2]at e
    cases e
    exact⟨rfl,.inr ⟨Bool.eq_false_iff.mpr c,c2,rfl⟩⟩
 ·rcases h with⟨a,b⟩|⟨a,b,c⟩
  ·rw[aN a]
   exact was some (Cq e b.symm)
  ·rw[aP (by rw[a];decide),aP b]
   exact was some (Cq e c.symm)
theorem nd_eq{k:SK}(h:Nd k){p q:Int×List Int}(hp:p∈k)(hq:q∈k)(e:p.1=q.1):p=q:=by
 obtain⟨i,hi,rfl⟩:=Ir hp
 obtain⟨j,hj,rfl⟩:=Ir hq
 have h':(k.map fun p:Int×List Int=>p.1).Nodup:=h
 have:=(List.getElem?_inj (i:=i) (j:=j) (by rw[aQ];exact hi) h').mp (by rw[dH,dH,jQ hi,jQ hj];exact was some e)
 subst this
 rfl
theorem uK(o:Ok T U){k:SK}{l:Int}{g:Int->Int}{is:List Int}(hl:(l,is)∈k)(h:tV T U k g):tV T U (iG T U k l (g l)) g:=by
 refine⟨fun p hp=> ?_,fun p hp q hq t=> ?_⟩
 ·obtain⟨r,hr,e,c⟩:=yF.mp hp
  rw[<-e]
  rcases c with⟨a,b⟩|⟨a,b,c⟩
  ·rw[b]
   exact kZ.mpr ⟨h.im r hr,h.ti _ hl r hr a⟩
  ·rw[c];exact h.im r hr
 ·obtain⟨r,hr,e,_⟩:=yF.mp hp
  obtain⟨r',hr',e',_⟩:=yF.mp hq
  rw[<-e,<-e']at t⊢
  exact h.ti r hr r' hr' t
def pt(g:Int->Int)(l img:Int):Int->Int:=fun x=>if x=l then img else g x
theorem uI(o:Ok T U){k:SK}(nd:Nd k){l img:Int}{g:Int->Int}{is:List Int}(hl:(l,is)∈k)(hi:img∈is)(h:tV T U (iG T U k l img) g):tV T U k (pt g l img):=by
 have rest:∀p∈k,p.1≠l->g p.1∈p.2/\(T l p.1=true->U img (g p.1)=true)/\∃p'∈iG T U k l img,p'.1=p.1:=fun p hp ne=>by
  by_cases c:T l p.1=true
  ·have m:(p.1,p.2.filter fun y=>U img y)∈iG T U k l img:=yF.mpr ⟨p,hp,rfl,.inl ⟨c,rfl⟩⟩
   have:=kZ.mp (h.im _ m)
   exact⟨this.1,fun _=>this.2,_,m,rfl⟩
  ·have m:p∈iG T U k l img:=yF.mpr ⟨p,hp,rfl,.inr ⟨Bool.eq_false_iff.mpr c,ne,rfl⟩⟩
   exact⟨h.im _ m,fun z=>absurd z c,_,m,rfl⟩
 refine⟨fun p hp=> ?_,fun p hp q hq t=> ?_⟩
 ·unfold pt
  by_cases c:p.1=l
  ·rw[aN c]
   have:=nd_eq nd hp hl c
   rw[this];exact hi
  ·rw[aP c];exact(rest p hp c).1
 ·unfold pt
  by_cases c:p.1=l
  ·by_cases d:q.1=l
   ·rw[c,d,o.wF]at t;cases t
   ·rw[aN c,aP d]
    rw[c]at t
    exact(rest q hq d).2.1 t
  ·by_cases d:q.1=l
   ·rw[aP c,aN d]
    rw[d,o.sym]at t
    rw[o.MJ]
    exact(rest p hp c).2.1 t
   ·rw[aP c,aP d]
    obtain⟨p',hp',e⟩:=(rest p hp c).2.2
    obtain⟨q',hq',e'⟩:=(rest q hq d).2.2
    have:=h.ti p' hp' q' hq' (by rw[e,e'];exact t)
    rw[e,e']at this
    exact this
theorem gC(o:Ok T U)(l img:Int):∀k:SK,(iG T U k l img).map (·.1)=(k.map (·.1)).filter fun x=>decide (x≠l)
 |[]=>rfl
 |p::k=>by
  have ih:=gC o l img k
  unfold iG at ih⊢
  rw[Dv,wB,yK]
  by_cases c:T l p.1=true
  ·have ne:p.1≠l:=fun z=>by rw[z,o.wF]at c;cases c
   rw[aN c,aN (by simpa using ne)]
   show p.1::_=_
   rw[ih]
  ·rw[aP c]
   by_cases d:p.1=l
   ·rw[aN d,aP (by simpa using d)]
    exact ih
   ·rw[aP d,aN (by simpa using d)]
    show p.1::_=_
    rw[ih]
theorem pR(o:Ok T U){k:SK}{l img:Int}(h:Nd k):Nd (iG T U k l img):=by
 unfold Nd
 rw[gC o]
 exact List.Pairwise.filter _ h
theorem jr{l:Int}:∀{xs:List Int},xs.Nodup->l∈xs->(xs.filter (fun x=>decide (x≠l))++[l]).Perm xs
 |[],_,h=>nomatch h
 |x::xs,nd,h=>by
  obtain⟨nx,nd'⟩:=zK.mp nd
  rw[yK]
  by_cases c:x=l
  ·subst c
   rw[aP (by simp)]
   have e:xs.filter (fun y=>decide (y≠x))=xs:=List.filter_eq_self.mpr fun y hy=>cH fun z=>nx (by rw[<-z];exact hy)
   rw[e]
   exact List.perm_append_comm
  ·rw[aN (by simpa using c)]
   have:l∈xs:=(fK.mp h).elim (fun z=>absurd z.symm c) id
   exact(jr nd' this).cons x
theorem mj(o:Ok T U){k:SK}{l img:Int}{is:List Int}(h:Nd k)(hl:(l,is)∈k):(iG T U k l img).length+1=k.length:=by
 have p:=(jr h (cR.mpr ⟨_,hl,rfl⟩)).length_eq
 rw[<-gC o l img,gO,aQ,aQ]at p
 exact p
def Res(T U:Int->Int->Bool)(k:SK)(r:List (Int×Int)):Prop:=(r.map (·.1)).Perm (k.map (·.1))/\∃g,tV T U k g/\∀e∈r,g e.1=e.2
theorem uU(o:Ok T U){k:SK}(nd:Nd k){l img:Int}{is:List Int}{r:List (Int×Int)}(hl:(l,is)∈k)(hi:img∈is)(h:Res T U (iG T U k l img) r):Res T U k (r++[(l,img)]):=by
 obtain⟨hp,g,hg,he⟩:=h
 refine⟨?_,pt g l img,uI o nd hl hi hg,fun e m=> ?_⟩
 ·rw[bV]
  refine(hp.append_right _).trans ?_
  rw[gC o]
  exact jr nd (cR.mpr ⟨_,hl,rfl⟩)
 ·unfold pt
  rcases jX.mp m with z|z
  ·have:e.1∈(iG T U k l img).map (·.1):=hp.mem_iff.mp (cR.mpr ⟨e,z,rfl⟩)
   rw[gC o,kZ]at this
   rw[aP (iV this.2)]
   exact he e z
  ·rw[lg.mp z,aN rfl]
theorem xq:Res T U [] []:=⟨List.Perm.refl _,fun _=>0,⟨fun p hp=>(nomatch hp),fun p hp=>(nomatch hp)⟩,fun e he=>(nomatch he)⟩
theorem zU(o:Ok T U){k:SK}{l:Int}{is:List Int}(hl:(l,is)∈k)(h:∀y∈is,¬∃g,tV T U (iG T U k l y) g):¬∃g,tV T U k g:=fun⟨g,hg⟩=>h (g l) (hg.im _ hl) ⟨g,uK o hl hg⟩
theorem uJ{k:SK}{p:Int×List Int}(hp:p∈k)(h:p.2=[]):¬∃g,tV T U k g:=fun⟨g,hg⟩=>by
 have:=hg.im p hp
 rw[h]at this;cases this
def cst(m:Nat):Nat->Nat
 |0=>0
 |l+1=>1+m*cst m l
structure yx(U:Int->Int->Bool)(no:Int)(k:SK):Prop where
 all:∀x y,0<=x->x<no->0<=y->y<no->x≠y->U x y=true
 big:∀p∈k,p.2.Nodup/\(∀y∈p.2,0<=y/\y<no)/\k.length<=p.2.length
theorem nO{U:Int->Int->Bool}{img:Int}:∀{ys:List Int},ys.Nodup->(∀y∈ys,y≠img->U img y=true)->ys.length<=(ys.filter fun y=>U img y).length+1
 |[],_,_=>eX _
 |y::ys,nd,h=>by
  obtain⟨ny,nd'⟩:=zK.mp nd
  rw[yK]
  by_cases c:y=img
  ·subst c
   have e:ys.filter (fun z=>U y z)=ys:=List.filter_eq_self.mpr fun z hz=>h z (eE _ hz) fun q=>ny (by rw[<-q];exact hz)
   split<;>simp only[mX,e]<;>omega
  ·rw[aN (h y cQ c)]
   have:=nO nd' fun z hz=>h z (eE _ hz)
   simp only[mX]
   omega
theorem m7(o:Ok T U){no:Int}{k:SK}(nd:Nd k){l img:Int}{is:List Int}(hl:(l,is)∈k)(hi:img∈is)(h:yx U no k):yx U no (iG T U k l img):=by
 have hb:=(h.big _ hl).2.1 img hi
 have len:=mj (img:=img) o nd hl
 refine⟨h.all,fun p hp=> ?_⟩
 obtain⟨q,hq,e,c⟩:=yF.mp hp
 obtain⟨b1,b2,b3⟩:=h.big q hq
 rcases c with⟨a,b⟩|⟨a,b,c⟩
 ·rw[b]
  refine⟨b1.filter _,fun y hy=>b2 y (kZ.mp hy).1,?_⟩
  have:=nO (U:=U) (img:=img) b1 fun y hy ne=>h.all img y hb.1 hb.2 (b2 y hy).1 (b2 y hy).2 (oM ne)
  omega
 ·rw[c]
  exact⟨b1,b2,by omega⟩
theorem fZ(o:Ok T U){no:Int}:∀(m:Nat) {k:SK},k.length=m->Nd k->yx U no k->∃g,tV T U k g
 |0,k,e,_,_=>by
  cases k with
  |nil=>exact⟨fun _=>0,fun p hp=>(nomatch hp),fun p hp=>(nomatch hp)⟩
  |cons p k=>cases e
 |m+1,k,e,nd,h=>by
  cases k with
  |nil=>cases e
  |cons p k=>
   have hp:(p.1,p.2)∈p::k:=cQ
   have b:=(h.big p cQ).2.2
   cases ep:p.2 with
   |nil=>rw[ep]at b;simp at b
   |cons y ys=>
    have hy:y∈p.2:=by rw[ep];exact cQ
    have len:=mj (img:=y) o nd hp
    obtain⟨g,hg⟩:=fZ o m (k:=iG T U (p::k) p.1 y) (by omega) (pR o nd) (m7 o nd hp hy h)
    exact⟨_,uI o nd hp hy hg⟩
structure CW(n no:Int)(k:SK):Prop where
 nd:Nd k
 pl:∀p∈k,0<=p.1/\p.1<n
 im:∀p∈k,(∀y∈p.2,0<=y/\y<no)/\(p.2.length:Int)<=no
theorem CW.iG(o:Ok T U){n no:Int}{k:SK}{l img:Int}(h:CW n no k):CW n no (iG T U k l img):=by
 refine⟨pR o h.nd,fun p hp=> ?_,fun p hp=> ?_⟩
 ·obtain⟨q,hq,e,_⟩:=yF.mp hp
  rw[<-e];exact h.pl q hq
 ·obtain⟨q,hq,e,c⟩:=yF.mp hp
  obtain⟨i1,i2⟩:=h.im q hq
  rcases c with⟨_,b⟩|⟨_,_,b⟩
  ·rw[b]
   have:=yO (fun y=>U img y) q.2
   exact⟨fun y hy=>i1 y (kZ.mp hy).1,by omega⟩
  ·rw[b];exact⟨i1,i2⟩
theorem gQ{xs ys:List Int}(h:xs.Perm ys)(hx:xs.Pairwise (· < ·))(hy:ys.Pairwise (· < ·)):xs=ys:=
 List.Perm.eq_of_pairwise (le:=fun a b=>a<b) (fun a b _ _ h1 h2=>absurd h1 (by omega)) hx hy h
end
end Sw
namespace Hs
open PySem L2 tL
def top(i:Nat):Stmt:=PySem.Challenge.pw_hueshare_k43_ways_told.main.body.getD i (.Pass ⟨0,0,0,0⟩)
abbrev Di:Stmt:=top 6
abbrev Dh:Stmt:=top 7
abbrev Dq:Stmt:=top 8
abbrev Dl:Stmt:=top 9
abbrev fY:Stmt:=top 10
abbrev Ga:Stmt:=top 11
abbrev fW:Stmt:=top 12
abbrev BW:Stmt:=top 13
abbrev Gf:Stmt:=top 14
abbrev Dg:Stmt:=top 15
abbrev Gg:Stmt:=top 16
abbrev Cd:Stmt:=top 18
abbrev Ca:Stmt:=top 19
abbrev Gh:Stmt:=inClass (top 20) 0
abbrev Gs:Stmt:=inClass (top 20) 1
abbrev Ce:Stmt:=inClass (top 20) 2
abbrev yJ:Stmt:=inClass (top 20) 3
abbrev wL:Stmt:=inClass (top 20) 4
abbrev Gb:Stmt:=top 21
abbrev fX:Stmt:=top 22
abbrev Ge:Stmt:=top 24
abbrev zH:Stmt:=top 25
abbrev Dr:Stmt:=top 26
abbrev Gd:Stmt:=top 27
abbrev wA:Stmt:=top 28
abbrev Gp:Stmt:=top 29
abbrev Gi:Stmt:=top 30
abbrev Gk:Stmt:=top 31
abbrev wK:Stmt:=top 32
abbrev Gq:Stmt:=top 33
abbrev Gm:Stmt:=top 34
abbrev Gj:Stmt:=top 35
abbrev fV:Stmt:=top 36
section
variable{P:Program}{w:World}{K:W.Frag}{mg:Str->Option Value}{base:Heap}
def lB(K:W.Frag):Sp:=fun vs H Q _=>∃x d,vs=[x]/\DX K H x d/\Q (.bl (jd d)) H
theorem uM:FnScope ["thing"] ["thing"] (defScope Di):=fsc
theorem u5{f:Addr}{fd:FuncData}(F:Fun K "is_whole" "is_whole" Di f fd)(mi:mg "isinstance"=none)(mI:mg "int"=none)(mB:mg "bool"=none):FnOk P w K mg base CX0 1 f fd ["thing"] (lB K):=by
 refine F.ok uM (fun vs H Q E h=> ?_) (fun cdv A outer s H vs Q E hr h=> ?_)
 ·obtain⟨x,d,rfl,_⟩:=h
  rfl
 obtain⟨x,d,rfl,hx,q⟩:=h
 refine⟨_,aW (bY (pe_and (cG wJ rfl mi (by decide+kernel) (ak (pv 0) (ak (wI rfl mI (v:= .ty "int") (by decide+kernel) rfl) aq)))
  (pe_one (pe_not (cG wJ rfl mi (by decide+kernel) (ak (pv 0) (ak (wI rfl mB (v:= .ty "bool") (by decide+kernel) rfl) aq))))))),?_⟩
 refine⟨_,rfl,x,_,_,rfl,hx.kind,.inl rfl,_,rfl,?_⟩
 refine ite2 (fun c=> ?_) (fun c=> ?_)
 ·refine⟨_,rfl,x,_,_,rfl,hx.kind,.inr (.inl rfl),_,rfl,?_⟩
  cases d<;>first |exact q|(simp[pK,nP]at c;done)
 ·cases d<;>first |exact q|(exfalso;exact c rfl)
def lD(K:W.Frag):Sp:=fun vs H Q _=>∃(n:Int) (x:V) (d:PyData),vs=[.int n,x]/\DX K H x d/\Q (.bl (aV n d)) H
theorem uP:FnScope ["n","thing"] ["n","thing"] (defScope Dh):=fsc
theorem vd{f g:Addr}{fd gd:FuncData}(F:Fun K "is_place" "is_place" Dh f fd)(D:bU K mg "is_whole" Di ["thing"] g gd)(G:FnOk P w K mg base CX0 1 g gd ["thing"] (lB K)):FnOk P w K mg base CX0 2 f fd ["n","thing"] (lD K):=by
 refine F.ok uP (fun vs H Q E h=> ?_) (fun cdv A outer s H vs Q E hr h=> ?_)
 ·obtain⟨n,x,d,rfl,_⟩:=h
  rfl
 obtain⟨n,x,d,rfl,hx,q⟩:=h
 refine⟨_,aW (bY (pe_and (pe_call G hr rfl D.m D.F.kp D.b .nil pass0 (ak (pv 1) aq)) (pe_one (pe_chain op_le op_lt aK (pv 1) (pv 0))))),?_⟩
 refine⟨_,rfl,x,d,rfl,hx,_,rfl,?_⟩
 refine ite2 (fun c=> ?_) (fun c=> ?_)
 ·cases hx with
  |int i=>
   refine⟨_,rfl,_,_,rfl,rfl,_,rfl,?_⟩
   refine ite2 (fun c2=> ?_) (fun c2=> ?_)
   ·refine⟨_,rfl,_,_,rfl,rfl,?_⟩
    have e:aV n (.int i)=decide (i<n):=by show(decide (0<=i)&&decide (i<n))=_;rw[c2];rfl
    rw[e]at q;exact q
   ·have e:aV n (.int i)=false:=by show(decide (0<=i)&&decide (i<n))=_;rw[Bool.eq_false_iff.mpr c2];rfl
    rw[e]at q;exact q
  |_=>simp[jd]at c
 ·have e:aV n d=false:=by
   cases d<;>first |rfl|(exfalso;exact c rfl)
  rw[e]at q;exact q
def jk(K:W.Frag):Sp:=fun vs H Q _=>∃(n:Int) (a:Addr) (xs:List V) (ds:List PyData),vs=[.int n,.ref a]/\SqT K H a xs/\jc K H xs ds/\∀H',Same H H'->Q (.bl (ds.all (aV n))) H'
theorem rO:FnScope ["n","things"] ["n","things"] (defScope Dq):=fsc
theorem dw{α:Type}(ds:List α)(p:α->Bool):(ds.map p).all id=ds.all p:=by rw[GJ];rfl
theorem sy{f g:Addr}{fd gd:FuncData}(F:Fun K "are_places" "are_places" Dq f fd)(D:bU K mg "is_place" Dh ["n","thing"] g gd)(G:FnOk P w K mg base CX0 2 g gd ["n","thing"] (lD K))(mA:mg "all"=none):FnOk P w K mg base CX0 3 f fd ["n","things"] (jk K):=by
 refine F.ok rO (fun vs H Q E h=> ?_) (fun cdv A outer s H vs Q E hr h=> ?_)
 ·obtain⟨n,a,xs,ds,rfl,_⟩:=h
  rfl
 obtain⟨n,a,xs,ds,rfl,hS,hd,q⟩:=h
 refine⟨_,aW (bY (cG (zF rfl) rfl mA (by decide+kernel) (ak (mU (own:=["thing"]) (caps:=["n"]) (ix:=[0]) rfl (tW (pv 1)) rfl rfl (.cons rfl rfl .nil) (fun _ _ _ _ _=>cF (i:=0) (show(["thing","n"]:List Str).Nodup from by decide+kernel) rfl (Or.inl rfl)) (fun _ _ _ _ _=>qe) (fun _ _ _ _ _=>pe_call G hr rfl D.m D.F.kp D.b .nil pass0 (ak (pv 1) (ak (pv 0) aq)))) aq))),?_⟩
 refine⟨_,rfl,a,xs,rfl,hS,fun hz=> ?_⟩
 have hl:=hd.len
 refine yH (xs:=xs) (fun i acc σ H'=>acc=((ds.take i).map (aV n)).map V.bl/\Same H H'/\∃o,σ=[o,some (.int n)]) ⟨rfl,Same.refl _,_,rfl⟩ (fun i acc σ H' _ p=>p.2.1.tup hS) (fun i acc σ H' hi p=> ?_) hz (fun i x acc σ H' hx p=> ?_) (fun acc σ H' p=> ?_)
 ·rw[p.1];simp;omega
 ·obtain⟨rfl,sm,o,rfl⟩:=p
  obtain⟨d,e1,e2⟩:=hd.get hx
  refine⟨_,rfl,_,rfl,n,x,d,rfl,DX.same sm e2,?_,sm,_,rfl⟩
  rw[ql,e1]
  simp
 ·intro p1 hp1
  obtain⟨rfl,sm,_⟩:=p
  refine⟨p1,(ds.map (aV n)),rfl,SqL.of (by rw[aL,hl,oO]),?_⟩
  rw[dw]
  exact q _ (sm.trans (aY hp1 _))
def Bx(K:W.Frag)(H:Hp)(x y:V)(b:Bool):Prop:=(∃i j,x= .int i/\y= .int j/\b=decide (i<j))\/(∃p q ns ms,x= .ref p/\y= .ref q/\SqT K H p (ns.map V.int)/\SqT K H q (ms.map V.int)/\b=HT.lexLt ns ms)
def jj(K:W.Frag):Sp:=fun vs H Q _=>∃(a:Addr) (xs:List V) (bs:Nat->Bool),vs=[.ref a]/\SqT K H a xs/\(∀k,k+1<xs.length->∃x y,xs[k]? =some x/\xs[k+1]? =some y/\Bx K H x y (bs k))/\
 ∀H',Same H H'->Q (.bl ((List.range (xs.length-1)).all bs)) H'
theorem rN:FnScope ["things"] ["things"] (defScope Dl):=fsc
theorem su{f:Addr}{fd:FuncData}(F:Fun K "is_rising" "is_rising" Dl f fd)(mA:mg "all"=none)(mR:mg "range"=none)(mL:mg "len"=none):FnOk P w K mg base CX0 1 f fd ["things"] (jj K):=by
 refine F.ok rN (fun vs H Q E h=> ?_) (fun cdv A outer s H vs Q E hr h=> ?_)
 ·obtain⟨a,xs,bs,rfl,_⟩:=h
  rfl
 obtain⟨a,xs,bs,rfl,hS,hb,q⟩:=h
 refine⟨_,aW (bY (cG (zF rfl) rfl mA (by decide+kernel) (ak (mU (own:=["k"]) (caps:=["things"]) (ix:=[0]) rfl
  (BR rfl mR (ak aK (ak (cG tX rfl mL rM (ak (pv 0) aq)) aq))) rfl rfl (.cons rfl rfl .nil) (fun _ _ _ _ _=>cF (i:=0) (show(["k","things"]:List Str).Nodup from by decide+kernel) rfl (Or.inl rfl)) (fun _ _ _ _ _=>qe) (fun _ _ _ _ _=>pe_cmpR (op_lt.or (xH K hr.units0)) (bR (yE K) (pv 1) (bN op_sub (pv 0) aK) (fun _ _=>rfl)) (bR (yE K) (pv 1) (pv 0) (fun _ _=>rfl)) (nomark _))) aq))),?_⟩
 refine⟨_,rfl,a,xs,rfl,.inr hS,fun hz=>⟨1,_,rfl,⟨by omega,by omega,by omega,by omega⟩,?_⟩⟩
 have en:((xs.length:Int)-1).toNat=xs.length-1:=by omega
 rw[en]
 refine yI (fun i acc σ H'=>acc=((List.range i).map bs).map V.bl/\Same H H'/\∃o,σ=[o,some (.ref a)]) ⟨rfl,Same.refl _,_,rfl⟩ (fun i acc σ H' hi p=>by rw[p.1];simp) (by rw[eF];omega) (fun i acc σ H' hi p=> ?_) (fun acc σ H' p=> ?_)
 ·obtain⟨rfl,sm,o,rfl⟩:=p
  obtain⟨x,y,hx,hy,hxy⟩:=hb i (by omega)
  have e1:(1+(i:Int))-1=((i:Nat):Int):=by omega
  have e2:(1+(i:Int))=((i+1:Nat):Int):=by omega
  have a1:atI xs (1+(i:Int)-1)=some x:=by rw[e1];exact atI_nat hx
  have a2:atI xs (1+(i:Int))=some y:=by rw[e2];exact atI_nat hy
  refine⟨_,rfl,_,rfl,_,_,rfl,rfl,a,xs,_,x,rfl,rfl,sm.tup hS,a1,_,rfl,_,rfl,a,xs,_,y,rfl,rfl,sm.tup hS,a2,?_⟩
  have ea:((List.range i).map bs).map V.bl++[V.bl (bs i)]=((List.range (i+1)).map bs).map V.bl:=by rw[Dt];simp
  rcases hxy with⟨u,v,rfl,rfl,e⟩|⟨p,p',ns,ms,rfl,rfl,h1,h2,e⟩
  ·refine .inl ⟨u,v,rfl,rfl,?_,sm,_,rfl⟩
   show _++[V.bl (decide (u<v))]=_
   rw[<-e];exact ea
  ·refine .inr ⟨p,p',ns,ms,rfl,rfl,sm.tup h1,sm.tup h2,?_,sm,_,rfl⟩
   show _++[V.bl (HT.lexLt ns ms)]=_
   rw[<-e];exact ea
 ·intro p1 hp1
  obtain⟨rfl,sm,_⟩:=p
  refine⟨p1,(List.range (xs.length-1)).map bs,rfl,SqL.of aL,?_⟩
  rw[dw]
  exact q _ (sm.trans (aY hp1 _))
theorem ints_of{H:Hp}{n:Int}{xs:List V}{ds:List PyData}(h:jc K H xs ds)(hp:ds.all (aV n)=true):xs=(ds.map intD).map V.int:=by
 induction ds generalizing xs with
 |nil=>cases h;rfl
 |cons d ds ih=>
  rw[List.all_cons,fL]at hp
  cases h with
  |cons h t=>
   obtain⟨i,rfl,_⟩:=pA hp.1
   cases h
   rw[wB,wB,<-ih t hp.2]
   rfl
theorem rQ{H:Hp}(ns:List Int):∀k,k+1<(ns.map V.int).length->∃x y,(ns.map V.int)[k]? =some x/\(ns.map V.int)[k+1]? =some y/\Bx K H x y (decide (ns.getD k 0<ns.getD (k+1) 0)):=fun k hk=>by
 rw[aQ]at hk
 have h1:k<ns.length:=by omega
 refine⟨.int (ns.getD k 0),.int (ns.getD (k+1) 0),by simp[h1],by simp[hk],.inl ⟨_,_,rfl,rfl,rfl⟩⟩
def yV(K:W.Frag):Sp:=fun vs H Q _=>∃(n:Int) (x:V) (d:PyData),vs=[.int n,x]/\DX K H x d/\∀H',Same H H'->Q (.bl (lF n d)) H'
theorem zW:FnScope ["n","thing"] ["n","thing"] (defScope fY):=fsc
theorem Ak{f f1 f2:Addr}{fd d1 d2:FuncData}(F:Fun K "is_set" "is_set" fY f fd)(D1:bU K mg "are_places" Dq ["n","things"] f1 d1)(G1:FnOk P w K mg base CX0 3 f1 d1 ["n","things"] (jk K))(D2:bU K mg "is_rising" Dl ["things"] f2 d2)(G2:FnOk P w K mg base CX0 1 f2 d2 ["things"] (jj K))(mi:mg "isinstance"=none)(mT:mg "tuple"=none):FnOk P w K mg base CX0 4 f fd ["n","thing"] (yV K):=by
 refine F.ok zW (fun vs H Q E h=> ?_) (fun cdv A outer s H vs Q E hr h=> ?_)
 ·obtain⟨n,x,d,rfl,_⟩:=h
  rfl
 obtain⟨n,x,d,rfl,hx,q⟩:=h
 refine⟨_,aW (bY (pe_and (cG wJ rfl mi (by decide+kernel) (ak (pv 1) (ak (wI rfl mT (v:= .ty "tuple") (by decide+kernel) rfl) aq)))
  (pe_and (pc G1 hr D1 (ak (pv 0) (ak (pv 1) aq))) (pe_one (pc G2 hr D2 (ak (pv 1) aq)))))),?_⟩
 refine⟨_,rfl,x,_,_,rfl,hx.kind,.inr (.inr (.inl rfl)),_,rfl,?_⟩
 refine ite2 (fun c=> ?_) (fun c=> ?_)
 ·cases hx with
  | @tup a xs ds h t=>
   refine⟨_,rfl,_,rfl,n,a,xs,ds,rfl,h,t,fun H1 sm=>⟨_,rfl,?_⟩⟩
   refine ite2 (fun c2=> ?_) (fun c2=> ?_)
   ·have ex:=ints_of t c2
    refine⟨_,rfl,a,xs,fun k=>decide ((ds.map intD).getD k 0<(ds.map intD).getD (k+1) 0),rfl,sm.tup h,?_,fun H2 Eh=> ?_⟩
    ·rw[ex];exact rQ _
    ·have e:lF n (.tuple ds)=(List.range (xs.length-1)).all fun k=>decide ((ds.map intD).getD k 0<(ds.map intD).getD (k+1) 0):=by
      show(ds.all (aV n)&&cY (ds.map intD))=_
      rw[c2,t.len]
      show cY (ds.map intD)=_
      unfold cY
      rw[aQ]
     have:=q H2 (sm.trans Eh)
     rw[e]at this;exact this
   ·have e:lF n (.tuple ds)=false:=by
     show(ds.all (aV n)&&cY (ds.map intD))=_
     rw[Bool.eq_false_iff.mpr c2];rfl
    have:=q H1 sm
    rw[e]at this;exact this
  |_=>simp[pK,nP]at c
 ·have e:lF n d=false:=by
   cases d<;>first |rfl|(exfalso;exact c rfl)
  have:=q H (Same.refl _)
  rw[e]at this;exact this
def uz(K:W.Frag):Sp:=fun vs H Q _=>∃(n:Int) (x:V) (d:PyData),vs=[.int n,x]/\DX K H x d/\∀H',Same H H'->Q (.bl (jh n d)) H'
theorem wX:FnScope ["n","thing"] ["n","thing"] (defScope Ga):=fsc
theorem qt{H:Hp}{n:Int}{x:V}{d:PyData}(h:DX K H x d)(ht:fj n d=true):∃p,x= .ref p/\SqT K H p (((kids d).map intD).map V.int):=by
 cases h with
 | @tup a xs ds h t=>
  have q:(ds.all (aV n)&&cY (ds.map intD)&&decide (ds.length=2))=true:=ht
  rw[fL,fL]at q
  exact⟨a,rfl,by rw[ints_of t q.1.1]at h;exact h⟩
 |_=>simp[fj,lF]at ht
theorem rP{H:Hp}{n:Int}{xs:List V}{ds:List PyData}(t:jc K H xs ds)(ha:ds.all (fj n)=true):∀k,k+1<xs.length->∃x y,xs[k]? =some x/\xs[k+1]? =some y/\
  Bx K H x y (HT.lexLt ((ds.map fun t=>(kids t).map intD).getD k []) ((ds.map fun t=>(kids t).map intD).getD (k+1) [])):=fun k hk=>by
 have hl:=t.len
 have h1:k<xs.length:=by omega
 obtain⟨d1,e1,x1⟩:=t.get (i:=k) (x:=xs[k]) (by simp[h1])
 obtain⟨d2,e2,x2⟩:=t.get (i:=k+1) (x:=xs[k+1]) (by simp[hk])
 have m1:=iJ.mp ha d1 (tR e1)
 have m2:=iJ.mp ha d2 (tR e2)
 obtain⟨p1,q1,s1⟩:=qt x1 m1
 obtain⟨p2,q2,s2⟩:=qt x2 m2
 refine⟨xs[k],xs[k+1],by simp[h1],by simp[hk],.inr ⟨p1,p2,_,_,q1,q2,s1,s2,?_⟩⟩
 have g1:(ds.map fun t=>(kids t).map intD).getD k []=(kids d1).map intD:=by rw[mJ,dH,e1];rfl
 have g2:(ds.map fun t=>(kids t).map intD).getD (k+1) []=(kids d2).map intD:=by rw[mJ,dH,e2];rfl
 rw[g1,g2]
theorem xK{f f1 f2:Addr}{fd d1 d2:FuncData}(F:Fun K "are_ties" "are_ties" Ga f fd)(D1:bU K mg "is_set" fY ["n","thing"] f1 d1)(G1:FnOk P w K mg base CX0 4 f1 d1 ["n","thing"] (yV K))(D2:bU K mg "is_rising" Dl ["things"] f2 d2)(G2:FnOk P w K mg base CX0 1 f2 d2 ["things"] (jj K))(mi:mg "isinstance"=none)(mT:mg "tuple"=none)(mA:mg "all"=none)(mL:mg "len"=none):FnOk P w K mg base CX0 5 f fd ["n","thing"] (uz K):=by
 refine F.ok wX (fun vs H Q E h=> ?_) (fun cdv A outer s H vs Q E hr h=> ?_)
 ·obtain⟨n,x,d,rfl,_⟩:=h
  rfl
 obtain⟨n,x,d,rfl,hx,q⟩:=h
 refine⟨_,aZ (fM (mQ (jN (cG wJ rfl mi (by decide+kernel) (ak (pv 1) (ak (wI rfl mT (v:= .ty "tuple") (by decide+kernel) rfl) aq))))) (aW (bY mH)) gM) (aW (bY (pe_and (cG (zF rfl) rfl mA (by decide+kernel) (ak (mU (own:=["tie"]) (caps:=["n"]) (ix:=[0]) rfl (tW (pv 1)) rfl rfl (.cons rfl rfl .nil) (fun _ _ _ _ _=>cF (i:=0) (show(["tie","n"]:List Str).Nodup from by decide+kernel) rfl (Or.inl rfl)) (fun _ _ _ _ _=>qe) (fun _ _ _ _ _=>pe_and (pc G1 hr D1 (ak (pv 1) (ak (pv 0) aq))) (pe_one (pe_cmpR op_eq (cG (ig K) rfl mL rM (ak (pv 0) aq)) aK (nomark _))))) aq))
  (pe_one (pc G2 hr D2 (ak (pv 1) aq)))))),?_⟩
 refine⟨_,rfl,x,_,_,rfl,hx.kind,.inr (.inr (.inl rfl)),_,rfl,?_⟩
 refine ite2 (fun c=> ?_) (fun c=> ?_)
 ·have e:jh n d=false:=by
   cases d<;>first |rfl|(exfalso;simp[pK,nP]at c;done)
  have:=q H (Same.refl _)
  rw[e]at this;exact this
 ·cases hx with
  | @tup a xs ds h t=>
   refine⟨_,rfl,a,xs,rfl,h,fun hz=> ?_⟩
   have hl:=t.len
   refine yH (xs:=xs) (fun i acc σ H'=>acc=((ds.take i).map (fj n)).map V.bl/\Same H H'/\∃o,σ=[o,some (.int n)]) ⟨rfl,Same.refl _,_,rfl⟩ (fun i acc σ H' _ p=>p.2.1.tup h) (fun i acc σ H' hi p=> ?_) hz (fun i x acc σ H' hx p=> ?_) (fun acc σ H' p=> ?_)
   ·rw[p.1];simp;omega
   ·obtain⟨rfl,sm,o,rfl⟩:=p
    obtain⟨d,e1,e2⟩:=t.get hx
    refine⟨_,rfl,_,rfl,n,x,d,rfl,DX.same sm e2,fun H1 Ei=>⟨_,rfl,?_⟩⟩
    have ea:∀b,b=fj n d->((ds.take i).map (fj n)).map V.bl++[V.bl b]=((ds.take (i+1)).map (fj n)).map V.bl:=fun b hb=>by
     rw[ql,e1,hb];simp
    refine ite2 (fun c2=> ?_) (fun c2=> ?_)
    ·cases e2 with
     | @tup a2 xs2 Kq h2 t2=>
      refine⟨_,rfl,a2,xs2,rfl,.inr (Ei.tup (sm.tup h2)),fun hz2=>⟨rfl,ea _ ?_,sm.trans Ei,_,rfl⟩⟩
      show decide (V.int (xs2.length:Int)=V.int 2)=(lF n (.tuple Kq)&&decide (Kq.length=2))
      rw[c2,t2.len]
      by_cases e3:Kq.length=2
      ·rw[e3];rfl
      ·rw[fQ e3,fQ (by intro z;injection z with z;exact e3 (by omega))];rfl
     |_=>simp[lF]at c2
    ·refine⟨ea _ ?_,sm.trans Ei,_,rfl⟩
     show false=(lF n d&&decide ((kids d).length=2))
     rw[Bool.eq_false_iff.mpr c2];rfl
   ·intro p1 hp1
    obtain⟨rfl,sm,_⟩:=p
    have sm':Same H (upd H' p1 (.lst (((ds.take xs.length).map (fj n)).map V.bl))):=sm.trans (aY hp1 _)
    refine⟨p1,(ds.map (fj n)),rfl,SqL.of (by rw[aL,hl,oO]),_,rfl,?_⟩
    rw[dw]
    refine ite2 (fun c2=> ?_) (fun c2=> ?_)
    ·refine⟨_,rfl,a,xs,fun k=>HT.lexLt ((ds.map fun t=>(kids t).map intD).getD k []) ((ds.map fun t=>(kids t).map intD).getD (k+1) []),rfl,sm'.tup h,?_,fun H2 Eh=> ?_⟩
     ·exact rP (jc.same sm' t) c2
     ·have e:jh n (.tuple ds)=(List.range (xs.length-1)).all fun k=>HT.lexLt ((ds.map fun t=>(kids t).map intD).getD k []) ((ds.map fun t=>(kids t).map intD).getD (k+1) []):=by
       show(ds.all (fj n)&&cX (ds.map fun t=>(kids t).map intD))=_
       rw[c2,hl]
       show cX (ds.map fun t=>(kids t).map intD)=_
       unfold cX
       rw[aQ]
      have:=q H2 (sm'.trans Eh)
      rw[e]at this;exact this
    ·have e:jh n (.tuple ds)=false:=by
      show(ds.all (fj n)&&cX (ds.map fun t=>(kids t).map intD))=_
      rw[Bool.eq_false_iff.mpr c2];rfl
     have:=q _ sm'
     rw[e]at this;exact this
  |_=>exfalso;exact c rfl
end
end Hs
namespace tL
open PySem L2
def pairD(p:Int×Int):PyData:= .tuple [.int p.1,.int p.2]
def oU(n:Int)(ts:List (Int×Int)):PyData:= .tuple [.int n,.tuple (ts.map pairD)]
def jH(K:W.Frag)(H:Hp)(a:Addr)(n:Int)(ts:List (Int×Int)):Prop:=∃t rs,SqT K H a [.int n,.ref t]/\SqT K H t rs/\bH K H rs (ts.map pairD)
theorem jH.dv{K:W.Frag}{H:Hp}{a:Addr}{n:Int}{ts:List (Int×Int)}(h:jH K H a n ts):DV K H (.ref a) (oU n ts):=by
 obtain⟨t,rs,h1,h2,h3⟩:=h
 exact .tup h1 (.cons (.int n) (.cons (.tup h2 h3) .nil))
theorem jH.same{K:W.Frag}{H H':Hp}{a:Addr}{n:Int}{ts:List (Int×Int)}(h:jH K H a n ts)(e:Same H H'):jH K H' a n ts:=by
 obtain⟨t,rs,h1,h2,h3⟩:=h
 exact⟨t,rs,e.tup h1,e.tup h2,bH.same e h3⟩
def aj(ts:List (Int×Int))(i j:Int):Bool:=decide ((if j<i then j else i,if j>i then j else i)∈ts)
theorem ou(p q:Int×Int):PyData.eqv (pairD p) (pairD q)=decide (p=q):=by
 obtain⟨a,b⟩:=p
 obtain⟨c,d⟩:=q
 show((a==c)&&((b==d)&&true))=_
 rw[mY]
 simp
theorem gW:∀ts:List (Int×Int),PyData.canLayAll0 (ts.map pairD)=true
 |[]=>rfl
 |p::ts=>by
  show(PyData.canLay0 (pairD p)&&PyData.canLayAll0 (ts.map pairD))=true
  rw[gW ts];rfl
theorem oJ(ts:List (Int×Int))(q:Int×Int):((ts.map pairD).any fun d=>PyData.eqv d (pairD q))=decide (q∈ts):=by
 rw[List.any_map,mY,Ie]
 constructor
 ·rintro⟨p,hp,h⟩
  have h':PyData.eqv (pairD p) (pairD q)=true:=h
  rw[ou]at h'
  have e:p=q:=iV h'
  subst e
  exact cH hp
 ·intro h
  refine⟨q,iV h,?_⟩
  show PyData.eqv (pairD q) (pairD q)=true
  rw[ou]
  exact cH rfl
def cL(n:Int)(ts:List (Int×Int))(i:Int):List Int:=((List.range n.toNat).map fun k=>(0+(k:Nat):Int)).filter fun j=>aj ts i j
end tL
namespace Hs
open PySem L2 tL
section
variable{P:Program}{w:World}{K:W.Frag}{mg:Str->Option Value}{base:Heap}
def yS(K:W.Frag):Sp:=fun vs H Q _=>∃(x:V) (d:PyData),vs=[x]/\DX K H x d/\∀H',Same H H'->Q (.bl (lu d)) H'
theorem uN:FnScope ["thing","n"] ["thing"] (defScope fW):=fsc
theorem Ai{f f1 f2:Addr}{fd d1 d2:FuncData}{tk:Tok}(F:Fun K "is_web" "is_web" fW f fd)(D1:bU K mg "is_whole" Di ["thing"] f1 d1)(G1:FnOk P w K mg base CX0 1 f1 d1 ["thing"] (lB K))(D2:bU K mg "are_ties" Ga ["n","thing"] f2 d2)(G2:FnOk P w K mg base CX0 5 f2 d2 ["n","thing"] (uz K))(mi:mg "isinstance"=none)(mT:mg "tuple"=none)(mL:mg "len"=none)(mM:mg "MOST_PLACES"=some (.int 10 tk)):FnOk P w K mg base CX0 6 f fd ["thing"] (yS K):=by
 refine F.ok uN (fun vs H Q E h=> ?_) (fun cdv A outer s H vs Q E hr h=> ?_)
 ·obtain⟨x,d,rfl,_⟩:=h
  rfl
 obtain⟨x,d,rfl,hx,q⟩:=h
 refine⟨_,aZ (fM (PW.pt (pw_or (mQ (jN (cG wJ rfl mi (by decide+kernel) (ak (pv 0) (ak (wI rfl mT (v:= .ty "tuple") (by decide+kernel) rfl) aq)))))
   (pw_or1 (iU op_ne (cG tX rfl mL rM (ak (pv 0) aq)) aK (nomark _))))) (aW (bY mH)) gM) (aZ (dF (i:=1) uN.nd rfl (Or.inl rfl) (bR dZ (pv 0) aK (fun _ _=>rfl))) (aW (bY (pe_and (pc G1 hr D1 (ak (pv 1) aq)) (pe_and (pe_chain op_le op_le aK (pv 1) (pe_glob rfl mM (v:= .int 10) ⟨_,rfl⟩))
   (pe_one (pc G2 hr D2 (ak (pv 1) (ak (bR dZ (pv 0) aK (fun _ _=>rfl)) aq))))))))),?_⟩
 refine⟨_,rfl,x,_,_,rfl,hx.kind,.inr (.inr (.inl rfl)),_,rfl,?_⟩
 refine ite2 (fun c=> ?_) (fun c=> ?_)
 ·have e:lu d=false:=by
   cases d<;>first |rfl|(exfalso;simp[pK,nP]at c;done)
  have:=q H (Same.refl _)
  rw[e]at this;exact this
 ·cases hx with
  | @tup a xs ds h t=>
   have hl:=t.len
   refine⟨_,rfl,a,xs,rfl,.inr h,fun hz=>⟨rfl,_,rfl,?_⟩⟩
   refine ite2 (fun c2=> ?_) (fun c2=> ?_)
   ·have e:lu (.tuple ds)=false:=by
     match ds,hl with
     |[],_=>rfl
     |[_],_=>rfl
     |[_,_],hl=>
      exfalso
      have e2:(!decide (V.int (xs.length:Int)=V.int 2))=true:=c2
      rw[hl]at e2
      simp at e2
     |_::_::_::_,_=>rfl
    have:=q H (Same.refl _)
    rw[e]at this;exact this
   ·have e2:xs.length=2:=by
     have e2:¬(!decide (V.int (xs.length:Int)=V.int 2))=true:=c2
     simp at e2
     omega
    cases t with
    |nil=>simp at e2
    |cons h0 t0=>
     cases t0 with
     |nil=>simp at e2
     | @cons x1 CT xs1 Qo h1 t1=>
      cases t1 with
      |cons _ _=>simp at e2
      |nil=>
       rename_i x0 CV
       refine⟨_,rfl,a,_,_,x0,rfl,rfl,h,by rfl,?_⟩
       refine⟨_,rfl,x0,CV,rfl,h0,_,rfl,?_⟩
       refine ite2 (fun c3=> ?_) (fun c3=> ?_)
       ·cases h0 with
        |int n=>
         refine⟨_,rfl,_,_,rfl,rfl,_,rfl,?_⟩
         have fin:∀b,b=lu (.tuple [.int n,CT])->∀H',Same H H'->Q (.bl b) H':=fun b hb H' sm=>by rw[hb];exact q H' sm
         have wd:lu (.tuple [.int n,CT])=((decide (0<=n)&&decide (n<=10))&&jh n CT):=rfl
         refine ite2 (fun c4=> ?_) (fun c4=> ?_)
         ·refine⟨_,_,rfl,rfl,_,rfl,?_⟩
          refine ite2 (fun c5=> ?_) (fun c5=> ?_)
          ·refine⟨_,rfl,_,rfl,a,_,_,x1,rfl,rfl,h,by rfl,n,x1,CT,rfl,h1,fun H' sm=>fin _ ?_ H' sm⟩
           rw[wd,c4,c5];rfl
          ·refine fin _ ?_ H (Same.refl _)
           rw[wd,Bool.eq_false_iff.mpr c5,Bool.and_false];rfl
         ·refine⟨_,rfl,?_⟩
          refine iteF (fin _ ?_ H (Same.refl _))
          rw[wd,Bool.eq_false_iff.mpr c4];rfl
        |_=>simp[jd]at c3
       ·have e:lu (.tuple [CV,CT])=false:=by
         show(jd CV&&(decide (0<=intD CV)&&decide (intD CV<=10))&&jh (intD CV) CT)=false
         rw[Bool.eq_false_iff.mpr c3];rfl
        have:=q H (Same.refl _)
        rw[e]at this;exact this
  |_=>exfalso;exact c rfl
def dN(K:W.Frag):Sp:=fun vs H Q _=>∃(x:V) (d:PyData),vs=[x]/\DX K H x d/\lu d=true/\∀H',Same H H'->Q .non H'
theorem o7:FnScope ["thing"] ["thing"] (defScope BW):=fsc
theorem pF{f f1:Addr}{fd d1:FuncData}(F:Fun K "need_web" "need_web" BW f fd)(D1:bU K mg "is_web" fW ["thing"] f1 d1)(G1:FnOk P w K mg base CX0 6 f1 d1 ["thing"] (yS K)):FnOk P w K mg base CX0 7 f fd ["thing"] (dN K):=by
 refine F.ok o7 (fun vs H Q E h=> ?_) (fun cdv A outer s H vs Q E hr h=> ?_)
 ·obtain⟨x,d,rfl,_⟩:=h
  rfl
 obtain⟨x,d,rfl,hx,hw,q⟩:=h
 refine⟨_,aW (fM (mQ (jN (pc G1 hr D1 (ak (pv 0) aq)))) pss_never gM),?_⟩
 refine⟨_,rfl,x,d,rfl,hx,fun H' sm=>⟨_,rfl,?_⟩⟩
 rw[hw]
 exact iteF (q H' sm)
def cJ(K:W.Frag):Sp:=fun vs H Q _=>∃(a:Addr) (n i j:Int) (ts:List (Int×Int)),vs=[.ref a,.int i,.int j]/\jH K H a n ts/\∀H',Same H H'->Q (.bl (aj ts i j)) H'
theorem zX:FnScope ["web","one","other"] ["web","one","other"] (defScope Dg):=fsc
theorem Ao{f:Addr}{fd:FuncData}(F:Fun K "has_tie" "has_tie" Dg f fd)(mi:mg "min"=none)(ma:mg "max"=none):FnOk P w K mg base CX0 1 f fd ["web","one","other"] (cJ K):=by
 refine F.ok zX (fun vs H Q E h=> ?_) (fun cdv A outer s H vs Q E hr h=> ?_)
 ·obtain⟨a,n,i,j,ts,rfl,_⟩:=h
  rfl
 obtain⟨a,n,i,j,ts,rfl,hW,q⟩:=h
 refine⟨_,aW (bY (pe_cmpR (lO hr.units) (jM (ak (cG (call_min2 rfl) rfl mi (by decide+kernel) (ak (pv 1) (ak (pv 2) aq))) (ak (cG (call_max2 rfl) rfl ma (by decide+kernel) (ak (pv 1) (ak (pv 2) aq))) aq)))
  (bR dZ (pv 0) aK (fun _ _=>rfl)) (by with_unfolding_all rfl))),?_⟩
 refine⟨_,rfl,_,rfl,_,_,rfl,_,rfl,_,rfl,_,_,rfl,(by show 2<=sizeLine;decide),fun p hp=> ?_⟩
 have sm:=aY hp (.tup [.int (if j<i then j else i),.int (if j>i then j else i)])
 obtain⟨t,rs,h1,h2,h3⟩:=hW.same sm
 refine⟨_,rfl,a,_,_,.ref t,rfl,rfl,h1,rfl,t,rs,_,pairD (if j<i then j else i,if j>i then j else i),rfl,.inr h2,h3,.tup (SqT.of aL) (.cons (.int _) (.cons (.int _) .nil)),gW ts,rfl,(by show max 0 (max 0 0)+1<=60;decide),?_⟩
 rw[oJ]
 exact q _ sm
end
def rF(n:Int)(ts:List (Int×Int)):Prop:=lu (oU n ts)=true
section
variable{P:Program}{w:World}{K:W.Frag}{mg:Str->Option Value}{base:Heap}
def iB(K:W.Frag):Sp:=fun vs H Q _=>∃(a:Addr) (n i:Int) (t:V),vs=[.ref a,.int i]/\SqT K H a [.int n,t]/\0<=i/\i<n/\Q .non H
theorem lH:FnScope ["web","thing"] ["web","thing"] (defScope Gf):=fsc
theorem lQ{f f1:Addr}{fd d1:FuncData}(F:Fun K "need_place" "need_place" Gf f fd)(D1:bU K mg "is_place" Dh ["n","thing"] f1 d1)(G1:FnOk P w K mg base CX0 2 f1 d1 ["n","thing"] (lD K)):FnOk P w K mg base CX0 3 f fd ["web","thing"] (iB K):=by
 refine F.ok lH (fun vs H Q E h=> ?_) (fun cdv A outer s H vs Q E hr h=> ?_)
 ·obtain⟨a,n,i,t,rfl,_⟩:=h
  rfl
 obtain⟨a,n,i,t,rfl,hS,h0,h1,q⟩:=h
 refine⟨_,aW (fM (mQ (jN (pc G1 hr D1 (ak (bR dZ (pv 0) aK (fun _ _=>rfl)) (ak (pv 1) aq))))) pss_never gM),?_⟩
 refine⟨_,rfl,a,_,_,.int n,rfl,rfl,hS,rfl,_,rfl,n,.int i,.int i,rfl,.int i,_,rfl,?_⟩
 have e:aV n (.int i)=true:=by show(decide (0<=i)&&decide (i<n))=true;rw[cH h0,cH h1];rfl
 rw[e]
 exact iteF q
def qG(K:W.Frag):Sp:=fun vs H Q _=>∃(a:Addr) (n i:Int) (ts:List (Int×Int)),vs=[.ref a,.int i]/\jH K H a n ts/\rF n ts/\(0<=i/\i<n)/\n<=10/\∀r H',Same H H'->H' r=some (.tup ((cL n ts i).map V.int))->Q (.ref r) H'
theorem uQ:FnScope ["web","place"] ["web","place"] (defScope Gg):=fsc
theorem vg{f f1 f2 f3:Addr}{fd d1 d2 d3:FuncData}(F:Fun K "neighbours" "neighbours" Gg f fd)(D1:bU K mg "need_web" BW ["thing"] f1 d1)(G1:FnOk P w K mg base CX0 7 f1 d1 ["thing"] (dN K))(D2:bU K mg "need_place" Gf ["web","thing"] f2 d2)(G2:FnOk P w K mg base CX0 3 f2 d2 ["web","thing"] (iB K))(D3:bU K mg "has_tie" Dg ["web","one","other"] f3 d3)(G3:FnOk P w K mg base CX0 1 f3 d3 ["web","one","other"] (cJ K))(mT:mg "tuple"=none)(mR:mg "range"=none):FnOk P w K mg base CX0 8 f fd ["web","place"] (qG K):=by
 refine F.ok uQ (fun vs H Q E h=> ?_) (fun cdv A outer s H vs Q E hr h=> ?_)
 ·obtain⟨a,n,i,ts,rfl,_⟩:=h
  rfl
 obtain⟨a,n,i,ts,rfl,hW,hok,hi,hn,q⟩:=h
 refine⟨_,aZ (rJ (pc G1 hr D1 (ak (pv 0) aq))) (aZ (rJ (pc G2 hr D2 (ak (pv 0) (ak (pv 1) aq)))) (aW (bY (tZ uc rfl mT (by decide+kernel) (ak (mU (own:=["other"]) (caps:=["web","place"]) (ix:=[0,1]) rfl (rK rfl mR (ak (bR dZ (pv 0) aK (fun _ _=>rfl)) aq)) rfl rfl (.cons rfl rfl (.cons rfl rfl .nil)) (fun _ _ _ _ _=>cF (i:=0) (show(["other","web","place"]:List Str).Nodup from by decide+kernel) rfl (Or.inl rfl)) (fun _ _ _ _ _=>gb (jN (pc G3 hr D3 (ak (pv 1) (ak (pv 2) (ak (pv 0) aq)))))) (fun _ _ _ _ _=>pv 0)) aq))))),?_⟩
 refine⟨_,rfl,_,_,rfl,hW.dv.dx,hok,fun H1 s1=> ?_⟩
 obtain⟨t,rs,h1,h2,h3⟩:=hW.same s1
 refine⟨_,rfl,_,rfl,a,n,i,_,rfl,h1,hi.1,hi.2,?_⟩
 refine⟨_,rfl,a,_,_,.int n,rfl,rfl,h1,rfl,n,rfl,by omega,by omega,?_⟩
 refine yI (fun k acc σ H'=>acc=(((List.range k).map fun k=>(0+(k:Nat):Int)).filter fun j=>aj ts i j).map V.int/\Same H1 H'/\∃o,σ=[o,some (.ref a),some (.int i)]) ⟨rfl,Same.refl _,_,rfl⟩ (fun k acc σ H' hk p=> ?_) (by rw[eF];omega) (fun k acc σ H' hk p=> ?_) (fun acc σ H' p=> ?_)
 ·rw[p.1,aQ]
  refine cP (yO _ _) ?_
  simp
 ·obtain⟨rfl,sm,o,rfl⟩:=p
  refine⟨_,rfl,_,rfl,_,rfl,a,n,i,_,ts,rfl,hW.same (s1.trans sm),fun H2 s2=>⟨_,rfl,?_⟩⟩
  have ea:((List.range (k+1)).map fun k=>(0+(k:Nat):Int)).filter (fun j=>aj ts i j)=((List.range k).map fun k=>(0+(k:Nat):Int)).filter (fun j=>aj ts i j)++(if aj ts i (0+(k:Int))=true then[0+(k:Int)]else[]):=by
   rw[Dt,bV,Cm]
   congr 1
   show List.filter _ [0+(k:Int)]=_
   rw[yK]
   rfl
  rw[ea]
  refine ite2 (fun c=> ?_) (fun c=> ?_)
  ·refine⟨_,rfl,?_,sm.trans s2,_,rfl⟩
   rw[aN c,bV];rfl
  ·refine⟨?_,sm.trans s2,_,rfl⟩
   rw[aP c,mW]
 ·intro p1 hp1
  obtain⟨rfl,sm,_⟩:=p
  refine⟨p1,_,rfl,.inl ⟨SqL.of aL,fun l hl=> ?_⟩⟩
  exact q l _ (s1.trans (sm.trans ((aY hp1 _).trans (aY hl _)))) aL
end
end Hs
namespace L2
open PySem
def aB(t:Addr)(H H':Hp):Prop:=∀b o,b≠t->H b=some o->H' b=some o
theorem aB.refl(t:Addr)(H:Hp):aB t H H:=fun _ _ _ h=>h
theorem aB.trans{t:Addr}{H H1 H2:Hp}(a:aB t H H1)(b:aB t H1 H2):aB t H H2:=fun c o n h=>b c o n (a c o n h)
theorem Same.x{H H':Hp}(h:Same H H')(t:Addr):aB t H H':=fun b o _ e=>h b o e
theorem aB.upd{t:Addr}{H H':Hp}{o:HO}(h:aB t H H'):aB t H (upd H' t o):=fun b u n e=>by rw[dG n];exact h b u n e
def iM(K:W.Frag)(H:Hp)(aU:Addr)(ns:List Int):Prop:=(∃o,H aU=some (.frz o (.lst (ns.map V.int))))\/
 ∃(o:Obj) (its:Array Value) (n:Nat),K.lookup aU=some o/\o.cls= .type "list"/\o.dict=none/\o.data= .seq its n/\its.size<=sizeLine/\Vals (ns.map V.int) its.toList
theorem iM.sq{K:W.Frag}{H:Hp}{aU:Addr}{ns:List Int}(h:iM K H aU ns):SqL K H aU (ns.map V.int):=by
 rcases h with⟨o,h⟩|h
 ·exact .inl (.inr ⟨o,h⟩)
 ·exact .inr h
theorem iM.bA{K:W.Frag}{H H':Hp}{aU t:Addr}{ns:List Int}{zs:List V}(h:iM K H aU ns)(e:aB t H H')(n:H t=some (.lst zs)):iM K H' aU ns:=by
 rcases h with⟨o,h⟩|h
 ·exact .inl ⟨o,e _ _ (ne_of h n (by intro z;cases z)) h⟩
 ·exact .inr h
theorem iM.same{K:W.Frag}{H H':Hp}{aU:Addr}{ns:List Int}(h:iM K H aU ns)(e:Same H H'):iM K H' aU ns:=by
 rcases h with⟨o,h⟩|h
 ·exact .inl ⟨o,e _ _ h⟩
 ·exact .inr h
structure gF(K:W.Frag)(H:Hp)(tp aU:Addr)(ns:List Int):Prop where
 at_:∃(i r:Int),H tp=some (.lst [.ref aU,.int i,.int r])/\0<=i/\0<=r
 MP:iM K H aU ns
 len:ns.length<=63
theorem gF.same{K:W.Frag}{H H':Hp}{tp aU:Addr}{ns:List Int}(h:gF K H tp aU ns)(e:Same H H'):gF K H' tp aU ns:=by
 obtain⟨⟨i,r,h1,h2,h3⟩,h4,h5⟩:=h
 exact⟨⟨i,r,e _ _ h1,h2,h3⟩,h4.same e,h5⟩
theorem gF.other{K:W.Frag}{H H':Hp}{tp aU c:Addr}{ns:List Int}{zs:List V}(h:gF K H tp aU ns)(e:aB c H H')(hc:H c=some (.lst zs))(n:tp≠c):gF K H' tp aU ns:=by
 obtain⟨⟨i,r,h1,h2,h3⟩,h4,h5⟩:=h
 exact⟨⟨i,r,e _ _ n h1,h2,h3⟩,h4.bA e hc,h5⟩
theorem lay_ints:∀ns:List Int,PyData.canLayAll0 (ns.map PyData.int)=true
 |[]=>rfl
 |n::ns=>by
  show(true&&PyData.canLayAll0 (ns.map PyData.int))=true
  rw[lay_ints ns];rfl
structure bM(K:W.Frag)(H:Hp)(tp aU:Addr)(ns:List Int)(b:Int):Prop where
 tv:gF K H tp aU ns
 le:∃(i r:Int),H tp=some (.lst [.ref aU,.int i,.int r])/\i<=b
theorem bM.same{K:W.Frag}{H H':Hp}{tp aU:Addr}{ns:List Int}{b:Int}(h:bM K H tp aU ns b)(e:Same H H'):bM K H' tp aU ns b:=by
 obtain⟨i,r,h1,h2⟩:=h.le
 exact⟨h.tv.same e,i,r,e _ _ h1,h2⟩
theorem bM.mono{K:W.Frag}{H:Hp}{tp aU:Addr}{ns:List Int}{b c:Int}(h:bM K H tp aU ns b)(e:b<=c):bM K H tp aU ns c:=by
 obtain⟨i,r,h1,h2⟩:=h.le
 exact⟨h.tv,i,r,h1,by omega⟩
theorem bM.other{K:W.Frag}{H H':Hp}{tp aU c:Addr}{ns:List Int}{b:Int}{zs:List V}(h:bM K H tp aU ns b)(e:aB c H H')(hc:H c=some (.lst zs))(n:tp≠c):bM K H' tp aU ns b:=by
 obtain⟨i,r,h1,h2⟩:=h.le
 exact⟨h.tv.other e hc n,i,r,e _ _ n h1,h2⟩
theorem bM.lst{K:W.Frag}{H:Hp}{tp aU:Addr}{ns:List Int}{b:Int}(h:bM K H tp aU ns b):∃zs,H tp=some (.lst zs):=by
 obtain⟨i,r,h1,_⟩:=h.le
 exact⟨_,h1⟩
theorem nH{H:Hp}{a b:Addr}{o:HO}(h:H a=some o)(n:H b=none):b≠a:=fun e=>by rw[e,h]at n;cases n
theorem aB.free{t:Addr}{H H':Hp}{a:Addr}(e:aB t H H')(n:a≠t)(h:H' a=none):H a=none:=by
 cases q:H a with
 |none=>rfl
 |some o=>rw[e a o n q]at h;cases h
end L2
namespace Hs
open PySem L2 tL
section
variable{P:Program}{w:World}{K:W.Frag}{mg:Str->Option Value}{base:Heap}
theorem gU(a:Int){b:Int}(h:0<b):0<=a %b:=Int.emod_nonneg _ (by omega)
theorem mod_lt(a:Int){b:Int}(h:0<b):a %b<b:=Int.emod_lt_of_pos _ h
theorem rE{ns:List Int}{k:Int}(h0:0<=k)(h1:k<(ns.length:Int)):∃v:Int,atI (ns.map V.int) k=some (.int v)/\ns[k.toNat]? =some v:=by
 have hk:k.toNat<ns.length:=by omega
 have ek:((k.toNat:Nat):Int)=k:=by omega
 have q:atI (ns.map V.int) ((k.toNat:Nat):Int)=some (.int ns[k.toNat]):=atI_nat (by rw[dH,jQ hk];rfl)
 rw[ek]at q
 exact⟨_,q,jQ hk⟩
def qI(K:W.Frag):Sp:=fun vs H Q _=>∃(c i:Int),vs=[.int c,.int i]/\0<=i/\i<=1000000000/\∀r,0<=r->Q (.int r) H
theorem fU:FnScope ["cell","at","one","two","three"] ["cell","at"] (defScope Ge):=fsc
theorem vo{f:Addr}{fd:FuncData}(F:Fun K "_law_e_stir" "_law_e_stir" Ge f fd):
  FnOk P w K mg base CX0 1 f fd ["cell","at"] (qI K):=by
 refine F.ok fU (fun vs H Q E h=> ?_) (fun cdv A outer s H vs Q E hr h=> ?_)
 ·obtain⟨c,i,rfl,_⟩:=h
  rfl
 obtain⟨c,i,rfl,hi0,hi1,q⟩:=h
 refine⟨_,(aZ (fM (iU op_ge (pv 0) (bN op_pow aK aK) (nomark _)) (aW (bY (pv 0))) gM) (aZ (dF (i:=2) fU.nd rfl (Or.inl rfl) (bN op_mod (bN gK (bN gK (bN tM (bN op_mod (pv 0) aK) aK) (bN tM (pv 1) aK)) aK) aK)) (aZ (dF (i:=3) fU.nd rfl (Or.inl rfl) (bN op_mod (bN gK (bN gK (bN gK (bN tM (pv 2) (pv 2)) (bN tM (bN tM aK (pv 1)) (pv 1))) (bN tM aK (pv 2))) aK) aK)) (aZ (dF (i:=4) fU.nd rfl (Or.inl rfl) (bN op_mod (bN gK (bN gK (bN gK (bN tM (pv 3) (pv 3)) (bN tM aK (pv 3))) (pv 2)) (pv 1)) aK)) (aW (bY (bN gK (bN tM (pv 3) aK) (pv 4)))))))),?_⟩
 refine⟨_,rfl,_,_,rfl,rfl,⟨by decide,by decide,by decide⟩,_,_,rfl,rfl,_,rfl,?_⟩
 refine ite2 (fun c1=> ?_) (fun c1=> ?_)
 ·have c2:(10:Int)^(18:Int).toNat<=c:=iV c1
  have c3:(0:Int)<=10^(18:Int).toNat:=by decide
  exact⟨_,rfl,q c (by omega)⟩
 ·refine⟨_,rfl,_,_,rfl,rfl,(by show(0:Int)<2147483549;decide),_,_,rfl,rfl,.inr ⟨by decide,by decide⟩,_,rfl,_,_,rfl,rfl,.inr ⟨by decide,by decide⟩,_,_,rfl,rfl,_,_,rfl,rfl,_,_,rfl,rfl,(by show(0:Int)<2147483543;decide),?_⟩
  generalize hfirst:((fun i j=>V.int (i %j)) _ _:V)=vf
  obtain⟨a1,e1,a2,a3⟩:∃a:Int,vf= .int a/\0<=a/\a<2147483543:=⟨_,hfirst.symm,gU _ (by decide),mod_lt _ (by decide)⟩
  rw[e1]
  refine⟨_,rfl,_,rfl,_,_,rfl,rfl,.inl ⟨by omega,by omega⟩,_,rfl,_,_,rfl,rfl,.inl ⟨by decide,by decide⟩,_,rfl,_,_,rfl,rfl,.inr ⟨by omega,by omega⟩,_,_,rfl,rfl,_,rfl,_,_,rfl,rfl,.inl ⟨by decide,by decide⟩,_,_,rfl,rfl,_,_,rfl,rfl,_,_,rfl,rfl,(by show(0:Int)<2147483497;decide),?_⟩
  generalize JL:((fun i j=>V.int (i %j)) _ _:V)=vs
  obtain⟨b1,f1,b2,b3⟩:∃a:Int,vs= .int a/\0<=a/\a<2147483497:=⟨_,JL.symm,gU _ (by decide),mod_lt _ (by decide)⟩
  rw[f1]
  refine⟨_,rfl,_,rfl,_,_,rfl,rfl,.inl ⟨by omega,by omega⟩,_,rfl,_,_,rfl,rfl,.inl ⟨by decide,by decide⟩,_,_,rfl,rfl,_,rfl,_,_,rfl,rfl,_,rfl,_,_,rfl,rfl,_,_,rfl,rfl,(by show(0:Int)<2147483489;decide),?_⟩
  generalize JK:((fun i j=>V.int (i %j)) _ _:V)=vt
  obtain⟨c1',g1,c2,c3⟩:∃a:Int,vt= .int a/\0<=a/\a<2147483489:=⟨_,JK.symm,gU _ (by decide),mod_lt _ (by decide)⟩
  rw[g1]
  refine⟨_,rfl,_,_,rfl,rfl,.inr ⟨by decide,by decide⟩,_,rfl,_,_,rfl,rfl,q _ ?_⟩
  have:=Int.mul_nonneg b2 (show(0:Int)<=2147483489 by decide)
  omega
def j5(K:W.Frag):Sp:=fun vs H Q _=>∃(tp aU:Addr) (ns:List Int) (m b:Int),vs=[.ref tp,.int m]/\bM K H tp aU ns b/\b<=1000000000/\0<m/\m<1000000000000000000000000000000/\
 ∀r H',0<=r->r<m->aB tp H H'->bM K H' tp aU ns (b+1)->Q (.int r) H'
theorem gR:FnScope ["cup","many","at","cell","found"] ["cup","many"] (defScope zH):=fsc
theorem Ar{f f1:Addr}{fd d1:FuncData}(F:Fun K "_law_e_dip" "_law_e_dip" zH f fd)(D1:bU K mg "_law_e_stir" Ge ["cell","at"] f1 d1)(G1:FnOk P w K mg base CX0 1 f1 d1 ["cell","at"] (qI K))(bh:mg "len"=none):
  FnOk P w K mg base CX0 2 f fd ["cup","many"] (j5 K):=by
 refine F.ok gR (fun vs H Q E h=> ?_) (fun cdv A outer s H vs Q E hr h=> ?_)
 ·obtain⟨tp,aU,ns,m,b,rfl,_⟩:=h
  rfl
 obtain⟨tp,aU,ns,m,b,rfl,hC,hb,hm0,hm1,q⟩:=h
 refine⟨_,(aZ (fM (iU op_lt (bR qd (pv 0) aK (fun _ _=>rfl)) (pv 1) (nomark _)) (aZ (dF (i:=2) gR.nd rfl (Or.inl rfl) (bR qd (pv 0) aK (fun _ _=>rfl))) (aZ (dF (i:=3) gR.nd rfl (Or.inl rfl) (bN gK (bN tM aK (pv 2)) aK)) (aZ (fM (iU op_lt (pv 2) (cG tX rfl bh rM (ak (bR qd (pv 0) aK (fun _ _=>rfl)) aq)) (nomark _)) (aW (dF (i:=3) gR.nd rfl (Or.inl rfl) (bR qd (bR qd (pv 0) aK (fun _ _=>rfl)) (pv 2) (fun _ _=>rfl)))) (aW (fM (iU op_gt (cG tX rfl bh rM (ak (bR qd (pv 0) aK (fun _ _=>rfl)) aq)) aK (nomark _)) (aW (dF (i:=3) gR.nd rfl (Or.inl rfl) (bN gK (bN op_mod (bR qd (bR qd (pv 0) aK (fun _ _=>rfl)) (bN op_mod (bN gK (bN tM aK (pv 2)) aK) (cG tX rfl bh rM (ak (bR qd (pv 0) aK (fun _ _=>rfl)) aq))) (fun _ _=>rfl)) aK) (bN tM (pv 2) aK)))) gM))) (aZ (ps_asg (bN gK (pv 2) aK) (pg_sub (pv 0) aK set_list)) (aW (ps_asg (pc G1 hr D1 (ak (pv 3) (ak (pv 2) aq))) (pg_sub (pv 0) aK set_list))))))) gM) (aZ (dF (i:=4) gR.nd rfl (Or.inl rfl) (bN op_mod (bR qd (pv 0) aK (fun _ _=>rfl)) (pv 1))) (aZ (ps_asg (bN uY (bR qd (pv 0) aK (fun _ _=>rfl)) (pv 1)) (pg_sub (pv 0) aK set_list)) (aW (bY (pv 4)))))),?_⟩
 obtain⟨⟨⟨i,r,hH,hi,hr0⟩,hS0,h63⟩,i',r',hH',hle⟩:=hC
 have ei:i'=i/\r'=r:=by
  rw[hH]at hH'
  injection hH' with e1
  injection e1 with e2
  injection e2 with _ e3
  injection e3 with e4 e5
  injection e5 with e6 _
  injection e4 with e4
  injection e6 with e6
  exact⟨e4.symm,e6.symm⟩
 obtain⟨rfl,rfl⟩:=ei
 have hS:=hS0.sq
 refine⟨_,rfl,tp,_,_,.int r',rfl,rfl,SqL.of hH,rfl,_,rfl,_,_,rfl,rfl,_,rfl,?_⟩
 refine ite2 (fun c=> ?_) (fun c=> ?_)
 ·refine⟨_,rfl,tp,_,_,.int i',rfl,rfl,SqL.of hH,rfl,?_⟩
  refine⟨_,rfl,_,_,rfl,rfl,.inl ⟨by decide,by decide⟩,_,_,rfl,rfl,?_⟩
  refine⟨_,rfl,_,rfl,tp,_,_,.ref aU,rfl,rfl,SqL.of hH,rfl,aU,_,rfl,.inl hS,fun hz=>⟨_,_,rfl,rfl,_,rfl,?_⟩⟩
  have go:∀r2,0<=r2->∀q',q'=r2/m->
    ((0:Int)<=r2 %m/\r2 %m<m)/\aB tp H (upd (upd (upd H tp (.lst [.ref aU,.int (i'+1),.int r'])) tp (.lst [.ref aU,.int (i'+1),.int r2])) tp (.lst [.ref aU,.int (i'+1),.int q']))/\
    bM K (upd (upd (upd H tp (.lst [.ref aU,.int (i'+1),.int r'])) tp (.lst [.ref aU,.int (i'+1),.int r2])) tp (.lst [.ref aU,.int (i'+1),.int q'])) tp aU ns (b+1):=fun r2 h0 q' hq=>by
   have sx:aB tp H (upd (upd (upd H tp (.lst [.ref aU,.int (i'+1),.int r'])) tp (.lst [.ref aU,.int (i'+1),.int r2])) tp (.lst [.ref aU,.int (i'+1),.int q'])):=(aB.refl _ _).upd.upd.upd
   have hq0:0<=q':=by rw[hq];exact Int.ediv_nonneg h0 (by omega)
   exact⟨⟨gU _ hm0,mod_lt _ hm0⟩,sx,⟨⟨i'+1,q',aL,by omega,hq0⟩,hS0.bA sx hH,h63⟩,i'+1,q',aL,by omega⟩
  refine ite2 (fun c2=> ?_) (fun c2=> ?_)
  ·have c3:i'<((ns.map V.int).length:Int):=iV c2
   rw[aQ]at c3
   obtain⟨v,hx,_⟩:=rE hi c3
   refine⟨_,rfl,tp,_,_,.ref aU,rfl,rfl,SqL.of hH,rfl,_,rfl,aU,_,_,_,rfl,rfl,hS,hx,?_⟩
   refine⟨_,rfl,_,_,rfl,rfl,_,rfl,tp,_,_,1,rfl,rfl,hH,rfl,?_⟩
   refine⟨_,rfl,_,rfl,_,_,rfl,hi,by omega,fun r2 h0=>⟨_,rfl,tp,_,_,2,rfl,rfl,aL,rfl,?_⟩⟩
   obtain⟨⟨g1,g2⟩,g3,g4⟩:=go r2 h0 _ rfl
   refine⟨_,rfl,tp,_,_,.int r2,rfl,rfl,SqL.of aL,rfl,_,rfl,_,_,rfl,rfl,hm0,?_⟩
   refine⟨_,rfl,tp,_,_,.int r2,rfl,rfl,SqL.of aL,rfl,_,rfl,_,_,rfl,rfl,⟨hm0,hm1⟩,_,rfl,tp,_,_,2,rfl,rfl,aL,rfl,?_⟩
   exact⟨_,rfl,q _ _ g1 g2 g3 g4⟩
  ·refine⟨_,rfl,tp,_,_,.ref aU,rfl,rfl,SqL.of hH,rfl,aU,_,rfl,.inl hS,fun hz2=>⟨_,_,rfl,rfl,_,rfl,?_⟩⟩
   refine ite2 (fun c4=> ?_) (fun c4=> ?_)
   ·have e3:(0:Int)<((ns.map V.int).length:Int):=iV c4
    have hk1:=gU (5*i'+2) e3
    have hk2:=mod_lt (5*i'+2) e3
    rw[aQ]at hk1 hk2
    obtain⟨v,hx,_⟩:=rE hk1 hk2
    rw[<-aQ (f:=V.int)]at hx
    refine⟨_,rfl,tp,_,_,.ref aU,rfl,rfl,SqL.of hH,rfl,_,rfl,_,_,rfl,rfl,.inl ⟨by decide,by decide⟩,_,_,rfl,rfl,_,rfl,tp,_,_,.ref aU,rfl,rfl,SqL.of hH,rfl,aU,_,rfl,.inl hS,fun hz2=>⟨_,_,rfl,rfl,e3,aU,_,_,_,rfl,rfl,hS,hx,?_⟩⟩
    refine⟨_,_,rfl,rfl,(by show(0:Int)<777777769;decide),_,rfl,_,_,rfl,rfl,.inr ⟨by decide,by decide⟩,_,_,rfl,rfl,?_⟩
    refine⟨_,rfl,_,_,rfl,rfl,_,rfl,tp,_,_,1,rfl,rfl,hH,rfl,?_⟩
    refine⟨_,rfl,_,rfl,_,_,rfl,hi,by omega,fun r2 h0=>⟨_,rfl,tp,_,_,2,rfl,rfl,aL,rfl,?_⟩⟩
    obtain⟨⟨g1,g2⟩,g3,g4⟩:=go r2 h0 _ rfl
    refine⟨_,rfl,tp,_,_,.int r2,rfl,rfl,SqL.of aL,rfl,_,rfl,_,_,rfl,rfl,hm0,?_⟩
    refine⟨_,rfl,tp,_,_,.int r2,rfl,rfl,SqL.of aL,rfl,_,rfl,_,_,rfl,rfl,⟨hm0,hm1⟩,_,rfl,tp,_,_,2,rfl,rfl,aL,rfl,?_⟩
    exact⟨_,rfl,q _ _ g1 g2 g3 g4⟩
   ·refine⟨_,rfl,_,_,rfl,rfl,_,rfl,tp,_,_,1,rfl,rfl,hH,rfl,?_⟩
    refine⟨_,rfl,_,rfl,_,_,rfl,hi,by omega,fun r2 h0=>⟨_,rfl,tp,_,_,2,rfl,rfl,aL,rfl,?_⟩⟩
    obtain⟨⟨g1,g2⟩,g3,g4⟩:=go r2 h0 _ rfl
    refine⟨_,rfl,tp,_,_,.int r2,rfl,rfl,SqL.of aL,rfl,_,rfl,_,_,rfl,rfl,hm0,?_⟩
    refine⟨_,rfl,tp,_,_,.int r2,rfl,rfl,SqL.of aL,rfl,_,rfl,_,_,rfl,rfl,⟨hm0,hm1⟩,_,rfl,tp,_,_,2,rfl,rfl,aL,rfl,?_⟩
    exact⟨_,rfl,q _ _ g1 g2 g3 g4⟩
 ·refine⟨_,rfl,tp,_,_,.int r',rfl,rfl,SqL.of hH,rfl,_,rfl,_,_,rfl,rfl,hm0,?_⟩
  refine⟨_,rfl,tp,_,_,.int r',rfl,rfl,SqL.of hH,rfl,_,rfl,_,_,rfl,rfl,⟨hm0,hm1⟩,_,rfl,tp,_,_,2,rfl,rfl,hH,rfl,?_⟩
  have sx:aB tp H (upd H tp (.lst [.ref aU,.int i',.int (r'/m)])):=(aB.refl _ _).upd
  have hq0:0<=r'/m:=Int.ediv_nonneg hr0 (by omega)
  exact⟨_,rfl,q _ _ (gU _ hm0) (mod_lt _ hm0) sx ⟨⟨⟨i',r'/m,aL,hi,hq0⟩,hS0.bA sx hH,h63⟩,i',r'/m,aL,by omega⟩⟩
end
end Hs
namespace L2
open PySem
theorem bH.append{K:W.Frag}{H:Hp}{xs ys:List V}{ds es:List PyData}(h:bH K H xs ds)(h':bH K H ys es):bH K H (xs++ys) (ds++es):=
 bH.rec (motive_1:=fun _ _ _=>True) (motive_2:=fun xs ds _=>bH K H (xs++ys) (ds++es)) trivial (fun _=>trivial) (fun _=>trivial) (fun _=>trivial) (fun _ _ _=>trivial) (fun _ _ _=>trivial) (fun _=>trivial) (fun _ _=>trivial) h' (fun h _ _ t=> .cons h t) h
theorem aB.tup{K:W.Frag}{t:Addr}{H H':Hp}{a:Addr}{xs zs:List V}(e:aB t H H')(n:H t=some (.lst zs))(h:SqT K H a xs):SqT K H' a xs:=by
 rcases h with(h|⟨o,h⟩)|h
 ·exact .inl (.inl (e _ _ (ne_of h n (by intro z;cases z)) h))
 ·exact .inl (.inr ⟨o,e _ _ (ne_of h n (by intro z;cases z)) h⟩)
 ·exact .inr h
end L2
namespace tL
open PySem L2
theorem Dj{K:W.Frag}{t:Addr}{H H':Hp}{zs:List V}(e:aB t H H')(n:H t=some (.lst zs)){rs:List V}{ps:List (Int×Int)}(h:bH K H rs (ps.map pairD)):bH K H' rs (ps.map pairD):=by
 induction ps generalizing rs with
 |nil=>cases h;exact .nil
 |cons p ps ih=>
  cases h with
  |cons h tl=>
   refine .cons ?_ (ih tl)
   cases h with
   |tup h hd=>
    cases hd with
    |cons a1 t1=>
     cases a1
     cases t1 with
     |cons a2 t2=>
      cases a2
      cases t2
      exact .tup (e.tup n h) (.cons (.int _) (.cons (.int _) .nil))
theorem jH.bA{K:W.Frag}{t:Addr}{H H':Hp}{zs:List V}{a:Addr}{n:Int}{ts:List (Int×Int)}(h:jH K H a n ts)(e:aB t H H')(hn:H t=some (.lst zs)):jH K H' a n ts:=by
 obtain⟨u,rs,h1,h2,h3⟩:=h
 exact⟨u,rs,e.tup hn h1,e.tup hn h2,Dj e hn h3⟩
theorem kI{α:Type} [DecidableEq α]:∀{l m:List α},l.Nodup->(∀a∈l,a∈m)->l.length<=m.length
 |[],m,_,_=>eX _
 |a::l,m,nd,h=>by
  have ha:=h a cQ
  have nd':=zK.mp nd
  have q:∀b∈l,b∈m.erase a:=fun b hb=>by
   have hne:b≠a:=fun e=>nd'.1 (e▸hb)
   exact(List.mem_erase_of_ne hne).mpr (h b (eE _ hb))
  have:=kI nd'.2 q
  have e:=List.length_erase_of_mem ha
  have:0<m.length:=List.length_pos_of_mem ha
  simp only[mX]
  omega
structure aM(n:Int)(ps:List (Int×Int)):Prop where
 nd:ps.Nodup
 lt:∀p∈ps,0<=p.1/\p.1<p.2/\p.2<n
def FW(n:Nat):List (Int×Int):=((List.range n).map fun(j:Nat)=>(List.range j).map fun(i:Nat)=>((i:Int),(j:Int))).flatten
theorem BP{n:Int}{ps:List (Int×Int)}(h:aM n ps)(hn:n<=10):ps.length<=45:=by
 have q:=kI (m:=FW 10) h.nd fun p hp=>by
  obtain⟨h0,h1,h2⟩:=h.lt p hp
  obtain⟨a,b⟩:=p
  dsimp only at h0 h1 h2
  refine List.mem_flatten.mpr ⟨(List.range b.toNat).map fun(i:Nat)=>((i:Int),((b.toNat:Nat):Int)),cR.mpr ⟨b.toNat,wN.mpr (by omega),rfl⟩,cR.mpr ⟨a.toNat,wN.mpr (by omega),?_⟩⟩
  have e1:((a.toNat:Nat):Int)=a:=by omega
  have e2:((b.toNat:Nat):Int)=b:=by omega
  rw[e1,e2]
 have e:(FW 10).length=45:=by decide
 omega
theorem aM.perm{n:Int}{ps qs:List (Int×Int)}(h:aM n ps)(e:qs.Perm ps):aM n qs:=⟨e.nodup_iff.mpr h.nd,fun p hp=>h.lt p (e.mem_iff.mp hp)⟩
def pl(p:Int×Int):List Int:=[p.1,p.2]
theorem Af{p q:Int×Int}(h:pl p=pl q):p=q:=by
 obtain⟨a,b⟩:=p
 obtain⟨c,d⟩:=q
 unfold pl at h
 simp at h
 rw[h.1,h.2]
theorem Bb{a b:List Int}(h:HT.lexLt b a=false)(ne:a≠b):HT.lexLt a b=true:=by
 rw[HT.bF]at h⊢
 have h1:¬b<a:=of_decide_eq_false h
 have h2:a<=b:=List.not_lt.mp h1
 refine cH ?_
 rcases Classical.em (a<b)with h3|h3
 ·exact h3
 ·exact absurd (List.le_antisymm h2 (List.not_lt.mp h3)) ne
theorem uq{n:Int}{p:Int×Int}(h0:0<=p.1)(h1:p.1<p.2)(h2:p.2<n):fj n (pairD p)=true:=by
 show((aV n (.int p.1)&&(aV n (.int p.2)&&true))&&cY [p.1,p.2]&&decide (([PyData.int p.1,PyData.int p.2]).length=2))=true
 have e1:aV n (.int p.1)=true:=by
  show(decide (0<=p.1)&&decide (p.1<n))=true
  rw[cH h0,cH (by omega)];rfl
 have e2:aV n (.int p.2)=true:=by
  show(decide (0<=p.2)&&decide (p.2<n))=true
  rw[cH (by omega),cH h2];rfl
 have e3:cY [p.1,p.2]=true:=by
  show(decide (p.1<p.2)&&true)=true
  rw[cH h1];rfl
 rw[e1,e2,e3];rfl
theorem oR{n:Int}{ts:List (Int×Int)}(hn0:0<=n)(hn1:n<=10)(h:aM n ts)(hs:ts.Pairwise fun p q=>HT.lexLt (pl q) (pl p)=false):lu (oU n ts)=true:=by
 show(true&&(decide (0<=n)&&decide (n<=10))&&((ts.map pairD).all (fj n)&&cX ((ts.map pairD).map fun t=>(kids t).map intD)))=true
 have e1:(ts.map pairD).all (fj n)=true:=by
  rw[GJ,iJ]
  intro p hp
  obtain⟨h0,h1,h2⟩:=h.lt p hp
  exact uq h0 h1 h2
 have e2:(ts.map pairD).map (fun t=>(kids t).map intD)=ts.map pl:=by rw[mV];rfl
 have e3:cX (ts.map pl)=true:=by
  unfold cX
  rw[iJ]
  intro k hk
  have hk':k<ts.length-1:=by simpa using hk
  have g1:(ts.map pl).getD k []=pl ts[k]:=by rw[mJ,dH,jQ (by omega)];rfl
  have g2:(ts.map pl).getD (k+1) []=pl ts[k+1]:=by rw[mJ,dH,jQ (by omega)];rfl
  rw[g1,g2]
  refine Bb (List.pairwise_iff_getElem.mp hs k (k+1) (by omega) (by omega) (by omega)) fun e=> ?_
  have:=(List.getElem_inj h.nd).mp (Af e)
  omega
 rw[cH hn0,cH hn1,e1,e2,e3];rfl
theorem nF{K:W.Frag}{H:Hp}:∀(its:List (Addr×(Int×Int))),(∀p∈its,SqT K H p.1 ((pl p.2).map V.int))->bH K H (its.map fun p=>V.ref p.1) ((its.map (·.2)).map pairD)
 |[],_=> .nil
 |p::its,h=> .cons (.tup (h p cQ) (.cons (.int _) (.cons (.int _) .nil))) (nF its fun q hq=>h q (eE _ hq))
def uo(ts:List (Int×Int))(i j:Int):Bool:=decide ((i,j)∈ts)||decide ((j,i)∈ts)
theorem tied_eq{n:Int}{ts:List (Int×Int)}(h:aM n ts)(i j:Int):aj ts i j=uo ts i j:=by
 unfold aj uo
 have no:∀{a b:Int},b<=a->decide ((a,b)∈ts)=false:=fun{a b} hab=>fQ fun hm=>by
  have:=(h.lt _ hm).2.1
  dsimp only at this
  omega
 rcases Hg i j with c|c|c
 ·rw[aP (show¬j<i by omega),aN (show j>i by omega),no (show i<=j by omega),Bool.or_false]
 ·subst c
  rw[aP (show¬i<i by omega),Bool.or_self]
  try rw[aP (show¬i>i by omega)]
 ·rw[aN (show j<i by omega),aP (show¬j>i by omega),no (show j<=i by omega),Bool.false_or]
end tL
namespace Hs
open PySem L2 tL
section
variable{P:Program}{w:World}{K:W.Frag}{mg:Str->Option Value}{base:Heap}
def spLaw(K:W.Frag):Sp:=fun vs H Q _=>∃(a:Addr) (ns:List Int),vs=[.ref a]/\iM K H a ns/\ns.length<=63/\∀H',Q (.bl true) H'
theorem uF{H:Hp}{a:Addr}{ns:List Int}(hl:ns.length<=63)(hO:Only H)(hS:SqL K H a (ns.map V.int)):spLaw K [.ref a] H (fun v _=>v= .bl true) fun _ _ _=>False:=by
 refine⟨a,ns,rfl,?_,hl,fun _=>rfl⟩
 rcases hS with(h|⟨o,h⟩)|h
 ·rcases hO a with q|⟨o,xs,q⟩
  ·rw[q]at h;cases h
  ·rw[q]at h;cases h
 ·exact .inl ⟨o,h⟩
 ·exact .inr h
def Jo(K:W.Frag):List V->Hp->VK->Prop:=fun xs H Q=>∃p ys,xs=[.ref p]/\(SqL K H p ys\/SqT K H p ys)/\(ys.length<=16777216->Q (.int ys.length) H)
theorem ur{H:Hp}{tp aU:Addr}{ns:List Int}{k:Int}{r:St}{Q:Bool->Hp->Prop}(tv:gF K H tp aU ns)(hQ:∀b,Q b H):
  tAnd (tTest (tOp (rI0 fun i j=> .bl (decide (j<i))) (tVar 2) (tC (.int 1)))) (tTest (tOp (rI0 fun i j=> .bl (decide (j<=i))) (tOp (rIxL K) (tVar 1) (tC (.int 1))) (tCB (Jo K) (tCons (tVar 0) tNil)))) (some (.ref aU)::some (.ref tp)::some (.int k)::r) H Q:=by
 obtain⟨⟨i,rr,hH,_,_⟩,hS,_⟩:=tv
 refine⟨_,rfl,_,_,rfl,rfl,_,rfl,?_⟩
 refine ite2 (fun c=> ?_) (fun c=>hQ _)
 exact⟨_,rfl,tp,_,_,.int i,rfl,rfl,SqL.of hH,rfl,_,rfl,aU,_,rfl,.inl hS.sq,fun _=>⟨_,_,rfl,rfl,_,rfl,hQ _⟩⟩
theorem uw{H:Hp}{a p:Addr}{ns:List Int}(hS:iM K H a ns)(h63:ns.length<=63)(hp:H p=none):gF K (upd H p (.lst [.ref a,.int 0,.int 0])) p a ns:=
 ⟨⟨0,0,aL,DG _,DG _⟩,hS.same (aY hp _),h63⟩
end
def mO(p q:Int×Int):Prop:=p.1<q.1\/(p.1=q.1/\p.2<q.2)
theorem mO.trans{p q r:Int×Int}(a:mO p q)(b:mO q r):mO p r:=by
 unfold mO at *;omega
theorem mO.wF{p:Int×Int}(a:mO p p):False:=by
 unfold mO at a;omega
theorem xX{p q:Int×Int}(h:HT.lexLt (pl p) (pl q)=true):mO p q:=by
 rw[HT.bF]at h
 have:=iV h
 unfold pl at this
 rw[Gw]at this
 rcases this with a|⟨a,b⟩
 ·exact .inl a
 ·rw[Gw]at b
  rcases b with b|⟨_,b⟩
  ·exact .inr ⟨a,b⟩
  ·exact absurd b (by simp)
def row(so:Int->Int->Bool)(i:Int)(k:Nat):List (Int×Int):=((List.range k).map fun(t:Nat)=>(i,i+1+(t:Int))).filter fun p=>so p.1 p.2
def rows(so:Int->Int->Bool)(m:Int)(i:Nat):List (Int×Int):=((List.range i).map fun(t:Nat)=>row so (0+(t:Int)) (m-(0+(t:Int)+1)).toNat).flatten
theorem cW(so:Int->Int->Bool)(i:Int)(k:Nat):row so i (k+1)=row so i k++(if so i (i+1+(k:Int))=true then[(i,i+1+(k:Int))]else[]):=by
 unfold row
 rw[Dt,bV,Cm]
 congr 1
 show List.filter _ [(i,i+1+(k:Int))]=_
 rw[yK]
 rfl
theorem zG(so:Int->Int->Bool)(m:Int)(i:Nat):rows so m (i+1)=rows so m i++row so (0+(i:Int)) (m-(0+(i:Int)+1)).toNat:=by
 unfold rows
 rw[Dt,bV,List.flatten_append]
 simp
theorem iZ{so:Int->Int->Bool}{i:Int}{k:Nat}{p:Int×Int}:p∈row so i k↔p.1=i/\i<p.2/\p.2<i+1+(k:Int)/\so p.1 p.2=true:=by
 unfold row
 rw[kZ,cR]
 constructor
 ·rintro⟨⟨t,ht,rfl⟩,h⟩
  rw[wN]at ht
  exact⟨rfl,by show i<i+1+(t:Int);omega,by show i+1+(t:Int)<_;omega,h⟩
 ·rintro⟨h1,h2,h3,h4⟩
  refine⟨⟨(p.2-i-1).toNat,by rw[wN];omega,?_⟩,h4⟩
  apply Cq
  ·exact h1.symm
  ·show i+1+(((p.2-i-1).toNat:Nat):Int)=p.2;omega
theorem wu{so:Int->Int->Bool}{m:Int}:∀{i:Nat} {p:Int×Int},p∈rows so m i↔0<=p.1/\p.1<(i:Int)/\p.1<p.2/\p.2<m/\so p.1 p.2=true
 |0,p=>by
  constructor
  ·intro h;simp[rows]at h
  ·intro h;omega
 |i+1,p=>by
  rw[zG,jX,wu (i:=i),iZ]
  constructor
  ·rintro(h|h)
   ·exact⟨h.1,by omega,h.2.2⟩
   ·exact⟨by omega,by omega,by omega,by omega,h.2.2.2⟩
  ·rintro⟨h1,h2,h3,h4,h5⟩
   by_cases e:p.1<(i:Int)
   ·exact .inl ⟨h1,e,h3,h4,h5⟩
   ·exact .inr ⟨by omega,by omega,by omega,h5⟩
theorem jo(so:Int->Int->Bool)(i:Int)(k:Nat):(row so i k).Pairwise mO:=by
 unfold row
 refine List.Pairwise.filter _ ?_
 rw[zM]
 exact List.pairwise_lt_range.imp fun h=> .inr ⟨rfl,by show i+1+_<i+1+_;omega⟩
theorem Dk(so:Int->Int->Bool)(m:Int):∀i:Nat,(rows so m i).Pairwise mO
 |0=>by unfold rows;exact List.Pairwise.nil
 |i+1=>by
  rw[zG,Dw]
  refine⟨Dk so m i,jo so _ _,fun p hp q hq=> ?_⟩
  rw[wu]at hp
  rw[iZ]at hq
  exact .inl (by omega)
theorem cI{so:Int->Int->Bool}{m:Int}{i:Nat}:aM m (rows so m i):=
 ⟨(Dk so m i).imp fun h e=>by subst e;exact mO.wF h,fun p hp=>by rw[wu]at hp;exact⟨hp.1,hp.2.2.1,hp.2.2.2.1⟩⟩
theorem kj{l:List (Int×Int)}(h:l.Pairwise mO):l.Nodup:=h.imp fun h e=>by subst e;exact mO.wF h
end Hs
namespace L2
open PySem
theorem bH.get'{K:W.Frag}{H:Hp}:∀{xs:List V} {ds:List PyData} {i:Nat},bH K H xs ds->i<ds.length->∃x d,xs[i]? =some x/\ds[i]? =some d/\DV K H x d
 |_,_,i,.nil,h=>by simp at h
 |_,_,0,.cons h _,_=>⟨_,_,rfl,rfl,h⟩
 |_,_,i+1,.cons _ t,h=>by
  obtain⟨x,d,h1,h2,h3⟩:=bH.get' (i:=i) t (by simpa using h)
  exact⟨x,d,by simpa using h1,by simpa using h2,h3⟩
end L2
namespace Hs
open PySem L2 tL
theorem eG{α β γ:Type}{f:α->β}{g:β->γ}{l:List α}{i:Nat}(hi:i<l.length):((l.take i).map f).map g++[g (f l[i])]=((l.take (i+1)).map f).map g:=by
 rw[ql,jQ hi,bV,bV]
 rfl
structure aO(K:W.Frag)(H:Hp)(a:Addr)(n:Int)(ts:List (Int×Int)):Prop where
 web:jH K H a n ts
 h0:0<=n
 h1:n<=10
 pk:aM n ts
 ok:rF n ts
theorem aO.same{K:W.Frag}{H H':Hp}{a:Addr}{n:Int}{ts:List (Int×Int)}(h:aO K H a n ts)(e:Same H H'):aO K H' a n ts:=⟨h.web.same e,h.h0,h.h1,h.pk,h.ok⟩
theorem aO.bA{K:W.Frag}{H H':Hp}{t a:Addr}{zs:List V}{n:Int}{ts:List (Int×Int)}(h:aO K H a n ts)(e:aB t H H')(hn:H t=some (.lst zs)):aO K H' a n ts:=⟨h.web.bA e hn,h.h0,h.h1,h.pk,h.ok⟩
theorem aO.len{K:W.Frag}{H:Hp}{a:Addr}{n:Int}{ts:List (Int×Int)}(h:aO K H a n ts):ts.length<=45:=BP h.pk h.h1
def tt(_ _:Int):Bool:=true
theorem qY{p q:Int×Int}(h:mO p q):HT.lexLt (pl q) (pl p)=false:=by
 rw[HT.bF]
 refine fQ fun z=> ?_
 have:mO q p:=xX (by rw[HT.bF];exact cH z)
 exact mO.wF (h.trans this)
theorem eY{n:Int}{ts:List (Int×Int)}{i:Nat}(h0:0<=n)(h1:n<=10)(h:ts.Sublist (rows tt n i)):aM n ts/\rF n ts:=by
 have hs:ts.Pairwise mO:=(Dk tt n i).sublist h
 have ho:aM n ts:=⟨kj hs,fun p hp=>(cI (so:=tt) (m:=n) (i:=i)).lt p (h.subset hp)⟩
 exact⟨ho,oR h0 h1 ho (hs.imp qY)⟩
theorem lN{K:W.Frag}{H:Hp}{rs:List V}{ps:List (Int×Int)}{i:Nat}{x:V}(h:bH K H rs (ps.map pairD))(hx:rs[i]? =some x):∃(t:Addr) (hi:i<ps.length),x= .ref t/\SqT K H t [.int (ps[i]).1,.int (ps[i]).2]:=by
 have hlen:=h.len
 rw[aQ]at hlen
 have hi:i<ps.length:=by rw[<-hlen];exact(yP.mp hx).1
 obtain⟨x',d,e1,e2,e3⟩:=bH.get' (i:=i) h (by rw[aQ];exact hi)
 rw[hx]at e1;cases e1
 rw[dH,jQ hi]at e2
 cases e2
 cases e3 with
 |tup hp tp=>
  cases tp with
  |cons ta tb=>
   cases tb with
   |cons tc td=>
    cases td
    cases ta
    cases tc
    exact⟨_,hi,rfl,hp⟩
theorem kO{xs:List Int}{i:Int}(h0:0<=i)(h1:i<(xs.length:Int)):atI (xs.map V.int) i=some (.int (xs.getD i.toNat 0)):=by
 have hk:i.toNat<xs.length:=by omega
 have ek:((i.toNat:Nat):Int)=i:=by omega
 have q:atI (xs.map V.int) ((i.toNat:Nat):Int)=some (.int (xs.getD i.toNat 0)):=atI_nat (by rw[dH,jQ hk,mJ,jQ hk];rfl)
 rw[ek]at q
 exact q
def bB(K:W.Frag)(H:Hp)(l:Addr)(R:List (Int×Int))(P:Int×Int->Prop):Prop:=∃(rs:List V) (ts:List (Int×Int)),H l=some (.lst rs)/\bH K H rs (ts.map pairD)/\ts.Sublist R/\∀p∈ts,P p
theorem bB.nil{K:W.Frag}{H:Hp}{l:Addr}{R:List (Int×Int)}{P:Int×Int->Prop}(h:H l=some (.lst [])):bB K H l R P:=⟨[],[],h,.nil,List.nil_sublist _,fun p hp=>(nomatch hp)⟩
theorem bB.same{K:W.Frag}{H H':Hp}{l:Addr}{R:List (Int×Int)}{P:Int×Int->Prop}(h:bB K H l R P)(e:Same H H'):bB K H' l R P:=by
 obtain⟨rs,ts,h1,h2,h3⟩:=h
 exact⟨rs,ts,e _ _ h1,h2.same e,h3⟩
theorem bB.step{K:W.Frag}{H H':Hp}{l c:Addr}{R:List (Int×Int)}{P:Int×Int->Prop}{zs:List V}(h:bB K H l R P)(e:aB c H H')(hc:H c=some (.lst zs))(n:l≠c):bB K H' l R P:=by
 obtain⟨rs,ts,h1,h2,h3⟩:=h
 exact⟨rs,ts,e _ _ n h1,Dj e hc h2,h3⟩
theorem bB.mono{K:W.Frag}{H:Hp}{l:Addr}{R R':List (Int×Int)}{P:Int×Int->Prop}(h:bB K H l R P)(e:R.Sublist R'):bB K H l R' P:=by
 obtain⟨rs,ts,h1,h2,h3,h4⟩:=h
 exact⟨rs,ts,h1,h2,h3.trans e,h4⟩
theorem bB.push{K:W.Frag}{H:Hp}{l p:Addr}{R:List (Int×Int)}{P:Int×Int->Prop}{i j:Int}{rs:List V}{ts:List (Int×Int)}(h1:H l=some (.lst rs))(h2:bH K H rs (ts.map pairD))(h3:ts.Sublist R)(h4:∀p∈ts,P p)(hp:SqT K H p [.int i,.int j])(hP:P (i,j)):bB K (upd H l (.lst (rs++[.ref p]))) l (R++[(i,j)]) P:=by
 have x:aB l H (upd H l (.lst (rs++[.ref p]))):=(aB.refl _ _).upd
 refine⟨_,ts++[(i,j)],aL,?_,h3.append (G9 _),fun q hq=> ?_⟩
 ·rw[bV]
  exact(Dj x h1 h2).append (.cons (.tup (x.tup h1 hp) (.cons (.int _) (.cons (.int _) .nil))) .nil)
 ·rcases jX.mp hq with q'|q'
  ·exact h4 q q'
  ·rw[lg.mp q'];exact hP
theorem sub_len{n:Int}{ts:List (Int×Int)}{i k:Nat}(h1:n<=10)(hk:0+(i:Int)+1+(k:Int)<=n)(h:ts.Sublist (rows tt n i++row tt (0+(i:Int)) k)):ts.length<=45:=by
 refine BP (n:=n) ⟨?_,fun p hp=> ?_⟩ h1
 ·refine kj (KH h ?_)
  rw[Dw]
  refine⟨Dk _ _ _,jo _ _ _,fun p hp q hq=> ?_⟩
  rw[wu]at hp
  rw[iZ]at hq
  exact .inl (by omega)
 ·rcases jX.mp (h.subset hp)with q|q
  ·rw[wu]at q;exact⟨q.1,q.2.2.1,q.2.2.2.1⟩
  ·rw[iZ]at q;exact⟨by omega,by omega,by omega⟩
section
variable{P:Program}{w:World}{K:W.Frag}{mg:Str->Option Value}{base:Heap}
end
end Hs
namespace L2
open PySem PySem.Spec PyProof.Rows
theorem uL{s u:TS}{D:Ends}{σ:St}{H:Hp}(I:St->Hp->Prop)(h1:∀N:St->Hp->Prop,(∀σ' H',I σ' H'->N σ' H')->s {D with nx:=N} σ H)(h2:∀σ' H',I σ' H'->u D σ' H'):tSeq s u D σ H:=h1 (u D) h2
section
variable{K:W.Frag}{σ:St}{H0:Hp}
end
end L2
namespace Hs
open PySem L2 tL
section
variable{P:Program}{w:World}{K:W.Frag}{mg:Str->Option Value}{base:Heap}
theorem uR:FnScope ["web","one","other"] ["web","one","other"] (defScope wA):=fsc
theorem vm{f:Addr}{fd:FuncData}(F:Fun K "_law_e_tied" "_law_e_tied" wA f fd)(eN:mg "min"=none)(nM:mg "max"=none):
  FnOk P w K mg base CX0 1 f fd ["web","one","other"] (cJ K):=by
 refine F.ok uR (fun vs H Q E h=> ?_) (fun cdv A outer s H vs Q E hr h=> ?_)
 ·obtain⟨a,n,i,j,ts,rfl,_⟩:=h
  rfl
 obtain⟨a,n,i,j,ts,rfl,hW,q⟩:=h
 refine⟨_,(aW (bY (pe_cmpR (lO hr.units) (jM (ak (cG (call_min2 rfl) rfl eN (by decide+kernel) (ak (pv 1) (ak (pv 2) aq))) (ak (cG (call_max2 rfl) rfl nM (by decide+kernel) (ak (pv 1) (ak (pv 2) aq))) aq))) (bR dZ (pv 0) aK (fun _ _=>rfl)) (by with_unfolding_all rfl)))),?_⟩
 refine⟨_,rfl,_,rfl,_,_,rfl,_,rfl,_,rfl,_,_,rfl,(by show 2<=sizeLine;decide),fun p hp=> ?_⟩
 have sm:=aY hp (.tup [.int (if j<i then j else i),.int (if j>i then j else i)])
 obtain⟨t,rs,h1,h2,h3⟩:=hW.same sm
 refine⟨_,rfl,a,_,_,.ref t,rfl,rfl,h1,rfl,t,rs,_,pairD (if j<i then j else i,if j>i then j else i),rfl,.inr h2,h3,.tup (SqT.of aL) (.cons (.int _) (.cons (.int _) .nil)),gW ts,rfl,(by show max 0 (max 0 0)+1<=60;decide),?_⟩
 rw[oJ]
 exact q _ sm
def lC(K:W.Frag):Sp:=fun vs H Q _=>∃(cp aU:Addr) (ns:List Int) (n b:Int),vs=[.ref cp,.int n]/\bM K H cp aU ns b/\b<=900000000/\0<=n/\n<=10/\
 ∀r ts H',aB cp H H'->bM K H' cp aU ns (b+120)->aO K H' r n ts->Q (.ref r) H'
theorem cU:FnScope ["cup","n","often","ties","i","j"] ["cup","n"] (defScope Dr):=fsc
theorem u6{f f1:Addr}{fd d1:FuncData}(F:Fun K "_law_e_web_of" "_law_e_web_of" Dr f fd)(D1:bU K mg "_law_e_dip" zH ["cup","many"] f1 d1)(G1:FnOk P w K mg base CX0 2 f1 d1 ["cup","many"] (j5 K))(aA:mg "range"=none)(aJ:mg "tuple"=none):
  FnOk P w K mg base CX0 3 f fd ["cup","n"] (lC K):=by
 refine F.ok cU (fun vs H Q E h=> ?_) (fun cdv A outer s H vs Q E hr h=> ?_)
 ·obtain⟨cp,aU,ns,n,b,rfl,_⟩:=h
  rfl
 obtain⟨cp,aU,ns,n,b,rfl,hC,hb,hn0,hn1,q⟩:=h
 refine⟨_,(aZ (dF (i:=2) cU.nd rfl (Or.inl rfl) (pc G1 hr D1 (ak (pv 0) (ak aK aq)))) (aZ (dF (i:=3) cU.nd rfl (Or.inl rfl) (pe_lst aq)) (aZ (oN oV rfl (rK rfl aA (ak (pv 1) aq)) (cF (i:=4) cU.nd rfl (Or.inl rfl)) (aW (oN oV rfl (BR rfl aA (ak (bN gK (pv 4) aK) (ak (pv 1) aq))) (cF (i:=5) cU.nd rfl (Or.inl rfl)) (aW (fM (iU op_lt (pc G1 hr D1 (ak (pv 0) (ak aK aq))) (pv 2) (nomark _)) (aW (rJ (pe_bm zR CG Cz BL (pv 3) (ak (jM (ak (pv 4) (ak (pv 5) aq))) aq)))) gM))))) (aW (bY (jM (ak (pv 1) (ak (tZ uc rfl aJ (by decide+kernel) (ak (pv 3) aq)) aq)))))))),?_⟩
 refine⟨_,rfl,cp,aU,ns,7,b,rfl,hC,by omega,by decide,by decide,fun o H1 JT ho1 x1 c1=> ?_⟩
 refine⟨(by show 0<=sizeLine;decide),fun tl htl=> ?_⟩
 obtain⟨zs,hz⟩:=c1.lst
 have s2:=aY htl (.lst [])
 have Ax:tl≠cp:=nH hz htl
 have Je:H tl=none:=x1.free Ax htl
 refine⟨_,rfl,n,rfl,by omega,by omega,?_⟩
 refine tY (n:=n.toNat) (fun i σ H'=>aB cp H H'/\bM K H' cp aU ns (b+1+10*(i:Int))/\bB K H' tl (rows tt n i) (fun _=>True)/\∃a4 a5,σ=[some (.ref cp),some (.int n),some (.int o),some (.ref tl),a4,a5])
  ⟨x1.trans (s2.x _),(c1.same s2).mono (by omega),bB.nil aL,_,_,rfl⟩ (fun i σ H' hi p=> ?_) (fun σ H' p=> ?_)
 ·obtain⟨x,c,tl1,a4,a5,rfl⟩:=p
  refine⟨_,rfl,_,_,rfl,rfl,_,rfl,_,_,rfl,⟨by omega,by omega,by omega,by omega⟩,?_⟩
  refine tY (n:=(n-(0+(i:Int)+1)).toNat) (fun k σ H'=>aB cp H H'/\bM K H' cp aU ns (b+1+10*(i:Int)+(k:Int))/\bB K H' tl (rows tt n i++row tt (0+(i:Int)) k) (fun _=>True)/\∃a5,σ=[some (.ref cp),some (.int n),some (.int o),some (.ref tl),some (.int (0+(i:Int))),a5])
   ⟨x,c.mono (by omega),by rw[show row tt (0+(i:Int)) 0=[]from rfl,mW];exact tl1,_,rfl⟩ (fun k σ H' hk p=> ?_) (fun σ H' p=> ?_)
  ·obtain⟨x,c,tl1,a5,rfl⟩:=p
   refine⟨_,rfl,cp,aU,ns,6,_,rfl,c,by omega,by decide,by decide,fun d H2 hd0 hd1 x2 c2=>⟨_,rfl,_,_,rfl,rfl,_,rfl,?_⟩⟩
   obtain⟨zs,hz⟩:=c.lst
   have K6:=tl1.step x2 hz Ax
   have er:rows tt n i++row tt (0+(i:Int)) (k+1)=(rows tt n i++row tt (0+(i:Int)) k)++[(0+(i:Int),0+(i:Int)+1+(k:Int))]:=by rw[cW,aN (show tt _ _=true from rfl),Ck]
   have ec:b+1+10*(i:Int)+((k+1:Nat):Int)=b+1+10*(i:Int)+(k:Int)+1:=by omega
   rw[er,ec]
   refine ite2 (fun cc=> ?_) (fun cc=> ?_)
   ·obtain⟨rs,ts,h1,h2,h3,h4⟩:=K6
    have hl:=sub_len hn1 (by omega) h3
    have hrl:=h2.len
    rw[aQ]at hrl
    refine⟨_,rfl,.inl ⟨rfl,_,SqL.of h1⟩,_,rfl,_,rfl,(by show 2<=sizeLine;decide),fun p hp=> ?_⟩
    have s3:=aY hp (.tup [.int (0+(i:Int)),.int (0+(i:Int)+1+(k:Int))])
    refine⟨tl,rs,_,rfl,rfl,s3 _ _ h1,(by rw[eF];omega),?_⟩
    have xw:aB tl (upd H2 p (.tup [.int (0+(i:Int)),.int (0+(i:Int)+1+(k:Int))])) (upd (upd H2 p (.tup [.int (0+(i:Int)),.int (0+(i:Int)+1+(k:Int))])) tl (.lst (rs++[.ref p]))):=(aB.refl _ _).upd
    refine⟨fun q o hq e=> ?_,(c2.same s3).other xw (s3 _ _ h1) Ax.symm,bB.push (s3 _ _ h1) (h2.same s3) h3 h4 (SqT.of aL) trivial,_,rfl⟩
    have nq:q≠tl:=fun z=>by rw[z,Je]at e;cases e
    exact xw _ _ nq (s3 _ _ (x2 _ _ hq (x _ _ hq e)))
   ·exact⟨x.trans x2,c2,K6.mono (Gx _ _),_,rfl⟩
  ·obtain⟨x,c,tl1,a5,rfl⟩:=p
   rw[<-zG]at tl1
   exact⟨x,c.mono (by omega),tl1,_,_,rfl⟩
 ·obtain⟨x,c,⟨rs,ts,h1,h2,h3,h4⟩,a4,a5,rfl⟩:=p
  refine⟨_,rfl,_,rfl,tl,rs,rfl,.inl ⟨SqL.of h1,fun t ht=>⟨(by show 2<=sizeLine;decide),fun wb vJ=> ?_⟩⟩⟩
  have s3:=aY ht (.tup rs)
  have s4:=aY vJ (.tup [.int n,.ref t])
  have qO:=s3.trans s4
  obtain⟨g1,g2⟩:=eY hn0 hn1 h3
  exact q wb ts _ (x.trans (qO.x _)) ((c.same qO).mono (by omega)) ⟨⟨t,rs,SqT.of aL,SqT.of (s4 _ _ aL),h2.same qO⟩,hn0,hn1,g1,g2⟩
def aF(n no:Int)(ts ao:List (Int×Int))(ys:List Int):Bool:=decide ((ys.length:Int)=n)&&(ys.all (fun y=>decide (0<=y)&&decide (y<no))&&ts.all fun p=>aj ao (ys.getD p.1.toNat 0) (ys.getD p.2.toNat 0))
def yU(K:W.Frag):Sp:=fun vs H Q _=>∃(a o sm:Addr) (n no:Int) (ts ao:List (Int×Int)) (ys:List Int),vs=[.ref a,.ref o,.ref sm]/\aO K H a n ts/\aO K H o no ao/\SqT K H sm (ys.map V.int)/\
 ∀H',Same H H'->Q (.bl (aF n no ts ao ys)) H'
theorem pW(no:Int)(ys:List Int):(ys.map PyData.int).all (aV no)=ys.all (fun y=>decide (0<=y)&&decide (y<no)):=by rw[GJ];rfl
theorem qZ(ys:List Int):(V.int ((ys.map V.int).length:Int))=V.int (ys.length:Int):=by rw[aQ]
theorem q9{a b:Int}:(!decide (V.int a=V.int b))= !decide (a=b):=by
 by_cases e:a=b
 ·subst e;simp
 ·rw[fQ e,fQ (by intro z;injection z with z;exact e z)]
theorem zV:FnScope ["web","other","some"] ["web","other","some"] (defScope fX):=fsc
theorem Aj{f f1 f2 f3:Addr}{fd d1 d2 d3:FuncData}(F:Fun K "is_way" "is_way" fX f fd)(D1:bU K mg "need_web" BW ["thing"] f1 d1)(G1:FnOk P w K mg base CX0 7 f1 d1 ["thing"] (dN K))(D2:bU K mg "are_places" Dq ["n","things"] f2 d2)(G2:FnOk P w K mg base CX0 3 f2 d2 ["n","things"] (jk K))(D3:bU K mg "has_tie" Dg ["web","one","other"] f3 d3)(G3:FnOk P w K mg base CX0 1 f3 d3 ["web","one","other"] (cJ K))(bh:mg "len"=none)(bK:mg "isinstance"=none)(aJ:mg "tuple"=none)(cC:mg "all"=none):
  FnOk P w K mg base CX0 8 f fd ["web","other","some"] (yU K):=by
 refine F.ok zV (fun vs H Q E h=> ?_) (fun cdv A outer s H vs Q E hr h=> ?_)
 ·obtain⟨a,o,sm,n,no,ts,ao,ys,rfl,_⟩:=h
  rfl
 obtain⟨a,o,sm,n,no,ts,ao,ys,rfl,hA,hO,hY,q⟩:=h
 refine⟨_,(aZ (rJ (pc G1 hr D1 (ak (pv 0) aq))) (aZ (rJ (pc G1 hr D1 (ak (pv 1) aq))) (aZ (fM (PW.pt (pw_or (mQ (jN (cG wJ rfl bK (by decide+kernel) (ak (pv 2) (ak (wI rfl aJ (v:= .ty "tuple") (by decide+kernel) rfl) aq))))) (pw_or (iU op_ne (cG tX rfl bh rM (ak (pv 2) aq)) (bR dZ (pv 0) aK (fun _ _=>rfl)) (nomark _)) (pw_or1 (mQ (jN (pc G2 hr D2 (ak (bR dZ (pv 1) aK (fun _ _=>rfl)) (ak (pv 2) aq))))))))) (aW (bY mH)) gM) (aW (bY (cG (zF rfl) rfl cC (by decide+kernel) (ak (mU (own:=["i","j"]) (caps:=["other","some"]) (ix:=[1,2]) rfl (tW (bR dZ (pv 0) aK (fun _ _=>rfl))) rfl rfl (.cons rfl rfl (.cons rfl rfl .nil)) (fun _ _ _ _ _=>(gk K (n:=2) rfl (tO (cF (i:=0) (show(["i","j","other","some"]:List Str).Nodup from by decide+kernel) rfl (Or.inl rfl)) (tO (cF (i:=1) (show(["i","j","other","some"]:List Str).Nodup from by decide+kernel) rfl (Or.inl rfl)) pgs_nil)))) (fun _ _ _ _ _=>qe) (fun _ _ _ _ _=>(pc G3 hr D3 (ak (pv 2) (ak (bR (yE K) (pv 3) (pv 0) (fun _ _=>rfl)) (ak (bR (yE K) (pv 3) (pv 1) (fun _ _=>rfl)) aq)))))) aq))))))),?_⟩
 refine⟨_,rfl,_,_,rfl,hA.web.dv.dx,hA.ok,fun H1 s1=> ?_⟩
 refine⟨_,rfl,_,_,rfl,(hO.same s1).web.dv.dx,hO.ok,fun H2 s2=> ?_⟩
 have s12:=s1.trans s2
 obtain⟨ta,ra,a1,a2,a3⟩:=id (hA.same s12).web
 obtain⟨to,ro,o1,o2,o3⟩:=id (hO.same s12).web
 have Fe:=s12.tup hY
 refine⟨_,rfl,.ref sm,"tuple",_,rfl,.inl ⟨rfl,_,Fe⟩,.inr (.inr (.inl rfl)),_,rfl,?_⟩
 refine iteF ?_
 refine⟨_,rfl,sm,_,rfl,.inr Fe,fun hz=>⟨_,rfl,a,_,_,.int n,rfl,rfl,a1,rfl,rfl,_,rfl,?_⟩⟩
 rw[qZ,q9]
 refine ite2 (fun c=> ?_) (fun c=> ?_)
 ·have e:aF n no ts ao ys=false:=by unfold aF;rw[fQ (by simpa using c)];rfl
  have:=q H2 s12
  rw[e]at this;exact this
 have hlen:(ys.length:Int)=n:=by simpa using c
 refine⟨_,rfl,o,_,_,.int no,rfl,rfl,o1,rfl,_,rfl,no,sm,_,_,rfl,Fe,bH.dx (bH.ints ys),fun H3 s3=>⟨_,rfl,?_⟩⟩
 rw[pW]
 refine ite2 (fun c2=> ?_) (fun c2=> ?_)
 ·have e:aF n no ts ao ys=false:=by unfold aF;rw[show ys.all (fun y=>decide (0<=y)&&decide (y<no))=false by simpa using c2];simp
  have:=q H3 (s12.trans s3)
  rw[e]at this;exact this
 have hall:ys.all (fun y=>decide (0<=y)&&decide (y<no))=true:=by simpa using c2
 refine⟨_,rfl,a,_,_,.ref ta,rfl,rfl,s3.tup a1,rfl,ta,ra,rfl,s3.tup a2,fun hz2=> ?_⟩
 have Lx:=hA.len
 have hra:=a3.len
 rw[aQ]at hra
 refine yH (xs:=ra) (fun i acc σ H'=>acc=((ts.take i).map fun p=>aj ao (ys.getD p.1.toNat 0) (ys.getD p.2.toNat 0)).map V.bl/\Same H3 H'/\∃o1 o2,σ=[o1,o2,some (.ref o),some (.ref sm)]) ⟨rfl,Same.refl _,_,_,rfl⟩ (fun i acc σ H' _ p=>p.2.1.tup (s3.tup a2)) (fun i acc σ H' hi p=> ?_) hz2 (fun i x acc σ H' hx p=> ?_) (fun acc σ H' p=> ?_)
 ·rw[p.1];simp;omega
 ·obtain⟨rfl,sm',b1,b2,rfl⟩:=p
  obtain⟨t,hi,rfl,ht⟩:=lN a3 hx
  have qO:=s3.trans sm'
  have hp:=hA.pk.lt ts[i] (yL _)
  have Kd:=(hO.same (s12.trans qO)).web
  refine⟨t,_,rfl,qO.tup ht,rfl,_,_,rfl,_,_,rfl,rfl,?_⟩
  refine⟨_,rfl,_,rfl,_,rfl,sm,_,_,_,rfl,rfl,qO.tup Fe,kO hp.1 (by omega),_,rfl,_,rfl,sm,_,_,_,rfl,rfl,qO.tup Fe,kO (by omega) (by omega),?_⟩
  refine⟨o,no,_,_,ao,rfl,Kd,fun H5 s5=>⟨?_,sm'.trans s5,_,_,rfl⟩⟩
  exact eG (f:=fun p:Int×Int=>aj ao (ys.getD p.1.toNat 0) (ys.getD p.2.toNat 0)) hi
 ·intro p1 hp1
  obtain⟨rfl,sm',_⟩:=p
  refine⟨p1,(ts.map fun p=>aj ao (ys.getD p.1.toNat 0) (ys.getD p.2.toNat 0)),rfl,SqL.of (by rw[aL,hra,oO]),?_⟩
  have:=q _ (s12.trans (s3.trans (sm'.trans (aY hp1 (.lst (((ts.take ra.length).map fun p=>aj ao (ys.getD p.1.toNat 0) (ys.getD p.2.toNat 0)).map V.bl))))))
  rw[dw]
  have e:aF n no ts ao ys=ts.all fun p=>aj ao (ys.getD p.1.toNat 0) (ys.getD p.2.toNat 0):=by unfold aF;rw[cH hlen,hall];rfl
  rw[e]at this;exact this
def qH(K:W.Frag):Sp:=fun vs H Q _=>∃(a o sm:Addr) (n no:Int) (ts ao:List (Int×Int)) (ys:List Int),vs=[.ref a,.ref o,.ref sm]/\aO K H a n ts/\aO K H o no ao/\SqT K H sm (ys.map V.int)/\
 ∀H',Same H H'->Q (.bl (aF n no ts ao ys)) H'
theorem m6:FnScope ["web","other","some","there"] ["web","other","some"] (defScope Gi):=fsc
theorem vh{f f1:Addr}{fd d1:FuncData}(F:Fun K "_law_e_leads" "_law_e_leads" Gi f fd)(D1:bU K mg "_law_e_tied" wA ["web","one","other"] f1 d1)(G1:FnOk P w K mg base CX0 1 f1 d1 ["web","one","other"] (cJ K))(bh:mg "len"=none)(bK:mg "isinstance"=none)(aJ:mg "tuple"=none)(Ba:mg "bool"=none)(Er:mg "int"=none)(cC:mg "all"=none):
  FnOk P w K mg base CX0 2 f fd ["web","other","some"] (qH K):=by
 refine F.ok m6 (fun vs H Q E h=> ?_) (fun cdv A outer s H vs Q E hr h=> ?_)
 ·obtain⟨a,o,sm,n,no,ts,ao,ys,rfl,_⟩:=h
  rfl
 obtain⟨a,o,sm,n,no,ts,ao,ys,rfl,hA,hO,hY,q⟩:=h
 refine⟨_,(aZ (fM (PW.pt (pw_or (mQ (jN (cG wJ rfl bK (by decide+kernel) (ak (pv 2) (ak (wI rfl aJ (v:= .ty "tuple") (by decide+kernel) rfl) aq))))) (pw_or1 (iU op_ne (cG tX rfl bh rM (ak (pv 2) aq)) (bR dZ (pv 0) aK (fun _ _=>rfl)) (nomark _))))) (aW (bY mH)) gM) (aZ (oN oV rfl (tW (pv 2)) (cF (i:=3) m6.nd rfl (Or.inl rfl)) (aW (fM (PW.pt (pw_or (mQ (jN (cG wJ rfl bK (by decide+kernel) (ak (pv 3) (ak (wI rfl Er (v:= .ty "int") (by decide+kernel) rfl) aq))))) (pw_or (jN (cG wJ rfl bK (by decide+kernel) (ak (pv 3) (ak (wI rfl Ba (v:= .ty "bool") (by decide+kernel) rfl) aq)))) (pw_or (iU op_lt (pv 3) aK (nomark _)) (pw_or1 (iU op_ge (pv 3) (bR dZ (pv 1) aK (fun _ _=>rfl)) (nomark _))))))) (aW (bY mH)) gM))) (aW (bY (cG (zF rfl) rfl cC (by decide+kernel) (ak (mU (own:=["i","j"]) (caps:=["other","some"]) (ix:=[1,2]) rfl (tW (bR dZ (pv 0) aK (fun _ _=>rfl))) rfl rfl (.cons rfl rfl (.cons rfl rfl .nil)) (fun _ _ _ _ _=>(gk K (n:=2) rfl (tO (cF (i:=0) (show(["i","j","other","some"]:List Str).Nodup from by decide+kernel) rfl (Or.inl rfl)) (tO (cF (i:=1) (show(["i","j","other","some"]:List Str).Nodup from by decide+kernel) rfl (Or.inl rfl)) pgs_nil)))) (fun _ _ _ _ _=>qe) (fun _ _ _ _ _=>(pc G1 hr D1 (ak (pv 2) (ak (bR (yE K) (pv 3) (pv 0) (fun _ _=>rfl)) (ak (bR (yE K) (pv 3) (pv 1) (fun _ _=>rfl)) aq)))))) aq)))))),?_⟩
 obtain⟨ta,ra,a1,a2,a3⟩:=id hA.web
 obtain⟨to,ro,o1,o2,o3⟩:=id hO.web
 refine⟨_,rfl,.ref sm,"tuple",_,rfl,.inl ⟨rfl,_,hY⟩,.inr (.inr (.inl rfl)),_,rfl,?_⟩
 refine iteF ?_
 refine⟨_,rfl,sm,_,rfl,.inr hY,fun hz=>⟨_,rfl,a,_,_,.int n,rfl,rfl,a1,rfl,rfl,_,rfl,?_⟩⟩
 rw[qZ,q9]
 refine ite2 (fun c=> ?_) (fun c=> ?_)
 ·have e:aF n no ts ao ys=false:=by unfold aF;rw[fQ (by simpa using c)];rfl
  have:=q H (Same.refl _)
  rw[e]at this;exact this
 have hlen:(ys.length:Int)=n:=by simpa using c
 refine⟨_,rfl,sm,_,rfl,hY,fun hz2=> ?_⟩
 refine for_tup (K:=K) (a:=sm) (xs:=ys.map V.int) (fun i σ H'=>H'=H/\(ys.take i).all (fun y=>decide (0<=y)&&decide (y<no))=true/\∃b,σ=[some (.ref a),some (.ref o),some (.ref sm),b]) ⟨rfl,rfl,_,rfl⟩ (fun i σ H' _ p=>by rw[p.1];exact hY) (fun i x σ H' hx p=> ?_) (fun σ H' p=> ?_)
 ·obtain⟨rfl,hall,b,rfl⟩:=p
  rw[dH]at hx
  cases ey:ys[i]? with
  |none=>rw[ey]at hx;cases hx
  |some y=>
   rw[ey]at hx
   cases hx
   have et:(ys.take (i+1)).all (fun y=>decide (0<=y)&&decide (y<no))=(decide (0<=y)&&decide (y<no)):=by
    rw[ql,ey,List.all_append,hall];simp
   have no':¬(decide (0<=y)&&decide (y<no))=true->aF n no ts ao ys=false:=fun h=>by
    unfold aF
    have:ys.all (fun y=>decide (0<=y)&&decide (y<no))=false:=by
     rw[<-Bool.not_eq_true]
     intro z
     exact h (iJ.mp z y (tR ey))
    rw[this];simp
   refine⟨_,rfl,.int y,"int",_,rfl,rfl,.inl rfl,_,rfl,?_⟩
   refine iteF ?_
   refine⟨_,rfl,.int y,"int",_,rfl,rfl,.inr (.inl rfl),_,rfl,?_⟩
   refine iteF ?_
   refine⟨_,rfl,_,_,rfl,rfl,_,rfl,?_⟩
   refine ite2 (fun c1=> ?_) (fun c1=> ?_)
   ·have h1:y<0:=iV c1
    have:=q H' (Same.refl _)
    rw[no' (by simp;omega)]at this;exact this
   have h1:¬y<0:=fun z=>c1 (cH z)
   refine⟨_,rfl,_,rfl,o,_,_,.int no,rfl,rfl,o1,rfl,_,_,rfl,rfl,_,rfl,?_⟩
   refine ite2 (fun c2=> ?_) (fun c2=> ?_)
   ·have h2:no<=y:=iV c2
    have:=q H' (Same.refl _)
    rw[no' (by simp;omega)]at this;exact this
   have h2:¬no<=y:=fun z=>c2 (cH z)
   refine⟨rfl,?_,_,rfl⟩
   rw[et];simp;omega
 obtain⟨rfl,hall,b,rfl⟩:=p
 rw[aQ,oO]at hall
 refine⟨_,rfl,a,_,_,.ref ta,rfl,rfl,a1,rfl,ta,ra,rfl,a2,fun hz2=> ?_⟩
 have Lx:=hA.len
 have hra:=a3.len
 rw[aQ]at hra
 refine yH (xs:=ra) (fun i acc σ H2=>acc=((ts.take i).map fun p=>aj ao (ys.getD p.1.toNat 0) (ys.getD p.2.toNat 0)).map V.bl/\Same H' H2/\∃o1 o2,σ=[o1,o2,some (.ref o),some (.ref sm)]) ⟨rfl,Same.refl _,_,_,rfl⟩ (fun i acc σ H' _ p=>p.2.1.tup a2) (fun i acc σ H' hi p=> ?_) hz2 (fun i x acc σ H2 hx p=> ?_) (fun acc σ H2 p=> ?_)
 ·rw[p.1];simp;omega
 ·obtain⟨rfl,sm',b1,b2,rfl⟩:=p
  obtain⟨t,hi,rfl,ht⟩:=lN a3 hx
  have hp:=hA.pk.lt ts[i] (yL _)
  have Kd:=(hO.same sm').web
  refine⟨t,_,rfl,sm'.tup ht,rfl,_,_,rfl,_,_,rfl,rfl,?_⟩
  refine⟨_,rfl,_,rfl,_,rfl,sm,_,_,_,rfl,rfl,sm'.tup hY,kO hp.1 (by omega),_,rfl,_,rfl,sm,_,_,_,rfl,rfl,sm'.tup hY,kO (by omega) (by omega),?_⟩
  refine⟨o,no,_,_,ao,rfl,Kd,fun H5 s5=>⟨?_,sm'.trans s5,_,_,rfl⟩⟩
  exact eG (f:=fun p:Int×Int=>aj ao (ys.getD p.1.toNat 0) (ys.getD p.2.toNat 0)) hi
 ·intro p1 hp1
  obtain⟨rfl,sm',_⟩:=p
  refine⟨p1,(ts.map fun p=>aj ao (ys.getD p.1.toNat 0) (ys.getD p.2.toNat 0)),rfl,SqL.of (by rw[aL,hra,oO]),?_⟩
  have:=q _ (sm'.trans (aY hp1 (.lst (((ts.take ra.length).map fun p=>aj ao (ys.getD p.1.toNat 0) (ys.getD p.2.toNat 0)).map V.bl))))
  rw[dw]
  have e:aF n no ts ao ys=ts.all fun p=>aj ao (ys.getD p.1.toNat 0) (ys.getD p.2.toNat 0):=by unfold aF;rw[cH hlen,hall];rfl
  rw[e]at this;exact this
def pJ(ao:List (Int×Int))(xs:List Int)(p:Int×Int):Prop:=aj ao (xs.getD p.1.toNat 0) (xs.getD p.2.toNat 0)=true
def j4(K:W.Frag):Sp:=fun vs H Q _=>∃(cp aU o:Addr) (ns:List Int) (n no b:Int) (ao:List (Int×Int)),vs=[.ref cp,.ref o,.int n]/\bM K H cp aU ns b/\b<=900000000/\aO K H o no ao/\0<no/\0<=n/\n<=10/\
 ∀r wb sm ts xs H',aB cp H H'->bM K H' cp aU ns (b+140)->SqT K H' r [.ref wb,.ref sm]->aO K H' wb n ts->SqT K H' sm (xs.map V.int)->(xs.length:Int)=n->(∀x∈xs,0<=x/\x<no)->(∀p∈ts,pJ ao xs p)->Q (.ref r) H'
theorem BX:FnScope ["cup","other","n","some","often","ties","i","j"] ["cup","other","n"] (defScope Gk):=fsc
theorem pD{f f1 f2:Addr}{fd d1 d2:FuncData}(F:Fun K "_law_e_planted" "_law_e_planted" Gk f fd)(D1:bU K mg "_law_e_dip" zH ["cup","many"] f1 d1)(G1:FnOk P w K mg base CX0 2 f1 d1 ["cup","many"] (j5 K))(D2:bU K mg "_law_e_tied" wA ["web","one","other"] f2 d2)(G2:FnOk P w K mg base CX0 1 f2 d2 ["web","one","other"] (cJ K))(aJ:mg "tuple"=none)(aA:mg "range"=none):
  FnOk P w K mg base CX0 3 f fd ["cup","other","n"] (j4 K):=by
 refine F.ok BX (fun vs H Q E h=> ?_) (fun cdv A outer s H vs Q E hr h=> ?_)
 ·obtain⟨cp,aU,o,ns,n,no,b,ao,rfl,_⟩:=h
  rfl
 obtain⟨cp,aU,o,ns,n,no,b,ao,rfl,hC,hb,hO,hno,hn0,hn1,q⟩:=h
 refine⟨_,(aZ (dF (i:=3) BX.nd rfl (Or.inl rfl) (tZ uc rfl aJ (by decide+kernel) (ak (mU (own:=["place"]) (caps:=["cup","other"]) (ix:=[0,1]) rfl (rK rfl aA (ak (pv 2) aq)) rfl rfl (.cons rfl rfl (.cons rfl rfl .nil)) (fun _ _ _ _ _=>(cF (i:=0) (show(["place","cup","other"]:List Str).Nodup from by decide+kernel) rfl (Or.inl rfl))) (fun _ _ _ _ _=>qe) (fun _ _ _ _ _=>(pc G1 hr D1 (ak (pv 1) (ak (bR (yE K) (pv 2) aK (fun _ _=>rfl)) aq))))) aq))) (aZ (dF (i:=4) BX.nd rfl (Or.inl rfl) (bN gK aK (pc G1 hr D1 (ak (pv 0) (ak aK aq))))) (aZ (dF (i:=5) BX.nd rfl (Or.inl rfl) (pe_lst aq)) (aZ (oN oV rfl (rK rfl aA (ak (pv 2) aq)) (cF (i:=6) BX.nd rfl (Or.inl rfl)) (aW (oN oV rfl (BR rfl aA (ak (bN gK (pv 6) aK) (ak (pv 2) aq))) (cF (i:=7) BX.nd rfl (Or.inl rfl)) (aW (fM (PW.pt (pw_and (jN (pc G2 hr D2 (ak (pv 1) (ak (bR dZ (pv 3) (pv 6) (fun _ _=>rfl)) (ak (bR dZ (pv 3) (pv 7) (fun _ _=>rfl)) aq))))) (pw_and1 (iU op_lt (pc G1 hr D1 (ak (pv 0) (ak aK aq))) (pv 4) (nomark _))))) (aW (rJ (pe_bm zR CG Cz BL (pv 5) (ak (jM (ak (pv 6) (ak (pv 7) aq))) aq)))) gM))))) (aW (bY (jM (ak (jM (ak (pv 2) (ak (tZ uc rfl aJ (by decide+kernel) (ak (pv 5) aq)) aq))) (ak (pv 3) aq))))))))),?_⟩
 have Kc:=hO.h1
 obtain⟨z0,hz0⟩:=hC.lst
 refine⟨_,rfl,n,rfl,by omega,by omega,?_⟩
 refine yI (n:=n.toNat) (fun i acc σ H'=>(∃xs:List Int,acc=xs.map V.int/\xs.length=i/\∀x∈xs,0<=x/\x<no)/\aB cp H H'/\bM K H' cp aU ns (b+(i:Int))/\∃o1,σ=[o1,some (.ref cp),some (.ref o)]) ⟨⟨[],rfl,rfl,fun x h=>(nomatch h)⟩,aB.refl _ _,hC.mono (by omega),_,rfl⟩ (fun i acc σ H' hi p=> ?_) (by rw[eF];omega) (fun i acc σ H' hi p=> ?_) (fun acc σ H' p=> ?_)
 ·obtain⟨⟨xs,rfl,h1,_⟩,_⟩:=p
  rw[aQ];omega
 ·obtain⟨⟨xs,rfl,h1,h2⟩,x,c,o1,rfl⟩:=p
  obtain⟨to,ro,w1,w2,w3⟩:=id (hO.bA x hz0).web
  refine⟨_,rfl,_,rfl,o,_,_,.int no,rfl,rfl,w1,rfl,cp,aU,ns,no,_,rfl,c,by omega,hno,by omega,fun d H2 hd0 hd1 x2 c2=>⟨⟨xs++[d],by rw[bV];rfl,by simp[h1],fun y hy=> ?_⟩,x.trans x2,by rw[show b+((i+1:Nat):Int)=b+(i:Int)+1 by omega];exact c2,_,rfl⟩⟩
  rcases jX.mp hy with hy|hy
  ·exact h2 y hy
  ·rw[lg.mp hy];exact⟨hd0,hd1⟩
 ·intro p1 hp1
  obtain⟨⟨xs,rfl,h1,h2⟩,x1,c1,_⟩:=p
  have s2:=aY hp1 (.lst (xs.map V.int))
  refine⟨p1,_,rfl,.inl ⟨SqL.of aL,fun sm hsm=> ?_⟩⟩
  have s3:=aY hsm (.tup (xs.map V.int))
  have CK:=s2.trans s3
  have hX:SqT K (upd (upd H' p1 (.lst (xs.map V.int))) sm (.tup (xs.map V.int))) sm (xs.map V.int):=SqT.of aL
  have x3:=x1.trans (CK.x cp)
  have c3:=c1.same CK
  generalize (upd (upd H' p1 (.lst (xs.map V.int))) sm (.tup (xs.map V.int)))=H3 at *
  refine⟨_,rfl,cp,aU,ns,6,_,rfl,c3,by omega,by decide,by decide,fun of H4 JT ho1 x4 c4=>⟨_,_,rfl,rfl,?_⟩⟩
  obtain⟨z3,NP⟩:=c3.lst
  obtain⟨z4,Nz⟩:=c4.lst
  have Ob:=x4.tup NP hX
  have KD:=x3.trans x4
  refine⟨(by show 0<=sizeLine;decide),fun tl htl=> ?_⟩
  have s5:=aY htl (.lst [])
  have Ax:tl≠cp:=nH Nz htl
  have Je:H tl=none:=KD.free Ax htl
  have MF:=KD.trans (s5.x cp)
  have c5:=c4.same s5
  have Oa:=s5.tup Ob
  have hT5:(upd H4 tl (.lst [])) tl=some (.lst []):=aL
  generalize (upd H4 tl (.lst []))=H5 at *
  refine⟨_,rfl,n,rfl,by omega,by omega,?_⟩
  refine tY (n:=n.toNat) (fun i σ H'=>aB cp H H'/\bM K H' cp aU ns (b+11+10*(i:Int))/\SqT K H' sm (xs.map V.int)/\bB K H' tl (rows tt n i) (pJ ao xs)/\∃a6 a7,σ=[some (.ref cp),some (.ref o),some (.int n),some (.ref sm),some (.int (1+of)),some (.ref tl),a6,a7])
   ⟨MF,c5.mono (by omega),Oa,bB.nil hT5,_,_,rfl⟩ (fun i σ H' hi p=> ?_) (fun σ H' p=> ?_)
  ·obtain⟨x,c,wG,tl1,a6,a7,rfl⟩:=p
   refine⟨_,rfl,_,_,rfl,rfl,_,rfl,_,_,rfl,⟨by omega,by omega,by omega,by omega⟩,?_⟩
   refine tY (n:=(n-(0+(i:Int)+1)).toNat) (fun k σ H'=>aB cp H H'/\bM K H' cp aU ns (b+11+10*(i:Int)+(k:Int))/\SqT K H' sm (xs.map V.int)/\bB K H' tl (rows tt n i++row tt (0+(i:Int)) k) (pJ ao xs)/\∃a7,σ=[some (.ref cp),some (.ref o),some (.int n),some (.ref sm),some (.int (1+of)),some (.ref tl),some (.int (0+(i:Int))),a7])
    ⟨x,c.mono (by omega),wG,by rw[show row tt (0+(i:Int)) 0=[]from rfl,mW];exact tl1,_,rfl⟩ (fun k σ H' hk p=> ?_) (fun σ H' p=> ?_)
   ·obtain⟨x,c,wG,tl1,a7,rfl⟩:=p
    obtain⟨zs,hz⟩:=c.lst
    have Oc:=(hO.bA x hz0).web
    have er:rows tt n i++row tt (0+(i:Int)) (k+1)=(rows tt n i++row tt (0+(i:Int)) k)++[(0+(i:Int),0+(i:Int)+1+(k:Int))]:=by rw[cW,aN (show tt _ _=true from rfl),Ck]
    have ec:b+11+10*(i:Int)+((k+1:Nat):Int)=b+11+10*(i:Int)+(k:Int)+1:=by omega
    rw[er,ec]
    refine⟨_,rfl,_,rfl,_,rfl,sm,_,_,_,rfl,rfl,wG,kO (by omega) (by omega),_,rfl,_,rfl,sm,_,_,_,rfl,rfl,wG,kO (by omega) (by omega),o,no,_,_,ao,rfl,Oc,fun H2 s2=>⟨_,rfl,?_⟩⟩
    refine ite2 (fun cc=> ?_) (fun cc=> ?_)
    ·refine⟨_,rfl,cp,aU,ns,6,_,rfl,c.same s2,by omega,by decide,by decide,fun d H3 hd0 hd1 x3 c3=>⟨_,rfl,_,_,rfl,rfl,_,rfl,?_⟩⟩
     have K5:=(tl1.same s2).step x3 (s2 _ _ hz) Ax
     have Lw:=x3.tup (s2 _ _ hz) (s2.tup wG)
     refine ite2 (fun c2=> ?_) (fun c2=> ?_)
     ·obtain⟨rs,ts,h1,h2,h3,h4⟩:=K5
      have hl:=sub_len hn1 (by omega) h3
      have hrl:=h2.len
      rw[aQ]at hrl
      refine⟨_,rfl,.inl ⟨rfl,_,SqL.of h1⟩,_,rfl,_,rfl,(by show 2<=sizeLine;decide),fun p hp=> ?_⟩
      have s4:=aY hp (.tup [.int (0+(i:Int)),.int (0+(i:Int)+1+(k:Int))])
      refine⟨tl,rs,_,rfl,rfl,s4 _ _ h1,(by rw[eF];omega),?_⟩
      have xw:aB tl (upd H3 p (.tup [.int (0+(i:Int)),.int (0+(i:Int)+1+(k:Int))])) (upd (upd H3 p (.tup [.int (0+(i:Int)),.int (0+(i:Int)+1+(k:Int))])) tl (.lst (rs++[.ref p]))):=(aB.refl _ _).upd
      refine⟨fun q o hq e=> ?_,(c3.same s4).other xw (s4 _ _ h1) Ax.symm,xw.tup (s4 _ _ h1) (s4.tup Lw),bB.push (s4 _ _ h1) (h2.same s4) h3 h4 (SqT.of aL) cc,_,rfl⟩
      have nq:q≠tl:=fun z=>by rw[z,Je]at e;cases e
      exact xw _ _ nq (s4 _ _ (x3 _ _ hq (s2 _ _ (x _ _ hq e))))
     ·exact⟨(x.trans (s2.x _)).trans x3,c3,Lw,K5.mono (Gx _ _),_,rfl⟩
    ·exact⟨x.trans (s2.x _),(c.same s2).mono (by omega),s2.tup wG,(tl1.same s2).mono (Gx _ _),_,rfl⟩
   ·obtain⟨x,c,wG,tl1,a7,rfl⟩:=p
    rw[<-zG]at tl1
    exact⟨x,c.mono (by omega),wG,tl1,_,_,rfl⟩
  ·obtain⟨x,c,wG,⟨rs,ts,h1',h2',h3,h4⟩,a6,a7,rfl⟩:=p
   refine⟨_,rfl,_,rfl,tl,rs,rfl,.inl ⟨SqL.of h1',fun t ht=>⟨(by show 2<=sizeLine;decide),fun wb vJ=>⟨_,rfl,(by show 2<=sizeLine;decide),fun r hr'=> ?_⟩⟩⟩⟩
   have s3:=aY ht (.tup rs)
   have s4:=aY vJ (.tup [.int n,.ref t])
   have s5:=aY hr' (.tup [.ref wb,.ref sm])
   have yZ:=s3.trans (s4.trans s5)
   obtain⟨g1,g2⟩:=eY hn0 hn1 h3
   exact q r wb sm ts xs _ (x.trans (yZ.x _)) ((c.same yZ).mono (by omega)) (SqT.of aL) ⟨⟨t,rs,SqT.of (s5 _ _ aL),SqT.of ((s4.trans s5) _ _ aL),h2'.same yZ⟩,hn0,hn1,g1,g2⟩ (yZ.tup wG) (by omega) h2 h4
theorem Paired.at_{α β:Type}{R:α->β->Prop}:∀{l:List α} {m:List β} {i:Nat} {a:α},Paired R l m->l[i]? =some a->∃b,m[i]? =some b/\R a b
 |_,_,_,_,.nil,e=>by simp at e
 |_,_,0,_,.cons r _,e=>by simp at e;subst e;exact⟨_,rfl,r⟩
 |_,_,i+1,a,.cons _ t,e=>by
  obtain⟨b,h1,h2⟩:=Paired.at_ (i:=i) (a:=a) t (by simpa using e)
  exact⟨b,by simpa using h1,h2⟩
theorem Paired.vG{α β:Type}{R:α->β->Prop}:∀{l:List α} {m:List β},Paired R l m->l.length=m.length
 |_,_,.nil=>rfl
 |_,_,.cons _ t=>by simp[Paired.vG t]
theorem kJ{n y z:Int}{ts:List (Int×Int)}:z∈cL n ts y↔(0<=z/\z<n)/\aj ts y z=true:=by
 unfold cL
 rw[kZ,cR]
 constructor
 ·rintro⟨⟨k,hk,rfl⟩,h⟩
  have:=wN.mp hk
  exact⟨⟨by omega,by omega⟩,h⟩
 ·rintro⟨⟨a,b⟩,h⟩
  exact⟨⟨z.toNat,wN.mpr (by omega),by omega⟩,h⟩
theorem BZ(ts:List (Int×Int))(i j:Int):aj ts i j=aj ts j i:=by
 unfold aj
 congr 2
 rcases Hg i j with c|c|c
 ·rw[aP (by omega),aN (show j>i by omega),aN c,aP (show¬i>j by omega)]
 ·subst c;rfl
 ·rw[aN c,aP (show¬j>i by omega),aP (by omega),aN (show i>j by omega)]
theorem any_ints(xs:List Int)(k:Int):((xs.map PyData.int).any fun d=>PyData.eqv d (.int k))=decide (k∈xs):=by
 induction xs with
 |nil=>simp
 |cons x xs ih=>
  rw[wB,HW,ih]
  have e:PyData.eqv (.int x) (.int k)=decide (k=x):=by
   show(x==k)=_
   rw[mY];simp;exact⟨fun h=>h.symm,fun h=>h.symm⟩
  rw[e,mY]
  simp
theorem oA{H:Hp}:∀{l:List Int} {xs:List V},bH K H xs (l.map PyData.int)->xs=l.map V.int
 |[],_,h=>by cases h;rfl
 |i::l,_,h=>by
  cases h with
  |cons a t=>rw[oA t];cases a;rfl
def v8(K:W.Frag)(H:Hp):List (Addr×Addr)->NK.SK->Prop:=Paired fun i p=>SqT K H i.1 [.int p.1,.ref i.2]/\SqT K H i.2 (p.2.map V.int)
theorem qw{H:Hp}{b:Addr}{k:NK.SK}(h:DV K H (.ref b) (NK.toD k)):∃its:List (Addr×Addr),SqT K H b (its.map fun i=>V.ref i.1)/\v8 K H its k:=by
 have go:∀{k:NK.SK} {xs:List V},bH K H xs (k.map NK.j9)->∃its:List (Addr×Addr),xs=its.map (fun i=>V.ref i.1)/\v8 K H its k:=fun{k}=>by
  induction k with
  |nil=>intro xs h;cases h;exact⟨[],rfl,.nil⟩
  |cons p k ih=>
   intro xs h
   cases h with
   |cons a t=>
    obtain⟨its,rfl,r⟩:=ih t
    unfold NK.j9 at a
    cases a with
    | @tup a ys _ hs ht=>
     cases ht with
     |cons h1 t1=>
      cases h1
      cases t1 with
      |cons h2 t2=>
       cases t2
       cases h2 with
       | @tup q zs _ hq hz=>
        have:=oA hz
        subst this
        exact⟨(a,q)::its,rfl,.cons ⟨hs,hq⟩ r⟩
 unfold NK.toD at h
 cases h with
 | @tup a xs _ hs ht=>
  obtain⟨its,rfl,r⟩:=go ht
  exact⟨its,hs,r⟩
theorem zj{H:Hp}{b:Addr}{k:NK.SK}{its:List (Addr×Addr)}(h:SqT K H b (its.map fun i=>V.ref i.1))(r:v8 K H its k):DV K H (.ref b) (NK.toD k):=by
 refine .tup h ?_
 clear h
 induction r with
 |nil=>exact .nil
 |cons a _ ih=>exact .cons (.tup a.1 (.cons (.int _) (.cons (.tup a.2 (bH.ints _)) .nil))) ih
theorem v8.same{H H':Hp}{its:List (Addr×Addr)}{k:NK.SK}(h:v8 K H its k)(e:Same H H'):v8 K H' its k:=Paired.mapP h fun _ _ z=>⟨e.tup z.1,e.tup z.2⟩
theorem v8.bA{H H':Hp}{t:Addr}{zs:List V}{its:List (Addr×Addr)}{k:NK.SK}(h:v8 K H its k)(e:aB t H H')(hn:H t=some (.lst zs)):v8 K H' its k:=Paired.mapP h fun _ _ z=>⟨e.tup hn z.1,e.tup hn z.2⟩
def vN(ln lf d:Addr):List (Str×V):=[("near",.ref ln),("far",.ref lf),("led_nowhere",.ref d)]
structure Pz(K:W.Frag)(C:Addr)(H:Hp)(o dx ln lf d:Addr)(nn ff:List Addr)(n no:Int)(ts ao:List (Int×Int)):Prop where
 at_:H o=some (.ins C dx (vN ln lf d))
 near:SqL K H ln (nn.map V.ref)
 nlen:(nn.length:Int)=n
 ntup:∀(i:Nat) a,nn[i]? =some a->SqT K H a ((cL n ts (i:Int)).map V.int)
 far:SqL K H lf (ff.map V.ref)
 Bs:(ff.length:Int)=no
 Br:∀(i:Nat) a,ff[i]? =some a->SqT K H a ((cL no ao (i:Int)).map V.int)
def wH(K:W.Frag)(C:Addr)(H:Hp)(o d:Addr)(n no:Int)(ts ao:List (Int×Int)):Prop:=∃dx ln lf nn ff,Pz K C H o dx ln lf d nn ff n no ts ao
theorem wH.same{C:Addr}{H H':Hp}{o d:Addr}{n no:Int}{ts ao:List (Int×Int)}(h:wH K C H o d n no ts ao)(e:Same H H'):wH K C H' o d n no ts ao:=by
 obtain⟨dx,ln,lf,nn,ff,h⟩:=h
 exact⟨dx,ln,lf,nn,ff,e _ _ h.at_,e.seq h.near,h.nlen,fun i a z=>e.tup (h.ntup i a z),e.seq h.far,h.Bs,fun i a z=>e.tup (h.Br i a z)⟩
theorem qC{H H':Hp}{a b:Addr}{φ:Heap->Prop}{xs:List V}(ha:H a=some (.ext φ))(e:∀c o,c≠a->H c=some o->H' c=some o)(h:SqL K H b xs):SqL K H' b xs:=by
 rcases h with(q|⟨o,q⟩)|q
 ·exact .inl (.inl (e _ _ (fun z=>by rw[z,ha]at q;cases q) q))
 ·exact .inl (.inr ⟨o,e _ _ (fun z=>by rw[z,ha]at q;cases q) q⟩)
 ·exact .inr q
theorem wH.but{C:Addr}{H H':Hp}{o d:Addr}{n no:Int}{ts ao:List (Int×Int)}{φ:Heap->Prop}(h:wH K C H o d n no ts ao)(ha:H d=some (.ext φ))(e:∀c o,c≠d->H c=some o->H' c=some o):wH K C H' o d n no ts ao:=by
 obtain⟨dx,ln,lf,nn,ff,h⟩:=h
 exact⟨dx,ln,lf,nn,ff,e _ _ (fun z=>by have:=h.at_;rw[z,ha]at this;cases this) h.at_,qC ha e h.near,h.nlen,fun i a z=>dM ha e (h.ntup i a z),qC ha e h.far,h.Bs,fun i a z=>dM ha e (h.Br i a z)⟩
theorem vZ{as:List Addr}{i:Int}(h0:0<=i)(h1:i<(as.length:Int)):∃a,as[i.toNat]? =some a/\atI (as.map V.ref) i=some (.ref a):=by
 have hi:i.toNat<as.length:=by omega
 refine⟨as[i.toNat],jQ hi,?_⟩
 have z:atI (as.map V.ref) ((i.toNat:Nat):Int)=some (.ref as[i.toNat]):=atI_nat (by rw[dH,jQ hi];rfl)
 rwa [show((i.toNat:Nat):Int)=i by omega]at z
def m5(K:W.Frag):Sp:=fun vs H Q _=>∃(b:Addr) (k:NK.SK),vs=[.ref b]/\DV K H (.ref b) (NK.toD k)/\k.length<=10/\∀H',Same H H'->Q (.bl (k.all fun p=> !p.2.isEmpty)) H'
theorem zZ:FnScope ["state"] ["state"] (defScope Cd):=fsc
theorem Aw{f:Addr}{fd:FuncData}(F:Fun K "are_left_open" "are_left_open" Cd f fd)(cC:mg "all"=none)(bh:mg "len"=none):
  FnOk P w K mg base CX0 1 f fd ["state"] (m5 K):=by
 refine F.ok zZ (fun vs H Q E h=> ?_) (fun cdv A outer s H vs Q E hr h=> ?_)
 ·obtain⟨b,k,rfl,_⟩:=h
  rfl
 obtain⟨b,k,rfl,hk,hl,qq⟩:=h
 refine⟨_,(aW (bY (cG (zF rfl) rfl cC (by decide+kernel) (ak (mU (own:=["place","images"]) (caps:=[]) (ix:=[]) rfl (tW (pv 0)) rfl rfl .nil (fun _ _ _ _ _=>(gk K (n:=2) rfl (tO (cF (i:=0) (show(["place","images"]:List Str).Nodup from by decide+kernel) rfl (Or.inl rfl)) (tO (cF (i:=1) (show(["place","images"]:List Str).Nodup from by decide+kernel) rfl (Or.inl rfl)) pgs_nil)))) (fun _ _ _ _ _=>qe) (fun _ _ _ _ _=>(pe_cmpR op_gt (cG (ig K) rfl bh rM (ak (pv 1) aq)) aK (nomark _)))) aq)))),?_⟩
 obtain⟨its,h1,h2⟩:=qw hk
 have hlen:=Paired.vG h2
 refine⟨_,rfl,b,_,rfl,h1,fun hz=> ?_⟩
 refine yH (xs:=its.map fun i=>V.ref i.1) (fun i acc σ H'=>acc=((k.take i).map fun p=> !p.2.isEmpty).map V.bl/\H'=H/\∃o1 o2,σ=[o1,o2]) ⟨rfl,rfl,_,_,rfl⟩ (fun i acc σ H' _ p=>by rw[p.2.1];exact h1) (fun i acc σ H' hi p=>by rw[p.1,aQ,aQ,zL];exact Ds _ _) hz (fun i x acc σ H' hx p=> ?_) (fun acc σ H' p=> ?_)
 ·obtain⟨rfl,rfl,o1,o2,rfl⟩:=p
  rw[dH]at hx
  cases ex:its[i]? with
  |none=>rw[ex]at hx;cases hx
  |some y=>
   rw[ex]at hx
   cases hx
   obtain⟨p,hp,r1,r2⟩:=Paired.at_ h2 ex
   refine⟨y.1,_,rfl,r1,rfl,_,_,rfl,_,_,rfl,rfl,?_⟩
   refine⟨_,rfl,y.2,_,rfl,.inr r2,fun _=> ?_⟩
   refine⟨_,_,rfl,rfl,?_,rfl,_,_,rfl⟩
   have eb:decide ((0:Int)<(((p.2.map V.int).length:Nat):Int))= !p.2.isEmpty:=by
    rw[aQ]
    cases p.2 with
    |nil=>rfl
    |cons z zs=>exact cH (by simp only[mX];omega)
   show _++[V.bl (decide ((0:Int)<(((p.2.map V.int).length:Nat):Int)))]=_
   rw[eb,ql,hp,bV,bV];rfl
 ·intro p1 hp1
  obtain⟨rfl,rfl,_⟩:=p
  rw[aQ,hlen,oO]
  refine⟨p1,_,rfl,SqL.of aL,?_⟩
  have e:(k.map fun p=> !p.2.isEmpty).all id=k.all fun p=> !p.2.isEmpty:=by rw[GJ];rfl
  rw[e]
  exact qq _ (aY hp1 _)
def qL(K:W.Frag):Sp:=fun vs H Q _=>∃(p q:Addr) (i:Int) (l:List Int),vs=[.ref p]/\SqT K H p [.int i,.ref q]/\SqT K H q (l.map V.int)/\Q (.int (l.length:Int)) H
theorem zY:FnScope ["open_place"] ["open_place"] (defScope Ca):=fsc
theorem Av{f:Addr}{fd:FuncData}(F:Fun K "count_images" "count_images" Ca f fd)(bh:mg "len"=none):
  FnOk P w K mg base CX0 1 f fd ["open_place"] (qL K):=by
 refine F.ok zY (fun vs H Q E h=> ?_) (fun cdv A outer s H vs Q E hr h=> ?_)
 ·obtain⟨p,q,i,l,rfl,_⟩:=h
  rfl
 obtain⟨p,q,i,l,rfl,hp,hq,qq⟩:=h
 refine⟨_,(aW (bY (cG tX rfl bh rM (ak (bR dZ (pv 0) aK (fun _ _=>rfl)) aq)))),?_⟩
 refine⟨_,rfl,p,_,_,.ref q,rfl,rfl,hp,rfl,q,_,rfl,.inr hq,fun _=> ?_⟩
 rw[aQ]
 exact qq
def uE(K:W.Frag)(C:Addr):Sp:=fun vs H Q _=>∃(o d q:Addr) (n no img:Int) (ts ao:List (Int×Int)) (l:List Int),vs=[.ref o,.ref q,.int img]/\wH K C H o d n no ts ao/\SqT K H q (l.map V.int)/\0<=img/\img<no/\(∀y∈l,0<=y/\y<no)/\
 ∀r H',Same H H'->H' r=some (.tup ((l.filter fun y=>aj ao img y).map V.int))->Q (.ref r) H'
theorem wZ:FnScope ["self","images","image"] ["self","images","image"] (defScope Gs):=fsc
theorem xO{f C:Addr}{fd:FuncData}(F:Fun K "images_left" "Search.images_left" Gs f fd)
  (Cc:Cls K C)(bJ:NoAttr K C "near")(cg:NoAttr K C "far")(au:NoAttr K C "led_nowhere")(aJ:mg "tuple"=none):
  FnOk P w K mg base CX0 1 f fd ["self","images","image"] (uE K C):=by
 refine F.ok wZ (fun vs H Q E h=> ?_) (fun cdv A outer s H vs Q E hr h=> ?_)
 ·obtain⟨o,d,q,n,no,img,ts,ao,l,rfl,_⟩:=h
  rfl
 obtain⟨o,d,q,n,no,img,ts,ao,l,rfl,⟨dx,ln,lf,nn,ff,hS⟩,hq,i0,i1,hl,qq⟩:=h
 refine⟨_,(aW (bY (tZ uc rfl aJ (by decide+kernel) (ak (mU (own:=["other"]) (caps:=["self","image"]) (ix:=[0,2]) rfl (tW (pv 1)) rfl rfl (.cons rfl rfl (.cons rfl rfl .nil)) (fun _ _ _ _ _=>(cF (i:=0) (show(["other","self","image"]:List Str).Nodup from by decide+kernel) rfl (Or.inl rfl))) (fun _ _ _ _ _=>gb (iU (xJ K hr.units) (pv 0) (bR (vI K) (xu K (pv 1) rfl) (pv 2) (fun _ _=>rfl)) (by with_unfolding_all rfl))) (fun _ _ _ _ _=>(pv 0))) aq)))),?_⟩
 have fl:=hS.Bs
 obtain⟨fa,f1,f2⟩:=vZ i0 (show img<(ff.length:Int) by omega)
 have ft:=hS.Br _ _ f1
 rw[show((img.toNat:Nat):Int)=img by omega]at ft
 refine⟨_,rfl,q,_,rfl,hq,fun hz=> ?_⟩
 refine yH (xs:=l.map V.int) (fun i acc σ H'=>acc=((l.take i).filter fun y=>aj ao img y).map V.int/\H'=H/\∃o1,σ=[o1,some (.ref o),some (.int img)]) ⟨rfl,rfl,_,rfl⟩ (fun i acc σ H' _ p=>by rw[p.2.1];exact hq) (fun i acc σ H' hi p=> ?_) hz (fun i x acc σ H' hx p=> ?_) (fun acc σ H' p=> ?_)
 ·rw[p.1,aQ]
  exact cP (yO _ _) (by rw[zL];exact Ds _ _)
 ·obtain⟨rfl,rfl,o1,rfl⟩:=p
  rw[dH]at hx
  cases ex:l[i]? with
  |none=>rw[ex]at hx;cases hx
  |some y=>
   rw[ex]at hx
   cases hx
   have hy:=hl y (tR ex)
   refine⟨_,rfl,_,rfl,o,C,dx,_,_,rfl,hS.at_,Cc,cg,rfl,_,rfl,lf,_,_,.ref fa,rfl,rfl,hS.far,f2,fa,_,_,.int y,rfl,.inr ft,bH.ints _,.int _,lay_ints _,rfl,(by show 0<=60;decide),_,rfl,?_⟩
   have em:((cL no ao img).map PyData.int).any (fun d=>PyData.eqv d (.int y))=aj ao img y:=by
    rw[any_ints,mY,wU,kJ]
    exact⟨fun z=>z.2,fun z=>⟨hy,z⟩⟩
   rw[em]
   have go:(l.take (i+1)).filter (fun y=>aj ao img y)=(l.take i).filter (fun y=>aj ao img y)++(if aj ao img y=true then[y]else[]):=by
    rw[ql,ex,Cm]
    congr 1
    show List.filter _ [y]=_
    rw[yK];rfl
   refine ite2 (fun c=> ?_) (fun c=> ?_)
   ·exact⟨_,rfl,by rw[go,aN c,bV];rfl,rfl,_,rfl⟩
   ·exact⟨by rw[go,aP c,mW],rfl,_,rfl⟩
 ·intro p1 hp1
  obtain⟨rfl,rfl,_⟩:=p
  rw[aQ,oO]
  refine⟨p1,_,rfl,.inl ⟨SqL.of aL,fun r hr'=> ?_⟩⟩
  exact qq r _ ((aY hp1 _).trans (aY hr' _)) aL
theorem vY{T U:Int->Int->Bool}{k:NK.SK}{l img:Int}{i:Nat}{p:Int×List Int}(h:k[i]? =some p):Sw.iG T U (k.take (i+1)) l img=Sw.iG T U (k.take i) l img++(if T l p.1=true then[(p.1,p.2.filter fun y=>U img y)]else if p.1=l then[]else[p]):=by
 unfold Sw.iG
 rw[ql,h,List.filterMap_append]
 congr 1
 show List.filterMap _ [p]=_
 rw[Dv]
 by_cases c:T l p.1=true
 ·rw[aN c,aN c];rfl
 ·rw[aP c,aP c]
  by_cases c2:p.1=l
  ·rw[aN c2,aN c2];rfl
  ·rw[aP c2,aP c2];rfl
def ji(K:W.Frag)(C:Addr):Sp:=fun vs H Q _=>∃(o d b:Addr) (n no l img:Int) (ts ao:List (Int×Int)) (k:NK.SK),vs=[.ref o,.ref b,.int l,.int img]/\wH K C H o d n no ts ao/\DV K H (.ref b) (NK.toD k)/\k.length<=10/\(0<=l/\l<n)/\(0<=img/\img<no)/\Sw.CW n no k/\
 ∀r H',Same H H'->DV K H' (.ref r) (NK.toD (Sw.iG (aj ts) (aj ao) k l img))->Q (.ref r) H'
theorem iW:FnScope ["self","state","led","image","rest","place","images"] ["self","state","led","image"] (defScope Ce):=fsc
theorem xP{f f1 C:Addr}{fd d1:FuncData}(F:Fun K "state_behind" "Search.state_behind" Ce f fd)
  (Cc:Cls K C)(bJ:NoAttr K C "near")(cg:NoAttr K C "far")(au:NoAttr K C "led_nowhere")(D1:tK K C "images_left" "Search.images_left" Gs ["self","images","image"] f1 d1)(G1:FnOk P w K mg base CX0 1 f1 d1 ["self","images","image"] (uE K C))(aJ:mg "tuple"=none):
  FnOk P w K mg base CX0 2 f fd ["self","state","led","image"] (ji K C):=by
 refine F.ok iW (fun vs H Q E h=> ?_) (fun cdv A outer s H vs Q E hr h=> ?_)
 ·obtain⟨o,d,b,n,no,l,img,ts,ao,k,rfl,_⟩:=h
  rfl
 obtain⟨o,d,b,n,no,l,img,ts,ao,k,rfl,Fi,hk,NZ,hl,hi,hO,qq⟩:=h
 refine⟨_,(aZ (dF (i:=4) iW.nd rfl (Or.inl rfl) (pe_lst aq)) (aZ (oN oV rfl (tW (pv 1)) (pg_tup rfl (tO (cF (i:=5) iW.nd rfl (Or.inl rfl)) (tO (cF (i:=6) iW.nd rfl (Or.inl rfl)) pgs_nil))) (aW (fM (iU (lO hr.units) (pv 5) (bR qd (pe_fld (pv 0) rfl) (pv 2) (fun _ _=>rfl)) (by with_unfolding_all rfl)) (aW (rJ (pe_bm zR CG Cz BL (pv 4) (ak (jM (ak (pv 5) (ak (pe_meth (pv 0) Cc D1.m G1 hr D1.b .nil pass0 (ak (pv 6) (ak (pv 3) aq))) aq))) aq)))) (aW (fM (iU op_ne (pv 5) (pv 2) (nomark _)) (aW (rJ (pe_bm zR CG Cz BL (pv 4) (ak (jM (ak (pv 5) (ak (pv 6) aq))) aq)))) gM))))) (aW (bY (tZ uc rfl aJ (by decide+kernel) (ak (pv 4) aq)))))),?_⟩
 obtain⟨its,h1,h2⟩:=qw hk
 have hlen:=Paired.vG h2
 refine⟨(by show 0<=sizeLine;decide),fun rl hrl=> ?_⟩
 have s1:=aY hrl (.lst [])
 have e1:(upd H rl (.lst [])) rl=some (.lst []):=aL
 generalize (upd H rl (.lst []))=H1 at *
 refine⟨_,rfl,b,_,rfl,s1.tup h1,fun hz=> ?_⟩
 refine for_tup (K:=K) (a:=b) (xs:=its.map fun i=>V.ref i.1) (fun i σ H'=>∃(its':List (Addr×Addr)) (o5 o6:Option V),σ=[some (.ref o),some (.ref b),some (.int l),some (.int img),some (.ref rl),o5,o6]/\Same H H'/\H' rl=some (.lst (its'.map fun i=>V.ref i.1))/\v8 K H' its' (Sw.iG (aj ts) (aj ao) (k.take i) l img)/\its'.length<=i)
  ⟨[],_,_,rfl,s1,e1,.nil,bD _⟩ (fun i σ H' _ p=> ?_) (fun i x σ H' hx p=> ?_) (fun σ H' p=> ?_)
 ·obtain⟨_,_,_,_,xx,_⟩:=p
  exact xx.tup h1
 ·obtain⟨its',o5,o6,rfl,xx,er,hst,hil⟩:=p
  rw[dH]at hx
  cases ex:its[i]? with
  |none=>rw[ex]at hx;cases hx
  |some y=>
   rw[ex]at hx
   cases hx
   obtain⟨p,hp,r1,r2⟩:=Paired.at_ h2 ex
   have JX:i<its.length:=(yP.mp ex).1
   have pm:=tR hp
   have pl:=hO.pl p pm
   have r1':=xx.tup r1
   have r2':=xx.tup r2
   have hS':=Fi.same xx
   obtain⟨dx,ln,lf,nn,ff,hS⟩:=id hS'
   have nl:=hS.nlen
   obtain⟨na,f1,f2⟩:=vZ hl.1 (show l<(nn.length:Int) by omega)
   have nt:=hS.ntup _ _ f1
   rw[show((l.toNat:Nat):Int)=l by omega]at nt
   have szl:its'.length<sizeLine:=by rw[eF];omega
   have step:=vY (T:=aj ts) (U:=aj ao) (l:=l) (img:=img) hp
   refine⟨y.1,_,rfl,r1',rfl,_,_,rfl,_,_,rfl,rfl,?_⟩
   refine⟨_,rfl,_,rfl,o,C,dx,_,_,rfl,hS.at_,Cc,bJ,rfl,_,rfl,ln,_,_,.ref na,rfl,rfl,hS.near,f2,na,_,_,.int p.1,rfl,.inr nt,bH.ints _,.int _,lay_ints _,rfl,(by show 0<=60;decide),_,rfl,?_⟩
   have em:((cL n ts l).map PyData.int).any (fun d=>PyData.eqv d (.int p.1))=aj ts l p.1:=by
    rw[any_ints,mY,wU,kJ]
    exact⟨fun z=>z.2,fun z=>⟨pl,z⟩⟩
   rw[em]
   refine ite2 (fun c=> ?_) (fun c=> ?_)
   ·rw[aN c]at step
    refine⟨_,rfl,.inl ⟨rfl,_,SqL.of er⟩,_,rfl,_,rfl,o,dx,_,rfl,hS.at_,rfl,_,rfl,_,rfl,o,d,y.2,n,no,img,ts,ao,p.2,rfl,hS',r2',hi.1,hi.2,(hO.im p pm).1,fun r H2 s2 e2=>⟨(by show 2<=sizeLine;decide),fun pn hpn=> ?_⟩⟩
    have s3:=aY hpn (.tup [.int p.1,.ref r])
    have yp:=s3 _ _ (s2 _ _ er)
    refine⟨rl,_,_,rfl,rfl,yp,(by rw[aQ];exact szl),?_⟩
    have x4:aB rl (upd H2 pn (.tup [.int p.1,.ref r])) (upd (upd H2 pn (.tup [.int p.1,.ref r])) rl (.lst (its'.map (fun i=>V.ref i.1)++[.ref pn]))):=(aB.refl _ _).upd
    refine⟨its'++[(pn,r)],_,_,rfl,fun c q z=>x4 c q (jP z hrl) (s3 _ _ (s2 _ _ (xx _ _ z))),by rw[bV];exact aL,?_,by rw[gO];show its'.length+1<=i+1;omega⟩
    rw[step]
    have t1:SqT K (upd H2 pn (.tup [.int p.1,.ref r])) pn [.int p.1,.ref r]:=SqT.of aL
    have t2:SqT K (upd H2 pn (.tup [.int p.1,.ref r])) r ((p.2.filter fun y=>aj ao img y).map V.int):=s3.tup (SqT.of e2)
    exact Paired.snoc (((hst.same s2).same s3).bA x4 yp) ⟨x4.tup yp t1,x4.tup yp t2⟩
   ·rw[aP c]at step
    refine⟨_,rfl,_,rfl,rfl,_,rfl,?_⟩
    by_cases c2:p.1=l
    ·rw[aN c2]at step
     have eb:(!decide (V.int p.1=V.int l))=false:=by rw[c2,cH rfl];rfl
     rw[eb]
     refine iteF ?_
     exact⟨its',_,_,rfl,xx,er,by rw[step,mW];exact hst,by omega⟩
    ·rw[aP c2]at step
     have eb:(!decide (V.int p.1=V.int l))=true:=by rw[fQ fun z=>c2 (V.int.inj z)];rfl
     rw[eb]
     refine iteT ?_
     refine⟨_,rfl,.inl ⟨rfl,_,SqL.of er⟩,_,rfl,_,rfl,(by show 2<=sizeLine;decide),fun pn hpn=> ?_⟩
     have s3:=aY hpn (.tup [.int p.1,.ref y.2])
     have yp:=s3 _ _ er
     refine⟨rl,_,_,rfl,rfl,yp,(by rw[aQ];exact szl),?_⟩
     have x4:aB rl (upd H' pn (.tup [.int p.1,.ref y.2])) (upd (upd H' pn (.tup [.int p.1,.ref y.2])) rl (.lst (its'.map (fun i=>V.ref i.1)++[.ref pn]))):=(aB.refl _ _).upd
     refine⟨its'++[(pn,y.2)],_,_,rfl,fun c q z=>x4 c q (jP z hrl) (s3 _ _ (xx _ _ z)),by rw[bV];exact aL,?_,by rw[gO];show its'.length+1<=i+1;omega⟩
     rw[step]
     have t1:SqT K (upd H' pn (.tup [.int p.1,.ref y.2])) pn [.int p.1,.ref y.2]:=SqT.of aL
     exact Paired.snoc ((hst.same s3).bA x4 yp) ⟨x4.tup yp t1,x4.tup yp (s3.tup r2')⟩
 ·obtain⟨its',o5,o6,rfl,xx,er,hst,hil⟩:=p
  rw[aQ,hlen,oO]at hst
  refine⟨_,rfl,rl,_,rfl,.inl ⟨SqL.of er,fun r hr'=> ?_⟩⟩
  have s5:=aY hr' (.tup (its'.map fun i=>V.ref i.1))
  exact qq r _ (xx.trans s5) (zj (SqT.of aL) (hst.same s5))
theorem oW{H H':Hp}{a b C dx:Addr}{fs:List (Str×V)}{xs:List V}(ha:H a=some (.ins C dx fs))(e:∀c o,c≠a->H c=some o->H' c=some o)(h:SqT K H b xs):SqT K H' b xs:=by
 rcases h with(q|⟨o,q⟩)|q
 ·exact .inl (.inl (e _ _ (fun z=>by rw[z,ha]at q;cases q) q))
 ·exact .inl (.inr ⟨o,e _ _ (fun z=>by rw[z,ha]at q;cases q) q⟩)
 ·exact .inr q
theorem Bt{H H':Hp}{a C dx:Addr}{fs:List (Str×V)}(ha:H a=some (.ins C dx fs))(e:∀c o,c≠a->H c=some o->H' c=some o){xs:List V}{ds:List PyData}(h:bH K H xs ds)(hn:NK.bZ ds=true):bH K H' xs ds:=
 bH.rec (motive_1:=fun x d _=>NK.nG d=true->DV K H' x d) (motive_2:=fun xs ds _=>NK.bZ ds=true->bH K H' xs ds)
  (fun _=> .non) (fun b _=> .bl b) (fun i _=> .int i) (fun x _=> .str x) (fun h _ t hn=> .tup (oW ha e h) (t hn)) (fun _ _ _ hn=>by cases hn) (fun _ hn=>by cases hn) (fun _ _ hn=>by cases hn) (fun _=> .nil)
  (fun _ _ i1 i2 hn=>by
   have hn':(NK.nG _&&NK.bZ _)=true:=hn
   rw[fL]at hn'
   exact .cons (i1 hn'.1) (i2 hn'.2)) h hn
theorem kh:∀ts:List (Int×Int),NK.bZ (ts.map pairD)=true
 |[]=>rfl
 |p::ts=>by show(true&&NK.bZ (ts.map pairD))=true;rw[kh ts];rfl
theorem zO{H H':Hp}{a b C dx:Addr}{fs:List (Str×V)}{n:Int}{ts:List (Int×Int)}(ha:H a=some (.ins C dx fs))(e:∀c o,c≠a->H c=some o->H' c=some o)(h:aO K H b n ts):aO K H' b n ts:=by
 obtain⟨⟨t,rs,h1,h2,h3⟩,x0,x1,x2,x3⟩:=h
 exact⟨⟨t,rs,oW ha e h1,oW ha e h2,Bt ha e h3 (kh ts)⟩,x0,x1,x2,x3⟩
def oX(K:W.Frag)(C:Addr):Sp:=fun vs H Q _=>∃(o dx a b:Addr) (n no:Int) (ts ao:List (Int×Int)),vs=[.ref o,.ref a,.ref b]/\H o=some (.ins C dx [])/\aO K H a n ts/\aO K H b no ao/\
 ∀d H',(∀c q,c≠o->H c=some q->H' c=some q)->wH K C H' o d n no ts ao->DN K H' d []->H d=none->Q .non H'
theorem wY:FnScope ["self","web","other"] ["self","web","other"] (defScope Gh):=fsc
theorem xM{f f1 C:Addr}{fd d1:FuncData}(F:Fun K "__init__" "Search.__init__" Gh f fd)
  (Cc:Cls K C)(bJ:NoAttr K C "near")(cg:NoAttr K C "far")(au:NoAttr K C "led_nowhere")(D1:bU K mg "neighbours" Gg ["web","place"] f1 d1)(G1:FnOk P w K mg base CX0 8 f1 d1 ["web","place"] (qG K))(aA:mg "range"=none):
  FnOk P w K mg base CX0 9 f fd ["self","web","other"] (oX K C):=by
 refine F.ok wY (fun vs H Q E h=> ?_) (fun cdv A outer s H vs Q E hr h=> ?_)
 ·obtain⟨o,dx,a,b,n,no,ts,ao,rfl,_⟩:=h
  rfl
 obtain⟨o,dx,a,b,n,no,ts,ao,rfl,Kc,hA,hB,qq⟩:=h
 refine⟨_,(aZ (ps_fld (pv 0) (mU (own:=["place"]) (caps:=["web"]) (ix:=[1]) rfl (rK rfl aA (ak (bR dZ (pv 1) aK (fun _ _=>rfl)) aq)) rfl rfl (.cons rfl rfl .nil) (fun _ _ _ _ _=>(cF (i:=0) (show(["place","web"]:List Str).Nodup from by decide+kernel) rfl (Or.inl rfl))) (fun _ _ _ _ _=>qe) (fun _ _ _ _ _=>(pc G1 hr D1 (ak (pv 1) (ak (pv 0) aq))))) rfl) (aZ (ps_fld (pv 0) (mU (own:=["place"]) (caps:=["other"]) (ix:=[2]) rfl (rK rfl aA (ak (bR dZ (pv 2) aK (fun _ _=>rfl)) aq)) rfl rfl (.cons rfl rfl .nil) (fun _ _ _ _ _=>(cF (i:=0) (show(["place","other"]:List Str).Nodup from by decide+kernel) rfl (Or.inl rfl))) (fun _ _ _ _ _=>qe) (fun _ _ _ _ _=>(pc G1 hr D1 (ak (pv 1) (ak (pv 0) aq))))) rfl) (aW (ps_fld (pv 0) uX rfl)))),?_⟩
 have JC:∀c q,c≠o->H c=some q->H c=some q:=fun c q _ z=>z
 generalize hG:H=G1 at JC Kc hA hB⊢
 have JC:∀c q,c≠o->H c=some q->G1 c=some q:=fun c q _ z=>by rw[<-hG];exact z
 obtain⟨Jc,Jm,w1,_,_⟩:=id hA.web
 refine⟨_,rfl,a,_,_,.int n,rfl,rfl,w1,rfl,n,rfl,by have:=hA.h0;omega,by have:=hA.h1;omega,?_⟩
 refine yI (n:=n.toNat) (fun i acc σ H'=>∃as:List Addr,acc=as.map V.ref/\as.length=i/\Same G1 H'/\(∀(j:Nat) x,as[j]? =some x->H' x=some (.tup ((cL n ts (j:Int)).map V.int)))/\∃o1,σ=[o1,some (.ref a)]) ⟨[],rfl,rfl,Same.refl _,(fun j x z=>by cases z),_,rfl⟩ (fun i acc σ H' hi p=> ?_) (by rw[eF];have:=hA.h1;omega) (fun i acc σ H' hi p=> ?_) (fun acc σ H' p=> ?_)
 ·obtain⟨as,rfl,hl,_⟩:=p
  rw[aQ];omega
 ·obtain⟨as,rfl,hl,sm,hh,o1,rfl⟩:=p
  have hW:=hA.same sm
  refine⟨_,rfl,_,rfl,a,n,0+(i:Int),ts,rfl,hW.web,hW.ok,⟨by omega,by omega⟩,hW.h1,fun r H2 s2 e2=> ?_⟩
  refine⟨as++[r],by rw[bV];rfl,by rw[gO,hl];rfl,sm.trans s2,fun j x z=> ?_,_,rfl⟩
  rw[Iz]at z
  by_cases c:j<as.length
  ·rw[aN c]at z
   exact s2 _ _ (hh j x z)
  ·rw[aP c]at z
   have ej:j=as.length:=by
    rcases Cg (j-as.length) 1 with q|q
    ·omega
    ·rw[IK (by show 1<=_;exact q)]at z;cases z
   rw[ej,GF]at z
   cases z
   rw[ej,hl,show((i:Nat):Int)=0+(i:Int) by omega]
   exact e2
 intro l1 hl1
 obtain⟨as1,rfl,len1,Ei,hh1,_⟩:=p
 have t1:=aY hl1 (.lst (as1.map V.ref))
 have el1:(upd H' l1 (.lst (as1.map V.ref))) l1=some (.lst (as1.map V.ref)):=aL
 generalize (upd H' l1 (.lst (as1.map V.ref)))=J1 at *
 have u1:=Ei.trans t1
 have O1:=u1 _ _ Kc
 refine⟨_,rfl,o,C,dx,_,rfl,O1,Cc,bJ,(by show 0<1000;decide),?_⟩
 rw[show putF "near" (V.ref l1) ([]:List (Str×V))=([("near",.ref l1)]:List (Str×V))from rfl]
 have k1:∀c q,c≠o->J1 c=some q->(upd J1 o (.ins C dx ([("near",.ref l1)]))) c=some q:=fun c q ne z=>by rw[dG ne];exact z
 have Fl:(upd J1 o (.ins C dx ([("near",.ref l1)]))) o=some (.ins C dx ([("near",.ref l1)])):=aL
 have Nu:∀c q,c≠o->H c=some q->(upd J1 o (.ins C dx ([("near",.ref l1)]))) c=some q:=fun c q ne z=>k1 c q ne (u1 _ _ (JC c q ne z))
 have Jv:l1≠o:=fun z=>by rw[z,O1]at el1;cases el1
 have at1:∀(j:Nat) x,as1[j]? =some x->(upd J1 o (.ins C dx ([("near",.ref l1)]))) x=some (.tup ((cL n ts (j:Int)).map V.int)):=fun j x z=>by
  have e:=t1 _ _ (hh1 j x z)
  exact k1 _ _ (fun q=>by rw[q,O1]at e;cases e) e
 have Nq:=k1 _ _ Jv el1
 have hB2:=zO O1 k1 (hB.same u1)
 generalize (upd J1 o (.ins C dx ([("near",.ref l1)])))=G2 at *
 obtain⟨Hq,Hv,w2,_,_⟩:=id hB2.web
 refine⟨_,rfl,b,_,_,.int no,rfl,rfl,w2,rfl,no,rfl,by have:=hB2.h0;omega,by have:=hB2.h1;omega,?_⟩
 refine yI (n:=no.toNat) (fun i acc σ H'=>∃as:List Addr,acc=as.map V.ref/\as.length=i/\Same G2 H'/\(∀(j:Nat) x,as[j]? =some x->H' x=some (.tup ((cL no ao (j:Int)).map V.int)))/\∃o1,σ=[o1,some (.ref b)]) ⟨[],rfl,rfl,Same.refl _,(fun j x z=>by cases z),_,rfl⟩ (fun i acc σ H' hi p=> ?_) (by rw[eF];have:=hB2.h1;omega) (fun i acc σ H' hi p=> ?_) (fun acc σ H' p=> ?_)
 ·obtain⟨as,rfl,hl,_⟩:=p
  rw[aQ];omega
 ·obtain⟨as,rfl,hl,sm,hh,o1,rfl⟩:=p
  have hW:=hB2.same sm
  refine⟨_,rfl,_,rfl,b,no,0+(i:Int),ao,rfl,hW.web,hW.ok,⟨by omega,by omega⟩,hW.h1,fun r H2 s2 e2=> ?_⟩
  refine⟨as++[r],by rw[bV];rfl,by rw[gO,hl];rfl,sm.trans s2,fun j x z=> ?_,_,rfl⟩
  rw[Iz]at z
  by_cases c:j<as.length
  ·rw[aN c]at z
   exact s2 _ _ (hh j x z)
  ·rw[aP c]at z
   have ej:j=as.length:=by
    rcases Cg (j-as.length) 1 with q|q
    ·omega
    ·rw[IK (by show 1<=_;exact q)]at z;cases z
   rw[ej,GF]at z
   cases z
   rw[ej,hl,show((i:Nat):Int)=0+(i:Int) by omega]
   exact e2
 intro l2 hl2
 obtain⟨as2,rfl,len2,Eh,N6,_⟩:=p
 have t2:=aY hl2 (.lst (as2.map V.ref))
 have el2:(upd H' l2 (.lst (as2.map V.ref))) l2=some (.lst (as2.map V.ref)):=aL
 generalize (upd H' l2 (.lst (as2.map V.ref)))=J2 at *
 have u2:=Eh.trans t2
 have O2:=u2 _ _ Fl
 refine⟨_,rfl,o,C,dx,_,rfl,O2,Cc,cg,(by show 1<1000;decide),?_⟩
 rw[show putF "far" (V.ref l2) ([("near",.ref l1)]:List (Str×V))=([("near",.ref l1),("far",.ref l2)]:List (Str×V))from rfl]
 have k2:∀c q,c≠o->J2 c=some q->(upd J2 o (.ins C dx ([("near",.ref l1),("far",.ref l2)]))) c=some q:=fun c q ne z=>by rw[dG ne];exact z
 have HB:(upd J2 o (.ins C dx ([("near",.ref l1),("far",.ref l2)]))) o=some (.ins C dx ([("near",.ref l1),("far",.ref l2)])):=aL
 have Lk:∀c q,c≠o->H c=some q->(upd J2 o (.ins C dx ([("near",.ref l1),("far",.ref l2)]))) c=some q:=fun c q ne z=>k2 c q ne (u2 _ _ (Nu c q ne z))
 have Li:l2≠o:=fun z=>by rw[z,O2]at el2;cases el2
 have at2:∀(j:Nat) x,as2[j]? =some x->(upd J2 o (.ins C dx ([("near",.ref l1),("far",.ref l2)]))) x=some (.tup ((cL no ao (j:Int)).map V.int)):=fun j x z=>by
  have e:=t2 _ _ (N6 j x z)
  exact k2 _ _ (fun q=>by rw[q,O2]at e;cases e) e
 have Np:=k2 _ _ Li el2
 have Nm:=k2 _ _ Jv (u2 _ _ Nq)
 have Px:∀(j:Nat) x,as1[j]? =some x->(upd J2 o (.ins C dx ([("near",.ref l1),("far",.ref l2)]))) x=some (.tup ((cL n ts (j:Int)).map V.int)):=fun j x z=>by
  have e:=u2 _ _ (at1 j x z)
  exact k2 _ _ (fun q=>by rw[q,O2]at e;cases e) e
 generalize (upd J2 o (.ins C dx ([("near",.ref l1),("far",.ref l2)])))=G3 at *
 intro d H4 s4 hd hN
 refine⟨_,rfl,o,C,dx,_,rfl,s4 _ _ HB,Cc,au,(by show 2<1000;decide),?_⟩
 rw[show putF "led_nowhere" (V.ref d) ([("near",.ref l1),("far",.ref l2)]:List (Str×V))=vN l1 l2 d from rfl]
 have O4:=s4 _ _ HB
 have k4:∀c q,c≠o->H4 c=some q->(upd H4 o (.ins C dx (vN l1 l2 d))) c=some q:=fun c q ne z=>by rw[dG ne];exact z
 have nd:d≠o:=fun z=>by rw[z,HB]at hd;cases hd
 have tu:∀x xs,G3 x=some (.tup xs)->SqT K (upd H4 o (.ins C dx (vN l1 l2 d))) x xs:=fun x xs e=>SqT.of (k4 _ _ (fun q=>by rw[q,HB]at e;cases e) (s4 _ _ e))
 have h0:=hA.h0
 have h0':=hB2.h0
 refine qq d (upd H4 o (.ins C dx (vN l1 l2 d))) (fun c q ne z=>k4 c q ne (s4 _ _ (Lk c q ne z))) ⟨dx,l1,l2,as1,as2,aL,SqL.of (k4 _ _ Jv (s4 _ _ Nm)),by omega,fun i x z=>tu _ _ (Px i x z),SqL.of (k4 _ _ Li (s4 _ _ Np)),by omega,fun i x z=>tu _ _ (at2 i x z)⟩ ?_ ?_
 ·obtain⟨xs,n1,n2,n3⟩:=hN
  have:xs=[]:=List.map_eq_nil_iff.mp n2
  subst this
  exact⟨[],k4 _ _ nd n1,rfl,fun x hx=>(nomatch hx)⟩
 ·cases e:H d with
  |none=>rfl
  |some q=>rw[Lk d q nd e]at hd;cases hd
abbrev yw(ts ao:List (Int×Int))(k:NK.SK):Prop:=∃g,Sw.tV (aj ts) (aj ao) k g
def Ks(K:W.Frag)(H:Hp)(l:Addr)(r:List (Int×Int)):Prop:=∃its:List (Addr×List Int),H l=some (.lst (its.map fun p=>V.ref p.1))/\(∀p∈its,SqT K H p.1 (p.2.map V.int))/\its.map (·.2)=r.map fun e=>[e.1,e.2]
def jF(ri:Bool)(c:Nat):Nat:=if ri=true then 0 else c
theorem lZ{ri:Bool}{a b:Nat}(h:a<=b):jF ri a<=jF ri b:=by unfold jF;split<;>omega
structure Ku(K:W.Frag)(C:Addr)(H:Hp)(o b d:Addr)(n no:Int)(ts ao:List (Int×Int))(ks:List NK.SK)(k:NK.SK)(ri:Bool):Prop where
 se:wH K C H o d n no ts ao
 dn:DN K H d ks
 un:∀j∈ks,¬yw ts ao j
 st:DV K H (.ref b) (NK.toD k)
 so:Sw.CW n no k
 ok:Sw.Ok (aj ts) (aj ao)
 n10:n<=10
 n1:k.length<=10
 ri:ri=true->Sw.yx (aj ao) no k
structure Dc(K:W.Frag)(H H':Hp)(d:Addr)(ts ao:List (Int×Int))(ks ks':List NK.SK)(c m:Nat):Prop where
 keep:∀x q,x≠d->H x=some q->H' x=some q
 dn:DN K H' d ks'
 un:∀j∈ks',¬yw ts ao j
 ln:ks'.length<=ks.length+c
 nw:∀j∈ks',j∈ks\/j.length<m
def Mj(K:W.Frag)(H:Hp)(ts ao:List (Int×Int))(k:NK.SK)(v:V):Prop:=(v= .non/\¬yw ts ao k)\/∃l r,v= .ref l/\Ks K H l r/\Sw.Res (aj ts) (aj ao) k r/\r.length<=10
def qF(K:W.Frag)(C:Addr)(m:Nat):Sp:=fun vs H Q _=>∃(o b d:Addr) (n no:Int) (ts ao:List (Int×Int)) (ks:List NK.SK) (k:NK.SK) (ri:Bool),vs=[.ref o,.ref b]/\Ku K C H o b d n no ts ao ks k ri/\k.length=m/\ks.length+jF ri (Sw.cst no.toNat m)<=16000000/\
 ∀v H' ks',Dc K H H' d ts ao ks ks' (jF ri (Sw.cst no.toNat m)) (m+1)->Mj K H' ts ao k v->Q v H'
def yW(K:W.Frag)(C:Addr):Nat->Sp
 |0=>fun _ _ _ _=>False
 |m+1=>fun vs H Q _=>∃(o b d:Addr) (n no:Int) (ts ao:List (Int×Int)) (ks:List NK.SK) (k:NK.SK) (ri:Bool),vs=[.ref o,.ref b]/\Ku K C H o b d n no ts ao ks k ri/\k.length=m+1/\ks.length+jF ri (no.toNat*Sw.cst no.toNat m)<=16000000/\
  ∀v H' ks',Dc K H H' d ts ao ks ks' (jF ri (no.toNat*Sw.cst no.toNat m)) (m+1)->Mj K H' ts ao k v->Q v H'
theorem DN.ext{H:Hp}{d:Addr}{ks:List NK.SK}(h:DN K H d ks):∃φ,H d=some (.ext φ):=by
 obtain⟨xs,h1,_⟩:=h
 exact⟨_,h1⟩
theorem lG:FnScope ["self","state","first","image","led"] ["self","state"] (defScope yJ):=fsc
theorem Al{f f1 f2 f3 C:Addr}{fd d1 d2 d3:FuncData}{m lv:Nat}(F:Fun K "lead_first" "Search.lead_first" yJ f fd)
  (Cc:Cls K C)(bJ:NoAttr K C "near")(cg:NoAttr K C "far")(au:NoAttr K C "led_nowhere")(D1:tK K C "lead" "Search.lead" wL ["self","state"] f1 d1)(G1:FnOk P w K mg base CX0 lv f1 d1 ["self","state"] (qF K C m))(D2:tK K C "state_behind" "Search.state_behind" Ce ["self","state","led","image"] f2 d2)(P0:FnOk P w K mg base CX0 2 f2 d2 ["self","state","led","image"] (ji K C))(D3:bU K mg "count_images" Ca ["open_place"] f3 d3)(G3:FnOk P w K mg base CX0 1 f3 d3 ["open_place"] (qL K))(eN:mg "min"=none)(CQ:2<=lv):
  FnOk P w K mg base CX0 (lv+1) f fd ["self","state"] (yW K C (m+1)):=by
 have G2:FnOk P w K mg base CX0 lv f2 d2 ["self","state","led","image"] (ji K C):=P0.mono CQ
 refine F.ok lG (fun vs H Q E h=> ?_) (fun cdv A outer s H vs Q E hr h=> ?_)
 ·obtain⟨o,b,d,n,no,ts,ao,ks,k,ri,rfl,_⟩:=h
  rfl
 obtain⟨o,b,d,n,no,ts,ao,ks,k,ri,rfl,hP,hm,hb,qq⟩:=h
 refine⟨_,(aZ (dF (i:=2) lG.nd rfl (Or.inl rfl) (xr G3 rfl (hr.mono CQ) rfl eN rfl D3.m D3.F.kp D3.b (ak (pv 1) aq))) (aZ (oN oV rfl (tW (bR dZ (pv 2) aK (fun _ _=>rfl))) (cF (i:=3) lG.nd rfl (Or.inl rfl)) (aZ (dF (i:=4) lG.nd rfl (Or.inl rfl) (pe_meth (pv 0) Cc D1.m G1 hr D1.b .nil pass0 (ak (pe_meth (pv 0) Cc D2.m G2 hr D2.b .nil pass0 (ak (pv 1) (ak (bR dZ (pv 2) aK (fun _ _=>rfl)) (ak (pv 3) aq)))) aq))) (aW (fM (iU op_notN (pv 4) pe_non (nomark _)) (aW (bY (bN op_cat (pv 4) (pe_lst (ak (jM (ak (bR dZ (pv 2) aK (fun _ _=>rfl)) (ak (pv 3) aq))) aq))))) gM)))) (aW (bY pe_non)))),?_⟩
 obtain⟨its,h1,h2⟩:=qw hP.st
 have hlen:=Paired.vG h2
 obtain⟨φ,hφ⟩:=DN.ext hP.dn
 refine⟨_,rfl,b,its.map (·.1),fun j=>((k.getD j (0,[])).2.length:Int),rfl,by rw[mV];exact h1,fun z=> ?_,fun j p hj=> ?_,fun i p hi _=> ?_⟩
 ·have:=was List.length z
  rw[aQ]at this
  simp at this
  rw[this]at hlen
  simp at hlen
  omega
 ·rw[dH]at hj
  cases ex:its[j]? with
  |none=>rw[ex]at hj;cases hj
  |some y=>
   rw[ex]at hj
   cases hj
   obtain⟨p,hp,r1,r2⟩:=Paired.at_ h2 ex
   refine⟨y.1,y.2,p.1,p.2,rfl,r1,r2,?_,rfl⟩
   show _=V.int ((k.getD j (0,[])).2.length:Int)
   rw[mJ,hp];rfl
 rw[dH]at hi
 cases ey:its[i]? with
 |none=>rw[ey]at hi;cases hi
 |some y=>
 rw[ey]at hi
 cases hi
 obtain⟨pp,hpp,r1,r2⟩:=Paired.at_ h2 ey
 have pm:=tR hpp
 have pl:=hP.so.pl pp pm
 obtain⟨Ng,Qf⟩:=hP.so.im pp pm
 refine⟨_,rfl,y.1,_,_,.ref y.2,rfl,rfl,r1,rfl,y.2,_,rfl,r2,fun hz=> ?_⟩
 refine for_tup (K:=K) (a:=y.2) (xs:=pp.2.map V.int) (fun i σ H'=>∃(ks':List NK.SK) (o3 o4:Option V),σ=[some (.ref o),some (.ref b),some (.ref y.1),o3,o4]/\Dc K H H' d ts ao ks ks' (jF ri (i*Sw.cst no.toNat m)) (m+1)/\(∀z∈pp.2.take i,¬yw ts ao (Sw.iG (aj ts) (aj ao) k pp.1 z))/\(ri=true->i=0))
  ⟨ks,_,_,rfl,⟨fun x q _ z=>z,hP.dn,hP.un,Du _ _,fun j hj=> .inl hj⟩,fun z hz=>(nomatch hz),fun _=>rfl⟩ (fun i σ H' _ p=> ?_) (fun i x σ H' hx p=> ?_) (fun σ H' p=> ?_)
 ·obtain⟨_,_,_,_,q,_⟩:=p
  exact dM hφ q.keep r2
 ·obtain⟨ks',o3,o4,rfl,LQ,hno,hri⟩:=p
  rw[dH]at hx
  cases ex:pp.2[i]? with
  |none=>rw[ex]at hx;cases hx
  |some z=>
   rw[ex]at hx
   cases hx
   have JX:i<pp.2.length:=(yP.mp ex).1
   have zm:=tR ex
   have zi:=Ng z zm
   have Fi:=hP.se.but hφ LQ.keep
   obtain⟨dx,ln,lf,nn,ff,hS⟩:=id Fi
   have r1':=dM hφ LQ.keep r1
   have st':=lU hφ LQ.keep hP.st (NK.toD_nst k)
   refine⟨_,rfl,o,dx,_,rfl,hS.at_,rfl,_,rfl,o,dx,_,rfl,hS.at_,rfl,_,rfl,_,rfl,y.1,_,_,.int pp.1,rfl,rfl,r1',rfl,_,rfl,o,d,b,n,no,pp.1,z,ts,ao,k,rfl,Fi,st',hP.n1,pl,zi,hP.so,fun rb H2 s2 db=> ?_⟩
   have Hw:(pp.1,pp.2)∈k:=pm
   have bl:=Sw.mj (img:=z) hP.ok hP.so.nd Hw
   have LP:Ku K C H2 o rb d n no ts ao ks' (Sw.iG (aj ts) (aj ao) k pp.1 z) ri:=⟨Fi.same s2,LQ.dn.same s2,LQ.un,db,hP.so.iG hP.ok,hP.ok,hP.n10,by have:=hP.n1;omega,fun r=>Sw.m7 hP.ok hP.so.nd Hw zm (hP.ri r)⟩
   have bb:ks'.length+jF ri (Sw.cst no.toNat m)<=16000000/\jF ri (i*Sw.cst no.toNat m)+jF ri (Sw.cst no.toNat m)=jF ri ((i+1)*Sw.cst no.toNat m):=by
    have l1:=LQ.ln
    unfold jF at *
    split
    ·rename_i c
     rw[aN c]at l1 hb
     exact⟨by omega,rfl⟩
    ·rename_i c
     rw[aP c]at l1 hb
     have:(i+1)*Sw.cst no.toNat m<=no.toNat*Sw.cst no.toNat m:=Iw _ (by omega)
     rw[Nat.succ_mul]at this⊢
     exact⟨by omega,by omega⟩
   refine⟨o,rb,d,n,no,ts,ao,ks',_,ri,rfl,LP,by omega,bb.1,fun v H3 vH yD RS=> ?_⟩
   have BJ:Dc K H H3 d ts ao ks vH (jF ri ((i+1)*Sw.cst no.toNat m)) (m+1):=by
    refine⟨fun x q ne e=>yD.keep x q ne (s2 _ _ (LQ.keep x q ne e)),yD.dn,yD.un,?_,fun j hj=> ?_⟩
    ·have a1:=LQ.ln
     have a2:=yD.ln
     have a3:=bb.2
     omega
    ·rcases yD.nw j hj with q|q
     ·exact LQ.nw j q
     ·exact .inr q
   refine⟨_,rfl,rfl,_,rfl,?_⟩
   rcases RS with⟨rfl,wD⟩|⟨l,r,rfl,⟨jts,j1,j2,j3⟩,hres,rl⟩
   ·have eb:(!decide (V.non=V.non))=false:=rfl
    rw[eb]
    refine iteF ?_
    refine⟨vH,_,_,rfl,BJ,fun x hx=> ?_,fun r=> ?_⟩
    ·rw[ql,ex]at hx
     rcases jX.mp hx with q|q
     ·exact hno x q
     ·have:x=z:=by simpa using q
      rw[this];exact wD
    ·exact absurd (Sw.fZ hP.ok _ rfl (Sw.pR hP.ok hP.so.nd) (LP.ri r)) wD
   ·have eb:(!decide (V.ref l=V.non))=true:=by rw[fQ (fun z=>by cases z)];rfl
    rw[eb]
    refine iteT ?_
    have Jp:=dM hφ BJ.keep r1
    refine⟨_,rfl,_,rfl,y.1,_,_,.int pp.1,rfl,rfl,Jp,rfl,_,rfl,(by show 2<=sizeLine;decide),fun pt hpt=>⟨(by show 1<=sizeLine;decide),fun Nf hpl=> ?_⟩⟩
    have g1:=aY hpt (.tup [.int pp.1,.int z])
    have g2:=aY hpl (.lst [.ref pt])
    have Km:(upd H3 pt (.tup [.int pp.1,.int z])) pt=some (.tup [.int pp.1,.int z]):=aL
    have Bd:(r++[(pp.1,z)]).length<=10:=by
     have hh:=(Sw.uU hP.ok hP.so.nd Hw zm hres).1.length_eq
     rw[aQ,aQ]at hh
     rw[hh];exact hP.n1
    have jl:jts.length=r.length:=by have:=was List.length j3;rwa [aQ,aQ]at this
    refine⟨l,Nf,_,_,rfl,rfl,g2 _ _ (g1 _ _ j1),aL,by rw[aQ,jl,eF];rw[gO]at Bd;show r.length+1<=_;have:r.length+1<=10:=Bd;omega,fun pr hpr=> ?_⟩
    have g3:=aY hpr (.lst (jts.map (fun p=>V.ref p.1)++[.ref pt]))
    have g:=g1.trans (g2.trans g3)
    refine qq _ _ vH ⟨fun x q ne e=>g _ _ (BJ.keep x q ne e),BJ.dn.same g,BJ.un,cP BJ.ln (Ip (lZ (Iw _ (by omega))) _),BJ.nw⟩ (.inr ⟨pr,r++[(pp.1,z)],rfl,⟨jts++[(pt,[pp.1,z])],by rw[bV];exact aL,fun q hq=> ?_,by rw[bV,bV,j3];rfl⟩,Sw.uU hP.ok hP.so.nd Hw zm hres,Bd⟩)
    rcases jX.mp hq with w'|w'
    ·exact g.tup (j2 q w')
    ·rw[lg.mp w']
     exact(g2.trans g3).tup (SqT.of Km)
 ·obtain⟨ks',o3,o4,rfl,LQ,hno,hri⟩:=p
  rw[aQ]at LQ hri
  rw[aQ,oO]at hno
  refine qq _ _ ks' ⟨LQ.keep,LQ.dn,LQ.un,cP LQ.ln (Ip (lZ (Iw _ (by omega))) _),LQ.nw⟩ (.inl ⟨rfl,Sw.zU hP.ok (show(pp.1,pp.2)∈k from pm) hno⟩)
theorem uO:FnScope ["self","state","led"] ["self","state"] (defScope wL):=fsc
theorem u9{f f1 f2 C:Addr}{fd d1 d2:FuncData}{m lv:Nat}(F:Fun K "lead" "Search.lead" wL f fd)
  (Cc:Cls K C)(bJ:NoAttr K C "near")(cg:NoAttr K C "far")(au:NoAttr K C "led_nowhere")(D1:bU K mg "are_left_open" Cd ["state"] f1 d1)(Kw:FnOk P w K mg base CX0 1 f1 d1 ["state"] (m5 K))(D2:tK K C "lead_first" "Search.lead_first" yJ ["self","state"] f2 d2)(G2:FnOk P w K mg base CX0 lv f2 d2 ["self","state"] (yW K C m))(CQ:1<=lv):
  FnOk P w K mg base CX0 (lv+1) f fd ["self","state"] (qF K C m):=by
 have G1:FnOk P w K mg base CX0 lv f1 d1 ["state"] (m5 K):=Kw.mono CQ
 refine F.ok uO (fun vs H Q E h=> ?_) (fun cdv A outer s H vs Q E hr h=> ?_)
 ·obtain⟨o,b,d,n,no,ts,ao,ks,k,ri,rfl,_⟩:=h
  rfl
 obtain⟨o,b,d,n,no,ts,ao,ks,k,ri,rfl,hP,hm,hb,qq⟩:=h
 refine⟨_,(aZ (fM (mQ (pt_truth (pv 1) (fun _=>rfl))) (aW (bY (pe_lst aq))) gM) (aZ (fM (PW.pt (pw_or (iU (Ah hr.units) (pv 1) (pe_fld (pv 0) rfl) (by with_unfolding_all rfl)) (pw_or1 (mQ (jN (pc G1 hr D1 (ak (pv 1) aq))))))) (aW (bY pe_non)) gM) (aZ (dF (i:=2) uO.nd rfl (Or.inl rfl) (pe_meth (pv 0) Cc D2.m G2 hr D2.b .nil pass0 (ak (pv 1) aq))) (aZ (fM (iU op_isN (pv 2) pe_non (nomark _)) (aW (uV hr.units (pe_fld (pv 0) rfl) (pv 1) mH)) gM) (aW (bY (pv 2))))))),?_⟩
 obtain⟨its,h1,h2⟩:=qw hP.st
 have hlen:=Paired.vG h2
 refine⟨_,rfl,_,.inr (.inl ⟨_,h1,rfl⟩),?_⟩
 cases k with
 |nil=>
  cases its with
  |cons y ys=>cases hlen
  |nil=>
   refine iteT ?_
   refine⟨(by show 0<=sizeLine;decide),fun l hl=> ?_⟩
   have g:=aY hl (.lst [])
   exact qq _ _ ks ⟨fun x q _ e=>g _ _ e,hP.dn.same g,hP.un,Du _ _,fun j hj=> .inl hj⟩ (.inr ⟨l,[],rfl,⟨[],aL,fun q hq=>(nomatch hq),rfl⟩,Sw.xq,eX _⟩)
 |cons k0 kr=>
 cases its with
 |nil=>cases hlen
 |cons y0 yr=>
 refine iteF ?_
 generalize hK:(k0::kr)=k at *
 obtain⟨m',rfl⟩:∃m',m=m'+1:=⟨kr.length,by rw[<-hm,<-hK];rfl⟩
 obtain⟨dx,ln,lf,nn,ff,hS⟩:=id hP.se
 refine⟨_,rfl,_,rfl,o,C,dx,_,_,rfl,hS.at_,Cc,au,rfl,d,b,ks,k,rfl,rfl,hP.dn,hP.st,_,rfl,?_⟩
 have id0:∀H',Same H H'->Dc K H H' d ts ao ks ks (jF ri (Sw.cst no.toNat (m'+1))) (m'+1+1):=fun H' g=>⟨fun x q _ e=>g _ _ e,hP.dn.same g,hP.un,Du _ _,fun j hj=> .inl hj⟩
 by_cases cin:k∈ks
 ·rw[cH cin]
  refine iteT (iteT ?_)
  exact qq _ _ ks (id0 H (Same.refl _)) (.inl ⟨rfl,hP.un k cin⟩)
 rw[fQ cin]
 refine iteF ?_
 refine⟨_,rfl,b,k,rfl,hP.st,hP.n1,fun H1 s1=>⟨_,rfl,?_⟩⟩
 cases hop:k.all fun p=> !p.2.isEmpty with
 |false=>
  refine iteT ?_
  refine qq _ _ ks (id0 H1 s1) (.inl ⟨rfl,?_⟩)
  have:∃p∈k,p.2=[]:=by
   rw[Bool.eq_false_iff]at hop
   refine KY fun c=>hop (iJ.mpr fun p hp=> ?_)
   cases e:p.2 with
   |nil=>exact absurd ⟨p,hp,e⟩ c
   |cons z zs=>rfl
  obtain⟨p,hp,e⟩:=this
  exact Sw.uJ hp e
 |true=>
 refine iteF ?_
 have hc:jF ri (Sw.cst no.toNat (m'+1))=jF ri (1+no.toNat*Sw.cst no.toNat m'):=rfl
 have hb':ks.length+jF ri (no.toNat*Sw.cst no.toNat m')<=16000000:=by
  have:jF ri (no.toNat*Sw.cst no.toNat m')<=jF ri (1+no.toNat*Sw.cst no.toNat m'):=lZ (by omega)
  rw[hc]at hb
  omega
 refine⟨_,rfl,o,dx,_,rfl,s1 _ _ hS.at_,rfl,_,rfl,o,b,d,n,no,ts,ao,ks,k,ri,rfl,⟨hP.se.same s1,hP.dn.same s1,hP.un,hP.st.same s1,hP.so,hP.ok,hP.n10,hP.n1,hP.ri⟩,hm,hb',fun v H2 vH LQ RS=> ?_⟩
 obtain⟨φ,hφ⟩:=DN.ext (hP.dn.same s1)
 refine⟨_,rfl,rfl,_,rfl,?_⟩
 have yD:Dc K H H2 d ts ao ks vH (jF ri (Sw.cst no.toNat (m'+1))) (m'+1+1):=⟨fun x q ne e=>LQ.keep x q ne (s1 _ _ e),LQ.dn,LQ.un,cP LQ.ln (Ip (by rw[hc];exact lZ (by omega)) _),fun j hj=>(LQ.nw j hj).imp id fun z=>by omega⟩
 rcases id RS with⟨rfl,wD⟩|⟨l,r,rfl,_⟩
 ·have eb:decide (V.non=V.non)=true:=rfl
  rw[eb]
  refine iteT ?_
  have rf:ri=false:=by
   cases hri:ri with
   |false=>rfl
   |true=>exact absurd (Sw.fZ hP.ok _ rfl hP.so.nd (hP.ri hri)) wD
  subst rf
  have nk:k∉vH:=fun z=>by
   rcases LQ.nw k z with q|q
   ·exact cin q
   ·omega
  have l2:vH.length<=ks.length+no.toNat*Sw.cst no.toNat m':=LQ.ln
  have hb2:ks.length+no.toNat*Sw.cst no.toNat m'<=16000000:=hb'
  obtain⟨Pg,ln2,Qm,Qg,Qn,hS2⟩:=id ((hP.se.same s1).but hφ LQ.keep)
  refine⟨_,rfl,o,C,Pg,_,_,rfl,hS2.at_,Cc,au,rfl,_,rfl,d,b,vH,k,rfl,rfl,rfl,LQ.dn,lU hφ LQ.keep (hP.st.same s1) (NK.toD_nst k),nk,by rw[eF];omega,fun H4 Eu D4=> ?_⟩
  refine⟨_,rfl,qq _ _ (vH++[k]) ⟨fun x q ne e=>Eu x q ne (yD.keep x q ne e),D4,fun j hj=> ?_,?_,fun j hj=> ?_⟩ (.inl ⟨rfl,wD⟩)⟩
  ·rcases jX.mp hj with q|q
   ·exact LQ.un j q
   ·rw[lg.mp q];exact wD
  ·rw[gO]
   show vH.length+1<=ks.length+(1+no.toNat*Sw.cst no.toNat m')
   omega
  ·rcases jX.mp hj with q|q
   ·exact yD.nw j q
   ·rw[lg.mp q];exact .inr (by omega)
 ·have eb:decide (V.ref l=V.non)=false:=fQ fun z=>by cases z
  rw[eb]
  refine iteF ?_
  exact⟨_,rfl,qq _ _ vH yD RS⟩
theorem n8{k:Nat}{f:Addr}{fd:FuncData}{ps:List Str}:FnOk P w K mg base CX0 k f fd ps (fun _ _ _ _=>False):=⟨fun _ _ _ _ h=>h.elim,fun _ _ _ _ _ _ _ _ _ _ _ _ _ h=>h.elim⟩
theorem zf{f f1 f2 f3 f4 C:Addr}{fd d1 d2 d3 d4:FuncData}(F:Fun K "lead" "Search.lead" wL f fd)(F4:Fun K "lead_first" "Search.lead_first" yJ f4 d4)
  (Cc:Cls K C)(bJ:NoAttr K C "near")(cg:NoAttr K C "far")(au:NoAttr K C "led_nowhere")
  (D:tK K C "lead" "Search.lead" wL ["self","state"] f fd)(D4:tK K C "lead_first" "Search.lead_first" yJ ["self","state"] f4 d4)(D1:bU K mg "are_left_open" Cd ["state"] f1 d1)(G1:FnOk P w K mg base CX0 1 f1 d1 ["state"] (m5 K))(D2:tK K C "state_behind" "Search.state_behind" Ce ["self","state","led","image"] f2 d2)(G2:FnOk P w K mg base CX0 2 f2 d2 ["self","state","led","image"] (ji K C))(D3:bU K mg "count_images" Ca ["open_place"] f3 d3)(G3:FnOk P w K mg base CX0 1 f3 d3 ["open_place"] (qL K))(eN:mg "min"=none):∀m:Nat,FnOk P w K mg base CX0 (2*m+4) f fd ["self","state"] (qF K C m)
 |0=>u9 F Cc bJ cg au D1 G1 D4 (lv:=3) n8 (by decide)
 |m+1=>u9 F Cc bJ cg au D1 G1 D4 (lv:=2*m+5) (Al F4 Cc bJ cg au D (zf F F4 Cc bJ cg au D D4 D1 G1 D2 G2 D3 G3 eN m) D2 G2 D3 G3 eN (by omega)) (by omega)
def uD(K:W.Frag)(C:Addr):Sp:=fun vs H Q E=>∃m,m<=10/\qF K C m vs H Q E
theorem Am{f f1 f2 f3 f4 C:Addr}{fd d1 d2 d3 d4:FuncData}(F:Fun K "lead" "Search.lead" wL f fd)(F4:Fun K "lead_first" "Search.lead_first" yJ f4 d4)
  (Cc:Cls K C)(bJ:NoAttr K C "near")(cg:NoAttr K C "far")(au:NoAttr K C "led_nowhere")
  (D:tK K C "lead" "Search.lead" wL ["self","state"] f fd)(D4:tK K C "lead_first" "Search.lead_first" yJ ["self","state"] f4 d4)(D1:bU K mg "are_left_open" Cd ["state"] f1 d1)(G1:FnOk P w K mg base CX0 1 f1 d1 ["state"] (m5 K))(D2:tK K C "state_behind" "Search.state_behind" Ce ["self","state","led","image"] f2 d2)(G2:FnOk P w K mg base CX0 2 f2 d2 ["self","state","led","image"] (ji K C))(D3:bU K mg "count_images" Ca ["open_place"] f3 d3)(G3:FnOk P w K mg base CX0 1 f3 d3 ["open_place"] (qL K))(eN:mg "min"=none):FnOk P w K mg base CX0 24 f fd ["self","state"] (uD K C):=by
 have all:=zf F F4 Cc bJ cg au D D4 D1 G1 D2 G2 D3 G3 eN
 refine⟨fun vs H Q E h=> ?_,fun A outer s H args us vs Q E hr he hb hv h=> ?_⟩
 ·obtain⟨m,hm,h⟩:=h
  exact(all m).len vs H Q E h
 ·obtain⟨m,hm,h⟩:=h
  exact((all m).mono (by omega)).run A outer s H args us vs Q E hr he hb hv h
def up(n:Nat):List Int:=(List.range n).map fun k=>((k:Nat):Int)
theorem iz(n:Nat):(up n).Pairwise (· < ·):=by
 unfold up
 rw[zM]
 exact List.pairwise_lt_range.imp fun{a b} h=>by omega
theorem aH{n:Nat}{x:Int}:x∈up n↔0<=x/\x<(n:Int):=by
 unfold up
 refine⟨fun h=> ?_,fun h=>cR.mpr ⟨x.toNat,wN.mpr (by omega),by omega⟩⟩
 obtain⟨k,hk,rfl⟩:=cR.mp h
 have:=wN.mp hk
 omega
theorem bO(n:Nat):(up n).length=n:=by unfold up;simp
theorem qp(n:Nat):eZ n=(up n).map V.int:=by unfold eZ up;rw[mV];rfl
def st0(n no:Int):NK.SK:=(up n.toNat).map fun p=>(p,up no.toNat)
theorem qz(n no:Int):(st0 n no).map (·.1)=up n.toNat:=by
 unfold st0
 rw[mV]
 exact List.map_id _
theorem yG{n no:Int}{p:Int×List Int}:p∈st0 n no↔(0<=p.1/\p.1<(n.toNat:Int))/\p.2=up no.toNat:=by
 unfold st0
 rw[cR]
 refine⟨fun⟨q,hq,e⟩=> ?_,fun⟨h1,h2⟩=>⟨p.1,aH.mpr h1,Cq rfl h2.symm⟩⟩
 rw[<-e]
 exact⟨aH.mp hq,rfl⟩
theorem ux{n no:Int}(h0:0<=n)(h1:0<=no):Sw.CW n no (st0 n no):=by
 refine⟨?_,fun p hp=> ?_,fun p hp=> ?_⟩
 ·unfold Sw.Nd
  rw[qz]
  exact(iz _).imp fun h e=>by omega
 ·have:=(yG.mp hp).1
  omega
 ·rw[(yG.mp hp).2]
  refine⟨fun y hy=> ?_,by rw[bO];omega⟩
  have:=aH.mp hy
  omega
theorem dO{ts:List (Int×Int)}{i j:Int}(h:i<j):aj ts i j=decide ((i,j)∈ts):=by
 unfold aj
 rw[aP (by omega),aN (by omega)]
theorem qu{n:Int}{ts ao:List (Int×Int)}(h:aM n ts):Sw.Ok (aj ts) (aj ao):=by
 refine⟨fun x=> ?_,BZ ts,BZ ao⟩
 rw[tied_eq h]
 unfold uo
 rw[fQ fun z=>by have:=h.lt _ z;dsimp only at this;omega]
 rfl
theorem j6{n no:Int}{ts ao:List (Int×Int)}{g:Int->Int}(h0:0<=n)(h1:0<=no)(hp:aM n ts)(h:Sw.tV (aj ts) (aj ao) (st0 n no) g):aF n no ts ao ((up n.toNat).map g)=true:=by
 have im:∀x:Int,0<=x->x<n->0<=g x/\g x<no:=fun x a b=>by
  have:g x∈up no.toNat:=h.im (x,up no.toNat) (yG.mpr ⟨⟨a,by show x<(n.toNat:Int);omega⟩,rfl⟩)
  have:=aH.mp this
  omega
 have gt:∀x:Int,0<=x->x<n->((up n.toNat).map g).getD x.toNat 0=g x:=fun x a b=>by
  rw[mJ,dH]
  unfold up
  rw[dH,List.getElem?_range (by omega)]
  show g ((x.toNat:Nat):Int)=g x
  rw[show((x.toNat:Nat):Int)=x by omega]
 unfold aF
 rw[fL,fL]
 refine⟨cH (by rw[aQ,bO];omega),iJ.mpr fun y hy=> ?_,iJ.mpr fun p hm=> ?_⟩
 ·obtain⟨x,hx,rfl⟩:=cR.mp hy
  have:=aH.mp hx
  have:=im x (by omega) (by omega)
  rw[fL]
  exact⟨cH this.1,cH this.2⟩
 ·have l:=hp.lt p hm
  rw[gt p.1 (by omega) (by omega),gt p.2 (by omega) (by omega)]
  refine h.ti (p.1,up no.toNat) (yG.mpr ⟨⟨by show 0<=p.1;omega,by show p.1<(n.toNat:Int);omega⟩,rfl⟩) (p.2,up no.toNat) (yG.mpr ⟨⟨by show 0<=p.2;omega,by show p.2<(n.toNat:Int);omega⟩,rfl⟩) ?_
  show aj ts p.1 p.2=true
  rw[dO l.2.1]
  exact cH hm
theorem sG{n no:Int}{ts ao:List (Int×Int)}{ys:List Int}(h0:0<=n)(h1:0<=no)(hp:aM n ts)(h:aF n no ts ao ys=true):Sw.tV (aj ts) (aj ao) (st0 n no) fun x=>ys.getD x.toNat 0:=by
 unfold aF at h
 rw[fL,fL]at h
 obtain⟨e1,e2,e3⟩:=h
 have e1:=iV e1
 have ti:∀x y:Int,x<y->aj ts x y=true->aj ao (ys.getD x.toNat 0) (ys.getD y.toNat 0)=true:=fun x y l t=>by
  rw[dO l]at t
  exact iJ.mp e3 _ (iV t)
 refine⟨fun p hm=> ?_,fun p hm q hq t=> ?_⟩
 ·obtain⟨a,b⟩:=yG.mp hm
  rw[b]
  have hl:p.1.toNat<ys.length:=by omega
  have:=iJ.mp e2 _ (yL hl)
  rw[fL]at this
  show ys.getD p.1.toNat 0∈up no.toNat
  rw[mJ,jQ hl]
  refine aH.mpr ⟨iV this.1,?_⟩
  have:=iV this.2
  show ys[p.1.toNat]<_
  omega
 ·rcases Hg p.1 q.1 with c|c|c
  ·exact ti _ _ c t
  ·rw[c,(qu (ao:=ao) hp).wF]at t;cases t
  ·rw[BZ ao]
   rw[BZ ts]at t
   exact ti _ _ c t
theorem Bc{a b c d:Int}(h:HT.lexLt [c,d] [a,b]=false):a<=c:=by
 rw[HT.bF,KR]at h
 refine KY fun z=>h ?_
 exact List.Lex.rel (by omega)
theorem oY{L:List (List Int)}{r:List (Int×Int)}{n:Nat}{g:Int->Int}(h:L.Perm (r.map fun e=>[e.1,e.2]))(hs:L.Pairwise fun a b=>HT.lexLt b a=false)(hp:(r.map (·.1)).Perm (up n))(hg:∀e∈r,g e.1=e.2):L.map (fun l=>l.getD 1 0)=(up n).map g:=by
 have sh:∀l∈L,l=[l.getD 0 0,g (l.getD 0 0)]:=fun l hl=>by
  obtain⟨e,he,rfl⟩:=cR.mp (h.mem_iff.mp hl)
  show[e.1,e.2]=[e.1,g e.1]
  rw[hg e he]
 have fp:(L.map fun l=>l.getD 0 0).Perm (up n):=by
  refine(h.map _).trans ?_
  rw[mV]
  exact hp
 have nd:(L.map fun l=>l.getD 0 0).Nodup:=fp.nodup_iff.mpr ((iz n).imp fun h e=>by omega)
 have le:(L.map fun l=>l.getD 0 0).Pairwise (· <= ·):=by
  rw[zM]
  refine Hl (fun{a b} ha hb z=> ?_) hs
  rw[sh a ha,sh b hb]at z
  exact Bc z
 have e:(L.map fun l=>l.getD 0 0)=up n:=Sw.gQ fp (List.Pairwise.imp₂ (fun a b x y=>by omega) le nd) (iz n)
 rw[<-e,mV]
 refine List.map_congr_left fun l hl=> ?_
 have:=sh l hl
 rw[this];rfl
def jZ(K:W.Frag):Sp:=fun vs H Q _=>∃(a b:Addr) (n no:Int) (ts ao:List (Int×Int)) (ri:Bool),vs=[.ref a,.ref b]/\aO K H a n ts/\aO K H b no ao/\(ri=true->n<=no/\∀x y,0<=x->x<no->0<=y->y<no->x≠y->aj ao x y=true)/\jF ri (Sw.cst no.toNat n.toNat)<=16000000/\
 ∀v H',Same H H'->((v= .non/\¬∃ys,aF n no ts ao ys=true)\/∃r ys,v= .ref r/\SqT K H' r (ys.map V.int)/\aF n no ts ao ys=true)->Q v H'
theorem fB:FnScope ["web","other","every","led"] ["web","other"] (defScope Gb):=fsc
theorem pC{f f1 f2 f3 C:Addr}{fd d1 d2 d3:FuncData}(F:Fun K "way_into" "way_into" Gb f fd)
  (Cc:Cls K C)(bJ:NoAttr K C "near")(cg:NoAttr K C "far")(au:NoAttr K C "led_nowhere")(jz:mg "Search"=some (.ref C))(D1:bU K mg "need_web" BW ["thing"] f1 d1)(G1:FnOk P w K mg base CX0 7 f1 d1 ["thing"] (dN K))(D2:tK K C "__init__" "Search.__init__" Gh ["self","web","other"] f2 d2)(PB:Mk K C f2)(Kv:FnOk P w K mg base CX0 9 f2 d2 ["self","web","other"] (oX K C))(D3:tK K C "lead" "Search.lead" wL ["self","state"] f3 d3)(G3:FnOk P w K mg base CX0 24 f3 d3 ["self","state"] (uD K C))(aJ:mg "tuple"=none)(aA:mg "range"=none)(jy:mg "sorted"=none):
  FnOk P w K mg base CX0 25 f fd ["web","other"] (jZ K):=by
 have PX:FnOk P w K mg base CX0 23 f2 d2 ["self","web","other"] (oX K C):=Kv.mono (by decide)
 refine F.ok fB (fun vs H Q E h=> ?_) (fun cdv A outer s H vs Q E hr h=> ?_)
 ·obtain⟨a,b,n,no,ts,ao,ri,rfl,_⟩:=h
  rfl
 obtain⟨a,b,n,no,ts,ao,ri,rfl,hA,hB,hri,Ls,qq⟩:=h
 refine⟨_,(aZ (rJ (pc G1 hr D1 (ak (pv 0) aq))) (aZ (rJ (pc G1 hr D1 (ak (pv 1) aq))) (aZ (dF (i:=2) fB.nd rfl (Or.inr rfl) (nu rfl rfl aJ rfl aA (ak (bR dZ (pv 1) aK (fun _ _=>rfl)) aq))) (aZ (dF (i:=3) fB.nd rfl (Or.inl rfl) (pe_meth (pe_make PB PX hr rfl jz D2.b .nil pass0 (ak (pv 0) (ak (pv 1) aq))) Cc D3.m G3 hr D3.b .nil pass0 (ak (tZ uc rfl aJ (by decide+kernel) (ak (mU (own:=["place"]) (caps:=["every"]) (ix:=[2]) rfl (rK rfl aA (ak (bR dZ (pv 0) aK (fun _ _=>rfl)) aq)) rfl rfl (.cons rfl rfl .nil) (fun _ _ _ _ _=>(cF (i:=0) (show(["place","every"]:List Str).Nodup from by decide+kernel) rfl (Or.inl rfl))) (fun _ _ _ _ _=>qe) (fun _ _ _ _ _=>(jM (ak (pv 0) (ak (pv 1) aq))))) aq)) aq))) (aW (bY (pe_ifExp (iU op_isN (pv 3) pe_non (nomark _)) pe_non (tZ uc rfl aJ (by decide+kernel) (ak (mU (own:=["place","image"]) (caps:=[]) (ix:=[]) rfl (gj (cG gB rfl jy (by decide+kernel) (ak (pv 3) aq))) rfl rfl .nil (fun _ _ _ _ _=>(gk K (n:=2) rfl (tO (cF (i:=0) (show(["place","image"]:List Str).Nodup from by decide+kernel) rfl (Or.inl rfl)) (tO (cF (i:=1) (show(["place","image"]:List Str).Nodup from by decide+kernel) rfl (Or.inl rfl)) pgs_nil)))) (fun _ _ _ _ _=>qe) (fun _ _ _ _ _=>(pv 1))) aq))))))))),?_⟩
 have h0:=hA.h0
 have h10:=hA.h1
 have h0':=hB.h0
 have Kf:=hB.h1
 refine⟨_,rfl,.ref a,_,rfl,hA.web.dv.dx,hA.ok,fun H1 s1=> ?_⟩
 refine⟨_,rfl,.ref b,_,rfl,(hB.same s1).web.dv.dx,hB.ok,fun H2 s2=> ?_⟩
 have Jl:=s1.trans s2
 have Oh:=hA.same Jl
 have hB2:=hB.same Jl
 obtain⟨Jc,Jm,w1,_,_⟩:=id Oh.web
 obtain⟨Hq,Hv,y1,_,_⟩:=id hB2.web
 refine⟨_,rfl,b,_,_,.int no,rfl,rfl,y1,rfl,no,rfl,h0',by omega,fun ev hev=> ?_⟩
 rw[qp]
 have s3:=aY hev (.tup ((up no.toNat).map V.int))
 have O8:(upd H2 ev (.tup ((up no.toNat).map V.int))) ev=some (.tup ((up no.toNat).map V.int)):=aL
 generalize (upd H2 ev (.tup ((up no.toNat).map V.int)))=H3 at *
 have Hu:=Jl.trans s3
 refine⟨_,rfl,_,rfl,fun x dx hx hdx ne=> ?_⟩
 have s4:Same H3 (upd (upd H3 dx (.own x)) x (.ins C dx [])):=fun c q z=>by rw[dG (jP z hx),dG (jP z hdx)];exact z
 have ex:(upd (upd H3 dx (.own x)) x (.ins C dx [])) x=some (.ins C dx []):=aL
 generalize (upd (upd H3 dx (.own x)) x (.ins C dx []))=H4 at *
 refine⟨x,dx,a,b,n,no,ts,ao,rfl,ex,(hA.same Hu).same s4,(hB.same Hu).same s4,fun d H5 keep SV Qa hd=>⟨rfl,?_⟩⟩
 have s5:Same H3 H5:=fun c q z=>keep c q (jP z hx) (s4 _ _ z)
 have Lb:=Hu.trans s5
 have Og:=hA.same Lb
 obtain⟨MK,M9,w5,_,_⟩:=id Og.web
 obtain⟨Pb,ln,lf,nn,ff,hS⟩:=id SV
 refine⟨x,Pb,_,rfl,hS.at_,rfl,?_⟩
 refine⟨_,rfl,a,_,_,.int n,rfl,rfl,w5,rfl,n,rfl,by omega,by omega,?_⟩
 have Kp:=s5 _ _ O8
 refine yI (n:=n.toNat) (fun i acc σ H'=>∃as:List Addr,acc=as.map V.ref/\as.length=i/\Same H5 H'/\(∀(j:Nat) p,as[j]? =some p->H' p=some (.tup [.int (j:Int),.ref ev]))/\∃o1,σ=[o1,some (.ref ev)]) ⟨[],rfl,rfl,Same.refl _,(fun j p z=>by cases z),_,rfl⟩ (fun i acc σ H' hi p=> ?_) (by rw[eF];omega) (fun i acc σ H' hi p=> ?_) (fun acc σ H' p=> ?_)
 ·obtain⟨as,rfl,hl,_⟩:=p
  rw[aQ];omega
 ·obtain⟨as,rfl,hl,sm,hh,o1,rfl⟩:=p
  refine⟨_,rfl,_,rfl,(by show 2<=sizeLine;decide),fun pn hpn=> ?_⟩
  have sn:=aY hpn (.tup [.int (0+(i:Int)),.ref ev])
  refine⟨as++[pn],by rw[bV];rfl,by rw[gO,hl];rfl,sm.trans sn,fun j x z=> ?_,_,rfl⟩
  rw[Iz]at z
  by_cases c:j<as.length
  ·rw[aN c]at z
   exact sn _ _ (hh j x z)
  ·rw[aP c]at z
   have ej:j=as.length:=by
    rcases Cg (j-as.length) 1 with q|q
    ·omega
    ·rw[IK (by show 1<=_;exact q)]at z;cases z
   rw[ej,GF]at z
   cases z
   rw[ej,hl,aL,Int.zero_add]
 intro pl hpl
 obtain⟨as,rfl,hl,sm,hh,_⟩:=p
 refine⟨pl,_,rfl,.inl ⟨SqL.of aL,fun pt hpt=> ?_⟩⟩
 have s6:=sm.trans ((aY hpl (.lst (as.map V.ref))).trans (aY hpt (.tup (as.map V.ref))))
 have g6:=(aY hpl (.lst (as.map V.ref))).trans (aY hpt (.tup (as.map V.ref)))
 have Km:(upd (upd H' pl (.lst (as.map V.ref))) pt (.tup (as.map V.ref))) pt=some (.tup (as.map V.ref)):=aL
 generalize (upd (upd H' pl (.lst (as.map V.ref))) pt (.tup (as.map V.ref)))=H6 at *
 have hst:DV K H6 (.ref pt) (NK.toD (st0 n no)):=by
  refine zj (its:=as.map fun p=>(p,ev)) (by rw[mV];exact SqT.of Km) ?_
  have go:∀(bs:List Addr) (j0:Nat),(∀(j:Nat) p,bs[j]? =some p->H6 p=some (.tup [.int ((j0+j:Nat):Int),.ref ev]))->v8 K H6 (bs.map fun p=>(p,ev)) ((List.range' j0 bs.length).map fun k=>(((k:Nat):Int),up no.toNat)):=fun bs=>by
   induction bs with
   |nil=>exact fun _ _=> .nil
   |cons p bs ih=>
    intro j0 hj
    refine .cons ⟨SqT.of (hj 0 p rfl),SqT.of (s6 _ _ Kp)⟩ (ih (j0+1) fun j q z=> ?_)
    have:=hj (j+1) q z
    rwa [show j0+(j+1)=j0+1+j by omega]at this
  have:=go as 0 fun j p z=>by rw[HS];exact g6 _ _ (hh j p z)
  rw[hl,<-List.range_eq_range']at this
  unfold st0 up
  rw[mV]
  exact this
 have kl:(st0 n no).length=n.toNat:=by unfold st0;rw[aQ,bO]
 have hok:=qu (ao:=ao) hA.pk
 refine⟨n.toNat,by omega,x,pt,d,n,no,ts,ao,[],st0 n no,ri,rfl,⟨SV.same s6,Qa.same s6,fun j hj=>(nomatch hj),hst,ux h0 h0',hok,h10,by rw[kl];omega,fun r=> ?_⟩,kl,by show 0+_<=_;omega,fun v H7 ks' LQ RS=> ?_⟩
 ·obtain⟨q1,q2⟩:=hri r
  refine⟨q2,fun p hp=> ?_⟩
  rw[(yG.mp hp).2,kl,bO]
  refine⟨(iz _).imp fun h e=>by omega,fun y hy=> ?_,by omega⟩
  have:=aH.mp hy
  omega
 have hd0:H d=none:=by
  cases e:H d with
  |none=>rfl
  |some q=>rw[s4 _ _ (Hu _ _ e)]at hd;cases hd
 have La:Same H H7:=fun c q z=>LQ.keep c q (jP z hd0) (s6 _ _ (Lb _ _ z))
 rcases RS with⟨rfl,wD⟩|⟨l,r,rfl,⟨jts,j1,j2,j3⟩,⟨hperm,g,hg,he⟩,rl⟩
 ·refine⟨_,rfl,rfl,_,rfl,?_⟩
  have eb:decide (V.non=V.non)=true:=rfl
  rw[eb]
  refine iteT ?_
  exact qq _ _ La (.inl ⟨rfl,fun⟨ys,hy⟩=>wD ⟨_,sG h0 h0' hA.pk hy⟩⟩)
 ·refine⟨_,rfl,rfl,_,rfl,?_⟩
  have eb:decide (V.ref l=V.non)=false:=fQ fun z=>by cases z
  rw[eb]
  refine iteF ?_
  have jl:jts.length=r.length:=by have:=was List.length j3;rwa [aQ,aQ]at this
  have Nx:∀p∈jts,SqT K H7 p.1 (p.2.map V.int)/\p.2≠[]:=fun p hp=>⟨j2 p hp,fun z=>by
   have m:p.2∈r.map fun e=>[e.1,e.2]:=by rw[<-j3];exact cR.mpr ⟨p,hp,rfl⟩
   obtain⟨e,_,q⟩:=cR.mp m
   rw[z]at q;cases q⟩
  refine⟨_,rfl,l,jts,rfl,SqL.of j1,Nx,by omega,fun l' its' hl' hpm JR=> ?_⟩
  have s8:=aY hl' (.lst (its'.map fun p=>V.ref p.1))
  have LC:(upd H7 l' (.lst (its'.map fun p=>V.ref p.1))) l'=some (.lst (its'.map fun p=>V.ref p.1)):=aL
  generalize (upd H7 l' (.lst (its'.map fun p=>V.ref p.1)))=H8 at *
  refine⟨l',_,rfl,SqL.of LC,fun hz=> ?_⟩
  refine gZ (xs:=its'.map fun p=>V.ref p.1) (fun i acc σ H'=>acc=((its'.take i).map fun p=>p.2.getD 1 0).map V.int/\H'=H8/\∃o1 o2,σ=[o1,o2]) ⟨rfl,rfl,_,_,rfl⟩ (fun i acc σ H' _ p=>by rw[p.2.1];exact SqL.of LC) (fun i acc σ H' hi p=>by rw[p.1,aQ,aQ,zL];exact Ds _ _) hz (fun i u acc σ H' hu p=> ?_) (fun acc σ H' p=> ?_)
  ·obtain⟨rfl,rfl,o1,o2,rfl⟩:=p
   rw[dH]at hu
   cases ei:its'[i]? with
   |none=>rw[ei]at hu;cases hu
   |some q=>
    rw[ei]at hu
    cases hu
    have qm:=hpm.mem_iff.mp (tR ei)
    have m:q.2∈r.map fun e=>[e.1,e.2]:=by rw[<-j3];exact cR.mpr ⟨q,qm,rfl⟩
    obtain⟨e,_,eq⟩:=cR.mp m
    have tq:=s8.tup (j2 q qm)
    rw[<-eq]at tq
    refine⟨q.1,_,rfl,tq,rfl,_,_,rfl,_,_,rfl,rfl,?_⟩
    refine⟨_,rfl,?_,rfl,_,_,rfl⟩
    rw[ql,ei,bV,bV]
    show _=_++[V.int (q.2.getD 1 0)]
    rw[<-eq];rfl
  ·intro pz hpz
   obtain⟨rfl,rfl,_⟩:=p
   rw[aQ,oO]
   refine⟨pz,_,rfl,.inl ⟨SqL.of aL,fun pw JQ=> ?_⟩⟩
   have s9:=(aY hpz (.lst ((its'.map fun p=>p.2.getD 1 0).map V.int))).trans (aY JQ (.tup ((its'.map fun p=>p.2.getD 1 0).map V.int)))
   rw[qz]at hperm
   have sw:=oY (L:=its'.map (·.2)) (by rw[<-j3];exact hpm.map _) (by rw[zM];exact JR) hperm he
   rw[mV]at sw
   refine qq _ _ (La.trans (s8.trans s9)) (.inr ⟨pw,(up n.toNat).map g,rfl,SqT.of ?_,j6 h0 h0' hA.pk hg⟩)
   rw[<-sw]
   exact aL
end
end Hs
namespace L2
open PySem PySem.Spec PyProof.Rows
section
variable{X:Cx}
theorem sV(hc:X.calm=true):CallR X (.builtin "max") (fun xs H Q=>∃(a:Addr) (ns:List Int),xs=[.ref a]/\SqL X.K H a (ns.map V.int)/\ns≠[]/\∀m∈ns,(∀n∈ns,n<=m)->Q (.int m) H):=by
 intro pins s σ H xs us Q I r h
 obtain⟨a,ns,rfl,hS,hne,q⟩:=h
 obtain⟨u,rfl,ru⟩:=r.one
 cases ru
 obtain⟨vs,rv,pl,hz⟩:=I.list hS
 have hl:=pl.isList
 have hlt:a<s.heap.objs.size:=by obtain⟨_,e,_⟩:=hl;exact cB e
 have hlen:=rv.length
 rw[aQ]at hlen
 have hI:∀(i:Nat) (v:Value),vs.toArray[i]? =some v->∃t,v= .int (ns.getD i 0) t:=fun i v hv=>by
  have hv':vs[i]? =some v:=by simpa using hv
  have hi:i<ns.length:=by have:=(yP.mp hv').1;omega
  have hn:(ns.map V.int)[i]? =some (.int (ns.getD i 0)):=by rw[dH,jQ hi,mJ,jQ hi];rfl
  obtain⟨u,hu,ru⟩:=rv.get hn
  rw[hv']at hu
  cases hu
  obtain⟨t,rfl⟩:=ru
  exact⟨t,rfl⟩
 refine call_max_walk (Hh hl ?_)
 refine⟨s.heap.objs.size,[s.heap.objs.size,a],[s.heap.objs.size],vs.toArray.size,_,_,_,rfl,Walks.list (A:=X.A.in1) (I.ok.hd hc) _ a (cT hlt) vs.toArray,
  ⟨⟨_,lq _ rfl,rfl,rfl⟩,hl.push _⟩,?_,?_,CmpOf.ints_gt (fun i=>ns.getD i 0) hI,fun v h' tk hP hk=> ?_⟩
 ·intro b hb
  show b<(s.heap.push _).objs.size
  rw[zJ]
  rcases fK.mp hb with rfl|hb
  ·exact wO _
  ·rw[lg.mp hb];exact zN hlt
 ·rw[dI,<-hlen];exact List.length_pos_iff.mpr hne
 ·obtain⟨t,rfl⟩:=hI _ v hP
  obtain⟨h1,h2⟩:=argBest_gt (fun i=>ns.getD i 0) (vs.toArray.size-1)
  have hn0:0<ns.length:=List.length_pos_iff.mpr hne
  have hb:argBest (fun i j=>decide (ns.getD i 0>ns.getD j 0)) (vs.toArray.size-1)<ns.length:=by
   have:vs.toArray.size=ns.length:=by rw[dI];omega
   omega
  refine⟨.int _,H,I.kept (LSm.kept_iter hk),⟨t,rfl⟩,q _ ?_ fun n hn=> ?_⟩
  ·rw[mJ,jQ hb];exact yL hb
  ·obtain⟨j,hj,rfl⟩:=Ir hn
   have:=h2 j (by rw[dI];omega)
   rw[mJ (i:=j),jQ hj]at this
   exact this
end
end L2
namespace Hs
open PySem L2 tL
section
variable{P:Program}{w:World}{K:W.Frag}{mg:Str->Option Value}{base:Heap}
def gD(ts:List (Int×Int))(xs:List Int):List (List Int):=xs.foldl (fun found p=>found++(found.filter fun s=> !s.any fun o=>aj ts o p).map fun s=>s++[p]) [[]]
theorem iu(ts:List (Int×Int))(xs:List Int)(p:Int):gD ts (xs++[p])=gD ts xs++((gD ts xs).filter fun s=> !s.any fun o=>aj ts o p).map fun s=>s++[p]:=by
 unfold gD;rw[List.foldl_append];rfl
theorem sub_one{v:List Int}{p:Int}(h:v.Sublist [p]):v=[]\/v=[p]:=by
 cases h with
 |cons _ h=>exact .inl (List.sublist_nil.mp h)
 |cons_cons _ h=>exact .inr (by rw[List.sublist_nil.mp h])
structure Mv(ts:List (Int×Int))(xs s:List Int):Prop where
 sub:s.Sublist xs
 ap:s.Pairwise fun a b=>aj ts a b=false
theorem jx{ts:List (Int×Int)}{s:List Int}:∀{k:Nat} {xs:List Int},xs.length=k->(s∈gD ts xs↔Mv ts xs s):=by
 intro k
 induction k generalizing s with
 |zero=>
  intro xs hl
  have:xs=[]:=K1 hl
  subst this
  constructor
  ·intro h;rw[lg.mp (show s∈[[]]from h)];exact⟨G9 _,List.Pairwise.nil⟩
  ·intro h;rw[List.sublist_nil.mp h.sub];exact lg.mpr rfl
 |succ k ih=>
  intro xs hl
  have hne:xs≠[]:=fun e=>by rw[e]at hl;cases hl
  obtain⟨ys,p,rfl⟩:∃ys p,xs=ys++[p]:=⟨xs.dropLast,xs.getLast hne,(KZ hne).symm⟩
  have hk:ys.length=k:=by rw[gO]at hl;exact Nat.succ.inj hl
  rw[iu,jX]
  constructor
  ·rintro(h|h)
   ·have S:=(ih hk).mp h
    exact⟨S.sub.trans (Gx _ _),S.ap⟩
   ·obtain⟨u,hu,rfl⟩:=cR.mp h
    obtain⟨u1,u2⟩:=kZ.mp hu
    have S:=(ih hk).mp u1
    refine⟨S.sub.append (G9 _),?_⟩
    rw[Dw]
    refine⟨S.ap,List.pairwise_singleton _ _,fun a ha b hb=> ?_⟩
    rw[lg.mp hb]
    rw[Bool.not_eq_true',Hi]at u2
    exact Bool.eq_false_iff.mpr (u2 a ha)
  ·intro S
   obtain⟨u,v,rfl,hu,hv⟩:=List.sublist_append_iff.mp S.sub
   rcases sub_one hv with rfl|rfl
   ·refine .inl ((ih hk).mpr ⟨by rw[mW];exact hu,S.ap⟩)
   ·refine .inr (cR.mpr ⟨u,kZ.mpr ⟨(ih hk).mpr ⟨hu,(Dw.mp S.ap).1⟩,?_⟩,rfl⟩)
    rw[Bool.not_eq_true',Hi]
    intro a ha
    rw[(Dw.mp S.ap).2.2 a ha p (lg.mpr rfl)]
    decide
theorem oH(ts:List (Int×Int)):∀(k:Nat) (xs:List Int),xs.length=k->(gD ts xs).length<=2^k
 |0,xs,h=>by rw[K1 h];exact bD _
 |k+1,xs,h=>by
  have hne:xs≠[]:=fun e=>by rw[e]at h;cases h
  obtain⟨ys,p,rfl⟩:∃ys p,xs=ys++[p]:=⟨xs.dropLast,xs.getLast hne,(KZ hne).symm⟩
  have hk:ys.length=k:=by rw[gO]at h;exact Nat.succ.inj h
  rw[iu,gO,aQ,Nat.pow_succ]
  have h1:=oH ts k ys hk
  have h2:=yO (fun s:List Int=> !s.any fun o=>aj ts o p) (gD ts ys)
  omega
def pY(K:W.Frag)(H:Hp)(r:Addr)(ss:List (List Int)):Prop:=∃its:List (Addr×List Int),H r=some (.lst (its.map fun p=>V.ref p.1))/\(∀p∈its,SqT K H p.1 (p.2.map V.int))/\its.map (fun p=>p.2)=ss
def qJ(K:W.Frag):Sp:=fun vs H Q _=>∃(a l:Addr) (n:Int) (ts:List (Int×Int)) (xs:List Int),vs=[.ref a,.ref l]/\aO K H a n ts/\SqL K H l (xs.map V.int)/\xs.length<=10/\∀r H',Same H H'->pY K H' r (gD ts xs)->Q (.ref r) H'
theorem pU(ts:List (Int×Int)){xs:List Int}(h:xs.length<=10):(gD ts xs).length<=1024:=cP (oH ts _ xs rfl) (Nat.pow_le_pow_right (by decide) h)
theorem tH{ts:List (Int×Int)}{xs s:List Int}(h:xs.length<=10)(hs:s∈gD ts xs):s.length<=10:=cP ((jx rfl).mp hs).sub.length_le h
theorem cV:FnScope ["web","left","found","place","more"] ["web","left"] (defScope Gp):=fsc
theorem vp{f f1:Addr}{fd d1:FuncData}(F:Fun K "_law_e_apart_sets" "_law_e_apart_sets" Gp f fd)(D1:bU K mg "_law_e_tied" wA ["web","one","other"] f1 d1)(G1:FnOk P w K mg base CX0 1 f1 d1 ["web","one","other"] (cJ K))(Es:mg "any"=none):
  FnOk P w K mg base CX0 2 f fd ["web","left"] (qJ K):=by
 refine F.ok cV (fun vs H Q E h=> ?_) (fun cdv A outer s H vs Q E hr h=> ?_)
 ·obtain⟨a,l,n,ts,xs,rfl,_⟩:=h
  rfl
 obtain⟨a,l,n,ts,xs,rfl,hA,hL,NQ,q⟩:=h
 refine⟨_,(aZ (dF (i:=2) cV.nd rfl (Or.inl rfl) (pe_lst (ak (jM aq) aq))) (aZ (oN oV rfl (gj (pv 1)) (cF (i:=3) cV.nd rfl (Or.inr rfl)) (aZ (iD (i:=4) (own:=["some"]) (caps:=["web","place"]) (ix:=[0,3]) cV.nd rfl (Or.inl rfl) rfl (gj (pv 2)) rfl rfl (.cons rfl rfl (.cons rfl rfl .nil)) (fun _ _ _ _ _=>(cF (i:=0) (show(["some","web","place"]:List Str).Nodup from by decide+kernel) rfl (Or.inl rfl))) (fun _ _ _ _ _=>gb (mQ (jN (cG (sW K rfl) rfl Es (by decide+kernel) (ak (mU (own:=["one"]) (caps:=["web","place"]) (ix:=[1,2]) rfl (uW K (pv 0)) rfl rfl (.cons rfl rfl (.cons rfl rfl .nil)) (fun _ _ _ _ _=>(cF (i:=0) (show(["one","web","place"]:List Str).Nodup from by decide+kernel) rfl (Or.inl rfl))) (fun _ _ _ _ _=>qe) (fun _ _ _ _ _=>(pc G1 hr D1 (ak (pv 1) (ak (pv 0) (ak (pv 2) aq)))))) aq))))) (fun _ _ _ _ _=>(bN (uZ K) (pv 0) (jM (ak (pv 2) aq))))) (aW (dF (i:=2) cV.nd rfl (Or.inl rfl) (bN op_cat (pv 2) (pv 4)))))) (aW (bY (pv 2))))),?_⟩
 refine⟨(by show 0<=sizeLine;decide),fun e0 J0=>⟨(by show 1<=sizeLine;decide),fun fo hfo=> ?_⟩⟩
 have s1:=(aY J0 (.tup [])).trans (aY hfo (.lst [.ref e0]))
 have f0:pY K (upd (upd H e0 (.tup [])) fo (.lst [.ref e0])) fo (gD ts []):=⟨[(e0,[])],aL,fun p hp=>by rw[lg.mp hp];exact(aY hfo (.lst [.ref e0])).tup (SqT.of aL),rfl⟩
 generalize upd (upd H e0 (.tup [])) fo (.lst [.ref e0])=H1 at *
 refine⟨_,rfl,l,_,rfl,s1.seq hL,fun _=> ?_⟩
 refine for_list (K:=K) (a:=l) (xs:=xs.map V.int) (fun i σ H'=>Same H H'/\∃fo o3 o4,pY K H' fo (gD ts (xs.take i))/\σ=[some (.ref a),some (.ref l),some (.ref fo),o3,o4]) ⟨s1,fo,_,_,f0,rfl⟩ (fun i σ H' _ p=>p.1.seq hL) (fun i x σ H' hx p=> ?_) (fun σ H' p=> ?_)
 ·obtain⟨sm,fo,o3,o4,⟨its,i1,i2,i3⟩,rfl⟩:=p
  rw[dH]at hx
  cases ex:xs[i]? with
  |none=>rw[ex]at hx;cases hx
  |some p=>
   rw[ex]at hx
   cases hx
   have tl:(xs.take i).length<=10:=by rw[zL];omega
   have il:its.length<=1024:=by
    have e1:its.length=(gD ts (xs.take i)).length:=by rw[<-i3,aQ]
    have:=pU ts tl
    omega
   refine⟨_,rfl,fo,_,rfl,SqL.of i1,fun hz=> ?_⟩
   refine gZ (xs:=its.map fun q=>V.ref q.1) (fun k acc σ H2=>Same H' H2/\acc.length<=k/\(∃jt:List (Addr×List Int),acc=jt.map (fun q=>V.ref q.1)/\(∀q∈jt,SqT K H2 q.1 (q.2.map V.int))/\jt.map (fun q=>q.2)=(((its.take k).map fun q=>q.2).filter fun s=> !s.any fun o=>aj ts o p).map fun s=>s++[p])/\∃o,σ=[o,some (.ref a),some (.int p)])
    ⟨Same.refl _,bD _,⟨[],rfl,fun q hq=>(nomatch hq),rfl⟩,_,rfl⟩ (fun k acc σ H2 _ p=>p.1.seq (SqL.of i1)) (fun k acc σ H2 _ p=>p.2.1) hz (fun k x acc σ H2 hx pp=> ?_) (fun acc σ H2 pp=> ?_)
   ·obtain⟨s2,hk,⟨jt,rfl,j2,j3⟩,o,rfl⟩:=pp
    rw[dH]at hx
    cases ek:its[k]? with
    |none=>rw[ek]at hx;cases hx
    |some v=>
     rw[ek]at hx
     cases hx
     have hv:=i2 v (tR ek)
     have vl:v.2.length<=10:=tH tl (by rw[<-i3];exact cR.mpr ⟨v,tR ek,rfl⟩)
     have et:((its.take (k+1)).map fun q=>q.2)=((its.take k).map fun q=>q.2)++[v.2]:=by rw[ql,ek,bV];rfl
     refine⟨_,rfl,v.1,_,rfl,s2.tup hv,fun hz2=> ?_⟩
     refine yH (xs:=v.2.map V.int) (fun m acc σ H3=>acc=((v.2.take m).map fun o=>aj ts o p).map V.bl/\Same H2 H3/\∃o,σ=[o,some (.ref a),some (.int p)]) ⟨rfl,Same.refl _,_,rfl⟩ (fun m acc σ H3 _ p=>p.2.1.tup (s2.tup hv)) (fun m acc σ H3 hm p=> ?_) hz2 (fun m x acc σ H3 hx p3=> ?_) (fun acc σ H3 p3=> ?_)
     ·rw[p.1,aQ,aQ,zL];exact Ds _ _
     ·obtain⟨rfl,s3,o,rfl⟩:=p3
      rw[dH]at hx
      cases em:v.2[m]? with
      |none=>rw[em]at hx;cases hx
      |some y=>
       rw[em]at hx
       cases hx
       refine⟨_,rfl,_,rfl,_,rfl,a,n,y,p,ts,rfl,(hA.same (sm.trans (s2.trans s3))).web,fun H4 s4=>⟨?_,s3.trans s4,_,rfl⟩⟩
       rw[ql,em,bV,bV];rfl
     ·intro p1 hp1
      obtain⟨rfl,s3,_⟩:=p3
      rw[aQ,oO]
      refine⟨p1,v.2.map (fun o=>aj ts o p),rfl,SqL.of aL,_,rfl,?_⟩
      have s4:=s3.trans (aY hp1 (.lst ((v.2.map fun o=>aj ts o p).map V.bl)))
      generalize upd H3 p1 (.lst ((v.2.map fun o=>aj ts o p).map V.bl))=H4 at *
      have eb:(v.2.map fun o=>aj ts o p).any id=v.2.any fun o=>aj ts o p:=by rw[List.any_map];rfl
      rw[eb,et,Cm,bV]
      cases hb:v.2.any fun o=>aj ts o p with
      |true=>
       refine iteF ⟨s2.trans s4,by omega,⟨jt,rfl,fun q hq=>s4.tup (j2 q hq),?_⟩,_,rfl⟩
       rw[j3,List.filter_cons_of_neg (by rw[hb];decide)];simp
      |false=>
       refine iteT ?_
       refine⟨_,rfl,_,rfl,(by show 1<=sizeLine;decide),fun t ht=>⟨v.1,t,_,_,rfl,rfl,(aY ht _).tup ((s2.trans s4).tup hv),SqT.of aL,by rw[aQ,eF];show v.2.length+1<=_;omega,fun r H6 s6 JN=> ?_⟩⟩
       have s7:=s4.trans ((aY ht (.tup [.int p])).trans s6)
       refine⟨s2.trans s7,by rw[gO];show _+1<=k+1;omega,⟨jt++[(r,v.2++[p])],by rw[bV];rfl,fun q hq=> ?_,?_⟩,_,rfl⟩
       ·rcases jX.mp hq with z|z
        ·exact s7.tup (j2 q z)
        ·rw[lg.mp z,bV];exact JN
       ·rw[bV,j3,List.filter_cons_of_pos (by rw[hb];decide)];rfl
   ·intro p1 hp1
    obtain⟨s2,hk,⟨jt,rfl,j2,j3⟩,o,rfl⟩:=pp
    have s3:=aY hp1 (.lst (jt.map fun q=>V.ref q.1))
    have Ny:=(s2.trans s3) _ _ i1
    have jl:jt.length<=1024:=by rw[aQ]at hk;rw[aQ]at hk;omega
    refine⟨_,rfl,_,rfl,fo,p1,_,_,rfl,rfl,Ny,aL,by rw[aQ,aQ,eF];omega,fun r hr'=> ?_⟩
    have s4:=(s2.trans s3).trans (aY hr' (.lst ((its.map fun q=>V.ref q.1)++jt.map fun q=>V.ref q.1)))
    refine⟨sm.trans s4,r,_,_,⟨its++jt,by rw[aL,bV],fun q hq=> ?_,?_⟩,rfl⟩
    ·rcases jX.mp hq with z|z
     ·exact s4.tup (i2 q z)
     ·exact(s3.trans (aY hr' _)).tup (j2 q z)
    ·rw[aQ,oO]at j3
     rw[ql,ex,bV,j3,i3]
     exact(iu ts (xs.take i) p).symm
 ·obtain⟨sm,fo,o3,o4,hS,rfl⟩:=p
  rw[aQ,oO]at hS
  exact⟨_,rfl,q fo H' sm hS⟩
def uG(K:W.Frag):Sp:=fun vs H Q _=>∃(cp aU:Addr) (ns:List Int) (m b:Int),vs=[.ref cp,.int m]/\bM K H cp aU ns b/\b<=800000000/\0<=m/\m<=10/\
 ∀r n ts H',aB cp H H'->bM K H' cp aU ns (b+121)->aO K H' r n ts->n<=m->Q (.ref r) H'
theorem qN:FnScope ["cup","most","n"] ["cup","most"] (defScope Gd):=fsc
theorem xQ{f f1 f2:Addr}{fd d1 d2:FuncData}(F:Fun K "_law_e_web" "_law_e_web" Gd f fd)(D1:bU K mg "_law_e_dip" zH ["cup","many"] f1 d1)(G1:FnOk P w K mg base CX0 2 f1 d1 ["cup","many"] (j5 K))(D2:bU K mg "_law_e_web_of" Dr ["cup","n"] f2 d2)(G2:FnOk P w K mg base CX0 3 f2 d2 ["cup","n"] (lC K)):
  FnOk P w K mg base CX0 4 f fd ["cup","most"] (uG K):=by
 refine F.ok qN (fun vs H Q E h=> ?_) (fun cdv A outer s H vs Q E hr h=> ?_)
 ·obtain⟨cp,aU,ns,m,b,rfl,_⟩:=h
  rfl
 obtain⟨cp,aU,ns,m,b,rfl,hC,hb,hm0,hm1,q⟩:=h
 refine⟨_,(aZ (dF (i:=2) qN.nd rfl (Or.inl rfl) (pc G1 hr D1 (ak (pv 0) (ak (bN gK (pv 1) aK) aq)))) (aW (bY (pc G2 hr D2 (ak (pv 0) (ak (pv 2) aq)))))),?_⟩
 refine⟨_,rfl,_,rfl,_,_,rfl,rfl,cp,aU,ns,_,b,rfl,hC,by omega,by omega,by omega,fun o H1 JT ho1 x1 c1=> ?_⟩
 refine⟨_,rfl,_,rfl,cp,aU,ns,o,b+1,rfl,c1,by omega,JT,by omega,fun r ts H2 x2 c2 W=>q r o ts H2 (x1.trans x2) (c2.mono (by omega)) W (by omega)⟩
def Em(ts ao:List (Int×Int))(xs:List Int)(y:Int):Bool:=(up xs.length).all fun k=> !aj ts k (xs.length:Int)||aj ao (xs.getD k.toNat 0) y
def oh(no:Int)(ts ao:List (Int×Int)):Nat->List Int->Bool
 |0,_=>true
 |m+1,xs=>(up no.toNat).any fun y=>Em ts ao xs y&&oh no ts ao m (xs++[y])
def Ext(no:Int)(ts ao:List (Int×Int))(m:Nat)(xs zs:List Int):Prop:=zs.length=m/\(∀z∈zs,0<=z/\z<no)/\∀i j:Nat,i<j->xs.length<=j->j<xs.length+m->aj ts (i:Int) (j:Int)=true->aj ao ((xs++zs).getD i 0) ((xs++zs).getD j 0)=true
theorem ext_iff{no:Int}{ts ao:List (Int×Int)}:∀(m:Nat) (xs:List Int),oh no ts ao m xs=true↔∃zs,Ext no ts ao m xs zs
 |0,xs=>⟨fun _=>⟨[],rfl,fun z hz=>(nomatch hz),fun i j _ _ _ _=>by omega⟩,fun _=>rfl⟩
 |m+1,xs=>by
  have at_:∀(y:Int) (zs:List Int),(xs++y::zs).getD xs.length 0=y:=fun y zs=>by rw[mJ,Gz (bD _),GF];rfl
  have lo:∀(i:Nat) (y:Int) (zs:List Int),i<xs.length->(xs++y::zs).getD i 0=xs.getD i 0:=fun i y zs h=>by rw[mJ,HJ h,<-mJ]
  have ap:∀(y:Int) (zs:List Int),xs++[y]++zs=xs++y::zs:=fun y zs=>by rw[Ck];rfl
  show(up no.toNat).any _=true↔_
  rw[Ie]
  constructor
  ·rintro⟨y,hy,h⟩
   rw[fL]at h
   obtain⟨zs,e1,e2,e3⟩:=(ext_iff m (xs++[y])).mp h.2
   have hy':=aH.mp hy
   refine⟨y::zs,by rw[mX,e1],fun z hz=> ?_,fun i j hij hj1 hj2 t=> ?_⟩
   ·rcases fK.mp hz with q|q
    ·rw[q];omega
    ·exact e2 z q
   ·rcases Cg xs.length j with c|c
    ·have:=e3 i j hij (by rw[gO];show xs.length+1<=j;omega) (by rw[gO];show j<xs.length+1+m;omega) t
     rw[ap]at this
     exact this
    ·have ej:j=xs.length:=by omega
     subst ej
     rw[at_,lo i y zs hij]
     have:=iJ.mp h.1 (i:Int) (aH.mpr ⟨by omega,by omega⟩)
     rw[Bool.or_eq_true]at this
     rcases this with q|q
     ·rw[t]at q;cases q
     ·have e:((i:Int)).toNat=i:=by omega
      rw[e]at q;exact q
  ·rintro⟨zs,e1,e2,e3⟩
   cases zs with
   |nil=>cases e1
   |cons y zs=>
    have hy:=e2 y cQ
    refine⟨y,aH.mpr ⟨hy.1,by omega⟩,?_⟩
    rw[fL]
    refine⟨iJ.mpr fun k hk=> ?_,(ext_iff m (xs++[y])).mpr ⟨zs,by rw[mX]at e1;omega,fun z hz=>e2 z (eE _ hz),fun i j hij hj1 hj2 t=> ?_⟩⟩
    ·have hk':=aH.mp hk
     cases ht:aj ts k (xs.length:Int)with
     |false=>rfl
     |true=>
      have:=e3 k.toNat xs.length (by omega) (bD _) (by omega) (by rw[show((k.toNat:Nat):Int)=k by omega];exact ht)
      rw[at_,lo k.toNat y zs (by omega)]at this
      rw[this];rfl
    ·rw[gO]at hj1 hj2
     rw[ap]
     exact e3 i j hij (by have:xs.length+1<=j:=hj1;omega) (by have:j<xs.length+1+m:=hj2;omega) t
theorem sO{n no:Int}{ts ao:List (Int×Int)}(h0:0<=n)(hp:aM n ts):oh no ts ao n.toNat []=true↔∃ys,aF n no ts ao ys=true:=by
 rw[ext_iff]
 constructor
 ·rintro⟨zs,e1,e2,e3⟩
  refine⟨zs,?_⟩
  unfold aF
  rw[fL,fL]
  refine⟨cH (by omega),iJ.mpr fun y hy=> ?_,iJ.mpr fun p hm=> ?_⟩
  ·have:=e2 y hy
   rw[fL]
   exact⟨cH this.1,cH this.2⟩
  ·have l:=hp.lt p hm
   have:=e3 p.1.toNat p.2.toNat (by omega) (eX _) (by show p.2.toNat<0+n.toNat;omega) (by
    rw[show((p.1.toNat:Nat):Int)=p.1 by omega,show((p.2.toNat:Nat):Int)=p.2 by omega,dO l.2.1]
    exact cH hm)
   exact this
 ·rintro⟨ys,h⟩
  unfold aF at h
  rw[fL,fL]at h
  obtain⟨e1,e2,e3⟩:=h
  have e1:=iV e1
  refine⟨ys,by omega,fun z hz=> ?_,fun i j hij _ hj2 t=> ?_⟩
  ·have:=iJ.mp e2 z hz
   rw[fL]at this
   exact⟨iV this.1,iV this.2⟩
  ·rw[dO (by omega)]at t
   exact iJ.mp e3 _ (iV t)
def lE(K:W.Frag)(m:Nat):Sp:=fun vs H Q _=>∃(a b sm:Addr) (n no:Int) (ts ao:List (Int×Int)) (xs:List Int),vs=[.ref a,.ref b,.ref sm]/\aO K H a n ts/\aO K H b no ao/\SqT K H sm (xs.map V.int)/\(xs.length:Int)+m=n/\
 ∀H',Same H H'->Q (.bl (oh no ts ao m xs)) H'
def wW(K:W.Frag):Nat->Sp
 |0=>fun _ _ _ _=>False
 |m+1=>lE K m
theorem lK:FnScope ["web","other","some","place","there"] ["web","other","some"] (defScope wK):=fsc
theorem qT{f f1 f2:Addr}{fd d1 d2:FuncData}{m lv:Nat}(F:Fun K "_law_e_any" "_law_e_any" wK f fd)(D1:bU K mg "_law_e_tied" wA ["web","one","other"] f1 d1)(Kw:FnOk P w K mg base CX0 1 f1 d1 ["web","one","other"] (cJ K))(D2:bU K mg "_law_e_any" wK ["web","other","some"] f2 d2)(G2:FnOk P w K mg base CX0 lv f2 d2 ["web","other","some"] (wW K m))(CQ:1<=lv)(bh:mg "len"=none)(aA:mg "range"=none)(cC:mg "all"=none):
  FnOk P w K mg base CX0 (lv+1) f fd ["web","other","some"] (lE K m):=by
 have G1:FnOk P w K mg base CX0 lv f1 d1 ["web","one","other"] (cJ K):=Kw.mono CQ
 refine F.ok lK (fun vs H Q E h=> ?_) (fun cdv A outer s H vs Q E hr h=> ?_)
 ·obtain⟨a,b,sm,n,no,ts,ao,xs,rfl,_⟩:=h
  rfl
 obtain⟨a,b,sm,n,no,ts,ao,xs,rfl,hA,hB,hX,hm,qq⟩:=h
 refine⟨_,(aZ (dF (i:=3) lK.nd rfl (Or.inr rfl) (cG tX rfl bh rM (ak (pv 2) aq))) (aZ (fM (iU op_eq (pv 3) (bR dZ (pv 0) aK (fun _ _=>rfl)) (nomark _)) (aW (bY mH)) gM) (aZ (oN oV rfl (rK rfl aA (ak (bR dZ (pv 1) aK (fun _ _=>rfl)) aq)) (cF (i:=4) lK.nd rfl (Or.inr rfl)) (aW (fM (jN (cG (zF rfl) rfl cC (by decide+kernel) (ak (mU (own:=["k"]) (caps:=["web","place","other","some","there"]) (ix:=[0,3,1,2,4]) rfl (rK rfl aA (ak (pv 3) aq)) rfl rfl (.cons rfl rfl (.cons rfl rfl (.cons rfl rfl (.cons rfl rfl (.cons rfl rfl .nil))))) (fun _ _ _ _ _=>(cF (i:=0) (show(["k","web","place","other","some","there"]:List Str).Nodup from by decide+kernel) rfl (Or.inl rfl))) (fun _ _ _ _ _=>gb (jN (pc G1 hr D1 (ak (pv 1) (ak (pv 0) (ak (pv 2) aq)))))) (fun _ _ _ _ _=>(pc G1 hr D1 (ak (pv 3) (ak (bR (yE K) (pv 4) (pv 0) (fun _ _=>rfl)) (ak (pv 5) aq)))))) aq))) (aW (fM (jN (pc G2 hr D2 (ak (pv 0) (ak (pv 1) (ak (bN qQ (pv 2) (jM (ak (pv 4) aq))) aq))))) (aW (bY mH)) gM)) gM))) (aW (bY mH))))),?_⟩
 have h0:=hA.h0
 have h10:=hA.h1
 have h0':=hB.h0
 have Kf:=hB.h1
 obtain⟨Jc,Jm,w1,_,_⟩:=id hA.web
 obtain⟨Hq,Hv,y1,_,_⟩:=id hB.web
 refine⟨_,rfl,sm,_,rfl,.inr hX,fun _=> ?_⟩
 rw[aQ]
 refine⟨_,rfl,_,rfl,a,_,_,.int n,rfl,rfl,w1,rfl,rfl,_,rfl,?_⟩
 cases m with
 |zero=>
  have eb:decide (V.int ((xs.length:Nat):Int)=V.int n)=true:=cH (was V.int (by omega))
  dsimp only[gName,List.set]
  rw[eb]
  refine iteT ?_
  exact qq H (Same.refl _)
 |succ m=>
 have eb:decide (V.int ((xs.length:Nat):Int)=V.int n)=false:=fQ fun z=>by have:=V.int.inj z;omega
 dsimp only[gName,List.set]
 rw[eb]
 refine iteF ?_
 refine⟨_,rfl,b,_,_,.int no,rfl,rfl,y1,rfl,no,rfl,by omega,by omega,?_⟩
 refine tY (n:=no.toNat) (fun i σ H'=>Same H H'/\(∀j:Nat,j<i->(Em ts ao xs (j:Int)&&oh no ts ao m (xs++[(j:Int)]))=false)/\∃o4,σ=[some (.ref a),some (.ref b),some (.ref sm),some (.int ((xs.length:Nat):Int)),o4]) ⟨Same.refl _,fun j hj=>by omega,_,rfl⟩ (fun i σ H' hi p=> ?_) (fun σ H' p=> ?_)
 ·obtain⟨CJ,hno,o4,rfl⟩:=p
  refine⟨_,rfl,_,rfl,by omega,by omega,?_⟩
  have ei:(0:Int)+(i:Int)=(i:Int):=by omega
  rw[ei]
  have hA':=hA.same CJ
  have hB':=hB.same CJ
  have hX':=CJ.tup hX
  refine yI (n:=xs.length) (fun k acc σ H2=>Same H' H2/\acc=(((up k).filter fun t=>aj ts t (xs.length:Int)).map fun t=>aj ao (xs.getD t.toNat 0) (i:Int)).map V.bl/\∃o1,σ=[o1,some (.ref a),some (.int ((xs.length:Nat):Int)),some (.ref b),some (.ref sm),some (.int (i:Int))]) ⟨Same.refl _,rfl,_,rfl⟩ (fun k acc σ H2 hk p=> ?_) (by rw[eF];omega) (fun k acc σ H2 hk p=> ?_) (fun acc σ H2 p=> ?_)
  ·rw[p.2.1,aQ,aQ]
   exact cP (yO _ _) (by rw[bO];exact bD _)
  ·obtain⟨s2,rfl,o1,rfl⟩:=p
   have go:(up (k+1)).filter (fun t=>aj ts t (xs.length:Int))=(up k).filter (fun t=>aj ts t (xs.length:Int))++(if aj ts (k:Int) (xs.length:Int)=true then[(k:Int)]else[]):=by
    unfold up
    rw[Dt,bV,Cm]
    congr 1
    show List.filter _ [(k:Int)]=_
    rw[yK];rfl
   have ek:(0:Int)+(k:Int)=(k:Int):=by omega
   rw[ek]
   refine⟨_,rfl,_,rfl,_,rfl,a,n,(k:Int),((xs.length:Nat):Int),ts,rfl,(hA'.same s2).web,fun H3 s3=>⟨_,rfl,?_⟩⟩
   refine ite2 (fun c=> ?_) (fun c=> ?_)
   ·have hxk:atI (xs.map V.int) (k:Int)=some (.int (xs.getD k 0)):=atI_nat (by rw[dH,mJ,jQ hk];rfl)
    refine⟨_,rfl,_,rfl,_,rfl,sm,_,_,.int (xs.getD k 0),rfl,rfl,(s2.trans s3).tup hX',hxk,_,rfl,b,no,xs.getD k 0,(i:Int),ao,rfl,(hB'.same (s2.trans s3)).web,fun H4 s4=> ?_⟩
    refine⟨s2.trans (s3.trans s4),?_,_,rfl⟩
    rw[go,aN c,bV,bV];rfl
   ·exact⟨s2.trans s3,by rw[go,aP c,mW],_,rfl⟩
  ·intro p1 hp1
   obtain⟨s2,rfl,_⟩:=p
   have s3:=aY hp1 (.lst ((((up xs.length).filter fun t=>aj ts t (xs.length:Int)).map fun t=>aj ao (xs.getD t.toNat 0) (i:Int)).map V.bl))
   refine⟨p1,_,rfl,SqL.of aL,_,rfl,?_⟩
   have CK:=s2.trans s3
   generalize (upd H2 p1 (.lst ((((up xs.length).filter fun t=>aj ts t (xs.length:Int)).map fun t=>aj ao (xs.getD t.toNat 0) (i:Int)).map V.bl)))=H4 at *
   have en:(((up xs.length).filter fun t=>aj ts t (xs.length:Int)).map fun t=>aj ao (xs.getD t.toNat 0) (i:Int)).all id=Em ts ao xs (i:Int):=by
    unfold Em
    rw[mY,iJ,iJ]
    constructor
    ·intro h k hk
     cases ht:aj ts k (xs.length:Int)with
     |false=>rfl
     |true=>
      have:=h _ (cR.mpr ⟨k,kZ.mpr ⟨hk,ht⟩,rfl⟩)
      have this:aj ao (xs.getD k.toNat 0) (i:Int)=true:=this
      rw[this];rfl
    ·intro h z hz
     obtain⟨k,hk,rfl⟩:=cR.mp hz
     obtain⟨k1,k2⟩:=kZ.mp hk
     have:=h k k1
     rw[k2]at this
     exact this
   rw[en]
   have Jj:=CJ.trans CK
   cases hn:Em ts ao xs (i:Int)with
   |false=>
    refine iteF ?_
    refine⟨Jj,fun j hj=> ?_,_,rfl⟩
    rcases Cg j i with q|q
    ·exact hno j q
    ·rw[show j=i by omega,hn];rfl
   |true=>
    refine iteT ?_
    have hl:xs.length<=10:=by omega
    refine⟨_,rfl,_,rfl,_,rfl,_,rfl,(by show 1<=sizeLine;decide),fun t ht=>⟨sm,t,_,_,rfl,rfl,(aY ht _).tup (Jj.tup hX),SqT.of aL,by rw[aQ,eF];show xs.length+1<=_;omega,fun r H6 s6 JN=> ?_⟩⟩
    have Ht:=Jj.trans ((aY ht (.tup [.int (i:Int)])).trans s6)
    have JM:SqT K H6 r ((xs++[(i:Int)]).map V.int):=by rw[bV];exact JN
    refine⟨a,b,r,n,no,ts,ao,xs++[(i:Int)],rfl,hA.same Ht,hB.same Ht,JM,by rw[gO];show((xs.length+1:Nat):Int)+m=n;omega,fun H7 s7=>⟨_,rfl,?_⟩⟩
    cases he:oh no ts ao m (xs++[(i:Int)])with
    |true=>
     refine iteT ?_
     have e:oh no ts ao (m+1) xs=true:=by
      show(up no.toNat).any _=true
      rw[Ie]
      exact⟨(i:Int),aH.mpr ⟨by omega,by omega⟩,by rw[hn,he];rfl⟩
     rw[e]at qq
     exact qq H7 (Ht.trans s7)
    |false=>
     refine iteF ?_
     refine⟨Ht.trans s7,fun j hj=> ?_,_,rfl⟩
     rcases Cg j i with q|q
     ·exact hno j q
     ·rw[show j=i by omega,hn,he];rfl
 ·obtain⟨CJ,hno,o4,rfl⟩:=p
  have e:oh no ts ao (m+1) xs=false:=by
   show(up no.toNat).any _=false
   rw[Hi]
   intro y hy
   have:=aH.mp hy
   have:=hno y.toNat (by omega)
   rw[show((y.toNat:Nat):Int)=y by omega]at this
   rw[this];decide
  rw[e]at qq
  exact qq H' CJ
theorem vq{f f1:Addr}{fd d1:FuncData}(F:Fun K "_law_e_any" "_law_e_any" wK f fd)(D1:bU K mg "_law_e_tied" wA ["web","one","other"] f1 d1)(G1:FnOk P w K mg base CX0 1 f1 d1 ["web","one","other"] (cJ K))
  (D:bU K mg "_law_e_any" wK ["web","other","some"] f fd)(bh:mg "len"=none)(aA:mg "range"=none)(cC:mg "all"=none):∀m:Nat,FnOk P w K mg base CX0 (m+3) f fd ["web","other","some"] (lE K m)
 |0=>qT F D1 G1 D (lv:=2) n8 (by decide) bh aA cC
 |m+1=>qT F D1 G1 D (lv:=m+3) (m:=m+1) (vq F D1 G1 D bh aA cC m) (by omega) bh aA cC
def qK(K:W.Frag):Sp:=fun vs H Q E=>∃m,m<=10/\lE K m vs H Q E
theorem xT{f f1:Addr}{fd d1:FuncData}(F:Fun K "_law_e_any" "_law_e_any" wK f fd)(D1:bU K mg "_law_e_tied" wA ["web","one","other"] f1 d1)(G1:FnOk P w K mg base CX0 1 f1 d1 ["web","one","other"] (cJ K))
  (D:bU K mg "_law_e_any" wK ["web","other","some"] f fd)(bh:mg "len"=none)(aA:mg "range"=none)(cC:mg "all"=none):FnOk P w K mg base CX0 13 f fd ["web","other","some"] (qK K):=by
 have all:=vq F D1 G1 D bh aA cC
 refine⟨fun vs H Q E h=> ?_,fun A outer s H args us vs Q E hr he hb hv h=> ?_⟩
 ·obtain⟨m,hm,h⟩:=h
  exact(all m).len vs H Q E h
 ·obtain⟨m,hm,h⟩:=h
  exact((all m).mono (by omega)).run A outer s H args us vs Q E hr he hb hv h
def uH(K:W.Frag):Sp:=fun vs H Q _=>∃n:Int,vs=[.int n]/\0<=n/\n<=10/\∀r H',Same H H'->aO K H' r n (rows tt n n.toNat)->Q (.ref r) H'
theorem lM:FnScope ["n","ties","i"] ["n"] (defScope Gm):=fsc
theorem xR{f:Addr}{fd:FuncData}(F:Fun K "_law_e_all_tied" "_law_e_all_tied" Gm f fd)(aA:mg "range"=none)(aJ:mg "tuple"=none):
  FnOk P w K mg base CX0 1 f fd ["n"] (uH K):=by
 refine F.ok lM (fun vs H Q E h=> ?_) (fun cdv A outer s H vs Q E hr h=> ?_)
 ·obtain⟨n,rfl,_⟩:=h
  rfl
 obtain⟨n,rfl,hn0,hn1,q⟩:=h
 refine⟨_,(aZ (dF (i:=1) lM.nd rfl (Or.inl rfl) (pe_lst aq)) (aZ (oN oV rfl (rK rfl aA (ak (pv 0) aq)) (cF (i:=2) lM.nd rfl (Or.inr rfl)) (aW (rJ (pe_bm zR PySem.F.slot_list_extend PySem.F.type_list_extend mt_extend (pv 1) (ak (mU (own:=["j"]) (caps:=["i"]) (ix:=[2]) rfl (BR rfl aA (ak (bN gK (pv 2) aK) (ak (pv 0) aq))) rfl rfl (.cons rfl rfl .nil) (fun _ _ _ _ _=>(cF (i:=0) (show(["j","i"]:List Str).Nodup from by decide+kernel) rfl (Or.inl rfl))) (fun _ _ _ _ _=>qe) (fun _ _ _ _ _=>(jM (ak (pv 1) (ak (pv 0) aq))))) aq))))) (aW (bY (jM (ak (pv 0) (ak (tZ uc rfl aJ (by decide+kernel) (ak (pv 1) aq)) aq))))))),?_⟩
 refine⟨(by show 0<=sizeLine;decide),fun l hl=> ?_⟩
 refine⟨_,rfl,n,rfl,by omega,by omega,?_⟩
 refine tY (n:=n.toNat) (fun i σ H'=>Same H H'/\(∃rs,H' l=some (.lst rs)/\bH K H' rs ((rows tt n i).map pairD))/\∃o,σ=[some (.int n),some (.ref l),o]) ⟨aY hl _,⟨[],aL,.nil⟩,_,rfl⟩ (fun i σ H' hi p=> ?_) (fun σ H' p=> ?_)
 ·obtain⟨sm,⟨rs,hr1,hr2⟩,o,rfl⟩:=p
  have hlen:=hr2.len
  rw[aQ]at hlen
  have Lx:=BP (cI (so:=tt) (m:=n) (i:=i)) hn1
  refine⟨_,rfl,.inl ⟨rfl,_,SqL.of hr1⟩,_,rfl,_,_,rfl,rfl,_,rfl,_,_,rfl,⟨by omega,by omega,by omega,by omega⟩,?_⟩
  refine yI (n:=(n-(0+(i:Int)+1)).toNat) (fun k acc σ H2=>Same H' H2/\acc.length=k/\bH K H2 acc ((row tt (0+(i:Int)) k).map pairD)/\∃o1,σ=[o1,some (.int (0+(i:Int)))]) ⟨Same.refl _,rfl,.nil,_,rfl⟩ (fun k acc σ H2 hk p=>by rw[p.2.1];exact bD _) (by rw[eF];omega) (fun k acc σ H2 hk p=> ?_) (fun acc σ H2 p=> ?_)
  ·obtain⟨s2,hl2,hd,o1,rfl⟩:=p
   refine⟨_,rfl,_,rfl,(by show 2<=sizeLine;decide),fun p hp=> ?_⟩
   have s3:=aY hp (.tup [.int (0+(i:Int)),.int (0+(i:Int)+1+(k:Int))])
   refine⟨s2.trans s3,by rw[gO,hl2];rfl,?_,_,rfl⟩
   rw[cW,bV,aN (show tt (0+(i:Int)) (0+(i:Int)+1+(k:Int))=true from rfl)]
   exact(hd.same s3).append (.cons (.tup (SqT.of aL) (.cons (.int _) (.cons (.int _) .nil))) .nil)
  ·intro p1 hp1
   obtain⟨s2,hl2,hd,_⟩:=p
   have s3:=aY hp1 (.lst acc)
   have Lr:=s3 _ _ (s2 _ _ hr1)
   refine⟨l,p1,rs,acc,rfl,rfl,Lr,aL,?_,?_⟩
   ·rw[eF];omega
   ·have x4:aB l (upd H2 p1 (.lst acc)) (upd (upd H2 p1 (.lst acc)) l (.lst (rs++acc))):=(aB.refl _ _).upd
    refine⟨?_,⟨_,aL,?_⟩,_,rfl⟩
    ·intro b o hb
     have nb:b≠l:=fun e=>by rw[e,hl]at hb;cases hb
     exact x4 _ _ nb (s3 _ _ (s2 _ _ (sm _ _ hb)))
    ·rw[zG]
     exact Dj x4 Lr (by rw[bV];exact((hr2.same s2).same s3).append (hd.same s3))
 ·obtain⟨sm,⟨rs,hr1,hr2⟩,o,rfl⟩:=p
  refine⟨_,rfl,_,rfl,l,rs,rfl,.inl ⟨SqL.of hr1,fun t ht=>⟨(by show 2<=sizeLine;decide),fun wb vJ=> ?_⟩⟩⟩
  have s3:=aY ht (.tup rs)
  have s4:=aY vJ (.tup [.int n,.ref t])
  have qO:=s3.trans s4
  obtain⟨g1,g2⟩:=eY hn0 hn1 (G9 (rows tt n n.toNat))
  exact q wb _ (sm.trans qO) ⟨⟨t,rs,SqT.of aL,SqT.of (s4 _ _ aL),hr2.same qO⟩,hn0,hn1,g1,g2⟩
def jO(ts:List (Int×Int))(i j:Int):Bool:= !aj ts i j
theorem Bv{n:Int}{ts:List (Int×Int)}(h0:0<=n)(h1:n<=10):aM n (rows (jO ts) n n.toNat)/\rF n (rows (jO ts) n n.toNat):=
 ⟨cI,oR h0 h1 cI ((Dk (jO ts) n n.toNat).imp qY)⟩
theorem jY{n:Nat}{s:List Int}(h:s.Sublist (up n)):s.Pairwise (· < ·):=KH h (iz n)
def yX(K:W.Frag):Sp:=fun vs H Q _=>∃(a:Addr) (n:Int) (ts:List (Int×Int)),vs=[.ref a]/\aO K H a n ts/\
 ∀(m:Int) H',Same H H'->(∀s:List Int,s.Sublist (up n.toNat)->(s.Pairwise fun a b=>aj ts a b=true)->(s.length:Int)<=m)->0<=m->m<=n->Q (.int m) H'
theorem lJ:FnScope ["web","ties","i","j"] ["web"] (defScope Gq):=fsc
theorem Aq{f f1 f2:Addr}{fd d1 d2:FuncData}(F:Fun K "_law_e_crowd_size" "_law_e_crowd_size" Gq f fd)(D1:bU K mg "_law_e_tied" wA ["web","one","other"] f1 d1)(G1:FnOk P w K mg base CX0 1 f1 d1 ["web","one","other"] (cJ K))(D2:bU K mg "_law_e_apart_sets" Gp ["web","left"] f2 d2)(G2:FnOk P w K mg base CX0 2 f2 d2 ["web","left"] (qJ K))(aA:mg "range"=none)(nM:mg "max"=none)(aJ:mg "tuple"=none)(Az:mg "list"=none)(bh:mg "len"=none):
  FnOk P w K mg base CX0 3 f fd ["web"] (yX K):=by
 refine F.ok lJ (fun vs H Q E h=> ?_) (fun cdv A outer s H vs Q E hr h=> ?_)
 ·obtain⟨a,n,ts,rfl,_⟩:=h
  rfl
 obtain⟨a,n,ts,rfl,hA,q⟩:=h
 refine⟨_,(aZ (dF (i:=1) lJ.nd rfl (Or.inl rfl) (pe_lst aq)) (aZ (oN oV rfl (rK rfl aA (ak (bR dZ (pv 0) aK (fun _ _=>rfl)) aq)) (cF (i:=2) lJ.nd rfl (Or.inl rfl)) (aW (oN oV rfl (BR rfl aA (ak (bN gK (pv 2) aK) (ak (bR dZ (pv 0) aK (fun _ _=>rfl)) aq))) (cF (i:=3) lJ.nd rfl (Or.inl rfl)) (aW (fM (mQ (jN (pc G1 hr D1 (ak (pv 0) (ak (pv 2) (ak (pv 3) aq)))))) (aW (rJ (pe_bm zR CG Cz BL (pv 1) (ak (jM (ak (pv 2) (ak (pv 3) aq))) aq)))) gM))))) (aW (bY (cG (sV rfl) rfl nM (by decide+kernel) (ak (mU (own:=["one"]) (caps:=[]) (ix:=[]) rfl (gj (pc G2 hr D2 (ak (jM (ak (bR dZ (pv 0) aK (fun _ _=>rfl)) (ak (tZ uc rfl aJ (by decide+kernel) (ak (pv 1) aq)) aq))) (ak (nA rfl rfl Az rfl aA (ak (bR dZ (pv 0) aK (fun _ _=>rfl)) aq)) aq)))) rfl rfl .nil (fun _ _ _ _ _=>(cF (i:=0) (show(["one"]:List Str).Nodup from by decide+kernel) rfl (Or.inl rfl))) (fun _ _ _ _ _=>qe) (fun _ _ _ _ _=>(cG (ig K) rfl bh rM (ak (pv 0) aq)))) aq)))))),?_⟩
 have hn0:=hA.h0
 have hn1:=hA.h1
 refine⟨(by show 0<=sizeLine;decide),fun l hl=> ?_⟩
 have s0:=aY hl (.lst [])
 obtain⟨Jc,Jm,w1,_,_⟩:=id (hA.same s0).web
 refine⟨_,rfl,a,_,_,.int n,rfl,rfl,w1,rfl,n,rfl,by omega,by omega,?_⟩
 refine tY (n:=n.toNat) (fun i σ H'=>Same H H'/\(∃rs,H' l=some (.lst rs)/\bH K H' rs ((rows (jO ts) n i).map pairD))/\∃o1 o2,σ=[some (.ref a),some (.ref l),o1,o2]) ⟨s0,⟨[],aL,.nil⟩,_,_,rfl⟩ (fun i σ H' hi p=> ?_) (fun σ H' p=> ?_)
 ·obtain⟨sm,hrs,o1,o2,rfl⟩:=p
  obtain⟨Hq,Hv,w2,_,_⟩:=id (hA.same sm).web
  refine⟨_,rfl,_,_,rfl,rfl,_,rfl,a,_,_,.int n,rfl,rfl,w2,rfl,_,_,rfl,⟨by omega,by omega,by omega,by omega⟩,?_⟩
  refine tY (n:=(n-(0+(i:Int)+1)).toNat) (fun k σ H'=>Same H H'/\(∃rs,H' l=some (.lst rs)/\bH K H' rs ((rows (jO ts) n i++row (jO ts) (0+(i:Int)) k).map pairD))/\∃o2,σ=[some (.ref a),some (.ref l),some (.int (0+(i:Int))),o2])
   ⟨sm,by rw[show row (jO ts) (0+(i:Int)) 0=[]from rfl,mW];exact hrs,_,rfl⟩ (fun k σ H' hk p=> ?_) (fun σ H' p=> ?_)
  ·obtain⟨sm,⟨rs,h1,h2⟩,o2,rfl⟩:=p
   refine⟨_,rfl,_,rfl,_,rfl,a,n,0+(i:Int),0+(i:Int)+1+(k:Int),ts,rfl,(hA.same sm).web,fun H2 s2=>⟨_,rfl,?_⟩⟩
   have er:rows (jO ts) n i++row (jO ts) (0+(i:Int)) (k+1)=(rows (jO ts) n i++row (jO ts) (0+(i:Int)) k)++(if jO ts (0+(i:Int)) (0+(i:Int)+1+(k:Int))=true then[(0+(i:Int),0+(i:Int)+1+(k:Int))]else[]):=by rw[cW,Ck]
   rw[er]
   cases ht:aj ts (0+(i:Int)) (0+(i:Int)+1+(k:Int))with
   |true=>
    refine iteF ?_
    refine⟨sm.trans s2,⟨rs,s2 _ _ h1,?_⟩,_,rfl⟩
    rw[aP (by unfold jO;rw[ht];decide),mW]
    exact h2.same s2
   |false=>
    refine iteT ?_
    have hrl:=h2.len
    rw[aQ]at hrl
    have NT:(rows (jO ts) n i++row (jO ts) (0+(i:Int)) k).length<=100:=by
     rw[gO]
     have:=BP (cI (so:=jO ts) (m:=n) (i:=i)) hn1
     have:(row (jO ts) (0+(i:Int)) k).length<=k:=by
      unfold row
      exact cP (yO _ _) (by rw[aQ,List.length_range];exact bD _)
     omega
    have h1':=s2 _ _ h1
    refine⟨_,rfl,.inl ⟨rfl,_,SqL.of h1'⟩,_,rfl,_,rfl,(by show 2<=sizeLine;decide),fun p hp=> ?_⟩
    have s3:=aY hp (.tup [.int (0+(i:Int)),.int (0+(i:Int)+1+(k:Int))])
    have h13:=s3 _ _ h1'
    refine⟨l,rs,_,rfl,rfl,h13,(by rw[eF];omega),?_⟩
    have xw:aB l (upd H2 p (.tup [.int (0+(i:Int)),.int (0+(i:Int)+1+(k:Int))])) (upd (upd H2 p (.tup [.int (0+(i:Int)),.int (0+(i:Int)+1+(k:Int))])) l (.lst (rs++[.ref p]))):=(aB.refl _ _).upd
    refine⟨fun c o e=>xw _ _ (jP e hl) (s3 _ _ (s2 _ _ (sm _ _ e))),⟨_,aL,?_⟩,_,rfl⟩
    rw[aN (by unfold jO;rw[ht];rfl),bV]
    have dd:=(h2.same s2).same s3
    have tp:SqT K (upd H2 p (.tup [.int (0+(i:Int)),.int (0+(i:Int)+1+(k:Int))])) p [.int (0+(i:Int)),.int (0+(i:Int)+1+(k:Int))]:=SqT.of aL
    exact(Dj xw h13 dd).append (.cons (.tup (xw.tup h13 tp) (.cons (.int _) (.cons (.int _) .nil))) .nil)
  ·obtain⟨sm,hrs,o2,rfl⟩:=p
   rw[<-zG]at hrs
   exact⟨sm,hrs,_,_,rfl⟩
 ·obtain⟨sm,⟨rs,h1,h2⟩,o1,o2,rfl⟩:=p
  obtain⟨Hq,Hv,w2,_,_⟩:=id (hA.same sm).web
  refine⟨_,rfl,a,_,_,.int n,rfl,rfl,w2,rfl,_,rfl,l,rs,rfl,.inl ⟨SqL.of h1,fun t ht=>⟨(by show 2<=sizeLine;decide),fun wb vJ=> ?_⟩⟩⟩
  have s3:=aY ht (.tup rs)
  have s4:=aY vJ (.tup [.int n,.ref t])
  have qO:=s3.trans s4
  obtain⟨g1,g2⟩:=Bv (ts:=ts) hn0 hn1
  have hC:aO K (upd (upd H' t (.tup rs)) wb (.tup [.int n,.ref t])) wb n (rows (jO ts) n n.toNat):=⟨⟨t,rs,SqT.of aL,SqT.of (s4 _ _ aL),h2.same qO⟩,hn0,hn1,g1,g2⟩
  have K7:=sm.trans qO
  generalize (upd (upd H' t (.tup rs)) wb (.tup [.int n,.ref t]))=H4 at *
  obtain⟨MK,M9,w5,_,_⟩:=id (hA.same K7).web
  refine⟨_,rfl,a,_,_,.int n,rfl,rfl,w5,rfl,n,rfl,hn0,by omega,fun lr hlr=> ?_⟩
  rw[qp]
  have s5:=aY hlr (.lst ((up n.toNat).map V.int))
  refine⟨wb,lr,n,_,up n.toNat,rfl,hC.same s5,SqL.of aL,by rw[bO];omega,fun r H6 s6 ⟨its,j1,j2,j3⟩=> ?_⟩
  have MN:=K7.trans (s5.trans s6)
  refine⟨r,_,rfl,SqL.of j1,fun hz=> ?_⟩
  refine gZ (xs:=its.map fun p=>V.ref p.1) (fun i acc σ H'=>acc=((its.take i).map fun p=>(p.2.length:Int)).map V.int/\H'=H6/\∃o1,σ=[o1]) ⟨rfl,rfl,_,rfl⟩ (fun i acc σ H' _ p=>by rw[p.2.1];exact SqL.of j1) (fun i acc σ H' hi p=>by rw[p.1,aQ,aQ,zL];exact Ds _ _) hz (fun i u acc σ H' hu p=> ?_) (fun acc σ H' p=> ?_)
  ·obtain⟨rfl,rfl,o1,rfl⟩:=p
   rw[dH]at hu
   cases ei:its[i]? with
   |none=>rw[ei]at hu;cases hu
   |some v=>
    rw[ei]at hu
    cases hu
    refine⟨_,rfl,v.1,_,rfl,.inr (j2 v (tR ei)),fun _=>⟨?_,rfl,_,rfl⟩⟩
    rw[ql,ei,bV,bV,aQ];rfl
  ·intro p1 hp1
   obtain⟨rfl,rfl,_⟩:=p
   rw[aQ,oO]
   have Ln:∀s:List Int,Mv (rows (jO ts) n n.toNat) (up n.toNat) s->∃v∈its,v.2=s:=fun s hs=>by
    have:s∈its.map fun p=>p.2:=by rw[j3];exact(jx rfl).mpr hs
    exact cR.mp this
   refine⟨p1,its.map (fun p=>(p.2.length:Int)),rfl,SqL.of aL,fun z=> ?_,fun m hm hmax=> ?_⟩
   ·obtain⟨v,hv,_⟩:=Ln [] ⟨List.nil_sublist _,List.Pairwise.nil⟩
    rw[List.map_eq_nil_iff.mp z]at hv;cases hv
   ·refine q m _ (MN.trans (aY hp1 _)) (fun s hs hc=> ?_) ?_ ?_
    ·obtain⟨v,hv,rfl⟩:=Ln s ⟨hs,by
      refine Hl (fun{x y} hx hy z=> ?_) (List.Pairwise.and (jY hs) hc)
      have bx:=aH.mp (hs.subset hx)
      have by':=aH.mp (hs.subset hy)
      rw[dO z.1]
      refine fQ fun w=> ?_
      have:=(wu.mp w).2.2.2.2
      unfold jO at this
      dsimp only at this
      rw[z.2]at this;cases this⟩
     exact hmax _ (cR.mpr ⟨v,hv,rfl⟩)
    ·obtain⟨v,hv,rfl⟩:=cR.mp hm
     omega
    ·obtain⟨v,hv,rfl⟩:=cR.mp hm
     have:v.2∈gD (rows (jO ts) n n.toNat) (up n.toNat):=by rw[<-j3];exact cR.mpr ⟨v,hv,rfl⟩
     have:=((jx rfl).mp this).sub.length_le
     rw[bO]at this
     omega
def mZ(K:W.Frag):Sp:=fun vs H Q _=>∃(a b:Addr) (n no:Int) (ts ao:List (Int×Int)) (t ri:Bool),vs=[.ref a,.ref b,.bl t]/\aO K H a n ts/\aO K H b no ao/\(ri=true->n<=no/\∀x y,0<=x->x<no->0<=y->y<no->x≠y->aj ao x y=true)/\jF ri (Sw.cst no.toNat n.toNat)<=16000000/\(t=true↔∃ys,aF n no ts ao ys=true)/\
 ∀H',Same H H'->Q (.bl true) H'
theorem j7:FnScope ["web","other","there_is","found"] ["web","other","there_is"] (defScope Gj):=fsc
theorem sE{f f1 f2 f3:Addr}{fd d1 d2 d3:FuncData}(F:Fun K "_law_e_right" "_law_e_right" Gj f fd)(D1:bU K mg "way_into" Gb ["web","other"] f1 d1)(G1:FnOk P w K mg base CX0 25 f1 d1 ["web","other"] (jZ K))(D2:bU K mg "is_way" fX ["web","other","some"] f2 d2)(G2:FnOk P w K mg base CX0 8 f2 d2 ["web","other","some"] (yU K))(D3:bU K mg "_law_e_leads" Gi ["web","other","some"] f3 d3)(G3:FnOk P w K mg base CX0 2 f3 d3 ["web","other","some"] (qH K)):
  FnOk P w K mg base CX0 26 f fd ["web","other","there_is"] (mZ K):=by
 refine F.ok j7 (fun vs H Q E h=> ?_) (fun cdv A outer s H vs Q E hr h=> ?_)
 ·obtain⟨a,b,n,no,ts,ao,t,ri,rfl,_⟩:=h
  rfl
 obtain⟨a,b,n,no,ts,ao,t,ri,rfl,hA,hB,hri,Ls,ht,qq⟩:=h
 refine⟨_,(aZ (dF (i:=3) j7.nd rfl (Or.inl rfl) (pc G1 hr D1 (ak (pv 0) (ak (pv 1) aq)))) (aZ (fM (mQ (jN (pv 2))) (aW (bY (pe_cmpR op_isN (pv 3) pe_non (nomark _)))) gM) (aW (bY (pe_and (pc G3 hr D3 (ak (pv 0) (ak (pv 1) (ak (pv 3) aq)))) (pe_one (pe_cmpR Ag (pc G2 hr D2 (ak (pv 0) (ak (pv 1) (ak (pv 3) aq)))) mH (nomark _)))))))),?_⟩
 refine⟨_,rfl,_,rfl,a,b,n,no,ts,ao,ri,rfl,hA,hB,hri,Ls,fun v H1 s1 hv=> ?_⟩
 refine⟨_,rfl,_,rfl,?_⟩
 rcases hv with⟨rfl,hno⟩|⟨r,ys,rfl,hr',hl⟩
 ·have tf:t=false:=by
   cases e:t with
   |false=>rfl
   |true=>exact absurd (ht.mp e) hno
  subst tf
  refine iteT ?_
  refine⟨_,rfl,rfl,?_⟩
  exact qq H1 s1
 ·have te:t=true:=ht.mpr ⟨ys,hl⟩
  subst te
  refine iteF ?_
  refine⟨_,rfl,_,rfl,_,rfl,a,b,r,n,no,ts,ao,ys,rfl,hA.same s1,hB.same s1,hr',fun H2 s2=> ?_⟩
  rw[hl]
  refine⟨_,rfl,?_⟩
  refine iteT ?_
  have s12:=s1.trans s2
  refine⟨_,rfl,_,rfl,_,rfl,a,b,r,n,no,ts,ao,ys,rfl,hA.same s12,hB.same s12,s2.tup hr',fun H3 s3=> ?_⟩
  rw[hl]
  exact⟨_,_,rfl,rfl,qq H3 (s12.trans s3)⟩
theorem yt{H:Hp}{a p:Addr}{ns:List Int}(hS:iM K H a ns)(h63:ns.length<=63)(hp:H p=none):bM K (upd H p (.lst [.ref a,.int 0,.int 0])) p a ns 0:=
 ⟨uw hS h63 hp,0,0,aL,DG _⟩
theorem gw{m m':Nat}(h:m<=m'):∀{l l':Nat},l<=l'->Sw.cst m l<=Sw.cst m' l'
 |0,_,_=>eX _
 |l+1,0,h2=>by omega
 |l+1,l'+1,h2=>by
  show 1+m*Sw.cst m l<=1+m'*Sw.cst m' l'
  have:=Nat.mul_le_mul h (gw h (show l<=l' by omega))
  omega
theorem pH{n no:Int}{ts ao:List (Int×Int)}(h0:0<=n)(h1:n<=no)(hp:aM n ts)(h:∀x y,0<=x->x<no->0<=y->y<no->x≠y->aj ao x y=true):∃ys,aF n no ts ao ys=true:=by
 have hok:=qu (ao:=ao) hp
 have kl:(st0 n no).length=n.toNat:=by unfold st0;rw[aQ,bO]
 obtain⟨g,hg⟩:=Sw.fZ (no:=no) (k:=st0 n no) hok _ rfl (ux h0 (by omega)).nd ⟨h,fun p hp=>by
  rw[(yG.mp hp).2,kl,bO]
  refine⟨(iz _).imp fun h e=>by omega,fun y hy=> ?_,by omega⟩
  have:=aH.mp hy
  omega⟩
 exact⟨_,j6 h0 (by omega) hp hg⟩
theorem sJ{n x y:Int}(x0:0<=x)(x1:x<n)(y0:0<=y)(y1:y<n)(ne:x≠y):aj (rows tt n n.toNat) x y=true:=by
 have go:∀a b:Int,0<=a->a<b->b<n->aj (rows tt n n.toNat) a b=true:=fun a b h0 h1 h2=>by
  rw[dO h1]
  exact cH (wu.mpr ⟨h0,by show a<(n.toNat:Int);omega,h1,h2,rfl⟩)
 rcases Int.lt_or_gt_of_ne ne with c|c
 ·exact go x y x0 c y1
 ·rw[BZ];exact go y x y0 c x1
theorem vW{N no m:Int}{ts ao:List (Int×Int)}(hot:aM no ao)(hc:∀s:List Int,s.Sublist (up no.toNat)->(s.Pairwise fun a b=>aj ao a b=true)->(s.length:Int)<=m)(hm:0<=m)(hall:∀i j:Int,0<=i->i<j->j<=m->(i,j)∈ts)(hN:m+1<=N):¬∃ys,aF N no ts ao ys=true:=by
 rintro⟨ys,h⟩
 unfold aF at h
 rw[fL,fL]at h
 obtain⟨e1,e2,e3⟩:=h
 have e1:=iV e1
 have wF:=(qu (ao:=ao) hot).wF
 have tie:∀i j:Int,0<=i->i<j->j<=m->aj ao (ys.getD i.toNat 0) (ys.getD j.toNat 0)=true:=fun i j a b c=>iJ.mp e3 _ (hall i j a b c)
 have Jf:∀i∈up (m+1).toNat,∀j∈up (m+1).toNat,ys.getD i.toNat 0≠ys.getD j.toNat 0->aj ao (ys.getD i.toNat 0) (ys.getD j.toNat 0)=true:=fun i hi j hj ne=>by
  have bi:=aH.mp hi
  have bj:=aH.mp hj
  rcases Hg i j with c|c|c
  ·exact tie i j bi.1 c (by omega)
  ·rw[c]at ne;exact absurd rfl ne
  ·rw[BZ];exact tie j i bj.1 c (by omega)
 have nd:((up (m+1).toNat).map fun i=>ys.getD i.toNat 0).Nodup:=by
  unfold List.Nodup
  rw[zM]
  refine Hl (fun{i j} hi hj l e=> ?_) (iz (m+1).toNat)
  have bi:=aH.mp hi
  have bj:=aH.mp hj
  have:=tie i j bi.1 l (by omega)
  rw[e,wF]at this;cases this
 have sb:((up no.toNat).filter fun x=>decide (x∈(up (m+1).toNat).map fun i=>ys.getD i.toNat 0)).Sublist (up no.toNat):=List.filter_sublist
 have pm:((up (m+1).toNat).map fun i=>ys.getD i.toNat 0).Perm ((up no.toNat).filter fun x=>decide (x∈(up (m+1).toNat).map fun i=>ys.getD i.toNat 0)):=by
  refine(List.perm_ext_iff_of_nodup nd (((iz _).imp fun h e=>by omega).filter _)).mpr fun x=> ?_
  rw[kZ,wU]
  refine⟨fun hx=>⟨?_,hx⟩,fun hx=>hx.2⟩
  obtain⟨i,hi,rfl⟩:=cR.mp hx
  have bi:=aH.mp hi
  have hl:i.toNat<ys.length:=by omega
  have:=iJ.mp e2 _ (yL hl)
  rw[fL]at this
  have t1:=iV this.1
  have t2:=iV this.2
  rw[mJ,jQ hl]
  exact aH.mpr ⟨t1,by show ys[i.toNat]<_;omega⟩
 have:=hc _ sb (Hl (fun{x y} hx hy l=>by
  obtain⟨i,hi,rfl⟩:=cR.mp (iV (kZ.mp hx).2)
  obtain⟨j,hj,rfl⟩:=cR.mp (iV (kZ.mp hy).2)
  exact Jf i hi j hj (by omega)) (jY sb))
 rw[<-pm.length_eq,aQ,bO]at this
 omega
def HD(K:W.Frag)(H:Hp)(l:Addr)(ps:List (Int×Int)):Prop:=∃its:List (Addr×(Int×Int)),H l=some (.lst (its.map fun p=>V.ref p.1))/\(∀p∈its,SqT K H p.1 ((pl p.2).map V.int))/\its.map (·.2)=ps
theorem uy{H:Hp}{its:List (Addr×(Int×Int))}{its':List (Addr×List Int)}{n:Int}{t1 wb:Addr}(h0:0<=n)(h1:n<=10)(hq:aM n (its.map (·.2)))(hperm:its'.Perm (its.map fun p=>(p.1,pl p.2)))(EY:its'.Pairwise fun p q=>HT.lexLt q.2 p.2=false)(e3:∀p∈its,SqT K H p.1 ((pl p.2).map V.int))(vJ:SqT K H wb [.int n,.ref t1])(ht1:SqT K H t1 (its'.map fun p=>V.ref p.1)):∃us,aO K H wb n us/\us.Perm (its.map (·.2)):=by
 let un:List Int->Int×Int:=fun l=>(l.getD 0 0,l.getD 1 0)
 have back:∀p∈its',∃q∈its,p=(q.1,pl q.2):=fun p hp=>by
  obtain⟨q,hq,e⟩:=cR.mp (hperm.mem_iff.mp hp)
  exact⟨q,hq,e.symm⟩
 have Ld:(its'.map fun p=>un p.2).Perm (its.map (·.2)):=by
  have h1:=hperm.map (fun p:Addr×List Int=>un p.2)
  rw[mV]at h1
  have h2:its.map ((fun p:Addr×List Int=>un p.2)∘fun p=>(p.1,pl p.2))=its.map (·.2):=rfl
  rw[h2]at h1
  exact h1
 have Le:=hq.perm Ld
 have Ek:(its'.map fun p=>un p.2).Pairwise fun p q=>HT.lexLt (pl q) (pl p)=false:=by
  rw[zM]
  refine EY.imp_of_mem fun{x y} hx hy hxy=> ?_
  obtain⟨qx,_,rfl⟩:=back x hx
  obtain⟨qy,_,rfl⟩:=back y hy
  exact hxy
 refine⟨its'.map fun p=>un p.2,⟨⟨t1,its'.map (fun p=>V.ref p.1),vJ,ht1,?_⟩,h0,h1,Le,oR h0 h1 Le Ek⟩,Ld⟩
 have h1:=nF (K:=K) (H:=H) (its'.map fun p=>(p.1,un p.2)) (fun p hp=>by
  obtain⟨p',hp',rfl⟩:=cR.mp hp
  obtain⟨q',hq',rfl⟩:=back p' hp'
  exact e3 q' hq')
 have h2:(its'.map fun p=>(p.1,un p.2)).map (fun p=>V.ref p.1)=its'.map fun p=>V.ref p.1:=by rw[mV];rfl
 have h3:(its'.map fun p=>(p.1,un p.2)).map (·.2)=its'.map fun p=>un p.2:=by rw[mV];rfl
 rw[h2,h3]at h1
 exact h1
theorem rH:FnScope ["script","cup","k","web","other","full","many","n","ties","i","j"] ["script"] (defScope fV):=fsc
theorem ok_law{f f1 f2 f3 f4 f5 f6 f7 f8:Addr}{fd d1 d2 d3 d4 d5 d6 d7 d8:FuncData}(F:Fun K "law" "law" fV f fd)(D1:bU K mg "_law_e_web" Gd ["cup","most"] f1 d1)(G1:FnOk P w K mg base CX0 4 f1 d1 ["cup","most"] (uG K))(D2:bU K mg "_law_e_right" Gj ["web","other","there_is"] f2 d2)(G2:FnOk P w K mg base CX0 26 f2 d2 ["web","other","there_is"] (mZ K))(D3:bU K mg "_law_e_any" wK ["web","other","some"] f3 d3)(G3:FnOk P w K mg base CX0 13 f3 d3 ["web","other","some"] (qK K))(D4:bU K mg "_law_e_web_of" Dr ["cup","n"] f4 d4)(G4:FnOk P w K mg base CX0 3 f4 d4 ["cup","n"] (lC K))(D5:bU K mg "_law_e_dip" zH ["cup","many"] f5 d5)(PN:FnOk P w K mg base CX0 2 f5 d5 ["cup","many"] (j5 K))(D6:bU K mg "_law_e_planted" Gk ["cup","other","n"] f6 d6)(G6:FnOk P w K mg base CX0 3 f6 d6 ["cup","other","n"] (j4 K))(D7:bU K mg "_law_e_all_tied" Gm ["n"] f7 d7)(G7:FnOk P w K mg base CX0 1 f7 d7 ["n"] (uH K))(D8:bU K mg "_law_e_crowd_size" Gq ["web"] f8 d8)(G8:FnOk P w K mg base CX0 3 f8 d8 ["web"] (yX K))(aA:mg "range"=none)(bh:mg "len"=none)(nM:mg "max"=none)(eN:mg "min"=none)(aJ:mg "tuple"=none)(jy:mg "sorted"=none):
  FnOk P w K mg base CX0 27 f fd ["script"] (spLaw K):=by
 have G5:FnOk P w K mg base CX0 26 f5 d5 ["cup","many"] (j5 K):=PN.mono (by decide)
 refine F.ok rH (fun vs H Q E h=> ?_) (fun cdv A outer s H vs Q E hr h=> ?_)
 ·obtain⟨a,ns,rfl,_⟩:=h
  rfl
 obtain⟨a,ns,rfl,hS,h63,q⟩:=h
 refine⟨_,(aZ (dF (i:=1) rH.nd rfl (Or.inl rfl) (pe_lst (ak (pv 0) (ak aK (ak aK aq))))) (aZ (oN oV rfl (rK rfl aA (ak aK aq)) (cF (i:=2) rH.nd rfl (Or.inl rfl)) (aZ (fM (PW.pt (pw_and (iU op_gt (pv 2) aK (nomark _)) (pw_and1 (iU op_ge (bR qd (pv 1) aK (fun _ _=>rfl)) (cG tX rfl bh rM (ak (pv 0) aq)) (nomark _))))) (aW ps_break) gM) (aZ (ps_par (i:=3) (j:=4) rfl rH.nd rfl rfl (by decide) rfl rfl (ak (pc G1 hr D1 (ak (pv 1) (ak aK aq))) (ak (pc G1 hr D1 (ak (pv 1) (ak aK aq))) aq)) rfl) (aZ (fM (mQ (jN (pc G2 hr D2 (ak (pv 3) (ak (pv 4) (ak (pc G3 hr D3 (ak (pv 3) (ak (pv 4) (ak (jM aq) aq)))) aq)))))) (aW (bY mH)) gM) (aZ (dF (i:=4) rH.nd rfl (Or.inl rfl) (pc G4 hr D4 (ak (pv 1) (ak (bN gK aK (pc G5 hr D5 (ak (pv 1) (ak aK aq)))) aq)))) (aZ (dF (i:=3) rH.nd rfl (Or.inl rfl) (bR dZ (pc G6 hr D6 (ak (pv 1) (ak (pv 4) (ak (bN gK aK (pc G5 hr D5 (ak (pv 1) (ak aK aq)))) aq)))) aK (fun _ _=>rfl))) (aZ (fM (mQ (jN (pc G2 hr D2 (ak (pv 3) (ak (pv 4) (ak mH aq)))))) (aW (bY mH)) gM) (aZ (dF (i:=5) rH.nd rfl (Or.inl rfl) (pc G7 hr D7 (ak aK aq))) (aZ (fM (PW.pt (pw_and (iU op_eq (pc G5 hr D5 (ak (pv 1) (ak aK aq))) aK (nomark _)) (pw_and1 (mQ (jN (pc G2 hr D2 (ak (pc G4 hr D4 (ak (pv 1) (ak aK aq))) (ak (pv 5) (ak mH aq))))))))) (aW (bY mH)) gM) (aZ (dF (i:=4) rH.nd rfl (Or.inl rfl) (pc G4 hr D4 (ak (pv 1) (ak (bN gK aK (pc G5 hr D5 (ak (pv 1) (ak aK aq)))) aq)))) (aZ (dF (i:=6) rH.nd rfl (Or.inr rfl) (bN gK (pc G8 hr D8 (ak (pv 4) aq)) aK)) (aZ (dF (i:=7) rH.nd rfl (Or.inr rfl) (cG (call_max2 rfl) rfl nM (by decide+kernel) (ak aK (ak (cG (call_min2 rfl) rfl eN (by decide+kernel) (ak (bR dZ (pv 3) aK (fun _ _=>rfl)) (ak (bN op_sub aK (pv 6)) aq))) aq)))) (aZ (iD (i:=8) (own:=["i","j"]) (caps:=["n","many"]) (ix:=[7,6]) rH.nd rfl (Or.inl rfl) rfl (tW (bR dZ (pv 3) aK (fun _ _=>rfl))) rfl rfl (.cons rfl rfl (.cons rfl rfl .nil)) (fun _ _ _ _ _=>(gk K (n:=2) rfl (tO (cF (i:=0) (show(["i","j","n","many"]:List Str).Nodup from by decide+kernel) rfl (Or.inl rfl)) (tO (cF (i:=1) (show(["i","j","n","many"]:List Str).Nodup from by decide+kernel) rfl (Or.inl rfl)) pgs_nil)))) (fun _ _ _ _ _=>gb (iU op_lt (pv 1) (pv 2) (nomark _))) (fun _ _ _ _ _=>(jM (ak (bN gK (pv 0) (pv 3)) (ak (bN gK (pv 1) (pv 3)) aq))))) (aZ (oN oV rfl (rK rfl aA (ak (pv 6) aq)) (cF (i:=9) rH.nd rfl (Or.inl rfl)) (aW (oN oV rfl (BR rfl aA (ak (bN gK (pv 9) aK) (ak (pv 6) aq))) (cF (i:=10) rH.nd rfl (Or.inl rfl)) (aW (rJ (pe_bm zR CG Cz BL (pv 8) (ak (jM (ak (pv 9) (ak (pv 10) aq))) aq))))))) (aW (fM (PW.pt (pw_and (iU op_lt (bN gK (pv 7) (pv 6)) aK (nomark _)) (pw_and1 (mQ (jN (pc G2 hr D2 (ak (jM (ak (bN gK (pv 7) (pv 6)) (ak (tZ uc rfl aJ (by decide+kernel) (ak (cG gB rfl jy (by decide+kernel) (ak (pv 8) aq)) aq)) aq))) (ak (pv 4) (ak mH aq))))))))) (aW (bY mH)) gM)))))))))))))))) (aW (bY mH)))),?_⟩
 refine⟨_,rfl,(by show 3<=sizeLine;decide),fun cp hcp=> ?_⟩
 have c0:=yt hS h63 hcp
 dsimp only
 refine uL (fun _ _=>True) (fun N hN=> ?_) (fun σ' H' _=>q H')
 refine⟨5,rfl,by decide,by decide,?_⟩
 refine tY (n:=5) (fun k σ H'=>bM K H' cp a ns (2000*(k:Int))/\∃b2 b3 b4 b5 b6 b7 b8 b9 b10,σ=[some (.ref a),some (.ref cp),b2,b3,b4,b5,b6,b7,b8,b9,b10]) ⟨c0.mono (by omega),_,_,_,_,_,_,_,_,_,rfl⟩ (fun k σ H' hk p=> ?_) (fun σ H' p=>hN _ _ trivial)
 obtain⟨c,b2,b3,b4,b5,b6,b7,b8,b9,b10,rfl⟩:=p
 refine ur (K:=K) (r:=[b3,b4,b5,b6,b7,b8,b9,b10]) c.tv (fun b=> ?_)
 cases b with
 |true=>exact iteT (hN _ _ trivial)
 |false=>
  refine iteF ?_
  refine⟨_,rfl,cp,a,ns,5,_,rfl,c,by omega,by decide,by decide,fun wa n1 K4 H2 x2 c2 W2 hn1=> ?_⟩
  obtain⟨z2,hz2⟩:=c2.lst
  refine⟨_,rfl,cp,a,ns,4,_,rfl,c2,by omega,by decide,by decide,fun wb n2 K3 H3 x3 c3 W3 hn2=> ?_⟩
  have Mg:=W2.bA x3 hz2
  refine⟨_,_,rfl,?_⟩
  have f1:=W2.h0
  have f2:=W3.h0
  refine⟨_,rfl,_,rfl,_,rfl,_,rfl,(by show 0<=sizeLine;decide),fun e0 J0=> ?_⟩
  have s4:=aY J0 (.tup [])
  refine⟨n1.toNat,by omega,wa,wb,e0,n1,n2,K4,K3,[],rfl,Mg.same s4,W3.same s4,SqT.of aL,by show(0:Int)+_=_;omega,fun H4 s5=> ?_⟩
  have yZ:=s4.trans s5
  refine⟨wa,wb,n1,n2,K4,K3,_,false,rfl,Mg.same yZ,W3.same yZ,(fun z=>by cases z),cP (gw (show n2.toNat<=4 by omega) (show n1.toNat<=5 by omega)) (by decide),sO f1 W2.pk,fun H5 s6=>⟨_,rfl,?_⟩⟩
  refine iteF ?_
  have c5:=c3.same (yZ.trans s6)
  generalize H5=G5 at *
  refine⟨_,rfl,_,rfl,cp,a,ns,7,_,rfl,c5,by omega,by decide,by decide,fun d H6 d0 d1 x6 c6=>⟨_,_,rfl,rfl,cp,a,ns,1+d,_,rfl,c6,by omega,by omega,by omega,fun ob ao H7 x7 c7 hO=> ?_⟩⟩
  obtain⟨z7,Lp⟩:=c7.lst
  refine⟨_,rfl,_,rfl,_,rfl,cp,a,ns,8,_,rfl,c7,by omega,by decide,by decide,fun e H8 e0' e1 x8 c8=>⟨_,_,rfl,rfl,cp,a,ob,ns,1+e,1+d,_,ao,rfl,c8,by omega,hO.bA x8 Lp,by omega,by omega,by omega,fun r pw sm ts xs H9 x9 c9 hr' hW hX hl hx hp=> ?_⟩⟩
  obtain⟨z8,hz8⟩:=c8.lst
  have Od:=(hO.bA x8 Lp).bA x9 hz8
  refine⟨r,_,_,.ref pw,rfl,rfl,hr',rfl,?_⟩
  have Fb:aF (1+e) (1+d) ts ao xs=true:=by
   unfold aF
   rw[fL,fL]
   refine⟨cH hl,iJ.mpr fun y hy=> ?_,iJ.mpr fun p' hp'=>hp p' hp'⟩
   have:=hx y hy
   rw[cH this.1,cH this.2];rfl
  refine⟨_,rfl,_,rfl,pw,ob,1+e,1+d,ts,ao,true,false,rfl,hW,Od,(fun z=>by cases z),cP (gw (show(1+d).toNat<=7 by omega) (show(1+e).toNat<=8 by omega)) (by decide),⟨fun _=>⟨xs,Fb⟩,fun _=>rfl⟩,fun Q5 M8=>⟨_,rfl,?_⟩⟩
  refine iteF ?_
  refine⟨10,rfl,by decide,by decide,fun fu Q0 M7 hF=> ?_⟩
  have za:=M8.trans M7
  have Mf:=c9.same za
  have J7:=hW.same za
  obtain⟨Kz,Ez⟩:=Mf.lst
  dsimp only[gName,List.set]
  refine qM (fun σ' H'=>σ'=[some (.ref a),some (.ref cp),some (.int (0+(k:Int))),some (.ref pw),some (.ref ob),some (.ref fu),b6,b7,b8,b9,b10]/\bM K H' cp a ns (2000*(k:Int)+1000)/\aO K H' pw (1+e) ts) (fun M hM=> ?_) (fun σ' H' p=> ?_)
  ·refine⟨_,rfl,cp,a,ns,3,_,rfl,Mf,by omega,by decide,by decide,fun g' QZ g0 g1 x12 c12=>⟨rfl,_,rfl,?_⟩⟩
   obtain⟨Qe,Ey⟩:=c12.lst
   have Fg:=J7.bA x12 Ez
   refine ite2 (fun cc=> ?_) (fun cc=> ?_)
   ·refine⟨_,rfl,cp,a,ns,10,_,rfl,c12,by omega,by decide,by decide,fun w13 Jd QX KC Pq Mh=> ?_⟩
    have Ke:=(hF.bA x12 Ez).bA KC Ey
    have ft:∀x y:Int,0<=x->x<10->0<=y->y<10->x≠y->aj (rows tt 10 (10:Int).toNat) x y=true:=fun x y a b c d e=>sJ a b c d e
    refine⟨_,rfl,w13,fu,10,10,Jd,_,true,true,rfl,Mh,Ke,fun _=>⟨by decide,ft⟩,(by show 0<=_;decide),⟨fun _=>pH (by decide) (by decide) Mh.pk ft,fun _=>rfl⟩,fun QW K9=>⟨_,rfl,?_⟩⟩
    refine iteF ?_
    exact hM _ _ ⟨rfl,(Pq.same K9).mono (by omega),(Fg.bA KC Ey).same K9⟩
   ·exact iteF (hM _ _ ⟨rfl,c12.mono (by omega),Fg⟩)
  obtain⟨rfl,Ma,J6⟩:=p
  obtain⟨Qd,JG⟩:=Ma.lst
  refine⟨_,rfl,_,rfl,cp,a,ns,5,_,rfl,Ma,by omega,by decide,by decide,fun d' QV QK d1' Mz c16=>⟨_,_,rfl,rfl,cp,a,ns,1+d',_,rfl,c16,by omega,by omega,by omega,fun oc Jr QT x17 Pn Fl=> ?_⟩⟩
  obtain⟨Qc,JF⟩:=c16.lst
  have J5:=(J6.bA Mz JG).bA x17 JF
  refine⟨_,rfl,oc,1+d',Jr,rfl,Fl,fun m Dd Ji hc m0 m1=>⟨_,_,rfl,rfl,?_⟩⟩
  have vL:=J5.same Ji
  have Ka:=Fl.same Ji
  have Pk:=Pn.same Ji
  dsimp only[gName,List.set]
  obtain⟨M,hM⟩:∃M:Int,m+1=M:=⟨_,rfl⟩
  rw[hM]
  obtain⟨tw,rw',w1,w2,w3⟩:=id vL.web
  refine⟨_,rfl,pw,_,_,.int (1+e),rfl,rfl,w1,rfl,_,rfl,_,_,rfl,rfl,_,_,rfl,_,_,rfl,?_⟩
  obtain⟨nn,en,n0,nm⟩:∃nn:Int,(if(if 10-M<1+e then 10-M else 1+e)>0 then(if 10-M<1+e then 10-M else 1+e)else 0)=nn/\0<=nn/\nn<=10:=by
   refine⟨_,rfl,?_,?_⟩
   ·split
    ·omega
    ·omega
   ·split
    ·split<;>omega
    ·omega
  rw[en]
  dsimp only[gName,List.set]
  refine⟨_,rfl,pw,_,_,.ref tw,rfl,rfl,w1,rfl,tw,_,rfl,w2,fun hz=> ?_⟩
  have rl:rw'.length=ts.length:=by have:=w3.len;rwa [aQ]at this
  refine yH (xs:=rw') (fun i acc σ H'=>(∃its:List (Addr×(Int×Int)),acc=its.map (fun p=>V.ref p.1)/\its.length<=i/\(∀p∈its,SqT K H' p.1 ((pl p.2).map V.int))/\its.map (·.2)=((ts.take i).filter fun p=>decide (p.2<nn)).map fun p=>(p.1+M,p.2+M))/\Same Dd H'/\∃o1 o2,σ=[o1,o2,some (.int nn),some (.int M)]) ⟨⟨[],rfl,bD _,fun p hp=>(nomatch hp),rfl⟩,Same.refl _,_,_,rfl⟩ (fun i acc σ H' _ p=>p.2.1.tup w2) (fun i acc σ H' hi p=> ?_) hz (fun i u acc σ H' hu p=> ?_) (fun acc σ H' p=> ?_)
  ·obtain⟨⟨its,rfl,hl,_⟩,_⟩:=p
   rw[aQ];exact hl
  ·obtain⟨⟨its,rfl,hil,hT,hM'⟩,CN,o1,o2,rfl⟩:=p
   obtain⟨t,hi,rfl,ht⟩:=lN (w3.same CN) hu
   have hg:ts[i]? =some ts[i]:=jQ hi
   generalize ts[i]=pr at *
   refine⟨t,_,rfl,ht,rfl,_,_,rfl,_,_,rfl,rfl,?_⟩
   refine⟨_,rfl,_,rfl,_,_,rfl,rfl,_,rfl,?_⟩
   have go:((ts.take (i+1)).filter fun p=>decide (p.2<nn)).map (fun p=>(p.1+M,p.2+M))=((ts.take i).filter fun p=>decide (p.2<nn)).map (fun p=>(p.1+M,p.2+M))++(if decide (pr.2<nn)=true then[(pr.1+M,pr.2+M)]else[]):=by
    rw[ql,hg,Cm,bV]
    congr 1
    show List.map _ (List.filter _ [pr])=_
    rw[yK]
    split<;>rfl
   refine ite2 (fun cc=> ?_) (fun cc=> ?_)
   ·refine⟨_,rfl,_,rfl,_,_,rfl,rfl,_,rfl,_,rfl,_,_,rfl,rfl,(by show 2<=sizeLine;decide),fun p hp=> ?_⟩
    have sn:=aY hp (.tup [.int (pr.1+M),.int (pr.2+M)])
    refine⟨⟨its++[(p,(pr.1+M,pr.2+M))],by rw[bV];rfl,by rw[gO];show its.length+1<=_;omega,fun q hq=> ?_,by rw[go,aN cc,bV,hM'];rfl⟩,CN.trans sn,_,_,rfl⟩
    rcases jX.mp hq with z|z
    ·exact sn.tup (hT q z)
    ·rw[lg.mp z];exact SqT.of aL
   ·exact⟨⟨its,rfl,by omega,hT,by rw[go,aP cc,mW,hM']⟩,CN,_,_,rfl⟩
  intro tl htl
  obtain⟨⟨its,rfl,hil,hT,hM'⟩,CN,o1,o2,rfl⟩:=p
  rw[rl,oO]at hM'
  have JH:Dd tl=none:=by
   cases e:Dd tl with
   |none=>rfl
   |some q=>rw[CN _ _ e]at htl;cases htl
  have sn:=aY htl (.lst (its.map fun p=>V.ref p.1))
  have Py:HD K (upd H' tl (.lst (its.map fun p=>V.ref p.1))) tl (((ts.filter fun p=>decide (p.2<nn)).map fun p=>(p.1+M,p.2+M))++rows tt M 0):=⟨its,aL,fun p hp=>sn.tup (hT p hp),by rw[hM',show rows tt M 0=[]from rfl,mW]⟩
  have M6:=CN.trans sn
  generalize (upd H' tl (.lst (its.map fun p=>V.ref p.1)))=QS at *
  dsimp only[gName,List.set]
  have bl:(((ts.filter fun p=>decide (p.2<nn)).map fun p=>(p.1+M,p.2+M)):List (Int×Int)).length<=45:=by
   rw[aQ]
   exact cP (yO _ _) vL.len
  generalize hbase:(((ts.filter fun p=>decide (p.2<nn)).map fun p=>(p.1+M,p.2+M)):List (Int×Int))=base0 at *
  refine qM (fun σ' Mp=>Same Dd Mp/\HD K Mp tl (base0++rows tt M M.toNat)/\∃o9 xU,σ'=[some (.ref a),some (.ref cp),some (.int (0+(k:Int))),some (.ref pw),some (.ref oc),some (.ref fu),some (.int M),some (.int nn),some (.ref tl),o9,xU]) (fun N' hN'=> ?_) (fun σ' HF p=> ?_)
  ·refine⟨_,rfl,M,rfl,by omega,by omega,?_⟩
   refine tY (n:=M.toNat) (fun i σ H'=>Same Dd H'/\HD K H' tl (base0++rows tt M i)/\∃o9 xU,σ=[some (.ref a),some (.ref cp),some (.int (0+(k:Int))),some (.ref pw),some (.ref oc),some (.ref fu),some (.int M),some (.int nn),some (.ref tl),o9,xU]) ⟨M6,Py,_,_,rfl⟩ (fun i σ H' hi p=> ?_) (fun σ H' p=>hN' _ _ p)
   obtain⟨Hr,TL,o9,xU,rfl⟩:=p
   refine⟨_,rfl,_,_,rfl,rfl,_,rfl,_,_,rfl,⟨by omega,by omega,by omega,by omega⟩,?_⟩
   refine tY (n:=(M-(0+(i:Int)+1)).toNat) (fun k' σ H'=>Same Dd H'/\HD K H' tl (base0++(rows tt M i++row tt (0+(i:Int)) k'))/\∃xU,σ=[some (.ref a),some (.ref cp),some (.int (0+(k:Int))),some (.ref pw),some (.ref oc),some (.ref fu),some (.int M),some (.int nn),some (.ref tl),some (.int (0+(i:Int))),xU])
    ⟨Hr,by rw[show row tt (0+(i:Int)) 0=[]from rfl,mW];exact TL,_,rfl⟩ (fun k' σ H' hk' p=> ?_) (fun σ H' p=> ?_)
   ·obtain⟨Ej,⟨jts,j1,j2,j3⟩,xU,rfl⟩:=p
    have er:base0++(rows tt M i++row tt (0+(i:Int)) (k'+1))=(base0++(rows tt M i++row tt (0+(i:Int)) k'))++[(0+(i:Int),0+(i:Int)+1+(k':Int))]:=by rw[cW,aN (show tt _ _=true from rfl)];simp only[Ck]
    have jl:jts.length<=200:=by
     have e1:=was List.length j3
     rw[aQ,gO,gO]at e1
     have e2:=BP (cI (so:=tt) (m:=M) (i:=i)) (by omega)
     have e3:(row tt (0+(i:Int)) k').length<=k':=by
      unfold row
      exact cP (yO _ _) (by rw[aQ,List.length_range];exact bD _)
     omega
    refine⟨_,rfl,.inl ⟨rfl,_,SqL.of j1⟩,_,rfl,_,rfl,(by show 2<=sizeLine;decide),fun p hp=> ?_⟩
    have Jg:=aY hp (.tup [.int (0+(i:Int)),.int (0+(i:Int)+1+(k':Int))])
    have JD:=Jg _ _ j1
    refine⟨tl,_,_,rfl,rfl,JD,(by rw[aQ,eF];omega),?_⟩
    have xw:aB tl (upd H' p (.tup [.int (0+(i:Int)),.int (0+(i:Int)+1+(k':Int))])) (upd (upd H' p (.tup [.int (0+(i:Int)),.int (0+(i:Int)+1+(k':Int))])) tl (.lst (jts.map (fun p=>V.ref p.1)++[.ref p]))):=(aB.refl _ _).upd
    have tp:SqT K (upd H' p (.tup [.int (0+(i:Int)),.int (0+(i:Int)+1+(k':Int))])) p [.int (0+(i:Int)),.int (0+(i:Int)+1+(k':Int))]:=SqT.of aL
    refine⟨fun c o z=>xw _ _ (jP z JH) (Jg _ _ (Ej _ _ z)),⟨jts++[(p,(0+(i:Int),0+(i:Int)+1+(k':Int)))],by rw[bV];exact aL,fun q hq=> ?_,by rw[er,bV,j3];rfl⟩,_,rfl⟩
    rcases jX.mp hq with z|z
    ·exact xw.tup JD (Jg.tup (j2 q z))
    ·rw[lg.mp z]
     exact xw.tup JD tp
   ·obtain⟨Ej,Mi,xU,rfl⟩:=p
    rw[<-zG]at Mi
    exact⟨Ej,Mi,_,_,rfl⟩
  obtain⟨Hr,⟨jts,j1,j2,j3⟩,o9,xU,rfl⟩:=p
  have c21:=Pk.same Hr
  have J9:=Ka.same Hr
  have fin:∀H',Same HF H'->bM K H' cp a ns (2000*((k+1:Nat):Int)):=fun H' g=>(c21.same g).mono (by omega)
  refine⟨_,rfl,_,rfl,_,_,rfl,rfl,_,_,rfl,rfl,_,rfl,?_⟩
  by_cases cN:nn+M<11
  ·rw[cH cN]
   refine iteT ?_
   have Lf:aM (nn+M) (jts.map (·.2)):=by
    rw[j3,<-hbase]
    refine⟨List.nodup_append.mpr ⟨?_,(cI (so:=tt) (m:=M) (i:=M.toNat)).nd,fun x hx y hy e=> ?_⟩,fun p hp=> ?_⟩
    ·unfold List.Nodup
     rw[zM]
     refine List.Pairwise.imp (fun{x y} h e=>h ?_) (vL.pk.nd.filter _)
     have e1:=was Prod.fst e
     have e2:=was Prod.snd e
     dsimp only at e1 e2
     exact Cq (by omega) (by omega)
    ·obtain⟨q,hq,rfl⟩:=cR.mp hx
     have b1:=vL.pk.lt q (kZ.mp hq).1
     have b2:=wu.mp hy
     rw[<-e]at b2
     dsimp only at b2
     omega
    ·rcases jX.mp hp with z|z
     ·obtain⟨q,hq,rfl⟩:=cR.mp z
      have b1:=vL.pk.lt q (kZ.mp hq).1
      have b2:=iV (kZ.mp hq).2
      refine⟨?_,?_,?_⟩
      ·show 0<=q.1+M;omega
      ·show q.1+M<q.2+M;omega
      ·show q.2+M<nn+M;omega
     ·have b2:=wu.mp z
      omega
   have jl:=BP Lf (by omega)
   rw[aQ]at jl
   have hJ:∀p∈jts.map (fun p=>(p.1,pl p.2)),SqT K HF p.1 (p.2.map V.int)/\p.2≠[]:=fun p hp=>by
    obtain⟨q,hq,rfl⟩:=cR.mp hp
    exact⟨j2 q hq,fun z=>by cases z⟩
   refine⟨_,rfl,_,rfl,_,_,rfl,rfl,_,rfl,tl,jts.map (fun p=>(p.1,pl p.2)),rfl,by rw[mV];exact SqL.of j1,hJ,by rw[aQ];omega,fun l' its' hl' hpm JR=> ?_⟩
   have Ej:=aY hl' (.lst (its'.map fun p=>V.ref p.1))
   refine⟨l',_,rfl,.inl ⟨SqL.of aL,fun t1 ht1=>⟨(by show 2<=sizeLine;decide),fun Ho vJ=> ?_⟩⟩⟩
   have CK:=aY ht1 (.tup (its'.map fun p=>V.ref p.1))
   have K8:=aY vJ (.tup [.int (nn+M),.ref t1])
   have uT:=Ej.trans (CK.trans K8)
   obtain⟨us,hU,hperm⟩:=uy (K:=K) (H:=upd (upd (upd HF l' (.lst (its'.map fun p=>V.ref p.1))) t1 (.tup (its'.map fun p=>V.ref p.1))) Ho (.tup [.int (nn+M),.ref t1])) (its:=jts) (its':=its') (n:=nn+M) (t1:=t1) (wb:=Ho) (by omega) (by omega) Lf hpm JR (fun p hp=>uT.tup (j2 p hp)) (SqT.of aL) (K8.tup (SqT.of aL))
   generalize (upd (upd (upd HF l' (.lst (its'.map fun p=>V.ref p.1))) t1 (.tup (its'.map fun p=>V.ref p.1))) Ho (.tup [.int (nn+M),.ref t1]))=QM at *
   have wD:¬∃ys,aF (nn+M) (1+d') us Jr ys=true:=by
    refine vW Fl.pk hc m0 (fun i j i0 ij jm=> ?_) (by omega)
    refine hperm.mem_iff.mpr ?_
    rw[j3]
    exact jX.mpr (.inr (wu.mpr ⟨i0,by show i<(M.toNat:Int);omega,ij,by show j<M;omega,rfl⟩))
   refine⟨_,rfl,Ho,oc,nn+M,1+d',us,Jr,false,false,rfl,hU,J9.same uT,(fun z=>by cases z),cP (gw (show(1+d').toNat<=5 by omega) (show(nn+M).toNat<=10 by omega)) (by decide),⟨(fun z=>by cases z),fun z=>absurd z wD⟩,fun QL M5=>⟨_,rfl,?_⟩⟩
   refine iteF ?_
   exact⟨fin _ (uT.trans M5),_,_,_,_,_,_,_,_,_,rfl⟩
  ·rw[fQ cN]
   refine iteF (iteF ?_)
   exact⟨fin _ (Same.refl _),_,_,_,_,_,_,_,_,_,rfl⟩
end
end Hs
namespace L2
open PySem
section
variable{K:W.Frag}{x y:Str}{st:Stmt}{f C:Addr}{fd:FuncData}{oc:Value}{od an:Option Addr}{osl:Array (Option Value)}{kV doc pm cdv ct:Value}{mg:Str->Option Value}{h:Heap}
def DA(K:W.Frag)(x:Str)(st:Stmt)(f:Addr):Prop:=∃fd,Fun K x x st f fd/\PySem.W.nsIn K mainGlobals x=some (some (.ref f))
theorem DA.of(a:PySem.W.nsIn K mainGlobals x=some (some (.ref f)):=by k_is)(l:K.lookup f=some ⟨oc,od,.func (PySem.W.fnOf x x (defArgs st) (defBody st) (defScope st) .none kV doc pm an cdv ct),osl⟩:=by k_is)(c:PySem.W.codeIn K cdv x=true:=by k_is)(k:PySem.W.keepIn K (.ref f)=true:=by k_is):DA K x st f:=⟨_,fun_mk l c k,a⟩
def MA(K:W.Frag)(C:Addr)(x y:Str)(st:Stmt)(f:Addr):Prop:=∃fd,Fun K x y st f fd/\PySem.W.findIn K (.ref C) x=some (some (.ref f))/\PySem.W.isFn K (.ref f)=true/\PySem.W.keepIn K (.ref f)=true
theorem MA.of(a:PySem.W.findIn K (.ref C) x=some (some (.ref f)):=by k_is)(l:K.lookup f=some ⟨oc,od,.func (PySem.W.fnOf x y (defArgs st) (defBody st) (defScope st) .none kV doc pm an cdv ct),osl⟩:=by k_is)(c:PySem.W.codeIn K cdv y=true:=by k_is)(k:PySem.W.keepIn K (.ref f)=true:=by k_is)(i:PySem.W.isFn K (.ref f)=true:=by k_is):MA K C x y st f:=⟨_,fun_mk l c k,a,i,k⟩
theorem DA.d{ps:List Str}(X:K.In h)(G:h.Ns mainGlobals mg)(F:Fun K x x st f fd)(a:PySem.W.nsIn K mainGlobals x=some (some (.ref f)))(b:∀(kV doc pm:Value) (an:Option Addr) (cdv ct:Value) (us:List Value),us.length=ps.length->bindArgs (PySem.W.fnOf x x (defArgs st) (defBody st) (defScope st) .none kV doc pm an cdv ct) ⟨us,[]⟩=pure (ps.zip us)):bU K mg x st ps f fd:=⟨F,F.binds b,PySem.W.mg_of X G a⟩
theorem MA.d{ps:List Str}(F:Fun K x y st f fd)(a:PySem.W.findIn K (.ref C) x=some (some (.ref f))/\PySem.W.isFn K (.ref f)=true/\PySem.W.keepIn K (.ref f)=true)(b:∀(kV doc pm:Value) (an:Option Addr) (cdv ct:Value) (us:List Value),us.length=ps.length->bindArgs (PySem.W.fnOf x y (defArgs st) (defBody st) (defScope st) .none kV doc pm an cdv ct) ⟨us,[]⟩=pure (ps.zip us)):tK K C x y st ps f fd:=⟨F,F.binds b,⟨a.1,a.2.1,a.2.2⟩⟩
theorem zB{p1:Str}{P:List Value->Prop}(h:∀a,P [a])(us:List Value)(hl:us.length=[p1].length):P us:=by
 match us,hl with
 |[a],_=>exact h a
theorem rD{p1 p2:Str}{P:List Value->Prop}(h:∀a b,P [a,b])(us:List Value)(hl:us.length=[p1,p2].length):P us:=by
 match us,hl with
 |[a,b],_=>exact h a b
theorem yu{p1 p2 p3:Str}{P:List Value->Prop}(h:∀a b c,P [a,b,c])(us:List Value)(hl:us.length=[p1,p2,p3].length):P us:=by
 match us,hl with
 |[a,b,c],_=>exact h a b c
theorem Pu{p1 p2 p3 p4:Str}{P:List Value->Prop}(h:∀a b c d,P [a,b,c,d])(us:List Value)(hl:us.length=[p1,p2,p3,p4].length):P us:=by
 match us,hl with
 |[a,b,c,d],_=>exact h a b c d
end
end L2
namespace Hs
open PySem L2 tL
theorem all_mk{l:W.OpenLaw}{w:World}{K:W.Frag}{h:Heap}{mg:Str->Option Value}{fa:Addr}(X:K.In h)(G:h.Ns mainGlobals mg)(hfa:mg "law"=some (.ref fa))
  {f0 f1 f2 f3 f4 f5 f6 f7 f8 f9 O7 f11 O6 O5 OJ OD Oz Ox Ow Ov Ou Ot Oq Oo Om Ol Oj Lj mf1 mf2 Nk Nj:Addr}{Kh:Addr}{Js FQ:Option Addr}{Jh:Array (Option Value)}{Jt Ew Fz El Bw FJ:Value}{tk0:Tok}{aD:Addr}(a0:DA K "is_whole" Di f0)(a1:DA K "is_place" Dh f1)(a2:DA K "are_places" Dq f2)(a3:DA K "is_rising" Dl f3)(a4:DA K "is_set" fY f4)(a5:DA K "are_ties" Ga f5)(a6:DA K "is_web" fW f6)(a7:DA K "need_web" BW f7)(a8:DA K "need_place" Gf f8)(a9:DA K "has_tie" Dg f9)(a10:DA K "neighbours" Gg O7)(a11:DA K "are_left_open" Cd f11)(a12:DA K "count_images" Ca O6)(a13:DA K "way_into" Gb O5)(a14:DA K "is_way" fX OJ)(a15:DA K "_law_e_stir" Ge OD)(a16:DA K "_law_e_dip" zH Oz)(a17:DA K "_law_e_web_of" Dr Ox)(a18:DA K "_law_e_web" Gd Ow)(a19:DA K "_law_e_tied" wA Ov)(a20:DA K "_law_e_apart_sets" Gp Ou)(a21:DA K "_law_e_leads" Gi Ot)(a22:DA K "_law_e_planted" Gk Oq)(a23:DA K "_law_e_any" wK Oo)(a24:DA K "_law_e_crowd_size" Gq Om)(a25:DA K "_law_e_all_tied" Gm Ol)(a26:DA K "_law_e_right" Gj Oj)(a27:W.nsIn K mainGlobals "law"=some (some (.ref Kh)))(Nt:K.lookup Kh=some ⟨Jt,Js,.func (W.fnOf "law" "law" (defArgs fV) (defBody fV) (defScope fV) .none Ew Fz El FQ Bw FJ),Jh⟩)(Pj:W.codeIn K Bw "law"=true)(Nv:W.keepIn K (.ref Kh)=true)(x0:W.nsIn K mainGlobals "MOST_PLACES"=some (some (.int 10 tk0)))(z0:W.nsIn K mainGlobals "all"=some none)(z1:W.nsIn K mainGlobals "any"=some none)(z2:W.nsIn K mainGlobals "bool"=some none)(z3:W.nsIn K mainGlobals "int"=some none)(z4:W.nsIn K mainGlobals "isinstance"=some none)(z5:W.nsIn K mainGlobals "len"=some none)(z6:W.nsIn K mainGlobals "list"=some none)(z7:W.nsIn K mainGlobals "max"=some none)(z8:W.nsIn K mainGlobals "min"=some none)(z9:W.nsIn K mainGlobals "range"=some none)(Mx:W.nsIn K mainGlobals "sorted"=some none)(Kz:W.nsIn K mainGlobals "tuple"=some none)(y0:W.nsIn K mainGlobals "Search"=some (some (.ref aD)))(Ep:MA K aD "__init__" "Search.__init__" Gh Lj)(Jz:MA K aD "images_left" "Search.images_left" Gs mf1)(Jy:MA K aD "state_behind" "Search.state_behind" Ce mf2)(Jx:MA K aD "lead_first" "Search.lead_first" yJ Nk)(Jw:MA K aD "lead" "Search.lead" wL Nj)(tG:W.plainGet K aD Str.empty=true)(tE:W.hasDictIn K aD=true)(tD:W.plainOver K aD=true)(sZ:W.findIn K (.ref aD) "__setattr__"=some (some (.builtin "object.__setattr__")))(sY:W.makesIn K aD=true)(sX:W.keepIn K (.ref aD)=true)(jE:W.findIn K (.ref aD) "near"=some none)(jU:W.findIn K (.ref aD) "far"=some none)(cM:W.findIn K (.ref aD) "led_nowhere"=some none):
  ∃fd:FuncData,(∀(s:Shared) (v:Value),BindsTo s fd ⟨[v],[]⟩ [("script",v)])/\∀base:Heap,K.In base->base.Ns mainGlobals mg->FnOk l.prog w K mg base CX0 27 fa fd ["script"] (spLaw K):=by
 have e:=hfa.symm.trans (W.mg_of X G a27)
 cases e
 obtain⟨d0,F0,a0⟩:=a0
 have jJ:=DA.d (ps:=["thing"]) X G F0 a0 (fun _ _ _ _ _ _=>zB fun _=>rfl)
 obtain⟨d1,F1,a1⟩:=a1
 have jK:=DA.d (ps:=["n","thing"]) X G F1 a1 (fun _ _ _ _ _ _=>rD fun _ _=>rfl)
 obtain⟨d2,F2,a2⟩:=a2
 have gH:=DA.d (ps:=["n","things"]) X G F2 a2 (fun _ _ _ _ _ _=>rD fun _ _=>rfl)
 obtain⟨d3,F3,a3⟩:=a3
 have iI:=DA.d (ps:=["things"]) X G F3 a3 (fun _ _ _ _ _ _=>zB fun _=>rfl)
 obtain⟨d4,F4,a4⟩:=a4
 have wk:=DA.d (ps:=["n","thing"]) X G F4 a4 (fun _ _ _ _ _ _=>rD fun _ _=>rfl)
 obtain⟨d5,F5,a5⟩:=a5
 have qb:=DA.d (ps:=["n","thing"]) X G F5 a5 (fun _ _ _ _ _ _=>rD fun _ _=>rfl)
 obtain⟨d6,F6,a6⟩:=a6
 have wg:=DA.d (ps:=["thing"]) X G F6 a6 (fun _ _ _ _ _ _=>zB fun _=>rfl)
 obtain⟨d7,F7,a7⟩:=a7
 have fG:=DA.d (ps:=["thing"]) X G F7 a7 (fun _ _ _ _ _ _=>zB fun _=>rfl)
 obtain⟨d8,F8,a8⟩:=a8
 have mD:=DA.d (ps:=["web","thing"]) X G F8 a8 (fun _ _ _ _ _ _=>rD fun _ _=>rfl)
 obtain⟨d9,F9,a9⟩:=a9
 have kY:=DA.d (ps:=["web","one","other"]) X G F9 a9 (fun _ _ _ _ _ _=>yu fun _ _ _=>rfl)
 obtain⟨QJ,F10,a10⟩:=a10
 have mq:=DA.d (ps:=["web","place"]) X G F10 a10 (fun _ _ _ _ _ _=>rD fun _ _=>rfl)
 obtain⟨QH,F11,a11⟩:=a11
 have iT:=DA.d (ps:=["state"]) X G F11 a11 (fun _ _ _ _ _ _=>zB fun _=>rfl)
 obtain⟨QG,F12,a12⟩:=a12
 have jL:=DA.d (ps:=["open_place"]) X G F12 a12 (fun _ _ _ _ _ _=>zB fun _=>rfl)
 obtain⟨QF,F13,a13⟩:=a13
 have p8:=DA.d (ps:=["web","other"]) X G F13 a13 (fun _ _ _ _ _ _=>rD fun _ _=>rfl)
 obtain⟨QD,F14,a14⟩:=a14
 have wj:=DA.d (ps:=["web","other","some"]) X G F14 a14 (fun _ _ _ _ _ _=>yu fun _ _ _=>rfl)
 obtain⟨QC,F15,a15⟩:=a15
 have mF:=DA.d (ps:=["cell","at"]) X G F15 a15 (fun _ _ _ _ _ _=>rD fun _ _=>rfl)
 obtain⟨QB,F16,a16⟩:=a16
 have cu:=DA.d (ps:=["cup","many"]) X G F16 a16 (fun _ _ _ _ _ _=>rD fun _ _=>rfl)
 obtain⟨Qz,F17,a17⟩:=a17
 have dB:=DA.d (ps:=["cup","n"]) X G F17 a17 (fun _ _ _ _ _ _=>rD fun _ _=>rfl)
 obtain⟨Qy,F18,a18⟩:=a18
 have oK:=DA.d (ps:=["cup","most"]) X G F18 a18 (fun _ _ _ _ _ _=>rD fun _ _=>rfl)
 obtain⟨Qx,F19,a19⟩:=a19
 have bL:=DA.d (ps:=["web","one","other"]) X G F19 a19 (fun _ _ _ _ _ _=>yu fun _ _ _=>rfl)
 obtain⟨Qw,F20,a20⟩:=a20
 have fJ:=DA.d (ps:=["web","left"]) X G F20 a20 (fun _ _ _ _ _ _=>rD fun _ _=>rfl)
 obtain⟨Qv,F21,a21⟩:=a21
 have jW:=DA.d (ps:=["web","other","some"]) X G F21 a21 (fun _ _ _ _ _ _=>yu fun _ _ _=>rfl)
 obtain⟨Qu,F22,a22⟩:=a22
 have iR:=DA.d (ps:=["cup","other","n"]) X G F22 a22 (fun _ _ _ _ _ _=>yu fun _ _ _=>rfl)
 obtain⟨Qt,F23,a23⟩:=a23
 have iH:=DA.d (ps:=["web","other","some"]) X G F23 a23 (fun _ _ _ _ _ _=>yu fun _ _ _=>rfl)
 obtain⟨Qs,F24,a24⟩:=a24
 have fH:=DA.d (ps:=["web"]) X G F24 a24 (fun _ _ _ _ _ _=>zB fun _=>rfl)
 obtain⟨Qq,F25,a25⟩:=a25
 have iw:=DA.d (ps:=["n"]) X G F25 a25 (fun _ _ _ _ _ _=>zB fun _=>rfl)
 obtain⟨Qp,F26,a26⟩:=a26
 have jV:=DA.d (ps:=["web","other","there_is"]) X G F26 a26 (fun _ _ _ _ _ _=>yu fun _ _ _=>rfl)
 have F27:=fun_mk (st:=fV) Nt Pj Nv
 have jR:=W.mg_of X G x0
 have jw:=way X G z0
 have Eo:=way X G z1
 have vA:=way X G z2
 have zp:=way X G z3
 have bw:=way X G z4
 have dh:=way X G z5
 have Ay:=way X G z6
 have qW:=way X G z7
 have qU:=way X G z8
 have bQ:=way X G z9
 have nJ:=way X G Mx
 have aX:=way X G Kz
 have jz:=W.mg_of X G y0
 obtain⟨Ql,Mu,Ep⟩:=Ep
 have gJ:=MA.d (ps:=["self","web","other"]) Mu Ep (fun _ _ _ _ _ _=>yu fun _ _ _=>rfl)
 obtain⟨Qk,Mt,Jz⟩:=Jz
 have dD:=MA.d (ps:=["self","images","image"]) Mt Jz (fun _ _ _ _ _ _=>yu fun _ _ _=>rfl)
 obtain⟨Qj,Ms,Jy⟩:=Jy
 have cO:=MA.d (ps:=["self","state","led","image"]) Ms Jy (fun _ _ _ _ _ _=>Pu fun _ _ _ _=>rfl)
 obtain⟨Qi,Mr,Jx⟩:=Jx
 have dX:=MA.d (ps:=["self","state"]) Mr Jx (fun _ _ _ _ _ _=>rD fun _ _=>rfl)
 obtain⟨Qh,Mq,Jw⟩:=Jw
 have eU:=MA.d (ps:=["self","state"]) Mq Jw (fun _ _ _ _ _ _=>rD fun _ _=>rfl)
 have cD:Cls K aD:=⟨tG,tE,tD,sZ⟩
 have gn:NoAttr K aD "near":=jE
 have ju:NoAttr K aD "far":=jU
 have bf:NoAttr K aD "led_nowhere":=cM
 have mk_Search:Mk K aD Lj:=⟨sY,Ep.1,Ep.2.1,sX⟩
 refine⟨W.fnOf "law" "law" (defArgs fV) (defBody fV) (defScope fV) .none Ew Fz El FQ Bw FJ,fun s v=> .of_eq rfl,fun base _ _=> ?_⟩
 have rm:=u5 (P:=l.prog) (w:=w) (base:=base) F0 bw zp vA
 have rB:=vd (P:=l.prog) (w:=w) (base:=base) F1 jJ rm
 have nZ:=sy (P:=l.prog) (w:=w) (base:=base) F2 jK rB jw
 have nY:=su (P:=l.prog) (w:=w) (mg:=mg) (base:=base) F3 jw bQ dh
 have Fq:=Ak (P:=l.prog) (w:=w) (base:=base) F4 gH nZ iI nY bw aX
 have Bj:=xK (P:=l.prog) (w:=w) (base:=base) F5 wk Fq iI nY bw aX jw dh
 have Fo:=Ai (P:=l.prog) (w:=w) (base:=base) F6 jJ rm qb Bj bw aX dh jR
 have gY:=pF (P:=l.prog) (w:=w) (base:=base) F7 wg Fo
 have n6:=lQ (P:=l.prog) (w:=w) (base:=base) F8 jK rB
 have zu:=Ao (P:=l.prog) (w:=w) (mg:=mg) (base:=base) F9 qU qW
 have yd:=vg (P:=l.prog) (w:=w) (base:=base) F10 fG gY mD n6 kY zu aX bQ
 have yh:=vo (P:=l.prog) (w:=w) (mg:=mg) (base:=base) F15
 have rC:=Ar (P:=l.prog) (w:=w) (mg:=mg) (base:=base) F16 mF yh dh
 have gq:=vm (P:=l.prog) (w:=w) (mg:=mg) (base:=base) F19 qU qW
 have rA:=u6 (P:=l.prog) (w:=w) (mg:=mg) (base:=base) F17 cu rC bQ aX
 have Fp:=Aj (P:=l.prog) (w:=w) (mg:=mg) (base:=base) F14 fG gY gH nZ kY zu dh bw aX jw
 have yg:=vh (P:=l.prog) (w:=w) (mg:=mg) (base:=base) F21 bL gq dh bw aX vA zp jw
 have sI:=pD (P:=l.prog) (w:=w) (mg:=mg) (base:=base) F22 cu rC bL gq aX bQ
 have Bo:=xQ (P:=l.prog) (w:=w) (mg:=mg) (base:=base) F18 cu rC dB rA
 have yj:=vp (P:=l.prog) (w:=w) (mg:=mg) (base:=base) F20 bL gq Eo
 have Fx:=Aw (P:=l.prog) (w:=w) (mg:=mg) (base:=base) F11 jw dh
 have Fw:=Av (P:=l.prog) (w:=w) (mg:=mg) (base:=base) F12 dh
 have Bl:=xO (P:=l.prog) (w:=w) (mg:=mg) (base:=base) Mt cD gn ju bf aX
 have Bm:=xP (P:=l.prog) (w:=w) (mg:=mg) (base:=base) Ms cD gn ju bf dD Bl aX
 have Bk:=xM (P:=l.prog) (w:=w) (mg:=mg) (base:=base) Mu cD gn ju bf mq yd bQ
 have Ft:=Am (P:=l.prog) (w:=w) (mg:=mg) (base:=base) Mq Mr cD gn ju bf eU dX iT Fx cO Bm jL Fw qU
 have sH:=pC (P:=l.prog) (w:=w) (mg:=mg) (base:=base) F13 cD gn ju bf jz fG gY gJ mk_Search Bk eU Ft aX bQ nJ
 have Bp:=xT (P:=l.prog) (w:=w) (mg:=mg) (base:=base) F23 bL gq iH dh bQ jw
 have Bq:=xR (P:=l.prog) (w:=w) (mg:=mg) (base:=base) F25 bQ aX
 have Fv:=Aq (P:=l.prog) (w:=w) (mg:=mg) (base:=base) F24 bL gq fJ yj bQ qW aX Ay dh
 have vM:=sE (P:=l.prog) (w:=w) (mg:=mg) (base:=base) F26 p8 sH wj Fp jW yg
 exact ok_law (P:=l.prog) (w:=w) (mg:=mg) (base:=base) F27 oK Bo jV vM iH Bp dB rA cu rC iR sI iw Bq fH Fv bQ dh qW qU aX nJ
theorem walk{l:PySem.W.OpenLaw}{q:Program}{loose:List Str}{XP:(Str->Option Value)->Heap->Prop}{YP:World->Heap->Prop}{d:DefRec}{K:Params->PySem.W.Frag}(hn:l.most=some 63)(hdf:d.params.defaults=[])(hY:∀(w:World) (h:Heap),YP w h->(K w.params).In h)
  (F:∀(w:World) (mg:Str->Option Value) (fa:Addr) (h:Heap),(K w.params).In h->h.Ns mainGlobals mg->mg d.name=some (.ref fa)->
   ∃fd:FuncData,(∀(s:Shared) (u:Value),BindsTo s fd ⟨[u],[]⟩ [("script",u)])/\∀base:Heap,(K w.params).In base->base.Ns mainGlobals mg->FnOk l.prog w (K w.params) mg base CX0 27 fa fd ["script"] (spLaw (K w.params))):
  PySem.W.WalkO q loose XP YP l.row.toRowW d [] (fun f vs=>PySem.call f vs):=
 L2.walk_of (n:=63) (k:=27) (x:="script") (CX:=fun _=>CX0) (sp:=fun w=>spLaw (K w.params)) hn (by decide) hdf ⟨rfl,by decide,by decide,rfl⟩ hY F (fun _ _ a ns hl hO hS=>uF hl hO hS) fun _ _ _ _ _ z=>z
end Hs
open PySem PySem.W PyProof.Rows
set_option maxRecDepth 100000 in
set_option maxHeartbeats 0 in
theorem PySem.Challenge.cw_hueshare_k43_ways_told_holds : PySem.Challenge.rw_hueshare_k43_ways_told.Holds := by
 refine Hd.early.2 ?_
 unfold Hd.early
 dsimp only
 k_fill
 refine Hs.walk (l:=PySem.Challenge.rw_hueshare_k43_ways_told) rfl rfl (fun w h Y=>PySem.W.kIn_of Y) ?F
 case F=>
  intro w mg fa h KX G hmg
  refine' Hs.all_mk KX G hmg .of .of .of .of .of .of .of .of .of .of .of .of .of .of .of .of .of .of .of .of .of .of .of .of .of .of .of (by k_is) (by k_is) (by k_is) (by k_is) (by k_is) (by k_is) (by k_is) (by k_is) (by k_is) (by k_is) (by k_is) (by k_is) (by k_is) (by k_is) (by k_is) (by k_is) (by k_is) (by k_is) .of .of .of .of .of (by k_is) (by k_is) (by k_is) (by k_is) (by k_is) (by k_is) (by k_is) (by k_is) (by k_is)
