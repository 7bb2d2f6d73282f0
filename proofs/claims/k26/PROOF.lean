import PyProof.Rows.All
import Wide.All
import OpenK.AllK
import Wide.FinOn
import Lean
import PyProof.EqAt
import PyProof.EqKinds
import PyProof.TupleCall
import PyProof.ListRange
import PyProof.TupleOfSeq
import PyProof.Draws
import PyProof.EnumMake
import PyProof.TupleIter
import PyProof.Rows.SetFrom
import PyProof.SetRoads
import PyProof.WalksMore
import PyProof.Rows.SortShell
import KE.KMinBuiltin
import PyProof.Rows.CallKwBuiltin
import KE.KRevIter
import PyProof.Rows.Tup
import PyProof.Rows.Range3
import PyProof.DictWalks
import PyProof.DictTruth
import PyProof.TupleKey
import PyProof.Rows.SeqMore2
import PyProof.FString
import PyProof.StrWalks
import PyProof.StrBlockH
import PyProof.StrCalls2
import PyProof.SliceStr2
import KE.KIntText
import PyProof.StrLawsTight
import KE.KDictList
import PyProof.DictRoadsH
import KE.KLam
import KE.KNestM
import PyProof.DictItems
import PyProof.IsiHeapPairs
import KE.KPairComp
import PyProof.MinMaxWalk
import PyProof.MeetsSeq
import PyProof.Rows.ZipGen
import KE.IntBitsLaws
import PyProof.FitsBits
import PySem.Challenge.RW_hueshare_k26_whole_between_crowds_and_hu
set_option Elab.async false
set_option linter.all false
set_option maxRecDepth 100000

noncomputable abbrev yaa:=@List.length_map
noncomputable abbrev yab:=@PySem.Heap.get?_push_of_some
noncomputable abbrev yac:=@Nat.le_refl
noncomputable abbrev yad:=@List.map_append
noncomputable abbrev yae:=@List.mem_cons_of_mem
noncomputable abbrev yaf:=@List.getElem?_map
noncomputable abbrev yag:=@List.getElem?_eq_getElem
noncomputable abbrev yah:=@List.mem_cons_self
noncomputable abbrev yai:=@List.getD_eq_getElem?_getD
noncomputable abbrev yaj:=@List.mem_append_right
noncomputable abbrev yak:=@List.size_toArray
noncomputable abbrev yal:=@List.mem_singleton
noncomputable abbrev yam:=@List.mem_cons
noncomputable abbrev yan:=@Nat.lt_of_lt_of_le
noncomputable abbrev yao:=@PySem.Heap.get?_push_size
noncomputable abbrev yap:=@PySem.Heap.lt_size
noncomputable abbrev yaq:=@List.getElem?_eq_some_iff
noncomputable abbrev yar:=@List.mem_filter
noncomputable abbrev yas:=@Nat.le_of_lt
noncomputable abbrev yat:=@Nat.le_trans
noncomputable abbrev yau:=@Nat.ne_of_lt
noncomputable abbrev yav:=@List.mem_of_getElem?
noncomputable abbrev yaw:=@Nat.zero_le
noncomputable abbrev yax:=@List.mem_append
noncomputable abbrev yay:=@List.length_append
noncomputable abbrev yaz:=@Nat.lt_succ_of_lt
noncomputable abbrev yba:=@Nat.lt_succ_self
noncomputable abbrev ybb:=@List.all_eq_true
noncomputable abbrev ybc:=@List.mem_map
noncomputable abbrev ybd:=@Nat.lt_irrefl
noncomputable abbrev ybe:=@List.length_filter_le
noncomputable abbrev ybf:=@Int.mul_le_mul_of_nonneg_left
noncomputable abbrev ybg:=@List.take_add_one
noncomputable abbrev ybh:=@List.length_take
noncomputable abbrev ybi:=@List.getElem_of_mem
noncomputable abbrev ybj:=@List.length_cons
noncomputable abbrev ybk:=@List.take_length
noncomputable abbrev ybl:=@List.mem_range
noncomputable abbrev ybm:=@Nat.succ_ne_zero
noncomputable abbrev ybn:=@Nat.lt_of_le_of_lt
noncomputable abbrev ybo:=@List.length_range
noncomputable abbrev ybp:=@Int.toNat_of_nonneg
noncomputable abbrev ybq:=@List.mem_append_left
noncomputable abbrev ybr:=@List.append_nil
noncomputable abbrev ybs:=@List.getElem?_append_right
noncomputable abbrev ybt:=@Int.le_refl
noncomputable abbrev ybu:=@PySem.Heap.size_push
noncomputable abbrev ybv:=@List.replicate_succ
noncomputable abbrev ybw:=@List.lookup_cons
noncomputable abbrev ybx:=@List.range_succ
noncomputable abbrev yby:=@Int.mul_nonneg
noncomputable abbrev ybz:=@Nat.succ_pos
noncomputable abbrev yca:=@Int.mul_zero
noncomputable abbrev ycb:=@List.getElem?_eq_none
noncomputable abbrev ycc:=@Int.mul_le_mul_of_nonneg_right
noncomputable abbrev ycd:=@List.map_cons
noncomputable abbrev yce:=@List.pairwise_singleton
noncomputable abbrev ycf:=@List.getElem_mem
noncomputable abbrev ycg:=@Nat.ne_of_gt
noncomputable abbrev ych:=@Nat.lt_of_le_of_ne
noncomputable abbrev yci:=@Nat.le_of_eq
noncomputable abbrev ycj:=@Nat.min_le_left
noncomputable abbrev yck:=@Int.eq_of_mul_eq_mul_right
noncomputable abbrev ycl:=@List.nodup_cons
noncomputable abbrev ycm:=@List.getElem?_append_left
noncomputable abbrev ycn:=@List.pairwise_iff_getElem
noncomputable abbrev yco:=@Array.length_toList
noncomputable abbrev ycp:=@Int.mul_comm
noncomputable abbrev ycq:=@Nat.le_succ
noncomputable abbrev ycr:=@Int.natCast_nonneg
noncomputable abbrev ycs:=@List.filter_cons
noncomputable abbrev yct:=@List.flatten_cons
noncomputable abbrev ycu:=@Nat.le_of_lt_succ
noncomputable abbrev ycv:=@Int.one_mul
noncomputable abbrev ycw:=@List.map_map
noncomputable abbrev ycx:=@List.filter_append
noncomputable abbrev ycy:=@Int.natAbs_natCast
noncomputable abbrev ycz:=@List.pairwise_append
noncomputable abbrev yda:=@Nat.pow_le_pow_right
noncomputable abbrev ydb:=@Int.zero_mul
noncomputable abbrev ydc:=@List.pairwise_map
noncomputable abbrev ydd:=@List.length_nil
noncomputable abbrev yde:=@List.take_of_length_le
noncomputable abbrev ydf:=@Int.le_of_mul_le_mul_right
noncomputable abbrev ydg:=@Nat.dvd_mul_left
noncomputable abbrev ydh:=@Int.le_of_lt
noncomputable abbrev ydi:=@Nat.sub_one_lt_of_le
noncomputable abbrev ydj:=@List.any_eq_false
noncomputable abbrev ydk:=@Int.toNat_natCast
noncomputable abbrev ydl:=@Nat.le_antisymm
noncomputable abbrev ydm:=@Nat.succ_add_eq_add_succ
noncomputable abbrev ydn:=@Nat.not_lt_zero
noncomputable abbrev ydo:=@Nat.lt_trans
noncomputable abbrev ydp:=@Int.ofNat_lt
noncomputable abbrev ydq:=@List.any_cons
noncomputable abbrev ydr:=@List.length_pos_iff
noncomputable abbrev yds:=@Int.mul_pos
noncomputable abbrev ydt:=@List.getElem?_range
noncomputable abbrev ydu:=@List.mem_map_of_mem
noncomputable abbrev ydv:=@List.length_drop
noncomputable abbrev ydw:=@Nat.le_add_right
noncomputable abbrev ydx:=@Int.natAbs_mul
noncomputable abbrev ydy:=@PySem.Heap.get?_update_other
noncomputable abbrev ydz:=@List.length_replicate
noncomputable abbrev yea:=@List.cons_lt_cons_iff
noncomputable abbrev yeb:=@List.find?_cons
noncomputable abbrev yec:=@Int.fdiv_eq_ediv_of_nonneg
noncomputable abbrev yed:=@Array.perm_iff_toList_perm
noncomputable abbrev yee:=@Nat.le_sub_one_of_lt
noncomputable abbrev yef:=@Int.eq_of_mul_eq_mul_left
noncomputable abbrev yeg:=@List.filter_sublist
noncomputable abbrev yeh:=@List.map_congr_left
noncomputable abbrev yei:=@Int.le_of_eq
noncomputable abbrev yej:=@Int.mul_assoc
noncomputable abbrev yek:=@Nat.eq_zero_or_pos
noncomputable abbrev yel:=@Nat.mul_comm
noncomputable abbrev yem:=@Int.le_trans
namespace Hd
open PySem PySem.W PySem.Calls PyProof.Rows
-- a run of the text's top over the heap as a tree, as one fold
noncomputable def runT(tb:String->Option Builtin)(p:Program)(w:World)(m:Nat)(ann:Option Value)(n:Nat):SharedT->Thread->Option SharedT:=
 @Nat.rec (fun _=>SharedT->Thread->Option SharedT) (fun _ _=>none)
  (fun _ ih s t=> @Bool.rec (fun _=>Option SharedT)
   (@Bool.rec (fun _=>Option SharedT) none
    (@Option.rec (SharedT×Thread) (fun _=>Option SharedT) none (fun r=>ih r.1 r.2) (stepT (denote tb) p w s t)) (stepOk m ann t))
   (some s) (through t)) n
theorem run_abs{tb:String->Option Builtin}{p:Program}{w:World}{m:Nat}{ann:Option Value}:∀(n:Nat) (s s':SharedT) (t:Thread),
  runT tb p w m ann n s t=some s'->topRun tb p w m ann n s.abs t=some s'.abs:=by
 intro n
 induction n with
 |zero=>intro s s' t h;exact absurd h (by intro h;cases h)
 |succ n ih=>
  intro s s' t h
  have h1: @Bool.rec (fun _=>Option SharedT) (@Bool.rec (fun _=>Option SharedT) none
    (@Option.rec (SharedT×Thread) (fun _=>Option SharedT) none (fun r=>runT tb p w m ann n r.1 r.2) (stepT (denote tb) p w s t)) (stepOk m ann t))
    (some s) (through t)=some s':=h
  unfold topRun
  cases e1:through t with
  |true=>rw[e1]at h1;injection h1 with h1;rw[h1]
  |false=>
   rw[e1]at h1
   cases e2:stepOk m ann t with
   |false=>rw[e2]at h1;cases h1
   |true=>
    rw[e2]at h1
    cases e3:stepT (denote tb) p w s t with
    |none=>rw[e3]at h1;cases h1
    |some r=>
     rw[e3]at h1
     have e4:=stepT_spec (s':=r.1) (t':=r.2) e3
     show(match step (denote tb) p w s.abs t with | .go a b=>topRun tb p w m ann n a b| .halt _ _=>none)=_
     rw[e4]
     exact ih _ _ _ h1
noncomputable def treeOf(l:List Obj):BT:=(l.foldl (fun x o=>(x.1.ins x.2 o,x.2+1)) ((BT.nil,0):BT×Nat)).1
-- the run from the start that the kit has laid
noncomputable def ran(p:Program)(N:Nat)(w:World)(os:OsState):Option SharedT:=
 runT treeTable p w 11 (some (.ref 6)) N ⟨treeOf (boot_heap w.params).objs.toList,11,{},Array.mk [],boot_drawn,boot_toks,os⟩ (topStub p)
-- what is looked at behind the run
noncomputable def looked(p q:Program)(loose:List Str)(Xt:Shared->Bool)(g0:Bool)(h:Heap)(s:Shared):=
 ((staticsOk (importedModules p.main.body) h s.heap&&namesBound p s.heap&&gensDone s&&laidKept h s.heap),openSeen q loose (importedModules p.main.body) Xt g0 s)
noncomputable def LooksWell(p q:Program)(loose:List Str)(Xt:Shared->Bool)(g0:Bool)(N:Nat):Prop:=
 ∀(w:World) (os:OsState),(ran p N w os).map (fun s=>looked p q loose Xt g0 (boot_heap w.params) s.abs)=some (true,openGood q loose)
theorem left_of{p q:Program}{loose:List Str}{Xt:Shared->Bool}{α:Type}{Yf:Shared->α}{Ya:World->α}{N:Nat}{g0:Bool}(r:LooksWell p q loose Xt g0 N)(e:opening p=plainProg p.main.scope.names)(hN:Nat.ble 600 N=true)(f:∀s,fenceModules? p s=some s)(y:∀(w:World) (os:OsState),(ran p N w os).map (fun s=>Yf s.abs)=some (Ya w)):
  LeftO p q loose Xt Yf Ya N g0:=fun w=>by
 have b:((boot_heap w.params).isNs mainGlobals&&(Array.mk []:Array GenState).size==0,(boot_heap w.params).objs.size,(boot_heap w.params).nsMap mainGlobals "__annotations__")=(true,11,some (.ref 6)):=by kernel_rfl
 have c:absHeap (treeOf (boot_heap w.params).objs.toList) 11 {}=boot_heap w.params:=by kernel_rfl
 obtain⟨⟨h,gs',d',k',os⟩,e1,e'⟩:=Option.map_eq_some_iff.mp (boot_open e hN f w)
 obtain⟨rfl,rfl,rfl,rfl⟩:h=boot_heap w.params/\gs'=Array.mk []/\d'=boot_drawn/\k'=boot_toks:=by simpa using e'
 obtain⟨b1,b2,b3⟩:_/\_/\_:=by simpa only[Prod.mk.injEq]using b
 obtain⟨s,r1,r2⟩:=Option.map_eq_some_iff.mp (r w os)
 obtain⟨s',y1,y2⟩:=Option.map_eq_some_iff.mp (y w os)
 have es:s'=s:=by rw[r1]at y1;injection y1 with y1;exact y1.symm
 subst es
 obtain⟨l1,l2⟩:_/\_:=by simpa only[looked,Prod.mk.injEq]using r2
 have t1:=run_abs N _ _ _ r1
 have ab:SharedT.abs ⟨treeOf (boot_heap w.params).objs.toList,11,{},Array.mk [],boot_drawn,boot_toks,os⟩=⟨boot_heap w.params,Array.mk [],boot_drawn,boot_toks,os⟩:=by unfold SharedT.abs;rw[c]
 rw[ab]at t1
 have t:topFrom treeTable p w N ⟨boot_heap w.params,Array.mk [],boot_drawn,boot_toks,os⟩=some s'.abs:=by
  unfold topFrom
  dsimp only
  rw[b1,b2,b3,t1]
  show(match staticsOk (importedModules p.main.body) (boot_heap w.params) s'.abs.heap&&namesBound p s'.abs.heap&&gensDone s'.abs&&laidKept (boot_heap w.params) s'.abs.heap with |true=>_|false=>_)=_
  rw[l1]
 unfold openEnds
 rw[e1]
 show(topFrom treeTable p w N _).map _=_
 rw[t]
 show some (_,_)=_
 rw[l2,y2]
end Hd
section
open PySem PySem.W PyProof.Rows
namespace Hd
noncomputable abbrev L:=PySem.Challenge.rw_hueshare_k26_whole_between_crowds_and_hu
noncomputable def Q:Program:=view L.row.toRowW.prog [1,2,3,5,6,7,8,9,10,11,12,13,14,15,16,18,19,20,21,22,23,24,25,27,28,30,31,32,33,34,36,37,38,39,40,41,42,44,45,46,47,48,49,50,51,52,53,54,55]
noncomputable abbrev X:Shared->Bool:=fun s=>xlAt Q [] s&&recOk (RowW.records L.row.toRowW) s
set_option maxRecDepth 100000 in
theorem looks:LooksWell L.row.toRowW.prog Q [] X true 5026:=fun w os=>by kernel_rfl
end Hd
local macro_rules
 |`(tactic|o_head $H)=>`(tactic|
  refine holds_open (q:=Hd.Q) (loose:=[]) (N:=5026) (Xt:=Hd.X) (XP:=XL Hd.Q [])
   (Yf:=Hook.obs $H) (Ya:=Hook.val $H) (YP:=Hook.says $H)
   (Hd.left_of Hd.looks (by kernel_rfl) rfl (fun _=>by kernel_rfl) (fun _ _=>by kernel_rfl))
   (Hook.of $H) (Hook.keeps $H) (fun s e=>xl_of s (Bool.and_eq_true_iff.mp e).1) XL.keeps
   (by rfl) (by rfl) (by rfl) (fun s e=>recFacts_of (Bool.and_eq_true_iff.mp e).2) (by rfl)
   (by first |assumption|decide+kernel) (by decide+kernel) ⟨rfl,rfl,rfl,rfl,rfl,by decide+kernel⟩ ?hw ?hc)
set_option maxRecDepth 100000 in
set_option maxHeartbeats 0 in
noncomputable def Hd.early:PSigma fun P:Prop=>P->PySem.Challenge.rw_hueshare_k26_whole_between_crowds_and_hu.Holds:=by
 refine⟨?P,fun W=> ?_⟩
 rotate_left
 w_on;o_law;k_head;(case hw=>w_witness2)
 exact W
end
namespace L2
open PySem PySem.Spec PyProof.Rows
noncomputable abbrev Key:=Sum Int Str
noncomputable def keyIs:Key->Value->Bool
 | .inl k,v=>Value.isInt k v
 | .inr x,v=>Value.isStrOf x v
noncomputable def keyH(w:World):Key->Int
 | .inl k=>hashInt k
 | .inr x=>hashStr w x
theorem zbd:∀{k:Key} {v:Value},keyIs k v=true->(∃i t,k=Sum.inl i/\v=Value.int i t)\/(∃x t,k=Sum.inr x/\v=Value.str x t)
 | .inl i,v,h=>by
  obtain⟨t,e⟩:=Value.isInt_shape (k:=i) (v:=v) h
  exact .inl ⟨i,t,rfl,e⟩
 | .inr x,v,h=>by
  obtain⟨t,e⟩:=Value.isStrOf_shape (x:=x) (v:=v) h
  exact .inr ⟨x,t,rfl,e⟩
theorem keyIs_int(i:Int)(t:Tok):keyIs (.inl i) (.int i t)=true:=by simp[keyIs,Value.isInt]
theorem keyIs_str(x:Str)(t:Tok):keyIs (.inr x) (.str x t)=true:=by simp[keyIs,Value.isStrOf]
theorem key_ll(a b:Int):decide ((Sum.inl a:Key)=Sum.inl b)=(a==b):=by
 by_cases e:a=b
 ·subst e;simp
 ·have h:¬(Sum.inl a:Key)=Sum.inl b:=fun q=>e (Sum.inl.inj q)
  rw[decide_eq_false h]
  exact(beq_eq_false_iff_ne.mpr e).symm
theorem key_rr(a b:Str):decide ((Sum.inr a:Key)=Sum.inr b)=decide (a=b):=by
 by_cases e:a=b
 ·subst e;simp
 ·have h:¬(Sum.inr a:Key)=Sum.inr b:=fun q=>e (Sum.inr.inj q)
  rw[decide_eq_false h,decide_eq_false e]
theorem key_lr(a:Int)(b:Str):decide ((Sum.inl a:Key)=Sum.inr b)=false:=decide_eq_false (fun q=>nomatch q)
theorem key_rl(a:Str)(b:Int):decide ((Sum.inr a:Key)=Sum.inl b)=false:=decide_eq_false (fun q=>nomatch q)
noncomputable def mixKind(prog:Program)(w:World):PySem.KeyKind prog w Key where
 is:=keyIs
 hash:=keyH w
 inj:=fun v a b ha hb=>by
  rcases zbd ha with⟨i,t,rfl,rfl⟩|⟨x,t,rfl,rfl⟩
  ·rcases zbd hb with⟨j,u,rfl,e⟩|⟨y,u,rfl,e⟩
   ·injection e with e1 _;rw[e1]
   ·exact nomatch e
  ·rcases zbd hb with⟨j,u,rfl,e⟩|⟨y,u,rfl,e⟩
   ·exact nomatch e
   ·injection e with e1 _;rw[e1]
 byValue:=fun k v h=>by
  rcases zbd h with⟨i,t,rfl,rfl⟩|⟨x,t,rfl,rfl⟩<;>rfl
 pyHash:=fun hv h=>by
  rcases zbd hv with⟨i,t,rfl,rfl⟩|⟨x,t,rfl,rfl⟩
  ·exact wpAny_pyHash_int h
  ·exact wpAny_pyHash_str h
 eqBool:=fun hu hv h=>by
  rcases zbd hu with⟨i,t,rfl,rfl⟩|⟨x,t,rfl,rfl⟩
  ·rcases zbd hv with⟨j,u,rfl,rfl⟩|⟨y,u,rfl,rfl⟩
   ·rw[key_ll]at h;exact wpAny_eqBool_int h
   ·rw[key_lr]at h;exact SeqAt.EqAt.int_str i t y u _ _ _ _ h
  ·rcases zbd hv with⟨j,u,rfl,rfl⟩|⟨y,u,rfl,rfl⟩
   ·rw[key_rl]at h;exact SeqAt.EqAt.str_int x t j u _ _ _ _ h
   ·rw[key_rr]at h;exact wpAny_eqBool_str h
 «strs»:=fun k x t v h=>by
  rcases zbd h with⟨i,u,rfl,e⟩|⟨y,u,rfl,e⟩
  ·exact nomatch e
  ·injection e with e1 _
   subst e1
   cases v<;>rfl
theorem mixKind_int(prog:Program)(w:World)(i:Int)(t:Tok):(mixKind prog w).is (.inl i) (.int i t)=true:=keyIs_int i t
theorem mixKind_str(prog:Program)(w:World)(x:Str)(t:Tok):(mixKind prog w).is (.inr x) (.str x t)=true:=keyIs_str x t
inductive V where
 |non|bl (b:Bool)|int (i:Int)|str (x:Str)|byt (b:Array UInt8)|flt (b:UInt64)|ref (a:Addr)|ty (n:String)
 deriving DecidableEq
noncomputable def RelV:V->Value->Prop
 | .non,u=>u=Value.none
 | .bl b,u=>u=Value.bool b
 | .int i,u=>∃t,u=Value.int i t
 | .str x,u=>∃t,u=Value.str x t
 | .byt b,u=>∃t,u=Value.bytes b t
 | .flt b,u=>∃t,u=Value.float b t
 | .ref a,u=>u=Value.ref a
 | .ty n,u=>u=Value.type n
noncomputable abbrev Vals:List V->List Value->Prop:=Paired RelV
theorem Vals.length{xs:List V}{us:List Value}(r:Vals xs us):xs.length=us.length:=Paired.length r
theorem Vals.get:∀{xs:List V} {us:List Value} {i:Nat} {x:V},Vals xs us->xs[i]? =some x->∃u,us[i]? =some u/\RelV x u
 |_,_,_,_,.nil,e=>by simp at e
 |_,_,0,_,.cons r _,e=>by simp at e;subst e;exact⟨_,rfl,r⟩
 |_,_,i+1,x,.cons _ t,e=>by
  obtain⟨u,h1,h2⟩:=Vals.get (i:=i) (x:=x) t (by simpa using e)
  exact⟨u,by simpa using h1,h2⟩
theorem Vals.set{x:V}{u:Value}(r:RelV x u):∀{xs:List V} {us:List Value} (i:Nat),Vals xs us->Vals (xs.set i x) (us.set i u)
 |_,_,_,.nil=> .nil
 |_,_,0,.cons _ t=> .cons r t
 |_,_,i+1,.cons q t=> .cons q (Vals.set r i t)
theorem Vals.append:∀{xs ys:List V} {us ws:List Value},Vals xs us->Vals ys ws->Vals (xs++ys) (us++ws)
 |_,_,_,_,.nil,s=>s
 |_,_,_,_,.cons r t,s=> .cons r (Vals.append t s)
theorem Vals.take:∀{xs:List V} {us:List Value} (n:Nat),Vals xs us->Vals (xs.take n) (us.take n)
 |_,_,0,_=> .nil
 |_,_,_+1,.nil=> .nil
 |_,_,n+1,.cons r t=> .cons r (Vals.take n t)
theorem Vals.drop:∀{xs:List V} {us:List Value} (n:Nat),Vals xs us->Vals (xs.drop n) (us.drop n)
 |_,_,0,r=>r
 |_,_,_+1,.nil=> .nil
 |_,_,n+1,.cons _ t=>Vals.drop n t
noncomputable def RelO:Option V->Option Value->Prop
 |some v,some u=>RelV v u
 |none,none=>True
 |_,_=>False
noncomputable def KV{κ:Type}:List (κ×V)->List (κ×Value)->Prop:=Paired fun(p:κ×V) (q:κ×Value)=>p.1=q.1/\RelV p.2 q.2
noncomputable def kV:Key->V
 | .inl i=> .int i
 | .inr x=> .str x
inductive HO where
 /-- a list -/
 |lst (xs:List V)
 /-- a tuple (never changes) -/
 |tup (xs:List V)
 /-- a dict whose keys are ints and texts; one whose keys are tuples of ints and texts (the empty one is both) -/
 |dK (kvs:List (Key×V))|dT (kvs:List (List Key×V))
 /-- a set of ints: its members, its size -/
 |set (S:Int->Bool) (n:Nat)
 /-- an instance of the class at C, its dict at dx, its attributes -/
 |ins (C dx:Addr) (fs:List (Str×V))
 /-- the dict of the instance at x -/
 |own (x:Addr)
 /-- the dict of an exception -/
 |xd (fs:List (Str×V))
 /-- a bound method, f of x -/
 |met (f x:Addr)
 /-- a range object lo, lo + 1, .. below hi -/
 |rng (lo hi:Int)
 /-- a thing that is known to the object (the script; a dict while a loop walks it): read, never written while it is so -/
 |frz (o:Obj) (u:HO)
 /-- a code object's table -/
 |tbl (ps:Array Value)
 /-- any other thing, by what is true of its one object (a def of one's own: SetO a S n := HO.ext fun h => ..) -/
 |ext (φ:Heap->Prop)
noncomputable abbrev Hp:=Addr->Option HO
noncomputable def upd(H:Hp)(a:Addr)(o:HO):Hp:=fun b=>if b=a then some o else H b
theorem zab{H:Hp}{a:Addr}{o:HO}:upd H a o a=some o:=by unfold upd;rw[if_pos rfl]
theorem zaj{H:Hp}{a b:Addr}{o:HO}(h:b≠a):upd H a o b=H b:=by unfold upd;rw[if_neg h]
theorem upd_upd{H:Hp}{a:Addr}{o u:HO}:upd (upd H a o) a u=upd H a u:=by
 funext b;unfold upd;split<;>rfl
theorem ne_of{H:Hp}{a b:Addr}{o u:HO}(h:H a=some o)(h':H b=some u)(d:o≠u):a≠b:=by
 intro e;subst e;rw[h]at h';exact d (Option.some.inj h')
theorem zah{H:Hp}{a b:Addr}{o:HO}(h:H a=some o)(h':H b=none):a≠b:=by
 intro e;subst e;rw[h]at h';cases h'
section
variable(P:Program)(w:World)
noncomputable def ObjOk(H:Hp)(h:Heap)(a:Addr):HO->Prop
 | .lst xs=>xs.length<=sizeLine/\∃(its:List Value) (n:Nat),Vals xs its/\h.get? a=some {cls:= .type "list",data:= .seq its.toArray n}
 | .tup xs=>xs.length<=sizeLine/\∃its:List Value,Vals xs its/\IsTup h a its.toArray
 | .dK kvs=>kvs.length<=sizeLine/\(a==sysModules)=false/\∃vs,KV kvs vs/\h.DictOf (mixKind P w) a vs
 | .dT kvs=>kvs.length<=sizeLine/\(a==sysModules)=false/\∃xs:List (List Key×Addr×Value),
   Paired (fun(p:List Key×V) (q:List Key×Addr×Value)=>p.1=q.1/\H q.2.1=some (.tup (p.1.map kV))/\RelV p.2 q.2.2) kvs xs/\
   ∃o es ep,h.get? a=some o/\o.ExactDict/\o.data= .dict es ep/\es.toList=xs.map (entryOfKey (tupleKind (mixKind P w)))/\(xs.map (·.1)).Nodup
 | .set S n=>h.SetOf (intKind P w) a S n
 | .ins C dx fs=>H dx=some (.own a)/\fs.length<=1000/\dx≠a/\h.get? a=some (PySem.W.instObj C dx)/\
   ∃mA,h.Ns1 dx mA/\(∀f,RelO (fs.lookup f) (mA f))/\PySem.Within mA (fs.map (·.1))
 | .own _=>∃o,h.get? a=some o
 | .xd fs=>∃mA,h.Ns1 a mA/\∀f,RelO (fs.lookup f) (mA f)
 | .rng lo hi=>∃t u v,h.get? a=some {cls:= .type "range",data:= .fields #[.int lo t,.int hi u,.int 1 v]}
 | .frz o u=>h.get? a=some o/\ObjOk H h a u
 | .tbl ps=>h.get? a=some {cls:= .none,data:= .fields ps}
 | .met f x=>h.get? a=some (PySem.W.methodObj (.ref f) (.ref x))
 | .ext φ=>φ h/\(∃o,h.get? a=some o)/\∀h1 h2:Heap,φ h1->(∀o,h1.get? a=some o->h2.get? a=some o)->φ h2
noncomputable def HOk(H:Hp)(h:Heap):Prop:=∀a o,H a=some o->ObjOk P w H h a o
end
section
variable{P:Program}{w:World}{H H':Hp}{h h':Heap}{a:Addr}{o:HO}
theorem ObjOk.lt(x:ObjOk P w H h a o):a<h.objs.size:=by
 cases o with
 |lst xs=>obtain⟨_,_,_,_,e⟩:=x;exact yap e
 |tup xs=>obtain⟨_,_,_,p⟩:=x;exact p.lt
 |dK kvs=>obtain⟨_,_,_,_,o,_,_,e,_⟩:=x;exact yap e
 |dT kvs=>obtain⟨_,_,_,_,o,_,_,e,_⟩:=x;exact yap e
 |set S n=>obtain⟨o,_,_,_,e,_⟩:=x;exact yap e
 |ins C dx fs=>obtain⟨_,_,_,e,_⟩:=x;exact yap e
 |own y=>obtain⟨_,e⟩:=x;exact yap e
 |xd fs=>obtain⟨_,⟨_,_,_,e,_⟩,_⟩:=x;exact yap e
 |rng lo hi=>obtain⟨_,_,_,e⟩:=x;exact yap e
 |frz ob u=>obtain⟨e,_⟩:=x;exact yap e
 |tbl ps=>exact yap (show h.get? a=some _ from x)
 |met f y=>exact yap (show h.get? a=some _ from x)
 |ext φ=>obtain⟨_,⟨_,e⟩,_⟩:=x;exact yap e
theorem Paired.mapP{α β:Type}{F G:α->β->Prop}:∀{l₁:List α} {l₂:List β},Paired F l₁ l₂->(∀a b,F a b->G a b)->Paired G l₁ l₂
 |_,_,.nil,_=> .nil
 |_,_,.cons r t,f=> .cons (f _ _ r) (Paired.mapP t f)
theorem ObjOk.stay(x:ObjOk P w H h a o)(k:∀b u,(b=a\/H b=some (.own a))->h.get? b=some u->h'.get? b=some u)(ho:∀b,H b=some (.own a)->H' b=some (.own a))(ht:∀b xs,H b=some (.tup xs)->H' b=some (.tup xs)):ObjOk P w H' h' a o:=by
 induction o with
 |lst xs=>obtain⟨z,its,n,r,e⟩:=x;exact⟨z,its,n,r,k _ _ (.inl rfl) e⟩
 |tup xs=>obtain⟨z,its,r,ob,e,c⟩:=x;exact⟨z,its,r,ob,k _ _ (.inl rfl) e,c⟩
 |dK kvs=>obtain⟨z,y,vs,r,ob,es,ep,e,c⟩:=x;exact⟨z,y,vs,r,ob,es,ep,k _ _ (.inl rfl) e,c⟩
 |dT kvs=>
  obtain⟨z,y,xs,r,ob,es,ep,e,c⟩:=x
  exact⟨z,y,xs,Paired.mapP r fun p q z=>⟨z.1,ht _ _ z.2.1,z.2.2⟩,ob,es,ep,k _ _ (.inl rfl) e,c⟩
 |set S n=>obtain⟨ob,es,ep,t,e,c⟩:=x;exact⟨ob,es,ep,t,k _ _ (.inl rfl) e,c⟩
 |ins C dx fs=>
  obtain⟨d,z,ne,e,mA,⟨od,es,ep,e2,c⟩,r⟩:=x
  exact⟨ho _ d,z,ne,k _ _ (.inl rfl) e,mA,⟨od,es,ep,k _ _ (.inr d) e2,c⟩,r⟩
 |own y=>obtain⟨ob,e⟩:=x;exact⟨ob,k _ _ (.inl rfl) e⟩
 |xd fs=>obtain⟨mA,⟨od,es,ep,e,c⟩,r⟩:=x;exact⟨mA,⟨od,es,ep,k _ _ (.inl rfl) e,c⟩,r⟩
 |rng lo hi=>obtain⟨t,u,v,e⟩:=x;exact⟨t,u,v,k _ _ (.inl rfl) e⟩
 |frz ob u ih=>obtain⟨e,q⟩:=x;exact⟨k _ _ (.inl rfl) e,ih q⟩
 |tbl ps=>
  have e:h.get? a=some {cls:= .none,data:= .fields ps}:=x
  show h'.get? a=some {cls:= .none,data:= .fields ps}
  exact k a _ (.inl rfl) e
 |met f y=>
  have e:h.get? a=some (PySem.W.methodObj (.ref f) (.ref y)):=x
  show h'.get? a=some (PySem.W.methodObj (.ref f) (.ref y))
  exact k a _ (.inl rfl) e
 |ext φ=>obtain⟨p,⟨o,e⟩,st⟩:=x;exact⟨st _ _ p fun o q=>k _ _ (.inl rfl) q,⟨o,k _ _ (.inl rfl) e⟩,st⟩
theorem HOk.lt(x:HOk P w H h)(e:H a=some o):a<h.objs.size:=(x a o e).lt
theorem HOk.fresh(x:HOk P w H h)(e:h.objs.size<=a):H a=none:=by
 cases q:H a with
 |none=>rfl
 |some u=>exact absurd (yan (x.lt q) e) (ybd _)
theorem HOk.kept(x:HOk P w H h)(k:∀b u,h.get? b=some u->h'.get? b=some u):HOk P w H h':=fun a o e=>
 (x a o e).stay (fun b u _ q=>k b u q) (fun _ q=>q) fun _ _ q=>q
theorem HOk.laid(x:HOk P w H h)(k:∀b u,h.get? b=some u->h'.get? b=some u)(hp:h.objs.size<=a)(new:ObjOk P w (upd H a o) h' a o):HOk P w (upd H a o) h':=fun b u e=>by
 have hn:=x.fresh hp
 by_cases hb:b=a
 ·subst hb;rw[zab]at e;cases e;exact new
 ·rw[zaj hb]at e
  exact(x b u e).stay (fun c v _ q=>k c v q) (fun c q=>by rw[zaj (zah q hn)];exact q) fun c xs q=>by rw[zaj (zah q hn)];exact q
end
noncomputable def Rd(H:Hp)(a:Addr)(u:HO):Prop:=H a=some u\/∃o,H a=some (.frz o u)
theorem Rd.ok{P:Program}{w:World}{H:Hp}{h:Heap}{a:Addr}{u:HO}(r:Rd H a u)(x:HOk P w H h):ObjOk P w H h a u:=by
 rcases r with r|⟨o,r⟩
 ·exact x a u r
 ·obtain⟨_,q⟩:=x a _ r
  exact q
noncomputable def Mut:Option HO->Prop
 |some (.lst _)=>True
 |some (.dK _)=>True
 |some (.dT _)=>True
 |some (.set _ _)=>True
 |some (.ins _ _ _)=>True
 |some (.ext _)=>True
 |_=>False
section
variable{P:Program}{w:World}{H:Hp}{h h':Heap}{x e:Addr}{o':HO}
theorem HOk.write(ok:HOk P w H h)(mu:Mut (H x))(he:e=x\/H e=some (.own x))(k:∀b u,b≠e->h.get? b=some u->h'.get? b=some u)(heo:∃u,h'.get? e=some u)(new:ObjOk P w (upd H x o') h' x o'):HOk P w (upd H x o') h':=fun b u q=>by
 have nown:∀c y,H c=some (.own y)->c≠x:=fun c y r z=>by subst z;rw[r]at mu;exact mu
 have ntup:∀c xs,H c=some (.tup xs)->c≠x:=fun c xs r z=>by subst z;rw[r]at mu;exact mu
 by_cases hb:b=x
 ·subst hb;rw[zab]at q;cases q;exact new
 ·rw[zaj hb]at q
  by_cases hbe:b=e
  ·have q':H b=some (.own x):=by
    rcases he with z|z
    ·exact absurd (hbe.trans z) hb
    ·rw[hbe];exact z
   rw[q]at q';cases q'
   obtain⟨v,hv⟩:=heo
   exact⟨v,by rw[hbe];exact hv⟩
  ·refine(ok b u q).stay (fun c v hc r=>k c v ?_ r) (fun c r=>by rw[zaj (nown c b r)];exact r) fun c xs r=>by rw[zaj (ntup c xs r)];exact r
   rcases hc with rfl|hc
   ·exact hbe
   ·rintro rfl
    rcases he with z|z
    ·exact nown c b hc z
    ·rw[hc]at z;cases z;exact hb rfl
end
structure Un(fs ex:List Addr)(H H':Hp)(h h':Heap):Prop where
 keep:∀b o,h.get? b=some o->H b=none->b∉fs->b∉ex->h'.get? b=some o
 slot:∀b o,h.get? b=some o->H b=none->b∈fs->b∉ex->∃sl,h'.get? b=some {o with slots:=sl}
 free:∀b o,h.get? b=some o->H b=none->b∉ex->H' b=none
 there:∀b o,h.get? b=some o->b∉ex->∃o',h'.get? b=some o'
 tups:∀b xs,H b=some (.tup xs)->H' b=some (.tup xs)
 frzs:∀b o u,H b=some (.frz o u)->H' b=some (.frz o u)
 tbls:∀b ps,H b=some (.tbl ps)->∃more,H' b=some (.tbl (ps++more))
section
variable{fs fs' ex ex':List Addr}{H H1 H2:Hp}{h h1 h2 h':Heap}{a x e:Addr}{o:HO}
theorem Un.any(u:Un fs ex H H1 h h1){b:Addr}{ob:Obj}(q:h.get? b=some ob)(n:H b=none)(hx:b∉ex):∃sl,h1.get? b=some {ob with slots:=sl}:=by
 by_cases hb:b∈fs
 ·exact u.slot b ob q n hb hx
 ·exact⟨ob.slots,u.keep b ob q n hb hx⟩
theorem Un.kept(k:∀b u,h.get? b=some u->h'.get? b=some u):Un fs ex H H h h':=
 ⟨fun b ob q _ _ _=>k b ob q,fun b ob q _ _ _=>⟨ob.slots,k b ob q⟩,fun _ _ _ n _=>n,fun b ob q _=>⟨ob,k b ob q⟩,fun _ _ q=>q,fun _ _ _ q=>q,fun _ ps q=>⟨#[],by rw[q];simp⟩⟩
theorem Un.refl:Un fs ex H H h h:=Un.kept fun _ _ q=>q
theorem Un.laid(k:∀b u,h.get? b=some u->h'.get? b=some u)(hp:h.objs.size<=a)(hn:H a=none):Un fs ex H (upd H a o) h h' where
 keep:=fun b u q _ _ _=>k b u q
 slot:=fun b u q _ _ _=>⟨u.slots,k b u q⟩
 free:=fun b u q n _=>by rw[zaj (yau (yan (yap q) hp))];exact n
 there:=fun b u q _=>⟨u,k b u q⟩
 tups:=fun b xs q=>by rw[zaj (zah q hn)];exact q
 frzs:=fun b u xs q=>by rw[zaj (zah q hn)];exact q
 tbls:=fun b ps q=>⟨#[],by rw[zaj (zah q hn),q];simp⟩
theorem Un.write(mu:Mut (H x))(he:e=x\/H e=some (.own x))(k:∀b u,b≠e->h.get? b=some u->h'.get? b=some u)(heo:∃u,h'.get? e=some u):Un fs ex H (upd H x o) h h':=by
 have hx:∀b,H b=none->b≠x:=fun b n z=>by subst z;rw[n]at mu;exact mu
 have hb:∀b,H b=none->b≠e:=fun b n z=>by
  subst z
  rcases he with r|r
  ·exact hx b n r
  ·rw[n]at r;cases r
 have hm:∀b u,H b=some u->¬Mut (some u)->b≠x:=fun b u q nm z=>by subst z;rw[q]at mu;exact nm mu
 refine⟨fun b u q n _ _=>k b u (hb b n) q,fun b u q n _ _=>⟨u.slots,k b u (hb b n) q⟩,fun b u q n _=>by rw[zaj (hx b n)];exact n,fun b u q _=> ?_,
  fun b xs q=>by rw[zaj (hm b _ q fun z=>z)];exact q,fun b u xs q=>by rw[zaj (hm b _ q fun z=>z)];exact q,fun b ps q=>⟨#[],by rw[zaj (hm b _ q fun z=>z),q];simp⟩⟩
 by_cases hbe:b=e
 ·subst hbe;exact heo
 ·exact⟨u,k b u hbe q⟩
end
noncomputable def trk(h:Heap)(H:Hp):List Addr:=(List.range h.objs.size).filter fun a=>(H a).isSome
noncomputable def hidT(h:Heap)(H:Hp):Heap:=PySem.W.hideAll h (trk h H)
theorem hidT_size(h:Heap)(H:Hp):(hidT h H).objs.size=h.objs.size:=PySem.W.hideAll_size _ _
theorem hidT_get{h:Heap}{H:Hp}{b:Addr}{o:Obj}(e:h.get? b=some o)(n:H b=none):(hidT h H).get? b=some o:=
 PySem.W.hideAll_get _ e fun hm=>by
  have q:(H b).isSome=true:=(yar.mp hm).2
  rw[n]at q;simp at q
theorem of_hidT{h:Heap}{H:Hp}{b:Addr}{o:Obj}(e:(hidT h H).get? b=some o):h.get? b=some o/\H b=none:=by
 have e':h.get? b=some o:=PySem.W.of_hideAll (trk h H) e
 refine⟨e',?_⟩
 cases q:H b with
 |none=>rfl
 |some x=>
  have hm:b∈trk h H:=yar.mpr ⟨ybl.mpr (yap e'),by simp[q]⟩
  have z:(hidT h H).get? b=none:=PySem.W.hideAll_none (trk h H) hm
  rw[z]at e;cases e
structure Mod(K:W.Frag)(mg:Str->Option Value)(base:Heap):Prop where
 kin:K.In base
 glob:base.Ns mainGlobals mg
 blt:∃mb,base.Ns builtinsNs mb/\∀x:Str,x≠"__name__"->mb x=bootBuiltins x
 nolimit:base.NoLimit
structure Cx where
 prog:Program
 w:World
 K:W.Frag
 mg:Str->Option Value
 base:Heap
 A:Around
 N:List Str
 s₀:Shared
 H₀:Hp
 env:Env
 outer:List Env
 stack:List Env
 ex:List Addr
 fn:Str->Bool
 calm:Bool
 pn:List (Addr×Obj)
 xe:Value->Shared->Prop
noncomputable def frs(l:List Env):List Addr:=l.filterMap (·.frame)
noncomputable abbrev Cx.fs(X:Cx):List Addr:=frs X.outer
noncomputable def Vis(sc:Scope)(x:Str):Prop:=sc.names.lookup x=some .local\/sc.names.lookup x=some .cell\/sc.names.lookup x=some .free
noncomputable def Loc(sc:Scope)(x:Str):Prop:=sc.names.lookup x=some .local\/sc.names.lookup x=some .cell
noncomputable def Look(env:Env)(h:Heap)(m:Str->Option Value)(x:Str)(u:Value):Prop:=
 (env.kindOf x=some .local/\m x=some u)\/((env.kindOf x=some .cell\/env.kindOf x=some .free)/\∃c,env.cells.lookup x=some c/\h.IsCell c (some u))
structure Cx.Ok(X:Cx):Prop where
 mod:Mod X.K X.mg X.base
 kind:X.env.scope.kind= .function
 glob:X.env.globals=mainGlobals
 blt:X.env.builtins=builtinsNs
 above:X.s₀.heap.objs.size<=X.env.locals
 inj:∀x y c,X.env.cells.lookup x=some c->X.env.cells.lookup y=some c->x=y
 has:∀x,(X.env.kindOf x=some .cell\/X.env.kindOf x=some .free)->∃c,X.env.cells.lookup x=some c
 cab:∀x c,X.fn x=true->X.env.cells.lookup x=some c->X.s₀.heap.objs.size<=c
 hd:X.calm=true->X.A.handled=none
 frames:X.A.frames=some X.stack
 stk:X.stack=X.outer\/(X.stack=X.env::X.outer/\X.env.frame=some X.env.locals)
 exf:∀b∈X.ex,b≠X.env.locals/\∀x c,X.env.cells.lookup x=some c->c≠b
 bs:∀b o,X.base.get? b=some o->X.s₀.heap.get? b=some o/\X.H₀ b=none
 bsz:X.base.objs.size<=X.s₀.heap.objs.size
 noex:∀b o,X.base.get? b=some o->b∉X.ex
 exfs:∀b∈X.ex,b∉X.fs
 funs:X.s₀.heap.FunFrames X.base X.outer
 frf:∀b∈X.fs,X.H₀ b=none
structure Inv(X:Cx)(pins:List (Addr×Obj))(σ:List (Option V))(H:Hp)(s:Shared):Prop where
 ok:X.Ok
 os:s.os=X.s₀.os
 bare:AllBare s.gens
 base:Un X.fs X.ex X.H₀ H X.s₀.heap s.heap
 loc:∃m,s.heap.Ns X.env.locals m/\∀(i:Nat) (x:Str) (v:V),X.N[i]? =some x->σ[i]? =some (some v)->Vis X.env.scope x->∃u,RelV v u/\Look X.env s.heap m x u
 cell:∀x c,X.env.cells.lookup x=some c->∃v,s.heap.IsCell c v
 free:H X.env.locals=none
 freeC:∀x c,X.env.cells.lookup x=some c->H c=none
 pin:∀p∈X.pn++pins,s.heap.get? p.1=some p.2/\H p.1=none/\p.1≠X.env.locals/\p.1∉X.fs/\∀v,p.2.data≠.cell v
 hok:HOk X.prog X.w H s.heap
 len:σ.length=X.N.length
section
variable{X:Cx}{pins:List (Addr×Obj)}{σ:List (Option V)}{H H':Hp}{s:Shared}{h':Heap}
theorem Cx.Ok.nofr(ok:X.Ok){b:Addr}{o:Obj}(e:X.base.get? b=some o):b∉X.fs:=fun hb=>by
 have:=(ok.funs.mem hb).1
 rw[e]at this;cases this
theorem Inv.bs(I:Inv X pins σ H s):∀b o,X.base.get? b=some o->s.heap.get? b=some o/\H b=none:=fun b o e=>
 ⟨I.base.keep b o (I.ok.bs b o e).1 (I.ok.bs b o e).2 (I.ok.nofr e) (I.ok.noex b o e),I.base.free b o (I.ok.bs b o e).1 (I.ok.bs b o e).2 (I.ok.noex b o e)⟩
theorem Inv.bk(I:Inv X pins σ H s):∀b o,X.base.get? b=some o->s.heap.get? b=some o:=fun b o e=>(I.bs b o e).1
theorem Inv.mod(I:Inv X pins σ H s):Mod X.K X.mg X.base:=I.ok.mod
theorem Inv.kIn(I:Inv X pins σ H s):X.K.In s.heap:=I.ok.mod.kin.keeps I.bk
theorem Inv.nolimit(I:Inv X pins σ H s):s.heap.NoLimit:=I.ok.mod.nolimit.keeps I.bk
theorem Inv.lt(I:Inv X pins σ H s):X.env.locals<s.heap.objs.size:=let⟨_,hn,_⟩:=I.loc;hn.lt
theorem Inv.sz(I:Inv X pins σ H s):X.s₀.heap.objs.size<=s.heap.objs.size:=yat I.ok.above (yas I.lt)
theorem Inv.nofs(I:Inv X pins σ H s){a:Addr}(h:s.heap.objs.size<=a):a∉X.fs:=fun hb=>by
 obtain⟨_,o,ho,_⟩:=I.ok.funs.mem hb
 exact absurd (yan (yap ho) (yat I.sz h)) (ybd _)
theorem Inv.cne(I:Inv X pins σ H s):∀x c,X.env.cells.lookup x=some c->c≠X.env.locals:=fun x c e z=>by
 obtain⟨v,o,ho,hd⟩:=I.cell x c e
 obtain⟨m,⟨o',es,ep,ho',hd',_⟩,_⟩:=I.loc
 rw[z,ho']at ho;cases ho;rw[hd']at hd;cases hd
theorem Inv.funs(I:Inv X pins σ H s):s.heap.FunFrames X.base X.outer:=by
 have all:∀(l:List Env),(∀b∈frs l,b∈X.fs)->X.s₀.heap.FunFrames X.base l->s.heap.FunFrames X.base l:=by
  intro l
  induction l with
  |nil=>intro _ _;trivial
  |cons env r ih=>
   intro hs hl
   obtain⟨hk,⟨L,o,hf,hn,ho,hd⟩,hr⟩:=hl
   have hL:L∈X.fs:=hs L (by unfold frs;rw[List.filterMap_cons,hf];exact yah)
   obtain⟨sl,e⟩:=I.base.slot L o ho (I.ok.frf L hL) hL fun z=>I.ok.exfs L z hL
   exact⟨hk,⟨L,_,hf,hn,e,hd⟩,ih (fun b hb=>hs b (by unfold frs;rw[List.filterMap_cons,hf];exact yae _ hb)) hr⟩
 exact all X.outer (fun _ hb=>hb) I.ok.funs
theorem Inv.stack(I:Inv X pins σ H s):s.heap.FunFrames X.base X.stack:=by
 rcases I.ok.stk with e|⟨e,hf⟩
 ·rw[e];exact I.funs
 ·rw[e]
  obtain⟨m,hn,_⟩:=I.loc
  refine .cons (by rw[I.ok.kind];decide) hf hn ?_ I.funs
  exact Heap.get?_none_of_le (yat I.ok.bsz I.ok.above)
theorem Inv.stkSub(I:Inv X pins σ H s):∀b∈frs X.stack,b∈X.env.locals::X.fs:=fun b hb=>by
 rcases I.ok.stk with e|⟨e,hf⟩
 ·rw[e]at hb;exact yae _ hb
 ·rw[e]at hb
  unfold frs at hb
  rw[List.filterMap_cons,hf]at hb
  exact hb
theorem Inv.stkFree(I:Inv X pins σ H s):∀b∈frs X.stack,H b=none:=fun b hb=>by
 rcases yam.mp (I.stkSub b hb)with e|hb
 ·rw[e];exact I.free
 ·obtain⟨_,o,ho,_⟩:=I.ok.funs.mem hb
  exact I.base.free b o ho (I.ok.frf b hb) fun z=>I.ok.exfs b z hb
theorem Inv.step{g':Array GenState}{t':Nat}{d':Drawn}{ch:List Addr}(I:Inv X pins σ H s)(hch:∀b∈ch,(b∈X.ex\/X.s₀.heap.objs.size<=b)/\b≠X.env.locals/\(∀x c,X.env.cells.lookup x=some c->c≠b)/\∀p∈X.pn++pins,p.1≠b)(keep:∀b o,b≠X.env.locals->b∉X.fs->b∉ch->s.heap.get? b=some o->H b=none->h'.get? b=some o)(slot:∀b o,b≠X.env.locals->b∈X.fs->b∉ch->s.heap.get? b=some o->H b=none->∃sl,h'.get? b=some {o with slots:=sl})(free:∀b o,b∉ch->s.heap.get? b=some o->H b=none->H' b=none)(there:∀b o,b∉ch->s.heap.get? b=some o->∃o',h'.get? b=some o')(tups:∀b xs,H b=some (.tup xs)->H' b=some (.tup xs))(frzs:∀b o u,H b=some (.frz o u)->H' b=some (.frz o u))(tbls:∀b ps,H b=some (.tbl ps)->∃more,H' b=some (.tbl (ps++more)))(ns:∀m,s.heap.Ns X.env.locals m->h'.Ns X.env.locals m)(hok:HOk X.prog X.w H' h')(hg:AllBare g'):
  Inv X pins σ H' {s with heap:=h',gens:=g',drawn:=d',toks:=t'}:=by
 have neL:∀b o,X.s₀.heap.get? b=some o->b≠X.env.locals:=fun b o e=>yau (yan (yap e) I.ok.above)
 have neC:∀b o,X.s₀.heap.get? b=some o->b∉X.ex->b∉ch:=fun b o e hx hb=>by
  rcases(hch b hb).1 with z|z
  ·exact hx z
  ·exact absurd (yan (yap e) z) (ybd _)
 have cellK:∀x c,X.env.cells.lookup x=some c->∀v,s.heap.IsCell c v->h'.IsCell c v:=fun x c e v ⟨o,ho,hd⟩=>by
  have nch:c∉ch:=fun z=>(hch c z).2.2.1 x c e rfl
  by_cases hc:c∈X.fs
  ·obtain⟨sl,q⟩:=slot c o (I.cne x c e) hc nch ho (I.freeC x c e)
   exact⟨_,q,hd⟩
  ·exact⟨o,keep c o (I.cne x c e) hc nch ho (I.freeC x c e),hd⟩
 refine⟨I.ok,I.os,hg,⟨fun b o e n hb hx=> ?_,fun b o e n hb hx=> ?_,fun b o e n hx=> ?_,fun b o e hx=> ?_,fun b xs e=>tups b xs (I.base.tups b xs e),fun b o xs e=>frzs b o xs (I.base.frzs b o xs e),fun b ps e=> ?_⟩,?_,fun x c e=> ?_,?_,fun x c e=> ?_,fun p hp=> ?_,hok,I.len⟩
 ·exact keep b o (neL b o e) hb (neC b o e hx) (I.base.keep b o e n hb hx) (I.base.free b o e n hx)
 ·obtain⟨sl,e1⟩:=I.base.slot b o e n hb hx
  obtain⟨sl',e2⟩:=slot b _ (neL b o e) hb (neC b o e hx) e1 (I.base.free b o e n hx)
  exact⟨sl',e2⟩
 ·obtain⟨o',e1⟩:=I.base.there b o e hx
  exact free b o' (neC b o e hx) e1 (I.base.free b o e n hx)
 ·obtain⟨o',e1⟩:=I.base.there b o e hx
  exact there b o' (neC b o e hx) e1
 ·obtain⟨m1,e1⟩:=I.base.tbls b ps e
  obtain⟨m2,e2⟩:=tbls b _ e1
  exact⟨m1++m2,by rw[e2,Array.append_assoc]⟩
 ·obtain⟨m,hn,hl⟩:=I.loc
  refine⟨m,ns m hn,fun i x v e1 e2 e3=> ?_⟩
  obtain⟨u,r,l⟩:=hl i x v e1 e2 e3
  refine⟨u,r,?_⟩
  rcases l with l|⟨k,c,e,z⟩
  ·exact .inl l
  ·exact .inr ⟨k,c,e,cellK x c e _ z⟩
 ·obtain⟨v,z⟩:=I.cell x c e
  exact⟨v,cellK x c e v z⟩
 ·obtain⟨m,⟨o,_,_,ho,_⟩,_⟩:=I.loc
  exact free _ o (fun z=>(hch _ z).2.1 rfl) ho I.free
 ·obtain⟨v,o,ho,hd⟩:=I.cell x c e
  exact free c o (fun z=>(hch c z).2.2.1 x c e rfl) ho (I.freeC x c e)
 ·obtain⟨e,n,ne,nf,d⟩:=I.pin p hp
  have nch:p.1∉ch:=fun z=>(hch p.1 z).2.2.2 p hp rfl
  exact⟨keep p.1 p.2 ne nf nch e n,free p.1 p.2 nch e n,ne,nf,d⟩
theorem Inv.un{t':Nat}(I:Inv X pins σ H s)(u:Un X.fs [] H H' s.heap h')(hok:HOk X.prog X.w H' h'):Inv X pins σ H' {s with heap:=h',toks:=t'}:=by
 obtain⟨m,⟨o,es,ep,ho,r⟩,_⟩:=id I.loc
 obtain⟨sl,hL⟩:=u.any ho I.free (by simp)
 exact I.step (g':=s.gens) (d':=s.drawn) (ch:=[]) (fun _ z=>nomatch z) (fun b o _ hb _ e n=>u.keep b o e n hb (by simp)) (fun b o _ hb _ e n=>u.slot b o e n hb (by simp)) (fun b o _ e n=>u.free b o e n (by simp)) (fun b o _ e=>u.there b o e (by simp)) u.tups u.frzs u.tbls (fun m' hm=>by
  obtain⟨o',es',ep',ho',r'⟩:=hm
  rw[ho]at ho';cases ho'
  exact⟨_,es',ep',hL,r'⟩) hok I.bare
theorem Inv.call{g':Array GenState}{t':Nat}{d':Drawn}{ch:List Addr}(I:Inv X pins σ H s)(u:Un (frs X.stack) ch H H' s.heap h')(hok:HOk X.prog X.w H' h')(hg:AllBare g')(hch:∀b∈ch,(b∈X.ex\/X.s₀.heap.objs.size<=b)/\b≠X.env.locals/\(∀x c,X.env.cells.lookup x=some c->c≠b)/\∀p∈X.pn++pins,p.1≠b):
  Inv X pins σ H' {s with heap:=h',gens:=g',drawn:=d',toks:=t'}:=by
 obtain⟨m,⟨o,es,ep,ho,r⟩,_⟩:=id I.loc
 obtain⟨sl,hL⟩:=u.any ho I.free fun z=>(hch _ z).2.1 rfl
 exact I.step (ch:=ch) hch (fun b o hL hb hc e n=>u.keep b o e n (fun z=>(yam.mp (I.stkSub b z)).elim hL hb) hc) (fun b o _ _ hc e n=>u.any e n hc) (fun b o hc e n=>u.free b o e n hc) (fun b o hc e=>u.there b o e hc) u.tups u.frzs u.tbls (fun m' hm=>by
  obtain⟨o',es',ep',ho',r'⟩:=hm
  rw[ho]at ho';cases ho'
  exact⟨_,es',ep',hL,r'⟩) hok hg
theorem Inv.turned{t':Nat}{it:Addr}(I:Inv X pins σ H s)(k:∀b o,b≠it->s.heap.get? b=some o->h'.get? b=some o)(hn:H it=none)(hL:it≠X.env.locals)(h1:it∈X.ex\/X.s₀.heap.objs.size<=it)(h2:∀x c,X.env.cells.lookup x=some c->c≠it)(h3:∀p∈X.pn++pins,p.1≠it):Inv X pins σ H {s with heap:=h',toks:=t'}:=by
 have nit:∀b u,H b=some u->b≠it:=fun b u e z=>by rw[z,hn]at e;cases e
 refine I.step (g':=s.gens) (d':=s.drawn) (ch:=[it]) (fun b hb=> ?_) (fun b o _ _ hc e _=>k b o (fun z=>hc (by simp[z])) e) (fun b o _ _ hc e _=>⟨o.slots,k b o (fun z=>hc (by simp[z])) e⟩) (fun _ _ _ _ n=>n)
  (fun b o hc e=>⟨o,k b o (fun z=>hc (by simp[z])) e⟩) (fun _ _ e=>e) (fun _ _ _ e=>e) (fun b ps e=>⟨#[],by rw[e];simp⟩) (fun m hm=> ?_) (fun b u e=> ?_) I.bare
 ·have e:b=it:=by simpa using hb
  subst e
  exact⟨h1,hL,h2,h3⟩
 ·obtain⟨o,es,ep,ho,r⟩:=hm
  exact⟨o,es,ep,k _ o (Ne.symm hL) ho,r⟩
 ·refine(I.hok b u e).stay (fun c v hc q=>k c v ?_ q) (fun _ q=>q) fun _ _ q=>q
  rcases hc with z|z
  ·rw[z];exact nit b u e
  ·exact nit c _ z
theorem Inv.tok(I:Inv X pins σ H s)(t:Nat):Inv X pins σ H {s with toks:=t}:=I.un (h':=s.heap) (t':=t) Un.refl I.hok
theorem Inv.kept{t':Nat}(I:Inv X pins σ H s)(k:∀b u,s.heap.get? b=some u->h'.get? b=some u):Inv X pins σ H {s with heap:=h',toks:=t'}:=I.un (Un.kept k) (I.hok.kept k)
theorem Inv.laid{a:Addr}{o:HO}{t':Nat}(I:Inv X pins σ H s)(k:∀b u,s.heap.get? b=some u->h'.get? b=some u)(hp:s.heap.objs.size<=a)(new:ObjOk X.prog X.w (upd H a o) h' a o):
  Inv X pins σ (upd H a o) {s with heap:=h',toks:=t'}:=I.un (Un.laid k hp (I.hok.fresh hp)) (I.hok.laid k hp new)
theorem Inv.write{x e:Addr}{o:HO}{t':Nat}(I:Inv X pins σ H s)(mu:Mut (H x))(he:e=x\/H e=some (.own x))(k:∀b u,b≠e->s.heap.get? b=some u->h'.get? b=some u)(heo:∃u,h'.get? e=some u)(new:ObjOk X.prog X.w (upd H x o) h' x o):Inv X pins σ (upd H x o) {s with heap:=h',toks:=t'}:=I.un (Un.write mu he k heo) (I.hok.write mu he k heo new)
theorem Inv.pins_of{pins':List (Addr×Obj)}(I:Inv X pins σ H s)(h:∀p∈pins',s.heap.get? p.1=some p.2/\H p.1=none/\p.1≠X.env.locals/\p.1∉X.fs/\∀v,p.2.data≠.cell v):Inv X pins' σ H s:=
 ⟨I.ok,I.os,I.bare,I.base,I.loc,I.cell,I.free,I.freeC,fun p hp=>(yax.mp hp).elim (fun z=>I.pin p (ybq _ z)) (h p),I.hok,I.len⟩
theorem nodup_ix{N:List Str}(hN:N.Nodup){i j:Nat}{x:Str}(a:N[i]? =some x)(b:N[j]? =some x):i=j:=by
 obtain⟨h1,e1⟩:=yaq.mp a
 obtain⟨h2,e2⟩:=yaq.mp b
 exact(List.getElem_inj hN).mp (e1.trans e2.symm)
theorem store_ok2{M:Model}{A:Around}{E:Value->Shared->Prop}{i:Nat}{x:Str}{v:V}{u:Value}{Q:Unit->Shared->Prop}(I:Inv X pins σ H s)(hN:X.N.Nodup)(hi:X.N[i]? =some x)(hx:Loc X.env.scope x)(r:RelV v u)(h:∀s',Inv X pins (σ.set i (some v)) H s'->(∃a,Heap.SameBut a s.heap s'.heap/\(a=X.env.locals\/X.env.cells.lookup x=some a))->Q () s')(hf:X.fn x=true\/X.env.scope.names.lookup x=some .local:=by first |exact .inl rfl|exact .inr rfl|assumption):wpAny M A (storeName X.env x u) Q E s:=by
 obtain⟨m,hn,hl⟩:=id I.loc
 have hcls:(X.env.scope.kind== .class||(X.env.scope.kind== .module&&X.env.locals !=X.env.globals))=false:=by rw[I.ok.kind];rfl
 have hiσ:i<σ.length:=by rw[I.len];exact(yaq.mp hi).1
 have cne:=I.cne
 have tracked:∀{a:Addr} {h':Heap},(∃o,s.heap.get? a=some o/\H a=none)->Heap.SameBut a s.heap h'->HOk X.prog X.w H h':=fun{a h'} ha hs b ob e=>by
  obtain⟨_,_,hfree⟩:=ha
  refine(I.hok b ob e).stay (fun c w' hc q=>(hs.2 c ?_).trans q) (fun _ q=>q) fun _ _ q=>q
  rintro rfl
  rcases hc with rfl|hc
  ·rw[hfree]at e;cases e
  ·rw[hfree]at hc;cases hc
 rcases hx with hk|hk
 ·refine wpAny_storeName_local hk hn (fun h' hn' hs=> ?_) hcls
  obtain⟨oL,_,_,hoL,_⟩:=id hn
  refine h _ ⟨I.ok,I.os,I.bare,⟨fun b o e n hb hx=> ?_,fun b o e n hb hx=> ?_,I.base.free,fun b o e hx=> ?_,I.base.tups,I.base.frzs,I.base.tbls⟩,⟨_,hn',fun j y v' e1 e2 e3=> ?_⟩,fun y c e=> ?_,I.free,I.freeC,fun p hp=> ?_,tracked ⟨oL,hoL,I.free⟩ hs,by simpa using I.len⟩ ⟨_,hs,.inl rfl⟩
  ·exact(hs.2 b (yau (yan (yap e) I.ok.above))).trans (I.base.keep b o e n hb hx)
  ·obtain⟨sl,e1⟩:=I.base.slot b o e n hb hx
   exact⟨sl,(hs.2 b (yau (yan (yap e) I.ok.above))).trans e1⟩
  ·obtain⟨o',e1⟩:=I.base.there b o e hx
   exact⟨o',(hs.2 b (yau (yan (yap e) I.ok.above))).trans e1⟩
  ·by_cases hj:j=i
   ·subst hj
    rw[hi]at e1;cases e1
    rw[List.getElem?_set_self hiσ]at e2
    cases e2
    exact⟨u,r,.inl ⟨hk,by simp⟩⟩
   ·rw[List.getElem?_set_ne (Ne.symm hj)]at e2
    obtain⟨u',r',q⟩:=hl j y v' e1 e2 e3
    refine⟨u',r',?_⟩
    rcases q with⟨k,e⟩|⟨k,c,e,z⟩
    ·refine .inl ⟨k,?_⟩
     have:y≠x:=fun e=>hj (nodup_ix hN e1 (e▸hi))
     simp[this,e]
    ·exact .inr ⟨k,c,e,z.sameBut hs (cne y c e)⟩
  ·obtain⟨w',z⟩:=I.cell y c e
   exact⟨w',z.sameBut hs (cne y c e)⟩
  ·obtain⟨e,n,ne,nf,d⟩:=I.pin p hp
   exact⟨(hs.2 p.1 ne).trans e,n,ne,nf,d⟩
 ·have hfn:X.fn x=true:=by
   rcases hf with z|z
   ·exact z
   ·rw[z]at hk;cases hk
  obtain⟨c,hc⟩:=I.ok.has x (.inl hk)
  obtain⟨w',z⟩:=I.cell x c hc
  refine wpAny_storeName_cell I.ok.kind hk hc z (fun h' hc' hs=> ?_)
  obtain⟨oc,hoc,hocd⟩:=id z
  refine h {s with heap:=h'} ⟨I.ok,I.os,I.bare,⟨fun b o e n hb hx=> ?_,fun b o e n hb hx=> ?_,I.base.free,fun b o e hx=> ?_,I.base.tups,I.base.frzs,I.base.tbls⟩,⟨m,hn.sameBut hs (Ne.symm (cne x c hc)),fun j y v' e1 e2 e3=> ?_⟩,fun y c' e=> ?_,I.free,I.freeC,fun p hp=> ?_,tracked ⟨oc,hoc,I.freeC x c hc⟩ hs,by simpa using I.len⟩ ⟨c,hs,.inr hc⟩
  ·exact(hs.2 b (yau (yan (yap e) (I.ok.cab x c hfn hc)))).trans (I.base.keep b o e n hb hx)
  ·obtain⟨sl,e1⟩:=I.base.slot b o e n hb hx
   exact⟨sl,(hs.2 b (yau (yan (yap e) (I.ok.cab x c hfn hc)))).trans e1⟩
  ·obtain⟨o',e1⟩:=I.base.there b o e hx
   exact⟨o',(hs.2 b (yau (yan (yap e) (I.ok.cab x c hfn hc)))).trans e1⟩
  ·by_cases hj:j=i
   ·subst hj
    rw[hi]at e1;cases e1
    rw[List.getElem?_set_self hiσ]at e2
    cases e2
    exact⟨u,r,.inr ⟨.inl hk,c,hc,hc'⟩⟩
   ·rw[List.getElem?_set_ne (Ne.symm hj)]at e2
    obtain⟨u',r',q⟩:=hl j y v' e1 e2 e3
    refine⟨u',r',?_⟩
    rcases q with q|⟨k,c',e,z'⟩
    ·exact .inl q
    ·refine .inr ⟨k,c',e,z'.sameBut hs ?_⟩
     rintro rfl
     exact hj (nodup_ix hN e1 (I.ok.inj _ _ _ e hc▸hi))
  ·by_cases hcc:c'=c
   ·subst hcc;exact⟨_,hc'⟩
   ·obtain⟨w2,z2⟩:=I.cell y c' e
    exact⟨w2,z2.sameBut hs hcc⟩
  ·obtain⟨e,n,ne,nf,d⟩:=I.pin p hp
   refine⟨(hs.2 p.1 ?_).trans e,n,ne,nf,d⟩
   intro q
   rw[q,hoc]at e
   have q':oc=p.2:=Option.some.inj e
   exact d w' (by rw[<-q'];exact hocd)
theorem store_ok{M:Model}{A:Around}{E:Value->Shared->Prop}{i:Nat}{x:Str}{v:V}{u:Value}{Q:Unit->Shared->Prop}(I:Inv X pins σ H s)(hN:X.N.Nodup)(hi:X.N[i]? =some x)(hx:Loc X.env.scope x)(r:RelV v u)(h:∀s',Inv X pins (σ.set i (some v)) H s'->Q () s')(hf:X.fn x=true\/X.env.scope.names.lookup x=some .local:=by first |exact .inl rfl|exact .inr rfl|assumption):wpAny M A (storeName X.env x u) Q E s:=
 store_ok2 I hN hi hx r (fun s' I' _=>h s' I') hf
theorem Inv.call'{s':Shared}{ch:List Addr}(I:Inv X pins σ H s)(ho:s'.os=s.os)(u:Un (frs X.stack) ch H H' s.heap s'.heap)(hok:HOk X.prog X.w H' s'.heap)(hg:AllBare s'.gens)(hch:∀b∈ch,(b∈X.ex\/X.s₀.heap.objs.size<=b)/\b≠X.env.locals/\(∀x c,X.env.cells.lookup x=some c->c≠b)/\∀p∈X.pn++pins,p.1≠b):Inv X pins σ H' s':=by
 obtain⟨h',g',d',t',o'⟩:=s'
 have e:o'=s.os:=ho
 subst e
 exact I.call (g':=g') (t':=t') (d':=d') u hok hg hch
end
noncomputable abbrev XK:=Value->Option Addr->Hp->Prop
noncomputable abbrev St:=List (Option V)
noncomputable abbrev VK:=V->Hp->Prop
noncomputable abbrev TE:=St->Hp->VK->Prop
noncomputable abbrev TT:=St->Hp->(Bool->Hp->Prop)->Prop
noncomputable abbrev TA:=St->Hp->(List V->Hp->Prop)->Prop
structure Ends where
 nx:St->Hp->Prop
 rt:VK
 bk:St->Hp->Prop:=fun _ _=>False
 ct:St->Hp->Prop:=fun _ _=>False
noncomputable abbrev TS:=Ends->St->Hp->Prop
noncomputable def EP(X:Cx)(pins:List (Addr×Obj))(σ:St)(Q:VK)(u:Value)(s':Shared):Prop:=∃v H',Inv X pins σ H' s'/\RelV v u/\Q v H'
noncomputable def TP(X:Cx)(pins:List (Addr×Obj))(σ:St)(Q:Bool->Hp->Prop)(b:Bool)(s':Shared):Prop:=∃H',Inv X pins σ H' s'/\Q b H'
noncomputable def AP(X:Cx)(pins:List (Addr×Obj))(σ:St)(Q:List V->Hp->Prop)(us:List Value)(s':Shared):Prop:=∃vs H',Inv X pins σ H' s'/\Vals vs us/\Q vs H'
noncomputable def SP(X:Cx)(pins:List (Addr×Obj))(D:Ends)(f:Flow)(s':Shared):Prop:=
 match f with
 | .next=>∃σ' H',Inv X pins σ' H' s'/\D.nx σ' H'
 | .brk=>∃σ' H',Inv X pins σ' H' s'/\D.bk σ' H'
 | .cont=>∃σ' H',Inv X pins σ' H' s'/\D.ct σ' H'
 | .ret u=>∃v σ' H',Inv X pins σ' H' s'/\RelV v u/\D.rt v H'
noncomputable def PE(X:Cx)(e:Expr)(t:TE):Prop:=
 ∀(pins:List (Addr×Obj)) (s:Shared) (σ:St) (H:Hp) (Q:VK),Inv X pins σ H s->t σ H Q->wpAny (model X.prog X.w) X.A (eval e X.env) (EP X pins σ Q) X.xe s
noncomputable def PT(X:Cx)(e:Expr)(t:TT):Prop:=
 ∀(pins:List (Addr×Obj)) (s:Shared) (σ:St) (H:Hp) (Q:Bool->Hp->Prop),Inv X pins σ H s->t σ H Q->wpAny (model X.prog X.w) X.A (isTrue e X.env (eval e X.env)) (TP X pins σ Q) X.xe s
noncomputable def PW(X:Cx)(e:Expr)(t:TT):Prop:=
 ∀(whole:Sem Value) (pins:List (Addr×Obj)) (s:Shared) (σ:St) (H:Hp) (Q:Bool->Hp->Prop),Inv X pins σ H s->t σ H Q->wpAny (model X.prog X.w) X.A (isTrue e X.env whole) (TP X pins σ Q) X.xe s
theorem PW.pt{X:Cx}{e:Expr}{t:TT}(h:PW X e t):PT X e t:=h _
noncomputable def PA(X:Cx)(es:List Expr)(t:TA):Prop:=
 ∀(pos:Pos) (pins:List (Addr×Obj)) (s:Shared) (σ:St) (H:Hp) (Q:List V->Hp->Prop),Inv X pins σ H s->t σ H Q->wpAny (model X.prog X.w) X.A (spliced (backTo pos (starEach es X.env))) (AP X pins σ Q) X.xe s
noncomputable def PS(X:Cx)(st:Stmt)(t:TS):Prop:=
 ∀(pins:List (Addr×Obj)) (s:Shared) (σ:St) (H:Hp) (D:Ends),Inv X pins σ H s->t D σ H->wpAny (model X.prog X.w) X.A (exec st X.env) (SP X pins D) X.xe s
noncomputable def PSs(X:Cx)(st:List Stmt)(t:TS):Prop:=
 ∀(pins:List (Addr×Obj)) (s:Shared) (σ:St) (H:Hp) (D:Ends),Inv X pins σ H s->t D σ H->wpAny (model X.prog X.w) X.A (execs st X.env) (SP X pins D) X.xe s
theorem thn{α:Type}{t:Sem α}{Q Q':α->Shared->Prop}{M:Model}{A:Around}{E:Value->Shared->Prop}{s:Shared}(h:wpAny M A t Q E s)(hQ:∀a s,Q a s->Q' a s):wpAny M A t Q' E s:=wpAny_mono h hQ fun _ _ x=>x
section
variable{X:Cx}
noncomputable def tVar(i:Nat):TE:=fun σ H Q=>∃v,σ[i]? =some (some v)/\Q v H
noncomputable def tC(v:V):TE:=fun _ H Q=>Q v H
theorem pe_var{i:Nat}{x:Str}{pos:Pos}(hN:X.N[i]? =some x)(hv:Vis X.env.scope x)(hd:(x==("__debug__":Str))=false:=by decide)(hcd:(x==("__classdict__":Str))=false:=by decide):PE X (.Name x pos) (tVar i):=by
 intro pins s σ H Q I h
 obtain⟨v,e,h⟩:=h
 obtain⟨m,hn,hl⟩:=I.loc
 obtain⟨u,r,l⟩:=hl i x v hN e hv
 have fin:EP X pins σ Q u s:=⟨v,H,I,r,h⟩
 rcases l with⟨hk,hm⟩|⟨hk,c,hc,hcell⟩
 ·exact wpAny_Name (wpAny_loadName_local I.ok.kind hk hn hm fin) hd
 ·rcases hk with hk|hk
  ·exact wpAny_Name (wpAny_loadName_cell I.ok.kind hk hc hcell fin) hd
  ·exact wpAny_Name (wpAny_loadName_free I.ok.kind hk hc hcell fin hcd) hd
theorem zag{i j pos}:PE X (.Constant (.int i) j pos) (tC (.int i)):=fun _ _ _ H _ I h=>wpAny_Constant_int ⟨.int i,H,I.tok _,⟨_,rfl⟩,h⟩
theorem pe_bl{b j pos}:PE X (.Constant (.bool b) j pos) (tC (.bl b)):=fun _ _ _ H _ I h=>Constant_bool ⟨.bl b,H,I,rfl,h⟩
theorem pe_non{j pos}:PE X (.Constant .none j pos) (tC .non):=fun _ _ _ H _ I h=>Constant_none ⟨.non,H,I,rfl,h⟩
noncomputable def Gl(X:Cx)(x:Str):Prop:=X.env.kindOf x=some .globalImplicit
theorem ld_glob{E:Value->Shared->Prop}{pins:List (Addr×Obj)}{s:Shared}{σ:St}{H:Hp}{x:Str}{u:Value}{pos:Pos}{Q:Value->Shared->Prop}(I:Inv X pins σ H s)(hg:Gl X x)(hm:X.mg x=some u)(h:Q u s)(hd:(x==("__debug__":Str))=false:=by decide):wpAny (model X.prog X.w) X.A (eval (.Name x pos) X.env) Q E s:=
 Calls.Name_function_global I.ok.kind hg (Calls.loadGlobal_global (by rw[I.ok.glob];exact I.mod.glob.keeps I.bk) hm h) hd
theorem zcz{E:Value->Shared->Prop}{pins:List (Addr×Obj)}{s:Shared}{σ:St}{H:Hp}{x:Str}{u:Value}{pos:Pos}{Q:Value->Shared->Prop}(I:Inv X pins σ H s)(hg:Gl X x)(hm:X.mg x=none)(hv:bootBuiltins x=some u)(h:Q u s)(hn:x≠"__name__":=by decide)(hd:(x==("__debug__":Str))=false:=by decide):wpAny (model X.prog X.w) X.A (eval (.Name x pos) X.env) Q E s:=by
 obtain⟨mb,h1,h2⟩:=I.mod.blt
 exact Calls.Name_function_global I.ok.kind hg (Calls.loadGlobal_builtin (by rw[I.ok.glob];exact I.mod.glob.keeps I.bk) hm (by rw[I.ok.blt];exact h1.keeps I.bk) ((h2 x hn).trans hv) h) hd
theorem pe_glob{x:Str}{v:V}{u:Value}{pos:Pos}(hg:Gl X x)(hm:X.mg x=some u)(r:RelV v u)(hd:(x==("__debug__":Str))=false:=by decide):PE X (.Name x pos) (tC v):=
 fun _ _ _ H _ I h=>ld_glob I hg hm ⟨v,H,I,r,h⟩ hd
theorem pe_bltn{x:Str}{v:V}{u:Value}{pos:Pos}(hg:Gl X x)(hm:X.mg x=none)(hv:bootBuiltins x=some u)(r:RelV v u)(hn:x≠"__name__":=by decide)(hd:(x==("__debug__":Str))=false:=by decide):PE X (.Name x pos) (tC v):=
 fun _ _ _ H _ I h=>zcz I hg hm hv ⟨v,H,I,r,h⟩ hn hd
variable{a b:Expr}{ta tb:TE}{pos:Pos}
noncomputable def tB(t:TE):TT:=fun σ H Q=>t σ H fun x H1=>∃c,x= .bl c/\Q c H1
theorem zdl{e:Expr}{t:TE}(h:PE X e t)(he:∀whole,isTrue e X.env whole=(do let v<-whole;standAt e.pos;holding [v] (truthy v)):=by intro _;rfl):PT X e (tB t):=by
 intro pins s σ H Q I hw
 refine isTrue_plain (thn (h pins s σ H _ I hw) fun v s1 ⟨x,H1,I1,r1,q1⟩=> ?_) (he _)
 obtain⟨d,rfl,q⟩:=q1
 cases r1
 exact wpAny_truthy_bool ⟨H1,I1,q⟩
variable{tA tB':TT}{rest:List Expr}
noncomputable def tAnd(t u:TT):TT:=fun σ H Q=>t σ H fun c H1=>if c=true then u σ H1 Q else Q false H1
noncomputable def tOr(t u:TT):TT:=fun σ H Q=>t σ H fun c H1=>if c=true then Q true H1 else u σ H1 Q
noncomputable def tNot(t:TT):TT:=fun σ H Q=>t σ H fun c H1=>Q (!c) H1
theorem pw_and1(ha:PT X a tA):PW X (.BoolOp .And [a] pos) tA:=by
 intro wh pins s σ H Q I h
 refine isTrue_and (thn (ha pins s σ H Q I h) fun c s1 e=> ?_)
 cases c with
 |true=>exact isTrue_and_nil e
 |false=>exact e
theorem pw_or1(ha:PT X a tA):PW X (.BoolOp .Or [a] pos) tA:=by
 intro wh pins s σ H Q I h
 refine isTrue_or (thn (ha pins s σ H Q I h) fun c s1 e=> ?_)
 cases c with
 |false=>exact isTrue_or_nil e
 |true=>exact e
theorem pw_and(ha:PT X a tA)(hb:PW X (.BoolOp .And (b::rest) pos) tB'):PW X (.BoolOp .And (a::b::rest) pos) (tAnd tA tB'):=by
 intro wh pins s σ H Q I h
 refine isTrue_and (thn (ha pins s σ H _ I h) fun c s1 ⟨H1,I1,q1⟩=> ?_)
 cases c with
 |true=>exact hb wh pins s1 σ H1 Q I1 q1
 |false=>exact⟨H1,I1,q1⟩
theorem pw_or(ha:PT X a tA)(hb:PW X (.BoolOp .Or (b::rest) pos) tB'):PW X (.BoolOp .Or (a::b::rest) pos) (tOr tA tB'):=by
 intro wh pins s σ H Q I h
 refine isTrue_or (thn (ha pins s σ H _ I h) fun c s1 ⟨H1,I1,q1⟩=> ?_)
 cases c with
 |true=>exact⟨H1,I1,q1⟩
 |false=>exact hb wh pins s1 σ H1 Q I1 q1
theorem pt_not(ha:PT X a tA):PT X (.UnaryOp .Not a pos) (tNot tA):=by
 intro pins s σ H Q I h
 exact isTrue_not (ha pins s σ H (fun c H1=>Q (!c) H1) I h)
noncomputable def tAndV(ta tb:TE):TE:=fun σ H Q=>ta σ H fun x H1=>∃c,x= .bl c/\if c=true then tb σ H1 Q else Q (.bl false) H1
noncomputable def tOrV(ta tb:TE):TE:=fun σ H Q=>ta σ H fun x H1=>∃c,x= .bl c/\if c=true then Q (.bl true) H1 else tb σ H1 Q
noncomputable def tNotV(ta:TE):TE:=fun σ H Q=>ta σ H fun x H1=>∃c,x= .bl c/\Q (.bl (!c)) H1
theorem pe_one{op}{t:TE}(h:PE X a t):PE X (.BoolOp op [a] pos) t:=fun pins s σ H Q I hw=>BoolOp_one (h pins s σ H Q I hw)
theorem pe_and(ha:PE X a ta)(hb:PE X (.BoolOp .And (b::rest) pos) tb):PE X (.BoolOp .And (a::b::rest) pos) (tAndV ta tb):=by
 intro pins s σ H Q I h
 refine BoolOp_and (thn (ha pins s σ H _ I h) fun v s1 ⟨x,H1,I1,r1,q1⟩=> ?_)
 obtain⟨c,rfl,q1⟩:=q1
 cases r1
 refine wpAny_truthy_bool ?_
 cases c with
 |true=>exact hb pins s1 σ H1 Q I1 q1
 |false=>exact⟨.bl false,H1,I1,rfl,q1⟩
theorem pe_or(ha:PE X a ta)(hb:PE X (.BoolOp .Or (b::rest) pos) tb):PE X (.BoolOp .Or (a::b::rest) pos) (tOrV ta tb):=by
 intro pins s σ H Q I h
 refine BoolOp_or (thn (ha pins s σ H _ I h) fun v s1 ⟨x,H1,I1,r1,q1⟩=> ?_)
 obtain⟨c,rfl,q1⟩:=q1
 cases r1
 refine wpAny_truthy_bool ?_
 cases c with
 |false=>exact hb pins s1 σ H1 Q I1 q1
 |true=>exact⟨.bl true,H1,I1,rfl,q1⟩
theorem pe_not(ha:PE X a ta):PE X (.UnaryOp .Not a pos) (tNotV ta):=by
 intro pins s σ H Q I h
 refine UnaryOp_ (thn (ha pins s σ H _ I h) fun v s1 ⟨x,H1,I1,r1,q1⟩=> ?_)
 obtain⟨c,rfl,q1⟩:=q1
 cases r1
 exact not_of (wpAny_truthy_bool ⟨.bl (!c),H1,I1,rfl,q1⟩)
noncomputable def tIf(t:TT)(ta tb:TE):TE:=fun σ H Q=>t σ H fun c H1=>if c=true then ta σ H1 Q else tb σ H1 Q
theorem pe_ifExp{c:Expr}(hc:PT X c tA)(ha:PE X a ta)(hb:PE X b tb):PE X (.IfExp c a b pos) (tIf tA ta tb):=by
 intro pins s σ H Q I h
 refine wpAny_IfExp (thn (hc pins s σ H _ I h) fun d s1 ⟨H1,I1,q1⟩=> ?_)
 cases d with
 |true=>exact ha pins s1 σ H1 Q I1 q1
 |false=>exact hb pins s1 σ H1 Q I1 q1
end
noncomputable def SqL(K:W.Frag)(H:Hp)(a:Addr)(xs:List V):Prop:=
 Rd H a (.lst xs)\/
  ∃(o:Obj) (its:Array Value) (n:Nat),K.lookup a=some o/\o.cls= .type "list"/\o.dict=none/\o.data= .seq its n/\its.size<=sizeLine/\Vals xs its.toList
noncomputable def SqT(K:W.Frag)(H:Hp)(a:Addr)(xs:List V):Prop:=
 Rd H a (.tup xs)\/
  ∃(o:Obj) (its:Array Value) (n:Nat),K.lookup a=some o/\o.cls= .type "tuple"/\o.data= .seq its n/\its.size<=sizeLine/\Vals xs its.toList
noncomputable def absV:Value->Option V
 | .none=>some .non
 | .bool b=>some (.bl b)
 | .int i _=>some (.int i)
 | .str x _=>some (.str x)
 | .bytes b _=>some (.byt b)
 | .float b _=>some (.flt b)
 | .ref a=>some (.ref a)
 | .type n=>some (.ty n)
 |_=>none
theorem RelV.abs{x:V}{u:Value}(r:RelV x u):absV u=some x:=by
 cases x with
 |non=>cases r;rfl
 |bl _=>cases r;rfl
 |int _=>obtain⟨t,rfl⟩:=r;rfl
 |str _=>obtain⟨t,rfl⟩:=r;rfl
 |byt _=>obtain⟨t,rfl⟩:=r;rfl
 |flt _=>obtain⟨t,rfl⟩:=r;rfl
 |ref _=>cases r;rfl
 |ty _=>cases r;rfl
theorem RelV.inj{x y:V}{u:Value}(r:RelV x u)(q:RelV y u):x=y:=Option.some.inj (r.abs.symm.trans q.abs)
theorem Vals.inj{xs ys:List V}{us:List Value}(h:Vals xs us)(h':Vals ys us):xs=ys:=by
 induction h generalizing ys with
 |nil=>cases h';rfl
 |cons r _ ih=>cases h' with |cons r' t'=>rw[r.inj r',ih t']
section
variable{X:Cx}{pins:List (Addr×Obj)}{σ:St}{H:Hp}{s:Shared}{a:Addr}{xs ys:List V}
theorem SqL.of{K:W.Frag}(h:H a=some (.lst xs)):SqL K H a xs:= .inl (.inl h)
theorem SqT.of{K:W.Frag}(h:H a=some (.tup xs)):SqT K H a xs:= .inl (.inl h)
theorem Inv.list(I:Inv X pins σ H s)(h:SqL X.K H a xs):∃its:List Value,Vals xs its/\PlainL s.heap a its.toArray/\xs.length<=sizeLine:=by
 rcases h with h|⟨o,its,n,hk,hc,hd,hs,hz,r⟩
 ·obtain⟨z,its,n,r,e⟩:=h.ok I.hok
  exact⟨its,r,⟨_,n,e,rfl,rfl,rfl⟩,z⟩
 ·refine⟨its.toList,r,⟨o,n,I.kIn a o hk,hc,hd,by simpa using hs⟩,?_⟩
  have e:=r.length
  simp only[yco]at e
  omega
theorem Inv.tuple(I:Inv X pins σ H s)(h:SqT X.K H a xs):∃its:List Value,Vals xs its/\IsTup s.heap a its.toArray/\xs.length<=sizeLine:=by
 rcases h with h|⟨o,its,n,hk,hc,hs,hz,r⟩
 ·obtain⟨z,its,r,p⟩:=h.ok I.hok
  exact⟨its,r,p,z⟩
 ·refine⟨its.toList,r,⟨o,I.kIn a o hk,hc,n,by simpa using hs⟩,?_⟩
  have e:=r.length
  simp only[yco]at e
  omega
theorem Inv.list_inj(I:Inv X pins σ H s)(h:SqL X.K H a xs)(h':SqL X.K H a ys):xs=ys:=by
 obtain⟨its,r,⟨o,n,e,_,_,d⟩,_⟩:=I.list h
 obtain⟨its',r',⟨o',n',e',_,_,d'⟩,_⟩:=I.list h'
 rw[e]at e';cases e'
 rw[d]at d'
 injection d' with d1 _
 have:its=its':=by simpa using congrArg Array.toList d1
 subst this
 exact r.inj r'
theorem Inv.tuple_inj(I:Inv X pins σ H s)(h:SqT X.K H a xs)(h':SqT X.K H a ys):xs=ys:=by
 obtain⟨its,r,⟨o,e,_,n,d⟩,_⟩:=I.tuple h
 obtain⟨its',r',⟨o',e',_,n',d'⟩,_⟩:=I.tuple h'
 rw[e]at e';cases e'
 rw[d]at d'
 injection d' with d1 _
 have:its=its':=by simpa using congrArg Array.toList d1
 subst this
 exact r.inj r'
end
noncomputable abbrev Cx.wish(X:Cx)(E:Value->Shared->Prop):Cx:={X with xe:=E}
noncomputable abbrev Cx.nox(X:Cx):Cx:=X.wish fun _ _=>False
theorem Cx.Ok.wish{X:Cx}(ok:X.Ok)(E:Value->Shared->Prop):(X.wish E).Ok:=
 ⟨ok.mod,ok.kind,ok.glob,ok.blt,ok.above,ok.inj,ok.has,ok.cab,ok.hd,ok.frames,ok.stk,ok.exf,ok.bs,ok.bsz,ok.noex,ok.exfs,ok.funs,ok.frf⟩
theorem Cx.Ok.unwish{X:Cx}{E:Value->Shared->Prop}(ok:(X.wish E).Ok):X.Ok:=
 ⟨ok.mod,ok.kind,ok.glob,ok.blt,ok.above,ok.inj,ok.has,ok.cab,ok.hd,ok.frames,ok.stk,ok.exf,ok.bs,ok.bsz,ok.noex,ok.exfs,ok.funs,ok.frf⟩
section
variable{X:Cx}{pins:List (Addr×Obj)}{σ:St}{H:Hp}{s:Shared}{E:Value->Shared->Prop}
theorem Inv.wish(I:Inv X pins σ H s)(E:Value->Shared->Prop):Inv (X.wish E) pins σ H s:=⟨I.ok.wish E,I.os,I.bare,I.base,I.loc,I.cell,I.free,I.freeC,I.pin,I.hok,I.len⟩
theorem Inv.unwish(I:Inv (X.wish E) pins σ H s):Inv X pins σ H s:=⟨I.ok.unwish,I.os,I.bare,I.base,I.loc,I.cell,I.free,I.freeC,I.pin,I.hok,I.len⟩
theorem SP.unwish{D:Ends}{f:Flow}{s':Shared}(h:SP (X.wish E) pins D f s'):SP X pins D f s':=by
 cases f with
 |next=>obtain⟨σ',H',I,q⟩:=h;exact⟨σ',H',I.unwish,q⟩
 |brk=>obtain⟨σ',H',I,q⟩:=h;exact⟨σ',H',I.unwish,q⟩
 |cont=>obtain⟨σ',H',I,q⟩:=h;exact⟨σ',H',I.unwish,q⟩
 |ret u=>obtain⟨v,σ',H',I,r,q⟩:=h;exact⟨v,σ',H',I.unwish,r,q⟩
theorem PSs.nox{st:List Stmt}{t:TS}(h:PSs X.nox st t):PSs X st t:=fun pins s σ H D I hw=>
 wpAny_mono (h pins s σ H D (I.wish _) hw) (fun _ _ q=>q.unwish) fun _ _ z=>False.elim z
end
section
variable{X:Cx}{st:Stmt}{rest:List Stmt}{t u:TS}{e:Expr}{te:TE}{pos:Pos}
noncomputable def tNext:TS:=fun D σ H=>D.nx σ H
noncomputable def tSeq(t u:TS):TS:=fun D σ H=>t {D with nx:=u D} σ H
theorem zas:PSs X [] tNext:=fun _ _ σ H _ I h=>wpAny_execs_nil ⟨σ,H,I,h⟩
theorem zae(h1:PS X st t)(h2:PSs X rest u):PSs X (st::rest) (tSeq t u):=by
 intro pins s σ H D I h
 refine wpAny_execs_cons (thn (h1 pins s σ H {D with nx:=u D} I h) fun f s1 q=> ?_)
 cases f with
 |next=>
  obtain⟨σ',H',I',q⟩:=q
  exact h2 pins s1 σ' H' D I' q
 |ret v=>exact q
 |brk=>exact q
 |cont=>exact q
theorem zaf(h1:PS X st t):PSs X [st] t:=by
 intro pins s σ H D I h
 refine wpAny_execs_cons (thn (h1 pins s σ H D I h) fun f s1 q=> ?_)
 cases f with
 |next=>exact wpAny_execs_nil q
 |ret v=>exact q
 |brk=>exact q
 |cont=>exact q
theorem Inv.quiet{pins:List (Addr×Obj)}{σ:St}{H:Hp}{s:Shared}(I:Inv X pins σ H s):interactive X.env=false:=by simp[interactive,I.ok.kind]
noncomputable def tDrop(te:TE):TS:=fun D σ H=>te σ H fun _ H1=>D.nx σ H1
theorem ps_expr(he:PE X e te)(hs:swapsWith e none pos.line X.env=pure false:=by rfl):PS X (.Expr e pos) (tDrop te):=by
 intro pins s σ H D I h
 exact wpAny_Expr_any (thn (he pins s σ H _ I h) fun v s1 ⟨x,H1,I1,r1,q1⟩=>⟨σ,H1,I1,q1⟩) I.quiet hs
noncomputable def tRet(te:TE):TS:=fun D σ H=>te σ H D.rt
theorem zak(he:PE X e te):PS X (.Return (some e) pos) (tRet te):=by
 intro pins s σ H D I h
 exact wpAny_Return_some (thn (he pins s σ H _ I h) fun v s1 ⟨x,H1,I1,r1,q1⟩=>⟨x,σ,H1,I1,r1,q1⟩)
noncomputable def tIfS(c:TT)(t u:TS):TS:=fun D σ H=>c σ H fun b H1=>if b=true then t D σ H1 else u D σ H1
theorem zcr{c:Expr}{a b:List Stmt}{tc:TT}(hc:PT X c tc)(ha:PSs X a t)(hb:PSs X b u):PS X (.If c a b pos) (tIfS tc t u):=by
 intro pins s σ H D I h
 refine wpAny_If (thn (hc pins s σ H _ I h) fun d s1 ⟨H1,I1,q1⟩=> ?_)
 cases d with
 |true=>exact ha pins s1 σ H1 D I1 q1
 |false=>exact hb pins s1 σ H1 D I1 q1
noncomputable def tNever:TS:=fun _ _ _=>False
theorem pss_never{sts:List Stmt}:PSs X sts tNever:=fun _ _ _ _ _ _ h=>h.elim
end
noncomputable abbrev TG:=V->St->Hp->(St->Hp->Prop)->Prop
noncomputable abbrev TGs:=List V->St->Hp->(St->Hp->Prop)->Prop
noncomputable def PG(X:Cx)(target:Expr)(t:TG):Prop:=
 ∀(pins:List (Addr×Obj)) (s:Shared) (σ:St) (H:Hp) (v:V) (u:Value) (Q:St->Hp->Prop),Inv X pins σ H s->RelV v u->t v σ H Q->
  wpAny (model X.prog X.w) X.A (assign target X.env u) (fun _ s'=>∃σ' H',Inv X pins σ' H' s'/\Q σ' H') X.xe s
noncomputable def PGs(X:Cx)(ts:List Expr)(t:TGs):Prop:=
 ∀(pins:List (Addr×Obj)) (s:Shared) (σ:St) (H:Hp) (vs:List V) (us:List Value) (Q:St->Hp->Prop),Inv X pins σ H s->Vals vs us->t vs σ H Q->
  wpAny (model X.prog X.w) X.A (assignInOrder ((assignEach ts X.env).map (·.2)) us) (fun _ s'=>∃σ' H',Inv X pins σ' H' s'/\Q σ' H') X.xe s
noncomputable abbrev TSet:=V->V->V->Hp->(Hp->Prop)->Prop
noncomputable def PSet(X:Cx)(t:TSet):Prop:=
 ∀(pins:List (Addr×Obj)) (s:Shared) (σ:St) (H:Hp) (o i v:V) (ov iv u:Value) (Q:Hp->Prop),Inv X pins σ H s->RelV o ov->RelV i iv->RelV v u->t o i v H Q->
  wpAny (model X.prog X.w) X.A (setItem ov iv u) (fun _ s'=>∃H',Inv X pins σ H' s'/\Q H') X.xe s
noncomputable abbrev TIp:=V->V->Hp->VK->Prop
noncomputable def PIp(X:Cx)(op:Operator)(t:TIp):Prop:=
 ∀(pins:List (Addr×Obj)) (s:Shared) (σ:St) (H:Hp) (x y:V) (v u:Value) (Q:VK),Inv X pins σ H s->RelV x v->RelV y u->t x y H Q->
  wpAny (model X.prog X.w) X.A (inplaceOp op v u) (EP X pins σ Q) X.xe s
section
variable{X:Cx}{pos:Pos}
noncomputable def gName(i:Nat):TG:=fun v σ H Q=>Q (σ.set i (some v)) H
theorem zai{i:Nat}{x:Str}(hN:X.N.Nodup)(hi:X.N[i]? =some x)(hx:Loc X.env.scope x)(hf:X.fn x=true\/X.env.scope.names.lookup x=some .local:=by first |exact .inl rfl|exact .inr rfl|assumption):PG X (.Name x pos) (gName i):=by
 intro pins s σ H v u Q I r h
 exact wpAny_assign_Name (store_ok I hN hi hx r (fun s' I'=>⟨_,H,I',h⟩) hf)
noncomputable def gNil:TGs:=fun vs σ H Q=>vs=[]/\Q σ H
noncomputable def gCons(t:TG)(u:TGs):TGs:=fun vs σ H Q=>∃v r,vs=v::r/\t v σ H fun σ' H'=>u r σ' H' Q
theorem pgs_nil:PGs X [] gNil:=by
 intro pins s σ H vs us Q I r h
 obtain⟨e,h⟩:=h
 subst e
 cases r
 exact assignInOrder_nil ⟨σ,H,I,h⟩
theorem zbb{e:Expr}{es:List Expr}{t:TG}{u:TGs}(h1:PG X e t)(h2:PGs X es u)(hs:(assignEach (e::es) X.env).map (·.2)=assign e X.env::(assignEach es X.env).map (·.2):=by rfl):PGs X (e::es) (gCons t u):=by
 intro pins s σ H vs us Q I r h
 obtain⟨v,vr,e1,h⟩:=h
 subst e1
 cases r with
 |cons r rr=>
  rw[hs]
  refine assignInOrder_cons (thn (h1 pins s σ H _ _ _ I r h) fun _ s1 ⟨σ1,H1,I1,q1⟩=> ?_)
  exact h2 pins s1 σ1 H1 _ _ Q I1 rr q1
noncomputable def gTup(K:W.Frag)(n:Nat)(t:TGs):TG:=fun v σ H Q=>∃a xs,v= .ref a/\SqT K H a xs/\xs.length=n/\t xs σ H Q
theorem pg_tup{es:List Expr}{k:Nat}{t:TGs}{n:Nat}(hc:X.calm=true)(h:PGs X es t)(hn:(assignEach es X.env).length=n:=by rfl)(hst:(assignEach es X.env).findIdx? (·.1)=none:=by rfl):PG X (.Tuple es k pos) (gTup X.K n t):=by
 intro pins s σ H v u Q I r hw
 obtain⟨a,xs,e1,hq,hl,hw⟩:=hw
 subst e1
 cases r
 obtain⟨its,rv,ht,hz⟩:=I.tuple hq
 refine assign_Tuple_tuple (I.ok.hd hc) ht (by simp[hn,<-hl,rv.length]) hst fun h' hx=> ?_
 have I1:Inv X pins σ H {s with heap:=h'}:=I.kept (t':=s.toks) fun b o e=>hx b o (yau (yap e)) e
 exact h pins _ σ H xs _ Q I1 (by simpa using rv) hw
noncomputable def gSub(to ti:TE)(t:TSet):TG:=fun v σ H Q=>to σ H fun o H1=>ti σ H1 fun i H2=>t o i v H2 fun H3=>Q σ H3
theorem pg_sub{o i:Expr}{to ti:TE}{t:TSet}(ho:PE X o to)(hi:PE X i ti)(hs:PSet X t)(ha:∀v,assign (.Subscript o i pos) X.env v=(do
   let ov<-holding [v] (eval o X.env)
   let iv<-holding [v,ov] (eval i X.env)
   standAt pos
   holding [v,ov,iv] (setItem ov iv v)
   release [v,ov,iv] []):=by intro _;rfl):PG X (.Subscript o i pos) (gSub to ti t):=by
 intro pins s σ H v u Q I r h
 rw[ha]
 refine wpAny_bind (wpAny_holding (thn (ho pins s σ H _ I h) fun ov s1 ⟨x,H1,I1,r1,q1⟩=> ?_))
 refine wpAny_bind (wpAny_holding (thn (hi pins s1 σ H1 _ I1 q1) fun iv s2 ⟨y,H2,I2,r2,q2⟩=> ?_))
 refine wpAny_bind (wpAny_standAt (wpAny_bind (wpAny_holding (thn (hs pins s2 σ H2 x y v ov iv u _ I2 r1 r2 r q2) fun _ s3 ⟨H3,I3,q3⟩=> ?_))))
 exact wpAny_release ⟨σ,H3,I3,q3⟩
noncomputable def tAsg(te:TE)(g:TG):TS:=fun D σ H=>te σ H fun x H1=>g x σ H1 D.nx
theorem ps_asg{tg e:Expr}{te:TE}{g:TG}(he:PE X e te)(hg:PG X tg g)(hs:swapsWithSole [tg] e pos.line X.env=pure false:=by rfl)(hw:swappedStores [tg] e X.env=pure none:=by rfl)(h1:(assignEach [tg] X.env).map (·.2)=[assign tg X.env]:=by rfl):PS X (.Assign [tg] e pos) (tAsg te g):=by
 intro pins s σ H D I h
 refine wpAny_Assign_stores (thn (he pins s σ H _ I h) fun v s1 ⟨x,H1,I1,r1,q1⟩=> ?_) hs hw
 rw[h1]
 exact thn (hg pins s1 σ H1 x v _ I1 r1 q1) fun _ s2 q=>q
theorem zal{i:Nat}{x:Str}{e:Expr}{te:TE}{pos':Pos}(hN:X.N.Nodup)(hi:X.N[i]? =some x)(hx:Loc X.env.scope x)(he:PE X e te)(hs:swapsWith e (some (.Name x pos')) pos.line X.env=pure false:=by rfl)(hf:X.fn x=true\/X.env.scope.names.lookup x=some .local:=by first |exact .inl rfl|exact .inr rfl|assumption):
  PS X (.Assign [.Name x pos'] e pos) (tAsg te (gName i)):=by
 intro pins s σ H D I h
 refine wpAny_Assign_Name (thn (he pins s σ H _ I h) fun v s1 ⟨y,H1,I1,r1,q1⟩=> ?_) hs
 exact store_ok I1 hN hi hx r1 (fun s2 I2=>⟨_,H1,I2,q1⟩) hf
noncomputable def tPar(i j:Nat)(ta:TA):TS:=fun D σ H=>ta σ H fun vs H1=>∃v w,vs=[v,w]/\D.nx ((σ.set i (some v)).set j (some w)) H1
theorem ps_par{i j:Nat}{x y:Str}{a b:Expr}{ta:TA}{px py pt:Pos}{kt k2 pt2}(hc:X.calm=true)(hN:X.N.Nodup)(hi:X.N[i]? =some x)(hj:X.N[j]? =some y)(hij:i≠j)(hx:X.env.scope.names.lookup x=some .local)(hy:X.env.scope.names.lookup y=some .local)(ha:PA X [a,b] ta)(hw:swappedStores [.Tuple [.Name x px,.Name y py] kt pt] (.Tuple [a,b] k2 pt2) X.env=pure (some [x,y]))(hs:swapsWithSole [.Tuple [.Name x px,.Name y py] kt pt] (.Tuple [a,b] k2 pt2) pos.line X.env=pure false:=by rfl):
  PS X (.Assign [.Tuple [.Name x px,.Name y py] kt pt] (.Tuple [a,b] k2 pt2) pos) (tPar i j ta):=by
 intro pins s σ H D I h
 rw[exec_Assign_arm]
 refine wpAny_bind (wpAny_standAt ?_)
 rw[hs]
 refine wpAny_bind (wpAny_pure ?_)
 rw[if_neg (by decide)]
 refine wpAny_bind (Tuple_ (thn (ha _ pins s σ H _ I h) fun us s1 ⟨vs,H1,I1,r1,q1⟩=> ?_))
 obtain⟨v,w,e1,q1⟩:=q1
 subst e1
 obtain⟨u1,u2,rfl,rv,rw'⟩:∃u1 u2,us=[u1,u2]/\RelV v u1/\RelV w u2:=by
  cases r1 with
  |cons p q=>
   cases q with
   |cons p' q'=>
    cases q'
    exact⟨_,_,rfl,p,p'⟩
 refine wpAny_newObj_type ?_ (by show 2<=sizeLine;decide)
 have I2:Inv X pins σ H1 {s1 with heap:=s1.heap.push {cls:= .type "tuple",data:= .seq [u1,u2].toArray}}:=I1.kept (t':=s1.toks) fun b o e=>yab _ e
 rw[hw]
 refine wpAny_bind (wpAny_pure ?_)
 show wpAny (model X.prog X.w) X.A (do rule "assign.swapped-stores";let items<-unpackItems (.ref s1.heap.objs.size) 2 none;assignInOrder [fun v=>bindName X.env y v,fun v=>bindName X.env x v] items.reverse;pure Flow.next) _ _ _
 refine wpAny_bind (wpAny_rule (wpAny_bind (unpackItems_tuple (items:=#[u1,u2]) (I.ok.hd hc) (IsTup.new s1.heap _) fun h' hx'=> ?_)))
 have I3:=I2.kept (h':=h') (t':=s1.toks) fun b o e=>hx' b o (yau (yap e)) e
 show wpAny _ _ (assignInOrder [fun v=>bindName X.env y v,fun v=>bindName X.env x v] [u2,u1]>>=fun _=>pure Flow.next) _ _ _
 refine wpAny_bind (assignInOrder_cons (wpAny_bindName (store_ok I3 hN hj (.inl hy) rw' (fun s2 I4=> ?_) (.inr hy))))
 refine assignInOrder_cons (wpAny_bindName (store_ok I4 hN hi (.inl hx) rv (fun s3 I5=>assignInOrder_nil (wpAny_pure ?_)) (.inr hx)))
 rw[List.set_comm _ _ (Ne.symm hij)]at I5
 exact⟨_,H1,I5,q1⟩
noncomputable def tAug(i:Nat)(te:TE)(ti:TIp):TS:=fun D σ H=>∃x,σ[i]? =some (some x)/\te σ H fun y H1=>ti x y H1 fun z H2=>D.nx (σ.set i (some z)) H2
theorem ps_aug{i:Nat}{x:Str}{e:Expr}{te:TE}{op:Operator}{ti:TIp}{pos':Pos}(hN:X.N.Nodup)(hi:X.N[i]? =some x)(hx:Loc X.env.scope x)(he:PE X e te)(ho:PIp X op ti)(hf:X.fn x=true\/X.env.scope.names.lookup x=some .local:=by first |exact .inl rfl|exact .inr rfl|assumption):
  PS X (.AugAssign (.Name x pos') op e pos) (tAug i te ti):=by
 intro pins s σ H D I h
 obtain⟨v,e1,h⟩:=h
 obtain⟨m,hn,hl⟩:=I.loc
 have vis:Vis X.env.scope x:=by rcases hx with k|k;exact .inl k;exact .inr (.inl k)
 obtain⟨u,r,l⟩:=hl i x v hi e1 vis
 refine wpAny_AugAssign_Name ?_
 have go:wpAny (model X.prog X.w) X.A (eval e X.env) (fun w s₂=>wpAny (model X.prog X.w) X.A (inplaceOp op u w) (fun r s₃=>wpAny (model X.prog X.w) X.A (storeName X.env x r) (fun _=>SP X pins D .next) X.xe s₃) X.xe s₂) X.xe s:=by
  refine thn (he pins s σ H _ I h) fun w s1 ⟨y,H1,I1,r1,q1⟩=> ?_
  refine thn (ho pins s1 σ H1 v y u w _ I1 r r1 q1) fun z s2 ⟨zv,H2,I2,r2,q2⟩=> ?_
  exact store_ok I2 hN hi hx r2 (fun s3 I3=>⟨_,H2,I3,q2⟩) hf
 rcases l with⟨hk,hm⟩|⟨hk,c,hc,hcell⟩
 ·exact wpAny_loadName_local I.ok.kind hk hn hm go
 ·rcases hk with hk|hk
  ·exact wpAny_loadName_cell I.ok.kind hk hc hcell go
  ·rcases hx with k|k
   ·have:X.env.scope.names.lookup x=some .free:=hk
    rw[k]at this;cases this
   ·have:X.env.scope.names.lookup x=some .free:=hk
    rw[k]at this;cases this
noncomputable def ipI(f:Int->Int->Int):TIp:=fun x y H Q=>∃i j,x= .int i/\y= .int j/\Q (.int (f i j)) H
theorem ip_add:PIp X .Add (ipI fun i j=>i+j):=by
 intro pins s σ H x y v u Q I r1 r2 h
 obtain⟨i,j,e1,e2,q⟩:=h
 subst e1;subst e2
 obtain⟨t,rfl⟩:=r1
 obtain⟨t',rfl⟩:=r2
 exact iadd_int ⟨.int _,H,I.tok _,⟨_,rfl⟩,q⟩
end
section
variable{X:Cx}{pos:Pos}
noncomputable def tWhile(c:TT)(tb:TS):TS:=fun D σ H=>∃W:Nat->St->Hp->Prop,(∃m,W m σ H)/\∀m σ H,W m σ H->
 c σ H fun b H1=>if b=true then∃N:St->Hp->Prop,(∀σ' H',N σ' H'->∃m',m'<m/\W m' σ' H')/\tb {D with nx:=N,ct:=N,bk:=D.nx} σ H1 else D.nx σ H1
theorem ps_while{c:Expr}{body:List Stmt}{tc:TT}{tb:TS}(hp:PassesOwn (model X.prog X.w) X.A X.env X.xe)(hc:PT X c tc)(hb:PSs X body tb):PS X (.While c body [] pos) (tWhile tc tb):=by
 intro pins s σ H D I h
 obtain⟨W,⟨m0,w0⟩,turn⟩:=h
 refine wpAny_While (codeAny_whileLoop (fun n s'=>∃σ' H',Inv X pins σ' H' s'/\W n σ' H') ?_ m0 ⟨σ,H,I,w0⟩)
 rintro n s1 ⟨σ1,H1,I1,w1⟩
 refine wpAny_passesOwn hp (thn (hc pins s1 σ1 H1 _ I1 (turn n σ1 H1 w1)) fun b s2 ⟨H2,I2,q2⟩=> ?_)
 cases b with
 |true=>
  obtain⟨N,hN,q2⟩:=q2
  rw[if_pos rfl]
  refine wpAny_passesOwn hp (thn (hb pins s2 σ1 H2 _ I2 q2) fun f s3 q3=> ?_)
  cases f with
  |next=>
   obtain⟨σ3,H3,I3,n3⟩:=q3
   obtain⟨m',hm,w3⟩:=hN σ3 H3 n3
   exact⟨m',hm,σ3,H3,I3,w3⟩
  |cont=>
   obtain⟨σ3,H3,I3,n3⟩:=q3
   obtain⟨m',hm,w3⟩:=hN σ3 H3 n3
   exact⟨m',hm,σ3,H3,I3,w3⟩
  |brk=>exact q3
  |ret v=>exact q3
 |false=>
  rw[if_neg Bool.false_ne_true]
  exact wpAny_execs_nil ⟨σ1,H2,I2,q2⟩
end
structure It where
 go:Nat->Hp->Prop
 yld:Nat->Hp->V->Hp->Prop
 stop:Nat->Hp->Prop
noncomputable def FpOk(X:Cx)(pins:List (Addr×Obj))(H:Hp)(b:Addr):Prop:=
 H b=none/\b≠X.env.locals/\b∉X.fs/\(b∈X.ex\/X.s₀.heap.objs.size<=b)/\(∀x c,X.env.cells.lookup x=some c->c≠b)/\∀p∈X.pn++pins,p.1≠b
theorem Inv.fpOk{X:Cx}{pins:List (Addr×Obj)}{σ:St}{H H':Hp}{s:Shared}{b:Addr}(I:Inv X pins σ H s)(hb:s.heap.objs.size<=b)(hn:H' b=none):FpOk X pins H' b:=by
 refine⟨hn,ycg (yan I.lt hb),I.nofs hb,.inr (yat I.sz hb),fun x c e z=> ?_,fun p hp z=> ?_⟩
 ·obtain⟨v,q⟩:=I.cell x c e
  exact absurd (yan q.lt (by rw[z];exact hb)) (ybd _)
 ·exact absurd (yan (yap (I.pin p hp).1) (by rw[z];exact hb)) (ybd _)
structure Turn(P:Program)(w:World)(K:W.Frag)(tg:Expr)(J:It)(fp:List Addr)(it:Addr)(tn:Nat->Heap->Prop):Prop where
 mem:it∈fp
 obj:∀i h,tn i h->∀b∈fp,∃o,h.get? b=some o/\∀v,o.data≠.cell v
 keep:∀i h h',tn i h->(∀b∈fp,∀o,h.get? b=some o->h'.get? b=some o)->tn i h'
 item:∀(X:Cx),X.prog=P->X.w=w->X.K=K->X.calm=true->∀(i:Nat) (pins:List (Addr×Obj)) (s:Shared) (σ:St) (H:Hp) (E:Value->Shared->Prop),Inv X pins σ H s->(∀b∈fp,FpOk X pins H b)->tn i s.heap->J.go i H->
  wpAny (model P w) X.A (pyNext (.ref it)) (fun r s1=>∃u,r=some u/\
   wpAny (model P w) X.A (letOwnedTupleGo tg (.ref it) u) (fun _ s2=>∃x H',Inv X pins σ H' s2/\RelV x u/\J.yld i H x H'/\tn (i+1) s2.heap/\∀b∈fp,H' b=none) E s1) E s
 done:∀(X:Cx),X.prog=P->X.w=w->X.K=K->X.calm=true->∀(i:Nat) (pins:List (Addr×Obj)) (s:Shared) (σ:St) (H:Hp) (E:Value->Shared->Prop),Inv X pins σ H s->(∀b∈fp,FpOk X pins H b)->tn i s.heap->J.stop i H->
  wpAny (model P w) X.A (pyNext (.ref it)) (fun r s1=>r=none/\Inv X pins σ H s1) E s
 self:∀(A:Around) (i:Nat) (s:Shared) (Q:Value->Shared->Prop) (E:Value->Shared->Prop),tn i s.heap->Q (.ref it) s->wpAny (model P w) A (pyIter (.ref it)) Q E s
noncomputable abbrev TI:=St->Hp->(It->Hp->Prop)->Prop
noncomputable def PIE(X:Cx)(pins:List (Addr×Obj))(σ:St)(tg:Expr)(R:It->Hp->Prop)(itv:Value)(s2:Shared):Prop:=
 ∃(it:Addr) (fp:List Addr) (tn:Nat->Heap->Prop) (J:It) (H':Hp),itv= .ref it/\Inv X pins σ H' s2/\Turn X.prog X.w X.K tg J fp it tn/\tn 0 s2.heap/\(∀b∈fp,FpOk X pins H' b)/\R J H'
noncomputable def PI(X:Cx)(tg iter:Expr)(wi:TI):Prop:=
 ∀(pins:List (Addr×Obj)) (s:Shared) (σ:St) (H:Hp) (R:It->Hp->Prop),Inv X pins σ H s->wi σ H R->
  wpAny (model X.prog X.w) X.A (eval iter X.env) (fun v s1=>wpAny (model X.prog X.w) X.A (pyIter v) (PIE X pins σ tg R) X.xe s1) X.xe s
theorem go_of{M:Model}{A:Around}{E:Value->Shared->Prop}{s:Shared}{tg:Expr}{it:Addr}{u:Value}{o:Obj}{n:String}{vs:Array Value}{Q:Unit->Shared->Prop}(ho:s.heap.get? it=some o)(hc:o.cls= .type n)(hd:o.data= .fields vs)(hn:["enumerate","zip","dict_itemiterator","dict_reverseitemiterator","odict_iterator","itertools.zip_longest","itertools.pairwise"].contains n=false)(hQ:Q () s):wpAny M A (letOwnedTupleGo tg (.ref it) u) Q E s:=by
 unfold letOwnedTupleGo
 cases tg<;>first
  |exact wpAny_pure hQ
  |(cases u<;>first
    |exact wpAny_pure hQ
    |(refine wpAny_bind (wpAny_load ho ?_)
      rw[hc,hd]
      show wpAny M A (if(["enumerate","zip","dict_itemiterator","dict_reverseitemiterator","odict_iterator","itertools.zip_longest","itertools.pairwise"].contains n&&vs[0]? ==some (rawInt _))=true then _ else _) Q E s
      rw[if_neg (by intro h;rw[hn,Bool.false_and]at h;cases h)]
      exact wpAny_pure hQ))
noncomputable def Itl(K:W.Frag)(a:Addr):It:=
 ⟨fun i H=>∃xs x,SqL K H a xs/\xs[i]? =some x,fun i H x H'=>H'=H/\∀xs,SqL K H a xs->xs[i]? =some x,fun i H=>∃xs,SqL K H a xs/\xs.length<=i⟩
noncomputable def Itt(K:W.Frag)(a:Addr):It:=
 ⟨fun i H=>∃xs x,SqT K H a xs/\xs[i]? =some x,fun i H x H'=>H'=H/\∀xs,SqT K H a xs->xs[i]? =some x,fun i H=>∃xs,SqT K H a xs/\xs.length<=i⟩
noncomputable def Itr(lo:Int)(n:Nat):It:=⟨fun i _=>i<n,fun i H x H'=>H'=H/\x= .int (lo+i),fun i _=>n<=i⟩
theorem turn_list{P:Program}{w:World}{K:W.Frag}{tg:Expr}(a it:Addr):Turn P w K tg (Itl K a) [it] it (fun i h=>h.IsListIter it a i) where
 mem:=by simp
 obj:=fun i h st b hb=>by
  have e:b=it:=by simpa using hb
  subst e
  obtain⟨o,e,c,d⟩:=st
  exact⟨o,e,fun v z=>by rw[d]at z;cases z⟩
 keep:=fun i h h' st k=>st.at fun o e=>k it (by simp) o e
 item:=by
  intro X hP hw hK hc i pins s σ H E I hf st hg
  subst hP hw hK
  obtain⟨xs,x,hq,hx⟩:=hg
  obtain⟨its,rv,p,hz⟩:=I.list hq
  obtain⟨u,hu,ru⟩:=rv.get hx
  obtain⟨f0,f1,f2,f3,f4,f5⟩:=hf it (by simp)
  refine wpAny_pyNext_list_item st p.isList (x:=u) (by simpa using hu) fun h' st' sb=> ?_
  have I1:Inv X pins σ H {s with heap:=h'}:=I.turned (t':=s.toks) (fun b o hb e=>(sb.2 b hb).trans e) f0 f1 f3 f4 f5
  obtain⟨o,e,c,d⟩:=id st'
  exact⟨u,rfl,go_of (s:={s with heap:=h'}) e c d (by decide) ⟨x,H,I1,ru,⟨rfl,fun ys hy=>by rw[I.list_inj hy hq];exact hx⟩,st',fun b hb=>(hf b hb).1⟩⟩
 done:=by
  intro X hP hw hK hc i pins s σ H E I hf st hg
  subst hP hw hK
  obtain⟨xs,hq,hx⟩:=hg
  obtain⟨its,rv,p,hz⟩:=I.list hq
  obtain⟨f0,f1,f2,f3,f4,f5⟩:=hf it (by simp)
  have hl:=rv.length
  exact wpAny_pyNext_list_end (I.ok.hd hc) st p.isList (by simp;omega) fun h' eb=>⟨rfl,I.turned (t':=s.toks) (fun b o hb e=>eb b o hb e) f0 f1 f3 f4 f5⟩
 self:=fun _ _ _ _ _ st h=>wpAny_pyIter_listiter st h
theorem turn_tuple{P:Program}{w:World}{K:W.Frag}{tg:Expr}(a it:Addr):Turn P w K tg (Itt K a) [it] it (fun i h=>h.IsTupleIter it a i) where
 mem:=by simp
 obj:=fun i h st b hb=>by
  have e:b=it:=by simpa using hb
  subst e
  obtain⟨o,e,c,d⟩:=st
  exact⟨o,e,fun v z=>by rw[d]at z;cases z⟩
 keep:=fun i h h' st k=>st.at fun o e=>k it (by simp) o e
 item:=by
  intro X hP hw hK hc i pins s σ H E I hf st hg
  subst hP hw hK
  obtain⟨xs,x,hq,hx⟩:=hg
  obtain⟨its,rv,p,hz⟩:=I.tuple hq
  obtain⟨u,hu,ru⟩:=rv.get hx
  obtain⟨f0,f1,f2,f3,f4,f5⟩:=hf it (by simp)
  refine wpAny_pyNext_tuple_item st (show s.heap.IsTuple a its.toArray from p) (x:=u) (by simpa using hu) fun h' st' sb=> ?_
  have I1:Inv X pins σ H {s with heap:=h'}:=I.turned (t':=s.toks) (fun b o hb e=>(sb.2 b hb).trans e) f0 f1 f3 f4 f5
  obtain⟨o,e,c,d⟩:=id st'
  exact⟨u,rfl,go_of (s:={s with heap:=h'}) e c d (by decide) ⟨x,H,I1,ru,⟨rfl,fun ys hy=>by rw[I.tuple_inj hy hq];exact hx⟩,st',fun b hb=>(hf b hb).1⟩⟩
 done:=by
  intro X hP hw hK hc i pins s σ H E I hf st hg
  subst hP hw hK
  obtain⟨xs,hq,hx⟩:=hg
  obtain⟨its,rv,p,hz⟩:=I.tuple hq
  obtain⟨f0,f1,f2,f3,f4,f5⟩:=hf it (by simp)
  have hl:=rv.length
  exact wpAny_pyNext_tuple_end (I.ok.hd hc) st (show s.heap.IsTuple a its.toArray from p) (by simp;omega) fun h' eb=>⟨rfl,I.turned (t':=s.toks) (fun b o hb e=>eb b o hb e) f0 f1 f3 f4 f5⟩
 self:=fun _ _ _ _ _ st h=>wpAny_pyIter_tupleiter st h
theorem turn_range{P:Program}{w:World}{K:W.Frag}{tg:Expr}(it:Addr)(lo:Int)(n:Nat):Turn P w K tg (Itr lo n) [it] it (fun i h=>IsRangeIter h it (lo+(i:Nat)*1) ((n:Int)-(i:Nat)) 1) where
 mem:=by simp
 obj:=fun i h st b hb=>by
  have e:b=it:=by simpa using hb
  subst e
  exact⟨_,st,fun v z=>by
   have z':Data.fields _=Data.cell v:=z
   cases z'⟩
 keep:=fun i h h' st k=>k it (by simp) _ st
 item:=by
  intro X hP hw hK hc i pins s σ H E I hf st hg
  subst hP hw hK
  obtain⟨f0,f1,f2,f3,f4,f5⟩:=hf it (by simp)
  have W:=Walks.range (prog:=X.prog) (w:=X.w) (I.ok.hd hc) it lo 1 n
  refine W.item i s _ _ hg st fun v h' tk hv st' kk=> ?_
  obtain⟨t,rfl⟩:=hv
  have I1:Inv X pins σ H {s with heap:=h',toks:=tk}:=I.turned (fun b o hb e=>kk b o (by simpa using hb) e) f0 f1 f3 f4 f5
  refine⟨_,rfl,go_of (s:={s with heap:=h',toks:=tk}) (n:="range_iterator") st' rfl rfl (by decide) ⟨.int (lo+i),H,I1,⟨t,?_⟩,⟨rfl,rfl⟩,st',fun b hb=>(hf b hb).1⟩⟩
  rw[Int.mul_one]
 done:=by
  intro X hP hw hK hc i pins s σ H E I hf st hg
  subst hP hw hK
  obtain⟨f0,f1,f2,f3,f4,f5⟩:=hf it (by simp)
  exact wpAny_pyNext_range_end (I.ok.hd hc) st (by have:n<=i:=hg;omega) fun h' eb=>⟨rfl,I.turned (t':=s.toks) (fun b o hb e=>eb b o hb e) f0 f1 f3 f4 f5⟩
 self:=fun _ _ _ _ _ st h=>wpAny_pyIter_rangeiter st h
section
variable{X:Cx}{tg:Expr}
theorem range_it{pins:List (Addr×Obj)}{σ:St}{H:Hp}{s:Shared}{R:It->Hp->Prop}{E:Value->Shared->Prop}{lo hi:Int}{t u v:Tok}{tk:Nat}(I:Inv X pins σ H s)(h1: -(2^62)<=lo)(h2:lo<2^62)(h3: -(2^62)<=hi)(h4:hi<2^62)(q:R (Itr lo (hi-lo).toNat) H):wpAny (model X.prog X.w) X.A (pyIter (.ref s.heap.objs.size)) (PIE X pins σ tg R) E {s with heap:=s.heap.push {cls:= .type "range",data:= .fields #[.int lo t,.int hi u,.int 1 v]},toks:=tk}:=by
 refine wpAny_pyIter_range (IsRange.new ..) (small_one h1 h2 h3 h4) ?_
 have I1:Inv X pins σ H {s with heap:=s.heap.push {cls:= .type "range",data:= .fields #[.int lo t,.int hi u,.int 1 v]},toks:=tk}:=I.kept fun b o e=>yab _ e
 refine⟨(s.heap.push {cls:= .type "range",data:= .fields #[.int lo t,.int hi u,.int 1 v]}).objs.size,[(s.heap.push {cls:= .type "range",data:= .fields #[.int lo t,.int hi u,.int 1 v]}).objs.size],_,_,H,rfl,
  I1.kept (t':=tk) fun b o e=>yab _ e,turn_range _ lo (hi-lo).toNat,?_,fun b hb=> ?_,q⟩
 ·have e1:lo+((0:Nat):Int)*1=lo:=by simp
  have e2:(((hi-lo).toNat:Nat):Int)-((0:Nat):Int)=Builtin.Range.rangeSize lo hi 1:=by rw[rangeSize_one];split<;>omega
  show IsRangeIter _ _ (lo+((0:Nat):Int)*1) ((((hi-lo).toNat:Nat):Int)-((0:Nat):Int)) 1
  rw[e1,e2]
  exact yao _ rfl
 ·have e:b=(s.heap.push {cls:= .type "range",data:= .fields #[.int lo t,.int hi u,.int 1 v]}).objs.size:=by simpa using hb
  subst e
  exact I1.fpOk (yac _) (I1.hok.fresh (yac _))
noncomputable def iRng1(ta:TA):TI:=fun σ H R=>ta σ H fun vs H1=>∃j:Int,vs=[.int j]/\ -(2^62)<=j/\j<2^62/\R (Itr 0 j.toNat) H1
noncomputable def iRng2(ta:TA):TI:=fun σ H R=>ta σ H fun vs H1=>∃i j:Int,vs=[.int i,.int j]/\(-(2^62)<=i/\i<2^62/\ -(2^62)<=j/\j<2^62)/\R (Itr i (j-i).toNat) H1
theorem zay{a:Expr}{ta:TA}{p pos:Pos}(hg:Gl X "range")(hm:X.mg "range"=none)(ha:PA X [a] ta)(hs:starEach [a] X.env=[(false,eval a X.env)]:=by rfl):PI X tg (.Call (.Name "range" p) [a] [] pos) (iRng1 ta):=by
 intro pins s σ H R I h
 refine Call_ (zcz I hg hm boot_range (PyProof.Rows.callWith_type1 (thn (ha pos pins s σ H _ I h) fun us s1 ⟨vs,H1,I1,r1,q1⟩=> ?_) hs rfl))
 obtain⟨j,e,q1,q2,q⟩:=q1
 subst e
 cases r1 with
 |cons r rr=>
  cases rr
  obtain⟨t,rfl⟩:=r
  exact call_range_1 (range_it I1 (by omega) (by omega) q1 q2 (by simpa using q))
theorem pi_range2{a b:Expr}{ta:TA}{p pos:Pos}(hg:Gl X "range")(hm:X.mg "range"=none)(ha:PA X [a,b] ta)(hs:starEach [a,b] X.env=[(false,eval a X.env),(false,eval b X.env)]:=by rfl)(hs2:starEach [b] X.env=[(false,eval b X.env)]:=by rfl):
  PI X tg (.Call (.Name "range" p) [a,b] [] pos) (iRng2 ta):=by
 intro pins s σ H R I h
 refine Call_ (zcz I hg hm boot_range (PyProof.Rows.callWith_type1 (thn (ha pos pins s σ H _ I h) fun us s1 ⟨vs,H1,I1,r1,q1⟩=> ?_) (by rw[hs,hs2]) (by rw[hs2];rfl)))
 obtain⟨i,j,e,⟨q1,q2,q3,q4⟩,q⟩:=q1
 subst e
 cases r1 with
 |cons r rr=>
  cases rr with
  |cons r' rr=>
   cases rr
   obtain⟨t,rfl⟩:=r
   obtain⟨t',rfl⟩:=r'
   exact call_range_2 (range_it I1 q1 q2 q3 q4 q)
noncomputable def tFor(wi:TI)(g:TG)(tb:TS):TS:=fun D σ H=>wi σ H fun J H1=>∃W:Nat->Nat->St->Hp->Prop,(∃m,W 0 m σ H1)/\∀i m σ H,W i m σ H->
 (J.stop i H/\D.nx σ H)\/(J.go i H/\∃N:St->Hp->Prop,(∀σ' H',N σ' H'->∃m',m'<m/\W (i+1) m' σ' H')/\∀x H',J.yld i H x H'->g x σ H' fun σ2 H2=>tb {D with nx:=N,ct:=N,bk:=D.nx} σ2 H2)
noncomputable def pinsAt(fp:List Addr)(h:Heap):List (Addr×Obj):=fp.filterMap fun b=>(h.get? b).map fun o=>(b,o)
theorem zdd{fp:List Addr}{h:Heap}{b:Addr}{o:Obj}(hb:b∈fp)(e:h.get? b=some o):(b,o)∈pinsAt fp h:=List.mem_filterMap.mpr ⟨b,hb,by rw[e];rfl⟩
theorem of_pinsAt{fp:List Addr}{h:Heap}{p:Addr×Obj}(hp:p∈pinsAt fp h):p.1∈fp/\h.get? p.1=some p.2:=by
 obtain⟨b,hb,e⟩:=List.mem_filterMap.mp hp
 cases q:h.get? b with
 |none=>rw[q]at e;cases e
 |some o=>
  rw[q]at e
  have e':(b,o)=p:=Option.some.inj e
  subst e'
  exact⟨hb,q⟩
theorem Inv.pinned{pins:List (Addr×Obj)}{σ:St}{H:Hp}{s:Shared}{fp:List Addr}(I:Inv X pins σ H s)(hf:∀b∈fp,FpOk X pins H b)(ho:∀b∈fp,∃o,s.heap.get? b=some o/\∀v,o.data≠.cell v):Inv X (pins++pinsAt fp s.heap) σ H s:=
 I.pins_of fun p hp=>(yax.mp hp).elim (fun z=>I.pin p (yaj _ z)) fun z=>by
  obtain⟨hb,e⟩:=of_pinsAt z
  obtain⟨f0,f1,f2,_⟩:=hf p.1 hb
  obtain⟨o,e',d⟩:=ho p.1 hb
  rw[e]at e';cases e'
  exact⟨e,f0,f1,f2,d⟩
theorem Inv.unpinned{pins pl:List (Addr×Obj)}{σ:St}{H:Hp}{s:Shared}(I:Inv X (pins++pl) σ H s):Inv X pins σ H s:=I.pins_of fun p hp=>I.pin p (yaj _ (ybq _ hp))
theorem ps_for{iter:Expr}{body:List Stmt}{wi:TI}{g:TG}{tb:TS}{pos:Pos}(hp:PassesOwn (model X.prog X.w) X.A X.env X.xe)(hc:X.calm=true)(hi:PI X tg iter wi)(hg:PG X tg g)(hb:PSs X body tb)(hs:∀x,foldedSetIterable iter X.env x=pure x:=by intro _;rfl):PS X (.For tg iter body [] pos) (tFor wi g tb):=by
 intro pins s σ H D I h
 refine wpAny_For (thn (hi pins s σ H _ I h) fun v s1 h1=>thn h1 fun itv s2 h2=> ?_) hs
 obtain⟨it,fp,tn,J,H2,e,I2,T,st2,f2,W,⟨m0,w0⟩,turn⟩:=h2
 subst e
 -- what stays true of the iterator's objects through the loop
 have stat:∀{H':Hp},(∀b∈fp,H' b=none)->∀b∈fp,FpOk X pins H' b:=fun hn b hb=>⟨hn b hb,(f2 b hb).2⟩
 refine codeAny_forLoop_any (fun n s'=>∃i σ' H',Inv X pins σ' H' s'/\tn i s'.heap/\(∀b∈fp,H' b=none)/\W i n σ' H') ?_ m0 ⟨0,σ,H2,I2,st2,fun b hb=>(f2 b hb).1,w0⟩
 rintro n s3 ⟨i,σ3,H3,I3,st3,fr3,w3⟩
 rcases turn i n σ3 H3 w3 with⟨stop,qn⟩|⟨go,N,hN,step⟩
 ·refine wpAny_passesOwn hp (thn (T.done X rfl rfl rfl hc i pins s3 σ3 H3 X.xe I3 (stat fr3) st3 stop) fun r s4 ⟨hr,I4⟩=> ?_)
  subst hr
  exact wpAny_execs_nil ⟨σ3,H3,I4,qn⟩
 ·refine wpAny_passesOwn hp (thn (T.item X rfl rfl rfl hc i pins s3 σ3 H3 X.xe I3 (stat fr3) st3 go) fun r s4 ⟨u,hr,h4⟩=> ?_)
  subst hr
  refine wpAny_passesOwn hp (thn h4 fun _ s5 ⟨x,H5,I5,r5,y5,st5,fr5⟩=> ?_)
  have I5':=I5.pinned (stat fr5) (T.obj _ _ st5)
  refine wpAny_passesOwn hp (thn (hg _ s5 σ3 H5 x u _ I5' r5 (step x H5 y5)) fun _ s6 ⟨σ6,H6,I6,q6⟩=> ?_)
  refine wpAny_passesOwn hp (thn (hb _ s6 σ6 H6 _ I6 q6) fun f s7 q7=> ?_)
  have again:∀{σ7:St} {H7:Hp},Inv X (pins++pinsAt fp s5.heap) σ7 H7 s7->N σ7 H7->∃m,m<n/\∃i σ' H',Inv X pins σ' H' s7/\tn i s7.heap/\(∀b∈fp,H' b=none)/\W i m σ' H':=fun{σ7 H7} I7 n7=>by
   obtain⟨m',hm,w7⟩:=hN σ7 H7 n7
   refine⟨m',hm,i+1,σ7,H7,I7.unpinned,T.keep _ _ _ st5 fun b hb o e=>(I7.pin (b,o) (yaj _ (yaj _ (zdd hb e)))).1,fun b hb=> ?_,w7⟩
   obtain⟨o,e,d⟩:=T.obj _ _ st5 b hb
   exact(I7.pin (b,o) (yaj _ (yaj _ (zdd hb e)))).2.1
  cases f with
  |next=>obtain⟨σ7,H7,I7,n7⟩:=q7;exact again I7 n7
  |cont=>obtain⟨σ7,H7,I7,n7⟩:=q7;exact again I7 n7
  |brk=>obtain⟨σ7,H7,I7,q7⟩:=q7;exact⟨σ7,H7,I7.unpinned,q7⟩
  |ret v=>obtain⟨x7,σ7,H7,I7,r7,q7⟩:=q7;exact⟨x7,σ7,H7,I7.unpinned,r7,q7⟩
end
theorem for_list{K:W.Frag}{a:Addr}{xs:List V}{g:TG}{tb:TS}{D:Ends}{σ:St}{H:Hp}(Pv:Nat->St->Hp->Prop)(h0:Pv 0 σ H)(hl:∀i σ H,i<=xs.length->Pv i σ H->SqL K H a xs)(hs:∀i x σ H,xs[i]? =some x->Pv i σ H->g x σ H fun σ2 H2=>tb {D with nx:=Pv (i+1),ct:=Pv (i+1),bk:=D.nx} σ2 H2)(hd:∀σ H,Pv xs.length σ H->D.nx σ H):
  ∃W:Nat->Nat->St->Hp->Prop,(∃m,W 0 m σ H)/\∀i m σ H,W i m σ H->
   ((Itl K a).stop i H/\D.nx σ H)\/((Itl K a).go i H/\∃N:St->Hp->Prop,(∀σ' H',N σ' H'->∃m',m'<m/\W (i+1) m' σ' H')/\∀x H',(Itl K a).yld i H x H'->g x σ H' fun σ2 H2=>tb {D with nx:=N,ct:=N,bk:=D.nx} σ2 H2):=by
 refine⟨fun i m σ H=>m=xs.length-i/\i<=xs.length/\Pv i σ H,⟨xs.length,by simp,yaw _,h0⟩,?_⟩
 rintro i m σ H ⟨rfl,hi,p⟩
 have q:=hl i σ H hi p
 by_cases hlt:i<xs.length
 ·refine .inr ⟨⟨xs,xs[i],q,by simp[hlt]⟩,Pv (i+1),fun σ' H' p'=>⟨xs.length-(i+1),by omega,rfl,hlt,p'⟩,fun x H' y=> ?_⟩
  obtain⟨e,y⟩:=y
  subst e
  exact hs i x σ _ (y xs q) p
 ·have e:i=xs.length:=by omega
  subst e
  exact .inl ⟨⟨xs,q,yac _⟩,hd σ H p⟩
theorem for_tup{K:W.Frag}{a:Addr}{xs:List V}{g:TG}{tb:TS}{D:Ends}{σ:St}{H:Hp}(Pv:Nat->St->Hp->Prop)(h0:Pv 0 σ H)(hl:∀i σ H,i<=xs.length->Pv i σ H->SqT K H a xs)(hs:∀i x σ H,xs[i]? =some x->Pv i σ H->g x σ H fun σ2 H2=>tb {D with nx:=Pv (i+1),ct:=Pv (i+1),bk:=D.nx} σ2 H2)(hd:∀σ H,Pv xs.length σ H->D.nx σ H):
  ∃W:Nat->Nat->St->Hp->Prop,(∃m,W 0 m σ H)/\∀i m σ H,W i m σ H->
   ((Itt K a).stop i H/\D.nx σ H)\/((Itt K a).go i H/\∃N:St->Hp->Prop,(∀σ' H',N σ' H'->∃m',m'<m/\W (i+1) m' σ' H')/\∀x H',(Itt K a).yld i H x H'->g x σ H' fun σ2 H2=>tb {D with nx:=N,ct:=N,bk:=D.nx} σ2 H2):=by
 refine⟨fun i m σ H=>m=xs.length-i/\i<=xs.length/\Pv i σ H,⟨xs.length,by simp,yaw _,h0⟩,?_⟩
 rintro i m σ H ⟨rfl,hi,p⟩
 have q:=hl i σ H hi p
 by_cases hlt:i<xs.length
 ·refine .inr ⟨⟨xs,xs[i],q,by simp[hlt]⟩,Pv (i+1),fun σ' H' p'=>⟨xs.length-(i+1),by omega,rfl,hlt,p'⟩,fun x H' y=> ?_⟩
  obtain⟨e,y⟩:=y
  subst e
  exact hs i x σ _ (y xs q) p
 ·have e:i=xs.length:=by omega
  subst e
  exact .inl ⟨⟨xs,q,yac _⟩,hd σ H p⟩
theorem zbz{lo:Int}{n:Nat}{g:TG}{tb:TS}{D:Ends}{σ:St}{H:Hp}(Pv:Nat->St->Hp->Prop)(h0:Pv 0 σ H)(hs:∀i σ H,i<n->Pv i σ H->g (.int (lo+i)) σ H fun σ2 H2=>tb {D with nx:=Pv (i+1),ct:=Pv (i+1),bk:=D.nx} σ2 H2)(hd:∀σ H,Pv n σ H->D.nx σ H):
  ∃W:Nat->Nat->St->Hp->Prop,(∃m,W 0 m σ H)/\∀i m σ H,W i m σ H->
   ((Itr lo n).stop i H/\D.nx σ H)\/((Itr lo n).go i H/\∃N:St->Hp->Prop,(∀σ' H',N σ' H'->∃m',m'<m/\W (i+1) m' σ' H')/\∀x H',(Itr lo n).yld i H x H'->g x σ H' fun σ2 H2=>tb {D with nx:=N,ct:=N,bk:=D.nx} σ2 H2):=by
 refine⟨fun i m σ H=>m=n-i/\i<=n/\Pv i σ H,⟨n,by simp,yaw _,h0⟩,?_⟩
 rintro i m σ H ⟨rfl,hi,p⟩
 by_cases hlt:i<n
 ·refine .inr ⟨hlt,Pv (i+1),fun σ' H' p'=>⟨n-(i+1),by omega,rfl,hlt,p'⟩,fun x H' y=> ?_⟩
  obtain⟨e,y⟩:=y
  subst e y
  exact hs i σ _ hlt p
 ·have e:i=n:=by omega
  subst e
  exact .inl ⟨yac _,hd σ H p⟩
noncomputable abbrev R2:=V->V->Hp->VK->Prop
noncomputable def OpR(X:Cx)(f:Value->Value->Sem Value)(r:R2):Prop:=
 ∀(pins:List (Addr×Obj)) (s:Shared) (σ:St) (H:Hp) (x y:V) (v u:Value) (Q:VK),Inv X pins σ H s->RelV x v->RelV y u->r x y H Q->
  wpAny (model X.prog X.w) X.A (f v u) (EP X pins σ Q) X.xe s
noncomputable def UnR(X:Cx)(f:Value->Sem Value)(r:V->Hp->VK->Prop):Prop:=
 ∀(pins:List (Addr×Obj)) (s:Shared) (σ:St) (H:Hp) (x:V) (v:Value) (Q:VK),Inv X pins σ H s->RelV x v->r x H Q->
  wpAny (model X.prog X.w) X.A (f v) (EP X pins σ Q) X.xe s
noncomputable def CallR(X:Cx)(f:Value)(r:List V->Hp->VK->Prop):Prop:=
 ∀(pins:List (Addr×Obj)) (s:Shared) (σ:St) (H:Hp) (xs:List V) (us:List Value) (Q:VK),Inv X pins σ H s->Vals xs us->r xs H Q->
  wpAny (model X.prog X.w) X.A (call f us) (EP X pins σ Q) X.xe s
noncomputable def TruR(X:Cx)(r:V->Hp->(Bool->Hp->Prop)->Prop):Prop:=
 ∀(pins:List (Addr×Obj)) (s:Shared) (σ:St) (H:Hp) (x:V) (v:Value) (Q:Bool->Hp->Prop),Inv X pins σ H s->RelV x v->r x H Q->
  wpAny (model X.prog X.w) X.A (truthy v) (TP X pins σ Q) X.xe s
noncomputable def tOp(r:R2)(ta tb:TE):TE:=fun σ H Q=>ta σ H fun x H1=>tb σ H1 fun y H2=>r x y H2 Q
noncomputable def tUn(r:V->Hp->VK->Prop)(ta:TE):TE:=fun σ H Q=>ta σ H fun x H1=>r x H1 Q
noncomputable def rI(C:Int->Int->Prop)(g:Int->Int->V):R2:=fun x y H Q=>∃i j,x= .int i/\y= .int j/\C i j/\Q (g i j) H
noncomputable def rI0(g:Int->Int->V):R2:=fun x y H Q=>∃i j,x= .int i/\y= .int j/\Q (g i j) H
noncomputable def rU(g:Int->V):V->Hp->VK->Prop:=fun x H Q=>∃i,x= .int i/\Q (g i) H
section
variable{X:Cx}{a b c:Expr}{ta tb tc:TE}{pos:Pos}
theorem binT(ha:PE X a ta)(hb:PE X b tb){pins:List (Addr×Obj)}{s:Shared}{σ:St}{H:Hp}{R:V->V->Hp->Prop}(I:Inv X pins σ H s)(h:ta σ H fun x H1=>tb σ H1 fun y H2=>R x y H2){Q:Value->Shared->Prop}{f:Value->Value->Sem Value}(hf:∀v u s2 x y H2,Inv X pins σ H2 s2->RelV x v->RelV y u->R x y H2->wpAny (model X.prog X.w) X.A (f v u) Q X.xe s2):
  wpAny (model X.prog X.w) X.A (eval a X.env) (fun v s₁=>wpAny (model X.prog X.w) X.A (eval b X.env) (fun u s₂=>wpAny (model X.prog X.w) X.A (f v u) Q X.xe s₂) X.xe s₁) X.xe s:=by
 refine thn (ha pins s σ H _ I h) fun v s1 ⟨x,H1,I1,r1,q1⟩=> ?_
 refine thn (hb pins s1 σ H1 _ I1 q1) fun u s2 ⟨y,H2,I2,r2,q2⟩=> ?_
 exact hf v u s2 x y H2 I2 r1 r2 q2
theorem zan{op:Operator}{r:R2}(ho:OpR X (binaryOp op) r)(ha:PE X a ta)(hb:PE X b tb):PE X (.BinOp a op b pos) (tOp r ta tb):=by
 intro pins s σ H Q I h
 exact wpAny_BinOp (binT ha hb I h fun v u s2 x y H2 I2 rx ry q=>ho pins s2 σ H2 x y v u Q I2 rx ry q)
theorem pe_un{op:UnaryOp}{r:V->Hp->VK->Prop}(ho:UnR X (unaryOp op) r)(ha:PE X a ta):PE X (.UnaryOp op a pos) (tUn r ta):=by
 intro pins s σ H Q I h
 exact UnaryOp_ (thn (ha pins s σ H _ I h) fun v s1 ⟨x,H1,I1,r1,q1⟩=>ho pins s1 σ H1 x v Q I1 r1 q1)
theorem opI{f:Value->Value->Sem Value}{C:Int->Int->Prop}{g:Int->Int->Int}(rule:∀(i j:Int) (t u:Tok) (s:Shared) (Q:Value->Shared->Prop) (E:Value->Shared->Prop),C i j->Q (.int (g i j) s.toks) {s with toks:=s.toks+1}->wpAny (model X.prog X.w) X.A (f (.int i t) (.int j u)) Q E s):
  OpR X f (rI C fun i j=> .int (g i j)):=by
 intro pins s σ H x y v u Q I rx ry h
 obtain⟨i,j,rfl,rfl,hc,q⟩:=h
 obtain⟨t,rfl⟩:=rx
 obtain⟨t',rfl⟩:=ry
 exact rule i j t t' s _ _ hc ⟨.int (g i j),H,I.tok _,⟨_,rfl⟩,q⟩
theorem opI0{f:Value->Value->Sem Value}{g:Int->Int->Int}(rule:∀(i j:Int) (t u:Tok) (s:Shared) (Q:Value->Shared->Prop) (E:Value->Shared->Prop),Q (.int (g i j) s.toks) {s with toks:=s.toks+1}->wpAny (model X.prog X.w) X.A (f (.int i t) (.int j u)) Q E s):
  OpR X f (rI0 fun i j=> .int (g i j)):=by
 intro pins s σ H x y v u Q I rx ry h
 obtain⟨i,j,rfl,rfl,q⟩:=h
 obtain⟨t,rfl⟩:=rx
 obtain⟨t',rfl⟩:=ry
 exact rule i j t t' s _ _ ⟨.int (g i j),H,I.tok _,⟨_,rfl⟩,q⟩
theorem opB0{f:Value->Value->Sem Value}{g:Int->Int->Bool}(rule:∀(i j:Int) (t u:Tok) (s:Shared) (Q:Value->Shared->Prop) (E:Value->Shared->Prop),Q (.bool (g i j)) s->wpAny (model X.prog X.w) X.A (f (.int i t) (.int j u)) Q E s):
  OpR X f (rI0 fun i j=> .bl (g i j)):=by
 intro pins s σ H x y v u Q I rx ry h
 obtain⟨i,j,rfl,rfl,q⟩:=h
 obtain⟨t,rfl⟩:=rx
 obtain⟨t',rfl⟩:=ry
 exact rule i j t t' s _ _ ⟨.bl (g i j),H,I,rfl,q⟩
noncomputable def CDiv(i j:Int):Prop:=0<j/\j<1073741824
noncomputable def CMul(i j:Int):Prop:=(-(2^64)<i/\i<2^64)\/(-(2^64)<j/\j<2^64)
theorem CMul.ok{i j:Int}(h:CMul i j):IntMulOk i j:=by
 rcases h with⟨h1,h2⟩|⟨h1,h2⟩
 ·exact .of_left (intBits_le_64 h1 h2)
 ·exact .of_right (intBits_le_64 h1 h2)
theorem zby:OpR X (binaryOp .Add) (rI0 fun i j=> .int (i+j)):=opI0 fun _ _ _ _ _ _ _ q=>add_int q
theorem op_sub:OpR X (binaryOp .Sub) (rI0 fun i j=> .int (i-j)):=opI0 fun _ _ _ _ _ _ _ q=>sub_int q
theorem zcn:OpR X (binaryOp .Mult) (rI CMul fun i j=> .int (i*j)):=opI fun _ _ _ _ _ _ _ hc q=>mul_int q hc.ok
theorem op_fdiv:OpR X (binaryOp .FloorDiv) (rI CDiv fun i j=> .int (i/j)):=opI fun i j _ _ _ _ _ hc q=>by
 have h1:(0:Int)<j:=hc.1
 have h2:j<1073741824:=hc.2
 exact floordiv_int (by omega) (by rw[yec i (by omega)];exact q) (.inl (PyProof.noPylong_small (by omega)))
theorem op_mod:OpR X (binaryOp .Mod) (rI (fun _ j=>0<j) fun i j=> .int (i %j)):=opI fun i j _ _ _ _ _ hc q=>by
 have h1:(0:Int)<j:=hc
 exact mod_int' (by omega) (by rw[Int.fmod_eq_emod_of_nonneg i (by omega)];exact q)
theorem unI{f:Value->Sem Value}{g:Int->Int}(rule:∀(i:Int) (t:Tok) (s:Shared) (Q:Value->Shared->Prop) (E:Value->Shared->Prop),Q (.int (g i) s.toks) {s with toks:=s.toks+1}->wpAny (model X.prog X.w) X.A (f (.int i t)) Q E s):
  UnR X f (rU fun i=> .int (g i)):=by
 intro pins s σ H x v Q I rx h
 obtain⟨i,rfl,q⟩:=h
 obtain⟨t,rfl⟩:=rx
 exact rule i t s _ _ ⟨.int (g i),H,I.tok _,⟨_,rfl⟩,q⟩
theorem un_neg:UnR X (unaryOp .USub) (rU fun i=> .int (-i)):=unI fun _ _ _ _ _ q=>neg_int q
end
noncomputable def scal:V->V->Bool
 | .non,.non=>true| .non,.int _=>true| .int _,.non=>true| .non,.bl _=>true| .bl _,.non=>true| .non,.str _=>true| .str _,.non=>true
 | .int _,.int _=>true| .bl _,.bl _=>true| .str _,.str _=>true| .byt _,.byt _=>true
 | .int _,.str _=>true| .str _,.int _=>true| .bl _,.str _=>true| .str _,.bl _=>true
 |_,_=>false
noncomputable def rEq:R2:=fun x y H Q=>scal x y=true/\Q (.bl (decide (x=y))) H
noncomputable def rNe:R2:=fun x y H Q=>scal x y=true/\Q (.bl (!decide (x=y))) H
theorem dec_int{i j:Int}:decide (V.int i=V.int j)=(i==j):=by
 rw[Bool.eq_iff_iff]
 simp
theorem dec_bl{i j:Bool}:decide (V.bl i=V.bl j)=(i==j):=by
 rw[Bool.eq_iff_iff]
 simp
theorem dec_str{i j:Str}:decide (V.str i=V.str j)=(i==j):=by
 rw[Bool.eq_iff_iff]
 simp
theorem dec_byt{i j:Array UInt8}:decide (V.byt i=V.byt j)=(i.toList==j.toList):=by
 rw[Bool.eq_iff_iff]
 cases i
 cases j
 simp
section
variable{X:Cx}{a b c:Expr}{ta tb tc:TE}{pos:Pos}
theorem zax{pins:List (Addr×Obj)}{σ:St}{H:Hp}{s:Shared}{Q:VK}{k k':Bool}(I:Inv X pins σ H s)(q:Q (.bl k) H)(e:k=k'):EP X pins σ Q (.bool k') s:=by
 subst e
 exact⟨.bl k,H,I,rfl,q⟩
theorem op_eq:OpR X (compareOp .Eq) rEq:=by
 intro pins s σ H x y v u Q I rx ry h
 obtain⟨hs,q⟩:=h
 cases x with
 |non=>
  cases rx
  cases y with
  |non=>cases ry;exact PySem.EqNone.eq_none_none (zax I q (by simp))
  |bl j=>cases ry;exact PySem.EqNone.eq_none_bool (zax I q (by simp))
  |int j=>obtain⟨t',rfl⟩:=ry;exact PySem.EqNone.eq_none_int (zax I q (by simp))
  |str j=>obtain⟨t',rfl⟩:=ry;exact PySem.EqNone.eq_none_str (zax I q (by simp))
  |_=>exact absurd (show false=true from hs) Bool.false_ne_true
 |bl i=>
  cases rx
  cases y with
  |non=>cases ry;exact PySem.EqNone.eq_bool_none (zax I q (by simp))
  |bl j=>cases ry;exact eq_bool (zax I q dec_bl)
  |str j=>obtain⟨t',rfl⟩:=ry;exact PySem.EqMixed.eq_bool_str (zax I q (by simp))
  |_=>exact absurd (show false=true from hs) Bool.false_ne_true
 |int i=>
  obtain⟨t,rfl⟩:=rx
  cases y with
  |non=>cases ry;exact PySem.EqNone.eq_int_none (zax I q (by simp))
  |int j=>obtain⟨t',rfl⟩:=ry;exact eq_int (zax I q dec_int)
  |str j=>obtain⟨t',rfl⟩:=ry;exact PySem.EqMixed.eq_int_str (zax I q (by simp))
  |_=>exact absurd (show false=true from hs) Bool.false_ne_true
 |str i=>
  obtain⟨t,rfl⟩:=rx
  cases y with
  |non=>cases ry;exact PySem.EqNone.eq_str_none (zax I q (by simp))
  |bl j=>cases ry;exact PySem.EqMixed.eq_str_bool (zax I q (by simp))
  |int j=>obtain⟨t',rfl⟩:=ry;exact PySem.EqMixed.eq_str_int (zax I q (by simp))
  |str j=>obtain⟨t',rfl⟩:=ry;exact eq_str (zax I q dec_str)
  |_=>exact absurd (show false=true from hs) Bool.false_ne_true
 |byt i=>
  obtain⟨t,rfl⟩:=rx
  cases y with
  |byt j=>obtain⟨t',rfl⟩:=ry;exact PySem.W.eq_bytes (zax I q dec_byt)
  |_=>exact absurd (show false=true from hs) Bool.false_ne_true
 |_=>cases y<;>exact absurd (show false=true from hs) Bool.false_ne_true
theorem op_ne:OpR X (compareOp .NotEq) rNe:=by
 intro pins s σ H x y v u Q I rx ry h
 obtain⟨hs,q⟩:=h
 cases x with
 |non=>
  cases rx
  cases y with
  |non=>cases ry;exact PySem.EqNone.ne_none_none (zax I q (by simp))
  |bl j=>cases ry;exact PySem.EqNone.ne_none_bool (zax I q (by simp))
  |int j=>obtain⟨t',rfl⟩:=ry;exact PySem.EqNone.ne_none_int (zax I q (by simp))
  |str j=>obtain⟨t',rfl⟩:=ry;exact PySem.EqNone.ne_none_str (zax I q (by simp))
  |_=>exact absurd (show false=true from hs) Bool.false_ne_true
 |bl i=>
  cases rx
  cases y with
  |non=>cases ry;exact PySem.EqNone.ne_bool_none (zax I q (by simp))
  |bl j=>cases ry;exact ne_bool (zax I q (congrArg not dec_bl))
  |str j=>obtain⟨t',rfl⟩:=ry;exact PySem.EqMixed.ne_bool_str (zax I q (by simp))
  |_=>exact absurd (show false=true from hs) Bool.false_ne_true
 |int i=>
  obtain⟨t,rfl⟩:=rx
  cases y with
  |non=>cases ry;exact PySem.EqNone.ne_int_none (zax I q (by simp))
  |int j=>obtain⟨t',rfl⟩:=ry;exact ne_int (zax I q (congrArg not dec_int))
  |str j=>obtain⟨t',rfl⟩:=ry;exact PySem.EqMixed.ne_int_str (zax I q (by simp))
  |_=>exact absurd (show false=true from hs) Bool.false_ne_true
 |str i=>
  obtain⟨t,rfl⟩:=rx
  cases y with
  |non=>cases ry;exact PySem.EqNone.ne_str_none (zax I q (by simp))
  |bl j=>cases ry;exact PySem.EqMixed.ne_str_bool (zax I q (by simp))
  |int j=>obtain⟨t',rfl⟩:=ry;exact PySem.EqMixed.ne_str_int (zax I q (by simp))
  |str j=>obtain⟨t',rfl⟩:=ry;exact ne_str (zax I q (congrArg not dec_str))
  |_=>exact absurd (show false=true from hs) Bool.false_ne_true
 |byt i=>
  obtain⟨t,rfl⟩:=rx
  cases y with
  |byt j=>obtain⟨t',rfl⟩:=ry;exact PySem.W.ne_bytes (zax I q (congrArg not dec_byt))
  |_=>exact absurd (show false=true from hs) Bool.false_ne_true
 |_=>cases y<;>exact absurd (show false=true from hs) Bool.false_ne_true
theorem op_lt:OpR X (compareOp .Lt) (rI0 fun i j=> .bl (decide (i<j))):=opB0 fun _ _ _ _ _ _ _ q=>lt_int q
theorem op_le:OpR X (compareOp .LtE) (rI0 fun i j=> .bl (decide (i<=j))):=opB0 fun _ _ _ _ _ _ _ q=>le_int q
theorem op_gt:OpR X (compareOp .Gt) (rI0 fun i j=> .bl (decide (j<i))):=opB0 fun _ _ _ _ _ _ _ q=>gt_int q
theorem op_isN:OpR X (compareOp .Is) (fun x y H Q=>y= .non/\Q (.bl (decide (x= .non))) H):=by
 intro pins s σ H x y v u Q I rx ry h
 obtain⟨rfl,q⟩:=h
 cases ry
 refine is_none_gen (zax I q ?_)
 cases x<;>first
  |(cases rx;rfl)
  |(obtain⟨t,rfl⟩:=rx;rfl)
theorem op_notN:OpR X (compareOp .IsNot) (fun x y H Q=>y= .non/\Q (.bl (!decide (x= .non))) H):=by
 intro pins s σ H x y v u Q I rx ry h
 obtain⟨rfl,q⟩:=h
 cases ry
 refine isnot_none_gen (zax I q ?_)
 cases x<;>first
  |(cases rx;rfl)
  |(obtain⟨t,rfl⟩:=rx;rfl)
theorem OpR.or{f:Value->Value->Sem Value}{r r':R2}(h:OpR X f r)(h':OpR X f r'):OpR X f (fun x y H Q=>r x y H Q\/r' x y H Q):=by
 intro pins s σ H x y v u Q I rx ry q
 rcases q with q|q
 ·exact h pins s σ H x y v u Q I rx ry q
 ·exact h' pins s σ H x y v u Q I rx ry q
theorem nomark(b:Expr){op:CmpOp}(h:op≠.In:=by decide)(h2:op≠.NotIn:=by decide):behindInMarks op b=false:=by
 have e1:(op==CmpOp.In)=false:=by cases op<;>first |rfl|exact absurd rfl h
 have e2:(op==CmpOp.NotIn)=false:=by cases op<;>first |rfl|exact absurd rfl h2
 cases b<;>simp[behindInMarks,e1,e2]
theorem pe_cmpR{op:CmpOp}{r:R2}(ho:OpR X (compareOp op) r)(ha:PE X a ta)(hb:PE X b tb)(hm:behindInMarks op b=false):PE X (.Compare a [op] [b] pos) (tOp r ta tb):=by
 intro pins s σ H Q I h
 exact wpAny_Compare1 (binT ha hb I h fun v u s2 x y H2 I2 rx ry q=>ho pins s2 σ H2 x y v u Q I2 rx ry q) hm
noncomputable def tTest(t:TE):TT:=fun σ H Q=>t σ H fun x H'=>∃k,x= .bl k/\Q k H'
theorem zap{op:CmpOp}{r:R2}(ho:OpR X (compareOp op) r)(ha:PE X a ta)(hb:PE X b tb)(hm:behindInMarks op b=false):PT X (.Compare a [op] [b] pos) (tTest (tOp r ta tb)):=by
 intro pins s σ H Q I h
 refine wpAny_isTrue_Compare1 (thn (ha pins s σ H _ I h) fun v s1 ⟨x,H1,I1,r1,q1⟩=>thn (hb pins s1 σ H1 _ I1 q1) fun u s2 ⟨y,H2,I2,r2,q2⟩=>
  thn (ho pins s2 σ H2 x y v u _ I2 r1 r2 q2) fun c s3 ⟨z,H3,I3,r3,k,e,q3⟩=> ?_) hm
 subst e
 cases r3
 exact wpAny_truthy_bool ⟨H3,I3,q3⟩
noncomputable def tChain(r r':R2)(ta tb tc:TE):TE:=fun σ H Q=>ta σ H fun x H1=>tb σ H1 fun y H2=>r x y H2 fun z H3=>∃k,z= .bl k/\
 (if k=true then tc σ H3 fun w' H4=>r' y w' H4 Q else Q (.bl false) H3)
theorem pe_chain{op op':CmpOp}{r r':R2}(ho:OpR X (compareOp op) r)(ho':OpR X (compareOp op') r')(ha:PE X a ta)(hb:PE X b tb)(hc:PE X c tc)(hm:lastMarks [op,op'] [b,c]=false:=by with_unfolding_all rfl):PE X (.Compare a [op,op'] [b,c] pos) (tChain r r' ta tb tc):=by
 intro pins s σ H Q I h
 refine Compare_chain (thn (ha pins s σ H _ I h) fun v s1 ⟨x,H1,I1,r1,q1⟩=>chain_link (thn (hb pins s1 σ H1 _ I1 q1) fun u s2 ⟨y,H2,I2,r2,q2⟩=>
  thn (ho pins s2 σ H2 x y v u _ I2 r1 r2 q2) fun d s3 ⟨z,H3,I3,r3,k,e,q3⟩=> ?_)) hm
 subst e
 cases r3
 refine wpAny_truthy_bool ?_
 cases k with
 |false=>exact ite_ff ⟨.bl false,H3,I3,rfl,q3⟩
 |true=>exact ite_tt (chain_last (thn (hc pins s3 σ H3 _ I3 q3) fun w' s4 ⟨z',H4,I4,r4,q4⟩=>ho' pins s4 σ H4 y z' u w' Q I4 r2 r4 q4))
noncomputable def TruV(K:W.Frag)(x:V)(H:Hp)(k:Bool):Prop:=
 match x with
 | .non=>k=false
 | .bl b=>k=b
 | .int i=>k=(i !=0)
 | .str y=>y.length<=sizeLine/\k=((y.length:Int) !=0)
 | .byt y=>y.size<=sizeLine/\k=((y.size:Int) !=0)
 | .ref p=>(∃xs,SqL K H p xs/\k= !xs.isEmpty)\/(∃xs,SqT K H p xs/\k= !xs.isEmpty)\/∃kvs,H p=some (.dK kvs)/\k= !kvs.isEmpty
 |_=>False
theorem isEmpty_kv{κ:Type}{kvs:List (κ×V)}{vs:List (κ×Value)}(r:KV kvs vs):(!vs.isEmpty)= !kvs.isEmpty:=by
 cases r<;>rfl
theorem isEmpty_of{xs:List V}{its:List Value}(r:Vals xs its):(!its.toArray.isEmpty)= !xs.isEmpty:=by
 cases r<;>simp
theorem line63:(sizeLine:Nat)<2^63:=by rw[sizeLine_eq];decide
theorem tru_ok:TruR X (fun x H Q=>∃k,TruV X.K x H k/\Q k H):=by
 intro pins s σ H x v Q I rx h
 obtain⟨k,e,q⟩:=h
 have hl:=line63
 have hs:sizeLine=16777216:=sizeLine_eq
 cases x with
 |non=>
  cases rx
  have e':k=false:=e
  subst e'
  exact truthy_none ⟨H,I,q⟩
 |bl b=>
  cases rx
  have e':k=b:=e
  subst e'
  exact wpAny_truthy_bool ⟨H,I,q⟩
 |int i=>
  obtain⟨t,rfl⟩:=rx
  have e':k=(i !=0):=e
  subst e'
  exact PySem.P.truthy_int ⟨H,I,q⟩
 |str y=>
  obtain⟨t,rfl⟩:=rx
  obtain⟨hy,e'⟩:y.length<=sizeLine/\k=((y.length:Int) !=0):=e
  subst e'
  exact PySem.P.truthy_str (by omega) ⟨H,I.tok _,q⟩
 |byt y=>
  obtain⟨t,rfl⟩:=rx
  obtain⟨hy,e'⟩:y.size<=sizeLine/\k=((y.size:Int) !=0):=e
  subst e'
  exact PySem.W.truthy_bytes (by omega) ⟨H,I.tok _,q⟩
 |ref p=>
  cases rx
  have e':(∃xs,SqL X.K H p xs/\k= !xs.isEmpty)\/(∃xs,SqT X.K H p xs/\k= !xs.isEmpty)\/∃kvs,H p=some (.dK kvs)/\k= !kvs.isEmpty:=e
  rcases e' with⟨xs,hx,e'⟩|⟨xs,hx,e'⟩|⟨kvs,hx,e'⟩
  ·subst e'
   obtain⟨its,r,pl,hz⟩:=I.list hx
   have hlen:=r.length
   exact wpAny_truthy_list pl.isList (by simp only[yak];omega) ⟨H,I.tok _,by rw[isEmpty_of r];exact q⟩
  ·subst e'
   obtain⟨its,r,pl,hz⟩:=I.tuple hx
   have hlen:=r.length
   exact truthy_tuple pl (by simp only[yak];omega) ⟨H,I.tok _,by rw[isEmpty_of r];exact q⟩
  ·subst e'
   obtain⟨hz,hS,vs,r,m⟩:kvs.length<=sizeLine/\(p==sysModules)=false/\∃vs,KV kvs vs/\s.heap.DictOf (mixKind X.prog X.w) p vs:=I.hok p _ hx
   have hlen:kvs.length=vs.length:=Paired.length r
   exact wpAny_truthy_dict hS m (by omega) ⟨H,I.tok _,by rw[isEmpty_kv r];exact q⟩
 |_=>exact(show False from e).elim
theorem pt_truth(ha:PE X a ta)(he:∀whole,isTrue a X.env whole=(do let v<-whole;standAt a.pos;holding [v] (truthy v))):
  PT X a (fun σ H Q=>ta σ H fun x H'=>∃k,TruV X.K x H' k/\Q k H'):=by
 intro pins s σ H Q I h
 exact isTrue_plain (thn (ha pins s σ H _ I h) fun v s1 ⟨x,H1,I1,r1,q1⟩=>tru_ok pins s1 σ H1 x v Q I1 r1 q1) (he _)
theorem vals1{x:V}{us:List Value}(r:Vals [x] us):∃u,us=[u]/\RelV x u:=by
 cases r with
 |cons r1 r2=>cases r2;exact⟨_,rfl,r1⟩
theorem vals2{x y:V}{us:List Value}(r:Vals [x,y] us):∃u w',us=[u,w']/\RelV x u/\RelV y w':=by
 cases r with
 |cons r1 r2=>
  cases r2 with
  |cons r3 r4=>cases r4;exact⟨_,_,rfl,r1,r3⟩
theorem call_abs:CallR X (.builtin "abs") (fun xs H Q=>∃i,xs=[.int i]/\Q (.int (if i<0 then -i else i)) H):=by
 intro pins s σ H xs us Q I r h
 obtain⟨i,rfl,q⟩:=h
 obtain⟨u,rfl,t,rfl⟩:=vals1 r
 exact call_abs_int fun u tk=>⟨.int (if i<0 then -i else i),H,I.tok _,⟨_,rfl⟩,q⟩
theorem call_max2(hc:X.calm=true):CallR X (.builtin "max") (fun xs H Q=>∃i j,xs=[.int i,.int j]/\Q (.int (if j>i then j else i)) H):=by
 intro pins s σ H xs us Q I r h
 obtain⟨i,j,rfl,q⟩:=h
 obtain⟨u,w',rfl,⟨t,rfl⟩,⟨t',rfl⟩⟩:=vals2 r
 refine max_two_ints (I.ok.hd hc) fun h' tk k=>⟨_,H,I.kept k,?_,q⟩
 by_cases hj:j>i
 ·rw[if_pos hj,if_pos hj];exact⟨_,rfl⟩
 ·rw[if_neg hj,if_neg hj];exact⟨_,rfl⟩
theorem call_min2(hc:X.calm=true):CallR X (.builtin "min") (fun xs H Q=>∃i j,xs=[.int i,.int j]/\Q (.int (if j<i then j else i)) H):=by
 intro pins s σ H xs us Q I r h
 obtain⟨i,j,rfl,q⟩:=h
 obtain⟨u,w',rfl,⟨t,rfl⟩,⟨t',rfl⟩⟩:=vals2 r
 refine min_two_ints (I.ok.hd hc) fun h' tk k=>⟨_,H,I.kept k,?_,q⟩
 by_cases hj:j<i
 ·rw[if_pos hj,if_pos hj];exact⟨_,rfl⟩
 ·rw[if_neg hj,if_neg hj];exact⟨_,rfl⟩
end
structure ObjM(h:Heap)(x dx C:Addr)(mA:Str->Option Value):Prop where
 obj:h.get? x=some (PySem.W.instObj C dx)
 ns:h.Ns1 dx mA
 ne:dx≠x
theorem lookIn_ns{h:Heap}{dx:Addr}{mA:Str->Option Value}(n:h.Ns1 dx mA):∃od,h.get? dx=some od/\∀name,PySem.W.lookIn name od=some (mA name):=by
 obtain⟨o,es,ep,ho,hd,hk,_,hm⟩:=n
 refine⟨o,ho,fun name=> ?_⟩
 have e:=hm name
 unfold nsFind findBy at e
 rw[<-Array.find?_toList]at e
 unfold PySem.W.lookIn
 rw[hd]
 dsimp only
 split
 ·rename_i y q
  rw[q]at e
  exact congrArg some e
 ·rename_i q
  rw[q]at e
  have a:es.toList.any (·.refKey)=false:=by
   rw[ydj]
   intro y hy
   obtain⟨z,t,hkey⟩:=hk y (Array.mem_toList_iff.mp hy)
   simp[DictEntry.refKey,hkey]
  have a':¬es.toList.any (·.refKey)=true:=by rw[a];exact Bool.false_ne_true
  rw[if_neg a']
  exact congrArg some e
theorem ObjM.look{h:Heap}{x dx C:Addr}{mA:Str->Option Value}(I:ObjM h x dx C mA):∃od,PySem.W.InstAt h x (PySem.W.instObj C dx) C (some od)/\∀name,PySem.W.lookIn name od=some (mA name):=
 let⟨od,ho,hl⟩:=lookIn_ns I.ns
 ⟨od,⟨I.obj,rfl,rfl,ho⟩,hl⟩
section
variable{prog:Program}{w:World}{A:Around}{E:Value->Shared->Prop}{s:Shared}{K:W.Frag}{x dx C f:Addr}{mA:Str->Option Value}{name:Str}{v:Value}
theorem get_map{expr:Bool}{Q:Value->Shared->Prop}(X:K.In s.heap)(I:ObjM s.heap x dx C mA)(hg:PySem.W.plainGet K C name=true)(hh:PySem.W.hasDictIn K C=true)(ha:PySem.W.findIn K (.ref C) name=some none)(hv:mA name=some v)(hv':PySem.W.handedIn v=true)(h:Q v {s with toks:=s.toks+1}):
  wpAny (model prog w) A (getAttr (.ref x) name expr) Q E s:=by
 obtain⟨od,J,hl⟩:=I.look
 exact PySem.W.get_value X J (PySem.W.plainGet_of hg).1 (PySem.W.findObj_own hh ha rfl (by rw[hl,hv])) hv' h
theorem get_meth{pl:Sem Bool}{Q:Value×List Value->Shared->Prop}(X:K.In s.heap)(I:ObjM s.heap x dx C mA)(hg:PySem.W.plainGet K C name=true)(hf:PySem.W.findIn K (.ref C) name=some (some (.ref f)))(ht:PySem.W.isFn K (.ref f)=true)(hv:mA name=none)(h:Q (.ref f,[.ref x]) s):
  wpAny (model prog w) A (getMethod (.ref x) name pl) Q E s:=by
 obtain⟨od,J,hl⟩:=I.look
 exact PySem.W.method_fn X J (PySem.W.plainGet_of hg).1 (PySem.W.plainGet_of hg).2 hf (beq_iff_eq.mp ht) (by show(PySem.W.lookIn name od).map (·.isSome)=some false;rw[hl,hv];rfl) h
theorem set_map{ns:List Str}{Q:Unit->Shared->Prop}(X:K.In s.heap)(I:ObjM s.heap x dx C mA)(hs:PySem.W.findIn K (.ref C) "__setattr__"=some (some (.builtin "object.__setattr__")))(hp:PySem.W.plainOver K C=true)(ht:PySem.W.takerIn K C name=some none)(hh:PySem.W.hasDictIn K C=true)(hw:PySem.Within mA ns)(hsz:ns.length<=sizeLine)(h:∀h',ObjM h' x dx C (fun y=>if y=name then some v else mA y)->Heap.SameBut dx s.heap h'->Q () {s with heap:=h',toks:=s.toks+2}):
  wpAny (model prog w) A (setAttr (.ref x) name v) Q E s:=by
 obtain⟨od,J,hl⟩:=I.look
 refine PySem.W.set_plain X J hs (PySem.W.osa_open (s:={s with toks:=s.toks+1}) (r:=none) X J hp ht fun b=> ?_)
 obtain⟨cd,hc,hd'⟩:=PySem.W.any_some hh
 have hx:s.heap.get? x=some ⟨.ref C,some dx,.plain,#[]⟩:=I.obj
 refine wpAny_bind (wpAny_pure (wpAny_bind (wpAny_bind (wpAny_loadPart hx (wpAny_bind (PySem.W.Looks.here (s:={s with toks:=s.toks+1}) (PySem.W.looks_clsIn X hc) ?_))))))
 rw[hd']
 refine wpAny_pure (a:=some dx) (wpAny_bind (wpAny_pure (wpAny_bind ?_)))
 refine wpAny_nsSet1 (s:={s with toks:=s.toks+1}) I.ns fun h' hn2 hs2=> ?_
 obtain⟨oD,esD,epD,hoD,hdD,hcD⟩:=hn2.count (PySem.Within.cons name v hw)
 refine wpAny_bind (wpAny_lookBehind hoD (by rw[hdD];exact pastItsLine_dict (yat hcD (by rw[ybj];omega))) ?_)
 exact wpAny_pure (h _ ⟨(hs2.2 _ (Ne.symm I.ne)).trans I.obj,hn2,I.ne⟩ hs2)
theorem make_map{R:Result->Shared->Prop}{vs:List Value}{kw:List (Str×Value)}(X:K.In s.heap)(hm:PySem.W.makesIn K C=true)(hi:PySem.W.findIn K (.ref C) "__init__"=some (some (.ref f)))(hf:PySem.W.typeIn K (.ref f)=some (.type "function"))(h:codeAny (model prog w) (A.under (.builtin "type.__call__" ⟨.ref C::vs,kw⟩)) (.call (.ref f) ⟨.ref (s.heap.objs.size+1)::vs,kw⟩) (PySem.W.InitBack (s.heap.objs.size+1) R)
   {s with heap:=(s.heap.push PySem.W.emptyDict).push (PySem.W.instObj C s.heap.objs.size)}):
  codeAny (model prog w) A (.call (.ref C) ⟨vs,kw⟩) R s:=by
 obtain⟨hh,g,d,t,os⟩:=s
 exact PySem.W.make_core (PySem.W.makes_of X hm) (PySem.W.looks_findIn X hi) (fun self=>PySem.W.bind_fn X self hf) (.inl rfl) h
end
noncomputable def putF(f:Str)(v:V):List (Str×V)->List (Str×V)
 |[]=>[(f,v)]
 |(g,x)::r=>if g=f then(g,v)::r else(g,x)::putF f v r
theorem lookup_putF(f g:Str)(v:V):∀fs:List (Str×V),(putF f v fs).lookup g=if g=f then some v else fs.lookup g
 |[]=>by
  show List.lookup g [(f,v)]=_
  by_cases h:g=f
  ·have hb:(g==f)=true:=beq_iff_eq.mpr h
   simp only[List.lookup,hb,if_pos h]
  ·have hb:(g==f)=false:=beq_eq_false_iff_ne.mpr h
   simp only[List.lookup,hb,if_neg h]
 |(k,x)::r=>by
  have ih:=lookup_putF f g v r
  rw[show putF f v ((k,x)::r)=(if k=f then(k,v)::r else(k,x)::putF f v r)from rfl]
  by_cases hk:k=f
  ·rw[if_pos hk]
   by_cases h:g=k
   ·have hb:(g==k)=true:=beq_iff_eq.mpr h
    simp only[List.lookup,hb,if_pos (h.trans hk)]
   ·have hb:(g==k)=false:=beq_eq_false_iff_ne.mpr h
    simp only[List.lookup,hb,if_neg (fun e:g=f=>h (e.trans hk.symm))]
  ·rw[if_neg hk]
   by_cases h:g=k
   ·have hb:(g==k)=true:=beq_iff_eq.mpr h
    simp only[List.lookup,hb,if_neg (fun e:g=f=>hk (h.symm.trans e))]
   ·have hb:(g==k)=false:=beq_eq_false_iff_ne.mpr h
    simp only[List.lookup,hb]
    exact ih
theorem keys_putF(f:Str)(v:V):∀fs:List (Str×V),f∈(putF f v fs).map (·.1)/\∀g,g∈fs.map (·.1)->g∈(putF f v fs).map (·.1)
 |[]=>⟨by simp[putF],fun g h=>by simp at h⟩
 |(k,x)::r=>by
  obtain⟨i1,i2⟩:=keys_putF f v r
  rw[show putF f v ((k,x)::r)=(if k=f then(k,v)::r else(k,x)::putF f v r)from rfl]
  by_cases hk:k=f
  ·rw[if_pos hk]
   subst hk
   exact⟨by simp,fun g h=>by simpa using h⟩
  ·rw[if_neg hk]
   refine⟨?_,fun g h=> ?_⟩
   ·rw[ycd]
    exact yae _ i1
   ·rw[ycd]at h⊢
    rcases yam.mp h with e|e
    ·exact yam.mpr (.inl e)
    ·exact yae _ (i2 g e)
theorem length_putF(f:Str)(v:V):∀fs:List (Str×V),(putF f v fs).length<=fs.length+1
 |[]=>by simp[putF]
 |(k,x)::r=>by
  have ih:=length_putF f v r
  rw[show putF f v ((k,x)::r)=(if k=f then(k,v)::r else(k,x)::putF f v r)from rfl]
  by_cases hk:k=f
  ·rw[if_pos hk,ybj,ybj];omega
  ·rw[if_neg hk,ybj,ybj];omega
theorem RelO.some_of{v:V}{o:Option Value}(r:RelO (some v) o):∃u,o=some u/\RelV v u:=by
 cases o with
 |none=>exact(show False from r).elim
 |some u=>exact⟨u,rfl,r⟩
theorem RelO.none_of{o:Option Value}(r:RelO none o):o=none:=by
 cases o with
 |none=>rfl
 |some u=>exact(show False from r).elim
theorem handed_of{v:V}{u:Value}(r:RelV v u):PySem.W.handedIn u=true:=by
 cases v with
 |non=>cases(show u=Value.none from r);rfl
 |bl b=>cases(show u=Value.bool b from r);rfl
 |int i=>obtain⟨t,e⟩:=(show∃t,u=Value.int i t from r);cases e;rfl
 |str x=>obtain⟨t,e⟩:=(show∃t,u=Value.str x t from r);cases e;rfl
 |byt b=>obtain⟨t,e⟩:=(show∃t,u=Value.bytes b t from r);cases e;rfl
 |flt b=>obtain⟨t,e⟩:=(show∃t,u=Value.float b t from r);cases e;rfl
 |ref a=>cases(show u=Value.ref a from r);rfl
 |ty n=>cases(show u=Value.type n from r);rfl
section
variable{P:Program}{w:World}{H H':Hp}{h h':Heap}{a C dx:Addr}{fs fs':List (Str×V)}
theorem ins_get(hok:HOk P w H h)(e:H a=some (.ins C dx fs)):∃mA,ObjM h a dx C mA/\(∀f,RelO (fs.lookup f) (mA f))/\PySem.Within mA (fs.map (·.1))/\fs.length<=1000/\H dx=some (.own a):=by
 obtain⟨d,z,ne,ob,mA,n,r,q⟩:=(show ObjOk P w H h a (.ins C dx fs)from hok a _ e)
 exact⟨mA,⟨ob,n,ne⟩,r,q,z,d⟩
end
structure Cls(K:W.Frag)(C:Addr):Prop where
 pg:PySem.W.plainGet K C Str.empty=true
 hd:PySem.W.hasDictIn K C=true
 po:PySem.W.plainOver K C=true
 sa:PySem.W.findIn K (.ref C) "__setattr__"=some (some (.builtin "object.__setattr__"))
theorem Cls.get{K:W.Frag}{C:Addr}(c:Cls K C)(f:Str):PySem.W.plainGet K C f=true:=c.pg
noncomputable def NoAttr(K:W.Frag)(C:Addr)(f:Str):Prop:=PySem.W.findIn K (.ref C) f=some none
theorem NoAttr.taker{K:W.Frag}{C:Addr}{f:Str}(n:NoAttr K C f):PySem.W.takerIn K C f=some none:=by
 unfold PySem.W.takerIn
 rw[show PySem.W.findIn K (.ref C) f=some none from n]
 rfl
structure Meth(K:W.Frag)(C:Addr)(m:Str)(f:Addr):Prop where
 at_:PySem.W.findIn K (.ref C) m=some (some (.ref f))
 fn:PySem.W.isFn K (.ref f)=true
 kp:PySem.W.keepIn K (.ref f)=true
section
variable{X:Cx}{pins:List (Addr×Obj)}{σ:St}{H:Hp}{s:Shared}{a C dx:Addr}{fs:List (Str×V)}{f:Str}{v:V}{A:Around}{E:Value->Shared->Prop}
theorem getattr_ok{b:Bool}{Q:Value->Shared->Prop}(I:Inv X pins σ H s)(e:H a=some (.ins C dx fs))(c:Cls X.K C)(n:NoAttr X.K C f)(l:fs.lookup f=some v)(h:∀u s',Inv X pins σ H s'->RelV v u->Q u s'):wpAny (model X.prog X.w) A (getAttr (.ref a) f b) Q E s:=by
 obtain⟨mA,O,r,_,_,_⟩:=ins_get I.hok e
 obtain⟨u,hu,ru⟩:=RelO.some_of (v:=v) (o:=mA f) (by rw[<-l];exact r f)
 exact get_map I.kIn O (c.get f) c.hd n hu (handed_of ru) (h u _ (I.tok _) ru)
theorem getmeth_ok{m:Str}{g:Addr}{pl:Sem Bool}{Q:Value×List Value->Shared->Prop}(I:Inv X pins σ H s)(e:H a=some (.ins C dx fs))(c:Cls X.K C)(k:Meth X.K C m g)(l:fs.lookup m=none)(h:Q (.ref g,[.ref a]) s):wpAny (model X.prog X.w) A (getMethod (.ref a) m pl) Q E s:=by
 obtain⟨mA,O,r,_,_,_⟩:=ins_get I.hok e
 have hn:mA m=none:=RelO.none_of (by rw[<-l];exact r m)
 exact get_meth I.kIn O (c.get m) k.at_ k.fn hn h
theorem setattr_ok{y:V}{u:Value}{Q:Unit->Shared->Prop}(I:Inv X pins σ H s)(e:H a=some (.ins C dx fs))(c:Cls X.K C)(n:NoAttr X.K C f)(hl:fs.length<1000)(ry:RelV y u)(h:∀s',Inv X pins σ (upd H a (.ins C dx (putF f y fs))) s'->Q () s'):wpAny (model X.prog X.w) A (setAttr (.ref a) f u) Q E s:=by
 obtain⟨mA,O,r,wi,_,ho⟩:=ins_get I.hok e
 have hz:(fs.map (·.1)).length<=sizeLine:=by rw[yaa,sizeLine_eq];omega
 refine set_map I.kIn O c.sa c.po n.taker c.hd wi hz fun h' O' sb=>h _ ?_
 have hd:∃o,h'.get? dx=some o:=let⟨o,_,_,e',_⟩:=O'.ns;⟨o,e'⟩
 refine I.write (x:=a) (e:=dx) (by rw[e];exact True.intro) (.inr ho) (fun b q hb z=>(sb.2 b hb).trans z) hd ?_
 refine⟨by rw[zaj O.ne];exact ho,?_,O.ne,O'.obj,_,O'.ns,fun g=> ?_,fun g hg=> ?_⟩
 ·have:=length_putF f y fs;omega
 ·show RelO ((putF f y fs).lookup g) (if g=f then some u else mA g)
  rw[lookup_putF]
  by_cases q:g=f
  ·rw[if_pos q,if_pos q];exact ry
  ·rw[if_neg q,if_neg q];exact r g
 ·by_cases q:g=f
  ·rw[q];exact(keys_putF f y fs).1
  ·refine(keys_putF f y fs).2 g (wi g fun z=>hg ?_)
   show(if g=f then some u else mA g)=none
   rw[if_neg q];exact z
theorem Inv.made(I:Inv X pins σ H s):Inv X pins σ (upd (upd H s.heap.objs.size (.own (s.heap.objs.size+1))) (s.heap.objs.size+1) (.ins C s.heap.objs.size []))
  {s with heap:=(s.heap.push PySem.W.emptyDict).push (PySem.W.instObj C s.heap.objs.size)}:=by
 have e1:(s.heap.push PySem.W.emptyDict).get? s.heap.objs.size=some PySem.W.emptyDict:=yao s.heap rfl
 have e2:((s.heap.push PySem.W.emptyDict).push (PySem.W.instObj C s.heap.objs.size)).get? (s.heap.objs.size+1)=some (PySem.W.instObj C s.heap.objs.size):=by
  have:=yao (s.heap.push PySem.W.emptyDict) (o:=PySem.W.instObj C s.heap.objs.size) rfl
  rwa [ybu]at this
 have e3:(s.heap.push PySem.W.emptyDict).Ns s.heap.objs.size (fun _=>none):=⟨PySem.W.emptyDict,#[],_,e1,rfl,(fun e he=>absurd he (by simp)),fun _=>rfl⟩
 have I1:=I.laid (a:=s.heap.objs.size) (o:= .own (s.heap.objs.size+1)) (h':=s.heap.push PySem.W.emptyDict) (t':=s.toks) (fun b u q=>yab _ q) (yac _) ⟨_,e1⟩
 refine I1.laid (a:=s.heap.objs.size+1) (o:= .ins C s.heap.objs.size []) (t':=s.toks) (fun b u q=>yab _ q) (yci (ybu _ _)) ?_
 have ne:s.heap.objs.size≠s.heap.objs.size+1:=yau (yba _)
 refine⟨by rw[zaj ne,zab],yaw _,ne,e2,fun _=>none,(Heap.Ns1.of_empty e3).at fun o q=>yab _ q,fun _=>True.intro,fun y hy=>absurd rfl hy⟩
theorem attr_of{prog:Program}{w:World}{env:Env}{e:Expr}{f:Str}{pos:Pos}{s:Shared}{Q:Value->Shared->Prop}(hb:attributeBase e f env (eval e env)=eval e env)(h:wpAny (model prog w) A (eval e env) (fun o s₁=>wpAny (model prog w) A (getAttr o f true) Q E s₁) E s):wpAny (model prog w) A (eval (.Attribute e f pos) env) Q E s:=
 Attribute_any_ h (by rw[arm_eval_Attribute,hb])
end
noncomputable def tFld(K:W.Frag)(ta:TE)(f:Str):TE:=fun σ H Q=>ta σ H fun x H1=>∃a C dx fs v,x= .ref a/\H1 a=some (.ins C dx fs)/\Cls K C/\NoAttr K C f/\fs.lookup f=some v/\Q v H1
noncomputable def sFld(K:W.Frag)(ta tv:TE)(f:Str):TS:=fun D σ H=>tv σ H fun y H1=>ta σ H1 fun x H2=>∃a C dx fs,x= .ref a/\H2 a=some (.ins C dx fs)/\Cls K C/\NoAttr K C f/\fs.length<1000/\
 D.nx σ (upd H2 a (.ins C dx (putF f y fs)))
section
variable{X:Cx}{o e value:Expr}{f:Str}{pos pos' tpos:Pos}{ta tv:TE}
theorem zbg(he:PE X e ta)(hb:attributeBase e f X.env (eval e X.env)=eval e X.env):PE X (.Attribute e f pos) (tFld X.K ta f):=by
 intro pins s σ H Q I h
 refine attr_of hb (thn (he pins s σ H _ I h) fun u s1 ⟨x,H1,I1,rx,a,C,dx,fs,v,ex,ea,c,n,l,q⟩=> ?_)
 subst ex
 obtain rfl:u=Value.ref a:=rx
 exact getattr_ok I1 ea c n l fun u' s2 I2 ru=>⟨v,H1,I2,ru,q⟩
theorem ps_fld(ha:PE X o ta)(hv:PE X value tv)(hs:swapsWith value (some (.Attribute o f pos')) pos.line X.env=pure false):PS X (.Assign [.Attribute o f pos'] value pos) (sFld X.K ta tv f):=by
 intro pins s σ H D I h
 refine plainObj_wpAny_Assign_Attribute (thn (hv pins s σ H _ I h) fun u s1 ⟨y,H1,I1,ry,q⟩=>thn (ha pins s1 σ H1 _ I1 q) fun ov s2 ⟨x,H2,I2,rx,a,C,dx,fs,ex,ea,c,n,l,q2⟩=> ?_) hs
 subst ex
 obtain rfl:ov=Value.ref a:=rx
 exact setattr_ok I2 ea c n l ry fun s3 I3=>⟨σ,_,I3,q2⟩
end
section
variable{X:Cx}{pins:List (Addr×Obj)}{σ:St}{H:Hp}{s:Shared}{A:Around}{E:Value->Shared->Prop}{Q:Value->Shared->Prop}{c:Value}{b:Bool}
end
structure Room(k:Nat)(A:Around):Prop where
 hd:A.handled=none
 dp:A.depth+3*k+5<recursionLimit
 un:A.units+16*k+200<cLine
 gd:A.guards=some []
theorem Room.mono{j k:Nat}{A:Around}(r:Room k A)(h:j<=k):Room j A:=⟨r.hd,by have:=r.dp;omega,by have:=r.un;omega,r.gd⟩
theorem Room.deeper{k:Nat}{A:Around}(r:Room (k+1) A)(env:Env):Room k (A.deeper env):=
 ⟨r.hd,by have:=r.dp;show A.depth+1+3*k+5<_;omega,by have:=r.un;show A.units+3+16*k+200<_;omega,r.gd⟩
theorem Room.in1{k:Nat}{A:Around}(r:Room (k+1) A):Room k A.in1:=
 ⟨r.hd,by have:=r.dp;show A.depth+3*k+5<_;omega,by have:=r.un;show A.units+1+16*k+200<_;omega,r.gd⟩
theorem make_depth{A:Around}{C:Addr}{us:List Value}{kw:List (Str×Value)}:(A.under (.builtin "type.__call__" ⟨.ref C::us,kw⟩)).depth=A.depth+1:=by
 first |rfl|simp[Around.under,Code.weight,Code.isCreation,Code.isGuard,Code.isCaller,Code.frames,Code.isFrame,guardIds]
theorem make_units{A:Around}{C:Addr}{us:List Value}{kw:List (Str×Value)}:(A.under (.builtin "type.__call__" ⟨.ref C::us,kw⟩)).units=A.units+1:=by
 first |rfl|simp[Around.under,Code.cUnits,Code.frames,Code.isFrame]
theorem Room.make{k:Nat}{A:Around}(r:Room (k+1) A)(C:Addr)(us:List Value)(kw:List (Str×Value)):Room k (A.under (.builtin "type.__call__" ⟨.ref C::us,kw⟩)):=
 ⟨r.hd,by have:=r.dp;rw[make_depth];omega,by have:=r.un;rw[make_units];omega,by
  have q:=r.gd
  first |exact q|(simp[Around.under,Code.isGuard,guardIds];exact q)|(unfold Around.under;simp[Code.isGuard,guardIds,q])⟩
theorem Room.depth{k:Nat}{A:Around}(r:Room k A):A.depth<recursionLimit:=by have:=r.dp;omega
theorem Room.units{k:Nat}{A:Around}(r:Room k A):A.units+64<cLine:=by have:=r.un;omega
theorem Room.units0{k:Nat}{A:Around}(r:Room k A):A.units<cLine:=by have:=r.un;omega
noncomputable def tNil:TA:=fun _ H Q=>Q [] H
noncomputable def tCons(ta:TE)(tr:TA):TA:=fun σ H Q=>ta σ H fun x H1=>tr σ H1 fun xs H2=>Q (x::xs) H2
section
variable{X:Cx}{e:Expr}{es:List Expr}{te:TE}{t:TA}{pos:Pos}
theorem zac:PA X [] tNil:=fun _ _ _ _ H Q I h=>Calls.spliced_nil ⟨[],H,I,.nil,h⟩
theorem zaa(ha:PE X e te)(hr:PA X es t)(hs:starEach (e::es) X.env=(false,eval e X.env)::starEach es X.env:=by rfl):PA X (e::es) (tCons te t):=by
 intro pos pins s σ H Q I h
 rw[hs]
 show wpAny _ _ (spliced ((false,eval e X.env)::backTo pos (starEach es X.env))) _ _ s
 refine Calls.spliced_cons (thn (ha pins s σ H _ I h) fun u s1 ⟨x,H1,I1,r1,q1⟩=> ?_)
 exact thn (hr pos pins s1 σ H1 _ I1 q1) fun us s2 ⟨xs,H2,I2,r2,q2⟩=>⟨x::xs,H2,I2,.cons r1 r2,q2⟩
noncomputable def tTup(t:TA):TE:=fun σ H Q=>t σ H fun xs H1=>xs.length<=sizeLine/\∀p,H1 p=none->Q (.ref p) (upd H1 p (.tup xs))
noncomputable def tLst(t:TA):TE:=fun σ H Q=>t σ H fun xs H1=>xs.length<=sizeLine/\∀p,H1 p=none->Q (.ref p) (upd H1 p (.lst xs))
theorem zaw{x1}(h:PA X es t):PE X (.Tuple es x1 pos) (tTup t):=by
 intro pins s σ H Q I hq
 refine wpAny_Tuple_spliced (thn (h pos pins s σ H _ I hq) fun us s1 ⟨xs,H1,I1,r,z,q⟩=>⟨by rw[<-r.length];exact z,?_⟩)
 have hf:H1 s1.heap.objs.size=none:=I1.hok.fresh (yac _)
 refine⟨.ref s1.heap.objs.size,upd H1 s1.heap.objs.size (.tup xs),I1.laid (t':=s1.toks) (fun b u e=>yab _ e) (yac _) ?_,rfl,q _ hf⟩
 exact⟨z,us,r,⟨_,yao _ rfl,rfl,_,rfl⟩⟩
theorem pe_lst(h:PA X es t):PE X (.List es pos) (tLst t):=by
 intro pins s σ H Q I hq
 refine wpAny_List_spliced (thn (h pos pins s σ H _ I hq) fun us s1 ⟨xs,H1,I1,r,z,q⟩=>⟨by rw[<-r.length];exact z,?_⟩)
 have hf:H1 s1.heap.objs.size=none:=I1.hok.fresh (yac _)
 refine⟨.ref s1.heap.objs.size,upd H1 s1.heap.objs.size (.lst xs),I1.laid (t':=s1.toks) (fun b u e=>yab _ e) (yac _) ?_,rfl,q _ hf⟩
 exact⟨z,us,0,r,yao _ rfl⟩
end
noncomputable abbrev Sp:=List V->Hp->VK->XK->Prop
noncomputable abbrev CXT:=List Env->Hp->Shared->XK->Value->Shared->Prop
structure Env0(P:Program)(w:World)(K:W.Frag)(mg:Str->Option Value)(base:Heap)(A:Around)(outer:List Env)(s:Shared)(H:Hp):Prop where
 frames:A.frames=some outer
 mod:Mod K mg base
 bs:∀b o,base.get? b=some o->s.heap.get? b=some o/\H b=none
 bsz:base.objs.size<=s.heap.objs.size
 funs:s.heap.FunFrames base outer
 frf:∀b∈frs outer,H b=none
 hok:HOk P w H s.heap
 bare:AllBare s.gens
noncomputable def CE(outer:List Env)(P:Program)(w:World)(H:Hp)(s:Shared)(Q:VK)(u:Value)(s':Shared):Prop:=
 ∃v H',s'.os=s.os/\AllBare s'.gens/\Un (frs outer) [] H H' s.heap s'.heap/\HOk P w H' s'.heap/\RelV v u/\Q v H'
noncomputable def CR(CX:CXT)(outer:List Env)(P:Program)(w:World)(H:Hp)(s:Shared)(Q:VK)(E:XK)(r:Result)(s':Shared):Prop:=
 match r with
 | .ok (.ret u)=>CE outer P w H s Q u s'
 | .ok _=>False
 | .error e=>CX outer H s E e s'
structure FnOk(P:Program)(w:World)(K:W.Frag)(mg:Str->Option Value)(base:Heap)(CX:CXT)(k:Nat)(f:Addr)(fd:FuncData)(ps:List Str)(sp:Sp):Prop where
 len:∀vs H Q E,sp vs H Q E->vs.length=ps.length
 run:∀(A:Around) (outer:List Env) (s:Shared) (H:Hp) (args:Args) (us:List Value) (vs:List V) (Q:VK) (E:XK),Room k A->Env0 P w K mg base A outer s H->BindsTo s fd args (ps.zip us)->Vals vs us->sp vs H Q E->
  codeAny (model P w) A (.call (.ref f) args) (CR CX outer P w H s Q E) s
theorem FnOk.mono{P:Program}{w:World}{K:W.Frag}{mg:Str->Option Value}{base:Heap}{CX:CXT}{j k:Nat}{f:Addr}{fd:FuncData}{ps:List Str}{sp:Sp}(F:FnOk P w K mg base CX j f fd ps sp)(h:j<=k):
  FnOk P w K mg base CX k f fd ps sp:=⟨F.len,fun A outer s H args us vs Q E hr=>F.run A outer s H args us vs Q E (hr.mono h)⟩
theorem Env0.make{P:Program}{w:World}{K:W.Frag}{mg:Str->Option Value}{base:Heap}{A:Around}{outer:List Env}{s:Shared}{H:Hp}(e:Env0 P w K mg base A outer s H)(C:Addr)(us:List Value)(kw:List (Str×Value)):
  Env0 P w K mg base (A.under (.builtin "type.__call__" ⟨.ref C::us,kw⟩)) outer s H:=⟨by first |exact e.frames|(simpa[Around.under,Code.envs,Code.isFrame,pushEnvs]using e.frames),e.mod,e.bs,e.bsz,e.funs,e.frf,e.hok,e.bare⟩
theorem Env0.in1{P:Program}{w:World}{K:W.Frag}{mg:Str->Option Value}{base:Heap}{A:Around}{outer:List Env}{s:Shared}{H:Hp}(e:Env0 P w K mg base A outer s H):
  Env0 P w K mg base A.in1 outer s H:=⟨e.frames,e.mod,e.bs,e.bsz,e.funs,e.frf,e.hok,e.bare⟩
section
variable{X:Cx}{pins:List (Addr×Obj)}{σ:St}{H:Hp}{s s':Shared}
theorem Inv.env0(I:Inv X pins σ H s):Env0 X.prog X.w X.K X.mg X.base X.A X.stack s H:=
 ⟨I.ok.frames,I.ok.mod,I.bs,yat I.ok.bsz I.sz,I.stack,I.stkFree,I.hok,I.bare⟩
theorem Inv.after{Q:VK}{u:Value}(I:Inv X pins σ H s)(h:CE X.stack X.prog X.w H s Q u s'):EP X pins σ Q u s':=by
 obtain⟨v,H',os,bare,un,hok,r,q⟩:=h
 obtain⟨hh,g,d,t,os'⟩:=s'
 obtain rfl:os'=s.os:=os
 exact⟨v,H',I.call (h':=hh) (g':=g) (d':=d) (t':=t) (ch:=[]) un hok bare (fun b z=>absurd z (by simp)),r,q⟩
end
noncomputable def tCall(sp:Sp)(dvs:List V)(E:XK)(t:TA):TE:=fun σ H Q=>t σ H fun vs H1=>sp (vs++dvs) H1 Q E
noncomputable def tMeth(C:Addr)(m:Str)(sp:Sp)(dvs:List V)(E:XK)(ta:TE)(t:TA):TE:=fun σ H Q=>ta σ H fun x H1=>∃a dx fs,x= .ref a/\H1 a=some (.ins C dx fs)/\fs.lookup m=none/\
 t σ H1 fun vs H2=>sp (x::(vs++dvs)) H2 Q E
noncomputable def tMake(C:Addr)(sp:Sp)(dvs:List V)(E:XK)(t:TA):TE:=fun σ H Q=>t σ H fun vs H1=>∀x dx,H1 x=none->H1 dx=none->dx≠x->
 sp (.ref x::(vs++dvs)) (upd (upd H1 dx (.own x)) x (.ins C dx [])) (fun v H2=>v= .non/\Q (.ref x) H2) E
noncomputable def Binds(K:W.Frag)(fd:FuncData)(ps:List Str)(ds:List Value):Prop:=
 ∀(s:Shared) (us:List Value),K.In s.heap->(us++ds).length=ps.length->BindsTo s fd ⟨us,[]⟩ (ps.zip (us++ds))
theorem Binds.all{K:W.Frag}{fd:FuncData}{ps:List Str}(h:∀us:List Value,us.length=ps.length->bindArgs fd ⟨us,[]⟩=pure (ps.zip us)):Binds K fd ps []:=fun s us _ hl=>by
 rw[ybr]at hl⊢
 exact .of_eq (h us hl)
noncomputable def Passes(CX:CXT)(X:Cx)(E:XK):Prop:=∀(pins:List (Addr×Obj)) (σ:St) (H:Hp) (s:Shared) (e:Value) (s':Shared),Inv X pins σ H s->CX X.stack H s E e s'->X.xe e s'
section
variable{X:Cx}{CX:CXT}{k:Nat}{f C:Addr}{fd:FuncData}{ps:List Str}{sp:Sp}{dvs:List V}{ds:List Value}{E:XK}{x m:Str}{p pos apos:Pos}{e o:Expr}{es:List Expr}{ta:TE}{t:TA}
theorem run_fn{pins:List (Addr×Obj)}{σ:St}{H:Hp}{s:Shared}{Q:VK}{us:List Value}{vs:List V}(F:FnOk X.prog X.w X.K X.mg X.base CX k f fd ps sp)(hr:Room k X.A)(hb:Binds X.K fd ps ds)(hd:Vals dvs ds)(hx:Passes CX X E)
  (I:Inv X pins σ H s)(r:Vals vs us)(h:sp (vs++dvs) H Q E):wpAny (model X.prog X.w) X.A (call (.ref f) us) (EP X pins σ Q) X.xe s:=by
 have r2:Vals (vs++dvs) (us++ds):=r.append hd
 have hl:(us++ds).length=ps.length:=by rw[<-r2.length];exact F.len _ _ _ _ h
 refine wpAny_call (codeAny_mono (F.run X.A X.stack s H ⟨us,[]⟩ (us++ds) (vs++dvs) Q E hr I.env0 (hb s us I.kIn hl) r2 h) fun r s' hq=> ?_)
 cases r with
 |error e=>exact hx pins σ H s e s' I hq
 |ok fl=>
  cases fl with
  |ret u=>exact I.after hq
  |next=>exact False.elim hq
  |brk=>exact False.elim hq
  |cont=>exact False.elim hq
theorem pe_call(F:FnOk X.prog X.w X.K X.mg X.base CX k f fd ps sp)(hr:Room k X.A)(hg:Gl X x)(hm:X.mg x=some (.ref f))(hk:PySem.W.keepIn X.K (.ref f)=true)(hb:Binds X.K fd ps ds)(hd:Vals dvs ds)(hx:Passes CX X E)(ha:PA X (e::es) t)(hdb:(x==("__debug__":Str))=false:=by decide)(he:starEach (e::es) X.env=(false,eval e X.env)::starEach es X.env:=by rfl)(hpl:(backTo pos (starEach es X.env)).any (·.1)=false:=by rfl):
  PE X (.Call (.Name x p) (e::es) [] pos) (tCall sp dvs E t):=by
 intro pins s σ H Q I h
 refine wpAny_Call_Name_kw (ld_glob I hg hm ?_ hdb)
 refine PySem.W.callWith_K (h₀:=X.base) I.ok.mod.kin hk (thn (ha pos pins s σ H _ I h) fun us s1 ⟨vs,H1,I1,r,q⟩=>⟨I1.kIn,?_⟩) he hpl
 exact run_fn F hr hb hd hx I1 r q
theorem pe_meth{pl:Sem Bool}(he:PE X o ta)(c:Cls X.K C)(hm:Meth X.K C m f)(F:FnOk X.prog X.w X.K X.mg X.base CX k f fd ps sp)(hr:Room k X.A)(hb:Binds X.K fd ps ds)(hd:Vals dvs ds)(hx:Passes CX X E)(ha:PA X (e::es) t)(hst:starEach (e::es) X.env=(false,eval e X.env)::starEach es X.env:=by rfl)(hpl:(backTo pos (starEach es X.env)).any (·.1)=false:=by rfl)(ht:eval (.Call (.Attribute o m apos) (e::es) [] pos) X.env=(do
   let ov<-eval o X.env
   standAt apos.atName
   let(f,first)<-holding [ov] (getMethod ov m pl)
   callWith pos f first (backTo pos (starEach (e::es) X.env)) (backToKw pos (keywordEach [] X.env))):=by rfl):
  PE X (.Call (.Attribute o m apos) (e::es) [] pos) (tMeth C m sp dvs E ta t):=by
 intro pins s σ H Q I h
 refine PySem.W.methodCall_KW (pl:=pl) (thn (he pins s σ H _ I h) fun u s1 ⟨x,H1,I1,rx,a,dx,fs,ex,ea,l,q⟩=> ?_) ht
 subst ex
 obtain rfl:u=Value.ref a:=rx
 refine getmeth_ok I1 ea c hm l ?_
 refine PySem.W.callWith_K (first:=[.ref a]) (h₀:=X.base) I.ok.mod.kin hm.kp (thn (ha pos pins s1 σ H1 _ I1 q) fun us s2 ⟨vs,H2,I2,r,q2⟩=>⟨I2.kIn,?_⟩) hst hpl
 exact run_fn (us:= .ref a::us) (vs:= .ref a::vs) F hr hb hd hx I2 (.cons rfl r) q2
theorem pe_meth0{pl:Sem Bool}(he:PE X o ta)(c:Cls X.K C)(hm:Meth X.K C m f)(F:FnOk X.prog X.w X.K X.mg X.base CX k f fd ps sp)(hr:Room k X.A)(hb:Binds X.K fd ps ds)(hd:Vals dvs ds)(hx:Passes CX X E)(ht:eval (.Call (.Attribute o m apos) [] [] pos) X.env=(do
   let ov<-eval o X.env
   standAt apos.atName
   let(f,first)<-holding [ov] (getMethod ov m pl)
   callWith pos f first (backTo pos (starEach [] X.env)) (backToKw pos (keywordEach [] X.env))):=by rfl):
  PE X (.Call (.Attribute o m apos) [] [] pos) (tMeth C m sp dvs E ta tNil):=by
 intro pins s σ H Q I h
 refine PySem.W.methodCall_KW (pl:=pl) (thn (he pins s σ H _ I h) fun u s1 ⟨x,H1,I1,rx,a,dx,fs,ex,ea,l,q⟩=> ?_) ht
 subst ex
 obtain rfl:u=Value.ref a:=rx
 refine getmeth_ok I1 ea c hm l ?_
 exact PySem.W.callWith_K0 (first:=[.ref a]) I1.kIn hm.kp (run_fn (us:=[.ref a]) (vs:=[.ref a]) F hr hb hd hx I1 (.cons rfl .nil) q)
structure Mk(K:W.Frag)(C f:Addr):Prop where
 makes:PySem.W.makesIn K C=true
 init:PySem.W.findIn K (.ref C) "__init__"=some (some (.ref f))
 fn:PySem.W.isFn K (.ref f)=true
 kp:PySem.W.keepIn K (.ref C)=true
theorem run_make{pins:List (Addr×Obj)}{σ:St}{H:Hp}{s:Shared}{Q:VK}{us:List Value}{vs:List V}(M:Mk X.K C f)(F:FnOk X.prog X.w X.K X.mg X.base CX k f fd ps sp)(hr:Room (k+1) X.A)(hb:Binds X.K fd ps ds)(hd:Vals dvs ds)(hx:Passes CX X E)(I:Inv X pins σ H s)(r:Vals vs us)(h:∀x dx,H x=none->H dx=none->dx≠x->sp (.ref x::(vs++dvs)) (upd (upd H dx (.own x)) x (.ins C dx [])) (fun v H2=>v= .non/\Q (.ref x) H2) E):
  wpAny (model X.prog X.w) X.A (call (.ref C) us) (EP X pins σ Q) X.xe s:=by
 have hq:=h (s.heap.objs.size+1) s.heap.objs.size (I.hok.fresh (ycq _)) (I.hok.fresh (yac _)) (yau (yba _))
 have I2:=Inv.made (C:=C) I
 have r2:Vals (V.ref (s.heap.objs.size+1)::(vs++dvs)) (Value.ref (s.heap.objs.size+1)::(us++ds)):= .cons rfl (r.append hd)
 have hl:(Value.ref (s.heap.objs.size+1)::us++ds).length=ps.length:=by
  have e:=r2.length
  rw[F.len _ _ _ _ hq]at e
  exact e.symm
 refine wpAny_call (make_map (f:=f) I.kIn M.makes M.init (beq_iff_eq.mp M.fn) (codeAny_mono (F.run _ X.stack _ _ ⟨Value.ref (s.heap.objs.size+1)::us,[]⟩ (Value.ref (s.heap.objs.size+1)::(us++ds)) _ _ E (hr.make C us [])
  (I2.env0.make C us []) (hb _ (Value.ref (s.heap.objs.size+1)::us) I2.kIn hl) r2 hq) fun r s' hq'=> ?_))
 cases r with
 |error e=>exact hx pins σ _ _ e s' I2 hq'
 |ok fl=>
  cases fl with
  |ret u=>
   obtain⟨v,H',I3,rv,ev,q3⟩:=I2.after hq'
   subst ev
   exact⟨rv,⟨V.ref (s.heap.objs.size+1),H',I3,rfl,q3⟩⟩
  |next=>exact False.elim hq'
  |brk=>exact False.elim hq'
  |cont=>exact False.elim hq'
theorem pe_make(M:Mk X.K C f)(F:FnOk X.prog X.w X.K X.mg X.base CX k f fd ps sp)(hr:Room (k+1) X.A)(hg:Gl X x)(hm:X.mg x=some (.ref C))(hb:Binds X.K fd ps ds)(hd:Vals dvs ds)(hx:Passes CX X E)(ha:PA X (e::es) t)(hdb:(x==("__debug__":Str))=false:=by decide)(he:starEach (e::es) X.env=(false,eval e X.env)::starEach es X.env:=by rfl)(hpl:(backTo pos (starEach es X.env)).any (·.1)=false:=by rfl):
  PE X (.Call (.Name x p) (e::es) [] pos) (tMake C sp dvs E t):=by
 intro pins s σ H Q I h
 refine wpAny_Call_Name_kw (ld_glob I hg hm ?_ hdb)
 refine PySem.W.callWith_K (h₀:=X.base) I.ok.mod.kin M.kp (thn (ha pos pins s σ H _ I h) fun us s1 ⟨vs,H1,I1,r,q⟩=>⟨I1.kIn,?_⟩) he hpl
 exact run_make M F hr hb hd hx I1 r q
end
section
variable{X:Cx}{CX:CXT}{k:Nat}{f C:Addr}{fd:FuncData}{ps ks:List Str}{sp:Sp}{E:XK}{x m:Str}{p pos apos kpos:Pos}{e o:Expr}{es:List Expr}{kws:List Keyword}{te ta:TE}{t tk:TA}{nm:Option Str}
variable{g:List Value->List Value->List Value}{gV:List V->List V->List V}
end
structure FnScope(N P:List Str)(sc:Scope):Prop where
 kind:sc.kind= .function
 co:sc.isCoroutine=false
 gen:sc.isGenerator=false
 nd:N.Nodup
 pre:N.take P.length=P
 par:∀x∈P,sc.names.lookup x=some .local\/sc.names.lookup x=some .cell
 nofree:∀y∈sc.names,y.2≠.free
theorem bindL_out{kindOf:Str->Option NameKind}{x:Str}:∀{binds:List (Str×Value)} {m:Str->Option Value},(∀v,(x,v)∉binds)->bindL kindOf binds m x=m x
 |[],_,_=>rfl
 |(n,v)::r,m,h=>by
  unfold bindL
  rw[bindL_out fun w hw=>h w (yae _ hw)]
  split
  ·have:x≠n:=by rintro rfl;exact h v yah
   simp[this]
  ·rfl
theorem bindC_out{kindOf:Str->Option NameKind}{x:Str}:∀{binds:List (Str×Value)} {m:Str->Option Value},(∀v,(x,v)∉binds)->bindC kindOf binds m x=m x
 |[],_,_=>rfl
 |(n,v)::r,m,h=>by
  unfold bindC
  rw[bindC_out fun w hw=>h w (yae _ hw)]
  split
  ·rfl
  ·have:x≠n:=by rintro rfl;exact h v yah
   simp[this]
theorem bindL_get{kindOf:Str->Option NameKind}{x:Str}{v:Value}:∀{P:List Str} {vs:List Value} {i:Nat} {m:Str->Option Value},P.Nodup->P[i]? =some x->vs[i]? =some v->kindOf x=some .local->
  bindL kindOf (P.zip vs) m x=some v
 |[],_,_,_,_,h,_,_=>by simp at h
 |_::_,[],_,_,_,_,h,_=>by simp at h
 |p::P,w::vs,0,m,nd,h1,h2,hk=>by
  simp at h1 h2;subst h1;subst h2
  show bindL kindOf ((p,w)::P.zip vs) m p=_
  unfold bindL
  rw[bindL_out fun v hv=>(ycl.mp nd).1 (List.of_mem_zip hv).1,if_pos hk]
  simp
 |p::P,w::vs,i+1,m,nd,h1,h2,hk=>by
  show bindL kindOf ((p,w)::P.zip vs) m x=_
  unfold bindL
  exact bindL_get (i:=i) (ycl.mp nd).2 (by simpa using h1) (by simpa using h2) hk
theorem bindC_get{kindOf:Str->Option NameKind}{x:Str}{v:Value}:∀{P:List Str} {vs:List Value} {i:Nat} {m:Str->Option Value},P.Nodup->P[i]? =some x->vs[i]? =some v->kindOf x≠some .local->
  bindC kindOf (P.zip vs) m x=some v
 |[],_,_,_,_,h,_,_=>by simp at h
 |_::_,[],_,_,_,_,h,_=>by simp at h
 |p::P,w::vs,0,m,nd,h1,h2,hk=>by
  simp at h1 h2;subst h1;subst h2
  show bindC kindOf ((p,w)::P.zip vs) m p=_
  unfold bindC
  rw[bindC_out fun v hv=>(ycl.mp nd).1 (List.of_mem_zip hv).1,if_neg hk]
  simp
 |p::P,w::vs,i+1,m,nd,h1,h2,hk=>by
  show bindC kindOf ((p,w)::P.zip vs) m x=_
  unfold bindC
  exact bindC_get (i:=i) (ycl.mp nd).2 (by simpa using h1) (by simpa using h2) hk
noncomputable def start(N:List Str)(vs:List V):St:=vs.map some++List.replicate (N.length-vs.length) none
noncomputable def cxOf(CX:CXT)(P:Program)(w:World)(K:W.Frag)(mg:Str->Option Value)(base:Heap)(N:List Str)(qual:Str)(scope:Scope)(f:Addr)(cd:Value)(A:Around)(outer:List Env)(s:Shared)(H:Hp)(E:XK):Cx where
 prog:=P
 w:=w
 K:=K
 mg:=mg
 base:=base
 A:=A.deeper (envOfC qual scope s.heap.objs.size f cd)
 N:=N
 s₀:=s
 H₀:=H
 env:=envOfC qual scope s.heap.objs.size f cd
 outer:=outer
 stack:=envOfC qual scope s.heap.objs.size f cd::outer
 ex:=[]
 calm:=true
 fn:=fun _=>true
 pn:=[]
 xe:=fun e s'=>wpAny (model P w) (A.deeper (envOfC qual scope s.heap.objs.size f cd)) (leaving (envOfC qual scope s.heap.objs.size f cd) e) (fun _ s''=>CX outer H s E e s'') (fun e' s''=>CX outer H s E e' s'') s'
theorem cell_has{sc:Scope}{n:Nat}{x:Str}(h:sc.names.lookup x=some .cell):∃c,(cellsFrom n sc.names []).lookup x=some c:=by
 have q:=PySem.W.cellsFrom_some sc.names n [] (.inl h)
 exact Option.isSome_iff_exists.mp q
theorem inv_start{CX:CXT}{P:Program}{w:World}{K:W.Frag}{mg:Str->Option Value}{base:Heap}{N ps:List Str}{qual:Str}{scope:Scope}{f:Addr}{cd:Value}{A:Around}{outer:List Env}{s s1:Shared}{H:Hp}{E:XK}{us:List Value}{vs:List V}
  (S:FnScope N ps scope)(hd:A.handled=none)(e0:Env0 P w K mg base A outer s H)(hl:vs.length=ps.length)(r:Vals vs us)(x:InCallC s s.heap.objs.size (bindL (envOfC qual scope s.heap.objs.size f cd).kindOf (ps.zip us) fun _=>none) (cellsFrom (s.heap.objs.size+1) scope.names []) (bindC (envOfC qual scope s.heap.objs.size f cd).kindOf (ps.zip us) fun _=>none) s1):
  Inv (cxOf CX P w K mg base N qual scope f cd A outer s H E) [] (start N vs) H s1:=by
 have hpl:ps.length<=N.length:=by have:=congrArg List.length S.pre;rw[ybh]at this;omega
 obtain⟨h1,tk,rfl,hk⟩:=x.done
 have noA:∀b:Addr,b∉(cxOf CX P w K mg base N qual scope f cd A outer s H E).ex:=fun b z=>absurd (show b∈([]:List Addr)from z) (by simp)
 refine⟨⟨e0.mod,S.kind,rfl,rfl,yac _,fun y z c h1 h2=> ?_,fun y hy=> ?_,fun y c _ h=> ?_,fun _=>hd,Around.frames_deeper e0.frames,.inr ⟨rfl,rfl⟩,fun b z=>absurd z (noA b),e0.bs,e0.bsz,fun b _ _=>noA b,fun b z=>absurd z (noA b),e0.funs,e0.frf⟩,
  rfl,e0.bare,Un.kept hk,⟨_,x.toInCall.ns,fun i y v h1 h2 h3=> ?_⟩,fun y c h=>⟨_,x.cell y c h⟩,e0.hok.fresh (yac _),fun y c h=> ?_,fun p hp=>absurd (show p∈([]:List (Addr×Obj))from hp) (by simp),e0.hok.kept hk,?_⟩
 ·exact name_of_addr x.apart (PySem.mem_of_lookup h1) (PySem.mem_of_lookup h2)
 ·have hy:scope.names.lookup y=some .cell\/scope.names.lookup y=some .free:=hy
  rcases hy with hy|hy
  ·exact cell_has hy
  ·exact absurd rfl (S.nofree _ (PySem.mem_of_lookup hy))
 ·exact yas (x.above y c (PySem.mem_of_lookup h))
 ·have hi:i<vs.length:=by
   unfold start at h2
   by_cases hi:i<vs.length
   ·exact hi
   ·rw[ybs (by simpa using hi)]at h2
    rw[List.getElem?_replicate]at h2
    split at h2<;>cases h2
  have ha:vs[i]? =some v:=by
   unfold start at h2
   rw[ycm (by simpa using hi),yaf]at h2
   cases e:vs[i]? with
   |none=>rw[e]at h2;cases h2
   |some a=>rw[e]at h2;cases h2;rfl
  obtain⟨u,hu,rv⟩:=r.get ha
  have hp:ps[i]? =some y:=by
   rw[<-S.pre,List.getElem?_take_of_lt (by omega)];exact h1
  have ndP:ps.Nodup:=by rw[<-S.pre];exact S.nd.sublist (List.take_sublist _ _)
  refine⟨u,rv,?_⟩
  rcases S.par y (yav hp)with k|k
  ·exact .inl ⟨k,bindL_get ndP hp hu k⟩
  ·obtain⟨c,e⟩:=cell_has (n:=s.heap.objs.size+1) k
   refine .inr ⟨.inl k,c,e,?_⟩
   have q:=x.cell y c e
   rw[bindC_get ndP hp hu (by show scope.names.lookup y≠_;rw[k];decide)]at q
   exact q
 ·exact e0.hok.fresh (yas (x.above y c (PySem.mem_of_lookup h)))
 ·unfold start
  show _=N.length
  rw[yay,yaa,ydz]
  omega
theorem fn_of{CX:CXT}{P:Program}{w:World}{K:W.Frag}{mg:Str->Option Value}{base:Heap}{k:Nat}{f:Addr}{name qual:Str}{params:Arguments}{body:List Stmt}{scope:Scope}{dV kV doc pm cdv ct oc:Value}{an od:Option Addr}{osl:Array (Option Value)}{N ps:List Str}{sp:Sp}(lk:K.lookup f=some ⟨oc,od,.func (PySem.W.fnOf name qual params body scope dV kV doc pm an cdv ct),osl⟩)(hcd:PySem.W.codeIn K cdv qual=true)(S:FnScope N ps scope)(len:∀vs H Q E,sp vs H Q E->vs.length=ps.length)(hbody:∀(A:Around) (outer:List Env) (s:Shared) (H:Hp) (vs:List V) (Q:VK) (E:XK),Room k (A.deeper (envOfC qual scope s.heap.objs.size f cdv))->sp vs H Q E->
   ∃t,PSs (cxOf CX P w K mg base N qual scope f cdv A outer s H E) body t/\t {nx:=fun _ H'=>Q .non H',rt:=Q} (start N vs) H):
  FnOk P w K mg base CX (k+1) f (PySem.W.fnOf name qual params body scope dV kV doc pm an cdv ct) ps sp:=by
 refine⟨len,fun A outer s H args us vs Q E hr e0 hb r hsp=> ?_⟩
 have hl:=len _ _ _ _ hsp
 have KX:K.In s.heap:=e0.mod.kin.keeps fun b o e=>(e0.bs b o e).1
 have lim:s.heap.NoLimit:=e0.mod.nolimit.keeps fun b o e=>(e0.bs b o e).1
 have hkind:∀y∈ps.zip us,scope.names.lookup y.1=some .local\/(scope.names.lookup y.1=some .cell/\((cellsFrom (s.heap.objs.size+1) scope.names []).lookup y.1).isSome=true):=fun⟨n,v⟩ hy=>by
  rcases S.par n (List.of_mem_zip hy).1 with q|q
  ·exact .inl q
  ·exact .inr ⟨q,PySem.W.cellsFrom_some _ _ _ (.inl q)⟩
 refine codeAny_call_function hr.depth (KX _ _ lk) rfl S.co S.gen rfl (PySem.W.codeRec_of KX hcd) (hb _ _ _ _ ?_)
 refine wpAny_newFunctionEnv_cells S.kind hkind fun env he s1 x=> ?_
 subst he
 refine⟨lim.keeps x.toInCall.keep,codeAny_func ?_⟩
 obtain⟨t,ht,hq⟩:=hbody A outer s H vs Q E (hr.deeper _) hsp
 have I:Inv (cxOf CX P w K mg base N qual scope f cdv A outer s H E) [] (start N vs) H s1:=inv_start S hr.hd e0 hl r x
 refine wpAny_mono (ht [] s1 (start N vs) H _ I hq) (fun fl s' hs=> ?_) fun e s' hs=>hs
 have fin:∀{σ':St} {H':Hp} {v:V} {u:Value},Inv (cxOf CX P w K mg base N qual scope f cdv A outer s H E) [] σ' H' s'->RelV v u->Q v H'->CE outer P w H s Q u s':=
  fun{σ' H' v u} J rv q=>⟨v,H',J.os,J.bare,J.base,J.hok,rv,q⟩
 cases fl with
 |ret u=>
  obtain⟨v,σ',H',J,rv,q⟩:=hs
  exact fin J rv q
 |next=>
  obtain⟨σ',H',J,q⟩:=hs
  exact fin (v:=V.non) (u:=Value.none) J rfl q
 |brk=>
  obtain⟨_,_,_,q⟩:=hs
  exact False.elim q
 |cont=>
  obtain⟨_,_,_,q⟩:=hs
  exact False.elim q
section
variable{X:Cx}{x:Str}{p pos:Pos}{e:Expr}{es:List Expr}{t:TA}{id T:String}{r:List V->Hp->VK->Prop}
noncomputable def tCB(r:List V->Hp->VK->Prop)(t:TA):TE:=fun σ H Q=>t σ H fun vs H1=>r vs H1 Q
theorem zam(hc:CallR X (.builtin id) r)(hg:Gl X x)(hm:X.mg x=none)(hv:bootBuiltins x=some (.builtin id))(ha:PA X (e::es) t)(hn:x≠"__name__":=by decide)(hdb:(x==("__debug__":Str))=false:=by decide)(he:starEach (e::es) X.env=(false,eval e X.env)::starEach es X.env:=by rfl)(hpl:(backTo pos (starEach es X.env)).any (·.1)=false:=by rfl):PE X (.Call (.Name x p) (e::es) [] pos) (tCB r t):=by
 intro pins s σ H Q I h
 refine wpAny_Call_Name_kw (zcz I hg hm hv ?_ hn hdb)
 exact PyProof.Rows.callWith_builtin1 (thn (ha pos pins s σ H _ I h) fun us s1 ⟨vs,H1,I1,r1,q1⟩=>hc pins s1 σ H1 vs us Q I1 r1 q1) he hpl
theorem zbl(hc:CallR X (.type T) r)(hg:Gl X x)(hm:X.mg x=none)(hv:bootBuiltins x=some (.type T))(ha:PA X (e::es) t)(hn:x≠"__name__":=by decide)(hdb:(x==("__debug__":Str))=false:=by decide)(he:starEach (e::es) X.env=(false,eval e X.env)::starEach es X.env:=by rfl)(hpl:(backTo pos (starEach es X.env)).any (·.1)=false:=by rfl):PE X (.Call (.Name x p) (e::es) [] pos) (tCB r t):=by
 intro pins s σ H Q I h
 refine wpAny_Call_Name_kw (zcz I hg hm hv ?_ hn hdb)
 exact PyProof.Rows.callWith_type1 (thn (ha pos pins s σ H _ I h) fun us s1 ⟨vs,H1,I1,r1,q1⟩=>hc pins s1 σ H1 vs us Q I1 r1 q1) he hpl
end
end L2
namespace HT
open PySem PyProof.Rows
noncomputable def lexLt:List Int->List Int->Bool
 |[],[]=>false
 |[],_::_=>true
 |_::_,[]=>false
 |x::xs,y::ys=>if x=y then lexLt xs ys else decide (x<y)
theorem lexLt_cons(x y:Int)(xs ys:List Int):lexLt (x::xs) (y::ys)=if x=y then lexLt xs ys else decide (x<y):=rfl
theorem lexLt_nil_nil:lexLt [] []=false:=rfl
theorem lexLt_nil_cons(y:Int)(ys:List Int):lexLt [] (y::ys)=true:=rfl
theorem lexLt_cons_nil(x:Int)(xs:List Int):lexLt (x::xs) []=false:=rfl
theorem eqAt_int(A:Around)(s:Shared)(a:Int)(t:Tok)(c:Int)(u:Tok):∃e,SeqAt.EqAt A s (.int a t) (.int c u) e/\(e=true↔a=c):=
 ⟨(a==c),SeqAt.EqAt.int_int a t c u,by simp⟩
theorem rcLt_int(A:Around)(s:Shared)(a:Int)(t:Tok)(c:Int)(u:Tok)(prog:Program)(w:World)(E:Value->Shared->Prop)(Q:Value->Shared->Prop)(h:Q (.bool (decide (a<c))) s):
  wpAny (model prog w) A (richCompare .Lt (.int a t) (.int c u)) Q E s:=
 (PyProof.Rows.lt_int h:wpAny (model prog w) A (compareOp .Lt (.int a t) (.int c u)) Q E s)
section
open PySem.SeqAt
open PySem.AutoSeq1 (wpAny_loadPart')
open PySem.MeetsSeq PySem.MeetsSeq2 PySem.MeetsSeq3
theorem tuple_lt_ints(l b:Addr)(items items2:Array Value)(n n2:Nat)(dd dd2:Option Addr)(sl sl2:Array (Option Value))(ns ms:List Int)(hi:IntsAre items.toList ns)(hj:IntsAre items2.toList ms):
  Meets (Builtin.«tuple.__lt__» ⟨[.ref l,.ref b],[]⟩)
   (fun _ R s=>s.heap.get? l=some {cls:= .type "tuple",dict:=dd,data:= .seq items n,slots:=sl}/\s.heap.get? b=some {cls:= .type "tuple",dict:=dd2,data:= .seq items2 n2,slots:=sl2}/\
    R (.ok (.ret (.bool (lexLt ns ms)))) s):=
 .of_wp fun prog w A R s h=>by
  obtain⟨hp,g,d,tk,os⟩:=s;obtain⟨hl,hb,h⟩:=h
  have f2:=AutoSeq1.sub_tuple_tuple
  have z1:items.size=ns.length:=by rw[<-hi.length];simp
  have z2:items2.size=ms.length:=by rw[<-hj.length];simp
  wp_walk using wpAny_loadPart' hl,wpAny_loadPart' hb,wpAny_forIn_list _ (fun rest b s'=>b.1=none/\s'=⟨hp,g,d,tk,os⟩/\∃(vs ws:List Value) (ns' ms':List Int),rest=vs.zip ws/\
   IntsAre vs ns'/\IntsAre ws ms'/\ns'.length+items2.size=ms'.length+items.size/\R (.ok (.ret (.bool (lexLt ns' ms')))) ⟨hp,g,d,tk,os⟩) _
  case turn=>
   rintro⟨y,x⟩ rest b s' ⟨hb',rfl,vs,ws,ns',ms',hz,hvi,hwi,hlen,hR⟩
   cases hvi with
   |nil=>rw[List.zip_nil_left]at hz;cases hz
   |cons a t hvi'=>
    cases hwi with
    |nil=>rw[List.zip_nil_right]at hz;cases hz
    |cons c u hwi'=>
     rw[List.zip_cons_cons]at hz
     injection hz with hyx hrest
     injection hyx with hy hx
     subst hy hx
     rw[lexLt_cons]at hR
     simp only[ybj]at hlen
     obtain⟨e,he,hiff⟩:=eqAt_int A.in1 ⟨hp,g,d,tk,os⟩ a t c u
     refine wpAny_bind (he prog w _ _ ?_)
     cases e with
     |true=>
      rw[if_pos (hiff.mp rfl)]at hR
      wp_walk
      exact⟨rfl,rfl,_,_,_,_,hrest,hvi',hwi',by omega,hR⟩
     |false=>
      rw[if_neg (fun q=>absurd (hiff.mpr q) Bool.false_ne_true)]at hR
      have hri:=rcLt_int A.in1 ⟨hp,g,d,tk,os⟩ a t c u prog w
      wp_walk using hri
      exact⟨_,rfl,by simpa using hR⟩
  case fin=>
   rintro⟨b1,b2⟩ s' ⟨hb',rfl,vs,ws,ns',ms',hz,hvi,hwi,hlen,hR⟩
   simp only at hb'
   subst hb'
   have hv:lexLt ns' ms'=decide (items.size<items2.size):=by
    cases hvi with
    |nil=>
     cases hwi with
     |nil=>
      simp only[ydd]at hlen
      rw[lexLt_nil_nil]
      exact(decide_eq_false (by omega)).symm
     |cons c u hw=>
      simp only[ydd,ybj]at hlen
      rw[lexLt_nil_cons]
      exact(decide_eq_true (by omega)).symm
    |cons a t hv=>
     cases hwi with
     |nil=>
      simp only[ydd,ybj]at hlen
      rw[lexLt_cons_nil]
      exact(decide_eq_false (by omega)).symm
     |cons c u hw=>
      rw[List.zip_cons_cons]at hz
      cases hz
   rw[hv]at hR
   wp_walk
   exact⟨_,rfl,by simpa[Builtin.Tuple.tupleCompareSizes]using hR⟩
  case h=>
   exact⟨rfl,rfl,items.toList,items2.toList,ns,ms,rfl,hi,hj,by omega,h⟩
end
section
variable{prog:Program}{w:World}{A:Around}{E:Value->Shared->Prop}{s:Shared}
theorem lt_tupInts{l b:Addr}{items items2:Array Value}{ns ms:List Int}{Q:Value->Shared->Prop}(hl:IsTup s.heap l items)(hb:IsTup s.heap b items2)(hi:IntsAre items.toList ns)(hj:IntsAre items2.toList ms)(hu:A.units<cLine)(h:Q (.bool (lexLt ns ms)) s):wpAny (model prog w) A (compareOp .Lt (.ref l) (.ref b)) Q E s:=by
 obtain⟨⟨cls,dd,data,sl⟩,ho,hc,n,hd⟩:=id hl
 obtain⟨⟨cls2,dd2,data2,sl2⟩,ho2,hc2,n2,hd2⟩:=id hb
 simp only at hc hd hc2 hd2
 subst hc hd hc2 hd2
 exact richCompare_meets_room (op:= .Lt) ⟨_,ho,rfl⟩ ⟨_,ho2,rfl⟩ PySem.F.slot_tuple_lt PySem.F.entry_tuple_lt (PySem.F.args_tuple_lt_2 _ _) (tuple_lt_ints l b items items2 n n2 dd dd2 sl sl2 ns ms hi hj)
  ⟨ho,ho2,show Value.bool (lexLt ns ms)≠Value.notImplemented/\Q (.bool (lexLt ns ms)) s from⟨(fun x=>nomatch x),h⟩⟩ hu
theorem cat_tup{t b:Addr}{vs ws:List Value}{Q:Value->Shared->Prop}(ht:IsTup s.heap t vs.toArray)(hb:IsTup s.heap b ws.toArray)(hv:vs≠[])(h1:ws=[]->Q (.ref t) s)(h2:ws≠[]->Q (.ref s.heap.objs.size) {s with heap:=s.heap.push {cls:= .type "tuple",data:= .seq (vs++ws).toArray}})(hsz:vs.length+ws.length<=sizeLine):wpAny (model prog w) A (binaryOp .Add (.ref t) (.ref b)) Q E s:=by
 obtain⟨⟨cls,dd,data,sl⟩,ho,hc,n,hd⟩:=id ht
 obtain⟨⟨cls2,dd2,data2,sl2⟩,ho2,hc2,n2,hd2⟩:=id hb
 simp only at hc hd hc2 hd2
 subst hc hd hc2 hd2
 have e:vs.toArray++ws.toArray=(vs++ws).toArray:=by simp
 by_cases hw:ws=[]
 ·exact concat_meets ⟨_,ho,rfl⟩ ⟨_,ho2,rfl⟩ noFill_tuple_add seq_tuple_add PySem.F.slot_tuple_add PySem.F.entry_tuple_add (PySem.F.args_tuple_add_2 _ _)
   (tuple_addW1 t b vs.toArray ws.toArray n n2 dd dd2 sl sl2 (by simpa using hv) (by simp[hw])) ⟨ho,ho2,h1 hw⟩
 ·refine concat_meets ⟨_,ho,rfl⟩ ⟨_,ho2,rfl⟩ noFill_tuple_add seq_tuple_add PySem.F.slot_tuple_add PySem.F.entry_tuple_add (PySem.F.args_tuple_add_2 _ _)
   (tuple_addW2 t b vs.toArray ws.toArray n n2 dd dd2 sl sl2 (by simpa using hv) (by simpa using hw) (by rw[yak,yak];exact hsz)) ⟨ho,ho2,?_⟩
  rw[e]
  exact h2 hw
noncomputable def sIx(n d:Nat):Option Int->Nat
 |none=>d
 |some v=>if v<0 then(v+(n:Int)).toNat else min v.toNat n
theorem sIx_none(n d:Nat):sIx n d none=d:=rfl
theorem sIx_nat(n d k:Nat):sIx n d (some (k:Int))=min k n:=by
 show(if(k:Int)<0 then((k:Int)+(n:Int)).toNat else min (k:Int).toNat n)=min k n
 rw[if_neg (by omega),ydk]
theorem sIx_le(n d:Nat)(hd:d<=n)(o:Option Int):sIx n d o<=n:=by
 cases o with
 |none=>exact hd
 |some v=>
  show(if v<0 then(v+(n:Int)).toNat else min v.toNat n)<=n
  by_cases hv:v<0
  ·rw[if_pos hv];omega
  ·rw[if_neg hv];exact Nat.min_le_right _ _
theorem clip_eq(v:Int)(n d:Nat):(if v<0 then max (v+(n:Int)) 0 else min v (n:Int))=((sIx n d (some v):Nat):Int):=by
 show(if v<0 then max (v+(n:Int)) 0 else min v (n:Int))=(((if v<0 then(v+(n:Int)).toNat else min v.toNat n):Nat):Int)
 by_cases hv:v<0
 ·simp only[if_pos hv];omega
 ·simp only[if_neg hv];omega
theorem adjust_gen(lo hi:Option Int)(n:Nat):Builtin.Slice.sliceAdjust lo hi 1 (n:Int)=(((sIx n 0 lo:Nat):Int),((sIx n n hi:Nat):Int)):=by
 have h1:¬((1:Int)<0):=by omega
 unfold Builtin.Slice.sliceAdjust
 simp only[h1,if_false]
 refine Prod.ext ?_ ?_
 ·cases lo with
  |none=>rfl
  |some v=>exact clip_eq v n 0
 ·cases hi with
  |none=>rfl
  |some v=>exact clip_eq v n n
theorem places_gen(i j:Nat):Builtin.Slice.slicePlaces (i:Int) (j:Int) 1=j-i:=by
 unfold Builtin.Slice.slicePlaces
 have h1:(1:Int)>0:=by omega
 simp only[h1,if_true,Int.ediv_one]
 split<;>omega
theorem slicePart_{v:Value}{o:Option Int}{Q:Option Int->Shared->Prop}(p:IsPart v o)(h:Q o s):wpAny (model prog w) A (Builtin.Slice.slicePartIndex v) Q E s:=by
 cases p with
 |none=>exact slicePart_none h
 |int i t=>exact slicePart_int h
theorem sliceApplied_gen{sl:Addr}{vl vu:Value}{lo hi:Option Int}{n:Nat}{Q:Int×Int×Nat->Shared->Prop}(hs:s.heap.IsSliceOf sl vl vu .none)(pl:IsPart vl lo)(pu:IsPart vu hi)(h:Q (((sIx n 0 lo:Nat):Int),1,sIx n n hi-sIx n 0 lo) s):wpAny (model prog w) A (Builtin.Slice.sliceApplied (.ref sl) (pure (n:Int))) Q E s:=by
 obtain⟨os,hos,hcs,hds⟩:=id hs
 unfold Builtin.Slice.sliceApplied Builtin.Slice.sliceFields
 refine wpAny_bind (wpAny_bind (wpAny_field hos hds (x:=vl) rfl (wpAny_bind (wpAny_field hos hds (x:=vu) rfl (wpAny_bind (wpAny_field hos hds (x:= .none) rfl (wpAny_pure ?_)))))))
 refine wpAny_bind (slicePart_none ?_)
 show wpAny _ _ (if((1:Int)==0)=true then _ else _) _ _ s
 rw[if_neg (by decide)]
 refine wpAny_bind (slicePart_ pl (wpAny_bind (slicePart_ pu (wpAny_bind (wpAny_pure ?_)))))
 show wpAny _ _ (match Builtin.Slice.sliceAdjust lo hi 1 (n:Int)with |(lo,hi)=>pure (lo,(1:Int),Builtin.Slice.slicePlaces lo hi 1)) _ _ s
 rw[adjust_gen lo hi n]
 show wpAny _ _ (pure (((sIx n 0 lo:Nat):Int),(1:Int),Builtin.Slice.slicePlaces ((sIx n 0 lo:Nat):Int) ((sIx n n hi:Nat):Int) 1)) _ _ s
 rw[places_gen]
 exact wpAny_pure h
theorem pick_gen(xs:Array Value)(i k:Nat):((List.range k).filterMap fun(m:Nat)=>xs[((i:Int)+(m:Int)*1).toNat]?).toArray=((xs.toList.drop i).take k).toArray:=by
 have e:(fun(m:Nat)=>xs[((i:Int)+(m:Int)*1).toNat]?)=fun m=>xs[i+m]? :=by
  funext m
  have:((i:Int)+(m:Int)*1).toNat=i+m:=by omega
  rw[this]
 rw[e]
 have:=pick_run xs i k
 rw[List.filterMap_map]at this
 have e2:((fun x=>xs[x]?)∘fun x=>i+x)=fun m=>xs[i+m]? :=rfl
 rw[e2]at this
 rw[this]
theorem getItem_tuple_cut{t sl:Addr}{items:Array Value}{vl vu:Value}{lo hi:Option Int}{Q:Value->Shared->Prop}(ht:IsTup s.heap t items)(hs:s.heap.IsSliceOf sl vl vu .none)(pl:IsPart vl lo)(pu:IsPart vu hi)(hw:¬(sIx items.size 0 lo=0/\sIx items.size items.size hi=items.size))(h:Q (.ref s.heap.objs.size) {s with heap:=s.heap.push {cls:= .type "tuple",data:= .seq ((items.toList.drop (sIx items.size 0 lo)).take (sIx items.size items.size hi-sIx items.size 0 lo)).toArray}})(hsz:items.size<=sizeLine):wpAny (model prog w) A (getItem (.ref t) (.ref sl)) Q E s:=by
 have htake:sizeOk (.seq ((items.toList.drop (sIx items.size 0 lo)).take (sIx items.size items.size hi-sIx items.size 0 lo)).toArray):=by
  show((items.toList.drop (sIx items.size 0 lo)).take (sIx items.size items.size hi-sIx items.size 0 lo)).toArray.size<=sizeLine
  rw[yak,ybh,ydv,yco]
  omega
 have hj:sIx items.size items.size hi<=items.size:=sIx_le _ _ (yac _) hi
 obtain⟨os,hos,hcs,hds⟩:=id hs
 have hTs:s.TypeIs (.ref sl) "slice":=⟨os,hos,hcs⟩
 unfold getItem
 try with_reducible refine wpAny_holding ?_
 first |refine wpAny_bind (wpAny_pure ?_)|skip
 refine wpAny_bind (wpAny_sequenceKey ht.typeIs (by decide) ?_)
 refine wpAny_bind (wpAny_callSpecial?_slot (name:=Str.ofString "__getitem__") ht.typeIs PyProof.Rows.slot_tuple_getitem
  (wpAny_call_entry PyProof.Rows.slot_tuple_getitem ht.typeIs entry_tuple_getitem ?_ (args_tuple_getitem _ _)))
 show wpAny _ _ (Builtin.Tuple.tupleItemsOf (.ref t)>>=_) _ _ s
 refine wpAny_bind (tupleItemsOf_ ht ?_)
 refine wpAny_bind (wpAny_typeOf hTs ?_)
 rw[if_pos (by decide)]
 refine wpAny_bind (sliceApplied_gen hs pl pu ?_)
 have hno:¬((((sIx items.size 0 lo:Nat):Int)==0&&(1:Int)==1&&(sIx items.size items.size hi-sIx items.size 0 lo)==items.size)=true):=by
  intro q
  rw[Bool.and_eq_true,Bool.and_eq_true]at q
  have q1:((sIx items.size 0 lo:Nat):Int)=0:=eq_of_beq q.1.1
  have q2:sIx items.size items.size hi-sIx items.size 0 lo=items.size:=eq_of_beq q.2
  exact hw ⟨by omega,by omega⟩
 show wpAny _ _ (if(((sIx items.size 0 lo:Nat):Int)==0&&(1:Int)==1&&(sIx items.size items.size hi-sIx items.size 0 lo)==items.size)=true then _ else _) _ _ s
 rw[if_neg hno,pick_gen]
 first
  |exact wpAny_bind (m:=Builtin.Tuple.tupleExact _) (wpAny_newObj_type (wpAny_pure ⟨_,rfl,wpAny_pure h⟩) htake)
  |exact wpAny_bind (m:=Builtin.Tuple.tupleExact _) (wpAny_newObj_type (wpAny_bind (wpAny_pure (wpAny_pure ⟨_,rfl,wpAny_pure h⟩))) htake)
  |exact wpAny_bind (wpAny_bind (m:=Builtin.Tuple.tupleExact _) (wpAny_newObj_type (wpAny_pure (wpAny_pure ⟨_,rfl,wpAny_pure h⟩)) htake))
  |exact wpAny_bind (wpAny_bind (m:=Builtin.Tuple.tupleExact _) (wpAny_newObj_type (wpAny_pure ⟨_,rfl,wpAny_pure h⟩) htake))
end
end HT
namespace L2
open PySem PySem.Spec PyProof.Rows
noncomputable abbrev TO:=St->Hp->(Option Int->Hp->Prop)->Prop
noncomputable def PO(X:Cx)(e:Option Expr)(t:TO):Prop:=
 ∀(pins:List (Addr×Obj)) (s:Shared) (σ:St) (H:Hp) (Q:Option Int->Hp->Prop),Inv X pins σ H s->t σ H Q->
  wpAny (model X.prog X.w) X.A (evalPart e X.env) (fun u s'=>∃o H',Inv X pins σ H' s'/\IsPart u o/\Q o H') X.xe s
noncomputable def tNoPart:TO:=fun _ H Q=>Q none H
noncomputable def tPart(t:TE):TO:=fun σ H Q=>t σ H fun x H1=>∃i,x= .int i/\Q (some i) H1
theorem intsAre_of{ns:List Int}:∀{us:List Value},Vals (ns.map V.int) us->IntsAre us ns:=by
 induction ns with
 |nil=>intro us r;rw[List.map_nil]at r;cases r;exact .nil
 |cons n ns ih=>
  intro us r
  rw[ycd]at r
  cases r with
  |cons r1 r2=>
   obtain⟨t,e⟩:=r1
   subst e
   exact .cons n t (ih r2)
section
variable{X:Cx}{e:Expr}{te:TE}{lo hi:Option Expr}{tl th:TO}{pos p2:Pos}
theorem po_none:PO X none tNoPart:=by
 intro pins s σ H Q I h
 rw[evalPart_none]
 exact wpAny_pure ⟨none,H,I,.none,h⟩
theorem po_some(h:PE X e te):PO X (some e) (tPart te):=by
 intro pins s σ H Q I hw
 rw[evalPart_some]
 refine thn (h pins s σ H _ I hw) fun u s1 ⟨x,H1,I1,r1,q1⟩=> ?_
 obtain⟨i,rfl,q⟩:=q1
 obtain⟨t,rfl⟩:=r1
 exact⟨some i,H1,I1,.int i t,q⟩
noncomputable def SlR(X:Cx)(r:V->Option Int->Option Int->Hp->VK->Prop):Prop:=
 ∀(pins:List (Addr×Obj)) (s:Shared) (σ:St) (H:Hp) (x:V) (v vl vu:Value) (lo hi:Option Int) (sl:Addr) (Q:VK),Inv X pins σ H s->RelV x v->s.heap.IsSliceOf sl vl vu .none->IsPart vl lo->IsPart vu hi->r x lo hi H Q->
  ∃T id,typeLookup (.type T) "__getitem__"=pure (some (.builtin id))/\s.TypeIs v T/\wpAny (model X.prog X.w) X.A (getItem v (.ref sl)) (EP X pins σ Q) X.xe s
noncomputable def tSl(r:V->Option Int->Option Int->Hp->VK->Prop)(te:TE)(tl th:TO):TE:=fun σ H Q=>te σ H fun x H1=>tl σ H1 fun l H2=>th σ H2 fun u H3=>r x l u H3 Q
theorem pe_slice{r:V->Option Int->Option Int->Hp->VK->Prop}(hr:SlR X r)(he:PE X e te)(hl:PO X lo tl)(hu:PO X hi th):PE X (.Subscript e (.Slice lo hi none p2) pos) (tSl r te tl th):=by
 intro pins s σ H Q I h
 refine Subscript_ (thn (he pins s σ H _ I h) fun v s1 ⟨x,H1,I1,r1,q1⟩=> ?_)
 refine wpAny_Slice (thn (hl pins s1 σ H1 _ I1 q1) fun vl s2 ⟨l,H2,I2,pl,q2⟩=>thn (hu pins s2 σ H2 _ I2 q2) fun vu s3 ⟨u,H3,I3,pu,q3⟩=> ?_)
 rw[evalPart_none]
 refine wpAny_pure ?_
 have I4:Inv X pins σ H3 {s3 with heap:=s3.heap.push {cls:= .type "slice",data:= .fields #[vl,vu,.none]}}:=I3.kept (t':=s3.toks) fun b ob q=>yab _ q
 obtain⟨T,id,hT,ht,hg⟩:=hr pins {s3 with heap:=s3.heap.push {cls:= .type "slice",data:= .fields #[vl,vu,.none]}} σ H3 x v vl vu l u s3.heap.objs.size Q I4 r1 (Heap.IsSliceOf.new ..) pl pu q3
 show wpAny (model X.prog X.w) X.A (subscriptTail e (.Slice lo hi none p2) v (.ref s3.heap.objs.size)) (EP X pins σ Q) X.xe {s3 with heap:=s3.heap.push {cls:= .type "slice",data:= .fields #[vl,vu,.none]}}
 exact tail_any (ops:=[.ref s3.heap.objs.size,v]) ht hT hg (by with_unfolding_all rfl)
noncomputable def cutV(xs:List V)(lo hi:Option Int):List V:=(xs.drop (HT.sIx xs.length 0 lo)).take (HT.sIx xs.length xs.length hi-HT.sIx xs.length 0 lo)
theorem cutV_length(xs:List V)(lo hi:Option Int):(cutV xs lo hi).length<=xs.length:=by
 unfold cutV
 rw[ybh,ydv]
 omega
noncomputable def rSlT(K:W.Frag):V->Option Int->Option Int->Hp->VK->Prop:=fun x lo hi H Q=>∃a xs,x= .ref a/\SqT K H a xs/\
 ¬(HT.sIx xs.length 0 lo=0/\HT.sIx xs.length xs.length hi=xs.length)/\∀p,H p=none->Q (.ref p) (upd H p (.tup (cutV xs lo hi)))
theorem sl_tup:SlR X (rSlT X.K):=by
 intro pins s σ H x v vl vu lo hi sl Q I rx hs pl pu h
 obtain⟨a,xs,rfl,hx,hw,q⟩:=h
 cases rx
 obtain⟨its,r,ht,hz⟩:=I.tuple hx
 have hlen:its.toArray.size=xs.length:=by rw[yak];exact r.length.symm
 refine⟨"tuple",_,PyProof.Rows.slot_tuple_getitem.lookup,ht.typeIs,?_⟩
 refine HT.getItem_tuple_cut ht hs pl pu (by rw[hlen];exact hw) ?_ (by rw[hlen];exact hz)
 rw[hlen]
 refine⟨.ref s.heap.objs.size,_,I.laid (t':=s.toks) (o:= .tup (cutV xs lo hi)) (fun b ob q=>yab _ q) (yac _) ?_,rfl,q _ (I.hok.fresh (yac _))⟩
 exact⟨yat (cutV_length xs lo hi) hz,_,(r.drop (HT.sIx xs.length 0 lo)).take (HT.sIx xs.length xs.length hi-HT.sIx xs.length 0 lo),IsTup.new _ _⟩
noncomputable def rLtT(K:W.Frag):R2:=fun x y H Q=>∃a b ns ms,x= .ref a/\y= .ref b/\SqT K H a (ns.map V.int)/\SqT K H b (ms.map V.int)/\Q (.bl (HT.lexLt ns ms)) H
theorem op_ltT(hu:X.A.units<cLine):OpR X (compareOp .Lt) (rLtT X.K):=by
 intro pins s σ H x y v u Q I rx ry h
 obtain⟨a,b,ns,ms,rfl,rfl,ha,hb,q⟩:=h
 cases rx
 cases ry
 obtain⟨its,r1,p1,_⟩:=I.tuple ha
 obtain⟨its2,r2,p2,_⟩:=I.tuple hb
 have i1:IntsAre its.toArray.toList ns:=intsAre_of r1
 have i2:IntsAre its2.toArray.toList ms:=intsAre_of r2
 exact HT.lt_tupInts p1 p2 i1 i2 hu ⟨.bl (HT.lexLt ns ms),H,I,rfl,q⟩
noncomputable def rCatT(K:W.Frag):R2:=fun x y H Q=>∃a b xs ys,x= .ref a/\y= .ref b/\SqT K H a xs/\SqT K H b ys/\xs≠[]/\xs.length+ys.length<=sizeLine/\
 (ys=[]->Q (.ref a) H)/\(ys≠[]->∀p,H p=none->Q (.ref p) (upd H p (.tup (xs++ys))))
theorem Vals.nil_iff{xs:List V}{us:List Value}(r:Vals xs us):us=[]↔xs=[]:=by
 cases r with
 |nil=>simp
 |cons _ _=>simp
theorem op_catT:OpR X (binaryOp .Add) (rCatT X.K):=by
 intro pins s σ H x y v u Q I rx ry h
 obtain⟨a,b,xs,ys,rfl,rfl,ha,hb,hx,hz,q1,q2⟩:=h
 cases rx
 cases ry
 obtain⟨its,r1,p1,_⟩:=I.tuple ha
 obtain⟨its2,r2,p2,_⟩:=I.tuple hb
 refine HT.cat_tup p1 p2 (fun z=>hx (r1.nil_iff.mp z)) (fun z=>⟨.ref a,H,I,rfl,q1 (r2.nil_iff.mp z)⟩) (fun z=> ?_) (by rw[<-r1.length,<-r2.length];exact hz)
 refine⟨.ref s.heap.objs.size,_,I.laid (t':=s.toks) (o:= .tup (xs++ys)) (fun b ob q=>yab _ q) (yac _) ?_,rfl,q2 (fun w=>z (r2.nil_iff.mpr w)) _ (I.hok.fresh (yac _))⟩
 exact⟨by rw[yay];exact hz,_,r1.append r2,IsTup.new _ _⟩
end
noncomputable def ixN(n:Nat)(i:Int):Option Nat:=if 0<=i then(if i<n then some i.toNat else none)else if -(n:Int)<=i then some (i+n).toNat else none
noncomputable def atI{α:Type}(xs:List α)(i:Int):Option α:=(ixN xs.length i).bind fun j=>xs[j]?
theorem ixN_seq{n:Nat}{i:Int}{j:Nat}(h:ixN n i=some j):seqIndex? i n=some j/\j<n/\ -(n:Int)<=i/\i<n:=by
 unfold ixN at h
 by_cases h0:0<=i
 ·rw[if_pos h0]at h
  by_cases h1:i<n
  ·rw[if_pos h1]at h
   have e:i.toNat=j:=Option.some.inj h
   exact⟨by rw[seqIndex_of h0 h1,e],by omega,by omega,h1⟩
  ·rw[if_neg h1]at h;cases h
 ·rw[if_neg h0]at h
  by_cases h1: -(n:Int)<=i
  ·rw[if_pos h1]at h
   have e:(i+n).toNat=j:=Option.some.inj h
   exact⟨by rw[seqIndex_neg (by omega) h1,e],by omega,h1,by omega⟩
  ·rw[if_neg h1]at h;cases h
theorem atI_get{α:Type}{xs:List α}{i:Int}{v:α}(h:atI xs i=some v):∃j,seqIndex? i xs.length=some j/\xs[j]? =some v/\j<xs.length/\ -(xs.length:Int)<=i/\i<xs.length:=by
 unfold atI at h
 cases e:ixN xs.length i with
 |none=>rw[e]at h;cases h
 |some j=>
  rw[e]at h
  obtain⟨h1,h2,h3,h4⟩:=ixN_seq e
  exact⟨j,h1,h,h2,h3,h4⟩
theorem atI_nat{α:Type}{xs:List α}{j:Nat}{v:α}(h:xs[j]? =some v):atI xs (j:Int)=some v:=by
 have hj:j<xs.length:=(yaq.mp h).1
 have e:ixN xs.length (j:Int)=some j:=by
  unfold ixN
  rw[if_pos (by omega),if_pos (by omega)];simp
 unfold atI;rw[e];exact h
noncomputable def PlainIx(b:Expr):Prop:=∀o i,subscripted b false o i=operate [o,i] (getItem o i)
noncomputable def IxR(X:Cx)(r:R2):Prop:=
 ∀(value slice:Expr) (pins:List (Addr×Obj)) (s:Shared) (σ:St) (H:Hp) (x y:V) (v u:Value) (Q:VK),Inv X pins σ H s->RelV x v->RelV y u->r x y H Q->
  subscripted slice false v u=operate [v,u] (getItem v u)->wpAny (model X.prog X.w) X.A (subscriptTail value slice v u) (EP X pins σ Q) X.xe s
noncomputable def MtR(X:Cx)(id:String)(r:V->List V->Hp->VK->Prop):Prop:=
 ∀(pins:List (Addr×Obj)) (s:Shared) (σ:St) (H:Hp) (x:V) (xs:List V) (v:Value) (us:List Value) (Q:VK),Inv X pins σ H s->RelV x v->Vals xs us->r x xs H Q->
  wpAny (model X.prog X.w) X.A (call (.builtin id) (v::us)) (EP X pins σ Q) X.xe s
section
variable{X:Cx}{a b:Expr}{ta tb:TE}{pos:Pos}
theorem zao{r:R2}(hr:IxR X r)(ha:PE X a ta)(hb:PE X b tb)(hs:PlainIx b):PE X (.Subscript a b pos) (tOp r ta tb):=by
 intro pins s σ H Q I h
 exact Subscript_ (binT ha hb I h fun v u s2 x y H2 I2 rx ry q=>hr a b pins s2 σ H2 x y v u Q I2 rx ry q (hs _ _))
noncomputable def rIxL(K:W.Frag):R2:=fun x y H Q=>∃p xs i v,x= .ref p/\y= .int i/\SqL K H p xs/\atI xs i=some v/\Q v H
noncomputable def rIxT(K:W.Frag):R2:=fun x y H Q=>∃p xs i v,x= .ref p/\y= .int i/\SqT K H p xs/\atI xs i=some v/\Q v H
theorem zau:IxR X (rIxL X.K):=by
 intro value slice pins s σ H x y v u Q I rx ry h hs
 obtain⟨p,xs,i,z,rfl,rfl,hq,he,q⟩:=h
 cases rx
 obtain⟨t,rfl⟩:=ry
 obtain⟨its,r,pl,hz⟩:=I.list hq
 obtain⟨j,h1,h2,h3,h4,h5⟩:=atI_get he
 obtain⟨w,ew,rw'⟩:=r.get h2
 have hl:=r.length
 have hn:=line63
 have fin:EP X pins σ Q w s:=⟨z,H,I,rw',q⟩
 by_cases h0:0<=i
 ·have hj:i.toNat=j:=by
   rw[seqIndex_of h0 h5]at h1
   exact Option.some.inj h1
  exact item_listR pl.isList h0 (by omega) (by rw[hj];simpa using ew) fin hs
 ·have hj:(i+(its.toArray.size:Int)).toNat=j:=by
   rw[seqIndex_neg (by omega) h4]at h1
   rw[yak,<-hl]
   exact Option.some.inj h1
  exact subscriptTail_builtinR (x:=w) pl.isList.typeIs slot_list_getitem.lookup
   (wpAny_getItem_list_neg (Q:=fun r s'=>r=w/\EP X pins σ Q r s') pl.isList (by omega) (by rw[yak]<;>omega) (by omega) (by rw[hj];simpa using ew) ⟨rfl,fin⟩) hs
theorem zat:IxR X (rIxT X.K):=by
 intro value slice pins s σ H x y v u Q I rx ry h hs
 obtain⟨p,xs,i,z,rfl,rfl,hq,he,q⟩:=h
 cases rx
 obtain⟨t,rfl⟩:=ry
 obtain⟨its,r,pl,hz⟩:=I.tuple hq
 obtain⟨j,h1,h2,h3,h4,h5⟩:=atI_get he
 obtain⟨w,ew,rw'⟩:=r.get h2
 have hl:=r.length
 have hn:=line63
 have fin:EP X pins σ Q w s:=⟨z,H,I,rw',q⟩
 exact subscriptTail_builtinR (x:=w) pl.typeIs slot_tuple_getitem.lookup
  (getItem_tuple (j:=j) (Q:=fun r s'=>r=w/\EP X pins σ Q r s') pl (by omega) (by omega) (by rw[yak,<-hl];exact h1) (by simpa using ew) ⟨rfl,fin⟩) hs
theorem mapSeq_set(its:List Value)(n j:Nat)(u:Value):Obj.mapSeq (·.setIfInBounds j u) {cls:= .type "list",data:= .seq its.toArray n}={cls:= .type "list",data:= .seq (its.set j u).toArray n}:=by
 simp[Obj.mapSeq]
theorem Inv.lst{pins:List (Addr×Obj)}{σ:St}{H:Hp}{s:Shared}{p:Addr}{xs:List V}(I:Inv X pins σ H s)(h:H p=some (.lst xs)):
  ∃(its:List Value) (n:Nat),Vals xs its/\s.heap.get? p=some {cls:= .type "list",data:= .seq its.toArray n}/\xs.length<=sizeLine:=by
 obtain⟨z,its,n,r,e⟩:=I.hok p _ h
 exact⟨its,n,r,e,z⟩
theorem Inv.lstUpd{pins:List (Addr×Obj)}{σ:St}{H:Hp}{s:Shared}{p:Addr}{xs ys:List V}{its its':List Value}{n n':Nat}{f:Obj->Obj}(I:Inv X pins σ H s)(h:H p=some (.lst xs))(ho:s.heap.get? p=some {cls:= .type "list",data:= .seq its.toArray n})(hf:f {cls:= .type "list",data:= .seq its.toArray n}={cls:= .type "list",data:= .seq its'.toArray n'})(r:Vals ys its')(hz:ys.length<=sizeLine)(t:Nat):
  Inv X pins σ (upd H p (.lst ys)) {s with heap:=s.heap.update p f,toks:=t}:=by
 have e:(s.heap.update p f).get? p=some {cls:= .type "list",data:= .seq its'.toArray n'}:=by
  rw[Heap.get?_update_self f ho (by rw[hf]<;>rfl),hf]
 refine I.write (x:=p) (e:=p) (by rw[h];trivial) (.inl rfl) (fun b u hb q=>(ydy _ _ (Ne.symm hb)).trans q) ⟨_,e⟩ ?_
 exact⟨hz,its',n',r,e⟩
noncomputable def rSetL:V->V->V->Hp->(Hp->Prop)->Prop:=fun o i v H Q=>∃p xs k j,o= .ref p/\i= .int k/\H p=some (.lst xs)/\ixN xs.length k=some j/\Q (upd H p (.lst (xs.set j v)))
theorem set_list:PSet X rSetL:=by
 intro pins s σ H o i v ov iv u Q I ro ri rv h
 obtain⟨p,xs,k,j,rfl,rfl,hp,hj,q⟩:=h
 cases ro
 obtain⟨t,rfl⟩:=ri
 obtain⟨its,n,r,ho,hz⟩:=I.lst hp
 obtain⟨h1,h2,h3,h4⟩:=ixN_seq hj
 have hl:=r.length
 have hn:=line63
 have I':Inv X pins σ (upd H p (.lst (xs.set j v))) {s with heap:=s.heap.update p (Obj.mapSeq (·.setIfInBounds j u))}:=
  I.lstUpd hp ho (mapSeq_set its n j u) (r.set rv j) (by rw[List.length_set];exact hz) s.toks
 by_cases h0:0<=k
 ·have hk:k.toNat=j:=by
   rw[seqIndex_of h0 h4]at h1
   exact Option.some.inj h1
  exact PySem.W.ki_setAt ho h0 (by omega) (by rw[yak,<-hl];exact h4) (by rw[hk];exact⟨_,I',q⟩)
 ·have hk:(k+(its.toArray.size:Int)).toNat=j:=by
   rw[seqIndex_neg (by omega) h3]at h1
   rw[yak,<-hl]
   exact Option.some.inj h1
  exact PySem.W.ki_setBack ho (by omega) (by rw[yak,<-hl];exact h3) (by omega) (by rw[hk];exact⟨_,I',q⟩)
theorem slice_bounds(lo hi:Option Int)(n:Nat):(sliceBounds lo hi none n).1=((HT.sIx n 0 lo:Nat):Int)/\(sliceBounds lo hi none n).2.1=((HT.sIx n n hi:Nat):Int)/\(sliceBounds lo hi none n).2.2=1:=by
 refine⟨?_,?_,rfl⟩
 ·cases lo with
  |none=>simp[sliceBounds,HT.sIx]
  |some i=>
   simp only[sliceBounds,HT.sIx,Option.getD_none,show(1:Int)>0 by decide,if_true]
   by_cases h:i<0
   ·simp only[h,if_true]<;>omega
   ·simp only[h,if_false]<;>omega
 ·cases hi with
  |none=>simp[sliceBounds,HT.sIx]
  |some i=>
   simp only[sliceBounds,HT.sIx,Option.getD_none,show(1:Int)>0 by decide,if_true]
   by_cases h:i<0
   ·simp only[h,if_true]<;>omega
   ·simp only[h,if_false]<;>omega
theorem slicePick_cut(its:List Value)(lo hi:Option Int):slicePick its.toArray lo hi none=((its.drop (HT.sIx its.length 0 lo)).take (HT.sIx its.length its.length hi-HT.sIx its.length 0 lo)).toArray:=by
 obtain⟨h1,h2,h3⟩:=slice_bounds lo hi its.toArray.size
 unfold slicePick
 rw[h1,h2,h3]
 simp only[sliceRange_one,pick_run,yak]<;>rfl
noncomputable def rSlL(K:W.Frag):V->Option Int->Option Int->Hp->VK->Prop:=fun x lo hi H Q=>∃a xs,x= .ref a/\SqL K H a xs/\∀p,H p=none->Q (.ref p) (upd H p (.lst (cutV xs lo hi)))
theorem sl_list:SlR X (rSlL X.K):=by
 intro pins s σ H x v vl vu lo hi sl Q I rx hs pl pu h
 obtain⟨a,xs,rfl,hx,q⟩:=h
 cases rx
 obtain⟨its,r,ht,hz⟩:=I.list hx
 have hlen:=r.length
 refine⟨"list",_,slot_list_getitem.lookup,ht.isList.typeIs,?_⟩
 refine wpAny_getItem_list_slice ht.isList hs pl pu .none (by simp) ?_ (by rw[yak]<;>omega)
 rw[slicePick_cut,<-hlen]
 refine⟨.ref s.heap.objs.size,_,I.laid (t':=s.toks) (o:= .lst (cutV xs lo hi)) (fun b ob q=>yab _ q) (yac _) ?_,rfl,q _ (I.hok.fresh (yac _))⟩
 exact⟨yat (cutV_length xs lo hi) hz,_,0,(r.drop (HT.sIx xs.length 0 lo)).take (HT.sIx xs.length xs.length hi-HT.sIx xs.length 0 lo),yao _ rfl⟩
theorem call_len_seq:CallR X (.builtin "len") (fun xs H Q=>∃p ys,xs=[.ref p]/\(SqL X.K H p ys\/SqT X.K H p ys)/\Q (.int ys.length) H):=by
 intro pins s σ H xs us Q I r h
 obtain⟨p,ys,rfl,hq,q⟩:=h
 obtain⟨u,rfl,rx⟩:=vals1 r
 cases rx
 have hn:=line63
 rcases hq with hq|hq
 ·obtain⟨its,r',pl,hz⟩:=I.list hq
  have hlen:=r'.length
  exact Calls.call_len_list pl.isList (by simp only[yak]<;>omega) ⟨.int ys.length,H,I.tok _,⟨s.toks+1,by rw[yak,hlen]⟩,q⟩
 ·obtain⟨its,r',pl,hz⟩:=I.tuple hq
  have hlen:=r'.length
  exact len_tuple pl (by simp only[yak]<;>omega) ⟨.int ys.length,H,I.tok _,⟨s.toks+1,by rw[yak,hlen]⟩,q⟩
theorem call_list_of:CallR X (.type "list") (fun xs H Q=>∃p ys,xs=[.ref p]/\(SqL X.K H p ys\/SqT X.K H p ys)/\∀l,H l=none->Q (.ref l) (upd H l (.lst ys))):=by
 intro pins s σ H xs us Q I r h
 obtain⟨p,ys,rfl,hq,q⟩:=h
 obtain⟨u,rfl,rx⟩:=vals1 r
 cases rx
 have fin:∀(its:List Value),Vals ys its->ys.length<=sizeLine->∀(h':Heap) (c':Nat),(∀b o',s.heap.get? b=some o'->h'.get? b=some o')->
   h'.get? s.heap.objs.size=some {cls:= .type "list",dict:=none,data:= .seq its.toArray c',slots:=#[]}->EP X pins σ Q (.ref s.heap.objs.size) {s with heap:=h'}:=fun its r' hz h' c' kp e=>
  ⟨.ref s.heap.objs.size,_,I.laid (t':=s.toks) kp (yac _) (show ObjOk X.prog X.w _ h' _ (.lst ys)from⟨hz,its,c',r',e⟩),rfl,q _ (I.hok.fresh (yac _))⟩
 rcases hq with hq|hq
 ·obtain⟨its,r',pl,hz⟩:=I.list hq
  have hlen:=r'.length
  obtain⟨o,ho,hc,n,hd⟩:=pl.isList
  exact call_list_seq p (.inl rfl) ho hc hd (fun h' c' kp e=>fin its r' hz h' c' kp e) (by simp only[yak]<;>omega)
 ·obtain⟨its,r',pl,hz⟩:=I.tuple hq
  have hlen:=r'.length
  obtain⟨o,ho,hc,n,hd⟩:=pl
  exact call_list_seq p (.inr rfl) ho hc hd (fun h' c' kp e=>fin its r' hz h' c' kp e) (by simp only[yak]<;>omega)
theorem zar:CallR X (.type "tuple") (fun xs H Q=>∃p ys,xs=[.ref p]/\((SqL X.K H p ys/\∀l,H l=none->Q (.ref l) (upd H l (.tup ys)))\/(SqT X.K H p ys/\Q (.ref p) H))):=by
 intro pins s σ H xs us Q I r h
 obtain⟨p,ys,rfl,h⟩:=h
 obtain⟨u,rfl,rx⟩:=vals1 r
 cases rx
 rcases h with⟨hq,q⟩|⟨hq,q⟩
 ·obtain⟨its,r',pl,hz⟩:=I.list hq
  have hlen:=r'.length
  refine call_tuple_list pl.isList (fun h' kp=> ?_) (by simp only[yak]<;>omega)
  have I1:Inv X pins σ H {s with heap:=h'}:=I.kept (t':=s.toks) kp
  have I2:Inv X pins σ (upd H h'.objs.size (.tup ys)) {s with heap:=h'.push {cls:= .type "tuple",data:= .seq its.toArray}}:=
   I1.laid (t':=s.toks) (fun b o e=>yab _ e) (yac _) (show ObjOk X.prog X.w _ _ _ (.tup ys)from⟨hz,its,r',IsTup.new _ _⟩)
  exact⟨.ref h'.objs.size,_,I2,rfl,q _ (I1.hok.fresh (yac _))⟩
 ·obtain⟨its,r',pl,hz⟩:=I.tuple hq
  exact call_tuple_same pl ⟨.ref p,H,I,rfl,q⟩
noncomputable def tyV(K:W.Frag)(T:String)(x:V)(H:Hp):Prop:=match x with
 | .str _=>T="str"
 | .int _=>T="int"
 | .ref p=>(T="list"/\∃xs,SqL K H p xs)\/(T="tuple"/\∃o,K.lookup p=some o/\o.cls= .type "tuple"/\o.dict=none)\/
   (T="dict"/\((∃kvs,H p=some (.dK kvs))\/∃kvs,H p=some (.dT kvs)))\/(T="set"/\∃S n,H p=some (.set S n))
 |_=>False
theorem tyV_is{pins:List (Addr×Obj)}{σ:St}{H:Hp}{s:Shared}{T:String}{x:V}{v:Value}(I:Inv X pins σ H s)(r:RelV x v)(ty:tyV X.K T x H):
  s.TypeIs v T/\∀a,v= .ref a->∃ob,s.heap.get? a=some ob/\ob.dict=none:=by
 cases x with
 |str z=>
  obtain⟨t,rfl⟩:=r
  cases(show T="str" from ty)
  exact⟨typeIs_str s z t,fun _ e=>nomatch e⟩
 |int i=>
  obtain⟨t,rfl⟩:=r
  cases(show T="int" from ty)
  exact⟨typeIs_int s i t,fun _ e=>nomatch e⟩
 |ref p=>
  cases r
  rcases ty with⟨rfl,xs,hq⟩|⟨rfl,o,hk,hc,hd⟩|⟨rfl,hk⟩|⟨rfl,S,n,hk⟩
  ·obtain⟨its,_,pl,_⟩:=I.list hq
   refine⟨pl.isList.typeIs,fun a e=> ?_⟩
   cases e
   obtain⟨o,n,e,c,hd,_⟩:=pl
   exact⟨o,e,hd⟩
  ·refine⟨⟨o,I.kIn p o hk,hc⟩,fun a e=> ?_⟩
   cases e
   exact⟨o,I.kIn _ o hk,hd⟩
  ·have z:∃o,s.heap.get? p=some o/\o.ExactDict:=by
    rcases hk with⟨kvs,hk⟩|⟨kvs,hk⟩
    ·obtain⟨_,_,_,_,o,_,_,e,ex,_⟩:=I.hok p _ hk
     exact⟨o,e,ex⟩
    ·obtain⟨_,_,_,_,o,_,_,e,ex,_⟩:=I.hok p _ hk
     exact⟨o,e,ex⟩
   obtain⟨o,e,ex⟩:=z
   refine⟨⟨o,e,ex.1⟩,fun a e2=> ?_⟩
   cases e2
   exact⟨o,e,ex.2.1⟩
  ·obtain⟨o,_,_,_,e,ex,_⟩:=I.hok p _ hk
   refine⟨⟨o,e,ex.1⟩,fun a e2=> ?_⟩
   cases e2
   exact⟨o,e,ex.2.1⟩
 |_=>exact False.elim ty
noncomputable def tBM(K:W.Frag)(T:String)(r:V->List V->Hp->VK->Prop)(to:TE)(t:TA):TE:=fun σ H Q=>to σ H fun x H1=>tyV K T x H1/\t σ H1 fun xs H2=>r x xs H2 Q
variable{o e:Expr}{es:List Expr}{to:TE}{t:TA}{name:Str}{apos cpos:Pos}{T id:String}{r:V->List V->Hp->VK->Prop}
theorem pe_bm(pa:PlainAttrs T)(slot:Slot T name id)(hty:typeOf (.builtin id)=pure (.type "method_descriptor"))(hm:MtR X id r)(ho:PE X o to)(ha:PA X (e::es) t)(hbase:attributeBase o name X.env (eval o X.env)=eval o X.env:=by rfl)(hfew:((backTo cpos (starEach (e::es) X.env)).all (fun x=> !x.1)&&(backToKw cpos (keywordEach [] X.env)).all (fun x=>x.1.isSome)
   &&decide ((e::es).length+([]:List Keyword).length+(if([]:List Keyword).isEmpty then 0 else 1)<30))=true:=by rfl)(hline:(apos.endLine==cpos.line)=true:=by rfl)(hs:starEach (e::es) X.env=(false,eval e X.env)::starEach es X.env:=by rfl)(hplain:(backTo cpos (starEach es X.env)).any (·.1)=false:=by rfl):
  PE X (.Call (.Attribute o name apos) (e::es) [] cpos) (tBM X.K T r to t):=by
 intro pins s σ H Q I h
 refine wpAny_Call_method_late hbase hfew hline rfl (thn (ho pins s σ H _ I h) fun v s1 ⟨x,H1,I1,r1,ty,q1⟩=> ?_)
 obtain⟨h1,h2⟩:=tyV_is I1 r1 ty
 refine⟨T,id,pa,slot,hty,h1,h2,?_⟩
 have hA:=ha cpos pins s1 σ H1 _ I1 q1
 rw[hs]at hA⊢
 refine Calls.callWith_builtin (by show(false||(backTo cpos (starEach es X.env)).any (·.1))=false;rw[hplain]<;>rfl) (Calls.evalArgs_plain ?_)
 exact thn hA fun us s2 ⟨vs,H2,I2,r2,q2⟩=>hm pins s2 σ H2 x vs v us Q I2 r1 r2 q2
end
noncomputable def MtM(X:Cx)(id:String)(r:V->List V->Hp->VK->Prop):Prop:=
 ∀(pins:List (Addr×Obj)) (s:Shared) (σ:St) (H:Hp) (x:V) (xs:List V) (v:Value) (us:List Value) (Q:VK),Inv X pins σ H s->RelV x v->Vals xs us->r x xs H Q->
  wpAny (model X.prog X.w) X.A (call (.builtin id) (v::us)) (EP X pins σ Q) X.xe s
theorem Vals.one{x:V}{us:List Value}(h:Vals [x] us):∃u,us=[u]/\RelV x u:=by
 cases h with
 |cons r h=>cases h;exact⟨_,rfl,r⟩
theorem Vals.two{x y:V}{us:List Value}(h:Vals [x,y] us):∃u v,us=[u,v]/\RelV x u/\RelV y v:=by
 cases h with
 |cons r h=>obtain⟨v,rfl,q⟩:=Vals.one h;exact⟨_,_,rfl,r,q⟩
theorem Vals.rep{xs:List V}{us:List Value}(h:Vals xs us):∀k:Nat,Vals (List.replicate k xs).flatten (List.replicate k us).flatten
 |0=> .nil
 |k+1=>by
  rw[ybv,ybv,yct,yct]
  exact Vals.append h (Vals.rep h k)
theorem foldl_rep(its:List Value):∀(k:Nat) (acc:List Value),
  List.foldl (fun x1 x2=>x1++x2) acc.toArray (List.replicate k its.toArray)=(acc++(List.replicate k its).flatten).toArray
 |0,acc=>by simp
 |k+1,acc=>by
  have e:acc.toArray++its.toArray=(acc++its).toArray:=by simp
  have e2:(acc++its)++(List.replicate k its).flatten=acc++(List.replicate (k+1) its).flatten:=by
   rw[ybv,yct,List.append_assoc]
  rw[<-e2,<-foldl_rep its k (acc++its),<-e,ybv,List.foldl_cons]
section
variable{X:Cx}{pins:List (Addr×Obj)}{σ:St}{H:Hp}{s:Shared}{l b:Addr}{xs ys zs:List V}
theorem Inv.lset{its its':List Value}{n:Nat}{f:Array Value->Array Value}{t':Nat}(I:Inv X pins σ H s)(hH:H l=some (.lst xs))(e:s.heap.get? l=some {cls:= .type "list",data:= .seq its.toArray n})(hf:f its.toArray=its'.toArray)(hv:Vals ys its')(hz:ys.length<=sizeLine):
  Inv X pins σ (upd H l (.lst ys)) {s with heap:=s.heap.update l (Obj.mapSeq f),toks:=t'}:=by
 have q:=PySem.IsL.update e f
 rw[hf]at q
 refine I.write (x:=l) (e:=l) (by rw[hH];exact trivial) (.inl rfl) (fun b' u hb hu=>(ydy s.heap (Obj.mapSeq f) (Ne.symm hb)).trans hu) ⟨_,q⟩ ?_
 exact⟨hz,its',_,hv,q⟩
theorem Inv.lnew{its:List Value}{t':Nat}(I:Inv X pins σ H s)(hv:Vals ys its)(hz:ys.length<=sizeLine):
  Inv X pins σ (upd H s.heap.objs.size (.lst ys)) {s with heap:=s.heap.push {cls:= .type "list",data:= .seq its.toArray},toks:=t'}:=
 I.laid (fun _ _ q=>yab _ q) (yac _) ⟨hz,its,0,hv,yao _ rfl⟩
theorem Inv.fresh(I:Inv X pins σ H s):H s.heap.objs.size=none:=I.hok.fresh (yac _)
theorem Inv.lstM(I:Inv X pins σ H s)(hH:H l=some (.lst xs)):xs.length<=sizeLine/\∃(its:List Value) (n:Nat),Vals xs its/\xs.length=its.length/\s.heap.get? l=some {cls:= .type "list",data:= .seq its.toArray n}:=by
 obtain⟨z,its,n,r,e⟩:=I.hok l _ hH
 exact⟨z,its,n,r,r.length,e⟩
theorem notLongL{n:Nat}(h:n<=sizeLine):Builtin.List.listTooLong n=false:=by
 unfold Builtin.List.listTooLong
 exact decide_eq_false (by omega)
end
section
variable{X:Cx}
noncomputable def rAppend:V->List V->Hp->VK->Prop:=fun x vs H Q=>∃l xs y,x= .ref l/\vs=[y]/\H l=some (.lst xs)/\xs.length<sizeLine/\Q .non (upd H l (.lst (xs++[y])))
theorem mt_append:MtM X "list.append" rAppend:=by
 intro pins s σ H x vs v us Q I rx rv h
 obtain⟨l,xs,y,rfl,rfl,hH,hz,q⟩:=h
 cases rx
 obtain⟨u,rfl,ru⟩:=rv.one
 obtain⟨z,its,n,r,hl,e⟩:=I.lstM hH
 refine call_meets F.slot_list_append ⟨_,e,rfl⟩ F.entry_list_append (F.args_list_append_2 _ _) (PySem.list_append l its.toArray n u (by rw[yak];omega)) ⟨e,?_⟩
 refine⟨.non,_,I.lset (its':=its++[u]) hH e (by simp) (r.append (.cons ru .nil)) ?_,rfl,q⟩
 rw[yay,List.length_singleton]
 omega
noncomputable def rCat:R2:=fun x y H Q=>∃l b xs zs,x= .ref l/\y= .ref b/\H l=some (.lst xs)/\H b=some (.lst zs)/\xs.length+zs.length<=sizeLine/\∀p,H p=none->Q (.ref p) (upd H p (.lst (xs++zs)))
theorem op_cat:OpR X (binaryOp .Add) rCat:=by
 intro pins s σ H x y v u Q I rx ry h
 obtain⟨l,b,xs,zs,rfl,rfl,hH,hB,hz,q⟩:=h
 cases rx
 cases ry
 obtain⟨z,its,n,r,hl,e⟩:=I.lstM hH
 obtain⟨z2,its2,n2,r2,hl2,e2⟩:=I.lstM hB
 refine PySem.P.add_list e e2 ?_ (by rw[yak,yak];omega)
 have ea:its.toArray++its2.toArray=(its++its2).toArray:=by simp
 rw[ea]
 exact⟨.ref _,_,I.lnew (t':=s.toks) (r.append r2) (by rw[yay];omega),rfl,q _ I.fresh⟩
noncomputable def rRep:R2:=fun x y H Q=>∃l k xs,x= .ref l/\y= .int k/\H l=some (.lst xs)/\ -(2^63)<=k/\k<2^63/\xs.length*k.toNat<=sizeLine/\
 ∀p,H p=none->Q (.ref p) (upd H p (.lst (List.replicate k.toNat xs).flatten))
theorem len_rep{α:Type}(xs:List α)(k:Nat):(List.replicate k xs).flatten.length=k*xs.length:=by
 induction k with
 |zero=>simp
 |succ k ih=>rw[ybv,yct,yay,ih,Nat.succ_mul,Nat.add_comm]
theorem op_rep:OpR X (binaryOp .Mult) rRep:=by
 intro pins s σ H x y v u Q I rx ry h
 obtain⟨l,k,xs,rfl,rfl,hH,h1,h2,hz,q⟩:=h
 cases rx
 obtain⟨t,rfl⟩:=ry
 obtain⟨z,its,n,r,hl,e⟩:=I.lstM hH
 have hlen:its.toArray.size*k.toNat<=sizeLine:=by rw[yak,<-hl];exact hz
 have hcap:¬its.toArray.size*k.toNat>(2^63-1)/8:=by
  have:(sizeLine:Nat)<=(2^63-1)/8:=by decide
  omega
 have hfit:¬(!Builtin.List.listFitsIndex k)=true:=by
  rw[fitsIndex_both h1 h2]
  exact Bool.false_ne_true
 have hlong:¬Builtin.List.listTooLong (its.toArray.size*k.toNat)=true:=by
  rw[notLongL hlen]
  exact Bool.false_ne_true
 have hnew:List.foldl (fun x1 x2=>x1++x2) #[] (List.replicate (if its.toArray.isEmpty=true then 0 else k.toNat) its.toArray)=(List.replicate k.toNat its).flatten.toArray:=by
  have f0:∀m:Nat,List.foldl (fun x1 x2=>x1++x2) #[] (List.replicate m its.toArray)=(List.replicate m its).flatten.toArray:=fun m=>by
   have:=foldl_rep its m []
   rw[List.nil_append]at this
   exact this
  rw[f0]
  cases its with
  |nil=>simp
  |cons a r'=>rw[if_neg (by simp)]
 refine wpAny_binaryOp_repeat_ref (T:="list") (U:="int") (by decide) ⟨_,e,rfl⟩ (fun s'=>typeIs_int s' k t) noFill_list_mul F.fills_int_mul F.slot_int_rmul repeat_list F.slot_int_index.lookup
  (call_meets F.slot_int_rmul (typeIs_int s k t) F.entry_int_rmul (F.args_int_rmul_2 _ _) (int___rmul___int_list k t l its.toArray n)
   ⟨e,rfl,⟨_,e,rfl⟩,call_meets F.slot_list_mul ⟨_,e,rfl⟩ F.entry_list_mul (F.args_list_mul_2 _ _) (AutoListH.list___mul___list_int_3 l its.toArray n k t hfit hcap hlong) ⟨e,?_⟩⟩)
 rw[hnew]
 exact⟨.ref _,_,I.lnew (t':=s.toks) (r.rep k.toNat) (by rw[len_rep,yel];exact hz),rfl,q _ I.fresh⟩
end
section
variable{prog:Program}{w:World}{A:Around}{E:Value->Shared->Prop}{s:Shared}
end
section
variable{X:Cx}
end
end L2
namespace Att
open PySem PySem.W PySem.Calls PyProof.Rows
theorem ints_of_wellAll{P:Params}{h:Heap}:∀(ns:List Int) (vs:List Value),WellAll P h vs (ns.map WData.int)->IntsAre vs ns:=by
 intro ns
 induction ns with
 |nil=>
  intro vs w
  rw[List.map_nil]at w
  cases w
  exact .nil
 |cons n ns ih=>
  intro vs w
  rw[ycd]at w
  cases w with
  |cons a b=>
   cases a
   exact .cons _ _ (ih _ b)
theorem script_of{l:OpenLaw}{n:Nat}(hn:l.most=some n){P:Params}{h:Heap}{args:List WData}{vals:List Value}(hpre:l.row.toRowW.claim.pre args=true)(hwl:WellAll P h vals args):
  ∃a vs ns,vals=[Value.ref a]/\args=[WData.list (ns.map WData.int)]/\h.get? a=some {cls:= .type "list",data:= .seq vs.toArray}/\IntsAre vs ns/\ns.length<=n:=by
 have hsh:WShape.hasAll [] args [.list .int]=true:=(pre_splitW hpre).1
 have hc:l.pre.holds [] {args:=args}=true:=(pre_splitW hpre).2
 obtain⟨d,r,rfl,h1,h2⟩:=hasAllW_cons hsh
 obtain rfl:=hasAllW_nil h2
 obtain⟨xs,rfl,h3⟩:=hasW_list h1
 obtain⟨ns,rfl⟩:=items_int h3
 have hlen:ns.length<=n:=by
  unfold OpenLaw.pre at hc
  have h4:(WTm.not (.lt (.lit (.int (n:Int))) (.len (.arg 0)))).holds [] {args:=[.list (ns.map .int)]}=true:=by
   have h4:=(holds_andW hc).1
   rw[hn]at h4
   exact h4
  have h5:=condW_of h4 (w_not (w_lt w_lit (w_len_list (w_arg rfl))))
  rw[yaa]at h5
  refine Nat.le_of_not_lt fun q=> ?_
  have q':(n:Int)<((ns.length:Nat):Int):=by omega
  first
   |(rw[decide_eq_true q']at h5;exact absurd h5 (by decide))
   |(simp at h5;omega)
 cases hwl with
 |cons w1 w2=>
  cases w2
  cases w1 with
  |list ho hall=>exact⟨_,_,ns,rfl,rfl,ho,ints_of_wellAll ns _ hall,hlen⟩
theorem post_true(l:OpenLaw)(args:List WData):l.row.toRowW.claim.post args (.bool true) args=true:=
 postW_of (r:=l.row.toRowW) (X:=(true==true))
  (show WShape.has [] (.bool true) .bool=true by first |rfl|decide|simp[WShape.has,WShape.arms,WShape.armsAll])
  (show(WTm.eq .res (.lit (.bool true))).value [] {args:=args,res:=some (.bool true),after:=args}=some (.bool (true==true))from w_eq_bool (w_res rfl) w_lit) rfl
theorem attach_call{l:OpenLaw}{n:Nat}{q:Program}{loose:List Str}{XP:(Str->Option Value)->Heap->Prop}{YP:World->Heap->Prop}{d:DefRec}(hn:l.most=some n)(hdf:d.params.defaults=[])(call:∀(w:World) (s₀ s₁:Shared) (mg mb:Str->Option Value) (fa:Addr) (o:Obj) (pm cd doc:Value) (a:Addr) (vs:List Value) (ns:List Int),
   Ground q loose [] XP w s₀ mg mb s₁.heap->YP w s₁.heap->
   s₁.heap.get? fa=some o->o.data= .func (docDef d.name d.params d.body d.scope pm cd doc)->s₁.heap.CodeRec cd d.name->mg d.name=some (.ref fa)->
   s₁.heap.get? a=some {cls:= .type "list",data:= .seq vs.toArray}->IntsAre vs ns->ns.length<=n->s₁.gens=#[]->
   codeAny (model l.prog w) callerA (.call (.ref fa) ⟨[.ref a],[]⟩) (fun r s'=>r= .ok (.ret (.bool true))/\OldK s₁.heap s'.heap/\s'.os=s₁.os/\AllBare s'.gens) s₁):
  WalkO q loose XP YP l.row.toRowW d [] (fun f vs=>PySem.call f vs):=by
 intro w s₀ s₁ mg mb G Y fa o pm cd doc dV kV ho hd hcd hD hmg hg args vals as hpre hlay hrd hwl hlo
 obtain rfl:dV= .none:=Dflts.none hD hdf
 obtain rfl:kV= .none:=Dflts.noKw hD
 obtain⟨a,vs,ns,rfl,rfl,hobj,hints,hlen⟩:=script_of hn hpre hwl
 refine enter_call (codeAny_mono (call w s₀ s₁ mg mb fa o pm cd doc a vs ns G Y ho (fd_plain hd) hcd hmg hobj hints hlen hg) fun r s' hq=> ?_)
 obtain⟨rfl,h2,h3,h4⟩:=hq
 exact⟨.inl ⟨.bool true,.bool true,[],rfl,fun _=>rfl,.bool true,post_true l _,fun _=>⟨List.Pairwise.nil,fun _ hm=>(nomatch hm)⟩⟩,h2,h3,h4⟩
section
variable{prog:Program}{w:World}{A:Around}{E:Value->Shared->Prop}{s:Shared}{K:Frag}
end
end Att
namespace L2
open PySem PySem.Spec PyProof.Rows
theorem vals_ints:∀{vs:List Value} {ns:List Int},IntsAre vs ns->Vals (ns.map V.int) vs
 |_,_,.nil=> .nil
 |_,_,.cons n t h=> .cons ⟨t,rfl⟩ (vals_ints h)
noncomputable def inClass(s:Stmt)(j:Nat):Stmt:=match s with
 | .ClassDef _ _ _ body _ _ _ _ _ _ _=>body.getD j (.Pass ⟨0,0,0,0⟩)
 |_=> .Pass ⟨0,0,0,0⟩
noncomputable def defArgs(s:Stmt):Arguments:=match s with
 | .FunctionDef _ a _ _ _ _ _ _ _ _=>a
 |_=>{posonlyargs:=[],args:=[],vararg:=none,kwonlyargs:=[],kw_defaults:=[],kwarg:=none,defaults:=[]}
noncomputable def defBody(s:Stmt):List Stmt:=match s with
 | .FunctionDef _ _ b _ _ _ _ _ _ _=>b
 |_=>[]
noncomputable def defScope(s:Stmt):Scope:=match s with
 | .FunctionDef _ _ _ _ _ _ sc _ _ _=>sc
 |_=>{kind:= .function,names:=[],isGenerator:=false,isCoroutine:=false}
noncomputable abbrev CX0:CXT:=fun _ _ _ _ _ _=>False
noncomputable abbrev E0:XK:=fun _ _ _=>False
theorem pass0{X:Cx}:Passes CX0 X E0:=fun _ _ _ _ _ _ _ h=>h.elim
structure Fun(K:W.Frag)(x qual:Str)(st:Stmt)(f:Addr)(fd:FuncData):Prop where
 ex:∃(oc:Value) (od:Option Addr) (kV doc pm:Value) (an:Option Addr) (cdv ct:Value) (osl:Array (Option Value)),
  fd=PySem.W.fnOf x qual (defArgs st) (defBody st) (defScope st) .none kV doc pm an cdv ct/\K.lookup f=some ⟨oc,od,.func fd,osl⟩/\PySem.W.codeIn K cdv qual=true
 kp:PySem.W.keepIn K (.ref f)=true
section
variable{P:Program}{w:World}{K:W.Frag}{mg:Str->Option Value}{base:Heap}
theorem Fun.ok{x qual:Str}{st:Stmt}{f:Addr}{fd:FuncData}{N ps:List Str}{k:Nat}{sp:Sp}(F:Fun K x qual st f fd)(S:FnScope N ps (defScope st))(len:∀vs H Q E,sp vs H Q E->vs.length=ps.length)(hbody:∀(cdv:Value) (A:Around) (outer:List Env) (s:Shared) (H:Hp) (vs:List V) (Q:VK) (E:XK),Room k (A.deeper (envOfC qual (defScope st) s.heap.objs.size f cdv))->sp vs H Q E->
   ∃t,PSs (cxOf CX0 P w K mg base N qual (defScope st) f cdv A outer s H E).nox (defBody st) t/\t {nx:=fun _ H'=>Q .non H',rt:=Q} (start N vs) H):FnOk P w K mg base CX0 (k+1) f fd ps sp:=by
 obtain⟨oc,od,kV,doc,pm,an,cdv,ct,osl,rfl,lk,hcd⟩:=F.ex
 refine fn_of lk hcd S len fun A outer s H vs Q E hr hsp=> ?_
 obtain⟨t,h,q⟩:=hbody cdv A outer s H vs Q E hr hsp
 exact⟨t,h.nox,q⟩
theorem Fun.binds{x qual:Str}{st:Stmt}{f:Addr}{fd:FuncData}{ps:List Str}(F:Fun K x qual st f fd)(h:∀(kV doc pm:Value) (an:Option Addr) (cdv ct:Value) (us:List Value),us.length=ps.length->bindArgs (PySem.W.fnOf x qual (defArgs st) (defBody st) (defScope st) .none kV doc pm an cdv ct) ⟨us,[]⟩=pure (ps.zip us)):Binds K fd ps []:=by
 obtain⟨oc,od,kV,doc,pm,an,cdv,ct,osl,rfl,lk,hcd⟩:=F.ex
 exact .all (h kV doc pm an cdv ct)
theorem fun_mk{x qual:Str}{st:Stmt}{f:Addr}{oc:Value}{od an:Option Addr}{osl:Array (Option Value)}{kV doc pm cdv ct:Value}(l:K.lookup f=some ⟨oc,od,.func (PySem.W.fnOf x qual (defArgs st) (defBody st) (defScope st) .none kV doc pm an cdv ct),osl⟩)(c:PySem.W.codeIn K cdv qual=true)(k:PySem.W.keepIn K (.ref f)=true):Fun K x qual st f (PySem.W.fnOf x qual (defArgs st) (defBody st) (defScope st) .none kV doc pm an cdv ct):=⟨⟨oc,od,kV,doc,pm,an,cdv,ct,osl,rfl,l,c⟩,k⟩
end
theorem hu_of{A:Around}{k:Nat}(hr:Room k A):A.units+1<cLine:=ybn (Nat.add_le_add_left (by decide:1<=64) _) hr.units
theorem small1000{n:Nat}(h:n<=1000):n<sizeLine:=ybn h (by decide)
section
variable{X:Cx}
theorem pv(i:Nat){x:Str}{pos:Pos}(hN:X.N[i]? =some x:=by rfl)(hv:Vis X.env.scope x:=by first |exact Or.inl rfl|exact Or.inr (Or.inl rfl)|exact Or.inr (Or.inr rfl))(hd:(x==("__debug__":Str))=false:=by decide)(hcd:(x==("__classdict__":Str))=false:=by decide):PE X (.Name x pos) (tVar i):=pe_var hN hv hd hcd
end
theorem iteF{A B:Prop}(h:B):if false=true then A else B:=by
 rw[if_neg Bool.false_ne_true]
 exact h
theorem iteT{A B:Prop}(h:A):if true=true then A else B:=by
 rw[if_pos rfl]
 exact h
theorem ite2{c A B:Prop} [Decidable c](h1:c->A)(h2:¬c->B):if c then A else B:=by
 by_cases h:c
 ·rw[if_pos h]
  exact h1 h
 ·rw[if_neg h]
  exact h2 h
noncomputable def Same(H H':Hp):Prop:=∀b o,H b=some o->H' b=some o
theorem Same.refl(H:Hp):Same H H:=fun _ _ h=>h
theorem Same.trans{H H1 H2:Hp}(a:Same H H1)(b:Same H1 H2):Same H H2:=fun c o h=>b c o (a c o h)
theorem Same.free{H H':Hp}(e:Same H H'){l:Addr}(h:H' l=Option.none):H l=Option.none:=by
 cases q:H l with
 |none=>rfl
 |some o=>
  rw[e l o q]at h
  cases h
theorem Same.seq{K:W.Frag}{H H':Hp}{a:Addr}{xs:List V}(e:Same H H')(h:SqL K H a xs):SqL K H' a xs:=by
 rcases h with(h|⟨o,h⟩)|h
 ·exact .inl (.inl (e _ _ h))
 ·exact .inl (.inr ⟨o,e _ _ h⟩)
 ·exact .inr h
end L2
set_option maxHeartbeats 4000000
namespace L2
open PySem PySem.Spec PyProof.Rows
noncomputable def clOf(cells:List (Str×Addr)):List (Str×NameKind)->List (Str×Addr)->List (Str×Addr)
 |[],acc=>acc
 |p::r,acc=>clOf cells r (if(p.2==NameKind.free)=true then(p.1,(cells.lookup p.1).getD 0)::acc else acc)
theorem clOf_mem{cells:List (Str×Addr)}:∀{names:List (Str×NameKind)} {acc:List (Str×Addr)} {x:Str} {c:Addr},(x,c)∈clOf cells names acc->(x,c)∈acc\/c=(cells.lookup x).getD 0/\(x,NameKind.free)∈names
 |[],_,_,_,h=> .inl h
 |(n,k)::r,acc,x,c,h=>by
  rcases clOf_mem (names:=r) h with q|⟨q,m⟩
  ·dsimp only at q
   split at q
   ·rename_i hk
    rcases yam.mp q with e|e
    ·cases e
     have:k=NameKind.free:=by simpa using hk
     subst this
     exact .inr ⟨rfl,yah⟩
    ·exact .inl e
   ·exact .inl q
  ·exact .inr ⟨q,yae _ m⟩
theorem clOf_acc{cells:List (Str×Addr)}:∀{names:List (Str×NameKind)} {acc:List (Str×Addr)} {p:Str×Addr},p∈acc->p∈clOf cells names acc
 |[],_,_,h=>h
 |(n,k)::r,acc,p,h=>by
  refine clOf_acc (names:=r) ?_
  split
  ·exact yae _ h
  ·exact h
theorem clOf_has{cells:List (Str×Addr)}:∀{names:List (Str×NameKind)} {acc:List (Str×Addr)} {x:Str},(x,NameKind.free)∈names->∃c,(x,c)∈clOf cells names acc
 |(n,k)::r,acc,x,h=>by
  rcases yam.mp h with e|e
  ·cases e
   refine⟨(cells.lookup n).getD 0,clOf_acc (names:=r) ?_⟩
   rw[if_pos (show(NameKind.free==NameKind.free)=true from rfl)]
   exact yah
  ·exact clOf_has (names:=r) e
theorem zav{β:Type}:∀{l:List (Str×β)} {x:Str} {c:β},(x,c)∈l->∃d,l.lookup x=some d/\(x,d)∈l
 |(n,k)::r,x,c,h=>by
  cases hx:x==n with
  |true=>
   have e:x=n:=by simpa using hx
   subst e
   exact⟨k,by simp[ybw],yah⟩
  |false=>
   rcases yam.mp h with e|e
   ·cases e;simp at hx
   ·obtain⟨d,h1,h2⟩:=zav e
    exact⟨d,by simp only[ybw,hx];exact h1,yae _ h2⟩
noncomputable def compOk(sc scope:Scope):Bool:=scope.names.all fun p=>(p.2 !=NameKind.cell)&&(p.2 !=NameKind.local||scope.names.lookup p.1==some NameKind.local)&&
 (p.2 !=NameKind.free||sc.names.lookup p.1==some NameKind.cell||sc.names.lookup p.1==some NameKind.free)
section
variable{sc scope:Scope}
theorem compOk.cell(h:compOk sc scope=true):∀y∈scope.names,y.2≠.cell:=fun y hy e=>by
 have q:=ybb.mp h y hy
 simp[e]at q
theorem compOk.names(h:compOk sc scope=true):∀y∈scope.names,y.2= .local->scope.names.lookup y.1=some .local:=fun y hy e=>by
 have q:=ybb.mp h y hy
 simpa[e]using q
theorem compOk.free(h:compOk sc scope=true){x:Str}(hy:(x,NameKind.free)∈scope.names):sc.names.lookup x=some .cell\/sc.names.lookup x=some .free:=by
 have q:=ybb.mp h _ hy
 simpa using q
end
theorem closure_of{scope:Scope}{env:Env}(h:∀x,(x,NameKind.free)∈scope.names->∃c,env.cells.lookup x=some c):closureFor scope env=pure (clOf env.cells scope.names []):=by
 have key:∀(names:List (Str×NameKind)) (acc:List (Str×Addr)),(∀x,(x,NameKind.free)∈names->∃c,env.cells.lookup x=some c)->
   (forIn names acc fun(x:Str×NameKind) (cs:List (Str×Addr))=>if(x.2==NameKind.free)=true then(do let y<-cellOf env x.1;pure (ForInStep.yield ((x.1,y)::cs)))else pure (ForInStep.yield cs):Sem (List (Str×Addr)))=pure (clOf env.cells names acc):=by
  intro names
  induction names with
  |nil=>intro acc _;rfl
  |cons p r ih=>
   intro acc hh
   obtain⟨n,k⟩:=p
   rw[List.forIn_cons]
   dsimp only
   by_cases hk:(k==NameKind.free)=true
   ·have e:k=NameKind.free:=by simpa using hk
    subst e
    obtain⟨c,hc⟩:=hh n yah
    rw[if_pos hk]
    unfold cellOf
    rw[hc]
    simp only[pure_bind]
    refine Eq.trans (ih _ fun x hx=>hh x (yae _ hx)) ?_
    show _=pure (clOf env.cells r (if(NameKind.free==NameKind.free)=true then(n,(env.cells.lookup n).getD 0)::acc else acc))
    rw[if_pos hk,hc]
    rfl
   ·rw[if_neg hk]
    simp only[pure_bind]
    refine Eq.trans (ih _ fun x hx=>hh x (yae _ hx)) ?_
    show _=pure (clOf env.cells r (if(k==NameKind.free)=true then(n,(env.cells.lookup n).getD 0)::acc else acc))
    rw[if_neg hk]
 have q:=key scope.names [] h
 unfold closureFor
 simp only[bind_pure]
 exact q
theorem relab_look{env:Env}:∀{names:List (Str×NameKind)} {x:Str} {k:NameKind},names.lookup x=some k->
  (names.map fun(n,k)=>if(k==NameKind.free&&env.scope.kind== .function&&env.kindOf n==some .cell)then(n,NameKind.cell)else(n,k)).lookup x=some (if(k==NameKind.free&&env.scope.kind== .function&&env.kindOf x==some .cell)=true then .cell else k)
 |[],_,_,h=>by simp at h
 |(n,k)::r,x,k',h=>by
  have ih:= @relab_look env r x k'
  show List.lookup x ((if(k==NameKind.free&&env.scope.kind== .function&&env.kindOf n==some .cell)=true then(n,NameKind.cell)else(n,k))::_)=_
  cases hx:x==n with
  |true=>
   have e:x=n:=by simpa using hx
   subst e
   simp only[ybw,hx]at h
   cases h
   by_cases hc:(k==NameKind.free&&env.scope.kind== .function&&env.kindOf x==some .cell)=true
   ·rw[if_pos hc,if_pos hc];simp[ybw]
   ·rw[if_neg hc,if_neg hc];simp[ybw]
  |false=>
   simp only[ybw,hx]at h
   by_cases hc:(k==NameKind.free&&env.scope.kind== .function&&env.kindOf n==some .cell)=true
   ·rw[if_pos hc];simp only[ybw,hx];exact ih h
   ·rw[if_neg hc];simp only[ybw,hx];exact ih h
theorem relab_none{env:Env}:∀{names:List (Str×NameKind)} {x:Str},names.lookup x=none->
  (names.map fun(n,k)=>if(k==NameKind.free&&env.scope.kind== .function&&env.kindOf n==some .cell)then(n,NameKind.cell)else(n,k)).lookup x=none
 |[],_,_=>rfl
 |(n,k)::r,x,h=>by
  have ih:= @relab_none env r x
  show List.lookup x ((if(k==NameKind.free&&env.scope.kind== .function&&env.kindOf n==some .cell)=true then(n,NameKind.cell)else(n,k))::_)=_
  cases hx:x==n with
  |true=>simp only[ybw,hx]at h;cases h
  |false=>
   simp only[ybw,hx]at h
   by_cases hc:(k==NameKind.free&&env.scope.kind== .function&&env.kindOf n==some .cell)=true
   ·rw[if_pos hc];simp only[ybw,hx];exact ih h
   ·rw[if_neg hc];simp only[ybw,hx];exact ih h
theorem relab_cell{scope:Scope}{env:Env}{x:Str}(hc:∀y∈scope.names,y.2≠.cell)(h:(relabel scope env).names.lookup x=some .cell\/(relabel scope env).names.lookup x=some .free):(x,NameKind.free)∈scope.names:=by
 cases e:scope.names.lookup x with
 |none=>
  have q:=relab_none (env:=env) e
  rcases h with h|h
  ·rw[show(relabel scope env).names.lookup x=none from q]at h;cases h
  ·rw[show(relabel scope env).names.lookup x=none from q]at h;cases h
 |some k=>
  have q:=relab_look (env:=env) e
  have m:=PySem.mem_of_lookup e
  by_cases hk:k= .free
  ·subst hk;exact m
  ·have q':(relabel scope env).names.lookup x=some k:=by
    refine Eq.trans q ?_
    have:(k==NameKind.free)=false:=by simpa using hk
    simp[this]
   rw[q']at h
   rcases h with h|h
   ·cases h;exact absurd rfl (hc _ m)
   ·cases h;exact absurd rfl hk
theorem relab_free{scope:Scope}{env:Env}{x:Str}(h:scope.names.lookup x=some .free):(relabel scope env).names.lookup x=some .cell\/(relabel scope env).names.lookup x=some .free:=by
 have q:=relab_look (env:=env) h
 by_cases hc:((NameKind.free==NameKind.free)&&env.scope.kind== .function&&env.kindOf x==some .cell)=true
 ·rw[if_pos hc]at q;exact .inl q
 ·rw[if_neg hc]at q;exact .inr q
noncomputable def compCx(X:Cx)(scope:Scope)(N:List Str)(s:Shared)(H:Hp)(cl:List (Str×Addr))(C:Addr)(ex:List Addr):Cx:=
 {X with N:=N,s₀:=s,H₀:=H,env:=compEnvC scope cl C X.env,outer:=X.stack,ex:=ex,fn:=fun _=>false,pn:=[],xe:=fun _ _=>False}
inductive Caps(X:Cx)(scope:Scope):List Str->List Nat->Prop
 |nil:Caps X scope [] []
 |cons {x:Str} {j:Nat} {xs:List Str} {js:List Nat} (hN:X.N[j]? =some x) (hf:scope.names.lookup x=some .free) (t:Caps X scope xs js):Caps X scope (x::xs) (j::js)
theorem Caps.get{X:Cx}{scope:Scope}:∀{xs:List Str} {js:List Nat} {k:Nat} {x:Str},Caps X scope xs js->xs[k]? =some x->∃j,js[k]? =some j/\X.N[j]? =some x/\scope.names.lookup x=some .free
 |_,_,k,x,.nil,h=>by simp at h
 |_,_,0,x,.cons h1 h2 _,h=>by simp at h;subst h;exact⟨_,rfl,h1,h2⟩
 |_,_,k+1,x,.cons _ _ t,h=>by
  obtain⟨j,a,b⟩:=Caps.get (k:=k) t (by simpa using h)
  exact⟨j,by simpa using a,b⟩
theorem Caps.len{X:Cx}{scope:Scope}:∀{xs:List Str} {js:List Nat},Caps X scope xs js->xs.length=js.length
 |_,_,.nil=>rfl
 |_,_,.cons _ _ t=>by simp[Caps.len t]
noncomputable def iniOf(own:List Str)(ix:List Nat)(σ:St):St:=own.map (fun _=>none)++ix.map fun j=>(σ[j]?).join
noncomputable def PTs(X:Cx)(ifs:List Expr)(t:TT):Prop:=
 ∀(pins:List (Addr×Obj)) (s:Shared) (σ:St) (H:Hp) (Q:Bool->Hp->Prop),Inv X pins σ H s->t σ H Q->
  wpAny (model X.prog X.w) X.A (forIn ifs true fun c r=>if r=true then do let ok<-isTrue c X.env (eval c X.env);pure (ForInStep.yield ok)else pure (ForInStep.yield r)) (TP X pins σ Q) X.xe s
theorem zbf{X:Cx}:PTs X [] (fun _ H Q=>Q true H):=fun _ _ _ H _ I h=>wpAny_tests_nil ⟨H,I,h⟩
theorem zdk{X:Cx}{c:Expr}{t:TT}(h:PT X c t):PTs X [c] t:=fun pins s σ H Q I hq=>wpAny_tests_one (h pins s σ H Q I hq)
theorem HOk.add{P:Program}{w:World}{H:Hp}{h:Heap}{a:Addr}{o:HO}(x:HOk P w H h)(hn:H a=none)(new:ObjOk P w (upd H a o) h a o):HOk P w (upd H a o) h:=fun b u e=>by
 by_cases hb:b=a
 ·subst hb;rw[zab]at e;cases e;exact new
 ·rw[zaj hb]at e
  exact(x b u e).stay (fun c v _ q=>q) (fun c q=>by rw[zaj (zah q hn)];exact q) fun c xs q=>by rw[zaj (zah q hn)];exact q
theorem Un.add{fs ex:List Addr}{H H':Hp}{h h':Heap}{a:Addr}{o:HO}(u:Un fs ex H H' h h')(ha:h.objs.size<=a)(hn:H' a=none):Un fs ex H (upd H' a o) h h' where
 keep:=u.keep
 slot:=u.slot
 free:=fun b ob q n hx=>by rw[zaj (yau (yan (yap q) ha))];exact u.free b ob q n hx
 there:=u.there
 tups:=fun b xs q=>by have:=u.tups b xs q;rw[zaj (zah this hn)];exact this
 frzs:=fun b ob xs q=>by have:=u.frzs b ob xs q;rw[zaj (zah this hn)];exact this
 tbls:=fun b ps q=>by obtain⟨m,e⟩:=u.tbls b ps q;exact⟨m,by rw[zaj (zah e hn)];exact e⟩
section
variable{X:Cx}{tg iter elt:Expr}{ifs:List Expr}{scope:Scope}{pos:Pos}{own caps:List Str}{ix:List Nat}{g:TG}{tc:TT}{te:TE}
theorem comp_entry{pins:List (Addr×Obj)}{s s':Shared}{σ:St}{H:Hp}{fp:List Addr}{C:Addr}{m:Str->Option Value}(ck:compOk X.env.scope scope=true)(hkind:scope.kind= .function)(hcap:Caps X scope caps ix)
  (I:Inv X pins σ H s)(f2:∀b∈fp,FpOk X pins H b)(hlt:∀b∈fp,b<s.heap.objs.size)(hC:s.heap.objs.size<=C)(hos:s'.os=s.os)(hg:AllBare s'.gens)(hk:∀b o,s.heap.get? b=some o->s'.heap.get? b=some o)(hn:s'.heap.Ns C m):
  Inv (compCx X scope (own++caps) s H (clOf X.env.cells scope.names []) C fp) [] (iniOf own ix σ) H s':=by
 have cl1:∀x c,(clOf X.env.cells scope.names []).lookup x=some c->X.env.cells.lookup x=some c:=fun x c e=>by
  rcases clOf_mem (PySem.mem_of_lookup e)with q|⟨q,mm⟩
  ·cases q
  ·obtain⟨d,hd⟩:=I.ok.has x (compOk.free ck mm)
   rw[hd]at q
   rw[hd,q];rfl
 have cl2:∀x,(x,NameKind.free)∈scope.names->∃c,(clOf X.env.cells scope.names []).lookup x=some c:=fun x mm=>by
  obtain⟨c,hc⟩:=clOf_has (cells:=X.env.cells) (acc:=[]) mm
  obtain⟨d,hd,_⟩:=zav hc
  exact⟨d,hd⟩
 have bsz:X.base.objs.size<=s.heap.objs.size:=yat I.ok.bsz I.sz
 refine⟨⟨I.ok.mod,hkind,I.ok.glob,I.ok.blt,hC,fun x y c h1 h2=>I.ok.inj x y c (cl1 x c h1) (cl1 y c h2),fun x hx=>cl2 x (relab_cell (compOk.cell ck) hx),fun x c h=>(nomatch h),I.ok.hd,I.ok.frames,.inl rfl,fun b hb=>⟨yau (yan (hlt b hb) hC),fun x c e=>(f2 b hb).2.2.2.2.1 x c (cl1 x c e)⟩,I.bs,bsz,
  fun b o e hb=> ?_,fun b hb hz=> ?_,I.stack,I.stkFree⟩,?_,hg,Un.kept hk,⟨m,hn,fun i x v h1 h2 h3=> ?_⟩,fun x c e=> ?_,I.hok.fresh hC,fun x c e=>I.freeC x c (cl1 x c e),fun p hp=>absurd (show p∈([]:List (Addr×Obj))from hp) (by simp),I.hok.kept hk,?_⟩
 ·rcases(f2 b hb).2.2.2.1 with z|z
  ·exact I.ok.noex b o e z
  ·exact absurd (yan (yap e) (yat I.ok.bsz z)) (ybd _)
 ·rcases yam.mp (I.stkSub b hz)with z|z
  ·exact(f2 b hb).2.1 z
  ·exact(f2 b hb).2.2.1 z
 ·exact hos
 ·have h1:(own++caps)[i]? =some x:=h1
  have h2:(own.map (fun _=>(none:Option V))++ix.map fun j=>(σ[j]?).join)[i]? =some (some v):=h2
  by_cases hi:i<own.length
  ·rw[ycm (by simpa using hi),yaf]at h2
   cases e:own[i]? <;>rw[e]at h2<;>simp at h2
  ·rw[ybs (by simpa using hi)]at h2
   rw[ybs (by omega)]at h1
   rw[yaa]at h2
   obtain⟨j,e1,e2,e3⟩:=hcap.get h1
   rw[yaf,e1]at h2
   have h2':(σ[j]?).join=some v:=by simpa using h2
   have h4:σ[j]? =some (some v):=by
    cases q:σ[j]? with
    |none=>rw[q]at h2';cases h2'
    |some w=>rw[q]at h2';exact congrArg some h2'
   obtain⟨m0,hn0,hl0⟩:=I.loc
   have mm:=PySem.mem_of_lookup e3
   have vis:=compOk.free ck mm
   obtain⟨u,r,l⟩:=hl0 j x v e2 h4 (.inr vis)
   refine⟨u,r,.inr ?_⟩
   rcases l with⟨k,_⟩|⟨k,c,e,z⟩
   ·rcases vis with q|q
    ·rw[show X.env.kindOf x=some .cell from q]at k;cases k
    ·rw[show X.env.kindOf x=some .free from q]at k;cases k
   ·obtain⟨d,hd⟩:=cl2 x mm
    have:=cl1 x d hd
    rw[e]at this
    cases this
    exact⟨relab_free e3,c,hd,z.keeps hk⟩
 ·obtain⟨v,z⟩:=I.cell x c (cl1 x c e)
  exact⟨v,z.keeps hk⟩
 ·show(own.map (fun _=>(none:Option V))++ix.map fun j=>(σ[j]?).join).length=(own++caps).length
  simp[hcap.len]
theorem comp_core(ck:compOk X.env.scope scope=true)(hkind:scope.kind= .function)(hcap:Caps X scope caps ix)(hc:X.calm=true)(hg:∀s H cl C ex,PG (compCx X scope (own++caps) s H cl C ex) tg g)(ht:∀s H cl C ex,PTs (compCx X scope (own++caps) s H cl C ex) ifs tc)(he:∀s H cl C ex,PE (compCx X scope (own++caps) s H cl C ex) elt te){pins:List (Addr×Obj)}{s2:Shared}{σ:St}{H2:Hp}{E:Value->Shared->Prop}(I2:Inv X pins σ H2 s2){it:Addr}{fp:List Addr}{tn:Nat->Heap->Prop}{J:It}(T:Turn X.prog X.w X.K tg J fp it tn)(st2:tn 0 s2.heap)(f2:∀b∈fp,FpOk X pins H2 b)
  {W:Nat->Nat->List V->St->Hp->Prop}{m0:Nat}(w0:W 0 m0 [] (iniOf own ix σ) H2){Fin:List V->Hp->Prop}(turn:∀i m acc σ H,W i m acc σ H->(J.stop i H/\acc.length<=sizeLine/\Fin acc H)\/(J.go i H/\acc.length<sizeLine/\∃N:List V->St->Hp->Prop,(∀acc' σ' H',N acc' σ' H'->∃m',m'<m/\W (i+1) m' acc' σ' H')/\∀x H',J.yld i H x H'->g x σ H' fun σ2 H2=>tc σ2 H2 fun b H3=>
   if b=true then te σ2 H3 fun v H4=>N (acc++[v]) σ2 H4 else N acc σ2 H3))
  {RR:Value->Addr->Result->Shared->Prop}(hRR:∀D C s' acc Hf m,Inv X pins σ (upd Hf D (.lst acc)) s'->Hf D=none->s'.heap.Ns C m->FpOk X pins (upd Hf D (.lst acc)) C->Fin acc Hf->RR (.ref D) C (.ok .next) s'):
  wpAny (model X.prog X.w) X.A (newList []) (fun acc s₃=>wpAny (model X.prog X.w) X.A (newFunctionEnv scope X.env.globals (clOf X.env.cells scope.names []) [] X.env.qual none .none (some X.env)) (fun cenv s₄=>
   codeAny (model X.prog X.w) X.A (.compStart (.ListComp elt [⟨tg,iter,ifs,0⟩] scope pos) 0 (.ref it) acc {cenv with scope:=relabel scope X.env}) (RR acc cenv.locals) s₄) E s₃) E s2:=by
 refine wpAny_newObj_type (wpAny_newFunctionEnv (compOk.cell ck) (by intro y hy;simp at hy) (fun h₁ hns₁ hsb₁=> ?_) hkind)
 dsimp only at hns₁ hsb₁⊢
 generalize hP:s2.heap.push {cls:= .type "list",dict:=none,data:= .seq ([]:List Value).toArray}=P1 at hns₁ hsb₁⊢
 have hC:P1.objs.size=s2.heap.objs.size+1:=by rw[<-hP,ybu]
 have hlt:∀b∈fp,b<s2.heap.objs.size:=fun b hb=>by
  obtain⟨o,e,_⟩:=T.obj _ _ st2 b hb
  exact yap e
 have old:∀b o,s2.heap.get? b=some o->h₁.get? b=some o:=fun b o e=>
  hsb₁.extBut b o (by rw[hC];exact yau (yaz (yap e))) (yab _ (hP▸yab _ e))
 have hD1:h₁.get? s2.heap.objs.size=some {cls:= .type "list",data:= .seq ([]:List Value).toArray 0}:=
  hsb₁.extBut _ _ (by rw[hC];exact yau (yba _)) (yab _ (hP▸yao _ rfl))
 generalize hDD:s2.heap.objs.size=D at *
 rw[hC]at hns₁⊢
 have entry:Inv (compCx X scope (own++caps) s2 H2 (clOf X.env.cells scope.names []) (D+1) fp) [] (iniOf own ix σ) H2 {s2 with heap:=h₁,toks:=s2.toks+([]:List (Str×Value)).length}:=
  comp_entry ck hkind hcap I2 f2 (by rw[hDD];exact hlt) (by rw[hDD];exact ycq _) rfl I2.bare old hns₁
 generalize hX':compCx X scope (own++caps) s2 H2 (clOf X.env.cells scope.names []) (D+1) fp=X' at entry
 have eP:X'.prog=X.prog:=by rw[<-hX'];rfl
 have ew:X'.w=X.w:=by rw[<-hX'];rfl
 have eK:X'.K=X.K:=by rw[<-hX'];rfl
 have eA:X'.A=X.A:=by rw[<-hX'];rfl
 have ecalm:X'.calm=true:=by rw[<-hX'];exact hc
 have efs:X'.fs=frs X.stack:=by rw[<-hX'];rfl
 have eex:X'.ex=fp:=by rw[<-hX'];rfl
 have epn:X'.pn=[]:=by rw[<-hX'];rfl
 have es0:X'.s₀=s2:=by rw[<-hX'];rfl
 have eH0:X'.H₀=H2:=by rw[<-hX'];rfl
 have exe:X'.xe=fun _ _=>False:=by rw[<-hX'];rfl
 have eenv:X'.env=compEnvC scope (clOf X.env.cells scope.names []) (D+1) X.env:=by rw[<-hX'];rfl
 have eloc:X'.env.locals=D+1:=by rw[eenv];rfl
 have hg':PG X' tg g:=by rw[<-hX'];exact hg _ _ _ _ _
 have ht':PTs X' ifs tc:=by rw[<-hX'];exact ht _ _ _ _ _
 have he':PE X' elt te:=by rw[<-hX'];exact he _ _ _ _ _
 have ecl:∀x c,X'.env.cells.lookup x=some c->c<D:=fun x c e=>by
  obtain⟨v,o,ho,_⟩:=entry.cell x c e
  have hcn:=entry.freeC x c e
  -- a cell of the enclosing frame: it lies in s2's heap
  rw[eenv]at e
  rcases clOf_mem (PySem.mem_of_lookup e)with q|⟨q,mm⟩
  ·cases q
  ·obtain⟨d,hd⟩:=I2.ok.has x (compOk.free ck mm)
   rw[hd]at q
   have q:c=d:=q
   subst q
   obtain⟨v',o',ho',_⟩:=I2.cell x c hd
   rw[<-hDD]
   exact yap ho'
 have dfs:D∉frs X.stack:=fun hb=>by
  rcases yam.mp (I2.stkSub D hb)with z|z
  ·exact absurd (Nat.lt_of_lt_of_eq I2.lt hDD) (by rw[z];exact ybd _)
  ·exact I2.nofs (yci hDD) z
 have fpn:∀{H':Hp} {o:Obj},(∀b∈fp,H' b=none)->∀b∈fp,FpOk X' [(D,o)] H' b:=fun{H' o} hn b hb=>by
  have hbl:=hlt b hb
  refine⟨hn b hb,by rw[eloc];exact yau (yaz hbl),?_,.inl (by rw[eex];exact hb),fun x c e=> ?_,fun p hp=> ?_⟩
  ·rw[efs]
   intro z
   rcases yam.mp (I2.stkSub b z)with z|z
   ·exact(f2 b hb).2.1 z
   ·exact(f2 b hb).2.2.1 z
  ·rw[eenv]at e
   rcases clOf_mem (PySem.mem_of_lookup e)with q|⟨q,mm⟩
   ·cases q
   ·obtain⟨d,hd⟩:=I2.ok.has x (compOk.free ck mm)
    rw[hd]at q
    have q:c=d:=q
    subst q
    exact(f2 b hb).2.2.2.2.1 x c hd
  ·rw[epn]at hp
   have:p=(D,o):=by simpa using hp
   rw[this]
   exact ycg hbl
 have pinD:∀{σ':St} {H':Hp} {s':Shared} {o:Obj},Inv X' [] σ' H' s'->s'.heap.get? D=some o->H' D=none->(∀v,o.data≠.cell v)->Inv X' [(D,o)] σ' H' s':=fun{σ' H' s' o} I e n d=>
  I.pins_of fun p hp=>by
   have:p=(D,o):=by simpa using hp
   subst this
   exact⟨e,n,by rw[eloc];exact yau (yba D),by rw[efs];exact dfs,d⟩
 have loop:∀s₃:Shared,s₃={s2 with heap:=h₁,toks:=s2.toks+([]:List (Str×Value)).length}->
   codeAny (model X.prog X.w) X.A (.compLoop (.ListComp elt [⟨tg,iter,ifs,0⟩] scope pos) 0 (.ref it) (.ref D) X'.env) (RR (.ref D) (D+1)) s₃:=by
  intro s₃ hs₃
  refine codeAny_loop rfl (fun n s'=>∃i acc its k σ' H',Inv X' [] σ' H' s'/\tn i s'.heap/\(∀b∈fp,H' b=none)/\s'.heap.get? D=some {cls:= .type "list",data:= .seq (List.toArray its) k}/\Vals acc its/\H' D=none/\W i n acc σ' H') ?_ m0
   ⟨0,[],[],0,iniOf own ix σ,H2,by rw[hs₃];exact entry,by rw[hs₃];exact T.keep _ _ _ st2 fun b _ o e=>old b o e,fun b hb=>(f2 b hb).1,by rw[hs₃];exact hD1,.nil,I2.hok.fresh (yci hDD),w0⟩
  rintro n s3 ⟨i,acc,its,k,σ3,H3,I3,st3,fr3,eD,rv,nD,w3⟩
  show wpAny _ X.A ((compTurn (.ListComp elt [⟨tg,iter,ifs,0⟩] scope pos) 0 (.ref it) (.ref D) X'.env).onRaise (fun x=>do noteFrame x X'.env;theTreesLotGoes x)) _ _ s3
  refine wpAny_noted ?_
  rw[compTurn_list]
  have noE:∀{α:Type} {t:Sem α} {Q:α->Shared->Prop} {E':Value->Shared->Prop} {s:Shared},wpAny (model X'.prog X'.w) X'.A t Q X'.xe s->wpAny (model X.prog X.w) X.A t Q E' s:=fun{α t Q E' s} h=>by
   rw[eP,ew,eA,exe]at h
   exact wpAny_mono h (fun _ _ q=>q) fun _ _ z=>z.elim
  have I3':=pinD (o:={cls:= .type "list",data:= .seq (List.toArray its) k}) I3 eD nD (fun v z=>by
   have z':Data.seq (List.toArray its) k=Data.cell v:=z
   cases z')
  refine wpAny_bind (wpAny_standAt (wpAny_bind ?_))
  rcases turn i n acc σ3 H3 w3 with⟨stop,hz,fin⟩|⟨go,hz,Nn,hN,step⟩
  ·have q:=T.done X' eP ew eK ecalm i [(D,_)] s3 σ3 H3 (notedBy (model X.prog X.w) X.A X'.env fun e s'=>RR (.ref D) (D+1) (.error e) s') I3' (fpn fr3) st3 stop
   rw[eA]at q
   refine thn q fun r s4 ⟨hr,I4⟩=> ?_
   subst hr
   refine wpAny_pure ?_
   obtain⟨e4,_⟩:=I4.pin (D,_) (yaj _ yah)
   obtain⟨mC,hnC,_⟩:=I4.loc
   have u4:=I4.base
   rw[efs,eex,eH0,es0]at u4
   have ok4:=I4.hok
   rw[eP,ew]at ok4
   have nC:H3 (D+1)=none:=by have:=I4.free;rw[eloc]at this;exact this
   have hok:HOk X.prog X.w (upd H3 D (.lst acc)) s4.heap:=ok4.add nD ⟨hz,its,k,rv,e4⟩
   refine hRR D (D+1) s4 acc H3 mC ?_ nD (by rw[eloc]at hnC;exact hnC) ?_ fin
   ·refine I2.call' (s':=s4) (ch:=fp) ?_ (u4.add (by rw[hDD];exact yac _) nD) hok I4.bare fun b hb=> ?_
    ·have:=I4.os;rw[es0]at this;exact this
    ·obtain⟨f0,f1,f3,f4,f5,f6⟩:=f2 b hb
     exact⟨f4,f1,f5,f6⟩
   ·refine I2.fpOk (by rw[hDD];exact ycq _) ?_
    rw[zaj (ycg (yba D))]
    exact nC
  ·have q:=T.item X' eP ew eK ecalm i [(D,_)] s3 σ3 H3 (notedBy (model X.prog X.w) X.A X'.env fun e s'=>RR (.ref D) (D+1) (.error e) s') I3' (fpn fr3) st3 go
   rw[eA]at q
   refine thn q fun r s4 ⟨u,hr,h4⟩=> ?_
   subst hr
   dsimp only
   refine wpAny_bind (thn h4 fun _ s5 ⟨x,H5,I5,r5,y5,st5,fr5⟩=> ?_)
   have I5':=I5.pinned (fpn fr5) (T.obj _ _ st5)
   have again:∀{σ7:St} {H7:Hp} {s7:Shared},Inv X' ([(D,{cls:= .type "list",data:= .seq (List.toArray its) k})]++pinsAt fp s5.heap) σ7 H7 s7->tn (i+1) s7.heap/\(∀b∈fp,H7 b=none)/\s7.heap.get? D=some {cls:= .type "list",data:= .seq (List.toArray its) k}/\H7 D=none:=fun{σ7 H7 s7} I7=>by
    refine⟨T.keep _ _ _ st5 fun b hb o e=>(I7.pin (b,o) (yaj _ (yaj _ (zdd hb e)))).1,fun b hb=> ?_,?_⟩
    ·obtain⟨o,e,d⟩:=T.obj _ _ st5 b hb
     exact(I7.pin (b,o) (yaj _ (yaj _ (zdd hb e)))).2.1
    ·have:=I7.pin (D,_) (yaj _ (ybq _ yah))
     exact⟨this.1,this.2.1⟩
   refine wpAny_bind (thn (noE (hg' _ s5 σ3 H5 x u _ I5' r5 (step x H5 y5))) fun _ s6 ⟨σ6,H6,I6,q6⟩=> ?_)
   refine wpAny_bind (thn (noE (ht' _ s6 σ6 H6 _ I6 q6)) fun ok s7 ⟨H7,I7,q7⟩=> ?_)
   cases ok with
   |false=>
    rw[if_neg Bool.false_ne_true]at q7
    obtain⟨m',hm,w7⟩:=hN _ _ _ q7
    obtain⟨a1,a2,a3,a4⟩:=again I7
    exact wpAny_pure ⟨rfl,m',hm,i+1,acc,its,k,σ6,H7,I7.pins_of (fun p hp=>nomatch hp),a1,a2,a3,rv,a4,w7⟩
   |true=>
    rw[if_pos rfl]at q7
    refine wpAny_bind (wpAny_bind (thn (noE (he' _ s7 σ6 H7 _ I7 q7)) fun v s8 ⟨y,H8,I8,r8,q8⟩=> ?_))
    obtain⟨m',hm,w8⟩:=hN _ _ _ q8
    obtain⟨a1,a2,a3,a4⟩:=again I8
    have hl:=rv.length
    refine wpAny_bind (call_meets F.slot_list_append ⟨_,a3,rfl⟩ F.entry_list_append (F.args_list_append_2 _ _) (PySem.list_append D its.toArray k v (by rw[yak];omega)) ⟨a3,?_⟩)
    refine wpAny_pure (wpAny_pure ⟨rfl,m',hm,i+1,acc++[y],its++[v],?_⟩)
    have qD:=PySem.IsL.update a3 (fun a:Array Value=>a.push v)
    rw[List.push_toArray]at qD
    have kp:∀b o,b≠D->s8.heap.get? b=some o->(s8.heap.update D (Obj.mapSeq fun a=>a.push v)).get? b=some o:=fun b o hb e=>(ydy s8.heap _ (Ne.symm hb)).trans e
    have I8':Inv X' [] σ6 H8 {s8 with heap:=s8.heap.update D (Obj.mapSeq fun a=>a.push v)}:=by
     refine(I8.pins_of (pins':=[]) (fun p hp=>nomatch hp)).turned (t':=s8.toks) (it:=D) kp a4 (by rw[eloc];exact yau (yba D)) (.inr (by rw[es0,hDD];exact yac _)) (fun x c e=>yau (ecl x c e)) (fun p hp=> ?_)
     rw[epn]at hp
     exact nomatch hp
    exact⟨_,σ6,H8,I8',T.keep _ _ _ a1 fun b hb o e=>kp b o (yau (hlt b hb)) e,a2,qD,rv.append (.cons r8 .nil),a4,w8⟩
 have eenv':({newEnv scope (D+1) X.env.globals (clOf X.env.cells scope.names []) X.env.qual none Value.none (some X.env) 0 with scope:=relabel scope X.env}:Env)=X'.env:=by rw[eenv];rfl
 have L:=loop _ rfl
 rw[<-eenv']at L
 exact codeAny_compStart_list L (T.self X.A 0 _ _ _ (T.keep _ _ _ st2 fun b _ o e=>old b o e) L)
end
noncomputable def CompW(J:It)(ini:St)(H:Hp)(g:TG)(tc:TT)(te:TE)(Fin:List V->Hp->Prop):Prop:=
 ∃W:Nat->Nat->List V->St->Hp->Prop,(∃m,W 0 m [] ini H)/\∀i m acc σ H,W i m acc σ H->
  (J.stop i H/\acc.length<=sizeLine/\Fin acc H)\/(J.go i H/\acc.length<sizeLine/\∃N:List V->St->Hp->Prop,(∀acc' σ' H',N acc' σ' H'->∃m',m'<m/\W (i+1) m' acc' σ' H')/\∀x H',J.yld i H x H'->g x σ H' fun σ2 H2=>tc σ2 H2 fun b H3=>
   if b=true then te σ2 H3 fun v H4=>N (acc++[v]) σ2 H4 else N acc σ2 H3)
noncomputable def tComp(wi:TI)(own:List Str)(ix:List Nat)(g:TG)(tc:TT)(te:TE):TE:=fun σ H Q=>wi σ H fun J H1=>
 CompW J (iniOf own ix σ) H1 g tc te fun acc H'=>∀p,H' p=none->Q (.ref p) (upd H' p (.lst acc))
section
variable{X:Cx}{tg iter elt:Expr}{ifs:List Expr}{scope:Scope}{pos:Pos}{own caps:List Str}{ix:List Nat}{wi:TI}{g:TG}{tc:TT}{te:TE}
theorem zaz(hc:X.calm=true)(hi:PI X tg iter wi)(ck:compOk X.env.scope scope=true)(hkind:scope.kind= .function)(hcap:Caps X scope caps ix)(hg:∀s H cl C ex,PG (compCx X scope (own++caps) s H cl C ex) tg g)(ht:∀s H cl C ex,PTs (compCx X scope (own++caps) s H cl C ex) ifs tc)(he:∀s H cl C ex,PE (compCx X scope (own++caps) s H cl C ex) elt te)(hs:∀x,foldedSetIterable iter X.env x=pure x:=by intro _;rfl):PE X (.ListComp elt [⟨tg,iter,ifs,0⟩] scope pos) (tComp wi own ix g tc te):=by
 intro pins s σ H Q I h
 rw[eval_ListComp]
 refine wpAny_comprehension_free (use:=none) rfl hs (closure_of fun x hx=>I.ok.has x (compOk.free ck hx)) hkind (compOk.names ck) (thn (hi pins s σ H _ I h) fun xv s1 h1=>thn h1 fun itv s2 h2=> ?_)
 obtain⟨it,fp,tn,J,H2,e,I2,T,st2,f2,W,⟨m0,w0⟩,turn⟩:=h2
 subst e
 refine comp_core (RR:=fun acc C=>compPost (model X.prog X.w) X.A X.xe none (EP X pins σ Q) acc C) ck hkind hcap hc hg ht he I2 T st2 f2 w0 turn ?_
 intro D C s' acc Hf m I' nD hn fC fin
 refine⟨m,hn,fun h' sb=> ?_⟩
 obtain⟨f0,f1,f3,f4,f5,f6⟩:=fC
 exact⟨.ref D,_,I'.turned (t':=s'.toks) (it:=C) (fun b o hb e=>(sb.2 b hb).trans e) f0 f1 f4 f5 f6,rfl,fin D nD⟩
theorem zcq{i:Nat}{y:Str}{py spos:Pos}(hN:X.N.Nodup)(hiN:X.N[i]? =some y)(hx:Loc X.env.scope y)(hc:X.calm=true)(hi:PI X tg iter wi)(ck:compOk X.env.scope scope=true)(hkind:scope.kind= .function)(hcap:Caps X scope caps ix)(hg:∀s H cl C ex,PG (compCx X scope (own++caps) s H cl C ex) tg g)(ht:∀s H cl C ex,PTs (compCx X scope (own++caps) s H cl C ex) ifs tc)(he:∀s H cl C ex,PE (compCx X scope (own++caps) s H cl C ex) elt te)(hsw:swapsWith (.ListComp elt [⟨tg,iter,ifs,0⟩] scope pos) (some (.Name y py)) spos.line X.env=pure true:=by rfl)(hf:X.fn y=true\/X.env.scope.names.lookup y=some .local:=by first |exact .inl rfl|exact .inr rfl|assumption)(hs:∀x,foldedSetIterable iter X.env x=pure x:=by intro _;rfl):PS X (.Assign [.Name y py] (.ListComp elt [⟨tg,iter,ifs,0⟩] scope pos) spos) (tAsg (tComp wi own ix g tc te) (gName i)):=by
 intro pins s σ H Dn I h
 rw[exec_Assign_Name_used _ _ _ _ hsw]
 refine wpAny_bind (wpAny_standAt (wpAny_bind ?_))
 show wpAny _ X.A (do let _<-comprehension (.ListComp elt [⟨tg,iter,ifs,0⟩] scope pos) scope X.env _ (newList []) false (eval iter X.env) (some (assign (.Name y py) X.env))) _ _ s
 refine wpAny_bind (wpAny_mono (wpAny_comprehension_free (use:=some (assign (.Name y py) X.env)) (Q:=fun _ s'=>SP X pins Dn .next s') rfl hs (closure_of fun x hx=>I.ok.has x (compOk.free ck hx)) hkind (compOk.names ck)
  (thn (hi pins s σ H _ I h) fun xv s1 h1=>thn h1 fun itv s2 h2=> ?_)) (fun _ s' hq=>wpAny_pure (wpAny_pure hq)) fun _ _ e=>e)
 obtain⟨it,fp,tn,J,H2,e,I2,T,st2,f2,W,⟨m0,w0⟩,turn⟩:=h2
 subst e
 refine comp_core (RR:=fun acc C=>compPost (model X.prog X.w) X.A X.xe (some (assign (.Name y py) X.env)) (fun _ s'=>SP X pins Dn .next s') acc C) ck hkind hcap hc hg ht he I2 T st2 f2 w0 turn ?_
 intro D C s' acc Hf m I' nD hn fC fin
 obtain⟨f0,f1,f3,f4,f5,f6⟩:=fC
 show wpAny _ X.A (assign (.Name y py) X.env (.ref D)) _ _ _
 refine wpAny_assign_Name (store_ok2 I' hN hiN hx (show RelV (.ref D) (.ref D)from rfl) (fun s'' I'' ⟨a,sb,ha⟩=> ?_) hf)
 have hCa:C≠a:=by
  rcases ha with ha|ha
  ·rw[ha];exact f1
  ·exact fun z=>f5 y a ha z.symm
 refine⟨m,hn.sameBut sb hCa,fun h' sb'=> ?_⟩
 exact⟨_,_,I''.turned (t':=s''.toks) (it:=C) (fun b o hb e=>(sb'.2 b hb).trans e) f0 f1 f4 f5 f6,fin D nD⟩
end
section
variable{K:W.Frag}{a:Addr}{xs:List V}{g:TG}{tc:TT}{te:TE}{Fin:List V->Hp->Prop}{ini:St}{H:Hp}
theorem zco(Pv:Nat->List V->St->Hp->Prop)(h0:Pv 0 [] ini H)(hl:∀(i:Nat) acc σ H,i<=xs.length->Pv i acc σ H->SqL K H a xs)(hz:∀(i:Nat) acc σ H,i<=xs.length->Pv i acc σ H->acc.length<=i)(hx:xs.length<=sizeLine)(hs:∀(i:Nat) x acc σ H,xs[i]? =some x->Pv i acc σ H->g x σ H fun σ2 H2=>tc σ2 H2 fun b H3=>if b=true then te σ2 H3 fun v H4=>Pv (i+1) (acc++[v]) σ2 H4 else Pv (i+1) acc σ2 H3)(hd:∀acc σ H,Pv xs.length acc σ H->Fin acc H):CompW (Itl K a) ini H g tc te Fin:=by
 refine⟨fun i m acc σ H=>m=xs.length-i/\i<=xs.length/\Pv i acc σ H,⟨xs.length,by simp,yaw _,h0⟩,?_⟩
 rintro i m acc σ H ⟨rfl,hi,p⟩
 have q:=hl i acc σ H hi p
 have z:=hz i acc σ H hi p
 by_cases hlt:i<xs.length
 ·refine .inr ⟨⟨xs,xs[i],q,by simp[hlt]⟩,by omega,fun acc σ H=>Pv (i+1) acc σ H,fun acc' σ' H' r=>⟨_,by omega,rfl,hlt,r⟩,fun x H' y=> ?_⟩
  obtain⟨e,y⟩:=y
  subst e
  exact hs i x acc σ _ (y xs q) p
 ·have e:i=xs.length:=by omega
  subst e
  exact .inl ⟨⟨xs,q,yac _⟩,by omega,hd acc σ H p⟩
theorem comp_tup(Pv:Nat->List V->St->Hp->Prop)(h0:Pv 0 [] ini H)(hl:∀(i:Nat) acc σ H,i<=xs.length->Pv i acc σ H->SqT K H a xs)(hz:∀(i:Nat) acc σ H,i<=xs.length->Pv i acc σ H->acc.length<=i)(hx:xs.length<=sizeLine)(hs:∀(i:Nat) x acc σ H,xs[i]? =some x->Pv i acc σ H->g x σ H fun σ2 H2=>tc σ2 H2 fun b H3=>if b=true then te σ2 H3 fun v H4=>Pv (i+1) (acc++[v]) σ2 H4 else Pv (i+1) acc σ2 H3)(hd:∀acc σ H,Pv xs.length acc σ H->Fin acc H):CompW (Itt K a) ini H g tc te Fin:=by
 refine⟨fun i m acc σ H=>m=xs.length-i/\i<=xs.length/\Pv i acc σ H,⟨xs.length,by simp,yaw _,h0⟩,?_⟩
 rintro i m acc σ H ⟨rfl,hi,p⟩
 have q:=hl i acc σ H hi p
 have z:=hz i acc σ H hi p
 by_cases hlt:i<xs.length
 ·refine .inr ⟨⟨xs,xs[i],q,by simp[hlt]⟩,by omega,fun acc σ H=>Pv (i+1) acc σ H,fun acc' σ' H' r=>⟨_,by omega,rfl,hlt,r⟩,fun x H' y=> ?_⟩
  obtain⟨e,y⟩:=y
  subst e
  exact hs i x acc σ _ (y xs q) p
 ·have e:i=xs.length:=by omega
  subst e
  exact .inl ⟨⟨xs,q,yac _⟩,by omega,hd acc σ H p⟩
theorem zbn{lo:Int}{n:Nat}(Pv:Nat->List V->St->Hp->Prop)(h0:Pv 0 [] ini H)(hz:∀(i:Nat) acc σ H,i<=n->Pv i acc σ H->acc.length<=i)(hx:n<=sizeLine)(hs:∀(i:Nat) acc σ H,i<n->Pv i acc σ H->g (.int (lo+i)) σ H fun σ2 H2=>tc σ2 H2 fun b H3=>if b=true then te σ2 H3 fun v H4=>Pv (i+1) (acc++[v]) σ2 H4 else Pv (i+1) acc σ2 H3)(hd:∀acc σ H,Pv n acc σ H->Fin acc H):CompW (Itr lo n) ini H g tc te Fin:=by
 refine⟨fun i m acc σ H=>m=n-i/\i<=n/\Pv i acc σ H,⟨n,by simp,yaw _,h0⟩,?_⟩
 rintro i m acc σ H ⟨rfl,hi,p⟩
 have z:=hz i acc σ H hi p
 by_cases hlt:i<n
 ·refine .inr ⟨hlt,by omega,fun acc σ H=>Pv (i+1) acc σ H,fun acc' σ' H' r=>⟨_,by omega,rfl,hlt,r⟩,fun x H' y=> ?_⟩
  obtain⟨e,y⟩:=y
  subst e y
  exact hs i acc σ _ hlt p
 ·have e:i=n:=by omega
  subst e
  exact .inl ⟨yac _,by omega,hd acc σ H p⟩
end
end L2
namespace Srt
open PySem PySem.W PyProof.Rows
section
variable{O:KeyOrd}{key:Nat->O.α}{N:Nat}{cmp:Nat->Nat->(Bool->Shared->Prop)->Shared->Prop}{s:Shared}
noncomputable def AskOk(O:KeyOrd)(key:Nat->O.α)(N:Nat)(cmp:Nat->Nat->(Bool->Shared->Prop)->Shared->Prop)(s:Shared):Prop:=
 ∀i j (C:Bool->Shared->Prop),i<N->j<N->C (O.blt (key i) (key j)) s->cmp i j C s
noncomputable def KN(key:Nat->O.α)(p:Array Nat)(i:Nat):O.α:=key (p.getD i 0)
noncomputable def So(key:Nat->O.α)(p:Array Nat)(k:Nat):Prop:=∀i j,i<=j->j<k->O.kle (KN key p i) (KN key p j)
noncomputable def Ni(key:Nat->O.α)(p:Array Nat)(k:Nat):Prop:=∀i j,i<=j->j<k->O.kle (KN key p j) (KN key p i)
structure Ord(N:Nat)(p:Array Nat):Prop where
 perm:p.Perm (List.toArray (List.range N))
theorem Ord.size{p:Array Nat}(h:Ord N p):p.size=N:=by have:=h.perm.size_eq;simpa using this
theorem Ord.lt{p:Array Nat}(h:Ord N p){i:Nat}(hi:i<N):p.getD i 0<N:=by
 have hi':i<p.size:=by rw[h.size];exact hi
 have e:p.getD i 0=p[i]:=by simp[Array.getD,hi']
 rw[e]
 have m:p[i]∈p.toList:=by simp
 have:=(yed.mp h.perm).mem_iff.mp m
 simpa using this
theorem Ord.rev{p:Array Nat}(h:Ord N p)(i j:Nat):Ord N (kas_rev p i j):=⟨(mirror_perm _ _ _ _).trans h.perm⟩
theorem Ord.bub{p:Array Nat}(h:Ord N p)(i j:Nat):Ord N (bubble p i j):=⟨(bubble_perm _ _ _).trans h.perm⟩
theorem getD_q(p:Array Nat)(i:Nat):p.getD i 0=(p[i]?).getD 0:=by simp
theorem KN_rev{p:Array Nat}{i j:Nat}(hj:j<=p.size)(k:Nat):KN key (kas_rev p i j) k=if i<=k/\k<j then KN key p (i+j-1-k)else KN key p k:=by
 have e:=getElem?_mirror_all (i:=i) hj k
 unfold KN kas_rev
 rw[getD_q,e]
 split
 ·rw[getD_q]
 ·rw[getD_q]
theorem zcx{p:Array Nat}{i j:Nat}(hj:j<=p.size)(heq:∀k,i<=k->k<j->KN key p k=KN key p (j-1))(k:Nat):KN key (kas_rev p i j) k=KN key p k:=by
 rw[KN_rev hj]
 split
 ·rename_i h
  rw[heq k h.1 h.2,heq _ (by omega) (by omega)]
 ·rfl
theorem KN_bub{p:Array Nat}{src d:Nat}(hs:src<p.size)(hd:d<=src)(k:Nat):KN key (bubble p src d) k=if k=src-d then KN key p src else if src-d<k/\k<=src then KN key p (k-1)else KN key p k:=by
 have e:=getElem?_bubble hs d hd k
 have q:KN key (bubble p src d) k=key (((bubble p src d)[k]?).getD 0):=congrArg key (getD_q _ _)
 have q2:∀i,KN key p i=key ((p[i]?).getD 0):=fun i=>congrArg key (getD_q _ _)
 rw[q,e,q2,q2,q2]
 by_cases h1:k=src-d
 ·rw[if_pos h1,if_pos h1]
 ·rw[if_neg h1,if_neg h1]
  by_cases h2:src-d<k/\k<=src
  ·rw[if_pos h2,if_pos h2]
  ·rw[if_neg h2,if_neg h2]
theorem lt_pred{i j:Nat}(h:i<=j)(hn:¬i=j):i<=j-1:=yee (ych h hn)
theorem eq_top{j n:Nat}(h:j<n+1)(hn:¬j<n):j=n:=ydl (ycu h) (Nat.not_lt.mp hn)
theorem pred_lt'{x k:Nat}(h:1<=x)(hk:x<=k):x-1<k:=ydi h hk
theorem lt_mid{x f N:Nat}(h:x+(f+1)<=N):x<N:=yan (Nat.lt_add_of_pos_right (ybz f)) h
theorem up_one{x f N:Nat}(h:x+(f+1)<=N):x+1+f<=N:=yat (yci (ydm x f)) h
theorem up_le{x f m:Nat}(h:m<=x+1+f):m<=x+(f+1):=yat h (yci (ydm x f))
theorem rev_le{i j n:Nat}(h:i<=j):0+n-1-j<=0+n-1-i:=Nat.sub_le_sub_left h _
theorem rev_lt{i n:Nat}(h:i<n):0+n-1-i<n:=by
 rw[Nat.zero_add]
 exact ybn (Nat.sub_le _ _) (ydi (ybn (yaw _) h) (yac _))
theorem asc(ok:AskOk O key N cmp s){p:Array Nat}(hp:Ord N p){Q:Nat->Shared->Prop}:∀(f n:Nat),1<=n->n+f<=N->So key p n->(∀m,n<=m->m<=n+f->So key p m->(m=n+f\/O.klt (KN key p m) (KN key p (m-1)))->Q m s)->(kas_asc p f n).kasWp cmp Q s
 |0,n,_,_,hs,h=>h n (yac _) (yac _) hs (.inl rfl)
 |f+1,n,h1,hn,hs,h=>by
  have hnN:n<N:=lt_mid hn
  refine ok _ _ _ (hp.lt hnN) (hp.lt (pred_lt' h1 (yas hnN))) ?_
  cases hless:O.blt (key (p.getD n 0)) (key (p.getD (n-1) 0))with
  |true=>
   show Q n s
   exact h n (yac _) (ydw _ _) hs (.inr hless)
  |false=>
   show(kas_asc p f (n+1)).kasWp cmp Q s
   refine asc ok hp f (n+1) (ybz _) (up_one hn) (fun i j hij hj=> ?_) fun m a b c d=>h m (Nat.le_of_succ_le a) (up_le b) c (d.imp (fun z=>z.trans (ydm n f)) id)
   by_cases hjn:j<n
   ·exact hs i j hij hjn
   ·have hj':j=n:=eq_top hj hjn
    subst hj'
    by_cases hi':i=j
    ·subst hi';exact KeyOrd.kle_refl _
    ·exact KeyOrd.kle_trans (hs i (j-1) (lt_pred hij hi') (pred_lt' h1 (yac _))) hless
theorem tail3(ok:AskOk O key N cmp s){p:Array Nat}(hp:Ord N p){n:Nat}{Q:Nat×Array Nat->Shared->Prop}(h1:1<=n)(hn:n<=N)(hs:Ni key p n)(h:∀m p',Ord N p'->1<=m->m<=N->So key p' m->Q (m,p') s):(kas_tail3 n N p).kasWp cmp Q s:=by
 unfold kas_tail3
 rw[KasT.kasWp_bind]
 have hsz:n<=p.size:=by rw[hp.size];exact hn
 have hN:n+(N-n)=N:=Nat.add_sub_cancel' hn
 refine asc ok (hp.rev 0 n) (N-n) n h1 (yci hN) (fun i j hij hj=> ?_) fun m a b c _=>h m _ (hp.rev 0 n) (yat h1 a) (yat b (yci hN)) c
 rw[KN_rev hsz,KN_rev hsz,if_pos ⟨yaw _,ybn hij hj⟩,if_pos ⟨yaw _,hj⟩]
 exact hs _ _ (rev_le hij) (rev_lt (ybn hij hj))
theorem desc1{p p':Array Nat}{x:Nat}(h1:1<=x)(hs:Ni key p x)(hless:O.kle (KN key p x) (KN key p (x-1)))(hk:∀k,KN key p' k=KN key p k):Ni key p' (x+1):=by
 intro i j hij hj
 rw[hk,hk]
 by_cases hjx:j<x
 ·exact hs i j hij hjx
 ·have hj':j=x:=eq_top hj hjx
  subst hj'
  by_cases hi':i=j
  ·subst hi';exact KeyOrd.kle_refl _
  ·exact KeyOrd.kle_trans hless (hs i (j-1) (lt_pred hij hi') (pred_lt' h1 (yac _)))
theorem one_eq{p:Array Nat}{x i:Nat}(h1:x+1-(0+1)<=i)(h2:i<x+1):KN key p i=KN key p (x+1-1):=congrArg _ (ydl (ycu h2) h1)
theorem desc(ok:AskOk O key N cmp s){Q:Array Nat×Nat×Nat->Shared->Prop}:∀(f:Nat) (p:Array Nat) (x neq:Nat),Ord N p->1<=x->x+f<=N->Ni key p x->neq+1<=x->(∀i,x-(neq+1)<=i->i<x->KN key p i=KN key p (x-1))->
  (∀p' m q,Ord N p'->x<=m->m<=x+f->Ni key p' m->q+1<=m->(∀i,m-(q+1)<=i->i<m->KN key p' i=KN key p' (m-1))->Q (p',m,q) s)->(kas_desc f p x neq).kasWp cmp Q s
 |0,p,x,neq,hp,_,_,hs,hq,he,h=>h p x neq hp (yac _) (yac _) hs hq he
 |f+1,p,x,neq,hp,h1,hn,hs,hq,he,h=>by
  have hxN:x<N:=lt_mid hn
  have hsz:x<=p.size:=by rw[hp.size];exact yas hxN
  have hx1:x-1<N:=pred_lt' h1 (yas hxN)
  have hh:∀p' m q,Ord N p'->x+1<=m->m<=x+1+f->Ni key p' m->q+1<=m->(∀i,m-(q+1)<=i->i<m->KN key p' i=KN key p' (m-1))->Q (p',m,q) s:=fun p' m q a b c d e g=>h p' m q a (Nat.le_of_succ_le b) (up_le c) d e g
  refine ok _ _ _ (hp.lt hxN) (hp.lt hx1) ?_
  cases hless:O.blt (key (p.getD x 0)) (key (p.getD (x-1) 0))with
  |true=>
   show(if neq>0 then kas_desc f (kas_rev p (x-(neq+1)) x) (x+1) 0 else kas_desc f p (x+1) 0).kasWp cmp Q s
   by_cases hneq:neq>0
   ·rw[if_pos hneq]
    exact desc ok f _ (x+1) 0 (hp.rev _ _) (ybz _) (up_one hn) (desc1 h1 hs (KeyOrd.kle_of_klt hless) (zcx hsz he)) (ybz _) (fun i h1 h2=>one_eq h1 h2) hh
   ·rw[if_neg hneq]
    exact desc ok f _ (x+1) 0 hp (ybz _) (up_one hn) (desc1 h1 hs (KeyOrd.kle_of_klt hless) fun _=>rfl) (ybz _) (fun i h1 h2=>one_eq h1 h2) hh
  |false=>
   show(KasT.ask (p.getD (x-1) 0) (p.getD x 0) fun d=>if d=true then KasT.ret (p,x,neq)else kas_desc f p (x+1) (neq+1)).kasWp cmp Q s
   refine ok _ _ _ (hp.lt hx1) (hp.lt hxN) ?_
   cases hl:O.blt (key (p.getD (x-1) 0)) (key (p.getD x 0))with
   |true=>exact h p x neq hp (yac _) (ydw _ _) hs hq he
   |false=>
    show(kas_desc f p (x+1) (neq+1)).kasWp cmp Q s
    have heqx:KN key p x=KN key p (x-1):=KeyOrd.kle_antisymm hl hless
    refine desc ok f _ (x+1) (neq+1) hp (ybz _) (up_one hn) (desc1 h1 hs (by rw[heqx];exact KeyOrd.kle_refl _) fun _=>rfl) (Nat.succ_le_succ hq) (fun i h1 h2=> ?_) hh
    show KN key p i=KN key p x
    by_cases hix:i=x
    ·subst hix;rfl
    ·rw[heqx];exact he i (yat (yci (Nat.succ_sub_succ x (neq+1)).symm) h1) (ych (ycu h2) hix)
theorem descPart(ok:AskOk O key N cmp s){p:Array Nat}(hp:Ord N p){n:Nat}{Q:Nat×Array Nat->Shared->Prop}(hn:n+1<=N)(hs:Ni key p (n+1))(h:∀m p',Ord N p'->1<=m->m<=N->So key p' m->Q (m,p') s):(kas_descPart n N p).kasWp cmp Q s:=by
 unfold kas_descPart
 rw[KasT.kasWp_bind]
 have hN:n+1+(N-(n+1))<=N:=yci (Nat.add_sub_cancel' hn)
 refine desc ok _ _ _ _ hp (ybz _) hN hs (ybz _) (fun i h1 h2=>one_eq h1 h2) fun p' m q a b c d e g=> ?_
 have hm:m<=N:=yat c hN
 have hm1:1<=m:=yat (ybz _) b
 have hsz:m<=p'.size:=by rw[a.size];exact hm
 dsimp only
 by_cases hq:q>0
 ·rw[if_pos hq]
  refine tail3 ok (a.rev _ _) hm1 hm (fun i j hij hj=> ?_) h
  rw[zcx hsz g,zcx hsz g]
  exact d i j hij hj
 ·rw[if_neg hq]
  exact tail3 ok a hm1 hm d h
theorem count(ok:AskOk O key N cmp s){p:Array Nat}(hp:Ord N p){Q:Nat×Array Nat->Shared->Prop}(h1:1<=N)(h:∀m p',Ord N p'->1<=m->m<=N->So key p' m->Q (m,p') s):(kas_count N p).kasWp cmp Q s:=by
 unfold kas_count
 rw[KasT.kasWp_bind]
 have hN:1+(N-1)=N:=Nat.add_sub_cancel' h1
 refine asc ok hp (N-1) 1 (yac _) (yci hN) (fun i j hij hj=>by
  have hj0:j=0:=Nat.lt_one_iff.mp hj
  subst hj0
  have hi0:i=0:=Nat.le_zero.mp hij
  subst hi0;exact KeyOrd.kle_refl _) fun n a b hsn hor=> ?_
 have hnN:n<=N:=yat b (yci hN)
 by_cases hnn:n=N
 ·rw[if_pos (by simpa using hnn)]
  exact h n p hp a hnN hsn
 ·rw[if_neg (by simpa using hnn)]
  have hlt:O.klt (KN key p n) (KN key p (n-1)):=hor.resolve_left fun z=>hnn (z.trans hN)
  have hln:n<N:=ych hnN hnn
  by_cases hgt:n>1
  ·rw[if_pos hgt]
   have hn1:n-1<n:=pred_lt' a (yac _)
   refine ok _ _ _ (hp.lt h1) (hp.lt (ydo hn1 hln)) ?_
   cases hrose:O.blt (key (p.getD 0 0)) (key (p.getD (n-1) 0))with
   |true=>exact h n p hp a hnN hsn
   |false=>
    show(kas_descPart n N (kas_rev p 0 n)).kasWp cmp Q s
    have hsz:n<=p.size:=by rw[hp.size];exact hnN
    have hall:∀k,0<=k->k<n->KN key p k=KN key p (n-1):=fun k _ hk=>
     KeyOrd.kle_antisymm (hsn k (n-1) (yee hk) hn1) (KeyOrd.kle_trans hrose (hsn 0 k (yaw _) hk))
    refine descPart ok (hp.rev 0 n) hln (fun i j hij hj=> ?_) h
    rw[zcx hsz hall,zcx hsz hall]
    by_cases hjn:j<n
    ·rw[hall i (yaw _) (ybn hij hjn),hall j (yaw _) hjn];exact KeyOrd.kle_refl _
    ·have hj':j=n:=eq_top hj hjn
     subst hj'
     by_cases hi':i=j
     ·subst hi';exact KeyOrd.kle_refl _
     ·rw[hall i (yaw _) (ych hij hi')];exact KeyOrd.kle_of_klt hlt
  ·rw[if_neg hgt]
   have hn1':n=1:=ydl (Nat.not_lt.mp hgt) a
   subst hn1'
   refine descPart ok hp hln (fun i j hij hj=> ?_) h
   by_cases hi':i=j
   ·subst hi';exact KeyOrd.kle_refl _
   ·have hij':i<j:=ych hij hi'
    have hj1:j=1:=ydl (ycu hj) (ybn (yaw i) hij')
    subst hj1
    have hi0:i=0:=Nat.lt_one_iff.mp hij'
    subst hi0
    exact KeyOrd.kle_of_klt hlt
theorem half_lt{l r:Nat}(h:l<r):(l+r)/2<r:=by omega
theorem half_ge{l r:Nat}(h:l<r):l<=(l+r)/2:=by omega
theorem place(ok:AskOk O key N cmp s){p:Array Nat}(hp:Ord N p){k:Nat}{Q:Nat->Shared->Prop}(hk:k<N)(hs:So key p k):∀(f l r:Nat),l<=r->r<=k->r-l<=f->(∀i,i<l->O.kle (KN key p i) (KN key p k))->(∀i,r<=i->i<k->O.klt (KN key p k) (KN key p i))->
  (∀l,l<=k->(∀i,i<l->O.kle (KN key p i) (KN key p k))->(∀i,l<=i->i<k->O.klt (KN key p k) (KN key p i))->Q l s)->(kas_place p k f l r).kasWp cmp Q s
 |0,l,r,hlr,hrk,hm,hlo,hhi,h=>by
  have e:l=r:=ydl hlr (Nat.sub_eq_zero_iff_le.mp (Nat.le_zero.mp hm))
  subst e
  exact h l hrk hlo hhi
 |f+1,l,r,hlr,hrk,hm,hlo,hhi,h=>by
  show(if l≥r then KasT.ret l else KasT.ask (p.getD k 0) (p.getD ((l+r)/2) 0) fun c=>if c=true then kas_place p k f l ((l+r)/2)else kas_place p k f ((l+r)/2+1) r).kasWp cmp Q s
  by_cases hge:l≥r
  ·rw[if_pos hge]
   have e:l=r:=ydl hlr hge
   subst e
   exact h l hrk hlo hhi
  ·rw[if_neg hge]
   have hc:(l+r)/2<r:=half_lt (Nat.not_le.mp hge)
   have hd:l<=(l+r)/2:=half_ge (Nat.not_le.mp hge)
   generalize (l+r)/2=c at hc hd⊢
   refine ok _ _ _ (hp.lt hk) (hp.lt (ydo (yan hc hrk) hk)) ?_
   cases hless:O.blt (key (p.getD k 0)) (key (p.getD c 0))with
   |true=>
    refine place ok hp hk hs f l c hd (yas (yan hc hrk)) (ycu (yan (Nat.sub_lt_sub_right hd hc) hm)) hlo (fun i h1 h2=> ?_) h
    by_cases hi:i=c
    ·subst hi;exact hless
    ·exact KeyOrd.klt_of_klt_of_kle hless (hs c i h1 h2)
   |false=>
    refine place ok hp hk hs f (c+1) r hc hrk (ycu (yan (Nat.sub_lt_sub_left (ybn hd hc) (Nat.lt_succ_of_le hd)) hm)) (fun i h1=> ?_) hhi h
    by_cases hi:i=c
    ·subst hi;exact hless
    ·exact KeyOrd.kle_trans (hs i c (ycu h1) (yan hc hrk)) hless
theorem bins1{p:Array Nat}{k l:Nat}(hs:So key p k)(hl:l<=k)(hsz:k<p.size)(hlo:∀i,i<l->O.kle (KN key p i) (KN key p k))(hhi:∀i,l<=i->i<k->O.klt (KN key p k) (KN key p i)):So key (bubble p k (k-l)) (k+1):=by
 intro i j hij hj
 have e:k-(k-l)=l:=Nat.sub_sub_self hl
 rw[KN_bub hsz (Nat.sub_le _ _),KN_bub hsz (Nat.sub_le _ _),e]
 have hjk:j<=k:=ycu hj
 by_cases hi1:i=l
 ·rw[if_pos hi1]
  by_cases hj1:j=l
  ·rw[if_pos hj1];exact KeyOrd.kle_refl _
  ·have lj:l<j:=ych (hi1▸hij) (Ne.symm hj1)
   rw[if_neg hj1,if_pos ⟨lj,hjk⟩]
   exact KeyOrd.kle_of_klt (hhi (j-1) (yee lj) (ydi (ybn (yaw _) lj) hjk))
 ·rw[if_neg hi1]
  by_cases hi2:l<i/\i<=k
  ·have lj:l<j:=yan hi2.1 hij
   rw[if_pos hi2,if_neg (Ne.symm (yau lj)),if_pos ⟨lj,hjk⟩]
   exact hs _ _ (Nat.sub_le_sub_right hij 1) (ydi (ybn (yaw _) lj) hjk)
  ·rw[if_neg hi2]
   have il:i<l:=ych (Nat.not_lt.mp fun z=>hi2 ⟨z,yat hij hjk⟩) hi1
   by_cases hj1:j=l
   ·rw[if_pos hj1];exact hlo i il
   ·rw[if_neg hj1]
    by_cases hj2:l<j/\j<=k
    ·rw[if_pos hj2];exact hs _ _ (yee (ydo il hj2.1)) (ydi (ybn (yaw _) hj2.1) hjk)
    ·rw[if_neg hj2];exact hs _ _ hij (yan (ych (Nat.not_lt.mp fun z=>hj2 ⟨z,hjk⟩) hj1) hl)
theorem bins(ok:AskOk O key N cmp s){Q:Array Nat->Shared->Prop}:∀(f:Nat) (p:Array Nat) (k:Nat),Ord N p->1<=k->k+f=N->So key p k->(∀p',Ord N p'->So key p' N->Q p' s)->(kas_bin f p k).kasWp cmp Q s
 |0,p,k,hp,_,hf,hs,h=>h p hp ((show k=N from hf)▸hs)
 |f+1,p,k,hp,h1,hf,hs,h=>by
  show((kas_place p k k 0 k).bind fun l=>kas_bin f (bubble p k (k-l)) (k+1)).kasWp cmp Q s
  rw[KasT.kasWp_bind]
  have hk:k<N:=lt_mid (yci hf)
  have hsz:k<p.size:=by rw[hp.size];exact hk
  refine place ok hp hk hs k 0 k (yaw _) (yac _) (Nat.sub_le _ _) (fun i hi=>absurd hi (ydn _)) (fun i h1 h2=>absurd h2 (Nat.not_lt.mpr h1)) fun l hl hlo hhi=> ?_
  exact bins ok f _ (k+1) (hp.bub _ _) (ybz _) ((ydm k f).trans hf) (bins1 hs hl hsz hlo hhi) h
theorem sort(ok:AskOk O key N cmp s){Q:Array Nat->Shared->Prop}(h1:1<=N)(h:∀p',Ord N p'->So key p' N->Q p' s):(kas_sort N).kasWp cmp Q s:=by
 unfold kas_sort
 rw[KasT.kasWp_bind]
 refine count ok ⟨Array.Perm.refl _⟩ h1 fun m p' hp hm1 hm2 hs=> ?_
 dsimp only
 by_cases hlt:m<N
 ·rw[if_pos hlt]
  have e:max m 1=m:=by omega
  rw[e]
  exact bins ok _ _ _ hp hm1 (by omega) hs h
 ·rw[if_neg hlt]
  have e:m=N:=by omega
  subst e
  exact h p' hp hs
end
end Srt
namespace Srt
open PySem PySem.W PyProof.Rows PySem.Calls
noncomputable def Outs{O:KeyOrd}(key:Nat->O.α)(vs out:List Value):Prop:=∃p:Array Nat,Ord vs.length p/\So key p vs.length/\out=p.toList.map fun i=>vs.getD i Value.none
section
variable{prog:Program}{w:World}{A:Around}{E:Value->Shared->Prop}{s:Shared}{O:KeyOrd}{key:Nat->O.α}{κ:SortKind}{vs:List Value}
theorem outs_small(h2:vs.length<2):Outs key vs vs:=by
 refine⟨List.toArray (List.range vs.length),⟨Array.Perm.refl _⟩,fun i j hij hj=> ?_,?_⟩
 ·have e:i=j:=by omega
  subst e;exact KeyOrd.kle_refl _
 ·match vs,h2 with
  |[],_=>rfl
  |[v],_=>rfl
  |_::_::_,h=>simp at h;omega
theorem list_sort_own{a:Addr}{n:Nat}{P:PySem.Fin->Shared->Prop}(ho:s.heap.get? a=some (seqObj "list" vs.toArray n))(h64:vs.length<64)(hkind:2<=vs.length->∀h',(∀b o,b≠a->s.heap.get? b=some o->h'.get? b=some o)->∀Q:SortKind->Shared->Prop,Q κ {s with heap:=h'}->wpAny (model prog w) A (keyKind' vs.toArray) Q E {s with heap:=h'})(hask:2<=vs.length->∀h',(∀b o,b≠a->s.heap.get? b=some o->h'.get? b=some o)->AskOk O key vs.length (kas_ask prog w A κ vs) {s with heap:=h'})(h:∀h' out c,Outs key vs out->(∀b o,b≠a->s.heap.get? b=some o->h'.get? b=some o)->h'.get? a=some (seqObj "list" (List.toArray out) c)->P (.done (.ret .none)) {s with heap:=h'}):
  wpAny (model prog w) A (Builtin.«list.sort» ⟨[.ref a],[]⟩) P E s:=by
 have ha:a<s.heap.objs.size:=yap ho
 have s1:=Heap.SameBut.update s.heap a (Obj.mapSeq fun _=>(#[]:Array Value))
 obtain⟨e1,ho1⟩:∃e1,(s.heap.update a (Obj.mapSeq fun _=>(#[]:Array Value))).get? a=some (seqObj "list" #[] e1):=⟨_,get?_update_seq ho fun _=>#[]⟩
 have keep:∀b o,b≠a->s.heap.get? b=some o->(((s.heap.update a (Obj.mapSeq fun _=>(#[]:Array Value))).push (seqObj "tuple" vs.toArray 0)).push (seqObj "list" #[] 0)).get? b=some o:=fun b o hb e=>
  yab _ (yab _ ((s1.2 b hb).trans e))
 have ho6:(((s.heap.update a (Obj.mapSeq fun _=>(#[]:Array Value))).push (seqObj "tuple" vs.toArray 0)).push (seqObj "list" #[] 0)).get? a=some (seqObj "list" #[] e1):=yab _ (yab _ ho1)
 rw[list_sort_plain]
 refine wpAny_bind (listItems_at ho rfl ?_)
 refine wpAny_bind (listUpdate_at ho rfl ?_ (by rw[yak,sizeLine_eq];omega) (yaw _))
 refine wpAny_bind (seqEpoch_at ho1 rfl ?_)
 refine wpAny_bind (wpAny_newTuple ?_ (by show vs.length<=_;rw[sizeLine_eq];omega))
 refine wpAny_bind (wpAny_newList ?_ (yaw _))
 refine wpAny_holding ?_
 show wpAny (model prog w) A _ P E {s with heap:=((s.heap.update a (Obj.mapSeq fun _=>(#[]:Array Value))).push (seqObj "tuple" vs.toArray 0)).push (seqObj "list" #[] 0)}
 dsimp only
 by_cases h2:vs.toArray.size<2
 ·have h2':vs.length<2:=by simpa using h2
  rw[if_pos h2,if_pos h2]
  refine wpAny_bind (wpAny_pure ?_)
  rw[StateT.run_pure]
  refine wpAny_bind (wpAny_pure ?_)
  dsimp only
  refine wpAny_bind (seqEpoch_at ho6 rfl ?_)
  refine wpAny_bind (listUpdate_at ho6 rfl ?_ (yaw _) (by rw[Array.size_map];show(pairsOf vs).size<=_;rw[pairsOf_size,sizeLine_eq];omega))
  simp only[bne_self_eq_false,Bool.false_eq_true,if_false]
  refine wpAny_pure ?_
  have eo:(vs.toArray.zip vs.toArray).map (·.2)=List.toArray vs:=by
   apply Array.toList_inj.mp
   simp[List.map_snd_zip]
  have s2:=Heap.SameBut.update (((s.heap.update a (Obj.mapSeq fun _=>(#[]:Array Value))).push (seqObj "tuple" vs.toArray 0)).push (seqObj "list" #[] 0)) a (Obj.mapSeq fun _=>List.toArray vs)
  obtain⟨c2,hc2⟩:∃c2,((((s.heap.update a (Obj.mapSeq fun _=>(#[]:Array Value))).push (seqObj "tuple" vs.toArray 0)).push (seqObj "list" #[] 0)).update a (Obj.mapSeq fun _=>List.toArray vs)).get? a=some (seqObj "list" (List.toArray vs) c2):=⟨_,get?_update_seq ho6 fun _=>List.toArray vs⟩
  have fin:=h _ vs c2 (outs_small h2') (fun b o hb e=>(s2.2 b hb).trans (keep b o hb e)) hc2
  first
   |exact fin
   |(rw[<-eo]at fin;exact fin)
   |(show P _ {s with heap:=Heap.update _ a (Obj.mapSeq fun _=>(vs.toArray.zip vs.toArray).map (·.2))};rw[eo];exact fin)
 ·have h2':2<=vs.length:=by rw[yak]at h2;omega
  rw[if_neg h2,if_neg h2]
  refine wpAny_bind (hkind h2' _ keep _ ?_)
  refine wpAny_bind (wpAny_mono (kat_run (Q:=fun st' s'=>s'={s with heap:=((s.heap.update a (Obj.mapSeq fun _=>(#[]:Array Value))).push (seqObj "tuple" vs.toArray 0)).push (seqObj "list" #[] 0)}/\∃p:Array Nat,p.size=vs.length/\arrOf st'=p.map (kas_item (vs.toArray.zip vs.toArray))/\failedOf st'=none/\Ord vs.length p/\So key p vs.length)
   (G:=fun p s'=>s'={s with heap:=((s.heap.update a (Obj.mapSeq fun _=>(#[]:Array Value))).push (seqObj "tuple" vs.toArray 0)).push (seqObj "list" #[] 0)}/\Ord vs.length p/\So key p vs.length)
   rfl h2' h64 (fun p' st' s' a1 a2 a3 a4=>⟨a4.1,p',a1,a2,a3,a4.2.1,a4.2.2⟩) (sort (hask h2' _ keep) (by omega) fun p' hp hs=>⟨rfl,hp,hs⟩)) ?_ fun _ _ e=>e)
  rintro⟨⟨⟩,st'⟩ s' ⟨rfl,p,hp,har,hf,hor,hso⟩
  dsimp only
  have hout:=kat_snds rfl har
  have hsz:(List.toArray (p.toList.map fun i=>vs.getD i Value.none)).size=vs.length:=by rw[yak,yaa,yco,hp]
  rw[hout]
  refine wpAny_bind (seqEpoch_at ho6 rfl ?_)
  refine wpAny_bind (listUpdate_at ho6 rfl ?_ (yaw _) (yat (yci hsz) (by rw[sizeLine_eq];omega)))
  rw[hf]
  simp only[bne_self_eq_false,Bool.false_eq_true,if_false]
  have s2:=Heap.SameBut.update (((s.heap.update a (Obj.mapSeq fun _=>(#[]:Array Value))).push (seqObj "tuple" vs.toArray 0)).push (seqObj "list" #[] 0)) a (Obj.mapSeq fun _=>List.toArray (p.toList.map fun i=>vs.getD i Value.none))
  obtain⟨c2,hc2⟩:∃c2,((((s.heap.update a (Obj.mapSeq fun _=>(#[]:Array Value))).push (seqObj "tuple" vs.toArray 0)).push (seqObj "list" #[] 0)).update a (Obj.mapSeq fun _=>List.toArray (p.toList.map fun i=>vs.getD i Value.none))).get? a=some (seqObj "list" (List.toArray (p.toList.map fun i=>vs.getD i Value.none)) c2):=⟨_,get?_update_seq ho6 fun _=>_⟩
  exact wpAny_pure (h _ _ c2 ⟨p,hor,hso,rfl⟩ (fun b o hb e=>(s2.2 b hb).trans (keep b o hb e)) hc2)
theorem sorted_own{l:Addr}{Q:Value->Shared->Prop}(hl:s.heap.IsList l vs.toArray)(h64:vs.length<64)(hkind:2<=vs.length->∀h',(∀b o,s.heap.get? b=some o->h'.get? b=some o)->∀(E:Value->Shared->Prop) (Q:SortKind->Shared->Prop),Q κ {s with heap:=h'}->wpAny (model prog w) A.in1.in1 (keyKind' vs.toArray) Q E {s with heap:=h'})(hask:2<=vs.length->∀h',(∀b o,s.heap.get? b=some o->h'.get? b=some o)->AskOk O key vs.length (kas_ask prog w A.in1.in1 κ vs) {s with heap:=h'})(h:∀D h' out c,Outs key vs out->s.heap.objs.size<=D->(∀b o,s.heap.get? b=some o->h'.get? b=some o)->h'.get? D=some (seqObj "list" (List.toArray out) c)->Q (.ref D) {s with heap:=h'}):
  wpAny (model prog w) A (call (.builtin "sorted") [.ref l]) Q E s:=by
 refine Calls.call_function_entry kind_sorted plain_sorted entry_sorted (args_sorted1 _) ?_
 unfold Builtin.«sorted»
 refine wpAny_bind (m:=checkCount "sorted" 1 1 _) (wpAny_pure ?_)
 refine wpAny_bind (collect_list hl ?_ (by rw[sizeLine_eq];omega))
 refine wpAny_bind (wpAny_newList ?_ (by rw[sizeLine_eq];omega))
 have hsz:((s.heap.push (seqObj "list" #[] 0)).update s.heap.objs.size (Obj.mapSeq (· ++vs.toArray))).objs.size=s.heap.objs.size+1:=by
  rw[Heap.size_update,size_push']
 have hoL:(((s.heap.push (seqObj "list" #[] 0)).update s.heap.objs.size (Obj.mapSeq (· ++vs.toArray))).push (seqObj "list" vs.toArray 0)).get? (s.heap.objs.size+1)=some (seqObj "list" vs.toArray 0):=by
  rw[<-hsz];exact yao _ rfl
 have keep:∀b o,s.heap.get? b=some o->(((s.heap.push (seqObj "list" #[] 0)).update s.heap.objs.size (Obj.mapSeq (· ++vs.toArray))).push (seqObj "list" vs.toArray 0)).get? b=some o:=fun b o q=>by
  have hlt:b<s.heap.objs.size:=yap q
  rw[Heap.get?_push_ne _ _ _ (by rw[hsz];exact yau (yaz hlt)),Heap.get?_update_ne _ _ _ _ (yau hlt),Heap.get?_push_ne _ _ _ (yau hlt)]
  exact q
 have ne:∀b o,s.heap.get? b=some o->b≠s.heap.objs.size+1:=fun b o q=>yau (yaz (yap q))
 show wpAny _ _ _ _ _ {s with heap:=((s.heap.push (seqObj "list" #[] 0)).update s.heap.objs.size (Obj.mapSeq (· ++vs.toArray))).push (seqObj "list" vs.toArray 0)}
 rw[hsz]
 refine wpAny_bind (wpAny_holding (wpAny_call_entry slot_list_sort ⟨_,hoL,rfl⟩ entry_list_sort ?body (args_list_sort _)))
 case body=>
  refine list_sort_own (key:=key) (κ:=κ) (s:={s with heap:=((s.heap.push (seqObj "list" #[] 0)).update s.heap.objs.size (Obj.mapSeq (· ++vs.toArray))).push (seqObj "list" vs.toArray 0)}) hoL h64
   (fun h2 h' k Q hq=>hkind h2 h' (fun b o q=>k b o (ne b o q) (keep b o q)) _ Q hq) (fun h2 h' k=>hask h2 h' fun b o q=>k b o (ne b o q) (keep b o q)) fun h' out c ho k hc=> ?_
  exact⟨_,rfl,wpAny_pure ⟨_,rfl,h _ h' out c ho (ycq _) (fun b o q=>k b o (ne b o q) (keep b o q)) hc⟩⟩
end
end Srt
namespace HT
open PySem PyProof.Rows
theorem lexLt_iff:∀(a b:List Int),lexLt a b=decide (a<b)
 |[],[]=>by simp[lexLt]
 |[],_::_=>by simp[lexLt]
 |_::_,[]=>by simp[lexLt]
 |x::xs,y::ys=>by
  rw[lexLt_cons,lexLt_iff xs ys]
  by_cases e:x=y
  ·subst e;simp
  ·rw[if_neg e]
   by_cases l:x<y
   ·simp[l,yea]
   ·have:¬(x::xs<y::ys):=by rw[yea];simp[l,e]
    simp[l,this]
end HT
namespace Srt
open PySem PySem.W PyProof.Rows PySem.Calls
noncomputable def lexOrd:KeyOrd where
 α:=List Int
 blt a b:=decide (a<b)
 irrefl a:=by simpa using List.lt_irrefl a
 trans a b c h1 h2:=by simp only[decide_eq_true_eq]at *;exact List.lt_trans h1 h2
 negTrans a b c h:=by
  simp only[decide_eq_true_eq]at *
  by_cases hab:a<b
  ·exact .inl hab
  ·exact .inr (List.lt_of_le_of_lt (List.not_lt.mp hab) h)
 total a b h1 h2:=by simp only[decide_eq_false_iff_not]at *;exact List.le_antisymm (List.not_lt.mp h2) (List.not_lt.mp h1)
section
variable{prog:Program}{w:World}{A:Around}{E:Value->Shared->Prop}{s:Shared}{Q:Bool->Shared->Prop}
theorem lex_ints{na nb:Nat}{xs ys:List Value}{ns ms:List Int}(i:Nat)(hx:IntsAre xs ns)(hy:IntsAre ys ms)(hl:ns.length+nb=ms.length+na)(h:Q (HT.lexLt ns ms) s):KatLex prog w A true (decide (na<nb)) Q (xs.zip ys) i s:=by
 induction hx generalizing ys ms i with
 |nil=>
  rw[List.zip_nil_left]
  refine kat_nil ?_
  cases hy with
  |nil=>
   rw[HT.lexLt_nil_nil]at h
   rw[decide_eq_false (by simp only[ydd]at hl;omega)];exact h
  |cons c u hw=>
   rw[HT.lexLt_nil_cons]at h
   rw[decide_eq_true (by simp only[ydd,ybj]at hl;omega)];exact h
 |cons a t hv ih=>
  cases hy with
  |nil=>
   rw[List.zip_nil_right]
   refine kat_nil ?_
   rw[HT.lexLt_cons_nil]at h
   rw[decide_eq_false (by simp only[ydd,ybj]at hl;omega)];exact h
  |cons c u hw=>
   rw[List.zip_cons_cons]
   rw[HT.lexLt_cons]at h
   refine kat_cons (wpAny_eqBool_int ?_)
   refine kat_go (fun e=> ?_) fun e=> ?_
   ·have e':a=c:=by simpa using e
    rw[if_pos e']at h
    exact kat_yes (ih (i+1) hw (by simp only[ybj]at hl;omega) h)
   ·have e':a≠c:=by simpa using e
    rw[if_neg e']at h
    refine kat_no ?_
    cases i with
    |zero=>exact oneLt_int h
    |succ i=>exact kat_one _ _ (lt_int (show PySem.W.BoolBack Q (.bool (decide (a<c))) s from h))
end
theorem outs_of{O:KeyOrd}{key:Nat->O.α}{α:Type}{vs out:List Value}{its:List α}{d:α}{f:α->O.α}{R:α->Value->Prop}(hR:Paired R its vs)(hk:∀i (hi:i<its.length),key i=f its[i])(h:Outs key vs out):
  ∃its':List α,its'.Perm its/\Paired R its' out/\its'.Pairwise fun x y=>O.kle (f x) (f y):=by
 obtain⟨p,hp,hs,rfl⟩:=h
 have hl:=hR.length
 have get:∀{l₁:List α} {l₂:List Value} {i:Nat},Paired R l₁ l₂->(h:i<l₁.length)->∃v,l₂[i]? =some v/\R l₁[i] v:=by
  intro l₁ l₂ i q
  induction q generalizing i with
  |nil=>intro h;simp at h
  |cons r t ih=>
   intro h
   cases i with
   |zero=>exact⟨_,rfl,r⟩
   |succ i=>
    obtain⟨v,e,rv⟩:=ih (i:=i) (by simpa using h)
    exact⟨v,by simpa using e,by simpa using rv⟩
 have hlt:∀i∈p.toList,i<its.length:=fun i hi=>by
  have:=(yed.mp hp.perm).mem_iff.mp hi
  rw[hl];simpa using this
 refine⟨p.toList.map fun i=>its.getD i d,?_,?_,?_⟩
 ·have q:=(yed.mp hp.perm).map (fun i=>its.getD i d)
  refine q.trans ?_
  have e:(List.toArray (List.range vs.length)).toList.map (fun i=>its.getD i d)=its:=by
   rw[<-hl]
   apply List.ext_getElem?
   intro i
   simp only[yaf]
   by_cases hi:i<its.length
   ·simp[hi]
   ·simp[hi]
  rw[e]
 ·have mk:∀l:List Nat,(∀i∈l,i<its.length)->Paired R (l.map fun i=>its.getD i d) (l.map fun i=>vs.getD i Value.none):=by
   intro l
   induction l with
   |nil=>intro _;exact .nil
   |cons i l ih=>
    intro hb
    refine .cons ?_ (ih fun j hj=>hb j (yae _ hj))
    have hi:=hb i yah
    obtain⟨v,e,r⟩:=get hR hi
    have e1:its.getD i d=its[i]:=by simp[hi]
    have e2:vs.getD i Value.none=v:=by rw[yai,e];rfl
    show R (its.getD i d) (vs.getD i Value.none)
    rw[e1,e2];exact r
  exact mk _ hlt
 ·rw[ycn]
  intro i j hi hj hij
  simp only[yaa,yco]at hi hj
  simp only[List.getElem_map]
  have hsz:=hp.size
  have q:=hs i j (by omega) (by omega)
  have e:∀k (hk':k<p.size),KN key p k=f (its.getD p.toList[k] d):=fun k hk'=>by
   have e1:p.getD k 0=p.toList[k]:=by simp[Array.getD,hk']
   have hb:=hlt p.toList[k] (ycf _)
   have e2:its.getD p.toList[k] d=its[p.toList[k]]:=by simp only[yai,yag hb,Option.getD_some]
   unfold KN
   rw[e1,e2]
   exact hk _ hb
  rw[e i hi,e j hj]at q
  exact q
end Srt
namespace L2
open PySem PySem.Spec PyProof.Rows PySem.W
section
variable{X:Cx}
theorem call_sortedT:CallR X (.builtin "sorted") (fun xs H Q=>∃(a:Addr) (its:List (Addr×List Int)),xs=[.ref a]/\SqL X.K H a (its.map fun p=>V.ref p.1)/\(∀p∈its,SqT X.K H p.1 (p.2.map V.int)/\p.2≠[])/\its.length<64/\
  ∀(l:Addr) (its':List (Addr×List Int)),H l=none->its'.Perm its->its'.Pairwise (fun p q=>HT.lexLt q.2 p.2=false)->Q (.ref l) (upd H l (.lst (its'.map fun p=>V.ref p.1)))):=by
 intro pins s σ H xs us Q I r h
 obtain⟨a,its,rfl,hS,hT,h64,q⟩:=h
 obtain⟨u,rfl,ru⟩:=r.one
 cases ru
 obtain⟨vs,rv,pl,hz⟩:=I.list hS
 have hlen:its.length=vs.length:=by have:=rv.length;simpa using this
 -- the values beside the tuples
 have pr:Paired (fun(p:Addr×List Int) (v:Value)=>v= .ref p.1) its vs:=by
  have go:∀(l:List (Addr×List Int)) (us:List Value),Vals (l.map fun p=>V.ref p.1) us->Paired (fun(p:Addr×List Int) (v:Value)=>v= .ref p.1) l us:=by
   intro l
   induction l with
   |nil=>intro us h;cases h;exact .nil
   |cons p l ih=>
    intro us h
    cases h with
    |cons r t=>exact .cons r (ih _ t)
  exact go its vs rv
 have tup:∀p∈its,∃(items:List Value),IntsAre items p.2/\IsTup s.heap p.1 items.toArray:=fun p hp=>by
  obtain⟨its',r',t',_⟩:=I.tuple (hT p hp).1
  exact⟨its',intsAre_of r',t'⟩
 refine Srt.sorted_own (O:=Srt.lexOrd) (key:=fun i=>(its.getD i (0,[])).2) (κ:=tuples' true) (s:=s) pl.isList (by omega) (fun h2 h' k E' Q' hq=> ?_) (fun h2 h' k=> ?_) (fun D h' out c ho hD k hc=> ?_)
 ·have kt:∀(l:List (Addr×List Int)) (us:List Value),Paired (fun(p:Addr×List Int) (v:Value)=>v= .ref p.1) l us->(∀p∈l,p∈its)->∃fs:List Value,KatTups h' us fs/\fs.length=us.length/\∀v∈fs,∃i t,v=Value.int i t:=by
   intro l us h
   induction h with
   |nil=>intro _;exact⟨[],trivial,rfl,fun _ hv=>nomatch hv⟩
   | @cons p v l us r t ih=>
    intro hs
    obtain⟨fs,k1,k2,k3⟩:=ih fun p hp=>hs p (yae _ hp)
    obtain⟨items,hi,o,e,hc,n,hd⟩:=tup p (hs p yah)
    have hne:=(hT p (hs p yah)).2
    obtain⟨pa,pn⟩:=p
    dsimp only at hi hne e r
    cases hi with
    |nil=>exact absurd rfl hne
    |cons i t hi'=>
     rw[r]
     refine⟨Value.int i t::fs,KatTups.cons (k _ _ e) hc hd (by simp) k1,by simp[k2],fun v hv=> ?_⟩
     rcases yam.mp hv with e|e
     ·exact⟨i,t,e⟩
     ·exact k3 v e
  obtain⟨fs,k1,k2,k3⟩:=kt its vs pr fun _ hp=>hp
  refine kat_kind (s:={s with heap:=h'}) (T:= .type "int") k1 (by omega) (fun v hv=> ?_) (by rfl) hq
  obtain⟨i,t,rfl⟩:=k3 v hv
  exact fun A Q E s _ q=>wpAny_pure q
 ·intro i j C hi hj hC
  rw[<-hlen]at hi hj
  have get:∀i (hi:i<its.length),vs.getD i Value.none= .ref its[i].1:=by
   have go:∀(l:List (Addr×List Int)) (us:List Value),Paired (fun(p:Addr×List Int) (v:Value)=>v= .ref p.1) l us->∀i (hi:i<l.length),us.getD i Value.none= .ref l[i].1:=by
    intro l us h
    induction h with
    |nil=>intro i hi;simp at hi
    |cons r t ih=>
     intro i hi
     cases i with
     |zero=>exact r
     |succ i=>simpa using ih i (by simpa using hi)
   exact go its vs pr
  unfold kas_ask
  rw[get i hi,get j hj]
  obtain⟨xi,hxi,oi,ei,ci,ni,di⟩:=tup its[i] (ycf _)
  obtain⟨xj,hxj,oj,ej,cj,nj,dj⟩:=tup its[j] (ycf _)
  refine kat_lt (s:={s with heap:=h'}) (k _ _ ei) di (k _ _ ej) dj ?_
  refine Srt.lex_ints 0 hxi hxj ?_ ?_
  ·have:=hxi.length;have:=hxj.length
   simp only[yak]
   omega
  ·rw[HT.lexLt_iff]
   have e1:its.getD i (0,[])=its[i]:=by simp[hi]
   have e2:its.getD j (0,[])=its[j]:=by simp[hj]
   have hC':C (decide ((its.getD i (0,[])).2<(its.getD j (0,[])).2)) {s with heap:=h'}:=hC
   rw[e1,e2]at hC'
   exact hC'
 ·obtain⟨its',hp,hr,hw⟩:=Srt.outs_of (d:=((0,[]):Addr×List Int)) (f:=fun p=>p.2) pr (fun i hi=>by show(its.getD i (0,[])).2=_;simp[hi]) ho
  have hn:H D=none:=I.hok.fresh hD
  have rv':Vals (its'.map fun p=>V.ref p.1) out:=by
   have go:∀(l:List (Addr×List Int)) (us:List Value),Paired (fun(p:Addr×List Int) (v:Value)=>v= .ref p.1) l us->Vals (l.map fun p=>V.ref p.1) us:=by
    intro l us h
    induction h with
    |nil=>exact .nil
    |cons r t ih=>exact .cons r ih
   exact go its' out hr
  have zl:(its'.map fun p=>V.ref p.1).length<=sizeLine:=by
   have:=hp.length_eq
   rw[yaa]
   exact yas (small1000 (by omega))
  have J:Inv X pins σ (upd H D (.lst (its'.map fun p=>V.ref p.1))) {s with heap:=h',toks:=s.toks}:=I.laid k hD ⟨zl,out,c,rv',hc⟩
  refine⟨.ref D,_,J,rfl,q D its' hn hp (hw.imp fun{x y} hxy=> ?_)⟩
  rw[HT.lexLt_iff];exact hxy
end
end L2
namespace L2
open PySem PySem.Spec PyProof.Rows
section
variable{X:Cx}
theorem bools_of:∀{bs:List Bool} {us:List Value},Vals (bs.map V.bl) us->us=bs.map Value.bool
 |[],_,h=>by cases h;rfl
 |b::bs,_,h=>by
  cases h with
  |cons r t=>rw[ycd,bools_of t];exact congrArg (· ::_) r
theorem call_all(hc:X.calm=true):CallR X (.builtin "all") (fun xs H Q=>∃(a:Addr) (bs:List Bool),xs=[.ref a]/\SqL X.K H a (bs.map V.bl)/\Q (.bl (bs.all id)) H):=by
 intro pins s σ H xs us Q I r h
 obtain⟨a,bs,rfl,hS,q⟩:=h
 obtain⟨u,rfl,ru⟩:=r.one
 cases ru
 obtain⟨vs,rv,pl,hz⟩:=I.list hS
 have hv:=bools_of rv
 have hl:=pl.isList
 have hlt:a<s.heap.objs.size:=by obtain⟨_,e,_⟩:=hl;exact yap e
 refine call_all_walk (wpAny_pyIter_list hl ?_)
 refine⟨s.heap.objs.size,[s.heap.objs.size,a],[s.heap.objs.size],vs.toArray.size,_,_,fun i=>(bs[i]?).getD true,rfl,Walks.list (A:=X.A.in1) (I.ok.hd hc) _ a (yau hlt) vs.toArray,
  ⟨⟨_,yao _ rfl,rfl,rfl⟩,hl.push _⟩,fun i v s' Q' E' hP hQ=> ?_,fun h' tk hk=> ?_⟩
 ·have hP':vs[i]? =some v:=by simpa using hP
  rw[hv,yaf]at hP'
  cases e:bs[i]? with
  |none=>rw[e]at hP';cases hP'
  |some b=>
   rw[e]at hP'
   cases hP'
   simp only[e,Option.getD_some]at hQ
   exact wpAny_truthy_bool hQ
 ·have e:((List.range vs.toArray.size).all fun i=>(bs[i]?).getD true)=bs.all id:=by
   rw[yak,hv,yaa];exact LSm.range_all bs
  rw[e]
  exact⟨.bl _,H,I.kept (LSm.kept_iter hk),rfl,q⟩
theorem call_any(hc:X.calm=true):CallR X (.builtin "any") (fun xs H Q=>∃(a:Addr) (bs:List Bool),xs=[.ref a]/\SqL X.K H a (bs.map V.bl)/\Q (.bl (bs.any id)) H):=by
 intro pins s σ H xs us Q I r h
 obtain⟨a,bs,rfl,hS,q⟩:=h
 obtain⟨u,rfl,ru⟩:=r.one
 cases ru
 obtain⟨vs,rv,pl,hz⟩:=I.list hS
 have hv:=bools_of rv
 have hl:=pl.isList
 have hlt:a<s.heap.objs.size:=by obtain⟨_,e,_⟩:=hl;exact yap e
 refine call_any_walk (wpAny_pyIter_list hl ?_)
 refine⟨s.heap.objs.size,[s.heap.objs.size,a],[s.heap.objs.size],vs.toArray.size,_,_,fun i=>(bs[i]?).getD false,rfl,Walks.list (A:=X.A.in1) (I.ok.hd hc) _ a (yau hlt) vs.toArray,
  ⟨⟨_,yao _ rfl,rfl,rfl⟩,hl.push _⟩,fun i v s' Q' E' hP hQ=> ?_,fun h' tk hk=> ?_⟩
 ·have hP':vs[i]? =some v:=by simpa using hP
  rw[hv,yaf]at hP'
  cases e:bs[i]? with
  |none=>rw[e]at hP';cases hP'
  |some b=>
   rw[e]at hP'
   cases hP'
   simp only[e,Option.getD_some]at hQ
   exact wpAny_truthy_bool hQ
 ·have e:((List.range vs.toArray.size).any fun i=>(bs[i]?).getD false)=bs.any id:=by
   rw[yak,hv,yaa];exact LSm.range_any bs
  rw[e]
  exact⟨.bl _,H,I.kept (LSm.kept_iter hk),rfl,q⟩
noncomputable def KindV(K:W.Frag)(H:Hp):V->String->Prop
 | .non,T=>T="NoneType"
 | .bl _,T=>T="bool"
 | .int _,T=>T="int"
 | .str _,T=>T="str"
 | .ref a,T=>(T="tuple"/\∃xs,SqT K H a xs)\/(T="list"/\∃xs,SqL K H a xs)\/(T="dict"/\∃kvs,H a=some (.dK kvs))
 |_,_=>False
noncomputable def isiB(T C:String):Bool:=T==C||(T=="bool"&&C=="int")
theorem call_isi:CallR X (.builtin "isinstance") (fun xs H Q=>∃(x:V) (T C:String),xs=[x,.ty C]/\KindV X.K H x T/\(C="int"\/C="bool"\/C="tuple"\/C="list")/\Q (.bl (isiB T C)) H):=by
 intro pins s σ H xs us Q I r h
 obtain⟨x,T,C,rfl,hk,hC,q⟩:=h
 obtain⟨u,v,rfl,ru,rv⟩:=r.two
 cases rv
 have fin0:∀b,b=isiB T C->EP X pins σ Q (.bool b) s:=fun b e=>⟨.bl b,H,I,rfl,by rw[e];exact q⟩
 have fin1:∀b,b=isiB T C->EP X pins σ Q (.bool b) {s with toks:=s.toks+1}:=fun b e=>⟨.bl b,H,I.tok _,rfl,by rw[e];exact q⟩
 cases x with
 |non=>
  cases ru;cases hk
  rcases hC with rfl|rfl|rfl|rfl
  ·exact IsiPair.NoneType_int (fin1 _ rfl)
  ·exact IsiPair.NoneType_bool (fin1 _ rfl)
  ·exact IsiPair.NoneType_tuple (fin1 _ rfl)
  ·exact IsiPair.NoneType_list (fin1 _ rfl)
 |bl b=>
  cases ru;cases hk
  rcases hC with rfl|rfl|rfl|rfl
  ·exact IsiPair.bool_int (fin0 _ rfl)
  ·exact IsiPair.bool_bool (fin0 _ rfl)
  ·exact IsiPair.bool_tuple (fin1 _ rfl)
  ·exact IsiPair.bool_list (fin1 _ rfl)
 |int i=>
  obtain⟨t,rfl⟩:=ru;cases hk
  rcases hC with rfl|rfl|rfl|rfl
  ·exact IsiPair.int_int (fin0 _ rfl)
  ·exact IsiPair.int_bool (fin1 _ rfl)
  ·exact IsiPair.int_tuple (fin1 _ rfl)
  ·exact IsiPair.int_list (fin1 _ rfl)
 |str z=>
  obtain⟨t,rfl⟩:=ru;cases hk
  rcases hC with rfl|rfl|rfl|rfl
  ·exact IsiPair.str_int (fin1 _ rfl)
  ·exact IsiPair.str_bool (fin1 _ rfl)
  ·exact IsiPair.str_tuple (fin1 _ rfl)
  ·exact IsiPair.str_list (fin1 _ rfl)
 |ref a=>
  cases ru
  rcases hk with⟨rfl,xs,hS⟩|⟨rfl,xs,hS⟩|⟨rfl,kvs,hS⟩
  ·obtain⟨its,_,⟨o,e,c,n,d⟩,_⟩:=I.tuple hS
   rcases hC with rfl|rfl|rfl|rfl
   ·exact IsiPair.tuple_int e c (fin1 _ rfl)
   ·exact IsiPair.tuple_bool e c (fin1 _ rfl)
   ·exact IsiPair.tuple_tuple e c (fin0 _ rfl)
   ·exact IsiPair.tuple_list e c (fin1 _ rfl)
  ·obtain⟨its,_,⟨o,n,e,c,d,_⟩,_⟩:=I.list hS
   rcases hC with rfl|rfl|rfl|rfl
   ·exact IsiPair.list_int e c (fin1 _ rfl)
   ·exact IsiPair.list_bool e c (fin1 _ rfl)
   ·exact IsiPair.list_tuple e c (fin1 _ rfl)
   ·exact IsiPair.list_list e c (fin0 _ rfl)
  ·obtain⟨_,_,vs,_,o,es,ep,e,c,_⟩:=I.hok a _ hS
   have c':o.cls= .type "dict":=c.1
   rcases hC with rfl|rfl|rfl|rfl
   ·exact IsiPair.dict_int e c' (fin1 _ rfl)
   ·exact IsiPair.dict_bool e c' (fin1 _ rfl)
   ·exact IsiPair.dict_tuple e c' (fin1 _ rfl)
   ·exact IsiPair.dict_list e c' (fin1 _ rfl)
 |_=>exact hk.elim
end
mutual
inductive DV(K:W.Frag)(H:Hp):V->PyData->Prop
 |non:DV K H .non .none
 |bl (b:Bool):DV K H (.bl b) (.bool b)
 |int (i:Int):DV K H (.int i) (.int i)
 |str (x:Str):DV K H (.str x) (.str x)
 |tup {a:Addr} {xs:List V} {ds:List PyData} (h:SqT K H a xs) (t:DVs K H xs ds):DV K H (.ref a) (.tuple ds)
 |lst {a:Addr} {xs:List V} {ds:List PyData} (h:SqL K H a xs) (t:DVs K H xs ds):DV K H (.ref a) (.list ds)
 |dc0 {a:Addr} (h:H a=some (.dK [])):DV K H (.ref a) (.dict [])
 |dc1 {a b:Addr} {i:Int} (h:H a=some (.dK [(Sum.inl i,.ref b)])) (t:SqT K H b []):DV K H (.ref a) (.dict [(.int i,.tuple [])])
inductive DVs(K:W.Frag)(H:Hp):List V->List PyData->Prop
 |nil:DVs K H [] []
 |cons {x:V} {d:PyData} {xs:List V} {ds:List PyData} (h:DV K H x d) (t:DVs K H xs ds):DVs K H (x::xs) (d::ds)
end
theorem Same.tup{K:W.Frag}{H H':Hp}{a:Addr}{xs:List V}(e:Same H H')(h:SqT K H a xs):SqT K H' a xs:=by
 rcases h with(h|⟨o,h⟩)|h
 ·exact .inl (.inl (e _ _ h))
 ·exact .inl (.inr ⟨o,e _ _ h⟩)
 ·exact .inr h
theorem DVs.same{K:W.Frag}{H H':Hp}(e:Same H H'){xs:List V}{ds:List PyData}(h:DVs K H xs ds):DVs K H' xs ds:=
 DVs.rec (motive_1:=fun x d _=>DV K H' x d) (motive_2:=fun xs ds _=>DVs K H' xs ds) .non (fun b=> .bl b) (fun i=> .int i) (fun x=> .str x) (fun h _ t=> .tup (e.tup h) t) (fun h _ t=> .lst (e.seq h) t) (fun h=> .dc0 (e _ _ h)) (fun h t=> .dc1 (e _ _ h) (e.tup t)) .nil (fun _ _ h t=> .cons h t) h
theorem pairs_nil{P:Program}{w:World}{es:List DictEntry}(h:Pairs (mixKind P w) es []):es=[]:=by
 cases h;rfl
theorem pairs_one{P:Program}{w:World}{es:List DictEntry}{k:Key}{u:Value}(h:Pairs (mixKind P w) es [(k,u)]):∃e,es=[e]/\keyIs k e.key=true/\e.val=u:=by
 cases h with
 |cons h1 h2 h3=>
  cases h3
  exact⟨_,rfl,h1,h2⟩
section
variable{X:Cx}{pins:List (Addr×Obj)}{σ:St}{H:Hp}{s:Shared}
theorem dc0_reads(I:Inv X pins σ H s){a:Addr}(h:H a=some (.dK [])):Reads s.heap (.ref a) (.dict []) (a::[]++[])/\(a==sysModules)=false:=by
 obtain⟨_,hne,vs,r0,o,es,ep,e,c,d,_,pr,_⟩:=I.hok _ _ h
 cases r0
 have hes:es.toList=[]:=pairs_nil pr
 refine⟨.dict (kvs:=[]) (as:=[]) (bs:=[]) e c.1 d ?_ ?_,hne⟩
 ·rw[hes];exact .nil
 ·rw[hes];exact .nil
theorem dc1_reads(I:Inv X pins σ H s){a b:Addr}{i:Int}(h:H a=some (.dK [(Sum.inl i,.ref b)]))(t:SqT X.K H b []):Reads s.heap (.ref a) (.dict [(.int i,.tuple [])]) (a::([]++[])++([]++[]))/\(a==sysModules)=false:=by
 obtain⟨_,hne,vs,r0,o,es,ep,e,c,d,_,pr,_⟩:=I.hok _ _ h
 obtain⟨its,rv,⟨o2,e2,c2,n2,d2⟩,_⟩:=I.tuple t
 cases rv
 cases r0 with
 | @cons p q ps qs hq tl=>
  cases tl
  obtain⟨en,he,hk,hv⟩:=pairs_one pr
  obtain⟨k,u⟩:=q
  dsimp only at hq
  obtain⟨hk1,hu1⟩:=hq
  subst hk1
  cases hu1
  obtain⟨tk,ek⟩:∃tk,en.key=Value.int i tk:=by
   rcases zbd hk with⟨i',t',e3,e4⟩|⟨x,t',e3,e4⟩
   ·cases e3;exact⟨t',e4⟩
   ·cases e3
  refine⟨.dict (kvs:=[(.int i,.tuple [])]) (as:=[]++[]) (bs:=[]++[]) e c.1 d ?_ ?_,hne⟩
  ·rw[he]
   show ReadsAll s.heap [en.key] [PyData.int i] _
   rw[ek]
   exact .cons (.int i tk) .nil
  ·rw[he]
   show ReadsAll s.heap [en.val] [PyData.tuple []] _
   rw[hv]
   exact .cons (.tuple e2 c2 d2 .nil) .nil
end
section
variable{X:Cx}{pins:List (Addr×Obj)}{σ:St}{H:Hp}{s:Shared}
theorem reads_tup(I:Inv X pins σ H s){a:Addr}{xs:List V}{ds:List PyData}(h:SqT X.K H a xs)(t:∀{us:List Value},Vals xs us->∃as,ReadsAll s.heap us ds as){u:Value}(r:RelV (.ref a) u):∃as,Reads s.heap u (.tuple ds) as:=by
 cases r
 obtain⟨its,rv,⟨o,e,c,n,d⟩,_⟩:=I.tuple h
 obtain⟨as,ra⟩:=t rv
 exact⟨_,.tuple e c d (by simpa using ra)⟩
theorem reads_lst(I:Inv X pins σ H s){a:Addr}{xs:List V}{ds:List PyData}(h:SqL X.K H a xs)(t:∀{us:List Value},Vals xs us->∃as,ReadsAll s.heap us ds as){u:Value}(r:RelV (.ref a) u):∃as,Reads s.heap u (.list ds) as:=by
 cases r
 obtain⟨its,rv,⟨o,n,e,c,_,d⟩,_⟩:=I.list h
 obtain⟨as,ra⟩:=t rv
 exact⟨_,.list e c d (by simpa using ra)⟩
theorem DV.reads(I:Inv X pins σ H s){x:V}{d:PyData}{u:Value}(h:DV X.K H x d)(r:RelV x u):∃as,Reads s.heap u d as:=
 DV.rec (motive_1:=fun x d _=>∀{u:Value},RelV x u->∃as,Reads s.heap u d as) (motive_2:=fun xs ds _=>∀{us:List Value},Vals xs us->∃as,ReadsAll s.heap us ds as)
  (fun r=>by cases r;exact⟨_,.none⟩) (fun b _ r=>by cases r;exact⟨_,.bool b⟩) (fun i _ r=>by obtain⟨t,rfl⟩:=r;exact⟨_,.int i t⟩) (fun x _ r=>by obtain⟨t,rfl⟩:=r;exact⟨_,.str x t⟩)
  (fun h _ t _ r=>reads_tup I h t r) (fun h _ t _ r=>reads_lst I h t r) (fun h _ r=>by cases r;exact⟨_,(dc0_reads I h).1⟩) (fun h t _ r=>by cases r;exact⟨_,(dc1_reads I h t).1⟩)
  (fun r=>by cases r;exact⟨_,.nil⟩) (fun _ _ h t _ r=>by
   cases r with
   |cons r rr=>
    obtain⟨as,ra⟩:=h r
    obtain⟨bs,rb⟩:=t rr
    exact⟨_,.cons ra rb⟩) h r
theorem DVs.reads(I:Inv X pins σ H s){xs:List V}{ds:List PyData}{us:List Value}(h:DVs X.K H xs ds)(r:Vals xs us):∃as,ReadsAll s.heap us ds as:=
 DVs.rec (motive_1:=fun _ _ _=>True) (motive_2:=fun xs ds _=>∀{us:List Value},Vals xs us->∃as,ReadsAll s.heap us ds as) trivial (fun _=>trivial) (fun _=>trivial) (fun _=>trivial) (fun _ _ _=>trivial) (fun _ _ _=>trivial) (fun _=>trivial) (fun _ _=>trivial)
  (fun r=>by cases r;exact⟨_,.nil⟩) (fun h _ _ t _ r=>by
   cases r with
   |cons r rr=>
    obtain⟨as,ra⟩:=DV.reads I h r
    obtain⟨bs,rb⟩:=t rr
    exact⟨_,.cons ra rb⟩) h r
end
mutual
noncomputable def noL:PyData->Bool
 | .list _=>false
 | .tuple ds=>noLs ds
 |_=>true
noncomputable def noLs:List PyData->Bool
 |[]=>true
 |d::ds=>noL d&&noLs ds
end
section
variable{X:Cx}{pins:List (Addr×Obj)}{σ:St}{H:Hp}{s:Shared}
end
theorem DVs.ints{K:W.Frag}{H:Hp}:∀(ns:List Int),DVs K H (ns.map V.int) (ns.map PyData.int)
 |[]=> .nil
 |n::ns=> .cons (.int n) (DVs.ints ns)
theorem DVs.len{K:W.Frag}{H:Hp}{xs:List V}{ds:List PyData}(h:DVs K H xs ds):xs.length=ds.length:=
 DVs.rec (motive_1:=fun _ _ _=>True) (motive_2:=fun xs ds _=>xs.length=ds.length) trivial (fun _=>trivial) (fun _=>trivial) (fun _=>trivial) (fun _ _ _=>trivial) (fun _ _ _=>trivial) (fun _=>trivial) (fun _ _=>trivial) rfl (fun _ _ _ t=>congrArg Nat.succ t) h
section
variable{X:Cx}
theorem op_neD(hu:X.A.units+64<cLine):OpR X (compareOp .NotEq) (fun x y H Q=>∃da db,DV X.K H x da/\DV X.K H y db/\da.canLay0=true/\db.canLay0=true/\min da.depth db.depth<=64/\Q (.bl (!PyData.eqv da db)) H):=by
 intro pins s σ H x y v u Q I rx ry h
 obtain⟨da,db,hx,hy,ca,cb,hd,q⟩:=h
 obtain⟨as,ra⟩:=DV.reads I hx rx
 obtain⟨bs,rb⟩:=DV.reads I hy ry
 exact SeqAt.rcNeAt_reads ra rb ca cb (by omega) _ _ _ _ ⟨.bl _,H,I,rfl,q⟩
theorem allLay:∀{ds:List PyData},PyData.canLayAll0 ds=true->∀d∈ds,d.canLay0=true
 |[],_,d,h=>nomatch h
 |e::ds,h,d,hd=>by
  have h':(e.canLay0&&PyData.canLayAll0 ds)=true:=h
  rw[Bool.and_eq_true]at h'
  rcases yam.mp hd with rfl|hd
  ·exact h'.1
  ·exact allLay h'.2 d hd
open Classical in
theorem op_inD(hu:X.A.units+64<cLine):OpR X (compareOp .In) (fun x y H Q=>∃(p:Addr) (xs:List V) (ds:List PyData) (dx:PyData),y= .ref p/\(SqL X.K H p xs\/SqT X.K H p xs)/\DVs X.K H xs ds/\DV X.K H x dx/\PyData.canLayAll0 ds=true/\dx.canLay0=true/\dx.depth<=60/\
  Q (.bl (ds.any fun d=>PyData.eqv d dx)) H):=by
 intro pins s σ H x y v u Q I rx ry h
 obtain⟨p,xs,ds,dx,rfl,hq,hds,hx,ca,cb,hd,q⟩:=h
 cases ry
 obtain⟨bs,rb⟩:=DV.reads I hx rx
 have key:∀{its:List Value},Vals xs its->(∀y∈its,SeqAt.EqAt X.A.in1 s y v (decide (∃d as,Reads s.heap y d as/\d∈ds/\PyData.eqv d dx=true)))/\(its.any fun y=>decide (∃d as,Reads s.heap y d as/\d∈ds/\PyData.eqv d dx=true))=ds.any fun d=>PyData.eqv d dx:=by
  intro its rv
  obtain⟨as,ra⟩:=DVs.reads I hds rv
  have each:∀{us:List Value} {es:List PyData} {as:List Addr},ReadsAll s.heap us es as->(∀e∈es,e∈ds)->(∀y∈us,SeqAt.EqAt X.A.in1 s y v (decide (∃d as,Reads s.heap y d as/\d∈ds/\PyData.eqv d dx=true)))/\(us.any fun y=>decide (∃d as,Reads s.heap y d as/\d∈ds/\PyData.eqv d dx=true))=es.any fun d=>PyData.eqv d dx:=by
   intro us
   induction us with
   |nil=>intro es as h _;cases h;exact⟨(fun y hy=>(nomatch hy)),rfl⟩
   |cons y us ih=>
    intro es as h hs
    cases h with
    | @cons _ _ d ds' as' bs' r rr=>
     obtain⟨i1,i2⟩:=ih rr fun e he=>hs e (yae _ he)
     have cl:=allLay ca d (hs d yah)
     have e:decide (∃d as,Reads s.heap y d as/\d∈ds/\PyData.eqv d dx=true)=PyData.eqv d dx:=by
      rw[Bool.eq_iff_iff,decide_eq_true_eq]
      constructor
      ·rintro⟨d',as'',r',_,q'⟩
       obtain⟨rfl,_⟩:=(PySem.Reads.unique r _ _ r')
       exact q'
      ·intro q'
       exact⟨d,_,r,hs d yah,q'⟩
     refine⟨fun z hz=> ?_,?_⟩
     ·rcases yam.mp hz with rfl|hz
      ·rw[e]
       exact SeqAt.eqAt_reads d dx _ s _ _ _ _ r rb cl cb (by show X.A.units+1+min d.depth dx.depth<cLine;omega)
      ·exact i1 z hz
     ·rw[ydq,ydq,i2,e]
  exact each ra fun e he=>he
 rcases hq with hq|hq
 ·obtain⟨its,r,pl,hz⟩:=I.list hq
  obtain⟨k1,k2⟩:=key r
  refine SeqAt.in_listAt _ pl.isList (fun w hw=>k1 w (by simpa using hw)) ⟨.bl _,H,I,rfl,?_⟩
  rw[show∀f:Value->Bool,its.toArray.any f=its.any f from fun f=>by simp,k2]
  exact q
 ·obtain⟨its,r,pl,hz⟩:=I.tuple hq
  obtain⟨k1,k2⟩:=key r
  refine SeqAt.in_tupleAt _ pl (fun w hw=>k1 w (by simpa using hw)) ⟨.bl _,H,I,rfl,?_⟩
  rw[show∀f:Value->Bool,its.toArray.any f=its.any f from fun f=>by simp,k2]
  exact q
end
end L2
namespace HT
open PySem PyProof.Rows
section
open PySem.SeqAt
open PySem.AutoSeq1 (wpAny_loadPart')
open PySem.MeetsSeq PySem.MeetsSeq2 PySem.MeetsSeq3
end
section
variable{prog:Program}{w:World}{A:Around}{E:Value->Shared->Prop}{s:Shared}
theorem getItem_tuple_whole{t sl:Addr}{items:Array Value}{vl vu:Value}{lo hi:Option Int}{Q:Value->Shared->Prop}(ht:IsTup s.heap t items)(hs:s.heap.IsSliceOf sl vl vu .none)(pl:IsPart vl lo)(pu:IsPart vu hi)(hw:sIx items.size 0 lo=0/\sIx items.size items.size hi=items.size)(h:Q (.ref t) s):wpAny (model prog w) A (getItem (.ref t) (.ref sl)) Q E s:=by
 obtain⟨os,hos,hcs,hds⟩:=id hs
 have hTs:s.TypeIs (.ref sl) "slice":=⟨os,hos,hcs⟩
 unfold getItem
 try with_reducible refine wpAny_holding ?_
 first |refine wpAny_bind (wpAny_pure ?_)|skip
 refine wpAny_bind (wpAny_sequenceKey ht.typeIs (by decide) ?_)
 refine wpAny_bind (wpAny_callSpecial?_slot (name:=Str.ofString "__getitem__") ht.typeIs PyProof.Rows.slot_tuple_getitem
  (wpAny_call_entry PyProof.Rows.slot_tuple_getitem ht.typeIs entry_tuple_getitem ?_ (args_tuple_getitem _ _)))
 show wpAny _ _ (Builtin.Tuple.tupleItemsOf (.ref t)>>=_) _ _ s
 refine wpAny_bind (tupleItemsOf_ ht ?_)
 refine wpAny_bind (wpAny_typeOf hTs ?_)
 rw[if_pos (by decide)]
 refine wpAny_bind (sliceApplied_gen hs pl pu ?_)
 have hyes:((((sIx items.size 0 lo:Nat):Int)==0&&(1:Int)==1&&(sIx items.size items.size hi-sIx items.size 0 lo)==items.size)=true):=by
  rw[hw.1,hw.2];simp
 show wpAny _ _ (if(((sIx items.size 0 lo:Nat):Int)==0&&(1:Int)==1&&(sIx items.size items.size hi-sIx items.size 0 lo)==items.size)=true then _ else _) _ _ s
 rw[if_pos hyes]
 obtain⟨o,ho,hc,n,hd⟩:=id ht
 refine wpAny_bind ?_
 show wpAny _ _ (Builtin.Tuple.tupleIsExact (.ref t)) _ _ s
 unfold Builtin.Tuple.tupleIsExact
 refine wpAny_bind (wpAny_typeOf ht.typeIs ?_)
 refine wpAny_pure ?_
 rw[if_pos (by decide)]
 first
  |exact wpAny_bind (wpAny_rule (wpAny_bind (wpAny_pure ⟨_,rfl,wpAny_pure h⟩)))
  |exact wpAny_bind (wpAny_rule (wpAny_pure ⟨_,rfl,wpAny_pure h⟩))
  |exact wpAny_bind (wpAny_rule (wpAny_bind (wpAny_pure (wpAny_pure ⟨_,rfl,wpAny_pure h⟩))))
  |(trace_state;exact wpAny_bind (wpAny_bind (wpAny_rule (wpAny_pure ⟨_,rfl,wpAny_pure h⟩))))
end
end HT
namespace L2
open PySem PySem.Spec PyProof.Rows
section
variable{X:Cx}
theorem op_fdivL:OpR X (binaryOp .FloorDiv) (rI (fun _ j=>0<j/\j<1000000000000000000000000000000) fun i j=> .int (i/j)):=opI fun i j _ _ _ _ _ hc q=>by
 have h1:(0:Int)<j:=hc.1
 have h2:j<1000000000000000000000000000000:=hc.2
 refine floordiv_int (by omega) ?_ (Or.inl (PyProof.noPylong_of_log2 ?_))
 ·rw[yec _ (by omega)]
  exact q
 ·have h3:j.natAbs≠0:=by omega
  have h4:j.natAbs<2^100:=by
   have:(2:Nat)^100=1267650600228229401496703205376:=by decide
   omega
  have:=(Nat.log2_lt h3).mpr h4
  omega
noncomputable def rCatE(K:W.Frag):R2:=fun x y H Q=>∃a b xs ys,x= .ref a/\y= .ref b/\SqT K H a xs/\SqT K H b ys/\xs.length+ys.length<=sizeLine/\∀r H',Same H H'->SqT K H' r (xs++ys)->Q (.ref r) H'
theorem op_catE:OpR X (binaryOp .Add) (rCatE X.K):=by
 intro pins s σ H x y v u Q I rx ry h
 obtain⟨a,b,xs,ys,rfl,rfl,ha,hb,hz,q⟩:=h
 by_cases hx:xs=[]
 ·subst hx
  cases rx
  cases ry
  obtain⟨its,r1,p1,_⟩:=I.tuple ha
  obtain⟨its2,r2,p2,_⟩:=I.tuple hb
  cases r1
  obtain⟨⟨cls,dd,data,sl⟩,ho,hc,n,hd⟩:=id p1
  obtain⟨⟨cls2,dd2,data2,sl2⟩,ho2,hc2,n2,hd2⟩:=id p2
  simp only at hc hd hc2 hd2
  subst hc hd hc2 hd2
  exact concat_meets ⟨_,ho,rfl⟩ ⟨_,ho2,rfl⟩ noFill_tuple_add seq_tuple_add PySem.F.slot_tuple_add PySem.F.entry_tuple_add (PySem.F.args_tuple_add_2 _ _)
   (tuple_addW0 a b _ _ n n2 dd dd2 sl sl2 (by simp)) ⟨ho,ho2,⟨.ref b,H,I,rfl,q b H (Same.refl _) hb⟩⟩
 ·refine op_catT pins s σ H _ _ v u Q I rx ry ⟨a,b,xs,ys,rfl,rfl,ha,hb,hx,hz,fun e=> ?_,fun e p hp=> ?_⟩
  ·subst e
   exact q a H (Same.refl _) (by rw[ybr];exact ha)
  ·exact q p _ (fun c o e=>by rw[zaj (zah e hp)];exact e) (SqT.of zab)
noncomputable def rSlE(K:W.Frag):V->Option Int->Option Int->Hp->VK->Prop:=fun x lo hi H Q=>∃a xs,x= .ref a/\SqT K H a xs/\∀r H',Same H H'->SqT K H' r (cutV xs lo hi)->Q (.ref r) H'
theorem sl_tupE:SlR X (rSlE X.K):=by
 intro pins s σ H x v vl vu lo hi sl Q I rx hs pl pu h
 obtain⟨a,xs,rfl,hx,q⟩:=h
 by_cases hw:HT.sIx xs.length 0 lo=0/\HT.sIx xs.length xs.length hi=xs.length
 ·cases rx
  obtain⟨its,r,ht,hz⟩:=I.tuple hx
  have hlen:its.toArray.size=xs.length:=by rw[yak];exact r.length.symm
  refine⟨"tuple",_,PyProof.Rows.slot_tuple_getitem.lookup,ht.typeIs,?_⟩
  refine HT.getItem_tuple_whole ht hs pl pu (by rw[hlen];exact hw) ⟨.ref a,H,I,rfl,q a H (Same.refl _) ?_⟩
  have e:cutV xs lo hi=xs:=by
   unfold cutV
   rw[hw.1,hw.2]
   simp
  rw[e];exact hx
 ·exact sl_tup pins s σ H _ v vl vu lo hi sl Q I rx hs pl pu ⟨a,xs,rfl,hx,hw,fun p hp=>q p _ (fun c o e=>by rw[zaj (zah e hp)];exact e) (SqT.of zab)⟩
end
end L2
namespace HT
open PySem PySem.Calls PySem.Spec PyProof.Rows PySem.W
section
variable{prog:Program}{w:World}{A:Around}{E:Value->Shared->Prop}{s:Shared}
end
end HT
namespace L2
open PySem PySem.Spec PyProof.Rows
section
variable{X:Cx}{e m:Expr}{te:TE}{tm:TO}{pos p2:Pos}
end
section
variable{X:Cx}{tg:Expr}
noncomputable def iListL(K:W.Frag)(tl:TE):TI:=fun σ H R=>tl σ H fun x H1=>∃a xs,x= .ref a/\SqL K H1 a xs/\(xs.length<=sizeLine->R (Itl K a) H1)
noncomputable def iTupL(K:W.Frag)(tl:TE):TI:=fun σ H R=>tl σ H fun x H1=>∃a xs,x= .ref a/\SqT K H1 a xs/\(xs.length<=sizeLine->R (Itt K a) H1)
theorem zcm{l:Expr}{tl:TE}(hl:PE X l tl):PI X tg l (iListL X.K tl):=by
 intro pins s σ H R I h
 refine thn (hl pins s σ H _ I h) fun v s1 ⟨x,H1,I1,r1,q1⟩=> ?_
 obtain⟨a,xs,e,hq,q⟩:=q1
 subst e
 cases r1
 obtain⟨its,rv,p,hz⟩:=I1.list hq
 refine wpAny_pyIter_list p.isList ?_
 refine⟨s1.heap.objs.size,[s1.heap.objs.size],_,_,H1,rfl,I1.kept (t':=s1.toks) fun b o e=>yab _ e,turn_list a _,⟨_,yao _ rfl,rfl,rfl⟩,fun b hb=> ?_,q hz⟩
 have e:b=s1.heap.objs.size:=by simpa using hb
 subst e
 exact I1.fpOk (yac _) (I1.hok.fresh (yac _))
theorem pi_tupL{l:Expr}{tl:TE}(hl:PE X l tl):PI X tg l (iTupL X.K tl):=by
 intro pins s σ H R I h
 refine thn (hl pins s σ H _ I h) fun v s1 ⟨x,H1,I1,r1,q1⟩=> ?_
 obtain⟨a,xs,e,hq,q⟩:=q1
 subst e
 cases r1
 obtain⟨its,rv,p,hz⟩:=I1.tuple hq
 refine wpAny_pyIter_tuple (show s1.heap.IsTuple a its.toArray from p) ?_
 refine⟨s1.heap.objs.size,[s1.heap.objs.size],_,_,H1,rfl,I1.kept (t':=s1.toks) fun b o e=>yab _ e,turn_tuple a _,⟨_,yao _ rfl,rfl,rfl⟩,fun b hb=> ?_,q hz⟩
 have e:b=s1.heap.objs.size:=by simpa using hb
 subst e
 exact I1.fpOk (yac _) (I1.hok.fresh (yac _))
theorem zba:CallR X (.builtin "len") (fun xs H Q=>∃p ys,xs=[.ref p]/\(SqL X.K H p ys\/SqT X.K H p ys)/\(ys.length<=16777216->Q (.int ys.length) H)):=by
 intro pins s σ H xs us Q I r h
 obtain⟨p,ys,rfl,hq,q⟩:=h
 have hz:ys.length<=16777216:=by
  rw[<-sizeLine_eq]
  rcases hq with hq|hq
  ·exact(I.list hq).choose_spec.2.2
  ·exact(I.tuple hq).choose_spec.2.2
 exact call_len_seq pins s σ H _ us Q I r ⟨p,ys,rfl,hq,q hz⟩
end
mutual
inductive DX(K:W.Frag)(H:Hp):V->PyData->Prop
 |non:DX K H .non .none
 |bl (b:Bool):DX K H (.bl b) (.bool b)
 |int (i:Int):DX K H (.int i) (.int i)
 |str (x:Str):DX K H (.str x) (.str x)
 |tup {a:Addr} {xs:List V} {ds:List PyData} (h:SqT K H a xs) (t:DXs K H xs ds):DX K H (.ref a) (.tuple ds)
 |lst {a:Addr} {xs:List V} {ds:List PyData} (h:SqL K H a xs) (t:DXs K H xs ds):DX K H (.ref a) (.list ds)
 |dct {a:Addr} {kvs:List (Key×V)} (ds:List (PyData×PyData)) (h:H a=some (.dK kvs)):DX K H (.ref a) (.dict ds)
inductive DXs(K:W.Frag)(H:Hp):List V->List PyData->Prop
 |nil:DXs K H [] []
 |cons {x:V} {d:PyData} {xs:List V} {ds:List PyData} (h:DX K H x d) (t:DXs K H xs ds):DXs K H (x::xs) (d::ds)
end
theorem DX.same{K:W.Frag}{H H':Hp}(e:Same H H'){x:V}{d:PyData}(h:DX K H x d):DX K H' x d:=
 DX.rec (motive_1:=fun x d _=>DX K H' x d) (motive_2:=fun xs ds _=>DXs K H' xs ds) .non (fun b=> .bl b) (fun i=> .int i) (fun x=> .str x) (fun h _ t=> .tup (e.tup h) t) (fun h _ t=> .lst (e.seq h) t) (fun ds h=> .dct ds (e _ _ h)) .nil (fun _ _ h t=> .cons h t) h
theorem DXs.same{K:W.Frag}{H H':Hp}(e:Same H H'){xs:List V}{ds:List PyData}(h:DXs K H xs ds):DXs K H' xs ds:=
 DXs.rec (motive_1:=fun x d _=>DX K H' x d) (motive_2:=fun xs ds _=>DXs K H' xs ds) .non (fun b=> .bl b) (fun i=> .int i) (fun x=> .str x) (fun h _ t=> .tup (e.tup h) t) (fun h _ t=> .lst (e.seq h) t) (fun ds h=> .dct ds (e _ _ h)) .nil (fun _ _ h t=> .cons h t) h
theorem DV.dx{K:W.Frag}{H:Hp}{x:V}{d:PyData}(h:DV K H x d):DX K H x d:=
 DV.rec (motive_1:=fun x d _=>DX K H x d) (motive_2:=fun xs ds _=>DXs K H xs ds) .non (fun b=> .bl b) (fun i=> .int i) (fun x=> .str x) (fun h _ t=> .tup h t) (fun h _ t=> .lst h t) (fun h=> .dct [] h) (fun h _=> .dct _ h) .nil (fun _ _ h t=> .cons h t) h
noncomputable def kindD:PyData->String
 | .none=>"NoneType"
 | .bool _=>"bool"
 | .int _=>"int"
 | .str _=>"str"
 | .list _=>"list"
 | .tuple _=>"tuple"
 | .dict _=>"dict"
theorem DX.kind{K:W.Frag}{H:Hp}:∀{x:V} {d:PyData},DX K H x d->KindV K H x (kindD d)
 |_,_,.non=>rfl
 |_,_,.bl _=>rfl
 |_,_,.int _=>rfl
 |_,_,.str _=>rfl
 |_,_,.tup h _=> .inl ⟨rfl,_,h⟩
 |_,_,.lst h _=> .inr (.inl ⟨rfl,_,h⟩)
 |_,_,.dct _ h=> .inr (.inr ⟨rfl,_,h⟩)
theorem DXs.len{K:W.Frag}{H:Hp}{xs:List V}{ds:List PyData}(h:DXs K H xs ds):xs.length=ds.length:=
 DXs.rec (motive_1:=fun _ _ _=>True) (motive_2:=fun xs ds _=>xs.length=ds.length) trivial (fun _=>trivial) (fun _=>trivial) (fun _=>trivial) (fun _ _ _=>trivial) (fun _ _ _=>trivial) (fun _ _=>trivial) rfl (fun _ _ _ t=>congrArg Nat.succ t) h
theorem DXs.get{K:W.Frag}{H:Hp}:∀{xs:List V} {ds:List PyData} {i:Nat} {x:V},DXs K H xs ds->xs[i]? =some x->∃d,ds[i]? =some d/\DX K H x d
 |_,_,_,_,.nil,e=>by simp at e
 |_,_,0,_,.cons h _,e=>by simp at e;subst e;exact⟨_,rfl,h⟩
 |_,_,i+1,x,.cons _ t,e=>by
  obtain⟨d,h1,h2⟩:=DXs.get (i:=i) t (by simpa using e)
  exact⟨d,by simpa using h1,h2⟩
structure Dfn(K:W.Frag)(mg:Str->Option Value)(x:Str)(st:Stmt)(ps:List Str)(f:Addr)(fd:FuncData):Prop where
 F:Fun K x x st f fd
 b:Binds K fd ps []
 m:mg x=some (.ref f)
theorem pc{X:Cx}{x:Str}{st:Stmt}{ps:List Str}{f:Addr}{fd:FuncData}{j k:Nat}{sp:Sp}{E:XK}{e:Expr}{es:List Expr}{t:TA}{p pos:Pos}(F:FnOk X.prog X.w X.K X.mg X.base CX0 j f fd ps sp)(hr:Room k X.A)(D:Dfn X.K X.mg x st ps f fd)(ha:PA X (e::es) t)(hj:j<=k:=by decide)(hg:Gl X x:=by rfl)(hx:Passes CX0 X E:=by exact pass0)(hdb:(x==("__debug__":Str))=false:=by decide)(he:starEach (e::es) X.env=(false,eval e X.env)::starEach es X.env:=by rfl)(hpl:(backTo pos (starEach es X.env)).any (·.1)=false:=by rfl):PE X (.Call (.Name x p) (e::es) [] pos) (tCall sp [] E t):=pe_call (F.mono hj) hr hg D.m D.F.kp D.b .nil hx ha hdb he hpl
theorem fsc{N P:List Str}{sc:Scope}(a:sc.kind= .function:=by rfl)(b:sc.isCoroutine=false:=by rfl)(c:sc.isGenerator=false:=by rfl)(d:N.Nodup:=by decide+kernel)(e:N.take P.length=P:=by rfl)(f:∀x∈P,sc.names.lookup x=some .local\/sc.names.lookup x=some .cell:=by decide+kernel)(g:∀y∈sc.names,y.2≠.free:=by decide+kernel):FnScope N P sc:=⟨a,b,c,d,e,f,g⟩
theorem zad{H:Hp}{p:Addr}(h:H p=none)(o:HO):Same H (upd H p o):=fun b u q=>by rw[zaj (zah q h)];exact q
end L2
namespace HsD
open PySem L2
noncomputable def wholeD:PyData->Bool
 | .int _=>true
 |_=>false
noncomputable def placeD(n:Int):PyData->Bool
 | .int i=>decide (0<=i)&&decide (i<n)
 |_=>false
noncomputable def intD:PyData->Int
 | .int i=>i
 |_=>0
noncomputable def kids:PyData->List PyData
 | .tuple ds=>ds
 |_=>[]
noncomputable def risesI(ns:List Int):Bool:=(List.range (ns.length-1)).all fun k=>decide (ns.getD k 0<ns.getD (k+1) 0)
noncomputable def risesT(ts:List (List Int)):Bool:=(List.range (ts.length-1)).all fun k=>HT.lexLt (ts.getD k []) (ts.getD (k+1) [])
noncomputable def setD(n:Int):PyData->Bool
 | .tuple ds=>ds.all (placeD n)&&risesI (ds.map intD)
 |_=>false
noncomputable def tieD(n:Int)(d:PyData):Bool:=setD n d&&decide ((kids d).length=2)
noncomputable def tiesD(n:Int):PyData->Bool
 | .tuple ds=>ds.all (tieD n)&&risesT (ds.map fun t=>(kids t).map intD)
 |_=>false
noncomputable def webD:PyData->Bool
 | .tuple [n,t]=>wholeD n&&(decide (0<=intD n)&&decide (intD n<=10))&&tiesD (intD n) t
 |_=>false
theorem placeD_int{n:Int}:∀{d:PyData},placeD n d=true->∃i,d= .int i/\0<=i/\i<n
 | .int i,h=>⟨i,rfl,by simpa[placeD]using h⟩
end HsD
namespace L2
open PySem PySem.Spec PyProof.Rows
section
variable{X:Cx}
theorem ix_tupK(K:W.Frag)(h:X.K=K:=by rfl):IxR X (rIxT K):=by subst h;exact zat
theorem ix_listK(K:W.Frag)(h:X.K=K:=by rfl):IxR X (rIxL K):=by subst h;exact zau
theorem call_lenK(K:W.Frag)(h:X.K=K:=by rfl):CallR X (.builtin "len") (fun xs H Q=>∃p ys,xs=[.ref p]/\(SqL K H p ys\/SqT K H p ys)/\(ys.length<=16777216->Q (.int ys.length) H)):=by subst h;exact zba
theorem op_ltTK(K:W.Frag)(hu:X.A.units<cLine)(h:X.K=K:=by rfl):OpR X (compareOp .Lt) (rLtT K):=by subst h;exact op_ltT hu
theorem op_inDK(K:W.Frag)(hu:X.A.units+64<cLine)(h:X.K=K:=by rfl):OpR X (compareOp .In) (fun x y H Q=>∃(p:Addr) (xs:List V) (ds:List PyData) (dx:PyData),y= .ref p/\(SqL K H p xs\/SqT K H p xs)/\DVs K H xs ds/\DV K H x dx/\PyData.canLayAll0 ds=true/\dx.canLay0=true/\dx.depth<=60/\
  Q (.bl (ds.any fun d=>PyData.eqv d dx)) H):=by subst h;exact op_inD hu
theorem pg_tupK(K:W.Frag){es:List Expr}{k:Nat}{t:TGs}{n:Nat}{pos:Pos}(hc:X.calm=true)(h:PGs X es t)(hn:(assignEach es X.env).length=n:=by rfl)(hst:(assignEach es X.env).findIdx? (·.1)=none:=by rfl)(hK:X.K=K:=by rfl):PG X (.Tuple es k pos) (gTup K n t):=by subst hK;exact pg_tup hc h hn hst
end
end L2
namespace PySem
open Sem (wp)
open AutoSeq1 (wpAny_loadPart')
section
variable{prog:Program}{w:World}{A:Around}{E:Value->Shared->Prop}{s:Shared}
theorem wpAny_collect_range{Q:List Value->Shared->Prop}{r:Addr}{a b c:Int}{t u v:Tok}{n:Nat}(hh:A.handled=none)(hr:IsRange s.heap r a b c t u v)(hsmall:Builtin.Range.small a b c=true)(hn:Builtin.Range.rangeSize a b c=n)(hlen:n<=2^24)(hQ:∀h' tk acc,(∀b o',s.heap.get? b=some o'->h'.get? b=some o')->ItemsOf (fun i v=>∃t,v= .int (a+i*c) t) acc n->Q acc.toList {s with heap:=h',toks:=tk}):
  wpAny (model prog w) A (collect (.ref r)) Q E s:=by
 unfold collect
 refine wpAny_bind (wpAny_runValue (codeAny_builtin F.entry_proto_collect ?_));rw[Around.under_plainId F.plain_proto_collect _];show wpAny _ A.in1 (newList []>>=fun l=>again (.builtin "list.__iadd__" ⟨[l,.ref r],[]⟩)) _ _ s;refine wpAny_bind (wpAny_newObj_type ?_);refine wpAny_pure ⟨plainId_quiet F.plain_list_iadd _,codeAny_builtin F.entry_list_iadd ?_⟩;rw[Around.under_plainId F.plain_list_iadd _]
 show wpAny _ A.in1 (Builtin.List.listExtendWith (.ref s.heap.objs.size) (.ref r) (.ref s.heap.objs.size)) _ _ _;have hS:(s.heap.push {cls:= .type "list",data:= .seq ([]:List Value).toArray}).get? s.heap.objs.size=some {cls:= .type "list",data:= .seq #[] 0}:=yao _ rfl;have fin':∀h' tk acc' c',(∀b o,b≠s.heap.objs.size->(s.heap.push {cls:= .type "list",data:= .seq ([]:List Value).toArray}).get? b=some o->h'.get? b=some o)->
   h'.get? s.heap.objs.size=some {cls:= .type "list",dict:=none,data:= .seq acc' c',slots:=#[]}->ItemsOf (fun i v=>∃t,v= .int (a+i*c) t) acc' n->wpAny (model prog w) A (match Value.ref s.heap.objs.size with
   |Value.ref a=>do
    match(<-load a).data with
     |Data.seq xs _=>pure xs.toList
     |_=>unsupported "internal:collect"
   |_=>unsupported "internal:collect") Q E {s with heap:=h',toks:=tk}:=fun h' tk acc' c' hk hS' hacc=>by
  show wpAny _ A (load s.heap.objs.size>>=_) _ _ _
  refine wpAny_bind (wpAny_load hS' ?_)
  refine wpAny_pure ?_
  exact hQ h' tk acc' (fun b o e=>hk b o (yau (yap e)) (yab _ e)) hacc
 refine wpAny_mono (wpAny_extend_range (A:=A) (R:=fun r s'=>r= .ok (.ret (.ref s.heap.objs.size))/\∃h' tk acc' c',s'={s with heap:=h',toks:=tk}/\(∀b o,b≠s.heap.objs.size->(s.heap.push {cls:= .type "list",data:= .seq ([]:List Value).toArray}).get? b=some o->h'.get? b=some o)/\
   h'.get? s.heap.objs.size=some {cls:= .type "list",dict:=none,data:= .seq acc' c',slots:=#[]}/\ItemsOf (fun i v=>∃t,v= .int (a+i*c) t) acc' n) (s:={s with heap:=s.heap.push {cls:= .type "list",data:= .seq ([]:List Value).toArray}}) hh (yab _ hr) hsmall hn hlen s.heap.objs.size (.ref s.heap.objs.size) 0 hS (fun h' tk acc' c' hk hS' hacc=>⟨rfl,h',tk,acc',c',rfl,hk,hS',hacc⟩)) (fun fin s' h=> ?_) (fun e s' h=> ?_)
 ·cases fin with
  |done f=>
   obtain⟨e,h',tk,acc',c',rfl,h1,h2,h3⟩:=h
   cases e
   exact fin' h' tk acc' c' h1 h2 h3
  |again c'=>exact⟨h.1,codeAny_mono h.2 fun r s'' hr=>by obtain⟨rfl,h',tk,acc',c',rfl,h1,h2,h3⟩:=hr;exact fin' h' tk acc' c' h1 h2 h3⟩
 ·exact absurd h.1 (by simp)
end
theorem meets_tuple_new_range(r:Addr)(a b c:Int)(t u v:Tok)(n:Nat)(hsmall:Builtin.Range.small a b c=true)(hn:Builtin.Range.rangeSize a b c=n)(hlen:n<=2^24):
  Meets (Builtin.«tuple.__new__» ⟨[.type "tuple",.ref r],[]⟩)
   (fun A R s=>A.handled=none/\IsRange s.heap r a b c t u v/\∀(h':Heap) tk acc,(∀b o',s.heap.get? b=some o'->h'.get? b=some o')->ItemsOf (fun i v=>∃t,v= .int (a+i*c) t) acc n->R (.ok (.ret (.ref h'.objs.size))) {s with heap:=h'.push {cls:= .type "tuple",data:= .seq acc},toks:=tk}):=
 .of_wp fun prog w A R s h=>by
  obtain⟨hp,g,d,tk,os⟩:=s;obtain⟨hh,ht,h⟩:=h
  have hsub:=sub_tuple_self
  have hinit:=init_tuple_lookup
  have hmh:=madeHere_tuple
  have hT:Shared.TypeIs ⟨hp,g,d,tk,os⟩ (.ref r) "range":=⟨_,ht,rfl⟩
  wp_walk using wpAny_loadPart' ht,wpAny_typeOf hT,wpAny_collect_range (A:=A.in1) hh ht hsmall hn hlen
  intro h' tk' acc hk hacc
  show wpAny _ _ (Builtin.Tuple.tupleExact acc.toList.toArray>>=fun v=>ret v) _ _ _
  unfold Builtin.Tuple.tupleExact
  refine wpAny_bind (wpAny_newObj_type ?_ (by show acc.toList.toArray.size<=sizeLine;rw[sizeLine_eq];simp;rw[hacc.1];omega))
  refine wpAny_pure ⟨_,rfl,?_⟩
  have e:acc.toList.toArray=acc:=by simp
  rw[e]
  exact h h' tk' acc hk hacc
section
variable{prog:Program}{w:World}{A:Around}{E:Value->Shared->Prop}{s:Shared}
theorem call_tuple_range{Q:Value->Shared->Prop}{r:Addr}{a b c:Int}{t u v:Tok}{n:Nat}(hh:A.handled=none)(hr:IsRange s.heap r a b c t u v)(hsmall:Builtin.Range.small a b c=true)(hn:Builtin.Range.rangeSize a b c=n)(hlen:n<=2^24)(h:∀(h':Heap) tk acc,(∀b o',s.heap.get? b=some o'->h'.get? b=some o')->ItemsOf (fun i v=>∃t,v= .int (a+i*c) t) acc n->Q (.ref h'.objs.size) {s with heap:=h'.push {cls:= .type "tuple",data:= .seq acc},toks:=tk}):
  wpAny (model prog w) A (call (.type "tuple") [.ref r]) Q E s:=
 callType_new F.called_tuple (by decide) (F.typeCall_tuple_1 _) (F.newCall_tuple_1 _) (fun obj=>F.args_object_init_2 obj _) F.entry_tuple_new
  (meets_tuple_new_range r a b c t u v n hsmall hn hlen) ⟨hh,hr,fun h' tk acc hk hacc=>⟨⟨_,yao _ rfl,rfl⟩,h h' tk acc hk hacc⟩⟩
end
end PySem
namespace L2
open PySem PySem.Spec PyProof.Rows
section
variable{X:Cx}{p p' pos pos':Pos}{a:Expr}{ta:TA}
noncomputable def tupR(n:Nat):List V:=(List.range n).map fun(k:Nat)=>V.int (k:Int)
noncomputable def tTupR(ta:TA):TE:=fun σ H Q=>ta σ H fun vs H1=>∃j:Int,vs=[.int j]/\0<=j/\j<=16777216/\∀l,H1 l=none->Q (.ref l) (upd H1 l (.tup (tupR j.toNat)))
theorem vals_items:∀{n:Nat} {us:List Value},us.length=n->(∀(j:Nat) (u:Value),us[j]? =some u->∃t:Tok,u=Value.int (0+((j:Nat):Int)*1) t)->Vals (tupR n) us:=by
 intro n us hl hi
 have go:∀(us:List Value) (k:Nat),(∀(j:Nat) (u:Value),us[j]? =some u->∃t:Tok,u=Value.int (0+((j+k:Nat):Int)*1) t)->Vals ((List.range' k us.length).map fun(k:Nat)=>V.int (k:Int)) us:=by
  intro us
  induction us with
  |nil=>intro k _;exact .nil
  |cons u us ih=>
   intro k h
   obtain⟨t,e⟩:=h 0 u rfl
   refine .cons ⟨t,?_⟩ (ih (k+1) fun j u' hj=> ?_)
   ·rw[e];congr 1;omega
   ·obtain⟨t',e'⟩:=h (j+1) u' (by simpa using hj)
    refine⟨t',?_⟩
    rw[e'];congr 1;omega
 have:=go us 0 (fun j u hj=>by obtain⟨t,e⟩:=hi j u hj;exact⟨t,by rw[e];rfl⟩)
 unfold tupR
 rw[List.range_eq_range',<-hl]
 exact this
theorem pe_tupRange(hc:X.calm=true)(hgT:Gl X "tuple")(hmT:X.mg "tuple"=none)(hg:Gl X "range")(hm:X.mg "range"=none)(ha:PA X [a] ta)(hs:starEach [a] X.env=[(false,eval a X.env)]:=by rfl)(hs2:starEach [Expr.Call (.Name "range" p') [a] [] pos'] X.env=[(false,eval (Expr.Call (.Name "range" p') [a] [] pos') X.env)]:=by rfl):
  PE X (.Call (.Name "tuple" p) [.Call (.Name "range" p') [a] [] pos'] [] pos) (tTupR ta):=by
 intro pins s σ H Q I h
 refine wpAny_Call_Name_kw (zcz I hgT hmT (show bootBuiltins "tuple"=some (.type "tuple")from by decide+kernel) ?_ (by decide) (by decide))
 refine PyProof.Rows.callWith_type1 ?_ hs2 rfl
 rw[hs2]
 refine Calls.spliced_cons ?_
 refine Call_ (zcz I hg hm boot_range (PyProof.Rows.callWith_type1 (thn (ha pos' pins s σ H _ I h) fun us s1 ⟨vs,H1,I1,r1,q1⟩=> ?_) hs rfl))
 obtain⟨j,e,q1,q2,q⟩:=q1
 subst e
 cases r1 with
 |cons r rr=>
  cases rr
  obtain⟨t,rfl⟩:=r
  refine call_range_1 ?_
  refine Calls.spliced_nil ?_
  have hn:Builtin.Range.rangeSize 0 j 1=((j.toNat:Nat):Int):=by rw[rangeSize_one];split<;>omega
  refine call_tuple_range (I.ok.hd hc) (IsRange.new ..) (small_one (by decide) (by decide) (by omega) (by omega)) hn (by omega) fun h' tk acc hk hacc=> ?_
  have I2:Inv X pins σ H1 {s1 with heap:=h',toks:=tk}:=I1.kept fun b o e=>hk b o (yab _ e)
  have hv:Vals (tupR j.toNat) acc.toList:=vals_items (by rw[yco];exact hacc.1) (fun i u hu=>hacc.2 i u (by simpa using hu))
  have hz:(tupR j.toNat).length<=sizeLine:=by unfold tupR;rw[sizeLine_eq];simp;omega
  have I3:Inv X pins σ (upd H1 h'.objs.size (.tup (tupR j.toNat))) {s1 with heap:=h'.push {cls:= .type "tuple",data:= .seq acc},toks:=tk}:=
   I2.laid (t':=tk) (fun b o e=>yab _ e) (yac _) (show ObjOk X.prog X.w _ _ _ (.tup (tupR j.toNat))from⟨hz,acc.toList,hv,by rw[show acc=acc.toList.toArray by simp];exact IsTup.new _ _⟩)
  exact⟨.ref h'.objs.size,_,I3,rfl,q _ (I2.hok.fresh (yac _))⟩
open Classical in
theorem op_notInD(hu:X.A.units+64<cLine):OpR X (compareOp .NotIn) (fun x y H Q=>∃(p:Addr) (xs:List V) (ds:List PyData) (dx:PyData),y= .ref p/\(SqL X.K H p xs\/SqT X.K H p xs)/\DVs X.K H xs ds/\DV X.K H x dx/\PyData.canLayAll0 ds=true/\dx.canLay0=true/\dx.depth<=60/\
  Q (.bl (!(ds.any fun d=>PyData.eqv d dx))) H):=by
 intro pins s σ H x y v u Q I rx ry h
 obtain⟨p,xs,ds,dx,rfl,hq,hds,hx,ca,cb,hd,q⟩:=h
 cases ry
 obtain⟨bs,rb⟩:=DV.reads I hx rx
 have key:∀{its:List Value},Vals xs its->(∀y∈its,SeqAt.EqAt X.A.in1 s y v (decide (∃d as,Reads s.heap y d as/\d∈ds/\PyData.eqv d dx=true)))/\(its.any fun y=>decide (∃d as,Reads s.heap y d as/\d∈ds/\PyData.eqv d dx=true))=ds.any fun d=>PyData.eqv d dx:=by
  intro its rv
  obtain⟨as,ra⟩:=DVs.reads I hds rv
  have each:∀{us:List Value} {es:List PyData} {as:List Addr},ReadsAll s.heap us es as->(∀e∈es,e∈ds)->(∀y∈us,SeqAt.EqAt X.A.in1 s y v (decide (∃d as,Reads s.heap y d as/\d∈ds/\PyData.eqv d dx=true)))/\(us.any fun y=>decide (∃d as,Reads s.heap y d as/\d∈ds/\PyData.eqv d dx=true))=es.any fun d=>PyData.eqv d dx:=by
   intro us
   induction us with
   |nil=>intro es as h _;cases h;exact⟨(fun y hy=>(nomatch hy)),rfl⟩
   |cons y us ih=>
    intro es as h hs
    cases h with
    | @cons _ _ d ds' as' bs' r rr=>
     obtain⟨i1,i2⟩:=ih rr fun e he=>hs e (yae _ he)
     have cl:=allLay ca d (hs d yah)
     have e:decide (∃d as,Reads s.heap y d as/\d∈ds/\PyData.eqv d dx=true)=PyData.eqv d dx:=by
      rw[Bool.eq_iff_iff,decide_eq_true_eq]
      constructor
      ·rintro⟨d',as'',r',_,q'⟩
       obtain⟨rfl,_⟩:=(PySem.Reads.unique r _ _ r')
       exact q'
      ·intro q'
       exact⟨d,_,r,hs d yah,q'⟩
     refine⟨fun z hz=> ?_,?_⟩
     ·rcases yam.mp hz with rfl|hz
      ·rw[e]
       exact SeqAt.eqAt_reads d dx _ s _ _ _ _ r rb cl cb (by show X.A.units+1+min d.depth dx.depth<cLine;omega)
      ·exact i1 z hz
     ·rw[ydq,ydq,i2,e]
  exact each ra fun e he=>he
 rcases hq with hq|hq
 ·obtain⟨its,r,pl,hz⟩:=I.list hq
  obtain⟨k1,k2⟩:=key r
  refine SeqAt.notIn_listAt _ pl.isList (fun w hw=>k1 w (by simpa using hw)) ⟨.bl _,H,I,rfl,?_⟩
  rw[show∀f:Value->Bool,its.toArray.any f=its.any f from fun f=>by simp,k2]
  exact q
 ·obtain⟨its,r,pl,hz⟩:=I.tuple hq
  obtain⟨k1,k2⟩:=key r
  refine SeqAt.notIn_tupleAt _ pl (fun w hw=>k1 w (by simpa using hw)) ⟨.bl _,H,I,rfl,?_⟩
  rw[show∀f:Value->Bool,its.toArray.any f=its.any f from fun f=>by simp,k2]
  exact q
theorem op_notInDK(K:W.Frag)(hu:X.A.units+64<cLine)(h:X.K=K:=by rfl):OpR X (compareOp .NotIn) (fun x y H Q=>∃(p:Addr) (xs:List V) (ds:List PyData) (dx:PyData),y= .ref p/\(SqL K H p xs\/SqT K H p xs)/\DVs K H xs ds/\DV K H x dx/\PyData.canLayAll0 ds=true/\dx.canLay0=true/\dx.depth<=60/\
  Q (.bl (!(ds.any fun d=>PyData.eqv d dx))) H):=by subst h;exact op_notInD hu
end
end L2
namespace PySem
open Sem (wp)
open Builtin
open AutoSeq1 (wpAny_loadPart')
theorem noFill_tuple_mul:fillsNumberSlot (.type "tuple") "mul"=pure false:=
 fillsNumberSlot_seq (id:="tuple.__mul__") (r:=some (.builtin "tuple.__rmul__")) F.slot_tuple_mul.lookup (by decide+kernel) F.slot_tuple_rmul.lookup (by decide+kernel)
theorem repeat_tuple:seqRepeat? (.type "tuple")=pure (some (.builtin "tuple.__mul__")):=by
 unfold seqRepeat?
 rw[seqSlot_of (T:="tuple") (name:="__mul__") (id:="tuple.__mul__") F.slot_tuple_mul.lookup (by decide+kernel),seqSlot_of (T:="tuple") (name:="__rmul__") (id:="tuple.__rmul__") F.slot_tuple_rmul.lookup (by decide+kernel)]
 rfl
theorem int_rmul_tup(a:Int)(t:Tok)(l:Addr)(items:Array Value)(n:Nat)(d:Option Addr)(sl:Array (Option Value)):
  Meets (Builtin.«int.__rmul__» ⟨[.int a t,.ref l],[]⟩) (fun _ R s=>s.heap.get? l=some {cls:= .type "tuple",dict:=d,data:= .seq items n,slots:=sl}/\R (.ok (.ret Value.notImplemented)) s):=
 .of_wp fun prog w A R s h=>by obtain⟨hp,g,d,tk,os⟩:=s;obtain⟨hl,h⟩:=h;wp_walk;exact⟨_,rfl,h⟩
theorem tup_mul_1(l:Addr)(items:Array Value)(n:Nat)(d:Option Addr)(sl:Array (Option Value))(x:Int)(u:Tok)(hx:x=1):
  Meets (Builtin.«tuple.__mul__» ⟨[.ref l,.int x u],[]⟩) (fun _ R s=>s.heap.get? l=some {cls:= .type "tuple",dict:=d,data:= .seq items n,slots:=sl}/\R (.ok (.ret (Value.ref l))) s):=
 .of_wp fun prog w A R s h=>by
  subst hx
  obtain⟨hp,g,d,tk,os⟩:=s;obtain⟨hl,h⟩:=h;have f1:=AutoSeq1.idx_int
  wp_walk using wpAny_loadPart' hl;exact⟨_,rfl,h⟩
theorem tup_mul_0(l:Addr)(items:Array Value)(n:Nat)(d:Option Addr)(sl:Array (Option Value))(x:Int)(u:Tok)(hx:x<=0)(hlo: -(2^63)<=x)(hne:items.isEmpty=false):
  Meets (Builtin.«tuple.__mul__» ⟨[.ref l,.int x u],[]⟩) (fun _ R s=>s.heap.get? l=some {cls:= .type "tuple",dict:=d,data:= .seq items n,slots:=sl}/\R (.ok (.ret (Value.ref s.heap.objs.size))) {s with heap:=s.heap.push {cls:=Value.type "tuple",data:=Data.seq #[]},toks:=s.toks}):=
 .of_wp fun prog w A R s h=>by
  obtain⟨hp,g,d,tk,os⟩:=s;obtain⟨hl,h⟩:=h;have f1:=AutoSeq1.idx_int
  have c1:¬((decide (x< -(2^63))||decide (x≥2^63))=true):=by simp;omega
  have c2:¬((items.isEmpty||x==1)=true):=by rw[hne];simp;omega
  have c3:(decide (x<=0)||items.isEmpty)=true:=by rw[hne];simp;omega
  wp_walk using wpAny_loadPart' hl;rw[if_neg c1];wp_walk using wpAny_loadPart' hl;rw[if_neg c2];wp_walk using wpAny_loadPart' hl;exact⟨_,rfl,h⟩
theorem tup_mul_n(l:Addr)(items:Array Value)(n:Nat)(d:Option Addr)(sl:Array (Option Value))(x:Int)(u:Tok)(hx:1<x)(hhi:x<2^63)(hne:items.isEmpty=false)(hsz:items.size*x.toNat<=1000):
  Meets (Builtin.«tuple.__mul__» ⟨[.ref l,.int x u],[]⟩) (fun _ R s=>s.heap.get? l=some {cls:= .type "tuple",dict:=d,data:= .seq items n,slots:=sl}/\R (.ok (.ret (Value.ref s.heap.objs.size))) {s with heap:=s.heap.push {cls:=Value.type "tuple",data:=Data.seq (List.foldl (fun x1 x2=>x1++x2) #[] (List.replicate x.toNat items))},toks:=s.toks}):=
 .of_wp fun prog w A R s h=>by
  obtain⟨hp,g,d,tk,os⟩:=s;obtain⟨hl,h⟩:=h;have f1:=AutoSeq1.idx_int
  have c1:¬((decide (x< -(2^63))||decide (x≥2^63))=true):=by simp;omega
  have c2:¬((items.isEmpty||x==1)=true):=by rw[hne];simp;omega
  have c3:¬((decide (x<=0)||items.isEmpty)=true):=by rw[hne];simp;omega
  have hxs:(items.size:Int)*x=((items.size*x.toNat:Nat):Int):=by rw[Int.natCast_mul,ybp (by omega)]
  have c4:¬((items.size:Int)*x>(2^63-1)/8):=by rw[hxs];omega
  have c5:¬(Builtin.Tuple.tupleTooMany ((items.size:Int)*x)=true):=by
   rw[hxs]
   intro z
   have z':((items.size*x.toNat:Nat):Int)>(sizeLine:Int):=of_decide_eq_true z
   have:=sizeLine_eq
   generalize items.size*x.toNat=m at *
   omega
  have htake:(List.foldl (fun x1 x2=>x1++x2) #[] (List.replicate x.toNat items)).size<=sizeLine:=by
   have e:List.foldl (fun x1 x2=>x1++x2) #[] (List.replicate x.toNat items)=(List.replicate x.toNat items.toList).flatten.toArray:=by
    have:=PyProof.Rows.listMul_foldl_if items x.toNat
    rw[if_neg (by rw[hne];simp)]at this
    exact this
   rw[e,yak]
   have:(List.replicate x.toNat items.toList).flatten.length=x.toNat*items.size:=by simp
   rw[this,yel,sizeLine_eq]
   omega
  wp_walk using wpAny_loadPart' hl;rw[if_neg c1];wp_walk using wpAny_loadPart' hl;rw[if_neg c2];wp_walk using wpAny_loadPart' hl;rw[if_neg c3]
  try dsimp only
  rw[if_neg c4]
  try dsimp only
  rw[if_neg c5]
  try dsimp only
  unfold Builtin.Tuple.tupleExact
  refine wpAny_bind (wpAny_newObj_type (wpAny_pure ?_) htake)
  exact⟨_,rfl,h⟩
end PySem
namespace L2
open PySem PySem.Spec PyProof.Rows
section
variable{X:Cx}{p p' pos pos':Pos}{a:Expr}{ta:TA}
theorem Vals.rep'{xs:List V}{us:List Value}(h:Vals xs us):∀k:Nat,Vals (List.replicate k xs).flatten (List.replicate k us).flatten
 |0=> .nil
 |k+1=>by rw[ybv,ybv,yct,yct];exact h.append (Vals.rep' h k)
noncomputable def rRepT(K:W.Frag):R2:=fun x y H Q=>∃a k xs,x= .ref a/\y= .int k/\SqT K H a xs/\xs≠[]/\ -(2^63)<=k/\k<2^63/\xs.length*k.toNat<=1000/\∀r H',Same H H'->SqT K H' r (List.replicate k.toNat xs).flatten->Q (.ref r) H'
theorem op_repT:OpR X (binaryOp .Mult) (rRepT X.K):=by
 intro pins s σ H x y v u Q I rx ry h
 obtain⟨a,k,xs,rfl,rfl,ha,hne,h1,h2,hz,q⟩:=h
 cases rx
 obtain⟨t,rfl⟩:=ry
 obtain⟨its,r1,p1,_⟩:=I.tuple ha
 obtain⟨⟨cls,dd,data,sl⟩,ho,hc,n,hd⟩:=id p1
 simp only at hc hd
 subst hc hd
 have hlen:=r1.length
 have hem:its.toArray.isEmpty=false:=by
  cases its with
  |nil=>cases r1;exact absurd rfl hne
  |cons _ _=>rfl
 have road:∀{S:PySem.Spec},Meets (Builtin.«tuple.__mul__» ⟨[.ref a,.int k t],[]⟩) S->S X.A (wants (EP X pins σ Q) X.xe) s->wpAny (model X.prog X.w) X.A (binaryOp .Mult (.ref a) (.int k t)) (EP X pins σ Q) X.xe s:=fun M hS=>
  wpAny_binaryOp_repeat_ref (T:="tuple") (U:="int") (by decide) ⟨_,ho,rfl⟩ (fun s'=>typeIs_int s' k t) noFill_tuple_mul F.fills_int_mul F.slot_int_rmul repeat_tuple F.slot_int_index.lookup
   (call_meets F.slot_int_rmul (typeIs_int s k t) F.entry_int_rmul (F.args_int_rmul_2 _ _) (int_rmul_tup k t a its.toArray n dd sl)
    ⟨ho,rfl,⟨_,ho,rfl⟩,call_meets F.slot_tuple_mul ⟨_,ho,rfl⟩ F.entry_tuple_mul (F.args_tuple_mul_2 _ _) M hS⟩)
 by_cases c1:k=1
 ·refine road (tup_mul_1 a its.toArray n dd sl k t c1) ⟨ho,⟨.ref a,H,I,rfl,q a H (Same.refl _) ?_⟩⟩
  subst c1
  have:(List.replicate (1:Int).toNat xs).flatten=xs:=by simp
  rw[this];exact ha
 by_cases c0:k<=0
 ·refine road (tup_mul_0 a its.toArray n dd sl k t c0 h1 hem) ⟨ho,?_⟩
  have e0:k.toNat=0:=by omega
  refine⟨.ref s.heap.objs.size,_,I.laid (t':=s.toks) (o:= .tup []) (fun b ob q=>yab _ q) (yac _) ⟨yaw _,[],.nil,IsTup.new _ _⟩,rfl,q _ _ (fun c o e=>by rw[zaj (zah e (I.hok.fresh (yac _)))];exact e) ?_⟩
  rw[e0]
  exact SqT.of zab
 ·have hsz:its.toArray.size*k.toNat<=1000:=by rw[yak,<-hlen];exact hz
  refine road (tup_mul_n a its.toArray n dd sl k t (by omega) h2 hem hsz) ⟨ho,?_⟩
  have hnew:List.foldl (fun x1 x2=>x1++x2) #[] (List.replicate k.toNat its.toArray)=(List.replicate k.toNat its).flatten.toArray:=by
   have:=foldl_rep its k.toNat []
   rw[List.nil_append]at this
   exact this
  rw[hnew]
  have hz':(List.replicate k.toNat xs).flatten.length<=sizeLine:=by
   rw[len_rep,yel]
   exact yat hz (by rw[sizeLine_eq];decide)
  refine⟨.ref s.heap.objs.size,_,I.laid (t':=s.toks) (o:= .tup (List.replicate k.toNat xs).flatten) (fun b ob q=>yab _ q) (yac _) ⟨hz',_,Vals.rep' r1 k.toNat,IsTup.new _ _⟩,rfl,q _ _ (fun c o e=>by rw[zaj (zah e (I.hok.fresh (yac _)))];exact e) (SqT.of zab)⟩
noncomputable def tLstR(ta:TA):TE:=fun σ H Q=>ta σ H fun vs H1=>∃j:Int,vs=[.int j]/\0<=j/\j<=16777216/\∀l,H1 l=none->Q (.ref l) (upd H1 l (.lst (tupR j.toNat)))
theorem pe_lstRange(hc:X.calm=true)(hgT:Gl X "list")(hmT:X.mg "list"=none)(hg:Gl X "range")(hm:X.mg "range"=none)(ha:PA X [a] ta)(hs:starEach [a] X.env=[(false,eval a X.env)]:=by rfl)(hs2:starEach [Expr.Call (.Name "range" p') [a] [] pos'] X.env=[(false,eval (Expr.Call (.Name "range" p') [a] [] pos') X.env)]:=by rfl):
  PE X (.Call (.Name "list" p) [.Call (.Name "range" p') [a] [] pos'] [] pos) (tLstR ta):=by
 intro pins s σ H Q I h
 refine wpAny_Call_Name_kw (zcz I hgT hmT (show bootBuiltins "list"=some (.type "list")from by decide+kernel) ?_ (by decide) (by decide))
 refine PyProof.Rows.callWith_type1 ?_ hs2 rfl
 rw[hs2]
 refine Calls.spliced_cons ?_
 refine Call_ (zcz I hg hm boot_range (PyProof.Rows.callWith_type1 (thn (ha pos' pins s σ H _ I h) fun us s1 ⟨vs,H1,I1,r1,q1⟩=> ?_) hs rfl))
 obtain⟨j,e,q1,q2,q⟩:=q1
 subst e
 cases r1 with
 |cons r rr=>
  cases rr
  obtain⟨t,rfl⟩:=r
  refine call_range_1 ?_
  refine Calls.spliced_nil ?_
  have hn:Builtin.Range.rangeSize 0 j 1=((j.toNat:Nat):Int):=by rw[rangeSize_one];split<;>omega
  refine call_list_range (I.ok.hd hc) (IsRange.new ..) (small_one (by decide) (by decide) (by omega) (by omega)) hn (by omega) fun h' tk acc c hk hS hacc=> ?_
  have hv:Vals (tupR j.toNat) acc.toList:=vals_items (by rw[yco];exact hacc.1) (fun i u hu=>hacc.2 i u (by simpa using hu))
  have hz:(tupR j.toNat).length<=sizeLine:=by unfold tupR;rw[sizeLine_eq];simp;omega
  have I2:Inv X pins σ H1 {s1 with heap:=s1.heap.push {cls:=Value.type "range",data:=Data.fields #[Value.int 0 s1.toks,Value.int j t,Value.int 1 (s1.toks+1)]},toks:=s1.toks+1+1}:=I1.kept fun b o e=>yab _ e
  exact⟨.ref _,_,I2.laid (t':=tk) (o:= .lst (tupR j.toNat)) hk (yac _) ⟨hz,acc.toList,c,hv,by simpa using hS⟩,rfl,q _ (I2.hok.fresh (yac _))⟩
end
end L2
namespace PySem
open Sem (wp)
open AutoSeq1 (wpAny_loadPart')
theorem enum_new_tup(l:Addr)(items:Array Value)(n:Nat)(dct:Option Addr)(sl:Array (Option Value)):
  Meets (Builtin.«enumerate.__new__» ⟨[.type "enumerate",.ref l],[]⟩) (fun _ R s=>s.heap.get? l=some {cls:= .type "tuple",dict:=dct,data:= .seq items n,slots:=sl}/\
   R (.ok (.ret (.ref (s.heap.push {cls:= .type "tuple_iterator",data:= .fields #[.ref l,.int 0 0]}).objs.size)))
    {s with heap:=(s.heap.push {cls:= .type "tuple_iterator",data:= .fields #[.ref l,.int 0 0]}).push {cls:= .type "enumerate",data:= .fields #[.none,.bool false,.ref s.heap.objs.size,rawInt 0,.none,.none]}}):=
 .of_wp fun prog w A R s h=>by
  obtain⟨hp,g,d,tk,os⟩:=s;obtain⟨hl,h⟩:=h;have hsub:=sub_enumerate
  have hL:Heap.IsTuple (Shared.heap ⟨hp,g,d,tk,os⟩) l items:=⟨_,hl,rfl,n,rfl⟩
  wp_walk using wpAny_loadPart' hl
  refine wpAny_stack_any fun st=>wpAny_pure ?_;split
  ·rename_i c _ _ _ _ _
   cases(c==Value.type "enumerate")
   ·wp_walk using wpAny_loadPart' hl,wpAny_pyIter_tuple hL;exact⟨_,rfl,h⟩
   ·wp_walk using wpAny_loadPart' hl,wpAny_pyIter_tuple hL;exact⟨_,rfl,h⟩
  ·wp_walk using wpAny_loadPart' hl,wpAny_pyIter_tuple hL;exact⟨_,rfl,h⟩
section
variable{prog:Program}{w:World}{A:Around}{E:Value->Shared->Prop}{s:Shared}
theorem nextOf_tup{it t:Addr}{i:Nat}{items:Array Value}{x:Value}{Q:Value->Shared->Prop}(hit:s.heap.IsTupleIter it t i)(ht:s.heap.IsTuple t items)(hx:items[i]? =some x)(hQ:∀h',h'.IsTupleIter it t (i+1)->Heap.SameBut it s.heap h'->Q x {s with heap:=h'}):wpAny (model prog w) A (Builtin.SmallTypes.nextOf (.ref it)) Q E s:=by
 obtain⟨o,ho,hc,hd⟩:=id hit;obtain⟨ol,hol,_,nl,hdl⟩:=ht;unfold Builtin.SmallTypes.nextOf
 refine wpAny_bind (wpAny_callSpecial?_slot (name:=Str.ofString "__next__") hit.typeIs F.slot_tuple_iterator_next (wpAny_call_entry F.slot_tuple_iterator_next hit.typeIs F.entry_tuple_iterator_next ?_ (F.args_tuple_iterator_next_1 _)))
 show wpAny _ _ (field (.ref it) 0>>=_) _ _ s;refine wpAny_bind (wpAny_field ho hd (x:= .ref t) rfl ?_)
 show wpAny _ _ (if(Value.ref t==Value.none)=true then _ else _) _ _ s;rw[if_neg (show¬((Value.ref t==Value.none)=true)from Bool.false_ne_true)]
 show wpAny _ _ (field (.ref it) 1>>=_) _ _ s;refine wpAny_bind (wpAny_field ho hd (x:= .int i 0) rfl ?_)
 show wpAny _ _ (seqItems? (.ref t)>>=_) _ _ s;refine wpAny_bind (wpAny_seqItems hol hdl ?_)
 simp only[ydk,hx];refine wpAny_bind (wpAny_setField ho hd (by simp) (wpAny_pure ⟨x,rfl,wpAny_pure (hQ _ ?_ (Heap.SameBut.update ..))⟩))
 exact⟨_,Heap.get?_update_self _ ho (Obj.isFreed_of_fields (Obj.data_mapFields hd _)),(Obj.cls_mapFields ..).trans hc,by rw[Obj.data_mapFields hd];simp[rawInt]⟩
theorem nextOf_tup_end{it t:Addr}{i:Nat}{items:Array Value}{Q:Value->Shared->Prop}(hh:A.handled=none)(hit:s.heap.IsTupleIter it t i)(ht:s.heap.IsTuple t items)(hx:items[i]? =none)(hE:∀h' e,Heap.ExtBut it s.heap h'->(∃o,h'.get? e=some o/\o.cls= .type "StopIteration")->E (.ref e) {s with heap:=h'}):wpAny (model prog w) A (Builtin.SmallTypes.nextOf (.ref it)) Q E s:=by
 obtain⟨o,ho,hc,hd⟩:=id hit;obtain⟨ol,hol,_,nl,hdl⟩:=ht;unfold Builtin.SmallTypes.nextOf
 refine wpAny_bind (wpAny_callSpecial?_slot (name:=Str.ofString "__next__") hit.typeIs F.slot_tuple_iterator_next (wpAny_call_entry F.slot_tuple_iterator_next hit.typeIs F.entry_tuple_iterator_next ?_ (F.args_tuple_iterator_next_1 _)))
 show wpAny _ _ (field (.ref it) 0>>=_) _ _ s;refine wpAny_bind (wpAny_field ho hd (x:= .ref t) rfl ?_)
 show wpAny _ _ (if(Value.ref t==Value.none)=true then _ else _) _ _ s;rw[if_neg (show¬((Value.ref t==Value.none)=true)from Bool.false_ne_true)]
 show wpAny _ _ (field (.ref it) 1>>=_) _ _ s;refine wpAny_bind (wpAny_field ho hd (x:= .int i 0) rfl ?_)
 show wpAny _ _ (seqItems? (.ref t)>>=_) _ _ s;refine wpAny_bind (wpAny_seqItems hol hdl ?_)
 simp only[ydk,hx];refine wpAny_bind (wpAny_rule (wpAny_bind (wpAny_setField ho hd (by simp) ?_)))
 show wpAny _ _ (newExc (.type "StopIteration") []>>=_) _ _ _;refine wpAny_bind ?_;simp only[newExc,newTuple];refine wpAny_bind (wpAny_newObj_type ?_ (by size_fits))
 refine wpAny_bind (m:=firstArgMember _ _) (wpAny_of_eq (a:=Value.none) (by first |rfl|(simp only[firstArgMember];rfl)) ?_);refine wpAny_newObj_type ?_ (by size_fits)
 simp only[raiseNew];refine wpAny_bind (wpAny_handled ?_);first |rw[show A.in1.handled=none from hh]|rw[hh]
 refine wpAny_bind (wpAny_pure (wpAny_throw ?_));exact hE _ _ (((Heap.SameBut.update ..).extBut.push _).push _) ⟨_,yao _ rfl,rfl⟩
end
theorem Draws.tup{prog:Program}{w:World}{A:Around}(hh:A.handled=none)(it l:Addr)(hne:l≠it)(items:Array Value):
  Draws prog w A it [it,l] items.size (fun i v=>items[i]? =some v) (fun i h=>h.IsTupleIter it l i/\h.IsTuple l items) where
 live:=fun i h st=>by obtain⟨⟨o,e,_⟩,_⟩:=st;exact⟨o,e⟩
 frame:=fun i h h' st k=>⟨st.1.at fun o e=>k it (by simp) o e,st.2.at fun o e=>k l (by simp) o e⟩
 item:=fun i s Q E hi st hQ=>by
  have hx:items[i]? =some items[i]:=Array.getElem?_eq_getElem hi
  exact nextOf_tup st.1 st.2 hx fun h' hit' hs=>hQ _ h' s.toks hx ⟨hit',st.2.at fun o e=>(hs.2 l hne).trans e⟩ hs
 done:=fun s Q E st hE=>nextOf_tup_end hh st.1 st.2 (Array.getElem?_eq_none (yac _)) hE
section
variable{prog:Program}{w:World}{A:Around}{E:Value->Shared->Prop}{s:Shared}
theorem call_enum_tup{l:Addr}{items:Array Value}{Q:Value->Shared->Prop}(hL:s.heap.IsTuple l items)(h:∀h',IsEnum h' (s.heap.objs.size+1) s.heap.objs.size 0 .none->h'.IsTupleIter s.heap.objs.size l 0->h'.objs.size=s.heap.objs.size+2->(∀b o,s.heap.get? b=some o->h'.get? b=some o)->Q (.ref (s.heap.objs.size+1)) {s with heap:=h'}):
  wpAny (model prog w) A (call (.type "enumerate") [.ref l]) Q E s:=by
 obtain⟨⟨c,dct,dt,sl⟩,hl,hc,n,hd⟩:=hL;replace hc:c= .type "tuple":=hc;replace hd:dt= .seq items n:=hd;subst hc hd
 refine callType_new F.called_enumerate (by decide) (F.typeCall_enumerate_1 _) (F.newCall_enumerate_1 _) (fun obj=>F.args_object_init_2 obj _) F.entry_enumerate_new (enum_new_tup l items n dct sl) ⟨hl,?_⟩
 have hz:(s.heap.push {cls:= .type "tuple_iterator",data:= .fields #[.ref l,.int 0 0]}).objs.size=s.heap.objs.size+1:=ybu ..
 show _/\_
 rw[hz]
 have he:IsEnum ((s.heap.push {cls:= .type "tuple_iterator",data:= .fields #[.ref l,.int 0 0]}).push {cls:= .type "enumerate",data:= .fields #[.none,.bool false,.ref s.heap.objs.size,rawInt 0,.none,.none]}) (s.heap.objs.size+1) s.heap.objs.size 0 .none:=by
  have:=yao (s.heap.push {cls:= .type "tuple_iterator",data:= .fields #[.ref l,.int 0 0]}) (o:={cls:= .type "enumerate",data:= .fields #[.none,.bool false,.ref s.heap.objs.size,rawInt 0,.none,.none]}) rfl
  rw[hz]at this;exact this
 exact⟨⟨_,he,rfl⟩,h _ he ⟨_,yab _ (yao _ rfl),rfl,rfl⟩ (by rw[ybu,hz]) fun b o x=>yab _ (yab _ x)⟩
end
end PySem
namespace L2
open PySem PySem.Spec PyProof.Rows
section
variable{X:Cx}{pins:List (Addr×Obj)}{σ:St}{H:Hp}{s:Shared}{h':Heap}
theorem Inv.turnsLaid{t':Nat}{fp:List Addr}{T:Addr}{o:HO}(I:Inv X pins σ H s)(k:∀b o,b∉fp->s.heap.get? b=some o->h'.get? b=some o)(hf:∀b∈fp,FpOk X pins H b)(hT:s.heap.objs.size<=T)(new:ObjOk X.prog X.w (upd H T o) h' T o):
  Inv X pins σ (upd H T o) {s with heap:=h',toks:=t'}:=by
 have hTn:H T=none:=I.hok.fresh hT
 have nfp:∀b u,H b=some u->b∉fp:=fun b u e z=>by rw[(hf b z).1]at e;cases e
 have neT:∀b o,s.heap.get? b=some o->b≠T:=fun b o e=>yau (yan (yap e) hT)
 have neU:∀b u,H b=some u->b≠T:=fun b u e z=>by rw[z,hTn]at e;cases e
 refine I.step (g':=s.gens) (d':=s.drawn) (ch:=fp) (fun b hb=> ?_) (fun b o _ _ hc e _=>k b o hc e) (fun b o _ _ hc e _=>⟨o.slots,k b o hc e⟩) (fun b o _ e n=>by rw[zaj (neT b o e)];exact n)
  (fun b o hc e=>⟨o,k b o hc e⟩) (fun b xs e=>by rw[zaj (neU b _ e)];exact e) (fun b o u e=>by rw[zaj (neU b _ e)];exact e) (fun b ps e=>⟨#[],by rw[zaj (neU b _ e),e];simp⟩) (fun m hm=> ?_) (fun b u e=> ?_) I.bare
 ·obtain⟨f0,f1,f2,f3,f4,f5⟩:=hf b hb
  exact⟨f3,f1,f4,f5⟩
 ·obtain⟨o,es,ep,ho,r⟩:=hm
  exact⟨o,es,ep,k _ o (fun z=>(hf _ z).2.1 rfl) ho,r⟩
 ·by_cases hb:b=T
  ·subst hb
   rw[zab]at e
   cases e
   exact new
  ·rw[zaj hb]at e
   refine(I.hok b u e).stay (fun c v hc q=>k c v ?_ q) (fun c q=>by rw[zaj (neU c _ q)];exact q) fun c xs q=>by rw[zaj (neU c _ q)];exact q
   rcases hc with z|z
   ·rw[z];exact nfp b u e
   ·exact nfp c _ z
theorem Inv.turns{t':Nat}{fp:List Addr}(I:Inv X pins σ H s)(k:∀b o,b∉fp->s.heap.get? b=some o->h'.get? b=some o)(hf:∀b∈fp,FpOk X pins H b):Inv X pins σ H {s with heap:=h',toks:=t'}:=by
 have nfp:∀b u,H b=some u->b∉fp:=fun b u e z=>by rw[(hf b z).1]at e;cases e
 refine I.step (g':=s.gens) (d':=s.drawn) (ch:=fp) (fun b hb=> ?_) (fun b o _ _ hc e _=>k b o hc e) (fun b o _ _ hc e _=>⟨o.slots,k b o hc e⟩) (fun b o _ e n=>n)
  (fun b o hc e=>⟨o,k b o hc e⟩) (fun b xs e=>e) (fun b o u e=>e) (fun b ps e=>⟨#[],by rw[e];simp⟩) (fun m hm=> ?_) (fun b u e=> ?_) I.bare
 ·obtain⟨f0,f1,f2,f3,f4,f5⟩:=hf b hb
  exact⟨f3,f1,f4,f5⟩
 ·obtain⟨o,es,ep,ho,r⟩:=hm
  exact⟨o,es,ep,k _ o (fun z=>(hf _ z).2.1 rfl) ho,r⟩
 ·refine(I.hok b u e).stay (fun c v hc q=>k c v ?_ q) (fun c q=>q) fun c xs q=>q
  rcases hc with z|z
  ·rw[z];exact nfp b u e
  ·exact nfp c _ z
end
noncomputable def SqE(K:W.Frag)(b:Bool)(H:Hp)(a:Addr)(xs:List V):Prop:=match b with
 |false=>SqL K H a xs
 |true=>SqT K H a xs
noncomputable def Ite(K:W.Frag)(b:Bool)(a:Addr)(xs:List V):It:=
 ⟨fun i H=>SqE K b H a xs/\i<xs.length,fun i H x H'=>∃t v,x= .ref t/\H t=none/\H'=upd H t (.tup [.int (i:Int),v])/\xs[i]? =some v,fun i H=>SqE K b H a xs/\i=xs.length⟩
theorem turn_enumL{P:Program}{w:World}{K:W.Frag}{es:List Expr}{k:Nat}{pos:Pos}(a e it:Addr)(xs:List V)(hne:e≠it):
  Turn P w K (.Tuple es k pos) (Ite K false a xs) [e,it] e (fun i h=>(∃old,IsEnum h e it (i:Int) old)/\h.IsListIter it a i) where
 mem:=by simp
 obj:=fun i h st b hb=>by
  obtain⟨⟨old,he⟩,o,e1,c,d⟩:=st
  rcases yam.mp hb with z|hb
  ·subst z;exact⟨_,he,fun v z=>by cases z⟩
  ·have z:b=it:=by simpa using hb
   subst z
   exact⟨o,e1,fun v z=>by rw[d]at z;cases z⟩
 keep:=fun i h h' st k=>⟨st.1.imp fun old he=>k e (by simp) _ he,st.2.at fun o e=>k it (by simp) o e⟩
 item:=by
  intro X hP hw hK hc i pins s σ H E I hf st hg
  subst hP hw hK
  obtain⟨hq0,hi⟩:=hg
  have hq:SqL X.K H a xs:=hq0
  obtain⟨its,rv,p,hz⟩:=I.list hq
  have hx:xs[i]? =some xs[i]:=yag hi
  obtain⟨u,hu,ru⟩:=rv.get hx
  obtain⟨⟨old,he⟩,hit⟩:=st
  refine wpAny_pyNext_enum_item he hit p.isList (x:=u) (by simpa using hu) hne fun h1 ho hit1 hT hsz hk=>⟨_,rfl,?_⟩
  refine wpAny_letOwnedTupleGo_enum ho fun h2 he2 hs2=> ?_
  have hs2':Heap.SameBut e h1 h2:=hs2
  have nTe:s.heap.objs.size≠e:=fun z=>absurd (yap he) (by rw[<-z];exact ybd _)
  have keep:∀b o,b∉[e,it]->s.heap.get? b=some o->h2.get? b=some o:=fun b o hb q=>(hs2'.2 b fun z=>hb (by simp[z])).trans (hk b o (fun z=>hb (by simp[z])) (fun z=>hb (by simp[z])) q)
  have hT2:h2.get? s.heap.objs.size=some {cls:= .type "tuple",data:= .seq #[.int i s.toks,u]}:=(hs2'.2 _ nTe).trans hT
  have I2:=I.turnsLaid (h':=h2) (t':=s.toks+1) (o:= .tup [.int (i:Int),xs[i]]) keep hf (yac _) ⟨(by show 2<=sizeLine;decide),[.int i s.toks,u],.cons ⟨_,rfl⟩ (.cons ru .nil),_,hT2,rfl,_,rfl⟩
  exact⟨.ref s.heap.objs.size,_,I2,rfl,⟨_,_,rfl,I.hok.fresh (yac _),rfl,hx⟩,⟨⟨_,by simpa using he2⟩,hit1.at fun o q=>(hs2'.2 it hne.symm).trans q⟩,fun b hb=>by
   rw[zaj (fun z=> ?_)]
   ·exact(hf b hb).1
   ·obtain⟨_,q1,_⟩:=hit
    rcases yam.mp hb with y|y
    ·exact nTe (z.symm.trans y)
    ·have y:b=it:=by simpa using y
     rw[<-y,z]at q1
     exact absurd (yap q1) (ybd _)⟩
 done:=by
  intro X hP hw hK hc i pins s σ H E I hf st hg
  subst hP hw hK
  obtain⟨hq0,hi⟩:=hg
  have hq:SqL X.K H a xs:=hq0
  obtain⟨its,rv,p,hz⟩:=I.list hq
  have hl:=rv.length
  obtain⟨⟨old,he⟩,hit⟩:=st
  exact wpAny_pyNext_enum_end (I.ok.hd hc) he hit p.isList (by simp;omega) fun h' eb=>⟨rfl,I.turns (t':=s.toks) (fp:=[e,it]) (fun b o hb q=>eb b o (fun z=>hb (by simp[z])) q) hf⟩
 self:=fun _ _ _ _ _ st h=>by
  obtain⟨⟨old,he⟩,_⟩:=st
  exact wpAny_pyIter_enum he h
theorem turn_enumT{P:Program}{w:World}{K:W.Frag}{es:List Expr}{k:Nat}{pos:Pos}(a e it:Addr)(xs:List V)(hne:e≠it)(hat:a≠it)(hae:a≠e):
  Turn P w K (.Tuple es k pos) (Ite K true a xs) [e,it] e (fun i h=>(∃old,IsEnum h e it (i:Int) old)/\h.IsTupleIter it a i) where
 mem:=by simp
 obj:=fun i h st b hb=>by
  obtain⟨⟨old,he⟩,o,e1,c,d⟩:=st
  rcases yam.mp hb with z|hb
  ·subst z;exact⟨_,he,fun v z=>by cases z⟩
  ·have z:b=it:=by simpa using hb
   subst z
   exact⟨o,e1,fun v z=>by rw[d]at z;cases z⟩
 keep:=fun i h h' st k=>⟨st.1.imp fun old he=>k e (by simp) _ he,st.2.at fun o e=>k it (by simp) o e⟩
 item:=by
  intro X hP hw hK hc i pins s σ H E I hf st hg
  subst hP hw hK
  obtain⟨hq0,hi⟩:=hg
  have hq:SqT X.K H a xs:=hq0
  obtain⟨its,rv,p,hz⟩:=I.tuple hq
  have hx:xs[i]? =some xs[i]:=yag hi
  obtain⟨u,hu,ru⟩:=rv.get hx
  obtain⟨⟨old,he⟩,hit⟩:=st
  have hl:=rv.length
  have pt:s.heap.IsTuple a its.toArray:=p
  have D:=Draws.tup (prog:=X.prog) (w:=X.w) (A:=X.A.in1) (I.ok.hd hc) it a hat its.toArray
  refine wpAny_pyNext_enum_itemD D he ⟨hit,pt⟩ (by simp;omega) hne (by simp;exact⟨hne,fun z=>hae z.symm⟩) fun y h1 tk hy ho hst1 hT hsz hk=>⟨_,rfl,?_⟩
  have ey:y=u:=by
   have hu':its.toArray[i]? =some u:=by simpa using hu
   rw[hu']at hy
   exact(Option.some.inj hy).symm
  subst ey
  refine wpAny_letOwnedTupleGo_enum ho fun h2 he2 hs2=> ?_
  have hs2':Heap.SameBut e h1 h2:=hs2
  have nTe:s.heap.objs.size≠e:=fun z=>absurd (yap he) (by rw[<-z];exact ybd _)
  have keep:∀b o,b∉[e,it]->s.heap.get? b=some o->h2.get? b=some o:=fun b o hb q=>(hs2'.2 b fun z=>hb (by simp[z])).trans (hk b o (fun z=>hb (by simp[z])) (fun z=>hb (by simp[z])) q)
  have hT2:h2.get? s.heap.objs.size=some {cls:= .type "tuple",data:= .seq #[.int i tk,y]}:=(hs2'.2 _ nTe).trans hT
  have I2:=I.turnsLaid (h':=h2) (t':=tk+1) (o:= .tup [.int (i:Int),xs[i]]) keep hf (yac _) ⟨(by show 2<=sizeLine;decide),[.int i tk,y],.cons ⟨_,rfl⟩ (.cons ru .nil),_,hT2,rfl,_,rfl⟩
  exact⟨.ref s.heap.objs.size,_,I2,rfl,⟨_,_,rfl,I.hok.fresh (yac _),rfl,hx⟩,⟨⟨_,by simpa using he2⟩,hst1.1.at fun o q=>(hs2'.2 it hne.symm).trans q⟩,fun b hb=>by
   rw[zaj (fun z=> ?_)]
   ·exact(hf b hb).1
   ·obtain⟨_,q1,_⟩:=hit
    rcases yam.mp hb with y|y
    ·exact nTe (z.symm.trans y)
    ·have y:b=it:=by simpa using y
     rw[<-y,z]at q1
     exact absurd (yap q1) (ybd _)⟩
 done:=by
  intro X hP hw hK hc i pins s σ H E I hf st hg
  subst hP hw hK
  obtain⟨hq0,hi⟩:=hg
  have hq:SqT X.K H a xs:=hq0
  obtain⟨its,rv,p,hz⟩:=I.tuple hq
  have hl:=rv.length
  obtain⟨⟨old,he⟩,hit⟩:=st
  have pt:s.heap.IsTuple a its.toArray:=p
  have ei:i=its.toArray.size:=by rw[yak];omega
  subst ei
  have D:=Draws.tup (prog:=X.prog) (w:=X.w) (A:=X.A.in1) (I.ok.hd hc) it a hat its.toArray
  exact wpAny_pyNext_enum_endD D he ⟨hit,pt⟩ fun h' eb=>⟨rfl,I.turns (t':=s.toks) (fp:=[e,it]) (fun b o hb q=>eb b o (fun z=>hb (by simp[z])) q) hf⟩
 self:=fun _ _ _ _ _ st h=>by
  obtain⟨⟨old,he⟩,_⟩:=st
  exact wpAny_pyIter_enum he h
section
variable{X:Cx}{es:List Expr}{k:Nat}{pos0:Pos}
noncomputable def iEnum(K:W.Frag)(ta:TA):TI:=fun σ H R=>ta σ H fun vs H1=>∃(b:Bool) (a:Addr) (xs:List V),vs=[.ref a]/\SqE K b H1 a xs/\(xs.length<=sizeLine->R (Ite K b a xs) H1)
theorem pi_enum{a:Expr}{ta:TA}{p pos:Pos}(hg:Gl X "enumerate")(hm:X.mg "enumerate"=none)(ha:PA X [a] ta)(hs:starEach [a] X.env=[(false,eval a X.env)]:=by rfl):
  PI X (.Tuple es k pos0) (.Call (.Name "enumerate" p) [a] [] pos) (iEnum X.K ta):=by
 intro pins s σ H R I h
 refine Call_ (zcz I hg hm (show bootBuiltins "enumerate"=some (.type "enumerate")from by decide+kernel) (PyProof.Rows.callWith_type1 (thn (ha pos pins s σ H _ I h) fun us s1 ⟨vs,H1,I1,r1,q1⟩=> ?_) hs rfl))
 obtain⟨b,l,xs,e,hq,q⟩:=q1
 subst e
 cases r1 with
 |cons r rr=>
  cases rr
  cases r
  cases b with
  |false=>
   obtain⟨its,rv,pl,hz⟩:=I1.list (show SqL X.K H1 l xs from hq)
   refine call_enumerate_list pl.isList fun h' he hit hsz hk=> ?_
   refine wpAny_pyIter_enum he ?_
   have I2:Inv X pins σ H1 {s1 with heap:=h'}:=I1.kept (t':=s1.toks) hk
   have hne:s1.heap.objs.size+1≠s1.heap.objs.size:=Nat.succ_ne_self _
   refine⟨s1.heap.objs.size+1,[s1.heap.objs.size+1,s1.heap.objs.size],_,_,H1,rfl,I2,turn_enumL l _ _ xs hne,⟨⟨_,he⟩,hit⟩,fun c hc=> ?_,q hz⟩
   rcases yam.mp hc with z|z
   ·subst z;exact I1.fpOk (ycq _) (I1.hok.fresh (ycq _))
   ·have z:c=s1.heap.objs.size:=by simpa using z
    subst z;exact I1.fpOk (yac _) (I1.hok.fresh (yac _))
  |true=>
   obtain⟨its,rv,pl,hz⟩:=I1.tuple (show SqT X.K H1 l xs from hq)
   have pt:s1.heap.IsTuple l its.toArray:=pl
   have hlt:l<s1.heap.objs.size:=by obtain⟨_,e,_⟩:=id pt;exact yap e
   refine call_enum_tup pt fun h' he hit hsz hk=> ?_
   refine wpAny_pyIter_enum he ?_
   have I2:Inv X pins σ H1 {s1 with heap:=h'}:=I1.kept (t':=s1.toks) hk
   have hne:s1.heap.objs.size+1≠s1.heap.objs.size:=Nat.succ_ne_self _
   refine⟨s1.heap.objs.size+1,[s1.heap.objs.size+1,s1.heap.objs.size],_,_,H1,rfl,I2,turn_enumT l _ _ xs hne (yau hlt) (yau (yaz hlt)),⟨⟨_,he⟩,hit⟩,fun c hc=> ?_,q hz⟩
   rcases yam.mp hc with z|z
   ·subst z;exact I1.fpOk (ycq _) (I1.hok.fresh (ycq _))
   ·have z:c=s1.heap.objs.size:=by simpa using z
    subst z;exact I1.fpOk (yac _) (I1.hok.fresh (yac _))
end
section
variable{ini:St}{H:Hp}{g:TG}{tc:TT}{te:TE}{Fin:List V->Hp->Prop}{K:W.Frag}{b:Bool}{a:Addr}{xs:List V}
theorem comp_enum(Pv:Nat->List V->St->Hp->Prop)(h0:Pv 0 [] ini H)(hl:∀(i:Nat) acc σ H,i<=xs.length->Pv i acc σ H->SqE K b H a xs)(hz:∀(i:Nat) acc σ H,i<=xs.length->Pv i acc σ H->acc.length<=i)(hx:xs.length<=sizeLine)(hs:∀(i:Nat) v t acc σ H,xs[i]? =some v->Pv i acc σ H->H t=none->g (.ref t) σ (upd H t (.tup [.int (i:Int),v])) fun σ2 H2=>tc σ2 H2 fun b H3=>if b=true then te σ2 H3 fun v H4=>Pv (i+1) (acc++[v]) σ2 H4 else Pv (i+1) acc σ2 H3)(hd:∀acc σ H,Pv xs.length acc σ H->Fin acc H):CompW (Ite K b a xs) ini H g tc te Fin:=by
 refine⟨fun i m acc σ H=>m=xs.length-i/\i<=xs.length/\Pv i acc σ H,⟨xs.length,by simp,yaw _,h0⟩,?_⟩
 rintro i m acc σ H ⟨rfl,hi,p⟩
 have q:=hl i acc σ H hi p
 have z:=hz i acc σ H hi p
 by_cases hlt:i<xs.length
 ·refine .inr ⟨⟨q,hlt⟩,by omega,fun acc σ H=>Pv (i+1) acc σ H,fun acc' σ' H' r=>⟨_,by omega,rfl,hlt,r⟩,fun x H' y=> ?_⟩
  obtain⟨t,v,rfl,ht,rfl,hv⟩:=y
  exact hs i v t acc σ H hv p ht
 ·have e:i=xs.length:=by omega
  subst e
  exact .inl ⟨⟨q,rfl⟩,by omega,hd acc σ H p⟩
end
section
variable{X:Cx}{e m a:Expr}{te:TE}{tm:TO}{ta:TA}{p p' pos pos' p2:Pos}
theorem op_catEK(K:W.Frag)(h:X.K=K:=by rfl):OpR X (binaryOp .Add) (rCatE K):=by subst h;exact op_catE
end
section
variable{ini:St}{H:Hp}{g:TG}{tc:TT}{te:TE}{Fin:List V->Hp->Prop}{K:W.Frag}{b:Bool}{a:Addr}{xs:List V}
end
theorem seq_mid{s u:TS}{D:Ends}{σ:St}{H:Hp}(I:St->Hp->Prop)(h1:∀N:St->Hp->Prop,(∀σ' H',I σ' H'->N σ' H')->s {D with nx:=N} σ H)(h2:∀σ' H',I σ' H'->u D σ' H'):tSeq s u D σ H:=h1 (u D) h2
section
variable{K:W.Frag}{σ:St}{H0:Hp}{tp:Addr}
end
theorem cf_mem:∀(names:List (Str×NameKind)) (n:Nat) (acc:List (Str×Addr)) {x:Str} {c:Addr},(x,c)∈cellsFrom n names acc->(x,c)∈acc\/((x,NameKind.cell)∈names/\n<=c)
 |[],_,_,_,_,h=> .inl h
 |(nm,k)::r,n,acc,x,c,h=>by
  unfold cellsFrom at h
  split at h
  ·rename_i hk
   have ek:k=NameKind.cell:=by simpa using hk
   rcases cf_mem r _ _ h with q|⟨q,m⟩
   ·rcases yam.mp q with e|e
    ·cases e
     subst ek
     exact .inr ⟨yah,yac _⟩
    ·exact .inl e
   ·exact .inr ⟨yae _ q,by omega⟩
  ·rcases cf_mem r _ _ h with q|⟨q,m⟩
   ·exact .inl q
   ·exact .inr ⟨yae _ q,m⟩
theorem cf_acc:∀(names:List (Str×NameKind)) (n:Nat) (acc:List (Str×Addr)) {p:Str×Addr},p∈acc->p∈cellsFrom n names acc
 |[],_,_,_,h=>h
 |(nm,k)::r,n,acc,p,h=>by
  unfold cellsFrom
  split
  ·exact cf_acc r _ _ (yae _ h)
  ·exact cf_acc r _ _ h
theorem cf_has:∀(names:List (Str×NameKind)) (n:Nat) (acc:List (Str×Addr)) {x:Str},(x,NameKind.cell)∈names->∃c,(x,c)∈cellsFrom n names acc
 |(nm,k)::r,n,acc,x,h=>by
  unfold cellsFrom
  rcases yam.mp h with e|e
  ·cases e
   rw[if_pos (show(NameKind.cell==NameKind.cell)=true from rfl)]
   exact⟨n,cf_acc r _ _ yah⟩
  ·split
   ·exact cf_has r _ _ e
   ·exact cf_has r _ _ e
theorem cf_inj{n0:Nat}:∀(names:List (Str×NameKind)) (n:Nat) (acc:List (Str×Addr)),n0<=n->(∀x y c,(x,c)∈acc->(y,c)∈acc->n0<=c->x=y)->(∀x c,(x,c)∈acc->c<n)->∀x y c,(x,c)∈cellsFrom n names acc->(y,c)∈cellsFrom n names acc->n0<=c->x=y
 |[],_,_,_,h,_=>h
 |(nm,k)::r,n,acc,hn,h,hl=>by
  unfold cellsFrom
  split
  ·refine cf_inj r (n+1) ((nm,n)::acc) (by omega) (fun x y c hx hy hc=> ?_) (fun x c hx=> ?_)
   ·rcases yam.mp hx with e1|e1<;>rcases yam.mp hy with e2|e2
    ·cases e1;cases e2;rfl
    ·cases e1;exact absurd (hl _ _ e2) (ybd _)
    ·cases e2;exact absurd (hl _ _ e1) (ybd _)
    ·exact h x y c e1 e2 hc
   ·rcases yam.mp hx with e1|e1
    ·cases e1;exact yba _
    ·exact yaz (hl _ _ e1)
  ·exact cf_inj r n acc hn h hl
theorem cf_cell:∀(names:List (Str×NameKind)) (h:Heap) (acc:List (Str×Addr)) {x:Str} {c:Addr},(x,c)∈cellsFrom h.objs.size names acc->(x,c)∈acc\/(pushCells h names).IsCell c none
 |[],_,_,_,_,h=> .inl h
 |(nm,k)::r,h,acc,x,c,hm=>by
  unfold cellsFrom at hm
  unfold pushCells
  split at hm
  ·rename_i hk
   rw[if_pos hk]
   have hm':(x,c)∈cellsFrom (h.push {cls:= .type "cell",data:= .cell none}).objs.size r ((nm,h.objs.size)::acc):=by rw[ybu];exact hm
   rcases cf_cell r (h.push {cls:= .type "cell",data:= .cell none}) _ hm' with q|q
   ·rcases yam.mp q with e|e
    ·cases e
     exact .inr ⟨_,pushCells_keeps _ _ _ _ (yao _ rfl),rfl⟩
    ·exact .inl e
   ·exact .inr q
  ·rename_i hk
   rw[if_neg hk]
   exact cf_cell r h acc hm
theorem newEnvC{M:Model}{A:Around}{E:Value->Shared->Prop}{s:Shared}{scope:Scope}{globals:Addr}{closure:List (Str×Addr)}{qual:Str}{env:Env}{Q:Env->Shared->Prop}(hQ:Q (newEnv scope s.heap.objs.size globals (cellsFrom (s.heap.objs.size+1) scope.names closure) qual none Value.none (some env) 0) {s with heap:=pushCells (s.heap.push {cls:= .type "dict",data:= .dict #[]}) scope.names}):
  wpAny M A (newFunctionEnv scope globals closure [] qual none .none (some env)) Q E s:=by
 simp only[newFunctionEnv,Option.isSome_some,if_true]
 refine wpAny_bind (wpAny_alloc ?_)
 refine wpAny_bind (wpAny_layCells _ (fun name kind cells=>by cases hkc:kind==NameKind.cell<;>simp[hkc]) _ _ _ _ ?_)
 rw[List.forIn_nil]
 refine wpAny_bind (wpAny_pure (wpAny_pure ?_))
 rw[show({s with heap:=s.heap.push {cls:= .type "dict",data:= .dict #[]}}:Shared).heap.objs.size=s.heap.objs.size+1 from ybu ..]
 exact hQ
noncomputable def compOkC(sc scope:Scope):Bool:=scope.names.all fun p=>(p.2 !=NameKind.cell||scope.names.lookup p.1==some NameKind.cell)&&(p.2 !=NameKind.local||scope.names.lookup p.1==some NameKind.local)&&
 (p.2 !=NameKind.free||(scope.names.lookup p.1==some NameKind.free&&(sc.names.lookup p.1==some NameKind.cell||sc.names.lookup p.1==some NameKind.free)))
section
variable{sc scope:Scope}
theorem compOkC.cell(h:compOkC sc scope=true){x:Str}(hy:(x,NameKind.cell)∈scope.names):scope.names.lookup x=some .cell:=by
 have q:=ybb.mp h _ hy
 simpa using q
theorem compOkC.names(h:compOkC sc scope=true):∀y∈scope.names,y.2= .local->scope.names.lookup y.1=some .local:=fun y hy e=>by
 have q:=ybb.mp h y hy
 simpa[e]using q
theorem compOkC.free(h:compOkC sc scope=true){x:Str}(hy:(x,NameKind.free)∈scope.names):scope.names.lookup x=some .free/\(sc.names.lookup x=some .cell\/sc.names.lookup x=some .free):=by
 have q:=ybb.mp h _ hy
 simpa using q
end
theorem relab_cellC{scope:Scope}{env:Env}{x:Str}(h:(relabel scope env).names.lookup x=some .cell\/(relabel scope env).names.lookup x=some .free):(x,NameKind.free)∈scope.names\/(x,NameKind.cell)∈scope.names:=by
 cases e:scope.names.lookup x with
 |none=>
  have q:=relab_none (env:=env) e
  rcases h with h|h
  ·rw[show(relabel scope env).names.lookup x=none from q]at h;cases h
  ·rw[show(relabel scope env).names.lookup x=none from q]at h;cases h
 |some k=>
  have q:=relab_look (env:=env) e
  have m:=PySem.mem_of_lookup e
  by_cases hk:k= .free
  ·subst hk;exact .inl m
  ·have q':(relabel scope env).names.lookup x=some k:=by
    refine Eq.trans q ?_
    have:(k==NameKind.free)=false:=by simpa using hk
    simp[this]
   rw[q']at h
   rcases h with h|h
   ·cases h;exact .inr m
   ·cases h;exact absurd rfl hk
noncomputable def compCxC(X:Cx)(scope:Scope)(N:List Str)(s:Shared)(H:Hp)(cl:List (Str×Addr))(C:Addr)(ex:List Addr):Cx:=
 {X with N:=N,s₀:=s,H₀:=H,env:=compEnvC scope cl C X.env,outer:=X.stack,ex:=ex,fn:=fun x=>scope.names.lookup x==some NameKind.cell,pn:=[],xe:=fun _ _=>False}
section
variable{X:Cx}{tg iter elt:Expr}{ifs:List Expr}{scope:Scope}{pos:Pos}{own caps:List Str}{ix:List Nat}{g:TG}{tc:TT}{te:TE}
noncomputable abbrev clC(X:Cx)(scope:Scope)(C:Addr):List (Str×Addr):=cellsFrom (C+1) scope.names (clOf X.env.cells scope.names [])
theorem clC_mem{pins:List (Addr×Obj)}{s:Shared}{σ:St}{H:Hp}{C:Addr}(ck:compOkC X.env.scope scope=true)(I:Inv X pins σ H s){x:Str}{c:Addr}(e:(clC X scope C).lookup x=some c):
  (X.env.cells.lookup x=some c/\(x,NameKind.free)∈scope.names)\/((x,NameKind.cell)∈scope.names/\C<c/\(x,c)∉clOf X.env.cells scope.names []):=by
 have old:(x,c)∈clOf X.env.cells scope.names []->X.env.cells.lookup x=some c/\(x,NameKind.free)∈scope.names:=fun q=>by
  rcases clOf_mem q with q|⟨q,mm⟩
  ·cases q
  ·obtain⟨d,hd⟩:=I.ok.has x (compOkC.free ck mm).2
   rw[hd]at q
   have q:c=d:=q
   rw[q]
   exact⟨hd,mm⟩
 rcases cf_mem _ _ _ (PySem.mem_of_lookup e)with q|⟨q,m⟩
 ·exact .inl (old q)
 ·refine .inr ⟨q,m,fun z=> ?_⟩
  have h1:=compOkC.cell ck q
  have h2:=(compOkC.free ck (old z).2).1
  rw[h1]at h2;cases h2
theorem comp_entryC{pins:List (Addr×Obj)}{s s':Shared}{σ:St}{H:Hp}{fp:List Addr}{C:Addr}{m:Str->Option Value}(ck:compOkC X.env.scope scope=true)(hkind:scope.kind= .function)(hcap:Caps X scope caps ix)
  (I:Inv X pins σ H s)(f2:∀b∈fp,FpOk X pins H b)(hlt:∀b∈fp,b<s.heap.objs.size)(hC:s.heap.objs.size<=C)(hos:s'.os=s.os)(hg:AllBare s'.gens)(hk:∀b o,s.heap.get? b=some o->s'.heap.get? b=some o)(hn:s'.heap.Ns C m)(hcl:∀x c,(clC X scope C).lookup x=some c->(x,c)∉clOf X.env.cells scope.names []->s'.heap.IsCell c none):
  Inv (compCxC X scope (own++caps) s H (clC X scope C) C fp) [] (iniOf own ix σ) H s':=by
 have cl1:=fun x c e=>clC_mem (C:=C) (x:=x) (c:=c) ck I e
 have oldlt:∀x c,X.env.cells.lookup x=some c->c<s.heap.objs.size:=fun x c e=>by
  obtain⟨v,o,ho,_⟩:=I.cell x c e
  exact yap ho
 have cl2:∀x,(x,NameKind.free)∈scope.names\/(x,NameKind.cell)∈scope.names->∃c,(clC X scope C).lookup x=some c:=fun x mm=>by
  rcases mm with mm|mm
  ·obtain⟨c,hc⟩:=clOf_has (cells:=X.env.cells) (acc:=[]) mm
   obtain⟨d,hd,_⟩:=zav (cf_acc scope.names (C+1) _ hc)
   exact⟨d,hd⟩
  ·obtain⟨c,hc⟩:=cf_has scope.names (C+1) (clOf X.env.cells scope.names []) mm
   obtain⟨d,hd,_⟩:=zav hc
   exact⟨d,hd⟩
 have inj:∀x y c,(clC X scope C).lookup x=some c->(clC X scope C).lookup y=some c->x=y:=fun x y c h1 h2=>by
  rcases cl1 x c h1 with⟨q1,_⟩|⟨q1,m1,_⟩<;>rcases cl1 y c h2 with⟨q2,_⟩|⟨q2,m2,_⟩
  ·exact I.ok.inj x y c q1 q2
  ·exact absurd (ydo (yan (oldlt x c q1) hC) m2) (ybd _)
  ·exact absurd (ydo (yan (oldlt y c q2) hC) m1) (ybd _)
  ·refine cf_inj (n0:=C+1) scope.names (C+1) _ (yac _) (fun x y c hx hy hc=> ?_) (fun x c hx=> ?_) x y c (PySem.mem_of_lookup h1) (PySem.mem_of_lookup h2) m1
   ·obtain⟨d,hd,_⟩:=zav hx
    rcases clOf_mem hx with q|⟨q,mm⟩
    ·cases q
    ·obtain⟨d,hd⟩:=I.ok.has x (compOkC.free ck mm).2
     rw[hd]at q
     have q:c=d:=q
     subst q
     exact absurd (yan (yan (oldlt x c hd) hC) (yas hc)) (ybd _)
   ·rcases clOf_mem hx with q|⟨q,mm⟩
    ·cases q
    ·obtain⟨d,hd⟩:=I.ok.has x (compOkC.free ck mm).2
     rw[hd]at q
     have q:c=d:=q
     subst q
     exact yaz (yan (oldlt x c hd) hC)
 have bsz:X.base.objs.size<=s.heap.objs.size:=yat I.ok.bsz I.sz
 refine⟨⟨I.ok.mod,hkind,I.ok.glob,I.ok.blt,hC,inj,fun x hx=>cl2 x (relab_cellC hx),fun x c h e=> ?cab,I.ok.hd,I.ok.frames,.inl rfl,fun b hb=>⟨yau (yan (hlt b hb) hC),fun x c e=> ?exf⟩,I.bs,bsz,
  fun b o e hb=> ?_,fun b hb hz=> ?_,I.stack,I.stkFree⟩,?_,hg,Un.kept hk,⟨m,hn,fun i x v h1 h2 h3=> ?_⟩,fun x c e=> ?_,I.hok.fresh hC,fun x c e=> ?frc,fun p hp=>absurd (show p∈([]:List (Addr×Obj))from hp) (by simp),I.hok.kept hk,?_⟩
 case cab=>
  rcases cl1 x c e with⟨_,q⟩|⟨_,q,_⟩
  ·have y1:=(compOkC.free ck q).1
   have y2:(scope.names.lookup x==some NameKind.cell)=true:=h
   rw[y1]at y2
   exact absurd y2 (by decide)
  ·exact yat hC (yas q)
 case exf=>
  rcases cl1 x c e with⟨q,_⟩|⟨_,q,_⟩
  ·exact(f2 b hb).2.2.2.2.1 x c q
  ·exact Ne.symm (yau (ydo (yan (hlt b hb) hC) q))
 case frc=>
  rcases cl1 x c e with⟨q,_⟩|⟨_,q,_⟩
  ·exact I.freeC x c q
  ·exact I.hok.fresh (yat hC (yas q))
 ·rcases(f2 b hb).2.2.2.1 with z|z
  ·exact I.ok.noex b o e z
  ·exact absurd (yan (yap e) (yat I.ok.bsz z)) (ybd _)
 ·rcases yam.mp (I.stkSub b hz)with z|z
  ·exact(f2 b hb).2.1 z
  ·exact(f2 b hb).2.2.1 z
 ·exact hos
 ·have h1:(own++caps)[i]? =some x:=h1
  have h2:(own.map (fun _=>(none:Option V))++ix.map fun j=>(σ[j]?).join)[i]? =some (some v):=h2
  by_cases hi:i<own.length
  ·rw[ycm (by simpa using hi),yaf]at h2
   cases e:own[i]? <;>rw[e]at h2<;>simp at h2
  ·rw[ybs (by simpa using hi)]at h2
   rw[ybs (by omega)]at h1
   rw[yaa]at h2
   obtain⟨j,e1,e2,e3⟩:=hcap.get h1
   rw[yaf,e1]at h2
   have h2':(σ[j]?).join=some v:=by simpa using h2
   have h4:σ[j]? =some (some v):=by
    cases q:σ[j]? with
    |none=>rw[q]at h2';cases h2'
    |some w=>rw[q]at h2';exact congrArg some h2'
   obtain⟨m0,hn0,hl0⟩:=I.loc
   have mm:=PySem.mem_of_lookup e3
   have vis:=(compOkC.free ck mm).2
   obtain⟨u,r,l⟩:=hl0 j x v e2 h4 (.inr vis)
   refine⟨u,r,.inr ?_⟩
   rcases l with⟨k,_⟩|⟨k,c,e,z⟩
   ·rcases vis with q|q
    ·rw[show X.env.kindOf x=some .cell from q]at k;cases k
    ·rw[show X.env.kindOf x=some .free from q]at k;cases k
   ·obtain⟨d,hd⟩:=cl2 x (.inl mm)
    rcases cl1 x d hd with⟨this,_⟩|⟨qc,_⟩
    ·rw[e]at this
     cases this
     exact⟨relab_free e3,c,hd,z.keeps hk⟩
    ·have y1:=compOkC.cell ck qc
     rw[e3]at y1;cases y1
 ·rcases cl1 x c e with⟨q,_⟩|⟨_,_,q⟩
  ·obtain⟨v,z⟩:=I.cell x c q
   exact⟨v,z.keeps hk⟩
  ·exact⟨none,hcl x c e q⟩
 ·show(own.map (fun _=>(none:Option V))++ix.map fun j=>(σ[j]?).join).length=(own++caps).length
  simp[hcap.len]
theorem comp_coreC(ck:compOkC X.env.scope scope=true)(hkind:scope.kind= .function)(hcap:Caps X scope caps ix)(hc:X.calm=true)(hg:∀s H cl C ex,PG (compCxC X scope (own++caps) s H cl C ex) tg g)(ht:∀s H cl C ex,PTs (compCxC X scope (own++caps) s H cl C ex) ifs tc)(he:∀s H cl C ex,PE (compCxC X scope (own++caps) s H cl C ex) elt te){pins:List (Addr×Obj)}{s2:Shared}{σ:St}{H2:Hp}{E:Value->Shared->Prop}(I2:Inv X pins σ H2 s2){it:Addr}{fp:List Addr}{tn:Nat->Heap->Prop}{J:It}(T:Turn X.prog X.w X.K tg J fp it tn)(st2:tn 0 s2.heap)(f2:∀b∈fp,FpOk X pins H2 b)
  {W:Nat->Nat->List V->St->Hp->Prop}{m0:Nat}(w0:W 0 m0 [] (iniOf own ix σ) H2){Fin:List V->Hp->Prop}(turn:∀i m acc σ H,W i m acc σ H->(J.stop i H/\acc.length<=sizeLine/\Fin acc H)\/(J.go i H/\acc.length<sizeLine/\∃N:List V->St->Hp->Prop,(∀acc' σ' H',N acc' σ' H'->∃m',m'<m/\W (i+1) m' acc' σ' H')/\∀x H',J.yld i H x H'->g x σ H' fun σ2 H2=>tc σ2 H2 fun b H3=>
   if b=true then te σ2 H3 fun v H4=>N (acc++[v]) σ2 H4 else N acc σ2 H3))
  {RR:Value->Addr->Result->Shared->Prop}(hRR:∀D C s' acc Hf m,Inv X pins σ (upd Hf D (.lst acc)) s'->Hf D=none->s'.heap.Ns C m->FpOk X pins (upd Hf D (.lst acc)) C->Fin acc Hf->RR (.ref D) C (.ok .next) s'):
  wpAny (model X.prog X.w) X.A (newList []) (fun acc s₃=>wpAny (model X.prog X.w) X.A (newFunctionEnv scope X.env.globals (clOf X.env.cells scope.names []) [] X.env.qual none .none (some X.env)) (fun cenv s₄=>
   codeAny (model X.prog X.w) X.A (.compStart (.ListComp elt [⟨tg,iter,ifs,0⟩] scope pos) 0 (.ref it) acc {cenv with scope:=relabel scope X.env}) (RR acc cenv.locals) s₄) E s₃) E s2:=by
 refine wpAny_newObj_type (newEnvC ?_)
 generalize hP:s2.heap.push {cls:= .type "list",dict:=none,data:= .seq ([]:List Value).toArray}=P1
 have hC:P1.objs.size=s2.heap.objs.size+1:=by rw[<-hP,ybu]
 have hlt:∀b∈fp,b<s2.heap.objs.size:=fun b hb=>by
  obtain⟨o,e,_⟩:=T.obj _ _ st2 b hb
  exact yap e
 generalize hh1:pushCells (P1.push {cls:= .type "dict",data:= .dict #[]}) scope.names=h₁
 have hns₁:h₁.Ns P1.objs.size (fun _=>none):=by rw[<-hh1];exact(Heap.Ns.new P1 (.type "dict")).keeps (pushCells_keeps _ _)
 have old:∀b o,s2.heap.get? b=some o->h₁.get? b=some o:=fun b o e=>by
  rw[<-hh1];exact pushCells_keeps _ _ b o (yab _ (hP▸yab _ e))
 have hD1:h₁.get? s2.heap.objs.size=some {cls:= .type "list",data:= .seq ([]:List Value).toArray 0}:=by
  rw[<-hh1];exact pushCells_keeps _ _ _ _ (yab _ (hP▸yao _ rfl))
 have hcl1:∀x c,(clC X scope P1.objs.size).lookup x=some c->(x,c)∉clOf X.env.cells scope.names []->h₁.IsCell c none:=fun x c e n=>by
  have e':(x,c)∈cellsFrom (P1.objs.size+1) scope.names (clOf X.env.cells scope.names []):=PySem.mem_of_lookup e
  rw[show P1.objs.size+1=(P1.push {cls:= .type "dict",data:= .dict #[]}).objs.size from(ybu ..).symm]at e'
  rcases cf_cell _ _ _ e' with q|q
  ·exact absurd q n
  ·rw[<-hh1];exact q
 show codeAny (model X.prog X.w) X.A (.compStart (.ListComp elt [⟨tg,iter,ifs,0⟩] scope pos) 0 (.ref it) (.ref s2.heap.objs.size) {newEnv scope P1.objs.size X.env.globals (clC X scope P1.objs.size) X.env.qual none Value.none (some X.env) 0 with scope:=relabel scope X.env}) (RR (.ref s2.heap.objs.size) P1.objs.size) {s2 with heap:=h₁}
 generalize hDD:s2.heap.objs.size=D at *
 rw[hC]at hns₁ hcl1⊢
 have entry:Inv (compCxC X scope (own++caps) s2 H2 (clC X scope (D+1)) (D+1) fp) [] (iniOf own ix σ) H2 {s2 with heap:=h₁}:=
  comp_entryC ck hkind hcap I2 f2 (by rw[hDD];exact hlt) (by rw[hDD];exact ycq _) rfl I2.bare old hns₁ hcl1
 generalize hX':compCxC X scope (own++caps) s2 H2 (clC X scope (D+1)) (D+1) fp=X' at entry
 have eP:X'.prog=X.prog:=by rw[<-hX'];rfl
 have ew:X'.w=X.w:=by rw[<-hX'];rfl
 have eK:X'.K=X.K:=by rw[<-hX'];rfl
 have eA:X'.A=X.A:=by rw[<-hX'];rfl
 have ecalm:X'.calm=true:=by rw[<-hX'];exact hc
 have efs:X'.fs=frs X.stack:=by rw[<-hX'];rfl
 have eex:X'.ex=fp:=by rw[<-hX'];rfl
 have epn:X'.pn=[]:=by rw[<-hX'];rfl
 have es0:X'.s₀=s2:=by rw[<-hX'];rfl
 have eH0:X'.H₀=H2:=by rw[<-hX'];rfl
 have exe:X'.xe=fun _ _=>False:=by rw[<-hX'];rfl
 have eenv:X'.env=compEnvC scope (clC X scope (D+1)) (D+1) X.env:=by rw[<-hX'];rfl
 have eloc:X'.env.locals=D+1:=by rw[eenv];rfl
 have hg':PG X' tg g:=by rw[<-hX'];exact hg _ _ _ _ _
 have ht':PTs X' ifs tc:=by rw[<-hX'];exact ht _ _ _ _ _
 have he':PE X' elt te:=by rw[<-hX'];exact he _ _ _ _ _
 have ecl:∀x c,X'.env.cells.lookup x=some c->c≠D:=fun x c e=>by
  rw[eenv]at e
  rcases clC_mem (C:=D+1) ck I2 e with⟨q,_⟩|⟨_,q,_⟩
  ·obtain⟨v',o',ho',_⟩:=I2.cell x c q
   exact yau (by rw[<-hDD];exact yap ho')
  ·exact Ne.symm (yau (ydo (yba D) q))
 have dfs:D∉frs X.stack:=fun hb=>by
  rcases yam.mp (I2.stkSub D hb)with z|z
  ·exact absurd (Nat.lt_of_lt_of_eq I2.lt hDD) (by rw[z];exact ybd _)
  ·exact I2.nofs (yci hDD) z
 have fpn:∀{H':Hp} {o:Obj},(∀b∈fp,H' b=none)->∀b∈fp,FpOk X' [(D,o)] H' b:=fun{H' o} hn b hb=>by
  have hbl:=hlt b hb
  refine⟨hn b hb,by rw[eloc];exact yau (yaz hbl),?_,.inl (by rw[eex];exact hb),fun x c e=> ?_,fun p hp=> ?_⟩
  ·rw[efs]
   intro z
   rcases yam.mp (I2.stkSub b z)with z|z
   ·exact(f2 b hb).2.1 z
   ·exact(f2 b hb).2.2.1 z
  ·rw[eenv]at e
   rcases clC_mem (C:=D+1) ck I2 e with⟨q,_⟩|⟨_,q,_⟩
   ·exact(f2 b hb).2.2.2.2.1 x c q
   ·exact Ne.symm (yau (ydo (yaz hbl) q))
  ·rw[epn]at hp
   have:p=(D,o):=by simpa using hp
   rw[this]
   exact ycg hbl
 have pinD:∀{σ':St} {H':Hp} {s':Shared} {o:Obj},Inv X' [] σ' H' s'->s'.heap.get? D=some o->H' D=none->(∀v,o.data≠.cell v)->Inv X' [(D,o)] σ' H' s':=fun{σ' H' s' o} I e n d=>
  I.pins_of fun p hp=>by
   have:p=(D,o):=by simpa using hp
   subst this
   exact⟨e,n,by rw[eloc];exact yau (yba D),by rw[efs];exact dfs,d⟩
 have loop:∀s₃:Shared,s₃={s2 with heap:=h₁}->
   codeAny (model X.prog X.w) X.A (.compLoop (.ListComp elt [⟨tg,iter,ifs,0⟩] scope pos) 0 (.ref it) (.ref D) X'.env) (RR (.ref D) (D+1)) s₃:=by
  intro s₃ hs₃
  refine codeAny_loop rfl (fun n s'=>∃i acc its k σ' H',Inv X' [] σ' H' s'/\tn i s'.heap/\(∀b∈fp,H' b=none)/\s'.heap.get? D=some {cls:= .type "list",data:= .seq (List.toArray its) k}/\Vals acc its/\H' D=none/\W i n acc σ' H') ?_ m0
   ⟨0,[],[],0,iniOf own ix σ,H2,by rw[hs₃];exact entry,by rw[hs₃];exact T.keep _ _ _ st2 fun b _ o e=>old b o e,fun b hb=>(f2 b hb).1,by rw[hs₃];exact hD1,.nil,I2.hok.fresh (yci hDD),w0⟩
  rintro n s3 ⟨i,acc,its,k,σ3,H3,I3,st3,fr3,eD,rv,nD,w3⟩
  show wpAny _ X.A ((compTurn (.ListComp elt [⟨tg,iter,ifs,0⟩] scope pos) 0 (.ref it) (.ref D) X'.env).onRaise (fun x=>do noteFrame x X'.env;theTreesLotGoes x)) _ _ s3
  refine wpAny_noted ?_
  rw[compTurn_list]
  have noE:∀{α:Type} {t:Sem α} {Q:α->Shared->Prop} {E':Value->Shared->Prop} {s:Shared},wpAny (model X'.prog X'.w) X'.A t Q X'.xe s->wpAny (model X.prog X.w) X.A t Q E' s:=fun{α t Q E' s} h=>by
   rw[eP,ew,eA,exe]at h
   exact wpAny_mono h (fun _ _ q=>q) fun _ _ z=>z.elim
  have I3':=pinD (o:={cls:= .type "list",data:= .seq (List.toArray its) k}) I3 eD nD (fun v z=>by
   have z':Data.seq (List.toArray its) k=Data.cell v:=z
   cases z')
  refine wpAny_bind (wpAny_standAt (wpAny_bind ?_))
  rcases turn i n acc σ3 H3 w3 with⟨stop,hz,fin⟩|⟨go,hz,Nn,hN,step⟩
  ·have q:=T.done X' eP ew eK ecalm i [(D,_)] s3 σ3 H3 (notedBy (model X.prog X.w) X.A X'.env fun e s'=>RR (.ref D) (D+1) (.error e) s') I3' (fpn fr3) st3 stop
   rw[eA]at q
   refine thn q fun r s4 ⟨hr,I4⟩=> ?_
   subst hr
   refine wpAny_pure ?_
   obtain⟨e4,_⟩:=I4.pin (D,_) (yaj _ yah)
   obtain⟨mC,hnC,_⟩:=I4.loc
   have u4:=I4.base
   rw[efs,eex,eH0,es0]at u4
   have ok4:=I4.hok
   rw[eP,ew]at ok4
   have nC:H3 (D+1)=none:=by have:=I4.free;rw[eloc]at this;exact this
   have hok:HOk X.prog X.w (upd H3 D (.lst acc)) s4.heap:=ok4.add nD ⟨hz,its,k,rv,e4⟩
   refine hRR D (D+1) s4 acc H3 mC ?_ nD (by rw[eloc]at hnC;exact hnC) ?_ fin
   ·refine I2.call' (s':=s4) (ch:=fp) ?_ (u4.add (by rw[hDD];exact yac _) nD) hok I4.bare fun b hb=> ?_
    ·have:=I4.os;rw[es0]at this;exact this
    ·obtain⟨f0,f1,f3,f4,f5,f6⟩:=f2 b hb
     exact⟨f4,f1,f5,f6⟩
   ·refine I2.fpOk (by rw[hDD];exact ycq _) ?_
    rw[zaj (ycg (yba D))]
    exact nC
  ·have q:=T.item X' eP ew eK ecalm i [(D,_)] s3 σ3 H3 (notedBy (model X.prog X.w) X.A X'.env fun e s'=>RR (.ref D) (D+1) (.error e) s') I3' (fpn fr3) st3 go
   rw[eA]at q
   refine thn q fun r s4 ⟨u,hr,h4⟩=> ?_
   subst hr
   dsimp only
   refine wpAny_bind (thn h4 fun _ s5 ⟨x,H5,I5,r5,y5,st5,fr5⟩=> ?_)
   have I5':=I5.pinned (fpn fr5) (T.obj _ _ st5)
   have again:∀{σ7:St} {H7:Hp} {s7:Shared},Inv X' ([(D,{cls:= .type "list",data:= .seq (List.toArray its) k})]++pinsAt fp s5.heap) σ7 H7 s7->tn (i+1) s7.heap/\(∀b∈fp,H7 b=none)/\s7.heap.get? D=some {cls:= .type "list",data:= .seq (List.toArray its) k}/\H7 D=none:=fun{σ7 H7 s7} I7=>by
    refine⟨T.keep _ _ _ st5 fun b hb o e=>(I7.pin (b,o) (yaj _ (yaj _ (zdd hb e)))).1,fun b hb=> ?_,?_⟩
    ·obtain⟨o,e,d⟩:=T.obj _ _ st5 b hb
     exact(I7.pin (b,o) (yaj _ (yaj _ (zdd hb e)))).2.1
    ·have:=I7.pin (D,_) (yaj _ (ybq _ yah))
     exact⟨this.1,this.2.1⟩
   refine wpAny_bind (thn (noE (hg' _ s5 σ3 H5 x u _ I5' r5 (step x H5 y5))) fun _ s6 ⟨σ6,H6,I6,q6⟩=> ?_)
   refine wpAny_bind (thn (noE (ht' _ s6 σ6 H6 _ I6 q6)) fun ok s7 ⟨H7,I7,q7⟩=> ?_)
   cases ok with
   |false=>
    rw[if_neg Bool.false_ne_true]at q7
    obtain⟨m',hm,w7⟩:=hN _ _ _ q7
    obtain⟨a1,a2,a3,a4⟩:=again I7
    exact wpAny_pure ⟨rfl,m',hm,i+1,acc,its,k,σ6,H7,I7.pins_of (fun p hp=>nomatch hp),a1,a2,a3,rv,a4,w7⟩
   |true=>
    rw[if_pos rfl]at q7
    refine wpAny_bind (wpAny_bind (thn (noE (he' _ s7 σ6 H7 _ I7 q7)) fun v s8 ⟨y,H8,I8,r8,q8⟩=> ?_))
    obtain⟨m',hm,w8⟩:=hN _ _ _ q8
    obtain⟨a1,a2,a3,a4⟩:=again I8
    have hl:=rv.length
    refine wpAny_bind (call_meets F.slot_list_append ⟨_,a3,rfl⟩ F.entry_list_append (F.args_list_append_2 _ _) (PySem.list_append D its.toArray k v (by rw[yak];omega)) ⟨a3,?_⟩)
    refine wpAny_pure (wpAny_pure ⟨rfl,m',hm,i+1,acc++[y],its++[v],?_⟩)
    have qD:=PySem.IsL.update a3 (fun a:Array Value=>a.push v)
    rw[List.push_toArray]at qD
    have kp:∀b o,b≠D->s8.heap.get? b=some o->(s8.heap.update D (Obj.mapSeq fun a=>a.push v)).get? b=some o:=fun b o hb e=>(ydy s8.heap _ (Ne.symm hb)).trans e
    have I8':Inv X' [] σ6 H8 {s8 with heap:=s8.heap.update D (Obj.mapSeq fun a=>a.push v)}:=by
     refine(I8.pins_of (pins':=[]) (fun p hp=>nomatch hp)).turned (t':=s8.toks) (it:=D) kp a4 (by rw[eloc];exact yau (yba D)) (.inr (by rw[es0,hDD];exact yac _)) (fun x c e=>ecl x c e) (fun p hp=> ?_)
     rw[epn]at hp
     exact nomatch hp
    exact⟨_,σ6,H8,I8',T.keep _ _ _ a1 fun b hb o e=>kp b o (yau (hlt b hb)) e,a2,qD,rv.append (.cons r8 .nil),a4,w8⟩
 have eenv':({newEnv scope (D+1) X.env.globals (clC X scope (D+1)) X.env.qual none Value.none (some X.env) 0 with scope:=relabel scope X.env}:Env)=X'.env:=by rw[eenv];rfl
 have L:=loop _ rfl
 rw[<-eenv']at L
 exact codeAny_compStart_list L (T.self X.A 0 _ _ _ (T.keep _ _ _ st2 fun b _ o e=>old b o e) L)
end
section
variable{X:Cx}{tg iter elt:Expr}{ifs:List Expr}{scope:Scope}{pos:Pos}{own caps:List Str}{ix:List Nat}{wi:TI}{g:TG}{tc:TT}{te:TE}
theorem pe_compC(hc:X.calm=true)(hi:PI X tg iter wi)(ck:compOkC X.env.scope scope=true)(hkind:scope.kind= .function)(hcap:Caps X scope caps ix)(hg:∀s H cl C ex,PG (compCxC X scope (own++caps) s H cl C ex) tg g)(ht:∀s H cl C ex,PTs (compCxC X scope (own++caps) s H cl C ex) ifs tc)(he:∀s H cl C ex,PE (compCxC X scope (own++caps) s H cl C ex) elt te)(hs:∀x,foldedSetIterable iter X.env x=pure x:=by intro _;rfl):PE X (.ListComp elt [⟨tg,iter,ifs,0⟩] scope pos) (tComp wi own ix g tc te):=by
 intro pins s σ H Q I h
 rw[eval_ListComp]
 refine wpAny_comprehension_free (use:=none) rfl hs (closure_of fun x hx=>I.ok.has x ((compOkC.free ck hx).2)) hkind (compOkC.names ck) (thn (hi pins s σ H _ I h) fun xv s1 h1=>thn h1 fun itv s2 h2=> ?_)
 obtain⟨it,fp,tn,J,H2,e,I2,T,st2,f2,W,⟨m0,w0⟩,turn⟩:=h2
 subst e
 refine comp_coreC (RR:=fun acc C=>compPost (model X.prog X.w) X.A X.xe none (EP X pins σ Q) acc C) ck hkind hcap hc hg ht he I2 T st2 f2 w0 turn ?_
 intro D C s' acc Hf m I' nD hn fC fin
 refine⟨m,hn,fun h' sb=> ?_⟩
 obtain⟨f0,f1,f3,f4,f5,f6⟩:=fC
 exact⟨.ref D,_,I'.turned (t':=s'.toks) (it:=C) (fun b o hb e=>(sb.2 b hb).trans e) f0 f1 f4 f5 f6,rfl,fin D nD⟩
end
section
variable{prog:Program}{w:World}{A:Around}{E:Value->Shared->Prop}{s:Shared}
end
section
variable{X:Cx}{a:Expr}{ta:TA}{p p' pos pos':Pos}
end
end L2
namespace Srt
open PySem PySem.W PyProof.Rows PySem.Calls
section
variable{prog:Program}{w:World}{A:Around}{E:Value->Shared->Prop}{s:Shared}{O:KeyOrd}{key:Nat->O.α}{κ:SortKind}{vs:List Value}
theorem collect_tup{t:Addr}{Q:List Value->Shared->Prop}(ht:s.heap.IsTuple t vs.toArray)(h:Q vs {s with heap:=(s.heap.push (seqObj "list" #[] 0)).update s.heap.objs.size (Obj.mapSeq (· ++vs.toArray))})(hz:vs.length<=sizeLine):
  wpAny (model prog w) A (collect (.ref t)) Q E s:=by
 obtain⟨o,ho,hc,n,hd⟩:=id ht
 unfold collect
 refine wpAny_bind (wpAny_runValue (codeAny_builtin entry_proto_collect' ?_))
 show wpAny _ _ (do again (.builtin "list.__iadd__" ⟨[<-newList [],.ref t],[]⟩)) _ _ s
 refine wpAny_bind (wpAny_newList (wpAny_pure ⟨Code.quiet_builtin _ (by decide+kernel),codeAny_builtin entry_list_iadd' ?_⟩))
 show wpAny _ _ (Builtin.List.listExtendWith (.ref s.heap.objs.size) (.ref t) (.ref s.heap.objs.size)) _ _ {s with heap:=s.heap.push (seqObj "list" #[] 0)}
 unfold Builtin.List.listExtendWith
 have h1:(s.heap.push (seqObj "list" #[] 0)).get? t=some o:=yab _ ho
 have h2:(Value.type "tuple"==Value.type "tuple")=true:=by rfl
 refine wpAny_bind (wpAny_typeOf (T:="tuple") ⟨o,h1,hc⟩ ?_)
 rw[if_pos (by rw[h2];simp)]
 refine wpAny_bind (listItems_at h1 hd (wpAny_bind (listItems_at (xs:=#[]) (n:=0) (yao _ rfl) rfl ?_)))
 rw[if_neg (by simp)]
 refine wpAny_bind (listUpdate_at (xs:=#[]) (n:=0) (yao _ rfl) rfl (wpAny_pure ?_) (yaw _) (by show(#[]++vs.toArray).size<=sizeLine+1;simp only[Array.size_append,yak,ydd];omega))
 show wpAny (model prog w) A (load s.heap.objs.size>>=_) Q E {s with heap:=(s.heap.push (seqObj "list" #[] 0)).update s.heap.objs.size (Obj.mapSeq (· ++vs.toArray))}
 refine wpAny_bind (wpAny_load (get?_update_seq (yao _ rfl) _) ?_)
 show wpAny _ _ (pure ((#[]:Array Value)++vs.toArray).toList) Q E _
 have e:((#[]:Array Value)++vs.toArray).toList=vs:=by simp
 rw[e]
 exact wpAny_pure h
theorem sorted_tup{l:Addr}{Q:Value->Shared->Prop}(hl:s.heap.IsTuple l vs.toArray)(h64:vs.length<64)(hkind:2<=vs.length->∀h',(∀b o,s.heap.get? b=some o->h'.get? b=some o)->∀(E:Value->Shared->Prop) (Q:SortKind->Shared->Prop),Q κ {s with heap:=h'}->wpAny (model prog w) A.in1.in1 (keyKind' vs.toArray) Q E {s with heap:=h'})(hask:2<=vs.length->∀h',(∀b o,s.heap.get? b=some o->h'.get? b=some o)->AskOk O key vs.length (kas_ask prog w A.in1.in1 κ vs) {s with heap:=h'})(h:∀D h' out c,Outs key vs out->s.heap.objs.size<=D->(∀b o,s.heap.get? b=some o->h'.get? b=some o)->h'.get? D=some (seqObj "list" (List.toArray out) c)->Q (.ref D) {s with heap:=h'}):
  wpAny (model prog w) A (call (.builtin "sorted") [.ref l]) Q E s:=by
 refine Calls.call_function_entry kind_sorted plain_sorted entry_sorted (args_sorted1 _) ?_
 unfold Builtin.«sorted»
 refine wpAny_bind (m:=checkCount "sorted" 1 1 _) (wpAny_pure (wpAny_bind (collect_tup hl (wpAny_bind (wpAny_newList ?_ (by rw[sizeLine_eq];omega))) (by rw[sizeLine_eq];omega))))
 have hsz:((s.heap.push (seqObj "list" #[] 0)).update s.heap.objs.size (Obj.mapSeq (· ++vs.toArray))).objs.size=s.heap.objs.size+1:=by
  rw[Heap.size_update,size_push']
 have hoL:(((s.heap.push (seqObj "list" #[] 0)).update s.heap.objs.size (Obj.mapSeq (· ++vs.toArray))).push (seqObj "list" vs.toArray 0)).get? (s.heap.objs.size+1)=some (seqObj "list" vs.toArray 0):=by
  rw[<-hsz];exact yao _ rfl
 have keep:∀b o,s.heap.get? b=some o->(((s.heap.push (seqObj "list" #[] 0)).update s.heap.objs.size (Obj.mapSeq (· ++vs.toArray))).push (seqObj "list" vs.toArray 0)).get? b=some o:=fun b o q=>by
  have hlt:b<s.heap.objs.size:=yap q
  rw[Heap.get?_push_ne _ _ _ (by rw[hsz];exact yau (yaz hlt)),Heap.get?_update_ne _ _ _ _ (yau hlt),Heap.get?_push_ne _ _ _ (yau hlt)]
  exact q
 have ne:∀b o,s.heap.get? b=some o->b≠s.heap.objs.size+1:=fun b o q=>yau (yaz (yap q))
 show wpAny _ _ _ _ _ {s with heap:=((s.heap.push (seqObj "list" #[] 0)).update s.heap.objs.size (Obj.mapSeq (· ++vs.toArray))).push (seqObj "list" vs.toArray 0)}
 rw[hsz]
 refine wpAny_bind (wpAny_holding (wpAny_call_entry slot_list_sort ⟨_,hoL,rfl⟩ entry_list_sort ?body (args_list_sort _)))
 case body=>
  refine list_sort_own (key:=key) (κ:=κ) (s:={s with heap:=((s.heap.push (seqObj "list" #[] 0)).update s.heap.objs.size (Obj.mapSeq (· ++vs.toArray))).push (seqObj "list" vs.toArray 0)}) hoL h64
   (fun h2 h' k Q hq=>hkind h2 h' (fun b o q=>k b o (ne b o q) (keep b o q)) _ Q hq) (fun h2 h' k=>hask h2 h' fun b o q=>k b o (ne b o q) (keep b o q)) fun h' out c ho k hc=> ?_
  exact⟨_,rfl,wpAny_pure ⟨_,rfl,h _ h' out c ho (ycq _) (fun b o q=>k b o (ne b o q) (keep b o q)) hc⟩⟩
end
end Srt
namespace L2
open PySem PySem.Spec PyProof.Rows
section
variable{X:Cx}
end
section
variable{K:W.Frag}{σ:St}{H0:Hp}
end
end L2
namespace L2
open PySem PySem.W PySem.Spec PyProof.Rows
section
variable{X:Cx}
theorem call_sortedE:CallR X (.builtin "sorted") (fun xs H Q=>∃(a:Addr) (its:List (Addr×List Int)),xs=[.ref a]/\SqL X.K H a (its.map fun p=>V.ref p.1)/\(∀p∈its,SqT X.K H p.1 (p.2.map V.int)/\(2<=its.length->p.2≠[]))/\its.length<64/\
  ∀(l:Addr) (its':List (Addr×List Int)),H l=none->its'.Perm its->its'.Pairwise (fun p q=>HT.lexLt q.2 p.2=false)->Q (.ref l) (upd H l (.lst (its'.map fun p=>V.ref p.1)))):=by
 intro pins s σ H xs us Q I r h
 obtain⟨a,its,rfl,hS,hT,h64,q⟩:=h
 obtain⟨u,rfl,ru⟩:=r.one
 cases ru
 obtain⟨vs,rv,pl,hz⟩:=I.list hS
 have hlen:its.length=vs.length:=by have:=rv.length;simpa using this
 -- the values beside the tuples
 have pr:Paired (fun(p:Addr×List Int) (v:Value)=>v= .ref p.1) its vs:=by
  have go:∀(l:List (Addr×List Int)) (us:List Value),Vals (l.map fun p=>V.ref p.1) us->Paired (fun(p:Addr×List Int) (v:Value)=>v= .ref p.1) l us:=by
   intro l
   induction l with
   |nil=>intro us h;cases h;exact .nil
   |cons p l ih=>
    intro us h
    cases h with
    |cons r t=>exact .cons r (ih _ t)
  exact go its vs rv
 have tup:∀p∈its,∃(items:List Value),IntsAre items p.2/\IsTup s.heap p.1 items.toArray:=fun p hp=>by
  obtain⟨its',r',t',_⟩:=I.tuple (hT p hp).1
  exact⟨its',intsAre_of r',t'⟩
 refine Srt.sorted_own (O:=Srt.lexOrd) (key:=fun i=>(its.getD i (0,[])).2) (κ:=tuples' true) (s:=s) pl.isList (by omega) (fun h2 h' k E' Q' hq=> ?_) (fun h2 h' k=> ?_) (fun D h' out c ho hD k hc=> ?_)
 ·have kt:∀(l:List (Addr×List Int)) (us:List Value),Paired (fun(p:Addr×List Int) (v:Value)=>v= .ref p.1) l us->(∀p∈l,p∈its)->∃fs:List Value,KatTups h' us fs/\fs.length=us.length/\∀v∈fs,∃i t,v=Value.int i t:=by
   intro l us h
   induction h with
   |nil=>intro _;exact⟨[],trivial,rfl,fun _ hv=>nomatch hv⟩
   | @cons p v l us r t ih=>
    intro hs
    obtain⟨fs,k1,k2,k3⟩:=ih fun p hp=>hs p (yae _ hp)
    obtain⟨items,hi,o,e,hc,n,hd⟩:=tup p (hs p yah)
    have hne:=(hT p (hs p yah)).2 (by omega)
    obtain⟨pa,pn⟩:=p
    dsimp only at hi hne e r
    cases hi with
    |nil=>exact absurd rfl hne
    |cons i t hi'=>
     rw[r]
     refine⟨Value.int i t::fs,KatTups.cons (k _ _ e) hc hd (by simp) k1,by simp[k2],fun v hv=> ?_⟩
     rcases yam.mp hv with e|e
     ·exact⟨i,t,e⟩
     ·exact k3 v e
  obtain⟨fs,k1,k2,k3⟩:=kt its vs pr fun _ hp=>hp
  refine kat_kind (s:={s with heap:=h'}) (T:= .type "int") k1 (by omega) (fun v hv=> ?_) (by rfl) hq
  obtain⟨i,t,rfl⟩:=k3 v hv
  exact fun A Q E s _ q=>wpAny_pure q
 ·intro i j C hi hj hC
  rw[<-hlen]at hi hj
  have get:∀i (hi:i<its.length),vs.getD i Value.none= .ref its[i].1:=by
   have go:∀(l:List (Addr×List Int)) (us:List Value),Paired (fun(p:Addr×List Int) (v:Value)=>v= .ref p.1) l us->∀i (hi:i<l.length),us.getD i Value.none= .ref l[i].1:=by
    intro l us h
    induction h with
    |nil=>intro i hi;simp at hi
    |cons r t ih=>
     intro i hi
     cases i with
     |zero=>exact r
     |succ i=>simpa using ih i (by simpa using hi)
   exact go its vs pr
  unfold kas_ask
  rw[get i hi,get j hj]
  obtain⟨xi,hxi,oi,ei,ci,ni,di⟩:=tup its[i] (ycf _)
  obtain⟨xj,hxj,oj,ej,cj,nj,dj⟩:=tup its[j] (ycf _)
  refine kat_lt (s:={s with heap:=h'}) (k _ _ ei) di (k _ _ ej) dj ?_
  refine Srt.lex_ints 0 hxi hxj ?_ ?_
  ·have:=hxi.length;have:=hxj.length
   simp only[yak]
   omega
  ·rw[HT.lexLt_iff]
   have e1:its.getD i (0,[])=its[i]:=by simp[hi]
   have e2:its.getD j (0,[])=its[j]:=by simp[hj]
   have hC':C (decide ((its.getD i (0,[])).2<(its.getD j (0,[])).2)) {s with heap:=h'}:=hC
   rw[e1,e2]at hC'
   exact hC'
 ·obtain⟨its',hp,hr,hw⟩:=Srt.outs_of (d:=((0,[]):Addr×List Int)) (f:=fun p=>p.2) pr (fun i hi=>by show(its.getD i (0,[])).2=_;simp[hi]) ho
  have hn:H D=none:=I.hok.fresh hD
  have rv':Vals (its'.map fun p=>V.ref p.1) out:=by
   have go:∀(l:List (Addr×List Int)) (us:List Value),Paired (fun(p:Addr×List Int) (v:Value)=>v= .ref p.1) l us->Vals (l.map fun p=>V.ref p.1) us:=by
    intro l us h
    induction h with
    |nil=>exact .nil
    |cons r t ih=>exact .cons r ih
   exact go its' out hr
  have zl:(its'.map fun p=>V.ref p.1).length<=sizeLine:=by
   have:=hp.length_eq
   rw[yaa]
   exact yas (small1000 (by omega))
  have J:Inv X pins σ (upd H D (.lst (its'.map fun p=>V.ref p.1))) {s with heap:=h',toks:=s.toks}:=I.laid k hD ⟨zl,out,c,rv',hc⟩
  refine⟨.ref D,_,J,rfl,q D its' hn hp (hw.imp fun{x y} hxy=> ?_)⟩
  rw[HT.lexLt_iff];exact hxy
theorem pt_truthK(K:W.Frag){a:Expr}{ta:TE}(ha:PE X a ta)(he:∀whole,isTrue a X.env whole=(do let v<-whole;standAt a.pos;holding [v] (truthy v)))(h:X.K=K:=by rfl):
  PT X a (fun σ H Q=>ta σ H fun x H'=>∃k,TruV K x H' k/\Q k H'):=by subst h;exact pt_truth ha he
end
end L2
namespace L2
open PySem PySem.Spec PyProof.Rows
section
variable{prog:Program}{w:World}{A:Around}{E:Value->Shared->Prop}{s:Shared}{l:Addr}{kid:String}{vs:List Value}{R:Result->Shared->Prop}{Q:Value->Shared->Prop}
noncomputable def Kp(s:Shared)(h:Heap):Prop:=∀b o,s.heap.get? b=some o->h.get? b=some o
theorem max_go(kf:Nat->Int)(hA:A.handled=none)(hl:s.heap.IsList l vs.toArray)(turn:∀(i:Nat) (v:Value),vs[i]? =some v->∀(h:Heap) (tk:Nat),Kp s h->∀Q E:Value->Shared->Prop,(∀t tk',Q (.int (kf i) t) {s with heap:=h,toks:=tk'})->wpAny (model prog w) A.in1 (call (.builtin kid) [v]) Q E {s with heap:=h,toks:=tk})(hR:∀i v h' tk',vs[i]? =some v->(∀j,j<vs.length->kf j<=kf i/\(j<i->kf j<kf i))->Kp s h'->R (.ok (.ret v)) {s with heap:=h',toks:=tk'}):
  ∀(r j i:Nat) (h:Heap) (tk:Nat) (vb:Value) (tb:Tok) (c:Nat),vs.length-(j+1)=r->j+1<=vs.length->Kp s h->h.get? (s.heap.objs.size+1)=some (seqObj "list" #[vb,.int (kf i) tb] c)->h.IsListIter s.heap.objs.size l (j+1)->vs[i]? =some vb->i<=j->(∀j',j'<=j->kf j'<=kf i/\(j'<i->kf j'<kf i))->
   codeAny (model prog w) A (.builtin "max.loop" ⟨[.ref s.heap.objs.size,.builtin kid,.ref (s.heap.objs.size+1)],[]⟩) R {s with heap:=h,toks:=tk}:=by
 have nm:(toString "max"++toString ".loop":String)="max.loop":=by decide
 obtain⟨ol,hol,hlc,hln,hld⟩:=id hl
 have nlI:l≠s.heap.objs.size:=yau (yap hol)
 have W:=Walks.list (prog:=prog) (w:=w) (A:=A.in1) hA s.heap.objs.size l nlI vs.toArray
 have zs:vs.toArray.size=vs.length:=yak ..
 have nSI:s.heap.objs.size+1≠s.heap.objs.size:=ycg (yba _)
 have hlK:∀h,Kp s h->h.IsList l vs.toArray:=fun h k=>⟨ol,k _ _ hol,hlc,hln,hld⟩
 have kI:∀h h',Kp s h->(∀b o,b∉[s.heap.objs.size]->h.get? b=some o->h'.get? b=some o)->Kp s h':=fun h h' k q b o e=>q b o (fun z=>ybd _ ((yal.mp z)▸yap e)) (k b o e)
 have kS:∀h h',Kp s h->(∀b,b≠s.heap.objs.size+1->h'.get? b=h.get? b)->Kp s h':=fun h h' k q b o e=>(q b (yau (yaz (yap e)))).trans (k b o e)
 intro r
 induction r with
 |zero=>
  intro j i h tk vb tb c hr hj k hS hit hvb hij hbest
  refine codeAny_builtin PySem.F.entry_max_loop (by
   rw[Around.under_plainId PySem.F.plain_max_loop _]
   show wpAny _ A.in1 (seqItems? (.ref (s.heap.objs.size+1))>>=_) _ _ _
   refine wpAny_bind (wpAny_seqItems hS rfl (?_))
   show wpAny _ A.in1 (tryCatch (pyNext (.ref s.heap.objs.size)) _>>=_) _ _ _
   refine wpAny_bind (wpAny_tryCatch (W.done _ _ _ ⟨by rw[zs,<-show j+1=vs.length by omega];exact hit,hlK h k⟩ fun h' tk' hk'=> ?_))
   have g:=hk' (s.heap.objs.size+1) _ (by simp) hS
   show wpAny _ A.in1 (updateSeq (s.heap.objs.size+1) (fun _=>#[])>>=_) _ _ _
   refine wpAny_bind (wpAny_updateSeq g rfl (wpAny_bind (wpAny_letGo (wpAny_pure ?_))))
   exact hR i vb _ _ hvb (fun j' hj'=>hbest j' (by omega)) (kS _ _ (kI _ _ k hk') (Heap.SameBut.update h' (s.heap.objs.size+1) (Obj.mapSeq fun _=>(#[]:Array Value))).2))
 |succ r ih=>
  intro j i h tk vb tb c hr hj k hS hit hvb hij hbest
  have hlt:j+1<vs.length:=by omega
  refine codeAny_builtin PySem.F.entry_max_loop (by
   rw[Around.under_plainId PySem.F.plain_max_loop _]
   show wpAny _ A.in1 (seqItems? (.ref (s.heap.objs.size+1))>>=_) _ _ _
   refine wpAny_bind (wpAny_seqItems hS rfl (?_))
   show wpAny _ A.in1 (tryCatch (pyNext (.ref s.heap.objs.size)) _>>=_) _ _ _
   refine wpAny_bind (wpAny_tryCatch (W.item (j+1) _ _ _ (by rw[zs];exact hlt) ⟨hit,hlK h k⟩ fun v h' tk' hP hst' hk'=> ?_))
   have hv:vs[j+1]? =some v:=(by simpa using hP)
   have k1:=kI _ _ k hk'
   have g:=hk' (s.heap.objs.size+1) _ (by simp) hS
   show wpAny _ A.in1 (tryCatch (holding [v] (call (.builtin kid) [v])) _>>=_) _ _ _
   refine wpAny_bind (wpAny_tryCatch (wpAny_holding (turn (j+1) v hv h' tk' k1 _ _ fun t2 tk2=> ?_)))
   show wpAny _ A.in1 (tryCatch (holding [v,.int (kf (j+1)) t2] (richCompare .Gt (.int (kf (j+1)) t2) (.int (kf i) tb)>>=_)) _>>=_) _ _ _
   refine wpAny_bind (wpAny_tryCatch (wpAny_holding (wpAny_bind (CmpOf.ints_gt (prog:=prog) (w:=w) (A:=A.in1) (P:=fun i v=>∃t,v= .int (kf i) t) kf (fun i v h=>h) (j+1) i _ _ _ _ _ ⟨t2,rfl⟩ ⟨tb,rfl⟩ (wpAny_bind (wpAny_holding (wpAny_truthy_bool (wpAny_bind (wpAny_letGo (wpAny_pure ?_))))))))))
   by_cases hb:kf (j+1)>kf i
   ·have sb:=Heap.SameBut.update h' (s.heap.objs.size+1) (Obj.mapSeq fun _=>#[v,.int (kf (j+1)) t2])
    obtain⟨c2,hc2⟩:∃c2,(h'.update (s.heap.objs.size+1) (Obj.mapSeq fun _=>#[v,.int (kf (j+1)) t2])).get? (s.heap.objs.size+1)=some (seqObj "list" #[v,.int (kf (j+1)) t2] c2):=⟨_,get?_update_seq g fun _=>#[v,.int (kf (j+1)) t2]⟩
    simp only[hb,decide_true,if_true]
    refine wpAny_bind (wpAny_updateSeq g rfl (wpAny_bind (wpAny_letGo ?_)))
    obtain⟨oI,hoI,hoc,hod⟩:=id hst'.1
    rw[nm]
    refine wpAny_pure ⟨plainId_quiet PySem.F.plain_max_loop _,ih (j+1) (j+1) _ _ v t2 c2 (by omega) hlt (kS _ _ k1 sb.2) hc2 ⟨oI,(sb.2 _ nSI.symm).trans hoI,hoc,hod⟩ hv (yac _) fun j' hj'=> ?_⟩
    by_cases e:j'=j+1
    ·subst e;exact⟨ybt _,fun z=>absurd z (ybd _)⟩
    ·have q:=(hbest j' (by omega)).1
     exact⟨by omega,fun _=>by omega⟩
   ·simp only[hb,decide_false,Bool.false_eq_true,if_false]
    refine wpAny_bind (wpAny_letGo (?_))
    rw[nm]
    refine wpAny_pure ⟨plainId_quiet PySem.F.plain_max_loop _,ih (j+1) i _ _ vb tb c (by omega) hlt k1 g hst'.1 hvb (by omega) fun j' hj'=> ?_⟩
    by_cases e:j'=j+1
    ·subst e;exact⟨by omega,fun z=>by omega⟩
    ·exact hbest j' (by omega))
theorem max_own(kf:Nat->Int)(hA:A.handled=none)(hl:s.heap.IsList l vs.toArray)(hne:0<vs.length)(turn:∀(i:Nat) (v:Value),vs[i]? =some v->∀(h:Heap) (tk:Nat),Kp s h->∀Q E:Value->Shared->Prop,(∀t tk',Q (.int (kf i) t) {s with heap:=h,toks:=tk'})->wpAny (model prog w) A.in1 (call (.builtin kid) [v]) Q E {s with heap:=h,toks:=tk})(hQ:∀i v h' tk',vs[i]? =some v->(∀j,j<vs.length->kf j<=kf i/\(j<i->kf j<kf i))->Kp s h'->Q v {s with heap:=h',toks:=tk'}):
  wpAny (model prog w) A (call (.builtin "max") [.ref l] [(Str.ofString "key",.builtin kid)]) Q E s:=by
 have nm:(toString "max"++toString ".loop":String)="max.loop":=by decide
 obtain⟨ol,hol,hlc,hln,hld⟩:=id hl
 have nlI:l≠s.heap.objs.size:=yau (yap hol)
 refine kmb_tree PySem.F.kind_max PySem.F.plain_max PySem.F.entry_max (kmb_max_key _ _) (by
  show wpAny _ A.in1 (Builtin.Builtins.bindParams "max" ["key","default"] 0 ⟨[],[(Str.ofString "key",.builtin kid)]⟩>>=_) _ _ s
  refine wpAny_bind (wpAny_of_eq (show Builtin.Builtins.bindParams "max" ["key","default"] 0 ⟨[],[(Str.ofString "key",.builtin kid)]⟩=pure [some (.builtin kid),none]from rfl) (wpAny_bind (wpAny_pure (wpAny_bind (wpAny_pyIter_list hl (wpAny_bind (wpAny_newList ?_ (yaw _))))))))
  rw[nm]
  have zS:(s.heap.push {cls:= .type "list_iterator",data:= .fields #[.ref l,.int 0 0]}).objs.size=s.heap.objs.size+1:=size_push' ..
  rw[zS]
  have k0:Kp s ((s.heap.push {cls:= .type "list_iterator",data:= .fields #[.ref l,.int 0 0]}).push (seqObj "list" #[] 0)):=fun b o e=>yab _ (yab _ e)
  have gI:((s.heap.push {cls:= .type "list_iterator",data:= .fields #[.ref l,.int 0 0]}).push (seqObj "list" #[] 0)).IsListIter s.heap.objs.size l 0:=⟨_,yab _ (yao _ rfl),rfl,rfl⟩
  have gS:((s.heap.push {cls:= .type "list_iterator",data:= .fields #[.ref l,.int 0 0]}).push (seqObj "list" #[] 0)).get? (s.heap.objs.size+1)=some (seqObj "list" #[] 0):=by rw[<-zS];exact yao _ rfl
  have W:=Walks.list (prog:=prog) (w:=w) (A:=A.in1) hA s.heap.objs.size l nlI vs.toArray
  refine wpAny_pure ⟨plainId_quiet PySem.F.plain_max_loop _,codeAny_builtin PySem.F.entry_max_loop ?_⟩
  rw[Around.under_plainId PySem.F.plain_max_loop _]
  show wpAny _ A.in1 (seqItems? (.ref (s.heap.objs.size+1))>>=_) _ _ _
  refine wpAny_bind (wpAny_seqItems gS rfl (?_))
  show wpAny _ A.in1 (tryCatch (pyNext (.ref s.heap.objs.size)) _>>=_) _ _ _
  refine wpAny_bind (wpAny_tryCatch (W.item 0 _ _ _ (by rw[yak];exact hne) ⟨gI,⟨ol,k0 _ _ hol,hlc,hln,hld⟩⟩ fun v h' tk' hP hst' hk'=> ?_))
  have hv:vs[0]? =some v:=(by simpa using hP)
  have k1:Kp s h':=fun b o e=>hk' b o (fun z=>ybd _ ((yal.mp z)▸yap e)) (k0 b o e)
  have g:=hk' (s.heap.objs.size+1) _ (by simp) gS
  show wpAny _ A.in1 (tryCatch (holding [v] (call (.builtin kid) [v])) _>>=_) _ _ _
  refine wpAny_bind (wpAny_tryCatch (wpAny_holding (turn 0 v hv h' tk' k1 _ _ fun t2 tk2=> ?_)))
  have sb:=Heap.SameBut.update h' (s.heap.objs.size+1) (Obj.mapSeq fun _=>#[v,.int (kf 0) t2])
  obtain⟨c2,hc2⟩:∃c2,(h'.update (s.heap.objs.size+1) (Obj.mapSeq fun _=>#[v,.int (kf 0) t2])).get? (s.heap.objs.size+1)=some (seqObj "list" #[v,.int (kf 0) t2] c2):=⟨_,get?_update_seq g fun _=>#[v,.int (kf 0) t2]⟩
  obtain⟨oI,hoI,hoc,hod⟩:=id hst'.1
  show wpAny _ A.in1 (updateSeq (s.heap.objs.size+1) (fun _=>#[v,.int (kf 0) t2])>>=_) _ _ _
  refine wpAny_bind (wpAny_updateSeq g rfl ?_)
  rw[nm]
  exact wpAny_pure ⟨plainId_quiet PySem.F.plain_max_loop _,max_go kf hA hl turn hQ _ 0 0 _ _ v t2 c2 rfl hne (fun b o e=>(sb.2 b (yau (yaz (yap e)))).trans (k1 b o e)) hc2 ⟨oI,(sb.2 _ (yau (yba _))).trans hoI,hoc,hod⟩ hv (yac _) fun j' hj'=>by
   have e:j'=0:=by omega
   subst e
   exact⟨ybt _,fun z=>absurd z (ybd _)⟩⟩)
end
section
variable{X:Cx}{a:Expr}{ta:TA}{p p2 kp pos:Pos}
noncomputable def tMaxLen(K:W.Frag)(ta:TA):TE:=fun σ H Q=>ta σ H fun vs H1=>∃(l:Addr) (its:List (Addr×List Int)),vs=[.ref l]/\SqL K H1 l (its.map fun p=>V.ref p.1)/\(∀p∈its,SqT K H1 p.1 (p.2.map V.int))/\its≠[]/\
 ∀(i:Nat) (p:Addr×List Int),its[i]? =some p->(∀(j:Nat) r,its[j]? =some r->r.2.length<=p.2.length/\(j<i->r.2.length<p.2.length))->Q (.ref p.1) H1
theorem vals_ref:∀{its:List (Addr×List Int)} {us:List Value} {i:Nat} {v:Value},Vals (its.map fun p=>V.ref p.1) us->us[i]? =some v->∃p,its[i]? =some p/\v= .ref p.1
 |[],_,i,v,h,e=>by cases h;simp at e
 |p::its,_,0,v,h,e=>by
  cases h with
  |cons r t=>
   cases r
   simp at e
   exact⟨p,rfl,e.symm⟩
 |p::its,_,i+1,v,h,e=>by
  cases h with
  |cons r t=>exact vals_ref (i:=i) t (by simpa using e)
theorem pe_maxLen(hc:X.calm=true)(hg:Gl X "max")(hm:X.mg "max"=none)(hgL:Gl X "len")(hmL:X.mg "len"=none)(ha:PA X [a] ta)(hs:starEach [a] X.env=[(false,eval a X.env)]:=by rfl)(he:backTo pos (starEach [a] X.env)=(false,eval a X.env)::backTo pos (starEach [] X.env):=by rfl)(hp:(backTo pos (starEach [a] X.env)).any (·.1)=false:=by rfl):PE X (.Call (.Name "max" p) [a] [⟨some "key",.Name "len" p2,kp⟩] pos) (tMaxLen X.K ta):=by
 intro pins s σ H Q I h
 refine wpAny_Call_Name_kw (zcz I hg hm (show bootBuiltins "max"=some (.builtin "max")from by decide+kernel) ?_ (by decide) (by decide))
 refine PyProof.Rows.callWith_kw (thn (ha pos pins s σ H _ I h) fun us s1 ⟨vs,H1,I1,r1,q1⟩=>kws_cons (zcz I1 hgL hmL PySem.boot_len (kws_nil ?_) (by decide) (by decide))) he hp
 obtain⟨l,its,e,hq,hT,hne,q⟩:=q1
 subst e
 cases r1 with
 |cons r rr=>
  cases rr
  cases r
  obtain⟨ws,rv,pl,hz⟩:=I1.list hq
  have hlen:its.length=ws.length:=by have:=rv.length;simpa using this
  have hpos:0<ws.length:=by
   rw[<-hlen]
   cases its with
   |nil=>exact absurd rfl hne
   |cons _ _=>simp
  have kf:∀i p,its[i]? =some p->its.getD i (0,[])=p:=fun i p e=>by rw[yai,e];rfl
  show wpAny (model X.prog X.w) X.A (call (.builtin "max") [.ref l] [(Str.ofString "key",.builtin "len")]) (EP X pins σ Q) X.xe s1
  refine max_own (fun i=>((its.getD i (0,[])).2.length:Int)) (I.ok.hd hc) pl.isList hpos (fun i v hv h' tk k Q' E' hq'=> ?_) (fun i v h' tk' hv hb k=> ?_)
  ·obtain⟨p,e1,rfl⟩:=vals_ref rv hv
   obtain⟨xs,rx,px,hx⟩:=I1.tuple (hT p (yav e1))
   obtain⟨o,ho,ho2,n,hd⟩:=id px
   have hxl:xs.length=p.2.length:=by have:=rx.length;simpa using this.symm
   have hz2:xs.toArray.size=p.2.length:=by rw[yak];exact hxl
   refine len_tuple (s:={s1 with heap:=h',toks:=tk}) (t:=p.1) (items:=xs.toArray) ⟨o,k _ _ ho,ho2,n,hd⟩ ?_ ?_
   ·rw[yak]
    have:xs.length<=sizeLine:=by rw[hxl];simpa using hx
    rw[sizeLine_eq]at this
    omega
   ·have z:=hq' (tk+1) (tk+1+1)
    rw[kf i p e1]at z
    rw[hz2]
    exact z
  ·obtain⟨p,e1,rfl⟩:=vals_ref rv hv
   have I2:Inv X pins σ H1 {s1 with heap:=h',toks:=tk'}:=I1.kept k
   refine⟨.ref p.1,H1,I2,rfl,q i p e1 fun j r hr=> ?_⟩
   have hj:j<ws.length:=by rw[<-hlen];exact(yaq.mp hr).1
   have z:=hb j hj
   rw[kf i p e1,kf j r hr]at z
   exact⟨by omega,fun hji=>by have:=z.2 hji;omega⟩
end
section
variable{P:Program}{w:World}{K:W.Frag}{mg:Str->Option Value}{base:Heap}{N:List Str}{qual:Str}{scope:Scope}{f:Addr}{cd:Value}{A:Around}{outer:List Env}{s:Shared}{H:Hp}{E:XK}
end
section
variable{P:Program}{w:World}{K:W.Frag}{mg:Str->Option Value}{base:Heap}{N:List Str}{qual:Str}{scope:Scope}{f:Addr}{cd:Value}{A:Around}{outer:List Env}{s:Shared}{H:Hp}{E:XK}
end
end L2
namespace L2
open PySem PySem.Spec PySem.Calls PyProof.Rows PySem.W PySem.Builtin.Getset_descriptor
section
variable{prog:Program}{w:World}{A:Around}{E:Value->Shared->Prop}{s:Shared}{K:Frag}{x D:Addr}
end
end L2
namespace L2
open PySem PySem.Spec PyProof.Rows
section
variable{X:Cx}{pins:List (Addr×Obj)}{σ:St}{H H':Hp}{s s':Shared}{e C:Addr}{B:Heap}
end
section
variable{X:Cx}{k:Nat}{f D:Addr}{fd:FuncData}{ps:List Str}{sp:Sp}{fn x n:Str}{p cpos epos np hpos pos:Pos}{a:Expr}{as:List Expr}{t:TA}{ts:TS}{b₀:Stmt}{suite:List Stmt}{i:Nat}
end
section
variable{X:Cx}
end
mutual
noncomputable def litF:Nat->Expr->Option PyData
 |0,_=>none
 |n+1,e=>match e with
  | .Constant (.int i) _ _=>some (.int i)
  | .Constant (.bool b) _ _=>some (.bool b)
  | .Constant .none _ _=>some .none
  | .Constant (.str x) _ _=>some (.str x)
  | .UnaryOp .USub (.Constant (.int i) _ _) _=>some (.int (-i))
  | .Tuple es _ _=>(litsF n es).map .tuple
  | .List es _=>(litsF n es).map .list
  | .Dict [] [] _=>some (.dict [])
  |_=>none
noncomputable def litsF:Nat->List Expr->Option (List PyData)
 |0,_=>none
 |_+1,[]=>some []
 |n+1,e::es=>match litF n e,litsF n es with
  |some d,some ds=>some (d::ds)
  |_,_=>none
end
section
variable{X:Cx}
end
end L2
namespace L2
open PySem PySem.Spec PyProof.Rows
section
variable{κ:Type} [DecidableEq κ]
noncomputable def valV(kvs:List (κ×V))(k:κ):Option V:=(kvs.find? fun kv=>decide (kv.1=k)).map (·.2)
noncomputable def putK(kvs:List (κ×V))(k:κ)(v:V):List (κ×V):=
 if(kvs.any fun kv=>decide (kv.1=k))=true then kvs.map (fun kv=>if kv.1=k then(kv.1,v)else kv)else kvs++[(k,v)]
theorem valV_pos{p:κ×V}{r:List (κ×V)}{k:κ}(e:p.1=k):valV (p::r) k=some p.2:=by simp[valV,yeb,e]
theorem valV_neg{p:κ×V}{r:List (κ×V)}{k:κ}(e:¬p.1=k):valV (p::r) k=valV r k:=by simp[valV,yeb,e]
theorem valV_any(k:κ):∀kvs:List (κ×V),(kvs.any fun kv=>decide (kv.1=k))=(valV kvs k).isSome
 |[]=>rfl
 |p::r=>by
  rw[ydq]
  by_cases e:p.1=k
  ·simp only[valV_pos e,decide_eq_true e,Bool.true_or,Option.isSome_some]
  ·rw[valV_neg e,decide_eq_false e,Bool.false_or];exact valV_any k r
theorem length_putK(kvs:List (κ×V))(k:κ)(v:V):(putK kvs k v).length<=kvs.length+1:=by
 unfold putK
 split
 ·rw[yaa];omega
 ·rw[yay,ybj,ydd];omega
theorem putK_new{kvs:List (κ×V)}{k:κ}(v:V)(h:valV kvs k=none):putK kvs k v=kvs++[(k,v)]:=by
 unfold putK
 rw[valV_any,h]
 exact if_neg (by decide)
theorem RelO.isSome_eq{o:Option V}{u:Option Value}(r:RelO o u):o.isSome=u.isSome:=by
 cases o with
 |none=>cases u with
  |none=>rfl
  |some _=>exact(show False from r).elim
 |some _=>cases u with
  |none=>exact(show False from r).elim
  |some _=>rfl
theorem KV.val{kvs:List (κ×V)}{vs:List (κ×Value)}(r:KV kvs vs)(k:κ):RelO (valV kvs k) (valueAt vs k):=by
 unfold KV at r
 induction r with
 |nil=>exact True.intro
 | @cons p q ps qs h t ih=>
  obtain⟨h1,h2⟩:=h
  by_cases e:p.1=k
  ·have e':q.1=k:=h1.symm.trans e
   have b:valueAt (q::qs) k=some q.2:=by simp[valueAt,yeb,e']
   rw[valV_pos e,b];exact h2
  ·have e':¬q.1=k:=fun z=>e (h1.trans z)
   have b:valueAt (q::qs) k=valueAt qs k:=by simp[valueAt,yeb,e']
   rw[valV_neg e,b];exact ih
theorem KV.any{kvs:List (κ×V)}{vs:List (κ×Value)}(r:KV kvs vs)(k:κ):(kvs.any fun kv=>decide (kv.1=k))=vs.any fun kv=>decide (kv.1=k):=by
 unfold KV at r
 induction r with
 |nil=>rfl
 |cons h t ih=>rw[ydq,ydq,ih,h.1]
theorem KV.repl{kvs:List (κ×V)}{vs:List (κ×Value)}(r:KV kvs vs)(k:κ){y:V}{u:Value}(ry:RelV y u):
  KV (kvs.map fun kv=>if kv.1=k then(kv.1,y)else kv) (vs.map fun kv=>if kv.1=k then(kv.1,u)else kv):=by
 unfold KV at r⊢
 induction r with
 |nil=>exact .nil
 | @cons p q ps qs h t ih=>
  rw[ycd,ycd]
  refine .cons ?_ ih
  obtain⟨h1,h2⟩:=h
  by_cases e:p.1=k
  ·rw[if_pos e,if_pos (h1.symm.trans e)];exact⟨h1,ry⟩
  ·rw[if_neg e,if_neg (fun z=>e (h1.trans z))];exact⟨h1,h2⟩
theorem KV.put{kvs:List (κ×V)}{vs:List (κ×Value)}(r:KV kvs vs)(k:κ){y:V}{u:Value}(ry:RelV y u):KV (putK kvs k y) (stored vs k u):=by
 unfold putK stored
 rw[r.any k]
 by_cases e:(vs.any fun kv=>decide (kv.1=k))=true
 ·rw[if_pos e,if_pos e];exact r.repl k ry
 ·rw[if_neg e,if_neg e];exact Paired.snoc r ⟨rfl,ry⟩
theorem KV.length{kvs:List (κ×V)}{vs:List (κ×Value)}(r:KV kvs vs):kvs.length=vs.length:=Paired.length r
end
theorem kV_is{P:Program}{w:World}{k:Key}{u:Value}(r:RelV (kV k) u):(mixKind P w).is k u=true:=by
 cases k with
 |inl i=>obtain⟨t,e⟩:=(show∃t,u=Value.int i t from r);subst e;exact mixKind_int P w i t
 |inr x=>obtain⟨t,e⟩:=(show∃t,u=Value.str x t from r);subst e;exact mixKind_str P w x t
theorem items_are{P:Program}{w:World}:∀{ks:List Key} {us:List Value},Vals (ks.map kV) us->ItemsAre (mixKind P w) ks us
 |[],_,r=>by rw[List.map_nil]at r;cases r;exact .nil
 |k::ks,_,r=>by
  rw[ycd]at r
  cases r with
  |cons h t=>exact .cons (kV_is h) (items_are t)
noncomputable abbrev KT(H:Hp):List (List Key×V)->List (List Key×Addr×Value)->Prop:=Paired fun p q=>p.1=q.1/\H q.2.1=some (.tup (p.1.map kV))/\RelV p.2 q.2.2
theorem KT.val{H:Hp}{kvs:List (List Key×V)}{xs:List (List Key×Addr×Value)}(r:KT H kvs xs)(k:List Key):RelO (valV kvs k) ((atKey xs k).map (·.2)):=by
 induction r with
 |nil=>exact True.intro
 | @cons p q ps qs h t ih=>
  obtain⟨h1,_,h2⟩:=h
  by_cases e:p.1=k
  ·have e':q.1=k:=h1.symm.trans e
   have b:atKey (q::qs) k=some q.2:=by simp[atKey,yeb,e']
   rw[valV_pos e,b];exact h2
  ·have e':¬q.1=k:=fun z=>e (h1.trans z)
   have b:atKey (q::qs) k=atKey qs k:=by simp[atKey,yeb,e']
   rw[valV_neg e,b];exact ih
theorem KT.repl{H:Hp}{kvs:List (List Key×V)}{xs:List (List Key×Addr×Value)}(r:KT H kvs xs)(k:List Key){y:V}{u:Value}(ry:RelV y u):
  KT H (kvs.map fun kv=>if kv.1=k then(kv.1,y)else kv) (xs.map (putAt k u)):=by
 induction r with
 |nil=>exact .nil
 | @cons p q ps qs h t ih=>
  rw[ycd,ycd]
  refine .cons ?_ ih
  obtain⟨h1,h2,h3⟩:=h
  unfold putAt
  by_cases e:p.1=k
  ·rw[if_pos e,if_pos (h1.symm.trans e)];exact⟨h1,h2,ry⟩
  ·rw[if_neg e,if_neg (fun z=>e (h1.trans z))];exact⟨h1,h2,h3⟩
theorem KT.put{H:Hp}{kvs:List (List Key×V)}{xs:List (List Key×Addr×Value)}(r:KT H kvs xs)(k:List Key){b:Addr}{y:V}{u:Value}(hb:H b=some (.tup (k.map kV)))(ry:RelV y u):
  KT H (putK kvs k y) (storedH xs k b u):=by
 have e:(kvs.any fun kv=>decide (kv.1=k))=(atKey xs k).isSome:=by
  rw[valV_any,(r.val k).isSome_eq,Option.isSome_map]
 unfold putK storedH
 rw[e]
 by_cases q:(atKey xs k).isSome=true
 ·rw[if_pos q,if_pos q];exact r.repl k ry
 ·rw[if_neg q,if_neg q];exact Paired.snoc r ⟨rfl,hb,ry⟩
theorem KT.keeps{H H':Hp}{kvs:List (List Key×V)}{xs:List (List Key×Addr×Value)}(r:KT H kvs xs)(ht:∀b ys,H b=some (.tup ys)->H' b=some (.tup ys)):KT H' kvs xs:=
 Paired.mapP r fun _ _ z=>⟨z.1,ht _ _ z.2.1,z.2.2⟩
section
variable{P:Program}{w:World}{H:Hp}{h:Heap}{a:Addr}
theorem rd_of{u:HO}(ok:HOk P w H h)(e:Rd H a u):ObjOk P w H h a u:=e.ok ok
theorem dk_rd{kvs:List (Key×V)}(ok:HOk P w H h)(e:Rd H a (.dK kvs)):kvs.length<=sizeLine/\(a==sysModules)=false/\∃vs,KV kvs vs/\h.DictOf (mixKind P w) a vs:=
 show ObjOk P w H h a (.dK kvs)from rd_of ok e
theorem dk_of{kvs:List (Key×V)}(ok:HOk P w H h)(e:H a=some (.dK kvs)):kvs.length<=sizeLine/\(a==sysModules)=false/\∃vs,KV kvs vs/\h.DictOf (mixKind P w) a vs:=dk_rd ok (.inl e)
theorem key_of{ks:List Key}(ok:HOk P w H h)(e:H a=some (.tup (ks.map kV))):(tupleKind (mixKind P w)).is h ks a:=by
 obtain⟨_,its,r,o,h1,h2,n,h3⟩:=(show ObjOk P w H h a (.tup (ks.map kV))from ok a _ e)
 exact⟨o,its.toArray,n,h1,h2,h3,by simpa using items_are r⟩
theorem dt_rd{kvs:List (List Key×V)}(ok:HOk P w H h)(e:Rd H a (.dT kvs)):kvs.length<=sizeLine/\(a==sysModules)=false/\
  ∃xs,KT H kvs xs/\h.DictOfH (tupleKind (mixKind P w)) a xs:=by
 obtain⟨z,y,xs,r,o,es,ep,h1,h2,h3,h4,h5⟩:=(show ObjOk P w H h a (.dT kvs)from rd_of ok e)
 refine⟨z,y,xs,r,o,es,ep,h1,h2,h3,h4,fun x hx=> ?_,h5⟩
 have all:∀{l:List (List Key×V)} {m:List (List Key×Addr×Value)},KT H l m->∀x∈m,(tupleKind (mixKind P w)).is h x.1 x.2.1:=by
  intro l m q
  induction q with
  |nil=>intro x hx;exact nomatch hx
  | @cons p q ps qs hq t ih=>
   intro x hx
   rcases yam.mp hx with e|hx
   ·subst e
    exact key_of ok (by rw[<-hq.1];exact hq.2.1)
   ·exact ih x hx
 exact all r x hx
theorem dt_of{kvs:List (List Key×V)}(ok:HOk P w H h)(e:H a=some (.dT kvs)):kvs.length<=sizeLine/\(a==sysModules)=false/\
  ∃xs,KT H kvs xs/\h.DictOfH (tupleKind (mixKind P w)) a xs:=dt_rd ok (.inl e)
end
noncomputable def DGet(H:Hp)(a:Addr)(y:V)(r:Option V):Prop:=
 (∃kvs k,Rd H a (.dK kvs)/\y=kV k/\r=valV kvs k)\/∃kvs k b,Rd H a (.dT kvs)/\y= .ref b/\H b=some (.tup (k.map kV))/\r=valV kvs k
noncomputable def DPut(H:Hp)(a:Addr)(y v:V)(H':Hp):Prop:=
 (∃kvs k,H a=some (.dK kvs)/\y=kV k/\kvs.length<sizeLine/\H'=upd H a (.dK (putK kvs k v)))\/
 ∃kvs k b,H a=some (.dT kvs)/\y= .ref b/\H b=some (.tup (k.map kV))/\kvs.length<sizeLine/\H'=upd H a (.dT (putK kvs k v))
theorem DGet.t{H:Hp}{a b:Addr}{kvs:List (List Key×V)}{k:List Key}(e:H a=some (.dT kvs))(eb:H b=some (.tup (k.map kV))):DGet H a (.ref b) (valV kvs k):= .inr ⟨kvs,k,b,.inl e,rfl,eb,rfl⟩
theorem DPut.t{H:Hp}{a b:Addr}{kvs:List (List Key×V)}{k:List Key}{v:V}(e:H a=some (.dT kvs))(eb:H b=some (.tup (k.map kV)))(hl:kvs.length<sizeLine):
  DPut H a (.ref b) v (upd H a (.dT (putK kvs k v))):= .inr ⟨kvs,k,b,e,rfl,eb,hl,rfl⟩
section
variable{X:Cx}{pins:List (Addr×Obj)}{σ:St}{H:Hp}{s:Shared}{a:Addr}{y v:V}{u r:Value}{o:Option V}{A:Around}{E:Value->Shared->Prop}
theorem Inv.big(I:Inv X pins σ H s):sysModules<s.heap.objs.size:=by
 have h:mainGlobals<s.heap.objs.size:=(I.mod.glob.keeps I.bk).lt
 exact ydo (by decide) h
theorem d_getItem{Q:Value->Shared->Prop}(hu:A.units+1<cLine)(I:Inv X pins σ H s)(g:DGet H a y (some v))(ry:RelV y u)(h:∀w' s',Inv X pins σ H s'->RelV v w'->Q w' s'):
  wpAny (model X.prog X.w) A (getItem (.ref a) u) Q E s:=by
 rcases g with⟨kvs,k,e,ey,l⟩|⟨kvs,k,b,e,ey,eb,l⟩
 ·subst ey
  obtain⟨z,hd,vs,rel,dd⟩:=dk_rd I.hok e
  obtain⟨w',hw,rw'⟩:=RelO.some_of (v:=v) (o:=valueAt vs k) (by rw[l];exact rel.val k)
  exact wpAny_getItem_of (kV_is ry) dd.mapOf hw (h w' _ (I.tok _) rw')
 ·subst ey
  cases(show u=Value.ref b from ry)
  obtain⟨z,hd,xs,rel,dd⟩:=dt_rd I.hok e
  obtain⟨w',hw,rw'⟩:=RelO.some_of (v:=v) (o:=(atKey xs k).map (·.2)) (by rw[l];exact rel.val k)
  obtain⟨p,hp,hp2⟩:=Option.map_eq_some_iff.mp hw
  refine wpAny_getItem_heap (tupleKind_room_in1 hu) (key_of I.hok eb) dd hp ?_
  rw[hp2]
  exact h w' _ (I.tok _) rw'
theorem d_write{h':Heap}{t':Nat}{ob:HO}(I:Inv X pins σ H s)(mu:Mut (H a))(hs:Heap.SameBut a s.heap h')(he:∃q,h'.get? a=some q)(new:ObjOk X.prog X.w (upd H a ob) h' a ob):
  Inv X pins σ (upd H a ob) {s with heap:=h',toks:=t'}:=
 I.write (x:=a) (e:=a) mu (.inl rfl) (fun b q hb z=>(hs.2 b hb).trans z) he new
theorem dk_new{P:Program}{w:World}{H':Hp}{h':Heap}{kvs:List (Key×V)}{vs:List (Key×Value)}(z:kvs.length<=sizeLine)(hd:(a==sysModules)=false)(rel:KV kvs vs)(dd:h'.DictOf (mixKind P w) a vs):
  ObjOk P w H' h' a (.dK kvs):=⟨z,hd,vs,rel,dd⟩
theorem d_setItem{H':Hp}{Q:Unit->Shared->Prop}(hu:A.units+1<cLine)(I:Inv X pins σ H s)(g:DPut H a y v H')(ry:RelV y u)(rv:RelV v r)(h:∀s',Inv X pins σ H' s'->Q () s'):
  wpAny (model X.prog X.w) A (setItem (.ref a) u r) Q E s:=by
 rcases g with⟨kvs,k,e,ey,l,eH⟩|⟨kvs,k,b,e,ey,eb,l,eH⟩
 ·subst ey eH
  obtain⟨z,hd,vs,rel,dd⟩:=dk_of I.hok e
  have hz:vs.length<=sizeLine:=by rw[<-rel.length];exact z
  have hl:(putK kvs k v).length<=sizeLine:=by have:=length_putK kvs k v;omega
  refine wpAny_setItem_pairs (hsz:=hz) (kV_is ry) dd fun h' dd' hs=>h _ ?_
  have he:∃q,h'.get? a=some q:=let⟨q,_,_,hq,_⟩:=dd';⟨q,hq⟩
  exact d_write I (by rw[e];exact True.intro) hs he (dk_new hl hd (rel.put k rv) dd')
 ·subst ey eH
  cases(show u=Value.ref b from ry)
  obtain⟨z,hd,xs,rel,dd⟩:=dt_of I.hok e
  have hz:xs.length<=sizeLine:=by rw[<-Paired.length rel];exact z
  have hl:(putK kvs k v).length<=sizeLine:=by have:=length_putK kvs k v;omega
  refine wpAny_setItem_heap (hsz:=hz) (tupleKind_room_in1 hu) (key_of I.hok eb) dd fun h' dd' hs=>h _ ?_
  obtain⟨q,es,ep,hq,h2,h3,h4,_,h5⟩:=dd'
  refine d_write I (by rw[e];exact True.intro) hs ⟨q,hq⟩ ⟨hl,hd,_,(rel.put k eb rv).keeps fun c ys ec=> ?_,q,es,ep,hq,h2,h3,h4,h5⟩
  rw[zaj (ne_of ec e (fun z=>nomatch z))]
  exact ec
end
section
variable{X:Cx}{pins:List (Addr×Obj)}{σ:St}{H:Hp}{s:Shared}{a:Addr}{kvs:List (Key×V)}{k:Key}{u:Value}{A:Around}{E:Value->Shared->Prop}
end
noncomputable def NoSl(i:Expr):Prop:=∀ov iv,subscripted i false ov iv=operate [ov,iv] (getItem ov iv)
theorem subD_of{prog:Program}{w:World}{A:Around}{E:Value->Shared->Prop}{s:Shared}{env:Env}{value slice:Expr}{pos:Pos}{T id:String}{Q:Value->Shared->Prop}(hl:typeLookup (.type T) "__getitem__"=pure (some (.builtin id)))(hs:NoSl slice)(h:wpAny (model prog w) A (eval value env) (fun o s₁=>wpAny (model prog w) A (eval slice env) (fun i s₂=>s₂.TypeIs o T/\wpAny (model prog w) A (getItem o i) Q E s₂) E s₁) E s):
  wpAny (model prog w) A (eval (.Subscript value slice pos) env) Q E s:=by
 refine Subscript_ (wpAny_mono h (fun o s₁ h₁=>wpAny_mono h₁ (fun i s₂ h₂=> ?_) fun _ _ x=>x) fun _ _ x=>x)
 obtain⟨hT,h₂⟩:=h₂
 unfold subscriptTail
 refine wpAny_bind ?_
 rw[getitemInPython_of_ne hT.not_modules]
 refine wpAny_bind (wpAny_specialOf hT hl ?_)
 have fin:wpAny (model prog w) A (subscripted slice false o i) (fun r s₃=>wpAny (model prog w) A (letTemporaryGo value o r>>=fun _=>pure r) Q E s₃) E s₂:=by
  rw[hs o i]
  exact wpAny_operating (wpAny_mono h₂ (fun r s₃ h₃=>wpAny_bind (wpAny_letTemporaryGo (wpAny_pure h₃))) fun _ _ x=>x)
 first
  |exact wpAny_pure (wpAny_bind fin)
  |exact wpAny_bind (wpAny_pure (wpAny_bind fin))
  |exact wpAny_bind fin
theorem dict_typeIs{X:Cx}{pins:List (Addr×Obj)}{σ:St}{H:Hp}{s:Shared}{a:Addr}{y:V}{o:Option V}(I:Inv X pins σ H s)(g:DGet H a y o):s.TypeIs (.ref a) "dict":=by
 rcases g with⟨kvs,k,e,_,_⟩|⟨kvs,k,b,e,_,_,_⟩
 ·obtain⟨_,_,vs,_,dd⟩:=dk_rd I.hok e
  exact dd.typeIs
 ·obtain⟨_,_,xs,_,dd⟩:=dt_rd I.hok e
  exact dd.typeIs
noncomputable def tDGet(td ty:TE):TE:=fun σ H Q=>td σ H fun x H1=>ty σ H1 fun y H2=>∃a v,x= .ref a/\DGet H2 a y (some v)/\Q v H2
noncomputable def sDPut(td ty tv:TE):TS:=fun D σ H=>tv σ H fun v H1=>td σ H1 fun x H2=>ty σ H2 fun y H3=>∃a H4,x= .ref a/\DPut H3 a y v H4/\D.nx σ H4
section
variable{X:Cx}{o i e value:Expr}{pos pos' tpos:Pos}{td ty tv:TE}
theorem pe_dget(hu:X.A.units+1<cLine)(ho:PE X o td)(hi:PE X i ty)(hs:NoSl i):PE X (.Subscript o i pos) (tDGet td ty):=by
 intro pins s σ H Q I h
 refine subD_of PySem.F.slot_dict_getitem.lookup hs (thn (ho pins s σ H _ I h) fun u s1 ⟨x,H1,I1,rx,q1⟩=>thn (hi pins s1 σ H1 _ I1 q1) fun iv s2 ⟨y,H2,I2,ry,a,v,ex,g,q2⟩=> ?_)
 subst ex
 obtain rfl:u=Value.ref a:=rx
 exact⟨dict_typeIs I2 g,d_getItem hu I2 g ry fun w' s3 I3 rw'=>⟨v,H2,I3,rw',q2⟩⟩
theorem ps_dput(hu:X.A.units+1<cLine)(ho:PE X o td)(hi:PE X i ty)(hv:PE X value tv)(hs:swapsWith value (some (.Subscript o i pos')) pos.line X.env=pure false):
  PS X (.Assign [.Subscript o i pos'] value pos) (sDPut td ty tv):=by
 intro pins s σ H D I h
 refine wpAny_Assign_Subscript (thn (hv pins s σ H _ I h) fun r s1 ⟨v,H1,I1,rv,q1⟩=>thn (ho pins s1 σ H1 _ I1 q1) fun u s2 ⟨x,H2,I2,rx,q2⟩=>thn (hi pins s2 σ H2 _ I2 q2) fun iv s3 ⟨y,H3,I3,ry,a,H4,ex,g,q3⟩=> ?_) hs
 subst ex
 obtain rfl:u=Value.ref a:=rx
 exact d_setItem hu I3 g ry rv fun s4 I4=>⟨σ,H4,I4,q3⟩
end
theorem dt_empty{P:Program}{w:World}{H:Hp}(h:Heap)(hb:sysModules<h.objs.size):ObjOk P w H (h.push {cls:= .type "dict",data:= .dict #[]}) h.objs.size (.dT []):=
 ⟨yaw _,beq_eq_false_iff_ne.mpr (Ne.symm (yau hb)),[],.nil,_,#[],0,yao _ rfl,⟨rfl,rfl,rfl⟩,rfl,rfl,List.nodup_nil⟩
noncomputable def tDNewT:TE:=fun _ H Q=>∀p,H p=none->Q (.ref p) (upd H p (.dT []))
section
variable{X:Cx}{pos:Pos}
theorem pe_dnewT:PE X (.Dict [] [] pos) tDNewT:=fun pins s σ H Q I h=>
 wpAny_Dict_empty ⟨.ref s.heap.objs.size,_,I.laid (a:=s.heap.objs.size) (o:= .dT []) (t':=s.toks) (fun _ _ q=>yab _ q) (yac _) (dt_empty s.heap I.big),rfl,h _ (I.hok.fresh (yac _))⟩
end
end L2
namespace PySem
namespace F
end F
section
variable{prog:Program}{w:World}{A:Around}{E:Value->Shared->Prop}{s:Shared}
end
end PySem
namespace L2
open PySem PySem.Spec PyProof.Rows
section
variable{X:Cx}{tg:Expr}
end
section
variable{X:Cx}
theorem call_minL(hc:X.calm=true):CallR X (.builtin "min") (fun xs H Q=>∃(a:Addr) (ns:List Int),xs=[.ref a]/\SqL X.K H a (ns.map V.int)/\ns≠[]/\∀m∈ns,(∀n∈ns,m<=n)->Q (.int m) H):=by
 intro pins s σ H xs us Q I r h
 obtain⟨a,ns,rfl,hS,hne,q⟩:=h
 obtain⟨u,rfl,ru⟩:=r.one
 cases ru
 obtain⟨vs,rv,pl,hz⟩:=I.list hS
 have hl:=pl.isList
 have hlt:a<s.heap.objs.size:=by obtain⟨_,e,_⟩:=hl;exact yap e
 have hlen:=rv.length
 rw[yaa]at hlen
 have hI:∀(i:Nat) (v:Value),vs.toArray[i]? =some v->∃t,v= .int (ns.getD i 0) t:=fun i v hv=>by
  have hv':vs[i]? =some v:=by simpa using hv
  have hi:i<ns.length:=by have:=(yaq.mp hv').1;omega
  have hn:(ns.map V.int)[i]? =some (.int (ns.getD i 0)):=by rw[yaf,yag hi,yai,yag hi];rfl
  obtain⟨u,hu,ru⟩:=rv.get hn
  rw[hv']at hu
  cases hu
  obtain⟨t,rfl⟩:=ru
  exact⟨t,rfl⟩
 refine call_min_walk (wpAny_pyIter_list hl ?_)
 refine⟨s.heap.objs.size,[s.heap.objs.size,a],[s.heap.objs.size],vs.toArray.size,_,_,_,rfl,Walks.list (A:=X.A.in1) (I.ok.hd hc) _ a (yau hlt) vs.toArray,
  ⟨⟨_,yao _ rfl,rfl,rfl⟩,hl.push _⟩,?_,?_,CmpOf.ints_lt (fun i=>ns.getD i 0) hI,fun v h' tk hP hk=> ?_⟩
 ·intro b hb
  show b<(s.heap.push _).objs.size
  rw[ybu]
  rcases yam.mp hb with rfl|hb
  ·exact yba _
  ·rw[yal.mp hb];exact yaz hlt
 ·rw[yak,<-hlen];exact ydr.mpr hne
 ·obtain⟨t,rfl⟩:=hI _ v hP
  obtain⟨h1,h2⟩:=argBest_lt (fun i=>ns.getD i 0) (vs.toArray.size-1)
  have hn0:0<ns.length:=ydr.mpr hne
  have hb:argBest (fun i j=>decide (ns.getD i 0<ns.getD j 0)) (vs.toArray.size-1)<ns.length:=by
   have:vs.toArray.size=ns.length:=by rw[yak];omega
   omega
  refine⟨.int _,H,I.kept (LSm.kept_iter hk),⟨t,rfl⟩,q _ ?_ fun n hn=> ?_⟩
  ·rw[yai,yag hb];exact ycf hb
  ·obtain⟨j,hj,rfl⟩:=ybi hn
   have:=h2 j (by rw[yak];omega)
   rw[yai (i:=j),yag hj]at this
   exact this
end
end L2
namespace PySem
section
variable{prog:Program}{w:World}{Ky:Type} [DecidableEq Ky]{knd:KeyKind prog w Ky}{A:Around}{E:Value->Shared->Prop}{s:Shared}
end
end PySem
namespace L2
open PySem PySem.Spec PyProof.Rows
section
variable{X:Cx}
end
end L2
namespace L2
open PySem
end L2
namespace PySem
namespace F
end F
end PySem
namespace PySem
section
variable{prog:Program}{w:World}{A:Around}{E:Value->Shared->Prop}{s:Shared}
end
end PySem
namespace PySem
section
variable{prog:Program}{w:World}{A:Around}{E:Value->Shared->Prop}{s:Shared}
end
end PySem
namespace PySem
section
variable{prog:Program}{w:World}{A:Around}{E:Value->Shared->Prop}{s:Shared}
end
end PySem
namespace L2
open PySem PySem.Spec PyProof.Rows
section
variable{prog:Program}{w:World}{A:Around}{E:Value->Shared->Prop}{s:Shared}
end
section
variable{prog:Program}{w:World}{A:Around}{R:Result->Shared->Prop}{I:Addr}{fp wr:List Addr}{G:Array GenState->Array GenState->Prop}{n:Nat}{P:Nat->Value->Prop}{St:Nat->Shared->Prop}
end
section
variable{prog:Program}{w:World}{A:Around}{E:Value->Shared->Prop}{s:Shared}
end
end L2
namespace Srt
open PySem PySem.W PyProof.Rows PySem.Calls
section
variable{prog:Program}{w:World}{A:Around}{E:Value->Shared->Prop}{s:Shared}
end
end Srt
namespace L2
open PySem PySem.Spec PyProof.Rows
section
variable{prog:Program}{w:World}{A:Around}{E:Value->Shared->Prop}{s:Shared}
end
end L2
namespace Srt
open PySem PySem.W PyProof.Rows PySem.Calls
section
variable{prog:Program}{w:World}{A:Around}{E:Value->Shared->Prop}{s:Shared}
end
end Srt
namespace L2
open PySem PySem.Spec PyProof.Rows
section
variable{X:Cx}{a:Expr}{ta:TA}{p p' pos pos':Pos}
end
section
variable{prog:Program}{w:World}{A:Around}{E:Value->Shared->Prop}{s:Shared}
end
section
variable{X:Cx}{o e:Expr}{to:TE}{t:TA}{apos cpos:Pos}
end
section
variable{X:Cx}{e e1 e2:Expr}{es:List Expr}{te:TE}{pos:Pos}
end
section
variable{X:Cx}{e:Expr}{te:TE}{pos:Pos}
end
section
variable{X:Cx}{tg l:Expr}{tl:TE}
end
section
variable{g:TG}{tc:TT}{te:TE}{Fin:List V->Hp->Prop}{ini:St}{H:Hp}
end
end L2
namespace SplJ
open PySem PySem.StrLaws PySem.Builtin.Str
section
variable{c:Nat}{ys:List Nat}
end
end SplJ
namespace DH
open PySem PySem.W PyProof.Rows PySem.Calls
section
variable{prog:Program}{w:World}{A:Around}{E:Value->Shared->Prop}{s:Shared}{d it:Addr}{es:Array DictEntry}{ep i:Nat}
end
section
variable{M:Model}{A:Around}{E:Value->Shared->Prop}{s:Shared}
end
section
variable{prog:Program}{w:World}{A:Around}{E:Value->Shared->Prop}{s:Shared}
end
section
variable{prog:Program}{w:World}{A:Around}{E:Value->Shared->Prop}{s:Shared}{d:Addr}{es:Array DictEntry}{ep:Nat}
end
end DH
namespace L2
open PySem PySem.Spec PyProof.Rows
section
variable{X:Cx}
end
end L2
namespace DH
open PySem PySem.W PyProof.Rows PySem.Calls
section
variable{prog:Program}{w:World}{K:Type} [DecidableEq K]{knd:HeapKind prog w K}{A:Around}{E:Value->Shared->Prop}{s:Shared}
end
end DH
namespace L2
open PySem PySem.Spec PyProof.Rows
section
variable{X:Cx}
end
section
variable{X:Cx}
noncomputable def rCatR:R2:=fun x y H Q=>∃a b xs ys,x= .ref a/\y= .ref b/\H a=some (.tup xs)/\H b=some (.tup ys)/\xs.length+ys.length<=sizeLine/\∀r H',Same H H'->H' r=some (.tup (xs++ys))->Q (.ref r) H'
theorem op_catR:OpR X (binaryOp .Add) rCatR:=by
 intro pins s σ H x y v u Q I rx ry h
 obtain⟨a,b,xs,ys,rfl,rfl,ha,hb,hz,q⟩:=h
 by_cases hx:xs=[]
 ·subst hx
  cases rx
  cases ry
  obtain⟨its,r1,p1,_⟩:=I.tuple (SqT.of (K:=X.K) ha)
  obtain⟨its2,r2,p2,_⟩:=I.tuple (SqT.of (K:=X.K) hb)
  cases r1
  obtain⟨⟨cls,dd,data,sl⟩,ho,hc,n,hd⟩:=id p1
  obtain⟨⟨cls2,dd2,data2,sl2⟩,ho2,hc2,n2,hd2⟩:=id p2
  simp only at hc hd hc2 hd2
  subst hc hd hc2 hd2
  exact concat_meets ⟨_,ho,rfl⟩ ⟨_,ho2,rfl⟩ noFill_tuple_add seq_tuple_add PySem.F.slot_tuple_add PySem.F.entry_tuple_add (PySem.F.args_tuple_add_2 _ _)
   (tuple_addW0 a b _ _ n n2 dd dd2 sl sl2 (by simp)) ⟨ho,ho2,⟨.ref b,H,I,rfl,q b H (Same.refl _) hb⟩⟩
 ·refine op_catT pins s σ H _ _ v u Q I rx ry ⟨a,b,xs,ys,rfl,rfl,SqT.of ha,SqT.of hb,hx,hz,fun e=> ?_,fun e p hp=> ?_⟩
  ·subst e
   exact q a H (Same.refl _) (by rw[ybr];exact ha)
  ·exact q p _ (fun c o e=>by rw[zaj (zah e hp)];exact e) zab
end
noncomputable def lamEnv(X:Cx)(scope:Scope)(s:Shared)(f:Addr)(cdv:Value):Env:=PySem.W.envX (X.env.qual++"<lambda>") scope s.heap.objs.size f cdv (clOf X.env.cells scope.names [])
noncomputable def lamCx(X:Cx)(A:Around)(N:List Str)(s:Shared)(H:Hp)(env:Env):Cx:=
 {X with A:=A.deeper env,N:=N,s₀:=s,H₀:=H,env:=env,outer:=X.stack,stack:=env::X.stack,ex:=[],fn:=fun _=>false,calm:=true,pn:=[],xe:=fun _ _=>False}
noncomputable def lamIni(ix:List Nat)(σ:St)(v:V):St:=some v::ix.map fun j=>(σ[j]?).join
section
variable{X:Cx}{scope:Scope}{caps:List Str}{ix:List Nat}{y:Str}{A:Around}{pins:List (Addr×Obj)}{σ:St}{H:Hp}{s:Shared}{f:Addr}{cdv:Value}{v:V}{u:Value}
theorem lam_entry{s':Shared}(ck:compOk X.env.scope scope=true)(hkind:scope.kind= .function)(hcap:Caps X scope caps ix)(hy:scope.names.lookup y=some .local)(hhd:A.handled=none)(hfr:A.frames=some X.stack)
  (I:Inv X pins σ H s)(rv:RelV v u)(hos:s'.os=s.os)(hg:AllBare s'.gens)(hk:∀b o,s.heap.get? b=some o->s'.heap.get? b=some o)(hn:s'.heap.Ns s.heap.objs.size (fun x=>[(y,u)].reverse.lookup x)):
  Inv (lamCx X A (y::caps) s H (lamEnv X scope s f cdv)) [] (lamIni ix σ v) H s':=by
 have cl1:∀x c,(clOf X.env.cells scope.names []).lookup x=some c->X.env.cells.lookup x=some c:=fun x c e=>by
  rcases clOf_mem (PySem.mem_of_lookup e)with q|⟨q,mm⟩
  ·cases q
  ·obtain⟨d,hd⟩:=I.ok.has x (compOk.free ck mm)
   rw[hd]at q
   rw[hd,q];rfl
 have cl2:∀x,(x,NameKind.free)∈scope.names->∃c,(clOf X.env.cells scope.names []).lookup x=some c:=fun x mm=>by
  obtain⟨c,hc⟩:=clOf_has (cells:=X.env.cells) (acc:=[]) mm
  obtain⟨d,hd,_⟩:=zav hc
  exact⟨d,hd⟩
 have bsz:X.base.objs.size<=s.heap.objs.size:=yat I.ok.bsz I.sz
 refine⟨⟨I.ok.mod,hkind,rfl,rfl,yac _,fun x y c h1 h2=>I.ok.inj x y c (cl1 x c h1) (cl1 y c h2),fun x hx=> ?_,fun x c h=>(nomatch h),fun _=>hhd,Around.frames_deeper hfr,.inr ⟨rfl,rfl⟩,fun b hb=>(nomatch hb),I.bs,bsz,
  fun b o e hb=>(nomatch hb),fun b hb=>(nomatch hb),I.stack,I.stkFree⟩,hos,hg,Un.kept hk,⟨_,hn,fun i x w h1 h2 h3=> ?_⟩,fun x c e=> ?_,I.hok.fresh (yac _),fun x c e=>I.freeC x c (cl1 x c e),fun p hp=>absurd (show p∈([]:List (Addr×Obj))from hp) (by simp),I.hok.kept hk,?_⟩
 ·have hx:scope.names.lookup x=some .cell\/scope.names.lookup x=some .free:=hx
  rcases hx with q|q
  ·exact absurd rfl (compOk.cell ck _ (PySem.mem_of_lookup q))
  ·exact cl2 x (PySem.mem_of_lookup q)
 ·have h1:(y::caps)[i]? =some x:=h1
  have h2:(some v::ix.map fun j=>(σ[j]?).join)[i]? =some (some w):=h2
  cases i with
  |zero=>
   have h1:some y=some x:=h1
   have h2:some (some v)=some (some w):=h2
   cases h1
   cases h2
   exact⟨u,rv,.inl ⟨hy,by simp[ybw]⟩⟩
  |succ i=>
   rw[List.getElem?_cons_succ]at h1 h2
   obtain⟨j,e1,e2,e3⟩:=hcap.get h1
   rw[yaf,e1]at h2
   have h2':(σ[j]?).join=some w:=by simpa using h2
   have h4:σ[j]? =some (some w):=by
    cases q:σ[j]? with
    |none=>rw[q]at h2';cases h2'
    |some w=>rw[q]at h2';exact congrArg some h2'
   obtain⟨m0,hn0,hl0⟩:=I.loc
   have mm:=PySem.mem_of_lookup e3
   have vis:=compOk.free ck mm
   obtain⟨u,r,l⟩:=hl0 j x w e2 h4 (.inr vis)
   refine⟨u,r,.inr ?_⟩
   rcases l with⟨k,_⟩|⟨k,c,e,z⟩
   ·rcases vis with q|q
    ·rw[show X.env.kindOf x=some .cell from q]at k;cases k
    ·rw[show X.env.kindOf x=some .free from q]at k;cases k
   ·obtain⟨d,hd⟩:=cl2 x mm
    have:=cl1 x d hd
    rw[e]at this
    cases this
    exact⟨.inr e3,c,hd,z.keeps hk⟩
 ·obtain⟨v,z⟩:=I.cell x c (cl1 x c e)
  exact⟨v,z.keeps hk⟩
 ·show(some v::ix.map fun j=>(σ[j]?).join).length=(y::caps).length
  simp[hcap.len]
theorem lam_run{k:Nat}{Q:VK}{te:TE}{params:Arguments}{body:Expr}{pm ctv:Value}{c':Addr}(ck:compOk X.env.scope scope=true)(hkind:scope.kind= .function)(hcap:Caps X scope caps ix)(hy:scope.names.lookup y=some .local)(hco:scope.isCoroutine=false)(hgen:scope.isGenerator=false)(hr:Room (k+1) A)(hfr:A.frames=some X.stack)(he:PE (lamCx X A (y::caps) s H (lamEnv X scope s f (.ref c'))) body te)(I:Inv X pins σ H s)(rv:RelV v u)(ho:s.heap.get? f=some (PySem.W.kla_obj "<lambda>" (X.env.qual++"<lambda>") params body scope (clOf X.env.cells scope.names []) pm c' ctv))(hcd:s.heap.CodeRec (.ref c') (X.env.qual++"<lambda>"))(hbind:∀(q:Str) (cl:List (Str×Addr)) (pm cd ct u:Value),bindArgs (PySem.W.kla_fn "<lambda>" q params body scope cl pm cd ct) ⟨[u],[]⟩=pure [(y,u)])(hq:te (lamIni ix σ v) H Q):
  wpAny (model X.prog X.w) A (call (.ref f) [u]) (EP X pins σ fun v H'=>Q v H'/\∀b o u,H b=some (.frz o u)->H' b=some (.frz o u)) (fun _ _=>False) s:=by
 refine wpAny_call (PySem.W.kla_callFunE hr.depth ho rfl hco hgen rfl hcd ?_)
 rw[hbind]
 refine wpAny_pure (wpAny_newFunctionEnv (compOk.cell ck) (fun z hz=>by rw[yal.mp hz];exact hy) (fun h₁ hns hsb=>⟨I.nolimit.fresh _ hsb,?_⟩) hkind)
 have hk₁:∀b o,s.heap.get? b=some o->h₁.get? b=some o:=fun b o e=>hsb.extBut b o (yau (yap e)) (yab _ e)
 show codeAny _ _ (.expr body (lamEnv X scope s f (.ref c'))) _ _
 have I':=lam_entry (A:=A) (f:=f) (cdv:= .ref c') (s':={s with heap:=h₁,toks:=s.toks+[(y,u)].length}) ck hkind hcap hy hr.hd hfr I rv rfl I.bare hk₁ hns
 refine PySem.W.kla_codeExpr (wpAny_mono (he [] _ _ _ _ I' hq) (fun v' s' z=> ?_) fun _ _ z=>z.elim)
 obtain⟨x,H',J,r,q⟩:=z
 exact I.after ⟨x,H',J.os,J.bare,J.base,J.hok,r,q,J.base.frzs⟩
end
noncomputable def LamOk(H:Hp)(P:Addr)(pos:Pos)(qual:Str):Prop:=H P=some (.tbl #[])\/∃(c':Addr) (oc:Obj) (vs:Array Value) (tq:Tok),H P=some (.tbl #[rawInt pos.line,rawInt pos.col,.ref c'])/\H c'=some (.frz oc (.own 0))/\oc.data= .fields vs/\vs[1]? =some (.str qual tq)
structure LamB(base:Heap)(mg:Str->Option Value)(c P:Addr):Prop where
 hd:PySem.W.CodeHd base c P
 blt:base.BuiltinsAt mg P
 ne:mainGlobals≠P
theorem BuiltinsAt.keeps{h h':Heap}{mg:Str->Option Value}{P:Addr}(x:h.BuiltinsAt mg P)(k:∀b o,h.get? b=some o->h'.get? b=some o):h'.BuiltinsAt mg P:=
 let⟨bm,o,a,b,c,d,e,r⟩:=x;⟨bm,o,a,b,c,d,k _ _ e,r⟩
section
variable{X:Cx}{scope:Scope}{pins:List (Addr×Obj)}{σ:St}{H:Hp}{s:Shared}{c P:Addr}{pos:Pos}{params:Arguments}{body:Expr}{A:Around}{E:Value->Shared->Prop}{Q:Value->Shared->Prop}
theorem lam_make(I:Inv X pins σ H s)(L:LamB X.base X.mg c P)(hcode:X.env.code= .ref c)(hT:LamOk H P pos (X.env.qual++"<lambda>"))(ck:compOk X.env.scope scope=true)(hdef:defaultsOf params X.env=([],[]))(h:∀(f c':Addr) (pm ctv:Value) (H':Hp) (s':Shared),Inv X pins σ H' s'->(∀b o,b≠P->H b=some o->H' b=some o)->LamOk H' P pos (X.env.qual++"<lambda>")->s'.heap.get? f=some (PySem.W.kla_obj "<lambda>" (X.env.qual++"<lambda>") params body scope (clOf X.env.cells scope.names []) pm c' ctv)->
   H' f=none->s.heap.objs.size<=f->(∃(oc:Obj) (vs:Array Value) (tq:Tok),H' c'=some (.frz oc (.own 0))/\oc.data= .fields vs/\vs[1]? =some (.str (X.env.qual++"<lambda>") tq))->Q (.ref f) s'):
  wpAny (model X.prog X.w) A (eval (.Lambda params body scope pos) X.env) Q E s:=by
 refine PySem.W.kla_eval hdef ?_
 have hcl:closureFor scope X.env=pure (clOf X.env.cells scope.names []):=closure_of fun x hx=>I.ok.has x (compOk.free ck hx)
 have hg:s.heap.Ns mainGlobals X.mg:=I.mod.glob.keeps I.bk
 have C:=L.hd.keeps I.bk
 have B:=BuiltinsAt.keeps L.blt I.bk
 rcases hT with hT|⟨c',oc,vs,tq,hT,hC,hd,hv⟩
 ·have hP:s.heap.get? P=some (PySem.W.tabObj #[]):=I.hok P _ hT
  refine PySem.W.kla_makeFunction (ps:=#[]) hcl I.ok.glob hg hcode C hP trivial rfl L.ne B fun c' ctv h' tk hx hge hlt hrec htb=> ?_
  obtain⟨c₂,oc,vs,tq,e2,hoc,hd,hv⟩:=id hrec
  cases e2
  have cP:c'≠P:=ycg (yan (yap hP) hge)
  have old:∀b o,s.heap.get? b=some o->b≠c':=fun b o e=>yau (yan (yap e) hge)
  have hc0:H c'=none:=I.hok.fresh hge
  have kp:∀b o,b≠P->s.heap.get? b=some o->(h'.push (PySem.W.kla_obj "<lambda>" (X.env.qual++"<lambda>") params body scope (clOf X.env.cells scope.names []) ((X.mg "__name__").getD .none) c' ctv)).get? b=some o:=fun b o hb e=>yab _ (hx b o hb e)
  have nP:∀b o,H b=some o->o≠.tbl #[]->b≠P:=fun b o e n z=>by rw[z,hT]at e;cases e;exact n rfl
  have eH:∀b,b≠P->b≠c'->upd (upd H P (.tbl (#[]++#[rawInt pos.line,rawInt pos.col,.ref c']))) c' (.frz oc (.own 0)) b=H b:=fun b h1 h2=>by rw[zaj h2,zaj h1]
  have eP:upd (upd H P (.tbl (#[]++#[rawInt pos.line,rawInt pos.col,.ref c']))) c' (.frz oc (.own 0)) P=some (.tbl (#[]++#[rawInt pos.line,rawInt pos.col,.ref c'])):=by rw[zaj cP.symm,zab]
  have J:Inv X pins σ (upd (upd H P (.tbl (#[]++#[rawInt pos.line,rawInt pos.col,.ref c']))) c' (.frz oc (.own 0))) {s with heap:=h'.push (PySem.W.kla_obj "<lambda>" (X.env.qual++"<lambda>") params body scope (clOf X.env.cells scope.names []) ((X.mg "__name__").getD .none) c' ctv),toks:=tk}:=by
   refine I.un (h':=h'.push _) (t':=tk) ⟨fun b o e n hb he=>kp b o (fun z=>by rw[z,hT]at n;cases n) e,fun b o e n hb he=>⟨o.slots,kp b o (fun z=>by rw[z,hT]at n;cases n) e⟩,fun b o e n he=> ?_,fun b o e he=> ?_,fun b xs e=> ?_,fun b o u e=> ?_,fun b ps e=> ?_⟩ fun b u e=> ?_
   ·rw[eH b (fun z=>by rw[z,hT]at n;cases n) (old b o e)];exact n
   ·by_cases hb:b=P
    ·subst hb;exact⟨_,yab _ htb⟩
    ·exact⟨o,kp b o hb e⟩
   ·rw[eH b (nP b _ e (fun z=>nomatch z)) (zah e hc0)];exact e
   ·rw[eH b (nP b _ e (fun z=>nomatch z)) (zah e hc0)];exact e
   ·by_cases hb:b=P
    ·subst hb;rw[hT]at e;cases e;exact⟨_,eP⟩
    ·exact⟨#[],by rw[eH b hb (zah e hc0),e];simp⟩
   ·by_cases hb:b=P
    ·subst hb
     rw[eP]at e
     cases e
     exact yab _ htb
    ·by_cases hb2:b=c'
     ·subst hb2
      rw[zab]at e
      cases e
      exact⟨yab _ hoc,⟨_,yab _ hoc⟩⟩
     ·rw[eH b hb hb2]at e
      have ow:∀z,H z=some (.own b)->z≠P/\z≠c':=fun z e=>⟨nP z _ e (fun q=>nomatch q),zah e hc0⟩
      refine(I.hok b u e).stay (fun z o hz q=>kp z o ?_ q) (fun z q=>by rw[eH z (ow z q).1 (ow z q).2];exact q) fun z xs q=>by rw[eH z (nP z _ q (fun q=>nomatch q)) (zah q hc0)];exact q
      rcases hz with hz|hz
      ·rw[hz];exact hb
      ·exact(ow z hz).1
  have hsz:s.heap.objs.size<=h'.objs.size:=yas (ybn hge hlt)
  refine h h'.objs.size c' _ ctv _ _ J (fun b o hb e=>by rw[eH b hb (zah e hc0)];exact e) (.inr ⟨c',oc,vs,tq,by rw[eP];simp,zab,hd,hv⟩) (yao _ rfl) ?_ hsz ⟨oc,vs,tq,zab,hd,hv⟩
  rw[eH _ (ycg (yan (yap hP) hsz)) (ycg hlt)]
  exact I.hok.fresh hsz
 ·have hP:s.heap.get? P=some (PySem.W.tabObj #[rawInt pos.line,rawInt pos.col,.ref c']):=I.hok P _ hT
  have hc:s.heap.get? c'=some oc:=(I.hok c' _ hC).1
  refine PySem.W.kla_makeFunctionHit (ps:=#[rawInt pos.line,rawInt pos.col,.ref c']) (cv:= .ref c') hcl I.ok.glob hg hcode C hP trivial (by simp[codeAmong,rawInt]) B fun ctv h' tk hk hsz=> ?_
  have kp:∀b o,s.heap.get? b=some o->(h'.push {cls:= .type "function",data:= .func (PySem.W.kla_fn "<lambda>" (X.env.qual++"<lambda>") params body scope (clOf X.env.cells scope.names []) ((X.mg "__name__").getD .none) (.ref c') ctv)}).get? b=some o:=fun b o e=>yab _ (hk b o e)
  exact h h'.objs.size c' _ ctv H _ (I.kept (h':=h'.push _) (t':=tk) kp) (fun b o _ e=>e) (.inr ⟨c',oc,vs,tq,hT,hC,hd,hv⟩) (yao _ rfl) (I.hok.fresh hsz) hsz ⟨oc,vs,tq,hC,hd,hv⟩
end
structure Mine(X:Cx)(pins:List (Addr×Obj))(I:Addr):Prop where
 lo:X.s₀.heap.objs.size<=I
 loc:I≠X.env.locals
 fs:I∉X.fs
 cl:∀x c,X.env.cells.lookup x=some c->c≠I
 pn:∀p∈X.pn++pins,p.1≠I
section
variable{X:Cx}{σ:St}{H:Hp}{s:Shared}{pins:List (Addr×Obj)}
theorem Mine.new{I:Addr}(J:Inv X pins σ H s)(h:s.heap.objs.size<=I):Mine X pins I:=by
 refine⟨yat J.sz h,ycg (yan J.lt h),J.nofs h,fun x c e=> ?_,fun p hp=>yau (yan (yap (J.pin p hp).1) h)⟩
 obtain⟨v,o,ho,_⟩:=J.cell x c e
 exact yau (yan (yap ho) h)
theorem Inv.unpin{p:Addr×Obj}(J:Inv X (p::pins) σ H s):Inv X pins σ H s:=J.pins_of fun q hq=>J.pin q (yaj _ (yae _ hq))
theorem Inv.repin{I:Addr}{o o':Obj}{h':Heap}{tk:Nat}(J:Inv X ((I,o)::pins) σ H s)(m:Mine X pins I)(k:∀b x,b≠I->s.heap.get? b=some x->h'.get? b=some x)(e:h'.get? I=some o')(d:∀v,o'.data≠.cell v):
  Inv X ((I,o')::pins) σ H {s with heap:=h',toks:=tk}:=by
 have hI:=J.pin (I,o) (yaj _ yah)
 have K:=(J.unpin).turned (t':=tk) (it:=I) k hI.2.1 m.loc (.inr m.lo) m.cl m.pn
 refine K.pins_of fun q hq=> ?_
 rcases yam.mp hq with z|z
 ·subst z;exact⟨e,hI.2.1,m.loc,m.fs,d⟩
 ·exact K.pin q (yaj _ z)
theorem Inv.swap{p q:Addr×Obj}(J:Inv X (p::q::pins) σ H s):Inv X (q::p::pins) σ H s:=J.pins_of fun r hr=>J.pin r (yaj _ (by
 rcases yam.mp hr with z|z
 ·rw[z];exact yae _ yah
 ·rcases yam.mp z with z|z
  ·rw[z];exact yah
  ·exact yae _ (yae _ z)))
theorem Mine.under{I:Addr}{p:Addr×Obj}(m:Mine X pins I)(n:p.1≠I):Mine X (p::pins) I:=⟨m.lo,m.loc,m.fs,m.cl,fun q hq=>by
 rcases yax.mp hq with z|z
 ·exact m.pn q (ybq _ z)
 ·rcases yam.mp z with z|z
  ·rw[z];exact n
  ·exact m.pn q (yaj _ z)⟩
theorem nocell{a:Array Value}{k:Nat}(T:String):∀v,(seqObj T a k).data≠.cell v:=fun v z=>by
 have z':Data.seq a k=Data.cell v:=z
 cases z'
variable{I S f l:Addr}{fo:Obj}{vs:List Value}{RR:Result->Shared->Prop}
theorem minL_go(kf:Nat->Int)(R:Nat->Hp->Prop)(hA:X.A.handled=none)(mI:Mine X ((f,fo)::pins) I)(mS:Mine X ((f,fo)::pins) S)(nSI:S≠I)(nlI:l≠I)(hl:∀j H s,Inv X ((f,fo)::pins) σ H s->R j H->s.heap.IsList l vs.toArray)(turn:∀j v (ps:List (Addr×Obj)) H s,vs[j]? =some v->Inv X ps σ H s->(f,fo)∈ps->R j H->wpAny (model X.prog X.w) X.A.in1 (call (.ref f) [v]) (fun u s'=>∃H' t,u= .int (kf j) t/\Inv X ps σ H' s'/\R (j+1) H') (fun _ _=>False) s)(hR:∀i v H' s',vs[i]? =some v->(∀j,j<vs.length->kf i<=kf j/\(j<i->kf i<kf j))->Inv X pins σ H' s'->R vs.length H'->RR (.ok (.ret v)) s'):
  ∀(r j i:Nat) (H:Hp) (s:Shared) (vb:Value) (tb:Tok) (c:Nat) (oI:Obj),vs.length-(j+1)=r->j+1<=vs.length->Inv X ((I,oI)::(S,seqObj "list" #[vb,.int (kf i) tb] c)::(f,fo)::pins) σ H s->R (j+1) H->s.heap.IsListIter I l (j+1)->vs[i]? =some vb->i<=j->(∀j',j'<=j->kf i<=kf j'/\(j'<i->kf i<kf j'))->
   codeAny (model X.prog X.w) X.A (.builtin "min.loop" ⟨[.ref I,.ref f,.ref S],[]⟩) RR s:=by
 have nm:(toString "min"++toString ".loop":String)="min.loop":=by decide
 have W:=Walks.list (prog:=X.prog) (w:=X.w) (A:=X.A.in1) hA I l nlI vs.toArray
 have zs:vs.toArray.size=vs.length:=yak ..
 have m2:∀o,Mine X ((S,o)::(f,fo)::pins) I:=fun o=>mI.under (p:=(S,o)) nSI
 have m3:∀o,Mine X ((I,o)::(f,fo)::pins) S:=fun o=>mS.under (p:=(I,o)) nSI.symm
 intro r
 induction r with
 |zero=>
  intro j i H s vb tb c oI hr hj J hRj hit hvb hij hbest
  have pS:=(J.pin _ (yaj _ (yae _ yah))).1
  refine codeAny_builtin PySem.F.entry_min_loop (by
   rw[Around.under_plainId PySem.F.plain_min_loop _]
   show wpAny _ X.A.in1 (seqItems? (.ref S)>>=_) _ _ _
   refine wpAny_bind (wpAny_seqItems pS rfl (?_))
   show wpAny _ X.A.in1 (tryCatch (pyNext (.ref I)) _>>=_) _ _ _
   refine wpAny_bind (wpAny_tryCatch (W.done _ _ _ ⟨by rw[zs,<-show j+1=vs.length by omega];exact hit,hl (j+1) H s J.unpin.unpin hRj⟩ fun h' tk' hk'=> ?_))
   have k1:∀b x,b≠I->s.heap.get? b=some x->h'.get? b=some x:=fun b x hb e=>hk' b x (fun z=>hb (yal.mp z)) e
   have pI:=J.pin (I,oI) (yaj _ yah)
   have J1:Inv X ((S,seqObj "list" #[vb,.int (kf i) tb] c)::(f,fo)::pins) σ H {s with heap:=h',toks:=tk'}:=J.unpin.turned (t':=tk') (it:=I) k1 pI.2.1 mI.loc (.inr mI.lo) mI.cl (m2 _).pn
   have g:=(J1.pin _ (yaj _ yah)).1
   show wpAny _ X.A.in1 (updateSeq S (fun _=>#[])>>=_) _ _ _
   refine wpAny_bind (wpAny_updateSeq g rfl (wpAny_bind (wpAny_letGo (wpAny_pure ?_))))
   have sb:=Heap.SameBut.update h' S (Obj.mapSeq fun _=>(#[]:Array Value))
   have J2:=(J1.repin (o':=seqObj "list" #[] _) (tk:=tk') mS (fun b x hb e=>(sb.2 b hb).trans e) (get?_update_seq g fun _=>#[]) (nocell _))
   exact hR i vb H _ hvb (fun j' hj'=>hbest j' (by omega)) J2.unpin.unpin (by rw[<-show j+1=vs.length by omega];exact hRj))
 |succ r ih=>
  intro j i H s vb tb c oI hr hj J hRj hit hvb hij hbest
  have hlt:j+1<vs.length:=by omega
  have pS:=(J.pin _ (yaj _ (yae _ yah))).1
  refine codeAny_builtin PySem.F.entry_min_loop (by
   rw[Around.under_plainId PySem.F.plain_min_loop _]
   show wpAny _ X.A.in1 (seqItems? (.ref S)>>=_) _ _ _
   refine wpAny_bind (wpAny_seqItems pS rfl (?_))
   show wpAny _ X.A.in1 (tryCatch (pyNext (.ref I)) _>>=_) _ _ _
   refine wpAny_bind (wpAny_tryCatch (W.item (j+1) _ _ _ (by rw[zs];exact hlt) ⟨hit,hl (j+1) H s J.unpin.unpin hRj⟩ fun v h' tk' hP hst' hk'=> ?_))
   have hv:vs[j+1]? =some v:=(by simpa using hP)
   have k1:∀b x,b≠I->s.heap.get? b=some x->h'.get? b=some x:=fun b x hb e=>hk' b x (fun z=>hb (yal.mp z)) e
   obtain⟨oI',hoI,hoc,hod⟩:=id hst'.1
   have J1:=J.repin (o':=oI') (tk:=tk') (m2 _) k1 hoI (fun v z=>by rw[hod]at z;cases z)
   show wpAny _ X.A.in1 (tryCatch (holding [v] (call (.ref f) [v])) _>>=_) _ _ _
   refine wpAny_bind (wpAny_tryCatch (wpAny_holding (wpAny_mono (turn (j+1) v _ H _ hv J1 (yae _ (yae _ yah)) hRj) (fun u s2 z=> ?_) fun _ _ z=>z.elim)))
   obtain⟨H2,t2,rfl,J2,hR2⟩:=z
   have hit2:s2.heap.IsListIter I l (j+1+1):=⟨oI',(J2.pin _ (yaj _ yah)).1,hoc,hod⟩
   have g:=(J2.pin _ (yaj _ (yae _ yah))).1
   show wpAny _ X.A.in1 (tryCatch (holding [v,.int (kf (j+1)) t2] (richCompare .Lt (.int (kf (j+1)) t2) (.int (kf i) tb)>>=_)) _>>=_) _ _ _
   refine wpAny_bind (wpAny_tryCatch (wpAny_holding (wpAny_bind (CmpOf.ints_lt (prog:=X.prog) (w:=X.w) (A:=X.A.in1) (P:=fun i v=>∃t,v= .int (kf i) t) kf (fun i v h=>h) (j+1) i _ _ _ _ _ ⟨t2,rfl⟩ ⟨tb,rfl⟩ (wpAny_bind (wpAny_holding (wpAny_truthy_bool (wpAny_bind (wpAny_letGo (wpAny_pure ?_))))))))))
   by_cases hb:kf (j+1)<kf i
   ·have sb:=Heap.SameBut.update s2.heap S (Obj.mapSeq fun _=>#[v,.int (kf (j+1)) t2])
    simp only[hb,decide_true,if_true]
    refine wpAny_bind (wpAny_updateSeq g rfl (wpAny_bind (wpAny_letGo ?_)))
    rw[nm]
    have J3:=(J2.swap.repin (o':=seqObj "list" #[v,.int (kf (j+1)) t2] _) (tk:=s2.toks) (m3 _) (fun b x hb e=>(sb.2 b hb).trans e) (get?_update_seq g fun _=>#[v,.int (kf (j+1)) t2]) (nocell _)).swap
    refine wpAny_pure ⟨plainId_quiet PySem.F.plain_min_loop _,ih (j+1) (j+1) H2 _ v t2 _ oI' (by omega) hlt J3 hR2 ⟨oI',(J3.pin _ (yaj _ yah)).1,hoc,hod⟩ hv (yac _) fun j' hj'=> ?_⟩
    by_cases e:j'=j+1
    ·subst e;exact⟨ybt _,fun z=>absurd z (ybd _)⟩
    ·have q:=(hbest j' (by omega)).1
     exact⟨by omega,fun _=>by omega⟩
   ·simp only[hb,decide_false,Bool.false_eq_true,if_false]
    refine wpAny_bind (wpAny_letGo (?_))
    rw[nm]
    refine wpAny_pure ⟨plainId_quiet PySem.F.plain_min_loop _,ih (j+1) i H2 _ vb tb c oI' (by omega) hlt J2 hR2 hit2 hvb (by omega) fun j' hj'=> ?_⟩
    by_cases e:j'=j+1
    ·subst e;exact⟨by omega,fun z=>by omega⟩
    ·exact hbest j' (by omega))
theorem minL_own{Q:Value->Shared->Prop}{E:Value->Shared->Prop}(kf:Nat->Int)(R:Nat->Hp->Prop)(hA:X.A.handled=none)(hne:0<vs.length)(J:Inv X ((f,fo)::pins) σ H s)(hR0:R 0 H)(hl:∀j H s,Inv X ((f,fo)::pins) σ H s->R j H->s.heap.IsList l vs.toArray)(turn:∀j v (ps:List (Addr×Obj)) H s,vs[j]? =some v->Inv X ps σ H s->(f,fo)∈ps->R j H->wpAny (model X.prog X.w) X.A.in1 (call (.ref f) [v]) (fun u s'=>∃H' t,u= .int (kf j) t/\Inv X ps σ H' s'/\R (j+1) H') (fun _ _=>False) s)(hQ:∀i v H' s',vs[i]? =some v->(∀j,j<vs.length->kf i<=kf j/\(j<i->kf i<kf j))->Inv X pins σ H' s'->R vs.length H'->Q v s'):
  wpAny (model X.prog X.w) X.A (call (.builtin "min") [.ref l] [(Str.ofString "key",.ref f)]) Q E s:=by
 have nm:(toString "min"++toString ".loop":String)="min.loop":=by decide
 have hls:=hl 0 H s J hR0
 obtain⟨ol,hol,_⟩:=id hls
 have nlI:l≠s.heap.objs.size:=yau (yap hol)
 refine kmb_tree PySem.F.kind_min PySem.F.plain_min PySem.F.entry_min (kmb_min_key _ _) (by
  show wpAny _ X.A.in1 (Builtin.Builtins.bindParams "min" ["key","default"] 0 ⟨[],[(Str.ofString "key",.ref f)]⟩>>=_) _ _ s
  refine wpAny_bind (wpAny_of_eq (show Builtin.Builtins.bindParams "min" ["key","default"] 0 ⟨[],[(Str.ofString "key",.ref f)]⟩=pure [some (.ref f),none]from rfl) (wpAny_bind (wpAny_pure (wpAny_bind (wpAny_pyIter_list hls (wpAny_bind (wpAny_newList ?_ (yaw _))))))))
  rw[nm]
  have zS:(s.heap.push {cls:= .type "list_iterator",data:= .fields #[.ref l,.int 0 0]}).objs.size=s.heap.objs.size+1:=size_push' ..
  rw[zS]
  have k0:∀b o,s.heap.get? b=some o->((s.heap.push {cls:= .type "list_iterator",data:= .fields #[.ref l,.int 0 0]}).push (seqObj "list" #[] 0)).get? b=some o:=fun b o e=>yab _ (yab _ e)
  have gI0:((s.heap.push {cls:= .type "list_iterator",data:= .fields #[.ref l,.int 0 0]}).push (seqObj "list" #[] 0)).get? s.heap.objs.size=some {cls:= .type "list_iterator",data:= .fields #[.ref l,.int 0 0]}:=yab _ (yao _ rfl)
  have gS:((s.heap.push {cls:= .type "list_iterator",data:= .fields #[.ref l,.int 0 0]}).push (seqObj "list" #[] 0)).get? (s.heap.objs.size+1)=some (seqObj "list" #[] 0):=by rw[<-zS];exact yao _ rfl
  have mI:=Mine.new J (yac _)
  have mS:=Mine.new J (ycq s.heap.objs.size)
  have nSI:s.heap.objs.size+1≠s.heap.objs.size:=ycg (yba _)
  have Jk:Inv X ((f,fo)::pins) σ H {s with heap:=(s.heap.push {cls:= .type "list_iterator",data:= .fields #[.ref l,.int 0 0]}).push (seqObj "list" #[] 0),toks:=s.toks}:=J.kept k0
  have JI:Inv X ((s.heap.objs.size,{cls:= .type "list_iterator",data:= .fields #[.ref l,.int 0 0]})::(s.heap.objs.size+1,seqObj "list" #[] 0)::(f,fo)::pins) σ H {s with heap:=(s.heap.push {cls:= .type "list_iterator",data:= .fields #[.ref l,.int 0 0]}).push (seqObj "list" #[] 0),toks:=s.toks}:=Jk.pins_of fun q hq=>by
   rcases yam.mp hq with z|z
   ·subst z;exact⟨gI0,J.hok.fresh (yac _),mI.loc,mI.fs,fun v z=>by have z':Data.fields #[Value.ref l,.int 0 0]=Data.cell v:=z;cases z'⟩
   ·rcases yam.mp z with z|z
    ·subst z;exact⟨gS,J.hok.fresh (ycq _),mS.loc,mS.fs,nocell _⟩
    ·exact Jk.pin q (yaj _ z)
  have W:=Walks.list (prog:=X.prog) (w:=X.w) (A:=X.A.in1) hA s.heap.objs.size l nlI vs.toArray
  refine wpAny_pure ⟨plainId_quiet PySem.F.plain_min_loop _,codeAny_builtin PySem.F.entry_min_loop ?_⟩
  rw[Around.under_plainId PySem.F.plain_min_loop _]
  show wpAny _ X.A.in1 (seqItems? (.ref (s.heap.objs.size+1))>>=_) _ _ _
  refine wpAny_bind (wpAny_seqItems gS rfl (?_))
  show wpAny _ X.A.in1 (tryCatch (pyNext (.ref s.heap.objs.size)) _>>=_) _ _ _
  refine wpAny_bind (wpAny_tryCatch (W.item 0 _ _ _ (by rw[yak];exact hne) ⟨⟨_,gI0,rfl,rfl⟩,hl 0 H _ Jk hR0⟩ fun v h' tk' hP hst' hk'=> ?_))
  have hv:vs[0]? =some v:=(by simpa using hP)
  obtain⟨oI',hoI,hoc,hod⟩:=id hst'.1
  have J1:=JI.repin (o':=oI') (tk:=tk') (mI.under (p:=(s.heap.objs.size+1,seqObj "list" #[] 0)) nSI) (fun b x hb e=>hk' b x (fun z=>hb (yal.mp z)) e) hoI (fun v z=>by rw[hod]at z;cases z)
  show wpAny _ X.A.in1 (tryCatch (holding [v] (call (.ref f) [v])) _>>=_) _ _ _
  refine wpAny_bind (wpAny_tryCatch (wpAny_holding (wpAny_mono (turn 0 v _ H _ hv J1 (yae _ (yae _ yah)) hR0) (fun u s2 z=> ?_) fun _ _ z=>z.elim)))
  obtain⟨H2,t2,rfl,J2,hR2⟩:=z
  have g:=(J2.pin _ (yaj _ (yae _ yah))).1
  have sb:=Heap.SameBut.update s2.heap (s.heap.objs.size+1) (Obj.mapSeq fun _=>#[v,.int (kf 0) t2])
  show wpAny _ X.A.in1 (updateSeq (s.heap.objs.size+1) (fun _=>#[v,.int (kf 0) t2])>>=_) _ _ _
  refine wpAny_bind (wpAny_updateSeq g rfl ?_)
  rw[nm]
  have J3:=(J2.swap.repin (o':=seqObj "list" #[v,.int (kf 0) t2] _) (tk:=s2.toks) (mS.under (p:=(s.heap.objs.size,oI')) nSI.symm) (fun b x hb e=>(sb.2 b hb).trans e) (get?_update_seq g fun _=>#[v,.int (kf 0) t2]) (nocell _)).swap
  exact wpAny_pure ⟨plainId_quiet PySem.F.plain_min_loop _,minL_go kf R hA mI mS nSI nlI hl turn hQ _ 0 0 H2 _ v t2 _ oI' rfl hne J3 hR2 ⟨oI',(J3.pin _ (yaj _ yah)).1,hoc,hod⟩ hv (yac _) fun j' hj'=>by
   have e:j'=0:=by omega
   subst e
   exact⟨ybt _,fun z=>absurd z (ybd _)⟩⟩)
end
noncomputable def tMinLam(K:W.Frag)(P:Addr)(pos:Pos)(qual:Str)(ix:List Nat)(ta:TA)(te:TE):TE:=fun σ H Q=>ta σ H fun vs H1=>∃(l:Addr) (its:List (Addr×List Int)),vs=[.ref l]/\SqL K H1 l (its.map fun p=>V.ref p.1)/\its≠[]/\LamOk H1 P pos qual/\
 ∃(kf:Nat->Int) (R:Nat->Hp->Prop),(∀H2,(∀b o,b≠P->H1 b=some o->H2 b=some o)->LamOk H2 P pos qual->R 0 H2)/\(∀j H,R j H->SqL K H l (its.map fun p=>V.ref p.1))/\
  (∀j p H,its[j]? =some p->R j H->te (lamIni ix σ (.ref p.1)) H fun v H'=>v= .int (kf j)/\R (j+1) H')/\
  ∀i p H,its[i]? =some p->(∀j,j<its.length->kf i<=kf j/\(j<i->kf i<kf j))->R its.length H->Q (.ref p.1) H
theorem vals_refs:∀{its:List (Addr×List Int)} {us:List Value},Vals (its.map fun p=>V.ref p.1) us->us=its.map fun p=>Value.ref p.1
 |[],_,h=>by cases h;rfl
 |p::its,_,h=>by
  cases h with
  |cons r t=>rw[vals_refs t];cases r;rfl
section
variable{X:Cx}{a body:Expr}{ta:TA}{te:TE}{p kp pos lpos:Pos}{k:Nat}{scope:Scope}{caps:List Str}{ix:List Nat}{y:Str}{params:Arguments}{c P:Addr}
theorem pe_minLam(L:LamB X.base X.mg c P)(hcode:X.env.code= .ref c)(hc:X.calm=true)(hr:Room (k+2) X.A)(hg:Gl X "min")(hm:X.mg "min"=none)(ha:PA X [a] ta)(hcap:Caps X scope caps ix)(he:∀s H f cd,Room k (lamCx X X.A.in1 (y::caps) s H (lamEnv X scope s f cd)).A->PE (lamCx X X.A.in1 (y::caps) s H (lamEnv X scope s f cd)) body te)(ck:compOk X.env.scope scope=true:=by rfl)(hkind:scope.kind= .function:=by rfl)(hy:scope.names.lookup y=some .local:=by rfl)(hco:scope.isCoroutine=false:=by rfl)(hgen:scope.isGenerator=false:=by rfl)(hdef:defaultsOf params X.env=([],[]):=by rfl)(hbind:∀(q:Str) (cl:List (Str×Addr)) (pm cd ct u:Value),bindArgs (PySem.W.kla_fn "<lambda>" q params body scope cl pm cd ct) ⟨[u],[]⟩=pure [(y,u)]:=by intros;rfl)(he1:backTo pos (starEach [a] X.env)=(false,eval a X.env)::backTo pos (starEach [] X.env):=by rfl)(hp:(backTo pos (starEach [a] X.env)).any (·.1)=false:=by rfl):PE X (.Call (.Name "min" p) [a] [⟨some "key",.Lambda params body scope lpos,kp⟩] pos) (tMinLam X.K P lpos (X.env.qual++"<lambda>") ix ta te):=by
 intro pins s σ H Q I h
 refine wpAny_Call_Name_kw (zcz I hg hm (show bootBuiltins "min"=some (.builtin "min")from by decide+kernel) ?_ (by decide) (by decide))
 refine PyProof.Rows.callWith_kw (thn (ha pos pins s σ H _ I h) fun us s1 ⟨vs,H1,I1,r1,q1⟩=>kws_cons ?_) he1 hp
 obtain⟨l,its,e,hq,hne,hL,kf,R,hR0,hRl,hturn,q⟩:=q1
 subst e
 cases r1 with
 |cons r rr=>
  cases rr
  cases r
  refine lam_make (params:=params) (body:=body) I1 L hcode hL ck hdef fun f c' pm ctv H2 s2 I2 hS hL2 ho hf hge hrec=>kws_nil ?_
  have mF:=Mine.new I1 hge
  have J:Inv X ((f,PySem.W.kla_obj "<lambda>" (X.env.qual++"<lambda>") params body scope (clOf X.env.cells scope.names []) pm c' ctv)::pins) σ H2 s2:=I2.pins_of fun z hz=>by
   rcases yam.mp hz with z|z
   ·subst z;exact⟨ho,hf,mF.loc,mF.fs,fun v z=>nomatch z⟩
   ·exact I2.pin _ (yaj _ z)
  obtain⟨oc,ocv,tq,hC,hd,hv⟩:=hrec
  have lenI:(its.map fun p=>Value.ref p.1).length=its.length:=yaa _
  show wpAny (model X.prog X.w) X.A (call (.builtin "min") [.ref l] [(Str.ofString "key",.ref f)]) (EP X pins σ Q) X.xe s2
  refine minL_own (vs:=its.map fun p=>Value.ref p.1) kf (fun j H=>R j H/\H c'=some (.frz oc (.own 0))) (I.ok.hd hc) (by rw[lenI];exact ydr.mpr hne) J ⟨hR0 H2 hS hL2,hC⟩ (fun j H s J hj=> ?_) (fun j v ps H s hv' J hm hj=> ?_) fun i v H' s' hv' hb J hj=> ?_
  ·obtain⟨ws,rv,pl,hz⟩:=J.list (hRl j H hj.1)
   rw[vals_refs rv]at pl
   exact pl.isList
  ·rw[yaf]at hv'
   cases ej:its[j]? with
   |none=>rw[ej]at hv';cases hv'
   |some p=>
    rw[ej]at hv'
    cases hv'
    have hf:=(J.pin _ (yaj _ hm)).1
    have hcd:s.heap.CodeRec (.ref c') (X.env.qual++"<lambda>"):=⟨c',oc,ocv,tq,rfl,(J.hok c' _ hj.2).1,hd,hv⟩
    refine wpAny_mono (lam_run (A:=X.A.in1) (v:= .ref p.1) ck hkind hcap hy hco hgen hr.in1 J.env0.in1.frames (he _ _ _ _ (hr.in1.deeper _)) J rfl hf hcd hbind (hturn j p H ej hj.1)) (fun u s' z=> ?_) fun _ _ z=>z.elim
    obtain⟨w,H',J',rw',⟨rfl,hR'⟩,hfz⟩:=z
    obtain⟨t,rfl⟩:=rw'
    exact⟨H',t,rfl,J',hR',hfz _ _ _ hj.2⟩
  ·rw[yaf]at hv'
   cases ei:its[i]? with
   |none=>rw[ei]at hv';cases hv'
   |some p=>
    rw[ei]at hv'
    cases hv'
    rw[lenI]at hb hj
    exact⟨.ref p.1,H',J,rfl,q i p H' ei hb hj.1⟩
end
noncomputable def OnlyL(T:Addr)(H:Hp):Prop:=H T=some (.tbl #[])/\∀b,b≠T->H b=none\/∃o xs,H b=some (.frz o (.lst xs))
theorem law_callL{P:Program}{w:World}{K:W.Frag}{mg mb:Str->Option Value}{CX:CXT}{k:Nat}{fa a c T:Addr}{fd:FuncData}{x:Str}{sp:Sp}{s₁:Shared}{vs:List Value}{ns:List Int}
  (KX:K.In s₁.heap)(hT:PySem.W.CodeHd s₁.heap c T)(hT0:s₁.heap.get? T=some (PySem.W.tabObj #[]))(hKT:K.lookup T=none)(hbm:∃bm ob,mg "__builtins__"=some (.ref bm)/\bm≠builtinsNs/\s₁.heap.get? bm=some ob/\ob.cls= .type "module"/\ob.dict=some builtinsNs/\ob.data= .plain)(hns:s₁.heap.Ns mainGlobals mg)(hb:s₁.heap.Ns builtinsNs mb)(hbb:∀x:Str,x≠"__name__"->mb x=bootBuiltins x)(hlim:s₁.heap.NoLimit)(hg:s₁.gens=#[])(ha:s₁.heap.get? a=some {cls:= .type "list",data:= .seq vs.toArray})(hi:IntsAre vs ns)(hl:ns.length<=sizeLine)(hr:Room k callerA)
  (F:∀base:Heap,K.In base->base.Ns mainGlobals mg->LamB base mg c T->FnOk P w K mg base CX k fa fd [x] sp)(hbind:∀(s:Shared) (u:Value),BindsTo s fd ⟨[u],[]⟩ [(x,u)])(hsp:∀H:Hp,OnlyL T H->SqL K H a (ns.map V.int)->sp [.ref a] H (fun v _=>v= .bl true) fun _ _ _=>False)(hCX:∀H e s',CX [] H s₁ (fun _ _ _=>False) e s'->False):
  codeAny (model P w) callerA (.call (.ref fa) ⟨[.ref a],[]⟩) (fun r s'=>r= .ok (.ret (.bool true))/\OldK s₁.heap s'.heap/\s'.os=s₁.os/\AllBare s'.gens) s₁:=by
 have rv:=vals_ints hi
 have lenV:=hi.length
 have aT:a≠T:=fun e=>by rw[e,hT0]at ha;cases ha
 have core:∀H:Hp,OnlyL T H->SqL K H a (ns.map V.int)->HOk P w H s₁.heap->(∀b,H b≠none->b=a\/b=T)->(H a≠none->K.lookup a=none)->
   codeAny (model P w) callerA (.call (.ref fa) ⟨[.ref a],[]⟩) (fun r s'=>r= .ok (.ret (.bool true))/\OldK s₁.heap s'.heap/\s'.os=s₁.os/\AllBare s'.gens) s₁:=by
  intro H hO hS hok hA hK
  have base_of:∀{b:Addr} {o:Obj},s₁.heap.get? b=some o->H b=none->(hidT s₁.heap H).get? b=some o:=fun e n=>hidT_get e n
  have noA:∀{b:Addr} {o:Obj},s₁.heap.get? b=some o->(∀vs n,o.data≠.seq vs n)->o.cls≠.none->H b=none:=fun{b o} e d d2=>by
   cases q:H b with
   |none=>rfl
   |some u=>
    rcases hA b (by rw[q];simp)with e'|e'
    ·subst e'
     rw[ha]at e;cases e
     exact absurd rfl (d _ _)
    ·subst e'
     rw[hT0]at e;cases e
     exact absurd rfl d2
  have noD:∀{b:Addr} {o:Obj} {es:Array DictEntry} {ep:Nat},s₁.heap.get? b=some o->o.data= .dict es ep->H b=none:=fun{b o es ep} e d=>by
   cases q:H b with
   |none=>rfl
   |some u=>
    rcases hA b (by rw[q];simp)with e'|e'
    ·subst e'
     rw[ha]at e;cases e
     have d':Data.seq vs.toArray _=Data.dict es ep:=d
     cases d'
    ·subst e'
     rw[hT0]at e;cases e
     have d':Data.fields (#[]:Array Value)=Data.dict es ep:=d
     cases d'
  have nsK:∀{b:Addr} {m:Str->Option Value},s₁.heap.Ns b m->(hidT s₁.heap H).Ns b m:=fun{b m} ⟨o,es,ep,e,d,r⟩=>⟨o,es,ep,base_of e (noD e d),d,r⟩
  have hKb:K.In (hidT s₁.heap H):=fun b o e=>base_of (KX b o e) (by
   cases q:H b with
   |none=>rfl
   |some u=>
    rcases hA b (by rw[q];simp)with e'|e'
    ·subst e'
     rw[hK (by rw[q];simp)]at e;cases e
    ·subst e'
     rw[hKT]at e;cases e)
  have gT:mainGlobals≠T:=fun z=>by
   obtain⟨o,es,ep,e,d,_⟩:=hns
   rw[z,hT0]at e
   cases e
   have d':Data.fields (#[]:Array Value)=Data.dict es ep:=d
   cases d'
  have hM:Mod K mg (hidT s₁.heap H):=⟨hKb,nsK hns,⟨mb,nsK hb,hbb⟩,let⟨mc,h1,h2⟩:=hlim;⟨mc,nsK h1,h2⟩⟩
  have hLB:LamB (hidT s₁.heap H) mg c T:=by
   refine⟨?_,?_,gT⟩
   ·obtain⟨o,vs,file,tf,flags,tg,inF,text,tt,e1,r1,r2,r⟩:=hT
    exact⟨o,vs,file,tf,flags,tg,inF,text,tt,base_of e1 (noA e1 (fun vs n z=>by rw[r2]at z;cases z) (by rw[r1];exact fun z=>nomatch z)),r1,r2,r⟩
   ·obtain⟨bm,ob,b1,b2,b3,b4,b5,b6⟩:=hbm
    refine⟨bm,ob,b1,b2,fun z=> ?_,fun z=> ?_,base_of b3 (noA b3 (fun vs n z=>by rw[b6]at z;cases z) (by rw[b4];exact fun z=>nomatch z)),b4,b5,b6⟩
    ·obtain⟨o,es,ep,e,d,_⟩:=hns
     rw[<-z,b3]at e;cases e;rw[b6]at d;cases d
    ·rw[z,hT0]at b3;cases b3;cases b4
  have e0:Env0 P w K mg (hidT s₁.heap H) callerA [] s₁ H:=⟨rfl,hM,fun b o e=>of_hidT e,yci (hidT_size _ _),trivial,fun b hb=>absurd (show b∈([]:List Addr)from hb) (by simp),hok,.of_eq hg⟩
  refine codeAny_mono ((F _ hKb (nsK hns) hLB).run callerA [] s₁ H ⟨[.ref a],[]⟩ [.ref a] [.ref a] _ _ hr e0 (hbind s₁ (.ref a)) (.cons rfl .nil) (hsp H hO hS)) fun r s' h=> ?_
  cases r with
  |error e=>exact(hCX H e s' h).elim
  |ok fl=>
   cases fl with
   |next=>exact False.elim h
   |brk=>exact False.elim h
   |cont=>exact False.elim h
   |ret u=>
    obtain⟨v,H',os,bare,un,hok',r',q⟩:=h
    have q':v= .bl true:=q
    subst q'
    obtain rfl:u=Value.bool true:=r'
    refine⟨rfl,⟨fun b o e=> ?_,fun b o e=>un.there b o e (by simp)⟩,os,bare⟩
    by_cases hbT:b=T
    ·subst hbT
     obtain⟨more,z⟩:=un.tbls b _ hO.1
     have z2:s'.heap.get? b=some (PySem.W.tabObj (#[]++more)):=hok' b _ z
     rw[hT0]at e
     cases e
     exact .inr (.inl ⟨(hT.tab hT0).isCodeTable,rfl,#[],more,rfl,z2⟩)
    ·refine .inl ?_
     cases q:H b with
     |none=>exact un.keep b o e q (by intro z;exact absurd (show b∈([]:List Addr)from z) (by simp)) (by simp)
     |some u=>
      rcases hO.2 b hbT with z|⟨ob,xs,z⟩
      ·rw[q]at z;cases z
      ·have z2:=un.frzs b ob _ z
       obtain⟨e1,_⟩:=hok b _ z
       obtain⟨e2,_⟩:=hok' b _ z2
       rw[e]at e1;cases e1
       exact e2
 cases hk:K.lookup a with
 |some o=>
  have e:=KX a o hk
  rw[ha]at e
  cases e
  refine core (fun b=>if b=T then some (.tbl #[])else none) ⟨if_pos rfl,fun b hb=> .inl (if_neg hb)⟩ (.inr ⟨_,vs.toArray,_,hk,rfl,rfl,rfl,by rw[yak,lenV];exact hl,by simpa using rv⟩) (fun b u z=> ?_) (fun b z=> ?_) fun z=>absurd (if_neg aT) z
  ·by_cases hb:b=T
   ·have z':=(if_pos hb).symm.trans z
    cases z'
    subst hb
    exact hT0
   ·have z':=(if_neg hb).symm.trans z
    cases z'
  ·by_cases hb:b=T
   ·exact .inr hb
   ·exact absurd (if_neg hb) z
 |none=>
  refine core (fun b=>if b=T then some (.tbl #[])else if b=a then some (.frz {cls:= .type "list",data:= .seq vs.toArray} (.lst (ns.map V.int)))else none) ⟨if_pos rfl,fun b hb=> ?_⟩ (.inl (.inr ⟨{cls:= .type "list",data:= .seq vs.toArray},(if_neg aT).trans (if_pos rfl)⟩)) (fun b u z=> ?_) (fun b z=> ?_) fun _=>hk
  ·by_cases hba:b=a
   ·exact .inr ⟨_,_,(if_neg hb).trans (if_pos hba)⟩
   ·exact .inl ((if_neg hb).trans (if_neg hba))
  ·by_cases hb:b=T
   ·have z':=(if_pos hb).symm.trans z
    cases z'
    subst hb
    exact hT0
   ·by_cases hba:b=a
    ·have z':=((if_neg hb).trans (if_pos hba)).symm.trans z
     cases z'
     subst hba
     exact⟨ha,by rw[yaa];exact hl,vs,_,rv,ha⟩
    ·have z':=((if_neg hb).trans (if_neg hba)).symm.trans z
     cases z'
  ·by_cases hb:b=T
   ·exact .inr hb
   ·by_cases hba:b=a
    ·exact .inl hba
    ·exact absurd ((if_neg hb).trans (if_neg hba)) z
theorem walk_ofL{l:PySem.W.OpenLaw}{n k:Nat}{q:Program}{loose:List Str}{XP:(Str->Option Value)->Heap->Prop}{YP:World->Heap->Prop}{d:DefRec}{K:Params->PySem.W.Frag}{CX:CXT}{sp:Addr->PySem.W.Frag->Sp}{x:Str}{c T:Addr}(hn:l.most=some n)(hn2:n<=sizeLine)(hdf:d.params.defaults=[])(hr:Room k callerA)(hY:∀(w:World) (h:Heap),YP w h->(K w.params).In h/\h.get? T=some (PySem.W.tabObj #[]))(hc:∀w:World,PySem.W.codeHdIn (K w.params) c T=true)(hKT:∀w:World,(K w.params).lookup T=none)
  (F:∀(w:World) (mg:Str->Option Value) (fa:Addr) (h:Heap),(K w.params).In h->h.Ns mainGlobals mg->mg d.name=some (.ref fa)->
   ∃fd:FuncData,(∀(s:Shared) (u:Value),BindsTo s fd ⟨[u],[]⟩ [(x,u)])/\
    ∀base:Heap,(K w.params).In base->base.Ns mainGlobals mg->LamB base mg c T->FnOk l.prog w (K w.params) mg base CX k fa fd [x] (sp T (K w.params)))(hsp:∀(K:W.Frag) (H:Hp) (a:Addr) (ns:List Int),ns.length<=n->OnlyL T H->SqL K H a (ns.map V.int)->sp T K [.ref a] H (fun v _=>v= .bl true) fun _ _ _=>False)(hCX:∀(H:Hp) (s:Shared) (e:Value) (s':Shared),CX [] H s (fun _ _ _=>False) e s'->False):
  PySem.W.WalkO q loose XP YP l.row.toRowW d [] (fun f vs=>PySem.call f vs):=by
 refine Att.attach_call hn hdf fun w s₀ s₁ mg mb fa o pm cd doc a vs ns G Y ho hd hcd hmg hobj hints hlen hg=> ?_
 obtain⟨KX,hT0⟩:=hY w _ Y
 obtain⟨fd,hb,hF⟩:=F w mg fa _ KX G.T.g hmg
 exact law_callL KX (PySem.W.codeHd_of_K KX (hc w)) hT0 (hKT w) G.T.bmain G.T.g G.T.b G.T.builtins G.T.nolimit hg hobj hints (yat hlen hn2) hr hF hb (fun H hO hS=>hsp (K w.params) H a ns hlen hO hS) fun H e s'=>hCX H s₁ e s'
theorem Fun.okC{P:Program}{w:World}{K:W.Frag}{mg:Str->Option Value}{base:Heap}{x qual:Str}{st:Stmt}{f c:Addr}{fd:FuncData}{N ps:List Str}{k:Nat}{sp:Sp}(F:Fun K x qual st f fd)(hcd:fd.code= .ref c)(S:FnScope N ps (defScope st))(len:∀vs H Q E,sp vs H Q E->vs.length=ps.length)(hbody:∀(A:Around) (outer:List Env) (s:Shared) (H:Hp) (vs:List V) (Q:VK) (E:XK),Room k (A.deeper (envOfC qual (defScope st) s.heap.objs.size f (.ref c)))->sp vs H Q E->
   ∃t,PSs (cxOf CX0 P w K mg base N qual (defScope st) f (.ref c) A outer s H E).nox (defBody st) t/\t {nx:=fun _ H'=>Q .non H',rt:=Q} (start N vs) H):FnOk P w K mg base CX0 (k+1) f fd ps sp:=by
 obtain⟨oc,od,kV,doc,pm,an,cdv,ct,osl,rfl,lk,hcd'⟩:=F.ex
 have e:cdv= .ref c:=hcd
 subst e
 refine fn_of lk hcd' S len fun A outer s H vs Q E hr hsp=> ?_
 obtain⟨t,h,q⟩:=hbody A outer s H vs Q E hr hsp
 exact⟨t,h.nox,q⟩
end L2
namespace DH
open PySem PySem.W PyProof.Rows PySem.Calls
section
variable{prog:Program}{w:World}{A:Around}{E:Value->Shared->Prop}{s:Shared}{d it v:Addr}{es:Array DictEntry}{ep i:Nat}
end
end DH
namespace L2
open PySem PySem.Spec PyProof.Rows
section
variable{X:Cx}{pins pins0:List (Addr×Obj)}{σ σ0:St}{H H0:Hp}{s s0:Shared}{d:Addr}{kvs:List (List Key×V)}{o:Obj}
end
section
variable{d:Addr}{o:Obj}{kvs:List (List Key×V)}{g:TG}{tc:TT}{te:TE}{Fin:List V->Hp->Prop}{ini:St}{H:Hp}
end
noncomputable def isK(k:Int):Value->Bool
 | .int i _=>i==k
 |_=>false
theorem vals_from{i:Int}:∀{n:Nat} {us:List Value},us.length=n->(∀(j:Nat) (u:Value),us[j]? =some u->∃t:Tok,u=Value.int (i+((j:Nat):Int)*1) t)->Vals (((List.range n).map fun(k:Nat)=>i+(k:Int)).map V.int) us:=by
 intro n us hl hi
 have go:∀(us:List Value) (k:Nat),(∀(j:Nat) (u:Value),us[j]? =some u->∃t:Tok,u=Value.int (i+((j+k:Nat):Int)*1) t)->Vals (((List.range' k us.length).map fun(k:Nat)=>i+(k:Int)).map V.int) us:=by
  intro us
  induction us with
  |nil=>intro k _;exact .nil
  |cons u us ih=>
   intro k h
   obtain⟨t,e⟩:=h 0 u rfl
   refine .cons ⟨t,?_⟩ ?_
   ·rw[e]
    show Value.int (i+((0+k:Nat):Int)*1) t=Value.int (i+(k:Int)) t
    congr 1;omega
   ·refine ih (k+1) fun j u hu=> ?_
    obtain⟨t,e⟩:=h (j+1) u (by simpa using hu)
    exact⟨t,by rw[e];congr 1;omega⟩
 have:=go us 0 fun j u hu=>hi j u hu
 rw[hl,<-List.range_eq_range']at this
 exact this
section
variable{X:Cx}{e a b:Expr}{ta:TE}{f:Str}{pos p p' pos':Pos}
theorem pe_fldK(K:W.Frag)(he:PE X e ta)(hb:attributeBase e f X.env (eval e X.env)=eval e X.env)(h:X.K=K:=by rfl):PE X (.Attribute e f pos) (tFld K ta f):=by subst h;exact zbg he hb
theorem mt_indexI:MtM X "list.index" (fun x vs H Q=>∃(l:Addr) (ns:List Int) (k:Int) (j:Nat),x= .ref l/\vs=[.int k]/\H l=some (.lst (ns.map V.int))/\ns[j]? =some k/\(∀i,i<j->ns[i]? ≠some k)/\ns.length<=1000/\Q (.int (j:Nat)) H):=by
 intro pins s σ H x vs v us Q I rx rv h
 obtain⟨l,ns,k,j,rfl,rfl,hH,hj,hno,hb,q⟩:=h
 cases rx
 obtain⟨u,rfl,ru⟩:=rv.one
 obtain⟨t,rfl⟩:=ru
 obtain⟨z,its,n,r,hl,e⟩:=I.lstM hH
 rw[yaa]at z hl
 have hI:∀(i:Nat) (v:Value),its[i]? =some v->∃t,v= .int (ns.getD i 0) t/\ns[i]? =some (ns.getD i 0):=fun i v hv=>by
  have hi:i<ns.length:=by have:=(yaq.mp hv).1;omega
  have e0:ns[i]? =some (ns.getD i 0):=by rw[yai,yag hi];rfl
  obtain⟨u,hu,ru⟩:=r.get (show(ns.map V.int)[i]? =some (.int (ns.getD i 0)) by rw[yaf,e0];rfl)
  rw[hv]at hu
  cases hu
  obtain⟨t,rfl⟩:=ru
  exact⟨t,rfl,e0⟩
 have hj':j<its.length:=by have:=(yaq.mp hj).1;omega
 refine call_meets F.slot_list_index ⟨_,e,rfl⟩ F.entry_list_index (F.args_list_index_2 _ _)
  (MeetsSeq.list_index l its.toArray n (.int k t) (isK k) (fun y hy=> ?_) j (by simpa using hj') (by omega) ?_ (fun i hi hlt=> ?_)) ⟨e,?_⟩
 ·obtain⟨i,hi,rfl⟩:=ybi (show y∈its by simpa using hy)
  obtain⟨t',e',_⟩:=hI i its[i] (yag hi)
  rw[e']
  exact MeetsSeq.EqGives.int _ _ _ _
 ·obtain⟨t',e',e0⟩:=hI j its[j] (yag hj')
  show isK k its[j]=true
  rw[e']
  rw[hj]at e0
  have:k=ns.getD j 0:=Option.some.inj e0
  show(ns.getD j 0==k)=true
  rw[<-this];exact beq_self_eq_true _
 ·have hi':i<its.length:=by simpa using hi
  obtain⟨t',e',e0⟩:=hI i its[i] (yag hi')
  show isK k its[i]=false
  rw[e']
  show(ns.getD i 0==k)=false
  refine beq_eq_false_iff_ne.mpr fun z=>hno i hlt ?_
  rw[e0,z]
 ·exact⟨.int (j:Nat),H,I.tok _,⟨s.toks,rfl⟩,q⟩
end
section
variable{X:Cx}{a b:Expr}{ta:TA}{p pos p' pos':Pos}
noncomputable def rngFT(i:Int)(n:Nat):List Int:=(List.range n).map fun(k:Nat)=>i+(k:Int)
noncomputable def tLstR2(ta:TA):TE:=fun σ H Q=>ta σ H fun vs H1=>∃i j:Int,vs=[.int i,.int j]/\0<=i/\i<=j/\j<=1000000/\∀l,H1 l=none->Q (.ref l) (upd H1 l (.lst ((rngFT i (j-i).toNat).map V.int)))
theorem pe_lstRange2(hc:X.calm=true)(hgT:Gl X "list")(hmT:X.mg "list"=none)(hg:Gl X "range")(hm:X.mg "range"=none)(ha:PA X [a,b] ta)(hs:starEach [a,b] X.env=[(false,eval a X.env),(false,eval b X.env)]:=by rfl)(hs':starEach [b] X.env=[(false,eval b X.env)]:=by rfl)(hs2:starEach [Expr.Call (.Name "range" p') [a,b] [] pos'] X.env=[(false,eval (Expr.Call (.Name "range" p') [a,b] [] pos') X.env)]:=by rfl):
  PE X (.Call (.Name "list" p) [.Call (.Name "range" p') [a,b] [] pos'] [] pos) (tLstR2 ta):=by
 intro pins s σ H Q I h
 refine wpAny_Call_Name_kw (zcz I hgT hmT (show bootBuiltins "list"=some (.type "list")from by decide+kernel) ?_ (by decide) (by decide))
 refine PyProof.Rows.callWith_type1 ?_ hs2 rfl
 rw[hs2]
 refine Calls.spliced_cons ?_
 refine Call_ (zcz I hg hm boot_range (PyProof.Rows.callWith_type1 (thn (ha pos' pins s σ H _ I h) fun us s1 ⟨vs,H1,I1,r1,q1⟩=> ?_) (by rw[hs,hs']) (by rw[hs'];rfl)))
 obtain⟨i,j,e,q0,q1,q2,q⟩:=q1
 subst e
 cases r1 with
 |cons r rr=>
  cases rr with
  |cons r' rr=>
   cases rr
   obtain⟨t,rfl⟩:=r
   obtain⟨t',rfl⟩:=r'
   refine call_range_2 ?_
   refine Calls.spliced_nil ?_
   have hn:Builtin.Range.rangeSize i j 1=(((j-i).toNat:Nat):Int):=by rw[rangeSize_one];split<;>omega
   refine call_list_range (I.ok.hd hc) (IsRange.new ..) (small_one (by omega) (by omega) (by omega) (by omega)) hn (by omega) fun h' tk acc c hk hS hacc=> ?_
   have hv:Vals ((rngFT i (j-i).toNat).map V.int) acc.toList:=vals_from (by rw[yco];exact hacc.1) (fun k u hu=>hacc.2 k u (by simpa using hu))
   have hz:((rngFT i (j-i).toNat).map V.int).length<=sizeLine:=by unfold rngFT;rw[sizeLine_eq];simp;omega
   have I2:Inv X pins σ H1 {s1 with heap:=s1.heap.push {cls:=Value.type "range",data:=Data.fields #[Value.int i t,Value.int j t',Value.int 1 s1.toks]},toks:=s1.toks+1}:=I1.kept fun b o e=>yab _ e
   exact⟨.ref _,_,I2.laid (t':=tk) (o:= .lst ((rngFT i (j-i).toNat).map V.int)) hk (yac _) ⟨hz,acc.toList,c,hv,by simpa using hS⟩,rfl,q _ (I2.hok.fresh (yac _))⟩
end
structure Mdf(K:W.Frag)(C:Addr)(x qual:Str)(st:Stmt)(ps:List Str)(f:Addr)(fd:FuncData):Prop where
 F:Fun K x qual st f fd
 b:Binds K fd ps []
 m:Meth K C x f
end L2
namespace L2
open PySem PySem.Spec PyProof.Rows PySem.W
section
variable{X:Cx}
theorem call_sortedTT:CallR X (.builtin "sorted") (fun xs H Q=>∃(a:Addr) (its:List (Addr×List Int)),xs=[.ref a]/\SqT X.K H a (its.map fun p=>V.ref p.1)/\(∀p∈its,SqT X.K H p.1 (p.2.map V.int)/\p.2≠[])/\its.length<64/\
  ∀(l:Addr) (its':List (Addr×List Int)),H l=none->its'.Perm its->its'.Pairwise (fun p q=>HT.lexLt q.2 p.2=false)->Q (.ref l) (upd H l (.lst (its'.map fun p=>V.ref p.1)))):=by
 intro pins s σ H xs us Q I r h
 obtain⟨a,its,rfl,hS,hT,h64,q⟩:=h
 obtain⟨u,rfl,ru⟩:=r.one
 cases ru
 obtain⟨vs,rv,pl,hz⟩:=I.tuple hS
 have hlen:its.length=vs.length:=by have:=rv.length;simpa using this
 -- the values beside the tuples
 have pr:Paired (fun(p:Addr×List Int) (v:Value)=>v= .ref p.1) its vs:=by
  have go:∀(l:List (Addr×List Int)) (us:List Value),Vals (l.map fun p=>V.ref p.1) us->Paired (fun(p:Addr×List Int) (v:Value)=>v= .ref p.1) l us:=by
   intro l
   induction l with
   |nil=>intro us h;cases h;exact .nil
   |cons p l ih=>
    intro us h
    cases h with
    |cons r t=>exact .cons r (ih _ t)
  exact go its vs rv
 have tup:∀p∈its,∃(items:List Value),IntsAre items p.2/\IsTup s.heap p.1 items.toArray:=fun p hp=>by
  obtain⟨its',r',t',_⟩:=I.tuple (hT p hp).1
  exact⟨its',intsAre_of r',t'⟩
 refine Srt.sorted_tup (O:=Srt.lexOrd) (key:=fun i=>(its.getD i (0,[])).2) (κ:=tuples' true) (s:=s) pl (by omega) (fun h2 h' k E' Q' hq=> ?_) (fun h2 h' k=> ?_) (fun D h' out c ho hD k hc=> ?_)
 ·have kt:∀(l:List (Addr×List Int)) (us:List Value),Paired (fun(p:Addr×List Int) (v:Value)=>v= .ref p.1) l us->(∀p∈l,p∈its)->∃fs:List Value,KatTups h' us fs/\fs.length=us.length/\∀v∈fs,∃i t,v=Value.int i t:=by
   intro l us h
   induction h with
   |nil=>intro _;exact⟨[],trivial,rfl,fun _ hv=>nomatch hv⟩
   | @cons p v l us r t ih=>
    intro hs
    obtain⟨fs,k1,k2,k3⟩:=ih fun p hp=>hs p (yae _ hp)
    obtain⟨items,hi,o,e,hc,n,hd⟩:=tup p (hs p yah)
    have hne:=(hT p (hs p yah)).2
    obtain⟨pa,pn⟩:=p
    dsimp only at hi hne e r
    cases hi with
    |nil=>exact absurd rfl hne
    |cons i t hi'=>
     rw[r]
     refine⟨Value.int i t::fs,KatTups.cons (k _ _ e) hc hd (by simp) k1,by simp[k2],fun v hv=> ?_⟩
     rcases yam.mp hv with e|e
     ·exact⟨i,t,e⟩
     ·exact k3 v e
  obtain⟨fs,k1,k2,k3⟩:=kt its vs pr fun _ hp=>hp
  refine kat_kind (s:={s with heap:=h'}) (T:= .type "int") k1 (by omega) (fun v hv=> ?_) (by rfl) hq
  obtain⟨i,t,rfl⟩:=k3 v hv
  exact fun A Q E s _ q=>wpAny_pure q
 ·intro i j C hi hj hC
  rw[<-hlen]at hi hj
  have get:∀i (hi:i<its.length),vs.getD i Value.none= .ref its[i].1:=by
   have go:∀(l:List (Addr×List Int)) (us:List Value),Paired (fun(p:Addr×List Int) (v:Value)=>v= .ref p.1) l us->∀i (hi:i<l.length),us.getD i Value.none= .ref l[i].1:=by
    intro l us h
    induction h with
    |nil=>intro i hi;simp at hi
    |cons r t ih=>
     intro i hi
     cases i with
     |zero=>exact r
     |succ i=>simpa using ih i (by simpa using hi)
   exact go its vs pr
  unfold kas_ask
  rw[get i hi,get j hj]
  obtain⟨xi,hxi,oi,ei,ci,ni,di⟩:=tup its[i] (ycf _)
  obtain⟨xj,hxj,oj,ej,cj,nj,dj⟩:=tup its[j] (ycf _)
  refine kat_lt (s:={s with heap:=h'}) (k _ _ ei) di (k _ _ ej) dj ?_
  refine Srt.lex_ints 0 hxi hxj ?_ ?_
  ·have:=hxi.length;have:=hxj.length
   simp only[yak]
   omega
  ·rw[HT.lexLt_iff]
   have e1:its.getD i (0,[])=its[i]:=by simp[hi]
   have e2:its.getD j (0,[])=its[j]:=by simp[hj]
   have hC':C (decide ((its.getD i (0,[])).2<(its.getD j (0,[])).2)) {s with heap:=h'}:=hC
   rw[e1,e2]at hC'
   exact hC'
 ·obtain⟨its',hp,hr,hw⟩:=Srt.outs_of (d:=((0,[]):Addr×List Int)) (f:=fun p=>p.2) pr (fun i hi=>by show(its.getD i (0,[])).2=_;simp[hi]) ho
  have hn:H D=none:=I.hok.fresh hD
  have rv':Vals (its'.map fun p=>V.ref p.1) out:=by
   have go:∀(l:List (Addr×List Int)) (us:List Value),Paired (fun(p:Addr×List Int) (v:Value)=>v= .ref p.1) l us->Vals (l.map fun p=>V.ref p.1) us:=by
    intro l us h
    induction h with
    |nil=>exact .nil
    |cons r t ih=>exact .cons r ih
   exact go its' out hr
  have zl:(its'.map fun p=>V.ref p.1).length<=sizeLine:=by
   have:=hp.length_eq
   rw[yaa]
   exact yas (small1000 (by omega))
  have J:Inv X pins σ (upd H D (.lst (its'.map fun p=>V.ref p.1))) {s with heap:=h',toks:=s.toks}:=I.laid k hD ⟨zl,out,c,rv',hc⟩
  refine⟨.ref D,_,J,rfl,q D its' hn hp (hw.imp fun{x y} hxy=> ?_)⟩
  rw[HT.lexLt_iff];exact hxy
end
end L2
namespace PySem
open Sem (wp)
section
variable{prog:Program}{w:World}{A:Around}{E:Value->Shared->Prop}{s:Shared}
theorem ztt_item{z TI TO i1 i2 l1 l2:Addr}{k:Nat}{xs ys:Array Value}{x y a b:Value}{Q:Option Value->Shared->Prop}(D:ZipApart z TI TO i1 i2 l1 l2)(hz:IsZip s.heap z TI TO .none)(hTI:IsPair s.heap TI (.ref i1) (.ref i2))(hTO:IsPair s.heap TO a b)(h1:s.heap.IsTupleIter i1 l1 k)(h2:s.heap.IsTupleIter i2 l2 k)(hl1:s.heap.IsTuple l1 xs)(hl2:s.heap.IsTuple l2 ys)(hx:xs[k]? =some x)(hy:ys[k]? =some y)(hQ:∀h',IsZip h' z TI TO (rawInt s.heap.objs.size)->IsPair h' TO x y->h'.IsTupleIter i1 l1 (k+1)->h'.IsTupleIter i2 l2 (k+1)->IsPair h' s.heap.objs.size x y->h'.objs.size=s.heap.objs.size+1->
   (∀c o,c≠z->c≠TO->c≠i1->c≠i2->s.heap.get? c=some o->h'.get? c=some o)->Q (some (.ref s.heap.objs.size)) {s with heap:=h'}):
  wpAny (model prog w) A (pyNext (.ref z)) Q E s:=by
 have hT:s.TypeIs (.ref z) "zip":=⟨_,hz,rfl⟩
 unfold pyNext
 refine wpAny_bind (wpAny_attempt (wpAny_callSpecial?_slot (name:=Str.ofString "__next__") hT F.slot_zip_next (wpAny_call_entry F.slot_zip_next hT F.entry_zip_next ?_ (F.args_zip_next_1 _))))
 show wpAny _ _ (field (.ref z) 2>>=_) _ _ _
 refine wpAny_bind (wpAny_field hz rfl (x:= .bool false) rfl ?_)
 show wpAny _ _ (field (.ref z) 3>>=_) _ _ _
 refine wpAny_bind (wpAny_field hz rfl (x:= .ref TI) rfl ?_)
 refine wpAny_bind (wpAny_seqItems hTI rfl ?_)
 show wpAny _ _ (Builtin.SmallTypes.ownedTupleIsFree (.ref z)>>=_) _ _ _
 refine wpAny_bind ?_
 unfold Builtin.SmallTypes.ownedTupleIsFree
 refine wpAny_bind (wpAny_field hz rfl (x:= .none) rfl (wpAny_pure ?_))
 simp only[if_true]
 refine wpAny_bind (wpAny_rule ?_)
 refine wpAny_bind (wpAny_field hz rfl (x:= .ref TO) rfl ?_)
 refine wpAny_bind (wpAny_setField_rec hz (by simp) fun g1 hz1 r1=> ?_)
 replace hz1:IsZip g1 z TI TO .ellipsis:=hz1
 refine wpAny_bind ?_
 simp only[List.zipIdx_cons,List.zipIdx_nil,List.forIn_cons,List.forIn_nil]
 refine wpAny_bind (wpAny_bind (wpAny_onRaise ?_))
 show wpAny _ _ (Builtin.SmallTypes.nextOf (.ref i1)>>=_) _ _ _
 refine wpAny_bind (nextOf_tup (h1.at fun o e=>r1.extBut _ _ D.i1z e) (hl1.at fun o e=>r1.extBut _ _ D.l1z e) hx fun g2 h12 r2=>wpAny_pure ?_)
 have o2:IsPair g2 TO a b:=r2.extBut _ _ D.TOi1 (r1.extBut _ _ D.TOz hTO)
 refine wpAny_bind (wpAny_seqItems o2 rfl ?_)
 refine wpAny_bind (wpAny_updateSeq_pair o2 fun g3 o3 r3=> ?_)
 replace o3:IsPair g3 TO x b:=o3
 refine wpAny_bind (wpAny_letGo (wpAny_pure ?_))
 refine wpAny_bind (wpAny_bind (wpAny_onRaise ?_))
 show wpAny _ _ (Builtin.SmallTypes.nextOf (.ref i2)>>=_) _ _ _
 refine wpAny_bind (nextOf_tup (h2.at fun o e=>r3.extBut _ _ D.TOi2.symm (r2.extBut _ _ D.i12.symm (r1.extBut _ _ D.i2z e)))
  (hl2.at fun o e=>r3.extBut _ _ D.l2TO (r2.extBut _ _ D.l2i1 (r1.extBut _ _ D.l2z e))) hy fun g4 h24 r4=>wpAny_pure ?_)
 have o4:IsPair g4 TO x b:=r4.extBut _ _ D.TOi2 o3
 refine wpAny_bind (wpAny_seqItems o4 rfl ?_)
 refine wpAny_bind (wpAny_updateSeq_pair o4 fun g5 o5 r5=> ?_)
 replace o5:IsPair g5 TO x y:=o5
 refine wpAny_bind (wpAny_letGo (wpAny_pure (wpAny_pure ?_)))
 refine wpAny_bind (wpAny_seqItems o5 rfl ?_)
 refine wpAny_bind (wpAny_newTuple ?_)
 have hsz:g5.objs.size=s.heap.objs.size:=by rw[r5.1,r4.1,r3.1,r2.1,r1.1]
 have hz5:IsZip g5 z TI TO .ellipsis:=r5.extBut _ _ D.TOz.symm (r4.extBut _ _ D.i2z.symm (r3.extBut _ _ D.TOz.symm (r2.extBut _ _ D.i1z.symm hz1)))
 have hk5:∀c o,c≠z->c≠TO->c≠i1->c≠i2->s.heap.get? c=some o->g5.get? c=some o:=fun c o c1 c2 c3 c4 e=>
  r5.extBut _ _ c2 (r4.extBut _ _ c4 (r3.extBut _ _ c2 (r2.extBut _ _ c3 (r1.extBut _ _ c1 e))))
 have h15:g5.IsTupleIter i1 l1 (k+1):=h12.at fun o e=>r5.extBut _ _ D.TOi1.symm (r4.extBut _ _ D.i12 (r3.extBut _ _ D.TOi1.symm e))
 have h25:g5.IsTupleIter i2 l2 (k+1):=h24.at fun o e=>r5.extBut _ _ D.TOi2.symm e
 have hzlt:z<g5.objs.size:=yap hz5
 show wpAny _ _ (Builtin.SmallTypes.ownedTupleHandOut (.ref z) (.ref g5.objs.size)>>=_) _ _ _
 refine wpAny_bind ?_
 unfold Builtin.SmallTypes.ownedTupleHandOut
 have hz6:IsZip (g5.push {cls:= .type "tuple",data:= .seq #[x,y]}) z TI TO .ellipsis:=yab _ hz5
 refine wpAny_bind (wpAny_setField_rec hz6 (by simp) fun g7 hz7 r7=> ?_)
 replace hz7:IsZip g7 z TI TO (rawInt g5.objs.size):=hz7
 refine wpAny_setField_rec hz7 (by simp) fun g8 hz8 r8=> ?_
 replace hz8:IsZip g8 z TI TO (rawInt g5.objs.size):=hz8
 have up:∀c o,c≠z->g5.get? c=some o->g8.get? c=some o:=fun c o c1 e=>r8.extBut _ _ c1 (r7.extBut _ _ c1 (yab _ e))
 have hT8:IsPair g8 g5.objs.size x y:=r8.extBut _ _ (ycg hzlt) (r7.extBut _ _ (ycg hzlt) (yao _ rfl))
 have hs8:g8.objs.size=g5.objs.size+1:=by rw[r8.1,r7.1,ybu]
 rw[hsz]at hz8 hT8 hs8
 refine wpAny_pure ⟨_,rfl,wpAny_pure ?_⟩
 show Q (some (.ref g5.objs.size)) _
 rw[hsz]
 exact hQ g8 hz8 (up _ _ D.TOz o5) (h15.at fun o e=>up _ o D.i1z e) (h25.at fun o e=>up _ o D.i2z e) hT8 hs8 fun c o c1 c2 c3 c4 e=>up c o c1 (hk5 c o c1 c2 c3 c4 e)
theorem ztt_end{z TI TO i1 i2 l1 l2:Addr}{k:Nat}{xs:Array Value}{a b:Value}{Q:Option Value->Shared->Prop}(hh:A.handled=none)(D:ZipApart z TI TO i1 i2 l1 l2)(hz:IsZip s.heap z TI TO .none)(hTI:IsPair s.heap TI (.ref i1) (.ref i2))(hTO:IsPair s.heap TO a b)(h1:s.heap.IsTupleIter i1 l1 k)(hl1:s.heap.IsTuple l1 xs)(hx:xs[k]? =none)(hQ:∀h',(∀c o,c≠z->c≠TO->c≠i1->c≠i2->s.heap.get? c=some o->h'.get? c=some o)->Q none {s with heap:=h'}):wpAny (model prog w) A (pyNext (.ref z)) Q E s:=by
 have hT:s.TypeIs (.ref z) "zip":=⟨_,hz,rfl⟩
 unfold pyNext
 refine wpAny_bind (wpAny_attempt (wpAny_callSpecial?_slot (name:=Str.ofString "__next__") hT F.slot_zip_next (wpAny_call_entry F.slot_zip_next hT F.entry_zip_next ?_ (F.args_zip_next_1 _))))
 show wpAny _ _ (field (.ref z) 2>>=_) _ _ _
 refine wpAny_bind (wpAny_field hz rfl (x:= .bool false) rfl ?_)
 show wpAny _ _ (field (.ref z) 3>>=_) _ _ _
 refine wpAny_bind (wpAny_field hz rfl (x:= .ref TI) rfl ?_)
 refine wpAny_bind (wpAny_seqItems hTI rfl ?_)
 show wpAny _ _ (Builtin.SmallTypes.ownedTupleIsFree (.ref z)>>=_) _ _ _
 refine wpAny_bind ?_
 unfold Builtin.SmallTypes.ownedTupleIsFree
 refine wpAny_bind (wpAny_field hz rfl (x:= .none) rfl (wpAny_pure ?_))
 simp only[if_true]
 refine wpAny_bind (wpAny_rule ?_)
 refine wpAny_bind (wpAny_field hz rfl (x:= .ref TO) rfl ?_)
 refine wpAny_bind (wpAny_setField_rec hz (by simp) fun g1 hz1 r1=> ?_)
 replace hz1:IsZip g1 z TI TO .ellipsis:=hz1
 refine wpAny_bind ?_
 simp only[List.zipIdx_cons,List.zipIdx_nil,List.forIn_cons,List.forIn_nil]
 refine wpAny_bind (wpAny_bind (wpAny_onRaise ?_))
 show wpAny _ _ (Builtin.SmallTypes.nextOf (.ref i1)>>=_) _ _ _
 refine wpAny_bind (nextOf_tup_end hh (h1.at fun o e=>r1.extBut _ _ D.i1z e) (hl1.at fun o e=>r1.extBut _ _ D.l1z e) hx fun g2 e r2 he=> ?_)
 obtain⟨oe,hoe,hce⟩:=he
 have hz2:IsZip g2 z TI TO .ellipsis:=r2 _ _ D.i1z.symm hz1
 have hez:e≠z:=fun q=>by subst q;rw[hz2]at hoe;cases hoe;simp at hce
 refine wpAny_setField_rec hz2 (by simp) fun g3 _ r3=> ?_
 refine wpAny_bind (wpAny_isInstance (T:="StopIteration") (b:=true) ⟨oe,r3.extBut _ _ hez hoe,hce⟩ isSubtype_stop ?_)
 exact wpAny_pure (hQ _ fun c o c1 _ c3 _ q=>r3.extBut _ _ c1 (r2 _ _ c3 (r1.extBut _ _ c1 q)))
end
noncomputable def ztt1(h:Heap)(l1:Addr):Heap:=h.push {cls:= .type "tuple_iterator",data:= .fields #[.ref l1,.int 0 0]}
noncomputable def ztt2(h:Heap)(l1 l2:Addr):Heap:=(ztt1 h l1).push {cls:= .type "tuple_iterator",data:= .fields #[.ref l2,.int 0 0]}
noncomputable def ztt3(h:Heap)(l1 l2:Addr):Heap:=(ztt2 h l1 l2).push {cls:= .type "tuple",data:= .seq #[.ref h.objs.size,.ref (ztt1 h l1).objs.size]}
noncomputable def ztt4(h:Heap)(l1 l2:Addr):Heap:=(ztt3 h l1 l2).push {cls:= .type "tuple",data:= .seq #[.none,.none]}
noncomputable def ztt5(h:Heap)(l1 l2:Addr):Heap:=(ztt4 h l1 l2).push {cls:= .type "zip",data:= .fields #[.none,.bool false,.bool false,.ref (ztt2 h l1 l2).objs.size,.ref (ztt3 h l1 l2).objs.size]}
theorem meets_ztt_new(l1 l2:Addr)(xs ys:Array Value):
  Meets (Builtin.«zip.__new__» ⟨[.type "zip",.ref l1,.ref l2],[]⟩) (fun _ R s=>s.heap.IsTuple l1 xs/\s.heap.IsTuple l2 ys/\
   R (.ok (.ret (.ref (ztt4 s.heap l1 l2).objs.size))) {s with heap:=ztt5 s.heap l1 l2}):=
 .of_wp fun prog w A R s h=>by
  obtain⟨hp,g,d,tk,os⟩:=s;obtain⟨hl1,hl2,h⟩:=h
  have hsub:=sub_zip
  have hL1:Heap.IsTuple (Shared.heap ⟨hp,g,d,tk,os⟩) l1 xs:=hl1
  have hL2:Heap.IsTuple (Shared.heap ⟨hp.push {cls:= .type "tuple_iterator",data:= .fields #[.ref l1,.int 0 0]},g,d,tk,os⟩) l2 ys:=hl2.at fun o e=>yab _ e
  unfold ztt5 ztt4 ztt3 ztt2 ztt1 at h
  wp_walk using wpAny_pyIter_tuple hL1,wpAny_pyIter_tuple hL2
  exact⟨_,rfl,h⟩
section
variable{prog:Program}{w:World}{A:Around}{E:Value->Shared->Prop}{s:Shared}
theorem call_ztt{l1 l2:Addr}{xs ys:Array Value}{Q:Value->Shared->Prop}(hl1:s.heap.IsTuple l1 xs)(hl2:s.heap.IsTuple l2 ys)(h:∀h',IsZip h' (s.heap.objs.size+4) (s.heap.objs.size+2) (s.heap.objs.size+3) .none->IsPair h' (s.heap.objs.size+2) (.ref s.heap.objs.size) (.ref (s.heap.objs.size+1))->
   IsPair h' (s.heap.objs.size+3) .none .none->h'.IsTupleIter s.heap.objs.size l1 0->h'.IsTupleIter (s.heap.objs.size+1) l2 0->h'.objs.size=s.heap.objs.size+5->
   (∀c o,s.heap.get? c=some o->h'.get? c=some o)->Q (.ref (s.heap.objs.size+4)) {s with heap:=h'}):
  wpAny (model prog w) A (call (.type "zip") [.ref l1,.ref l2]) Q E s:=by
 refine callType_new F.called_zip (by decide) (F.typeCall_zip_2 _ _) (F.newCall_zip_2 _ _) (fun obj=>F.args_object_init_3 obj _ _) F.entry_zip_new (meets_ztt_new l1 l2 xs ys) ⟨hl1,hl2,?_⟩
 have z1:(ztt1 s.heap l1).objs.size=s.heap.objs.size+1:=ybu ..
 have z2:(ztt2 s.heap l1 l2).objs.size=s.heap.objs.size+2:=by rw[ztt2,ybu,z1]
 have z3:(ztt3 s.heap l1 l2).objs.size=s.heap.objs.size+3:=by rw[ztt3,ybu,z2]
 have z4:(ztt4 s.heap l1 l2).objs.size=s.heap.objs.size+4:=by rw[ztt4,ybu,z3]
 have z5:(ztt5 s.heap l1 l2).objs.size=s.heap.objs.size+5:=by rw[ztt5,ybu,z4]
 have g5:(ztt5 s.heap l1 l2).get? (ztt4 s.heap l1 l2).objs.size=some _:=yao _ rfl
 have g4:(ztt5 s.heap l1 l2).get? (ztt3 s.heap l1 l2).objs.size=some _:=yab _ (yao _ rfl)
 have g3:(ztt5 s.heap l1 l2).get? (ztt2 s.heap l1 l2).objs.size=some _:=yab _ (yab _ (yao _ rfl))
 have g2:(ztt5 s.heap l1 l2).get? (ztt1 s.heap l1).objs.size=some _:=yab _ (yab _ (yab _ (yao _ rfl)))
 have g1:(ztt5 s.heap l1 l2).get? s.heap.objs.size=some _:=yab _ (yab _ (yab _ (yab _ (yao _ rfl))))
 show _/\_
 rw[z2,z3,z4]at g5
 rw[z1,z2]at g3
 rw[z3]at g4
 rw[z1]at g2
 rw[z4]
 exact⟨⟨_,g5,rfl⟩,h _ g5 g3 g4 ⟨_,g1,rfl,rfl⟩ ⟨_,g2,rfl,rfl⟩ z5 fun c o x=>
  yab _ (yab _ (yab _ (yab _ (yab _ x))))⟩
end
end PySem
namespace L2
open PySem PySem.Spec PyProof.Rows
noncomputable def Itzt(K:W.Frag)(a b:Addr)(xs ys:List V):It:=
 ⟨fun i H=>(SqT K H a xs/\SqT K H b ys)/\i<xs.length,fun i H x H'=>∃t v u,x= .ref t/\H t=none/\H'=upd H t (.tup [v,u])/\xs[i]? =some v/\ys[i]? =some u,fun i H=>(SqT K H a xs/\SqT K H b ys)/\i=xs.length⟩
theorem turn_zipT{P:Program}{w:World}{K:W.Frag}{es:List Expr}{k:Nat}{pos:Pos}(a b z TI TO i1 i2:Addr)(xs ys:List V)(D:ZipApart z TI TO i1 i2 a b)(hlen:xs.length=ys.length):
  Turn P w K (.Tuple es k pos) (Itzt K a b xs ys) [z,TI,TO,i1,i2] z (fun i h=>IsZip h z TI TO .none/\IsPair h TI (.ref i1) (.ref i2)/\(∃p q,IsPair h TO p q)/\h.IsTupleIter i1 a i/\h.IsTupleIter i2 b i) where
 mem:=by simp
 obj:=fun i h st c hc=>by
  obtain⟨s1,s2,⟨p,q,s3⟩,⟨o4,e4,c4,d4⟩,⟨o5,e5,c5,d5⟩⟩:=st
  simp only[yam,List.not_mem_nil,or_false]at hc
  rcases hc with rfl|rfl|rfl|rfl|rfl
  ·exact⟨_,s1,fun v y=>by cases y⟩
  ·exact⟨_,s2,fun v y=>by cases y⟩
  ·exact⟨_,s3,fun v y=>by cases y⟩
  ·exact⟨o4,e4,fun v y=>by rw[d4]at y;cases y⟩
  ·exact⟨o5,e5,fun v y=>by rw[d5]at y;cases y⟩
 keep:=fun i h h' st k=>by
  obtain⟨s1,s2,⟨p,q,s3⟩,s4,s5⟩:=st
  exact⟨k z (by simp) _ s1,k TI (by simp) _ s2,⟨p,q,k TO (by simp) _ s3⟩,s4.at fun o e=>k i1 (by simp) o e,s5.at fun o e=>k i2 (by simp) o e⟩
 item:=by
  intro X hP hw hK hc i pins s σ H E I hf st hg
  subst hP hw hK
  obtain⟨⟨hq1,hq2⟩,hi⟩:=hg
  obtain⟨its1,rv1,p1,hz1⟩:=I.tuple hq1
  obtain⟨its2,rv2,p2,hz2⟩:=I.tuple hq2
  have pt2:s.heap.IsTuple b its2.toArray:=p2
  have hx:xs[i]? =some xs[i]:=yag hi
  have hi2:i<ys.length:=by omega
  have hy:ys[i]? =some ys[i]:=yag hi2
  obtain⟨u1,hu1,ru1⟩:=rv1.get hx
  obtain⟨u2,hu2,ru2⟩:=rv2.get hy
  obtain⟨s1,s2,⟨p,q,s3⟩,s4,s5⟩:=st
  have pt:s.heap.IsTuple a its1.toArray:=p1
  refine ztt_item D s1 s2 s3 s4 s5 pt pt2 (x:=u1) (y:=u2) (by simpa using hu1) (by simpa using hu2) fun h1 ho hTO hit1 hit2 hT hsz hk=>⟨_,rfl,?_⟩
  refine wpAny_letOwnedTupleGo_zip ho fun h2 hz2' hs2=> ?_
  have hs2':Heap.SameBut z h1 h2:=hs2
  have nT:∀c o,s.heap.get? c=some o->s.heap.objs.size≠c:=fun c o e y=>absurd (yap e) (by rw[<-y];exact ybd _)
  obtain⟨o4,e4,_⟩:=id s4
  obtain⟨o5,e5,_⟩:=id s5
  have keep:∀c o,c∉[z,TI,TO,i1,i2]->s.heap.get? c=some o->h2.get? c=some o:=fun c o hc q=>(hs2'.2 c fun y=>hc (by simp[y])).trans (hk c o (fun y=>hc (by simp[y])) (fun y=>hc (by simp[y])) (fun y=>hc (by simp[y])) (fun y=>hc (by simp[y])) q)
  have hT2:h2.get? s.heap.objs.size=some {cls:= .type "tuple",data:= .seq #[u1,u2]}:=(hs2'.2 _ (nT _ _ s1)).trans hT
  have I2:=I.turnsLaid (h':=h2) (t':=s.toks) (o:= .tup [xs[i],ys[i]]) keep hf (yac _) ⟨(by show 2<=sizeLine;decide),[u1,u2],.cons ru1 (.cons ru2 .nil),_,hT2,rfl,_,rfl⟩
  have k2:IsPair h2 TI (.ref i1) (.ref i2):=(hs2'.2 TI D.TIz).trans (hk TI _ D.TIz D.TITO D.TIi1 D.TIi2 s2)
  refine⟨.ref s.heap.objs.size,_,I2,rfl,⟨_,_,_,rfl,I.hok.fresh (yac _),rfl,hx,hy⟩,⟨hz2',k2,⟨_,_,(hs2'.2 TO D.TOz).trans hTO⟩,hit1.at fun o q=>(hs2'.2 i1 D.i1z).trans q,hit2.at fun o q=>(hs2'.2 i2 D.i2z).trans q⟩,fun c hc=> ?_⟩
  rw[zaj (fun y=> ?_)]
  ·exact(hf c hc).1
  ·simp only[yam,List.not_mem_nil,or_false]at hc
   rcases hc with h|h|h|h|h
   ·exact nT _ _ s1 (y.symm.trans h)
   ·exact nT _ _ s2 (y.symm.trans h)
   ·exact nT _ _ s3 (y.symm.trans h)
   ·exact nT _ _ e4 (y.symm.trans h)
   ·exact nT _ _ e5 (y.symm.trans h)
 done:=by
  intro X hP hw hK hc i pins s σ H E I hf st hg
  subst hP hw hK
  obtain⟨⟨hq1,hq2⟩,hi⟩:=hg
  obtain⟨its1,rv1,p1,hz1⟩:=I.tuple hq1
  have hl:=rv1.length
  obtain⟨s1,s2,⟨p,q,s3⟩,s4,s5⟩:=st
  have pt:s.heap.IsTuple a its1.toArray:=p1
  exact ztt_end (I.ok.hd hc) D s1 s2 s3 s4 pt (by simp;omega) fun h' eb=>⟨rfl,I.turns (t':=s.toks) (fp:=[z,TI,TO,i1,i2]) (fun c o hc q=>eb c o (fun y=>hc (by simp[y])) (fun y=>hc (by simp[y])) (fun y=>hc (by simp[y])) (fun y=>hc (by simp[y])) q) hf⟩
 self:=fun _ _ _ _ _ st h=>wpAny_pyIter_zip st.1 h
section
variable{X:Cx}{es:List Expr}{k:Nat}{pos0:Pos}
noncomputable def iZipT(K:W.Frag)(ta:TA):TI:=fun σ H R=>ta σ H fun vs H1=>∃(a b:Addr) (xs ys:List V),vs=[.ref a,.ref b]/\SqT K H1 a xs/\SqT K H1 b ys/\xs.length=ys.length/\(xs.length<=sizeLine->R (Itzt K a b xs ys) H1)
theorem pi_zipT{a b:Expr}{ta:TA}{p pos:Pos}(hg:Gl X "zip")(hm:X.mg "zip"=none)(ha:PA X [a,b] ta)(hs:starEach [a,b] X.env=[(false,eval a X.env),(false,eval b X.env)]:=by rfl)(hs3:starEach [b] X.env=[(false,eval b X.env)]:=by rfl):
  PI X (.Tuple es k pos0) (.Call (.Name "zip" p) [a,b] [] pos) (iZipT X.K ta):=by
 intro pins s σ H R I h
 refine Call_ (zcz I hg hm (show bootBuiltins "zip"=some (.type "zip")from by decide+kernel) (PyProof.Rows.callWith_type1 (thn (ha pos pins s σ H _ I h) fun us s1 ⟨vs,H1,I1,r1,q1⟩=> ?_) (by rw[hs,hs3]) (by rw[hs3];rfl)))
 obtain⟨l1,l2,xs,ys,e,hq1,hq2,hlen,q⟩:=q1
 subst e
 cases r1 with
 |cons r rr=>
  cases rr with
  |cons r' rr'=>
  cases rr'
  cases r
  cases r'
  obtain⟨its1,rv1,p1,hz1⟩:=I1.tuple hq1
  obtain⟨its2,rv2,p2,hz2⟩:=I1.tuple hq2
  have pt2:s1.heap.IsTuple l2 its2.toArray:=p2
  have pt:s1.heap.IsTuple l1 its1.toArray:=p1
  have a1:l1<s1.heap.objs.size:=by obtain⟨_,e,_⟩:=id pt;exact yap e
  have a2:l2<s1.heap.objs.size:=by obtain⟨_,e,_⟩:=id pt2;exact yap e
  refine call_ztt pt pt2 fun h' hz hTI hTO hi1 hi2 hsz hk=> ?_
  refine wpAny_pyIter_zip hz ?_
  have I2:Inv X pins σ H1 {s1 with heap:=h'}:=I1.kept (t':=s1.toks) hk
  refine⟨s1.heap.objs.size+4,[s1.heap.objs.size+4,s1.heap.objs.size+2,s1.heap.objs.size+3,s1.heap.objs.size,s1.heap.objs.size+1],_,_,H1,rfl,I2,turn_zipT l1 l2 _ _ _ _ _ xs ys (zipApart_new a1 a2) hlen,⟨hz,hTI,⟨_,_,hTO⟩,hi1,hi2⟩,fun c hc=> ?_,q hz1⟩
  have hle:s1.heap.objs.size<=c:=by
   simp only[yam,List.not_mem_nil,or_false]at hc
   rcases hc with h|h|h|h|h
   ·rw[h];exact ydw _ _
   ·rw[h];exact ydw _ _
   ·rw[h];exact ydw _ _
   ·rw[h];exact yac _
   ·rw[h];exact ydw _ _
  exact I1.fpOk hle (I1.hok.fresh hle)
end
section
variable{ini:St}{H:Hp}{g:TG}{tc:TT}{te:TE}{Fin:List V->Hp->Prop}{K:W.Frag}{a b:Addr}{xs ys:List V}
theorem comp_zipT(Pv:Nat->List V->St->Hp->Prop)(h0:Pv 0 [] ini H)(hl:∀(i:Nat) acc σ H,i<=xs.length->Pv i acc σ H->SqT K H a xs/\SqT K H b ys)(hlen:xs.length=ys.length)(hz:∀(i:Nat) acc σ H,i<=xs.length->Pv i acc σ H->acc.length<=i)(hx:xs.length<=sizeLine)(hs:∀(i:Nat) v u t acc σ H,xs[i]? =some v->ys[i]? =some u->Pv i acc σ H->H t=none->g (.ref t) σ (upd H t (.tup [v,u])) fun σ2 H2=>tc σ2 H2 fun b H3=>if b=true then te σ2 H3 fun v H4=>Pv (i+1) (acc++[v]) σ2 H4 else Pv (i+1) acc σ2 H3)(hd:∀acc σ H,Pv xs.length acc σ H->Fin acc H):CompW (Itzt K a b xs ys) ini H g tc te Fin:=by
 refine⟨fun i m acc σ H=>m=xs.length-i/\i<=xs.length/\Pv i acc σ H,⟨xs.length,by simp,yaw _,h0⟩,?_⟩
 rintro i m acc σ H ⟨rfl,hi,p⟩
 have q:=hl i acc σ H hi p
 have z:=hz i acc σ H hi p
 by_cases hlt:i<xs.length
 ·refine .inr ⟨⟨q,hlt⟩,by omega,fun acc σ H=>Pv (i+1) acc σ H,fun acc' σ' H' r=>⟨_,by omega,rfl,hlt,r⟩,fun x H' y=> ?_⟩
  obtain⟨t,v,u,rfl,ht,rfl,hv,hu⟩:=y
  exact hs i v u t acc σ H hv hu p ht
 ·have e:i=xs.length:=by omega
  subst e
  exact .inl ⟨⟨q,rfl⟩,by omega,hd acc σ H p⟩
end
end L2
namespace HT
open PySem PyProof.Rows
section
open PySem.SeqAt
open PySem.AutoSeq1 (wpAny_loadPart')
open PySem.MeetsSeq PySem.MeetsSeq2 PySem.MeetsSeq3
end
section
variable{prog:Program}{w:World}{A:Around}{E:Value->Shared->Prop}{s:Shared}
end
end HT
namespace L2
open PySem PySem.Spec PyProof.Rows
section
variable{X:Cx}
end
end L2
namespace Sx
noncomputable abbrev Vec:=Nat->Int
noncomputable abbrev Mat:=Nat->Vec
noncomputable def sm:Nat->(Nat->Int)->Int
 |0,_=>0
 |k+1,f=>sm k f+f k
theorem sm_congr{f g:Nat->Int}:∀k,(∀i,i<k->f i=g i)->sm k f=sm k g
 |0,_=>rfl
 |k+1,h=>by
  show sm k f+f k=sm k g+g k
  rw[sm_congr k fun i hi=>h i (yaz hi),h k (yba k)]
theorem sm_add(f g:Nat->Int):∀k,sm k (fun i=>f i+g i)=sm k f+sm k g
 |0=>rfl
 |k+1=>by
  show sm k (fun i=>f i+g i)+(f k+g k)=sm k f+f k+(sm k g+g k)
  rw[sm_add f g k];omega
theorem sm_mul(a:Int)(f:Nat->Int):∀k,sm k (fun i=>a*f i)=a*sm k f
 |0=>by show(0:Int)=a*0;rw[yca]
 |k+1=>by
  show sm k (fun i=>a*f i)+a*f k=a*(sm k f+f k)
  rw[sm_mul a f k,Int.mul_add]
theorem sm_zero{f:Nat->Int}:∀k,(∀i,i<k->f i=0)->sm k f=0
 |0,_=>rfl
 |k+1,h=>by
  show sm k f+f k=0
  rw[sm_zero k fun i hi=>h i (yaz hi),h k (yba k)];rfl
theorem sm_one{f:Nat->Int}{j:Nat}:∀k,j<k->(∀i,i<k->i≠j->f i=0)->sm k f=f j
 |k+1,hj,h=>by
  show sm k f+f k=f j
  by_cases e:j=k
  ·subst e
   rw[sm_zero j fun i hi=>h i (yaz hi) (yau hi),Int.zero_add]
  ·rw[sm_one k (by omega) fun i hi=>h i (yaz hi),h k (yba k) (Ne.symm e),Int.add_zero]
theorem sm_two{f:Nat->Int}{j:Nat}:∀k,j+1<k->(∀i,i<k->i≠j->i≠j+1->f i=0)->f j+f (j+1)=0->sm k f=0
 |k+1,hj,h,z=>by
  show sm k f+f k=0
  by_cases e:j+1=k
  ·subst e
   rw[sm_one (j:=j) (j+1) (yba _) fun i hi hn=>h i (yaz hi) hn (yau hi)]
   exact z
  ·rw[sm_two k (by omega) (fun i hi=>h i (yaz hi)) z,h k (yba k) (by omega) (Ne.symm e)];rfl
theorem sm_swap(f:Nat->Nat->Int)(m:Nat):∀k,sm k (fun i=>sm m (fun j=>f i j))=sm m (fun j=>sm k (fun i=>f i j))
 |0=>by show(0:Int)=sm m fun _=>0;rw[sm_zero m fun _ _=>rfl]
 |k+1=>by
  show sm k (fun i=>sm m (fun j=>f i j))+sm m (fun j=>f k j)=sm m (fun j=>sm k (fun i=>f i j)+f k j)
  rw[sm_swap f m k,sm_add]
theorem sm_nn{f:Nat->Int}:∀k,(∀i,i<k->0<=f i)->0<=sm k f
 |0,_=>ybt _
 |k+1,h=>Int.add_nonneg (sm_nn k fun i hi=>h i (yaz hi)) (h k (yba k))
theorem sm_neg{f:Nat->Int}:∀k,sm k f<0->∃i,i<k/\f i<0
 |0,h=>absurd h (Int.lt_irrefl 0)
 |k+1,h=>by
  by_cases c:f k<0
  ·exact⟨k,yba k,c⟩
  ·have h':sm k f+f k<0:=h
   obtain⟨i,hi,hf⟩:=sm_neg k (f:=f) (by omega)
   exact⟨i,yaz hi,hf⟩
theorem sm_none{f:Nat->Int}:∀k,(∀i,i<k->0<=f i)->sm k f<=0->∀i,i<k->f i=0
 |0,_,_,i,hi=>absurd hi (ydn i)
 |k+1,h,z,i,hi=>by
  have h1:=sm_nn k fun i hi=>h i (yaz hi)
  have h2:=h k (yba k)
  have z':sm k f+f k<=0:=z
  by_cases e:i=k
  ·subst e;omega
  ·exact sm_none k (fun i hi=>h i (yaz hi)) (by omega) i (by omega)
noncomputable def sg(i:Nat):Int:=if i %2=0 then 1 else -1
theorem sg_succ(i:Nat):sg (i+1)= -sg i:=by
 unfold sg
 rcases Nat.mod_two_eq_zero_or_one i with h|h
 ·rw[if_pos h,if_neg (by omega)]
 ·rw[if_pos (by omega),if_neg (by omega)];rfl
theorem sg_abs(i:Nat):sg i=1\/sg i= -1:=by unfold sg;split;exact .inl rfl;exact .inr rfl
noncomputable def skp(i r:Nat):Nat:=if r<i then r else r+1
noncomputable def uns(i r:Nat):Nat:=if r<i then r else r-1
theorem skp_ne(i r:Nat):skp i r≠i:=by unfold skp;split<;>omega
theorem skp_iff{i r j:Nat}(h:j≠i):skp i r=j↔r=uns i j:=by unfold skp uns;split<;>split<;>omega
theorem skp_lt{i r k:Nat}(hi:i<k+1)(hr:r<k):skp i r<k+1:=by unfold skp;split<;>omega
theorem uns_lt{i j k:Nat}(h:j≠i)(hi:i<k+1)(hj:j<k+1):uns i j<k:=by unfold uns;split<;>omega
noncomputable def mnr(M:Mat)(i:Nat):Mat:=fun r c=>M (skp i r) (c+1)
noncomputable def det:Nat->Mat->Int
 |0,_=>1
 |k+1,M=>sm (k+1) fun i=>sg i*M i 0*det k (mnr M i)
noncomputable def put(M:Mat)(r:Nat)(v:Vec):Mat:=fun i=>if i=r then v else M i
theorem put_same(M:Mat)(r:Nat)(v:Vec):put M r v r=v:=by unfold put;rw[if_pos rfl]
theorem put_ne(M:Mat){r i:Nat}(v:Vec)(h:i≠r):put M r v i=M i:=by unfold put;rw[if_neg h]
theorem put_self(M:Mat)(r:Nat):put M r (M r)=M:=by funext i;unfold put;split;rename_i h;rw[h];rfl
theorem put_comm(M:Mat){r t:Nat}(u v:Vec)(h:r≠t):put (put M r u) t v=put (put M t v) r u:=by
 funext i;unfold put
 by_cases h1:i=t
 ·by_cases h2:i=r
  ·exact absurd (h2.symm.trans h1) h
  ·rw[if_pos h1,if_neg h2,if_pos h1]
 ·rw[if_neg h1]
  by_cases h2:i=r
  ·rw[if_pos h2,if_pos h2]
  ·rw[if_neg h2,if_neg h2,if_neg h1]
theorem mnr_put_same(M:Mat)(i:Nat)(v:Vec):mnr (put M i v) i=mnr M i:=by
 funext r c;unfold mnr;rw[put_ne _ _ (skp_ne i r)]
theorem mnr_put(M:Mat){i j:Nat}(v:Vec)(h:j≠i):mnr (put M j v) i=put (mnr M i) (uns i j) (fun c=>v (c+1)):=by
 funext r c
 unfold mnr put
 by_cases e:r=uns i j
 ·rw[if_pos e,if_pos ((skp_iff h).mpr e)]
 ·rw[if_neg e,if_neg fun z=>e ((skp_iff h).mp z)]
theorem det_congr:∀k {M N:Mat},(∀i,i<k->∀j,j<k->M i j=N i j)->det k M=det k N
 |0,_,_,_=>rfl
 |k+1,M,N,h=>sm_congr (k+1) fun i hi=>by
  rw[h i hi 0 (ybz k),det_congr k (M:=mnr M i) (N:=mnr N i) fun r hr c hc=>h _ (skp_lt hi hr) _ (Nat.succ_lt_succ hc)]
theorem det_lin:∀k (M:Mat) (r:Nat) (a b:Int) (u v:Vec),r<k->det k (put M r fun c=>a*u c+b*v c)=a*det k (put M r u)+b*det k (put M r v)
 |k+1,M,r,a,b,u,v,hr=>by
  unfold det
  rw[<-sm_mul,<-sm_mul,<-sm_add]
  refine sm_congr (k+1) fun i hi=> ?_
  by_cases e:r=i
  ·subst e
   rw[mnr_put_same,mnr_put_same,mnr_put_same,put_same,put_same,put_same]
   grind
  ·rw[mnr_put _ _ e,mnr_put _ _ e,mnr_put _ _ e,put_ne _ _ (Ne.symm e),put_ne _ _ (Ne.symm e),put_ne _ _ (Ne.symm e),det_lin k (mnr M i) (uns i r) a b (fun c=>u (c+1)) (fun c=>v (c+1)) (uns_lt e hi hr)]
   grind
theorem det_adj:∀k (M:Mat) (r:Nat),r+1<k->M r=M (r+1)->det k M=0
 |k+1,M,r,hr,e=>by
  unfold det
  refine sm_two (j:=r) (k+1) hr (fun i hi h1 h2=> ?_) ?_
  ·have z:det k (mnr M i)=0:=by
    by_cases c:i<r
    ·refine det_adj k (mnr M i) (r-1) (by omega) ?_
     funext x;unfold mnr skp
     rw[if_neg (by omega),if_neg (by omega),show r-1+1=r by omega,e]
    ·refine det_adj k (mnr M i) r (by omega) ?_
     funext x;unfold mnr skp
     rw[if_pos (by omega),if_pos (by omega),e]
   rw[z,yca]
  ·have z:mnr M r=mnr M (r+1):=by
    funext x c;unfold mnr skp
    by_cases h1:x<r
    ·rw[if_pos h1,if_pos (by omega)]
    ·rw[if_neg h1]
     by_cases h2:x=r
     ·subst h2;rw[if_pos (by omega),e]
     ·rw[if_neg (by omega)]
   rw[z,e,sg_succ]
   grind
theorem det_flip(k:Nat)(M:Mat)(t:Nat)(u v:Vec)(h:t+1<k):det k (put (put M t u) (t+1) v)= -det k (put (put M t v) (t+1) u):=by
 have n1:t≠t+1:=by omega
 have z:∀w:Vec,det k (put (put M t w) (t+1) w)=0:=fun w=>det_adj k _ t h (by rw[put_ne _ _ n1,put_same,put_same])
 have lin1:∀(N:Mat) (r:Nat) (a b:Vec),r<k->det k (put N r fun c=>a c+b c)=det k (put N r a)+det k (put N r b):=fun N r a b hr=>by
  have:=det_lin k N r 1 1 a b hr
  simp only[ycv]at this
  exact this
 have z1:=z fun c=>u c+v c
 rw[lin1 _ (t+1) u v h,put_comm M _ _ n1,put_comm M _ _ n1,lin1 _ t u v (by omega),lin1 _ t u v (by omega),<-put_comm M _ _ n1,<-put_comm M _ _ n1,<-put_comm M _ _ n1,<-put_comm M _ _ n1,z u,z v]at z1
 omega
theorem det_alike:∀(d k:Nat) (M:Mat) (r:Nat),r+d+1<k->M r=M (r+d+1)->det k M=0
 |0,k,M,r,h,e=>det_adj k M r h e
 |d+1,k,M,r,h,e=>by
  have f:=det_flip k M (r+d+1) (M (r+d+1)) (M (r+d+1+1)) h
  rw[put_self,put_self]at f
  rw[f,det_alike d k _ r (by omega) (by rw[put_ne _ _ (by omega),put_ne _ _ (by omega),put_ne _ _ (by omega),put_same,e];rfl)]
  rfl
theorem det_same{k:Nat}{M:Mat}{r t:Nat}(hr:r<k)(ht:t<k)(h:r≠t)(e:M r=M t):det k M=0:=by
 by_cases c:r<t
 ·exact det_alike (t-r-1) k M r (by omega) (by rw[e];congr 1;omega)
 ·exact det_alike (r-t-1) k M t (by omega) (by rw[<-e];congr 1;omega)
theorem det_unit:∀k (M:Mat),(∀i,i<k->∀j,j<k->M i j=if i=j then 1 else 0)->det k M=1
 |0,_,_=>rfl
 |k+1,M,h=>by
  unfold det
  rw[sm_one (j:=0) (k+1) (ybz k) fun i hi hn=>by rw[h i hi 0 (ybz k),if_neg hn];grind]
  rw[h 0 (ybz k) 0 (ybz k),if_pos rfl,det_unit k (mnr M 0) fun i hi j hj=> ?_]
  ·rfl
  ·unfold mnr skp
   rw[if_neg (by omega),h _ (by omega) _ (by omega)]
   by_cases e:i=j
   ·rw[if_pos e,if_pos (by omega)]
   ·rw[if_neg e,if_neg (by omega)]
noncomputable def fct:Nat->Int
 |0=>1
 |k+1=>(k+1:Int)*fct k
theorem sm_abs{f:Nat->Int}{b:Int}:∀k,(∀i,i<k-> -b<=f i/\f i<=b)-> -((k:Int)*b)<=sm k f/\sm k f<=(k:Int)*b
 |0,_=>by
  show -((0:Int)*b)<=0/\(0:Int)<=0*b
  omega
 |k+1,h=>by
  have ih:=sm_abs k fun i hi=>h i (yaz hi)
  have hk:=h k (yba k)
  show -((k+1:Nat)*b)<=sm k f+f k/\sm k f+f k<=(k+1:Nat)*b
  rw[show(((k+1:Nat):Int))*b=(k:Int)*b+b by rw[Int.natCast_succ,Int.add_mul,ycv]]
  omega
theorem mul_abs{x y a b:Int}(hx: -a<=x/\x<=a)(hy: -b<=y/\y<=b): -(a*b)<=x*y/\x*y<=a*b:=by
 have h1:0<=(a-x)*(b-y):=yby (by omega) (by omega)
 have h2:0<=(a+x)*(b+y):=yby (by omega) (by omega)
 have h3:0<=(a-x)*(b+y):=yby (by omega) (by omega)
 have h4:0<=(a+x)*(b-y):=yby (by omega) (by omega)
 constructor<;>grind
theorem det_abs:∀k (M:Mat) (c:Nat) (B:Int),1<=B->(∀i,i<k->∀j,j<k->i≠c-> -1<=M i j/\M i j<=1)->(∀j,j<k->c<k-> -B<=M c j/\M c j<=B)-> -(fct k*B)<=det k M/\det k M<=fct k*B
 |0,M,c,B,hB,_,_=>by
  show -(1*B)<=1/\(1:Int)<=1*B
  omega
 |k+1,M,c,B,hB,h1,h2=>by
  unfold det
  have e:fct (k+1)*B=((k+1:Nat):Int)*(fct k*B):=by show((k:Int)+1)*fct k*B=_;rw[yej];rfl
  rw[e]
  refine sm_abs (k+1) fun i hi=> ?_
  have hs:∀x y:Int, -y<=x/\x<=y-> -y<=sg i*x/\sg i*x<=y:=fun x y h=>by
   rcases sg_abs i with s|s
   ·rw[s,ycv];exact h
   ·rw[s];omega
  rw[yej]
  refine hs _ _ ?_
  by_cases ci:i=c
  ·subst ci
   have a:=det_abs k (mnr M i) k 1 (by decide) (fun r hr x hx _=>h1 _ (skp_lt hi hr) _ (by omega) (skp_ne i r)) (fun x hx hk=>absurd hk (ybd k))
   have b:=h2 0 (ybz k) hi
   rw[Int.mul_one]at a
   have:=mul_abs b a
   rw[ycp (fct k) B]
   exact this
  ·have a:=det_abs k (mnr M i) (uns i c) B hB (fun r hr x hx hn=>h1 _ (skp_lt hi hr) _ (by omega) fun z=>hn ((skp_iff (Ne.symm ci)).mp z)) (fun x hx hk=>by
    have hc:skp i (uns i c)=c:=(skp_iff (Ne.symm ci)).mpr rfl
    have hlt:c<k+1:=by unfold uns at hk;split at hk<;>omega
    have:=h2 (x+1) (by omega) hlt
    unfold mnr
    rw[hc];exact this)
   have b:=h1 i hi 0 (ybz k) ci
   have:=mul_abs b a
   rw[ycv]at this
   exact this
end Sx
namespace Sx
structure Tab where
 col:Nat->Nat
 row:Nat->Nat
 cell:Nat->Nat->Int
 over:Int
 s:Int
noncomputable def one:Vec:=fun j=>if j=0 then 1 else 0
section
variable(n m:Nat)(S:Nat->Nat->Bool)(w:Nat->Int)
noncomputable def nv(a:Nat):Vec:=fun j=>if a<n then(if j=a+1 then 1 else 0)else(if j=0 then 1 else if S (a-n) (j-1)=true then -1 else 0)
noncomputable def zv:Vec:=fun j=>if j=0 then 0 else w (j-1)
noncomputable def rv(T:Tab)(r:Nat):Vec:=if r<m then nv n S (T.row r)else zv w
noncomputable def bas(T:Tab):Mat:=fun i=>if i=0 then one else nv n S (T.col (i-1))
noncomputable def Fn(T:Tab)(c:Nat)(v:Vec):Int:=T.s*det (n+1) (put (bas n S T) c v)
structure Good(T:Tab):Prop where
 pos:0<T.over
 eq:∀r,r<=m->∀j,j<=n->T.over*rv n m S w T r j=T.cell r n*one j-sm n (fun c=>T.cell r c*nv n S (T.col c) j)
 sg:T.s=1\/T.s= -1
 dt:T.over=T.s*det (n+1) (bas n S T)
 cinj:∀c c',c<n->c'<n->T.col c=T.col c'->c=c'
 rinj:∀r r',r<m->r'<m->T.row r=T.row r'->r=r'
 dis:∀c r,c<n->r<m->T.col c≠T.row r
 clt:∀c,c<n->T.col c<n+m
 rlt:∀r,r<m->T.row r<n+m
 all:∀a,a<n+m->(∃c,c<n/\T.col c=a)\/∃r,r<m/\T.row r=a
 fea:∀r,r<m->0<=T.cell r n
end
section
variable{n m:Nat}{S:Nat->Nat->Bool}{w:Nat->Int}{T:Tab}
theorem rv_row{r:Nat}(h:r<m):rv n m S w T r=nv n S (T.row r):=if_pos h
theorem rv_last:rv n m S w T m=zv w:=if_neg (ybd m)
theorem bas_zero:bas n S T 0=one:=rfl
theorem bas_col(c:Nat):bas n S T (c+1)=nv n S (T.col c):=by unfold bas;rw[if_neg (ybm c)];rfl
theorem Fn_lin{c:Nat}(hc:c<=n)(a b:Int)(u v:Vec):Fn n S T c (fun j=>a*u j+b*v j)=a*Fn n S T c u+b*Fn n S T c v:=by
 unfold Fn;rw[det_lin (n+1) (bas n S T) c a b u v (by omega)];grind
theorem zcp{c:Nat}{u v:Vec}(h:∀j,j<=n->u j=v j):Fn n S T c u=Fn n S T c v:=by
 unfold Fn
 rw[det_congr (n+1) (M:=put (bas n S T) c u) (N:=put (bas n S T) c v) fun i _ j hj=> ?_]
 unfold put
 split
 ·exact h j (by omega)
 ·rfl
theorem Fn_sum{c:Nat}(hc:c<=n)(x:Int)(a:Vec)(y:Nat->Int)(W:Nat->Vec):∀k,Fn n S T c (fun j=>x*a j-sm k (fun i=>y i*W i j))=x*Fn n S T c a-sm k (fun i=>y i*Fn n S T c (W i))
 |0=>by
  have h:=Fn_lin (T:=T) (S:=S) hc x 0 a a
  rw[zcp (v:=fun j=>x*a j+0*a j) fun j _=>by show x*a j-0=_;omega,h]
  show _=_-0
  omega
 |k+1=>by
  have h:=Fn_lin (T:=T) (S:=S) hc 1 (-(y k)) (fun j=>x*a j-sm k (fun i=>y i*W i j)) (W k)
  rw[zcp (v:=fun j=>1*(x*a j-sm k (fun i=>y i*W i j))+ -(y k)*W k j) fun j _=>by show x*a j-(sm k _+y k*W k j)=_;grind,h,Fn_sum hc x a y W k]
  show _=x*Fn n S T c a-(sm k _+y k*Fn n S T c (W k))
  grind
theorem Fn_smul{c:Nat}(hc:c<=n)(a:Int)(u:Vec):Fn n S T c (fun j=>a*u j)=a*Fn n S T c u:=by
 have h:=Fn_lin (T:=T) (S:=S) hc a 0 u u
 rw[zcp (v:=fun j=>a*u j+0*u j) fun j _=>by omega,h];omega
theorem Fn_at(g:T.over=T.s*det (n+1) (bas n S T)){c i:Nat}(hc:c<=n)(hi:i<=n):Fn n S T c (bas n S T i)=if i=c then T.over else 0:=by
 unfold Fn
 by_cases e:i=c
 ·subst e;rw[if_pos rfl,put_self,<-g]
 ·rw[if_neg e,det_same (r:=c) (t:=i) (by omega) (by omega) (Ne.symm e) (by rw[put_same,put_ne _ _ e]),yca]
theorem Fn_one(g:T.over=T.s*det (n+1) (bas n S T)){c:Nat}(hc:c<=n):Fn n S T c one=if c=0 then T.over else 0:=by
 have:=Fn_at g hc (yaw n)
 rw[bas_zero]at this
 rw[this]
 by_cases e:c=0
 ·rw[if_pos e,if_pos e.symm]
 ·rw[if_neg e,if_neg (Ne.symm e)]
theorem zcy(g:T.over=T.s*det (n+1) (bas n S T)){c i:Nat}(hc:c<=n)(hi:i<n):Fn n S T c (nv n S (T.col i))=if i+1=c then T.over else 0:=by
 have:=Fn_at g hc (show i+1<=n by omega)
 rw[bas_col]at this
 exact this
theorem zbw{a x y:Int}(h:0<a)(e:a*x=a*y):x=y:=yef (by omega) e
theorem Good.base(G:Good n m S w T){r:Nat}(hr:r<=m):Fn n S T 0 (rv n m S w T r)=T.cell r n:=by
 have h1:=Fn_smul (T:=T) (S:=S) (c:=0) (yaw n) T.over (rv n m S w T r)
 rw[zcp fun j hj=>G.eq r hr j hj,Fn_sum (yaw n) _ _ (T.cell r) (fun c=>nv n S (T.col c)),Fn_one G.dt (yaw n),if_pos rfl,sm_zero n fun c hc=>by rw[zcy G.dt (yaw n) hc,if_neg (ybm c),yca]]at h1
 refine zbw G.pos ?_
 rw[<-h1,ycp];omega
theorem Good.dir(G:Good n m S w T){r c:Nat}(hr:r<=m)(hc:c<n):Fn n S T (c+1) (rv n m S w T r)= -T.cell r c:=by
 have h1:=Fn_smul (T:=T) (S:=S) (c:=c+1) hc T.over (rv n m S w T r)
 rw[zcp fun j hj=>G.eq r hr j hj,Fn_sum hc _ _ (T.cell r) (fun c=>nv n S (T.col c)),Fn_one G.dt hc,if_neg (ybm c),sm_one (j:=c) n hc fun i hi hn=>by rw[zcy G.dt hc hi,if_neg (by omega),yca],zcy G.dt hc hc,if_pos rfl]at h1
 refine zbw G.pos ?_
 rw[<-h1];grind
noncomputable def turn(T:Tab)(p q:Nat):Tab where
 col:=fun c=>if c=q then T.row p else T.col c
 row:=fun r=>if r=p then T.col q else T.row r
 over:=T.cell p q
 s:= -T.s
 cell:=fun r c=>if r=p then(if c=q then T.over else T.cell p c)else if c=q then -T.cell r q else(T.cell r c*T.cell p q-T.cell r q*T.cell p c)/T.over
theorem turn_bas{p q:Nat}:bas n S (turn T p q)=put (bas n S T) (q+1) (nv n S (T.row p)):=by
 funext i
 unfold bas put turn
 dsimp only
 by_cases h0:i=0
 ·rw[if_pos h0,if_neg (by omega),if_pos h0]
 ·rw[if_neg h0]
  by_cases h1:i=q+1
  ·rw[if_pos h1,if_pos (by omega)]
  ·rw[if_neg h1,if_neg (by omega),if_neg h0]
theorem turn_rv{p q r:Nat}(h:r≠p):rv n m S w (turn T p q) r=rv n m S w T r:=by
 unfold rv turn
 dsimp only
 rw[if_neg h]
theorem Good.turned_dt(G:Good n m S w T){p q:Nat}(hp:p<m)(hq:q<n):(turn T p q).over=(turn T p q).s*det (n+1) (bas n S (turn T p q)):=by
 have h:=G.dir (r:=p) (yas hp) hq
 rw[rv_row hp]at h
 unfold Fn at h
 rw[turn_bas]
 show T.cell p q= -T.s*_
 grind
theorem Good.exact(G:Good n m S w T){p q r c:Nat}(hp:p<m)(hq:q<n)(hb:0<T.cell p q)(hr:r<=m)(hrp:r≠p)(hc:c<=n)(hcq:c≠q):
  T.over*(turn T p q).cell r c=T.cell r c*T.cell p q-T.cell r q*T.cell p c:=by
 have g':=G.turned_dt hp hq
 have num0:∀j,j<=n->T.cell p q*T.over*rv n m S w T r j=(T.cell r n*T.cell p q-T.cell r q*T.cell p n)*one j-sm n (fun c=>(T.cell r c*T.cell p q-T.cell r q*T.cell p c)*nv n S (T.col c) j)+T.over*T.cell r q*nv n S (T.row p) j:=fun j hj=>by
  have e1:=G.eq r hr j hj
  have e2:=G.eq p (yas hp) j hj
  rw[rv_row hp]at e2
  have e3:sm n (fun c=>(T.cell r c*T.cell p q-T.cell r q*T.cell p c)*nv n S (T.col c) j)=T.cell p q*sm n (fun c=>T.cell r c*nv n S (T.col c) j)+ -(T.cell r q)*sm n (fun c=>T.cell p c*nv n S (T.col c) j):=by
   rw[<-sm_mul,<-sm_mul,<-sm_add]
   exact sm_congr n fun c _=>by grind
  rw[e3]
  generalize sm n (fun c=>T.cell r c*nv n S (T.col c) j)=A at *
  generalize sm n (fun c=>T.cell p c*nv n S (T.col c) j)=B at *
  grind
 have app:∀d,d<=n->T.cell p q*T.over*Fn n S (turn T p q) d (rv n m S w T r)=(T.cell r n*T.cell p q-T.cell r q*T.cell p n)*Fn n S (turn T p q) d one-sm n (fun c=>(T.cell r c*T.cell p q-T.cell r q*T.cell p c)*Fn n S (turn T p q) d (nv n S (T.col c)))+T.over*T.cell r q*Fn n S (turn T p q) d (nv n S (T.row p)):=fun d hd=>by
  rw[<-Fn_smul hd,zcp num0,<-Fn_sum hd _ _ (fun c=>T.cell r c*T.cell p q-T.cell r q*T.cell p c) (fun c=>nv n S (T.col c))]
  have h:=Fn_lin (T:=turn T p q) (S:=S) hd 1 (T.over*T.cell r q) (fun j=>(T.cell r n*T.cell p q-T.cell r q*T.cell p n)*one j-sm n (fun c=>(T.cell r c*T.cell p q-T.cell r q*T.cell p c)*nv n S (T.col c) j)) (nv n S (T.row p))
  simp only[ycv]at h
  exact h
 have colq:nv n S ((turn T p q).col q)=nv n S (T.row p):=by unfold turn;dsimp only;rw[if_pos rfl]
 have coln:∀c,c≠q->nv n S ((turn T p q).col c)=nv n S (T.col c):=fun c h=>by unfold turn;dsimp only;rw[if_neg h]
 have ov:(turn T p q).over=T.cell p q:=rfl
 have key:∃x,T.cell r c*T.cell p q-T.cell r q*T.cell p c=T.over*x:=by
  by_cases hl:c=n
  ·subst hl
   have h:=app 0 (yaw _)
   have f1:=Fn_one g' (yaw c)
   have f2:=zcy g' (yaw c) hq
   rw[if_pos rfl,ov]at f1
   rw[colq,if_neg (ybm q)]at f2
   rw[f1,f2,sm_zero c fun i hi=> ?_]at h
   ·refine⟨Fn c S (turn T p q) 0 (rv c m S w T r),zbw hb ?_⟩
    grind
   ·by_cases hiq:i=q
    ·subst hiq;rw[Int.sub_self,ydb]
    ·have f3:=zcy g' (yaw c) hi
     rw[coln i hiq,if_neg (ybm i)]at f3
     rw[f3,yca]
  ·have hc':c<n:=by omega
   have h:=app (c+1) hc'
   have f1:=Fn_one g' (show c+1<=n from hc')
   have f2:=zcy g' (show c+1<=n from hc') hq
   have f3:=zcy g' (show c+1<=n from hc') hc'
   rw[if_neg (ybm c)]at f1
   rw[colq,if_neg (by omega)]at f2
   rw[coln c hcq,if_pos rfl,ov]at f3
   rw[f1,f2,sm_one (j:=c) n hc' fun i hi hn=> ?_,f3]at h
   ·refine⟨-Fn n S (turn T p q) (c+1) (rv n m S w T r),zbw hb ?_⟩
    grind
   ·by_cases hiq:i=q
    ·subst hiq;rw[Int.sub_self,ydb]
    ·have f4:=zcy g' (show c+1<=n from hc') hi
     rw[coln i hiq,if_neg (by omega)]at f4
     rw[f4,yca]
 obtain⟨x,hx⟩:=key
 show T.over*(if r=p then _ else if c=q then _ else(T.cell r c*T.cell p q-T.cell r q*T.cell p c)/T.over)=_
 rw[if_neg hrp,if_neg hcq,hx,Int.mul_ediv_cancel_left _ (Int.ne_of_gt G.pos)]
theorem Good.turn(G:Good n m S w T){p q:Nat}(hp:p<m)(hq:q<n)(hb:0<T.cell p q)(ra:∀r,r<m->0<T.cell r q->T.cell p n*T.cell r q<=T.cell r n*T.cell p q):Good n m S w (turn T p q):=by
 have hqn:n≠q:=by omega
 have c1:∀r,r≠p->(Sx.turn T p q).cell r q= -T.cell r q:=fun r h=>by unfold Sx.turn;dsimp only;rw[if_neg h,if_pos rfl]
 have c2:(Sx.turn T p q).cell p q=T.over:=by unfold Sx.turn;dsimp only;rw[if_pos rfl,if_pos rfl]
 have c3:∀c,c≠q->(Sx.turn T p q).cell p c=T.cell p c:=fun c h=>by unfold Sx.turn;dsimp only;rw[if_pos rfl,if_neg h]
 have k1:(Sx.turn T p q).col q=T.row p:=by unfold Sx.turn;dsimp only;rw[if_pos rfl]
 have k2:∀c,c≠q->(Sx.turn T p q).col c=T.col c:=fun c h=>by unfold Sx.turn;dsimp only;rw[if_neg h]
 have r1:(Sx.turn T p q).row p=T.col q:=by unfold Sx.turn;dsimp only;rw[if_pos rfl]
 have r2:∀r,r≠p->(Sx.turn T p q).row r=T.row r:=fun r h=>by unfold Sx.turn;dsimp only;rw[if_neg h]
 refine⟨hb,fun r hr j hj=> ?_,?_,G.turned_dt hp hq,fun c c' hc hc' e=> ?_,fun r r' hr hr' e=> ?_,fun c r hc hr e=> ?_,fun c hc=> ?_,fun r hr=> ?_,fun a ha=> ?_,fun r hr=> ?_⟩
 ·have e2:=G.eq p (yas hp) j hj
  rw[rv_row hp]at e2
  by_cases h:r=p
  ·subst h
   rw[rv_row hp,r1,c3 n hqn]
   have e3:sm n (fun c=>(Sx.turn T r q).cell r c*nv n S ((Sx.turn T r q).col c) j)=sm n (fun c=>T.cell r c*nv n S (T.col c) j)+(T.over*nv n S (T.row r) j-T.cell r q*nv n S (T.col q) j):=by
    have:sm n (fun c=>if c=q then T.over*nv n S (T.row r) j-T.cell r q*nv n S (T.col q) j else 0)=T.over*nv n S (T.row r) j-T.cell r q*nv n S (T.col q) j:=by
     rw[sm_one (j:=q) n hq fun i _ hn=>if_neg hn,if_pos rfl]
    rw[<-this,<-sm_add]
    refine sm_congr n fun c _=> ?_
    by_cases hc:c=q
    ·subst hc;rw[c2,k1,if_pos rfl];omega
    ·rw[c3 c hc,k2 c hc,if_neg hc];omega
   rw[e3]
   show T.cell r q*nv n S (T.col q) j=_
   omega
  ·rw[turn_rv h]
   have e1:=G.eq r hr j hj
   have e3:T.over*sm n (fun c=>(Sx.turn T p q).cell r c*nv n S ((Sx.turn T p q).col c) j)=T.cell p q*sm n (fun c=>T.cell r c*nv n S (T.col c) j)+ -(T.cell r q)*sm n (fun c=>T.cell p c*nv n S (T.col c) j)+ -(T.over*T.cell r q*nv n S (T.row p) j):=by
    have:sm n (fun c=>if c=q then -(T.over*T.cell r q*nv n S (T.row p) j)else 0)= -(T.over*T.cell r q*nv n S (T.row p) j):=by
     rw[sm_one (j:=q) n hq fun i _ hn=>if_neg hn,if_pos rfl]
    rw[<-this,<-sm_mul,<-sm_mul,<-sm_mul,<-sm_add,<-sm_add]
    refine sm_congr n fun c hc=> ?_
    by_cases hcq:c=q
    ·subst hcq;rw[c1 r h,k1,if_pos rfl];grind
    ·have:=G.exact hp hq hb hr h (yas hc) hcq
     rw[k2 c hcq,if_neg hcq,<-yej,this];grind
   have e4:=G.exact hp hq hb hr h (yac n) hqn
   refine zbw G.pos ?_
   show T.over*(T.cell p q*rv n m S w T r j)=_
   rw[Int.mul_sub,e3,<-yej T.over ((Sx.turn T p q).cell r n),e4]
   generalize sm n (fun c=>T.cell r c*nv n S (T.col c) j)=A at *
   generalize sm n (fun c=>T.cell p c*nv n S (T.col c) j)=B at *
   grind
 ·rcases G.sg with e|e
  ·exact .inr (by show -T.s= -1;rw[e])
  ·exact .inl (by show -T.s=1;rw[e];rfl)
 ·by_cases h1:c=q
  ·by_cases h2:c'=q
   ·rw[h1,h2]
   ·rw[h1,k1,k2 c' h2]at e;exact absurd e.symm (G.dis c' p hc' hp)
  ·by_cases h2:c'=q
   ·rw[h2,k1,k2 c h1]at e;exact absurd e (G.dis c p hc hp)
   ·rw[k2 c h1,k2 c' h2]at e;exact G.cinj c c' hc hc' e
 ·by_cases h1:r=p
  ·by_cases h2:r'=p
   ·rw[h1,h2]
   ·rw[h1,r1,r2 r' h2]at e;exact absurd e (G.dis q r' hq hr')
  ·by_cases h2:r'=p
   ·rw[h2,r1,r2 r h1]at e;exact absurd e.symm (G.dis q r hq hr)
   ·rw[r2 r h1,r2 r' h2]at e;exact G.rinj r r' hr hr' e
 ·by_cases h1:c=q
  ·by_cases h2:r=p
   ·rw[h1,h2,k1,r1]at e;exact G.dis q p hq hp e.symm
   ·rw[h1,k1,r2 r h2]at e;exact h2 (G.rinj p r hp hr e).symm
  ·by_cases h2:r=p
   ·rw[h2,k2 c h1,r1]at e;exact h1 (G.cinj c q hc hq e)
   ·rw[k2 c h1,r2 r h2]at e;exact G.dis c r hc hr e
 ·by_cases h1:c=q
  ·rw[h1,k1];exact G.rlt p hp
  ·rw[k2 c h1];exact G.clt c hc
 ·by_cases h1:r=p
  ·rw[h1,r1];exact G.clt q hq
  ·rw[r2 r h1];exact G.rlt r hr
 ·rcases G.all a ha with⟨c,hc,e⟩|⟨r,hr,e⟩
  ·by_cases h1:c=q
   ·exact .inr ⟨p,hp,by rw[r1,<-h1,e]⟩
   ·exact .inl ⟨c,hc,by rw[k2 c h1,e]⟩
  ·by_cases h1:r=p
   ·exact .inl ⟨q,hq,by rw[k1,<-h1,e]⟩
   ·exact .inr ⟨r,hr,by rw[r2 r h1,e]⟩
 ·by_cases h1:r=p
  ·rw[h1,c3 n hqn];exact G.fea p hp
  ·have e:=G.exact hp hq hb (yas hr) h1 (yac n) hqn
   have f1:=G.fea r hr
   have f2:=G.fea p hp
   have z:0<=T.cell r n*T.cell p q-T.cell r q*T.cell p n:=by
    by_cases hc:0<T.cell r q
    ·have:=ra r hr hc
     rw[ycp (T.cell r q)];omega
    ·have a1:0<=T.cell r n*T.cell p q:=yby f1 (by omega)
     have a2:0<= -(T.cell r q)*T.cell p n:=yby (by omega) f2
     grind
   rw[<-e]at z
   have:=G.pos
   refine Int.not_lt.mp fun hn=> ?_
   have:T.over*(Sx.turn T p q).cell r n<0:=Int.mul_neg_of_pos_of_neg G.pos hn
   omega
end
end Sx
namespace Sx
structure Step(n m:Nat)(T:Tab)(p q:Nat):Prop where
 hp:p<m
 hq:q<n
 neg:T.cell m q<0
 ent:∀c,c<n->T.cell m c<0->T.col q<=T.col c
 by_:0<T.cell p q
 lev:∀r,r<m->0<T.cell r q->T.cell p n*T.cell r q<T.cell r n*T.cell p q\/(T.cell p n*T.cell r q=T.cell r n*T.cell p q/\T.row p<=T.row r)
noncomputable def inC(n:Nat)(T:Tab)(a:Nat):Prop:=∃c,c<n/\T.col c=a
section
variable{n m:Nat}{S:Nat->Nat->Bool}{w:Nat->Int}
theorem Step.good{T:Tab}{p q:Nat}(s:Step n m T p q)(G:Good n m S w T):Good n m S w (turn T p q):=
 G.turn s.hp s.hq s.by_ fun r hr h=>(s.lev r hr h).elim ydh fun e=>yei e.1
theorem Step.worth{T:Tab}{p q:Nat}(s:Step n m T p q)(G:Good n m S w T):T.over*(turn T p q).cell m n-(turn T p q).over*T.cell m n= -(T.cell m q)*T.cell p n:=by
 have h:=G.exact s.hp s.hq s.by_ (yac m) (ycg s.hp) (yac n) (ycg s.hq)
 rw[h]
 show _-T.cell p q*_=_
 grind
theorem Step.le{T:Tab}{p q:Nat}(s:Step n m T p q)(G:Good n m S w T):(turn T p q).over*T.cell m n<=T.over*(turn T p q).cell m n:=by
 have h:=s.worth G
 have:=yby (a:= -(T.cell m q)) (b:=T.cell p n) (by have:=s.neg;omega) (G.fea p s.hp)
 omega
theorem frac_le{a b c d e f:Int}(hd:0<d)(hb:0<b)(hf:0<f)(h1:d*a<=b*c)(h2:f*c<=d*e):f*a<=b*e:=by
 have x:=ybf h1 (ydh hf)
 have y:=ybf h2 (ydh hb)
 refine Int.le_of_mul_le_mul_left (a:=d) ?_ hd
 grind
theorem frac_lt{a b c d e f:Int}(hd:0<d)(hb:0<b)(hf:0<f)(h1:d*a<=b*c)(h2:f*c<d*e):f*a<b*e:=by
 have x:=ybf h1 (ydh hf)
 have y:=Int.mul_lt_mul_of_pos_left h2 hb
 refine Int.lt_of_mul_lt_mul_left (a:=d) ?_ (ydh hd)
 grind
theorem frac_lt'{a b c d e f:Int}(hd:0<d)(hb:0<b)(hf:0<f)(h1:d*a<b*c)(h2:f*c<=d*e):f*a<b*e:=by
 have x:=Int.mul_lt_mul_of_pos_left h1 hf
 have y:=ybf h2 (ydh hb)
 refine Int.lt_of_mul_lt_mul_left (a:=d) ?_ (ydh hd)
 grind
theorem goes{P:Nat->Prop}{s:Nat}:∀d,P s->¬P (s+d)->∃t,s<=t/\t<s+d/\P t/\¬P (t+1)
 |0,h,h'=>absurd h h'
 |d+1,h,h'=>by
  by_cases c:P (s+d)
  ·exact⟨s+d,by omega,by omega,c,h'⟩
  ·obtain⟨t,a,b,x⟩:=goes d h c
   exact⟨t,a,by omega,x⟩
theorem goes'{P:Nat->Prop}{s e:Nat}(hse:s<=e)(h:P s)(h':¬P e):∃t,s<=t/\t<e/\P t/\¬P (t+1):=by
 obtain⟨t,a,b,x⟩:=goes (s:=s) (e-s) h (by rw[show s+(e-s)=e by omega];exact h')
 exact⟨t,a,by omega,x⟩
theorem most{P:Nat->Prop}:∀N,(∃a,P a)->(∀a,P a->a<N)->∃a,P a/\∀b,P b->b<=a
 |0,⟨a,h⟩,hb=>absurd (hb a h) (ydn a)
 |N+1,h,hb=>by
  by_cases c:P N
  ·exact⟨N,c,fun b hP=>by have:=hb b hP;omega⟩
  ·exact most N h fun a hP=>by
    have:=hb a hP
    have:a≠N:=fun e=>c (e▸hP)
    omega
structure Run(n m:Nat)(S:Nat->Nat->Bool)(w:Nat->Int)(T:Nat->Tab)(p q:Nat->Nat)(L:Nat):Prop where
 first:Good n m S w (T 0)
 step:∀t,t<L->Step n m (T t) (p t) (q t)
 next:∀t,t<L->T (t+1)=turn (T t) (p t) (q t)
variable{T:Nat->Tab}{p q:Nat->Nat}{L:Nat}
theorem Run.good(R:Run n m S w T p q L):∀t,t<=L->Good n m S w (T t)
 |0,_=>R.first
 |t+1,h=>by rw[R.next t h];exact(R.step t h).good (R.good t (Nat.le_of_succ_le h))
theorem Run.worth(R:Run n m S w T p q L){i:Nat}:∀d,i+d<=L->(T (i+d)).over*(T i).cell m n<=(T i).over*(T (i+d)).cell m n
 |0,_=>ybt _
 |d+1,h=>by
  have ih:=R.worth d (i:=i) (by omega)
  have g1:=R.good (i+d) (by omega)
  have st:=(R.step (i+d) (by omega)).le g1
  rw[<-R.next (i+d) (by omega)]at st
  exact frac_le g1.pos (R.good i (by omega)).pos (R.good (i+d+1) h).pos ih st
theorem Run.worth'(R:Run n m S w T p q L){i j:Nat}(hij:i<=j)(hj:j<=L):(T j).over*(T i).cell m n<=(T i).over*(T j).cell m n:=by
 have:=R.worth (i:=i) (j-i) (by omega)
 rwa [show i+(j-i)=j by omega]at this
theorem same_worth{A B:Tab}(GA:Good n m S w A)(GB:Good n m S w B)(h:∀a,inC n B a->inC n A a):B.over*A.cell m n=A.over*B.cell m n:=by
 have h1:=Fn_smul (T:=A) (S:=S) (c:=0) (yaw n) B.over (zv w)
 have e:=GB.eq m (yac m)
 rw[rv_last]at e
 have b:=GA.base (yac m)
 rw[rv_last]at b
 rw[zcp e,Fn_sum (yaw n) _ _ (B.cell m) (fun c=>nv n S (B.col c)),Fn_one GA.dt (yaw n),if_pos rfl,sm_zero n fun c hc=> ?_,b]at h1
 ·rw[<-h1,ycp];omega
 ·obtain⟨c',hc',e'⟩:=h _ ⟨c,hc,rfl⟩
  rw[<-e',zcy GA.dt (yaw n) hc',if_neg (ybm c'),yca]
theorem turn_inC{T:Tab}{p q:Nat}(G:Good n m S w T)(hp:p<m)(hq:q<n)(a:Nat):inC n (turn T p q) a↔(inC n T a/\a≠T.col q)\/a=T.row p:=by
 constructor
 ·rintro⟨c,hc,e⟩
  have e':(if c=q then T.row p else T.col c)=a:=e
  by_cases h:c=q
  ·rw[if_pos h]at e';exact .inr e'.symm
  ·rw[if_neg h]at e'
   exact .inl ⟨⟨c,hc,e'⟩,fun z=>h (G.cinj c q hc hq (e'.trans z))⟩
 ·rintro(⟨⟨c,hc,e⟩,hn⟩|e)
  ·have h:c≠q:=fun z=>hn (by rw[<-e,z])
   exact⟨c,hc,by show(if c=q then _ else _)=a;rw[if_neg h];exact e⟩
  ·exact⟨q,hq,by show(if q=q then _ else _)=a;rw[if_pos rfl];exact e.symm⟩
theorem flat{T:Tab}{p q:Nat}(G:Good n m S w T)(G':Good n m S w (turn T p q))(s:Step n m T p q)(h0:T.cell p n=0){a:Nat}(ha:a<n+m):Fn n S (turn T p q) 0 (nv n S a)=0↔Fn n S T 0 (nv n S a)=0:=by
 have z0:=yaw n
 rcases G'.all a ha with⟨c,hc,e⟩|⟨r,hr,e⟩
 ·have f1:=zcy G'.dt z0 hc
  rw[e,if_neg (ybm c)]at f1
  refine⟨fun _=> ?_,fun _=>f1⟩
  have e':(if c=q then T.row p else T.col c)=a:=e
  by_cases h:c=q
  ·rw[if_pos h]at e'
   have:=G.base (yas s.hp)
   rw[rv_row s.hp,e']at this
   rw[this,h0]
  ·rw[if_neg h]at e'
   have:=zcy G.dt z0 hc
   rw[e',if_neg (ybm c)]at this
   exact this
 ·have f1:=G'.base (yas hr)
  rw[rv_row hr,e]at f1
  have e':(if r=p then T.col q else T.row r)=a:=e
  rw[f1]
  by_cases h:r=p
  ·rw[if_pos h]at e'
   have f2:=zcy G.dt z0 s.hq
   rw[e',if_neg (ybm q)]at f2
   have f3:(turn T p q).cell r n=T.cell p n:=by
    show(if r=p then(if n=q then _ else _)else _)=_
    rw[if_pos h,if_neg (ycg s.hq)]
   rw[f3,h0]
   exact⟨fun _=>f2,fun _=>rfl⟩
  ·rw[if_neg h]at e'
   have f2:=G.base (yas hr)
   rw[rv_row hr,e']at f2
   rw[f2]
   have x:=G.exact s.hp s.hq s.by_ (yas hr) h (yac n) (ycg s.hq)
   rw[h0,yca,Int.sub_zero]at x
   constructor
   ·intro z
    rw[z,yca]at x
    rcases Int.mul_eq_zero.mp x.symm with y|y
    ·exact y
    ·have:=s.by_;omega
   ·intro z
    rw[z,ydb]at x
    rcases Int.mul_eq_zero.mp x with y|y
    ·have:=G.pos;omega
    ·exact y
theorem Run.no_return(R:Run n m S w T p q L){i j:Nat}(hij:i<j)(hj:j<=L):¬∀a,inC n (T i) a↔inC n (T j) a:=by
 intro same
 have Gt:∀t,i<=t->t<=j->Good n m S w (T t):=fun t _ h=>R.good t (yat h hj)
 have D:=same_worth (Gt i (yac i) (yas hij)) (Gt j (yas hij) (yac j)) fun a=>(same a).mpr
 have St:∀t,t<j->Step n m (T t) (p t) (q t):=fun t h=>R.step t (yan h hj)
 have nx:∀t,t<j->T (t+1)=turn (T t) (p t) (q t):=fun t h=>R.next t (yan h hj)
 -- every turn of these is flat
 have fl:∀t,i<=t->t<j->(T t).cell (p t) n=0:=fun t hi ht=>by
  have g:=Gt t hi (yas ht)
  have W:=(St t ht).worth g
  have F:=g.fea (p t) (St t ht).hp
  have N:=(St t ht).neg
  by_cases z:(T t).cell (p t) n=0
  ·exact z
  ·exfalso
   have B:(turn (T t) (p t) (q t)).over*(T t).cell m n<(T t).over*(turn (T t) (p t) (q t)).cell m n:=by
    have:=yds (a:= -((T t).cell m (q t))) (b:=(T t).cell (p t) n) (by omega) (by omega)
    omega
   rw[<-nx t ht]at B
   have A:=R.worth' (i:=i) (j:=t) hi (by omega)
   have C:=R.worth' (i:=t+1) (j:=j) ht hj
   have o1:=(Gt i (yac i) (yas hij)).pos
   have o2:=g.pos
   have o3:=(Gt (t+1) (by omega) ht).pos
   have o4:=(Gt j (yas hij) (yac j)).pos
   have x:=frac_lt o2 o1 o3 A B
   have y:=frac_lt' o3 o1 o4 x C
   omega
 have ic:∀t,t<j->i<=t->∀a,inC n (T (t+1)) a↔(inC n (T t) a/\a≠(T t).col (q t))\/a=(T t).row (p t):=fun t ht hi a=>by
  rw[nx t ht];exact turn_inC (Gt t hi (yas ht)) (St t ht).hp (St t ht).hq a
 have zeros:∀{a:Nat},a<n+m->∀d s,i<=s->s+d<=j->(Fn n S (T (s+d)) 0 (nv n S a)=0↔Fn n S (T s) 0 (nv n S a)=0):=fun{a} ha d=>by
  induction d with
  |zero=>intro s _ _;exact Iff.rfl
  |succ d ih=>
   intro s hs hd
   have f:=flat (Gt (s+d) (by omega) (by omega)) (by rw[<-nx (s+d) (by omega)];exact Gt (s+d+1) (by omega) hd) (St (s+d) (by omega)) (fl (s+d) (by omega) (by omega)) ha
   rw[<-nx (s+d) (by omega)]at f
   exact f.trans (ih s hs (by omega))
 have zero2:∀{a s t:Nat},a<n+m->i<=s->s<=j->i<=t->t<=j->Fn n S (T s) 0 (nv n S a)=0->Fn n S (T t) 0 (nv n S a)=0:=fun{a s t} ha h1 h2 h3 h4 z=>by
  by_cases c:s<=t
  ·have:=zeros ha (t-s) s h1 (by omega)
   rw[show s+(t-s)=t by omega]at this
   exact this.mpr z
  ·have:=zeros ha (s-t) t h3 (by omega)
   rw[show t+(s-t)=s by omega]at this
   exact this.mp z
 -- the greatest name that comes and goes
 let Fk:Nat->Prop:=fun a=>∃t,i<=t/\t<j/\((inC n (T t) a/\¬inC n (T (t+1)) a)\/(¬inC n (T t) a/\inC n (T (t+1)) a))
 have fkc:∀t,i<=t->t<j->Fk ((T t).col (q t)):=fun t hi ht=>by
  have g:=Gt t hi (yas ht)
  refine⟨t,hi,ht,.inl ⟨⟨q t,(St t ht).hq,rfl⟩,fun z=> ?_⟩⟩
  rcases(ic t ht hi _).mp z with⟨_,z⟩|z
  ·exact z rfl
  ·exact g.dis (q t) (p t) (St t ht).hq (St t ht).hp z
 have lt:∀a,Fk a->a<n+m:=fun a h=>by
  obtain⟨t,hi,ht,(⟨⟨c,hc,e⟩,_⟩|⟨_,⟨c,hc,e⟩⟩)⟩:=h
  ·rw[<-e];exact(Gt t hi (yas ht)).clt c hc
  ·rw[<-e];exact(Gt (t+1) (by omega) ht).clt c hc
 obtain⟨tt,hF,hmax⟩:=most (n+m) ⟨_,fkc i (yac i) hij⟩ lt
 have diff:∀{a s e:Nat},i<=s->s<=j->i<=e->e<=j->inC n (T s) a->¬inC n (T e) a->Fk a:=fun{a s e} h1 h2 h3 h4 x y=>by
  by_cases c:s<=e
  ·obtain⟨t,a1,a2,a3,a4⟩:=goes' (P:=fun t=>inC n (T t) a) c x y
   exact⟨t,by omega,by omega,.inl ⟨a3,a4⟩⟩
  ·obtain⟨t,a1,a2,a3,a4⟩:=goes' (P:=fun t=>¬inC n (T t) a) (s:=e) (e:=s) (by omega) y (fun z=>z x)
   exact⟨t,by omega,by omega,.inr ⟨a3,Classical.not_not.mp a4⟩⟩
 obtain⟨t1,h1i,h1j,h1a,h1b⟩:∃t,i<=t/\t<j/\inC n (T t) tt/\¬inC n (T (t+1)) tt:=by
  obtain⟨t,hi,ht,(⟨x,y⟩|⟨x,y⟩)⟩:=hF
  ·exact⟨t,hi,ht,x,y⟩
  ·by_cases c:inC n (T j) tt
   ·obtain⟨u,a1,a2,a3,a4⟩:=goes' (P:=fun t=>inC n (T t) tt) hi ((same tt).mpr c) x
    exact⟨u,a1,by omega,a3,a4⟩
   ·obtain⟨u,a1,a2,a3,a4⟩:=goes' (P:=fun t=>inC n (T t) tt) (s:=t+1) (e:=j) ht y c
    exact⟨u,by omega,a2,a3,a4⟩
 obtain⟨t2,h2i,h2j,h2a,h2b⟩:∃t,i<=t/\t<j/\¬inC n (T t) tt/\inC n (T (t+1)) tt:=by
  have up:∀s e,i<=s->s<=e->e<=j->¬inC n (T s) tt->inC n (T e) tt->∃t,i<=t/\t<j/\¬inC n (T t) tt/\inC n (T (t+1)) tt:=fun s e a b c x y=>by
   obtain⟨u,a1,a2,a3,a4⟩:=goes' (P:=fun t=>¬inC n (T t) tt) b x (fun z=>z y)
   exact⟨u,by omega,by omega,a3,Classical.not_not.mp a4⟩
  by_cases c:inC n (T j) tt
  ·exact up (t1+1) j (by omega) h1j (yac j) h1b c
  ·exact up i t1 (yac i) h1i (by omega) (fun z=>c ((same tt).mp z)) h1a
 have e1:tt=(T t1).col (q t1):=by
  refine Classical.byContradiction fun hn=>h1b ((ic t1 h1j h1i tt).mpr (.inl ⟨h1a,hn⟩))
 have e2:tt=(T t2).row (p t2):=by
  rcases(ic t2 h2j h2i tt).mp h2b with⟨z,_⟩|z
  ·exact absurd z h2a
  ·exact z
 have G1:=Gt t1 h1i (yas h1j)
 have G2:=Gt t2 h2i (yas h2j)
 have S1:=St t1 h1j
 have S2:=St t2 h2j
 -- along the column that enters at t2
 have hq2:q t2+1<=n:=S2.hq
 have dz:=G2.dir (yac m) S2.hq
 rw[rv_last]at dz
 have sum:=Fn_smul (T:=T t2) (S:=S) hq2 (T t1).over (zv w)
 have eq1:=G1.eq m (yac m)
 rw[rv_last]at eq1
 rw[zcp eq1,Fn_sum hq2 _ _ ((T t1).cell m) (fun c=>nv n S ((T t1).col c)),Fn_one G2.dt hq2,if_neg (ybm _),dz]at sum
 have neg:sm n (fun c=>(T t1).cell m c*Fn n S (T t2) (q t2+1) (nv n S ((T t1).col c)))<0:=by
  have:=yds G1.pos (b:= -((T t2).cell m (q t2))) (by have:=S2.neg;omega)
  omega
 obtain⟨c,hc,hlt⟩:=sm_neg n neg
 have hnm:=G1.clt c hc
 rcases G2.all _ hnm with⟨c0,hc0,e0⟩|⟨r0,hr0,e0⟩
 ·have f:=zcy G2.dt hq2 hc0
  rw[e0]at f
  by_cases z:c0=q t2
  ·rw[if_pos (by omega)]at f
   rw[f]at hlt
   have cn:(T t1).cell m c<0:=by
    refine Int.not_le.mp fun h=> ?_
    have:=yby h (ydh G2.pos)
    omega
   have a:=S1.ent c hc cn
   rw[<-e1,<-e0,z]at a
   have b:=hmax _ (fkc t2 h2i h2j)
   have:tt=(T t2).col (q t2):=ydl a b
   exact G2.dis (q t2) (p t2) S2.hq S2.hp (this.symm.trans e2)
  ·rw[if_neg (by omega)]at f
   rw[f,yca]at hlt
   exact absurd hlt (Int.lt_irrefl 0)
 ·have f:=G2.dir (yas hr0) S2.hq
  rw[rv_row hr0,e0]at f
  rw[f]at hlt
  have fk:Fk ((T t1).col c):=diff h1i (yas h1j) h2i (yas h2j) ⟨c,hc,rfl⟩ (fun⟨c',hc',e'⟩=>G2.dis c' r0 hc' hr0 (e'.trans e0.symm))
  have le:=hmax _ fk
  by_cases z:(T t1).col c=tt
  ·have cq:c=q t1:=G1.cinj c (q t1) hc S1.hq (z.trans e1)
   have rp:r0=p t2:=G2.rinj r0 (p t2) hr0 S2.hp (e0.trans (z.trans e2))
   subst cq rp
   have a:=S1.neg
   have b:=S2.by_
   have:=yds (a:= -((T t1).cell m (q t1))) (b:=(T t2).cell (p t2) (q t2)) (by omega) b
   grind
  ·have cn:¬(T t1).cell m c<0:=fun h=>by
    have:=S1.ent c hc h
    omega
   have pos0:0<(T t2).cell r0 (q t2):=by
    refine Int.not_le.mp fun h=> ?_
    have:=yby (a:=(T t1).cell m c) (b:= -((T t2).cell r0 (q t2))) (by omega) (by omega)
    omega
   have v1:Fn n S (T t1) 0 (nv n S ((T t1).col c))=0:=by rw[zcy G1.dt (yaw n) hc,if_neg (ybm c)]
   have v2:=zero2 hnm h1i (yas h1j) h2i (yas h2j) v1
   have b:=G2.base (yas hr0)
   rw[rv_row hr0,e0,v2]at b
   have k:=fl t2 h2i h2j
   rcases S2.lev r0 hr0 pos0 with h|⟨_,h⟩
   ·rw[k,<-b,ydb,ydb]at h
    exact absurd h (Int.lt_irrefl 0)
   ·rw[<-e2,e0]at h
    omega
noncomputable def enc:List Bool->Nat
 |[]=>0
 |b::l=>(if b=true then 1 else 0)+2*enc l
theorem enc_lt:∀l:List Bool,enc l<2^l.length
 |[]=>by decide
 |b::l=>by
  have:=enc_lt l
  show(if b=true then 1 else 0)+2*enc l<2^(l.length+1)
  rw[Nat.pow_succ]
  split<;>omega
theorem enc_inj:∀{l l':List Bool},l.length=l'.length->enc l=enc l'->l=l'
 |[],[],_,_=>rfl
 |b::l,b'::l',h,e=>by
  have e':(if b=true then 1 else 0)+2*enc l=(if b'=true then 1 else 0)+2*enc l':=e
  have hb:b=b':=by cases b<;>cases b'<;>simp at e'⊢<;>omega
  subst hb
  rw[enc_inj (l:=l) (l':=l') (by simpa using h) (by omega)]
theorem few:∀(K:Nat) (l:List Nat),l.Nodup->(∀x∈l,x<K)->l.length<=K
 |0,[],_,_=>yac 0
 |0,x::_,_,h=>absurd (h x yah) (ydn x)
 |K+1,l,nd,h=>by
  have a:=few K (l.filter fun x=>decide (x≠K)) (nd.filter _) fun x hx=>by
   obtain⟨h1,h2⟩:=yar.mp hx
   have:=h x h1
   have:=of_decide_eq_true h2
   omega
  have b:l.length<=(l.filter fun x=>decide (x≠K)).length+1:=by
   clear a h
   induction l with
   |nil=>exact yaw _
   |cons y l ih=>
    have nd':=ycl.mp nd
    rw[ycs]
    by_cases c:y=K
    ·subst c
     rw[if_neg (by simp)]
     have:l.filter (fun x=>decide (x≠y))=l:=List.filter_eq_self.mpr fun x hx=>decide_eq_true fun e=>nd'.1 (e▸hx)
     rw[this];exact yac _
    ·rw[if_pos (decide_eq_true c)]
     have:=ih nd'.2
     simp only[ybj]
     omega
  omega
open Classical in
noncomputable def code(n m:Nat)(T:Tab):Nat:=enc ((List.range (n+m)).map fun a=>decide (inC n T a))
theorem Run.short(R:Run n m S w T p q L):L<2^(n+m):=by
 have inj:∀i j,i<=L->j<=L->code n m (T i)=code n m (T j)->i=j:=by
  have one:∀i j,i<j->j<=L->code n m (T i)≠code n m (T j):=fun i j hij hj e=>by
   have l:=enc_inj (by simp) e
   refine R.no_return hij hj fun a=> ?_
   by_cases ha:a<n+m
   ·have:=congrArg (fun l:List Bool=>l[a]?) l
    simp only[yaf,ydt ha,Option.map_some,Option.some.injEq,decide_eq_decide]at this
    exact this
   ·exact⟨fun⟨c,hc,e⟩=>absurd ((R.good i (by omega)).clt c hc) (by omega),fun⟨c,hc,e⟩=>absurd ((R.good j hj).clt c hc) (by omega)⟩
  intro i j hi hj e
  rcases Nat.lt_trichotomy i j with h|h|h
  ·exact absurd e (one i j h hj)
  ·exact h
  ·exact absurd e.symm (one j i h hi)
 have nd:((List.range (L+1)).map fun t=>code n m (T t)).Nodup:=by
  refine ydc.mpr (List.nodup_range.imp_of_mem fun{a b} ha hb hab e=>hab (inj a b ?_ ?_ e))
  ·have:=ybl.mp ha;omega
  ·have:=ybl.mp hb;omega
 have:=few (2^(n+m)) _ nd fun x hx=>by
  obtain⟨t,_,rfl⟩:=ybc.mp hx
  have:=enc_lt ((List.range (n+m)).map fun a=> @decide (inC n (T t) a) (Classical.propDecidable _))
  rw[yaa,ybo]at this
  exact this
 rw[yaa,ybo]at this
 omega
end
end Sx
namespace Sx
section
variable{n m:Nat}{S:Nat->Nat->Bool}{w:Nat->Int}{T:Tab}
theorem nv_low{a j:Nat}(h:a<n):nv n S a j=if j=a+1 then 1 else 0:=if_pos h
theorem nv_high{k j:Nat}:nv n S (n+k) j=if j=0 then 1 else if S k (j-1)=true then -1 else 0:=by
 unfold nv;rw[if_neg (by omega),show n+k-n=k by omega]
theorem sm_unit{y:Nat->Int}{j:Nat}(hj:j<=n):sm n (fun c=>y c*nv n S c j)=if j=0 then 0 else y (j-1):=by
 by_cases h:j=0
 ·rw[if_pos h]
  exact sm_zero n fun c hc=>by rw[nv_low hc,if_neg (by omega),yca]
 ·rw[if_neg h,sm_one (j:=j-1) n (by omega) fun c hc hn=>by rw[nv_low hc,if_neg (by omega),yca],nv_low (by omega),if_pos (by omega),Int.mul_one]
theorem nv_set{k j:Nat}(hj:j<=n):nv n S (n+k) j=1*one j-sm n (fun c=>(if S k c=true then 1 else 0)*nv n S c j):=by
 rw[nv_high,sm_unit hj]
 unfold one
 by_cases h:j=0
 ·rw[if_pos h,if_pos h,if_pos h];rfl
 ·rw[if_neg h,if_neg h,if_neg h]
  split<;>rfl
theorem zv_set{j:Nat}(hj:j<=n):zv w j=0*one j-sm n (fun c=> -(w c)*nv n S c j):=by
 rw[sm_unit hj]
 unfold zv
 by_cases h:j=0
 ·rw[if_pos h,if_pos h];omega
 ·rw[if_neg h,if_neg h];omega
noncomputable def start(n m:Nat)(S:Nat->Nat->Bool)(w:Nat->Int):Tab where
 col:=fun c=>c
 row:=fun r=>n+r
 cell:=fun r c=>if r=m then(if c=n then 0 else -(w c))else if c=n then 1 else if S r c=true then 1 else 0
 over:=1
 s:=1
theorem start_good:Good n m S w (start n m S w):=by
 refine⟨Int.one_pos,fun r hr j hj=> ?_,.inl rfl,?_,fun c c' _ _ e=>e,fun r r' _ _ e=>by have:n+r=n+r':=e;omega,fun c r hc _ e=>by have:c=n+r:=e;omega,fun c hc=>by show c<n+m;omega,fun r hr=>by show n+r<n+m;omega,fun a ha=> ?_,fun r hr=> ?_⟩
 ·show 1*rv n m S w (start n m S w) r j=(start n m S w).cell r n*one j-sm n (fun c=>(start n m S w).cell r c*nv n S c j)
  by_cases h:r<m
  ·rw[rv_row h]
   show 1*nv n S (n+r) j=_
   rw[ycv,nv_set hj]
   have e1:(start n m S w).cell r n=1:=by show(if r=m then _ else if n=n then(1:Int)else _)=1;rw[if_neg (by omega),if_pos rfl]
   rw[e1,sm_congr n fun c hc=> ?_]
   show _=(if r=m then _ else if c=n then(1:Int)else if S r c=true then 1 else 0)*_
   rw[if_neg (show¬r=m by omega),if_neg (show¬c=n by omega)]
  ·have e:r=m:=by omega
   subst e
   rw[rv_last,ycv,zv_set (n:=n) (S:=S) hj]
   have e1:(start n r S w).cell r n=0:=by show(if r=r then(if n=n then(0:Int)else _)else _)=0;rw[if_pos rfl,if_pos rfl]
   rw[e1,sm_congr n fun c hc=> ?_]
   show _=(if r=r then(if c=n then(0:Int)else -(w c))else _)*_
   rw[if_pos rfl,if_neg (show¬c=n by omega)]
 ·show(1:Int)=1*det (n+1) _
  rw[det_unit (n+1) _ fun i hi j hj=> ?_]; · rfl
  by_cases h:i=0
  ·subst h
   rw[bas_zero]
   unfold one
   by_cases e:j=0
   ·rw[if_pos e,if_pos e.symm]
   ·rw[if_neg e,if_neg (Ne.symm e)]
  ·obtain⟨c,rfl⟩:∃c,i=c+1:=⟨i-1,by omega⟩
   rw[bas_col]
   show nv n S c j=_
   rw[nv_low (by omega)]
   by_cases e:j=c+1
   ·rw[if_pos e,if_pos e.symm]
   ·rw[if_neg e,if_neg (Ne.symm e)]
 ·by_cases h:a<n
  ·exact .inl ⟨a,h,rfl⟩
  ·exact .inr ⟨a-n,by omega,by show n+(a-n)=a;omega⟩
 ·show 0<=(if r=m then _ else if n=n then(1:Int)else _)
  rw[if_neg (by omega),if_pos rfl];decide
theorem Good.bounded(G:Good n m S w T)(cov:∀p,p<n->∃k,k<m/\S k p=true){q:Nat}(hq:q<n):∃r,r<m/\0<T.cell r q:=by
 refine Classical.byContradiction fun no=> ?_
 have no':∀r,r<m->T.cell r q<=0:=fun r hr=>Int.not_lt.mp fun h=>no ⟨r,hr,h⟩
 have hq':q+1<=n:=hq
 have nn:∀a,a<n+m->0<=Fn n S T (q+1) (nv n S a):=fun a ha=>by
  rcases G.all a ha with⟨c,hc,e⟩|⟨r,hr,e⟩
  ·rw[<-e,zcy G.dt hq' hc]
   split
   ·exact ydh G.pos
   ·exact ybt 0
  ·have:=G.dir (yas hr) hq
   rw[rv_row hr,e]at this
   rw[this]
   have:=no' r hr
   omega
 have set:∀k,Fn n S T (q+1) (nv n S (n+k))= -sm n (fun p=>(if S k p=true then 1 else 0)*Fn n S T (q+1) (nv n S p)):=fun k=>by
  rw[zcp fun j hj=>nv_set hj,Fn_sum hq' _ _ (fun c=>if S k c=true then 1 else 0) (fun c=>nv n S c),Fn_one G.dt hq',if_neg (ybm q)]
  omega
 have low:∀p,p<n->Fn n S T (q+1) (nv n S p)=0:=fun p hp=>by
  obtain⟨k,hk,hs⟩:=cov p hp
  have a:=nn (n+k) (by omega)
  rw[set k]at a
  have:=sm_none n (f:=fun p=>(if S k p=true then 1 else 0)*Fn n S T (q+1) (nv n S p)) (fun i hi=> ?_) (by omega) p hp
  ·rw[if_pos hs,ycv]at this
   exact this
  ·have:=nn i (by omega)
   split<;>omega
 have z:Fn n S T (q+1) (nv n S (T.col q))=0:=by
  have hc:=G.clt q hq
  by_cases h:T.col q<n
  ·exact low _ h
  ·have e:T.col q=n+(T.col q-n):=by omega
   rw[e,set,sm_zero n fun p hp=>by rw[low p hp,yca]];rfl
 rw[zcy G.dt hq' hq,if_pos rfl]at z
 have:=G.pos
 omega
theorem nv_abs(a j:Nat): -1<=nv n S a j/\nv n S a j<=1:=by
 unfold nv
 split
 ·split<;>decide
 ·split
  ·decide
  ·split<;>decide
theorem bas_abs(i j:Nat): -1<=bas n S T i j/\bas n S T i j<=1:=by
 unfold bas
 split
 ·unfold one;split<;>decide
 ·exact nv_abs _ _
theorem Fn_abs(G:Good n m S w T){c:Nat}{v:Vec}{B:Int}(hB:1<=B)(h:∀j,j<=n-> -B<=v j/\v j<=B): -(fct (n+1)*B)<=Fn n S T c v/\Fn n S T c v<=fct (n+1)*B:=by
 have d:=det_abs (n+1) (put (bas n S T) c v) c B hB (fun i _ j _ hn=>by rw[put_ne _ _ hn];exact bas_abs i j) (fun j hj _=>by rw[put_same];exact h j (by omega))
 unfold Fn
 rcases G.sg with s|s
 ·rw[s,ycv];exact d
 ·rw[s];omega
theorem Good.over_le(G:Good n m S w T):T.over<=fct (n+1):=by
 have d:=Fn_abs G (c:=0) (v:=bas n S T 0) (B:=1) (by decide) fun j _=>bas_abs 0 j
 rw[Fn_at G.dt (yaw n) (yaw n),if_pos rfl]at d
 omega
theorem Good.cell_abs(G:Good n m S w T)(hw:∀p,p<n->0<=w p/\w p<=99){r c:Nat}(hr:r<=m)(hc:c<=n): -(fct (n+1)*99)<=T.cell r c/\T.cell r c<=fct (n+1)*99:=by
 have hv:∀j,j<=n-> -99<=rv n m S w T r j/\rv n m S w T r j<=99:=fun j hj=>by
  unfold rv
  split
  ·have:=nv_abs (n:=n) (S:=S) (T.row r) j;omega
  ·unfold zv
   split
   ·decide
   ·have:=hw (j-1) (by omega);omega
 by_cases h:c=n
 ·subst h
  have d:=Fn_abs G (c:=0) (B:=99) (by decide) hv
  rw[G.base hr]at d
  exact d
 ·have d:=Fn_abs G (c:=c+1) (B:=99) (by decide) hv
  rw[G.dir hr (by omega)]at d
  omega
theorem fct_le:∀{k:Nat},k<=11->fct k<=39916800
 |0,_|1,_|2,_|3,_|4,_|5,_|6,_|7,_|8,_|9,_|10,_|11,_=>by decide
noncomputable def Ys(n m:Nat)(T:Tab)(a:Nat):Int:=sm n fun c=>if T.col c=a then T.cell m c else 0
noncomputable def Xs(n m:Nat)(T:Tab)(a:Nat):Int:=sm m fun r=>if T.row r=a then T.cell r n else 0
theorem Good.ys_at(G:Good n m S w T){c:Nat}(hc:c<n):Ys n m T (T.col c)=T.cell m c:=by
 unfold Ys
 rw[sm_one (j:=c) n hc fun i hi hn=>if_neg fun e=>hn (G.cinj i c hi hc e),if_pos rfl]
theorem ys_no{a:Nat}(h:∀c,c<n->T.col c≠a):Ys n m T a=0:=sm_zero n fun c hc=>if_neg (h c hc)
theorem Good.xs_at(G:Good n m S w T){r:Nat}(hr:r<m):Xs n m T (T.row r)=T.cell r n:=by
 unfold Xs
 rw[sm_one (j:=r) m hr fun i hi hn=>if_neg fun e=>hn (G.rinj i r hi hr e),if_pos rfl]
theorem xs_no{a:Nat}(h:∀r,r<m->T.row r≠a):Xs n m T a=0:=sm_zero m fun r hr=>if_neg (h r hr)
theorem Good.xs_fn(G:Good n m S w T){a:Nat}(ha:a<n+m):Fn n S T 0 (nv n S a)=Xs n m T a:=by
 rcases G.all a ha with⟨c,hc,e⟩|⟨r,hr,e⟩
 ·rw[<-e,zcy G.dt (yaw n) hc,if_neg (ybm c),xs_no fun r hr z=>G.dis c r hc hr z.symm]
 ·rw[<-e,G.xs_at hr]
  have:=G.base (yas hr)
  rw[rv_row hr]at this
  exact this
theorem Good.xs_nn(G:Good n m S w T)(a:Nat):0<=Xs n m T a:=sm_nn m fun r hr=>by
 have:=G.fea r hr
 split
 ·exact this
 ·exact ybt 0
theorem ys_nn(h:∀c,c<n->0<=T.cell m c)(a:Nat):0<=Ys n m T a:=sm_nn n fun c hc=>by
 have:=h c hc
 split
 ·exact this
 ·exact ybt 0
theorem sm_split(f:Nat->Int)(a:Nat):∀b,sm (a+b) f=sm a f+sm b fun k=>f (a+k)
 |0=>by show sm a f=sm a f+0;omega
 |b+1=>by
  show sm (a+b) f+f (a+b)=_
  rw[sm_split f a b]
  show _=sm a f+(sm b (fun k=>f (a+k))+f (a+b))
  omega
theorem Good.reix(G:Good n m S w T)(g:Nat->Int):sm n (fun c=>T.cell m c*g (T.col c))=sm n (fun a=>Ys n m T a*g a)+sm m (fun k=>Ys n m T (n+k)*g (n+k)):=by
 rw[<-sm_split (fun a=>Ys n m T a*g a)]
 have e:∀a,Ys n m T a*g a=sm n fun c=>(if T.col c=a then T.cell m c else 0)*g a:=fun a=>by
  unfold Ys
  rw[ycp,<-sm_mul]
  exact sm_congr n fun c _=>ycp _ _
 rw[sm_congr (n+m) fun a _=>e a,sm_swap (fun a c=>(if T.col c=a then T.cell m c else 0)*g a)]
 refine sm_congr n fun c hc=> ?_
 rw[sm_one (j:=T.col c) (n+m) (G.clt c hc) fun a _ hn=>by rw[if_neg (Ne.symm hn),ydb],if_pos rfl]
theorem Good.total(G:Good n m S w T):sm m (fun k=>Ys n m T (n+k))=T.cell m n:=by
 have e:=G.eq m (yac m) 0 (yaw n)
 rw[rv_last,G.reix (fun a=>nv n S a 0),sm_zero n fun a ha=>by rw[nv_low ha,if_neg (by omega),yca]]at e
 have z:zv w 0=0:=rfl
 have o:one 0=1:=rfl
 rw[z,o,sm_congr m fun k _=>show Ys n m T (n+k)*nv n S (n+k) 0=Ys n m T (n+k) by rw[nv_high,if_pos rfl,Int.mul_one]]at e
 omega
theorem Good.enough(G:Good n m S w T){p:Nat}(hp:p<n):sm m (fun k=>if S k p=true then Ys n m T (n+k)else 0)=T.over*w p+Ys n m T p:=by
 have e:=G.eq m (yac m) (p+1) hp
 rw[rv_last,G.reix (fun a=>nv n S a (p+1)),sm_one (j:=p) n hp fun a ha hn=>by rw[nv_low ha,if_neg (by omega),yca],nv_low hp,if_pos rfl]at e
 have z:zv w (p+1)=w p:=by unfold zv;rw[if_neg (ybm p)];rfl
 have o:one (p+1)=0:=if_neg (ybm p)
 rw[z,o,sm_congr m fun k _=>show Ys n m T (n+k)*nv n S (n+k) (p+1)= -1*(if S k p=true then Ys n m T (n+k)else 0) by
  rw[nv_high,if_neg (ybm p),Nat.add_sub_cancel]
  split<;>omega,sm_mul]at e
 omega
theorem Good.light(G:Good n m S w T){k:Nat}(hk:k<m):sm n (fun p=>if S k p=true then Xs n m T p else 0)<=T.over:=by
 have h:Fn n S T 0 (nv n S (n+k))=1*Fn n S T 0 one-sm n (fun p=>(if S k p=true then 1 else 0)*Fn n S T 0 (nv n S p)):=by
  rw[zcp fun j hj=>nv_set hj,Fn_sum (yaw n) _ _ (fun c=>if S k c=true then 1 else 0) (fun c=>nv n S c)]
 rw[Fn_one G.dt (yaw n),if_pos rfl,G.xs_fn (by omega),sm_congr n fun p hp=>show(if S k p=true then(1:Int)else 0)*Fn n S T 0 (nv n S p)=if S k p=true then Xs n m T p else 0 by
  rw[G.xs_fn (by omega)]
  split<;>omega]at h
 have:=G.xs_nn (n+k)
 omega
theorem Good.prices(G:Good n m S w T):sm n (fun p=>w p*Xs n m T p)=T.cell m n:=by
 have h:=G.base (yac m)
 rw[rv_last,zcp fun j hj=>zv_set (n:=n) (S:=S) hj,Fn_sum (yaw n) _ _ (fun c=> -(w c)) (fun c=>nv n S c),sm_congr n fun p hp=>show -(w p)*Fn n S T 0 (nv n S p)= -1*(w p*Xs n m T p) by rw[G.xs_fn (by omega)];grind,sm_mul]at h
 omega
end
end Sx
namespace Hs
open PySem L2 HsD
noncomputable def top(i:Nat):Stmt:=PySem.Challenge.pw_hueshare_k26_whole_between_crowds_and_hu.main.body.getD i (.Pass ⟨0,0,0,0⟩)
noncomputable abbrev zdc:Stmt:=top 6
noncomputable abbrev s_is_place:Stmt:=top 7
noncomputable abbrev s_are_places:Stmt:=top 8
noncomputable abbrev zdi:Stmt:=top 9
noncomputable abbrev s_is_set:Stmt:=top 10
noncomputable abbrev s_are_ties:Stmt:=top 11
noncomputable abbrev s_is_web:Stmt:=top 12
noncomputable abbrev zch:Stmt:=top 13
noncomputable abbrev s_all_sets:Stmt:=top 14
noncomputable abbrev s_without:Stmt:=top 15
noncomputable abbrev s_has_tie:Stmt:=top 16
noncomputable abbrev zbu:Stmt:=top 18
noncomputable abbrev s_in_both:Stmt:=top 19
noncomputable abbrev zdj:Stmt:=top 20
noncomputable abbrev zcw:Stmt:=top 21
noncomputable abbrev zdb:Stmt:=top 22
noncomputable abbrev zbk:Stmt:=top 23
noncomputable abbrev zcd:Stmt:=top 24
noncomputable abbrev zcc:Stmt:=top 25
noncomputable abbrev zbp:Stmt:=top 27
noncomputable abbrev s_lowest:Stmt:=top 28
noncomputable abbrev zcv:Stmt:=inClass (top 31) 0
noncomputable abbrev zbc:Stmt:=inClass (top 31) 1
noncomputable abbrev zbe:Stmt:=inClass (top 31) 2
noncomputable abbrev zbs:Stmt:=inClass (top 31) 3
noncomputable abbrev zcf:Stmt:=inClass (top 31) 4
noncomputable abbrev zcu:Stmt:=inClass (top 31) 5
noncomputable abbrev zcl:Stmt:=inClass (top 31) 6
noncomputable abbrev zaq:Stmt:=inClass (top 31) 7
noncomputable abbrev zbr:Stmt:=inClass (top 31) 8
noncomputable abbrev zbq:Stmt:=inClass (top 31) 9
noncomputable abbrev s_need_wants:Stmt:=top 32
noncomputable abbrev s_shares:Stmt:=top 33
noncomputable abbrev s_value:Stmt:=top 34
noncomputable abbrev zce:Stmt:=top 36
noncomputable abbrev zck:Stmt:=top 37
noncomputable abbrev zcj:Stmt:=top 38
noncomputable abbrev zcb:Stmt:=top 39
noncomputable abbrev zbi:Stmt:=top 40
noncomputable abbrev zca:Stmt:=top 41
noncomputable abbrev s_fewest:Stmt:=top 42
noncomputable abbrev zdh:Stmt:=top 44
noncomputable abbrev s_law_atape:Stmt:=top 45
noncomputable abbrev zbv:Stmt:=top 46
noncomputable abbrev s_law_aweb:Stmt:=top 47
noncomputable abbrev s_law_alow:Stmt:=top 48
noncomputable abbrev s_law_asum:Stmt:=top 49
noncomputable abbrev zbm:Stmt:=top 50
noncomputable abbrev zda:Stmt:=top 51
noncomputable abbrev zct:Stmt:=top 52
noncomputable abbrev zcs:Stmt:=top 53
noncomputable abbrev zbo:Stmt:=top 54
noncomputable abbrev s_law:Stmt:=top 55
section
variable{P:Program}{w:World}{K:W.Frag}{mg:Str->Option Value}{base:Heap}
noncomputable def spWhole(K:W.Frag):Sp:=fun vs H Q _=>∃x d,vs=[x]/\DX K H x d/\Q (.bl (wholeD d)) H
theorem sc_whole:FnScope ["thing"] ["thing"] (defScope zdc):=fsc
theorem ok_whole{f:Addr}{fd:FuncData}(F:Fun K "is_whole" "is_whole" zdc f fd)(mi:mg "isinstance"=none)(mI:mg "int"=none)(mB:mg "bool"=none):FnOk P w K mg base CX0 1 f fd ["thing"] (spWhole K):=by
 refine F.ok sc_whole (fun vs H Q E h=> ?_) (fun cdv A outer s H vs Q E hr h=> ?_)
 ·obtain⟨x,d,rfl,_⟩:=h
  rfl
 obtain⟨x,d,rfl,hx,q⟩:=h
 refine⟨_,zaf (zak (pe_and (zam call_isi rfl mi (by decide+kernel) (zaa (pv 0) (zaa (pe_bltn rfl mI (v:= .ty "int") (by decide+kernel) rfl) zac)))
  (pe_one (pe_not (zam call_isi rfl mi (by decide+kernel) (zaa (pv 0) (zaa (pe_bltn rfl mB (v:= .ty "bool") (by decide+kernel) rfl) zac))))))),?_⟩
 refine⟨_,rfl,x,_,_,rfl,hx.kind,.inl rfl,_,rfl,?_⟩
 refine ite2 (fun c=> ?_) (fun c=> ?_)
 ·refine⟨_,rfl,x,_,_,rfl,hx.kind,.inr (.inl rfl),_,rfl,?_⟩
  cases d<;>first |exact q|(simp[isiB,kindD]at c;done)
 ·cases d<;>first |exact q|(exfalso;exact c rfl)
noncomputable def spPlace(K:W.Frag):Sp:=fun vs H Q _=>∃(n:Int) (x:V) (d:PyData),vs=[.int n,x]/\DX K H x d/\Q (.bl (placeD n d)) H
theorem sc_place:FnScope ["n","thing"] ["n","thing"] (defScope s_is_place):=fsc
theorem ok_place{f g:Addr}{fd gd:FuncData}(F:Fun K "is_place" "is_place" s_is_place f fd)(D:Dfn K mg "is_whole" zdc ["thing"] g gd)(G:FnOk P w K mg base CX0 1 g gd ["thing"] (spWhole K)):FnOk P w K mg base CX0 2 f fd ["n","thing"] (spPlace K):=by
 refine F.ok sc_place (fun vs H Q E h=> ?_) (fun cdv A outer s H vs Q E hr h=> ?_)
 ·obtain⟨n,x,d,rfl,_⟩:=h
  rfl
 obtain⟨n,x,d,rfl,hx,q⟩:=h
 refine⟨_,zaf (zak (pe_and (pe_call G hr rfl D.m D.F.kp D.b .nil pass0 (zaa (pv 1) zac)) (pe_one (pe_chain op_le op_lt zag (pv 1) (pv 0))))),?_⟩
 refine⟨_,rfl,x,d,rfl,hx,_,rfl,?_⟩
 refine ite2 (fun c=> ?_) (fun c=> ?_)
 ·cases hx with
  |int i=>
   refine⟨_,rfl,_,_,rfl,rfl,_,rfl,?_⟩
   refine ite2 (fun c2=> ?_) (fun c2=> ?_)
   ·refine⟨_,rfl,_,_,rfl,rfl,?_⟩
    have e:placeD n (.int i)=decide (i<n):=by show(decide (0<=i)&&decide (i<n))=_;rw[c2];rfl
    rw[e]at q;exact q
   ·have e:placeD n (.int i)=false:=by show(decide (0<=i)&&decide (i<n))=_;rw[Bool.eq_false_iff.mpr c2];rfl
    rw[e]at q;exact q
  |_=>simp[wholeD]at c
 ·have e:placeD n d=false:=by
   cases d<;>first |rfl|(exfalso;exact c rfl)
  rw[e]at q;exact q
noncomputable def spPlaces(K:W.Frag):Sp:=fun vs H Q _=>∃(n:Int) (a:Addr) (xs:List V) (ds:List PyData),vs=[.int n,.ref a]/\SqT K H a xs/\DXs K H xs ds/\∀H',Same H H'->Q (.bl (ds.all (placeD n))) H'
theorem sc_places:FnScope ["n","things"] ["n","things"] (defScope s_are_places):=fsc
theorem all_take{α:Type}(ds:List α)(p:α->Bool):(ds.map p).all id=ds.all p:=by rw[List.all_map];rfl
theorem ok_places{f g:Addr}{fd gd:FuncData}(F:Fun K "are_places" "are_places" s_are_places f fd)(D:Dfn K mg "is_place" s_is_place ["n","thing"] g gd)(G:FnOk P w K mg base CX0 2 g gd ["n","thing"] (spPlace K))(mA:mg "all"=none):FnOk P w K mg base CX0 3 f fd ["n","things"] (spPlaces K):=by
 refine F.ok sc_places (fun vs H Q E h=> ?_) (fun cdv A outer s H vs Q E hr h=> ?_)
 ·obtain⟨n,a,xs,ds,rfl,_⟩:=h
  rfl
 obtain⟨n,a,xs,ds,rfl,hS,hd,q⟩:=h
 refine⟨_,zaf (zak (zam (call_all rfl) rfl mA (by decide+kernel) (zaa (zaz (own:=["thing"]) (caps:=["n"]) (ix:=[0]) rfl (pi_tupL (pv 1)) rfl rfl (.cons rfl rfl .nil) (fun _ _ _ _ _=>zai (i:=0) (show(["thing","n"]:List Str).Nodup from by decide+kernel) rfl (Or.inl rfl)) (fun _ _ _ _ _=>zbf) (fun _ _ _ _ _=>pe_call G hr rfl D.m D.F.kp D.b .nil pass0 (zaa (pv 1) (zaa (pv 0) zac)))) zac))),?_⟩
 refine⟨_,rfl,a,xs,rfl,hS,fun hz=> ?_⟩
 have hl:=hd.len
 refine comp_tup (xs:=xs) (fun i acc σ H'=>acc=((ds.take i).map (placeD n)).map V.bl/\Same H H'/\∃o,σ=[o,some (.int n)]) ⟨rfl,Same.refl _,_,rfl⟩ (fun i acc σ H' _ p=>p.2.1.tup hS) (fun i acc σ H' hi p=> ?_) hz (fun i x acc σ H' hx p=> ?_) (fun acc σ H' p=> ?_)
 ·rw[p.1];simp;omega
 ·obtain⟨rfl,sm,o,rfl⟩:=p
  obtain⟨d,e1,e2⟩:=hd.get hx
  refine⟨_,rfl,_,rfl,n,x,d,rfl,DX.same sm e2,?_,sm,_,rfl⟩
  rw[ybg,e1]
  simp
 ·intro p1 hp1
  obtain⟨rfl,sm,_⟩:=p
  refine⟨p1,(ds.map (placeD n)),rfl,SqL.of (by rw[zab,hl,ybk]),?_⟩
  rw[all_take]
  exact q _ (sm.trans (zad hp1 _))
noncomputable def RisV(K:W.Frag)(H:Hp)(x y:V)(b:Bool):Prop:=(∃i j,x= .int i/\y= .int j/\b=decide (i<j))\/(∃p q ns ms,x= .ref p/\y= .ref q/\SqT K H p (ns.map V.int)/\SqT K H q (ms.map V.int)/\b=HT.lexLt ns ms)
noncomputable def spRising(K:W.Frag):Sp:=fun vs H Q _=>∃(a:Addr) (xs:List V) (bs:Nat->Bool),vs=[.ref a]/\SqT K H a xs/\(∀k,k+1<xs.length->∃x y,xs[k]? =some x/\xs[k+1]? =some y/\RisV K H x y (bs k))/\
 ∀H',Same H H'->Q (.bl ((List.range (xs.length-1)).all bs)) H'
theorem sc_rising:FnScope ["things"] ["things"] (defScope zdi):=fsc
theorem ok_rising{f:Addr}{fd:FuncData}(F:Fun K "is_rising" "is_rising" zdi f fd)(mA:mg "all"=none)(mR:mg "range"=none)(mL:mg "len"=none):FnOk P w K mg base CX0 1 f fd ["things"] (spRising K):=by
 refine F.ok sc_rising (fun vs H Q E h=> ?_) (fun cdv A outer s H vs Q E hr h=> ?_)
 ·obtain⟨a,xs,bs,rfl,_⟩:=h
  rfl
 obtain⟨a,xs,bs,rfl,hS,hb,q⟩:=h
 refine⟨_,zaf (zak (zam (call_all rfl) rfl mA (by decide+kernel) (zaa (zaz (own:=["k"]) (caps:=["things"]) (ix:=[0]) rfl
  (pi_range2 rfl mR (zaa zag (zaa (zam zba rfl mL PySem.boot_len (zaa (pv 0) zac)) zac))) rfl rfl (.cons rfl rfl .nil) (fun _ _ _ _ _=>zai (i:=0) (show(["k","things"]:List Str).Nodup from by decide+kernel) rfl (Or.inl rfl)) (fun _ _ _ _ _=>zbf) (fun _ _ _ _ _=>pe_cmpR (op_lt.or (op_ltTK K hr.units0)) (zao (ix_tupK K) (pv 1) (zan op_sub (pv 0) zag) (fun _ _=>rfl)) (zao (ix_tupK K) (pv 1) (pv 0) (fun _ _=>rfl)) (nomark _))) zac))),?_⟩
 refine⟨_,rfl,a,xs,rfl,.inr hS,fun hz=>⟨1,_,rfl,⟨by omega,by omega,by omega,by omega⟩,?_⟩⟩
 have en:((xs.length:Int)-1).toNat=xs.length-1:=by omega
 rw[en]
 refine zbn (fun i acc σ H'=>acc=((List.range i).map bs).map V.bl/\Same H H'/\∃o,σ=[o,some (.ref a)]) ⟨rfl,Same.refl _,_,rfl⟩ (fun i acc σ H' hi p=>by rw[p.1];simp) (by rw[sizeLine_eq];omega) (fun i acc σ H' hi p=> ?_) (fun acc σ H' p=> ?_)
 ·obtain⟨rfl,sm,o,rfl⟩:=p
  obtain⟨x,y,hx,hy,hxy⟩:=hb i (by omega)
  have e1:(1+(i:Int))-1=((i:Nat):Int):=by omega
  have e2:(1+(i:Int))=((i+1:Nat):Int):=by omega
  have a1:atI xs (1+(i:Int)-1)=some x:=by rw[e1];exact atI_nat hx
  have a2:atI xs (1+(i:Int))=some y:=by rw[e2];exact atI_nat hy
  refine⟨_,rfl,_,rfl,_,_,rfl,rfl,a,xs,_,x,rfl,rfl,sm.tup hS,a1,_,rfl,_,rfl,a,xs,_,y,rfl,rfl,sm.tup hS,a2,?_⟩
  have ea:((List.range i).map bs).map V.bl++[V.bl (bs i)]=((List.range (i+1)).map bs).map V.bl:=by rw[ybx];simp
  rcases hxy with⟨u,v,rfl,rfl,e⟩|⟨p,p',ns,ms,rfl,rfl,h1,h2,e⟩
  ·refine .inl ⟨u,v,rfl,rfl,?_,sm,_,rfl⟩
   show _++[V.bl (decide (u<v))]=_
   rw[<-e];exact ea
  ·refine .inr ⟨p,p',ns,ms,rfl,rfl,sm.tup h1,sm.tup h2,?_,sm,_,rfl⟩
   show _++[V.bl (HT.lexLt ns ms)]=_
   rw[<-e];exact ea
 ·intro p1 hp1
  obtain⟨rfl,sm,_⟩:=p
  refine⟨p1,(List.range (xs.length-1)).map bs,rfl,SqL.of zab,?_⟩
  rw[all_take]
  exact q _ (sm.trans (zad hp1 _))
theorem ints_of{H:Hp}{n:Int}{xs:List V}{ds:List PyData}(h:DXs K H xs ds)(hp:ds.all (placeD n)=true):xs=(ds.map intD).map V.int:=by
 induction ds generalizing xs with
 |nil=>cases h;rfl
 |cons d ds ih=>
  rw[List.all_cons,Bool.and_eq_true]at hp
  cases h with
  |cons h t=>
   obtain⟨i,rfl,_⟩:=placeD_int hp.1
   cases h
   rw[ycd,ycd,<-ih t hp.2]
   rfl
theorem rises_int{H:Hp}(ns:List Int):∀k,k+1<(ns.map V.int).length->∃x y,(ns.map V.int)[k]? =some x/\(ns.map V.int)[k+1]? =some y/\RisV K H x y (decide (ns.getD k 0<ns.getD (k+1) 0)):=fun k hk=>by
 rw[yaa]at hk
 have h1:k<ns.length:=by omega
 refine⟨.int (ns.getD k 0),.int (ns.getD (k+1) 0),by simp[h1],by simp[hk],.inl ⟨_,_,rfl,rfl,rfl⟩⟩
noncomputable def spSet(K:W.Frag):Sp:=fun vs H Q _=>∃(n:Int) (x:V) (d:PyData),vs=[.int n,x]/\DX K H x d/\∀H',Same H H'->Q (.bl (setD n d)) H'
theorem sc_set:FnScope ["n","thing"] ["n","thing"] (defScope s_is_set):=fsc
theorem ok_set{f f1 f2:Addr}{fd d1 d2:FuncData}(F:Fun K "is_set" "is_set" s_is_set f fd)(D1:Dfn K mg "are_places" s_are_places ["n","things"] f1 d1)(G1:FnOk P w K mg base CX0 3 f1 d1 ["n","things"] (spPlaces K))(D2:Dfn K mg "is_rising" zdi ["things"] f2 d2)(G2:FnOk P w K mg base CX0 1 f2 d2 ["things"] (spRising K))(mi:mg "isinstance"=none)(mT:mg "tuple"=none):FnOk P w K mg base CX0 4 f fd ["n","thing"] (spSet K):=by
 refine F.ok sc_set (fun vs H Q E h=> ?_) (fun cdv A outer s H vs Q E hr h=> ?_)
 ·obtain⟨n,x,d,rfl,_⟩:=h
  rfl
 obtain⟨n,x,d,rfl,hx,q⟩:=h
 refine⟨_,zaf (zak (pe_and (zam call_isi rfl mi (by decide+kernel) (zaa (pv 1) (zaa (pe_bltn rfl mT (v:= .ty "tuple") (by decide+kernel) rfl) zac)))
  (pe_and (pc G1 hr D1 (zaa (pv 0) (zaa (pv 1) zac))) (pe_one (pc G2 hr D2 (zaa (pv 1) zac)))))),?_⟩
 refine⟨_,rfl,x,_,_,rfl,hx.kind,.inr (.inr (.inl rfl)),_,rfl,?_⟩
 refine ite2 (fun c=> ?_) (fun c=> ?_)
 ·cases hx with
  | @tup a xs ds h t=>
   refine⟨_,rfl,_,rfl,n,a,xs,ds,rfl,h,t,fun H1 sm=>⟨_,rfl,?_⟩⟩
   refine ite2 (fun c2=> ?_) (fun c2=> ?_)
   ·have ex:=ints_of t c2
    refine⟨_,rfl,a,xs,fun k=>decide ((ds.map intD).getD k 0<(ds.map intD).getD (k+1) 0),rfl,sm.tup h,?_,fun H2 sm2=> ?_⟩
    ·rw[ex];exact rises_int _
    ·have e:setD n (.tuple ds)=(List.range (xs.length-1)).all fun k=>decide ((ds.map intD).getD k 0<(ds.map intD).getD (k+1) 0):=by
      show(ds.all (placeD n)&&risesI (ds.map intD))=_
      rw[c2,t.len]
      show risesI (ds.map intD)=_
      unfold risesI
      rw[yaa]
     have:=q H2 (sm.trans sm2)
     rw[e]at this;exact this
   ·have e:setD n (.tuple ds)=false:=by
     show(ds.all (placeD n)&&risesI (ds.map intD))=_
     rw[Bool.eq_false_iff.mpr c2];rfl
    have:=q H1 sm
    rw[e]at this;exact this
  |_=>simp[isiB,kindD]at c
 ·have e:setD n d=false:=by
   cases d<;>first |rfl|(exfalso;exact c rfl)
  have:=q H (Same.refl _)
  rw[e]at this;exact this
noncomputable def spTies(K:W.Frag):Sp:=fun vs H Q _=>∃(n:Int) (x:V) (d:PyData),vs=[.int n,x]/\DX K H x d/\∀H',Same H H'->Q (.bl (tiesD n d)) H'
theorem sc_ties:FnScope ["n","thing"] ["n","thing"] (defScope s_are_ties):=fsc
theorem tie_tup{H:Hp}{n:Int}{x:V}{d:PyData}(h:DX K H x d)(ht:tieD n d=true):∃p,x= .ref p/\SqT K H p (((kids d).map intD).map V.int):=by
 cases h with
 | @tup a xs ds h t=>
  have q:(ds.all (placeD n)&&risesI (ds.map intD)&&decide (ds.length=2))=true:=ht
  rw[Bool.and_eq_true,Bool.and_eq_true]at q
  exact⟨a,rfl,by rw[ints_of t q.1.1]at h;exact h⟩
 |_=>simp[tieD,setD]at ht
theorem rises_tup{H:Hp}{n:Int}{xs:List V}{ds:List PyData}(t:DXs K H xs ds)(ha:ds.all (tieD n)=true):∀k,k+1<xs.length->∃x y,xs[k]? =some x/\xs[k+1]? =some y/\
  RisV K H x y (HT.lexLt ((ds.map fun t=>(kids t).map intD).getD k []) ((ds.map fun t=>(kids t).map intD).getD (k+1) [])):=fun k hk=>by
 have hl:=t.len
 have h1:k<xs.length:=by omega
 obtain⟨d1,e1,x1⟩:=t.get (i:=k) (x:=xs[k]) (by simp[h1])
 obtain⟨d2,e2,x2⟩:=t.get (i:=k+1) (x:=xs[k+1]) (by simp[hk])
 have m1:=ybb.mp ha d1 (yav e1)
 have m2:=ybb.mp ha d2 (yav e2)
 obtain⟨p1,q1,s1⟩:=tie_tup x1 m1
 obtain⟨p2,q2,s2⟩:=tie_tup x2 m2
 refine⟨xs[k],xs[k+1],by simp[h1],by simp[hk],.inr ⟨p1,p2,_,_,q1,q2,s1,s2,?_⟩⟩
 have g1:(ds.map fun t=>(kids t).map intD).getD k []=(kids d1).map intD:=by rw[yai,yaf,e1];rfl
 have g2:(ds.map fun t=>(kids t).map intD).getD (k+1) []=(kids d2).map intD:=by rw[yai,yaf,e2];rfl
 rw[g1,g2]
theorem ok_ties{f f1 f2:Addr}{fd d1 d2:FuncData}(F:Fun K "are_ties" "are_ties" s_are_ties f fd)(D1:Dfn K mg "is_set" s_is_set ["n","thing"] f1 d1)(G1:FnOk P w K mg base CX0 4 f1 d1 ["n","thing"] (spSet K))(D2:Dfn K mg "is_rising" zdi ["things"] f2 d2)(G2:FnOk P w K mg base CX0 1 f2 d2 ["things"] (spRising K))(mi:mg "isinstance"=none)(mT:mg "tuple"=none)(mA:mg "all"=none)(mL:mg "len"=none):FnOk P w K mg base CX0 5 f fd ["n","thing"] (spTies K):=by
 refine F.ok sc_ties (fun vs H Q E h=> ?_) (fun cdv A outer s H vs Q E hr h=> ?_)
 ·obtain⟨n,x,d,rfl,_⟩:=h
  rfl
 obtain⟨n,x,d,rfl,hx,q⟩:=h
 refine⟨_,zae (zcr (pt_not (zdl (zam call_isi rfl mi (by decide+kernel) (zaa (pv 1) (zaa (pe_bltn rfl mT (v:= .ty "tuple") (by decide+kernel) rfl) zac))))) (zaf (zak pe_bl)) zas) (zaf (zak (pe_and (zam (call_all rfl) rfl mA (by decide+kernel) (zaa (zaz (own:=["tie"]) (caps:=["n"]) (ix:=[0]) rfl (pi_tupL (pv 1)) rfl rfl (.cons rfl rfl .nil) (fun _ _ _ _ _=>zai (i:=0) (show(["tie","n"]:List Str).Nodup from by decide+kernel) rfl (Or.inl rfl)) (fun _ _ _ _ _=>zbf) (fun _ _ _ _ _=>pe_and (pc G1 hr D1 (zaa (pv 1) (zaa (pv 0) zac))) (pe_one (pe_cmpR op_eq (zam (call_lenK K) rfl mL PySem.boot_len (zaa (pv 0) zac)) zag (nomark _))))) zac))
  (pe_one (pc G2 hr D2 (zaa (pv 1) zac)))))),?_⟩
 refine⟨_,rfl,x,_,_,rfl,hx.kind,.inr (.inr (.inl rfl)),_,rfl,?_⟩
 refine ite2 (fun c=> ?_) (fun c=> ?_)
 ·have e:tiesD n d=false:=by
   cases d<;>first |rfl|(exfalso;simp[isiB,kindD]at c;done)
  have:=q H (Same.refl _)
  rw[e]at this;exact this
 ·cases hx with
  | @tup a xs ds h t=>
   refine⟨_,rfl,a,xs,rfl,h,fun hz=> ?_⟩
   have hl:=t.len
   refine comp_tup (xs:=xs) (fun i acc σ H'=>acc=((ds.take i).map (tieD n)).map V.bl/\Same H H'/\∃o,σ=[o,some (.int n)]) ⟨rfl,Same.refl _,_,rfl⟩ (fun i acc σ H' _ p=>p.2.1.tup h) (fun i acc σ H' hi p=> ?_) hz (fun i x acc σ H' hx p=> ?_) (fun acc σ H' p=> ?_)
   ·rw[p.1];simp;omega
   ·obtain⟨rfl,sm,o,rfl⟩:=p
    obtain⟨d,e1,e2⟩:=t.get hx
    refine⟨_,rfl,_,rfl,n,x,d,rfl,DX.same sm e2,fun H1 sm1=>⟨_,rfl,?_⟩⟩
    have ea:∀b,b=tieD n d->((ds.take i).map (tieD n)).map V.bl++[V.bl b]=((ds.take (i+1)).map (tieD n)).map V.bl:=fun b hb=>by
     rw[ybg,e1,hb];simp
    refine ite2 (fun c2=> ?_) (fun c2=> ?_)
    ·cases e2 with
     | @tup a2 xs2 ds2 h2 t2=>
      refine⟨_,rfl,a2,xs2,rfl,.inr (sm1.tup (sm.tup h2)),fun hz2=>⟨rfl,ea _ ?_,sm.trans sm1,_,rfl⟩⟩
      show decide (V.int (xs2.length:Int)=V.int 2)=(setD n (.tuple ds2)&&decide (ds2.length=2))
      rw[c2,t2.len]
      by_cases e3:ds2.length=2
      ·rw[e3];rfl
      ·rw[decide_eq_false e3,decide_eq_false (by intro z;injection z with z;exact e3 (by omega))];rfl
     |_=>simp[setD]at c2
    ·refine⟨ea _ ?_,sm.trans sm1,_,rfl⟩
     show false=(setD n d&&decide ((kids d).length=2))
     rw[Bool.eq_false_iff.mpr c2];rfl
   ·intro p1 hp1
    obtain⟨rfl,sm,_⟩:=p
    have sm':Same H (upd H' p1 (.lst (((ds.take xs.length).map (tieD n)).map V.bl))):=sm.trans (zad hp1 _)
    refine⟨p1,(ds.map (tieD n)),rfl,SqL.of (by rw[zab,hl,ybk]),_,rfl,?_⟩
    rw[all_take]
    refine ite2 (fun c2=> ?_) (fun c2=> ?_)
    ·refine⟨_,rfl,a,xs,fun k=>HT.lexLt ((ds.map fun t=>(kids t).map intD).getD k []) ((ds.map fun t=>(kids t).map intD).getD (k+1) []),rfl,sm'.tup h,?_,fun H2 sm2=> ?_⟩
     ·exact rises_tup (DXs.same sm' t) c2
     ·have e:tiesD n (.tuple ds)=(List.range (xs.length-1)).all fun k=>HT.lexLt ((ds.map fun t=>(kids t).map intD).getD k []) ((ds.map fun t=>(kids t).map intD).getD (k+1) []):=by
       show(ds.all (tieD n)&&risesT (ds.map fun t=>(kids t).map intD))=_
       rw[c2,hl]
       show risesT (ds.map fun t=>(kids t).map intD)=_
       unfold risesT
       rw[yaa]
      have:=q H2 (sm'.trans sm2)
      rw[e]at this;exact this
    ·have e:tiesD n (.tuple ds)=false:=by
      show(ds.all (tieD n)&&risesT (ds.map fun t=>(kids t).map intD))=_
      rw[Bool.eq_false_iff.mpr c2];rfl
     have:=q _ sm'
     rw[e]at this;exact this
  |_=>exfalso;exact c rfl
end
end Hs
namespace HsD
open PySem L2
noncomputable def pairD(p:Int×Int):PyData:= .tuple [.int p.1,.int p.2]
noncomputable def webDat(n:Int)(ts:List (Int×Int)):PyData:= .tuple [.int n,.tuple (ts.map pairD)]
noncomputable def WebV(K:W.Frag)(H:Hp)(a:Addr)(n:Int)(ts:List (Int×Int)):Prop:=∃t rs,SqT K H a [.int n,.ref t]/\SqT K H t rs/\DVs K H rs (ts.map pairD)
theorem WebV.dv{K:W.Frag}{H:Hp}{a:Addr}{n:Int}{ts:List (Int×Int)}(h:WebV K H a n ts):DV K H (.ref a) (webDat n ts):=by
 obtain⟨t,rs,h1,h2,h3⟩:=h
 exact .tup h1 (.cons (.int n) (.cons (.tup h2 h3) .nil))
theorem WebV.same{K:W.Frag}{H H':Hp}{a:Addr}{n:Int}{ts:List (Int×Int)}(h:WebV K H a n ts)(e:Same H H'):WebV K H' a n ts:=by
 obtain⟨t,rs,h1,h2,h3⟩:=h
 exact⟨t,rs,e.tup h1,e.tup h2,DVs.same e h3⟩
noncomputable def hasTie(ts:List (Int×Int))(i j:Int):Bool:=decide ((if j<i then j else i,if j>i then j else i)∈ts)
theorem eqv_pair(p q:Int×Int):PyData.eqv (pairD p) (pairD q)=decide (p=q):=by
 obtain⟨a,b⟩:=p
 obtain⟨c,d⟩:=q
 show((a==c)&&((b==d)&&true))=_
 rw[Bool.eq_iff_iff]
 simp
theorem lay_pairs:∀ts:List (Int×Int),PyData.canLayAll0 (ts.map pairD)=true
 |[]=>rfl
 |p::ts=>by
  show(PyData.canLay0 (pairD p)&&PyData.canLayAll0 (ts.map pairD))=true
  rw[lay_pairs ts];rfl
theorem any_pair(ts:List (Int×Int))(q:Int×Int):((ts.map pairD).any fun d=>PyData.eqv d (pairD q))=decide (q∈ts):=by
 rw[List.any_map,Bool.eq_iff_iff,List.any_eq_true]
 constructor
 ·rintro⟨p,hp,h⟩
  have h':PyData.eqv (pairD p) (pairD q)=true:=h
  rw[eqv_pair]at h'
  have e:p=q:=of_decide_eq_true h'
  subst e
  exact decide_eq_true hp
 ·intro h
  refine⟨q,of_decide_eq_true h,?_⟩
  show PyData.eqv (pairD q) (pairD q)=true
  rw[eqv_pair]
  exact decide_eq_true rfl
end HsD
namespace Hs
open PySem L2 HsD
section
variable{P:Program}{w:World}{K:W.Frag}{mg:Str->Option Value}{base:Heap}
noncomputable def spWeb(K:W.Frag):Sp:=fun vs H Q _=>∃(x:V) (d:PyData),vs=[x]/\DX K H x d/\∀H',Same H H'->Q (.bl (webD d)) H'
theorem sc_web:FnScope ["thing","n"] ["thing"] (defScope s_is_web):=fsc
theorem ok_web{f f1 f2:Addr}{fd d1 d2:FuncData}{tk:Tok}(F:Fun K "is_web" "is_web" s_is_web f fd)(D1:Dfn K mg "is_whole" zdc ["thing"] f1 d1)(G1:FnOk P w K mg base CX0 1 f1 d1 ["thing"] (spWhole K))(D2:Dfn K mg "are_ties" s_are_ties ["n","thing"] f2 d2)(G2:FnOk P w K mg base CX0 5 f2 d2 ["n","thing"] (spTies K))(mi:mg "isinstance"=none)(mT:mg "tuple"=none)(mL:mg "len"=none)(mM:mg "MOST_PLACES"=some (.int 10 tk)):FnOk P w K mg base CX0 6 f fd ["thing"] (spWeb K):=by
 refine F.ok sc_web (fun vs H Q E h=> ?_) (fun cdv A outer s H vs Q E hr h=> ?_)
 ·obtain⟨x,d,rfl,_⟩:=h
  rfl
 obtain⟨x,d,rfl,hx,q⟩:=h
 refine⟨_,zae (zcr (PW.pt (pw_or (pt_not (zdl (zam call_isi rfl mi (by decide+kernel) (zaa (pv 0) (zaa (pe_bltn rfl mT (v:= .ty "tuple") (by decide+kernel) rfl) zac)))))
   (pw_or1 (zap op_ne (zam zba rfl mL PySem.boot_len (zaa (pv 0) zac)) zag (nomark _))))) (zaf (zak pe_bl)) zas) (zae (zal (i:=1) sc_web.nd rfl (Or.inl rfl) (zao zat (pv 0) zag (fun _ _=>rfl))) (zaf (zak (pe_and (pc G1 hr D1 (zaa (pv 1) zac)) (pe_and (pe_chain op_le op_le zag (pv 1) (pe_glob rfl mM (v:= .int 10) ⟨_,rfl⟩))
   (pe_one (pc G2 hr D2 (zaa (pv 1) (zaa (zao zat (pv 0) zag (fun _ _=>rfl)) zac))))))))),?_⟩
 refine⟨_,rfl,x,_,_,rfl,hx.kind,.inr (.inr (.inl rfl)),_,rfl,?_⟩
 refine ite2 (fun c=> ?_) (fun c=> ?_)
 ·have e:webD d=false:=by
   cases d<;>first |rfl|(exfalso;simp[isiB,kindD]at c;done)
  have:=q H (Same.refl _)
  rw[e]at this;exact this
 ·cases hx with
  | @tup a xs ds h t=>
   have hl:=t.len
   refine⟨_,rfl,a,xs,rfl,.inr h,fun hz=>⟨rfl,_,rfl,?_⟩⟩
   refine ite2 (fun c2=> ?_) (fun c2=> ?_)
   ·have e:webD (.tuple ds)=false:=by
     match ds,hl with
     |[],_=>rfl
     |[_],_=>rfl
     |[_,_],hl=>
      exfalso
      have e2:(!decide (V.int (xs.length:Int)=V.int 2))=true:=c2
      rw[hl]at e2
      simp at e2
     |_::_::_::_,_=>rfl
    have:=q H (Same.refl _)
    rw[e]at this;exact this
   ·have e2:xs.length=2:=by
     have e2:¬(!decide (V.int (xs.length:Int)=V.int 2))=true:=c2
     simp at e2
     omega
    cases t with
    |nil=>simp at e2
    |cons h0 t0=>
     cases t0 with
     |nil=>simp at e2
     | @cons x1 dd1 xs1 ds1 h1 t1=>
      cases t1 with
      |cons _ _=>simp at e2
      |nil=>
       rename_i x0 dd0
       refine⟨_,rfl,a,_,_,x0,rfl,rfl,h,by rfl,?_⟩
       refine⟨_,rfl,x0,dd0,rfl,h0,_,rfl,?_⟩
       refine ite2 (fun c3=> ?_) (fun c3=> ?_)
       ·cases h0 with
        |int n=>
         refine⟨_,rfl,_,_,rfl,rfl,_,rfl,?_⟩
         have fin:∀b,b=webD (.tuple [.int n,dd1])->∀H',Same H H'->Q (.bl b) H':=fun b hb H' sm=>by rw[hb];exact q H' sm
         have wd:webD (.tuple [.int n,dd1])=((decide (0<=n)&&decide (n<=10))&&tiesD n dd1):=rfl
         refine ite2 (fun c4=> ?_) (fun c4=> ?_)
         ·refine⟨_,_,rfl,rfl,_,rfl,?_⟩
          refine ite2 (fun c5=> ?_) (fun c5=> ?_)
          ·refine⟨_,rfl,_,rfl,a,_,_,x1,rfl,rfl,h,by rfl,n,x1,dd1,rfl,h1,fun H' sm=>fin _ ?_ H' sm⟩
           rw[wd,c4,c5];rfl
          ·refine fin _ ?_ H (Same.refl _)
           rw[wd,Bool.eq_false_iff.mpr c5,Bool.and_false];rfl
         ·refine⟨_,rfl,?_⟩
          refine iteF (fin _ ?_ H (Same.refl _))
          rw[wd,Bool.eq_false_iff.mpr c4];rfl
        |_=>simp[wholeD]at c3
       ·have e:webD (.tuple [dd0,dd1])=false:=by
         show(wholeD dd0&&(decide (0<=intD dd0)&&decide (intD dd0<=10))&&tiesD (intD dd0) dd1)=false
         rw[Bool.eq_false_iff.mpr c3];rfl
        have:=q H (Same.refl _)
        rw[e]at this;exact this
  |_=>exfalso;exact c rfl
noncomputable def spNeedWeb(K:W.Frag):Sp:=fun vs H Q _=>∃(x:V) (d:PyData),vs=[x]/\DX K H x d/\webD d=true/\∀H',Same H H'->Q .non H'
theorem sc_needWeb:FnScope ["thing"] ["thing"] (defScope zch):=fsc
theorem ok_needWeb{f f1:Addr}{fd d1:FuncData}(F:Fun K "need_web" "need_web" zch f fd)(D1:Dfn K mg "is_web" s_is_web ["thing"] f1 d1)(G1:FnOk P w K mg base CX0 6 f1 d1 ["thing"] (spWeb K)):FnOk P w K mg base CX0 7 f fd ["thing"] (spNeedWeb K):=by
 refine F.ok sc_needWeb (fun vs H Q E h=> ?_) (fun cdv A outer s H vs Q E hr h=> ?_)
 ·obtain⟨x,d,rfl,_⟩:=h
  rfl
 obtain⟨x,d,rfl,hx,hw,q⟩:=h
 refine⟨_,zaf (zcr (pt_not (zdl (pc G1 hr D1 (zaa (pv 0) zac)))) pss_never zas),?_⟩
 refine⟨_,rfl,x,d,rfl,hx,fun H' sm=>⟨_,rfl,?_⟩⟩
 rw[hw]
 exact iteF (q H' sm)
noncomputable def spHas(K:W.Frag):Sp:=fun vs H Q _=>∃(a:Addr) (n i j:Int) (ts:List (Int×Int)),vs=[.ref a,.int i,.int j]/\WebV K H a n ts/\∀H',Same H H'->Q (.bl (hasTie ts i j)) H'
theorem sc_has:FnScope ["web","one","other"] ["web","one","other"] (defScope s_has_tie):=fsc
theorem ok_has{f:Addr}{fd:FuncData}(F:Fun K "has_tie" "has_tie" s_has_tie f fd)(mi:mg "min"=none)(ma:mg "max"=none):FnOk P w K mg base CX0 1 f fd ["web","one","other"] (spHas K):=by
 refine F.ok sc_has (fun vs H Q E h=> ?_) (fun cdv A outer s H vs Q E hr h=> ?_)
 ·obtain⟨a,n,i,j,ts,rfl,_⟩:=h
  rfl
 obtain⟨a,n,i,j,ts,rfl,hW,q⟩:=h
 refine⟨_,zaf (zak (pe_cmpR (op_inD hr.units) (zaw (zaa (zam (call_min2 rfl) rfl mi (by decide+kernel) (zaa (pv 1) (zaa (pv 2) zac))) (zaa (zam (call_max2 rfl) rfl ma (by decide+kernel) (zaa (pv 1) (zaa (pv 2) zac))) zac)))
  (zao zat (pv 0) zag (fun _ _=>rfl)) (by with_unfolding_all rfl))),?_⟩
 refine⟨_,rfl,_,rfl,_,_,rfl,_,rfl,_,rfl,_,_,rfl,(by show 2<=sizeLine;decide),fun p hp=> ?_⟩
 have sm:=zad hp (.tup [.int (if j<i then j else i),.int (if j>i then j else i)])
 obtain⟨t,rs,h1,h2,h3⟩:=hW.same sm
 refine⟨_,rfl,a,_,_,.ref t,rfl,rfl,h1,rfl,t,rs,_,pairD (if j<i then j else i,if j>i then j else i),rfl,.inr h2,h3,.tup (SqT.of zab) (.cons (.int _) (.cons (.int _) .nil)),lay_pairs ts,rfl,(by show max 0 (max 0 0)+1<=60;decide),?_⟩
 rw[any_pair]
 exact q _ sm
end
noncomputable def WebOk(n:Int)(ts:List (Int×Int)):Prop:=webD (webDat n ts)=true
end Hs
namespace L2
open PySem
noncomputable def SameX(t:Addr)(H H':Hp):Prop:=∀b o,b≠t->H b=some o->H' b=some o
theorem SameX.refl(t:Addr)(H:Hp):SameX t H H:=fun _ _ _ h=>h
theorem SameX.trans{t:Addr}{H H1 H2:Hp}(a:SameX t H H1)(b:SameX t H1 H2):SameX t H H2:=fun c o n h=>b c o n (a c o n h)
theorem Same.x{H H':Hp}(h:Same H H')(t:Addr):SameX t H H':=fun b o _ e=>h b o e
theorem SameX.upd{t:Addr}{H H':Hp}{o:HO}(h:SameX t H H'):SameX t H (upd H' t o):=fun b u n e=>by rw[zaj n];exact h b u n e
noncomputable def ScrV(K:W.Frag)(H:Hp)(scr:Addr)(ns:List Int):Prop:=(∃o,H scr=some (.frz o (.lst (ns.map V.int))))\/
 ∃(o:Obj) (its:Array Value) (n:Nat),K.lookup scr=some o/\o.cls= .type "list"/\o.dict=none/\o.data= .seq its n/\its.size<=sizeLine/\Vals (ns.map V.int) its.toList
theorem ScrV.sq{K:W.Frag}{H:Hp}{scr:Addr}{ns:List Int}(h:ScrV K H scr ns):SqL K H scr (ns.map V.int):=by
 rcases h with⟨o,h⟩|h
 ·exact .inl (.inr ⟨o,h⟩)
 ·exact .inr h
theorem ScrV.same{K:W.Frag}{H H':Hp}{scr:Addr}{ns:List Int}(h:ScrV K H scr ns)(e:Same H H'):ScrV K H' scr ns:=by
 rcases h with⟨o,h⟩|h
 ·exact .inl ⟨o,e _ _ h⟩
 ·exact .inr h
theorem lay_ints:∀ns:List Int,PyData.canLayAll0 (ns.map PyData.int)=true
 |[]=>rfl
 |n::ns=>by
  show(true&&PyData.canLayAll0 (ns.map PyData.int))=true
  rw[lay_ints ns];rfl
theorem none_ne'{H:Hp}{a b:Addr}{o:HO}(h:H a=some o)(n:H b=none):b≠a:=fun e=>by rw[e,h]at n;cases n
end L2
namespace Hs
open PySem L2 HsD
section
variable{P:Program}{w:World}{K:W.Frag}{mg:Str->Option Value}{base:Heap}
theorem mod_nn(a:Int){b:Int}(h:0<b):0<=a %b:=Int.emod_nonneg _ (by omega)
theorem mod_lt(a:Int){b:Int}(h:0<b):a %b<b:=Int.emod_lt_of_pos _ h
theorem at_ints{ns:List Int}{k:Int}(h0:0<=k)(h1:k<(ns.length:Int)):∃v:Int,atI (ns.map V.int) k=some (.int v):=by
 have hk:k.toNat<ns.length:=by omega
 have ek:((k.toNat:Nat):Int)=k:=by omega
 have q:atI (ns.map V.int) ((k.toNat:Nat):Int)=some (.int ns[k.toNat]):=atI_nat (by rw[yaf,yag hk];rfl)
 rw[ek]at q
 exact⟨_,q⟩
noncomputable def spCell(K:W.Frag):Sp:=fun vs H Q _=>∃(scr:Addr) (ns:List Int) (k:Int),vs=[.ref scr,.int k]/\ScrV K H scr ns/\0<=k/\∀c:Int,Q (.int c) H
theorem sc_cell:FnScope ["script","k"] ["script","k"] (defScope zdh):=fsc
theorem ok_cell{f:Addr}{fd:FuncData}(F:Fun K "_law_acell" "_law_acell" zdh f fd)(mL:mg "len"=none):FnOk P w K mg base CX0 1 f fd ["script","k"] (spCell K):=by
 refine F.ok sc_cell (fun vs H Q E h=> ?_) (fun cdv A outer s H vs Q E hr h=> ?_)
 ·obtain⟨m,n,k,rfl,_⟩:=h
  rfl
 obtain⟨scr,ns,k,rfl,hS,hk,q⟩:=h
 refine⟨_,zae (zcr (zap op_lt (pv 1) (zam zba rfl mL PySem.boot_len (zaa (pv 0) zac)) (nomark _)) (zaf (zak (zao zau (pv 0) (pv 1) (fun _ _=>rfl)))) zas) (zaf (zak zag)),?_⟩
 refine⟨_,rfl,_,rfl,scr,_,rfl,.inl hS.sq,fun hz=>⟨_,_,rfl,rfl,_,rfl,?_⟩⟩
 refine ite2 (fun c=> ?_) (fun c=> ?_)
 ·have c3:k<((ns.map V.int).length:Int):=of_decide_eq_true c
  rw[yaa]at c3
  obtain⟨v,hx⟩:=at_ints hk c3
  exact⟨_,rfl,_,rfl,scr,_,_,_,rfl,rfl,hS.sq,hx,q v⟩
 ·exact q 0
noncomputable def spTape(K:W.Frag):Sp:=fun vs H Q _=>∃(scr:Addr) (ns:List Int) (k:Int),vs=[.ref scr,.int k]/\ScrV K H scr ns/\0<=k/\∀p H' t,Same H H'->H' p=some (.lst [.int t])->H p=none->Q (.ref p) H'
theorem sc_tape:FnScope ["script","k","cell","p","number","last","turn"] ["script","k"] (defScope s_law_atape):=fsc
theorem ok_tape{f f1:Addr}{fd d1:FuncData}(F:Fun K "_law_atape" "_law_atape" s_law_atape f fd)(D1:Dfn K mg "_law_acell" zdh ["script","k"] f1 d1)(G1:FnOk P w K mg base CX0 1 f1 d1 ["script","k"] (spCell K))(mR:mg "range"=none):
  FnOk P w K mg base CX0 2 f fd ["script","k"] (spTape K):=by
 refine F.ok sc_tape (fun vs H Q E h=> ?_) (fun cdv A outer s H vs Q E hr h=> ?_)
 ·obtain⟨m,n,k,rfl,_⟩:=h
  rfl
 obtain⟨scr,ns,k,rfl,hS,hk,q⟩:=h
 refine⟨_,zae (zal (i:=2) sc_tape.nd rfl (Or.inl rfl) (pc G1 hr D1 (zaa (pv 0) (zaa (pv 1) zac)))) (zae (zcr (zap op_eq (zan op_mod (pv 2) zag) zag (nomark _)) (zaf (zak (pe_lst (zaa (zan op_fdiv (pv 2) zag) zac)))) zas) (zae (zal (i:=3) sc_tape.nd rfl (Or.inl rfl) zag) (zae (zal (i:=4) sc_tape.nd rfl (Or.inl rfl) zag) (zae (zal (i:=5) sc_tape.nd rfl (Or.inl rfl) (zan op_mod (zan zby (zan zby (zan zcn (zan op_mod (pv 2) (pv 3)) zag) (zan zcn zag (pv 1))) zag) (pv 3))) (zae (ps_for PassesOwn.never rfl (zay rfl mR (zaa zag zac)) (zai (i:=6) sc_tape.nd rfl (Or.inl rfl)) (zae (zal (i:=4) sc_tape.nd rfl (Or.inl rfl) (zan zby (zan zcn (pv 4) (pv 3)) (pv 5))) (zaf (zal (i:=5) sc_tape.nd rfl (Or.inl rfl) (zan op_mod (zan zby (zan zby (zan zcn (pv 5) (pv 5)) (zan zcn zag (pv 1))) (pv 6)) (pv 3)))))) (zaf (zak (pe_lst (zaa (pv 4) zac))))))))),?_⟩
 refine⟨_,rfl,_,rfl,scr,ns,k,rfl,hS,hk,fun c=> ?_⟩
 refine⟨_,rfl,_,_,rfl,rfl,(by show(0:Int)<2;decide),rfl,_,rfl,?_⟩
 refine ite2 (fun c1=> ?_) (fun c1=> ?_)
 ·exact⟨_,rfl,_,_,rfl,rfl,⟨by decide,by decide⟩,(by show 1<=sizeLine;decide),fun p hp=>q p _ _ (zad hp _) zab hp⟩
 ·refine⟨_,rfl,_,rfl,_,_,rfl,rfl,(by show(0:Int)<2305843009213693951;decide),_,_,rfl,rfl,.inr ⟨by decide,by decide⟩,_,rfl,_,_,rfl,rfl,.inl ⟨by decide,by decide⟩,_,_,rfl,rfl,_,_,rfl,rfl,_,rfl,_,_,rfl,rfl,(by show(0:Int)<2305843009213693951;decide),?_⟩
  generalize hfirst:((fun i j=>V.int (i %j)) _ _:V)=vf
  obtain⟨a1,e1,a2,a3⟩:∃a:Int,vf= .int a/\0<=a/\a<2305843009213693951:=⟨_,hfirst.symm,mod_nn _ (by decide),mod_lt _ (by decide)⟩
  rw[e1]
  refine⟨9,rfl,by decide,by decide,?_⟩
  refine zbz (n:=9) (fun i σ H'=>H'=H/\∃(b l:Int) (o:Option V),σ=[some (.ref scr),some (.int k),some (.int c),some (.int 2305843009213693951),some (.int b),some (.int l),o]/\0<=l/\l<2305843009213693951) ⟨rfl,_,_,_,rfl,a2,a3⟩ (fun i σ H' hi p=> ?_) (fun σ H' p=> ?_)
  ·obtain⟨rfl,b,l,o,rfl,h0,h1⟩:=p
   refine⟨_,rfl,_,rfl,_,_,rfl,rfl,.inr ⟨by decide,by decide⟩,_,rfl,_,_,rfl,rfl,?_⟩
   refine⟨_,rfl,_,rfl,_,_,rfl,rfl,.inl ⟨by omega,by omega⟩,_,rfl,_,_,rfl,rfl,.inl ⟨by decide,by decide⟩,_,_,rfl,rfl,_,rfl,_,_,rfl,rfl,_,rfl,_,_,rfl,rfl,(by show(0:Int)<2305843009213693951;decide),?_⟩
   exact⟨rfl,_,_,_,rfl,mod_nn _ (by decide),mod_lt _ (by decide)⟩
  ·obtain⟨rfl,b,l,o,rfl,h0,h1⟩:=p
   exact⟨_,rfl,(by show 1<=sizeLine;decide),fun p hp=>q p _ _ (zad hp _) zab hp⟩
noncomputable def spDig(K:W.Frag):Sp:=fun vs H Q _=>∃(tp:Addr) (t m:Int),vs=[.ref tp,.int m]/\H tp=some (.lst [.int t])/\0<m/\m<1000000000000000000000000000000/\∀r t':Int,0<=r->r<m->Q (.int r) (upd H tp (.lst [.int t']))
theorem sc_dig:FnScope ["tape","many","found"] ["tape","many"] (defScope zbv):=fsc
theorem ok_dig{f:Addr}{fd:FuncData}(F:Fun K "_law_adigit" "_law_adigit" zbv f fd):FnOk P w K mg base CX0 1 f fd ["tape","many"] (spDig K):=by
 refine F.ok sc_dig (fun vs H Q E h=> ?_) (fun cdv A outer s H vs Q E hr h=> ?_)
 ·obtain⟨m,n,k,rfl,_⟩:=h
  rfl
 obtain⟨tp,t,m,rfl,hH,hm0,hm1,q⟩:=h
 refine⟨_,zae (zal (i:=2) sc_dig.nd rfl (Or.inl rfl) (zan op_mod (zao zau (pv 0) zag (fun _ _=>rfl)) (pv 1))) (zae (ps_asg (zan op_fdivL (zao zau (pv 0) zag (fun _ _=>rfl)) (pv 1)) (pg_sub (pv 0) zag set_list)) (zaf (zak (pv 2)))),?_⟩
 refine⟨_,rfl,tp,_,_,.int t,rfl,rfl,SqL.of hH,rfl,_,rfl,_,_,rfl,rfl,hm0,?_⟩
 refine⟨_,rfl,tp,_,_,.int t,rfl,rfl,SqL.of hH,rfl,_,rfl,_,_,rfl,rfl,⟨hm0,hm1⟩,_,rfl,tp,_,_,0,rfl,rfl,hH,rfl,?_⟩
 exact⟨_,rfl,q _ _ (mod_nn _ hm0) (mod_lt _ hm0)⟩
end
end Hs
namespace L2
open PySem
theorem DVs.append{K:W.Frag}{H:Hp}{xs ys:List V}{ds es:List PyData}(h:DVs K H xs ds)(h':DVs K H ys es):DVs K H (xs++ys) (ds++es):=
 DVs.rec (motive_1:=fun _ _ _=>True) (motive_2:=fun xs ds _=>DVs K H (xs++ys) (ds++es)) trivial (fun _=>trivial) (fun _=>trivial) (fun _=>trivial) (fun _ _ _=>trivial) (fun _ _ _=>trivial) (fun _=>trivial) (fun _ _=>trivial) h' (fun h _ _ t=> .cons h t) h
theorem SameX.tup{K:W.Frag}{t:Addr}{H H':Hp}{a:Addr}{xs zs:List V}(e:SameX t H H')(n:H t=some (.lst zs))(h:SqT K H a xs):SqT K H' a xs:=by
 rcases h with(h|⟨o,h⟩)|h
 ·exact .inl (.inl (e _ _ (ne_of h n (by intro z;cases z)) h))
 ·exact .inl (.inr ⟨o,e _ _ (ne_of h n (by intro z;cases z)) h⟩)
 ·exact .inr h
end L2
namespace HsD
open PySem L2
theorem pairs_samex{K:W.Frag}{t:Addr}{H H':Hp}{zs:List V}(e:SameX t H H')(n:H t=some (.lst zs)){rs:List V}{ps:List (Int×Int)}(h:DVs K H rs (ps.map pairD)):DVs K H' rs (ps.map pairD):=by
 induction ps generalizing rs with
 |nil=>cases h;exact .nil
 |cons p ps ih=>
  cases h with
  |cons h tl=>
   refine .cons ?_ (ih tl)
   cases h with
   |tup h hd=>
    cases hd with
    |cons a1 t1=>
     cases a1
     cases t1 with
     |cons a2 t2=>
      cases a2
      cases t2
      exact .tup (e.tup n h) (.cons (.int _) (.cons (.int _) .nil))
theorem WebV.samex{K:W.Frag}{t:Addr}{H H':Hp}{zs:List V}{a:Addr}{n:Int}{ts:List (Int×Int)}(h:WebV K H a n ts)(e:SameX t H H')(hn:H t=some (.lst zs)):WebV K H' a n ts:=by
 obtain⟨u,rs,h1,h2,h3⟩:=h
 exact⟨u,rs,e.tup hn h1,e.tup hn h2,pairs_samex e hn h3⟩
structure Sub(j:Nat)(l:List Int):Prop where
 nd:l.Nodup
 lt:∀i∈l,0<=i/\i<(j:Int)
theorem nodup_len{α:Type} [DecidableEq α]:∀{l m:List α},l.Nodup->(∀a∈l,a∈m)->l.length<=m.length
 |[],m,_,_=>yaw _
 |a::l,m,nd,h=>by
  have ha:=h a yah
  have nd':=ycl.mp nd
  have q:∀b∈l,b∈m.erase a:=fun b hb=>by
   have hne:b≠a:=fun e=>nd'.1 (e▸hb)
   exact(List.mem_erase_of_ne hne).mpr (h b (yae _ hb))
  have:=nodup_len nd'.2 q
  have e:=List.length_erase_of_mem ha
  have:0<m.length:=List.length_pos_of_mem ha
  simp only[ybj]
  omega
theorem Sub.len{j:Nat}{l:List Int}(h:Sub j l):l.length<=j:=by
 have q:=nodup_len (m:=(List.range j).map fun(k:Nat)=>(k:Int)) h.nd fun i hi=>by
  have:=h.lt i hi
  exact ybc.mpr ⟨i.toNat,ybl.mpr (by omega),by omega⟩
 simpa using q
structure PairsOk(n:Int)(ps:List (Int×Int)):Prop where
 nd:ps.Nodup
 lt:∀p∈ps,0<=p.1/\p.1<p.2/\p.2<n
noncomputable def allP(n:Nat):List (Int×Int):=((List.range n).map fun(j:Nat)=>(List.range j).map fun(i:Nat)=>((i:Int),(j:Int))).flatten
theorem pairs_len{n:Int}{ps:List (Int×Int)}(h:PairsOk n ps)(hn:n<=10):ps.length<=45:=by
 have q:=nodup_len (m:=allP 10) h.nd fun p hp=>by
  obtain⟨h0,h1,h2⟩:=h.lt p hp
  obtain⟨a,b⟩:=p
  dsimp only at h0 h1 h2
  refine List.mem_flatten.mpr ⟨(List.range b.toNat).map fun(i:Nat)=>((i:Int),((b.toNat:Nat):Int)),ybc.mpr ⟨b.toNat,ybl.mpr (by omega),rfl⟩,ybc.mpr ⟨a.toNat,ybl.mpr (by omega),?_⟩⟩
  have e1:((a.toNat:Nat):Int)=a:=by omega
  have e2:((b.toNat:Nat):Int)=b:=by omega
  rw[e1,e2]
 have e:(allP 10).length=45:=by decide
 omega
theorem PairsOk.perm{n:Int}{ps qs:List (Int×Int)}(h:PairsOk n ps)(e:qs.Perm ps):PairsOk n qs:=⟨e.nodup_iff.mpr h.nd,fun p hp=>h.lt p (e.mem_iff.mp hp)⟩
noncomputable def pl(p:Int×Int):List Int:=[p.1,p.2]
theorem pl_inj{p q:Int×Int}(h:pl p=pl q):p=q:=by
 obtain⟨a,b⟩:=p
 obtain⟨c,d⟩:=q
 unfold pl at h
 simp at h
 rw[h.1,h.2]
theorem lex_of{a b:List Int}(h:HT.lexLt b a=false)(ne:a≠b):HT.lexLt a b=true:=by
 rw[HT.lexLt_iff]at h⊢
 have h1:¬b<a:=of_decide_eq_false h
 have h2:a<=b:=List.not_lt.mp h1
 refine decide_eq_true ?_
 rcases Classical.em (a<b)with h3|h3
 ·exact h3
 ·exact absurd (List.le_antisymm h2 (List.not_lt.mp h3)) ne
theorem tie_pair{n:Int}{p:Int×Int}(h0:0<=p.1)(h1:p.1<p.2)(h2:p.2<n):tieD n (pairD p)=true:=by
 show((placeD n (.int p.1)&&(placeD n (.int p.2)&&true))&&risesI [p.1,p.2]&&decide (([PyData.int p.1,PyData.int p.2]).length=2))=true
 have e1:placeD n (.int p.1)=true:=by
  show(decide (0<=p.1)&&decide (p.1<n))=true
  rw[decide_eq_true h0,decide_eq_true (by omega)];rfl
 have e2:placeD n (.int p.2)=true:=by
  show(decide (0<=p.2)&&decide (p.2<n))=true
  rw[decide_eq_true (by omega),decide_eq_true h2];rfl
 have e3:risesI [p.1,p.2]=true:=by
  show(decide (p.1<p.2)&&true)=true
  rw[decide_eq_true h1];rfl
 rw[e1,e2,e3];rfl
theorem web_ok{n:Int}{ts:List (Int×Int)}(hn0:0<=n)(hn1:n<=10)(h:PairsOk n ts)(hs:ts.Pairwise fun p q=>HT.lexLt (pl q) (pl p)=false):webD (webDat n ts)=true:=by
 show(true&&(decide (0<=n)&&decide (n<=10))&&((ts.map pairD).all (tieD n)&&risesT ((ts.map pairD).map fun t=>(kids t).map intD)))=true
 have e1:(ts.map pairD).all (tieD n)=true:=by
  rw[List.all_map,ybb]
  intro p hp
  obtain⟨h0,h1,h2⟩:=h.lt p hp
  exact tie_pair h0 h1 h2
 have e2:(ts.map pairD).map (fun t=>(kids t).map intD)=ts.map pl:=by rw[ycw];rfl
 have e3:risesT (ts.map pl)=true:=by
  unfold risesT
  rw[ybb]
  intro k hk
  have hk':k<ts.length-1:=by simpa using hk
  have g1:(ts.map pl).getD k []=pl ts[k]:=by rw[yai,yaf,yag (by omega)];rfl
  have g2:(ts.map pl).getD (k+1) []=pl ts[k+1]:=by rw[yai,yaf,yag (by omega)];rfl
  rw[g1,g2]
  refine lex_of (ycn.mp hs k (k+1) (by omega) (by omega) (by omega)) fun e=> ?_
  have:=(List.getElem_inj h.nd).mp (pl_inj e)
  omega
 rw[decide_eq_true hn0,decide_eq_true hn1,e1,e2,e3];rfl
theorem items_of{K:W.Frag}{H:Hp}{rs:List V}{ps:List (Int×Int)}(h:DVs K H rs (ps.map pairD)):∃its:List (Addr×(Int×Int)),rs=its.map (fun p=>V.ref p.1)/\its.map (·.2)=ps/\∀p∈its,SqT K H p.1 ((pl p.2).map V.int):=by
 induction ps generalizing rs with
 |nil=>cases h;exact⟨[],rfl,rfl,fun p h=>(nomatch h)⟩
 |cons p ps ih=>
  cases h with
  |cons h tl=>
   obtain⟨its,e1,e2,e3⟩:=ih tl
   cases h with
   | @tup a _ _ h hd=>
    cases hd with
    |cons a1 t1=>
     cases a1
     cases t1 with
     |cons a2 t2=>
      cases a2
      cases t2
      refine⟨(a,p)::its,by rw[e1];rfl,by rw[<-e2];rfl,fun q hq=> ?_⟩
      rcases yam.mp hq with e|e
      ·rw[e];exact h
      ·exact e3 q e
theorem of_items{K:W.Frag}{H:Hp}:∀(its:List (Addr×(Int×Int))),(∀p∈its,SqT K H p.1 ((pl p.2).map V.int))->DVs K H (its.map fun p=>V.ref p.1) ((its.map (·.2)).map pairD)
 |[],_=> .nil
 |p::its,h=> .cons (.tup (h p yah) (.cons (.int _) (.cons (.int _) .nil))) (of_items its fun q hq=>h q (yae _ hq))
noncomputable def tiedL(ts:List (Int×Int))(i j:Int):Bool:=decide ((i,j)∈ts)||decide ((j,i)∈ts)
theorem tied_eq{n:Int}{ts:List (Int×Int)}(h:PairsOk n ts)(i j:Int):hasTie ts i j=tiedL ts i j:=by
 unfold hasTie tiedL
 have no:∀{a b:Int},b<=a->decide ((a,b)∈ts)=false:=fun{a b} hab=>decide_eq_false fun hm=>by
  have:=(h.lt _ hm).2.1
  dsimp only at this
  omega
 rcases Int.lt_trichotomy i j with c|c|c
 ·rw[if_neg (show¬j<i by omega),if_pos (show j>i by omega),no (show i<=j by omega),Bool.or_false]
 ·subst c
  rw[if_neg (show¬i<i by omega),Bool.or_self]
  try rw[if_neg (show¬i>i by omega)]
 ·rw[if_pos (show j<i by omega),if_neg (show¬j>i by omega),no (show j<=i by omega),Bool.false_or]
end HsD
namespace Hs
open PySem L2 HsD
noncomputable def lt2(p q:Int×Int):Prop:=p.1<q.1\/(p.1=q.1/\p.2<q.2)
theorem lt2.trans{p q r:Int×Int}(a:lt2 p q)(b:lt2 q r):lt2 p r:=by
 unfold lt2 at *;omega
theorem lt2.irr{p:Int×Int}(a:lt2 p p):False:=by
 unfold lt2 at a;omega
theorem lex_lt2{p q:Int×Int}(h:HT.lexLt (pl p) (pl q)=true):lt2 p q:=by
 rw[HT.lexLt_iff]at h
 have:=of_decide_eq_true h
 unfold pl at this
 rw[yea]at this
 rcases this with a|⟨a,b⟩
 ·exact .inl a
 ·rw[yea]at b
  rcases b with b|⟨_,b⟩
  ·exact .inr ⟨a,b⟩
  ·exact absurd b (by simp)
theorem pairwise_of_adj{l:List (Int×Int)}(h:∀k,(hk:k+1<l.length)->lt2 l[k] l[k+1]):l.Pairwise lt2:=by
 rw[ycn]
 intro i j hi hj hij
 have go:∀d:Nat,(hd:i+1+d<l.length)->lt2 l[i] l[i+1+d]:=by
  intro d
  induction d with
  |zero=>intro hd;exact h i hd
  |succ d ih=>intro hd;exact(ih (by omega)).trans (h (i+1+d) hd)
 have e:j=i+1+(j-i-1):=by omega
 have:=go (j-i-1) (by omega)
 simpa[<-e]using this
theorem web_sorted{n:Int}{ts:List (Int×Int)}(h:WebOk n ts):ts.Pairwise lt2:=by
 have h1:tiesD n (.tuple (ts.map pairD))=true:=by
  unfold WebOk webDat webD at h
  rw[Bool.and_eq_true]at h
  exact h.2
 unfold tiesD at h1
 rw[Bool.and_eq_true]at h1
 have h2:=h1.2
 unfold risesT at h2
 rw[ybb]at h2
 refine pairwise_of_adj fun k hk=> ?_
 have e:(List.map (fun t=>(kids t).map intD) (ts.map pairD))=ts.map pl:=by
  rw[ycw];rfl
 rw[e,yaa]at h2
 have h3:=h2 k (by rw[ybl];omega)
 have g:∀j,(hj:j<ts.length)->(ts.map pl).getD j []=pl ts[j]:=fun j hj=>by
  rw[yai,yaf,yag hj];rfl
 rw[g k (by omega),g (k+1) hk]at h3
 exact lex_lt2 h3
noncomputable def row(so:Int->Int->Bool)(i:Int)(k:Nat):List (Int×Int):=((List.range k).map fun(t:Nat)=>(i,i+1+(t:Int))).filter fun p=>so p.1 p.2
noncomputable def rows(so:Int->Int->Bool)(m:Int)(i:Nat):List (Int×Int):=((List.range i).map fun(t:Nat)=>row so (0+(t:Int)) (m-(0+(t:Int)+1)).toNat).flatten
theorem row_succ(so:Int->Int->Bool)(i:Int)(k:Nat):row so i (k+1)=row so i k++(if so i (i+1+(k:Int))=true then[(i,i+1+(k:Int))]else[]):=by
 unfold row
 rw[ybx,yad,ycx]
 congr 1
 show List.filter _ [(i,i+1+(k:Int))]=_
 rw[ycs]
 rfl
theorem rows_succ(so:Int->Int->Bool)(m:Int)(i:Nat):rows so m (i+1)=rows so m i++row so (0+(i:Int)) (m-(0+(i:Int)+1)).toNat:=by
 unfold rows
 rw[ybx,yad,List.flatten_append]
 simp
theorem mem_row{so:Int->Int->Bool}{i:Int}{k:Nat}{p:Int×Int}:p∈row so i k↔p.1=i/\i<p.2/\p.2<i+1+(k:Int)/\so p.1 p.2=true:=by
 unfold row
 rw[yar,ybc]
 constructor
 ·rintro⟨⟨t,ht,rfl⟩,h⟩
  rw[ybl]at ht
  exact⟨rfl,by show i<i+1+(t:Int);omega,by show i+1+(t:Int)<_;omega,h⟩
 ·rintro⟨h1,h2,h3,h4⟩
  refine⟨⟨(p.2-i-1).toNat,by rw[ybl];omega,?_⟩,h4⟩
  apply Prod.ext
  ·exact h1.symm
  ·show i+1+(((p.2-i-1).toNat:Nat):Int)=p.2;omega
theorem mem_rows{so:Int->Int->Bool}{m:Int}:∀{i:Nat} {p:Int×Int},p∈rows so m i↔0<=p.1/\p.1<(i:Int)/\p.1<p.2/\p.2<m/\so p.1 p.2=true
 |0,p=>by
  constructor
  ·intro h;simp[rows]at h
  ·intro h;omega
 |i+1,p=>by
  rw[rows_succ,yax,mem_rows (i:=i),mem_row]
  constructor
  ·rintro(h|h)
   ·exact⟨h.1,by omega,h.2.2⟩
   ·exact⟨by omega,by omega,by omega,by omega,h.2.2.2⟩
  ·rintro⟨h1,h2,h3,h4,h5⟩
   by_cases e:p.1<(i:Int)
   ·exact .inl ⟨h1,e,h3,h4,h5⟩
   ·exact .inr ⟨by omega,by omega,by omega,h5⟩
theorem row_sorted(so:Int->Int->Bool)(i:Int)(k:Nat):(row so i k).Pairwise lt2:=by
 unfold row
 refine List.Pairwise.filter _ ?_
 rw[ydc]
 exact List.pairwise_lt_range.imp fun h=> .inr ⟨rfl,by show i+1+_<i+1+_;omega⟩
theorem rows_sorted(so:Int->Int->Bool)(m:Int):∀i:Nat,(rows so m i).Pairwise lt2
 |0=>by unfold rows;exact List.Pairwise.nil
 |i+1=>by
  rw[rows_succ,ycz]
  refine⟨rows_sorted so m i,row_sorted so _ _,fun p hp q hq=> ?_⟩
  rw[mem_rows]at hp
  rw[mem_row]at hq
  exact .inl (by omega)
theorem rows_ok{so:Int->Int->Bool}{m:Int}{i:Nat}:PairsOk m (rows so m i):=
 ⟨(rows_sorted so m i).imp fun h e=>by subst e;exact lt2.irr h,fun p hp=>by rw[mem_rows]at hp;exact⟨hp.1,hp.2.2.1,hp.2.2.2.1⟩⟩
theorem nodup_lt2{l:List (Int×Int)}(h:l.Pairwise lt2):l.Nodup:=h.imp fun h e=>by subst e;exact lt2.irr h
end Hs
namespace L2
open PySem
theorem DVs.get'{K:W.Frag}{H:Hp}:∀{xs:List V} {ds:List PyData} {i:Nat},DVs K H xs ds->i<ds.length->∃x d,xs[i]? =some x/\ds[i]? =some d/\DV K H x d
 |_,_,i,.nil,h=>by simp at h
 |_,_,0,.cons h _,_=>⟨_,_,rfl,rfl,h⟩
 |_,_,i+1,.cons _ t,h=>by
  obtain⟨x,d,h1,h2,h3⟩:=DVs.get' (i:=i) t (by simpa using h)
  exact⟨x,d,by simpa using h1,by simpa using h2,h3⟩
end L2
namespace Hs
open PySem L2 HsD
structure WebIs(K:W.Frag)(H:Hp)(a:Addr)(n:Int)(ts:List (Int×Int)):Prop where
 web:WebV K H a n ts
 h0:0<=n
 h1:n<=10
 pk:PairsOk n ts
 ok:WebOk n ts
theorem WebIs.same{K:W.Frag}{H H':Hp}{a:Addr}{n:Int}{ts:List (Int×Int)}(h:WebIs K H a n ts)(e:Same H H'):WebIs K H' a n ts:=⟨h.web.same e,h.h0,h.h1,h.pk,h.ok⟩
theorem WebIs.samex{K:W.Frag}{H H':Hp}{t a:Addr}{zs:List V}{n:Int}{ts:List (Int×Int)}(h:WebIs K H a n ts)(e:SameX t H H')(hn:H t=some (.lst zs)):WebIs K H' a n ts:=⟨h.web.samex e hn,h.h0,h.h1,h.pk,h.ok⟩
theorem WebIs.len{K:W.Frag}{H:Hp}{a:Addr}{n:Int}{ts:List (Int×Int)}(h:WebIs K H a n ts):ts.length<=45:=pairs_len h.pk h.h1
theorem WebIs.srt{K:W.Frag}{H:Hp}{a:Addr}{n:Int}{ts:List (Int×Int)}(h:WebIs K H a n ts):ts.Pairwise lt2:=web_sorted h.ok
noncomputable def tt(_ _:Int):Bool:=true
theorem lt2_lex{p q:Int×Int}(h:lt2 p q):HT.lexLt (pl q) (pl p)=false:=by
 rw[HT.lexLt_iff]
 refine decide_eq_false fun z=> ?_
 have:lt2 q p:=lex_lt2 (by rw[HT.lexLt_iff];exact decide_eq_true z)
 exact lt2.irr (h.trans this)
theorem web_of_sub{n:Int}{ts:List (Int×Int)}{i:Nat}(h0:0<=n)(h1:n<=10)(h:ts.Sublist (rows tt n i)):PairsOk n ts/\WebOk n ts:=by
 have hs:ts.Pairwise lt2:=(rows_sorted tt n i).sublist h
 have ho:PairsOk n ts:=⟨nodup_lt2 hs,fun p hp=>(rows_ok (so:=tt) (m:=n) (i:=i)).lt p (h.subset hp)⟩
 exact⟨ho,web_ok h0 h1 ho (hs.imp lt2_lex)⟩
theorem pair_at{K:W.Frag}{H:Hp}{rs:List V}{ps:List (Int×Int)}{i:Nat}{x:V}(h:DVs K H rs (ps.map pairD))(hx:rs[i]? =some x):∃(t:Addr) (hi:i<ps.length),x= .ref t/\SqT K H t [.int (ps[i]).1,.int (ps[i]).2]:=by
 have hlen:=h.len
 rw[yaa]at hlen
 have hi:i<ps.length:=by rw[<-hlen];exact(yaq.mp hx).1
 obtain⟨x',d,e1,e2,e3⟩:=DVs.get' (i:=i) h (by rw[yaa];exact hi)
 rw[hx]at e1;cases e1
 rw[yaf,yag hi]at e2
 cases e2
 cases e3 with
 |tup hp tp=>
  cases tp with
  |cons ta tb=>
   cases tb with
   |cons tc td=>
    cases td
    cases ta
    cases tc
    exact⟨_,hi,rfl,hp⟩
noncomputable def TiesL(K:W.Frag)(H:Hp)(l:Addr)(R:List (Int×Int))(P:Int×Int->Prop):Prop:=∃(rs:List V) (ts:List (Int×Int)),H l=some (.lst rs)/\DVs K H rs (ts.map pairD)/\ts.Sublist R/\∀p∈ts,P p
theorem TiesL.nil{K:W.Frag}{H:Hp}{l:Addr}{R:List (Int×Int)}{P:Int×Int->Prop}(h:H l=some (.lst [])):TiesL K H l R P:=⟨[],[],h,.nil,List.nil_sublist _,fun p hp=>(nomatch hp)⟩
theorem TiesL.step{K:W.Frag}{H H':Hp}{l c:Addr}{R:List (Int×Int)}{P:Int×Int->Prop}{zs:List V}(h:TiesL K H l R P)(e:SameX c H H')(hc:H c=some (.lst zs))(n:l≠c):TiesL K H' l R P:=by
 obtain⟨rs,ts,h1,h2,h3⟩:=h
 exact⟨rs,ts,e _ _ n h1,pairs_samex e hc h2,h3⟩
theorem TiesL.mono{K:W.Frag}{H:Hp}{l:Addr}{R R':List (Int×Int)}{P:Int×Int->Prop}(h:TiesL K H l R P)(e:R.Sublist R'):TiesL K H l R' P:=by
 obtain⟨rs,ts,h1,h2,h3,h4⟩:=h
 exact⟨rs,ts,h1,h2,h3.trans e,h4⟩
theorem TiesL.push{K:W.Frag}{H:Hp}{l p:Addr}{R:List (Int×Int)}{P:Int×Int->Prop}{i j:Int}{rs:List V}{ts:List (Int×Int)}(h1:H l=some (.lst rs))(h2:DVs K H rs (ts.map pairD))(h3:ts.Sublist R)(h4:∀p∈ts,P p)(hp:SqT K H p [.int i,.int j])(hP:P (i,j)):TiesL K (upd H l (.lst (rs++[.ref p]))) l (R++[(i,j)]) P:=by
 have x:SameX l H (upd H l (.lst (rs++[.ref p]))):=(SameX.refl _ _).upd
 refine⟨_,ts++[(i,j)],zab,?_,h3.append (List.Sublist.refl _),fun q hq=> ?_⟩
 ·rw[yad]
  exact(pairs_samex x h1 h2).append (.cons (.tup (x.tup h1 hp) (.cons (.int _) (.cons (.int _) .nil))) .nil)
 ·rcases yax.mp hq with q'|q'
  ·exact h4 q q'
  ·rw[yal.mp q'];exact hP
theorem sub_len{n:Int}{ts:List (Int×Int)}{i k:Nat}(h1:n<=10)(hk:0+(i:Int)+1+(k:Int)<=n)(h:ts.Sublist (rows tt n i++row tt (0+(i:Int)) k)):ts.length<=45:=by
 refine pairs_len (n:=n) ⟨?_,fun p hp=> ?_⟩ h1
 ·refine nodup_lt2 (List.Pairwise.sublist h ?_)
  rw[ycz]
  refine⟨rows_sorted _ _ _,row_sorted _ _ _,fun p hp q hq=> ?_⟩
  rw[mem_rows]at hp
  rw[mem_row]at hq
  exact .inl (by omega)
 ·rcases yax.mp (h.subset hp)with q|q
  ·rw[mem_rows]at q;exact⟨q.1,q.2.2.1,q.2.2.2.1⟩
  ·rw[mem_row]at q;exact⟨by omega,by omega,by omega⟩
section
variable{P:Program}{w:World}{K:W.Frag}{mg:Str->Option Value}{base:Heap}
end
structure SetOk(n:Int)(xs:List Int):Prop where
 srt:xs.Pairwise (· < ·)
 lt:∀x∈xs,0<=x/\x<n
theorem SetOk.len{n:Int}{xs:List Int}(h:SetOk n xs)(hn:n<=10):xs.length<=10:=by
 have h1:Sub n.toNat xs:=⟨h.srt.imp fun h e=>by omega,fun i hi=>by have:=h.lt i hi;omega⟩
 have:=h1.len
 omega
noncomputable def upto(n:Nat):List Int:=(List.range n).map fun(k:Nat)=>(k:Int)
theorem upto_ok(n:Int):SetOk n (upto n.toNat):=by
 unfold upto
 refine⟨?_,fun x hx=> ?_⟩
 ·rw[ydc]
  exact List.pairwise_lt_range.imp fun h=>by omega
 ·obtain⟨k,hk,rfl⟩:=ybc.mp hx
  rw[ybl]at hk
  omega
theorem upto_len(n:Nat):(upto n).length=n:=by unfold upto;simp
section
variable{P:Program}{w:World}{K:W.Frag}{mg:Str->Option Value}{base:Heap}
end
end Hs
namespace Hs
open HsD
end Hs
namespace Hs
noncomputable def ff:Nat->Nat
 |0=>1
 |1=>1
 |2=>2
 |3=>3
 |4=>4
 |5=>6
 |6=>9
 |7=>12
 |8=>18
 |9=>27
 |_=>36
theorem ff_mono:∀m n:Nat,m<=n->n<=10->ff m<=ff n:=by
 have h:∀n:Fin 11,∀m:Fin 11,m.val<=n.val->ff m.val<=ff n.val:=by decide
 intro m n hm hn
 exact h ⟨n,by omega⟩ ⟨m,by omega⟩ hm
theorem ff_step:∀n d:Nat,0<d->d<=n->n<=10->d*ff (n-d)<=ff n:=by
 have h:∀n:Fin 11,∀d:Fin 11,0<d.val->d.val<=n.val->d.val*ff (n.val-d.val)<=ff n.val:=by decide
 intro n d h0 hd hn
 exact h ⟨n,by omega⟩ ⟨d,by omega⟩ h0 hd
structure Full(r:Int->Int->Bool)(V:List Int)(s:List Int):Prop where
 up:s.Pairwise (· < ·)
 sub:∀x∈s,x∈V
 ind:∀x∈s,∀y∈s,x≠y->r x y=false
 max:∀v∈V,v∉s->∃x∈s,r x v=true
theorem least_at(g:Int->Nat):∀V:List Int,V≠[]->∃v∈V,∀u∈V,g v<=g u
 |[],h=>absurd rfl h
 |[x],_=>⟨x,by simp,fun u hu=>by rw[yal.mp hu];exact yac _⟩
 |x::y::V,_=>by
  obtain⟨v,hv,hm⟩:=least_at g (y::V) (by simp)
  by_cases c:g x<=g v
  ·refine⟨x,by simp,fun u hu=> ?_⟩
   rcases yam.mp hu with e|e
   ·rw[e];exact yac _
   ·exact yat c (hm u e)
  ·refine⟨v,yae _ hv,fun u hu=> ?_⟩
   rcases yam.mp hu with e|e
   ·rw[e];omega
   ·exact hm u e
theorem filter_two{α:Type}(p:α->Bool):∀l:List α,(l.filter p).length+(l.filter fun x=> !p x).length=l.length
 |[]=>rfl
 |x::l=>by
  have ih:=filter_two p l
  rw[ycs,ycs]
  cases p x<;>simp <;>omega
theorem cover_len{α β:Type}(p:β->α->Bool)(m:Nat):∀(us:List β) (fs:List α),(∀s∈fs,∃u∈us,p u s=true)->(∀u∈us,∀gs:List α,gs.Sublist fs->(∀s∈gs,p u s=true)->gs.length<=m)->fs.length<=us.length*m
 |[],fs,h,_=>by
  cases fs with
  |nil=>simp
  |cons s fs=>obtain⟨u,hu,_⟩:=h s (by simp);cases hu
 |u::us,fs,h,hm=>by
  have e:=filter_two (p u) fs
  have a:=hm u (by simp) (fs.filter (p u)) yeg (fun s hs=>(yar.mp hs).2)
  have b:=cover_len p m us (fs.filter fun x=> !p u x) (fun s hs=>by
   obtain⟨h1,h2⟩:=yar.mp hs
   obtain⟨w,hw,hp⟩:=h s h1
   rcases yam.mp hw with z|z
   ·rw[z]at hp;rw[hp]at h2;cases h2
   ·exact⟨w,z,hp⟩) (fun w hw gs hg hp=>hm w (yae _ hw) gs (hg.trans yeg) hp)
  rw[ybj,Nat.succ_mul]
  omega
theorem up_same:∀{xs ys:List Int},xs.Pairwise (· < ·)->ys.Pairwise (· < ·)->(∀k,k∈xs↔k∈ys)->xs=ys
 |[],[],_,_,_=>rfl
 |[],y::ys,_,_,h=>by have:=(h y).mpr (by simp);simp at this
 |x::xs,[],_,_,h=>by have:=(h x).mp (by simp);simp at this
 |x::xs,y::ys,hx,hy,h=>by
  rw[List.pairwise_cons]at hx hy
  have e:x=y:=by
   have a:=(h x).mp (by simp)
   have b:=(h y).mpr (by simp)
   rcases yam.mp a with a|a
   ·exact a
   ·rcases yam.mp b with b|b
    ·exact b.symm
    ·have:=hy.1 x a;have:=hx.1 y b;omega
  subst e
  rw[up_same hx.2 hy.2 fun k=> ?_]
  constructor
  ·intro hk
   rcases yam.mp ((h k).mp (yae _ hk))with a|a
   ·have:=hx.1 k hk;omega
   ·exact a
  ·intro hk
   rcases yam.mp ((h k).mpr (yae _ hk))with a|a
   ·have:=hy.1 k hk;omega
   ·exact a
theorem map_nodup{α β:Type}{g:α->β}:∀{l:List α},l.Nodup->(∀a∈l,∀b∈l,g a=g b->a=b)->(l.map g).Nodup
 |[],_,_=>List.nodup_nil
 |a::l,h,hi=>by
  rw[ycl]at h
  rw[ycd,ycl]
  refine⟨fun hm=> ?_,map_nodup h.2 fun x hx y hy=>hi x (yae _ hx) y (yae _ hy)⟩
  obtain⟨b,hb,e⟩:=ybc.mp hm
  have:=hi b (yae _ hb) a (by simp) e
  rw[this]at hb
  exact h.1 hb
noncomputable def nearTo(r:Int->Int->Bool)(v u:Int):Bool:=decide (u=v)||r u v
theorem full_count{r:Int->Int->Bool}(sym:∀i j,r i j=r j i):∀(n:Nat) (V:List Int),V.length=n->n<=10->∀fs:List (List Int),fs.Nodup->(∀s∈fs,Full r V s)->fs.length<=ff n:=by
 intro n
 induction n using Nat.strongRecOn with
 |ind n ih=>
  intro V hV hn fs nd hf
  by_cases hz:V=[]
  ·have e:∀s∈fs,s=[]:=fun s hs=>by
    cases s with
    |nil=>rfl
    |cons x s=>have:=(hf _ hs).sub x (by simp);rw[hz]at this;cases this
   have l1:fs.length<=1:=by
    match fs,nd,e with
    |[],_,_=>simp
    |[_],_,_=>simp
    |a::b::fs,nd,e=>
     exfalso
     rw[ycl]at nd
     apply nd.1
     rw[e a (by simp),e b (by simp)]
     simp
   have:1<=ff n:=by
    have:=ff_mono 0 n (yaw _) hn
    exact this
   omega
  obtain⟨v,hv,hmin⟩:=least_at (fun u=>(V.filter (nearTo r u)).length) V hz
  have key:=cover_len (fun(u:Int) (s:List Int)=>decide (u∈s)) (ff (n-(V.filter (nearTo r v)).length)) (V.filter (nearTo r v)) fs (fun s hs=> ?_) (fun u hu gs hg hp=> ?_)
  ·have hle:(V.filter (nearTo r v)).length<=n:=by rw[<-hV];exact ybe _ _
   have hpos:0<(V.filter (nearTo r v)).length:=List.length_pos_of_mem (yar.mpr ⟨hv,by unfold nearTo;simp⟩)
   exact yat key (ff_step n _ hpos hle hn)
  ·by_cases c:v∈s
   ·exact⟨v,yar.mpr ⟨hv,by unfold nearTo;simp⟩,decide_eq_true c⟩
   ·obtain⟨x,hx,hr⟩:=(hf s hs).max v hv c
    exact⟨x,yar.mpr ⟨(hf s hs).sub x hx,by unfold nearTo;rw[hr];simp⟩,decide_eq_true hx⟩
  ·have huV:u∈V:=(yar.mp hu).1
   have fg:∀s∈gs,Full r V s/\u∈s:=fun s hs=>⟨hf s (hg.subset hs),of_decide_eq_true (hp s hs)⟩
   have hle:(V.filter (nearTo r u)).length<=n:=by rw[<-hV];exact ybe _ _
   have hge:=hmin u huV
   have hpos:0<(V.filter (nearTo r u)).length:=List.length_pos_of_mem (yar.mpr ⟨huV,by unfold nearTo;simp⟩)
   have hV2:(V.filter fun x=> !nearTo r u x).length=n-(V.filter (nearTo r u)).length:=by have:=filter_two (nearTo r u) V;omega
   have memf:∀(s:List Int) (x:Int),x∈s.filter (fun x=> !decide (x=u))↔x∈s/\x≠u:=fun s x=>by rw[yar];simp
   have h1:=ih (n-(V.filter (nearTo r u)).length) (by omega) (V.filter fun x=> !nearTo r u x) hV2 (by omega) (gs.map fun s=>s.filter fun x=> !decide (x=u)) (map_nodup (nd.sublist hg) fun s hs t ht e=> ?_) (fun t ht=> ?_)
   ·rw[yaa]at h1
    exact yat h1 (ff_mono _ _ (by omega) (by omega))
   ·obtain⟨a1,a2⟩:=fg s hs
    obtain⟨b1,b2⟩:=fg t ht
    refine up_same a1.up b1.up fun k=> ?_
    have hk:k∈s.filter (fun x=> !decide (x=u))↔k∈t.filter (fun x=> !decide (x=u)):=by rw[show s.filter (fun x=> !decide (x=u))=t.filter (fun x=> !decide (x=u))from e]
    rw[memf,memf]at hk
    by_cases c:k=u
    ·rw[c];exact⟨fun _=>b2,fun _=>a2⟩
    ·exact⟨fun z=>(hk.mp ⟨z,c⟩).1,fun z=>(hk.mpr ⟨z,c⟩).1⟩
   ·obtain⟨s,hs,rfl⟩:=ybc.mp ht
    obtain⟨a1,a2⟩:=fg s hs
    refine⟨a1.up.sublist yeg,fun x hx=> ?_,fun x hx y hy=> ?_,fun w hw hn=> ?_⟩
    ·obtain⟨x1,x2⟩:=(memf s x).mp hx
     refine yar.mpr ⟨a1.sub x x1,?_⟩
     unfold nearTo
     rw[a1.ind x x1 u a2 x2,decide_eq_false x2]
     rfl
    ·exact a1.ind x ((memf s x).mp hx).1 y ((memf s y).mp hy).1
    ·obtain⟨w1,w2⟩:=yar.mp hw
     have w3:nearTo r u w=false:=by simpa using w2
     unfold nearTo at w3
     rw[Bool.or_eq_false_iff]at w3
     have wu:w≠u:=of_decide_eq_false w3.1
     have ws:w∉s:=fun z=>hn ((memf s w).mpr ⟨z,wu⟩)
     obtain⟨x,hx,hr⟩:=a1.max w w1 ws
     have xu:x≠u:=fun z=>by rw[z,sym u w,w3.2]at hr;cases hr
     exact⟨x,(memf s x).mpr ⟨hx,xu⟩,hr⟩
end Hs
namespace Hs
open PySem HsD
noncomputable def rng(n:Nat):List Int:=(List.range n).map fun k=>((k:Nat):Int)
theorem mem_rng{n:Nat}{x:Int}:x∈rng n↔0<=x/\x<(n:Int):=by
 unfold rng
 rw[ybc]
 constructor
 ·rintro⟨k,hk,rfl⟩
  have:=ybl.mp hk
  omega
 ·rintro⟨h0,h1⟩
  exact⟨x.toNat,ybl.mpr (by omega),by omega⟩
theorem zci(ts:List (Int×Int))(i j:Int):tiedL ts i j=tiedL ts j i:=by unfold tiedL;rw[Bool.or_comm]
noncomputable def goB(ts:List (Int×Int))(w:Bool)(s:List Int)(p:Int):Bool:=s.all fun q=>tiedL ts p q==w
noncomputable def setsL(ts:List (Int×Int))(w:Bool):Nat->List (List Int)
 |0=>[[]]
 |k+1=>setsL ts w k++((setsL ts w k).filter fun s=>goB ts w s (k:Int)).map fun s=>s++[(k:Int)]
noncomputable def fullB(ts:List (Int×Int))(w:Bool)(n:Nat)(s:List Int):Bool:= !((rng n).any fun p=> !decide (p∈s)&&goB ts w s p)
noncomputable def fulls(ts:List (Int×Int))(w:Bool)(n:Nat):List (List Int):=(setsL ts w n).filter (fullB ts w n)
structure SetK(ts:List (Int×Int))(w:Bool)(k:Nat)(s:List Int):Prop where
 up:s.Pairwise (· < ·)
 lt:∀x∈s,0<=x/\x<(k:Int)
 all:∀x∈s,∀y∈s,x≠y->(tiedL ts x y==w)=true
theorem sets_k{ts:List (Int×Int)}{w:Bool}:∀(k:Nat) (s:List Int),s∈setsL ts w k->SetK ts w k s
 |0,s,h=>by
  rw[yal.mp (show s∈[[]]from h)]
  exact⟨List.Pairwise.nil,fun x hx=>(nomatch hx),fun x hx=>(nomatch hx)⟩
 |k+1,s,h=>by
  rcases yax.mp (show s∈setsL ts w k++((setsL ts w k).filter fun s=>goB ts w s (k:Int)).map fun s=>s++[(k:Int)]from h)with q|q
  ·have S:=sets_k k s q
   exact⟨S.up,fun x hx=>by have:=S.lt x hx;omega,S.all⟩
  ·obtain⟨t,ht,rfl⟩:=ybc.mp q
   obtain⟨t1,t2⟩:=yar.mp ht
   have S:=sets_k k t t1
   have g:∀y∈t,(tiedL ts (k:Int) y==w)=true:=fun y hy=>ybb.mp t2 y hy
   refine⟨?_,fun x hx=> ?_,fun x hx y hy hne=> ?_⟩
   ·rw[ycz]
    refine⟨S.up,yce _ _,fun x hx y hy=> ?_⟩
    rw[yal.mp hy]
    exact(S.lt x hx).2
   ·rcases yax.mp hx with z|z
    ·have:=S.lt x z;omega
    ·rw[yal.mp z];omega
   ·rcases yax.mp hx with z|z
    ·rcases yax.mp hy with z'|z'
     ·exact S.all x z y z' hne
     ·rw[yal.mp z',zci];exact g x z
    ·rw[yal.mp z]at hne⊢
     rcases yax.mp hy with z'|z'
     ·exact g y z'
     ·exact absurd (yal.mp z').symm hne
theorem sets_nodup{ts:List (Int×Int)}{w:Bool}:∀k:Nat,(setsL ts w k).Nodup
 |0=>by show([[]]:List (List Int)).Nodup;simp
 |k+1=>by
  show(setsL ts w k++((setsL ts w k).filter fun s=>goB ts w s (k:Int)).map fun s=>s++[(k:Int)]).Nodup
  refine List.nodup_append.mpr ⟨sets_nodup k,map_nodup ((sets_nodup k).filter _) (fun a _ b _ e=>List.append_cancel_right e),fun a ha b hb e=> ?_⟩
  obtain⟨t,_,rfl⟩:=ybc.mp hb
  have:=(sets_k k a ha).lt (k:Int) (by rw[e];simp)
  omega
theorem sets_len{ts:List (Int×Int)}{w:Bool}:∀k:Nat,(setsL ts w k).length<=2^k
 |0=>yac _
 |k+1=>by
  show(setsL ts w k++((setsL ts w k).filter fun s=>goB ts w s (k:Int)).map fun s=>s++[(k:Int)]).length<=2^(k+1)
  rw[yay,yaa,Nat.pow_succ]
  have a:=sets_len (ts:=ts) (w:=w) k
  have b:=ybe (fun s=>goB ts w s (k:Int)) (setsL ts w k)
  omega
theorem full_of{ts:List (Int×Int)}{w:Bool}{n:Nat}{s:List Int}(h:s∈fulls ts w n):Full (fun i j=> !(tiedL ts i j==w)) (rng n) s:=by
 obtain⟨h1,h2⟩:=yar.mp h
 have S:=sets_k n s h1
 refine⟨S.up,fun x hx=>mem_rng.mpr (S.lt x hx),fun x hx y hy hne=>by rw[S.all x hx y hy hne];rfl,fun v hv hn=> ?_⟩
 unfold fullB at h2
 apply Classical.byContradiction
 intro hc
 have h3:((rng n).any fun p=> !decide (p∈s)&&goB ts w s p)=false:=by simpa using h2
 rw[ydj]at h3
 apply h3 v hv
 rw[decide_eq_false hn]
 show goB ts w s v=true
 unfold goB
 rw[ybb]
 intro q hq
 cases e:(tiedL ts v q==w)with
 |true=>rfl
 |false=>exact absurd ⟨q,hq,by show(!(tiedL ts q v==w))=true;rw[zci,e];rfl⟩ hc
theorem fulls_len{ts:List (Int×Int)}{w:Bool}{n:Nat}(hn:n<=10):(fulls ts w n).length<=36:=by
 have h:=full_count (r:=fun i j=> !(tiedL ts i j==w)) (fun i j=>by rw[zci]) n (rng n) (by unfold rng;simp) hn (fulls ts w n) ((sets_nodup n).filter _) (fun s hs=>full_of hs)
 have:=ff_mono n 10 hn (yac _)
 exact yat h this
noncomputable def leftL(ts:List (Int×Int))(w:Bool)(n:Nat)(s:List Int):List Int:=(rng n).filter fun p=>s.all fun q=> !decide (p=q)&&(tiedL ts q p==w)
noncomputable def friendL(ts:List (Int×Int))(w:Bool)(n:Nat)(q:Int):List Int:=(rng n).filter fun p=> !decide (p=q)&&(tiedL ts q p==w)
theorem left_nil(ts:List (Int×Int))(w:Bool)(n:Nat):leftL ts w n []=rng n:=by unfold leftL;exact List.filter_eq_self.mpr fun _ _=>rfl
theorem left_snoc(ts:List (Int×Int))(w:Bool)(n:Nat)(s:List Int)(k:Int):leftL ts w n (s++[k])=(leftL ts w n s).filter fun p=>decide (p∈friendL ts w n k):=by
 unfold leftL
 rw[List.filter_filter]
 refine List.filter_congr fun p hp=> ?_
 rw[List.all_append,Bool.and_comm]
 congr 1
 unfold friendL
 rw[Bool.eq_iff_iff,decide_eq_true_eq,yar]
 simp[hp]
theorem in_left{ts:List (Int×Int)}{w:Bool}{n k:Nat}{s:List Int}(hs:SetK ts w k s)(hk:k<n):decide ((k:Int)∈leftL ts w n s)=goB ts w s (k:Int):=by
 unfold leftL goB
 rw[Bool.eq_iff_iff,decide_eq_true_eq,yar,ybb,ybb]
 constructor
 ·rintro⟨_,h⟩ q hq
  have:=h q hq
  rw[Bool.and_eq_true]at this
  rw[zci];exact this.2
 ·intro h
  refine⟨mem_rng.mpr ⟨by omega,by omega⟩,fun q hq=> ?_⟩
  have:=(hs.lt q hq).2
  rw[Bool.and_eq_true]
  refine⟨?_,by rw[zci];exact h q hq⟩
  rw[decide_eq_false (by omega)];rfl
theorem left_full(ts:List (Int×Int))(w:Bool)(n:Nat)(s:List Int):decide (leftL ts w n s=[])=fullB ts w n s:=by
 unfold leftL fullB
 rw[Bool.eq_iff_iff,decide_eq_true_eq,List.filter_eq_nil_iff,Bool.not_eq_true',ydj]
 constructor
 ·intro h p hp hc
  rw[Bool.and_eq_true]at hc
  apply h p hp
  rw[ybb]
  intro q hq
  have h1:p∉s:=by simpa using hc.1
  have h2:=ybb.mp hc.2 q hq
  rw[Bool.and_eq_true]
  refine⟨?_,by rw[zci];exact h2⟩
  have ne:¬p=q:=fun e=>h1 (by rw[e];exact hq)
  rw[decide_eq_false ne];rfl
 ·intro h p hp hc
  apply h p hp
  rw[ybb]at hc
  rw[Bool.and_eq_true]
  refine⟨?_,?_⟩
  ·have:p∉s:=fun z=>by
    have:=hc p z
    simp at this
   rw[decide_eq_false this];rfl
  ·unfold goB
   rw[ybb]
   intro q hq
   have:=hc q hq
   rw[Bool.and_eq_true]at this
   rw[zci];exact this.2
theorem rising_same:∀{xs ys:List Int},xs.Pairwise (· < ·)->ys.Pairwise (· < ·)->(∀k,k∈xs↔k∈ys)->xs=ys
 |[],[],_,_,_=>rfl
 |[],y::ys,_,_,h=>by have:=(h y).mpr (by simp);simp at this
 |x::xs,[],_,_,h=>by have:=(h x).mp (by simp);simp at this
 |x::xs,y::ys,hx,hy,h=>by
  rw[List.pairwise_cons]at hx hy
  have e:x=y:=by
   have a:=(h x).mp (by simp)
   have b:=(h y).mpr (by simp)
   rcases yam.mp a with a|a
   ·exact a
   ·rcases yam.mp b with b|b
    ·exact b.symm
    ·have:=hy.1 x a;have:=hx.1 y b;omega
  subst e
  rw[rising_same hx.2 hy.2 fun k=> ?_]
  constructor
  ·intro hk
   rcases yam.mp ((h k).mp (yae _ hk))with a|a
   ·have:=hx.1 k hk;omega
   ·exact a
  ·intro hk
   rcases yam.mp ((h k).mpr (yae _ hk))with a|a
   ·have:=hy.1 k hk;omega
   ·exact a
theorem sets_of{ts:List (Int×Int)}{w:Bool}:∀(k:Nat) (s:List Int),SetK ts w k s->s∈setsL ts w k
 |0,s,h=>by
  cases s with
  |nil=>show([]:List Int)∈[[]];simp
  |cons x s=>have:=h.lt x (by simp);omega
 |k+1,s,h=>by
  show s∈setsL ts w k++((setsL ts w k).filter fun s=>goB ts w s (k:Int)).map fun s=>s++[(k:Int)]
  by_cases c:(k:Int)∈s
  ·have hm:∀x,x∈s.filter (fun x=> !decide (x=(k:Int)))↔x∈s/\x≠(k:Int):=fun x=>by rw[yar];simp
   refine yaj _ (ybc.mpr ⟨s.filter (fun x=> !decide (x=(k:Int))),yar.mpr ⟨sets_of k _ ⟨h.up.filter _,fun x hx=> ?_,fun x hx y hy hne=> ?_⟩,?_⟩,?_⟩)
   ·have a:=(hm x).mp hx
    have b:=h.lt x a.1
    have:=a.2
    omega
   ·exact h.all x ((hm x).mp hx).1 y ((hm y).mp hy).1 hne
   ·unfold goB
    rw[ybb]
    intro q hq
    have a:=(hm q).mp hq
    exact h.all _ c q a.1 (fun e=>a.2 e.symm)
   ·refine rising_same ?_ h.up fun x=> ?_
    ·rw[ycz]
     refine⟨h.up.filter _,yce _ _,fun x hx y hy=> ?_⟩
     rw[yal.mp hy]
     have a:=(hm x).mp hx
     have b:=h.lt x a.1
     have:=a.2
     omega
    ·rw[yax,hm,yal]
     constructor
     ·rintro(a|a)
      ·exact a.1
      ·rw[a];exact c
     ·intro a
      by_cases e:x=(k:Int)
      ·exact .inr e
      ·exact .inl ⟨a,e⟩
  ·refine ybq _ (sets_of k s ⟨h.up,fun x hx=> ?_,h.all⟩)
   have b:=h.lt x hx
   have:x≠(k:Int):=fun e=>c (by rw[<-e];exact hx)
   omega
theorem SetK.of{ts:List (Int×Int)}{w:Bool}{n:Nat}{s:List Int}(F:Full (fun i j=> !(tiedL ts i j==w)) (rng n) s):SetK ts w n s:=
 ⟨F.up,fun x hx=>mem_rng.mp (F.sub x hx),fun x hx y hy hne=>by
  have:=F.ind x hx y hy hne
  try dsimp only at this
  cases e:(tiedL ts x y==w)with
  |true=>rfl
  |false=>rw[e]at this;cases this⟩
theorem full_in{ts:List (Int×Int)}{w:Bool}{n:Nat}{s:List Int}(F:Full (fun i j=> !(tiedL ts i j==w)) (rng n) s):s∈fulls ts w n:=by
 refine yar.mpr ⟨sets_of n s (SetK.of F),?_⟩
 unfold fullB
 rw[Bool.not_eq_true',ydj]
 intro p hp hc
 rw[Bool.and_eq_true]at hc
 have hn:p∉s:=by simpa using hc.1
 obtain⟨x,hx,hr⟩:=F.max p hp hn
 have:=ybb.mp hc.2 x hx
 try dsimp only at hr this
 rw[zci,this]at hr
 cases hr
theorem most_at{α:Type}(g:α->Nat):∀V:List α,V≠[]->∃v∈V,∀u∈V,g u<=g v
 |[],h=>absurd rfl h
 |[x],_=>⟨x,by simp,fun u hu=>by rw[yal.mp hu];exact yac _⟩
 |x::y::V,_=>by
  obtain⟨v,hv,hm⟩:=most_at g (y::V) (by simp)
  by_cases c:g v<=g x
  ·refine⟨x,by simp,fun u hu=> ?_⟩
   rcases yam.mp hu with e|e
   ·rw[e];exact yac _
   ·exact yat (hm u e) c
  ·refine⟨v,yae _ hv,fun u hu=> ?_⟩
   rcases yam.mp hu with e|e
   ·rw[e];omega
   ·exact hm u e
theorem ext_full{ts:List (Int×Int)}{w:Bool}{n:Nat}{s:List Int}(hs:SetK ts w n s):∃t∈fulls ts w n,∀x∈s,x∈t:=by
 let C:=(setsL ts w n).filter fun t=>s.all fun x=>decide (x∈t)
 have mC:∀t,t∈C↔t∈setsL ts w n/\∀x∈s,x∈t:=fun t=>by
  show t∈(setsL ts w n).filter _↔_
  rw[yar,ybb]
  simp
 have hne:C≠[]:=fun e=>by
  have:s∈C:=(mC s).mpr ⟨sets_of n s hs,fun x hx=>hx⟩
  rw[e]at this;cases this
 obtain⟨t,ht,hm⟩:=most_at List.length C hne
 obtain⟨h1,h2⟩:=(mC t).mp ht
 have T:=sets_k n t h1
 refine⟨t,full_in ⟨T.up,fun x hx=>mem_rng.mpr (T.lt x hx),fun x hx y hy hne=> ?_,fun v hv hn=> ?_⟩,h2⟩
 ·show(!(tiedL ts x y==w))=false
  rw[T.all x hx y hy hne];rfl
 ·apply Classical.byContradiction
  intro hc
  have go:∀x∈t,(tiedL ts x v==w)=true:=fun x hx=>by
   cases e:(tiedL ts x v==w)with
   |true=>rfl
   |false=>exact absurd ⟨x,hx,by show(!(tiedL ts x v==w))=true;rw[e];rfl⟩ hc
  have mU:∀x,x∈(rng n).filter (fun x=>decide (x∈t)||decide (x=v))↔x∈t\/x=v:=fun x=>by
   rw[yar,Bool.or_eq_true,decide_eq_true_eq,decide_eq_true_eq]
   constructor
   ·exact fun z=>z.2
   ·rintro(z|z)
    ·exact⟨mem_rng.mpr (T.lt x z),.inl z⟩
    ·exact⟨by rw[z];exact hv,.inr z⟩
  have up:((rng n).filter (fun x=>decide (x∈t)||decide (x=v))).Pairwise (· < ·):=by
   refine List.Pairwise.filter _ ?_
   unfold rng
   rw[ydc]
   exact List.pairwise_lt_range.imp fun{a b} h=>by omega
  have U:SetK ts w n ((rng n).filter (fun x=>decide (x∈t)||decide (x=v))):=⟨up,fun x hx=>mem_rng.mp (yar.mp hx).1,fun x hx y hy hne=>by
   rcases(mU x).mp hx with a|a
   ·rcases(mU y).mp hy with b|b
    ·exact T.all x a y b hne
    ·rw[b];exact go x a
   ·rcases(mU y).mp hy with b|b
    ·rw[a,zci];exact go y b
    ·exact absurd (a.trans b.symm) hne⟩
  have inC:=(mC _).mpr ⟨sets_of n _ U,fun x hx=>(mU x).mpr (.inl (h2 x hx))⟩
  have l1:=hm _ inC
  have l2:=nodup_len (l:=v::t) (m:=(rng n).filter (fun x=>decide (x∈t)||decide (x=v))) (ycl.mpr ⟨hn,T.up.imp fun{a b} h=>by omega⟩) (fun x hx=>by
   rcases yam.mp hx with z|z
   ·exact(mU x).mpr (.inr z)
   ·exact(mU x).mpr (.inl z))
  rw[ybj]at l2
  omega
end Hs
namespace Hs
open PySem L2 HsD
section
variable{P:Program}{w:World}{K:W.Frag}{mg:Str->Option Value}{base:Heap}
theorem blV_eq(a b:Bool):decide (V.bl a=V.bl b)=(a==b):=by cases a<;>cases b<;>rfl
theorem intV_eq(a b:Int):decide (V.int a=V.int b)=decide (a=b):=by
 by_cases e:a=b
 ·subst e;simp
 ·rw[decide_eq_false e,decide_eq_false (by intro z;injection z with z;exact e z)]
theorem intV_ne{a b:Int}:(!decide (V.int a=V.int b))= !decide (a=b):=by rw[intV_eq]
theorem any_ints(xs:List Int)(k:Int):((xs.map PyData.int).any fun d=>PyData.eqv d (.int k))=decide (k∈xs):=by
 induction xs with
 |nil=>simp
 |cons x xs ih=>
  rw[ycd,ydq,ih]
  have e:PyData.eqv (.int x) (.int k)=decide (k=x):=by
   show(x==k)=_
   rw[Bool.eq_iff_iff];simp;exact⟨fun h=>h.symm,fun h=>h.symm⟩
  rw[e,Bool.eq_iff_iff]
  simp
theorem zcg{α:Type}{p:α->Bool}{l:List α}{i:Nat}(hi:i<l.length):(l.take (i+1)).filter p=(l.take i).filter p++(if p l[i]=true then[l[i]]else[]):=by
 rw[ybg,yag hi,ycx]
 congr 1
 show[l[i]].filter p=_
 rw[ycs]
 rfl
theorem rng_succ(k:Nat):rng (k+1)=rng k++[(k:Int)]:=by unfold rng;rw[ybx,yad];rfl
theorem tupR_rng(n:Nat):tupR n=(rng n).map V.int:=by unfold tupR rng;rw[ycw];rfl
noncomputable def spInBoth(K:W.Frag):Sp:=fun vs H Q _=>∃(l m:Addr) (xs ys:List Int),vs=[.ref l,.ref m]/\SqL K H l (xs.map V.int)/\SqL K H m (ys.map V.int)/\∀r H',Same H H'->H' r=some (.lst ((xs.filter fun p=>decide (p∈ys)).map V.int))->H r=none->Q (.ref r) H'
theorem sc_inBoth:FnScope ["ones","others"] ["ones","others"] (defScope s_in_both):=fsc
theorem ok_inBoth{f:Addr}{fd:FuncData}(F:Fun K "in_both" "in_both" s_in_both f fd):
  FnOk P w K mg base CX0 1 f fd ["ones","others"] (spInBoth K):=by
 refine F.ok sc_inBoth (fun vs H Q E h=> ?_) (fun cdv A outer s H vs Q E hr h=> ?_)
 ·obtain⟨l,m,xs,ys,rfl,_⟩:=h
  rfl
 obtain⟨l,m,xs,ys,rfl,hL,hM,q⟩:=h
 refine⟨_,(zaf (zak (zaz (own:=["place"]) (caps:=["others"]) (ix:=[1]) rfl (zcm (pv 0)) rfl rfl (.cons rfl rfl .nil) (fun _ _ _ _ _=>(zai (i:=0) (show(["place","others"]:List Str).Nodup from by decide+kernel) rfl (Or.inl rfl))) (fun _ _ _ _ _=>zdk (zap (op_inDK K hr.units) (pv 0) (pv 1) (by with_unfolding_all rfl))) (fun _ _ _ _ _=>(pv 0))))),?_⟩
 refine⟨_,rfl,l,_,rfl,hL,fun hz=> ?_⟩
 refine zco (xs:=xs.map V.int) (fun k acc σ H'=>acc=((xs.take k).filter fun p=>decide (p∈ys)).map V.int/\Same H H'/\∃o,σ=[o,some (.ref m)]) ⟨rfl,Same.refl _,_,rfl⟩ (fun k acc σ H' _ p=>p.2.1.seq hL) (fun k acc σ H' hk p=> ?_) hz (fun k x acc σ H' hx p=> ?_) (fun acc σ H' p=> ?_)
 ·rw[p.1,yaa]
  exact yat (ybe _ _) (by rw[ybh];exact ycj _ _)
 ·obtain⟨rfl,sm,o,rfl⟩:=p
  rw[yaf]at hx
  cases ex:xs[k]? with
  |none=>rw[ex]at hx;cases hx
  |some y=>
   rw[ex]at hx
   cases hx
   obtain⟨hk,ey⟩:=yaq.mp ex
   have e:=zcg (p:=fun p=>decide (p∈ys)) hk
   rw[ey]at e
   refine⟨_,rfl,_,rfl,m,_,_,.int y,rfl,.inl (sm.seq hM),DVs.ints ys,.int _,lay_ints ys,rfl,(by show 0<=60;decide),_,rfl,?_⟩
   rw[any_ints]
   refine ite2 (fun c=> ?_) (fun c=> ?_)
   ·exact⟨_,rfl,by rw[e,if_pos c,yad];rfl,sm,_,rfl⟩
   ·exact⟨by rw[e,if_neg c,ybr],sm,_,rfl⟩
 ·intro p1 hp1
  obtain⟨rfl,sm,_⟩:=p
  rw[yaa,ybk]
  exact q p1 _ (sm.trans (zad hp1 _)) zab (sm.free hp1)
noncomputable def spByTie(K:W.Frag):Sp:=fun vs H Q _=>∃(a:Addr) (n i:Int) (ts:List (Int×Int)) (w:Bool),vs=[.ref a,.int i,.bl w]/\WebIs K H a n ts/\∀r H',Same H H'->H' r=some (.lst ((friendL ts w n.toNat i).map V.int))->H r=none->Q (.ref r) H'
theorem sc_byTie:FnScope ["web","place","tied"] ["web","place","tied"] (defScope zbu):=fsc
theorem ok_byTie{f f1:Addr}{fd d1:FuncData}(F:Fun K "places_by_tie" "places_by_tie" zbu f fd)(D1:Dfn K mg "has_tie" s_has_tie ["web","one","other"] f1 d1)(G1:FnOk P w K mg base CX0 1 f1 d1 ["web","one","other"] (spHas K))(m_range:mg "range"=none):
  FnOk P w K mg base CX0 2 f fd ["web","place","tied"] (spByTie K):=by
 refine F.ok sc_byTie (fun vs H Q E h=> ?_) (fun cdv A outer s H vs Q E hr h=> ?_)
 ·obtain⟨a,n,i,ts,w,rfl,_⟩:=h
  rfl
 obtain⟨a,n,i,ts,w,rfl,hA,q⟩:=h
 refine⟨_,(zaf (zak (zaz (own:=["other"]) (caps:=["place","web","tied"]) (ix:=[1,0,2]) rfl (zay rfl m_range (zaa (zao zat (pv 0) zag (fun _ _=>rfl)) zac)) rfl rfl (.cons rfl rfl (.cons rfl rfl (.cons rfl rfl .nil))) (fun _ _ _ _ _=>(zai (i:=0) (show(["other","place","web","tied"]:List Str).Nodup from by decide+kernel) rfl (Or.inl rfl))) (fun _ _ _ _ _=>zdk (PW.pt (pw_and (zap op_ne (pv 0) (pv 1) (nomark _)) (pw_and1 (zap op_eq (pc G1 hr D1 (zaa (pv 2) (zaa (pv 1) (zaa (pv 0) zac)))) (pv 3) (nomark _)))))) (fun _ _ _ _ _=>(pv 0))))),?_⟩
 have h0:=hA.h0
 have h10:=hA.h1
 obtain⟨ta,ra,a1,a2,a3⟩:=id hA.web
 refine⟨_,rfl,a,_,_,.int n,rfl,rfl,a1,rfl,n,rfl,by omega,by omega,?_⟩
 refine zbn (n:=n.toNat) (fun k acc σ H'=>acc=((rng k).filter fun p=> !decide (p=i)&&(tiedL ts i p==w)).map V.int/\Same H H'/\∃o,σ=[o,some (.int i),some (.ref a),some (.bl w)]) ⟨rfl,Same.refl _,_,rfl⟩ (fun k acc σ H' hk p=> ?_) (by rw[sizeLine_eq];omega) (fun k acc σ H' hk p=> ?_) (fun acc σ H' p=> ?_)
 ·rw[p.1,yaa]
  exact yat (ybe _ _) (by unfold rng;simp)
 ·obtain⟨rfl,sm,o,rfl⟩:=p
  have ek:(0+(k:Int))=(k:Int):=by omega
  rw[ek]
  have e:∀b,b=(!decide ((k:Int)=i)&&(tiedL ts i (k:Int)==w))->((rng (k+1)).filter fun p=> !decide (p=i)&&(tiedL ts i p==w))=((rng k).filter fun p=> !decide (p=i)&&(tiedL ts i p==w))++(if b=true then[(k:Int)]else[]):=fun b hb=>by
   rw[rng_succ,ycx,ycs,hb];rfl
  refine⟨_,rfl,_,rfl,rfl,_,rfl,?_⟩
  rw[intV_ne]
  refine ite2 (fun c=> ?_) (fun c=> ?_)
  ·refine⟨_,rfl,_,rfl,_,rfl,a,n,_,_,ts,rfl,(hA.same sm).web,fun H5 s5=>⟨_,rfl,rfl,_,rfl,?_⟩⟩
   rw[blV_eq,tied_eq hA.pk]
   refine ite2 (fun c2=> ?_) (fun c2=> ?_)
   ·exact⟨_,rfl,by rw[e true (by rw[c,c2];rfl),yad];rfl,sm.trans s5,_,rfl⟩
   ·exact⟨by rw[e false (by rw[c,Bool.eq_false_iff.mpr c2];rfl)];simp,sm.trans s5,_,rfl⟩
  ·exact⟨by rw[e false (by rw[Bool.eq_false_iff.mpr c];rfl)];simp,sm,_,rfl⟩
 ·intro p1 hp1
  obtain⟨rfl,sm,_⟩:=p
  exact q p1 _ (sm.trans (zad hp1 _)) zab (sm.free hp1)
noncomputable def SetsAt(K:W.Frag)(H:Hp)(r:Addr)(ss:List (List Int)):Prop:=∃its:List (Addr×List Int),H r=some (.lst (its.map fun p=>V.ref p.1))/\(∀p∈its,SqT K H p.1 (p.2.map V.int))/\its.map (fun p=>p.2)=ss
noncomputable def SortedF(ss:List (List Int))(ts:List (Int×Int))(w:Bool)(n:Nat):Prop:=ss.Perm (fulls ts w n)/\ss.Pairwise fun a b=>HT.lexLt b a=false
theorem full_ne{ts:List (Int×Int)}{w:Bool}{n:Nat}(h2:2<=(fulls ts w n).length):∀s∈fulls ts w n,s≠[]:=by
 intro s hs e
 subst e
 have F:=full_of hs
 cases n with
 |zero=>
  have:(fulls ts w 0).length<=1:=by
   show(([[]]:List (List Int)).filter (fullB ts w 0)).length<=1
   exact ybe _ _
  omega
 |succ n=>
  obtain⟨x,hx,_⟩:=F.max 0 (mem_rng.mpr ⟨by omega,by omega⟩) (by simp)
  cases hx
structure Fit(K:W.Frag)(H:Hp)(ts:List (Int×Int))(w:Bool)(n:Nat)(q:Addr×Addr×Addr×List Int):Prop where
 pr:SqT K H q.1 [.ref q.2.1,.ref q.2.2.1]
 so:SqT K H q.2.1 (q.2.2.2.map V.int)
 le:H q.2.2.1=some (.lst ((leftL ts w n q.2.2.2).map V.int))
theorem Fit.same{H H':Hp}{ts:List (Int×Int)}{w:Bool}{n:Nat}{q:Addr×Addr×Addr×List Int}(h:Fit K H ts w n q)(e:Same H H'):Fit K H' ts w n q:=⟨e.tup h.pr,e.tup h.so,e _ _ h.le⟩
noncomputable def FoundV(K:W.Frag)(H:Hp)(fd:Addr)(ts:List (Int×Int))(w:Bool)(n:Nat)(ss:List (List Int)):Prop:=∃its:List (Addr×Addr×Addr×List Int),H fd=some (.lst (its.map fun q=>V.ref q.1))/\(∀q∈its,Fit K H ts w n q)/\its.map (fun q=>q.2.2.2)=ss
noncomputable def spFullSets(K:W.Frag):Sp:=fun vs H Q _=>∃(fl:Addr) (fas:List Addr) (ts:List (Int×Int)) (w:Bool) (n:Nat),vs=[.ref fl]/\H fl=some (.lst (fas.map V.ref))/\fas.length=n/\n<=10/\(∀(i:Nat) f,fas[i]? =some f->H f=some (.lst ((friendL ts w n (i:Int)).map V.int)))/\
 ∀r ss H',Same H H'->SetsAt K H' r ss->SortedF ss ts w n->H r=none->Q (.ref r) H'
theorem zdf:FnScope ["friends","found","place","wider"] ["friends"] (defScope zdj):=fsc
theorem ok_fullSets{f f1:Addr}{fd d1:FuncData}(F:Fun K "full_sets" "full_sets" zdj f fd)(D1:Dfn K mg "in_both" s_in_both ["ones","others"] f1 d1)(G1:FnOk P w K mg base CX0 1 f1 d1 ["ones","others"] (spInBoth K))(m_list:mg "list"=none)(m_range:mg "range"=none)(m_len:mg "len"=none)(m_sorted:mg "sorted"=none):
  FnOk P w K mg base CX0 2 f fd ["friends"] (spFullSets K):=by
 refine F.ok zdf (fun vs H Q E h=> ?_) (fun cdv A outer s H vs Q E hr h=> ?_)
 ·obtain⟨fl,fas,ts,w,n,rfl,_⟩:=h
  rfl
 obtain⟨fl,fas,ts,w,n,rfl,hF,hn,h10,hfr,q⟩:=h
 refine⟨_,(zae (zal (i:=1) zdf.nd rfl (Or.inl rfl) (pe_lst (zaa (zaw (zaa (zaw zac) (zaa (pe_lstRange rfl rfl m_list rfl m_range (zaa (zam zba rfl m_len PySem.boot_len (zaa (pv 0) zac)) zac)) zac))) zac))) (zae (ps_for PassesOwn.never rfl (zay rfl m_range (zaa (zam zba rfl m_len PySem.boot_len (zaa (pv 0) zac)) zac)) (zai (i:=2) zdf.nd rfl (Or.inr rfl)) (zae (zcq (i:=3) (own:=["some","left"]) (caps:=["place","friends"]) (ix:=[2,0]) zdf.nd rfl (Or.inl rfl) rfl (zcm (pv 1)) rfl rfl (.cons rfl rfl (.cons rfl rfl .nil)) (fun _ _ _ _ _=>(pg_tupK K (n:=2) rfl (zbb (zai (i:=0) (show(["some","left","place","friends"]:List Str).Nodup from by decide+kernel) rfl (Or.inl rfl)) (zbb (zai (i:=1) (show(["some","left","place","friends"]:List Str).Nodup from by decide+kernel) rfl (Or.inl rfl)) pgs_nil)))) (fun _ _ _ _ _=>zdk (zap (op_inDK K hr.units) (pv 2) (pv 1) (by with_unfolding_all rfl))) (fun _ _ _ _ _=>(zaw (zaa (zan (op_catEK K) (pv 0) (zaw (zaa (pv 2) zac))) (zaa (pc G1 hr D1 (zaa (pv 1) (zaa (zao (ix_listK K) (pv 3) (pv 2) (fun _ _=>rfl)) zac))) zac))))) (zaf (zal (i:=1) zdf.nd rfl (Or.inl rfl) (zan op_cat (pv 1) (pv 3)))))) (zaf (zak (zam call_sortedE rfl m_sorted (by decide+kernel) (zaa (zaz (own:=["some","left"]) (caps:=[]) (ix:=[]) rfl (zcm (pv 1)) rfl rfl .nil (fun _ _ _ _ _=>(pg_tupK K (n:=2) rfl (zbb (zai (i:=0) (show(["some","left"]:List Str).Nodup from by decide+kernel) rfl (Or.inl rfl)) (zbb (zai (i:=1) (show(["some","left"]:List Str).Nodup from by decide+kernel) rfl (Or.inl rfl)) pgs_nil)))) (fun _ _ _ _ _=>zdk (pt_not (pt_truthK K (pv 1) (fun _=>rfl)))) (fun _ _ _ _ _=>(pv 0))) zac)))))),?_⟩
 have el:((fas.map V.ref).length:Int)=(n:Int):=by rw[yaa,hn]
 refine⟨(by show 0<=sizeLine;decide),fun e1 he1=> ?_⟩
 have s1:=zad he1 (.tup [])
 have t1:SqT K (upd H e1 (.tup [])) e1 []:=SqT.of zab
 generalize (upd H e1 (.tup []))=H1 at *
 refine⟨_,rfl,fl,_,rfl,.inl (SqL.of (s1 _ _ hF)),fun _=>⟨_,rfl,by omega,by rw[el];omega,fun rl hrl=> ?_⟩⟩
 have er:tupR ((fas.map V.ref).length:Int).toNat=(rng n).map V.int:=by rw[el,ydk,tupR_rng]
 rw[er]
 have s2:=zad hrl (.lst ((rng n).map V.int))
 have t2:(upd H1 rl (.lst ((rng n).map V.int))) rl=some (.lst ((rng n).map V.int)):=zab
 generalize (upd H1 rl (.lst ((rng n).map V.int)))=H2 at *
 refine⟨(by show 2<=sizeLine;decide),fun e3 he3=> ?_⟩
 have s3:=zad he3 (.tup [.ref e1,.ref rl])
 have t3:SqT K (upd H2 e3 (.tup [.ref e1,.ref rl])) e3 [.ref e1,.ref rl]:=SqT.of zab
 generalize (upd H2 e3 (.tup [.ref e1,.ref rl]))=H3 at *
 refine⟨(by show 1<=sizeLine;decide),fun fd hfd=> ?_⟩
 have s4:=zad hfd (.lst [.ref e3])
 have F4:FoundV K (upd H3 fd (.lst [.ref e3])) fd ts w n (setsL ts w 0):=by
  refine⟨[(e3,e1,rl,[])],zab,fun q hq=> ?_,rfl⟩
  rw[yal.mp hq]
  exact⟨s4.tup t3,s4.tup (s3.tup (s2.tup t1)),by rw[left_nil];exact s4 _ _ (s3 _ _ t2)⟩
 have s04:=s1.trans (s2.trans (s3.trans s4))
 generalize (upd H3 fd (.lst [.ref e3]))=H4 at *
 refine⟨_,rfl,fl,_,rfl,.inl (SqL.of (s04 _ _ hF)),fun _=>⟨_,rfl,by omega,by rw[el];omega,?_⟩⟩
 have en:((fas.map V.ref).length:Int).toNat=n:=by rw[el,ydk]
 rw[en]
 refine zbz (n:=n) (fun k σ H'=>Same H H'/\∃fd b2 b3,FoundV K H' fd ts w n (setsL ts w k)/\σ=[some (.ref fl),some (.ref fd),b2,b3]) ⟨s04,fd,_,_,F4,rfl⟩ (fun k σ H' hk p=> ?_) (fun σ H' p=> ?_)
 ·obtain⟨s5,fd,b2,b3,F5,rfl⟩:=p
  have ek:(0+(k:Int))=(k:Int):=by omega
  rw[ek]
  obtain⟨its,f1,f2,f3⟩:=F5
  have hlen:its.length<=1024:=by
   have a:=sets_len (ts:=ts) (w:=w) k
   rw[<-f3,yaa]at a
   have b:2^k<=2^10:=yda (by decide) (by omega)
   have c:2^10=1024:=by decide
   omega
  have hkf:k<fas.length:=by omega
  have hfk:(fas.map V.ref)[k]? =some (.ref fas[k]):=by rw[yaf,yag hkf];rfl
  have hgk:=hfr k fas[k] (yag hkf)
  refine⟨_,rfl,fd,_,rfl,SqL.of f1,fun hzf=> ?_⟩
  refine zco (xs:=its.map fun q=>V.ref q.1) (fun i acc σ H''=>(∃its2:List (Addr×Addr×Addr×List Int),acc=its2.map (fun q=>V.ref q.1)/\(∀q∈its2,Fit K H'' ts w n q)/\its2.map (fun q=>q.2.2.2)=(((setsL ts w k).take i).filter fun s=>goB ts w s (k:Int)).map fun s=>s++[(k:Int)])/\Same H' H''/\∃o1 o2,σ=[o1,o2,some (.int (k:Int)),some (.ref fl)]) ⟨⟨[],rfl,fun q hq=>(nomatch hq),rfl⟩,Same.refl _,_,_,rfl⟩ (fun i acc σ H'' _ p=>p.2.1.seq (SqL.of f1)) (fun i acc σ H'' hi p=> ?_) hzf (fun i x acc σ H'' hx p=> ?_) (fun acc σ H'' p=> ?_)
  ·obtain⟨⟨its2,rfl,g2,g3⟩,_⟩:=p
   have a:=congrArg List.length g3
   rw[yaa,yaa]at a
   rw[yaa,a]
   exact yat (ybe _ _) (by rw[ybh];exact ycj _ _)
  ·obtain⟨⟨its2,rfl,g2,g3⟩,sm,o1,o2,rfl⟩:=p
   rw[yaf]at hx
   cases ex:its[i]? with
   |none=>rw[ex]at hx;cases hx
   |some v=>
    rw[ex]at hx
    cases hx
    have fv:=(f2 v (yav ex)).same sm
    have hsv:(setsL ts w k)[i]? =some v.2.2.2:=by rw[<-f3,yaf,ex];rfl
    obtain⟨hi,esv⟩:=yaq.mp hsv
    have Sv:=sets_k k v.2.2.2 (yav hsv)
    have e:=zcg (p:=fun s=>goB ts w s (k:Int)) hi
    rw[esv]at e
    refine⟨v.1,_,rfl,fv.pr,rfl,_,_,rfl,_,_,rfl,rfl,?_⟩
    refine⟨_,rfl,_,rfl,v.2.2.1,_,_,.int (k:Int),rfl,.inl (SqL.of fv.le),DVs.ints _,.int _,lay_ints _,rfl,(by show 0<=60;decide),_,rfl,?_⟩
    rw[any_ints,in_left Sv hk]
    refine ite2 (fun c=> ?_) (fun c=> ?_)
    ·refine⟨_,rfl,_,rfl,(by show 1<=sizeLine;decide),fun e5 he5=> ?_⟩
     have s6:=zad he5 (.tup [.int (k:Int)])
     have t6:SqT K (upd H'' e5 (.tup [.int (k:Int)])) e5 [.int (k:Int)]:=SqT.of zab
     generalize (upd H'' e5 (.tup [.int (k:Int)]))=H6 at *
     have hvl:v.2.2.2.length<=10:=by
      have a:=nodup_len (l:=v.2.2.2) (m:=rng n) (Sv.up.imp fun{x y} h=>by omega) (fun x hx=>mem_rng.mpr (by have:=Sv.lt x hx;omega))
      have b:(rng n).length=n:=by unfold rng;simp
      omega
     refine⟨v.2.1,e5,_,_,rfl,rfl,s6.tup fv.so,t6,(by rw[yaa,sizeLine_eq];show v.2.2.2.length+1<=_;omega),fun r7 H7 s7 h7=> ?_⟩
     have s67:=s6.trans s7
     refine⟨_,rfl,_,rfl,_,rfl,fl,_,_,.ref fas[k],rfl,rfl,SqL.of ((s5.trans (sm.trans s67)) _ _ hF),atI_nat hfk,v.2.2.1,fas[k],_,_,rfl,SqL.of (s67 _ _ fv.le),SqL.of ((s5.trans (sm.trans s67)) _ _ hgk),fun r8 H8 s8 h8 n8=> ?_⟩
     refine⟨(by show 2<=sizeLine;decide),fun e9 he9=> ?_⟩
     have s9:=zad he9 (.tup [.ref r7,.ref r8])
     have s69:=s67.trans (s8.trans s9)
     refine⟨⟨its2++[(e9,r7,r8,v.2.2.2++[(k:Int)])],by rw[yad];rfl,fun q hq=> ?_,by rw[yad,g3,e,if_pos c,yad];rfl⟩,sm.trans s69,_,_,rfl⟩
     rcases yax.mp hq with z|z
     ·exact(g2 q z).same s69
     ·rw[yal.mp z]
      refine⟨SqT.of zab,s9.tup (s8.tup ?_),by rw[left_snoc];exact s9 _ _ h8⟩
      rw[yad];exact h7
    ·exact⟨⟨its2,rfl,g2,by rw[g3,e,if_neg c,ybr]⟩,sm,_,_,rfl⟩
  ·intro p1 hp1
   obtain⟨⟨its2,rfl,g2,g3⟩,sm,o1,o2,rfl⟩:=p
   have hle:(its.map fun q=>V.ref q.1).length=(setsL ts w k).length:=by rw[yaa,<-f3,yaa]
   rw[hle,ybk]at g3
   have s6:=zad hp1 (.lst (its2.map fun q=>V.ref q.1))
   have l2:its2.length<=1024:=by
    have a:=congrArg List.length g3
    rw[yaa,yaa]at a
    have b:=ybe (fun s=>goB ts w s (k:Int)) (setsL ts w k)
    rw[<-f3,yaa]at b
    rw[<-f3]at a
    omega
   refine⟨_,rfl,_,rfl,fd,p1,_,_,rfl,rfl,(sm.trans s6) _ _ f1,zab,by rw[yaa,yaa,sizeLine_eq];omega,fun p2 hp2=> ?_⟩
   have s7:=zad hp2 (.lst ((its.map fun q=>V.ref q.1)++(its2.map fun q=>V.ref q.1)))
   refine⟨s5.trans (sm.trans (s6.trans s7)),p2,_,_,⟨its++its2,by rw[zab,yad],fun q hq=> ?_,by rw[yad,f3,g3];rfl⟩,rfl⟩
   rcases yax.mp hq with z|z
   ·exact(f2 q z).same (sm.trans (s6.trans s7))
   ·exact(g2 q z).same (s6.trans s7)
 ·obtain⟨s5,fd,b2,b3,⟨its,f1,f2,f3⟩,rfl⟩:=p
  refine⟨_,rfl,fd,_,rfl,SqL.of f1,fun hzf=> ?_⟩
  refine zco (xs:=its.map fun q=>V.ref q.1) (fun i acc σ H''=>(∃its2:List (Addr×List Int),acc=its2.map (fun q=>V.ref q.1)/\(∀q∈its2,SqT K H' q.1 (q.2.map V.int))/\its2.map (fun q=>q.2)=((setsL ts w n).take i).filter (fullB ts w n))/\Same H' H''/\∃o1 o2,σ=[o1,o2]) ⟨⟨[],rfl,fun q hq=>(nomatch hq),rfl⟩,Same.refl _,_,_,rfl⟩ (fun i acc σ H'' _ p=>p.2.1.seq (SqL.of f1)) (fun i acc σ H'' hi p=> ?_) hzf (fun i x acc σ H'' hx p=> ?_) (fun acc σ H'' p=> ?_)
  ·obtain⟨⟨its2,rfl,g2,g3⟩,_⟩:=p
   have a:=congrArg List.length g3
   rw[yaa]at a
   rw[yaa,a]
   exact yat (ybe _ _) (by rw[ybh];exact ycj _ _)
  ·obtain⟨⟨its2,rfl,g2,g3⟩,sm,o1,o2,rfl⟩:=p
   rw[yaf]at hx
   cases ex:its[i]? with
   |none=>rw[ex]at hx;cases hx
   |some v=>
    rw[ex]at hx
    cases hx
    have fv:=f2 v (yav ex)
    have hsv:(setsL ts w n)[i]? =some v.2.2.2:=by rw[<-f3,yaf,ex];rfl
    obtain⟨hi,esv⟩:=yaq.mp hsv
    have e:=zcg (p:=fullB ts w n) hi
    rw[esv]at e
    refine⟨v.1,_,rfl,sm.tup fv.pr,rfl,_,_,rfl,_,_,rfl,rfl,?_⟩
    refine⟨_,rfl,_,.inl ⟨_,SqL.of (sm _ _ fv.le),rfl⟩,?_⟩
    have eb:(!!((leftL ts w n v.2.2.2).map V.int).isEmpty)=fullB ts w n v.2.2.2:=by
     rw[Bool.not_not,<-left_full]
     cases leftL ts w n v.2.2.2<;>rfl
    dsimp only
    rw[eb]
    refine ite2 (fun c=> ?_) (fun c=> ?_)
    ·refine⟨_,rfl,⟨its2++[(v.2.1,v.2.2.2)],by rw[yad];rfl,fun q hq=> ?_,by rw[yad,g3,e,if_pos c];rfl⟩,sm,_,_,rfl⟩
     rcases yax.mp hq with z|z
     ·exact g2 q z
     ·rw[yal.mp z];exact fv.so
    ·exact⟨⟨its2,rfl,g2,by rw[g3,e,if_neg c,ybr]⟩,sm,_,_,rfl⟩
  ·intro p1 hp1
   obtain⟨⟨its2,rfl,g2,g3⟩,sm,_⟩:=p
   have hle:(its.map fun q=>V.ref q.1).length=(setsL ts w n).length:=by rw[yaa,<-f3,yaa]
   rw[hle,ybk]at g3
   have g4:its2.map (fun q=>q.2)=fulls ts w n:=g3
   have hl2:its2.length=(fulls ts w n).length:=by rw[<-g4,yaa]
   have h36:=fulls_len (ts:=ts) (w:=w) h10
   have s6:=zad hp1 (.lst (its2.map fun q=>V.ref q.1))
   refine⟨p1,its2,rfl,SqL.of zab,fun p hp=>⟨(sm.trans s6).tup (g2 p hp),fun h2=> ?_⟩,by omega,fun l its' hl hpm hpw=> ?_⟩
   ·exact full_ne (ts:=ts) (w:=w) (n:=n) (by omega) p.2 (by rw[<-g4];exact ybc.mpr ⟨p,hp,rfl⟩)
   ·have s7:=zad hl (.lst (its'.map fun q=>V.ref q.1))
    have s57:=s5.trans (sm.trans (s6.trans s7))
    refine q l (its'.map fun q=>q.2) _ s57 ⟨its',zab,fun p hp=>(sm.trans (s6.trans s7)).tup (g2 p (hpm.mem_iff.mp hp)),rfl⟩ ⟨?_,?_⟩ ((s5.trans (sm.trans s6)).free hl)
    ·rw[<-g4];exact hpm.map _
    ·rw[ydc];exact hpw
noncomputable def spFullApart(K:W.Frag):Sp:=fun vs H Q _=>∃(a:Addr) (n:Int) (ts:List (Int×Int)),vs=[.ref a]/\WebIs K H a n ts/\∀r ss H',Same H H'->SetsAt K H' r ss->SortedF ss ts false n.toNat->H r=none->Q (.ref r) H'
theorem sc_fullApart:FnScope ["web"] ["web"] (defScope zcw):=fsc
theorem ok_fullApart{f f1 f2 f3:Addr}{fd d1 d2 d3:FuncData}(F:Fun K "full_apart" "full_apart" zcw f fd)(D1:Dfn K mg "need_web" zch ["thing"] f1 d1)(G1:FnOk P w K mg base CX0 7 f1 d1 ["thing"] (spNeedWeb K))(D2:Dfn K mg "full_sets" zdj ["friends"] f2 d2)(G2:FnOk P w K mg base CX0 2 f2 d2 ["friends"] (spFullSets K))(D3:Dfn K mg "places_by_tie" zbu ["web","place","tied"] f3 d3)(G3:FnOk P w K mg base CX0 2 f3 d3 ["web","place","tied"] (spByTie K))(m_range:mg "range"=none):
  FnOk P w K mg base CX0 8 f fd ["web"] (spFullApart K):=by
 refine F.ok sc_fullApart (fun vs H Q E h=> ?_) (fun cdv A outer s H vs Q E hr h=> ?_)
 ·obtain⟨a,n,ts,rfl,_⟩:=h
  rfl
 obtain⟨a,n,ts,rfl,hA,q⟩:=h
 refine⟨_,(zae (ps_expr (pc G1 hr D1 (zaa (pv 0) zac))) (zaf (zak (pc G2 hr D2 (zaa (zaz (own:=["place"]) (caps:=["web"]) (ix:=[0]) rfl (zay rfl m_range (zaa (zao zat (pv 0) zag (fun _ _=>rfl)) zac)) rfl rfl (.cons rfl rfl .nil) (fun _ _ _ _ _=>(zai (i:=0) (show(["place","web"]:List Str).Nodup from by decide+kernel) rfl (Or.inl rfl))) (fun _ _ _ _ _=>zbf) (fun _ _ _ _ _=>(pc G3 hr D3 (zaa (pv 1) (zaa (pv 0) (zaa pe_bl zac)))))) zac))))),?_⟩
 have h0:=hA.h0
 have h10:=hA.h1
 refine⟨_,rfl,_,_,rfl,hA.web.dv.dx,hA.ok,fun H1 s1=> ?_⟩
 have hA1:=hA.same s1
 obtain⟨ta,ra,a1,a2,a3⟩:=id hA1.web
 refine⟨_,rfl,a,_,_,.int n,rfl,rfl,a1,rfl,n,rfl,by omega,by omega,?_⟩
 refine zbn (n:=n.toNat) (fun k acc σ H'=>(∃fas:List Addr,acc=fas.map V.ref/\fas.length=k/\∀(i:Nat) f,fas[i]? =some f->H' f=some (.lst ((friendL ts false n.toNat (i:Int)).map V.int)))/\Same H1 H'/\∃o,σ=[o,some (.ref a)]) ⟨⟨[],rfl,rfl,fun i f h=>by simp at h⟩,Same.refl _,_,rfl⟩ (fun k acc σ H' hk p=> ?_) (by rw[sizeLine_eq];omega) (fun k acc σ H' hk p=> ?_) (fun acc σ H' p=> ?_)
 ·obtain⟨⟨fas,rfl,hl,_⟩,_⟩:=p
  rw[yaa];omega
 ·obtain⟨⟨fas,rfl,hl,hf⟩,sm,o,rfl⟩:=p
  have ek:(0+(k:Int))=(k:Int):=by omega
  rw[ek]
  refine⟨_,rfl,_,rfl,a,n,_,ts,false,rfl,hA1.same sm,fun r H5 s5 h5 n5=>⟨⟨fas++[r],by rw[yad];rfl,by rw[yay,hl];rfl,fun i f hi=> ?_⟩,sm.trans s5,_,rfl⟩⟩
  by_cases c:i<fas.length
  ·rw[ycm c]at hi
   exact s5 _ _ (hf i f hi)
  ·have hb:i<(fas++[r]).length:=(yaq.mp hi).1
   rw[yay]at hb
   have e:i=fas.length:=by have:[r].length=1:=rfl;omega
   rw[e,ybs (yac _),Nat.sub_self]at hi
   cases hi
   rw[e,hl];exact h5
 ·intro p1 hp1
  obtain⟨⟨fas,rfl,hl,hf⟩,sm,_⟩:=p
  have s6:=zad hp1 (.lst (fas.map V.ref))
  exact⟨p1,fas,ts,false,n.toNat,rfl,zab,hl,by omega,fun i f hi=>s6 _ _ (hf i f hi),fun r ss H7 s7 h7 h8 n7=>q r ss H7 (s1.trans (sm.trans (s6.trans s7))) h7 h8 ((s1.trans (sm.trans s6)).free n7)⟩
noncomputable def spFullCrowds(K:W.Frag):Sp:=fun vs H Q _=>∃(a:Addr) (n:Int) (ts:List (Int×Int)),vs=[.ref a]/\WebIs K H a n ts/\∀r ss H',Same H H'->SetsAt K H' r ss->SortedF ss ts true n.toNat->H r=none->Q (.ref r) H'
theorem sc_fullCrowds:FnScope ["web"] ["web"] (defScope zdb):=fsc
theorem ok_fullCrowds{f f1 f2 f3:Addr}{fd d1 d2 d3:FuncData}(F:Fun K "full_crowds" "full_crowds" zdb f fd)(D1:Dfn K mg "need_web" zch ["thing"] f1 d1)(G1:FnOk P w K mg base CX0 7 f1 d1 ["thing"] (spNeedWeb K))(D2:Dfn K mg "full_sets" zdj ["friends"] f2 d2)(G2:FnOk P w K mg base CX0 2 f2 d2 ["friends"] (spFullSets K))(D3:Dfn K mg "places_by_tie" zbu ["web","place","tied"] f3 d3)(G3:FnOk P w K mg base CX0 2 f3 d3 ["web","place","tied"] (spByTie K))(m_range:mg "range"=none):
  FnOk P w K mg base CX0 8 f fd ["web"] (spFullCrowds K):=by
 refine F.ok sc_fullCrowds (fun vs H Q E h=> ?_) (fun cdv A outer s H vs Q E hr h=> ?_)
 ·obtain⟨a,n,ts,rfl,_⟩:=h
  rfl
 obtain⟨a,n,ts,rfl,hA,q⟩:=h
 refine⟨_,(zae (ps_expr (pc G1 hr D1 (zaa (pv 0) zac))) (zaf (zak (pc G2 hr D2 (zaa (zaz (own:=["place"]) (caps:=["web"]) (ix:=[0]) rfl (zay rfl m_range (zaa (zao zat (pv 0) zag (fun _ _=>rfl)) zac)) rfl rfl (.cons rfl rfl .nil) (fun _ _ _ _ _=>(zai (i:=0) (show(["place","web"]:List Str).Nodup from by decide+kernel) rfl (Or.inl rfl))) (fun _ _ _ _ _=>zbf) (fun _ _ _ _ _=>(pc G3 hr D3 (zaa (pv 1) (zaa (pv 0) (zaa pe_bl zac)))))) zac))))),?_⟩
 have h0:=hA.h0
 have h10:=hA.h1
 refine⟨_,rfl,_,_,rfl,hA.web.dv.dx,hA.ok,fun H1 s1=> ?_⟩
 have hA1:=hA.same s1
 obtain⟨ta,ra,a1,a2,a3⟩:=id hA1.web
 refine⟨_,rfl,a,_,_,.int n,rfl,rfl,a1,rfl,n,rfl,by omega,by omega,?_⟩
 refine zbn (n:=n.toNat) (fun k acc σ H'=>(∃fas:List Addr,acc=fas.map V.ref/\fas.length=k/\∀(i:Nat) f,fas[i]? =some f->H' f=some (.lst ((friendL ts true n.toNat (i:Int)).map V.int)))/\Same H1 H'/\∃o,σ=[o,some (.ref a)]) ⟨⟨[],rfl,rfl,fun i f h=>by simp at h⟩,Same.refl _,_,rfl⟩ (fun k acc σ H' hk p=> ?_) (by rw[sizeLine_eq];omega) (fun k acc σ H' hk p=> ?_) (fun acc σ H' p=> ?_)
 ·obtain⟨⟨fas,rfl,hl,_⟩,_⟩:=p
  rw[yaa];omega
 ·obtain⟨⟨fas,rfl,hl,hf⟩,sm,o,rfl⟩:=p
  have ek:(0+(k:Int))=(k:Int):=by omega
  rw[ek]
  refine⟨_,rfl,_,rfl,a,n,_,ts,true,rfl,hA1.same sm,fun r H5 s5 h5 n5=>⟨⟨fas++[r],by rw[yad];rfl,by rw[yay,hl];rfl,fun i f hi=> ?_⟩,sm.trans s5,_,rfl⟩⟩
  by_cases c:i<fas.length
  ·rw[ycm c]at hi
   exact s5 _ _ (hf i f hi)
  ·have hb:i<(fas++[r]).length:=(yaq.mp hi).1
   rw[yay]at hb
   have e:i=fas.length:=by have:[r].length=1:=rfl;omega
   rw[e,ybs (yac _),Nat.sub_self]at hi
   cases hi
   rw[e,hl];exact h5
 ·intro p1 hp1
  obtain⟨⟨fas,rfl,hl,hf⟩,sm,_⟩:=p
  have s6:=zad hp1 (.lst (fas.map V.ref))
  exact⟨p1,fas,ts,true,n.toNat,rfl,zab,hl,by omega,fun i f hi=>s6 _ _ (hf i f hi),fun r ss H7 s7 h7 h8 n7=>q r ss H7 (s1.trans (sm.trans (s6.trans s7))) h7 h8 ((s1.trans (sm.trans s6)).free n7)⟩
noncomputable def greed(ts:List (Int×Int))(w:Bool):Nat->List Int
 |0=>[]
 |k+1=>if goB ts w (greed ts w k) (k:Int)=true then greed ts w k++[(k:Int)]else greed ts w k
theorem greed_mem{ts:List (Int×Int)}{w:Bool}:∀k:Nat,greed ts w k∈setsL ts w k
 |0=>by show([]:List Int)∈[[]];simp
 |k+1=>by
  have ih:=greed_mem (ts:=ts) (w:=w) k
  show greed ts w (k+1)∈setsL ts w k++((setsL ts w k).filter fun s=>goB ts w s (k:Int)).map fun s=>s++[(k:Int)]
  unfold greed
  by_cases c:goB ts w (greed ts w k) (k:Int)=true
  ·rw[if_pos c]
   exact yaj _ (ybc.mpr ⟨_,yar.mpr ⟨ih,c⟩,rfl⟩)
  ·rw[if_neg c]
   exact ybq _ ih
theorem greed_mono{ts:List (Int×Int)}{w:Bool}{x:Int}{k:Nat}(h:x∈greed ts w k):∀m:Nat,x∈greed ts w (k+m)
 |0=>h
 |m+1=>by
  have ih:=greed_mono h m
  show x∈greed ts w (k+m+1)
  unfold greed
  split
  ·exact ybq _ ih
  ·exact ih
theorem fulls_ne(ts:List (Int×Int))(w:Bool)(n:Nat):fulls ts w n≠[]:=by
 have h:greed ts w n∈fulls ts w n:=by
  refine yar.mpr ⟨greed_mem n,?_⟩
  unfold fullB
  rw[Bool.not_eq_true',ydj]
  intro p hp hc
  rw[Bool.and_eq_true]at hc
  have hn:p∉greed ts w n:=by simpa using hc.1
  obtain⟨p0,p1⟩:=mem_rng.mp hp
  have ep:((p.toNat:Nat):Int)=p:=by omega
  have hk:¬goB ts w (greed ts w p.toNat) p=true:=fun c=>by
   apply hn
   have h1:p∈greed ts w (p.toNat+1):=by
    unfold greed
    rw[ep,if_pos c]
    simp
   have h2:=greed_mono h1 (n-(p.toNat+1))
   rw[show p.toNat+1+(n-(p.toNat+1))=n by omega]at h2
   exact h2
  apply hk
  unfold goB
  rw[ybb]
  intro q hq
  have h2:=greed_mono hq (n-p.toNat)
  rw[show p.toNat+(n-p.toNat)=n by omega]at h2
  exact ybb.mp hc.2 q h2
 intro e
 rw[e]at h
 cases h
noncomputable def spFirstG(K:W.Frag):Sp:=fun vs H Q _=>∃(l:Addr) (its:List (Addr×List Int)),vs=[.ref l]/\SqL K H l (its.map fun p=>V.ref p.1)/\(∀p∈its,SqT K H p.1 (p.2.map V.int))/\its≠[]/\
 ∀(i:Nat) (p:Addr×List Int),its[i]? =some p->(∀(j:Nat) r,its[j]? =some r->r.2.length<=p.2.length/\(j<i->r.2.length<p.2.length))->Q (.ref p.1) H
theorem sc_firstG:FnScope ["sets"] ["sets"] (defScope zbk):=fsc
theorem ok_firstG{f:Addr}{fd:FuncData}(F:Fun K "first_greatest" "first_greatest" zbk f fd)(m_max:mg "max"=none)(m_len:mg "len"=none):
  FnOk P w K mg base CX0 1 f fd ["sets"] (spFirstG K):=by
 refine F.ok sc_firstG (fun vs H Q E h=> ?_) (fun cdv A outer s H vs Q E hr h=> ?_)
 ·obtain⟨l,its,rfl,_⟩:=h
  rfl
 obtain⟨l,its,rfl,hL,hT,hne,q⟩:=h
 refine⟨_,(zaf (zak (pe_maxLen rfl rfl m_max rfl m_len (zaa (pv 0) zac)))),?_⟩
 exact⟨_,rfl,l,its,rfl,hL,hT,hne,q⟩
noncomputable def MostOf(s:List Int)(ts:List (Int×Int))(w:Bool)(n:Nat):Prop:=∃ss,SortedF ss ts w n/\∃i:Nat,ss[i]? =some s/\∀(j:Nat) t,ss[j]? =some t->t.length<=s.length/\(j<i->t.length<s.length)
theorem sorted_ne{ss:List (List Int)}{ts:List (Int×Int)}{w:Bool}{n:Nat}(h:SortedF ss ts w n):ss≠[]:=fun e=>by
 have:=h.1.length_eq
 rw[e]at this
 exact fulls_ne ts w n (List.length_eq_zero_iff.mp this.symm)
noncomputable def spGreatA(K:W.Frag):Sp:=fun vs H Q _=>∃(a:Addr) (n:Int) (ts:List (Int×Int)),vs=[.ref a]/\WebIs K H a n ts/\∀(r:Addr) (s:List Int) H',Same H H'->SqT K H' r (s.map V.int)->MostOf s ts false n.toNat->Q (.ref r) H'
theorem sc_greatA:FnScope ["web"] ["web"] (defScope zcd):=fsc
theorem ok_greatA{f f1 f2:Addr}{fd d1 d2:FuncData}(F:Fun K "greatest_apart" "greatest_apart" zcd f fd)(D1:Dfn K mg "first_greatest" zbk ["sets"] f1 d1)(G1:FnOk P w K mg base CX0 1 f1 d1 ["sets"] (spFirstG K))(D2:Dfn K mg "full_apart" zcw ["web"] f2 d2)(G2:FnOk P w K mg base CX0 8 f2 d2 ["web"] (spFullApart K)):
  FnOk P w K mg base CX0 9 f fd ["web"] (spGreatA K):=by
 refine F.ok sc_greatA (fun vs H Q E h=> ?_) (fun cdv A outer s H vs Q E hr h=> ?_)
 ·obtain⟨a,n,ts,rfl,_⟩:=h
  rfl
 obtain⟨a,n,ts,rfl,hA,q⟩:=h
 refine⟨_,(zaf (zak (pc G1 hr D1 (zaa (pc G2 hr D2 (zaa (pv 0) zac)) zac)))),?_⟩
 refine⟨_,rfl,a,n,ts,rfl,hA,fun r ss H1 s1 h1 h2 n1=> ?_⟩
 obtain⟨its,g1,g2,g3⟩:=h1
 refine⟨r,its,rfl,SqL.of g1,g2,fun e=>sorted_ne h2 (by rw[<-g3,e];rfl),fun i p hi hb=>q p.1 p.2 H1 s1 (g2 p (yav hi)) ⟨ss,h2,i,by rw[<-g3,yaf,hi];rfl,fun j t ht=> ?_⟩⟩
 rw[<-g3,yaf]at ht
 cases ej:its[j]? with
 |none=>rw[ej]at ht;cases ht
 |some r'=>
  rw[ej]at ht
  cases ht
  exact hb j r' ej
noncomputable def spGreatC(K:W.Frag):Sp:=fun vs H Q _=>∃(a:Addr) (n:Int) (ts:List (Int×Int)),vs=[.ref a]/\WebIs K H a n ts/\∀(r:Addr) (s:List Int) H',Same H H'->SqT K H' r (s.map V.int)->MostOf s ts true n.toNat->Q (.ref r) H'
theorem sc_greatC:FnScope ["web"] ["web"] (defScope zcc):=fsc
theorem ok_greatC{f f1 f2:Addr}{fd d1 d2:FuncData}(F:Fun K "greatest_crowd" "greatest_crowd" zcc f fd)(D1:Dfn K mg "first_greatest" zbk ["sets"] f1 d1)(G1:FnOk P w K mg base CX0 1 f1 d1 ["sets"] (spFirstG K))(D2:Dfn K mg "full_crowds" zdb ["web"] f2 d2)(G2:FnOk P w K mg base CX0 8 f2 d2 ["web"] (spFullCrowds K)):
  FnOk P w K mg base CX0 9 f fd ["web"] (spGreatC K):=by
 refine F.ok sc_greatC (fun vs H Q E h=> ?_) (fun cdv A outer s H vs Q E hr h=> ?_)
 ·obtain⟨a,n,ts,rfl,_⟩:=h
  rfl
 obtain⟨a,n,ts,rfl,hA,q⟩:=h
 refine⟨_,(zaf (zak (pc G1 hr D1 (zaa (pc G2 hr D2 (zaa (pv 0) zac)) zac)))),?_⟩
 refine⟨_,rfl,a,n,ts,rfl,hA,fun r ss H1 s1 h1 h2 n1=> ?_⟩
 obtain⟨its,g1,g2,g3⟩:=h1
 refine⟨r,its,rfl,SqL.of g1,g2,fun e=>sorted_ne h2 (by rw[<-g3,e];rfl),fun i p hi hb=>q p.1 p.2 H1 s1 (g2 p (yav hi)) ⟨ss,h2,i,by rw[<-g3,yaf,hi];rfl,fun j t ht=> ?_⟩⟩
 rw[<-g3,yaf]at ht
 cases ej:its[j]? with
 |none=>rw[ej]at ht;cases ht
 |some r'=>
  rw[ej]at ht
  cases ht
  exact hb j r' ej
end
noncomputable def rgI(n:Nat):List Int:=(List.range n).map fun(t:Nat)=>(t:Int)
theorem mem_rgI{n:Nat}{x:Int}:x∈rgI n↔0<=x/\x<(n:Int):=by
 unfold rgI
 rw[ybc]
 constructor
 ·rintro⟨t,ht,rfl⟩
  have:=ybl.mp ht
  omega
 ·intro h
  exact⟨x.toNat,ybl.mpr (by omega),by omega⟩
theorem rgI_len(n:Nat):(rgI n).length=n:=by unfold rgI;rw[yaa,ybo]
theorem rgI_succ(n:Nat):rgI (n+1)=rgI n++[(n:Int)]:=by unfold rgI;rw[ybx,yad];rfl
noncomputable def allS:Nat->List (List Int)
 |0=>[[]]
 |k+1=>allS k++(allS k).map fun s=>s++[(k:Int)]
theorem allS_len:∀k,(allS k).length=2^k
 |0=>rfl
 |k+1=>by
  show(allS k++(allS k).map fun s=>s++[(k:Int)]).length=_
  rw[yay,yaa,allS_len k,Nat.pow_succ];omega
theorem allS_mem:∀k,∀s∈allS k,s.length<=k
 |0,s,h=>by rw[yal.mp h];exact yac _
 |k+1,s,h=>by
  rcases yax.mp h with z|z
  ·exact Nat.le_succ_of_le (allS_mem k s z)
  ·obtain⟨t,ht,rfl⟩:=ybc.mp z
   have:=allS_mem k t ht
   rw[yay]
   show t.length+1<=k+1
   omega
theorem mem_sub1{a:Int}:∀{l:List Int},l.Sublist [a]->l=[]\/l=[a]
 |[],_=> .inl rfl
 |_::_,h=>by
  cases h with
  |cons _ h=>cases h
  |cons_cons _ h=>cases h;exact .inr rfl
theorem mem_allS:∀(n:Nat) (ys:List Int),ys∈allS n↔ys.Sublist (rgI n)
 |0,ys=>by
  show ys∈[[]]↔ys.Sublist []
  rw[yal,List.sublist_nil]
 |n+1,ys=>by
  show ys∈allS n++(allS n).map (fun s=>s++[(n:Int)])↔_
  rw[rgI_succ,yax,ybc,List.sublist_append_iff,mem_allS n ys]
  constructor
  ·rintro(h|⟨s,hs,rfl⟩)
   ·exact⟨ys,[],(ybr _).symm,h,List.nil_sublist _⟩
   ·exact⟨s,[(n:Int)],rfl,(mem_allS n s).mp hs,List.Sublist.refl _⟩
  ·rintro⟨l1,l2,rfl,h1,h2⟩
   rcases mem_sub1 h2 with rfl|rfl
   ·rw[ybr];exact .inl h1
   ·exact .inr ⟨l1,(mem_allS n l1).mpr h1,rfl⟩
theorem allS_nodup:∀n,(allS n).Nodup
 |0=>by show List.Nodup [[]];simp
 |n+1=>by
  show(allS n++(allS n).map (fun s=>s++[(n:Int)])).Nodup
  refine List.nodup_append.mpr ⟨allS_nodup n,?_,fun a ha b hb e=> ?_⟩
  ·unfold List.Nodup
   rw[ydc]
   exact(allS_nodup n).imp fun{x y} h z=>h (List.append_cancel_right z)
  ·subst e
   obtain⟨s,_,rfl⟩:=ybc.mp hb
   have:=mem_rgI.mp (((mem_allS n _).mp ha).subset (yaj _ (List.mem_singleton_self _)))
   omega
theorem allS_take:∀(n i:Nat) (xs ys:List Int),(allS n)[i]? =some xs->ys.Sublist xs->ys≠xs->ys∈(allS n).take i
 |0,i,xs,ys,h,hs,hn=>by
  have h':([[]]:List (List Int))[i]? =some xs:=h
  cases i with
  |zero=>
   simp at h'
   subst h'
   exact absurd (List.sublist_nil.mp hs) hn
  |succ i=>simp at h'
 |n+1,i,xs,ys,h,hs,hn=>by
  show ys∈(allS n++(allS n).map (fun s=>s++[(n:Int)])).take i
  have h':(allS n++(allS n).map (fun s=>s++[(n:Int)]))[i]? =some xs:=h
  by_cases hi:i<(allS n).length
  ·rw[ycm hi]at h'
   rw[List.take_append_of_le_length (yas hi)]
   exact allS_take n i xs ys h' hs hn
  ·have hi:=Nat.not_lt.mp hi
   rw[ybs hi,yaf]at h'
   cases e:(allS n)[i-(allS n).length]? with
   |none=>rw[e]at h';cases h'
   |some zs=>
    rw[e]at h'
    cases h'
    rw[List.take_append,yax,yde hi]
    obtain⟨l1,l2,rfl,h1,h2⟩:=List.sublist_append_iff.mp hs
    have mz:zs.Sublist (rgI n):=(mem_allS n zs).mp (yav e)
    rcases mem_sub1 h2 with rfl|rfl
    ·rw[ybr];exact .inl ((mem_allS n _).mpr (h1.trans mz))
    ·refine .inr ?_
     rw[<-List.map_take]
     exact ybc.mpr ⟨l1,allS_take n _ zs l1 e h1 (fun z=>hn (by rw[z])),rfl⟩
noncomputable def wo(xs p:List Int):List Int:=xs.filter fun o=> !decide (o∈p)
theorem wo_sub(xs p:List Int):(wo xs p).Sublist xs:=yeg
theorem mem_wo{xs p:List Int}{x:Int}:x∈wo xs p↔x∈xs/\x∉p:=by
 unfold wo
 rw[yar]
 simp
theorem wo_ne{x:Int}{r p:List Int}(h:x∈p):wo (x::r) p≠x::r:=fun e=>by
 have:x∈wo (x::r) p:=by rw[e];exact yah
 exact(mem_wo.mp this).2 h
theorem wo_lt{x:Int}{r p:List Int}(h:x∈p):(wo (x::r) p).length<(x::r).length:=
 ych (wo_sub _ _).length_le fun e=>wo_ne h ((wo_sub _ _).eq_of_length e)
noncomputable abbrev St1:=List Int->Int->Bool
noncomputable def fpStep(st:St1)(found:List (List Int))(x:Int):List (List Int):=found++(found.filter fun p=>st p x).map fun p=>p++[x]
noncomputable def fpUp(st:St1)(xs:List Int)(k:Nat):List (List Int):=((xs.drop 1).take k).foldl (fpStep st) [xs.take 1]
noncomputable def fpG(st:St1)(xs:List Int):List (List Int):=(xs.drop 1).foldl (fpStep st) [xs.take 1]
theorem fpUp_all(st:St1)(xs:List Int):fpUp st xs (xs.drop 1).length=fpG st xs:=by unfold fpUp fpG;rw[ybk]
theorem fpUp_succ{st:St1}{xs:List Int}{k:Nat}{y:Int}(h:(xs.drop 1)[k]? =some y):fpUp st xs (k+1)=fpStep st (fpUp st xs k) y:=by
 unfold fpUp
 rw[ybg (l:=xs.drop 1),h,List.foldl_append];rfl
theorem fpUp_len(st:St1)(xs:List Int):∀k,(fpUp st xs k).length<=2^k
 |0=>by show([xs.take 1]:List (List Int)).length<=1;simp
 |k+1=>by
  have ih:=fpUp_len st xs k
  cases e:(xs.drop 1)[k]? with
  |none=>
   have:fpUp st xs (k+1)=fpUp st xs k:=by unfold fpUp;rw[ybg (l:=xs.drop 1),e];simp
   rw[this]
   exact yat ih (yda (by decide) (ycq k))
  |some y=>
   rw[fpUp_succ e]
   unfold fpStep
   rw[yay,yaa]
   have:=ybe (fun p=>st p y) (fpUp st xs k)
   rw[Nat.pow_succ];omega
theorem fpUp_part{st:St1}{x:Int}{r:List Int}:∀(k:Nat),∀p∈fpUp st (x::r) k,p.Sublist (x::r.take k)/\x∈p
 |0,p,h=>by
  have h':p∈[[x]]:=h
  rw[yal.mp h']
  exact⟨by simp,List.mem_singleton_self _⟩
 |k+1,p,h=>by
  cases e:r[k]? with
  |none=>
   have e1:fpUp st (x::r) (k+1)=fpUp st (x::r) k:=by unfold fpUp;show((r.take (k+1)).foldl _ _)=((r.take k).foldl _ _);rw[ybg (l:=r),e];simp
   rw[e1]at h
   obtain⟨h1,h2⟩:=fpUp_part k p h
   exact⟨h1.trans (by rw[ybg,e];simp),h2⟩
  |some y=>
   rw[fpUp_succ (xs:=x::r) (show((x::r).drop 1)[k]? =some y from e)]at h
   have et:x::r.take (k+1)=(x::r.take k)++[y]:=by rw[ybg,e];rfl
   rw[et]
   rcases yax.mp h with z|z
   ·obtain⟨h1,h2⟩:=fpUp_part k p z
    exact⟨h1.trans (List.sublist_append_left _ _),h2⟩
   ·obtain⟨q,hq,rfl⟩:=ybc.mp z
    obtain⟨h1,h2⟩:=fpUp_part k q (yar.mp hq).1
    exact⟨h1.append (List.Sublist.refl _),ybq _ h2⟩
theorem fpG_part{st:St1}{x:Int}{r:List Int}{p:List Int}(h:p∈fpG st (x::r)):p.Sublist (x::r)/\x∈p:=by
 rw[<-fpUp_all]at h
 have:=fpUp_part _ p h
 have e:r.take ((x::r).drop 1).length=r:=ybk
 rw[e]at this
 exact this
theorem fpG_ne(st:St1)(xs:List Int):fpG st xs≠[]:=by
 have key:∀(l:List Int) (f:List (List Int)),f≠[]->l.foldl (fpStep st) f≠[]:=fun l=>by
  induction l with
  |nil=>intro f h;exact h
  |cons a l ih=>intro f h;exact ih _ (by unfold fpStep;intro z;exact h (List.append_eq_nil_iff.mp z).1)
 exact key _ _ (by simp)
noncomputable def standB(ts:List (Int×Int)):St1:=fun part x=> !(part.any fun o=>hasTie ts o x)
noncomputable abbrev fparts(ts:List (Int×Int)):List Int->List (List Int):=fpG (standB ts)
theorem fparts_apart{ts:List (Int×Int)}{xs p:List Int}(h:p∈fparts ts xs):p.Pairwise fun a b=>hasTie ts a b=false:=by
 have key:∀(l:List Int) (f:List (List Int)),(∀p∈f,p.Pairwise fun a b=>hasTie ts a b=false)->∀p∈l.foldl (fpStep (standB ts)) f,p.Pairwise fun a b=>hasTie ts a b=false:=fun l=>by
  induction l with
  |nil=>intro f h;exact h
  |cons a l ih=>
   intro f h
   refine ih _ fun p hp=> ?_
   rcases yax.mp hp with z|z
   ·exact h p z
   ·obtain⟨q,hq,rfl⟩:=ybc.mp z
    obtain⟨h1,h2⟩:=yar.mp hq
    rw[ycz]
    refine⟨h q h1,yce _ _,fun o ho y hy=> ?_⟩
    rw[yal.mp hy]
    unfold standB at h2
    rw[Bool.not_eq_true',ydj]at h2
    have:=h2 o ho
    simpa using this
 refine key _ _ (fun p hp=> ?_) p h
 rw[yal.mp hp]
 cases xs with
 |nil=>exact List.Pairwise.nil
 |cons x r=>exact yce _ _
noncomputable def mnL:List Int->Int
 |[]=>0
 |[a]=>a
 |a::b::l=>if a<=mnL (b::l)then a else mnL (b::l)
theorem mnL_is:∀{ns:List Int},ns≠[]->mnL ns∈ns/\∀n∈ns,mnL ns<=n
 |[],h=>absurd rfl h
 |[a],_=>⟨List.mem_singleton_self _,fun n hn=>by rw[yal.mp hn];exact ybt _⟩
 |a::b::l,_=>by
  obtain⟨h1,h2⟩:=mnL_is (ns:=b::l) (by simp)
  show(if a<=mnL (b::l)then a else mnL (b::l))∈_/\∀n∈_,(if a<=mnL (b::l)then a else mnL (b::l))<=n
  by_cases c:a<=mnL (b::l)
  ·rw[if_pos c]
   refine⟨yah,fun n hn=> ?_⟩
   rcases yam.mp hn with z|z
   ·rw[z];exact ybt _
   ·exact yem c (h2 n z)
  ·rw[if_neg c]
   refine⟨yae _ h1,fun n hn=> ?_⟩
   rcases yam.mp hn with z|z
   ·rw[z];omega
   ·exact h2 n z
theorem mnL_eq{ns:List Int}{m:Int}(h1:m∈ns)(h2:∀n∈ns,m<=n):m=mnL ns:=by
 have hn:ns≠[]:=fun e=>by rw[e]at h1;cases h1
 obtain⟨a,b⟩:=mnL_is hn
 exact Int.le_antisymm (h2 _ a) (b _ h1)
noncomputable def hiF(g:List Int->Int)(ts:List (Int×Int))(xs:List Int):Int:=if xs=[]then 0 else 1+mnL ((fparts ts xs).map fun p=>g (wo xs p))
theorem hiF_congr{g g':List Int->Int}{ts:List (Int×Int)}{xs:List Int}(h:∀ys:List Int,ys.Sublist xs->ys≠xs->g ys=g' ys):hiF g ts xs=hiF g' ts xs:=by
 unfold hiF
 cases xs with
 |nil=>rfl
 |cons x r=>
  rw[if_neg (by simp),if_neg (by simp)]
  congr 2
  exact yeh fun p hp=>h _ (wo_sub _ _) (wo_ne (fpG_part hp).2)
noncomputable def floN(ts:List (Int×Int)):Nat->List Int->Int
 |0,_=>0
 |k+1,xs=>hiF (floN ts k) ts xs
theorem floN_two(ts:List (Int×Int)):∀(k j:Nat) (xs:List Int),xs.length<=k->xs.length<=j->floN ts k xs=floN ts j xs
 |0,j,xs,h,_=>by
  have e:xs=[]:=List.length_eq_zero_iff.mp (Nat.le_zero.mp h)
  subst e
  cases j with
  |zero=>rfl
  |succ j=>rfl
 |k+1,0,xs,_,h=>by
  have e:xs=[]:=List.length_eq_zero_iff.mp (Nat.le_zero.mp h)
  subst e
  rfl
 |k+1,j+1,xs,h1,h2=>by
  show hiF (floN ts k) ts xs=hiF (floN ts j) ts xs
  refine hiF_congr fun ys hs hn=> ?_
  have:ys.length<xs.length:=ych hs.length_le fun e=>hn (hs.eq_of_length e)
  exact floN_two ts k j ys (by omega) (by omega)
noncomputable def flo(ts:List (Int×Int))(xs:List Int):Int:=floN ts xs.length xs
theorem flo_eq(ts:List (Int×Int))(xs:List Int):flo ts xs=hiF (flo ts) ts xs:=by
 unfold flo
 rw[floN_two ts xs.length (xs.length+1) xs (yac _) (ycq _)]
 refine hiF_congr (g:=floN ts xs.length) fun ys hs hn=> ?_
 exact floN_two ts _ _ ys hs.length_le (yac _)
theorem flo_nil(ts:List (Int×Int)):flo ts []=0:=rfl
theorem flo_best{ts:List (Int×Int)}{xs p:List Int}(hx:xs≠[])(hp:p∈fparts ts xs)(hb:∀q∈fparts ts xs,flo ts (wo xs p)<=flo ts (wo xs q)):flo ts xs=1+flo ts (wo xs p):=by
 rw[flo_eq,hiF,if_neg hx]
 rw[<-mnL_eq (m:=flo ts (wo xs p)) (ybc.mpr ⟨p,hp,rfl⟩) fun n hn=> ?_]
 obtain⟨q,hq,rfl⟩:=ybc.mp hn
 exact hb q hq
noncomputable def setK(f:List Int->Int)(l:List (List Int)):List (List Key×V):=l.map fun s=>(s.map Sum.inl,V.int (f s))
theorem inl_inj':∀{a b:List Int},(a.map (Sum.inl (β:=Str))=b.map Sum.inl)->a=b
 |[],[],_=>rfl
 |[],_::_,h=>by cases h
 |_::_,[],h=>by cases h
 |a::l,b::m,h=>by
  rw[ycd,ycd]at h
  injection h with h1 h2
  injection h1 with h1
  rw[h1,inl_inj' h2]
theorem val_setK(f:List Int->Int)(k:List Int):∀l:List (List Int),valV (setK f l) (k.map Sum.inl)=if k∈l then some (.int (f k))else none
 |[]=>rfl
 |s::l=>by
  show valV ((s.map Sum.inl,V.int (f s))::setK f l) (k.map Sum.inl)=_
  by_cases e:s=k
  ·subst e
   rw[valV_pos rfl,if_pos yah]
  ·rw[valV_neg (fun z=>e (inl_inj' z)),val_setK f k l]
   by_cases c:k∈l
   ·rw[if_pos c,if_pos (yae _ c)]
   ·rw[if_neg c,if_neg fun z=>(yam.mp z).elim (fun y=>e y.symm) c]
theorem setK_put{f:List Int->Int}{l:List (List Int)}{s:List Int}(h:s∉l):putK (setK f l) (s.map Sum.inl) (.int (f s))=setK f (l++[s]):=by
 rw[putK_new _ (by rw[val_setK,if_neg h])]
 unfold setK
 rw[yad];rfl
theorem setK_len(f:List Int->Int)(l:List (List Int)):(setK f l).length=l.length:=yaa _
noncomputable def setA(hs:List Int)(p:List Int)(h:Int):List Int:=p.foldl (fun l q=>l.set q.toNat h) hs
theorem setA_len(h:Int):∀(p hs:List Int),(setA hs p h).length=hs.length
 |[],_=>rfl
 |q::p,hs=>by
  show(setA (hs.set q.toNat h) p h).length=_
  rw[setA_len h p,List.length_set]
theorem getD_set{hs:List Int}{a b:Nat}{h:Int}(hb:b<hs.length):(hs.set a h).getD b 0=if a=b then h else hs.getD b 0:=by
 rw[yai,List.getElem?_set]
 by_cases e:a=b
 ·subst e
  rw[if_pos rfl,if_pos hb,if_pos rfl];rfl
 ·rw[if_neg e,if_neg e,yai]
theorem getD_setA(h:Int){b:Nat}:∀(p hs:List Int),b<hs.length->(∀q∈p,0<=q)->(setA hs p h).getD b 0=if(b:Int)∈p then h else hs.getD b 0
 |[],hs,_,_=>by rw[if_neg (by simp)];rfl
 |q::p,hs,hb,hp=>by
  show(setA (hs.set q.toNat h) p h).getD b 0=_
  rw[getD_setA h p _ (by rw[List.length_set];exact hb) fun z hz=>hp z (yae _ hz),getD_set hb]
  have hq:=hp q yah
  by_cases c:(b:Int)∈p
  ·rw[if_pos c,if_pos (yae _ c)]
  ·rw[if_neg c]
   by_cases e:q.toNat=b
   ·rw[if_pos e,if_pos (by rw[show(b:Int)=q by omega];exact yah)]
   ·rw[if_neg e,if_neg fun z=>(yam.mp z).elim (fun y=>e (by omega)) c]
structure HueI(ts:List (Int×Int))(n:Nat)(k:Int)(xs:List Int)(h:Int)(hs:List Int):Prop where
 len:hs.length=n
 sub:xs.Sublist (rgI n)
 h0:0<=h
 sum:h+flo ts xs=k
 out:∀p:Nat,p<n->(p:Int)∉xs->0<=hs.getD p 0/\hs.getD p 0<h
 all:∀c,0<=c->c<h->∃p:Nat,p<n/\(p:Int)∉xs/\hs.getD p 0=c
 ok:∀a b:Nat,a<n->b<n->(a:Int)∉xs->(b:Int)∉xs->hasTie ts (a:Int) (b:Int)=true->hs.getD a 0≠hs.getD b 0
theorem HueI.start(ts:List (Int×Int))(n:Nat):HueI ts n (flo ts (rgI n)) (rgI n) 0 (List.replicate n 0):=by
 have no:∀p:Nat,p<n->(p:Int)∉rgI n->False:=fun p hp h=>h (mem_rgI.mpr ⟨by omega,by omega⟩)
 exact⟨ydz,List.Sublist.refl _,ybt _,by omega,fun p hp h=>(no p hp h).elim,fun c h1 h2=>by omega,fun a b ha hb h=>(no a ha h).elim⟩
theorem tie_comm(ts:List (Int×Int))(a b:Int):hasTie ts a b=hasTie ts b a:=by
 unfold hasTie
 rcases Int.lt_trichotomy a b with c|c|c
 ·rw[if_neg (show¬b<a by omega),if_pos (show b>a by omega),if_pos (show a<b by omega),if_neg (show¬a>b by omega)]
 ·rw[c]
 ·rw[if_pos (show b<a by omega),if_neg (show¬b>a by omega),if_neg (show¬a<b by omega),if_pos (show a>b by omega)]
theorem pairwise_any{ts:List (Int×Int)}{n:Int}(hp:PairsOk n ts):∀{p:List Int},(p.Pairwise fun a b=>hasTie ts a b=false)->∀a∈p,∀b∈p,hasTie ts a b=false
 |_,h,a,ha,b,hb=>by
  by_cases e:a=b
  ·subst e
   rw[tied_eq hp]
   unfold tiedL
   have:(a,a)∉ts:=fun z=>by have:=(hp.lt _ z).2.1;dsimp only at this;omega
   simp[this]
  ·obtain⟨i,hi,rfl⟩:=ybi ha
   obtain⟨j,hj,rfl⟩:=ybi hb
   have hij:i≠j:=fun z=>e (by subst z;rfl)
   rcases Nat.lt_or_gt_of_ne hij with c|c
   ·exact ycn.mp h i j hi hj c
   ·rw[tie_comm];exact ycn.mp h j i hj hi c
theorem HueI.step{ts:List (Int×Int)}{n:Nat}{k h:Int}{xs hs p:List Int}(I:HueI ts n k xs h hs)(hok:PairsOk (n:Int) ts)(hx:xs≠[])(hp:p∈fparts ts xs)(hb:∀q∈fparts ts xs,flo ts (wo xs p)<=flo ts (wo xs q)):HueI ts n k (wo xs p) (h+1) (setA hs p h):=by
 obtain⟨x,r,rfl⟩:∃x r,xs=x::r:=by cases xs with |nil=>exact absurd rfl hx|cons x r=>exact⟨x,r,rfl⟩
 obtain⟨ps,px⟩:=fpG_part hp
 have pr:∀q∈p,0<=q/\q<(n:Int):=fun q hq=>mem_rgI.mp (I.sub.subset (ps.subset hq))
 have p0:∀q∈p,0<=q:=fun q hq=>(pr q hq).1
 have ap:=pairwise_any hok (fparts_apart hp)
 have gv:∀b:Nat,b<n->(setA hs p h).getD b 0=if(b:Int)∈p then h else hs.getD b 0:=fun b hb=>getD_setA h p hs (by rw[I.len];exact hb) p0
 have nx:∀b:Nat,(b:Int)∉wo (x::r) p->(b:Int)∉p->(b:Int)∉x::r:=fun b h1 h2 h3=>h1 (mem_wo.mpr ⟨h3,h2⟩)
 refine⟨by rw[setA_len];exact I.len,(wo_sub _ _).trans I.sub,by have:=I.h0;omega,?_,fun b hb hn=> ?_,fun c h1 h2=> ?_,fun a b ha hb na nb ht=> ?_⟩
 ·have:=flo_best hx hp hb
  have:=I.sum
  omega
 ·rw[gv b hb]
  by_cases c:(b:Int)∈p
  ·rw[if_pos c];have:=I.h0;omega
  ·rw[if_neg c]
   have:=I.out b hb (nx b hn c)
   omega
 ·by_cases e:c=h
  ·have:=pr x px
   refine⟨x.toNat,by omega,fun z=> ?_,?_⟩
   ·rw[show((x.toNat:Nat):Int)=x by omega]at z
    exact(mem_wo.mp z).2 px
   ·rw[gv _ (by omega),if_pos (by rw[show((x.toNat:Nat):Int)=x by omega];exact px),e]
  ·obtain⟨b,b1,b2,b3⟩:=I.all c h1 (by omega)
   refine⟨b,b1,fun z=>b2 (mem_wo.mp z).1,?_⟩
   rw[gv b b1,if_neg fun z=>b2 (ps.subset z)]
   exact b3
 ·rw[gv a ha,gv b hb]
  by_cases ca:(a:Int)∈p
  ·by_cases cb:(b:Int)∈p
   ·rw[ap _ ca _ cb]at ht;cases ht
   ·rw[if_pos ca,if_neg cb]
    have:=I.out b hb (nx b nb cb)
    omega
  ·by_cases cb:(b:Int)∈p
   ·rw[if_neg ca,if_pos cb]
    have:=I.out a ha (nx a na ca)
    omega
   ·rw[if_neg ca,if_neg cb]
    exact I.ok a b ha hb (nx a na ca) (nx b nb cb) ht
structure HuesOk(ts:List (Int×Int))(n:Nat)(k:Int)(hs:List Int):Prop where
 len:hs.length=n
 k0:0<=k
 rg:∀p:Nat,p<n->0<=hs.getD p 0/\hs.getD p 0<k
 all:∀c,0<=c->c<k->∃p:Nat,p<n/\hs.getD p 0=c
 ok:∀a b:Nat,a<n->b<n->hasTie ts (a:Int) (b:Int)=true->hs.getD a 0≠hs.getD b 0
theorem HueI.done{ts:List (Int×Int)}{n:Nat}{k h:Int}{hs:List Int}(I:HueI ts n k [] h hs):HuesOk ts n k hs:=by
 have e:h=k:=by have:=I.sum;rw[flo_nil]at this;omega
 subst e
 exact⟨I.len,I.h0,fun p hp=>I.out p hp (by simp),fun c h1 h2=>by obtain⟨p,h3,_,h4⟩:=I.all c h1 h2;exact⟨p,h3,h4⟩,fun a b ha hb ht=>I.ok a b ha hb (by simp) (by simp) ht⟩
section
variable{P:Program}{w:World}{K:W.Frag}{mg:Str->Option Value}{base:Heap}
theorem filt1{α:Type}(p:α->Bool)(a:α):[a].filter p=if p a=true then[a]else[]:=by
 by_cases c:p a=true
 ·rw[if_pos c,List.filter_cons_of_pos c];rfl
 ·rw[if_neg c,List.filter_cons_of_neg c];rfl
theorem tupR_rgI(n:Nat):tupR n=(rgI n).map V.int:=by unfold tupR rgI;rw[ycw];rfl
theorem keyV(xs:List Int):(xs.map (Sum.inl (β:=Str))).map kV=xs.map V.int:=by rw[ycw];rfl
noncomputable abbrev KnS(H:Hp)(its:List (Addr×List Int)):Prop:=∀p∈its,H p.1=some (.tup (p.2.map V.int))
noncomputable def spAllSets(K:W.Frag):Sp:=fun vs H Q _=>∃n:Int,vs=[.int n]/\0<=n/\n<=10/\∀(r:Addr) (its:List (Addr×List Int)) H',Same H H'->H' r=some (.lst (its.map fun p=>V.ref p.1))->KnS H' its->its.map (·.2)=allS n.toNat->Q (.ref r) H'
theorem sc_allSets:FnScope ["n","found","place"] ["n"] (defScope s_all_sets):=fsc
theorem ok_allSets{f:Addr}{fd:FuncData}(F:Fun K "all_sets" "all_sets" s_all_sets f fd)(m_range:mg "range"=none):
  FnOk P w K mg base CX0 1 f fd ["n"] (spAllSets K):=by
 refine F.ok sc_allSets (fun vs H Q E h=> ?_) (fun cdv A outer s H vs Q E hr h=> ?_)
 ·obtain⟨n,rfl,_⟩:=h
  rfl
 obtain⟨n,rfl,h0,h1,q⟩:=h
 refine⟨_,(zae (zal (i:=1) sc_allSets.nd rfl (Or.inl rfl) (pe_lst (zaa (zaw zac) zac))) (zae (ps_for PassesOwn.never rfl (zay rfl m_range (zaa (pv 0) zac)) (zai (i:=2) sc_allSets.nd rfl (Or.inr rfl)) (zaf (zal (i:=1) sc_allSets.nd rfl (Or.inl rfl) (zan op_cat (pv 1) (zaz (own:=["some"]) (caps:=["place"]) (ix:=[2]) rfl (zcm (pv 1)) rfl rfl (.cons rfl rfl .nil) (fun _ _ _ _ _=>(zai (i:=0) (show(["some","place"]:List Str).Nodup from by decide+kernel) rfl (Or.inl rfl))) (fun _ _ _ _ _=>zbf) (fun _ _ _ _ _=>(zan op_catR (pv 0) (zaw (zaa (pv 1) zac))))))))) (zaf (zak (pv 1))))),?_⟩
 refine⟨(by show 0<=sizeLine;decide),fun p0 hp0=> ?_⟩
 have s0:=zad hp0 (.tup [])
 refine⟨(by show 1<=sizeLine;decide),fun l0 hl0=> ?_⟩
 have s1:=zad hl0 (.lst [.ref p0])
 refine⟨_,rfl,n,rfl,by omega,by omega,?_⟩
 refine zbz (n:=n.toNat) (fun k σ H'=>∃(l:Addr) (its:List (Addr×List Int)) (b2:Option V),σ=[some (.int n),some (.ref l),b2]/\Same H H'/\H' l=some (.lst (its.map fun p=>V.ref p.1))/\KnS H' its/\its.map (·.2)=allS k) ⟨l0,[(p0,[])],_,rfl,s0.trans s1,zab,fun p hp=>by rw[yal.mp hp];exact s1 _ _ zab,rfl⟩ (fun k σ H1 hk p=> ?_) (fun σ H1 p=> ?_)
 ·obtain⟨l,its,b2,rfl,sm,hl,hT,hm⟩:=p
  have hlen:its.length=2^k:=by rw[<-allS_len k,<-hm,yaa]
  have h512:2^k<=512:=yda (n:=2) (by decide) (show k<=9 by omega)
  refine⟨_,rfl,_,rfl,l,_,rfl,SqL.of hl,fun hz=> ?_⟩
  refine zco (xs:=its.map fun p=>V.ref p.1) (fun i acc σ H2=>∃jts:List (Addr×List Int),acc=jts.map (fun p=>V.ref p.1)/\jts.map (·.2)=((its.take i).map (·.2)).map (fun s=>s++[(k:Int)])/\KnS H2 jts/\Same H1 H2/\∃o,σ=[o,some (.int (0+(k:Int)))]) ⟨[],rfl,rfl,fun p hp=>(nomatch hp),Same.refl _,_,rfl⟩ (fun i acc σ H2 _ p=> ?_) (fun i acc σ H2 hi p=> ?_) hz (fun i x acc σ H2 hx p=> ?_) (fun acc σ H2 p=> ?_)
  ·obtain⟨_,_,_,_,s2,_⟩:=p
   exact s2.seq (SqL.of hl)
  ·obtain⟨jts,rfl,hj,_⟩:=p
   have:=congrArg List.length hj
   simp only[yaa,ybh]at this
   rw[yaa,this];exact ycj _ _
  ·obtain⟨jts,rfl,hj,hJ,s2,o,rfl⟩:=p
   rw[yaf]at hx
   cases ex:its[i]? with
   |none=>rw[ex]at hx;cases hx
   |some v=>
    rw[ex]at hx
    cases hx
    have mv:=yav ex
    have lv:v.2.length<=10:=by
     have:=allS_mem k v.2 (by rw[<-hm];exact ydu mv)
     omega
    refine⟨_,rfl,_,rfl,(by show 1<=sizeLine;decide),fun p1 hp1=> ?_⟩
    have s3:=zad hp1 (.tup [.int (0+(k:Int))])
    refine⟨v.1,p1,_,_,rfl,rfl,(s2.trans s3) _ _ (hT v mv),zab,(by rw[yaa,sizeLine_eq];show _+1<=_;omega),fun r H4 s4 h4=> ?_⟩
    have ek:(0+(k:Int))=(k:Int):=by omega
    have s34:=s3.trans s4
    refine⟨jts++[(r,v.2++[(k:Int)])],by rw[yad];rfl,?_,fun p hp=> ?_,s2.trans s34,_,rfl⟩
    ·rw[yad,hj,ybg,ex,yad,yad];rfl
    ·rcases yax.mp hp with z|z
     ·exact s34 _ _ (hJ p z)
     ·rw[yal.mp z]
      show H4 r=some (.tup ((v.2++[(k:Int)]).map V.int))
      rw[yad,<-ek]
      exact h4
  ·intro p1 hp1
   obtain⟨jts,rfl,hj,hJ,s2,o,rfl⟩:=p
   rw[yaa,ybk,hm]at hj
   have hjl:jts.length=2^k:=by
    have:=congrArg List.length hj
    rw[yaa,yaa,allS_len]at this
    exact this
   have s3:=zad hp1 (.lst (jts.map fun p=>V.ref p.1))
   refine⟨l,p1,_,_,rfl,rfl,s3 _ _ (s2 _ _ hl),zab,(by rw[yaa,yaa,hjl,hlen,sizeLine_eq];omega),fun l2 hl2=> ?_⟩
   have s4:=zad hl2 (.lst (its.map (fun p=>V.ref p.1)++jts.map fun p=>V.ref p.1))
   have s34:=s3.trans s4
   refine⟨l2,its++jts,_,rfl,sm.trans (s2.trans s34),by rw[zab,yad],fun p hp=> ?_,?_⟩
   ·rcases yax.mp hp with z|z
    ·exact(s2.trans s34) _ _ (hT p z)
    ·exact s34 _ _ (hJ p z)
   ·rw[yad,hm,hj];rfl
 ·obtain⟨l,its,b2,rfl,sm,hl,hT,hm⟩:=p
  exact⟨_,rfl,q l its H1 sm hl hT hm⟩
noncomputable def spWithout(K:W.Frag):Sp:=fun vs H Q _=>∃(a b:Addr) (xs ys:List Int),vs=[.ref a,.ref b]/\SqT K H a (xs.map V.int)/\SqT K H b (ys.map V.int)/\∀r H',Same H H'->H' r=some (.tup ((wo xs ys).map V.int))->Q (.ref r) H'
theorem sc_without:FnScope ["some","part"] ["some","part"] (defScope s_without):=fsc
theorem ok_without{f:Addr}{fd:FuncData}(F:Fun K "without" "without" s_without f fd)(m_tuple:mg "tuple"=none):
  FnOk P w K mg base CX0 1 f fd ["some","part"] (spWithout K):=by
 refine F.ok sc_without (fun vs H Q E h=> ?_) (fun cdv A outer s H vs Q E hr h=> ?_)
 ·obtain⟨a,b,xs,ys,rfl,_⟩:=h
  rfl
 obtain⟨a,b,xs,ys,rfl,hA,hB,q⟩:=h
 refine⟨_,(zaf (zak (zbl zar rfl m_tuple (by decide+kernel) (zaa (zaz (own:=["place"]) (caps:=["part"]) (ix:=[1]) rfl (pi_tupL (pv 0)) rfl rfl (.cons rfl rfl .nil) (fun _ _ _ _ _=>(zai (i:=0) (show(["place","part"]:List Str).Nodup from by decide+kernel) rfl (Or.inl rfl))) (fun _ _ _ _ _=>zdk (zap (op_notInDK K hr.units) (pv 0) (pv 1) (by with_unfolding_all rfl))) (fun _ _ _ _ _=>(pv 0))) zac)))),?_⟩
 refine⟨_,rfl,a,_,rfl,hA,fun hz=> ?_⟩
 refine comp_tup (xs:=xs.map V.int) (fun k acc σ H'=>acc=((xs.take k).filter fun o=> !decide (o∈ys)).map V.int/\Same H H'/\∃o,σ=[o,some (.ref b)]) ⟨rfl,Same.refl _,_,rfl⟩ (fun k acc σ H' _ p=>p.2.1.tup hA) (fun k acc σ H' hk p=> ?_) hz (fun k x acc σ H' hx pp=> ?_) (fun acc σ H' p=> ?_)
 ·rw[p.1,yaa]
  exact yat (ybe _ _) (by rw[ybh];exact ycj _ _)
 ·obtain⟨rfl,sm,o,rfl⟩:=pp
  rw[yaf]at hx
  cases ex:xs[k]? with
  |none=>rw[ex]at hx;cases hx
  |some y=>
   rw[ex]at hx
   cases hx
   obtain⟨hk,ey⟩:=yaq.mp ex
   have e:=zcg (p:=fun o=> !decide (o∈ys)) hk
   rw[ey]at e
   refine⟨_,rfl,_,rfl,b,_,_,.int y,rfl,.inr (sm.tup hB),DVs.ints ys,.int _,lay_ints ys,rfl,(by show 0<=60;decide),_,rfl,?_⟩
   rw[any_ints]
   refine ite2 (fun c=> ?_) (fun c=> ?_)
   ·exact⟨_,rfl,by rw[e,if_pos c,yad];rfl,sm,_,rfl⟩
   ·exact⟨by rw[e,if_neg c,ybr],sm,_,rfl⟩
 ·intro p1 hp1
  obtain⟨rfl,sm,_⟩:=p
  refine⟨p1,_,rfl,.inl ⟨SqL.of zab,fun l hl=> ?_⟩⟩
  exact q l _ (sm.trans ((zad hp1 _).trans (zad hl _))) (by rw[zab,yaa,ybk];rfl)
noncomputable def spStand(K:W.Frag):Sp:=fun vs H Q _=>∃(a b:Addr) (n x:Int) (ts:List (Int×Int)) (ps:List Int),vs=[.ref a,.ref b,.int x]/\WebV K H a n ts/\SqT K H b (ps.map V.int)/\∀H',Same H H'->Q (.bl (standB ts ps x)) H'
theorem sc_stand:FnScope ["web","part","place"] ["web","part","place"] (defScope zce):=fsc
theorem ok_stand{f f1:Addr}{fd d1:FuncData}(F:Fun K "can_stand_with" "can_stand_with" zce f fd)(D1:Dfn K mg "has_tie" s_has_tie ["web","one","other"] f1 d1)(G1:FnOk P w K mg base CX0 1 f1 d1 ["web","one","other"] (spHas K))(m_any:mg "any"=none):
  FnOk P w K mg base CX0 2 f fd ["web","part","place"] (spStand K):=by
 refine F.ok sc_stand (fun vs H Q E h=> ?_) (fun cdv A outer s H vs Q E hr h=> ?_)
 ·obtain⟨a,b,n,x,ts,ps,rfl,_⟩:=h
  rfl
 obtain⟨a,b,n,x,ts,ps,rfl,hW,hB,q⟩:=h
 refine⟨_,(zaf (zak (pe_not (zam (call_any rfl) rfl m_any (by decide+kernel) (zaa (zaz (own:=["other"]) (caps:=["web","place"]) (ix:=[0,2]) rfl (pi_tupL (pv 1)) rfl rfl (.cons rfl rfl (.cons rfl rfl .nil)) (fun _ _ _ _ _=>(zai (i:=0) (show(["other","web","place"]:List Str).Nodup from by decide+kernel) rfl (Or.inl rfl))) (fun _ _ _ _ _=>zbf) (fun _ _ _ _ _=>(pc G1 hr D1 (zaa (pv 1) (zaa (pv 0) (zaa (pv 2) zac)))))) zac))))),?_⟩
 refine⟨_,rfl,b,_,rfl,hB,fun hz=> ?_⟩
 refine comp_tup (xs:=ps.map V.int) (fun k acc σ H'=>acc=(((ps.take k).map fun o=>hasTie ts o x)).map V.bl/\Same H H'/\∃o,σ=[o,some (.ref a),some (.int x)]) ⟨rfl,Same.refl _,_,rfl⟩ (fun k acc σ H' _ p=>p.2.1.tup hB) (fun k acc σ H' hk p=> ?_) hz (fun k v acc σ H' hx pp=> ?_) (fun acc σ H' p=> ?_)
 ·rw[p.1,yaa,yaa,ybh];exact ycj _ _
 ·obtain⟨rfl,sm,o,rfl⟩:=pp
  rw[yaf]at hx
  cases ex:ps[k]? with
  |none=>rw[ex]at hx;cases hx
  |some y=>
   rw[ex]at hx
   cases hx
   refine⟨_,rfl,_,rfl,_,rfl,a,n,y,x,ts,rfl,hW.same sm,fun H2 s2=>⟨?_,sm.trans s2,_,rfl⟩⟩
   rw[ybg,ex,yad,yad];rfl
 ·intro p1 hp1
  obtain⟨rfl,sm,_⟩:=p
  refine⟨p1,_,rfl,SqL.of zab,_,rfl,?_⟩
  have e:(!(((ps.take (ps.map V.int).length).map fun o=>hasTie ts o x).any id))=standB ts ps x:=by
   rw[yaa,ybk,List.any_map];rfl
  rw[e]
  exact q _ (sm.trans (zad hp1 _))
noncomputable abbrev SetsV(K:W.Frag)(H:Hp)(its:List (Addr×List Int)):Prop:=∀p∈its,SqT K H p.1 (p.2.map V.int)
theorem SetsV.same{H H':Hp}{its:List (Addr×List Int)}(h:SetsV K H its)(e:Same H H'):SetsV K H' its:=fun p hp=>e.tup (h p hp)
theorem cut1(xs:List Int):cutV (xs.map V.int) none (some 1)=(xs.take 1).map V.int:=by
 cases xs with
 |nil=>rfl
 |cons x r=>
  unfold cutV HT.sIx
  simp
  try omega
theorem cutR(xs:List Int):cutV (xs.map V.int) (some 1) none=(xs.drop 1).map V.int:=by
 cases xs with
 |nil=>rfl
 |cons x r=>
  unfold cutV HT.sIx
  simp
  rw[yde (by rw[yaa];exact yac _)]
noncomputable def spFparts(K:W.Frag):Sp:=fun vs H Q _=>∃(a b:Addr) (n:Int) (ts:List (Int×Int)) (xs:List Int),vs=[.ref a,.ref b]/\WebV K H a n ts/\SqT K H b (xs.map V.int)/\xs.length<=10/\
 ∀(r:Addr) (its:List (Addr×List Int)) H',Same H H'->H' r=some (.lst (its.map fun p=>V.ref p.1))->SetsV K H' its->its.map (·.2)=fparts ts xs->H r=none->Q (.ref r) H'
theorem sc_fparts:FnScope ["web","some","found","place"] ["web","some"] (defScope zck):=fsc
theorem ok_fparts{f f1:Addr}{fd d1:FuncData}(F:Fun K "first_parts" "first_parts" zck f fd)(D1:Dfn K mg "can_stand_with" zce ["web","part","place"] f1 d1)(G1:FnOk P w K mg base CX0 2 f1 d1 ["web","part","place"] (spStand K)):
  FnOk P w K mg base CX0 3 f fd ["web","some"] (spFparts K):=by
 refine F.ok sc_fparts (fun vs H Q E h=> ?_) (fun cdv A outer s H vs Q E hr h=> ?_)
 ·obtain⟨a,b,n,ts,xs,rfl,_⟩:=h
  rfl
 obtain⟨a,b,n,ts,xs,rfl,hW,hB,hlen,q⟩:=h
 refine⟨_,(zae (zal (i:=2) sc_fparts.nd rfl (Or.inl rfl) (pe_lst (zaa (pe_slice sl_tupE (pv 1) po_none (po_some zag)) zac))) (zae (ps_for PassesOwn.never rfl (pi_tupL (pe_slice sl_tupE (pv 1) (po_some zag) po_none)) (zai (i:=3) sc_fparts.nd rfl (Or.inr rfl)) (zaf (zal (i:=2) sc_fparts.nd rfl (Or.inl rfl) (zan op_cat (pv 2) (zaz (own:=["part"]) (caps:=["web","place"]) (ix:=[0,3]) rfl (zcm (pv 2)) rfl rfl (.cons rfl rfl (.cons rfl rfl .nil)) (fun _ _ _ _ _=>(zai (i:=0) (show(["part","web","place"]:List Str).Nodup from by decide+kernel) rfl (Or.inl rfl))) (fun _ _ _ _ _=>zdk (zdl (pc G1 hr D1 (zaa (pv 1) (zaa (pv 0) (zaa (pv 2) zac)))))) (fun _ _ _ _ _=>(zan (op_catEK K) (pv 0) (zaw (zaa (pv 2) zac))))))))) (zaf (zak (pv 2))))),?_⟩
 refine⟨_,rfl,_,rfl,b,_,rfl,hB,fun r0 H0 s0 h0=> ?_⟩
 rw[cut1]at h0
 refine⟨(by show 1<=sizeLine;decide),fun l0 hl0=> ?_⟩
 have s1:=zad hl0 (.lst [.ref r0])
 refine⟨_,rfl,_,rfl,b,_,rfl,(s0.trans s1).tup hB,fun r1 H1 s2 h1=> ?_⟩
 rw[cutR]at h1
 refine⟨r1,_,rfl,h1,fun hz=> ?_⟩
 refine for_tup (K:=K) (a:=r1) (xs:=(xs.drop 1).map V.int) (fun k σ H'=>∃(l:Addr) (its:List (Addr×List Int)) (o3:Option V),σ=[some (.ref a),some (.ref b),some (.ref l),o3]/\Same H H'/\Same H1 H'/\H' l=some (.lst (its.map fun p=>V.ref p.1))/\SetsV K H' its/\its.map (·.2)=fpUp (standB ts) xs k/\H l=none)
  ⟨l0,[(r0,xs.take 1)],_,rfl,s0.trans (s1.trans s2),Same.refl _,s2 _ _ zab,fun p hp=>by rw[yal.mp hp];exact(s1.trans s2).tup h0,rfl,s0.free hl0⟩ (fun k σ H' _ p=> ?_) (fun k x σ H2 hx p=> ?_) (fun σ H2 p=> ?_)
 ·obtain⟨_,_,_,_,_,s3,_⟩:=p
  exact s3.tup h1
 ·obtain⟨l,its,o3,rfl,sm,s3,hl,hT,hm,l00⟩:=p
  rw[yaf]at hx
  cases ek:(xs.drop 1)[k]? with
  |none=>rw[ek]at hx;cases hx
  |some y=>
   rw[ek]at hx
   cases hx
   have hk:k<=9:=by
    have:=(yaq.mp ek).1
    rw[ydv]at this
    omega
   have hlen2:its.length<=512:=by
    have h1:its.length=(fpUp (standB ts) xs k).length:=by rw[<-hm,yaa]
    rw[h1]
    exact yat (fpUp_len _ _ _) (yda (n:=2) (by decide) hk)
   have plen:∀p∈its,p.2.length<=10:=fun p hp=>by
    have hm':p.2∈fpUp (standB ts) xs k:=by rw[<-hm];exact ydu hp
    cases xs with
    |nil=>simp at ek
    |cons x r=>
     have:=(fpUp_part k _ hm').1.length_le
     rw[ybj,ybh]at this
     rw[ybj]at hlen
     omega
   refine⟨_,rfl,_,rfl,l,_,rfl,SqL.of hl,fun hz=> ?_⟩
   refine zco (xs:=its.map fun p=>V.ref p.1) (fun i acc σ H'=>∃jts:List (Addr×List Int),acc=jts.map (fun p=>V.ref p.1)/\jts.map (·.2)=(((its.take i).map (·.2)).filter fun p=>standB ts p y).map (fun s=>s++[y])/\SetsV K H' jts/\Same H2 H'/\∃o,σ=[o,some (.ref a),some (.int y)]) ⟨[],rfl,rfl,fun p hp=>(nomatch hp),Same.refl _,_,rfl⟩ (fun i acc σ H' _ p=> ?_) (fun i acc σ H' hi p=> ?_) hz (fun i x acc σ H4 hx p=> ?_) (fun acc σ H4 p=> ?_)
   ·obtain⟨_,_,_,_,s2,_⟩:=p
    exact s2.seq (SqL.of hl)
   ·obtain⟨jts,rfl,hj,_⟩:=p
    have:=congrArg List.length hj
    rw[yaa,yaa]at this
    rw[yaa,this]
    refine yat (ybe _ _) ?_
    rw[yaa,ybh];exact ycj _ _
   ·obtain⟨jts,rfl,hj,hJ,s4,o,rfl⟩:=p
    rw[yaf]at hx
    cases ex:its[i]? with
    |none=>rw[ex]at hx;cases hx
    |some v=>
     rw[ex]at hx
     cases hx
     have mv:=yav ex
     have et:(((its.take (i+1)).map (·.2)).filter fun p=>standB ts p y)=(((its.take i).map (·.2)).filter fun p=>standB ts p y)++(if standB ts v.2 y=true then[v.2]else[]):=by
      rw[ybg,ex,yad,ycx]
      congr 1
      exact filt1 _ _
     refine⟨_,rfl,_,rfl,_,rfl,a,v.1,n,y,ts,v.2,rfl,hW.same (sm.trans s4),s4.tup (hT v mv),fun H5 s5=>⟨_,rfl,?_⟩⟩
     refine ite2 (fun c=> ?_) (fun c=> ?_)
     ·refine⟨_,rfl,_,rfl,(by show 1<=sizeLine;decide),fun p1 hp1=> ?_⟩
      have s6:=zad hp1 (.tup [.int y])
      refine⟨v.1,p1,_,_,rfl,rfl,(s4.trans (s5.trans s6)).tup (hT v mv),SqT.of zab,(by have:=plen v mv;rw[yaa,sizeLine_eq];show _+1<=_;omega),fun r H7 s7 h7=> ?_⟩
      have s57:=s5.trans (s6.trans s7)
      refine⟨jts++[(r,v.2++[y])],by rw[yad];rfl,?_,fun p hp=> ?_,s4.trans s57,_,rfl⟩
      ·rw[yad,hj,et,if_pos c,yad];rfl
      ·rcases yax.mp hp with z|z
       ·exact s57.tup (hJ p z)
       ·rw[yal.mp z]
        show SqT K H7 r ((v.2++[y]).map V.int)
        rw[yad]
        exact h7
     ·refine⟨jts,rfl,?_,hJ.same s5,s4.trans s5,_,rfl⟩
      rw[hj,et,if_neg c,ybr]
   ·intro p1 hp1
    obtain⟨jts,rfl,hj,hJ,s4,o,rfl⟩:=p
    rw[yaa,ybk,hm]at hj
    have hjl:jts.length<=its.length:=by
     have:=congrArg List.length hj
     rw[yaa,yaa]at this
     have e2:its.length=(fpUp (standB ts) xs k).length:=by rw[<-hm,yaa]
     rw[this,e2]
     exact ybe _ _
    have s5:=zad hp1 (.lst (jts.map fun p=>V.ref p.1))
    refine⟨l,p1,_,_,rfl,rfl,s5 _ _ (s4 _ _ hl),zab,(by rw[yaa,yaa,sizeLine_eq];omega),fun l2 hl2=> ?_⟩
    have s6:=zad hl2 (.lst (its.map (fun p=>V.ref p.1)++jts.map fun p=>V.ref p.1))
    have s56:=s5.trans s6
    refine⟨l2,its++jts,_,rfl,sm.trans (s4.trans s56),s3.trans (s4.trans s56),by rw[zab,yad],fun p hp=> ?_,?_,(sm.trans (s4.trans s5)).free hl2⟩
    ·rcases yax.mp hp with z|z
     ·exact(s4.trans s56).tup (hT p z)
     ·exact s56.tup (hJ p z)
    ·rw[yad,hm,hj,fpUp_succ ek];rfl
 ·obtain⟨l,its,o3,rfl,sm,s3,hl,hT,hm,l00⟩:=p
  rw[yaa,fpUp_all]at hm
  exact⟨_,rfl,q l its H2 sm hl hT hm l00⟩
theorem Same.over{H0 H H':Hp}{d:Addr}(s:Same H0 H)(n:H0 d=none)(e:SameX d H H'):Same H0 H':=fun b u h=>e _ _ (fun z=>by rw[z,n]at h;cases h) (s _ _ h)
theorem tbl_ne{T a:Addr}{H:Hp}{ps:Array Value}{o:HO}(h:H T=some (.tbl ps))(e:H a=some o)(n:∀ps,o≠.tbl ps):a≠T:=fun z=>by rw[z,h]at e;cases e;exact n _ rfl
theorem tupT{T a:Addr}{H H':Hp}{ps:Array Value}{xs:List V}(e:SameX T H H')(h:H T=some (.tbl ps))(hx:SqT K H a xs):SqT K H' a xs:=by
 rcases hx with(q|⟨o,q⟩)|q
 ·exact .inl (.inl (e _ _ (tbl_ne h q fun _ z=>nomatch z) q))
 ·exact .inl (.inr ⟨o,e _ _ (tbl_ne h q fun _ z=>nomatch z) q⟩)
 ·exact .inr q
theorem lstT{T a:Addr}{H H':Hp}{ps:Array Value}{xs:List V}(e:SameX T H H')(h:H T=some (.tbl ps))(hx:SqL K H a xs):SqL K H' a xs:=by
 rcases hx with(q|⟨o,q⟩)|q
 ·exact .inl (.inl (e _ _ (tbl_ne h q fun _ z=>nomatch z) q))
 ·exact .inl (.inr ⟨o,e _ _ (tbl_ne h q fun _ z=>nomatch z) q⟩)
 ·exact .inr q
theorem pairsT{T:Addr}{H H':Hp}{tb:Array Value}(e:SameX T H H')(n:H T=some (.tbl tb)){rs:List V}{ps:List (Int×Int)}(h:DVs K H rs (ps.map pairD)):DVs K H' rs (ps.map pairD):=by
 induction ps generalizing rs with
 |nil=>cases h;exact .nil
 |cons p ps ih=>
  cases h with
  |cons h tl=>
   refine .cons ?_ (ih tl)
   cases h with
   |tup h hd=>
    cases hd with
    |cons a1 t1=>
     cases a1
     cases t1 with
     |cons a2 t2=>
      cases a2
      cases t2
      exact .tup (tupT e n h) (.cons (.int _) (.cons (.int _) .nil))
theorem webT'{T a:Addr}{H H':Hp}{tb:Array Value}{n:Int}{ts:List (Int×Int)}(h:WebV K H a n ts)(e:SameX T H H')(hn:H T=some (.tbl tb)):WebV K H' a n ts:=by
 obtain⟨u,rs,h1,h2,h3⟩:=h
 exact⟨u,rs,tupT e hn h1,tupT e hn h2,pairsT e hn h3⟩
theorem WebIs.tbl{T a:Addr}{H H':Hp}{tb:Array Value}{n:Int}{ts:List (Int×Int)}(h:WebIs K H a n ts)(e:SameX T H H')(hn:H T=some (.tbl tb)):WebIs K H' a n ts:=⟨webT' h.web e hn,h.h0,h.h1,h.pk,h.ok⟩
theorem _root_.L2.LamOk.at{H:Hp}{T:Addr}{p:Pos}{q:Str}(h:LamOk H T p q):∃tb,H T=some (.tbl tb):=by
 rcases h with h|⟨_,_,_,_,h,_⟩
 ·exact⟨_,h⟩
 ·exact⟨_,h⟩
theorem _root_.L2.LamOk.same{H H':Hp}{T:Addr}{p:Pos}{q:Str}(h:LamOk H T p q)(e:Same H H'):LamOk H' T p q:=by
 rcases h with h|⟨c,oc,vs,tq,h,h1,h2⟩
 ·exact .inl (e _ _ h)
 ·exact .inr ⟨c,oc,vs,tq,e _ _ h,e _ _ h1,h2⟩
theorem _root_.L2.LamOk.samex{H H':Hp}{T l:Addr}{p:Pos}{q:Str}{zs:List V}(h:LamOk H T p q)(e:SameX l H H')(hl:H l=some (.lst zs)):LamOk H' T p q:=by
 rcases h with h|⟨c,oc,vs,tq,h,h1,h2⟩
 ·exact .inl (e _ _ (ne_of h hl (fun z=>nomatch z)) h)
 ·exact .inr ⟨c,oc,vs,tq,e _ _ (ne_of h hl (fun z=>nomatch z)) h,e _ _ (ne_of h1 hl (fun z=>nomatch z)) h1,h2⟩
noncomputable def lamPos:Pos:=match defBody zbi with
 |[.Return (some (.Call _ _ [⟨_,.Lambda _ _ _ p,_⟩] _)) _]=>p
 |_=>⟨0,0,0,0⟩
noncomputable def lamQ:Str:=("best_part":Str)++".<locals>."++"<lambda>"
noncomputable abbrev Lam(H:Hp)(T:Addr):Prop:=LamOk H T lamPos lamQ
theorem notEmp{xs:List Int}(c:(!(!((xs.map V.int).isEmpty)))=true):xs=[]:=by
 cases xs with
 |nil=>rfl
 |cons x r=>exact absurd c (by show¬(!(!false))=true;decide)
theorem isEmp{xs:List Int}(c:¬(!(!((xs.map V.int).isEmpty)))=true):xs≠[]:=fun e=>by subst e;exact c rfl
noncomputable def spHigh(K:W.Frag):Sp:=fun vs H Q _=>∃(a d b:Addr) (n:Int) (ts:List (Int×Int)) (xs:List Int) (kvs:List (List Key×V)) (g:List Int->Int),vs=[.ref a,.ref d,.ref b]/\WebV K H a n ts/\H d=some (.dT kvs)/\SqT K H b (xs.map V.int)/\xs.length<=10/\
 (xs≠[]->∀p∈fparts ts xs,valV kvs ((wo xs p).map Sum.inl)=some (.int (g (wo xs p))))/\∀H',Same H H'->Q (.int (hiF g ts xs)) H'
theorem sc_high:FnScope ["web","floors","some"] ["web","floors","some"] (defScope zcj):=fsc
theorem ok_high{f f1 f2:Addr}{fd d1 d2:FuncData}(F:Fun K "highest_floor" "highest_floor" zcj f fd)(D1:Dfn K mg "first_parts" zck ["web","some"] f1 d1)(G1:FnOk P w K mg base CX0 3 f1 d1 ["web","some"] (spFparts K))(D2:Dfn K mg "without" s_without ["some","part"] f2 d2)(G2:FnOk P w K mg base CX0 1 f2 d2 ["some","part"] (spWithout K))(m_min:mg "min"=none):
  FnOk P w K mg base CX0 4 f fd ["web","floors","some"] (spHigh K):=by
 refine F.ok sc_high (fun vs H Q E h=> ?_) (fun cdv A outer s H vs Q E hr h=> ?_)
 ·obtain⟨a,d,b,n,ts,xs,kvs,g,rfl,_⟩:=h
  rfl
 obtain⟨a,d,b,n,ts,xs,kvs,g,rfl,hW,hD,hB,hlen,hv,q⟩:=h
 refine⟨_,(zae (zcr (pt_not (pt_truth (pv 2) (fun _=>rfl))) (zaf (zak zag)) zas) (zaf (zak (zan zby zag (zam (call_minL rfl) rfl m_min (by decide+kernel) (zaa (zaz (own:=["part"]) (caps:=["floors","some"]) (ix:=[1,2]) rfl (zcm (pc G1 hr D1 (zaa (pv 0) (zaa (pv 2) zac)))) rfl rfl (.cons rfl rfl (.cons rfl rfl .nil)) (fun _ _ _ _ _=>(zai (i:=0) (show(["part","floors","some"]:List Str).Nodup from by decide+kernel) rfl (Or.inl rfl))) (fun _ _ _ _ _=>zbf) (fun _ _ _ _ _=>(pe_dget (hu_of hr) (pv 1) (pc G2 hr D2 (zaa (pv 2) (zaa (pv 0) zac))) (fun _ _=>rfl)))) zac)))))),?_⟩
 refine⟨_,rfl,!((xs.map V.int).isEmpty),.inr (.inl ⟨_,hB,rfl⟩),?_⟩
 refine ite2 (fun c=> ?_) (fun c=> ?_)
 ·have e:=notEmp c
  subst e
  exact q H (Same.refl _)
 ·have hx:=isEmp c
  have hv:=hv hx
  refine⟨_,rfl,_,rfl,a,b,n,ts,xs,rfl,hW,hB,hlen,fun r its H1 s1 hr1 hT hm hr0=>⟨r,_,rfl,SqL.of hr1,fun hz=> ?_⟩⟩
  refine zco (xs:=its.map fun p=>V.ref p.1) (fun i acc σ H'=>acc=((its.take i).map fun p=>g (wo xs p.2)).map V.int/\Same H1 H'/\∃o,σ=[o,some (.ref d),some (.ref b)]) ⟨rfl,Same.refl _,_,rfl⟩ (fun i acc σ H' _ p=>p.2.1.seq (SqL.of hr1)) (fun i acc σ H' _ p=> ?_) hz (fun i x acc σ H' hx p=> ?_) (fun acc σ H' p=> ?_)
  ·rw[p.1,yaa,yaa,ybh];exact ycj _ _
  ·obtain⟨rfl,sm,o,rfl⟩:=p
   rw[yaf]at hx
   cases ex:its[i]? with
   |none=>rw[ex]at hx;cases hx
   |some v=>
    rw[ex]at hx
    cases hx
    have mv:=yav ex
    have mp:v.2∈fparts ts xs:=by rw[<-hm];exact ydu mv
    refine⟨_,rfl,_,rfl,_,rfl,b,v.1,xs,v.2,rfl,(s1.trans sm).tup hB,sm.tup (hT v mv),fun rr H2 s2 h2=> ?_⟩
    have G:=DGet.t (k:=(wo xs v.2).map Sum.inl) ((s1.trans (sm.trans s2)) _ _ hD) (by rw[keyV];exact h2)
    rw[hv _ mp]at G
    refine⟨d,_,rfl,G,?_,sm.trans s2,_,rfl⟩
    rw[ybg,ex,yad,yad];rfl
  ·intro p1 hp1
   obtain⟨rfl,sm,_⟩:=p
   have e:(its.take (its.map fun p=>V.ref p.1).length).map (fun p=>g (wo xs p.2))=(fparts ts xs).map fun p=>g (wo xs p):=by
    rw[yaa,ybk,<-hm,ycw];rfl
   rw[e]
   refine⟨p1,_,rfl,SqL.of zab,fun z=>fpG_ne _ _ (List.map_eq_nil_iff.mp z),fun m h1 h2=>⟨_,_,rfl,rfl,?_⟩⟩
   have e2:hiF g ts xs=1+m:=by rw[mnL_eq h1 h2,hiF,if_neg hx]
   show Q (.int (1+m)) _
   rw[<-e2]
   exact q _ (s1.trans (sm.trans (zad hp1 _)))
noncomputable def spHighs(K:W.Frag):Sp:=fun vs H Q _=>∃(a:Addr) (n:Int) (ts:List (Int×Int)),vs=[.ref a]/\WebIs K H a n ts/\∀d H',Same H H'->H' d=some (.dT (setK (flo ts) (allS n.toNat)))->H d=none->Q (.ref d) H'
theorem sc_highs:FnScope ["web","floors","some"] ["web"] (defScope zcb):=fsc
theorem ok_highs{f f1 f2:Addr}{fd d1 d2:FuncData}(F:Fun K "highest_floors" "highest_floors" zcb f fd)(D1:Dfn K mg "all_sets" s_all_sets ["n"] f1 d1)(G1:FnOk P w K mg base CX0 1 f1 d1 ["n"] (spAllSets K))(D2:Dfn K mg "highest_floor" zcj ["web","floors","some"] f2 d2)(G2:FnOk P w K mg base CX0 4 f2 d2 ["web","floors","some"] (spHigh K)):
  FnOk P w K mg base CX0 5 f fd ["web"] (spHighs K):=by
 refine F.ok sc_highs (fun vs H Q E h=> ?_) (fun cdv A outer s H vs Q E hr h=> ?_)
 ·obtain⟨a,n,ts,rfl,_⟩:=h
  rfl
 obtain⟨a,n,ts,rfl,hA,q⟩:=h
 refine⟨_,(zae (zal (i:=1) sc_highs.nd rfl (Or.inl rfl) pe_dnewT) (zae (ps_for PassesOwn.never rfl (zcm (pc G1 hr D1 (zaa (zao zat (pv 0) zag (fun _ _=>rfl)) zac))) (zai (i:=2) sc_highs.nd rfl (Or.inl rfl)) (zaf (ps_dput (hu_of hr) (pv 1) (pv 2) (pc G2 hr D2 (zaa (pv 0) (zaa (pv 1) (zaa (pv 2) zac)))) rfl))) (zaf (zak (pv 1))))),?_⟩
 intro d hd
 have s0:=zad hd (.dT [])
 have h0:(upd H d (.dT [])) d=some (.dT (setK (flo ts) ((allS n.toNat).take 0))):=zab
 generalize upd H d (.dT [])=H0 at *
 obtain⟨t,rs,w1,w2,w3⟩:=id (hA.web.same s0)
 refine⟨_,rfl,a,_,_,.int n,rfl,rfl,w1,rfl,n,rfl,hA.h0,hA.h1,fun r its H1 s1 hr1 hT hm=>⟨r,_,rfl,SqL.of hr1,fun hz=> ?_⟩⟩
 have h1:=s1 _ _ h0
 have nrd:r≠d:=ne_of hr1 h1 (fun z=>nomatch z)
 have hlen:its.length<=1024:=by
  have:its.length=2^n.toNat:=by rw[<-allS_len,<-hm,yaa]
  rw[this]
  exact yda (n:=2) (by decide) (show n.toNat<=10 by have:=hA.h1;omega)
 refine for_list (K:=K) (a:=r) (xs:=its.map fun p=>V.ref p.1) (fun i σ H'=>Same H H'/\H' r=some (.lst (its.map fun p=>V.ref p.1))/\KnS H' its/\H' d=some (.dT (setK (flo ts) ((allS n.toNat).take i)))/\∃o,σ=[some (.ref a),some (.ref d),o])
  ⟨s0.trans s1,hr1,hT,h1,_,rfl⟩ (fun i σ H' _ p=>SqL.of p.2.1) (fun i x σ H' hx p=> ?_) (fun σ H' p=> ?_)
 ·obtain⟨sm,hr2,hT2,hd2,o,rfl⟩:=p
  rw[yaf]at hx
  cases ex:its[i]? with
  |none=>rw[ex]at hx;cases hx
  |some v=>
   rw[ex]at hx
   cases hx
   have mv:=yav ex
   have es:(allS n.toNat)[i]? =some v.2:=by rw[<-hm,yaf,ex];rfl
   have lv:v.2.length<=10:=by
    have:=allS_mem n.toNat v.2 (yav es)
    have:=hA.h1
    omega
   have nv:v.2∉(allS n.toNat).take i:=fun z=>by
    obtain⟨j,hj,ej⟩:=ybi z
    rw[ybh]at hj
    rw[List.getElem_take]at ej
    have h2:=yaq.mp es
    obtain⟨hi,ei⟩:=h2
    have:=ycn.mp (allS_nodup n.toNat) j i (by omega) hi (by omega)
    exact this (ej.trans ei.symm)
   refine⟨_,rfl,_,rfl,_,rfl,a,d,v.1,n,ts,v.2,_,flo ts,rfl,hA.web.same sm,hd2,SqT.of (hT2 v mv),lv,fun hx p hp=> ?_,fun H3 s3=> ?_⟩
   ·rw[val_setK,if_pos]
    obtain⟨y,yr,ey⟩:∃y yr,v.2=y::yr:=by
     cases hv:v.2 with
     |nil=>exact absurd hv hx
     |cons y yr=>exact⟨y,yr,rfl⟩
    rw[ey]at hp es⊢
    exact allS_take n.toNat i _ _ es (wo_sub _ _) (wo_ne (fpG_part hp).2)
   ·rw[<-flo_eq]
    refine⟨_,rfl,_,rfl,d,_,rfl,DPut.t (k:=v.2.map Sum.inl) (s3 _ _ hd2) (by rw[keyV];exact s3 _ _ (hT2 v mv)) ?_,?_⟩
    ·rw[setK_len,ybh,allS_len,sizeLine_eq]
     have:2^n.toNat<=1024:=yda (n:=2) (by decide) (show n.toNat<=10 by have:=hA.h1;omega)
     omega
    ·rw[setK_put nv]
     have xd:SameX d H3 (upd H3 d (.dT (setK (flo ts) ((allS n.toNat).take i++[v.2])))):=(SameX.refl _ _).upd
     refine⟨Same.over (sm.trans s3) hd xd,xd _ _ nrd (s3 _ _ hr2),fun p hp=>xd _ _ (ne_of (s3 _ _ (hT2 p hp)) (s3 _ _ hd2) (fun z=>nomatch z)) (s3 _ _ (hT2 p hp)),?_,_,rfl⟩
     rw[zab,ybg,es];rfl
 ·obtain⟨sm,hr2,hT2,hd2,o,rfl⟩:=p
  have e:(allS n.toNat).take (its.map fun p=>V.ref p.1).length=allS n.toNat:=by
   rw[yaa,show its.length=(allS n.toNat).length by rw[<-hm,yaa],ybk]
  rw[e]at hd2
  exact⟨_,rfl,q d H' sm hd2 hd⟩
noncomputable def spBest(K:W.Frag)(T:Addr):Sp:=fun vs H Q _=>∃(a d b:Addr) (n:Int) (ts:List (Int×Int)) (xs:List Int) (kvs:List (List Key×V)) (g:List Int->Int),vs=[.ref a,.ref d,.ref b]/\WebV K H a n ts/\H d=some (.dT kvs)/\SqT K H b (xs.map V.int)/\xs≠[]/\xs.length<=10/\
 (∀p∈fparts ts xs,valV kvs ((wo xs p).map Sum.inl)=some (.int (g (wo xs p))))/\Lam H T/\∀r p H',SameX T H H'->Lam H' T->SqT K H' r (p.map V.int)->p∈fparts ts xs->(∀q∈fparts ts xs,g (wo xs p)<=g (wo xs q))->Q (.ref r) H'
theorem sc_best:FnScope ["web","floors","some"] ["web","floors","some"] (defScope zbi):=fsc
theorem ok_best{f f1 f2 c T:Addr}{fd d1 d2:FuncData}(F:Fun K "best_part" "best_part" zbi f fd)(hcd:fd.code= .ref c)(LB:LamB base mg c T)(D1:Dfn K mg "first_parts" zck ["web","some"] f1 d1)(G1:FnOk P w K mg base CX0 3 f1 d1 ["web","some"] (spFparts K))(D2:Dfn K mg "without" s_without ["some","part"] f2 d2)(G2':FnOk P w K mg base CX0 1 f2 d2 ["some","part"] (spWithout K))(m_min:mg "min"=none):
  FnOk P w K mg base CX0 5 f fd ["web","floors","some"] (spBest K T):=by
 have G2:FnOk P w K mg base CX0 2 f2 d2 ["some","part"] (spWithout K):=G2'.mono (by decide)
 refine F.okC hcd sc_best (fun vs H Q E h=> ?_) (fun A outer s H vs Q E hr h=> ?_)
 ·obtain⟨a,d,b,n,ts,xs,kvs,g,rfl,_⟩:=h
  rfl
 obtain⟨a,d,b,n,ts,xs,kvs,g,rfl,hW,hD,hB,hx,hlen,hv,hL,q⟩:=h
 refine⟨_,(zaf (zak (pe_minLam (k:=2) (y:="part") (caps:=["floors","some"]) (ix:=[1,2]) LB rfl rfl hr rfl m_min (zaa (pc G1 hr D1 (zaa (pv 0) (zaa (pv 2) zac))) zac)
   (.cons rfl rfl (.cons rfl rfl .nil)) (fun _ _ _ _ hl=>pe_dget (hu_of hl) (pv 1) (pe_call G2 hl rfl D2.m D2.F.kp D2.b .nil pass0 (zaa (pv 2) (zaa (pv 0) zac))) (fun _ _=>rfl))))),?_⟩
 refine⟨_,rfl,_,rfl,a,b,n,ts,xs,rfl,hW,hB,hlen,fun r its H1 s1 hr1 hT hm hr0=> ?_⟩
 have hL1:=hL.same s1
 obtain⟨tb,ht⟩:=hL1.at
 have hne:its≠[]:=fun z=>fpG_ne (standB ts) xs (by rw[<-show its.map (·.2)=fpG (standB ts) xs from hm,z];rfl)
 refine⟨r,its,rfl,SqL.of hr1,hne,hL1,fun j=>g (wo xs (its.getD j (0,[])).2),fun _ H'=>SameX T H1 H'/\Lam H' T,fun H2 e l=>⟨e,l⟩,fun j H' e=>lstT e.1 ht (SqL.of hr1),fun j p H' hp e=> ?_,fun i p H' hp hb e=> ?_⟩
 ·have mp:=yav hp
  have mf:p.2∈fparts ts xs:=by rw[<-hm];exact ydu mp
  have ed:its.getD j (0,[])=p:=by rw[yai,hp];rfl
  refine⟨_,rfl,_,rfl,_,rfl,b,p.1,xs,p.2,rfl,tupT e.1 ht (s1.tup hB),tupT e.1 ht (hT p mp),fun rr H2 s2 h2=> ?_⟩
  have hd2:=e.1 _ _ (tbl_ne ht (s1 _ _ hD) fun _ z=>nomatch z) (s1 _ _ hD)
  have G:=DGet.t (k:=(wo xs p.2).map Sum.inl) (s2 _ _ hd2) (by rw[keyV];exact h2)
  rw[hv _ mf]at G
  refine⟨d,_,rfl,G,(by show V.int _=V.int (g (wo xs (its.getD j (0,[])).2));rw[ed]),fun c o n e'=>s2 _ _ (e.1 c o n e'),e.2.same s2⟩
 ·have mp:=yav hp
  have ed:its.getD i (0,[])=p:=by rw[yai,hp];rfl
  refine q p.1 p.2 H' (fun c o n e'=>e.1 c o n (s1 _ _ e')) e.2 (tupT e.1 ht (hT p mp)) (by rw[<-hm];exact ydu mp) fun z hz=> ?_
  rw[<-hm]at hz
  obtain⟨y,hy,rfl⟩:=ybc.mp hz
  obtain⟨j,hj,ej⟩:=ybi hy
  have:=(hb j hj).1
  have ey:its.getD j (0,[])=y:=by rw[yai,yag hj,ej];rfl
  dsimp only at this
  rw[ed,ey]at this
  exact this
noncomputable def spByF(K:W.Frag)(T:Addr):Sp:=fun vs H Q _=>∃(a d:Addr) (n:Int) (ts:List (Int×Int)),vs=[.ref a,.ref d]/\WebIs K H a n ts/\H d=some (.dT (setK (flo ts) (allS n.toNat)))/\Lam H T/\
 ∀r hs H',SameX T H H'->Lam H' T->H' r=some (.tup (hs.map V.int))->HuesOk ts n.toNat (flo ts (rgI n.toNat)) hs->Q (.ref r) H'
theorem set_ints{hs:List Int}{i:Nat}{x:Int}:(hs.map V.int).set i (.int x)=(hs.set i x).map V.int:=by rw[List.map_set]
theorem sc_byf:FnScope ["web","floors","hues","left","hue","part","place"] ["web","floors"] (defScope zca):=fsc
theorem ok_byf{f f1 f2 T:Addr}{fd d1 d2:FuncData}(F:Fun K "hues_by_floors" "hues_by_floors" zca f fd)(D1:Dfn K mg "best_part" zbi ["web","floors","some"] f1 d1)(G1:FnOk P w K mg base CX0 5 f1 d1 ["web","floors","some"] (spBest K T))(D2:Dfn K mg "without" s_without ["some","part"] f2 d2)(G2:FnOk P w K mg base CX0 1 f2 d2 ["some","part"] (spWithout K))(m_tuple:mg "tuple"=none)(m_range:mg "range"=none):
  FnOk P w K mg base CX0 6 f fd ["web","floors"] (spByF K T):=by
 refine F.ok sc_byf (fun vs H Q E h=> ?_) (fun cdv A outer s H vs Q E hr h=> ?_)
 ·obtain⟨a,d,n,ts,rfl,_⟩:=h
  rfl
 obtain⟨a,d,n,ts,rfl,hA,hD,hL,q⟩:=h
 refine⟨_,(zae (zal (i:=2) sc_byf.nd rfl (Or.inl rfl) (zan op_rep (pe_lst (zaa zag zac)) (zao zat (pv 0) zag (fun _ _=>rfl)))) (zae (zal (i:=3) sc_byf.nd rfl (Or.inl rfl) (pe_tupRange rfl rfl m_tuple rfl m_range (zaa (zao zat (pv 0) zag (fun _ _=>rfl)) zac))) (zae (zal (i:=4) sc_byf.nd rfl (Or.inl rfl) zag) (zae (ps_while PassesOwn.never (pt_truth (pv 3) (fun _=>rfl)) (zae (zal (i:=5) sc_byf.nd rfl (Or.inl rfl) (pc G1 hr D1 (zaa (pv 0) (zaa (pv 1) (zaa (pv 3) zac))))) (zae (ps_for PassesOwn.never rfl (pi_tupL (pv 5)) (zai (i:=6) sc_byf.nd rfl (Or.inl rfl)) (zaf (ps_asg (pv 4) (pg_sub (pv 2) (pv 6) set_list)))) (zae (zal (i:=3) sc_byf.nd rfl (Or.inl rfl) (pc G2 hr D2 (zaa (pv 3) (zaa (pv 5) zac)))) (zaf (ps_aug (i:=4) sc_byf.nd rfl (Or.inl rfl) zag ip_add)))))) (zaf (zak (zbl zar rfl m_tuple (by decide+kernel) (zaa (pv 2) zac)))))))),?_⟩
 obtain⟨t,rs,w1,w2,w3⟩:=id hA.web
 have hn0:=hA.h0
 have hn1:=hA.h1
 refine⟨(by show 1<=sizeLine;decide),fun l0 hl0=> ?_⟩
 have s0:=zad hl0 (.lst [.int 0])
 refine⟨_,rfl,a,_,_,.int n,rfl,rfl,s0.tup w1,rfl,l0,n,_,rfl,rfl,zab,by omega,by omega,by rw[sizeLine_eq];show 1*n.toNat<=_;omega,fun l hl=> ?_⟩
 have s1:=s0.trans (zad hl (.lst (List.replicate n.toNat [V.int 0]).flatten))
 have e0:(List.replicate n.toNat [V.int 0]).flatten=(List.replicate n.toNat 0).map V.int:=by
  rw[List.map_replicate]
  induction n.toNat with
  |zero=>rfl
  |succ k ih=>rw[ybv,yct,ih,ybv];rfl
 have hl1:(upd (upd H l0 (.lst [.int 0])) l (.lst (List.replicate n.toNat [V.int 0]).flatten)) l=some (.lst ((List.replicate n.toNat (0:Int)).map V.int)):=by rw[zab,e0]
 have l00:H l=none:=s0.free hl
 dsimp only at s1 hl1⊢
 generalize upd (upd H l0 (.lst [.int 0])) l (.lst (List.replicate n.toNat [V.int 0]).flatten)=H1 at *
 refine⟨_,rfl,a,_,_,.int n,rfl,rfl,s1.tup w1,rfl,n,rfl,hn0,by omega,fun lf hlf=> ?_⟩
 have s2:=zad hlf (.tup (tupR n.toNat))
 have hlf1:(upd H1 lf (.tup (tupR n.toNat))) lf=some (.tup ((rgI n.toNat).map V.int)):=by rw[zab,tupR_rgI]
 have hl2:=s2 _ _ hl1
 have s12:=s1.trans s2
 dsimp only at s12 hlf1 hl2⊢
 generalize upd H1 lf (.tup (tupR n.toNat))=H2 at *
 refine⟨fun m σ H'=>∃(xs hs:List Int) (h:Int) (b:Addr) (o5 o6:Option V),m=xs.length/\σ=[some (.ref a),some (.ref d),some (.ref l),some (.ref b),some (.int h),o5,o6]/\SameX T H H'/\Lam H' T/\H' l=some (.lst (hs.map V.int))/\SqT K H' b (xs.map V.int)/\HueI ts n.toNat (flo ts (rgI n.toNat)) xs h hs,
  ⟨_,rgI n.toNat,_,0,lf,_,_,rfl,rfl,s12.x T,hL.same s12,hl2,SqT.of hlf1,HueI.start ts n.toNat⟩,?_⟩
 rintro m σ H' ⟨xs,hs,h,b,o5,o6,rfl,rfl,sx,hLm,hl3,hB,HI⟩
 refine⟨_,rfl,!((xs.map V.int).isEmpty),.inr (.inl ⟨_,hB,rfl⟩),?_⟩
 obtain⟨tb0,ht0⟩:=hL.at
 obtain⟨tb,ht⟩:=hLm.at
 have nlT:l≠T:=tbl_ne ht hl3 fun _ z=>nomatch z
 refine ite2 (fun c=> ?_) (fun c=> ?_)
 ·have hx:xs≠[]:=fun e=>by subst e;exact absurd c (by decide)
  have xl:xs.length<=10:=by
   have:=HI.sub.length_le
   rw[rgI_len]at this
   omega
  have hA':=hA.tbl sx ht0
  have hD':=sx _ _ (tbl_ne ht0 hD fun _ z=>nomatch z) hD
  refine⟨fun σ' H''=>∃m',m'<xs.length/\∃(xs hs:List Int) (h:Int) (b:Addr) (o5 o6:Option V),m'=xs.length/\σ'=[some (.ref a),some (.ref d),some (.ref l),some (.ref b),some (.int h),o5,o6]/\SameX T H H''/\Lam H'' T/\H'' l=some (.lst (hs.map V.int))/\SqT K H'' b (xs.map V.int)/\HueI ts n.toNat (flo ts (rgI n.toNat)) xs h hs,fun σ' H'' z=>z,?_⟩
  refine⟨_,rfl,_,rfl,_,rfl,a,d,b,n,ts,xs,_,flo ts,rfl,hA'.web,hD',hB,hx,xl,fun p hp=> ?_,hLm,fun r p H3 s3 hL3 hr hp hb=> ?_⟩
  ·rw[val_setK,if_pos ((mem_allS _ _).mpr ((wo_sub _ _).trans HI.sub))]
  ·have hl4:=s3 _ _ nlT hl3
   have hB3:=tupT s3 ht hB
   have pin:∀z∈p,0<=z/\z<(n.toNat:Int):=fun z hz=>by
    obtain⟨y,yr,rfl⟩:∃y yr,xs=y::yr:=by
     cases xs with
     |nil=>exact absurd rfl hx
     |cons y yr=>exact⟨y,yr,rfl⟩
    exact mem_rgI.mp (HI.sub.subset ((fpG_part hp).1.subset hz))
   refine⟨_,rfl,r,_,rfl,hr,fun hz=> ?_⟩
   refine for_tup (K:=K) (a:=r) (xs:=p.map V.int) (fun i σ H'=>∃o6,σ=[some (.ref a),some (.ref d),some (.ref l),some (.ref b),some (.int h),some (.ref r),o6]/\SameX l H3 H'/\H' l=some (.lst ((setA hs (p.take i) h).map V.int)))
    ⟨_,rfl,SameX.refl _ _,hl4⟩ (fun i σ H' _ z=> ?_) (fun i x σ H4 hx4 z=> ?_) (fun σ H4 z=> ?_)
   ·obtain⟨_,_,z,_⟩:=z
    exact z.tup hl4 hr
   ·obtain⟨o6,rfl,x4,h4⟩:=z
    rw[yaf]at hx4
    cases ex:p[i]? with
    |none=>rw[ex]at hx4;cases hx4
    |some y=>
     rw[ex]at hx4
     cases hx4
     have hy:=pin y (yav ex)
     refine⟨_,rfl,_,rfl,_,rfl,l,_,y,y.toNat,rfl,rfl,h4,?_,_,rfl,x4.upd,?_⟩
     ·unfold ixN
      rw[if_pos hy.1,if_pos (by rw[yaa,setA_len,HI.len];omega)]
     ·rw[zab,set_ints,ybg,ex]
      unfold setA
      rw[List.foldl_append];rfl
   ·obtain⟨o6,rfl,x4,h4⟩:=z
    rw[yaa,ybk]at h4
    refine⟨_,rfl,_,rfl,b,r,xs,p,rfl,x4.tup hl4 hB3,x4.tup hl4 hr,fun b2 H5 s5 h5=> ?_⟩
    refine⟨_,rfl,_,_,rfl,rfl,?_⟩
    have xl2:SameX l H3 H5:=x4.trans (s5.x l)
    have hL5:=(hL3.samex x4 hl4).same s5
    refine⟨_,?_,wo xs p,setA hs p h,h+1,b2,_,_,rfl,rfl,fun c o nc e=> ?_,hL5,s5 _ _ h4,SqT.of h5,HI.step (by rw[show((n.toNat:Nat):Int)=n by omega];exact hA.pk) hx hp hb⟩
    ·obtain⟨y,yr,rfl⟩:∃y yr,xs=y::yr:=by
      cases xs with
      |nil=>exact absurd rfl hx
      |cons y yr=>exact⟨y,yr,rfl⟩
     exact wo_lt (fpG_part hp).2
    ·exact xl2 _ _ (fun z=>by rw[z,l00]at e;cases e) (s3 _ _ nc (sx _ _ nc e))
 ·have hx:xs=[]:=by
   cases xs with
   |nil=>rfl
   |cons y yr=>exact absurd rfl c
  subst hx
  refine⟨_,rfl,l,_,rfl,.inl ⟨SqL.of hl3,fun r hr=> ?_⟩⟩
  exact q r hs _ (sx.trans ((zad hr _).x T)) (hLm.same (zad hr _)) zab HI.done
noncomputable def spFew(K:W.Frag)(T:Addr):Sp:=fun vs H Q _=>∃(a:Addr) (n:Int) (ts:List (Int×Int)),vs=[.ref a]/\WebIs K H a n ts/\Lam H T/\
 ∀r h d hs H',SameX T H H'->Lam H' T->H' r=some (.tup [.int (flo ts (rgI n.toNat)),.ref h,.ref d])->H' h=some (.tup (hs.map V.int))->HuesOk ts n.toNat (flo ts (rgI n.toNat)) hs->H' d=some (.dT (setK (flo ts) (allS n.toNat)))->H d=none->Q (.ref r) H'
theorem sc_few:FnScope ["web","floors"] ["web"] (defScope s_fewest):=fsc
theorem ok_few{f f1 f2 f3 T:Addr}{fd d1 d2 d3:FuncData}(F:Fun K "fewest" "fewest" s_fewest f fd)(D1:Dfn K mg "need_web" zch ["thing"] f1 d1)(G1:FnOk P w K mg base CX0 7 f1 d1 ["thing"] (spNeedWeb K))(D2:Dfn K mg "highest_floors" zcb ["web"] f2 d2)(G2:FnOk P w K mg base CX0 5 f2 d2 ["web"] (spHighs K))(D3:Dfn K mg "hues_by_floors" zca ["web","floors"] f3 d3)(G3:FnOk P w K mg base CX0 6 f3 d3 ["web","floors"] (spByF K T))(m_tuple:mg "tuple"=none)(m_range:mg "range"=none):
  FnOk P w K mg base CX0 8 f fd ["web"] (spFew K T):=by
 refine F.ok sc_few (fun vs H Q E h=> ?_) (fun cdv A outer s H vs Q E hr h=> ?_)
 ·obtain⟨a,n,ts,rfl,_⟩:=h
  rfl
 obtain⟨a,n,ts,rfl,hA,hL,q⟩:=h
 refine⟨_,(zae (ps_expr (pc G1 hr D1 (zaa (pv 0) zac))) (zae (zal (i:=1) sc_few.nd rfl (Or.inl rfl) (pc G2 hr D2 (zaa (pv 0) zac))) (zaf (zak (zaw (zaa (pe_dget (hu_of hr) (pv 1) (pe_tupRange rfl rfl m_tuple rfl m_range (zaa (zao zat (pv 0) zag (fun _ _=>rfl)) zac)) (fun _ _=>rfl)) (zaa (pc G3 hr D3 (zaa (pv 0) (zaa (pv 1) zac))) (zaa (pv 1) zac)))))))),?_⟩
 refine⟨_,rfl,_,webDat n ts,rfl,hA.web.dv.dx,hA.ok,fun H0 s0=> ?_⟩
 refine⟨_,rfl,a,n,ts,rfl,hA.same s0,fun d H1 s1 hd1 hd0=> ?_⟩
 have s01:=s0.trans s1
 obtain⟨t,rs,w1,w2,w3⟩:=id (hA.web.same s01)
 have hn0:=hA.h0
 have hn1:=hA.h1
 refine⟨_,rfl,_,rfl,a,_,_,.int n,rfl,rfl,w1,rfl,n,rfl,hn0,by omega,fun l hl=> ?_⟩
 have s2:=zad hl (.tup (tupR n.toNat))
 have hl2:(upd H1 l (.tup (tupR n.toNat))) l=some (.tup ((rgI n.toNat).map V.int)):=by rw[zab,tupR_rgI]
 have s012:=s01.trans s2
 have hd2:=s2 _ _ hd1
 dsimp only at s012 hl2 hd2⊢
 generalize upd H1 l (.tup (tupR n.toNat))=H2 at *
 have G:=DGet.t (k:=(rgI n.toNat).map Sum.inl) hd2 (by rw[keyV];exact hl2)
 rw[val_setK,if_pos ((mem_allS _ _).mpr (List.Sublist.refl _))]at G
 refine⟨d,_,rfl,G,_,rfl,_,rfl,a,d,n,ts,rfl,hA.same s012,hd2,hL.same s012,fun h hs H3 s3 hL3 hh HO=> ?_⟩
 obtain⟨tb,ht⟩:=(hL.same s012).at
 have hd3:=s3 _ _ (tbl_ne ht hd2 fun _ z=>nomatch z) hd2
 refine⟨_,rfl,(by show 3<=sizeLine;decide),fun r hr=> ?_⟩
 have s4:=zad hr (.tup [.int (flo ts (rgI n.toNat)),.ref h,.ref d])
 exact q r h d hs _ (((s012.x T).trans s3).trans (s4.x T)) (hL3.same s4) zab (s4 _ _ hh) HO (s4 _ _ hd3) (s0.free hd0)
noncomputable def spAWeb(K:W.Frag):Sp:=fun vs H Q _=>∃(tp:Addr) (t m:Int),vs=[.ref tp,.int m]/\H tp=some (.lst [.int t])/\0<=m/\m<=10/\
 ∀r n ts H' t',SameX tp H H'->H' tp=some (.lst [.int t'])->WebIs K H' r n ts->n<=m->Q (.ref r) H'
theorem or_any{c:Bool}{u:TT}{σ:St}{H:Hp}{Q:Bool->Hp->Prop}(hQ:∀b,Q b H)(hu:(∀b,Q b H)->u σ H Q):if c=true then Q true H else u σ H Q:=by
 by_cases h:c=true
 ·rw[if_pos h];exact hQ true
 ·rw[if_neg h];exact hu hQ
theorem sc_aweb:FnScope ["tape","most","n","often","ties","i","j"] ["tape","most"] (defScope s_law_aweb):=fsc
theorem ok_aweb{f f1:Addr}{fd d1:FuncData}(F:Fun K "_law_aweb" "_law_aweb" s_law_aweb f fd)(D1:Dfn K mg "_law_adigit" zbv ["tape","many"] f1 d1)(G1:FnOk P w K mg base CX0 1 f1 d1 ["tape","many"] (spDig K))(m_range:mg "range"=none)(m_tuple:mg "tuple"=none):
  FnOk P w K mg base CX0 2 f fd ["tape","most"] (spAWeb K):=by
 refine F.ok sc_aweb (fun vs H Q E h=> ?_) (fun cdv A outer s H vs Q E hr h=> ?_)
 ·obtain⟨tp,t,m,rfl,_⟩:=h
  rfl
 obtain⟨tp,t,m,rfl,hT,hm0,hm1,q⟩:=h
 refine⟨_,(zae (zal (i:=2) sc_aweb.nd rfl (Or.inl rfl) (pc G1 hr D1 (zaa (pv 0) (zaa (zan zby (pv 1) zag) zac)))) (zae (zal (i:=3) sc_aweb.nd rfl (Or.inl rfl) (zan zby zag (pc G1 hr D1 (zaa (pv 0) (zaa zag zac))))) (zae (zal (i:=4) sc_aweb.nd rfl (Or.inl rfl) (pe_lst zac)) (zae (ps_for PassesOwn.never rfl (zay rfl m_range (zaa (pv 2) zac)) (zai (i:=5) sc_aweb.nd rfl (Or.inl rfl)) (zaf (ps_for PassesOwn.never rfl (pi_range2 rfl m_range (zaa (zan zby (pv 5) zag) (zaa (pv 2) zac))) (zai (i:=6) sc_aweb.nd rfl (Or.inl rfl)) (zaf (zcr (zap op_lt (pc G1 hr D1 (zaa (pv 0) (zaa zag zac))) (pv 3) (nomark _)) (zaf (ps_expr (pe_bm PySem.F.plainAttrs_list PySem.F.slot_list_append PySem.F.type_list_append mt_append (pv 4) (zaa (zaw (zaa (pv 5) (zaa (pv 6) zac))) zac)))) zas))))) (zaf (zak (zaw (zaa (pv 2) (zaa (zbl zar rfl m_tuple (by decide+kernel) (zaa (pv 4) zac)) zac))))))))),?_⟩
 refine⟨_,rfl,_,rfl,_,_,rfl,rfl,tp,t,m+1,rfl,hT,by omega,by omega,fun n t1 hn0 hn1'=> ?_⟩
 have hn1:n<=10:=by omega
 refine⟨_,rfl,tp,t1,5,rfl,zab,by decide,by decide,fun o t2 ho0 ho1=>⟨_,_,rfl,rfl,?_⟩⟩
 refine⟨(by show 0<=sizeLine;decide),fun tl htl=> ?_⟩
 have ntc:tl≠tp:=none_ne' (zab (H:=upd H tp (.lst [.int t1])) (a:=tp) (o:= .lst [.int t2])) htl
 have s2:=zad htl (.lst [])
 have tl0:H tl=none:=by
  have z:∀t1 t2:Int,upd (upd H tp (.lst [.int t1])) tp (.lst [.int t2])=upd H tp (.lst [.int t2]):=fun _ _=>upd_upd
  rw[z,zaj ntc]at htl
  exact htl
 refine⟨_,rfl,n,rfl,by omega,by omega,?_⟩
 refine zbz (n:=n.toNat) (fun i σ H'=>SameX tp H H'/\(∃t',H' tp=some (.lst [.int t']))/\TiesL K H' tl (rows tt n i) (fun _=>True)/\∃a4 a5,σ=[some (.ref tp),some (.int m),some (.int n),some (.int (1+o)),some (.ref tl),a4,a5])
  ⟨((SameX.refl tp H).upd.upd).trans (s2.x _),⟨_,s2 _ _ zab⟩,TiesL.nil zab,_,_,rfl⟩ (fun i σ H' hi p=> ?_) (fun σ H' p=> ?_)
 ·obtain⟨x,⟨t0,c⟩,tl1,a4,a5,rfl⟩:=p
  refine⟨_,rfl,_,_,rfl,rfl,_,rfl,_,_,rfl,⟨by omega,by omega,by omega,by omega⟩,?_⟩
  refine zbz (n:=(n-(0+(i:Int)+1)).toNat) (fun k σ H'=>SameX tp H H'/\(∃t',H' tp=some (.lst [.int t']))/\TiesL K H' tl (rows tt n i++row tt (0+(i:Int)) k) (fun _=>True)/\∃a5,σ=[some (.ref tp),some (.int m),some (.int n),some (.int (1+o)),some (.ref tl),some (.int (0+(i:Int))),a5])
   ⟨x,⟨_,c⟩,by rw[show row tt (0+(i:Int)) 0=[]from rfl,ybr];exact tl1,_,rfl⟩ (fun k σ H' hk p=> ?_) (fun σ H' p=> ?_)
  ·obtain⟨x,⟨t0,c⟩,tl1,a5,rfl⟩:=p
   refine⟨_,rfl,tp,t0,6,rfl,c,by decide,by decide,fun d t2 hd0 hd1=>⟨_,rfl,_,_,rfl,rfl,_,rfl,?_⟩⟩
   have x2:SameX tp H' (upd H' tp (.lst [.int t2])):=(SameX.refl _ _).upd
   have c2:(upd H' tp (.lst [.int t2])) tp=some (.lst [.int t2]):=zab
   have tl2:=tl1.step x2 c ntc
   have er:rows tt n i++row tt (0+(i:Int)) (k+1)=(rows tt n i++row tt (0+(i:Int)) k)++[(0+(i:Int),0+(i:Int)+1+(k:Int))]:=by rw[row_succ,if_pos (show tt _ _=true from rfl),List.append_assoc]
   rw[er]
   generalize upd H' tp (.lst [.int t2])=H2 at *
   refine ite2 (fun cc=> ?_) (fun cc=> ?_)
   ·obtain⟨rs,ts,h1,h2,h3,h4⟩:=tl2
    have hl:=sub_len hn1 (by omega) h3
    have hrl:=h2.len
    rw[yaa]at hrl
    refine⟨_,rfl,.inl ⟨rfl,_,SqL.of h1⟩,_,rfl,_,rfl,(by show 2<=sizeLine;decide),fun p hp=> ?_⟩
    have s3:=zad hp (.tup [.int (0+(i:Int)),.int (0+(i:Int)+1+(k:Int))])
    refine⟨tl,rs,_,rfl,rfl,s3 _ _ h1,(by rw[sizeLine_eq];omega),?_⟩
    have xw:SameX tl (upd H2 p (.tup [.int (0+(i:Int)),.int (0+(i:Int)+1+(k:Int))])) (upd (upd H2 p (.tup [.int (0+(i:Int)),.int (0+(i:Int)+1+(k:Int))])) tl (.lst (rs++[.ref p]))):=(SameX.refl _ _).upd
    refine⟨fun q o hq e=> ?_,⟨t2,xw _ _ ntc.symm (s3 _ _ c2)⟩,TiesL.push (s3 _ _ h1) (h2.same s3) h3 h4 (SqT.of zab) trivial,_,rfl⟩
    have nq:q≠tl:=fun z=>by rw[z,tl0]at e;cases e
    exact xw _ _ nq (s3 _ _ (x2 _ _ hq (x _ _ hq e)))
   ·exact⟨x.trans x2,⟨_,c2⟩,tl2.mono (List.sublist_append_left _ _),_,rfl⟩
  ·obtain⟨x,c,tl1,a5,rfl⟩:=p
   rw[<-rows_succ]at tl1
   exact⟨x,c,tl1,_,_,rfl⟩
 ·obtain⟨x,⟨t0,c⟩,⟨rs,ts,h1,h2,h3,h4⟩,a4,a5,rfl⟩:=p
  refine⟨_,rfl,_,rfl,tl,rs,rfl,.inl ⟨SqL.of h1,fun t ht=>⟨(by show 2<=sizeLine;decide),fun wb hwb=> ?_⟩⟩⟩
  have s3:=zad ht (.tup rs)
  have s4:=zad hwb (.tup [.int n,.ref t])
  have s34:=s3.trans s4
  obtain⟨g1,g2⟩:=web_of_sub hn0 hn1 h3
  exact q wb n ts _ t0 (x.trans (s34.x _)) (s34 _ _ c) ⟨⟨t,rs,SqT.of zab,SqT.of (s4 _ _ zab),h2.same s34⟩,hn0,hn1,g1,g2⟩ (by omega)
noncomputable def spAWebOf(K:W.Frag):Sp:=fun vs H Q _=>∃(scr tp:Addr) (ns:List Int) (st t:Int),vs=[.ref scr,.int st,.ref tp]/\ScrV K H scr ns/\H tp=some (.lst [.int t])/\
 ∀r n ts H' t',SameX tp H H'->H' tp=some (.lst [.int t'])->WebIs K H' r n ts->Q (.ref r) H'
theorem sc_awebof:FnScope ["script","start","tape","n","often","ties","i","j"] ["script","start","tape"] (defScope zda):=fsc
theorem ok_awebof{f f1 f2 f3:Addr}{fd d1 d2 d3:FuncData}(F:Fun K "_law_aweb_of" "_law_aweb_of" zda f fd)(D1:Dfn K mg "_law_acell" zdh ["script","k"] f1 d1)(G1:FnOk P w K mg base CX0 1 f1 d1 ["script","k"] (spCell K))(D2:Dfn K mg "_law_aweb" s_law_aweb ["tape","most"] f2 d2)(G2:FnOk P w K mg base CX0 2 f2 d2 ["tape","most"] (spAWeb K))(D3:Dfn K mg "_law_adigit" zbv ["tape","many"] f3 d3)(G3:FnOk P w K mg base CX0 1 f3 d3 ["tape","many"] (spDig K))(m_range:mg "range"=none)(m_tuple:mg "tuple"=none):
  FnOk P w K mg base CX0 3 f fd ["script","start","tape"] (spAWebOf K):=by
 refine F.ok sc_awebof (fun vs H Q E h=> ?_) (fun cdv A outer s H vs Q E hr h=> ?_)
 ·obtain⟨scr,tp,ns,st,t,rfl,_⟩:=h
  rfl
 obtain⟨scr,tp,ns,st,t,rfl,hS,hT,q⟩:=h
 refine⟨_,(zae (zcr (PW.pt (pw_or (zap op_gt (pv 1) zag (nomark _)) (pw_or1 (zap op_ne (zan op_mod (zan op_fdiv (pc G1 hr D1 (zaa (pv 0) (zaa zag zac))) zag) zag) zag (nomark _))))) (zaf (zak (pc G2 hr D2 (zaa (pv 2) (zaa zag zac))))) zas) (zae (zal (i:=3) sc_awebof.nd rfl (Or.inl rfl) (zan zby zag (pc G3 hr D3 (zaa (pv 2) (zaa zag zac))))) (zae (zal (i:=4) sc_awebof.nd rfl (Or.inl rfl) (zan zby zag (pc G3 hr D3 (zaa (pv 2) (zaa zag zac))))) (zae (zal (i:=5) sc_awebof.nd rfl (Or.inl rfl) (pe_lst zac)) (zae (ps_for PassesOwn.never rfl (zay rfl m_range (zaa (pv 3) zac)) (zai (i:=6) sc_awebof.nd rfl (Or.inl rfl)) (zaf (ps_for PassesOwn.never rfl (pi_range2 rfl m_range (zaa (zan zby (pv 6) zag) (zaa (pv 3) zac))) (zai (i:=7) sc_awebof.nd rfl (Or.inl rfl)) (zaf (zcr (PW.pt (pw_or (zap op_lt (pc G3 hr D3 (zaa (pv 2) (zaa zag zac))) (pv 4) (nomark _)) (pw_or1 (zap op_eq (pv 7) (zan zby (pv 6) zag) (nomark _))))) (zaf (ps_expr (pe_bm PySem.F.plainAttrs_list PySem.F.slot_list_append PySem.F.type_list_append mt_append (pv 5) (zaa (zaw (zaa (pv 6) (zaa (pv 7) zac))) zac)))) zas))))) (zaf (zak (zaw (zaa (pv 3) (zaa (zbl zar rfl m_tuple (by decide+kernel) (zaa (pv 5) zac)) zac)))))))))),?_⟩
 refine⟨_,rfl,_,_,rfl,rfl,_,rfl,?_⟩
 refine or_any (fun b=> ?_) (fun hQ=> ?_)
 rotate_left
 ·refine⟨_,rfl,scr,ns,7,rfl,hS,by decide,fun c=> ?_⟩
  exact⟨_,_,rfl,rfl,⟨by decide,by decide⟩,_,_,rfl,rfl,(by show(0:Int)<8;decide),rfl,_,rfl,hQ _⟩
 refine ite2 (fun c=> ?_) (fun c=> ?_)
 ·exact⟨_,rfl,tp,t,7,rfl,hT,by decide,by decide,fun r n ts H' t' x h1 h2 _=>q r n ts H' t' x h1 h2⟩
 refine⟨_,rfl,tp,t,3,rfl,hT,by decide,by decide,fun n' t1 hn0' hn1'=>⟨_,_,rfl,rfl,?_⟩⟩
 obtain⟨n,en,hn0,hn1⟩:∃n:Int,8+n'=n/\0<=n/\n<=10:=⟨_,rfl,by omega,by omega⟩
 refine⟨_,rfl,tp,t1,3,rfl,zab,by decide,by decide,fun o t2 ho0 ho1=>⟨_,_,rfl,rfl,?_⟩⟩
 refine⟨(by show 0<=sizeLine;decide),fun tl htl=> ?_⟩
 have ntc:tl≠tp:=none_ne' (zab (H:=upd H tp (.lst [.int t1])) (a:=tp) (o:= .lst [.int t2])) htl
 show tSeq _ _ _ [some (.ref scr),some (.int st),some (.ref tp),some (.int (8+n')),some (.int (3+o)),some (.ref tl),none,none] _
 rw[en]
 have s2:=zad htl (.lst [])
 have tl0:H tl=none:=by
  have z:∀t1 t2:Int,upd (upd H tp (.lst [.int t1])) tp (.lst [.int t2])=upd H tp (.lst [.int t2]):=fun _ _=>upd_upd
  rw[z,zaj ntc]at htl
  exact htl
 refine⟨_,rfl,n,rfl,by omega,by omega,?_⟩
 refine zbz (n:=n.toNat) (fun i σ H'=>SameX tp H H'/\(∃t',H' tp=some (.lst [.int t']))/\TiesL K H' tl (rows tt n i) (fun _=>True)/\∃a4 a5,σ=[some (.ref scr),some (.int st),some (.ref tp),some (.int n),some (.int (3+o)),some (.ref tl),a4,a5])
  ⟨((SameX.refl tp H).upd.upd).trans (s2.x _),⟨_,s2 _ _ zab⟩,TiesL.nil zab,_,_,rfl⟩ (fun i σ H' hi p=> ?_) (fun σ H' p=> ?_)
 ·obtain⟨x,⟨t0,c⟩,tl1,a4,a5,rfl⟩:=p
  refine⟨_,rfl,_,_,rfl,rfl,_,rfl,_,_,rfl,⟨by omega,by omega,by omega,by omega⟩,?_⟩
  refine zbz (n:=(n-(0+(i:Int)+1)).toNat) (fun k σ H'=>SameX tp H H'/\(∃t',H' tp=some (.lst [.int t']))/\TiesL K H' tl (rows tt n i++row tt (0+(i:Int)) k) (fun _=>True)/\∃a5,σ=[some (.ref scr),some (.int st),some (.ref tp),some (.int n),some (.int (3+o)),some (.ref tl),some (.int (0+(i:Int))),a5])
   ⟨x,⟨_,c⟩,by rw[show row tt (0+(i:Int)) 0=[]from rfl,ybr];exact tl1,_,rfl⟩ (fun k σ H' hk p=> ?_) (fun σ H' p=> ?_)
  ·obtain⟨x,⟨t0,c⟩,tl1,a5,rfl⟩:=p
   refine⟨_,rfl,tp,t0,6,rfl,c,by decide,by decide,fun d t2 hd0 hd1=>⟨_,rfl,_,_,rfl,rfl,_,rfl,?_⟩⟩
   have x2:SameX tp H' (upd H' tp (.lst [.int t2])):=(SameX.refl _ _).upd
   have c2:(upd H' tp (.lst [.int t2])) tp=some (.lst [.int t2]):=zab
   have tl2:=tl1.step x2 c ntc
   have er:rows tt n i++row tt (0+(i:Int)) (k+1)=(rows tt n i++row tt (0+(i:Int)) k)++[(0+(i:Int),0+(i:Int)+1+(k:Int))]:=by rw[row_succ,if_pos (show tt _ _=true from rfl),List.append_assoc]
   rw[er]
   generalize upd H' tp (.lst [.int t2])=H2 at *
   refine or_any (fun b=> ?_) (fun hQ=> ?_)
   rotate_left
   ·exact⟨_,rfl,_,rfl,_,_,rfl,rfl,rfl,_,rfl,hQ _⟩
   refine ite2 (fun cc=> ?_) (fun cc=> ?_)
   ·obtain⟨rs,ts,h1,h2,h3,h4⟩:=tl2
    have hl:=sub_len hn1 (by omega) h3
    have hrl:=h2.len
    rw[yaa]at hrl
    refine⟨_,rfl,.inl ⟨rfl,_,SqL.of h1⟩,_,rfl,_,rfl,(by show 2<=sizeLine;decide),fun p hp=> ?_⟩
    have s3:=zad hp (.tup [.int (0+(i:Int)),.int (0+(i:Int)+1+(k:Int))])
    refine⟨tl,rs,_,rfl,rfl,s3 _ _ h1,(by rw[sizeLine_eq];omega),?_⟩
    have xw:SameX tl (upd H2 p (.tup [.int (0+(i:Int)),.int (0+(i:Int)+1+(k:Int))])) (upd (upd H2 p (.tup [.int (0+(i:Int)),.int (0+(i:Int)+1+(k:Int))])) tl (.lst (rs++[.ref p]))):=(SameX.refl _ _).upd
    refine⟨fun q o hq e=> ?_,⟨t2,xw _ _ ntc.symm (s3 _ _ c2)⟩,TiesL.push (s3 _ _ h1) (h2.same s3) h3 h4 (SqT.of zab) trivial,_,rfl⟩
    have nq:q≠tl:=fun z=>by rw[z,tl0]at e;cases e
    exact xw _ _ nq (s3 _ _ (x2 _ _ hq (x _ _ hq e)))
   ·exact⟨x.trans x2,⟨_,c2⟩,tl2.mono (List.sublist_append_left _ _),_,rfl⟩
  ·obtain⟨x,c,tl1,a5,rfl⟩:=p
   rw[<-rows_succ]at tl1
   exact⟨x,c,tl1,_,_,rfl⟩
 ·obtain⟨x,⟨t0,c⟩,⟨rs,ts,h1,h2,h3,h4⟩,a4,a5,rfl⟩:=p
  refine⟨_,rfl,_,rfl,tl,rs,rfl,.inl ⟨SqL.of h1,fun t ht=>⟨(by show 2<=sizeLine;decide),fun wb hwb=> ?_⟩⟩⟩
  have s3:=zad ht (.tup rs)
  have s4:=zad hwb (.tup [.int n,.ref t])
  have s34:=s3.trans s4
  obtain⟨g1,g2⟩:=web_of_sub hn0 hn1 h3
  exact q wb n ts _ t0 (x.trans (s34.x _)) (s34 _ _ c) ⟨⟨t,rs,SqT.of zab,SqT.of (s4 _ _ zab),h2.same s34⟩,hn0,hn1,g1,g2⟩
end
end Hs
namespace L2
open PySem PySem.Spec PyProof.Rows
theorem big_lt{n:Nat}(h:n<=10^200):n<2^700:=ybn h (by decide+kernel)
section
variable{X:Cx}
theorem op_fdivW:OpR X (binaryOp .FloorDiv) (rI (fun _ j=>0<j/\j.natAbs<=10^200) fun i j=> .int (i/j)):=opI fun i j _ _ _ _ _ hc q=>by
 have h1:(0:Int)<j:=hc.1
 refine floordiv_int (by omega) ?_ (Or.inl (PyProof.noPylong_of_log2 ?_))
 ·rw[yec _ (by omega)]
  exact q
 ·have h3:j.natAbs≠0:=by omega
  have h4:=(Nat.log2_lt h3).mpr (big_lt hc.2)
  omega
end
end L2
namespace Hs
open PySem L2 HsD
theorem gcd_step(m n:Nat):Nat.gcd n (m %n)=Nat.gcd m n:=by
 rw[Nat.gcd_comm m n,Nat.gcd_rec n m,Nat.gcd_comm]
structure Low(a:Int)(b:Nat)(u:Int)(v:Nat):Prop where
 pos:0<v
 cop:Nat.gcd u.natAbs v=1
 eq:u*(b:Int)=a*(v:Int)
 lu:u.natAbs<=a.natAbs
 lv:v<=b
 nn:0<=a->0<=u
theorem low_mk(a:Int)(b:Nat)(hb:0<b):Low a b (a/((Nat.gcd a.natAbs b:Nat):Int)) (b/Nat.gcd a.natAbs b):=by
 have hg:0<Nat.gcd a.natAbs b:=Nat.gcd_pos_of_pos_right _ hb
 obtain⟨x,hx⟩:((Nat.gcd a.natAbs b:Nat):Int)∣a:=Int.natAbs_dvd_natAbs.mp (by rw[ycy];exact Nat.gcd_dvd_left _ _)
 obtain⟨y,hy⟩:=Nat.gcd_dvd_right a.natAbs b
 generalize hgg:Nat.gcd a.natAbs b=g at *
 have e1:a/(g:Int)=x:=by rw[hx];exact Int.mul_ediv_cancel_left _ (by omega)
 have e2:b/g=y:=by rw[hy];exact Nat.mul_div_cancel_left _ hg
 rw[e1,e2]
 have hna:a.natAbs=g*x.natAbs:=by rw[hx,ydx];rfl
 have hy0:0<y:=by
  rcases yek y with h|h
  ·subst h;simp at hy;omega
  ·exact h
 refine⟨hy0,?_,?_,?_,?_,fun h=> ?_⟩
 ·have h2:Nat.gcd (g*x.natAbs) (g*y)=g:=by rw[<-hna,<-hy];exact hgg
  rw[Nat.gcd_mul_left]at h2
  have h3:g*Nat.gcd x.natAbs y=g*1:=by omega
  exact Nat.eq_of_mul_eq_mul_left hg h3
 ·rw[hx]
  have:(b:Int)=(g:Int)*(y:Int):=by rw[hy];exact Int.natCast_mul _ _
  rw[this,ycp (g:Int) x,yej]
 ·rw[hna];exact Nat.le_mul_of_pos_left _ hg
 ·rw[hy];exact Nat.le_mul_of_pos_left _ hg
 ·rw[<-e1];exact Int.ediv_nonneg h (by omega)
theorem abs_eq(i:Int):(if i<0 then -i else i)=((i.natAbs:Nat):Int):=by split<;>omega
theorem gcd_le(a:Int)(b:Nat)(hb:0<b):Nat.gcd a.natAbs b<=b:=Nat.le_of_dvd hb (Nat.gcd_dvd_right _ _)
section
variable{P:Program}{w:World}{K:W.Frag}{mg:Str->Option Value}{base:Heap}
noncomputable def spGd(K:W.Frag):Sp:=fun vs H Q _=>∃(m n:Nat),vs=[.int m,.int n]/\Q (.int ((Nat.gcd m n:Nat):Int)) H
theorem sc_gd:FnScope ["one","other","rest"] ["one","other"] (defScope zbp):=fsc
theorem ok_gd{f:Addr}{fd:FuncData}(F:Fun K "greatest_divisor" "greatest_divisor" zbp f fd):FnOk P w K mg base CX0 1 f fd ["one","other"] (spGd K):=by
 refine F.ok sc_gd (fun vs H Q E h=> ?_) (fun cdv A outer s H vs Q E hr h=> ?_)
 ·obtain⟨m,n,rfl,_⟩:=h
  rfl
 obtain⟨m,n,rfl,q⟩:=h
 refine⟨_,zae (ps_while PassesOwn.never (pt_truth (pv 1) (fun _=>rfl)) (zae (zal (i:=2) sc_gd.nd rfl (Or.inl rfl) (zan op_mod (pv 0) (pv 1))) (zae (zal (i:=0) sc_gd.nd rfl (Or.inl rfl) (pv 1)) (zaf (zal (i:=1) sc_gd.nd rfl (Or.inl rfl) (pv 2)))))) (zaf (zak (pv 0))),?_⟩
 refine⟨fun k σ H'=>H'=H/\∃(m':Nat) (r:Option V),σ=[some (.int (m':Int)),some (.int (k:Int)),r]/\Nat.gcd m' k=Nat.gcd m n,⟨n,rfl,m,_,rfl,rfl⟩,?_⟩
 rintro k σ H' ⟨rfl,m',r,rfl,hg⟩
 refine⟨_,rfl,_,rfl,?_⟩
 refine ite2 (fun c=> ?_) (fun c=> ?_)
 ·have hk:0<k:=by
   rcases yek k with h|h
   ·subst h;exact absurd c (by decide)
   ·exact h
  refine⟨fun σ' H2=>H2=H'/\∃r',σ'=[some (.int (k:Int)),some (.int ((m' %k:Nat):Int)),r'],fun σ' H2 ⟨e1,r',e2⟩=>⟨m' %k,Nat.mod_lt _ hk,e1,k,r',e2,?_⟩,?_⟩
  ·rw[gcd_step];exact hg
  ·exact⟨_,rfl,_,rfl,_,_,rfl,rfl,ydp.mpr hk,_,rfl,_,rfl,rfl,_,rfl⟩
 ·have hk:k=0:=by
   rcases yek k with h|h
   ·exact h
   ·exfalso;apply c;show((k:Int) !=0)=true;simp;omega
  subst hk
  rw[Nat.gcd_zero_right]at hg
  refine⟨_,rfl,?_⟩
  rw[hg];exact q
noncomputable def spLow(K:W.Frag):Sp:=fun vs H Q _=>∃(a:Int) (b:Nat),vs=[.int a,.int b]/\0<b/\b<=10^200/\∀p H' u v,Same H H'->H' p=some (.tup [.int u,.int ((v:Nat):Int)])->Low a b u v->Q (.ref p) H'
theorem sc_low:FnScope ["a","b","by"] ["a","b"] (defScope s_lowest):=fsc
theorem low_div{H:Hp}{a:Int}{b:Nat}{p:Addr}(hp:H p=none):(upd H p (.tup [.int (a/((Nat.gcd a.natAbs b:Nat):Int)),.int ((b:Int)/((Nat.gcd a.natAbs b:Nat):Int))])) p=some (.tup [.int (a/((Nat.gcd a.natAbs b:Nat):Int)),.int (((b/Nat.gcd a.natAbs b:Nat)):Int)]):=by
 rw[zab,Int.natCast_ediv]
theorem ok_low{f f1:Addr}{fd d1:FuncData}(F:Fun K "lowest" "lowest" s_lowest f fd)(D1:Dfn K mg "greatest_divisor" zbp ["one","other"] f1 d1)(G1:FnOk P w K mg base CX0 1 f1 d1 ["one","other"] (spGd K))(mA:mg "abs"=none):
  FnOk P w K mg base CX0 2 f fd ["a","b"] (spLow K):=by
 refine F.ok sc_low (fun vs H Q E h=> ?_) (fun cdv A outer s H vs Q E hr h=> ?_)
 ·obtain⟨m,n,rfl,_⟩:=h
  rfl
 obtain⟨a,b,rfl,hb,hB,q⟩:=h
 refine⟨_,zae (zal (i:=2) sc_low.nd rfl (Or.inl rfl) (pc G1 hr D1 (zaa (zam call_abs rfl mA (by decide+kernel) (zaa (pv 0) zac)) (zaa (pv 1) zac)))) (zaf (zak (zaw (zaa (zan op_fdivW (pv 0) (pv 2)) (zaa (zan op_fdivW (pv 1) (pv 2)) zac))))),?_⟩
 refine⟨_,rfl,a,rfl,_,rfl,a.natAbs,b,?_,?_⟩
 ·rw[abs_eq];rfl
 have hg:0<Nat.gcd a.natAbs b:=Nat.gcd_pos_of_pos_right _ hb
 have hg2:(((Nat.gcd a.natAbs b:Nat):Int)).natAbs<=10^200:=yat (gcd_le a b hb) hB
 refine⟨_,rfl,_,rfl,_,_,rfl,rfl,⟨ydp.mpr hg,hg2⟩,_,rfl,_,rfl,_,_,rfl,rfl,⟨ydp.mpr hg,hg2⟩,(by show 2<=sizeLine;decide),fun p hp=> ?_⟩
 exact q p _ _ _ (zad hp _) (low_div hp) (low_mk a b hb)
noncomputable def rowL(n:Nat)(X:Nat->Int):List V:=((List.range (n+1)).map X).map V.int
noncomputable def nameL(n:Nat)(c:Nat->Nat):List Int:=(List.range n).map fun k=>((c k:Nat):Int)
noncomputable def flds(cl co ro:Addr)(o:Int):List (Str×V):=[("cells",.ref cl),("over",.int o),("columns",.ref co),("rows",.ref ro)]
structure TabA(K:W.Frag)(C:Addr)(H0 H:Hp)(o dx cl co ro:Addr)(rws:List Addr)(n m:Nat)(T:Sx.Tab):Prop where
 same:Same H0 H
 o0:H0 o=none
 cl0:H0 cl=none
 co0:H0 co=none
 ro0:H0 ro=none
 ne:co≠ro
 nc:co∉rws
 nr:ro∉rws
 at_:H o=some (.ins C dx (flds cl co ro T.over))
 cells:H cl=some (.lst (rws.map V.ref))
 len:rws.length=m+1
 row:∀r a,rws[r]? =some a->H a=some (.lst (rowL n (T.cell r)))
 cols:H co=some (.lst ((nameL n T.col).map V.int))
 rows:H ro=some (.lst ((nameL m T.row).map V.int))
noncomputable def TabV(K:W.Frag)(C:Addr)(H0 H:Hp)(o:Addr)(n m:Nat)(T:Sx.Tab):Prop:=∃dx cl co ro rws,TabA K C H0 H o dx cl co ro rws n m T
theorem TabA.sm{C:Addr}{H0 H H':Hp}{o dx cl co ro:Addr}{rws:List Addr}{n m:Nat}{T:Sx.Tab}(h:TabA K C H0 H o dx cl co ro rws n m T)(s:Same H H'):TabA K C H0 H' o dx cl co ro rws n m T:=
 ⟨h.same.trans s,h.o0,h.cl0,h.co0,h.ro0,h.ne,h.nc,h.nr,s _ _ h.at_,s _ _ h.cells,h.len,fun r a e=>s _ _ (h.row r a e),s _ _ h.cols,s _ _ h.rows⟩
theorem TabV.sm{C:Addr}{H0 H H':Hp}{o:Addr}{n m:Nat}{T:Sx.Tab}(h:TabV K C H0 H o n m T)(s:Same H H'):TabV K C H0 H' o n m T:=by
 obtain⟨dx,cl,co,ro,rws,h⟩:=h
 exact⟨dx,cl,co,ro,rws,h.sm s⟩
structure TG(n m:Nat)(S:Nat->Nat->Bool)(wt:Nat->Int)(T:Sx.Tab):Prop where
 good:Sx.Good n m S wt T
 n10:n<=10
 m40:m<=40
 wb:∀p,p<n->0<=wt p/\wt p<=99
 cov:∀p,p<n->∃k,k<m/\S k p=true
theorem TG.cell{n m:Nat}{S:Nat->Nat->Bool}{wt:Nat->Int}{T:Sx.Tab}(h:TG n m S wt T){r c:Nat}(hr:r<=m)(hc:c<=n): -4000000000<=T.cell r c/\T.cell r c<=4000000000:=by
 have a:=h.good.cell_abs h.wb hr hc
 have b:=Sx.fct_le (k:=n+1) (by have:=h.n10;omega)
 omega
theorem TG.over{n m:Nat}{S:Nat->Nat->Bool}{wt:Nat->Int}{T:Sx.Tab}(h:TG n m S wt T):0<T.over/\T.over<=39916800:=by
 have a:=h.good.over_le
 have b:=Sx.fct_le (k:=n+1) (by have:=h.n10;omega)
 exact⟨h.good.pos,by omega⟩
theorem zbx(n:Nat)(X:Nat->Int):(rowL n X).length=n+1:=by unfold rowL;rw[yaa,yaa,ybo]
theorem rowL_at{n c:Nat}(X:Nat->Int)(h:c<=n):(rowL n X)[c]? =some (.int (X c)):=by
 unfold rowL;rw[yaf,yaf,ydt (by omega)];rfl
theorem rowL_ix{n c:Nat}(X:Nat->Int)(h:c<=n):atI (rowL n X) (c:Int)=some (.int (X c)):=atI_nat (rowL_at X h)
theorem atI_last{xs:List V}{v:V}(h:xs[xs.length-1]? =some v)(h0:0<xs.length):atI xs (-1)=some v:=by
 have e:ixN xs.length (-1)=some (xs.length-1):=by
  unfold ixN
  rw[if_neg (by decide),if_pos (by omega)]
  congr 1
  omega
 unfold atI
 rw[e]
 exact h
theorem rowL_last(n:Nat)(X:Nat->Int):atI (rowL n X) (-1)=some (.int (X n)):=atI_last (by rw[zbx];exact rowL_at X (yac n)) (by rw[zbx];omega)
theorem zbh(n:Nat)(c:Nat->Nat):(nameL n c).length=n:=by unfold nameL;rw[yaa,ybo]
theorem zbt{n k:Nat}(c:Nat->Nat)(h:k<n):(nameL n c)[k]? =some ((c k:Nat):Int):=by
 unfold nameL;rw[yaf,ydt h];rfl
theorem nameL_ix{n k:Nat}(c:Nat->Nat)(h:k<n):atI ((nameL n c).map V.int) (k:Int)=some (.int ((c k:Nat):Int)):=atI_nat (by rw[yaf,zbt c h];rfl)
theorem nameL_set{n k:Nat}(c:Nat->Nat)(v:Nat)(h:k<n):(nameL n c).set k (v:Int)=nameL n (fun i=>if i=k then v else c i):=by
 refine List.ext_getElem? fun i=> ?_
 rw[List.getElem?_set]
 by_cases hi:i<n
 ·rw[zbt _ hi,zbt _ hi,zbh]
  by_cases e:k=i
  ·rw[if_pos e,if_pos h,if_pos e.symm]
  ·rw[if_neg e,if_neg (Ne.symm e)]
 ·rw[ycb (by rw[zbh];omega),ycb (by rw[zbh];omega),if_neg (by omega)]
theorem TabA.rowR{C:Addr}{H0 H:Hp}{o dx cl co ro:Addr}{rws:List Addr}{n m:Nat}{T:Sx.Tab}(h:TabA K C H0 H o dx cl co ro rws n m T){r:Nat}(hr:r<=m):∃a,rws[r]? =some a/\atI (rws.map V.ref) (r:Int)=some (.ref a)/\H a=some (.lst (rowL n (T.cell r))):=by
 have hl:=h.len
 have e:rws[r]? =some rws[r]:=yag (by omega)
 exact⟨rws[r],e,atI_nat (by rw[yaf,e];rfl),h.row r _ e⟩
theorem TabA.rowZ{C:Addr}{H0 H:Hp}{o dx cl co ro:Addr}{rws:List Addr}{n m:Nat}{T:Sx.Tab}(h:TabA K C H0 H o dx cl co ro rws n m T):∃a,rws[m]? =some a/\atI (rws.map V.ref) (-1)=some (.ref a)/\H a=some (.lst (rowL n (T.cell m))):=by
 obtain⟨a,e,_,f⟩:=h.rowR (yac m)
 exact⟨a,e,atI_last (by rw[yaa,h.len,yaf,Nat.add_sub_cancel,e];rfl) (by rw[yaa,h.len];omega),f⟩
noncomputable def spTNc(K:W.Frag)(C:Addr):Sp:=fun vs H Q _=>∃(o:Addr) (H0:Hp) (n m:Nat) (S:Nat->Nat->Bool) (wt:Nat->Int) (T:Sx.Tab),vs=[.ref o]/\TabV K C H0 H o n m T/\TG n m S wt T/\
 ((∀c,c<n->0<=T.cell m c)->∀H',Same H H'->Q .non H')/\∀(q:Nat) H',q<n->T.cell m q<0->(∀c,c<n->T.cell m c<0->T.col q<=T.col c)->Same H H'->Q (.int (q:Int)) H'
theorem sc_tNc:FnScope ["self","worth","names"] ["self"] (defScope zbc):=fsc
theorem ok_tNc{f C:Addr}{fd:FuncData}(F:Fun K "next_column" "Tableau.next_column" zbc f fd)
  (Cc:Cls K C)(n_cells:NoAttr K C "cells")(n_over:NoAttr K C "over")(n_columns:NoAttr K C "columns")(n_rows:NoAttr K C "rows")(m_enumerate:mg "enumerate"=none)(m_min:mg "min"=none):
  FnOk P w K mg base CX0 1 f fd ["self"] (spTNc K C):=by
 refine F.ok sc_tNc (fun vs H Q E h=> ?_) (fun cdv A outer s H vs Q E hr h=> ?_)
 ·obtain⟨o,H0,n,m,S,wt,T,rfl,_⟩:=h
  rfl
 obtain⟨o,H0,n,m,S,wt,T,rfl,⟨dx,cl,co,ro,rws,hT⟩,hG,q1,q2⟩:=h
 refine⟨_,(zae (zal (i:=1) sc_tNc.nd rfl (Or.inr rfl) (zao zau (zbg (pv 0) rfl) (pe_un un_neg zag) (fun _ _=>rfl))) (zae (zcq (i:=2) (own:=["k","name"]) (caps:=["worth"]) (ix:=[1]) sc_tNc.nd rfl (Or.inl rfl) rfl (pi_enum rfl m_enumerate (zaa (zbg (pv 0) rfl) zac)) rfl rfl (.cons rfl rfl .nil) (fun _ _ _ _ _=>(pg_tupK K (n:=2) rfl (zbb (zai (i:=0) (show(["k","name","worth"]:List Str).Nodup from by decide+kernel) rfl (Or.inl rfl)) (zbb (zai (i:=1) (show(["k","name","worth"]:List Str).Nodup from by decide+kernel) rfl (Or.inl rfl)) pgs_nil)))) (fun _ _ _ _ _=>zdk (zap op_lt (zao (ix_listK K) (pv 2) (pv 0) (fun _ _=>rfl)) zag (nomark _))) (fun _ _ _ _ _=>(pv 1))) (zaf (zak (pe_ifExp (pt_truth (pv 2) (fun _=>rfl)) (pe_bm PySem.F.plainAttrs_list PySem.F.slot_list_index PySem.F.type_list_index mt_indexI (zbg (pv 0) rfl) (zaa (zam (call_minL rfl) rfl m_min (by decide+kernel) (zaa (pv 2) zac)) zac)) pe_non))))),?_⟩
 obtain⟨za,ze,zi,zr⟩:=hT.rowZ
 refine⟨_,rfl,o,C,dx,_,_,rfl,hT.at_,Cc,n_cells,rfl,_,rfl,cl,_,_,_,rfl,rfl,SqL.of hT.cells,zi,?_⟩
 refine⟨_,rfl,o,C,dx,_,_,rfl,hT.at_,Cc,n_columns,rfl,false,co,_,rfl,SqL.of hT.cols,fun hz=> ?_⟩
 refine comp_enum (K:=K) (b:=false) (a:=co) (xs:=(nameL n T.col).map V.int) (fun i acc σ H'=>acc=(((List.range i).filter fun c=>decide (T.cell m c<0)).map fun c=>((T.col c:Nat):Int)).map V.int/\Same H H'/\∃o1 o2,σ=[o1,o2,some (.ref za)]) ⟨rfl,Same.refl _,_,_,rfl⟩ (fun i acc σ H' _ p=>p.2.1.seq (SqL.of hT.cols)) (fun i acc σ H' _ p=> ?_) hz (fun i v t acc σ H' hv p ht=> ?_) (fun acc σ H' p=> ?_)
 ·rw[p.1,yaa,yaa]
  exact yat (ybe _ _) (by rw[ybo];exact yac _)
 ·obtain⟨rfl,sm,o1,o2,rfl⟩:=p
  have hi:i<n:=by
   have:=(yaq.mp hv).1
   rw[yaa,zbh]at this
   exact this
  rw[yaf,zbt _ hi]at hv
  cases hv
  have s1:=zad ht (.tup [.int (i:Int),.int ((T.col i:Nat):Int)])
  refine⟨t,_,rfl,SqT.of zab,rfl,_,_,rfl,_,_,rfl,rfl,?_⟩
  refine⟨_,rfl,_,rfl,za,_,_,_,rfl,rfl,SqL.of ((sm.trans s1) _ _ zr),rowL_ix _ (yas hi),_,_,rfl,rfl,_,rfl,?_⟩
  have go:((List.range (i+1)).filter fun c=>decide (T.cell m c<0))=((List.range i).filter fun c=>decide (T.cell m c<0))++(if decide (T.cell m i<0)=true then[i]else[]):=by
   rw[ybx,ycx]
   congr 1
   rw[ycs]
   split<;>rfl
  refine ite2 (fun c=> ?_) (fun c=> ?_)
  ·exact⟨_,rfl,by rw[go,if_pos c,yad,yad];rfl,sm.trans s1,_,_,rfl⟩
  ·exact⟨by rw[go,if_neg c,ybr],sm.trans s1,_,_,rfl⟩
 ·intro p1 hp1
  obtain⟨rfl,sm,_⟩:=p
  rw[yaa,zbh]
  have s1:=zad hp1 (.lst ((((List.range n).filter fun c=>decide (T.cell m c<0)).map fun c=>((T.col c:Nat):Int)).map V.int))
  have e1:(upd H' p1 (.lst ((((List.range n).filter fun c=>decide (T.cell m c<0)).map fun c=>((T.col c:Nat):Int)).map V.int))) p1=some (.lst ((((List.range n).filter fun c=>decide (T.cell m c<0)).map fun c=>((T.col c:Nat):Int)).map V.int)):=zab
  have s2:=sm.trans s1
  generalize (upd H' p1 (.lst ((((List.range n).filter fun c=>decide (T.cell m c<0)).map fun c=>((T.col c:Nat):Int)).map V.int)))=H1 at *
  have hT1:=hT.sm s2
  refine⟨_,rfl,_,.inl ⟨_,SqL.of e1,rfl⟩,?_⟩
  cases hl:(List.range n).filter fun c=>decide (T.cell m c<0)with
  |nil=>
   refine iteF ?_
   refine q1 (fun c hc=>Int.not_lt.mp fun hn=> ?_) _ s2
   have:c∈(List.range n).filter fun c=>decide (T.cell m c<0):=yar.mpr ⟨ybl.mpr hc,decide_eq_true hn⟩
   rw[hl]at this
   cases this
  |cons c0 rest=>
   rw[hl]at e1
   refine iteT ?_
   refine⟨_,rfl,o,C,dx,_,_,rfl,hT1.at_,Cc,n_columns,rfl,.inl ⟨rfl,_,SqL.of hT1.cols⟩,_,rfl,p1,_,rfl,SqL.of e1,(fun e=>nomatch e),fun mn hmn hle=> ?_⟩
   rw[<-hl]at hmn hle
   obtain⟨c,hc,rfl⟩:=ybc.mp hmn
   obtain⟨hc1,hc2⟩:=yar.mp hc
   have hcn:=ybl.mp hc1
   refine⟨co,nameL n T.col,_,c,rfl,rfl,hT1.cols,zbt _ hcn,fun i hi e=> ?_,by rw[zbh];have:=hG.n10;omega,?_⟩
   ·rw[zbt _ (by omega)]at e
    have:T.col i=T.col c:=Int.ofNat.inj (Option.some.inj e)
    have:=hG.good.cinj i c (by omega) hcn this
    omega
   ·refine q2 c _ hcn (of_decide_eq_true hc2) (fun c' hc' hn=> ?_) s2
    have:=hle _ (ybc.mpr ⟨c',yar.mpr ⟨ybl.mpr hc',decide_eq_true hn⟩,rfl⟩)
    omega
noncomputable def tiB(n q:Nat)(T:Sx.Tab)(r t:Nat):Bool:=decide (T.cell r n*T.cell t q<T.cell t n*T.cell r q)||(decide (T.cell r n*T.cell t q=T.cell t n*T.cell r q)&&decide (T.row r<T.row t))
noncomputable def spTTi(K:W.Frag)(C:Addr):Sp:=fun vs H Q _=>∃(o:Addr) (H0:Hp) (n m q r t:Nat) (S:Nat->Nat->Bool) (wt:Nat->Int) (T:Sx.Tab),vs=[.ref o,.int (q:Int),.int (r:Int),.int (t:Int)]/\TabV K C H0 H o n m T/\TG n m S wt T/\q<n/\r<m/\t<m/\Q (.bl (tiB n q T r t)) H
theorem sc_tTi:FnScope ["self","column","row","other","one","two"] ["self","column","row","other"] (defScope zbe):=fsc
theorem ok_tTi{f C:Addr}{fd:FuncData}(F:Fun K "is_tighter" "Tableau.is_tighter" zbe f fd)
  (Cc:Cls K C)(n_cells:NoAttr K C "cells")(n_over:NoAttr K C "over")(n_columns:NoAttr K C "columns")(n_rows:NoAttr K C "rows"):
  FnOk P w K mg base CX0 1 f fd ["self","column","row","other"] (spTTi K C):=by
 refine F.ok sc_tTi (fun vs H Q E h=> ?_) (fun cdv A outer s H vs Q E hr h=> ?_)
 ·obtain⟨o,H0,n,m,q,r,t,S,wt,T,rfl,_⟩:=h
  rfl
 obtain⟨o,H0,n,m,q,r,t,S,wt,T,rfl,⟨dx,cl,co,ro,rws,hT⟩,hG,hq,hr0,ht,qq⟩:=h
 refine⟨_,(zae (zal (i:=4) sc_tTi.nd rfl (Or.inl rfl) (zan zcn (zao zau (zao zau (zbg (pv 0) rfl) (pv 2) (fun _ _=>rfl)) (pe_un un_neg zag) (fun _ _=>rfl)) (zao zau (zao zau (zbg (pv 0) rfl) (pv 3) (fun _ _=>rfl)) (pv 1) (fun _ _=>rfl)))) (zae (zal (i:=5) sc_tTi.nd rfl (Or.inl rfl) (zan zcn (zao zau (zao zau (zbg (pv 0) rfl) (pv 3) (fun _ _=>rfl)) (pe_un un_neg zag) (fun _ _=>rfl)) (zao zau (zao zau (zbg (pv 0) rfl) (pv 2) (fun _ _=>rfl)) (pv 1) (fun _ _=>rfl)))) (zaf (zak (pe_or (pe_cmpR op_lt (pv 4) (pv 5) (nomark _)) (pe_one (pe_and (pe_cmpR op_eq (pv 4) (pv 5) (nomark _)) (pe_one (pe_cmpR op_lt (zao zau (zbg (pv 0) rfl) (pv 2) (fun _ _=>rfl)) (zao zau (zbg (pv 0) rfl) (pv 3) (fun _ _=>rfl)) (nomark _)))))))))),?_⟩
 obtain⟨ra,re,ri,rr⟩:=hT.rowR (yas hr0)
 obtain⟨ta,te,ti,tr⟩:=hT.rowR (yas ht)
 have b1:=hG.cell (yas hr0) (yac n)
 have b2:=hG.cell (yas ht) (yac n)
 refine⟨_,rfl,o,C,dx,_,_,rfl,hT.at_,Cc,n_cells,rfl,_,rfl,cl,_,_,_,rfl,rfl,SqL.of hT.cells,ri,_,rfl,ra,_,_,_,rfl,rfl,SqL.of rr,rowL_last _ _,?_⟩
 refine⟨_,rfl,o,C,dx,_,_,rfl,hT.at_,Cc,n_cells,rfl,_,rfl,cl,_,_,_,rfl,rfl,SqL.of hT.cells,ti,_,rfl,ta,_,_,_,rfl,rfl,SqL.of tr,rowL_ix _ (yas hq),_,_,rfl,rfl,.inl ⟨by omega,by omega⟩,?_⟩
 refine⟨_,rfl,o,C,dx,_,_,rfl,hT.at_,Cc,n_cells,rfl,_,rfl,cl,_,_,_,rfl,rfl,SqL.of hT.cells,ti,_,rfl,ta,_,_,_,rfl,rfl,SqL.of tr,rowL_last _ _,?_⟩
 refine⟨_,rfl,o,C,dx,_,_,rfl,hT.at_,Cc,n_cells,rfl,_,rfl,cl,_,_,_,rfl,rfl,SqL.of hT.cells,ri,_,rfl,ra,_,_,_,rfl,rfl,SqL.of rr,rowL_ix _ (yas hq),_,_,rfl,rfl,.inl ⟨by omega,by omega⟩,?_⟩
 refine⟨_,rfl,_,rfl,_,_,rfl,rfl,_,rfl,?_⟩
 unfold tiB at qq
 refine ite2 (fun c=> ?_) (fun c=> ?_)
 ·rw[c,Bool.true_or]at qq;exact qq
 ·rw[eq_false_of_ne_true c,Bool.false_or]at qq
  refine⟨_,rfl,_,rfl,rfl,_,rfl,?_⟩
  refine ite2 (fun c2=> ?_) (fun c2=> ?_)
  ·have c2':decide (T.cell r n*T.cell t q=T.cell t n*T.cell r q)=true:=decide_eq_true (V.int.inj (of_decide_eq_true c2))
   rw[c2',Bool.true_and]at qq
   refine⟨_,rfl,o,C,dx,_,_,rfl,hT.at_,Cc,n_rows,rfl,_,rfl,ro,_,_,_,rfl,rfl,SqL.of hT.rows,nameL_ix _ hr0,?_⟩
   refine⟨_,rfl,o,C,dx,_,_,rfl,hT.at_,Cc,n_rows,rfl,_,rfl,ro,_,_,_,rfl,rfl,SqL.of hT.rows,nameL_ix _ ht,_,_,rfl,rfl,?_⟩
   rw[<-show decide (((T.row r:Nat):Int)<((T.row t:Nat):Int))=decide (T.row r<T.row t)from decide_eq_decide.mpr ydp]at qq
   exact qq
  ·have c2':decide (T.cell r n*T.cell t q=T.cell t n*T.cell r q)=false:=decide_eq_false fun e=>c2 (decide_eq_true (congrArg V.int e))
   rw[c2',Bool.false_and]at qq
   exact qq
noncomputable def Lev(n q:Nat)(T:Sx.Tab)(p r:Nat):Prop:=T.cell p n*T.cell r q<T.cell r n*T.cell p q\/(T.cell p n*T.cell r q=T.cell r n*T.cell p q/\T.row p<=T.row r)
theorem lev_trans{n q:Nat}{T:Sx.Tab}{a b c:Nat}(ha:0<T.cell a q)(hb:0<T.cell b q)(hc:0<T.cell c q)(h1:Lev n q T a b)(h2:Lev n q T b c):Lev n q T a c:=by
 have cm:∀x y:Nat,T.cell x n*T.cell y q=T.cell y q*T.cell x n:=fun x y=>ycp _ _
 have cn:∀x y:Nat,T.cell y n*T.cell x q=T.cell x q*T.cell y n:=fun x y=>ycp _ _
 unfold Lev at *
 rw[cm a b,cn a b]at h1
 rw[cm b c,cn b c]at h2
 rw[cm a c,cn a c]
 rcases h1 with h1|⟨h1,l1⟩
 ·rcases h2 with h2|⟨h2,_⟩
  ·exact .inl (Sx.frac_lt hb ha hc (ydh h1) h2)
  ·exact .inl (Sx.frac_lt' hb ha hc h1 (yei h2))
 ·rcases h2 with h2|⟨h2,l2⟩
  ·exact .inl (Sx.frac_lt hb ha hc (yei h1) h2)
  ·exact .inr ⟨Int.le_antisymm (Sx.frac_le hb ha hc (yei h1) (yei h2)) (Sx.frac_le hb hc ha (by rw[<-h2];exact ybt _) (by rw[<-h1];exact ybt _)),yat l1 l2⟩
theorem ti_yes{n q:Nat}{T:Sx.Tab}{r t:Nat}(h:tiB n q T r t=true):Lev n q T r t:=by
 unfold tiB at h
 rw[Bool.or_eq_true,Bool.and_eq_true]at h
 rcases h with h|⟨h1,h2⟩
 ·exact .inl (of_decide_eq_true h)
 ·exact .inr ⟨of_decide_eq_true h1,yas (of_decide_eq_true h2)⟩
theorem ti_no{n q:Nat}{T:Sx.Tab}{r t:Nat}(h:tiB n q T r t=false):Lev n q T t r:=by
 unfold tiB at h
 rw[Bool.or_eq_false_iff,Bool.and_eq_false_iff]at h
 have h1:=of_decide_eq_false h.1
 by_cases c:T.cell r n*T.cell t q=T.cell t n*T.cell r q
 ·refine .inr ⟨c.symm,?_⟩
  rcases h.2 with z|z
  ·exact absurd c (of_decide_eq_false z)
  ·exact Nat.not_lt.mp (of_decide_eq_false z)
 ·exact .inl (by omega)
noncomputable def spTNr(K:W.Frag)(C:Addr):Sp:=fun vs H Q _=>∃(o:Addr) (H0:Hp) (n m q:Nat) (S:Nat->Nat->Bool) (wt:Nat->Int) (T:Sx.Tab),vs=[.ref o,.int (q:Int)]/\TabV K C H0 H o n m T/\TG n m S wt T/\q<n/\
 ∀p:Nat,p<m->0<T.cell p q->(∀r,r<m->0<T.cell r q->Lev n q T p r)->Q (.int (p:Int)) H
theorem sc_tNr:FnScope ["self","column","tightest","row"] ["self","column"] (defScope zbs):=fsc
theorem ok_tNr{f f1 C:Addr}{fd d1:FuncData}(F:Fun K "next_row" "Tableau.next_row" zbs f fd)
  (Cc:Cls K C)(n_cells:NoAttr K C "cells")(n_over:NoAttr K C "over")(n_columns:NoAttr K C "columns")(n_rows:NoAttr K C "rows")(D1:Mdf K C "is_tighter" "Tableau.is_tighter" zbe ["self","column","row","other"] f1 d1)(G1:FnOk P w K mg base CX0 1 f1 d1 ["self","column","row","other"] (spTTi K C))(m_range:mg "range"=none)(m_len:mg "len"=none):
  FnOk P w K mg base CX0 2 f fd ["self","column"] (spTNr K C):=by
 refine F.ok sc_tNr (fun vs H Q E h=> ?_) (fun cdv A outer s H vs Q E hr h=> ?_)
 ·obtain⟨o,H0,n,m,q,S,wt,T,rfl,_⟩:=h
  rfl
 obtain⟨o,H0,n,m,q,S,wt,T,rfl,⟨dx,cl,co,ro,rws,hT⟩,hG,hq,qq⟩:=h
 refine⟨_,(zae (zal (i:=2) sc_tNr.nd rfl (Or.inl rfl) pe_non) (zae (ps_for PassesOwn.never rfl (zay rfl m_range (zaa (zam zba rfl m_len PySem.boot_len (zaa (zbg (pv 0) rfl) zac)) zac)) (zai (i:=3) sc_tNr.nd rfl (Or.inl rfl)) (zaf (zcr (PW.pt (pw_and (zap op_gt (zao zau (zao zau (zbg (pv 0) rfl) (pv 3) (fun _ _=>rfl)) (pv 1) (fun _ _=>rfl)) zag (nomark _)) (pw_and1 (PW.pt (pw_or (zap op_isN (pv 2) pe_non (nomark _)) (pw_or1 (zdl (pe_meth (pv 0) Cc D1.m G1 hr D1.b .nil pass0 (zaa (pv 1) (zaa (pv 3) (zaa (pv 2) zac))))))))))) (zaf (zal (i:=2) sc_tNr.nd rfl (Or.inl rfl) (pv 3))) zas))) (zaf (zak (pv 2))))),?_⟩
 refine⟨_,rfl,o,C,dx,_,_,rfl,hT.at_,Cc,n_rows,rfl,ro,_,rfl,.inl (SqL.of hT.rows),fun _=> ?_⟩
 rw[yaa,zbh]
 refine⟨_,rfl,by have:=hG.m40;omega,by have:=hG.m40;omega,?_⟩
 refine zbz (n:=m) (fun i σ H'=>H'=H/\∃(x:V) (o3:Option V),σ=[some (.ref o),some (.int (q:Int)),some x,o3]/\((x= .non/\∀r,r<i->T.cell r q<=0)\/∃p:Nat,p<i/\x= .int (p:Int)/\0<T.cell p q/\∀r,r<i->0<T.cell r q->Lev n q T p r)) ⟨rfl,_,_,rfl,.inl ⟨rfl,fun r hr=>absurd hr (ydn r)⟩⟩ (fun i σ H' hi p=> ?_) (fun σ H' p=> ?_)
 ·obtain⟨rfl,x,o3,rfl,hx⟩:=p
  rw[Int.zero_add]
  obtain⟨ra,re,ri,rr⟩:=hT.rowR (yas hi)
  refine⟨_,rfl,o,C,dx,_,_,rfl,hT.at_,Cc,n_cells,rfl,_,rfl,cl,_,_,_,rfl,rfl,SqL.of hT.cells,ri,_,rfl,ra,_,_,_,rfl,rfl,SqL.of rr,rowL_ix _ (yas hq),_,_,rfl,rfl,_,rfl,?_⟩
  refine ite2 (fun c=> ?_) (fun c=> ?_)
  ·have c':0<T.cell i q:=of_decide_eq_true c
   rcases hx with⟨rfl,hx⟩|⟨p,hp,rfl,hp0,hlev⟩
   ·refine⟨_,rfl,rfl,_,rfl,?_⟩
    refine iteT ?_
    refine iteT ?_
    refine⟨_,rfl,rfl,_,_,rfl,.inr ⟨i,yba i,rfl,c',fun r hr h0=> ?_⟩⟩
    by_cases e:r=i
    ·subst e;exact .inr ⟨rfl,yac _⟩
    ·have:=hx r (by omega);omega
   ·refine⟨_,rfl,rfl,_,rfl,?_⟩
    refine iteF ?_
    refine⟨_,rfl,o,dx,_,rfl,hT.at_,rfl,_,rfl,_,rfl,_,rfl,o,H0,n,m,q,i,p,S,wt,T,rfl,⟨dx,cl,co,ro,rws,hT⟩,hG,hq,hi,by omega,_,rfl,?_⟩
    refine ite2 (fun z=> ?_) (fun z=> ?_)
    ·refine⟨_,rfl,rfl,_,_,rfl,.inr ⟨i,yba i,rfl,c',fun r hr h0=> ?_⟩⟩
     by_cases e:r=i
     ·subst e;exact .inr ⟨rfl,yac _⟩
     ·exact lev_trans c' hp0 h0 (ti_yes z) (hlev r (by omega) h0)
    ·refine⟨rfl,_,_,rfl,.inr ⟨p,by omega,rfl,hp0,fun r hr h0=> ?_⟩⟩
     by_cases e:r=i
     ·subst e;exact ti_no (eq_false_of_ne_true z)
     ·exact hlev r (by omega) h0
  ·refine iteF ?_
   have c':T.cell i q<=0:=Int.not_lt.mp fun h=>c (decide_eq_true h)
   refine⟨rfl,_,_,rfl,?_⟩
   rcases hx with⟨rfl,hx⟩|⟨p,hp,rfl,hp0,hlev⟩
   ·refine .inl ⟨rfl,fun r hr=> ?_⟩
    by_cases e:r=i
    ·subst e;exact c'
    ·exact hx r (by omega)
   ·refine .inr ⟨p,by omega,rfl,hp0,fun r hr h0=> ?_⟩
    by_cases e:r=i
    ·subst e;omega
    ·exact hlev r (by omega) h0
 ·obtain⟨rfl,x,o3,rfl,hx⟩:=p
  rcases hx with⟨rfl,hx⟩|⟨p,hp,rfl,hp0,hlev⟩
  ·obtain⟨r,hr0,h0⟩:=hG.good.bounded hG.cov hq
   have:=hx r hr0
   omega
  ·exact⟨_,rfl,qq p hp hp0 hlev⟩
noncomputable def tdF(ov:Int)(X Y:Nat->Int)(q c:Nat):Int:=if c=q then -X q else(X c*Y q-X q*Y c)/ov
theorem rowL_set{n q:Nat}(X:Nat->Int)(v:Int)(h:q<=n):(rowL n X).set q (.int v)=rowL n fun c=>if c=q then v else X c:=by
 refine List.ext_getElem? fun i=> ?_
 rw[List.getElem?_set]
 by_cases hi:i<=n
 ·rw[rowL_at _ hi,rowL_at _ hi,zbx]
  by_cases e:q=i
  ·rw[if_pos e,if_pos (by omega),if_pos e.symm]
  ·rw[if_neg e,if_neg (Ne.symm e)]
 ·rw[ycb (by rw[zbx];omega),ycb (by rw[zbx];omega),if_neg (by omega)]
theorem rowL_congr{n:Nat}{X Y:Nat->Int}(h:∀c,c<=n->X c=Y c):rowL n X=rowL n Y:=by
 unfold rowL
 rw[yeh fun c hc=>h c (by have:=ybl.mp hc;omega)]
noncomputable def spTTd(K:W.Frag)(C:Addr):Sp:=fun vs H Q _=>∃(o xa ya:Addr) (H0:Hp) (n m q:Nat) (X Y:Nat->Int) (T:Sx.Tab),vs=[.ref o,.ref xa,.ref ya,.int (q:Int)]/\TabV K C H0 H o n m T/\n<=10/\(0<T.over/\T.over<=39916800)/\q<=n/\H xa=some (.lst (rowL n X))/\H ya=some (.lst (rowL n Y))/\
 (∀c,c<=n->(-4000000000<=X c/\X c<=4000000000)/\(-4000000000<=Y c/\Y c<=4000000000))/\∀r H',Same H H'->H r=none->H' r=some (.lst (rowL n (tdF T.over X Y q)))->Q (.ref r) H'
theorem sc_tTd:FnScope ["self","cells","pivots","column","by","fresh"] ["self","cells","pivots","column"] (defScope zcf):=fsc
theorem ok_tTd{f C:Addr}{fd:FuncData}(F:Fun K "turned" "Tableau.turned" zcf f fd)
  (Cc:Cls K C)(n_cells:NoAttr K C "cells")(n_over:NoAttr K C "over")(n_columns:NoAttr K C "columns")(n_rows:NoAttr K C "rows")(m_enumerate:mg "enumerate"=none):
  FnOk P w K mg base CX0 1 f fd ["self","cells","pivots","column"] (spTTd K C):=by
 refine F.ok sc_tTd (fun vs H Q E h=> ?_) (fun cdv A outer s H vs Q E hr h=> ?_)
 ·obtain⟨o,xa,ya,H0,n,m,q,X,Y,T,rfl,_⟩:=h
  rfl
 obtain⟨o,xa,ya,H0,n,m,q,X,Y,T,rfl,⟨dx,cl,co,ro,rws,hT⟩,hn,⟨ho0,ho1⟩,hq,hX,hY,hb,qq⟩:=h
 refine⟨_,(zae (zal (i:=4) sc_tTd.nd rfl (Or.inr rfl) (zao zau (pv 2) (pv 3) (fun _ _=>rfl))) (zae (zcq (i:=5) (own:=["k","cell"]) (caps:=["by","cells","column","pivots","self"]) (ix:=[4,1,3,2,0]) sc_tTd.nd rfl (Or.inl rfl) rfl (pi_enum rfl m_enumerate (zaa (pv 1) zac)) rfl rfl (.cons rfl rfl (.cons rfl rfl (.cons rfl rfl (.cons rfl rfl (.cons rfl rfl .nil))))) (fun _ _ _ _ _=>(pg_tupK K (n:=2) rfl (zbb (zai (i:=0) (show(["k","cell","by","cells","column","pivots","self"]:List Str).Nodup from by decide+kernel) rfl (Or.inl rfl)) (zbb (zai (i:=1) (show(["k","cell","by","cells","column","pivots","self"]:List Str).Nodup from by decide+kernel) rfl (Or.inl rfl)) pgs_nil)))) (fun _ _ _ _ _=>zbf) (fun _ _ _ _ _=>(zan op_fdivL (zan op_sub (zan zcn (pv 1) (pv 2)) (zan zcn (zao (ix_listK K) (pv 3) (pv 4) (fun _ _=>rfl)) (zao (ix_listK K) (pv 5) (pv 0) (fun _ _=>rfl)))) (pe_fldK K (pv 6) rfl)))) (zae (ps_asg (pe_un un_neg (zao zau (pv 1) (pv 3) (fun _ _=>rfl))) (pg_sub (pv 5) (pv 3) set_list)) (zaf (zak (pv 5)))))),?_⟩
 refine⟨_,rfl,_,rfl,ya,_,_,_,rfl,rfl,SqL.of hY,rowL_ix _ hq,?_⟩
 refine⟨_,rfl,false,xa,_,rfl,SqL.of hX,fun hz=> ?_⟩
 refine comp_enum (K:=K) (b:=false) (a:=xa) (xs:=rowL n X) (fun i acc σ H'=>acc=((List.range i).map fun c=>(X c*Y q-X q*Y c)/T.over).map V.int/\Same H H'/\∃o1 o2,σ=[o1,o2,some (.int (Y q)),some (.ref xa),some (.int (q:Int)),some (.ref ya),some (.ref o)]) ⟨rfl,Same.refl _,_,_,rfl⟩ (fun i acc σ H' _ p=>p.2.1.seq (SqL.of hX)) (fun i acc σ H' _ p=> ?_) hz (fun i v t acc σ H' hv p ht=> ?_) (fun acc σ H' p=> ?_)
 ·rw[p.1,yaa,yaa,ybo];exact yac _
 ·obtain⟨rfl,sm,o1,o2,rfl⟩:=p
  have hi:i<=n:=by
   have:=(yaq.mp hv).1
   rw[zbx]at this
   omega
  rw[rowL_at _ hi]at hv
  cases hv
  have s1:=zad ht (.tup [.int (i:Int),.int (X i)])
  have s2:=sm.trans s1
  have bi:=(hb i hi).1
  have bq:=(hb q hq).1
  refine⟨t,_,rfl,SqT.of zab,rfl,_,_,rfl,_,_,rfl,rfl,?_⟩
  refine⟨_,rfl,_,rfl,_,_,rfl,rfl,.inl ⟨by omega,by omega⟩,?_⟩
  refine⟨_,rfl,_,rfl,xa,_,_,_,rfl,rfl,SqL.of (s2 _ _ hX),rowL_ix _ hq,_,rfl,_,rfl,ya,_,_,_,rfl,rfl,SqL.of (s2 _ _ hY),rowL_ix _ hi,_,_,rfl,rfl,.inl ⟨by omega,by omega⟩,_,_,rfl,rfl,?_⟩
  refine⟨_,rfl,o,C,dx,_,_,rfl,s2 _ _ hT.at_,Cc,n_over,rfl,_,_,rfl,rfl,⟨ho0,by omega⟩,?_⟩
  exact⟨by rw[ybx,yad,yad];rfl,s2,_,_,rfl⟩
 ·intro p1 hp1
  obtain⟨rfl,sm,_⟩:=p
  rw[zbx]
  have s1:=zad hp1 (.lst (rowL n fun c=>(X c*Y q-X q*Y c)/T.over))
  have s2:=sm.trans s1
  have h0:H p1=none:=by
   cases e:H p1 with
   |none=>rfl
   |some u=>rw[sm _ _ e]at hp1;cases hp1
  refine⟨_,rfl,_,rfl,xa,_,_,_,rfl,rfl,SqL.of (s2 _ _ hX),rowL_ix _ hq,_,rfl,?_⟩
  refine⟨_,rfl,_,rfl,p1,_,_,q,rfl,rfl,zab,?_,?_⟩
  ·have e:ixN (rowL n fun c=>(X c*Y q-X q*Y c)/T.over).length (q:Int)=some q:=by
    rw[zbx];unfold ixN
    rw[if_pos (by omega),if_pos (by omega)];rfl
   exact e
  ·refine⟨_,rfl,qq p1 _ (fun b u hb=> ?_) h0 ?_⟩
   ·have nb:b≠p1:=fun e=>by rw[e,h0]at hb;cases hb
    rw[zaj nb]
    exact s2 _ _ hb
   ·rw[zab]
    have e:=rowL_set (fun c=>(X c*Y q-X q*Y c)/T.over) (-X q) hq
    exact congrArg (fun l=>some (HO.lst l)) e
theorem cutV_to{xs:List V}{k:Nat}(hk:k<=xs.length):cutV xs none (some (k:Int))=xs.take k:=by
 unfold cutV
 rw[HT.sIx_nat,HT.sIx_none,Nat.min_eq_left hk,List.drop_zero,Nat.sub_zero]
theorem cutV_from{xs:List V}{k:Nat}(hk:k<=xs.length):cutV xs (some (k:Int)) none=xs.drop k:=by
 unfold cutV
 rw[HT.sIx_nat,HT.sIx_none,Nat.min_eq_left hk,yde (by rw[ydv];omega)]
theorem _root_.L2.Same.updN{H0 H:Hp}{a:Addr}{u:HO}(s:Same H0 H)(h:H0 a=none):Same H0 (upd H a u):=fun b o hb=>by
 have nb:b≠a:=fun e=>by rw[e,h]at hb;cases hb
 rw[zaj nb];exact s _ _ hb
theorem _root_.L2.Same.none{H0 H:Hp}{a:Addr}(s:Same H0 H)(h:H a=none):H0 a=none:=by
 cases e:H0 a with
 |none=>rfl
 |some u=>rw[s _ _ e]at h;cases h
section
variable{C:Addr}{H0 H:Hp}{o dx cl co ro:Addr}{rws:List Addr}{n m:Nat}{T:Sx.Tab}
theorem TabA.ocl(h:TabA K C H0 H o dx cl co ro rws n m T):o≠cl:=ne_of h.at_ h.cells fun e=>nomatch e
theorem TabA.oco(h:TabA K C H0 H o dx cl co ro rws n m T):o≠co:=ne_of h.at_ h.cols fun e=>nomatch e
theorem TabA.oro(h:TabA K C H0 H o dx cl co ro rws n m T):o≠ro:=ne_of h.at_ h.rows fun e=>nomatch e
theorem refs_ints{rws:List Addr}{xs:List Int}(h:0<rws.length)(e:rws.map V.ref=xs.map V.int):False:=by
 cases rws with
 |nil=>exact absurd h (ybd 0)
 |cons a r=>
  cases xs with
  |nil=>cases e
  |cons x xs=>injection e with e1 _;cases e1
theorem TabA.clco(h:TabA K C H0 H o dx cl co ro rws n m T):cl≠co:=fun e=>by
 have z:=h.cols
 rw[<-e,h.cells]at z
 exact refs_ints (by rw[h.len];omega) (HO.lst.inj (Option.some.inj z))
theorem TabA.clro(h:TabA K C H0 H o dx cl co ro rws n m T):cl≠ro:=fun e=>by
 have z:=h.rows
 rw[<-e,h.cells]at z
 exact refs_ints (by rw[h.len];omega) (HO.lst.inj (Option.some.inj z))
theorem TabA.clrow(h:TabA K C H0 H o dx cl co ro rws n m T){r:Nat}{a:Addr}(e:rws[r]? =some a):a≠cl:=fun z=>by
 have y:=h.row r a e
 rw[z,h.cells]at y
 exact refs_ints (by rw[h.len];omega) (HO.lst.inj (Option.some.inj y))
theorem TabA.orow(h:TabA K C H0 H o dx cl co ro rws n m T){r:Nat}{a:Addr}(e:rws[r]? =some a):a≠o:=fun z=>by
 have y:=h.row r a e
 rw[z,h.at_]at y
 cases y
theorem TabA.setCells(h:TabA K C H0 H o dx cl co ro rws n m T){cl':Addr}{rws':List Addr}{X:Nat->Nat->Int}(h0:H0 cl'=none)(hc:H cl'=some (.lst (rws'.map V.ref)))(hl:rws'.length=m+1)(hr:∀r a,rws'[r]? =some a->H a=some (.lst (rowL n (X r))))(n1:co∉rws')(n2:ro∉rws'):
  TabA K C H0 (upd H o (.ins C dx (putF "cells" (.ref cl') (flds cl co ro T.over)))) o dx cl' co ro rws' n m {T with cell:=X}:=by
 have k:∀b,b≠o->∀u,H b=some u->(upd H o (.ins C dx (putF "cells" (.ref cl') (flds cl co ro T.over)))) b=some u:=fun b hb u e=>by rw[zaj hb];exact e
 refine⟨h.same.updN h.o0,h.o0,h0,h.co0,h.ro0,h.ne,n1,n2,zab,k _ (fun e=> ?_) _ hc,hl,fun r a e=>k _ (fun z=> ?_) _ (hr r a e),k _ h.oco.symm _ h.cols,k _ h.oro.symm _ h.rows⟩
 ·rw[e,h.at_]at hc;cases hc
 ·have y:=hr r a e
  rw[z,h.at_]at y
  cases y
theorem TabA.setRow(h:TabA K C H0 H o dx cl co ro rws n m T){p:Nat}{a:Addr}{X:Nat->Int}(hp:p<=m)(ha:H a=some (.lst (rowL n X)))(n1:co≠a)(n2:ro≠a):
  TabA K C H0 (upd H cl (.lst ((rws.map V.ref).set p (.ref a)))) o dx cl co ro (rws.set p a) n m {T with cell:=fun r c=>if r=p then X c else T.cell r c}:=by
 have k:∀b,b≠cl->∀u,H b=some u->(upd H cl (.lst ((rws.map V.ref).set p (.ref a)))) b=some u:=fun b hb u e=>by rw[zaj hb];exact e
 have hac:a≠cl:=fun z=>by
  rw[z,h.cells]at ha
  exact refs_ints (by rw[h.len];omega) (HO.lst.inj (Option.some.inj ha))
 refine⟨h.same.updN h.cl0,h.o0,h.cl0,h.co0,h.ro0,h.ne,fun z=> ?_,fun z=> ?_,k _ h.ocl _ h.at_,by rw[zab,List.map_set],by rw[List.length_set];exact h.len,fun r b e=> ?_,k _ h.clco.symm _ h.cols,k _ h.clro.symm _ h.rows⟩
 ·rcases List.mem_or_eq_of_mem_set z with z|z
  ·exact h.nc z
  ·exact n1 z
 ·rcases List.mem_or_eq_of_mem_set z with z|z
  ·exact h.nr z
  ·exact n2 z
 ·rw[List.getElem?_set]at e
  by_cases c:p=r
  ·rw[if_pos c,if_pos (by rw[h.len];omega)]at e
   cases e
   rw[k _ hac _ ha]
   exact congrArg (fun l=>some (HO.lst l)) (rowL_congr fun c' _=>by show X c'=if r=p then X c' else T.cell r c';rw[if_pos c.symm])
  ·rw[if_neg c]at e
   rw[k _ (h.clrow e) _ (h.row r b e)]
   exact congrArg (fun l=>some (HO.lst l)) (rowL_congr fun c' _=>by show T.cell r c'=if r=p then X c' else T.cell r c';rw[if_neg (Ne.symm c)])
theorem TabA.setOver(h:TabA K C H0 H o dx cl co ro rws n m T)(v:Int):TabA K C H0 (upd H o (.ins C dx (putF "over" (.int v) (flds cl co ro T.over)))) o dx cl co ro rws n m {T with over:=v}:=by
 have k:∀b,b≠o->∀u,H b=some u->(upd H o (.ins C dx (putF "over" (.int v) (flds cl co ro T.over)))) b=some u:=fun b hb u e=>by rw[zaj hb];exact e
 exact⟨h.same.updN h.o0,h.o0,h.cl0,h.co0,h.ro0,h.ne,h.nc,h.nr,zab,k _ h.ocl.symm _ h.cells,h.len,fun r a e=>k _ (h.orow e) _ (h.row r a e),k _ h.oco.symm _ h.cols,k _ h.oro.symm _ h.rows⟩
theorem TabA.setRows(h:TabA K C H0 H o dx cl co ro rws n m T){p:Nat}(v:Nat)(hp:p<m):TabA K C H0 (upd H ro (.lst (((nameL m T.row).map V.int).set p (.int (v:Int))))) o dx cl co ro rws n m {T with row:=fun r=>if r=p then v else T.row r}:=by
 have k:∀b,b≠ro->∀u,H b=some u->(upd H ro (.lst (((nameL m T.row).map V.int).set p (.int (v:Int))))) b=some u:=fun b hb u e=>by rw[zaj hb];exact e
 refine⟨h.same.updN h.ro0,h.o0,h.cl0,h.co0,h.ro0,h.ne,h.nc,h.nr,k _ h.oro _ h.at_,k _ h.clro _ h.cells,h.len,fun r a e=>k _ (fun z=>h.nr (z▸yav e)) _ (h.row r a e),k _ h.ne _ h.cols,?_⟩
 rw[zab,<-List.map_set,nameL_set _ _ hp]
theorem TabA.setCols(h:TabA K C H0 H o dx cl co ro rws n m T){q:Nat}(v:Nat)(hq:q<n):TabA K C H0 (upd H co (.lst (((nameL n T.col).map V.int).set q (.int (v:Int))))) o dx cl co ro rws n m {T with col:=fun c=>if c=q then v else T.col c}:=by
 have k:∀b,b≠co->∀u,H b=some u->(upd H co (.lst (((nameL n T.col).map V.int).set q (.int (v:Int))))) b=some u:=fun b hb u e=>by rw[zaj hb];exact e
 refine⟨h.same.updN h.co0,h.o0,h.cl0,h.co0,h.ro0,h.ne,h.nc,h.nr,k _ h.oco _ h.at_,k _ h.clco _ h.cells,h.len,fun r a e=>k _ (fun z=>h.nc (z▸yav e)) _ (h.row r a e),?_,k _ h.ne.symm _ h.rows⟩
 rw[zab,<-List.map_set,nameL_set _ _ hq]
end
theorem rowL_cut{n q:Nat}(X:Nat->Int)(v:Int)(h:q<=n):((rowL n X).take q++[.int v])++(rowL n X).drop (q+1)=rowL n fun c=>if c=q then v else X c:=by
 rw[<-rowL_set X v h,List.set_eq_take_append_cons_drop,if_pos (by rw[zbx];omega),List.append_assoc]
 rfl
noncomputable def spTTu(K:W.Frag)(C:Addr):Sp:=fun vs H Q _=>∃(o:Addr) (H0:Hp) (n m p q:Nat) (S:Nat->Nat->Bool) (wt:Nat->Int) (T:Sx.Tab),vs=[.ref o,.int (p:Int),.int (q:Int)]/\TabV K C H0 H o n m T/\TG n m S wt T/\p<m/\q<n/\∀H',TabV K C H0 H' o n m (Sx.turn T p q)->Q .non H'
theorem sc_tTu:FnScope ["self","row","column","pivots","by","name"] ["self","row","column"] (defScope zcu):=fsc
theorem ok_tTu{f f1 C:Addr}{fd d1:FuncData}(F:Fun K "turn" "Tableau.turn" zcu f fd)
  (Cc:Cls K C)(n_cells:NoAttr K C "cells")(n_over:NoAttr K C "over")(n_columns:NoAttr K C "columns")(n_rows:NoAttr K C "rows")(D1:Mdf K C "turned" "Tableau.turned" zcf ["self","cells","pivots","column"] f1 d1)(G1:FnOk P w K mg base CX0 1 f1 d1 ["self","cells","pivots","column"] (spTTd K C)):
  FnOk P w K mg base CX0 2 f fd ["self","row","column"] (spTTu K C):=by
 refine F.ok sc_tTu (fun vs H Q E h=> ?_) (fun cdv A outer s H vs Q E hr h=> ?_)
 ·obtain⟨o,H0,n,m,p,q,S,wt,T,rfl,_⟩:=h
  rfl
 obtain⟨o,H0,n,m,p,q,S,wt,T,rfl,⟨dx,cl,co,ro,rws,hT⟩,hG,hp,hq,qq⟩:=h
 refine⟨_,(zae (zal (i:=3) sc_tTu.nd rfl (Or.inr rfl) (zao zau (zbg (pv 0) rfl) (pv 1) (fun _ _=>rfl))) (zae (zal (i:=4) sc_tTu.nd rfl (Or.inl rfl) (zao zau (pv 3) (pv 2) (fun _ _=>rfl))) (zae (ps_fld (pv 0) (zaz (own:=["cells"]) (caps:=["self","pivots","column"]) (ix:=[0,3,2]) rfl (zcm (zbg (pv 0) rfl)) rfl rfl (.cons rfl rfl (.cons rfl rfl (.cons rfl rfl .nil))) (fun _ _ _ _ _=>(zai (i:=0) (show(["cells","self","pivots","column"]:List Str).Nodup from by decide+kernel) rfl (Or.inl rfl))) (fun _ _ _ _ _=>zbf) (fun _ _ _ _ _=>(pe_meth (pv 1) Cc D1.m G1 hr D1.b .nil pass0 (zaa (pv 0) (zaa (pv 2) (zaa (pv 3) zac)))))) rfl) (zae (ps_asg (zan op_cat (zan op_cat (pe_slice sl_list (pv 3) po_none (po_some (pv 2))) (pe_lst (zaa (zbg (pv 0) rfl) zac))) (pe_slice sl_list (pv 3) (po_some (zan zby (pv 2) zag)) po_none)) (pg_sub (zbg (pv 0) rfl) (pv 1) set_list)) (zae (ps_fld (pv 0) (pv 4) rfl) (zae (zal (i:=5) sc_tTu.nd rfl (Or.inl rfl) (zao zau (zbg (pv 0) rfl) (pv 1) (fun _ _=>rfl))) (zae (ps_asg (zao zau (zbg (pv 0) rfl) (pv 2) (fun _ _=>rfl)) (pg_sub (zbg (pv 0) rfl) (pv 1) set_list)) (zaf (ps_asg (pv 5) (pg_sub (zbg (pv 0) rfl) (pv 2) set_list)))))))))),?_⟩
 obtain⟨pa,pe,pi,pr⟩:=hT.rowR (yas hp)
 refine⟨_,rfl,o,C,dx,_,_,rfl,hT.at_,Cc,n_cells,rfl,_,rfl,cl,_,_,_,rfl,rfl,SqL.of hT.cells,pi,?_⟩
 refine⟨_,rfl,_,rfl,pa,_,_,_,rfl,rfl,SqL.of pr,rowL_ix _ (yas hq),?_⟩
 refine⟨_,rfl,o,C,dx,_,_,rfl,hT.at_,Cc,n_cells,rfl,cl,_,rfl,SqL.of hT.cells,fun hz=> ?_⟩
 refine zco (xs:=rws.map V.ref) (fun i acc σ H'=>∃as:List Addr,acc=as.map V.ref/\as.length=i/\Same H H'/\(∀r a,as[r]? =some a->H a=none/\H' a=some (.lst (rowL n (tdF T.over (T.cell r) (T.cell p) q))))/\∃o1,σ=[o1,some (.ref o),some (.ref pa),some (.int (q:Int))]) ⟨[],rfl,rfl,Same.refl _,fun r a e=>(nomatch e),_,rfl⟩ (fun i acc σ H' _ x=> ?_) (fun i acc σ H' _ x=> ?_) hz (fun i v acc σ H' hv x=> ?_) (fun acc σ H' x=> ?_)
 ·obtain⟨_,_,_,sm,_⟩:=x
  exact sm.seq (SqL.of hT.cells)
 ·obtain⟨as,rfl,hl,_⟩:=x
  rw[yaa,hl];exact yac _
 ·obtain⟨as,rfl,hl,sm,has,o1,rfl⟩:=x
  rw[yaf]at hv
  cases er:rws[i]? with
  |none=>rw[er]at hv;cases hv
  |some ra=>
   rw[er]at hv
   cases hv
   have him:i<=m:=by have:=(yaq.mp er).1;rw[hT.len]at this;omega
   refine⟨_,rfl,o,dx,_,rfl,sm _ _ hT.at_,rfl,_,rfl,_,rfl,_,rfl,o,ra,pa,H0,n,m,q,T.cell i,T.cell p,T,rfl,⟨dx,cl,co,ro,rws,hT.sm sm⟩,hG.n10,hG.over,yas hq,sm _ _ (hT.row i ra er),sm _ _ pr,fun c hc=>⟨hG.cell him hc,hG.cell (yas hp) hc⟩,fun r1 H1 s1 h1 e1=> ?_⟩
   refine⟨as++[r1],by rw[yad];rfl,by rw[yay,hl];rfl,sm.trans s1,fun r a e=> ?_,_,rfl⟩
   rw[List.getElem?_append]at e
   by_cases c:r<as.length
   ·rw[if_pos c]at e
    exact⟨(has r a e).1,s1 _ _ (has r a e).2⟩
   ·rw[if_neg c]at e
    have er':r-as.length=0:=by
     have:=(yaq.mp e).1
     have:r-as.length<1:=this
     omega
    rw[er']at e
    cases e
    have:r=i:=by omega
    subst this
    exact⟨sm.none h1,e1⟩
 ·intro p1 hp1
  obtain⟨as,rfl,hl,sm,has,_⟩:=x
  rw[yaa,hT.len]at hl
  have s1:=zad hp1 (.lst (as.map V.ref))
  have hT1:=hT.sm (sm.trans s1)
  have h10:H0 p1=none:=hT.same.none (sm.none hp1)
  have nas:∀b u,H b=some u->b∉as:=fun b u hb hm=>by
   obtain⟨r,hr1,rfl⟩:=ybi hm
   have:=(has r _ (yag hr1)).1
   rw[hb]at this;cases this
  have hT2:=hT1.setCells (cl':=p1) (rws':=as) (X:=fun r=>tdF T.over (T.cell r) (T.cell p) q) h10 zab hl (fun r a e=>s1 _ _ (has r a e).2) (nas _ _ hT.cols) (nas _ _ hT.rows)
  refine⟨_,rfl,o,C,dx,_,rfl,hT1.at_,Cc,n_cells,(by show 4<1000;decide),?_⟩
  have npo:pa≠o:=hT.orow pe
  have pr2:=(sm.trans s1) _ _ pr
  have pr3:(upd (upd H' p1 (.lst (as.map V.ref))) o (.ins C dx (putF "cells" (.ref p1) (flds cl co ro T.over)))) pa=some (.lst (rowL n (T.cell p))):=by rw[zaj npo];exact pr2
  generalize (upd (upd H' p1 (.lst (as.map V.ref))) o (.ins C dx (putF "cells" (.ref p1) (flds cl co ro T.over))))=H2 at *
  -- the row of the turn
  refine⟨_,rfl,_,rfl,_,rfl,pa,_,rfl,SqL.of pr3,fun l1 hl1=> ?_⟩
  have t1:=zad hl1 (.lst (cutV (rowL n (T.cell p)) none (some (q:Int))))
  have f1:(upd H2 l1 (.lst (cutV (rowL n (T.cell p)) none (some (q:Int))))) l1=some (.lst (cutV (rowL n (T.cell p)) none (some (q:Int)))):=zab
  generalize (upd H2 l1 (.lst (cutV (rowL n (T.cell p)) none (some (q:Int)))))=H3 at *
  refine⟨_,rfl,o,C,dx,_,_,rfl,t1 _ _ hT2.at_,Cc,n_over,rfl,(by show 1<=sizeLine;decide),fun l2 hl2=> ?_⟩
  have t2:=zad hl2 (.lst [.int T.over])
  have f2:(upd H3 l2 (.lst [.int T.over])) l2=some (.lst [.int T.over]):=zab
  have f1':=t2 _ _ f1
  refine⟨l1,l2,_,_,rfl,rfl,f1',f2,?_,fun l3 hl3=> ?_⟩
  ·have:=cutV_length (rowL n (T.cell p)) none (some (q:Int))
   rw[zbx]at this
   have:=hG.n10
   rw[sizeLine_eq];show _+1<=_;omega
  have t3:=zad hl3 (.lst (cutV (rowL n (T.cell p)) none (some (q:Int))++[.int T.over]))
  have f3:(upd (upd H3 l2 (.lst [.int T.over])) l3 (.lst (cutV (rowL n (T.cell p)) none (some (q:Int))++[.int T.over]))) l3=some (.lst (cutV (rowL n (T.cell p)) none (some (q:Int))++[.int T.over])):=zab
  have t13:=t1.trans (t2.trans t3)
  generalize (upd (upd H3 l2 (.lst [.int T.over])) l3 (.lst (cutV (rowL n (T.cell p)) none (some (q:Int))++[.int T.over])))=H5 at *
  refine⟨_,rfl,_,rfl,_,_,rfl,rfl,_,rfl,pa,_,rfl,SqL.of (t13 _ _ pr3),fun l4 hl4=> ?_⟩
  have t4:=zad hl4 (.lst (cutV (rowL n (T.cell p)) (some ((q:Int)+1)) none))
  refine⟨l3,l4,_,_,rfl,rfl,t4 _ _ f3,zab,?_,fun l5 hl5=> ?_⟩
  ·have a1:=cutV_length (rowL n (T.cell p)) none (some (q:Int))
   have a2:=cutV_length (rowL n (T.cell p)) (some ((q:Int)+1)) none
   rw[zbx]at a1 a2
   have:=hG.n10
   rw[yay,sizeLine_eq];show _+1+_<=_;omega
  have t5:=zad hl5 (.lst ((cutV (rowL n (T.cell p)) none (some (q:Int))++[.int T.over])++cutV (rowL n (T.cell p)) (some ((q:Int)+1)) none))
  have erow:(cutV (rowL n (T.cell p)) none (some (q:Int))++[.int T.over])++cutV (rowL n (T.cell p)) (some ((q:Int)+1)) none=rowL n fun c=>if c=q then T.over else T.cell p c:=by
   rw[cutV_to (by rw[zbx];omega),show(q:Int)+1=((q+1:Nat):Int)from by omega,cutV_from (by rw[zbx];omega)]
   exact rowL_cut _ _ (yas hq)
  rw[erow]at t5⊢
  have hT3:=hT2.sm (t13.trans (t4.trans t5))
  have f5:(upd (upd H5 l4 (.lst (cutV (rowL n (T.cell p)) (some ((q:Int)+1)) none))) l5 (.lst (rowL n fun c=>if c=q then T.over else T.cell p c))) l5=some (.lst (rowL n fun c=>if c=q then T.over else T.cell p c)):=zab
  have g1:co≠l5:=zah ((t13.trans t4) _ _ hT2.cols) hl5
  have g2:ro≠l5:=zah ((t13.trans t4) _ _ hT2.rows) hl5
  generalize (upd (upd H5 l4 (.lst (cutV (rowL n (T.cell p)) (some ((q:Int)+1)) none))) l5 (.lst (rowL n fun c=>if c=q then T.over else T.cell p c)))=H6 at *
  have hT4:=hT3.setRow (p:=p) (yas hp) f5 g1 g2
  refine⟨_,rfl,o,C,dx,_,_,rfl,hT3.at_,Cc,n_cells,rfl,_,rfl,p1,_,_,p,rfl,rfl,hT3.cells,?_,?_⟩
  ·have e:ixN (as.map V.ref).length (p:Int)=some p:=by
    rw[yaa,hl];unfold ixN
    rw[if_pos (by omega),if_pos (by omega)];rfl
   exact e
  generalize (upd H6 p1 (.lst ((as.map V.ref).set p (.ref l5))))=H7 at *
  have hT5:=hT4.setOver (T.cell p q)
  refine⟨_,rfl,_,rfl,o,C,dx,_,rfl,hT4.at_,Cc,n_over,(by show 4<1000;decide),?_⟩
  generalize (upd H7 o (.ins C dx (putF "over" (.int (T.cell p q)) (flds p1 co ro T.over))))=H8 at *
  refine⟨_,rfl,o,C,dx,_,_,rfl,hT5.at_,Cc,n_rows,rfl,_,rfl,ro,_,_,_,rfl,rfl,SqL.of hT5.rows,nameL_ix _ hp,?_⟩
  refine⟨_,rfl,o,C,dx,_,_,rfl,hT5.at_,Cc,n_columns,rfl,_,rfl,co,_,_,_,rfl,rfl,SqL.of hT5.cols,nameL_ix _ hq,?_⟩
  have hT6:=hT5.setRows (p:=p) (T.col q) hp
  refine⟨_,rfl,o,C,dx,_,_,rfl,hT5.at_,Cc,n_rows,rfl,_,rfl,ro,_,_,p,rfl,rfl,hT5.rows,?_,?_⟩
  ·have e:ixN ((nameL m T.row).map V.int).length (p:Int)=some p:=by
    rw[yaa,zbh];unfold ixN
    rw[if_pos (by omega),if_pos (by omega)];rfl
   exact e
  generalize (upd H8 ro (.lst (((nameL m T.row).map V.int).set p (.int ((T.col q:Nat):Int)))))=H9 at *
  have hT7:=hT6.setCols (q:=q) (T.row p) hq
  refine⟨_,rfl,_,rfl,o,C,dx,_,_,rfl,hT6.at_,Cc,n_columns,rfl,_,rfl,co,_,_,q,rfl,rfl,hT6.cols,?_,?_⟩
  ·have e:ixN ((nameL n T.col).map V.int).length (q:Int)=some q:=by
    rw[yaa,zbh];unfold ixN
    rw[if_pos (by omega),if_pos (by omega)];rfl
   exact e
  refine qq _ ⟨dx,p1,co,ro,_,hT7.same,hT7.o0,hT7.cl0,hT7.co0,hT7.ro0,hT7.ne,hT7.nc,hT7.nr,hT7.at_,hT7.cells,hT7.len,fun r a e=> ?_,hT7.cols,hT7.rows⟩
  rw[hT7.row r a e]
  refine congrArg (fun l=>some (HO.lst l)) (rowL_congr fun c _=> ?_)
  show(if r=p then(if c=q then T.over else T.cell p c)else tdF T.over (T.cell r) (T.cell p) q c)=_
  rfl
end
section
variable{P:Program}{w:World}{K:W.Frag}{mg:Str->Option Value}{base:Heap}
theorem run_more{n m:Nat}{S:Nat->Nat->Bool}{wt:Nat->Int}{Ts:Nat->Sx.Tab}{ps qs:Nat->Nat}{L p q:Nat}(R:Sx.Run n m S wt Ts ps qs L)(s:Sx.Step n m (Ts L) p q):
  Sx.Run n m S wt (fun t=>if t<=L then Ts t else Sx.turn (Ts L) p q) (fun t=>if t<L then ps t else p) (fun t=>if t<L then qs t else q) (L+1):=by
 refine⟨by rw[if_pos (yaw L)];exact R.first,fun t ht=> ?_,fun t ht=> ?_⟩
 ·by_cases c:t<L
  ·rw[if_pos (yas c),if_pos c,if_pos c];exact R.step t c
  ·have e:t=L:=by omega
   subst e
   rw[if_pos (yac t),if_neg c,if_neg c];exact s
 ·by_cases c:t<L
  ·rw[if_pos (show t+1<=L from c),if_pos (yas c),if_pos c,if_pos c];exact R.next t c
  ·have e:t=L:=by omega
   subst e
   rw[if_neg (by omega),if_pos (yac t),if_neg c,if_neg c]
structure Sta(n m:Nat)(S:Nat->Nat->Bool)(wt:Nat->Int):Prop where
 n10:n<=10
 m40:m<=40
 wb:∀p,p<n->0<=wt p/\wt p<=99
 cov:∀p,p<n->∃k,k<m/\S k p=true
theorem Sta.tg{n m:Nat}{S:Nat->Nat->Bool}{wt:Nat->Int}{T:Sx.Tab}(h:Sta n m S wt)(g:Sx.Good n m S wt T):TG n m S wt T:=⟨g,h.n10,h.m40,h.wb,h.cov⟩
noncomputable def NcV(n m:Nat)(T:Sx.Tab)(x:V):Prop:=(x= .non/\∀c,c<n->0<=T.cell m c)\/∃q:Nat,x= .int (q:Int)/\q<n/\T.cell m q<0/\∀c,c<n->T.cell m c<0->T.col q<=T.col c
noncomputable def SolW(K:W.Frag)(C o:Addr)(H0:Hp)(n m:Nat)(S:Nat->Nat->Bool)(wt:Nat->Int)(k:Nat)(σ:St)(H:Hp):Prop:=
 ∃(Ts:Nat->Sx.Tab) (ps qs:Nat->Nat) (L:Nat) (x:V),Sx.Run n m S wt Ts ps qs L/\L+k=2^(n+m)/\TabV K C H0 H o n m (Ts L)/\σ=[some (.ref o),some x]/\NcV n m (Ts L) x
noncomputable def spTSo(K:W.Frag)(C:Addr):Sp:=fun vs H Q _=>∃(o:Addr) (H0:Hp) (n m:Nat) (S:Nat->Nat->Bool) (wt:Nat->Int) (T:Sx.Tab),vs=[.ref o]/\TabV K C H0 H o n m T/\Sta n m S wt/\Sx.Good n m S wt T/\
 ∀T' H',TabV K C H0 H' o n m T'->Sx.Good n m S wt T'->(∀c,c<n->0<=T'.cell m c)->Q .non H'
theorem sc_tSo:FnScope ["self","column"] ["self"] (defScope zcl):=fsc
theorem ok_tSo{f f1 f2 f3 C:Addr}{fd d1 d2 d3:FuncData}(F:Fun K "solve" "Tableau.solve" zcl f fd)
  (Cc:Cls K C)(n_cells:NoAttr K C "cells")(n_over:NoAttr K C "over")(n_columns:NoAttr K C "columns")(n_rows:NoAttr K C "rows")(D1:Mdf K C "next_column" "Tableau.next_column" zbc ["self"] f1 d1)(G1':FnOk P w K mg base CX0 1 f1 d1 ["self"] (spTNc K C))(D2:Mdf K C "turn" "Tableau.turn" zcu ["self","row","column"] f2 d2)(G2:FnOk P w K mg base CX0 2 f2 d2 ["self","row","column"] (spTTu K C))(D3:Mdf K C "next_row" "Tableau.next_row" zbs ["self","column"] f3 d3)(G3:FnOk P w K mg base CX0 2 f3 d3 ["self","column"] (spTNr K C)):
  FnOk P w K mg base CX0 3 f fd ["self"] (spTSo K C):=by
 have G1:FnOk P w K mg base CX0 2 f1 d1 ["self"] (spTNc K C):=G1'.mono (by decide)
 refine F.ok sc_tSo (fun vs H Q E h=> ?_) (fun cdv A outer s H vs Q E hr h=> ?_)
 ·obtain⟨o,H0,n,m,S,wt,T,rfl,_⟩:=h
  rfl
 obtain⟨o,H0,n,m,S,wt,T,rfl,hT,hS,hg,qq⟩:=h
 refine⟨_,(zae (zal (i:=1) sc_tSo.nd rfl (Or.inl rfl) (pe_meth0 (pv 0) Cc D1.m G1 hr D1.b .nil pass0)) (zaf (ps_while PassesOwn.never (zap op_notN (pv 1) pe_non (nomark _)) (zae (ps_expr (pe_meth (pv 0) Cc D2.m G2 hr D2.b .nil pass0 (zaa (pe_meth (pv 0) Cc D3.m G3 hr D3.b .nil pass0 (zaa (pv 1) zac)) (zaa (pv 1) zac)))) (zaf (zal (i:=1) sc_tSo.nd rfl (Or.inl rfl) (pe_meth0 (pv 0) Cc D1.m G1 hr D1.b .nil pass0))))))),?_⟩
 have key:∀(x:V) (H1:Hp),TabV K C H0 H1 o n m T->NcV n m T x->∃k,SolW K C o H0 n m S wt k [some (.ref o),some x] H1:=fun x H1 h1 h2=>
  ⟨2^(n+m),fun _=>T,fun _=>0,fun _=>0,0,x,⟨hg,fun t ht=>absurd ht (ydn t),fun t ht=>absurd ht (ydn t)⟩,Nat.zero_add _,h1,rfl,h2⟩
 obtain⟨dx,cl,co,ro,rws,hA0⟩:=id hT
 refine⟨_,rfl,o,dx,_,rfl,hA0.at_,rfl,o,H0,n,m,S,wt,T,rfl,hT,hS.tg hg,?a,?b⟩
 case' a=>
  intro h H1 s1
  have w0:=key _ _ (hT.sm s1) (.inl ⟨rfl,h⟩)
  refine⟨SolW K C o H0 n m S wt,w0,?_⟩
  clear w0 s1 h
 case' b=>
  intro q H1 hq hn he s1
  have w0:=key _ _ (hT.sm s1) (.inr ⟨q,rfl,hq,hn,he⟩)
  refine⟨SolW K C o H0 n m S wt,w0,?_⟩
  clear w0 s1 he hn hq q
 all_goals
  clear H1
  intro k σ H1 h
  obtain⟨Ts,ps,qs,L,x,R,hk,⟨dx',cl,co,ro,rws,hA⟩,rfl,hx⟩:=h
  have hgL:=R.good L (yac L)
  have hG:=hS.tg hgL
  have hsh:=R.short
  rcases hx with⟨rfl,hx⟩|⟨q,rfl,hq,hn,he⟩
  ·refine⟨_,rfl,rfl,_,rfl,?_⟩
   refine iteF ?_
   exact qq (Ts L) H1 ⟨dx',cl,co,ro,rws,hA⟩ hgL hx
  ·refine⟨_,rfl,rfl,_,rfl,?_⟩
   refine iteT ?_
   refine⟨SolW K C o H0 n m S wt (k-1),fun σ' H' z=>⟨k-1,by omega,z⟩,?_⟩
   refine⟨_,rfl,o,dx',_,rfl,hA.at_,rfl,_,rfl,o,dx',_,rfl,hA.at_,rfl,_,rfl,o,H0,n,m,q,S,wt,Ts L,rfl,⟨dx',cl,co,ro,rws,hA⟩,hG,hq,fun p hp h0 hlev=> ?_⟩
   have st:Sx.Step n m (Ts L) p q:=⟨hp,hq,hn,he,h0,hlev⟩
   refine⟨_,rfl,o,H0,n,m,p,q,S,wt,Ts L,rfl,⟨dx',cl,co,ro,rws,hA⟩,hG,hp,hq,fun H2 hT2=> ?_⟩
   have R2:=run_more R st
   have g2:=st.good hgL
   obtain⟨dx2,cl2,co2,ro2,rws2,hA2⟩:=id hT2
   have fin:∀(x:V) (H3:Hp),Same H2 H3->NcV n m (Sx.turn (Ts L) p q) x->SolW K C o H0 n m S wt (k-1) [some (.ref o),some x] H3:=fun x H3 s3 hx=>by
    refine⟨_,_,_,L+1,x,R2,by omega,?_,rfl,?_⟩
    ·rw[if_neg (by omega)];exact hT2.sm s3
    ·rw[if_neg (by omega)];exact hx
   exact⟨_,rfl,o,dx2,_,rfl,hA2.at_,rfl,o,H0,n,m,S,wt,_,rfl,hT2,hS.tg g2,fun h H3 s3=>fin _ H3 s3 (.inl ⟨rfl,h⟩),fun q' H3 hq' hn' he' s3=>fin _ H3 s3 (.inr ⟨q',rfl,hq',hn',he'⟩)⟩
noncomputable def IxAt(k:Nat)(i:Int)(r:Nat):Prop:=(i=(r:Int)/\r<=k)\/(i= -1/\r=k)
noncomputable def spTFa(K:W.Frag)(C:Addr):Sp:=fun vs H Q _=>∃(o:Addr) (H0:Hp) (n m r c:Nat) (i j:Int) (S:Nat->Nat->Bool) (wt:Nat->Int) (T:Sx.Tab),vs=[.ref o,.int i,.int j]/\TabV K C H0 H o n m T/\TG n m S wt T/\IxAt m i r/\IxAt n j c/\
 ∀p H' u v,Same H H'->H' p=some (.tup [.int u,.int ((v:Nat):Int)])->Low (T.cell r c) T.over.toNat u v->Q (.ref p) H'
theorem sc_tFa:FnScope ["self","row","column"] ["self","row","column"] (defScope zaq):=fsc
theorem ok_tFa{f f1 C:Addr}{fd d1:FuncData}(F:Fun K "fraction_at" "Tableau.fraction_at" zaq f fd)
  (Cc:Cls K C)(n_cells:NoAttr K C "cells")(n_over:NoAttr K C "over")(n_columns:NoAttr K C "columns")(n_rows:NoAttr K C "rows")(D1:Dfn K mg "lowest" s_lowest ["a","b"] f1 d1)(G1:FnOk P w K mg base CX0 2 f1 d1 ["a","b"] (spLow K)):
  FnOk P w K mg base CX0 3 f fd ["self","row","column"] (spTFa K C):=by
 refine F.ok sc_tFa (fun vs H Q E h=> ?_) (fun cdv A outer s H vs Q E hr h=> ?_)
 ·obtain⟨o,H0,n,m,r,c,i,j,S,wt,T,rfl,_⟩:=h
  rfl
 obtain⟨o,H0,n,m,r,c,i,j,S,wt,T,rfl,⟨dx,cl,co,ro,rws,hT⟩,hG,hi,hj,qq⟩:=h
 refine⟨_,(zaf (zak (pc G1 hr D1 (zaa (zao zau (zao zau (zbg (pv 0) rfl) (pv 1) (fun _ _=>rfl)) (pv 2) (fun _ _=>rfl)) (zaa (zbg (pv 0) rfl) zac))))),?_⟩
 have hri:∃a,atI (rws.map V.ref) i=some (.ref a)/\H a=some (.lst (rowL n (T.cell r))):=by
  rcases hi with⟨rfl,h⟩|⟨rfl,rfl⟩
  ·obtain⟨a,_,h1,h2⟩:=hT.rowR h
   exact⟨a,h1,h2⟩
  ·obtain⟨a,_,h1,h2⟩:=hT.rowZ
   exact⟨a,h1,h2⟩
 have hcj:atI (rowL n (T.cell r)) j=some (.int (T.cell r c)):=by
  rcases hj with⟨rfl,h⟩|⟨rfl,rfl⟩
  ·exact rowL_ix _ h
  ·exact rowL_last _ _
 obtain⟨a,h1,h2⟩:=hri
 have ho:=hG.over
 refine⟨_,rfl,o,C,dx,_,_,rfl,hT.at_,Cc,n_cells,rfl,_,rfl,cl,_,_,_,rfl,rfl,SqL.of hT.cells,h1,_,rfl,a,_,_,_,rfl,rfl,SqL.of h2,hcj,?_⟩
 refine⟨_,rfl,o,C,dx,_,_,rfl,hT.at_,Cc,n_over,rfl,T.cell r c,T.over.toNat,?_,by omega,yat (show T.over.toNat<=39916800 by omega) (by decide),fun p H' u v s e l=>qq p H' u v s e l⟩
 rw[show((T.over.toNat:Nat):Int)=T.over by omega];rfl
theorem low_none{u:Int}{v b:Nat}(hb:0<b)(h:Low 0 1 u v):Low 0 b u v:=by
 have e:=h.eq
 have hu:u=0:=by omega
 subst hu
 have c:=h.cop
 rw[show(0:Int).natAbs=0 from rfl,Nat.gcd_zero_left]at c
 subst c
 exact⟨by decide,rfl,by omega,yac _,hb,fun _=>ybt _⟩
noncomputable def spTPo(K:W.Frag)(C:Addr):Sp:=fun vs H Q _=>∃(o:Addr) (H0:Hp) (n m a:Nat) (S:Nat->Nat->Bool) (wt:Nat->Int) (T:Sx.Tab),vs=[.ref o,.int (a:Int)]/\TabV K C H0 H o n m T/\TG n m S wt T/\
 ∀p H' u v,Same H H'->H' p=some (.tup [.int u,.int ((v:Nat):Int)])->Low (Sx.Xs n m T a) T.over.toNat u v->Q (.ref p) H'
theorem sc_tPo:FnScope ["self","name"] ["self","name"] (defScope zbr):=fsc
theorem ok_tPo{f f1 f2 C:Addr}{fd d1 d2:FuncData}(F:Fun K "price_of" "Tableau.price_of" zbr f fd)
  (Cc:Cls K C)(n_cells:NoAttr K C "cells")(n_over:NoAttr K C "over")(n_columns:NoAttr K C "columns")(n_rows:NoAttr K C "rows")(D1:Dfn K mg "lowest" s_lowest ["a","b"] f1 d1)(G1:FnOk P w K mg base CX0 2 f1 d1 ["a","b"] (spLow K))(D2:Mdf K C "fraction_at" "Tableau.fraction_at" zaq ["self","row","column"] f2 d2)(G2:FnOk P w K mg base CX0 3 f2 d2 ["self","row","column"] (spTFa K C)):
  FnOk P w K mg base CX0 4 f fd ["self","name"] (spTPo K C):=by
 refine F.ok sc_tPo (fun vs H Q E h=> ?_) (fun cdv A outer s H vs Q E hr h=> ?_)
 ·obtain⟨o,H0,n,m,a,S,wt,T,rfl,_⟩:=h
  rfl
 obtain⟨o,H0,n,m,a,S,wt,T,rfl,⟨dx,cl,co,ro,rws,hT⟩,hG,qq⟩:=h
 refine⟨_,(zae (zcr (zap (op_notInD hr.units) (pv 1) (zbg (pv 0) rfl) (by with_unfolding_all rfl)) (zaf (zak (pc G1 hr D1 (zaa zag (zaa zag zac))))) zas) (zaf (zak (pe_meth (pv 0) Cc D2.m G2 hr D2.b .nil pass0 (zaa (pe_bm PySem.F.plainAttrs_list PySem.F.slot_list_index PySem.F.type_list_index mt_indexI (zbg (pv 0) rfl) (zaa (pv 1) zac)) (zaa (pe_un un_neg zag) zac)))))),?_⟩
 have ho:=hG.over
 refine⟨_,rfl,_,rfl,o,C,dx,_,_,rfl,hT.at_,Cc,n_rows,rfl,ro,_,_,.int (a:Int),rfl,.inl (SqL.of hT.rows),DVs.ints _,.int _,lay_ints _,rfl,(by show 0<=60;decide),_,rfl,?_⟩
 rw[any_ints]
 refine ite2 (fun c=> ?_) (fun c=> ?_)
 ·have c':((a:Nat):Int)∉nameL m T.row:=by
   intro hm
   rw[decide_eq_true hm]at c
   cases c
  refine⟨0,1,rfl,by decide,by decide,fun p H' u v s e l=>qq p H' u v s e ?_⟩
  rw[Sx.xs_no fun r hr z=>c' (by
   have:=zbt T.row hr
   rw[z]at this
   exact yav this)]
  exact low_none (by omega) l
 ·have c':((a:Nat):Int)∈nameL m T.row:=by
   refine Classical.byContradiction fun hm=>c ?_
   rw[decide_eq_false hm];rfl
  obtain⟨r,hr1,er⟩:=ybi c'
  have hr0:r<m:=by rw[zbh]at hr1;exact hr1
  have e0:=yag hr1
  rw[er]at e0
  have ea:T.row r=a:=by
   rw[zbt _ hr0]at e0
   exact Int.ofNat.inj (Option.some.inj e0)
  subst ea
  refine⟨_,rfl,o,dx,_,rfl,hT.at_,rfl,_,rfl,o,C,dx,_,_,rfl,hT.at_,Cc,n_rows,rfl,.inl ⟨rfl,_,SqL.of hT.rows⟩,_,rfl,ro,nameL m T.row,_,r,rfl,rfl,hT.rows,zbt _ hr0,fun i hi e=> ?_,by rw[zbh];have:=hG.m40;omega,?_⟩
  ·rw[zbt _ (by omega)]at e
   have:=hG.good.rinj i r (by omega) hr0 (Int.ofNat.inj (Option.some.inj e))
   omega
  ·refine⟨_,rfl,o,H0,n,m,r,n,_,_,S,wt,T,rfl,⟨dx,cl,co,ro,rws,hT⟩,hG,.inl ⟨rfl,yas hr0⟩,.inr ⟨rfl,rfl⟩,fun p H' u v s e l=>qq p H' u v s e ?_⟩
   rw[hG.good.xs_at hr0]
   exact l
noncomputable def spTSh(K:W.Frag)(C:Addr):Sp:=fun vs H Q _=>∃(o:Addr) (H0:Hp) (n m a:Nat) (S:Nat->Nat->Bool) (wt:Nat->Int) (T:Sx.Tab),vs=[.ref o,.int (a:Int)]/\TabV K C H0 H o n m T/\TG n m S wt T/\
 ∀p H' u v,Same H H'->H' p=some (.tup [.int u,.int ((v:Nat):Int)])->Low (Sx.Ys n m T a) T.over.toNat u v->Q (.ref p) H'
theorem sc_tSh:FnScope ["self","name"] ["self","name"] (defScope zbq):=fsc
theorem ok_tSh{f f1 f2 C:Addr}{fd d1 d2:FuncData}(F:Fun K "share_of" "Tableau.share_of" zbq f fd)
  (Cc:Cls K C)(n_cells:NoAttr K C "cells")(n_over:NoAttr K C "over")(n_columns:NoAttr K C "columns")(n_rows:NoAttr K C "rows")(D1:Dfn K mg "lowest" s_lowest ["a","b"] f1 d1)(G1:FnOk P w K mg base CX0 2 f1 d1 ["a","b"] (spLow K))(D2:Mdf K C "fraction_at" "Tableau.fraction_at" zaq ["self","row","column"] f2 d2)(G2:FnOk P w K mg base CX0 3 f2 d2 ["self","row","column"] (spTFa K C)):
  FnOk P w K mg base CX0 4 f fd ["self","name"] (spTSh K C):=by
 refine F.ok sc_tSh (fun vs H Q E h=> ?_) (fun cdv A outer s H vs Q E hr h=> ?_)
 ·obtain⟨o,H0,n,m,a,S,wt,T,rfl,_⟩:=h
  rfl
 obtain⟨o,H0,n,m,a,S,wt,T,rfl,⟨dx,cl,co,ro,rws,hT⟩,hG,qq⟩:=h
 refine⟨_,(zae (zcr (zap (op_notInD hr.units) (pv 1) (zbg (pv 0) rfl) (by with_unfolding_all rfl)) (zaf (zak (pc G1 hr D1 (zaa zag (zaa zag zac))))) zas) (zaf (zak (pe_meth (pv 0) Cc D2.m G2 hr D2.b .nil pass0 (zaa (pe_un un_neg zag) (zaa (pe_bm PySem.F.plainAttrs_list PySem.F.slot_list_index PySem.F.type_list_index mt_indexI (zbg (pv 0) rfl) (zaa (pv 1) zac)) zac)))))),?_⟩
 have ho:=hG.over
 refine⟨_,rfl,_,rfl,o,C,dx,_,_,rfl,hT.at_,Cc,n_columns,rfl,co,_,_,.int (a:Int),rfl,.inl (SqL.of hT.cols),DVs.ints _,.int _,lay_ints _,rfl,(by show 0<=60;decide),_,rfl,?_⟩
 rw[any_ints]
 refine ite2 (fun c=> ?_) (fun c=> ?_)
 ·have c':((a:Nat):Int)∉nameL n T.col:=by
   intro hm
   rw[decide_eq_true hm]at c
   cases c
  refine⟨0,1,rfl,by decide,by decide,fun p H' u v s e l=>qq p H' u v s e ?_⟩
  rw[Sx.ys_no fun r hr z=>c' (by
   have:=zbt T.col hr
   rw[z]at this
   exact yav this)]
  exact low_none (by omega) l
 ·have c':((a:Nat):Int)∈nameL n T.col:=by
   refine Classical.byContradiction fun hm=>c ?_
   rw[decide_eq_false hm];rfl
  obtain⟨r,hr1,er⟩:=ybi c'
  have hr0:r<n:=by rw[zbh]at hr1;exact hr1
  have e0:=yag hr1
  rw[er]at e0
  have ea:T.col r=a:=by
   rw[zbt _ hr0]at e0
   exact Int.ofNat.inj (Option.some.inj e0)
  subst ea
  refine⟨_,rfl,o,dx,_,rfl,hT.at_,rfl,_,rfl,_,rfl,o,C,dx,_,_,rfl,hT.at_,Cc,n_columns,rfl,.inl ⟨rfl,_,SqL.of hT.cols⟩,_,rfl,co,nameL n T.col,_,r,rfl,rfl,hT.cols,zbt _ hr0,fun i hi e=> ?_,by rw[zbh];have:=hG.n10;omega,?_⟩
  ·rw[zbt _ (by omega)]at e
   have:=hG.good.cinj i r (by omega) hr0 (Int.ofNat.inj (Option.some.inj e))
   omega
  ·refine⟨o,H0,n,m,m,r,_,_,S,wt,T,rfl,⟨dx,cl,co,ro,rws,hT⟩,hG,.inr ⟨rfl,rfl⟩,.inl ⟨rfl,yas hr0⟩,fun p H' u v s e l=>qq p H' u v s e ?_⟩
   rw[hG.good.ys_at hr0]
   exact l
noncomputable def setS(L:List (List Int))(k p:Nat):Bool:=decide (((p:Nat):Int)∈L.getD k [])
noncomputable def wtF(wl:List Int)(p:Nat):Int:=wl.getD p 0
theorem row_in{n m r:Nat}{L:List (List Int)}{wt:Nat->Int}(hr:r<m):((List.range n).map fun(p:Nat)=>if decide (((p:Nat):Int)∈L.getD r [])=true then(1:Int)else 0).map V.int++[.int 1]=rowL n ((Sx.start n m (setS L) wt).cell r):=by
 unfold rowL
 rw[ybx,yad,yad]
 congr 1
 ·refine congrArg _ (yeh fun c hc=> ?_)
  have hc':=ybl.mp hc
  show _=if r=m then _ else if c=n then(1:Int)else if setS L r c=true then 1 else 0
  rw[if_neg (show¬r=m by omega),if_neg (show¬c=n by omega)]
  rfl
 ·show[V.int 1]=[V.int (if r=m then _ else if n=n then(1:Int)else _)]
  rw[if_neg (by omega),if_pos rfl]
theorem row_out{m:Nat}{L:List (List Int)}{wl:List Int}:(wl.map fun x=> -x).map V.int++[.int 0]=rowL wl.length ((Sx.start wl.length m (setS L) (wtF wl)).cell m):=by
 unfold rowL
 rw[ybx,yad,yad]
 congr 1
 ·refine congrArg _ (List.ext_getElem? fun i=> ?_)
  rw[yaf,yaf]
  by_cases hi:i<wl.length
  ·rw[yag hi,ydt hi]
   show some (-wl[i])=some (if m=m then(if i=wl.length then(0:Int)else -(wl.getD i 0))else _)
   rw[if_pos rfl,if_neg (by omega),yai,yag hi]
   rfl
  ·rw[ycb (by omega),ycb (by rw[ybo];omega)];rfl
 ·show[V.int 0]=[V.int (if m=m then(if wl.length=wl.length then(0:Int)else _)else _)]
  rw[if_pos rfl,if_pos rfl]
theorem _root_.L2.SqT.updI{H:Hp}{a o C dx:Addr}{fs:List (Str×V)}{u:HO}{xs:List V}(hO:H o=some (.ins C dx fs))(h:SqT K H a xs):SqT K (upd H o u) a xs:=by
 rcases h with(h|⟨ob,h⟩)|h
 ·exact .inl (.inl (by rw[zaj (ne_of h hO fun e=>nomatch e)];exact h))
 ·exact .inl (.inr ⟨ob,by rw[zaj (ne_of h hO fun e=>nomatch e)];exact h⟩)
 ·exact .inr h
noncomputable def spTIni(K:W.Frag)(C:Addr):Sp:=fun vs H Q _=>∃(o dx sl wa:Addr) (H0:Hp) (its:List (Addr×List Int)) (wl:List Int),vs=[.ref o,.ref sl,.ref wa]/\H o=some (.ins C dx [])/\Same H0 H/\H0 o=none/\H sl=some (.lst (its.map fun p=>V.ref p.1))/\(∀p∈its,SqT K H p.1 (p.2.map V.int))/\SqT K H wa (wl.map V.int)/\wl.length<=10/\its.length<=40/\
 ∀H',TabV K C H0 H' o wl.length its.length (Sx.start wl.length its.length (setS (its.map (·.2))) (wtF wl))->Q .non H'
theorem sc_tIni:FnScope ["self","sets","wants","n"] ["self","sets","wants"] (defScope zcv):=fsc
theorem ok_tIni{f C:Addr}{fd:FuncData}(F:Fun K "__init__" "Tableau.__init__" zcv f fd)
  (Cc:Cls K C)(n_cells:NoAttr K C "cells")(n_over:NoAttr K C "over")(n_columns:NoAttr K C "columns")(n_rows:NoAttr K C "rows")(m_len:mg "len"=none)(m_range:mg "range"=none)(m_list:mg "list"=none):
  FnOk P w K mg base CX0 1 f fd ["self","sets","wants"] (spTIni K C):=by
 refine F.ok sc_tIni (fun vs H Q E h=> ?_) (fun cdv A outer s H vs Q E hr h=> ?_)
 ·obtain⟨o,dx,sl,wa,H0,its,wl,rfl,_⟩:=h
  rfl
 obtain⟨o,dx,sl,wa,H0,its,wl,rfl,hO,hS0,h0,hS,hP,hW,hn,hm,qq⟩:=h
 refine⟨_,(zae (zal (i:=3) sc_tIni.nd rfl (Or.inr rfl) (zam zba rfl m_len PySem.boot_len (zaa (pv 2) zac))) (zae (ps_fld (pv 0) (pe_compC (own:=["some"]) (caps:=["n"]) (ix:=[3]) rfl (zcm (pv 1)) rfl rfl (.cons rfl rfl .nil) (fun _ _ _ _ _=>(zai (i:=0) (show(["some","n"]:List Str).Nodup from by decide+kernel) rfl (Or.inr rfl))) (fun _ _ _ _ _=>zbf) (fun _ _ _ _ _=>(zan op_cat (zaz (own:=["place"]) (caps:=["some"]) (ix:=[0]) rfl (zay rfl m_range (zaa (pv 1) zac)) rfl rfl (.cons rfl rfl .nil) (fun _ _ _ _ _=>(zai (i:=0) (show(["place","some"]:List Str).Nodup from by decide+kernel) rfl (Or.inl rfl))) (fun _ _ _ _ _=>zbf) (fun _ _ _ _ _=>(pe_ifExp (zap (op_inDK K hr.units) (pv 0) (pv 1) (by with_unfolding_all rfl)) zag zag))) (pe_lst (zaa zag zac))))) rfl) (zae (ps_expr (pe_bm PySem.F.plainAttrs_list PySem.F.slot_list_append PySem.F.type_list_append mt_append (zbg (pv 0) rfl) (zaa (zan op_cat (zaz (own:=["want"]) (caps:=[]) (ix:=[]) rfl (pi_tupL (pv 2)) rfl rfl .nil (fun _ _ _ _ _=>(zai (i:=0) (show(["want"]:List Str).Nodup from by decide+kernel) rfl (Or.inl rfl))) (fun _ _ _ _ _=>zbf) (fun _ _ _ _ _=>(pe_un un_neg (pv 0)))) (pe_lst (zaa zag zac))) zac))) (zae (ps_fld (pv 0) zag rfl) (zae (ps_fld (pv 0) (pe_lstRange rfl rfl m_list rfl m_range (zaa (pv 3) zac)) rfl) (zaf (ps_fld (pv 0) (pe_lstRange2 rfl rfl m_list rfl m_range (zaa (pv 3) (zaa (zan zby (pv 3) (zam zba rfl m_len PySem.boot_len (zaa (pv 1) zac))) zac))) rfl))))))),?_⟩
 refine⟨_,rfl,wa,_,rfl,.inr hW,fun _=> ?_⟩
 rw[yaa]
 refine⟨_,rfl,sl,_,rfl,SqL.of hS,fun hz=> ?_⟩
 refine zco (xs:=its.map fun p=>V.ref p.1) (fun i acc σ H'=>∃as:List Addr,acc=as.map V.ref/\as.length=i/\Same H H'/\(∀r a,as[r]? =some a->H' a=some (.lst (rowL wl.length ((Sx.start wl.length its.length (setS (its.map (·.2))) (wtF wl)).cell r))))/\∃o1,σ=[o1,some (.int (wl.length:Int))]) ⟨[],rfl,rfl,Same.refl _,fun r a e=>(nomatch e),_,rfl⟩ (fun i acc σ H' _ x=> ?_) (fun i acc σ H' _ x=> ?_) hz (fun i v acc σ H1 hv x=> ?_) (fun acc σ H1 x=> ?_)
 ·obtain⟨_,_,_,sm,_⟩:=x
  exact sm.seq (SqL.of hS)
 ·obtain⟨as,rfl,hl,_⟩:=x
  rw[yaa,hl];exact yac _
 ·obtain⟨as,rfl,hl,sm,has,o1,rfl⟩:=x
  rw[yaf]at hv
  cases ev:its[i]? with
  |none=>rw[ev]at hv;cases hv
  |some it=>
   rw[ev]at hv
   cases hv
   have him:i<its.length:=(yaq.mp ev).1
   have hit:=hP it (yav ev)
   have eg:(its.map (·.2)).getD i []=it.2:=by rw[yai,yaf,ev];rfl
   refine⟨_,rfl,_,rfl,by omega,by omega,?_⟩
   refine zbn (n:=wl.length) (fun c acc σ H'=>acc=((List.range c).map fun(p:Nat)=>if decide (((p:Nat):Int)∈it.2)=true then(1:Int)else 0).map V.int/\H'=H1/\∃o2,σ=[o2,some (.ref it.1)]) ⟨rfl,rfl,_,rfl⟩ (fun c acc σ H' hc y=> ?_) (by rw[sizeLine_eq];omega) (fun c acc σ H' hc y=> ?_) (fun acc σ H' y=> ?_)
   ·rw[y.1,yaa,yaa,ybo];exact yac _
   ·obtain⟨rfl,rfl,o2,rfl⟩:=y
    refine⟨_,rfl,_,rfl,it.1,_,_,.int (0+(c:Int)),rfl,.inr (sm.tup hit),DVs.ints _,.int _,lay_ints _,rfl,(by show 0<=60;decide),_,rfl,?_⟩
    rw[any_ints,Int.zero_add]
    refine ite2 (fun z=> ?_) (fun z=> ?_)
    ·exact⟨by rw[ybx,yad,yad];show _=_++[V.int (if _ then _ else _)];rw[if_pos z],rfl,_,rfl⟩
    ·exact⟨by rw[ybx,yad,yad];show _=_++[V.int (if _ then _ else _)];rw[if_neg z],rfl,_,rfl⟩
   ·intro p1 hp1
    obtain⟨rfl,rfl,_⟩:=y
    have s1:=zad hp1 (.lst (((List.range wl.length).map fun(p:Nat)=>if decide (((p:Nat):Int)∈it.2)=true then(1:Int)else 0).map V.int))
    refine⟨(by show 1<=sizeLine;decide),fun p2 hp2=> ?_⟩
    have s2:=zad hp2 (.lst [.int 1])
    refine⟨p1,p2,_,_,rfl,rfl,s2 _ _ zab,zab,(by rw[yaa,yaa,ybo,sizeLine_eq];show _+1<=_;omega),fun p3 hp3=> ?_⟩
    have s3:=zad hp3 (.lst (((List.range wl.length).map fun(p:Nat)=>if decide (((p:Nat):Int)∈it.2)=true then(1:Int)else 0).map V.int++[.int 1]))
    have s13:=s1.trans (s2.trans s3)
    refine⟨as++[p3],by rw[yad];rfl,by rw[yay,hl];rfl,sm.trans s13,fun r a e=> ?_,_,rfl⟩
    rw[List.getElem?_append]at e
    by_cases c:r<as.length
    ·rw[if_pos c]at e
     exact s13 _ _ (has r a e)
    ·rw[if_neg c]at e
     have er':r-as.length=0:=by
      have:=(yaq.mp e).1
      have:r-as.length<1:=this
      omega
     rw[er']at e
     cases e
     have:r=i:=by omega
     subst this
     rw[zab,<-row_in (wt:=wtF wl) him,eg]
 ·intro p1 hp1
  obtain⟨as,rfl,hl,sm,has,_⟩:=x
  rw[yaa]at hl
  have s1:=zad hp1 (.lst (as.map V.ref))
  have hO1:=(sm.trans s1) _ _ hO
  refine⟨_,rfl,o,C,dx,_,rfl,hO1,Cc,n_cells,(by show 0<1000;decide),?_⟩
  -- what lies beside the object
  have np:p1≠o:=(zah (sm _ _ hO) hp1).symm
  have h10:H p1=none:=sm.none hp1
  have as_ne:∀r a,as[r]? =some a->a≠o/\a≠p1:=fun r a e=>⟨fun z=>(by have y:=has r a e;rw[z,sm _ _ hO]at y;cases y),fun z=>(by have y:=has r a e;rw[z,hp1]at y;cases y)⟩
  have W2:SqT K (upd (upd H1 p1 (.lst (as.map V.ref))) o (.ins C dx (putF "cells" (.ref p1) []))) wa (wl.map V.int):=((sm.trans s1).tup hW).updI hO1
  have S2:(upd (upd H1 p1 (.lst (as.map V.ref))) o (.ins C dx (putF "cells" (.ref p1) []))) sl=some (.lst (its.map fun p=>V.ref p.1)):=by
   rw[zaj (ne_of ((sm.trans s1) _ _ hS) hO1 fun e=>nomatch e)];exact(sm.trans s1) _ _ hS
  have A2:∀r a,as[r]? =some a->(upd (upd H1 p1 (.lst (as.map V.ref))) o (.ins C dx (putF "cells" (.ref p1) []))) a=some (.lst (rowL wl.length ((Sx.start wl.length its.length (setS (its.map (·.2))) (wtF wl)).cell r))):=fun r a e=>by
   rw[zaj (as_ne r a e).1];exact s1 _ _ (has r a e)
  have P2:(upd (upd H1 p1 (.lst (as.map V.ref))) o (.ins C dx (putF "cells" (.ref p1) []))) p1=some (.lst (as.map V.ref)):=by rw[zaj np,zab]
  have O2:(upd (upd H1 p1 (.lst (as.map V.ref))) o (.ins C dx (putF "cells" (.ref p1) []))) o=some (.ins C dx [("cells",.ref p1)]):=zab
  have Z2:Same H0 (upd (upd H1 p1 (.lst (as.map V.ref))) o (.ins C dx (putF "cells" (.ref p1) []))):=Same.updN (hS0.trans (sm.trans s1)) h0
  generalize (upd (upd H1 p1 (.lst (as.map V.ref))) o (.ins C dx (putF "cells" (.ref p1) [])))=H2 at *
  refine⟨_,rfl,o,C,dx,_,_,rfl,O2,Cc,n_cells,rfl,.inl ⟨rfl,_,SqL.of P2⟩,_,rfl,wa,_,rfl,W2,fun hz2=> ?_⟩
  refine comp_tup (xs:=wl.map V.int) (fun i acc σ H'=>acc=((wl.take i).map fun x=> -x).map V.int/\H'=H2/\∃o2,σ=[o2]) ⟨rfl,rfl,_,rfl⟩ (fun i acc σ H' _ y=>by rw[y.2.1];exact W2) (fun i acc σ H' _ y=> ?_) hz2 (fun i v acc σ H' hv y=> ?_) (fun acc σ H' y=> ?_)
  ·rw[y.1,yaa,yaa,ybh];exact ycj _ _
  ·obtain⟨rfl,rfl,o2,rfl⟩:=y
   rw[yaf]at hv
   cases ev:wl[i]? with
   |none=>rw[ev]at hv;cases hv
   |some x=>
    rw[ev]at hv
    cases hv
    exact⟨_,rfl,_,rfl,by rw[ybg,ev,yad,yad];rfl,rfl,_,rfl⟩
  intro p2 hp2
  obtain⟨rfl,rfl,_⟩:=y
  rw[yaa,ybk]
  have s2:=zad hp2 (.lst ((wl.map fun x=> -x).map V.int))
  refine⟨(by show 1<=sizeLine;decide),fun p3 hp3=> ?_⟩
  have s3:=zad hp3 (.lst [.int 0])
  refine⟨p2,p3,_,_,rfl,rfl,s3 _ _ zab,zab,(by rw[yaa,yaa,sizeLine_eq];show _+1<=_;omega),fun p4 hp4=> ?_⟩
  have s4:=zad hp4 (.lst ((wl.map fun x=> -x).map V.int++[.int 0]))
  have s24:=s2.trans (s3.trans s4)
  rw[row_out (m:=its.length) (L:=its.map (·.2))]at s24 s4⊢
  have e4:(upd (upd (upd H' p2 (.lst ((wl.map fun x=> -x).map V.int))) p3 (.lst [.int 0])) p4 (.lst (rowL wl.length ((Sx.start wl.length its.length (setS (its.map (·.2))) (wtF wl)).cell its.length)))) p4=some (.lst (rowL wl.length ((Sx.start wl.length its.length (setS (its.map (·.2))) (wtF wl)).cell its.length))):=zab
  have n4:p4≠p1:=(zah (s3 _ _ (s2 _ _ P2)) hp4).symm
  have n4o:p4≠o:=(zah (s3 _ _ (s2 _ _ O2)) hp4).symm
  have P3:=s24 _ _ P2
  have O3:=s24 _ _ O2
  have S3:=s24 _ _ S2
  have Z3:=Z2.trans s24
  have A3:∀r a,as[r]? =some a->_:=fun r a e=>s24 _ _ (A2 r a e)
  generalize (upd (upd (upd H' p2 (.lst ((wl.map fun x=> -x).map V.int))) p3 (.lst [.int 0])) p4 (.lst (rowL wl.length ((Sx.start wl.length its.length (setS (its.map (·.2))) (wtF wl)).cell its.length))))=H3 at *
  refine⟨p1,_,_,rfl,rfl,P3,(by rw[yaa,sizeLine_eq];omega),?_⟩
  -- all rows
  have h1n:H0 p1=none:=hS0.none h10
  have nos:o≠p1:=np.symm
  have nsl:sl≠p1:=(zah hS h10)
  have C4:(upd H3 p1 (.lst (as.map V.ref++[.ref p4]))) p1=some (.lst ((as++[p4]).map V.ref)):=by rw[zab,yad];rfl
  have O4:(upd H3 p1 (.lst (as.map V.ref++[.ref p4]))) o=some (.ins C dx [("cells",.ref p1)]):=by rw[zaj nos];exact O3
  have S4:(upd H3 p1 (.lst (as.map V.ref++[.ref p4]))) sl=some (.lst (its.map fun p=>V.ref p.1)):=by rw[zaj nsl];exact S3
  have Z4:Same H0 (upd H3 p1 (.lst (as.map V.ref++[.ref p4]))):=Same.updN Z3 h1n
  have R4:∀r a,(as++[p4])[r]? =some a->(upd H3 p1 (.lst (as.map V.ref++[.ref p4]))) a=some (.lst (rowL wl.length ((Sx.start wl.length its.length (setS (its.map (·.2))) (wtF wl)).cell r)))/\a≠o:=fun r a e=>by
   rw[List.getElem?_append]at e
   by_cases c:r<as.length
   ·rw[if_pos c]at e
    refine⟨?_,(as_ne r a e).1⟩
    rw[zaj (as_ne r a e).2];exact A3 r a e
   ·rw[if_neg c]at e
    have er':r-as.length=0:=by
     have:=(yaq.mp e).1
     have:r-as.length<1:=this
     omega
    rw[er']at e
    cases e
    have:r=its.length:=by omega
    subst this
    refine⟨?_,n4o⟩
    rw[zaj n4];exact e4
  generalize (upd H3 p1 (.lst (as.map V.ref++[.ref p4])))=H4 at *
  refine⟨_,rfl,o,C,dx,_,rfl,O4,Cc,n_over,(by show 1<1000;decide),?_⟩
  have O5:(upd H4 o (.ins C dx (putF "over" (.int 1) [("cells",.ref p1)]))) o=some (.ins C dx [("cells",.ref p1),("over",.int 1)]):=zab
  have k5:∀b u,b≠o->H4 b=some u->(upd H4 o (.ins C dx (putF "over" (.int 1) [("cells",.ref p1)]))) b=some u:=fun b u hb e=>by rw[zaj hb];exact e
  have nso:sl≠o:=ne_of S4 O4 fun e=>nomatch e
  have C5:=k5 _ _ np C4
  have S5:=k5 _ _ nso S4
  have Z5:Same H0 (upd H4 o (.ins C dx (putF "over" (.int 1) [("cells",.ref p1)]))):=Same.updN Z4 h0
  have R5:∀r a,(as++[p4])[r]? =some a->_:=fun r a e=>k5 _ _ (R4 r a e).2 (R4 r a e).1
  generalize (upd H4 o (.ins C dx (putF "over" (.int 1) [("cells",.ref p1)])))=H5 at *
  refine⟨_,rfl,(wl.length:Int),rfl,by omega,by omega,fun co hco=> ?_⟩
  have s6:=zad hco (.lst (tupR (wl.length:Int).toNat))
  have O6:=s6 _ _ O5
  refine⟨_,rfl,o,C,dx,_,rfl,O6,Cc,n_columns,(by show 2<1000;decide),?_⟩
  have nco:co≠o:=(zah O5 hco).symm
  have k7:∀b u,b≠o->(upd H5 co (.lst (tupR (wl.length:Int).toNat))) b=some u->(upd (upd H5 co (.lst (tupR (wl.length:Int).toNat))) o (.ins C dx (putF "columns" (.ref co) [("cells",.ref p1),("over",.int 1)]))) b=some u:=fun b u hb e=>by rw[zaj hb];exact e
  have O7:(upd (upd H5 co (.lst (tupR (wl.length:Int).toNat))) o (.ins C dx (putF "columns" (.ref co) [("cells",.ref p1),("over",.int 1)]))) o=some (.ins C dx [("cells",.ref p1),("over",.int 1),("columns",.ref co)]):=zab
  have C7:=k7 _ _ np (s6 _ _ C5)
  have S7:=k7 _ _ nso (s6 _ _ S5)
  have L7:=k7 _ _ nco zab
  have R7:∀r a,(as++[p4])[r]? =some a->_:=fun r a e=>k7 _ _ (R4 r a e).2 (s6 _ _ (R5 r a e))
  have Z7:Same H0 (upd (upd H5 co (.lst (tupR (wl.length:Int).toNat))) o (.ins C dx (putF "columns" (.ref co) [("cells",.ref p1),("over",.int 1)]))):=Same.updN (Z5.trans s6) h0
  have c0:H0 co=none:=Z5.none hco
  have ncr:co∉as++[p4]:=fun hm=>by
   obtain⟨r,hr1,e⟩:=ybi hm
   have:=R5 r _ (yag hr1)
   rw[e,hco]at this;cases this
  generalize (upd (upd H5 co (.lst (tupR (wl.length:Int).toNat))) o (.ins C dx (putF "columns" (.ref co) [("cells",.ref p1),("over",.int 1)])))=H7 at *
  refine⟨_,rfl,_,rfl,_,rfl,sl,_,rfl,.inl (SqL.of S7),fun _=>⟨_,_,rfl,rfl,_,_,rfl,by omega,?_,?_,fun ro hro=> ?_⟩⟩
  ·rw[yaa];omega
  ·rw[yaa];omega
  rw[yaa]
  have s8:=zad hro (.lst ((rngFT (wl.length:Int) ((wl.length:Int)+(its.length:Int)-(wl.length:Int)).toNat).map V.int))
  have O8:=s8 _ _ O7
  refine⟨_,rfl,o,C,dx,_,rfl,O8,Cc,n_rows,(by show 3<1000;decide),?_⟩
  have nro:ro≠o:=(zah O7 hro).symm
  have k9:∀b u,b≠o->(upd H7 ro (.lst ((rngFT (wl.length:Int) ((wl.length:Int)+(its.length:Int)-(wl.length:Int)).toNat).map V.int))) b=some u->(upd (upd H7 ro (.lst ((rngFT (wl.length:Int) ((wl.length:Int)+(its.length:Int)-(wl.length:Int)).toNat).map V.int))) o (.ins C dx (putF "rows" (.ref ro) [("cells",.ref p1),("over",.int 1),("columns",.ref co)]))) b=some u:=fun b u hb e=>by rw[zaj hb];exact e
  refine qq _ ⟨dx,p1,co,ro,as++[p4],Same.updN (Z7.trans s8) h0,h0,h1n,c0,Z7.none hro,zah L7 hro,ncr,fun hm=> ?_,zab,k9 _ _ np (s8 _ _ C7),by rw[yay,hl];rfl,fun r a e=>k9 _ _ (R4 r a e).2 (s8 _ _ (R7 r a e)),?_,?_⟩
  ·obtain⟨r,hr1,e⟩:=ybi hm
   have:=R7 r _ (yag hr1)
   rw[e,hro]at this;cases this
  ·rw[k9 _ _ nco (s8 _ _ L7)]
   congr 2
   unfold tupR nameL
   rw[ycw,show(wl.length:Int).toNat=wl.length by omega]
   rfl
  ·rw[k9 _ _ nro zab]
   congr 2
   unfold rngFT nameL
   rw[show((wl.length:Int)+(its.length:Int)-(wl.length:Int)).toNat=its.length by omega]
   refine congrArg _ (yeh fun k _=> ?_)
   show(wl.length:Int)+(k:Int)=((wl.length+k:Nat):Int)
   omega
end
noncomputable def lowF(a:Int)(b:Nat):Int×Nat:=(a/((Nat.gcd a.natAbs b:Nat):Int),b/Nat.gcd a.natAbs b)
theorem zbj(a:Int){b:Nat}(hb:0<b):Low a b (lowF a b).1 (lowF a b).2:=low_mk a b hb
theorem low_uniq{a:Int}{b:Nat}{u u':Int}{v v':Nat}(hb:0<b)(h:Low a b u v)(h':Low a b u' v'):u=u'/\v=v':=by
 have e1:=h.eq
 have e2:=h'.eq
 have bi:(0:Int)<(b:Int):=by omega
 have cr:u*(v':Int)=u'*(v:Int):=by
  refine yef (a:=(b:Int)) (by omega) ?_
  have x:(b:Int)*(u*(v':Int))=u*(b:Int)*(v':Int):=by grind
  have y:(b:Int)*(u'*(v:Int))=u'*(b:Int)*(v:Int):=by grind
  rw[x,y,e1,e2];grind
 have cn:u.natAbs*v'=u'.natAbs*v:=by
  have:=congrArg Int.natAbs cr
  rwa [ydx,ydx,ycy,ycy]at this
 have d1:v∣v':=by
  have:v∣u.natAbs*v':=by rw[cn];exact ydg _ _
  exact(Nat.Coprime.symm h.cop).dvd_of_dvd_mul_left this
 have d2:v'∣v:=by
  have:v'∣u'.natAbs*v:=by rw[<-cn];exact ydg _ _
  exact(Nat.Coprime.symm h'.cop).dvd_of_dvd_mul_left this
 have ev:=Nat.dvd_antisymm d1 d2
 subst ev
 refine⟨?_,rfl⟩
 have hv:=h.pos
 exact yck (a:=(v:Int)) (by omega) cr
theorem low_is{a:Int}{b:Nat}{u:Int}{v:Nat}(hb:0<b)(h:Low a b u v):(u,v)=lowF a b:=by
 obtain⟨e1,e2⟩:=low_uniq hb h (zbj a hb)
 rw[e1,e2]
theorem pos_of_mul{x y:Int}(h:0<x*y)(hy:0<y):0<x:=by
 refine Int.not_le.mp fun hn=> ?_
 have:=yby (a:= -x) (b:=y) (by omega) (by omega)
 grind
theorem lowF_pos{a:Int}{b:Nat}(hb:0<b):0<(lowF a b).1↔0<a:=by
 have l:=zbj a hb
 have e:=l.eq
 have hv:(0:Int)<((lowF a b).2:Int):=by have:=l.pos;omega
 have bi:(0:Int)<(b:Int):=by omega
 constructor
 ·intro h
  have:0<(lowF a b).1*(b:Int):=yds h bi
  rw[e]at this
  exact pos_of_mul this hv
 ·intro h
  have:0<a*((lowF a b).2:Int):=yds h hv
  rw[<-e]at this
  exact pos_of_mul this bi
structure Sh(n:Nat)(L:List (List Int))(wl:List Int)(ov:Nat)(Z:Int)(Y X:Nat->Int):Prop where
 pos:0<ov
 big:ov<=39916800
 yn:∀k,0<=Y k
 xn:∀p,0<=X p
 tot:Sx.sm L.length Y=Z
 eno:∀p,p<n->(ov:Int)*wtF wl p<=Sx.sm L.length fun k=>if setS L k p=true then Y k else 0
 lig:∀k,k<L.length->(Sx.sm n fun p=>if setS L k p=true then X p else 0)<=(ov:Int)
 wor:(Sx.sm n fun p=>wtF wl p*X p)=Z
theorem sh_of{n:Nat}{L:List (List Int)}{wl:List Int}{T:Sx.Tab}(hg:TG n L.length (setS L) (wtF wl) T)(hz:∀c,c<n->0<=T.cell L.length c):
  Sh n L wl T.over.toNat (T.cell L.length n) (fun k=>Sx.Ys n L.length T (n+k)) (fun p=>Sx.Xs n L.length T p):=by
 have ho:=hg.over
 have eo:((T.over.toNat:Nat):Int)=T.over:=by omega
 refine⟨by omega,by omega,fun k=>Sx.ys_nn hz _,fun p=>hg.good.xs_nn _,hg.good.total,fun p hp=> ?_,fun k hk=> ?_,hg.good.prices⟩
 ·rw[eo,hg.good.enough hp]
  have:=Sx.ys_nn hz p
  omega
 ·rw[eo];exact hg.good.light hk
theorem cov_of{ts:List (Int×Int)}{n:Nat}{ss:List (List Int)}(h:SortedF ss ts false n){p:Nat}(hp:p<n):∃k,k<ss.length/\setS ss k p=true:=by
 have sk:SetK ts false n [(p:Int)]:=⟨yce _ _,fun x hx=>by rw[yal.mp hx];omega,fun x hx y hy hn=>absurd ((yal.mp hx).trans (yal.mp hy).symm) hn⟩
 obtain⟨t,ht,hx⟩:=ext_full sk
 have ht':=h.1.mem_iff.mpr ht
 obtain⟨k,hk,rfl⟩:=ybi ht'
 refine⟨k,hk,?_⟩
 unfold setS
 rw[yai,yag hk]
 exact decide_eq_true (hx _ yah)
theorem sorted_len{ts:List (Int×Int)}{n:Nat}{ss:List (List Int)}(h:SortedF ss ts false n)(hn:n<=10):ss.length<=36:=by rw[h.1.length_eq];exact fulls_len hn
noncomputable def layOf(ss:List (List Int))(ov:Nat)(Y:Nat->Int):List (List Int×(Int×Nat)):=((List.range ss.length).filter fun k=>decide (0<Y k)).map fun k=>(ss.getD k [],lowF (Y k) ov)
noncomputable def prcOf(n ov:Nat)(X:Nat->Int):List (Int×Nat):=(List.range n).map fun p=>lowF (X p) ov
section
variable{K:W.Frag}
noncomputable def FrA(K:W.Frag)(H:Hp)(a:Addr)(f:Int×Nat):Prop:=SqT K H a [.int f.1,.int ((f.2:Nat):Int)]
noncomputable def ShrV(K:W.Frag)(H:Hp)(v:V)(q:List Int×(Int×Nat)):Prop:=∃t sa fa,v= .ref t/\SqT K H t [.ref sa,.ref fa]/\SqT K H sa (q.1.map V.int)/\FrA K H fa q.2
noncomputable def LayV(K:W.Frag)(H:Hp):List V->List (List Int×(Int×Nat))->Prop:=Paired (ShrV K H)
noncomputable def FrsV(K:W.Frag)(H:Hp):List V->List (Int×Nat)->Prop:=Paired fun v f=>∃a,v= .ref a/\FrA K H a f
theorem ShrV.same{H H':Hp}{v:V}{q:List Int×(Int×Nat)}(h:ShrV K H v q)(s:Same H H'):ShrV K H' v q:=by
 obtain⟨t,sa,fa,e,h1,h2,h3⟩:=h
 exact⟨t,sa,fa,e,s.tup h1,s.tup h2,s.tup h3⟩
theorem LayV.same{H H':Hp}{vs:List V}{l:List (List Int×(Int×Nat))}(h:LayV K H vs l)(s:Same H H'):LayV K H' vs l:=Paired.mapP h fun _ _ z=>z.same s
theorem FrsV.same{H H':Hp}{vs:List V}{l:List (Int×Nat)}(h:FrsV K H vs l)(s:Same H H'):FrsV K H' vs l:=Paired.mapP h fun _ _ ⟨a,e,z⟩=>⟨a,e,s.tup z⟩
theorem Paired.snoc{α β:Type}{R:α->β->Prop}:∀{l:List α} {m:List β} {a:α} {b:β},Paired R l m->R a b->Paired R (l++[a]) (m++[b])
 |_,_,_,_,.nil,h=> .cons h .nil
 |_,_,_,_,.cons r t,h=> .cons r (Paired.snoc t h)
theorem Paired.at_{α β:Type}{R:α->β->Prop}:∀{l:List α} {m:List β} {i:Nat} {a:α},Paired R l m->l[i]? =some a->∃b,m[i]? =some b/\R a b
 |_,_,_,_,.nil,e=>by simp at e
 |_,_,0,_,.cons r _,e=>by simp at e;subst e;exact⟨_,rfl,r⟩
 |_,_,i+1,a,.cons _ t,e=>by
  obtain⟨b,h1,h2⟩:=Paired.at_ (i:=i) (a:=a) t (by simpa using e)
  exact⟨b,by simpa using h1,h2⟩
theorem Paired.lenP{α β:Type}{R:α->β->Prop}:∀{l:List α} {m:List β},Paired R l m->l.length=m.length
 |_,_,.nil=>rfl
 |_,_,.cons _ t=>by simp[Paired.lenP t]
end
section
variable{P:Program}{w:World}{K:W.Frag}{mg:Str->Option Value}{base:Heap}
noncomputable def WantsL(n:Int)(wl:List Int):Prop:=(wl.length:Int)=n/\∀x∈wl,0<=x/\x<=99
theorem all_true(k:Nat):(List.replicate k true).all id=true:=by
 rw[ybb]
 intro b hb
 rw[(List.mem_replicate.mp hb).2];rfl
noncomputable def spNeedWants(K:W.Frag):Sp:=fun vs H Q _=>∃(a wa:Addr) (n:Int) (t:V) (wl:List Int),vs=[.ref a,.ref wa]/\SqT K H a [.int n,t]/\SqT K H wa (wl.map V.int)/\WantsL n wl/\∀H',Same H H'->Q .non H'
theorem sc_needWants:FnScope ["web","thing"] ["web","thing"] (defScope s_need_wants):=fsc
theorem ok_needWants{f f1:Addr}{fd d1:FuncData}{tk0:Tok}(F:Fun K "need_wants" "need_wants" s_need_wants f fd)(D1:Dfn K mg "is_whole" zdc ["thing"] f1 d1)(G1:FnOk P w K mg base CX0 1 f1 d1 ["thing"] (spWhole K))(m_len:mg "len"=none)(m_isinstance:mg "isinstance"=none)(m_tuple:mg "tuple"=none)(m_all:mg "all"=none)(m_MOST_WANT:mg "MOST_WANT"=some (.int 99 tk0)):
  FnOk P w K mg base CX0 2 f fd ["web","thing"] (spNeedWants K):=by
 refine F.ok sc_needWants (fun vs H Q E h=> ?_) (fun cdv A outer s H vs Q E hr h=> ?_)
 ·obtain⟨a,wa,n,t,wl,rfl,_⟩:=h
  rfl
 obtain⟨a,wa,n,t,wl,rfl,hA,hW,⟨hl,hb⟩,qq⟩:=h
 refine⟨_,(zae (zcr (PW.pt (pw_or (pt_not (zdl (zam call_isi rfl m_isinstance (by decide+kernel) (zaa (pv 1) (zaa (pe_bltn rfl m_tuple (v:= .ty "tuple") (by decide+kernel) rfl) zac))))) (pw_or1 (zap op_ne (zam zba rfl m_len PySem.boot_len (zaa (pv 1) zac)) (zao zat (pv 0) zag (fun _ _=>rfl)) (nomark _))))) pss_never zas) (zaf (zcr (pt_not (zdl (zam (call_all rfl) rfl m_all (by decide+kernel) (zaa (zaz (own:=["want"]) (caps:=[]) (ix:=[]) rfl (pi_tupL (pv 1)) rfl rfl .nil (fun _ _ _ _ _=>(zai (i:=0) (show(["want"]:List Str).Nodup from by decide+kernel) rfl (Or.inl rfl))) (fun _ _ _ _ _=>zbf) (fun _ _ _ _ _=>(pe_and (pc G1 hr D1 (zaa (pv 0) zac)) (pe_one (pe_chain op_le op_le zag (pv 0) (pe_glob rfl m_MOST_WANT (v:= .int 99) ⟨_,rfl⟩)))))) zac)))) pss_never zas))),?_⟩
 refine⟨_,rfl,.ref wa,"tuple",_,rfl,.inl ⟨rfl,_,hW⟩,.inr (.inr (.inl rfl)),_,rfl,?_⟩
 refine iteF ?_
 refine⟨_,rfl,wa,_,rfl,.inr hW,fun hz=>⟨_,rfl,a,_,_,.int n,rfl,rfl,hA,rfl,rfl,_,rfl,?_⟩⟩
 have e1:(!decide (V.int (((wl.map V.int).length:Nat):Int)=V.int n))=false:=by rw[yaa,hl];simp
 rw[e1]
 refine iteF ?_
 refine⟨_,rfl,wa,_,rfl,hW,fun hz=> ?_⟩
 refine comp_tup (xs:=wl.map V.int) (fun i acc σ H'=>acc=(List.replicate i true).map V.bl/\H'=H/\∃o,σ=[o]) ⟨rfl,rfl,_,rfl⟩ (fun i acc σ H' _ p=>by rw[p.2.1];exact hW) (fun i acc σ H' _ p=>by rw[p.1,yaa,ydz];exact yac _) hz (fun i x acc σ H' hx p=> ?_) (fun acc σ H' p=> ?_)
 ·obtain⟨rfl,rfl,o,rfl⟩:=p
  rw[yaf]at hx
  cases ex:wl[i]? with
  |none=>rw[ex]at hx;cases hx
  |some y=>
   rw[ex]at hx
   cases hx
   have hy:=hb y (yav ex)
   refine⟨_,rfl,.int y,.int y,rfl,.int _,_,rfl,iteT ?_⟩
   refine⟨_,rfl,_,_,rfl,rfl,_,rfl,?_⟩
   rw[decide_eq_true hy.1]
   refine iteT ?_
   refine⟨_,_,rfl,rfl,?_,rfl,_,rfl⟩
   show _++[V.bl (decide (y<=99))]=_
   rw[decide_eq_true hy.2,List.replicate_succ',yad];rfl
 ·intro p1 hp1
  obtain⟨rfl,rfl,_⟩:=p
  refine⟨p1,_,rfl,SqL.of zab,_,rfl,?_⟩
  rw[all_true]
  exact iteF (qq _ (zad hp1 _))
noncomputable def spShares(K:W.Frag):Sp:=fun vs H Q _=>∃(a wa:Addr) (n:Int) (ts:List (Int×Int)) (wl:List Int),vs=[.ref a,.ref wa]/\WebIs K H a n ts/\SqT K H wa (wl.map V.int)/\WantsL n wl/\
 ∀(r va la pa:Addr) (lrefs prefs:List V) (ss:List (List Int)) (ov:Nat) (Z:Int) (Y X:Nat->Int) H',Same H H'->H' r=some (.tup [.ref va,.ref la,.ref pa])->FrA K H' va (lowF Z ov)->H' la=some (.lst lrefs)->LayV K H' lrefs (layOf ss ov Y)->H' pa=some (.lst prefs)->FrsV K H' prefs (prcOf n.toNat ov X)->
  SortedF ss ts false n.toNat->Sh n.toNat ss wl ov Z Y X->H la=none->H pa=none->la≠pa->Q (.ref r) H'
theorem zde:FnScope ["web","wants","n","sets","tableau","given","laying","prices"] ["web","wants"] (defScope s_shares):=fsc
theorem ok_shares{f f1 f2 f3 f4 f5 f6 f7 f8 C:Addr}{fd d1 d2 d3 d4 d5 d6 d7 d8:FuncData}(F:Fun K "shares" "shares" s_shares f fd)
  (Cc:Cls K C)(n_cells:NoAttr K C "cells")(n_over:NoAttr K C "over")(n_columns:NoAttr K C "columns")(n_rows:NoAttr K C "rows")(m_Tableau:mg "Tableau"=some (.ref C))(D1:Dfn K mg "need_web" zch ["thing"] f1 d1)(G1:FnOk P w K mg base CX0 7 f1 d1 ["thing"] (spNeedWeb K))(D2:Dfn K mg "need_wants" s_need_wants ["web","thing"] f2 d2)(G2:FnOk P w K mg base CX0 2 f2 d2 ["web","thing"] (spNeedWants K))(D3:Dfn K mg "full_apart" zcw ["web"] f3 d3)(G3:FnOk P w K mg base CX0 8 f3 d3 ["web"] (spFullApart K))(D4:Mdf K C "__init__" "Tableau.__init__" zcv ["self","sets","wants"] f4 d4)(Mk4:Mk K C f4)(G4m':FnOk P w K mg base CX0 1 f4 d4 ["self","sets","wants"] (spTIni K C))(D5:Mdf K C "solve" "Tableau.solve" zcl ["self"] f5 d5)(G5':FnOk P w K mg base CX0 3 f5 d5 ["self"] (spTSo K C))(D6:Mdf K C "share_of" "Tableau.share_of" zbq ["self","name"] f6 d6)(G6':FnOk P w K mg base CX0 4 f6 d6 ["self","name"] (spTSh K C))(D7:Mdf K C "price_of" "Tableau.price_of" zbr ["self","name"] f7 d7)(G7':FnOk P w K mg base CX0 4 f7 d7 ["self","name"] (spTPo K C))(D8:Mdf K C "fraction_at" "Tableau.fraction_at" zaq ["self","row","column"] f8 d8)(G8':FnOk P w K mg base CX0 3 f8 d8 ["self","row","column"] (spTFa K C))(m_enumerate:mg "enumerate"=none)(m_range:mg "range"=none):
  FnOk P w K mg base CX0 9 f fd ["web","wants"] (spShares K):=by
 have G4m:FnOk P w K mg base CX0 7 f4 d4 ["self","sets","wants"] (spTIni K C):=G4m'.mono (by decide)
 have G5:FnOk P w K mg base CX0 8 f5 d5 ["self"] (spTSo K C):=G5'.mono (by decide)
 have G6:FnOk P w K mg base CX0 8 f6 d6 ["self","name"] (spTSh K C):=G6'.mono (by decide)
 have G7:FnOk P w K mg base CX0 8 f7 d7 ["self","name"] (spTPo K C):=G7'.mono (by decide)
 have G8:FnOk P w K mg base CX0 8 f8 d8 ["self","row","column"] (spTFa K C):=G8'.mono (by decide)
 refine F.ok zde (fun vs H Q E h=> ?_) (fun cdv A outer s H vs Q E hr h=> ?_)
 ·obtain⟨a,wa,n,ts,wl,rfl,_⟩:=h
  rfl
 obtain⟨a,wa,n,ts,wl,rfl,hA,hW,hwl,qq⟩:=h
 refine⟨_,(zae (ps_expr (pc G1 hr D1 (zaa (pv 0) zac))) (zae (ps_expr (pc G2 hr D2 (zaa (pv 0) (zaa (pv 1) zac)))) (zae (zal (i:=2) zde.nd rfl (Or.inr rfl) (zao zat (pv 0) zag (fun _ _=>rfl))) (zae (zal (i:=3) zde.nd rfl (Or.inl rfl) (pc G3 hr D3 (zaa (pv 0) zac))) (zae (zal (i:=4) zde.nd rfl (Or.inr rfl) (pe_make Mk4 G4m hr rfl m_Tableau D4.b .nil pass0 (zaa (pv 3) (zaa (pv 1) zac)))) (zae (ps_expr (pe_meth0 (pv 4) Cc D5.m G5 hr D5.b .nil pass0)) (zae (zcq (i:=5) (own:=["k","some"]) (caps:=["tableau","n"]) (ix:=[4,2]) zde.nd rfl (Or.inl rfl) rfl (pi_enum rfl m_enumerate (zaa (pv 3) zac)) rfl rfl (.cons rfl rfl (.cons rfl rfl .nil)) (fun _ _ _ _ _=>(pg_tupK K (n:=2) rfl (zbb (zai (i:=0) (show(["k","some","tableau","n"]:List Str).Nodup from by decide+kernel) rfl (Or.inl rfl)) (zbb (zai (i:=1) (show(["k","some","tableau","n"]:List Str).Nodup from by decide+kernel) rfl (Or.inl rfl)) pgs_nil)))) (fun _ _ _ _ _=>zbf) (fun _ _ _ _ _=>(zaw (zaa (pv 1) (zaa (pe_meth (pv 2) Cc D6.m G6 hr D6.b .nil pass0 (zaa (zan zby (pv 3) (pv 0)) zac)) zac))))) (zae (zcq (i:=6) (own:=["share"]) (caps:=[]) (ix:=[]) zde.nd rfl (Or.inl rfl) rfl (zcm (pv 5)) rfl rfl .nil (fun _ _ _ _ _=>(zai (i:=0) (show(["share"]:List Str).Nodup from by decide+kernel) rfl (Or.inl rfl))) (fun _ _ _ _ _=>zdk (zap op_gt (zao (ix_tupK K) (zao (ix_tupK K) (pv 0) zag (fun _ _=>rfl)) zag (fun _ _=>rfl)) zag (nomark _))) (fun _ _ _ _ _=>(pv 0))) (zae (zcq (i:=7) (own:=["place"]) (caps:=["tableau"]) (ix:=[4]) zde.nd rfl (Or.inl rfl) rfl (zay rfl m_range (zaa (pv 2) zac)) rfl rfl (.cons rfl rfl .nil) (fun _ _ _ _ _=>(zai (i:=0) (show(["place","tableau"]:List Str).Nodup from by decide+kernel) rfl (Or.inl rfl))) (fun _ _ _ _ _=>zbf) (fun _ _ _ _ _=>(pe_meth (pv 1) Cc D7.m G7 hr D7.b .nil pass0 (zaa (pv 0) zac)))) (zaf (zak (zaw (zaa (pe_meth (pv 4) Cc D8.m G8 hr D8.b .nil pass0 (zaa (pe_un un_neg zag) (zaa (pe_un un_neg zag) zac))) (zaa (pv 6) (zaa (pv 7) zac))))))))))))))),?_⟩
 have h0:=hA.h0
 have h10:=hA.h1
 refine⟨_,rfl,.ref a,_,rfl,hA.web.dv.dx,hA.ok,fun H1 s1=> ?_⟩
 obtain⟨tt1,rr1,w1,w2,w3⟩:=id (hA.same s1).web
 refine⟨_,rfl,_,rfl,a,wa,n,_,wl,rfl,w1,s1.tup hW,hwl,fun H2 s2=> ?_⟩
 have s12:=s1.trans s2
 have hA2:=hA.same s12
 obtain⟨tt2,rr2,x1,x2,x3⟩:=id hA2.web
 refine⟨_,rfl,a,_,_,.int n,rfl,rfl,x1,rfl,?_⟩
 refine⟨_,rfl,a,n,ts,rfl,hA2,fun sl ss H3 s3 hSet hSort hsl=> ?_⟩
 obtain⟨its,hS,hP,hss⟩:=hSet
 have s13:=s12.trans s3
 have hm:its.length=ss.length:=by rw[<-hss,yaa]
 have hm36:=sorted_len hSort (by omega)
 have hwn:wl.length=n.toNat:=by have:=hwl.1;omega
 refine⟨_,rfl,_,rfl,fun o dx ho hdx hne=> ?_⟩
 have sM:Same H3 (upd (upd H3 dx (.own o)) o (.ins C dx [])):=(zad hdx _).trans (zad (by rw[zaj (Ne.symm hne)];exact ho) _)
 refine⟨o,dx,sl,wa,H3,its,wl,rfl,zab,sM,ho,sM _ _ hS,fun p hp=>sM.tup (hP p hp),sM.tup (s13.tup hW),by omega,by omega,fun H4 hT4=>⟨rfl,?_⟩⟩
 rw[hss,hm,hwn]at hT4
 have hSta:Sta n.toNat ss.length (setS ss) (wtF wl):=by
  refine⟨by omega,by omega,fun p hp=> ?_,fun p hp=>cov_of hSort hp⟩
  unfold wtF
  rw[yai,yag (by omega)]
  exact hwl.2 _ (ycf _)
 obtain⟨dx4,cl4,co4,ro4,rw4,hA4⟩:=id hT4
 refine⟨_,rfl,o,dx4,_,rfl,hA4.at_,rfl,o,H3,n.toNat,ss.length,setS ss,wtF wl,_,rfl,hT4,hSta,Sx.start_good,fun T H5 hT5 hg5 hz5=> ?_⟩
 have hG:=hSta.tg hg5
 have hSh:=sh_of hG hz5
 obtain⟨dx5,cl5,co5,ro5,rw5,hA5⟩:=id hT5
 have s35:=hA5.same
 have ovp:=hSh.pos
 generalize hY:(fun k=>Sx.Ys n.toNat ss.length T (n.toNat+k))=Y at *
 generalize hX:(fun p=>Sx.Xs n.toNat ss.length T p)=X at *
 -- given
 refine⟨_,rfl,false,sl,_,rfl,SqL.of (s35 _ _ hS),fun hz=> ?_⟩
 refine comp_enum (K:=K) (b:=false) (a:=sl) (xs:=its.map fun p=>V.ref p.1) (fun i acc σ H'=>LayV K H' acc ((List.range i).map fun k=>(ss.getD k [],lowF (Y k) T.over.toNat))/\Same H5 H'/\∃o1 o2,σ=[o1,o2,some (.ref o),some (.int n)]) ⟨.nil,Same.refl _,_,_,rfl⟩ (fun i acc σ H' _ p=>p.2.1.seq (SqL.of (s35 _ _ hS))) (fun i acc σ H' _ p=> ?_) hz (fun i v t acc σ H' hv p ht=> ?_) (fun acc σ H' p=> ?_)
 ·rw[Paired.lenP p.1,yaa,ybo];exact yac _
 ·obtain⟨hl,sm,o1,o2,rfl⟩:=p
  rw[yaf]at hv
  cases ev:its[i]? with
  |none=>rw[ev]at hv;cases hv
  |some it=>
   rw[ev]at hv
   cases hv
   have eg:ss.getD i []=it.2:=by rw[<-hss,yai,yaf,ev];rfl
   have t1:=zad ht (.tup [.int (i:Int),.ref it.1])
   have hT6:=hT5.sm (sm.trans t1)
   obtain⟨dx6,cl6,co6,ro6,rw6,hA6⟩:=id hT6
   refine⟨t,_,rfl,SqT.of zab,rfl,_,_,rfl,_,_,rfl,rfl,?_⟩
   refine⟨_,rfl,_,rfl,o,dx6,_,rfl,hA6.at_,rfl,_,rfl,_,rfl,_,_,rfl,rfl,o,H3,n.toNat,ss.length,n.toNat+i,setS ss,wtF wl,T,?_,hT6,hG,fun fa H7 u v' s7 e7 l7=> ?_⟩
   ·rw[show(((n.toNat+i:Nat)):Int)=n+(i:Int) by omega];rfl
   ·refine⟨(by show 2<=sizeLine;decide),fun tp htp=> ?_⟩
    have s8:=zad htp (.tup [.ref it.1,.ref fa])
    have s68:=t1.trans (s7.trans s8)
    have hlow:(u,v')=lowF (Y i) T.over.toNat:=by rw[<-hY];exact low_is ovp l7
    refine⟨?_,sm.trans s68,_,_,rfl⟩
    rw[ybx,yad]
    refine Paired.snoc (LayV.same hl s68) ⟨tp,it.1,fa,rfl,SqT.of zab,?_,?_⟩
    ·show SqT K _ it.1 ((ss.getD i []).map V.int)
     rw[eg]
     exact(s35.trans (sm.trans s68)).tup (hP it (yav ev))
    ·show FrA K _ fa (lowF (Y i) T.over.toNat)
     rw[<-hlow]
     exact s8.tup (SqT.of e7)
 intro gl hgl
 obtain⟨hl,sm5,_⟩:=p
 rw[yaa,hm]at hl
 have g1:=zad hgl (.lst acc)
 have s6:=sm5.trans g1
 have eg1:(upd H' gl (.lst acc)) gl=some (.lst acc):=zab
 have hl6:=LayV.same hl g1
 generalize (upd H' gl (.lst acc))=H6 at *
 -- laying
 refine⟨_,rfl,gl,_,rfl,SqL.of eg1,fun hz=> ?_⟩
 refine zco (xs:=acc) (fun i acc' σ H'=>H'=H6/\LayV K H6 acc' (((List.range i).filter fun k=>decide (0<Y k)).map fun k=>(ss.getD k [],lowF (Y k) T.over.toNat))/\∃o1,σ=[o1]) ⟨rfl,.nil,_,rfl⟩ (fun i acc' σ H' _ p=>by rw[p.1];exact SqL.of eg1) (fun i acc' σ H' _ p=> ?_) hz (fun i v acc' σ H' hv p=> ?_) (fun acc' σ H' p=> ?_)
 ·rw[Paired.lenP p.2.1,yaa]
  exact yat (ybe _ _) (by rw[ybo];exact yac _)
 ·obtain⟨rfl,hl',o1,rfl⟩:=p
  obtain⟨qv,eq1,hv1⟩:=Paired.at_ hl6 hv
  have hi:i<ss.length:=by
   have:=(yaq.mp hv).1
   rw[Paired.lenP hl6,yaa,ybo]at this
   exact this
  rw[yaf,ydt hi]at eq1
  have eq2:qv=(ss.getD i [],lowF (Y i) T.over.toNat):=(Option.some.inj eq1).symm
  obtain⟨t,sa,fa,rfl,h1,h2,h3⟩:=id hv1
  have h3':FrA K H' fa (lowF (Y i) T.over.toNat):=by rw[eq2]at h3;exact h3
  refine⟨_,rfl,t,_,_,.ref fa,rfl,rfl,h1,rfl,fa,_,_,.int (lowF (Y i) T.over.toNat).1,rfl,rfl,h3',rfl,_,_,rfl,rfl,_,rfl,?_⟩
  have go:((List.range (i+1)).filter fun k=>decide (0<Y k))=((List.range i).filter fun k=>decide (0<Y k))++(if decide (0<Y i)=true then[i]else[]):=by
   rw[ybx,ycx]
   congr 1
   rw[ycs]
   split<;>rfl
  have ed:decide (0<(lowF (Y i) T.over.toNat).1)=decide (0<Y i):=decide_eq_decide.mpr (lowF_pos ovp)
  refine ite2 (fun c=> ?_) (fun c=> ?_)
  ·have c':decide (0<Y i)=true:=by rw[<-ed];exact c
   refine⟨_,rfl,rfl,?_,_,rfl⟩
   rw[go,if_pos c',yad]
   refine Paired.snoc hl' ?_
   rw[eq2]at hv1
   exact hv1
  ·have c':¬decide (0<Y i)=true:=by rw[<-ed];exact c
   refine⟨rfl,?_,_,rfl⟩
   rw[go,if_neg c',ybr]
   exact hl'
 intro la hla
 obtain⟨rfl,hlay,_⟩:=p
 rw[Paired.lenP hl6,yaa,ybo]at hlay
 have g2:=zad hla (.lst acc')
 have s7:=s6.trans g2
 have ela:(upd H' la (.lst acc')) la=some (.lst acc'):=zab
 have hlay7:=LayV.same hlay g2
 have hT7:=hT5.sm s7
 generalize (upd H' la (.lst acc'))=H7 at *
 -- prices
 refine⟨_,rfl,n,rfl,by omega,by omega,?_⟩
 refine zbn (n:=n.toNat) (fun i acc2 σ H2=>FrsV K H2 acc2 ((List.range i).map fun p=>lowF (X p) T.over.toNat)/\Same H7 H2/\∃o1,σ=[o1,some (.ref o)]) ⟨.nil,Same.refl _,_,rfl⟩ (fun i acc2 σ H2 hi p=> ?_) (by rw[sizeLine_eq];omega) (fun i acc2 σ H2 hi p=> ?_) (fun acc2 σ H2 p=> ?_)
 ·rw[Paired.lenP p.1,yaa,ybo];exact yac _
 ·obtain⟨hf,sm,o1,rfl⟩:=p
  have hT8:=hT7.sm sm
  obtain⟨dx8,cl8,co8,ro8,rw8,hA8⟩:=id hT8
  refine⟨_,rfl,o,dx8,_,rfl,hA8.at_,rfl,_,rfl,o,H3,n.toNat,ss.length,i,setS ss,wtF wl,T,by rw[Int.zero_add];rfl,hT8,hG,fun fa H9 u v' s9 e9 l9=> ?_⟩
  have hlow:(u,v')=lowF (X i) T.over.toNat:=by rw[<-hX];exact low_is ovp l9
  refine⟨?_,sm.trans s9,_,rfl⟩
  rw[ybx,yad]
  refine Paired.snoc (FrsV.same hf s9) ⟨fa,rfl,?_⟩
  show FrA K H9 fa (lowF (X i) T.over.toNat)
  rw[<-hlow]
  exact SqT.of e9
 intro pa hpa
 obtain⟨hf,sm7,_⟩:=p
 have g3:=zad hpa (.lst acc2)
 have s8:=sm7.trans g3
 have epa:(upd H2 pa (.lst acc2)) pa=some (.lst acc2):=zab
 have hf8:=FrsV.same hf g3
 have hT8:=hT7.sm s8
 have nlp:la≠pa:=zah (sm7 _ _ ela) hpa
 generalize (upd H2 pa (.lst acc2))=H8 at *
 obtain⟨dx8,cl8,co8,ro8,rw8,hA8⟩:=id hT8
 refine⟨_,rfl,o,dx8,_,rfl,hA8.at_,rfl,_,rfl,_,rfl,o,H3,n.toNat,ss.length,ss.length,n.toNat,_,_,setS ss,wtF wl,T,rfl,hT8,hG,.inr ⟨rfl,rfl⟩,.inr ⟨rfl,rfl⟩,fun va H9 u v' s9 e9 l9=> ?_⟩
 refine⟨_,rfl,_,rfl,(by show 3<=sizeLine;decide),fun r hr'=> ?_⟩
 have s10:=zad hr' (.tup [.ref va,.ref la,.ref pa])
 have s810:=s9.trans s10
 have hlow:(u,v')=lowF (T.cell ss.length n.toNat) T.over.toNat:=low_is ovp l9
 refine qq r va la pa acc' acc2 ss T.over.toNat (T.cell ss.length n.toNat) Y X _ (s13.trans (s35.trans (s7.trans (s8.trans s810)))) zab ?_ ((s8.trans s810) _ _ ela) (LayV.same hlay7 (s8.trans s810)) (s810 _ _ epa) (FrsV.same hf8 s810) hSort hSh ?_ ?_ nlp
 ·rw[<-hlow];exact s10.tup (SqT.of e9)
 ·exact(s13.trans (s35.trans s6)).none hla
 ·exact(s13.trans (s35.trans (s7.trans sm7))).none hpa
noncomputable def oneL(n:Nat):List Int:=List.replicate n 1
noncomputable def spValue(K:W.Frag):Sp:=fun vs H Q _=>∃(a:Addr) (n:Int) (ts:List (Int×Int)),vs=[.ref a]/\WebIs K H a n ts/\
 ∀(va:Addr) (ss:List (List Int)) (ov:Nat) (Z:Int) (Y X:Nat->Int) H',Same H H'->FrA K H' va (lowF Z ov)->SortedF ss ts false n.toNat->Sh n.toNat ss (oneL n.toNat) ov Z Y X->Q (.ref va) H'
theorem sc_value:FnScope ["web"] ["web"] (defScope s_value):=fsc
theorem ok_value{f f1 f2:Addr}{fd d1 d2:FuncData}(F:Fun K "value" "value" s_value f fd)(D1:Dfn K mg "need_web" zch ["thing"] f1 d1)(G1:FnOk P w K mg base CX0 7 f1 d1 ["thing"] (spNeedWeb K))(D2:Dfn K mg "shares" s_shares ["web","wants"] f2 d2)(G2:FnOk P w K mg base CX0 9 f2 d2 ["web","wants"] (spShares K)):
  FnOk P w K mg base CX0 10 f fd ["web"] (spValue K):=by
 refine F.ok sc_value (fun vs H Q E h=> ?_) (fun cdv A outer s H vs Q E hr h=> ?_)
 ·obtain⟨a,n,ts,rfl,_⟩:=h
  rfl
 obtain⟨a,n,ts,rfl,hA,qq⟩:=h
 refine⟨_,(zae (ps_expr (pc G1 hr D1 (zaa (pv 0) zac))) (zaf (zak (zao zat (pc G2 hr D2 (zaa (pv 0) (zaa (zan op_repT (zaw (zaa zag zac)) (zao zat (pv 0) zag (fun _ _=>rfl))) zac))) zag (fun _ _=>rfl))))),?_⟩
 have h0:=hA.h0
 have h10:=hA.h1
 refine⟨_,rfl,.ref a,_,rfl,hA.web.dv.dx,hA.ok,fun H1 s1=> ?_⟩
 obtain⟨tt1,rr1,w1,w2,w3⟩:=id (hA.same s1).web
 refine⟨_,rfl,(by show 1<=sizeLine;decide),fun p1 hp1=> ?_⟩
 have s2:=zad hp1 (.tup [.int 1])
 refine⟨_,rfl,a,_,_,.int n,rfl,rfl,s2.tup w1,rfl,p1,n,_,rfl,rfl,SqT.of zab,(fun e=>nomatch e),by omega,by omega,?_,fun wa H3 s3 h3=> ?_⟩
 ·show 1*n.toNat<=1000
  omega
 have ew:(List.replicate n.toNat [V.int 1]).flatten=(oneL n.toNat).map V.int:=by
  unfold oneL
  generalize n.toNat=k
  induction k with
  |zero=>rfl
  |succ k ih=>rw[ybv,yct,ih,ybv];rfl
 rw[ew]at h3
 have s13:=s1.trans (s2.trans s3)
 refine⟨a,wa,n,ts,oneL n.toNat,rfl,hA.same s13,h3,⟨by unfold oneL;rw[ydz];omega,fun x hx=> ?_⟩,fun r va la pa lrefs prefs ss ov Z Y X H4 s4 e1 e2 e3 e4 e5 e6 hSort hSh _ _ _=> ?_⟩
 ·rw[(List.mem_replicate.mp hx).2];decide
 exact⟨r,_,_,.ref va,rfl,rfl,SqT.of e1,rfl,qq va ss ov Z Y X H4 (s13.trans s4) e2 hSort hSh⟩
noncomputable def frS(D:Nat):List (Int×Nat)->Int
 |[]=>0
 |f::fs=>f.1*((D/f.2:Nat):Int)+frS D fs
theorem frS_app(D:Nat):∀(l m:List (Int×Nat)),frS D (l++m)=frS D l+frS D m
 |[],m=>by simp[frS]
 |f::l,m=>by simp[frS,frS_app D l m,Int.add_assoc]
theorem frS_one(D:Nat)(f:Int×Nat):frS D [f]=f.1*((D/f.2:Nat):Int):=by simp[frS]
structure DOk(D:Nat)(fs:List (Int×Nat)):Prop where
 pos:0<D
 le:D<=10000000000000000
 all:∀f∈fs,0<=f.1/\0<f.2/\f.2∣D
theorem lowF_dvd{a:Int}{D:Nat}(hD:0<D):(lowF a D).2∣D:=⟨Nat.gcd a.natAbs D,(Nat.div_mul_cancel (Nat.gcd_dvd_right _ _)).symm⟩
theorem lowF_mul{a:Int}{D:Nat}(hD:0<D):(lowF a D).1*((D/(lowF a D).2:Nat):Int)=a:=by
 have l:=zbj a hD
 have e:=l.eq
 have hv:=l.pos
 obtain⟨c,hc⟩:=lowF_dvd (a:=a) hD
 generalize (lowF a D).1=u at *
 generalize (lowF a D).2=v at *
 have:D/v=c:=by rw[hc];exact Nat.mul_div_cancel_left _ hv
 rw[this]
 rw[hc]at e
 push_cast at e
 refine yck (a:=(v:Int)) (by omega) ?_
 grind
theorem low_step{D v:Nat}{S a t u':Int}{bl v':Nat}(hD:0<D)(h:Low S D t bl)(hv:0<v)(dv:v∣D)(h2:Low (t*(v:Int)+a*(bl:Int)) (bl*v) u' v'):(u',v')=lowF (S+a*((D/v:Nat):Int)) D:=by
 have e1:=h.eq
 have e2:=h2.eq
 have hb:=h.pos
 obtain⟨c,hc⟩:=dv
 have ec:D/v=c:=by rw[hc];exact Nat.mul_div_cancel_left _ hv
 have key:u'*(D:Int)=(S+a*((D/v:Nat):Int))*(v':Int):=by
  rw[ec]
  refine yck (a:=(bl:Int)*(v:Int)) ?_ ?_
  ·have:=yds (a:=(bl:Int)) (b:=(v:Int)) (by omega) (by omega)
   omega
  ·have hcI:(D:Int)=(v:Int)*(c:Int):=by rw[hc];push_cast;rfl
   push_cast at e2
   have x1:u'*(D:Int)*((bl:Int)*(v:Int))=(D:Int)*(u'*((bl:Int)*(v:Int))):=by grind
   rw[x1,e2]
   have x2:(D:Int)*((t*(v:Int)+a*(bl:Int))*(v':Int))=((t*(D:Int))*(v:Int)+a*(D:Int)*(bl:Int))*(v':Int):=by grind
   rw[x2,e1]
   grind
 have l:=zbj (S+a*((D/v:Nat):Int)) hD
 generalize (S+a*((D/v:Nat):Int))=W at *
 -- lowest terms are one
 have e3:=l.eq
 have cr:u'*((lowF W D).2:Int)=(lowF W D).1*(v':Int):=by
  refine yef (a:=(D:Int)) (by omega) ?_
  have x:(D:Int)*(u'*((lowF W D).2:Int))=u'*(D:Int)*((lowF W D).2:Int):=by grind
  have y:(D:Int)*((lowF W D).1*(v':Int))=(lowF W D).1*(D:Int)*(v':Int):=by grind
  rw[x,y,key,e3];grind
 have cn:u'.natAbs*(lowF W D).2=(lowF W D).1.natAbs*v':=by
  have:=congrArg Int.natAbs cr
  rwa [ydx,ydx,ycy,ycy]at this
 have d1:v'∣(lowF W D).2:=(Nat.Coprime.symm h2.cop).dvd_of_dvd_mul_left (by rw[cn];exact ydg _ _)
 have d2:(lowF W D).2∣v':=(Nat.Coprime.symm l.cop).dvd_of_dvd_mul_left (by rw[<-cn];exact ydg _ _)
 have ev:=Nat.dvd_antisymm d1 d2
 have hp:=h2.pos
 refine Prod.ext ?_ ev
 rw[<-ev]at cr
 exact yck (a:=(v':Int)) (by omega) cr
theorem frS_nn{D:Nat}:∀{fs:List (Int×Nat)},(∀f∈fs,0<=f.1)->0<=frS D fs
 |[],_=>ybt _
 |f::fs,h=>by
  have h1:=h f yah
  have h2:=frS_nn (D:=D) (fs:=fs) fun g hg=>h g (yae _ hg)
  have:=yby h1 (ycr (D/f.2))
  show 0<=f.1*((D/f.2:Nat):Int)+frS D fs
  omega
theorem mem_sum{n:Nat}{X:Nat->Int}:∀{xs:List Int},xs.Nodup->(∀x∈xs,0<=x/\x<(n:Int))->(xs.map fun x=>X x.toNat).sum=Sx.sm n fun p=>if decide (((p:Nat):Int)∈xs)=true then X p else 0
 |[],_,_=>(Sx.sm_zero n fun i _=>by simp).symm
 |x::xs,nd,hb=>by
  obtain⟨nx,nd'⟩:=ycl.mp nd
  have hx:=hb x yah
  have ih:=mem_sum (X:=X) nd' fun y hy=>hb y (yae _ hy)
  show X x.toNat+(xs.map fun x=>X x.toNat).sum=_
  rw[ih]
  have e1:Sx.sm n (fun p=>if p=x.toNat then X p else 0)=X x.toNat:=by
   rw[Sx.sm_one (j:=x.toNat) n (by omega) fun i _ hi=>if_neg hi,if_pos rfl]
  rw[<-e1,<-Sx.sm_add]
  refine Sx.sm_congr n fun p hp=> ?_
  by_cases h:p=x.toNat
  ·have h1:((p:Nat):Int)=x:=by omega
   rw[if_pos h,if_neg (by rw[h1];simpa using nx),if_pos (by rw[h1];simp)]
   omega
  ·have h1:((p:Nat):Int)≠x:=by omega
   rw[if_neg h]
   have:decide (((p:Nat):Int)∈x::xs)=decide (((p:Nat):Int)∈xs):=by
    refine decide_eq_decide.mpr ⟨fun z=> ?_,yae _⟩
    rcases yam.mp z with z|z
    ·exact absurd z h1
    ·exact z
   rw[this];omega
theorem sm_le{f g:Nat->Int}:∀k,(∀i,i<k->f i<=g i)->Sx.sm k f<=Sx.sm k g
 |0,_=>ybt _
 |k+1,h=>Int.add_le_add (sm_le k fun i hi=>h i (by omega)) (h k (by omega))
theorem setk_of{n:Nat}{ts:List (Int×Int)}{ss:List (List Int)}(hS:SortedF ss ts false n){s:List Int}(h:s∈ss):SetK ts false n s:=sets_k n s (yar.mp (hS.1.mem_iff.mp h)).1
theorem nat_cm{k:Nat}(h:k<=10000000000000000)(x:Int):CMul x ((k:Nat):Int):= .inr ⟨by omega,by omega⟩
noncomputable def spAlow(K:W.Frag):Sp:=fun vs H Q _=>∃(a b:Nat),vs=[.int (a:Int),.int b]/\0<b/\b<=10^200/\∀p H' u v,Same H H'->H' p=some (.tup [.int u,.int ((v:Nat):Int)])->Low (a:Int) b u v->Q (.ref p) H'
theorem sc_alow:FnScope ["a","b","one","other"] ["a","b"] (defScope s_law_alow):=fsc
theorem ok_alow{f:Addr}{fd:FuncData}(F:Fun K "_law_alow" "_law_alow" s_law_alow f fd):FnOk P w K mg base CX0 1 f fd ["a","b"] (spAlow K):=by
 refine F.ok sc_alow (fun vs H Q E h=> ?_) (fun cdv A outer s H vs Q E hr h=> ?_)
 ·obtain⟨m,n,rfl,_⟩:=h
  rfl
 obtain⟨a,b,rfl,hb,hB,q⟩:=h
 refine⟨_,zae (zal (i:=2) sc_alow.nd rfl (Or.inl rfl) (pv 0)) (zae (zal (i:=3) sc_alow.nd rfl (Or.inl rfl) (pv 1)) (zae (ps_while PassesOwn.never (zap op_gt (pv 3) zag (nomark _)) (zaf (ps_par (i:=2) (j:=3) rfl sc_alow.nd rfl rfl (by decide) rfl rfl (zaa (pv 3) (zaa (zan op_mod (pv 2) (pv 3)) zac)) rfl))) (zaf (zak (zaw (zaa (zan op_fdivW (pv 0) (pv 2)) (zaa (zan op_fdivW (pv 1) (pv 2)) zac))))))),?_⟩
 refine⟨_,rfl,_,rfl,?_⟩
 refine⟨fun k σ H'=>H'=H/\∃(m':Nat),σ=[some (.int (a:Int)),some (.int (b:Int)),some (.int (m':Int)),some (.int (k:Int))]/\Nat.gcd m' k=Nat.gcd a b,⟨b,rfl,a,rfl,rfl⟩,?_⟩
 rintro k σ H' ⟨rfl,m',rfl,hg⟩
 refine⟨_,rfl,_,_,rfl,rfl,_,rfl,?_⟩
 refine ite2 (fun c=> ?_) (fun c=> ?_)
 ·have hk:0<k:=ydp.mp (of_decide_eq_true c)
  refine⟨fun σ' H2=>H2=H'/\σ'=[some (.int (a:Int)),some (.int (b:Int)),some (.int (k:Int)),some (.int ((m' %k:Nat):Int))],fun σ' H2 ⟨e1,e2⟩=>⟨m' %k,Nat.mod_lt _ hk,e1,k,e2,?_⟩,?_⟩
  ·rw[gcd_step];exact hg
  ·exact⟨_,rfl,_,rfl,_,rfl,_,_,rfl,rfl,ydp.mpr hk,_,_,rfl,rfl,rfl⟩
 ·have hk:k=0:=by
   rcases yek k with h|h
   ·exact h
   ·exfalso;exact c (decide_eq_true (ydp.mpr h))
  subst hk
  rw[Nat.gcd_zero_right]at hg
  have hg1:0<Nat.gcd a b:=Nat.gcd_pos_of_pos_right _ hb
  have hg2:(((Nat.gcd a b:Nat):Int)).natAbs<=10^200:=yat (gcd_le (a:Int) b hb) hB
  rw[hg]
  refine⟨_,rfl,_,rfl,_,_,rfl,rfl,⟨ydp.mpr hg1,hg2⟩,_,rfl,_,rfl,_,_,rfl,rfl,⟨ydp.mpr hg1,hg2⟩,(by show 2<=sizeLine;decide),fun p hp=> ?_⟩
  exact q p _ _ _ (zad hp _) (low_div (a:=(a:Int)) hp) (low_mk (a:Int) b hb)
theorem d400:10000000000000000*10000000000000000<=10^200:=by decide+kernel
noncomputable def spASum(K:W.Frag):Sp:=fun vs H Q _=>∃(la:Addr) (rs:List V) (fs:List (Int×Nat)) (D:Nat),vs=[.ref la]/\SqL K H la rs/\FrsV K H rs fs/\DOk D fs/\rs.length<=1000/\
 ∀(p:Addr) H',Same H H'->FrA K H' p (lowF (frS D fs) D)->Q (.ref p) H'
theorem sc_asum:FnScope ["some","top","below","a","b"] ["some"] (defScope s_law_asum):=fsc
theorem ok_asum{f f1:Addr}{fd d1:FuncData}(F:Fun K "_law_asum" "_law_asum" s_law_asum f fd)(D1:Dfn K mg "_law_alow" s_law_alow ["a","b"] f1 d1)(G1:FnOk P w K mg base CX0 1 f1 d1 ["a","b"] (spAlow K)):
  FnOk P w K mg base CX0 2 f fd ["some"] (spASum K):=by
 refine F.ok sc_asum (fun vs H Q E h=> ?_) (fun cdv A outer s H vs Q E hr h=> ?_)
 ·obtain⟨la,rs,fs,D,rfl,_⟩:=h
  rfl
 obtain⟨la,rs,fs,D,rfl,hL,hF,hD,hlen,q⟩:=h
 refine⟨_,(zae (zal (i:=1) sc_asum.nd rfl (Or.inl rfl) zag) (zae (zal (i:=2) sc_asum.nd rfl (Or.inl rfl) zag) (zae (ps_for PassesOwn.never rfl (zcm (pv 0)) (pg_tup rfl (zbb (zai (i:=3) sc_asum.nd rfl (Or.inl rfl)) (zbb (zai (i:=4) sc_asum.nd rfl (Or.inl rfl)) pgs_nil))) (zaf (ps_asg (pc G1 hr D1 (zaa (zan zby (zan zcn (pv 1) (pv 4)) (zan zcn (pv 3) (pv 2))) (zaa (zan zcn (pv 2) (pv 4)) zac))) (pg_tup rfl (zbb (zai (i:=1) sc_asum.nd rfl (Or.inl rfl)) (zbb (zai (i:=2) sc_asum.nd rfl (Or.inl rfl)) pgs_nil)))))) (zaf (zak (zaw (zaa (pv 1) (zaa (pv 2) zac)))))))),?_⟩
 have hl:=Paired.lenP hF
 have hD0:=hD.pos
 have hD1:=hD.le
 have nn:∀i,0<=frS D (fs.take i):=fun i=>frS_nn fun f hf=>(hD.all f (List.mem_of_mem_take hf)).1
 have z0:lowF 0 D=(0,1):=by
  have:=zbj 0 hD0
  refine(low_is hD0 ⟨by omega,by decide,by omega,by simp,by omega,fun _=>by omega⟩).symm
 refine⟨_,rfl,la,rs,rfl,hL,fun hz=> ?_⟩
 refine for_list (xs:=rs) (fun i σ H'=>Same H H'/\∃(o1 o2:Option V),σ=[some (.ref la),some (.int (lowF (frS D (fs.take i)) D).1),some (.int (((lowF (frS D (fs.take i)) D).2:Nat):Int)),o1,o2]) ⟨Same.refl _,_,_,by show _=[_,some (V.int (lowF 0 D).1),some (V.int (((lowF 0 D).2:Nat):Int)),_,_];rw[z0];rfl⟩ (fun i σ H' _ p=>p.1.seq hL) (fun i x σ H' hx p=> ?_) (fun σ H' p=> ?_)
 ·obtain⟨sm,o1,o2,rfl⟩:=p
  obtain⟨f,hf,t,rfl,ht0⟩:=Paired.at_ hF hx
  have ht:=sm.tup ht0
  obtain⟨f0,f1,f2⟩:=hD.all f (yav hf)
  have hfD:=Nat.le_of_dvd hD0 f2
  have l:=zbj (frS D (fs.take i)) hD0
  have l0:=l.nn (nn i)
  have lv:=l.lv
  have lp:=l.pos
  have es:frS D (fs.take (i+1))=frS D (fs.take i)+f.1*((D/f.2:Nat):Int):=by
   obtain⟨hi,rfl⟩:=yaq.mp hf
   rw[List.take_succ_eq_append_getElem hi,frS_app,frS_one]
  rw[es]
  generalize hS:frS D (fs.take i)=S at *
  generalize hu:(lowF S D).1=u at *
  generalize hv:(lowF S D).2=v at *
  refine⟨t,_,rfl,ht,rfl,_,_,rfl,_,_,rfl,rfl,?_⟩
  refine⟨_,rfl,_,rfl,_,_,rfl,rfl,nat_cm (by omega) _,_,rfl,_,rfl,_,_,rfl,rfl,nat_cm (by omega) _,_,_,rfl,rfl,_,rfl,_,rfl,_,_,rfl,rfl,nat_cm (by omega) _,?_⟩
  have p0:0<=u*(f.2:Int)+f.1*(v:Int):=Int.add_nonneg (yby l0 (by omega)) (yby f0 (by omega))
  have ea:(((u*(f.2:Int)+f.1*(v:Int)).toNat:Nat):Int)=u*(f.2:Int)+f.1*(v:Int):=ybp p0
  have hvf:0<v*f.2:=Nat.mul_pos lp f1
  have hvb:v*f.2<=10^200:=yat (Nat.mul_le_mul (yat lv hD1) (yat hfD hD1)) d400
  refine⟨(u*(f.2:Int)+f.1*(v:Int)).toNat,v*f.2,?_,hvf,hvb,fun p H2 u2 v2 s2 h2 hl2=> ?_⟩
  ·rw[ea];rfl
  rw[ea]at hl2
  have e2:=low_step hD0 l f1 f2 hl2
  refine⟨p,_,rfl,SqT.of h2,rfl,_,_,rfl,_,_,rfl,rfl,sm.trans s2,some (.int f.1),some (.int ((f.2:Nat):Int)),?_⟩
  rw[<-e2];rfl
 ·obtain⟨sm,o1,o2,rfl⟩:=p
  refine⟨_,rfl,_,rfl,(by show 2<=sizeLine;decide),fun r hr'=> ?_⟩
  refine q r _ (sm.trans (zad hr' _)) ?_
  have e2:lowF (frS D fs) D=lowF (frS D (fs.take rs.length)) D:=by rw[yde (by omega)]
  rw[e2]
  exact SqT.of zab
noncomputable def spANm(K:W.Frag):Sp:=fun vs H Q _=>∃(p p':Addr) (u u':Int) (v v':Nat),vs=[.ref p,.ref p']/\SqT K H p [.int u,.int ((v:Nat):Int)]/\SqT K H p' [.int u',.int ((v':Nat):Int)]/\v<=10000000000000000/\v'<=10000000000000000/\Q (.bl (decide (u*(v':Int)<=u'*(v:Int)))) H
theorem sc_anm:FnScope ["one","other"] ["one","other"] (defScope zbm):=fsc
theorem ok_anm{f:Addr}{fd:FuncData}(F:Fun K "_law_ano_more" "_law_ano_more" zbm f fd):
  FnOk P w K mg base CX0 1 f fd ["one","other"] (spANm K):=by
 refine F.ok sc_anm (fun vs H Q E h=> ?_) (fun cdv A outer s H vs Q E hr h=> ?_)
 ·obtain⟨p,p1,u,u1,v,v1,rfl,_⟩:=h
  rfl
 obtain⟨p,p1,u,u1,v,v1,rfl,h1,h2,b1,b2,q⟩:=h
 refine⟨_,(zaf (zak (pe_cmpR op_le (zan zcn (zao zat (pv 0) zag (fun _ _=>rfl)) (zao zat (pv 1) zag (fun _ _=>rfl))) (zan zcn (zao zat (pv 1) zag (fun _ _=>rfl)) (zao zat (pv 0) zag (fun _ _=>rfl))) (nomark _)))),?_⟩
 exact⟨_,rfl,p,_,_,.int u,rfl,rfl,h1,rfl,_,rfl,p1,_,_,.int v1,rfl,rfl,h2,rfl,_,_,rfl,rfl,nat_cm b2 _,_,rfl,p1,_,_,.int u1,rfl,rfl,h2,rfl,_,rfl,p,_,_,.int v,rfl,rfl,h1,rfl,_,_,rfl,rfl,nat_cm b1 _,_,_,rfl,rfl,q⟩
end
theorem apart_sum{n:Nat}{ts:List (Int×Int)}{ss:List (List Int)}{wl:List Int}{ov:Nat}{Z:Int}{Y X:Nat->Int}(hS:SortedF ss ts false n)(h:Sh n ss wl ov Z Y X){xs:List Int}(hk:SetK ts false n xs):
  (Sx.sm n fun p=>if decide (((p:Nat):Int)∈xs)=true then X p else 0)<=(ov:Int):=by
 obtain⟨t,ht,hx⟩:=ext_full hk
 obtain⟨k,hk',rfl⟩:=ybi (hS.1.mem_iff.mpr ht)
 refine yem (sm_le n fun p hp=> ?_) (h.lig k hk')
 have hxn:=h.xn p
 by_cases c:decide (((p:Nat):Int)∈xs)=true
 ·rw[if_pos c,if_pos]
  ·exact ybt _
  ·unfold setS
   rw[yai,yag hk']
   exact decide_eq_true (hx _ (of_decide_eq_true c))
 ·rw[if_neg c]
  split
  ·exact hxn
  ·exact ybt _
theorem wt_one{n p:Nat}(hp:p<n):wtF (oneL n) p=1:=by
 unfold wtF oneL
 rw[yai,List.getElem?_replicate_of_lt hp];rfl
theorem wd{n n':Nat}{ts:List (Int×Int)}{ss:List (List Int)}{wl:List Int}{ov:Nat}{Z:Int}{Y X:Nat->Int}(hS:SortedF ss ts false n)(h:Sh n ss wl ov Z Y X)(φ:Nat->Nat)(x:Nat->Int)(c:Int)(E:Nat->Bool)(hx:∀q,0<=x q)(hφ:∀q,q<n'->E q=true->φ q<n)(hc:∀s,SetK ts false n s->(Sx.sm n' fun q=>if(E q&&decide (((φ q:Nat):Int)∈s))=true then x q else 0)<=c):(ov:Int)*(Sx.sm n' fun q=>if E q=true then wtF wl (φ q)*x q else 0)<=Z*c:=by
 rw[<-Sx.sm_mul]
 have a2:(Sx.sm n' fun q=>(ov:Int)*(if E q=true then wtF wl (φ q)*x q else 0))<=Sx.sm n' fun q=>Sx.sm ss.length fun k=>Y k*(if(E q&&setS ss k (φ q))=true then x q else 0):=by
  refine sm_le n' fun q hq=> ?_
  by_cases e:E q=true
  ·rw[if_pos e]
   have:=ybf (h.eno (φ q) (hφ q hq e)) (hx q)
   rw[<-Sx.sm_mul]at this
   have e1:(Sx.sm ss.length fun k=>x q*(if setS ss k (φ q)=true then Y k else 0))=Sx.sm ss.length fun k=>Y k*(if(E q&&setS ss k (φ q))=true then x q else 0):=Sx.sm_congr _ fun k _=>by
    rw[e,Bool.true_and]
    split<;>grind
   rw[<-e1]
   have e2:(ov:Int)*(wtF wl (φ q)*x q)=x q*((ov:Int)*wtF wl (φ q)):=by grind
   rw[e2];exact this
  ·rw[if_neg e,yca]
   exact Sx.sm_nn _ fun k _=>by
    rw[Bool.eq_false_iff.mpr e,Bool.false_and,if_neg (by decide),yca]
    exact ybt _
 refine yem a2 ?_
 rw[Sx.sm_swap (fun q k=>Y k*(if(E q&&setS ss k (φ q))=true then x q else 0)) ss.length n']
 have a4:(Sx.sm ss.length fun k=>Sx.sm n' fun q=>Y k*(if(E q&&setS ss k (φ q))=true then x q else 0))<=Sx.sm ss.length fun k=>c*Y k:=by
  refine sm_le _ fun k hk=> ?_
  rw[Sx.sm_mul,ycp c]
  refine ybf ?_ (h.yn k)
  exact hc (ss.getD k []) (setk_of hS (by rw[yai,yag hk];exact ycf hk))
 refine yem a4 ?_
 rw[Sx.sm_mul,h.tot,ycp]
 exact ybt _
theorem mem_up{n:Nat}{q:Nat}:((q:Nat):Int)∈upto n↔q<n:=by
 unfold upto
 refine⟨fun h=> ?_,fun h=>ybc.mpr ⟨q,ybl.mpr h,rfl⟩⟩
 obtain⟨k,hk,e⟩:=ybc.mp h
 have:=ybl.mp hk
 omega
theorem val_e{n n':Nat}{ts ts':List (Int×Int)}{ss ss':List (List Int)}{ov ov':Nat}{Z Z':Int}{Y X Y' X':Nat->Int}(e:Nat)(irr:∀i,tiedL ts i i=false)(hn:∀q,q<n'->q≠e->q<n)(hom:∀i j:Nat,i<n'->j<n'->i≠e->j≠e->tiedL ts' i j=true->tiedL ts i j=true)(hS:SortedF ss ts false n)(hS':SortedF ss' ts' false n')(h:Sh n ss (oneL n) ov Z Y X)(h':Sh n' ss' (oneL n') ov' Z' Y' X'):(ov:Int)*Z'<=Z*(ov':Int)+(if e<n' then(ov:Int)*(ov':Int)else 0):=by
 have k:=wd (n':=n') hS h (fun q=>q) X' (ov':Int) (fun q=>decide (q≠e)) h'.xn (fun q hq he=>hn q hq (of_decide_eq_true he)) (fun s hs=>by
  have sk:SetK ts' false n' ((upto n').filter fun q=>decide (q≠(e:Int))&&decide (q∈s)):=by
   have mu:∀x∈((upto n').filter fun q=>decide (q≠(e:Int))&&decide (q∈s)),(0<=x/\x<(n':Int))/\x≠(e:Int)/\x∈s:=fun x hx=>by
    obtain⟨h1,h2⟩:=yar.mp hx
    rw[Bool.and_eq_true]at h2
    exact⟨(upto_ok (n':Int)).lt x h1,of_decide_eq_true h2.1,of_decide_eq_true h2.2⟩
   refine⟨(upto_ok (n':Int)).srt.filter _,fun x hx=>(mu x hx).1,fun x hx y hy hne=> ?_⟩
   obtain⟨⟨x0,x1⟩,x2,x3⟩:=mu x hx
   obtain⟨⟨y0,y1⟩,y2,y3⟩:=mu y hy
   cases c:tiedL ts' x y with
   |false=>rfl
   |true=>
    have:=hom x.toNat y.toNat (by omega) (by omega) (by omega) (by omega) (by rw[ybp x0,ybp y0];exact c)
    rw[ybp x0,ybp y0]at this
    have a:=hs.all x x3 y y3 hne
    rw[this]at a;cases a
  refine yem (yei (Sx.sm_congr n' fun q hq=> ?_)) (apart_sum hS' h' sk)
  have:(decide (q≠e)&&decide (((q:Nat):Int)∈s))=decide (((q:Nat):Int)∈(upto n').filter fun q=>decide (q≠(e:Int))&&decide (q∈s)):=by
   rw[Bool.eq_iff_iff,decide_eq_true_iff,yar,Bool.and_eq_true,Bool.and_eq_true,decide_eq_true_iff,decide_eq_true_iff,decide_eq_true_iff]
   exact⟨fun z=>⟨mem_up.mpr hq,by omega,z.2⟩,fun z=>⟨by omega,z.2.2⟩⟩
  rw[this])
 have z:Z'=(Sx.sm n' fun q=>if decide (q≠e)=true then wtF (oneL n) q*X' q else 0)+(if e<n' then X' e else 0):=by
  have t:(Sx.sm n' fun q=>if q=e then X' q else 0)=if e<n' then X' e else 0:=by
   by_cases c:e<n'
   ·rw[if_pos c,Sx.sm_one (j:=e) n' c fun i _ hi=>if_neg hi,if_pos rfl]
   ·rw[if_neg c]
    exact Sx.sm_zero n' fun i hi=>if_neg (by omega)
  rw[<-t,<-Sx.sm_add,<-h'.wor]
  refine Sx.sm_congr n' fun q hq=> ?_
  rw[wt_one hq,ycv]
  by_cases c:q=e
  ·rw[if_neg (by simpa using c),if_pos c];omega
  ·rw[if_pos (by simpa using c),if_neg c,wt_one (hn q hq c)];omega
 have le:(if e<n' then X' e else 0)<=if e<n' then(ov':Int)else 0:=by
  by_cases c:e<n'
  ·rw[if_pos c,if_pos c]
   have sk:SetK ts' false n' [(e:Int)]:=⟨yce _ _,fun x hx=>by rw[yal.mp hx];omega,fun x hx y hy hn=>absurd ((yal.mp hx).trans (yal.mp hy).symm) hn⟩
   have:=apart_sum hS' h' sk
   rw[Sx.sm_one (j:=e) n' c fun i _ hi=>if_neg (by simp;omega),if_pos (by simp)]at this
   exact this
  ·rw[if_neg c,if_neg c];exact ybt _
 rw[z,Int.mul_add]
 have le2:=ybf le (ycr ov)
 have e3:(ov:Int)*(if e<n' then(ov':Int)else 0)=if e<n' then(ov:Int)*(ov':Int)else 0:=by split<;>grind
 rw[e3]at le2
 exact Int.add_le_add k le2
theorem low_cmp{Z Z' c:Int}{ov ov':Nat}(p:0<ov)(p':0<ov')(k:(ov:Int)*Z'<=Z*(ov':Int)+c*((ov:Int)*(ov':Int))):(lowF Z' ov').1*((lowF Z ov).2:Int)<=((lowF Z ov).1+c*((lowF Z ov).2:Int))*((lowF Z' ov').2:Int):=by
 have l:=zbj Z p
 have l':=zbj Z' p'
 have e1:=l.eq
 have e2:=l'.eq
 have v1:=l.pos
 have v2:=l'.pos
 generalize (lowF Z ov).1=u at *
 generalize (lowF Z ov).2=v at *
 generalize (lowF Z' ov').1=u' at *
 generalize (lowF Z' ov').2=v' at *
 refine ydf (a:=(ov:Int)*(ov':Int)) ?_ (yds (by omega) (by omega))
 have x1:u'*(v:Int)*((ov:Int)*(ov':Int))=(u'*(ov':Int))*((v:Int)*(ov:Int)):=by grind
 have x2:(u+c*(v:Int))*(v':Int)*((ov:Int)*(ov':Int))=(u*(ov:Int))*((v':Int)*(ov':Int))+c*((ov:Int)*(ov':Int))*((v:Int)*(v':Int)):=by grind
 rw[x1,x2,e1,e2]
 have x3:Z'*(v':Int)*((v:Int)*(ov:Int))=((ov:Int)*Z')*((v:Int)*(v':Int)):=by grind
 have x4:Z*(v:Int)*((v':Int)*(ov':Int))+c*((ov:Int)*(ov':Int))*((v:Int)*(v':Int))=(Z*(ov':Int)+c*((ov:Int)*(ov':Int)))*((v:Int)*(v':Int)):=by grind
 rw[x3,x4]
 exact ycc k (yby (by omega) (by omega))
noncomputable def IsVal(n:Int)(ts:List (Int×Int))(f:Int×Nat):Prop:=∃(ss:List (List Int)) (ov:Nat) (Z:Int) (Y X:Nat->Int),SortedF ss ts false n.toNat/\Sh n.toNat ss (oneL n.toNat) ov Z Y X/\f=lowF Z ov
theorem IsVal.frc{n:Int}{ts:List (Int×Int)}{f:Int×Nat}(h:IsVal n ts f):0<=f.1/\0<f.2/\f.2<=39916800:=by
 obtain⟨ss,ov,Z,Y,X,a,b,rfl⟩:=h
 have l:=zbj Z b.pos
 refine⟨l.nn ?_,l.pos,yat (Nat.div_le_self _ _) b.big⟩
 rw[<-b.tot]
 exact Sx.sm_nn _ fun k _=>b.yn k
theorem IsVal.cmp{n n':Int}{ts ts':List (Int×Int)}{f f':Int×Nat}(h:IsVal n ts f)(h':IsVal n' ts' f')(e:Nat)(c:Int)(hc:if e<n'.toNat then c=1 else c=0)(irr:∀i,tiedL ts i i=false)(hn:∀q,q<n'.toNat->q≠e->q<n.toNat)(hom:∀i j:Nat,i<n'.toNat->j<n'.toNat->i≠e->j≠e->tiedL ts' i j=true->tiedL ts i j=true):f'.1*(f.2:Int)<=(f.1+c*(f.2:Int))*(f'.2:Int):=by
 obtain⟨ss,ov,Z,Y,X,a,b,rfl⟩:=h
 obtain⟨ss',ov',Z',Y',X',a',b',rfl⟩:=h'
 refine low_cmp b.pos b'.pos ?_
 have k:=val_e e irr hn hom a a' b b'
 by_cases z:e<n'.toNat
 ·rw[if_pos z]at k hc
  rw[hc,ycv];exact k
 ·rw[if_neg z]at k hc
  rw[hc,ydb];exact k
theorem web_irr{n:Int}{ts:List (Int×Int)}(h:PairsOk n ts)(i:Int):tiedL ts i i=false:=by
 unfold tiedL
 have:¬(i,i)∈ts:=fun z=>by have:=(h.lt _ z).2.1;omega
 rw[decide_eq_false this];rfl
theorem len_sm{n:Nat}{xs:List Int}(hk:xs.Pairwise (· < ·))(hb:∀x∈xs,0<=x/\x<(n:Int)):(Sx.sm n fun p=>if decide (((p:Nat):Int)∈xs)=true then(1:Int)else 0)=(xs.length:Int):=by
 rw[<-mem_sum (X:=fun _=>1) (hk.imp fun h e=>by omega) hb]
 clear hk hb
 induction xs with
 |nil=>rfl
 |cons x xs ih=>
  show(1:Int)+(xs.map fun _=>(1:Int)).sum=((xs.length+1:Nat):Int)
  rw[ih];omega
theorem crowd_le{n:Nat}{ts:List (Int×Int)}{ss:List (List Int)}{ov:Nat}{Z:Int}{Y X:Nat->Int}(hS:SortedF ss ts false n)(h:Sh n ss (oneL n) ov Z Y X){C:List Int}(hC:SetK ts true n C):(C.length:Int)*(ov:Int)<=Z:=by
 have k:=wd (n':=n) hS h (fun q=>q) (fun _=>1) 1 (fun q=>decide (((q:Nat):Int)∈C)) (fun _=>by decide) (fun q hq _=>hq) (fun s hs=>by
  have e1:(Sx.sm n fun q=>if(decide (((q:Nat):Int)∈C)&&decide (((q:Nat):Int)∈s))=true then(1:Int)else 0)=Sx.sm n fun q=>if decide (((q:Nat):Int)∈C.filter fun x=>decide (x∈s))=true then(1:Int)else 0:=Sx.sm_congr n fun q _=>by
   have:(decide (((q:Nat):Int)∈C)&&decide (((q:Nat):Int)∈s))=decide (((q:Nat):Int)∈C.filter fun x=>decide (x∈s)):=by
    rw[Bool.eq_iff_iff,decide_eq_true_iff,yar,Bool.and_eq_true,decide_eq_true_iff]
   rw[this]
  rw[e1,len_sm (hC.up.filter _) fun x hx=>hC.lt x (yar.mp hx).1]
  have two:∀l:List Int,l.Pairwise (· < ·)->(∀x∈l,∀y∈l,¬x<y)->l.length<=1:=fun l hp hl=>by
   match l,hp,hl with
   |[],_,_=>exact yaw _
   |[_],_,_=>exact yac _
   |x::y::r,hp,hl=>exact absurd (List.rel_of_pairwise_cons hp yah) (hl x yah y (yae _ yah))
  have:=two (C.filter fun x=>decide (x∈s)) (hC.up.filter _) fun x hx y hy hlt=>by
   obtain⟨x1,x2⟩:=yar.mp hx
   obtain⟨y1,y2⟩:=yar.mp hy
   have a:=hC.all x x1 y y1 (by omega)
   have b:=hs.all x (of_decide_eq_true x2) y (of_decide_eq_true y2) (by omega)
   revert a b
   cases tiedL ts x y<;>intro a b<;>cases a<;>cases b
  omega)
 have e2:(Sx.sm n fun q=>if decide (((q:Nat):Int)∈C)=true then wtF (oneL n) q*1 else 0)=(C.length:Int):=by
  rw[<-len_sm hC.up hC.lt]
  exact Sx.sm_congr n fun q hq=>by rw[wt_one hq];rfl
 rw[e2]at k
 rw[ycp];omega
theorem apart_ge{n:Nat}{ts:List (Int×Int)}{ss:List (List Int)}{ov:Nat}{Z:Int}{Y X:Nat->Int}(hS:SortedF ss ts false n)(h:Sh n ss (oneL n) ov Z Y X){m:Nat}(hm:∀s,SetK ts false n s->s.length<=m):(n:Int)*(ov:Int)<=(m:Int)*Z:=by
 have k:=wd (n':=n) hS h (fun q=>q) (fun _=>1) (m:Int) (fun _=>true) (fun _=>by decide) (fun q hq _=>hq) (fun s hs=>by
  have:=len_sm hs.up hs.lt
  simp only[Bool.true_and]
  rw[this]
  have:=hm s hs
  omega)
 have e2:(Sx.sm n fun q=>if(fun _=>true) q=true then wtF (oneL n) q*1 else 0)=(n:Int):=by
  have:=len_sm (n:=n) (upto_ok (n:Int)).srt (upto_ok (n:Int)).lt
  rw[show(n:Int).toNat=n from rfl,upto_len]at this
  rw[<-this]
  exact Sx.sm_congr n fun q hq=>by rw[wt_one hq,if_pos (decide_eq_true (mem_up.mpr hq))];rfl
 rw[e2]at k
 rw[ycp,ycp (m:Int)];exact k
theorem has_tied{ts:List (Int×Int)}{a b:Int}(hab:a≠b)(h:tiedL ts a b=true)(hp:∀p∈ts,p.1<p.2):hasTie ts a b=true:=by
 unfold tiedL at h
 rw[Bool.or_eq_true]at h
 unfold hasTie
 refine decide_eq_true ?_
 rcases h with h|h
 ·have m:=of_decide_eq_true h
  have:a<b:=hp _ m
  rw[if_neg (by omega),if_pos (by omega)];exact m
 ·have m:=of_decide_eq_true h
  have:b<a:=hp _ m
  rw[if_pos (by omega),if_neg (by omega)];exact m
theorem hue_le{n:Nat}{N:Int}{ts:List (Int×Int)}{ss:List (List Int)}{ov:Nat}{Z k:Int}{Y X:Nat->Int}{hs:List Int}(hS:SortedF ss ts false n)(h:Sh n ss (oneL n) ov Z Y X)(hp:PairsOk N ts)(hh:HuesOk ts n k hs):Z<=k*(ov:Int):=by
 have k0:=hh.k0
 have e1:Z=Sx.sm k.toNat fun c=>Sx.sm n fun p=>if hs.getD p 0=(c:Int)then X p else 0:=by
  rw[Sx.sm_swap (fun c p=>if hs.getD p 0=(c:Int)then X p else 0) n k.toNat,<-h.wor]
  refine Sx.sm_congr n fun p hp'=> ?_
  obtain⟨r0,r1⟩:=hh.rg p hp'
  rw[wt_one hp',ycv,Sx.sm_one (j:=(hs.getD p 0).toNat) k.toNat (by omega) fun i _ hi=>if_neg (by omega),if_pos (by omega)]
 rw[e1]
 have e2:k*(ov:Int)=Sx.sm k.toNat fun _=>(ov:Int):=by
  have:∀m:Nat,(m:Int)*(ov:Int)=Sx.sm m fun _=>(ov:Int):=fun m=>by
   induction m with
   |zero=>rw[show((0:Nat):Int)=0 from rfl,ydb];rfl
   |succ m ih=>
    show _=Sx.sm m (fun _=>(ov:Int))+(ov:Int)
    rw[<-ih];push_cast;grind
  rw[<-this,ybp k0]
 rw[e2]
 refine sm_le _ fun c hc=> ?_
 have sk:SetK ts false n ((upto n).filter fun p=>decide (hs.getD p.toNat 0=(c:Int))):=by
  have mu:∀x∈((upto n).filter fun p=>decide (hs.getD p.toNat 0=(c:Int))),(0<=x/\x<(n:Int))/\hs.getD x.toNat 0=(c:Int):=fun x hx=>by
   obtain⟨h1,h2⟩:=yar.mp hx
   exact⟨(upto_ok (n:Int)).lt x h1,of_decide_eq_true h2⟩
  refine⟨(upto_ok (n:Int)).srt.filter _,fun x hx=>(mu x hx).1,fun x hx y hy hne=> ?_⟩
  obtain⟨⟨x0,x1⟩,x2⟩:=mu x hx
  obtain⟨⟨y0,y1⟩,y2⟩:=mu y hy
  cases t:tiedL ts x y with
  |false=>rfl
  |true=>
   have:=hh.ok x.toNat y.toNat (by omega) (by omega) (by rw[ybp x0,ybp y0];exact has_tied hne t fun p hp'=>(hp.lt p hp').2.1)
   exact absurd (x2.trans y2.symm) this
 refine yem (yei (Sx.sm_congr n fun q hq=> ?_)) (apart_sum hS h sk)
 have:decide (((q:Nat):Int)∈(upto n).filter fun p=>decide (hs.getD p.toNat 0=(c:Int)))=decide (hs.getD q 0=(c:Int)):=by
  rw[Bool.eq_iff_iff,decide_eq_true_iff,decide_eq_true_iff,yar,decide_eq_true_iff,ydk]
  exact⟨fun z=>z.2,fun z=>⟨mem_up.mpr hq,z⟩⟩
 rw[this]
 by_cases c':hs.getD q 0=(c:Int)
 ·rw[if_pos c',if_pos (decide_eq_true c')]
 ·rw[if_neg c',if_neg (by simpa using c')]
theorem wants_le{n:Nat}{ts:List (Int×Int)}{ss ss':List (List Int)}{wl wl':List Int}{ov ov':Nat}{Z Z':Int}{Y X Y' X':Nat->Int}(hS:SortedF ss ts false n)(hS':SortedF ss' ts false n)(h:Sh n ss wl ov Z Y X)(h':Sh n ss' wl' ov' Z' Y' X'):(ov:Int)*(Sx.sm n fun q=>wtF wl q*X' q)<=Z*(ov':Int):=by
 have k:=wd (n':=n) hS h (fun q=>q) X' (ov':Int) (fun _=>true) h'.xn (fun q hq _=>hq) (fun s hs=>by
  simp only[Bool.true_and]
  exact apart_sum hS' h' hs)
 exact k
section
variable{P:Program}{w:World}{K:W.Frag}{mg:Str->Option Value}{base:Heap}
noncomputable def frD(f:Int×Nat):PyData:= .tuple [.int f.1,.int ((f.2:Nat):Int)]
theorem FrA.dv{H:Hp}{a:Addr}{f:Int×Nat}(h:FrA K H a f):DV K H (.ref a) (frD f):= .tup h (.cons (.int _) (.cons (.int _) .nil))
theorem Same.over'{H0 H H':Hp}{d:Addr}(s:Same H0 H)(n:H0 d=none)(e:SameX d H H'):Same H0 H':=fun b u h=>e _ _ (fun z=>by rw[z,n]at h;cases h) (s _ _ h)
theorem eqv_intsT(xs ys:List Int):PyData.eqv (.tuple (xs.map PyData.int)) (.tuple (ys.map PyData.int))=decide (xs=ys):=by
 have:∀(xs ys:List Int),PyData.eqvAll (xs.map PyData.int) (ys.map PyData.int)=decide (xs=ys):=by
  intro xs
  induction xs with
  |nil=>intro ys;cases ys<;>simp[PyData.eqvAll]
  |cons x xs ih=>intro ys;cases ys with
   |nil=>simp[PyData.eqvAll]
   |cons y ys=>
    have e:(x==y)=decide (x=y):=by rw[Bool.eq_iff_iff];simp
    simp[PyData.eqvAll,PyData.eqv,ih,e]
 simp[PyData.eqv,this]
theorem low_cross{u u':Int}{v v':Nat}(hv:0<v)(c1:Nat.gcd u.natAbs v=1)(c2:Nat.gcd u'.natAbs v'=1)(cr:u*(v':Int)=u'*(v:Int)):u=u'/\v=v':=by
 have cn:u.natAbs*v'=u'.natAbs*v:=by
  have:=congrArg Int.natAbs cr
  rwa [ydx,ydx,ycy,ycy]at this
 have d1:v∣v':=(Nat.Coprime.symm c1).dvd_of_dvd_mul_left (by rw[cn];exact ydg _ _)
 have d2:v'∣v:=(Nat.Coprime.symm c2).dvd_of_dvd_mul_left (by rw[<-cn];exact ydg _ _)
 have ev:=Nat.dvd_antisymm d1 d2
 subst ev
 exact⟨yck (a:=(v:Int)) (by omega) cr,rfl⟩
theorem eqv_fr(f g:Int×Nat):PyData.eqv (frD f) (frD g)=decide (f=g):=by
 have h:=eqv_intsT [f.1,((f.2:Nat):Int)] [g.1,((g.2:Nat):Int)]
 refine(show PyData.eqv (frD f) (frD g)=_ from h).trans (decide_eq_decide.mpr ⟨fun e=> ?_,fun e=>by rw[e]⟩)
 obtain⟨e1,e2⟩:=List.cons.inj e
 obtain⟨e3,_⟩:=List.cons.inj e2
 exact Prod.ext e1 (by omega)
noncomputable def spABet(K:W.Frag):Sp:=fun vs H Q _=>∃(p p':Addr) (f g:Int×Nat),vs=[.ref p,.ref p']/\FrA K H p f/\FrA K H p' g/\f.2<=39916800/\g.2<=39916800/\f.1*(g.2:Int)<=g.1*(f.2:Int)/\g.1*(f.2:Int)<=(f.1+(f.2:Int))*(g.2:Int)/\∀H',Same H H'->Q (.bl true) H'
theorem sc_abet:FnScope ["low","high"] ["low","high"] (defScope zct):=fsc
theorem ok_abet{f f1:Addr}{fd d1:FuncData}(F:Fun K "_law_abetween" "_law_abetween" zct f fd)(D1:Dfn K mg "_law_ano_more" zbm ["one","other"] f1 d1)(G1:FnOk P w K mg base CX0 1 f1 d1 ["one","other"] (spANm K)):
  FnOk P w K mg base CX0 2 f fd ["low","high"] (spABet K):=by
 refine F.ok sc_abet (fun vs H Q E h=> ?_) (fun cdv A outer s H vs Q E hr h=> ?_)
 ·obtain⟨p,p',f,g,rfl,_⟩:=h
  rfl
 obtain⟨p,p',f,g,rfl,hp,hp',b1,b2,c1,c2,qq⟩:=h
 refine⟨_,(zaf (zak (pe_and (pc G1 hr D1 (zaa (pv 0) (zaa (pv 1) zac))) (pe_one (pc G1 hr D1 (zaa (pv 1) (zaa (zaw (zaa (zan zby (zao zat (pv 0) zag (fun _ _=>rfl)) (zao zat (pv 0) zag (fun _ _=>rfl))) (zaa (zao zat (pv 0) zag (fun _ _=>rfl)) zac))) zac))))))),?_⟩
 refine⟨_,rfl,_,rfl,p,p',f.1,g.1,f.2,g.2,rfl,hp,hp',by omega,by omega,_,rfl,?_⟩
 rw[decide_eq_true c1]
 refine iteT ?_
 refine⟨_,rfl,_,rfl,p,_,_,.int f.1,rfl,rfl,hp,rfl,_,rfl,p,_,_,.int ((f.2:Nat):Int),rfl,rfl,hp,rfl,_,_,rfl,rfl,_,rfl,p,_,_,.int ((f.2:Nat):Int),rfl,rfl,hp,rfl,(by show 2<=sizeLine;decide),fun t ht=> ?_⟩
 have s1:=zad ht (.tup [.int (f.1+(f.2:Int)),.int ((f.2:Nat):Int)])
 refine⟨p',t,g.1,f.1+(f.2:Int),g.2,f.2,rfl,s1.tup hp',SqT.of zab,by omega,by omega,?_⟩
 rw[decide_eq_true c2]
 exact qq _ s1
theorem wt_two(wl:List Int)(q:Nat):wtF (wl.map fun x=>2*x) q=2*wtF wl q:=by
 unfold wtF
 rw[yai,yai,yaf]
 cases wl[q]? <;>rfl
theorem wt_add{wl wk:List Int}(h:wl.length=wk.length)(q:Nat):wtF ((wl.zip wk).map fun p=>p.1+p.2) q=wtF wl q+wtF wk q:=by
 unfold wtF
 rw[yai,yai,yai,yaf]
 by_cases c:q<wl.length
 ·rw[(List.getElem?_zip_eq_some (z:=(wl[q],wk[q]'(by omega)))).mpr ⟨yag c,yag (by omega)⟩,yag c,yag (show q<wk.length by omega)];rfl
 ·have e1:wl[q]? =none:=ycb (by omega)
  have e2:wk[q]? =none:=ycb (by omega)
  have e3:(wl.zip wk)[q]? =none:=ycb (by rw[List.length_zip];omega)
  rw[e1,e2,e3];rfl
theorem twice{n:Nat}{ts:List (Int×Int)}{ss ss':List (List Int)}{wl:List Int}{ov ov':Nat}{Z Z':Int}{Y X Y' X':Nat->Int}(hS:SortedF ss ts false n)(hS':SortedF ss' ts false n)(h:Sh n ss wl ov Z Y X)(h':Sh n ss' (wl.map fun x=>2*x) ov' Z' Y' X'):(ov:Int)*Z'=2*Z*(ov':Int):=by
 have e1:Z'=2*Sx.sm n fun q=>wtF wl q*X' q:=by
  rw[<-h'.wor,<-Sx.sm_mul]
  exact Sx.sm_congr n fun q _=>by rw[wt_two];grind
 have e2:(Sx.sm n fun q=>wtF (wl.map fun x=>2*x) q*X q)=2*Z:=by
  rw[<-h.wor,<-Sx.sm_mul]
  exact Sx.sm_congr n fun q _=>by rw[wt_two];grind
 have a:=wants_le hS hS' h h'
 have b:=wants_le hS' hS h' h
 rw[e2]at b
 refine Int.le_antisymm ?_ ?_
 ·rw[e1]
  have x1:(ov:Int)*(2*Sx.sm n fun q=>wtF wl q*X' q)=2*((ov:Int)*Sx.sm n fun q=>wtF wl q*X' q):=by grind
  have x2:2*Z*(ov':Int)=2*(Z*(ov':Int)):=by grind
  omega
 ·have x1:2*Z*(ov':Int)=(ov':Int)*(2*Z):=by grind
  have x2:(ov:Int)*Z'=Z'*(ov:Int):=by grind
  omega
theorem both_le{n:Nat}{ts:List (Int×Int)}{s1 s2 s3:List (List Int)}{wl wk:List Int}{o1 o2 o3:Nat}{Z1 Z2 Z3:Int}{Y1 X1 Y2 X2 Y3 X3:Nat->Int}(hl:wl.length=wk.length)(hS1:SortedF s1 ts false n)(hS2:SortedF s2 ts false n)(hS3:SortedF s3 ts false n)(h1:Sh n s1 wl o1 Z1 Y1 X1)(h2:Sh n s2 wk o2 Z2 Y2 X2)(h3:Sh n s3 ((wl.zip wk).map fun p=>p.1+p.2) o3 Z3 Y3 X3):(o1:Int)*(o2:Int)*Z3<=(Z1*(o2:Int)+Z2*(o1:Int))*(o3:Int):=by
 have e:Z3=(Sx.sm n fun q=>wtF wl q*X3 q)+Sx.sm n fun q=>wtF wk q*X3 q:=by
  rw[<-h3.wor,<-Sx.sm_add]
  exact Sx.sm_congr n fun q _=>by rw[wt_add hl];grind
 have a:=wants_le hS1 hS3 h1 h3
 have b:=wants_le hS2 hS3 h2 h3
 have a':=ybf a (ycr o2)
 have b':=ybf b (ycr o1)
 rw[e]
 generalize (Sx.sm n fun q=>wtF wl q*X3 q)=A at *
 generalize (Sx.sm n fun q=>wtF wk q*X3 q)=B at *
 have x1:(o1:Int)*(o2:Int)*(A+B)=(o2:Int)*((o1:Int)*A)+(o1:Int)*((o2:Int)*B):=by grind
 have x2:(Z1*(o2:Int)+Z2*(o1:Int))*(o3:Int)=(o2:Int)*(Z1*(o3:Int))+(o1:Int)*(Z2*(o3:Int)):=by grind
 rw[x1,x2]
 exact Int.add_le_add a' b'
theorem few_le{n:Nat}{ts:List (Int×Int)}{s1 s2:List (List Int)}{wl:List Int}{m:Int}{o1 o2:Nat}{Z1 Z2:Int}{Y1 X1 Y2 X2:Nat->Int}(hS1:SortedF s1 ts false n)(hS2:SortedF s2 ts false n)(hw:∀x∈wl,0<=x/\x<=m)(hm:0<=m)(h1:Sh n s1 wl o1 Z1 Y1 X1)(h2:Sh n s2 (oneL n) o2 Z2 Y2 X2):(o2:Int)*Z1<=m*Z2*(o1:Int):=by
 have a:=wants_le hS2 hS1 h2 h1
 have c:Z1<=m*Sx.sm n fun q=>wtF (oneL n) q*X1 q:=by
  rw[<-h1.wor,<-Sx.sm_mul]
  refine sm_le n fun q hq=> ?_
  rw[wt_one hq,ycv]
  refine ycc ?_ (h1.xn q)
  unfold wtF
  rw[yai]
  cases e:wl[q]? with
  |none=>exact hm
  |some y=>exact(hw y (yav e)).2
 have c':=ybf c (ycr o2)
 have a':=ybf a hm
 have x1:(o2:Int)*(m*Sx.sm n fun q=>wtF (oneL n) q*X1 q)=m*((o2:Int)*Sx.sm n fun q=>wtF (oneL n) q*X1 q):=by grind
 have x2:m*Z2*(o1:Int)=m*(Z2*(o1:Int)):=by grind
 omega
theorem low_twice{Z Z':Int}{ov ov':Nat}(p:0<ov)(p':0<ov')(e:(ov:Int)*Z'=2*Z*(ov':Int)){u:Int}{v:Nat}(l:Low (2*(lowF Z ov).1) (lowF Z ov).2 u v):lowF Z' ov'=(u,v):=by
 have l1:=zbj Z p
 have l2:=zbj Z' p'
 have e1:=l1.eq
 have e2:=l2.eq
 have e3:=l.eq
 have q1:=l1.pos
 have q2:=l2.pos
 have q3:=l.pos
 have key:(lowF Z' ov').1*(v:Int)=u*((lowF Z' ov').2:Int):=by
  generalize (lowF Z ov).1=a at *
  generalize (lowF Z ov).2=b at *
  generalize (lowF Z' ov').1=a' at *
  generalize (lowF Z' ov').2=b' at *
  refine yck (a:=(ov:Int)*(ov':Int)*(b:Int)) ?_ ?_
  ·have:=yds (yds (a:=(ov:Int)) (b:=(ov':Int)) (by omega) (by omega)) (show(0:Int)<(b:Int) by omega)
   omega
  ·have x1:a'*(v:Int)*((ov:Int)*(ov':Int)*(b:Int))=(a'*(ov':Int))*((v:Int)*(ov:Int)*(b:Int)):=by grind
   have x2:u*(b':Int)*((ov:Int)*(ov':Int)*(b:Int))=(u*(b:Int))*((b':Int)*(ov:Int)*(ov':Int)):=by grind
   rw[x1,x2,e2,e3]
   have x3:Z'*(b':Int)*((v:Int)*(ov:Int)*(b:Int))=((ov:Int)*Z')*((b':Int)*(v:Int)*(b:Int)):=by grind
   have x4:2*a*(v:Int)*((b':Int)*(ov:Int)*(ov':Int))=(a*(ov:Int))*(2*(v:Int)*(b':Int)*(ov':Int)):=by grind
   rw[x3,e,x4,e1];grind
 obtain⟨x,y⟩:=low_cross q2 l2.cop l.cop key
 exact Prod.ext x y
noncomputable def spAWri(K:W.Frag):Sp:=fun vs H Q _=>∃(tp a va:Addr) (t n:Int) (ts:List (Int×Int)) (f:Int×Nat),vs=[.ref tp,.ref a,.ref va]/\H tp=some (.lst [.int t])/\WebIs K H a n ts/\FrA K H va f/\IsVal n ts f/\∀H' t',SameX tp H H'->H' tp=some (.lst [.int t'])->Q (.bl true) H'
theorem sc_awri:FnScope ["tape","web","told","one","other","first","both"] ["tape","web","told"] (defScope zbo):=fsc
theorem ok_awri{f f1 f2 f3 f4 f5:Addr}{fd d1 d2 d3 d4 d5:FuncData}(F:Fun K "_law_awants_right" "_law_awants_right" zbo f fd)(D1:Dfn K mg "_law_adigit" zbv ["tape","many"] f1 d1)(G1':FnOk P w K mg base CX0 1 f1 d1 ["tape","many"] (spDig K))(D2:Dfn K mg "shares" s_shares ["web","wants"] f2 d2)(G2:FnOk P w K mg base CX0 9 f2 d2 ["web","wants"] (spShares K))(D3:Dfn K mg "_law_alow" s_law_alow ["a","b"] f3 d3)(G3:FnOk P w K mg base CX0 1 f3 d3 ["a","b"] (spAlow K))(D4:Dfn K mg "_law_ano_more" zbm ["one","other"] f4 d4)(G4:FnOk P w K mg base CX0 1 f4 d4 ["one","other"] (spANm K))(D5:Dfn K mg "_law_asum" s_law_asum ["some"] f5 d5)(G5:FnOk P w K mg base CX0 2 f5 d5 ["some"] (spASum K))(m_tuple:mg "tuple"=none)(m_range:mg "range"=none)(m_zip:mg "zip"=none):
  FnOk P w K mg base CX0 10 f fd ["tape","web","told"] (spAWri K):=by
 have G1:FnOk P w K mg base CX0 9 f1 d1 ["tape","many"] (spDig K):=G1'.mono (by decide)
 refine F.ok sc_awri (fun vs H Q E h=> ?_) (fun cdv A outer s H vs Q E hr h=> ?_)
 ·obtain⟨tp,a,va,t,n,ts,f,rfl,_⟩:=h
  rfl
 obtain⟨tp,a,va,t,n,ts,f,rfl,hTp,hA,hVa,hV,qq⟩:=h
 refine⟨_,(zae (zal (i:=3) sc_awri.nd rfl (Or.inl rfl) (zbl zar rfl m_tuple (by decide+kernel) (zaa (zaz (own:=["place"]) (caps:=["tape"]) (ix:=[0]) rfl (zay rfl m_range (zaa (zao zat (pv 1) zag (fun _ _=>rfl)) zac)) rfl rfl (.cons rfl rfl .nil) (fun _ _ _ _ _=>(zai (i:=0) (show(["place","tape"]:List Str).Nodup from by decide+kernel) rfl (Or.inl rfl))) (fun _ _ _ _ _=>zbf) (fun _ _ _ _ _=>(pc G1 hr D1 (zaa (pv 1) (zaa zag zac))))) zac))) (zae (zal (i:=4) sc_awri.nd rfl (Or.inl rfl) (zbl zar rfl m_tuple (by decide+kernel) (zaa (zaz (own:=["place"]) (caps:=["tape"]) (ix:=[0]) rfl (zay rfl m_range (zaa (zao zat (pv 1) zag (fun _ _=>rfl)) zac)) rfl rfl (.cons rfl rfl .nil) (fun _ _ _ _ _=>(zai (i:=0) (show(["place","tape"]:List Str).Nodup from by decide+kernel) rfl (Or.inl rfl))) (fun _ _ _ _ _=>zbf) (fun _ _ _ _ _=>(pc G1 hr D1 (zaa (pv 1) (zaa zag zac))))) zac))) (zae (zal (i:=5) sc_awri.nd rfl (Or.inl rfl) (zao zat (pc G2 hr D2 (zaa (pv 1) (zaa (pv 3) zac))) zag (fun _ _=>rfl))) (zae (zcr (zap (op_neD hr.units) (zao zat (pc G2 hr D2 (zaa (pv 1) (zaa (zbl zar rfl m_tuple (by decide+kernel) (zaa (zaz (own:=["want"]) (caps:=[]) (ix:=[]) rfl (pi_tupL (pv 3)) rfl rfl .nil (fun _ _ _ _ _=>(zai (i:=0) (show(["want"]:List Str).Nodup from by decide+kernel) rfl (Or.inl rfl))) (fun _ _ _ _ _=>zbf) (fun _ _ _ _ _=>(zan zcn zag (pv 0)))) zac)) zac))) zag (fun _ _=>rfl)) (pc G3 hr D3 (zaa (zan zcn zag (zao zat (pv 5) zag (fun _ _=>rfl))) (zaa (zao zat (pv 5) zag (fun _ _=>rfl)) zac))) (nomark _)) (zaf (zak pe_bl)) zas) (zae (zal (i:=6) sc_awri.nd rfl (Or.inl rfl) (zao zat (pc G2 hr D2 (zaa (pv 1) (zaa (zbl zar rfl m_tuple (by decide+kernel) (zaa (zaz (own:=["a","b"]) (caps:=[]) (ix:=[]) rfl (pi_zipT rfl m_zip (zaa (pv 3) (zaa (pv 4) zac))) rfl rfl .nil (fun _ _ _ _ _=>(pg_tupK K (n:=2) rfl (zbb (zai (i:=0) (show(["a","b"]:List Str).Nodup from by decide+kernel) rfl (Or.inl rfl)) (zbb (zai (i:=1) (show(["a","b"]:List Str).Nodup from by decide+kernel) rfl (Or.inl rfl)) pgs_nil)))) (fun _ _ _ _ _=>zbf) (fun _ _ _ _ _=>(zan zby (pv 0) (pv 1)))) zac)) zac))) zag (fun _ _=>rfl))) (zae (zcr (pt_not (zdl (pc G4 hr D4 (zaa (pv 5) (zaa (zaw (zaa (zan zcn zag (zao zat (pv 2) zag (fun _ _=>rfl))) (zaa (zao zat (pv 2) zag (fun _ _=>rfl)) zac))) zac))))) (zaf (zak pe_bl)) zas) (zaf (zak (pc G4 hr D4 (zaa (pv 6) (zaa (pc G5 hr D5 (zaa (pe_lst (zaa (pv 5) (zaa (zao zat (pc G2 hr D2 (zaa (pv 1) (zaa (pv 4) zac))) zag (fun _ _=>rfl)) zac))) zac)) zac))))))))))),?_⟩
 have h0:=hA.h0
 have h10:=hA.h1
 obtain⟨f0,f1,f2⟩:=hV.frc
 obtain⟨tt1,rr1,w1,_,_⟩:=id hA.web
 refine⟨_,rfl,a,_,_,.int n,rfl,rfl,w1,rfl,n,rfl,by omega,by omega,?_⟩
 refine zbn (n:=n.toNat) (fun i acc σ H'=>(∃zs:List Int,acc=zs.map V.int/\zs.length=i/\∀x∈zs,0<=x/\x<=49)/\SameX tp H H'/\(∃t',H' tp=some (.lst [.int t']))/\∃o,σ=[o,some (.ref tp)]) ⟨⟨[],rfl,rfl,fun x hx=>(nomatch hx)⟩,SameX.refl _ _,⟨_,hTp⟩,_,rfl⟩ (fun i acc σ H' hi p=> ?_) (by rw[sizeLine_eq];omega) (fun i acc σ H' hi p=> ?_) (fun acc1 σ1 G1 p=> ?_)
 ·obtain⟨⟨zs,rfl,hl,_⟩,_⟩:=p
  rw[yaa];omega
 ·obtain⟨⟨zs,rfl,hl,hz⟩,xx,⟨t',ht'⟩,o,rfl⟩:=p
  refine⟨_,rfl,tp,t',50,rfl,ht',by decide,by decide,fun r t2' r0 r1=> ?_⟩
  refine⟨⟨zs++[r],by rw[yad];rfl,by rw[yay,hl];rfl,fun x hx=> ?_⟩,xx.upd,⟨t2',zab⟩,_,rfl⟩
  rcases yax.mp hx with z|z
  ·exact hz x z
  ·rw[yal.mp z];omega
 intro q1 hq1
 obtain⟨⟨z1,rfl,zl1,zb1⟩,x1,⟨t1,ht1⟩,_⟩:=p
 refine⟨q1,_,rfl,.inl ⟨SqL.of zab,fun k1 hk1=> ?_⟩⟩
 have r1:=(zad hq1 (.lst (z1.map V.int))).trans (zad hk1 (.tup (z1.map V.int)))
 have e1:(upd (upd G1 q1 (.lst (z1.map V.int))) k1 (.tup (z1.map V.int))) k1=some (.tup (z1.map V.int)):=zab
 generalize (upd (upd G1 q1 (.lst (z1.map V.int))) k1 (.tup (z1.map V.int)))=J1 at *
 have y1:SameX tp H J1:=x1.trans (r1.x tp)
 have ht1':=r1 _ _ ht1
 have hA1:=hA.samex y1 hTp
 obtain⟨tt2,rr2,w2,_,_⟩:=id hA1.web
 refine⟨_,rfl,a,_,_,.int n,rfl,rfl,w2,rfl,n,rfl,by omega,by omega,?_⟩
 refine zbn (n:=n.toNat) (fun i acc σ H'=>(∃zs:List Int,acc=zs.map V.int/\zs.length=i/\∀x∈zs,0<=x/\x<=49)/\SameX tp J1 H'/\(∃t',H' tp=some (.lst [.int t']))/\∃o,σ=[o,some (.ref tp)]) ⟨⟨[],rfl,rfl,fun x hx=>(nomatch hx)⟩,SameX.refl _ _,⟨_,ht1'⟩,_,rfl⟩ (fun i acc σ H' hi p=> ?_) (by rw[sizeLine_eq];omega) (fun i acc σ H' hi p=> ?_) (fun acc2 σ2 G2 p=> ?_)
 ·obtain⟨⟨zs,rfl,hl,_⟩,_⟩:=p
  rw[yaa];omega
 ·obtain⟨⟨zs,rfl,hl,hz⟩,xx,⟨t',ht'⟩,o,rfl⟩:=p
  refine⟨_,rfl,tp,t',50,rfl,ht',by decide,by decide,fun r t2' r0 r1=> ?_⟩
  refine⟨⟨zs++[r],by rw[yad];rfl,by rw[yay,hl];rfl,fun x hx=> ?_⟩,xx.upd,⟨t2',zab⟩,_,rfl⟩
  rcases yax.mp hx with z|z
  ·exact hz x z
  ·rw[yal.mp z];omega
 intro q2 hq2
 obtain⟨⟨z2,rfl,zl2,zb2⟩,x2,⟨t2,ht2⟩,_⟩:=p
 refine⟨q2,_,rfl,.inl ⟨SqL.of zab,fun k2 hk2=> ?_⟩⟩
 have r2:=(zad hq2 (.lst (z2.map V.int))).trans (zad hk2 (.tup (z2.map V.int)))
 have e2:(upd (upd G2 q2 (.lst (z2.map V.int))) k2 (.tup (z2.map V.int))) k2=some (.tup (z2.map V.int)):=zab
 generalize (upd (upd G2 q2 (.lst (z2.map V.int))) k2 (.tup (z2.map V.int)))=J2 at *
 have y2:SameX tp J1 J2:=x2.trans (r2.x tp)
 have ht2':=r2 _ _ ht2
 have hA2:=hA1.samex y2 ht1'
 have n12:k1≠tp:=fun z=>by rw[z,ht1']at e1;cases e1
 have e1':=y2 _ _ n12 e1
 have hVa2:FrA K J2 va f:=by
  have go:∀{A B:Hp} {tz:List V},SameX tp A B->A tp=some (.lst tz)->FrA K A va f->FrA K B va f:=fun{A B tz} s ht h=>by
   rcases h with(h|⟨o,h⟩)|h
   ·exact .inl (.inl (s _ _ (fun z=>by rw[z,ht]at h;cases h) h))
   ·exact .inl (.inr ⟨o,s _ _ (fun z=>by rw[z,ht]at h;cases h) h⟩)
   ·exact .inr h
  exact go y2 ht1' (go y1 hTp hVa)
 have fin:∀H',Same J2 H'->Q (.bl true) H':=fun H' s=>qq H' t2 (y1.trans (y2.trans (s.x tp))) (s _ _ ht2')
 -- the first wants
 refine⟨_,rfl,_,rfl,a,k1,n,ts,z1,rfl,hA2,SqT.of e1',⟨by omega,fun x hx=>by have:=zb1 x hx;omega⟩,fun ra va1 la1 pa1 lr1 pr1 ss1 o1 Z1 Y1 X1 H3 s3 q1a q1b _ _ _ _ hSo1 hSh1 _ _ _=> ?_⟩
 refine⟨ra,_,_,.ref va1,rfl,rfl,SqT.of q1a,rfl,?_⟩
 -- twice them
 refine⟨_,rfl,_,rfl,k1,_,rfl,SqT.of (s3 _ _ e1'),fun hz=> ?_⟩
 refine comp_tup (xs:=z1.map V.int) (fun i acc σ H'=>acc=((z1.take i).map fun x=>2*x).map V.int/\H'=H3/\∃o,σ=[o]) ⟨rfl,rfl,_,rfl⟩ (fun i acc σ H' _ p=>by rw[p.2.1];exact SqT.of (s3 _ _ e1')) (fun i acc σ H' hi p=>by rw[p.1,yaa,yaa,ybh];exact ycj _ _) hz (fun i x acc σ H' hx p=> ?_) (fun acc σ H' p=> ?_)
 ·obtain⟨rfl,rfl,o,rfl⟩:=p
  rw[yaf]at hx
  cases ex:z1[i]? with
  |none=>rw[ex]at hx;cases hx
  |some y=>
   rw[ex]at hx
   cases hx
   refine⟨_,rfl,_,_,rfl,rfl,.inl ⟨by decide,by decide⟩,?_,rfl,_,rfl⟩
   rw[ybg,ex,yad,yad];rfl
 intro p1 hp1
 obtain⟨rfl,rfl,_⟩:=p
 rw[yaa,ybk]
 refine⟨p1,_,rfl,.inl ⟨SqL.of zab,fun p2 hp2=> ?_⟩⟩
 have s4:=(zad hp1 (.lst ((z1.map fun x=>2*x).map V.int))).trans (zad hp2 (.tup ((z1.map fun x=>2*x).map V.int)))
 have e4:(upd (upd H' p1 (.lst ((z1.map fun x=>2*x).map V.int))) p2 (.tup ((z1.map fun x=>2*x).map V.int))) p2=some (.tup ((z1.map fun x=>2*x).map V.int)):=zab
 generalize (upd (upd H' p1 (.lst ((z1.map fun x=>2*x).map V.int))) p2 (.tup ((z1.map fun x=>2*x).map V.int)))=H4 at *
 have s34:=s3.trans s4
 refine⟨a,p2,n,ts,z1.map fun x=>2*x,rfl,hA2.same s34,SqT.of e4,⟨by rw[yaa];omega,fun x hx=>by obtain⟨y,hy,rfl⟩:=ybc.mp hx;have:=zb1 y hy;omega⟩,fun rb va2 la2 pa2 lr2 pr2 ss2 o2 Z2 Y2 X2 H5 s5 q2a q2b _ _ _ _ hSo2 hSh2 _ _ _=> ?_⟩
 refine⟨rb,_,_,.ref va2,rfl,rfl,SqT.of q2a,rfl,?_⟩
 have s45:=s4.trans s5
 have l1:=zbj Z1 hSh1.pos
 have l1n:0<=(lowF Z1 o1).1:=l1.nn (by rw[<-hSh1.tot];exact Sx.sm_nn _ fun k _=>hSh1.yn k)
 have l1p:=l1.pos
 have l1b:(lowF Z1 o1).2<=39916800:=yat (Nat.div_le_self _ _) hSh1.big
 have F1:FrA K H5 va1 (lowF Z1 o1):=s45.tup q1b
 refine⟨_,rfl,va1,_,_,.int (lowF Z1 o1).1,rfl,rfl,F1,rfl,_,_,rfl,rfl,.inl ⟨by decide,by decide⟩,_,rfl,va1,_,_,.int (((lowF Z1 o1).2:Nat):Int),rfl,rfl,F1,rfl,?_⟩
 refine⟨(2*(lowF Z1 o1).1).toNat,(lowF Z1 o1).2,by rw[ybp (by omega)];rfl,l1p,yat l1b (by decide+kernel),fun pl H6 u v s6 e6 hlw=> ?_⟩
 rw[ybp (by omega)]at hlw
 have tw:=low_twice hSh1.pos hSh2.pos (twice hSo1 hSo2 hSh1 hSh2) hlw
 rw[tw]at q2b
 refine⟨frD (u,v),frD (u,v),FrA.dv (s6.tup q2b),FrA.dv (SqT.of e6),rfl,rfl,(by show min 1 1<=64;decide),_,rfl,?_⟩
 rw[eqv_fr,decide_eq_true rfl]
 refine iteF ?_
 have s36:=s3.trans (s45.trans s6)
 -- both wants
 have e1n:=s36 _ _ e1'
 have e2n:=s36 _ _ e2
 refine⟨_,rfl,_,rfl,_,rfl,k1,k2,_,_,rfl,SqT.of e1n,SqT.of e2n,by rw[yaa,yaa];omega,fun hz=> ?_⟩
 have hl12:z1.length=z2.length:=by omega
 refine comp_zipT (K:=K) (a:=k1) (b:=k2) (xs:=z1.map V.int) (ys:=z2.map V.int) (fun i acc σ H'=>acc=(((z1.zip z2).take i).map fun p=>p.1+p.2).map V.int/\Same H6 H'/\∃o1 o2,σ=[o1,o2]) ⟨rfl,Same.refl _,_,_,rfl⟩ (fun i acc σ H' _ p=>⟨p.2.1.tup (SqT.of e1n),p.2.1.tup (SqT.of e2n)⟩) (by rw[yaa,yaa];exact hl12) (fun i acc σ H' hi p=> ?_) hz (fun i v u t acc σ H' hv hu p ht=> ?_) (fun acc σ H' p=> ?_)
 ·rw[p.1,yaa,yaa,ybh];exact ycj _ _
 ·obtain⟨rfl,sm,o1',o2',rfl⟩:=p
  rw[yaf]at hv hu
  cases ex:z1[i]? with
  |none=>rw[ex]at hv;cases hv
  |some y=>
   cases ey:z2[i]? with
   |none=>rw[ey]at hu;cases hu
   |some y'=>
    rw[ex]at hv
    rw[ey]at hu
    cases hv
    cases hu
    have sn:=zad ht (.tup [.int y,.int y'])
    refine⟨t,_,rfl,SqT.of zab,rfl,_,_,rfl,_,_,rfl,rfl,?_⟩
    refine⟨_,rfl,_,rfl,_,_,rfl,rfl,?_,sm.trans sn,_,_,rfl⟩
    rw[ybg,(List.getElem?_zip_eq_some (z:=(y,y'))).mpr ⟨ex,ey⟩,yad,yad];rfl
 intro p3 hp3
 obtain⟨rfl,sm6,_⟩:=p
 have ell:(z1.map V.int).length=(z1.zip z2).length:=by rw[yaa,List.length_zip];omega
 rw[ell,ybk]
 refine⟨p3,_,rfl,.inl ⟨SqL.of zab,fun p4 hp4=> ?_⟩⟩
 have s7:=(zad hp3 (.lst (((z1.zip z2).map fun p=>p.1+p.2).map V.int))).trans (zad hp4 (.tup (((z1.zip z2).map fun p=>p.1+p.2).map V.int)))
 have e7:(upd (upd H' p3 (.lst (((z1.zip z2).map fun p=>p.1+p.2).map V.int))) p4 (.tup (((z1.zip z2).map fun p=>p.1+p.2).map V.int))) p4=some (.tup (((z1.zip z2).map fun p=>p.1+p.2).map V.int)):=zab
 generalize (upd (upd H' p3 (.lst (((z1.zip z2).map fun p=>p.1+p.2).map V.int))) p4 (.tup (((z1.zip z2).map fun p=>p.1+p.2).map V.int)))=H7 at *
 have s67:=sm6.trans s7
 have s37:=s36.trans s67
 refine⟨a,p4,n,ts,(z1.zip z2).map fun p=>p.1+p.2,rfl,hA2.same s37,SqT.of e7,⟨by rw[yaa,List.length_zip];omega,fun x hx=> ?_⟩,fun rc va3 la3 pa3 lr3 pr3 ss3 o3 Z3 Y3 X3 H8 s8 q3a q3b _ _ _ _ hSo3 hSh3 _ _ _=> ?_⟩
 ·obtain⟨⟨y,y'⟩,hy,rfl⟩:=ybc.mp hx
  have m:=List.of_mem_zip hy
  have:=zb1 y m.1
  have:=zb2 y' m.2
  show 0<=y+y'/\y+y'<=99
  omega
 refine⟨rc,_,_,.ref va3,rfl,rfl,SqT.of q3a,rfl,?_⟩
 have s38:=s37.trans s8
 have F1':FrA K H8 va1 (lowF Z1 o1):=(s45.trans (s6.trans (s67.trans s8))).tup q1b
 have FV:FrA K H8 va f:=s38.tup hVa2
 -- no more than so many times the value
 refine⟨_,rfl,_,rfl,va,_,_,.int f.1,rfl,rfl,FV,rfl,_,_,rfl,rfl,.inl ⟨by decide,by decide⟩,_,rfl,va,_,_,.int ((f.2:Nat):Int),rfl,rfl,FV,rfl,(by show 2<=sizeLine;decide),fun p5 hp5=> ?_⟩
 have s9:=zad hp5 (.tup [.int (49*f.1),.int ((f.2:Nat):Int)])
 refine⟨va1,p5,(lowF Z1 o1).1,49*f.1,(lowF Z1 o1).2,f.2,rfl,s9.tup F1',SqT.of zab,by omega,by omega,_,rfl,?_⟩
 have c1:(lowF Z1 o1).1*(f.2:Int)<=49*f.1*((lowF Z1 o1).2:Int):=by
  obtain⟨ssV,oV,ZV,YV,XV,aV,bV,rfl⟩:=hV
  have k:=few_le hSo1 aV (m:=49) zb1 (by decide) hSh1 bV
  have e1:=l1.eq
  have lV:=zbj ZV bV.pos
  have e2:=lV.eq
  have p1:=hSh1.pos
  have p2:=bV.pos
  have v2:=lV.pos
  clear hVa hVa2 FV s9
  generalize (lowF Z1 o1).1=u at *
  generalize (lowF Z1 o1).2=v at *
  generalize (lowF ZV oV).1=u' at *
  generalize (lowF ZV oV).2=v' at *
  refine ydf (a:=(o1:Int)*(oV:Int)) ?_ (yds (by omega) (by omega))
  have x1:u*(v':Int)*((o1:Int)*(oV:Int))=(u*(o1:Int))*((v':Int)*(oV:Int)):=by grind
  have x2:49*u'*(v:Int)*((o1:Int)*(oV:Int))=(u'*(oV:Int))*(49*(v:Int)*(o1:Int)):=by grind
  rw[x1,x2,e1,e2]
  have x3:Z1*(v:Int)*((v':Int)*(oV:Int))=((oV:Int)*Z1)*((v:Int)*(v':Int)):=by grind
  have x4:ZV*(v':Int)*(49*(v:Int)*(o1:Int))=(49*ZV*(o1:Int))*((v:Int)*(v':Int)):=by grind
  rw[x3,x4]
  exact ycc k (yby (by omega) (by omega))
 rw[decide_eq_true c1]
 refine iteF ?_
 generalize (upd H8 p5 (.tup [.int (49*f.1),.int ((f.2:Nat):Int)]))=H9 at *
 -- no more than both
 have s39:=s38.trans s9
 have e2m:=s39 _ _ e2
 refine⟨_,rfl,_,rfl,_,rfl,_,rfl,a,k2,n,ts,z2,rfl,hA2.same s39,SqT.of e2m,⟨by omega,fun x hx=>by have:=zb2 x hx;omega⟩,fun rd va4 la4 pa4 lr4 pr4 ss4 o4 Z4 Y4 X4 H10 s10 q4a q4b _ _ _ _ hSo4 hSh4 _ _ _=> ?_⟩
 refine⟨rd,_,_,.ref va4,rfl,rfl,SqT.of q4a,rfl,(by show 2<=sizeLine;decide),fun p6 hp6=> ?_⟩
 have s11:=zad hp6 (.lst [.ref va1,.ref va4])
 have s911:=s9.trans (s10.trans s11)
 have l4:=zbj Z4 hSh4.pos
 have l4n:0<=(lowF Z4 o4).1:=l4.nn (by rw[<-hSh4.tot];exact Sx.sm_nn _ fun k _=>hSh4.yn k)
 have hD:DOk (o1*o4) [lowF Z1 o1,lowF Z4 o4]:=by
  refine⟨Nat.mul_pos hSh1.pos hSh4.pos,yat (Nat.mul_le_mul hSh1.big hSh4.big) (by decide),fun g hg=> ?_⟩
  simp only[yam,List.not_mem_nil,or_false]at hg
  rcases hg with rfl|rfl
  ·exact⟨l1n,l1p,Nat.dvd_trans (lowF_dvd hSh1.pos) (Nat.dvd_mul_right _ _)⟩
  ·exact⟨l4n,l4.pos,Nat.dvd_trans (lowF_dvd hSh4.pos) (ydg _ _)⟩
 refine⟨p6,_,[lowF Z1 o1,lowF Z4 o4],o1*o4,rfl,SqL.of zab,.cons ⟨va1,rfl,s911.tup F1'⟩ (.cons ⟨va4,rfl,s11.tup q4b⟩ .nil),hD,(by show 2<=1000;decide),fun pS H12 s12 eS=> ?_⟩
 have dl:∀{Z:Int} {o m:Nat},0<o->(lowF Z o).1*((o*m/(lowF Z o).2:Nat):Int)=Z*(m:Int):=fun{Z o m} ho=>by
  have h:=lowF_mul (a:=Z) ho
  have d:=lowF_dvd (a:=Z) ho
  have:o*m/(lowF Z o).2=o/(lowF Z o).2*m:=by
   rw[yel o m,Nat.mul_div_assoc m d,yel]
  rw[this]
  push_cast
  have hh:(lowF Z o).1*((o/(lowF Z o).2:Nat):Int)=Z:=h
  push_cast at hh
  rw[<-yej,hh]
 have sumE:frS (o1*o4) [lowF Z1 o1,lowF Z4 o4]=Z1*(o4:Int)+Z4*(o1:Int):=by
  show(lowF Z1 o1).1*((o1*o4/(lowF Z1 o1).2:Nat):Int)+((lowF Z4 o4).1*((o1*o4/(lowF Z4 o4).2:Nat):Int)+0)=_
  rw[dl hSh1.pos,yel o1 o4,dl hSh4.pos];omega
 rw[sumE]at eS
 have hb3:=hSh3.big
 have sb:(lowF (Z1*(o4:Int)+Z4*(o1:Int)) (o1*o4)).2<=10000000000000000:=yat (Nat.div_le_self _ _) hD.le
 refine⟨va3,pS,_,_,_,_,rfl,(s9.trans (s10.trans (s11.trans s12))).tup q3b,eS,yat (Nat.div_le_self _ _) (by omega),sb,?_⟩
 have k3:=both_le hl12 hSo1 hSo4 hSo3 hSh1 hSh4 hSh3
 have lc:=low_cmp (c:=0) (Z:=Z1*(o4:Int)+Z4*(o1:Int)) (Z':=Z3) (ov:=o1*o4) (ov':=o3) hD.pos hSh3.pos (by push_cast;rw[ydb,Int.add_zero];exact k3)
 rw[ydb,Int.add_zero]at lc
 rw[decide_eq_true lc]
 exact fin H12 (s39.trans (s10.trans (s11.trans s12)))
theorem srt_web{H:Hp}{its:List (Addr×(Int×Int))}{its':List (Addr×List Int)}{n:Int}{t1 wb:Addr}(h0:0<=n)(h1:n<=10)(hq:PairsOk n (its.map (·.2)))(hperm:its'.Perm (its.map fun p=>(p.1,pl p.2)))(hsort:its'.Pairwise fun p q=>HT.lexLt q.2 p.2=false)(e3:∀p∈its,SqT K H p.1 ((pl p.2).map V.int))(hwb:SqT K H wb [.int n,.ref t1])(ht1:SqT K H t1 (its'.map fun p=>V.ref p.1)):∃us,WebIs K H wb n us/\us.Perm (its.map (·.2)):=by
 let un:List Int->Int×Int:=fun l=>(l.getD 0 0,l.getD 1 0)
 have back:∀p∈its',∃q∈its,p=(q.1,pl q.2):=fun p hp=>by
  obtain⟨q,hq,e⟩:=ybc.mp (hperm.mem_iff.mp hp)
  exact⟨q,hq,e.symm⟩
 have pts:(its'.map fun p=>un p.2).Perm (its.map (·.2)):=by
  have h1:=hperm.map (fun p:Addr×List Int=>un p.2)
  rw[ycw]at h1
  have h2:its.map ((fun p:Addr×List Int=>un p.2)∘fun p=>(p.1,pl p.2))=its.map (·.2):=rfl
  rw[h2]at h1
  exact h1
 have pok:=hq.perm pts
 have psort:(its'.map fun p=>un p.2).Pairwise fun p q=>HT.lexLt (pl q) (pl p)=false:=by
  rw[ydc]
  refine hsort.imp_of_mem fun{x y} hx hy hxy=> ?_
  obtain⟨qx,_,rfl⟩:=back x hx
  obtain⟨qy,_,rfl⟩:=back y hy
  exact hxy
 refine⟨its'.map fun p=>un p.2,⟨⟨t1,its'.map (fun p=>V.ref p.1),hwb,ht1,?_⟩,h0,h1,pok,web_ok h0 h1 pok psort⟩,pts⟩
 have h1:=of_items (K:=K) (H:=H) (its'.map fun p=>(p.1,un p.2)) (fun p hp=>by
  obtain⟨p',hp',rfl⟩:=ybc.mp hp
  obtain⟨q',hq',rfl⟩:=back p' hp'
  exact e3 q' hq')
 have h2:(its'.map fun p=>(p.1,un p.2)).map (fun p=>V.ref p.1)=its'.map fun p=>V.ref p.1:=by rw[ycw];rfl
 have h3:(its'.map fun p=>(p.1,un p.2)).map (·.2)=its'.map fun p=>un p.2:=by rw[ycw];rfl
 rw[h2,h3]at h1
 exact h1
theorem eqv_pairs_nil(l:List (Int×Int)):PyData.eqv (.list (l.map pairD)) (.list [])=decide (l=[]):=by
 cases l with
 |nil=>simp[PyData.eqv,PyData.eqvAll]
 |cons p l=>simp[PyData.eqv,PyData.eqvAll]
theorem eqv_pairs_nilT(l:List (Int×Int)):PyData.eqv (.tuple (l.map pairD)) (.tuple [])=decide (l=[]):=by
 cases l with
 |nil=>simp[PyData.eqv,PyData.eqvAll]
 |cons p l=>simp[PyData.eqv,PyData.eqvAll]
theorem web_up{n:Int}{ts:List (Int×Int)}(h0:0<=n)(h1:n<=10)(hs:ts.Pairwise lt2)(hl:∀p∈ts,0<=p.1/\p.1<p.2/\p.2<n):PairsOk n ts/\WebOk n ts:=by
 have ho:PairsOk n ts:=⟨nodup_lt2 hs,hl⟩
 exact⟨ho,web_ok h0 h1 ho (hs.imp lt2_lex)⟩
theorem sqtl{H H':Hp}{t a:Addr}{zs xs:List V}(e:SameX t H H')(hn:H t=some (.lst zs))(h:SqT K H a xs):SqT K H' a xs:=by
 rcases h with(h|⟨o,h⟩)|h
 ·exact .inl (.inl (e _ _ (fun z=>by rw[z,hn]at h;cases h) h))
 ·exact .inl (.inr ⟨o,e _ _ (fun z=>by rw[z,hn]at h;cases h) h⟩)
 ·exact .inr h
theorem dvsl{H H':Hp}{t:Addr}{zs:List V}(e:SameX t H H')(hn:H t=some (.lst zs)){rs:List V}{ts:List (Int×Int)}(h:DVs K H rs (ts.map pairD)):DVs K H' rs (ts.map pairD):=by
 obtain⟨its,rfl,rfl,h3⟩:=items_of h
 exact of_items its fun p hp=>sqtl e hn (h3 p hp)
theorem cut_lo{xs:List V}{k:Int}(h0:0<=k)(h1:k<=(xs.length:Int)):cutV xs none (some k)=xs.take k.toNat:=by
 unfold cutV HT.sIx
 simp only
 rw[if_neg (by omega),Nat.sub_zero,List.drop_zero,Nat.min_eq_left (by omega)]
theorem cut_hi{xs:List V}{k:Int}(h0:0<=k)(h1:k<=(xs.length:Int)):cutV xs (some k) none=xs.drop k.toNat:=by
 unfold cutV HT.sIx
 simp only
 rw[if_neg (by omega),Nat.min_eq_left (by omega),yde (by rw[ydv];exact yac _)]
theorem tied_sub{ts us:List (Int×Int)}(h:∀p∈ts,p∈us){i j:Int}(t:tiedL ts i j=true):tiedL us i j=true:=by
 unfold tiedL at t⊢
 rw[Bool.or_eq_true]at t⊢
 rcases t with t|t
 ·exact .inl (decide_eq_true (h _ (of_decide_eq_true t)))
 ·exact .inr (decide_eq_true (h _ (of_decide_eq_true t)))
theorem tied_but{ts us:List (Int×Int)}{i j:Int}(h:∀p∈ts,(p=(i,j)\/p=(j,i))->p∈us)(t:tiedL ts i j=true):tiedL us i j=true:=by
 unfold tiedL at t⊢
 rw[Bool.or_eq_true]at t⊢
 rcases t with t|t
 ·exact .inl (decide_eq_true (h _ (of_decide_eq_true t) (.inl rfl)))
 ·exact .inr (decide_eq_true (h _ (of_decide_eq_true t) (.inr rfl)))
theorem IsVal.both{n n':Int}{ts us:List (Int×Int)}{f g:Int×Nat}(hf:IsVal n ts f)(hg:IsVal n' us g)(hn:n.toNat<=n'.toNat)(p1:PairsOk n ts)(p2:PairsOk n' us)(sub:∀p∈ts,p∈us)(e:Nat)(he:e<n'.toNat)(hl:∀q,q<n'.toNat->q≠e->q<n.toNat)(but:∀p∈us,p.1≠(e:Int)->p.2≠(e:Int)->p∈ts):f.1*(g.2:Int)<=g.1*(f.2:Int)/\g.1*(f.2:Int)<=(f.1+(f.2:Int))*(g.2:Int):=by
 have a:=hg.cmp hf n.toNat 0 (by rw[if_neg (ybd _)]) (web_irr p2) (fun q hq _=>by omega) (fun i j _ _ _ _ t=>tied_sub sub t)
 have b:=hf.cmp hg e 1 (by rw[if_pos he]) (web_irr p1) hl (fun i j _ _ hi hj t=>tied_but (fun p hp h=>but p hp (by rcases h with h|h<;>rw[h]<;>dsimp only <;>omega) (by rcases h with h|h<;>rw[h]<;>dsimp only <;>omega)) t)
 rw[ydb,Int.add_zero]at a
 rw[ycv]at b
 exact⟨a,b⟩
noncomputable def spACha(K:W.Frag):Sp:=fun vs H Q _=>∃(tp a:Addr) (t n:Int) (ts:List (Int×Int)),vs=[.ref tp,.ref a]/\H tp=some (.lst [.int t])/\WebIs K H a n ts/\∀H' t',SameX tp H H'->H' tp=some (.lst [.int t'])->Q (.bl true) H'
theorem zdg:FnScope ["tape","web","n","ties","told","apart_ones","i","more","at","fewer"] ["tape","web"] (defScope zcs):=fsc
theorem ok_acha{f f1 f2 f3:Addr}{fd d1 d2 d3:FuncData}(F:Fun K "_law_achanged" "_law_achanged" zcs f fd)(D1:Dfn K mg "value" s_value ["web"] f1 d1)(G1:FnOk P w K mg base CX0 10 f1 d1 ["web"] (spValue K))(D2:Dfn K mg "_law_adigit" zbv ["tape","many"] f2 d2)(G2':FnOk P w K mg base CX0 1 f2 d2 ["tape","many"] (spDig K))(D3:Dfn K mg "_law_abetween" zct ["low","high"] f3 d3)(G3':FnOk P w K mg base CX0 2 f3 d3 ["low","high"] (spABet K))(m_range:mg "range"=none)(m_tuple:mg "tuple"=none)(m_sorted:mg "sorted"=none)(m_len:mg "len"=none)(m_list:mg "list"=none):
  FnOk P w K mg base CX0 11 f fd ["tape","web"] (spACha K):=by
 have G2:FnOk P w K mg base CX0 10 f2 d2 ["tape","many"] (spDig K):=G2'.mono (by decide)
 have G3:FnOk P w K mg base CX0 10 f3 d3 ["low","high"] (spABet K):=G3'.mono (by decide)
 refine F.ok zdg (fun vs H Q E h=> ?_) (fun cdv A outer s H vs Q E hr h=> ?_)
 ·obtain⟨tp,a,t,n,ts,rfl,_⟩:=h
  rfl
 obtain⟨tp,a,t,n,ts,rfl,hTp,hA,qq⟩:=h
 refine⟨_,(zae (ps_asg (pv 1) (pg_tup rfl (zbb (zai (i:=2) zdg.nd rfl (Or.inr rfl)) (zbb (zai (i:=3) zdg.nd rfl (Or.inr rfl)) pgs_nil)))) (zae (zal (i:=4) zdg.nd rfl (Or.inl rfl) (pc G1 hr D1 (zaa (pv 1) zac))) (zae (zal (i:=5) zdg.nd rfl (Or.inl rfl) (pe_lst zac)) (zae (ps_for PassesOwn.never rfl (zay rfl m_range (zaa (pv 2) zac)) (zai (i:=6) zdg.nd rfl (Or.inr rfl)) (zaf (zal (i:=5) zdg.nd rfl (Or.inl rfl) (zan op_cat (pv 5) (zaz (own:=["j"]) (caps:=["i","ties"]) (ix:=[6,3]) rfl (pi_range2 rfl m_range (zaa (zan zby (pv 6) zag) (zaa (pv 2) zac))) rfl rfl (.cons rfl rfl (.cons rfl rfl .nil)) (fun _ _ _ _ _=>(zai (i:=0) (show(["j","i","ties"]:List Str).Nodup from by decide+kernel) rfl (Or.inl rfl))) (fun _ _ _ _ _=>zdk (zap (op_notInDK K hr.units) (zaw (zaa (pv 1) (zaa (pv 0) zac))) (pv 2) (by with_unfolding_all rfl))) (fun _ _ _ _ _=>(zaw (zaa (pv 1) (zaa (pv 0) zac))))))))) (zae (zcr (zap (op_neD hr.units) (pv 5) (pe_lst zac) (nomark _)) (zae (zal (i:=7) zdg.nd rfl (Or.inl rfl) (zbl zar rfl m_tuple (by decide+kernel) (zaa (zam call_sortedTT rfl m_sorted (by decide+kernel) (zaa (zan op_catE (pv 3) (zaw (zaa (zao zau (pv 5) (pc G2 hr D2 (zaa (pv 0) (zaa (zam zba rfl m_len PySem.boot_len (zaa (pv 5) zac)) zac))) (fun _ _=>rfl)) zac))) zac)) zac))) (zaf (zcr (pt_not (zdl (pc G3 hr D3 (zaa (pv 4) (zaa (pc G1 hr D1 (zaa (zaw (zaa (pv 2) (zaa (pv 7) zac))) zac)) zac))))) (zaf (zak pe_bl)) zas))) zas) (zae (zcr (zap (op_neD hr.units) (pv 3) (zaw zac) (nomark _)) (zae (zal (i:=8) zdg.nd rfl (Or.inl rfl) (pc G2 hr D2 (zaa (pv 0) (zaa (zam zba rfl m_len PySem.boot_len (zaa (pv 3) zac)) zac)))) (zaf (zcr (pt_not (zdl (pc G3 hr D3 (zaa (pc G1 hr D1 (zaa (zaw (zaa (pv 2) (zaa (zan op_catE (pe_slice sl_tupE (pv 3) po_none (po_some (pv 8))) (pe_slice sl_tupE (pv 3) (po_some (zan zby (pv 8) zag)) po_none)) zac))) zac)) (zaa (pv 4) zac))))) (zaf (zak pe_bl)) zas))) zas) (zae (zcr (zap op_lt (pv 2) zag (nomark _)) (zae (zcq (i:=7) (own:=["i"]) (caps:=["tape","n"]) (ix:=[0,2]) zdg.nd rfl (Or.inl rfl) rfl (zay rfl m_range (zaa (pv 2) zac)) rfl rfl (.cons rfl rfl (.cons rfl rfl .nil)) (fun _ _ _ _ _=>(zai (i:=0) (show(["i","tape","n"]:List Str).Nodup from by decide+kernel) rfl (Or.inl rfl))) (fun _ _ _ _ _=>zdk (zap op_eq (pc G2 hr D2 (zaa (pv 1) (zaa zag zac))) zag (nomark _))) (fun _ _ _ _ _=>(zaw (zaa (pv 0) (zaa (pv 2) zac))))) (zaf (zcr (pt_not (zdl (pc G3 hr D3 (zaa (pv 4) (zaa (pc G1 hr D1 (zaa (zaw (zaa (zan zby (pv 2) zag) (zaa (zbl zar rfl m_tuple (by decide+kernel) (zaa (zam call_sortedT rfl m_sorted (by decide+kernel) (zaa (zan op_cat (zbl call_list_of rfl m_list (by decide+kernel) (zaa (pv 3) zac)) (pv 7)) zac)) zac)) zac))) zac)) zac))))) (zaf (zak pe_bl)) zas))) zas) (zae (zcr (zap op_eq (pv 2) zag (nomark _)) (zaf (zak pe_bl)) zas) (zae (zal (i:=9) zdg.nd rfl (Or.inl rfl) (zbl zar rfl m_tuple (by decide+kernel) (zaa (zaz (own:=["pair"]) (caps:=["n"]) (ix:=[2]) rfl (pi_tupL (pv 3)) rfl rfl (.cons rfl rfl .nil) (fun _ _ _ _ _=>(zai (i:=0) (show(["pair","n"]:List Str).Nodup from by decide+kernel) rfl (Or.inl rfl))) (fun _ _ _ _ _=>zdk (zap op_lt (zao (ix_tupK K) (pv 0) zag (fun _ _=>rfl)) (zan op_sub (pv 1) zag) (nomark _))) (fun _ _ _ _ _=>(pv 0))) zac))) (zaf (zak (pc G3 hr D3 (zaa (pc G1 hr D1 (zaa (zaw (zaa (zan op_sub (pv 2) zag) (zaa (pv 9) zac))) zac)) (zaa (pv 4) zac)))))))))))))),?_⟩
 have h0:=hA.h0
 have h10:=hA.h1
 have h45:=hA.len
 obtain⟨tt,rr,w1,w2,w3⟩:=id hA.web
 obtain⟨its,rfl,eits,w4⟩:=items_of w3
 have lits:its.length=ts.length:=by rw[<-eits,yaa]
 refine⟨_,rfl,a,_,rfl,w1,rfl,_,_,rfl,_,_,rfl,rfl,?_⟩
 refine⟨_,rfl,a,n,ts,rfl,hA,fun va ss ov Z Y X H1 s1 e1 hSo hSh=> ?_⟩
 have hV:IsVal n ts (lowF Z ov):=⟨ss,ov,Z,Y,X,hSo,hSh,rfl⟩
 generalize lowF Z ov=f at *
 clear hSo hSh
 obtain⟨f0,f1,f2⟩:=hV.frc
 refine⟨(by show 0<=sizeLine;decide),fun l0 hl0=> ?_⟩
 have s2:=zad hl0 (.lst [])
 have e2:(upd H1 l0 (.lst [])) l0=some (.lst []):=zab
 generalize (upd H1 l0 (.lst []))=H2 at *
 have s12:=s1.trans s2
 refine⟨_,rfl,n,rfl,by omega,by omega,?_⟩
 refine zbz (n:=n.toNat) (fun i σ H'=>∃(l:Addr) (rs:List V) (ps:List (Int×Int)) (o6:Option V),σ=[some (.ref tp),some (.ref a),some (.int n),some (.ref tt),some (.ref va),some (.ref l),o6,none,none,none]/\Same H2 H'/\H' l=some (.lst rs)/\DVs K H' rs (ps.map pairD)/\(∀p∈ps,0<=p.1/\p.1<p.2/\p.2<n/\p∉ts)/\ps.length<=10*i/\l≠tp)
  ⟨l0,[],[],_,rfl,Same.refl _,e2,.nil,fun p hp=>(nomatch hp),yac _,fun z=>by rw[z,s1 _ _ hTp]at hl0;cases hl0⟩ (fun i σ H' hi p=> ?_) (fun σ H3 p=> ?_)
 ·obtain⟨l,rs,ps,o6,rfl,sm,hl,hd,hp,hn,nlt⟩:=p
  have s2m:=s12.trans sm
  refine⟨_,rfl,_,rfl,_,_,rfl,rfl,_,rfl,_,_,rfl,⟨by omega,by omega,by omega,by omega⟩,?_⟩
  refine zbn (lo:=0+(i:Int)+1) (n:=(n-(0+(i:Int)+1)).toNat) (fun k acc σ H4=>∃qs:List (Int×Int),DVs K H4 acc (qs.map pairD)/\(∀p∈qs,0<=p.1/\p.1<p.2/\p.2<n/\p∉ts)/\qs.length<=k/\Same H' H4/\∃o,σ=[o,some (.int (0+(i:Int))),some (.ref tt)]) ⟨[],.nil,fun p hp=>(nomatch hp),yac _,Same.refl _,_,rfl⟩ (fun k acc σ H4 hk p=> ?_) (by rw[sizeLine_eq];omega) (fun k acc σ H4 hk p=> ?_) (fun acc σ H4 p=> ?_)
  ·obtain⟨qs,hq,_,hl',_⟩:=p
   have:=hq.len
   rw[yaa]at this
   omega
  ·obtain⟨qs,hq,hqo,hql,sq,o,rfl⟩:=p
   have sA:=s2m.trans sq
   refine⟨_,rfl,_,rfl,(by show 2<=sizeLine;decide),fun q1 hq1=> ?_⟩
   have n1:=zad hq1 (.tup [.int (0+(i:Int)),.int (0+(i:Int)+1+(k:Int))])
   refine⟨_,rfl,tt,_,_,pairD (0+(i:Int),0+(i:Int)+1+(k:Int)),rfl,.inr ((sA.trans n1).tup w2),(w3.same sA).same n1,.tup (SqT.of zab) (.cons (.int _) (.cons (.int _) .nil)),lay_pairs ts,rfl,(by show max 0 (max 0 0)+1<=60;decide),_,rfl,?_⟩
   rw[any_pair]
   refine ite2 (fun c=> ?_) (fun c=> ?_)
   ·refine⟨_,rfl,_,rfl,(by show 2<=sizeLine;decide),fun q2 hq2=> ?_⟩
    have n2:=zad hq2 (.tup [.int (0+(i:Int)),.int (0+(i:Int)+1+(k:Int))])
    have n12:=n1.trans n2
    refine⟨qs++[(0+(i:Int),0+(i:Int)+1+(k:Int))],?_,fun p hp'=> ?_,by rw[yay];show _+1<=_;omega,sq.trans n12,_,rfl⟩
    ·rw[yad]
     exact(hq.same n12).append (.cons (.tup (SqT.of zab) (.cons (.int _) (.cons (.int _) .nil))) .nil)
    ·rcases yax.mp hp' with z|z
     ·exact hqo p z
     ·rw[yal.mp z]
      refine⟨by dsimp only;omega,by dsimp only;omega,by dsimp only;omega,fun m=> ?_⟩
      rw[decide_eq_true m]at c;cases c
   ·exact⟨qs,hq.same n1,hqo,by omega,sq.trans n1,_,rfl⟩
  ·intro p1 hp1
   obtain⟨qs,hq,hqo,hql,sq,_⟩:=p
   have n1:=zad hp1 (.lst acc)
   have hlen:=hq.len
   have hrl:=hd.len
   rw[yaa]at hlen hrl
   refine⟨l,p1,_,_,rfl,rfl,(sq.trans n1) _ _ hl,zab,by rw[sizeLine_eq];omega,fun p2 hp2=> ?_⟩
   have n2:=zad hp2 (.lst (rs++acc))
   have n12:=n1.trans n2
   refine⟨p2,_,ps++qs,_,rfl,sm.trans (sq.trans n12),zab,?_,fun p hp'=> ?_,by rw[yay];omega,fun z=> ?_⟩
   ·rw[yad]
    exact(hd.same (sq.trans n12)).append (hq.same n12)
   ·rcases yax.mp hp' with z|z
    ·exact hp p z
    ·exact hqo p z
   ·rw[z,(s2m.trans (sq.trans n1)) _ _ hTp]at hp2;cases hp2
 obtain⟨l,rs,ps,o6,rfl,sm,hl,hd,hp,hn,nlt⟩:=p
 have s3:=s12.trans sm
 have htp3:=s3 _ _ hTp
 have hA3:=hA.same s3
 have w23:=s3.tup w2
 have w43:∀p∈its,SqT K H3 p.1 ((pl p.2).map V.int):=fun p hp=>s3.tup (w4 p hp)
 have F3:FrA K H3 va f:=(s2.trans sm).tup e1
 have hrl:=hd.len
 rw[yaa]at hrl
 -- a tie more
 try dsimp only
 refine seq_mid (fun σ' H'=>∃(o7 o8:Option V) (t':Int),σ'=[some (.ref tp),some (.ref a),some (.int n),some (.ref tt),some (.ref va),some (.ref l),o6,o7,o8,none]/\SameX tp H3 H'/\H' tp=some (.lst [.int t'])) (fun N hN=> ?_) (fun σ' H4 p=> ?_)
 ·refine⟨_,rfl,(by show 0<=sizeLine;decide),fun q hq=> ?_⟩
  have n1:=zad hq (.lst [])
  refine⟨.list (ps.map pairD),.list [],.lst (SqL.of (n1 _ _ hl)) (hd.same n1),.lst (SqL.of zab) .nil,lay_pairs ps,rfl,yat (Nat.min_le_right _ _) (by decide),_,rfl,?_⟩
  rw[eqv_pairs_nil]
  generalize (upd H3 q (.lst []))=H3' at *
  by_cases c:ps=[]
  ·rw[decide_eq_true c]
   exact iteF (hN _ _ ⟨_,_,t,rfl,n1.x tp,n1 _ _ htp3⟩)
  ·rw[decide_eq_false c]
   refine iteT ?_
   have pl0:0<ps.length:=ydr.mpr c
   refine⟨_,rfl,_,rfl,_,rfl,_,rfl,l,_,rfl,.inl (SqL.of (n1 _ _ hl)),fun hz=> ?_⟩
   refine⟨tp,t,(rs.length:Int),rfl,n1 _ _ htp3,by omega,by omega,fun dg t' d0 d1=> ?_⟩
   have x1:SameX tp H3' (upd H3' tp (.lst [.int t'])):=(SameX.refl _ _).upd
   have htp4:(upd H3' tp (.lst [.int t'])) tp=some (.lst [.int t']):=zab
   have htn:=n1 _ _ htp3
   have y1:SameX tp H3 (upd H3' tp (.lst [.int t'])):=(n1.x tp).trans x1
   have hdx:=dvsl x1 htn (hd.same n1)
   have hlx:=x1 _ _ nlt (n1 _ _ hl)
   have hWx:=(hA3.same n1).samex x1 htn
   have w2x:=sqtl x1 htn (n1.tup w23)
   have w4x:∀p∈its,SqT K (upd H3' tp (.lst [.int t'])) p.1 ((pl p.2).map V.int):=fun p hp=>sqtl x1 htn (n1.tup (w43 p hp))
   have Fx:FrA K (upd H3' tp (.lst [.int t'])) va f:=sqtl x1 htn (n1.tup F3)
   generalize (upd H3' tp (.lst [.int t']))=G1 at *
   have hdg:dg.toNat<rs.length:=by omega
   obtain⟨pt,hpi,ept,hpt⟩:=pair_at hdx (yag hdg)
   have hat:atI rs dg=some (.ref pt):=by
    have:=atI_nat (xs:=rs) (j:=dg.toNat) (v:=V.ref pt) (by rw[yag hdg,ept])
    rwa [ybp d0]at this
   have hpp:=hp _ (ycf hpi)
   generalize ps[dg.toNat]=pr at *
   refine⟨l,_,_,.ref pt,rfl,rfl,SqL.of hlx,hat,(by show 1<=sizeLine;decide),fun q1 hq1=> ?_⟩
   have n2:=zad hq1 (.tup [.ref pt])
   refine⟨tt,q1,_,_,rfl,rfl,n2.tup w2x,SqT.of zab,by rw[yaa,sizeLine_eq];show its.length+1<=_;omega,fun c1 G2 n3 ec1=> ?_⟩
   have n23:=n2.trans n3
   have jT:∀p∈its++[(pt,pr)],SqT K G2 p.1 ((pl p.2).map V.int):=fun p hp'=>by
    rcases yax.mp hp' with z|z
    ·exact n23.tup (w4x p z)
    ·rw[yal.mp z];exact n23.tup hpt
   have hq:PairsOk n ((its++[(pt,pr)]).map (·.2)):=by
    rw[yad,eits]
    refine⟨List.nodup_append.mpr ⟨hA.pk.nd,(yce _ _),fun x hx y hy e=> ?_⟩,fun p hp'=> ?_⟩
    ·have:y=pr:=yal.mp hy
     rw[e,this]at hx
     exact hpp.2.2.2 hx
    ·rcases yax.mp hp' with z|z
     ·exact hA.pk.lt p z
     ·have:p=pr:=yal.mp z
      rw[this];exact⟨hpp.1,hpp.2.1,hpp.2.2.1⟩
   have ejl:(its++[(pt,pr)]).length<=46:=by rw[yay];show _+1<=_;omega
   have ej:(its.map (fun p=>V.ref p.1))++[V.ref pt]=(its++[(pt,pr)]).map fun p=>V.ref p.1:=by rw[yad];rfl
   rw[ej]at ec1
   have epm:((its++[(pt,pr)]).map (·.2))=ts++[pr]:=by rw[yad,eits];rfl
   generalize its++[(pt,pr)]=jts at *
   refine⟨c1,jts.map (fun p=>(p.1,pl p.2)),rfl,by rw[ycw];exact ec1,fun p hp'=> ?_,by rw[yaa];omega,fun l1 its' hl1 hperm hsort=> ?_⟩
   ·obtain⟨p',hp'',rfl⟩:=ybc.mp hp'
    exact⟨jT p' hp'',by unfold pl;simp⟩
   have n4:=zad hl1 (.lst (its'.map fun p=>V.ref p.1))
   refine⟨l1,_,rfl,.inl ⟨SqL.of zab,fun t1 ht1=> ?_⟩⟩
   have n5:=zad ht1 (.tup (its'.map fun p=>V.ref p.1))
   refine⟨_,rfl,_,rfl,_,rfl,(by show 2<=sizeLine;decide),fun wb hwb=> ?_⟩
   have n6:=zad hwb (.tup [.int n,.ref t1])
   have n46:=n4.trans (n5.trans n6)
   obtain⟨us,W,pus⟩:=srt_web (K:=K) h0 h10 hq hperm hsort (fun p hp'=>n46.tup (jT p hp')) (SqT.of zab) (SqT.of (n6 _ _ zab))
   rw[epm]at pus
   refine⟨wb,n,us,rfl,W,fun vb ss' ov' Z' Y' X' H9 s9 e9 hSo' hSh'=> ?_⟩
   have hV':IsVal n us (lowF Z' ov'):=⟨ss',ov',Z',Y',X',hSo',hSh',rfl⟩
   obtain⟨_,_,g2⟩:=hV'.frc
   obtain⟨c1',c2'⟩:=hV.both hV' (yac _) hA.pk W.pk (fun p hp'=>pus.mem_iff.mpr (ybq _ hp')) pr.1.toNat (by have:=hpp.1;have:=hpp.2.1;have:=hpp.2.2.1;omega) (fun q hq' _=>hq') (fun p hp' a1 a2=>by
    rcases yax.mp (pus.mem_iff.mp hp')with z|z
    ·exact z
    ·rw[yal.mp z]at a1
     have:=hpp.1
     omega)
   have n29:=n23.trans (n46.trans s9)
   refine⟨va,vb,f,lowF Z' ov',rfl,n29.tup Fx,e9,f2,g2,c1',c2',fun H10 s10=>⟨_,rfl,?_⟩⟩
   exact iteF (hN _ _ ⟨_,_,t',rfl,y1.trans ((n29.trans s10).x tp),(n29.trans s10) _ _ htp4⟩)
 obtain⟨o7,o8,t4,rfl,x4,htp4⟩:=p
 -- a tie less
 try dsimp only
 refine seq_mid (fun σ' H'=>∃(o7 o8:Option V) (t':Int),σ'=[some (.ref tp),some (.ref a),some (.int n),some (.ref tt),some (.ref va),some (.ref l),o6,o7,o8,none]/\SameX tp H3 H'/\H' tp=some (.lst [.int t'])) (fun N hN=> ?_) (fun σ' H5 p=> ?_)
 ·have w24:=sqtl x4 htp3 w23
  have d4:DVs K H4 (its.map fun p=>V.ref p.1) (ts.map pairD):=dvsl x4 htp3 (w3.same s3)
  refine⟨_,rfl,(by show 0<=sizeLine;decide),fun q hq=> ?_⟩
  have n1:=zad hq (.tup [])
  refine⟨.tuple (ts.map pairD),.tuple [],.tup (n1.tup w24) (d4.same n1),.tup (SqT.of zab) .nil,lay_pairs ts,rfl,yat (Nat.min_le_right _ _) (by decide),_,rfl,?_⟩
  rw[eqv_pairs_nilT]
  generalize (upd H4 q (.tup []))=H4' at *
  by_cases c:ts=[]
  ·rw[decide_eq_true c]
   exact iteF (hN _ _ ⟨_,_,t4,rfl,x4.trans (n1.x tp),n1 _ _ htp4⟩)
  ·rw[decide_eq_false c]
   refine iteT ?_
   have pl0:0<ts.length:=ydr.mpr c
   refine⟨_,rfl,_,rfl,tt,_,rfl,.inr (n1.tup w24),fun hz=> ?_⟩
   refine⟨tp,t4,(((its.map fun p=>V.ref p.1).length:Nat):Int),rfl,n1 _ _ htp4,by rw[yaa];omega,by rw[yaa];omega,fun dg t' d0 d1=> ?_⟩
   rw[yaa]at d1
   have htn:=n1 _ _ htp4
   have x5:SameX tp H4' (upd H4' tp (.lst [.int t'])):=(SameX.refl _ _).upd
   have htp5:(upd H4' tp (.lst [.int t'])) tp=some (.lst [.int t']):=zab
   have y5:SameX tp H3 (upd H4' tp (.lst [.int t'])):=x4.trans ((n1.x tp).trans x5)
   have w25:=sqtl x5 htn (n1.tup w24)
   have w45:∀p∈its,SqT K (upd H4' tp (.lst [.int t'])) p.1 ((pl p.2).map V.int):=fun p hp=>sqtl x5 htn (n1.tup (sqtl x4 htp3 (w43 p hp)))
   have Fx:FrA K (upd H4' tp (.lst [.int t'])) va f:=sqtl x5 htn (n1.tup (sqtl x4 htp3 F3))
   generalize (upd H4' tp (.lst [.int t']))=G1 at *
   have dl:dg<=(((its.map fun p=>V.ref p.1).length:Nat):Int):=by rw[yaa];omega
   have dl2:dg+1<=(((its.map fun p=>V.ref p.1).length:Nat):Int):=by rw[yaa];omega
   refine⟨_,rfl,_,rfl,_,rfl,_,rfl,tt,_,rfl,w25,fun r1 G2 n2 c1=> ?_⟩
   rw[cut_lo d0 dl]at c1
   refine⟨_,rfl,_,rfl,_,_,rfl,rfl,_,rfl,tt,_,rfl,n2.tup w25,fun r2 G3 n3 c2=> ?_⟩
   rw[cut_hi (by omega) dl2]at c2
   refine⟨r1,r2,_,_,rfl,rfl,n3.tup c1,c2,by rw[ybh,ydv,yaa,sizeLine_eq];omega,fun r3 G4 n4 c3=> ?_⟩
   have ek:(dg+1).toNat=dg.toNat+1:=by omega
   rw[ek,<-List.map_take,<-List.map_drop,<-yad]at c3
   refine⟨(by show 2<=sizeLine;decide),fun wb hwb=> ?_⟩
   have n5:=zad hwb (.tup [.int n,.ref r3])
   have n25:=n2.trans (n3.trans (n4.trans n5))
   have hk:dg.toNat<ts.length:=by omega
   have sub:(ts.take dg.toNat++ts.drop (dg.toNat+1)).Sublist ts:=by
    have:=List.Sublist.append (List.Sublist.refl (ts.take dg.toNat)) (List.drop_sublist 1 (ts.drop dg.toNat))
    rw[List.drop_drop,List.take_append_drop]at this
    exact this
   have emap:(its.take dg.toNat++its.drop (dg.toNat+1)).map (·.2)=ts.take dg.toNat++ts.drop (dg.toNat+1):=by rw[yad,List.map_take,List.map_drop,eits]
   have ok:=web_up (n:=n) h0 h10 (hA.srt.sublist sub) fun p hp=>hA.pk.lt p (sub.subset hp)
   have Dv:=of_items (K:=K) (H:=upd G4 wb (.tup [.int n,.ref r3])) (its.take dg.toNat++its.drop (dg.toNat+1)) (fun p hp=>n25.tup (w45 p (by
    rcases yax.mp hp with z|z
    ·exact List.mem_of_mem_take z
    ·exact List.mem_of_mem_drop z)))
   rw[emap]at Dv
   have W:WebIs K (upd G4 wb (.tup [.int n,.ref r3])) wb n (ts.take dg.toNat++ts.drop (dg.toNat+1)):=⟨⟨r3,_,SqT.of zab,n5.tup c3,Dv⟩,h0,h10,ok.1,ok.2⟩
   refine⟨wb,n,_,rfl,W,fun vb ss' ov' Z' Y' X' H9 s9 e9 hSo' hSh'=> ?_⟩
   have hV':IsVal n (ts.take dg.toNat++ts.drop (dg.toNat+1)) (lowF Z' ov'):=⟨ss',ov',Z',Y',X',hSo',hSh',rfl⟩
   obtain⟨_,_,g2⟩:=hV'.frc
   have hpk:=hA.pk.lt _ (ycf hk)
   obtain⟨c1',c2'⟩:=hV'.both hV (yac _) W.pk hA.pk (fun p hp'=>sub.subset hp') (ts[dg.toNat]).1.toNat (by omega) (fun q hq' _=>hq') (fun p hp' a1 a2=>by
    obtain⟨i,hi,rfl⟩:=ybi hp'
    rcases Nat.lt_trichotomy i dg.toNat with z|z|z
    ·exact ybq _ (List.mem_take_iff_getElem.mpr ⟨i,by omega,rfl⟩)
    ·exfalso
     have:ts[i]=ts[dg.toNat]:=by congr 1
     rw[this]at a1
     omega
    ·refine yaj _ (List.mem_drop_iff_getElem.mpr ⟨i-(dg.toNat+1),by omega,?_⟩)
     congr 1;omega)
   refine⟨_,rfl,vb,va,lowF Z' ov',f,rfl,e9,(n25.trans s9).tup Fx,g2,f2,c1',c2',fun H10 s10=>⟨_,rfl,?_⟩⟩
   have nn:=n25.trans (s9.trans s10)
   exact iteF (hN _ _ ⟨_,_,t',rfl,y5.trans (nn.x tp),nn _ _ htp5⟩)
 obtain⟨o7,o8,t5,rfl,x5,htp5⟩:=p
 -- a place more
 try dsimp only
 refine seq_mid (fun σ' H'=>∃(o7 o8:Option V) (t':Int),σ'=[some (.ref tp),some (.ref a),some (.int n),some (.ref tt),some (.ref va),some (.ref l),o6,o7,o8,none]/\SameX tp H3 H'/\H' tp=some (.lst [.int t'])) (fun N hN=> ?_) (fun σ' H6 p=> ?_)
 ·refine⟨_,rfl,_,_,rfl,rfl,_,rfl,?_⟩
  refine ite2 (fun c=> ?_) (fun c=>hN _ _ ⟨_,_,t5,rfl,x5,htp5⟩)
  have c':=of_decide_eq_true c
  refine⟨_,rfl,n,rfl,by omega,by omega,?_⟩
  refine zbn (n:=n.toNat) (fun i acc σ H'=>(∃qs:List (Int×Int),DVs K H' acc (qs.map pairD)/\qs.length<=i/\qs.Pairwise lt2/\∀p∈qs,0<=p.1/\p.1<(i:Int)/\p.2=n)/\SameX tp H5 H'/\(∃t',H' tp=some (.lst [.int t']))/\∃o,σ=[o,some (.ref tp),some (.int n)]) ⟨⟨[],.nil,yac _,.nil,fun p hp=>(nomatch hp)⟩,SameX.refl _ _,⟨t5,htp5⟩,_,rfl⟩ (fun i acc σ H' hi p=> ?_) (by rw[sizeLine_eq];omega) (fun i acc σ H' hi p=> ?_) (fun acc σ H' p=> ?_)
  ·obtain⟨⟨qs,hq,hl',_⟩,_⟩:=p
   have:=hq.len
   rw[yaa]at this
   omega
  ·obtain⟨⟨qs,hq,hql,hqs,hqo⟩,xx,⟨t',ht'⟩,o,rfl⟩:=p
   refine⟨_,rfl,tp,t',2,rfl,ht',by decide,by decide,fun r t2' r0 r1=> ?_⟩
   refine⟨rfl,_,rfl,?_⟩
   have xu:SameX tp H' (upd H' tp (.lst [.int t2'])):=(SameX.refl _ _).upd
   have hq':=dvsl xu ht' hq
   have hu:(upd H' tp (.lst [.int t2'])) tp=some (.lst [.int t2']):=zab
   generalize (upd H' tp (.lst [.int t2']))=G at *
   refine ite2 (fun cc=> ?_) (fun cc=> ?_)
   ·refine⟨_,rfl,_,rfl,(by show 2<=sizeLine;decide),fun q2 hq2=> ?_⟩
    have n2:=zad hq2 (.tup [.int (0+(i:Int)),.int n])
    refine⟨⟨qs++[(0+(i:Int),n)],?_,by rw[yay];show _+1<=_;omega,?_,fun p hp'=> ?_⟩,xx.trans (xu.trans (n2.x tp)),⟨t2',n2 _ _ hu⟩,_,rfl⟩
    ·rw[yad]
     exact(hq'.same n2).append (.cons (.tup (SqT.of zab) (.cons (.int _) (.cons (.int _) .nil))) .nil)
    ·refine ycz.mpr ⟨hqs,yce _ _,fun x hx y hy=> ?_⟩
     rw[yal.mp hy]
     have:=hqo x hx
     exact .inl (by dsimp only;omega)
    ·rcases yax.mp hp' with z|z
     ·have:=hqo p z
      exact⟨by omega,by omega,by omega⟩
     ·rw[yal.mp z]
      exact⟨by dsimp only;omega,by dsimp only;omega,rfl⟩
   ·exact⟨⟨qs,hq',by omega,hqs,fun p hp'=>by have:=hqo p hp';exact⟨by omega,by omega,by omega⟩⟩,xx.trans xu,⟨t2',hu⟩,_,rfl⟩
  ·intro p1 hp1
   obtain⟨⟨qs,hq,hql,hqs,hqo⟩,xx,⟨t',ht'⟩,_⟩:=p
   have n1:=zad hp1 (.lst acc)
   have hacc:(upd H' p1 (.lst acc)) p1=some (.lst acc):=zab
   have htn:=n1 _ _ ht'
   have y6:SameX tp H3 (upd H' p1 (.lst acc)):=x5.trans (xx.trans (n1.x tp))
   have hq1:=hq.same n1
   generalize (upd H' p1 (.lst acc))=G1 at *
   have w26:=sqtl y6 htp3 w23
   have w46:∀p∈its,SqT K G1 p.1 ((pl p.2).map V.int):=fun p hp=>sqtl y6 htp3 (w43 p hp)
   have Fx:FrA K G1 va f:=sqtl y6 htp3 F3
   obtain⟨jq,ejq,ejs,jqT⟩:=items_of hq1
   have hjl:jq.length=qs.length:=by rw[<-ejs,yaa]
   refine⟨_,rfl,_,rfl,_,_,rfl,rfl,_,rfl,tt,_,rfl,.inr w26,fun l2 hl2=> ?_⟩
   have n2:=zad hl2 (.lst (its.map fun p=>V.ref p.1))
   refine⟨_,rfl,l2,p1,_,_,rfl,rfl,zab,n2 _ _ hacc,by rw[ejq,yaa,yaa,sizeLine_eq];omega,fun l3 hl3=> ?_⟩
   have n3:=zad hl3 (.lst ((its.map fun p=>V.ref p.1)++acc))
   have hl33:(upd (upd G1 l2 (.lst (its.map fun p=>V.ref p.1))) l3 (.lst ((its.map fun p=>V.ref p.1)++acc))) l3=some (.lst ((its++jq).map fun p=>V.ref p.1)):=by rw[zab,ejq,yad]
   have n23:=n2.trans n3
   generalize (upd (upd G1 l2 (.lst (its.map fun p=>V.ref p.1))) l3 (.lst ((its.map fun p=>V.ref p.1)++acc)))=G2 at *
   have jT:∀p∈its++jq,SqT K G2 p.1 ((pl p.2).map V.int):=fun p hp'=>by
    rcases yax.mp hp' with z|z
    ·exact n23.tup (w46 p z)
    ·exact n23.tup (jqT p z)
   have epm:((its++jq).map (·.2))=ts++qs:=by rw[yad,eits,ejs]
   have hq2:PairsOk (n+1) ((its++jq).map (·.2)):=by
    rw[epm]
    refine⟨List.nodup_append.mpr ⟨hA.pk.nd,nodup_lt2 hqs,fun x hx y hy e=> ?_⟩,fun p hp'=> ?_⟩
    ·have a1:=hA.pk.lt x hx
     have a2:=hqo y hy
     rw[e]at a1
     omega
    ·rcases yax.mp hp' with z|z
     ·have:=hA.pk.lt p z;omega
     ·have:=hqo p z;omega
   have ejl:(its++jq).length<=55:=by rw[yay];omega
   generalize its++jq=jts at *
   refine⟨l3,jts.map (fun p=>(p.1,pl p.2)),rfl,by rw[ycw];exact SqL.of hl33,fun p hp'=> ?_,by rw[yaa];omega,fun l4 its' hl4 hperm hsort=> ?_⟩
   ·obtain⟨p',hp'',rfl⟩:=ybc.mp hp'
    exact⟨jT p' hp'',by unfold pl;simp⟩
   have n4:=zad hl4 (.lst (its'.map fun p=>V.ref p.1))
   refine⟨l4,_,rfl,.inl ⟨SqL.of zab,fun t1 ht1=>⟨(by show 2<=sizeLine;decide),fun wb hwb=> ?_⟩⟩⟩
   have n5:=zad ht1 (.tup (its'.map fun p=>V.ref p.1))
   have n6:=zad hwb (.tup [.int (n+1),.ref t1])
   have n46:=n4.trans (n5.trans n6)
   obtain⟨us,W,pus⟩:=srt_web (K:=K) (n:=n+1) (by omega) (by omega) hq2 hperm hsort (fun p hp'=>n46.tup (jT p hp')) (SqT.of zab) (SqT.of (n6 _ _ zab))
   rw[epm]at pus
   refine⟨wb,n+1,us,rfl,W,fun vb ss' ov' Z' Y' X' H9 s9 e9 hSo' hSh'=> ?_⟩
   have hV':IsVal (n+1) us (lowF Z' ov'):=⟨ss',ov',Z',Y',X',hSo',hSh',rfl⟩
   obtain⟨_,_,g2⟩:=hV'.frc
   obtain⟨c1',c2'⟩:=hV.both hV' (by omega) hA.pk W.pk (fun p hp'=>pus.mem_iff.mpr (ybq _ hp')) n.toNat (by omega) (fun q hq' hne=>by omega) (fun p hp' a1 a2=>by
    rcases yax.mp (pus.mem_iff.mp hp')with z|z
    ·exact z
    ·have:=hqo p z
     omega)
   have n29:=n23.trans (n46.trans s9)
   refine⟨va,vb,f,lowF Z' ov',rfl,n29.tup Fx,e9,f2,g2,c1',c2',fun H10 s10=>⟨_,rfl,?_⟩⟩
   exact iteF (hN _ _ ⟨_,_,t',rfl,y6.trans ((n29.trans s10).x tp),(n29.trans s10) _ _ htn⟩)
 obtain⟨o7,o8,t6,rfl,x6,htp6⟩:=p
 -- a place fewer
 have x36:SameX tp H H6:=(s3.x tp).trans x6
 refine⟨_,rfl,rfl,_,rfl,?_⟩
 refine ite2 (fun c=>qq H6 t6 x36 htp6) (fun c=> ?_)
 have nz:n≠0:=fun z=>c (by rw[z];rfl)
 have w26:=sqtl x6 htp3 w23
 have w46:∀p∈its,SqT K H6 p.1 ((pl p.2).map V.int):=fun p hp=>sqtl x6 htp3 (w43 p hp)
 have Fx:FrA K H6 va f:=sqtl x6 htp3 F3
 refine⟨_,rfl,tt,_,rfl,w26,fun hz=> ?_⟩
 refine comp_tup (xs:=its.map fun p=>V.ref p.1) (fun i acc σ H'=>acc=((its.take i).filter fun p=>decide (p.2.2<n-1)).map (fun p=>V.ref p.1)/\H'=H6/\∃o,σ=[o,some (.int n)]) ⟨rfl,rfl,_,rfl⟩ (fun i acc σ H' _ p=>by rw[p.2.1];exact w26) (fun i acc σ H' hi p=> ?_) hz (fun i x acc σ H' hx p=> ?_) (fun acc σ H' p=> ?_)
 ·rw[p.1,yaa]
  exact yat (ybe _ _) (by rw[ybh];exact ycj _ _)
 ·obtain⟨rfl,rfl,o,rfl⟩:=p
  rw[yaf]at hx
  cases ex:its[i]? with
  |none=>rw[ex]at hx;cases hx
  |some it=>
   rw[ex]at hx
   cases hx
   have hit:=w46 it (yav ex)
   have go:(its.take (i+1)).filter (fun p=>decide (p.2.2<n-1))=(its.take i).filter (fun p=>decide (p.2.2<n-1))++(if decide (it.2.2<n-1)=true then[it]else[]):=by
    rw[ybg,ex,ycx]
    congr 1
    show List.filter _ [it]=_
    rw[ycs];rfl
   refine⟨_,rfl,it.1,_,_,.int it.2.2,rfl,rfl,hit,rfl,_,rfl,_,_,rfl,rfl,_,_,rfl,rfl,_,rfl,?_⟩
   refine ite2 (fun c=> ?_) (fun c=> ?_)
   ·exact⟨_,rfl,by rw[go,if_pos c,yad];rfl,rfl,_,rfl⟩
   ·exact⟨by rw[go,if_neg c,ybr],rfl,_,rfl⟩
 intro p1 hp1
 obtain⟨rfl,rfl,_⟩:=p
 rw[yaa,ybk]
 generalize hjts:its.filter (fun p=>decide (p.2.2<n-1))=jts at *
 have jm:jts.map (·.2)=ts.filter fun p=>decide (p.2<n-1):=by
  rw[<-hjts,<-eits,List.filter_map];rfl
 have n1:=zad hp1 (.lst (jts.map fun p=>V.ref p.1))
 refine⟨p1,_,rfl,.inl ⟨SqL.of zab,fun t1 ht1=> ?_⟩⟩
 have n2:=zad ht1 (.tup (jts.map fun p=>V.ref p.1))
 refine⟨_,rfl,_,_,rfl,rfl,_,rfl,(by show 2<=sizeLine;decide),fun wb hwb=> ?_⟩
 have n3:=zad hwb (.tup [.int (n-1),.ref t1])
 have n13:=n1.trans (n2.trans n3)
 have Dv:=of_items (K:=K) jts (fun p hp=>n13.tup (w46 p (by rw[<-hjts]at hp;exact(yar.mp hp).1)))
 rw[jm]at Dv
 have ok:=web_up (n:=n-1) (by omega) (by omega) (hA.srt.filter _) fun p (hp:p∈ts.filter fun p=>decide (p.2<n-1))=>by
  obtain⟨m1,m2⟩:=yar.mp hp
  have:=hA.pk.lt p m1
  have:=of_decide_eq_true m2
  omega
 refine⟨wb,n-1,_,rfl,⟨⟨t1,_,SqT.of zab,SqT.of (n3 _ _ zab),Dv⟩,by omega,by omega,ok.1,ok.2⟩,fun vb ss' ov' Z' Y' X' H9 s9 e9 hSo' hSh'=> ?_⟩
 have hV':IsVal (n-1) (ts.filter fun p=>decide (p.2<n-1)) (lowF Z' ov'):=⟨ss',ov',Z',Y',X',hSo',hSh',rfl⟩
 obtain⟨_,_,g2⟩:=hV'.frc
 obtain⟨c1',c2'⟩:=hV'.both hV (by omega) ok.1 hA.pk (fun p hp'=>(yar.mp hp').1) (n-1).toNat (by omega) (fun q hq' hne=>by omega) (fun p hp' a1 a2=>by
  have:=hA.pk.lt p hp'
  exact yar.mpr ⟨hp',decide_eq_true (by omega)⟩)
 refine⟨_,rfl,vb,va,lowF Z' ov',f,rfl,e9,(n13.trans s9).tup Fx,g2,f2,c1',c2',fun H10 s10=> ?_⟩
 have nn:=n13.trans (s9.trans s10)
 exact qq H10 t6 (x36.trans (nn.x tp)) (nn _ _ htp6)
noncomputable def spLawL(T:Addr)(K:W.Frag):Sp:=fun vs H Q _=>∃(a:Addr) (ns:List Int),vs=[.ref a]/\ScrV K H a ns/\Lam H T/\∀H',Q (.bl true) H'
theorem spLawL_of{T:Addr}{H:Hp}{a:Addr}{ns:List Int}(hO:OnlyL T H)(hS:SqL K H a (ns.map V.int)):spLawL T K [.ref a] H (fun v _=>v= .bl true) fun _ _ _=>False:=by
 refine⟨a,ns,rfl,?_,.inl hO.1,fun _=>rfl⟩
 have na:∀xs,H a≠some (.lst xs):=fun xs h=>by
  by_cases e:a=T
  ·rw[e,hO.1]at h;cases h
  ·rcases hO.2 a e with q|⟨o,ys,q⟩
   ·rw[q]at h;cases h
   ·rw[q]at h;cases h
 rcases hS with(h|⟨o,h⟩)|h
 ·exact absurd h (na _)
 ·exact .inl ⟨o,h⟩
 ·exact .inr h
theorem ScrV.tbl{T scr:Addr}{H H':Hp}{ns:List Int}{tb:Array Value}(h:ScrV K H scr ns)(e:SameX T H H')(hn:H T=some (.tbl tb)):ScrV K H' scr ns:=by
 rcases h with⟨o,h⟩|h
 ·exact .inl ⟨o,e _ _ (tbl_ne hn h fun _ z=>nomatch z) h⟩
 ·exact .inr h
theorem WebIs.tblx{T a:Addr}{H H':Hp}{n:Int}{ts:List (Int×Int)}{tb:Array Value}(h:WebIs K H a n ts)(e:SameX T H H')(hn:H T=some (.tbl tb)):WebIs K H' a n ts:=by
 have go:∀{b:Addr} {xs:List V},SqT K H b xs->SqT K H' b xs:=fun{b xs} q=>by
  rcases q with(q|⟨o,q⟩)|q
  ·exact .inl (.inl (e _ _ (fun z=>by rw[z,hn]at q;cases q) q))
  ·exact .inl (.inr ⟨o,e _ _ (fun z=>by rw[z,hn]at q;cases q) q⟩)
  ·exact .inr q
 obtain⟨t,rs,h1,h2,h3⟩:=id h.web
 obtain⟨its,rfl,e2,h4⟩:=items_of h3
 have d:=of_items (K:=K) (H:=H') its fun p hp=>go (h4 p hp)
 rw[e2]at d
 exact⟨⟨t,_,go h1,go h2,d⟩,h.h0,h.h1,h.pk,h.ok⟩
theorem FrA.tblx{T a:Addr}{H H':Hp}{f:Int×Nat}{tb:Array Value}(h:FrA K H a f)(e:SameX T H H')(hn:H T=some (.tbl tb)):FrA K H' a f:=by
 rcases h with(q|⟨o,q⟩)|q
 ·exact .inl (.inl (e _ _ (fun z=>by rw[z,hn]at q;cases q) q))
 ·exact .inl (.inr ⟨o,e _ _ (fun z=>by rw[z,hn]at q;cases q) q⟩)
 ·exact .inr q
theorem most_set{s:List Int}{ts:List (Int×Int)}{w:Bool}{n:Nat}(h:MostOf s ts w n):SetK ts w n s/\∀t,SetK ts w n t->t.length<=s.length:=by
 obtain⟨ss,hS,i,hi,hall⟩:=h
 have m:s∈ss:=yav hi
 refine⟨sets_k n s (yar.mp (hS.1.mem_iff.mp m)).1,fun t ht=> ?_⟩
 obtain⟨u,hu,hx⟩:=ext_full ht
 obtain⟨k,hk,rfl⟩:=ybi (hS.1.mem_iff.mpr hu)
 have l1:=(hall k _ (yag hk)).1
 have hk':=sets_k n _ (yar.mp hu).1
 have a:=len_sm ht.up ht.lt
 have b:=len_sm hk'.up hk'.lt
 have c:(Sx.sm n fun p=>if decide (((p:Nat):Int)∈t)=true then(1:Int)else 0)<=Sx.sm n fun p=>if decide (((p:Nat):Int)∈ss[k])=true then(1:Int)else 0:=sm_le n fun p _=>by
  by_cases z:((p:Nat):Int)∈t
  ·rw[if_pos (decide_eq_true z),if_pos (decide_eq_true (hx _ z))];exact ybt _
  ·rw[if_neg (by simpa using z)]
   split<;>decide
 rw[a,b]at c
 omega
theorem lam_x{T tp:Addr}{H H':Hp}{zs:List V}(h:Lam H T)(e:SameX tp H H')(ht:H tp=some (.lst zs)):Lam H' T:=by
 rcases h with h|⟨c',oc,vs,tq,h1,h2,h3,h4⟩
 ·exact .inl (e _ _ (fun z=>by rw[z,ht]at h;cases h) h)
 ·exact .inr ⟨c',oc,vs,tq,e _ _ (fun z=>by rw[z,ht]at h1;cases h1) h1,e _ _ (fun z=>by rw[z,ht]at h2;cases h2) h2,h3,h4⟩
theorem sc_law:FnScope ["script","start","tape","web","told"] ["script"] (defScope s_law):=fsc
theorem ok_law{f f1 f2 f3 f4 f5 f6 f7 f8 f9 T:Addr}{fd d1 d2 d3 d4 d5 d6 d7 d8 d9:FuncData}(F:Fun K "law" "law" s_law f fd)(D1:Dfn K mg "_law_atape" s_law_atape ["script","k"] f1 d1)(G1:FnOk P w K mg base CX0 2 f1 d1 ["script","k"] (spTape K))(D2:Dfn K mg "_law_aweb_of" zda ["script","start","tape"] f2 d2)(G2:FnOk P w K mg base CX0 3 f2 d2 ["script","start","tape"] (spAWebOf K))(D3:Dfn K mg "value" s_value ["web"] f3 d3)(G3:FnOk P w K mg base CX0 10 f3 d3 ["web"] (spValue K))(D4:Dfn K mg "_law_ano_more" zbm ["one","other"] f4 d4)(G4:FnOk P w K mg base CX0 1 f4 d4 ["one","other"] (spANm K))(D5:Dfn K mg "greatest_crowd" zcc ["web"] f5 d5)(G5:FnOk P w K mg base CX0 9 f5 d5 ["web"] (spGreatC K))(D6:Dfn K mg "fewest" s_fewest ["web"] f6 d6)(G6:FnOk P w K mg base CX0 8 f6 d6 ["web"] (spFew K T))(D7:Dfn K mg "greatest_apart" zcd ["web"] f7 d7)(G7:FnOk P w K mg base CX0 9 f7 d7 ["web"] (spGreatA K))(D8:Dfn K mg "_law_awants_right" zbo ["tape","web","told"] f8 d8)(G8:FnOk P w K mg base CX0 10 f8 d8 ["tape","web","told"] (spAWri K))(D9:Dfn K mg "_law_achanged" zcs ["tape","web"] f9 d9)(G9:FnOk P w K mg base CX0 11 f9 d9 ["tape","web"] (spACha K))(m_range:mg "range"=none)(m_max:mg "max"=none)(m_min:mg "min"=none)(m_len:mg "len"=none):
  FnOk P w K mg base CX0 12 f fd ["script"] (spLawL T K):=by
 refine F.ok sc_law (fun vs H Q E h=> ?_) (fun cdv A outer s H vs Q E hr h=> ?_)
 ·obtain⟨scr,ns,rfl,_⟩:=h
  rfl
 obtain⟨scr,ns,rfl,hS,hL,q⟩:=h
 refine⟨_,(zae (ps_for PassesOwn.never rfl (pi_range2 rfl m_range (zaa zag (zaa (zam (call_max2 rfl) rfl m_max (by decide+kernel) (zaa zag (zaa (zam (call_min2 rfl) rfl m_min (by decide+kernel) (zaa zag (zaa (zam zba rfl m_len PySem.boot_len (zaa (pv 0) zac)) zac))) zac))) zac))) (zai (i:=1) sc_law.nd rfl (Or.inl rfl)) (zae (zal (i:=2) sc_law.nd rfl (Or.inl rfl) (pc G1 hr D1 (zaa (pv 0) (zaa (pv 1) zac)))) (zae (zal (i:=3) sc_law.nd rfl (Or.inl rfl) (pc G2 hr D2 (zaa (pv 0) (zaa (pv 1) (zaa (pv 2) zac))))) (zae (zal (i:=4) sc_law.nd rfl (Or.inl rfl) (pc G3 hr D3 (zaa (pv 3) zac))) (zae (zcr (pt_not (zdl (pc G4 hr D4 (zaa (zaw (zaa (zam zba rfl m_len PySem.boot_len (zaa (pc G5 hr D5 (zaa (pv 3) zac)) zac)) (zaa zag zac))) (zaa (pv 4) zac))))) (zaf (zak pe_bl)) zas) (zae (zcr (pt_not (zdl (pc G4 hr D4 (zaa (pv 4) (zaa (zaw (zaa (zao zat (pc G6 hr D6 (zaa (pv 3) zac)) zag (fun _ _=>rfl)) (zaa zag zac))) zac))))) (zaf (zak pe_bl)) zas) (zae (zcr (zap op_lt (zan zcn (zam zba rfl m_len PySem.boot_len (zaa (pc G7 hr D7 (zaa (pv 3) zac)) zac)) (zao zat (pv 4) zag (fun _ _=>rfl))) (zan zcn (zao zat (pv 3) zag (fun _ _=>rfl)) (zao zat (pv 4) zag (fun _ _=>rfl))) (nomark _)) (zaf (zak pe_bl)) zas) (zaf (zcr (PW.pt (pw_or (pt_not (zdl (pc G9 hr D9 (zaa (pv 2) (zaa (pv 3) zac))))) (pw_or1 (pt_not (zdl (pc G8 hr D8 (zaa (pv 2) (zaa (pv 3) (zaa (pv 4) zac))))))))) (zaf (zak pe_bl)) zas))))))))) (zaf (zak pe_bl))),?_⟩
 obtain⟨tb,ht0⟩:=hL.at
 refine⟨_,rfl,scr,_,rfl,.inl hS.sq,fun hz=>⟨_,_,rfl,_,_,rfl,_,_,rfl,?_⟩⟩
 obtain⟨m,em,hm0,hm1⟩:∃m:Int,(if(if((ns.map V.int).length:Int)<3 then((ns.map V.int).length:Int)else 3)>1 then(if((ns.map V.int).length:Int)<3 then((ns.map V.int).length:Int)else 3)else 1)=m/\0<=m/\m<=3:=by
  refine⟨_,rfl,?_,?_⟩
  ·split
   ·split<;>omega
   ·omega
  ·split
   ·split<;>omega
   ·omega
 rw[em]
 refine⟨⟨by decide,by decide,by omega,by omega⟩,?_⟩
 refine zbz (n:=(m-0).toNat) (fun i σ H'=>SameX T H H'/\Lam H' T/\∃o1 o2 o3 o4,σ=[some (.ref scr),o1,o2,o3,o4]) ⟨SameX.refl _ _,hL,_,_,_,_,rfl⟩ (fun i σ H1 hi p=> ?_) (fun σ H1 p=> ?_)
 ·obtain⟨s1,hL1,o1,o2,o3,o4,rfl⟩:=p
  have hS1:=ScrV.tbl hS s1 ht0
  refine⟨_,rfl,_,rfl,scr,ns,0+(i:Int),rfl,hS1,by omega,fun tp H2 t s2 htp htp0=> ?_⟩
  refine⟨_,rfl,_,rfl,_,rfl,scr,tp,ns,_,t,rfl,hS1.same s2,htp,fun r n ts H3 t3 x3 h3 hW=> ?_⟩
  have h0:=hW.h0
  have h10:=hW.h1
  have s13:=Same.over' s2 htp0 x3
  have hL3:=hL1.same s13
  refine⟨_,rfl,r,n,ts,rfl,hW,fun va ss ov Z Y X H4 s4 e4 hSo hSh=> ?_⟩
  have hV:IsVal n ts (lowF Z ov):=⟨ss,ov,Z,Y,X,hSo,hSh,rfl⟩
  have hp:=hSh.pos
  have lw:=zbj Z hp
  have lwe:=lw.eq
  have lwp:=lw.pos
  obtain⟨f0,f1,f2⟩:=hV.frc
  have hW4:=hW.same s4
  -- no crowd has more places
  refine⟨_,rfl,r,n,ts,rfl,hW4,fun gc C H5 s5 e5 mC=> ?_⟩
  obtain⟨hC,_⟩:=most_set mC
  refine⟨gc,_,rfl,.inr e5,fun hz=>⟨(by show 2<=sizeLine;decide),fun p1 hp1=> ?_⟩⟩
  have n1:=zad hp1 (.tup [.int (((C.map V.int).length:Nat):Int),.int 1])
  refine⟨_,rfl,p1,va,(((C.map V.int).length:Nat):Int),_,1,_,rfl,SqT.of zab,(s5.trans n1).tup e4,by decide,by omega,_,rfl,?_⟩
  have c1:(((C.map V.int).length:Nat):Int)*((lowF Z ov).2:Int)<=(lowF Z ov).1*((1:Nat):Int):=by
   have k:=crowd_le hSo hSh hC
   rw[yaa,show((1:Nat):Int)=1 from rfl,Int.mul_one]
   refine ydf (a:=(ov:Int)) ?_ (by omega)
   rw[lwe]
   have:=ycc k (ycr (lowF Z ov).2)
   have x1:(C.length:Int)*((lowF Z ov).2:Int)*(ov:Int)=(C.length:Int)*(ov:Int)*((lowF Z ov).2:Int):=by grind
   rw[x1];exact this
  rw[decide_eq_true c1]
  refine iteF ?_
  have s45:=s5.trans n1
  generalize (upd H5 p1 (.tup [.int (((C.map V.int).length:Nat):Int),.int 1]))=H6 at *
  have hW6:=hW4.same s45
  have hL6:=hL3.same (s4.trans s45)
  obtain⟨tb6,ht6⟩:=hL6.at
  -- no more than the fewest hues
  refine⟨_,rfl,_,rfl,r,n,ts,rfl,hW6,hL6,fun rf hf df hs H7 x7 hL7 e7 _ hH _ _=> ?_⟩
  refine⟨rf,_,_,.int (flo ts (rgI n.toNat)),rfl,rfl,SqT.of e7,rfl,(by show 2<=sizeLine;decide),fun p2 hp2=> ?_⟩
  have n2:=zad hp2 (.tup [.int (flo ts (rgI n.toNat)),.int 1])
  have F7:FrA K H7 va (lowF Z ov):=FrA.tblx (s45.tup e4) x7 ht6
  refine⟨va,p2,_,flo ts (rgI n.toNat),_,1,rfl,n2.tup F7,SqT.of zab,by omega,by decide,_,rfl,?_⟩
  have c2:(lowF Z ov).1*((1:Nat):Int)<=flo ts (rgI n.toNat)*((lowF Z ov).2:Int):=by
   have k:=hue_le hSo hSh hW.pk hH
   rw[show((1:Nat):Int)=1 from rfl,Int.mul_one]
   refine ydf (a:=(ov:Int)) ?_ (by omega)
   rw[lwe]
   have:=ycc k (ycr (lowF Z ov).2)
   have x1:flo ts (rgI n.toNat)*((lowF Z ov).2:Int)*(ov:Int)=flo ts (rgI n.toNat)*(ov:Int)*((lowF Z ov).2:Int):=by grind
   rw[x1];exact this
  rw[decide_eq_true c2]
  refine iteF ?_
  have hW7:=(WebIs.tblx hW6 x7 ht6).same n2
  have F8:FrA K _ va (lowF Z ov):=n2.tup F7
  have hL8:=hL7.same n2
  have nTt:tp≠T:=fun z=>by
   obtain⟨tb3,ht3⟩:=hL3.at
   rw[<-z,h3]at ht3;cases ht3
  have ht8:=n2 _ _ (x7 _ _ nTt (s45 _ _ (s4 _ _ h3)))
  have x38:SameX T H3 (upd H7 p2 (.tup [.int (flo ts (rgI n.toNat)),.int 1])):=((s4.trans s45).x T).trans (x7.trans (n2.x T))
  generalize (upd H7 p2 (.tup [.int (flo ts (rgI n.toNat)),.int 1]))=H8 at *
  -- a greatest apart set
  refine⟨_,rfl,r,n,ts,rfl,hW7,fun ga A9 H9 s9 e9 mA=> ?_⟩
  obtain⟨_,hAm⟩:=most_set mA
  obtain⟨tw,rw9,w1,_,_⟩:=id (hW7.same s9).web
  have F9:FrA K H9 va (lowF Z ov):=s9.tup F8
  have al:A9.length<=10:=by
   obtain⟨hAk,_⟩:=most_set mA
   have:=(SetOk.len (n:=n) ⟨hAk.up,fun x hx=>by have:=hAk.lt x hx;omega⟩ h10)
   exact this
  refine⟨ga,_,rfl,.inr e9,fun hz=>⟨_,rfl,va,_,_,.int (lowF Z ov).1,rfl,rfl,F9,rfl,_,_,rfl,rfl,.inl ⟨by omega,by rw[yaa];omega⟩,_,rfl,r,_,_,.int n,rfl,rfl,w1,rfl,_,rfl,va,_,_,.int (((lowF Z ov).2:Nat):Int),rfl,rfl,F9,rfl,_,_,rfl,rfl,.inl ⟨by omega,by omega⟩,_,_,rfl,rfl,_,rfl,?_⟩⟩
  have c3:¬(((A9.map V.int).length:Nat):Int)*(lowF Z ov).1<n*((lowF Z ov).2:Int):=by
   have k:=apart_ge hSo hSh hAm
   rw[yaa,ybp h0]at *
   intro z
   have z2:=Int.mul_lt_mul_of_pos_right z (show(0:Int)<(ov:Int) by omega)
   have x1:(A9.length:Int)*(lowF Z ov).1*(ov:Int)=(A9.length:Int)*((lowF Z ov).1*(ov:Int)):=by grind
   rw[x1,lwe]at z2
   have k2:=ycc k (ycr (lowF Z ov).2)
   have x2:n*((lowF Z ov).2:Int)*(ov:Int)=n*(ov:Int)*((lowF Z ov).2:Int):=by grind
   have x3:(A9.length:Int)*Z*((lowF Z ov).2:Int)=(A9.length:Int)*(Z*((lowF Z ov).2:Int)):=by grind
   rw[x2]at z2
   rw[x3]at k2
   omega
  rw[decide_eq_false c3]
  refine iteF ?_
  -- what is changed, what is wanted
  have ht9:=s9 _ _ ht8
  refine⟨_,rfl,_,rfl,tp,r,t3,n,ts,rfl,ht9,hW7.same s9,fun H10 t10 x10 h10'=>⟨_,rfl,?_⟩⟩
  refine iteF ?_
  have W10:=(hW7.same s9).samex x10 ht9
  have F10:FrA K H10 va (lowF Z ov):=sqtl x10 ht9 F9
  refine⟨_,rfl,_,rfl,_,rfl,tp,r,va,t10,n,ts,lowF Z ov,rfl,h10',W10,F10,hV,fun H11 t11 x11 h11=>⟨_,rfl,?_⟩⟩
  refine iteF ?_
  have xx:SameX tp H8 H11:=(s9.x tp).trans (x10.trans x11)
  have hLf:Lam H11 T:=lam_x hL8 xx ht8
  refine⟨s1.trans fun b o hb e=> ?_,hLf,_,_,_,_,rfl⟩
  have nb:b≠tp:=fun z=>by rw[z,htp0]at e;cases e
  exact xx _ _ nb (x38 _ _ hb (s13 _ _ e))
 ·exact q _
end
end Hs
namespace L2
open PySem
section
variable{K:W.Frag}{x y:Str}{st:Stmt}{f C:Addr}{fd:FuncData}{oc:Value}{od an:Option Addr}{osl:Array (Option Value)}{kV doc pm cdv ct:Value}{mg:Str->Option Value}{h:Heap}
noncomputable def DA(K:W.Frag)(x:Str)(st:Stmt)(f:Addr):Prop:=∃fd,Fun K x x st f fd/\PySem.W.nsIn K mainGlobals x=some (some (.ref f))
theorem DA.of(a:PySem.W.nsIn K mainGlobals x=some (some (.ref f)):=by k_is)(l:K.lookup f=some ⟨oc,od,.func (PySem.W.fnOf x x (defArgs st) (defBody st) (defScope st) .none kV doc pm an cdv ct),osl⟩:=by k_is)(c:PySem.W.codeIn K cdv x=true:=by k_is)(k:PySem.W.keepIn K (.ref f)=true:=by k_is):DA K x st f:=⟨_,fun_mk l c k,a⟩
noncomputable def MA(K:W.Frag)(C:Addr)(x y:Str)(st:Stmt)(f:Addr):Prop:=∃fd,Fun K x y st f fd/\PySem.W.findIn K (.ref C) x=some (some (.ref f))/\PySem.W.isFn K (.ref f)=true/\PySem.W.keepIn K (.ref f)=true
theorem MA.of(a:PySem.W.findIn K (.ref C) x=some (some (.ref f)):=by k_is)(l:K.lookup f=some ⟨oc,od,.func (PySem.W.fnOf x y (defArgs st) (defBody st) (defScope st) .none kV doc pm an cdv ct),osl⟩:=by k_is)(c:PySem.W.codeIn K cdv y=true:=by k_is)(k:PySem.W.keepIn K (.ref f)=true:=by k_is)(i:PySem.W.isFn K (.ref f)=true:=by k_is):MA K C x y st f:=⟨_,fun_mk l c k,a,i,k⟩
theorem DA.d{ps:List Str}(X:K.In h)(G:h.Ns mainGlobals mg)(F:Fun K x x st f fd)(a:PySem.W.nsIn K mainGlobals x=some (some (.ref f)))(b:∀(kV doc pm:Value) (an:Option Addr) (cdv ct:Value) (us:List Value),us.length=ps.length->bindArgs (PySem.W.fnOf x x (defArgs st) (defBody st) (defScope st) .none kV doc pm an cdv ct) ⟨us,[]⟩=pure (ps.zip us)):Dfn K mg x st ps f fd:=⟨F,F.binds b,PySem.W.mg_of X G a⟩
theorem MA.d{ps:List Str}(F:Fun K x y st f fd)(a:PySem.W.findIn K (.ref C) x=some (some (.ref f))/\PySem.W.isFn K (.ref f)=true/\PySem.W.keepIn K (.ref f)=true)(b:∀(kV doc pm:Value) (an:Option Addr) (cdv ct:Value) (us:List Value),us.length=ps.length->bindArgs (PySem.W.fnOf x y (defArgs st) (defBody st) (defScope st) .none kV doc pm an cdv ct) ⟨us,[]⟩=pure (ps.zip us)):Mdf K C x y st ps f fd:=⟨F,F.binds b,⟨a.1,a.2.1,a.2.2⟩⟩
theorem bn1{p1:Str}{P:List Value->Prop}(h:∀a,P [a])(us:List Value)(hl:us.length=[p1].length):P us:=by
 match us,hl with
 |[a],_=>exact h a
theorem bn2{p1 p2:Str}{P:List Value->Prop}(h:∀a b,P [a,b])(us:List Value)(hl:us.length=[p1,p2].length):P us:=by
 match us,hl with
 |[a,b],_=>exact h a b
theorem bn3{p1 p2 p3:Str}{P:List Value->Prop}(h:∀a b c,P [a,b,c])(us:List Value)(hl:us.length=[p1,p2,p3].length):P us:=by
 match us,hl with
 |[a,b,c],_=>exact h a b c
theorem bn4{p1 p2 p3 p4:Str}{P:List Value->Prop}(h:∀a b c d,P [a,b,c,d])(us:List Value)(hl:us.length=[p1,p2,p3,p4].length):P us:=by
 match us,hl with
 |[a,b,c,d],_=>exact h a b c d
end
end L2
namespace Hs
open PySem L2 HsD
theorem len_3{α:Type}:∀{us:List α},us.length=3->∃a b c,us=[a,b,c]
 |[a,b,c],_=>⟨a,b,c,rfl⟩
theorem all_mk{l:W.OpenLaw}{w:World}{K:W.Frag}{h:Heap}{mg:Str->Option Value}{fa:Addr}{T:Addr}(X:K.In h)(G:h.Ns mainGlobals mg)(hfa:mg "law"=some (.ref fa))
  {f0 f1 f2 f3 f4 f5 f6 f7 f8 f9 f10 f11 f12 f13 f14 f15 f16 f17 f18 f19 f20 f21 f22 f23 f24 f25 f26 f27 f29 f30 f31 f32 f33 f34 f35 f36 f37 f38 f39 f40 f41 mf0 mf1 mf2 mf3 mf4 mf5 mf6 mf7 mf8 mf9:Addr}{f28 cL:Addr}{od28 an28:Option Addr}{sl28:Array (Option Value)}{oc28 kV28 dc28 pm28 ct28:Value}{f42:Addr}{od42 an42:Option Addr}{sl42:Array (Option Value)}{oc42 kV42 dc42 pm42 cd42 ct42:Value}{tk0:Tok}{tk1:Tok}{c_Tableau:Addr}(a0:DA K "is_whole" zdc f0)(a1:DA K "is_place" s_is_place f1)(a2:DA K "are_places" s_are_places f2)(a3:DA K "is_rising" zdi f3)(a4:DA K "is_set" s_is_set f4)(a5:DA K "are_ties" s_are_ties f5)(a6:DA K "is_web" s_is_web f6)(a7:DA K "need_web" zch f7)(a8:DA K "all_sets" s_all_sets f8)(a9:DA K "without" s_without f9)(a10:DA K "has_tie" s_has_tie f10)(a11:DA K "places_by_tie" zbu f11)(a12:DA K "in_both" s_in_both f12)(a13:DA K "full_sets" zdj f13)(a14:DA K "full_apart" zcw f14)(a15:DA K "full_crowds" zdb f15)(a16:DA K "first_greatest" zbk f16)(a17:DA K "greatest_apart" zcd f17)(a18:DA K "greatest_crowd" zcc f18)(a19:DA K "greatest_divisor" zbp f19)(a20:DA K "lowest" s_lowest f20)(a21:DA K "need_wants" s_need_wants f21)(a22:DA K "shares" s_shares f22)(a23:DA K "value" s_value f23)(a24:DA K "can_stand_with" zce f24)(a25:DA K "first_parts" zck f25)(a26:DA K "highest_floor" zcj f26)(a27:DA K "highest_floors" zcb f27)(a28:W.nsIn K mainGlobals "best_part"=some (some (.ref f28)))(l28:K.lookup f28=some ⟨oc28,od28,.func (W.fnOf "best_part" "best_part" (defArgs zbi) (defBody zbi) (defScope zbi) .none kV28 dc28 pm28 an28 (.ref cL) ct28),sl28⟩)(c28:W.codeIn K (.ref cL) "best_part"=true)(k28:W.keepIn K (.ref f28)=true)(a29:DA K "hues_by_floors" zca f29)(a30:DA K "fewest" s_fewest f30)(a31:DA K "_law_acell" zdh f31)(a32:DA K "_law_atape" s_law_atape f32)(a33:DA K "_law_adigit" zbv f33)(a34:DA K "_law_aweb" s_law_aweb f34)(a35:DA K "_law_alow" s_law_alow f35)(a36:DA K "_law_asum" s_law_asum f36)(a37:DA K "_law_ano_more" zbm f37)(a38:DA K "_law_aweb_of" zda f38)(a39:DA K "_law_abetween" zct f39)(a40:DA K "_law_achanged" zcs f40)(a41:DA K "_law_awants_right" zbo f41)(a42:W.nsIn K mainGlobals "law"=some (some (.ref f42)))(l42:K.lookup f42=some ⟨oc42,od42,.func (W.fnOf "law" "law" (defArgs s_law) (defBody s_law) (defScope s_law) .none kV42 dc42 pm42 an42 cd42 ct42),sl42⟩)(c42:W.codeIn K cd42 "law"=true)(k42:W.keepIn K (.ref f42)=true)(x0:W.nsIn K mainGlobals "MOST_PLACES"=some (some (.int 10 tk0)))(x1:W.nsIn K mainGlobals "MOST_WANT"=some (some (.int 99 tk1)))(z0:W.nsIn K mainGlobals "abs"=some none)(z1:W.nsIn K mainGlobals "all"=some none)(z2:W.nsIn K mainGlobals "any"=some none)(z3:W.nsIn K mainGlobals "bool"=some none)(z4:W.nsIn K mainGlobals "enumerate"=some none)(z5:W.nsIn K mainGlobals "int"=some none)(z6:W.nsIn K mainGlobals "isinstance"=some none)(z7:W.nsIn K mainGlobals "len"=some none)(z8:W.nsIn K mainGlobals "list"=some none)(z9:W.nsIn K mainGlobals "max"=some none)(z10:W.nsIn K mainGlobals "min"=some none)(z11:W.nsIn K mainGlobals "range"=some none)(z12:W.nsIn K mainGlobals "sorted"=some none)(z13:W.nsIn K mainGlobals "tuple"=some none)(z14:W.nsIn K mainGlobals "zip"=some none)(y0:W.nsIn K mainGlobals "Tableau"=some (some (.ref c_Tableau)))(ma0:MA K c_Tableau "__init__" "Tableau.__init__" zcv mf0)(ma1:MA K c_Tableau "next_column" "Tableau.next_column" zbc mf1)(ma2:MA K c_Tableau "is_tighter" "Tableau.is_tighter" zbe mf2)(ma3:MA K c_Tableau "next_row" "Tableau.next_row" zbs mf3)(ma4:MA K c_Tableau "turned" "Tableau.turned" zcf mf4)(ma5:MA K c_Tableau "turn" "Tableau.turn" zcu mf5)(ma6:MA K c_Tableau "solve" "Tableau.solve" zcl mf6)(ma7:MA K c_Tableau "fraction_at" "Tableau.fraction_at" zaq mf7)(ma8:MA K c_Tableau "price_of" "Tableau.price_of" zbr mf8)(ma9:MA K c_Tableau "share_of" "Tableau.share_of" zbq mf9)(cA_Tableau:W.plainGet K c_Tableau Str.empty=true)(cB_Tableau:W.hasDictIn K c_Tableau=true)(cC_Tableau:W.plainOver K c_Tableau=true)(cD_Tableau:W.findIn K (.ref c_Tableau) "__setattr__"=some (some (.builtin "object.__setattr__")))(cE_Tableau:W.makesIn K c_Tableau=true)(cF_Tableau:W.keepIn K (.ref c_Tableau)=true)(cN_Tableau_cells:W.findIn K (.ref c_Tableau) "cells"=some none)(cN_Tableau_over:W.findIn K (.ref c_Tableau) "over"=some none)(cN_Tableau_columns:W.findIn K (.ref c_Tableau) "columns"=some none)(cN_Tableau_rows:W.findIn K (.ref c_Tableau) "rows"=some none):
  ∃fd:FuncData,(∀(s:Shared) (v:Value),BindsTo s fd ⟨[v],[]⟩ [("script",v)])/\∀base:Heap,K.In base->base.Ns mainGlobals mg->LamB base mg cL T->FnOk l.prog w K mg base CX0 12 fa fd ["script"] (spLawL T K):=by
 have e:=hfa.symm.trans (W.mg_of X G a42)
 cases e
 obtain⟨d0,F0,a0⟩:=a0
 have E_is_whole:=DA.d (ps:=["thing"]) X G F0 a0 (fun _ _ _ _ _ _=>bn1 fun _=>rfl)
 obtain⟨d1,F1,a1⟩:=a1
 have E_is_place:=DA.d (ps:=["n","thing"]) X G F1 a1 (fun _ _ _ _ _ _=>bn2 fun _ _=>rfl)
 obtain⟨d2,F2,a2⟩:=a2
 have E_are_places:=DA.d (ps:=["n","things"]) X G F2 a2 (fun _ _ _ _ _ _=>bn2 fun _ _=>rfl)
 obtain⟨d3,F3,a3⟩:=a3
 have E_is_rising:=DA.d (ps:=["things"]) X G F3 a3 (fun _ _ _ _ _ _=>bn1 fun _=>rfl)
 obtain⟨d4,F4,a4⟩:=a4
 have E_is_set:=DA.d (ps:=["n","thing"]) X G F4 a4 (fun _ _ _ _ _ _=>bn2 fun _ _=>rfl)
 obtain⟨d5,F5,a5⟩:=a5
 have E_are_ties:=DA.d (ps:=["n","thing"]) X G F5 a5 (fun _ _ _ _ _ _=>bn2 fun _ _=>rfl)
 obtain⟨d6,F6,a6⟩:=a6
 have E_is_web:=DA.d (ps:=["thing"]) X G F6 a6 (fun _ _ _ _ _ _=>bn1 fun _=>rfl)
 obtain⟨d7,F7,a7⟩:=a7
 have E_need_web:=DA.d (ps:=["thing"]) X G F7 a7 (fun _ _ _ _ _ _=>bn1 fun _=>rfl)
 obtain⟨d8,F8,a8⟩:=a8
 have E_all_sets:=DA.d (ps:=["n"]) X G F8 a8 (fun _ _ _ _ _ _=>bn1 fun _=>rfl)
 obtain⟨d9,F9,a9⟩:=a9
 have E_without:=DA.d (ps:=["some","part"]) X G F9 a9 (fun _ _ _ _ _ _=>bn2 fun _ _=>rfl)
 obtain⟨d10,F10,a10⟩:=a10
 have E_has_tie:=DA.d (ps:=["web","one","other"]) X G F10 a10 (fun _ _ _ _ _ _=>bn3 fun _ _ _=>rfl)
 obtain⟨d11,F11,a11⟩:=a11
 have E_places_by_tie:=DA.d (ps:=["web","place","tied"]) X G F11 a11 (fun _ _ _ _ _ _=>bn3 fun _ _ _=>rfl)
 obtain⟨d12,F12,a12⟩:=a12
 have E_in_both:=DA.d (ps:=["ones","others"]) X G F12 a12 (fun _ _ _ _ _ _=>bn2 fun _ _=>rfl)
 obtain⟨d13,F13,a13⟩:=a13
 have E_full_sets:=DA.d (ps:=["friends"]) X G F13 a13 (fun _ _ _ _ _ _=>bn1 fun _=>rfl)
 obtain⟨d14,F14,a14⟩:=a14
 have E_full_apart:=DA.d (ps:=["web"]) X G F14 a14 (fun _ _ _ _ _ _=>bn1 fun _=>rfl)
 obtain⟨d15,F15,a15⟩:=a15
 have E_full_crowds:=DA.d (ps:=["web"]) X G F15 a15 (fun _ _ _ _ _ _=>bn1 fun _=>rfl)
 obtain⟨d16,F16,a16⟩:=a16
 have E_first_greatest:=DA.d (ps:=["sets"]) X G F16 a16 (fun _ _ _ _ _ _=>bn1 fun _=>rfl)
 obtain⟨d17,F17,a17⟩:=a17
 have E_greatest_apart:=DA.d (ps:=["web"]) X G F17 a17 (fun _ _ _ _ _ _=>bn1 fun _=>rfl)
 obtain⟨d18,F18,a18⟩:=a18
 have E_greatest_crowd:=DA.d (ps:=["web"]) X G F18 a18 (fun _ _ _ _ _ _=>bn1 fun _=>rfl)
 obtain⟨d19,F19,a19⟩:=a19
 have E_greatest_divisor:=DA.d (ps:=["one","other"]) X G F19 a19 (fun _ _ _ _ _ _=>bn2 fun _ _=>rfl)
 obtain⟨d20,F20,a20⟩:=a20
 have E_lowest:=DA.d (ps:=["a","b"]) X G F20 a20 (fun _ _ _ _ _ _=>bn2 fun _ _=>rfl)
 obtain⟨d21,F21,a21⟩:=a21
 have E_need_wants:=DA.d (ps:=["web","thing"]) X G F21 a21 (fun _ _ _ _ _ _=>bn2 fun _ _=>rfl)
 obtain⟨d22,F22,a22⟩:=a22
 have E_shares:=DA.d (ps:=["web","wants"]) X G F22 a22 (fun _ _ _ _ _ _=>bn2 fun _ _=>rfl)
 obtain⟨d23,F23,a23⟩:=a23
 have E_value:=DA.d (ps:=["web"]) X G F23 a23 (fun _ _ _ _ _ _=>bn1 fun _=>rfl)
 obtain⟨d24,F24,a24⟩:=a24
 have E_can_stand_with:=DA.d (ps:=["web","part","place"]) X G F24 a24 (fun _ _ _ _ _ _=>bn3 fun _ _ _=>rfl)
 obtain⟨d25,F25,a25⟩:=a25
 have E_first_parts:=DA.d (ps:=["web","some"]) X G F25 a25 (fun _ _ _ _ _ _=>bn2 fun _ _=>rfl)
 obtain⟨d26,F26,a26⟩:=a26
 have E_highest_floor:=DA.d (ps:=["web","floors","some"]) X G F26 a26 (fun _ _ _ _ _ _=>bn3 fun _ _ _=>rfl)
 obtain⟨d27,F27,a27⟩:=a27
 have E_highest_floors:=DA.d (ps:=["web"]) X G F27 a27 (fun _ _ _ _ _ _=>bn1 fun _=>rfl)
 have F28:=fun_mk (st:=zbi) l28 c28 k28
 have E_best_part:Dfn K mg "best_part" zbi ["web","floors","some"] f28 _:=⟨F28,F28.binds (ps:=["web","floors","some"]) (fun _ _ _ _ _ _ us hl=>by obtain⟨u0,u1,u2,rfl⟩:=Hs.len_3 hl;rfl),W.mg_of X G a28⟩
 obtain⟨d29,F29,a29⟩:=a29
 have E_hues_by_floors:=DA.d (ps:=["web","floors"]) X G F29 a29 (fun _ _ _ _ _ _=>bn2 fun _ _=>rfl)
 obtain⟨d30,F30,a30⟩:=a30
 have E_fewest:=DA.d (ps:=["web"]) X G F30 a30 (fun _ _ _ _ _ _=>bn1 fun _=>rfl)
 obtain⟨d31,F31,a31⟩:=a31
 have E_law_acell:=DA.d (ps:=["script","k"]) X G F31 a31 (fun _ _ _ _ _ _=>bn2 fun _ _=>rfl)
 obtain⟨d32,F32,a32⟩:=a32
 have E_law_atape:=DA.d (ps:=["script","k"]) X G F32 a32 (fun _ _ _ _ _ _=>bn2 fun _ _=>rfl)
 obtain⟨d33,F33,a33⟩:=a33
 have E_law_adigit:=DA.d (ps:=["tape","many"]) X G F33 a33 (fun _ _ _ _ _ _=>bn2 fun _ _=>rfl)
 obtain⟨d34,F34,a34⟩:=a34
 have E_law_aweb:=DA.d (ps:=["tape","most"]) X G F34 a34 (fun _ _ _ _ _ _=>bn2 fun _ _=>rfl)
 obtain⟨d35,F35,a35⟩:=a35
 have E_law_alow:=DA.d (ps:=["a","b"]) X G F35 a35 (fun _ _ _ _ _ _=>bn2 fun _ _=>rfl)
 obtain⟨d36,F36,a36⟩:=a36
 have E_law_asum:=DA.d (ps:=["some"]) X G F36 a36 (fun _ _ _ _ _ _=>bn1 fun _=>rfl)
 obtain⟨d37,F37,a37⟩:=a37
 have E_law_ano_more:=DA.d (ps:=["one","other"]) X G F37 a37 (fun _ _ _ _ _ _=>bn2 fun _ _=>rfl)
 obtain⟨d38,F38,a38⟩:=a38
 have E_law_aweb_of:=DA.d (ps:=["script","start","tape"]) X G F38 a38 (fun _ _ _ _ _ _=>bn3 fun _ _ _=>rfl)
 obtain⟨d39,F39,a39⟩:=a39
 have E_law_abetween:=DA.d (ps:=["low","high"]) X G F39 a39 (fun _ _ _ _ _ _=>bn2 fun _ _=>rfl)
 obtain⟨d40,F40,a40⟩:=a40
 have E_law_achanged:=DA.d (ps:=["tape","web"]) X G F40 a40 (fun _ _ _ _ _ _=>bn2 fun _ _=>rfl)
 obtain⟨d41,F41,a41⟩:=a41
 have E_law_awants_right:=DA.d (ps:=["tape","web","told"]) X G F41 a41 (fun _ _ _ _ _ _=>bn3 fun _ _ _=>rfl)
 have F42:=fun_mk (st:=s_law) l42 c42 k42
 have v_MOST_PLACES:=W.mg_of X G x0
 have v_MOST_WANT:=W.mg_of X G x1
 have n_abs:=W.mg_none_of X G z0
 have n_all:=W.mg_none_of X G z1
 have n_any:=W.mg_none_of X G z2
 have n_bool:=W.mg_none_of X G z3
 have n_enumerate:=W.mg_none_of X G z4
 have n_int:=W.mg_none_of X G z5
 have n_isinstance:=W.mg_none_of X G z6
 have n_len:=W.mg_none_of X G z7
 have n_list:=W.mg_none_of X G z8
 have n_max:=W.mg_none_of X G z9
 have n_min:=W.mg_none_of X G z10
 have n_range:=W.mg_none_of X G z11
 have n_sorted:=W.mg_none_of X G z12
 have n_tuple:=W.mg_none_of X G z13
 have n_zip:=W.mg_none_of X G z14
 have m_Tableau:=W.mg_of X G y0
 obtain⟨md0,FM0,ma0⟩:=ma0
 have E_Tableau___init__:=MA.d (ps:=["self","sets","wants"]) FM0 ma0 (fun _ _ _ _ _ _=>bn3 fun _ _ _=>rfl)
 obtain⟨md1,FM1,ma1⟩:=ma1
 have E_Tableau_next_column:=MA.d (ps:=["self"]) FM1 ma1 (fun _ _ _ _ _ _=>bn1 fun _=>rfl)
 obtain⟨md2,FM2,ma2⟩:=ma2
 have E_Tableau_is_tighter:=MA.d (ps:=["self","column","row","other"]) FM2 ma2 (fun _ _ _ _ _ _=>bn4 fun _ _ _ _=>rfl)
 obtain⟨md3,FM3,ma3⟩:=ma3
 have E_Tableau_next_row:=MA.d (ps:=["self","column"]) FM3 ma3 (fun _ _ _ _ _ _=>bn2 fun _ _=>rfl)
 obtain⟨md4,FM4,ma4⟩:=ma4
 have E_Tableau_turned:=MA.d (ps:=["self","cells","pivots","column"]) FM4 ma4 (fun _ _ _ _ _ _=>bn4 fun _ _ _ _=>rfl)
 obtain⟨md5,FM5,ma5⟩:=ma5
 have E_Tableau_turn:=MA.d (ps:=["self","row","column"]) FM5 ma5 (fun _ _ _ _ _ _=>bn3 fun _ _ _=>rfl)
 obtain⟨md6,FM6,ma6⟩:=ma6
 have E_Tableau_solve:=MA.d (ps:=["self"]) FM6 ma6 (fun _ _ _ _ _ _=>bn1 fun _=>rfl)
 obtain⟨md7,FM7,ma7⟩:=ma7
 have E_Tableau_fraction_at:=MA.d (ps:=["self","row","column"]) FM7 ma7 (fun _ _ _ _ _ _=>bn3 fun _ _ _=>rfl)
 obtain⟨md8,FM8,ma8⟩:=ma8
 have E_Tableau_price_of:=MA.d (ps:=["self","name"]) FM8 ma8 (fun _ _ _ _ _ _=>bn2 fun _ _=>rfl)
 obtain⟨md9,FM9,ma9⟩:=ma9
 have E_Tableau_share_of:=MA.d (ps:=["self","name"]) FM9 ma9 (fun _ _ _ _ _ _=>bn2 fun _ _=>rfl)
 have cl_Tableau:Cls K c_Tableau:=⟨cA_Tableau,cB_Tableau,cC_Tableau,cD_Tableau⟩
 have na_cells:NoAttr K c_Tableau "cells":=cN_Tableau_cells
 have na_over:NoAttr K c_Tableau "over":=cN_Tableau_over
 have na_columns:NoAttr K c_Tableau "columns":=cN_Tableau_columns
 have na_rows:NoAttr K c_Tableau "rows":=cN_Tableau_rows
 have mk_Tableau:Mk K c_Tableau mf0:=⟨cE_Tableau,ma0.1,ma0.2.1,cF_Tableau⟩
 refine⟨W.fnOf "law" "law" (defArgs s_law) (defBody s_law) (defScope s_law) .none kV42 dc42 pm42 an42 cd42 ct42,fun s v=> .of_eq rfl,fun base _ _ LB=> ?_⟩
 have g_whole:=ok_whole (P:=l.prog) (w:=w) (base:=base) F0 n_isinstance n_int n_bool
 have g_place:=ok_place (P:=l.prog) (w:=w) (base:=base) F1 E_is_whole g_whole
 have g_places:=ok_places (P:=l.prog) (w:=w) (base:=base) F2 E_is_place g_place n_all
 have g_rising:=ok_rising (P:=l.prog) (w:=w) (mg:=mg) (base:=base) F3 n_all n_range n_len
 have g_set:=ok_set (P:=l.prog) (w:=w) (base:=base) F4 E_are_places g_places E_is_rising g_rising n_isinstance n_tuple
 have g_ties:=ok_ties (P:=l.prog) (w:=w) (base:=base) F5 E_is_set g_set E_is_rising g_rising n_isinstance n_tuple n_all n_len
 have g_web:=ok_web (P:=l.prog) (w:=w) (base:=base) F6 E_is_whole g_whole E_are_ties g_ties n_isinstance n_tuple n_len v_MOST_PLACES
 have g_needWeb:=ok_needWeb (P:=l.prog) (w:=w) (base:=base) F7 E_is_web g_web
 have g_has:=ok_has (P:=l.prog) (w:=w) (mg:=mg) (base:=base) F10 n_min n_max
 have g_byTie:=ok_byTie (P:=l.prog) (w:=w) (mg:=mg) (base:=base) F11 E_has_tie g_has n_range
 have g_inBoth:=ok_inBoth (P:=l.prog) (w:=w) (mg:=mg) (base:=base) F12
 have g_fullSets:=ok_fullSets (P:=l.prog) (w:=w) (mg:=mg) (base:=base) F13 E_in_both g_inBoth n_list n_range n_len n_sorted
 have g_fullApart:=ok_fullApart (P:=l.prog) (w:=w) (mg:=mg) (base:=base) F14 E_need_web g_needWeb E_full_sets g_fullSets E_places_by_tie g_byTie n_range
 have g_fullCrowds:=ok_fullCrowds (P:=l.prog) (w:=w) (mg:=mg) (base:=base) F15 E_need_web g_needWeb E_full_sets g_fullSets E_places_by_tie g_byTie n_range
 have g_firstG:=ok_firstG (P:=l.prog) (w:=w) (mg:=mg) (base:=base) F16 n_max n_len
 have g_greatA:=ok_greatA (P:=l.prog) (w:=w) (mg:=mg) (base:=base) F17 E_first_greatest g_firstG E_full_apart g_fullApart
 have g_greatC:=ok_greatC (P:=l.prog) (w:=w) (mg:=mg) (base:=base) F18 E_first_greatest g_firstG E_full_crowds g_fullCrowds
 have g_gd:=ok_gd (P:=l.prog) (w:=w) (mg:=mg) (base:=base) F19
 have g_low:=ok_low (P:=l.prog) (w:=w) (base:=base) F20 E_greatest_divisor g_gd n_abs
 have g_cell:=ok_cell (P:=l.prog) (w:=w) (base:=base) F31 n_len
 have g_tape:=ok_tape (P:=l.prog) (w:=w) (base:=base) F32 E_law_acell g_cell n_range
 have g_dig:=ok_dig (P:=l.prog) (w:=w) (mg:=mg) (base:=base) F33
 have g_aweb:=ok_aweb (P:=l.prog) (w:=w) (mg:=mg) (base:=base) F34 E_law_adigit g_dig n_range n_tuple
 have g_awebof:=ok_awebof (P:=l.prog) (w:=w) (mg:=mg) (base:=base) F38 E_law_acell g_cell E_law_aweb g_aweb E_law_adigit g_dig n_range n_tuple
 have g_tNc:=ok_tNc (P:=l.prog) (w:=w) (mg:=mg) (base:=base) FM1 cl_Tableau na_cells na_over na_columns na_rows n_enumerate n_min
 have g_tTi:=ok_tTi (P:=l.prog) (w:=w) (mg:=mg) (base:=base) FM2 cl_Tableau na_cells na_over na_columns na_rows
 have g_tNr:=ok_tNr (P:=l.prog) (w:=w) (mg:=mg) (base:=base) FM3 cl_Tableau na_cells na_over na_columns na_rows E_Tableau_is_tighter g_tTi n_range n_len
 have g_tTd:=ok_tTd (P:=l.prog) (w:=w) (mg:=mg) (base:=base) FM4 cl_Tableau na_cells na_over na_columns na_rows n_enumerate
 have g_tTu:=ok_tTu (P:=l.prog) (w:=w) (mg:=mg) (base:=base) FM5 cl_Tableau na_cells na_over na_columns na_rows E_Tableau_turned g_tTd
 have g_tSo:=ok_tSo (P:=l.prog) (w:=w) (mg:=mg) (base:=base) FM6 cl_Tableau na_cells na_over na_columns na_rows E_Tableau_next_column g_tNc E_Tableau_turn g_tTu E_Tableau_next_row g_tNr
 have g_tFa:=ok_tFa (P:=l.prog) (w:=w) (mg:=mg) (base:=base) FM7 cl_Tableau na_cells na_over na_columns na_rows E_lowest g_low
 have g_tPo:=ok_tPo (P:=l.prog) (w:=w) (mg:=mg) (base:=base) FM8 cl_Tableau na_cells na_over na_columns na_rows E_lowest g_low E_Tableau_fraction_at g_tFa
 have g_tSh:=ok_tSh (P:=l.prog) (w:=w) (mg:=mg) (base:=base) FM9 cl_Tableau na_cells na_over na_columns na_rows E_lowest g_low E_Tableau_fraction_at g_tFa
 have g_tIni:=ok_tIni (P:=l.prog) (w:=w) (mg:=mg) (base:=base) FM0 cl_Tableau na_cells na_over na_columns na_rows n_len n_range n_list
 have g_needWants:=ok_needWants (P:=l.prog) (w:=w) (mg:=mg) (base:=base) F21 E_is_whole g_whole n_len n_isinstance n_tuple n_all v_MOST_WANT
 have g_shares:=ok_shares (P:=l.prog) (w:=w) (mg:=mg) (base:=base) F22 cl_Tableau na_cells na_over na_columns na_rows m_Tableau E_need_web g_needWeb E_need_wants g_needWants E_full_apart g_fullApart E_Tableau___init__ mk_Tableau g_tIni E_Tableau_solve g_tSo E_Tableau_share_of g_tSh E_Tableau_price_of g_tPo E_Tableau_fraction_at g_tFa n_enumerate n_range
 have g_value:=ok_value (P:=l.prog) (w:=w) (mg:=mg) (base:=base) F23 E_need_web g_needWeb E_shares g_shares
 have g_allSets:=ok_allSets (P:=l.prog) (w:=w) (mg:=mg) (base:=base) F8 n_range
 have g_without:=ok_without (P:=l.prog) (w:=w) (mg:=mg) (base:=base) F9 n_tuple
 have g_stand:=ok_stand (P:=l.prog) (w:=w) (mg:=mg) (base:=base) F24 E_has_tie g_has n_any
 have g_fparts:=ok_fparts (P:=l.prog) (w:=w) (mg:=mg) (base:=base) F25 E_can_stand_with g_stand
 have g_high:=ok_high (P:=l.prog) (w:=w) (mg:=mg) (base:=base) F26 E_first_parts g_fparts E_without g_without n_min
 have g_highs:=ok_highs (P:=l.prog) (w:=w) (mg:=mg) (base:=base) F27 E_all_sets g_allSets E_highest_floor g_high
 have g_best:=ok_best (P:=l.prog) (w:=w) (mg:=mg) (base:=base) F28 rfl LB E_first_parts g_fparts E_without g_without n_min
 have g_byf:=ok_byf (P:=l.prog) (w:=w) (mg:=mg) (base:=base) F29 E_best_part g_best E_without g_without n_tuple n_range
 have g_few:=ok_few (P:=l.prog) (w:=w) (mg:=mg) (base:=base) F30 E_need_web g_needWeb E_highest_floors g_highs E_hues_by_floors g_byf n_tuple n_range
 have g_alow:=ok_alow (P:=l.prog) (w:=w) (mg:=mg) (base:=base) F35
 have g_asum:=ok_asum (P:=l.prog) (w:=w) (mg:=mg) (base:=base) F36 E_law_alow g_alow
 have g_anm:=ok_anm (P:=l.prog) (w:=w) (mg:=mg) (base:=base) F37
 have g_abet:=ok_abet (P:=l.prog) (w:=w) (mg:=mg) (base:=base) F39 E_law_ano_more g_anm
 have g_awri:=ok_awri (P:=l.prog) (w:=w) (mg:=mg) (base:=base) F41 E_law_adigit g_dig E_shares g_shares E_law_alow g_alow E_law_ano_more g_anm E_law_asum g_asum n_tuple n_range n_zip
 have g_acha:=ok_acha (P:=l.prog) (w:=w) (mg:=mg) (base:=base) F40 E_value g_value E_law_adigit g_dig E_law_abetween g_abet n_range n_tuple n_sorted n_len n_list
 exact ok_law (P:=l.prog) (w:=w) (mg:=mg) (base:=base) F42 E_law_atape g_tape E_law_aweb_of g_awebof E_value g_value E_law_ano_more g_anm E_greatest_crowd g_greatC E_fewest g_few E_greatest_apart g_greatA E_law_awants_right g_awri E_law_achanged g_acha n_range n_max n_min n_len
theorem walk{l:PySem.W.OpenLaw}{q:Program}{loose:List Str}{XP:(Str->Option Value)->Heap->Prop}{YP:World->Heap->Prop}{d:DefRec}{K:Params->PySem.W.Frag}{cL T:Addr}(hn:l.most=some 63)(hdf:d.params.defaults=[])(hY:∀(w:World) (h:Heap),YP w h->(K w.params).In h/\h.get? T=some (PySem.W.tabObj #[]))
  (F:∀(w:World) (mg:Str->Option Value) (fa:Addr) (h:Heap),(K w.params).In h->h.Ns mainGlobals mg->mg d.name=some (.ref fa)->
   ∃fd:FuncData,(∀(s:Shared) (u:Value),BindsTo s fd ⟨[u],[]⟩ [("script",u)])/\∀base:Heap,(K w.params).In base->base.Ns mainGlobals mg->LamB base mg cL T->FnOk l.prog w (K w.params) mg base CX0 12 fa fd ["script"] (spLawL T (K w.params)))(hc:∀w:World,PySem.W.codeHdIn (K w.params) cL T=true)(hKT:∀w:World,(K w.params).lookup T=none):
  PySem.W.WalkO q loose XP YP l.row.toRowW d [] (fun f vs=>PySem.call f vs):=
 L2.walk_ofL (n:=63) (k:=12) (x:="script") (CX:=CX0) (sp:=spLawL) hn (by decide) hdf ⟨rfl,by decide,by decide,rfl⟩ hY hc hKT F (fun _ _ a ns hl hO hS=>spLawL_of hO hS) fun _ _ _ _ z=>z
end Hs
open PySem PySem.W PyProof.Rows
set_option maxRecDepth 100000 in
set_option maxHeartbeats 0 in
theorem PySem.Challenge.cw_hueshare_k26_whole_between_crowds_and_hu_holds : PySem.Challenge.rw_hueshare_k26_whole_between_crowds_and_hu.Holds := by
 refine Hd.early.2 ?_
 unfold Hd.early
 dsimp only
 k_fill
 refine' Hs.walk (l:=PySem.Challenge.rw_hueshare_k26_whole_between_crowds_and_hu) rfl rfl (fun w h Y=>⟨PySem.W.km_in_of Y,PySem.W.km_tabs_of Y _ yah⟩) ?F ?C ?D
 case F=>
  intro w mg fa h KX G hmg
  refine' Hs.all_mk KX G hmg .of .of .of .of .of .of .of .of .of .of .of .of .of .of .of .of .of .of .of .of .of .of .of .of .of .of .of .of (by k_is) (by k_is) (by k_is) (by k_is) .of .of .of .of .of .of .of .of .of .of .of .of .of (by k_is) (by k_is) (by k_is) (by k_is) (by k_is) (by k_is) (by k_is) (by k_is) (by k_is) (by k_is) (by k_is) (by k_is) (by k_is) (by k_is) (by k_is) (by k_is) (by k_is) (by k_is) (by k_is) (by k_is) (by k_is) (by k_is) .of .of .of .of .of .of .of .of .of .of (by k_is) (by k_is) (by k_is) (by k_is) (by k_is) (by k_is) (by k_is) (by k_is) (by k_is) (by k_is)
 case C=>intro w;kernel_rfl
 case D=>intro w;kernel_rfl
