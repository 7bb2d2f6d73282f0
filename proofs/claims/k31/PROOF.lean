import PyProof.Rows.All
import Wide.All
import OpenK.AllK
import Wide.FinOn
import Lean
import PyProof.EqAt
import PyProof.EqKinds
import PyProof.TupleCall
import PyProof.ListRange
import PyProof.TupleOfSeq
import PyProof.Draws
import PyProof.EnumMake
import PyProof.TupleIter
import PyProof.Rows.SetFrom
import PyProof.SetRoads
import PyProof.WalksMore
import PyProof.Rows.SortShell
import KE.KMinBuiltin
import PyProof.Rows.CallKwBuiltin
import KE.KRevIter
import PyProof.Rows.Tup
import PyProof.Rows.Range3
import PyProof.DictWalks
import PyProof.DictTruth
import PyProof.TupleKey
import PyProof.Rows.SeqMore2
import PyProof.FString
import PyProof.StrWalks
import PyProof.StrBlockH
import PyProof.StrCalls2
import PyProof.SliceStr2
import KE.KIntText
import PyProof.StrLawsTight
import KE.KDictList
import PyProof.DictRoadsH
import KE.KLam
import KE.KNestM
import PyProof.DictItems
import PyProof.IsiHeapPairs
import KE.KPairComp
import PyProof.MinMaxWalk
import PyProof.MeetsSeq
import PyProof.Rows.ZipGen
import KE.IntBitsLaws
import PyProof.FitsBits
import PySem.Challenge.RW_hueshare_k31_needed_places_and_parts
set_option Elab.async false
set_option linter.all false
set_option maxRecDepth 100000

noncomputable abbrev yaa:=@List.length_map
noncomputable abbrev yab:=@Nat.le_refl
noncomputable abbrev yac:=@List.getElem?_eq_getElem
noncomputable abbrev yad:=@PySem.Heap.get?_push_of_some
noncomputable abbrev yae:=@List.getElem?_map
noncomputable abbrev yaf:=@List.map_append
noncomputable abbrev yag:=@List.getD_eq_getElem?_getD
noncomputable abbrev yah:=@List.size_toArray
noncomputable abbrev yai:=@List.mem_cons_of_mem
noncomputable abbrev yaj:=@List.mem_cons
noncomputable abbrev yak:=@Nat.lt_of_lt_of_le
noncomputable abbrev yal:=@PySem.Heap.get?_push_size
noncomputable abbrev yam:=@Nat.ne_of_lt
noncomputable abbrev yan:=@Nat.le_of_lt
noncomputable abbrev yao:=@List.getElem?_eq_some_iff
noncomputable abbrev yap:=@List.mem_cons_self
noncomputable abbrev yaq:=@PySem.Heap.lt_size
noncomputable abbrev yar:=@List.mem_singleton
noncomputable abbrev yas:=@Nat.zero_le
noncomputable abbrev yat:=@List.length_append
noncomputable abbrev yau:=@Nat.le_trans
noncomputable abbrev yav:=@List.mem_filter
noncomputable abbrev yaw:=@Nat.lt_succ_of_lt
noncomputable abbrev yax:=@List.all_eq_true
noncomputable abbrev yay:=@List.mem_append
noncomputable abbrev yaz:=@List.mem_append_right
noncomputable abbrev yba:=@Nat.lt_succ_self
noncomputable abbrev ybb:=@Array.length_toList
noncomputable abbrev ybc:=@List.length_filter_le
noncomputable abbrev ybd:=@List.mem_of_getElem?
noncomputable abbrev ybe:=@List.length_range
noncomputable abbrev ybf:=@List.mem_range
noncomputable abbrev ybg:=@Int.toNat_natCast
noncomputable abbrev ybh:=@List.length_cons
noncomputable abbrev ybi:=@Nat.succ_ne_zero
noncomputable abbrev ybj:=@Nat.lt_irrefl
noncomputable abbrev ybk:=@List.mem_map
noncomputable abbrev ybl:=@Int.mul_le_mul_of_nonneg_left
noncomputable abbrev ybm:=@PySem.Heap.size_push
noncomputable abbrev ybn:=@Nat.lt_of_le_of_lt
noncomputable abbrev ybo:=@List.append_nil
noncomputable abbrev ybp:=@List.take_length
noncomputable abbrev ybq:=@List.pairwise_iff_getElem
noncomputable abbrev ybr:=@Array.getElem?_eq_getElem
noncomputable abbrev ybs:=@List.length_take
noncomputable abbrev ybt:=@List.range_succ
noncomputable abbrev ybu:=@Nat.succ_pos
noncomputable abbrev ybv:=@List.getElem?_eq_none
noncomputable abbrev ybw:=@List.getElem_of_mem
noncomputable abbrev ybx:=@List.lookup_cons
noncomputable abbrev yby:=@List.getElem_mem
noncomputable abbrev ybz:=@List.map_cons
noncomputable abbrev yca:=@Nat.le_of_eq
noncomputable abbrev ycb:=@PySem.Heap.get?_update_self
noncomputable abbrev ycc:=@Int.mul_zero
noncomputable abbrev ycd:=@Int.mul_comm
noncomputable abbrev yce:=@List.take_add_one
noncomputable abbrev ycf:=@List.getElem?_append_right
noncomputable abbrev ycg:=@Nat.lt_of_le_of_ne
noncomputable abbrev ych:=@List.nodup_cons
noncomputable abbrev yci:=@List.filter_cons
noncomputable abbrev ycj:=@Int.mul_nonneg
noncomputable abbrev yck:=@PySem.Heap.get?_update_other
noncomputable abbrev ycl:=@List.filterMap_cons
noncomputable abbrev ycm:=@List.replicate_succ
noncomputable abbrev ycn:=@Nat.le_of_lt_succ
noncomputable abbrev yco:=@Array.getElem?_toList
noncomputable abbrev ycp:=@Int.le_of_lt
noncomputable abbrev ycq:=@List.filter_append
noncomputable abbrev ycr:=@Nat.le_succ
noncomputable abbrev ycs:=@Int.le_refl
noncomputable abbrev yct:=@List.pairwise_append
noncomputable abbrev ycu:=@Nat.ne_of_gt
noncomputable abbrev ycv:=@Nat.lt_trans
noncomputable abbrev ycw:=@List.pairwise_map
noncomputable abbrev ycx:=@Nat.not_lt_zero
noncomputable abbrev ycy:=@List.not_lt
noncomputable abbrev ycz:=@List.getElem?_range
noncomputable abbrev yda:=@Nat.min_le_left
noncomputable abbrev ydb:=@List.pairwise_lt_range
noncomputable abbrev ydc:=@List.length_pos_of_mem
noncomputable abbrev ydd:=@List.getElem?_append_left
noncomputable abbrev yde:=@List.mem_append_left
noncomputable abbrev ydf:=@Nat.sub_one_lt_of_le
noncomputable abbrev ydg:=@List.length_nil
noncomputable abbrev ydh:=@Nat.le_antisymm
noncomputable abbrev ydi:=@Nat.succ_add_eq_add_succ
noncomputable abbrev ydj:=@List.map_map
noncomputable abbrev ydk:=@List.any_cons
noncomputable abbrev ydl:=@Int.one_mul
noncomputable abbrev ydm:=@List.map_congr_left
noncomputable abbrev ydn:=@List.not_mem_nil
noncomputable abbrev ydo:=@Int.natAbs_natCast
noncomputable abbrev ydp:=@List.length_replicate
noncomputable abbrev ydq:=@List.cons_lt_cons_iff
noncomputable abbrev ydr:=@List.find?_cons
noncomputable abbrev yds:=@List.any_eq_false
noncomputable abbrev ydt:=@List.flatten_cons
noncomputable abbrev ydu:=@List.ext_getElem?
noncomputable abbrev ydv:=@Int.fdiv_eq_ediv_of_nonneg
noncomputable abbrev ydw:=@Array.perm_iff_toList_perm
noncomputable abbrev ydx:=@Int.eq_of_mul_eq_mul_right
noncomputable abbrev ydy:=@Nat.le_sub_one_of_lt
noncomputable abbrev ydz:=@List.filter_sublist
noncomputable abbrev yea:=@List.pairwise_cons
noncomputable abbrev yeb:=@Int.mul_pos
noncomputable abbrev yec:=@Int.natAbs_mul
noncomputable abbrev yed:=@Int.zero_mul
noncomputable abbrev yee:=@Int.le_of_eq
namespace Hd
open PySem PySem.W PySem.Calls PyProof.Rows
-- a run of the text's top over the heap as a tree, as one fold
noncomputable def runT(tb:String->Option Builtin)(p:Program)(w:World)(m:Nat)(ann:Option Value)(n:Nat):SharedT->Thread->Option SharedT:=
 @Nat.rec (fun _=>SharedT->Thread->Option SharedT) (fun _ _=>none)
  (fun _ ih s t=> @Bool.rec (fun _=>Option SharedT)
   (@Bool.rec (fun _=>Option SharedT) none
    (@Option.rec (SharedT×Thread) (fun _=>Option SharedT) none (fun r=>ih r.1 r.2) (stepT (denote tb) p w s t)) (stepOk m ann t))
   (some s) (through t)) n
theorem run_abs{tb:String->Option Builtin}{p:Program}{w:World}{m:Nat}{ann:Option Value}:∀(n:Nat) (s s':SharedT) (t:Thread),
  runT tb p w m ann n s t=some s'->topRun tb p w m ann n s.abs t=some s'.abs:=by
 intro n
 induction n with
 |zero=>intro s s' t h;exact absurd h (by intro h;cases h)
 |succ n ih=>
  intro s s' t h
  have h1: @Bool.rec (fun _=>Option SharedT) (@Bool.rec (fun _=>Option SharedT) none
    (@Option.rec (SharedT×Thread) (fun _=>Option SharedT) none (fun r=>runT tb p w m ann n r.1 r.2) (stepT (denote tb) p w s t)) (stepOk m ann t))
    (some s) (through t)=some s':=h
  unfold topRun
  cases e1:through t with
  |true=>rw[e1]at h1;injection h1 with h1;rw[h1]
  |false=>
   rw[e1]at h1
   cases e2:stepOk m ann t with
   |false=>rw[e2]at h1;cases h1
   |true=>
    rw[e2]at h1
    cases e3:stepT (denote tb) p w s t with
    |none=>rw[e3]at h1;cases h1
    |some r=>
     rw[e3]at h1
     have e4:=stepT_spec (s':=r.1) (t':=r.2) e3
     show(match step (denote tb) p w s.abs t with | .go a b=>topRun tb p w m ann n a b| .halt _ _=>none)=_
     rw[e4]
     exact ih _ _ _ h1
noncomputable def treeOf(l:List Obj):BT:=(l.foldl (fun x o=>(x.1.ins x.2 o,x.2+1)) ((BT.nil,0):BT×Nat)).1
-- the run from the start that the kit has laid
noncomputable def ran(p:Program)(N:Nat)(w:World)(os:OsState):Option SharedT:=
 runT treeTable p w 11 (some (.ref 6)) N ⟨treeOf (boot_heap w.params).objs.toList,11,{},Array.mk [],boot_drawn,boot_toks,os⟩ (topStub p)
-- what is looked at behind the run
noncomputable def looked(p q:Program)(loose:List Str)(Xt:Shared->Bool)(g0:Bool)(h:Heap)(s:Shared):=
 ((staticsOk (importedModules p.main.body) h s.heap&&namesBound p s.heap&&gensDone s&&laidKept h s.heap),openSeen q loose (importedModules p.main.body) Xt g0 s)
noncomputable def LooksWell(p q:Program)(loose:List Str)(Xt:Shared->Bool)(g0:Bool)(N:Nat):Prop:=
 ∀(w:World) (os:OsState),(ran p N w os).map (fun s=>looked p q loose Xt g0 (boot_heap w.params) s.abs)=some (true,openGood q loose)
theorem left_of{p q:Program}{loose:List Str}{Xt:Shared->Bool}{α:Type}{Yf:Shared->α}{Ya:World->α}{N:Nat}{g0:Bool}(r:LooksWell p q loose Xt g0 N)(e:opening p=plainProg p.main.scope.names)(hN:Nat.ble 600 N=true)(f:∀s,fenceModules? p s=some s)(y:∀(w:World) (os:OsState),(ran p N w os).map (fun s=>Yf s.abs)=some (Ya w)):
  LeftO p q loose Xt Yf Ya N g0:=fun w=>by
 have b:((boot_heap w.params).isNs mainGlobals&&(Array.mk []:Array GenState).size==0,(boot_heap w.params).objs.size,(boot_heap w.params).nsMap mainGlobals "__annotations__")=(true,11,some (.ref 6)):=by kernel_rfl
 have c:absHeap (treeOf (boot_heap w.params).objs.toList) 11 {}=boot_heap w.params:=by kernel_rfl
 obtain⟨⟨h,gs',d',k',os⟩,e1,e'⟩:=Option.map_eq_some_iff.mp (boot_open e hN f w)
 obtain⟨rfl,rfl,rfl,rfl⟩:h=boot_heap w.params/\gs'=Array.mk []/\d'=boot_drawn/\k'=boot_toks:=by simpa using e'
 obtain⟨b1,b2,b3⟩:_/\_/\_:=by simpa only[Prod.mk.injEq]using b
 obtain⟨s,r1,r2⟩:=Option.map_eq_some_iff.mp (r w os)
 obtain⟨s',y1,y2⟩:=Option.map_eq_some_iff.mp (y w os)
 have es:s'=s:=by rw[r1]at y1;injection y1 with y1;exact y1.symm
 subst es
 obtain⟨l1,l2⟩:_/\_:=by simpa only[looked,Prod.mk.injEq]using r2
 have t1:=run_abs N _ _ _ r1
 have ab:SharedT.abs ⟨treeOf (boot_heap w.params).objs.toList,11,{},Array.mk [],boot_drawn,boot_toks,os⟩=⟨boot_heap w.params,Array.mk [],boot_drawn,boot_toks,os⟩:=by unfold SharedT.abs;rw[c]
 rw[ab]at t1
 have t:topFrom treeTable p w N ⟨boot_heap w.params,Array.mk [],boot_drawn,boot_toks,os⟩=some s'.abs:=by
  unfold topFrom
  dsimp only
  rw[b1,b2,b3,t1]
  show(match staticsOk (importedModules p.main.body) (boot_heap w.params) s'.abs.heap&&namesBound p s'.abs.heap&&gensDone s'.abs&&laidKept (boot_heap w.params) s'.abs.heap with |true=>_|false=>_)=_
  rw[l1]
 unfold openEnds
 rw[e1]
 show(topFrom treeTable p w N _).map _=_
 rw[t]
 show some (_,_)=_
 rw[l2,y2]
end Hd
section
open PySem PySem.W PyProof.Rows
namespace Hd
noncomputable abbrev L:=PySem.Challenge.rw_hueshare_k31_needed_places_and_parts
noncomputable def Q:Program:=view L.row.toRowW.prog [1,2,3,4,5,6,8,9,10,11,12,13,14,15,16,17,18,19,20,21,22,24,25,26,28,29,30,32,33,34,35,37,38,39,40,41,43,44,45,46,47,49,50,52,53,54,55,56,57,58,59,60]
noncomputable abbrev X:Shared->Bool:=fun s=>xlAt Q [] s&&recOk (RowW.records L.row.toRowW) s
set_option maxRecDepth 100000 in
theorem looks:LooksWell L.row.toRowW.prog Q [] X true 6246:=fun w os=>by kernel_rfl
end Hd
local macro_rules
 |`(tactic|o_head $H)=>`(tactic|
  refine holds_open (q:=Hd.Q) (loose:=[]) (N:=6246) (Xt:=Hd.X) (XP:=XL Hd.Q [])
   (Yf:=Hook.obs $H) (Ya:=Hook.val $H) (YP:=Hook.says $H)
   (Hd.left_of Hd.looks (by kernel_rfl) rfl (fun _=>by kernel_rfl) (fun _ _=>by kernel_rfl))
   (Hook.of $H) (Hook.keeps $H) (fun s e=>xl_of s (Bool.and_eq_true_iff.mp e).1) XL.keeps
   (by rfl) (by rfl) (by rfl) (fun s e=>recFacts_of (Bool.and_eq_true_iff.mp e).2) (by rfl)
   (by first |assumption|decide+kernel) (by decide+kernel) ⟨rfl,rfl,rfl,rfl,rfl,by decide+kernel⟩ ?hw ?hc)
set_option maxRecDepth 100000 in
set_option maxHeartbeats 0 in
noncomputable def Hd.early:PSigma fun P:Prop=>P->PySem.Challenge.rw_hueshare_k31_needed_places_and_parts.Holds:=by
 refine⟨?P,fun W=> ?_⟩
 rotate_left
 w_on;o_law;k_head;(case hw=>w_witness2)
 exact W
end
namespace L2
open PySem PySem.Spec PyProof.Rows
noncomputable abbrev Key:=Sum Int Str
noncomputable def keyIs:Key->Value->Bool
 | .inl k,v=>Value.isInt k v
 | .inr x,v=>Value.isStrOf x v
noncomputable def keyH(w:World):Key->Int
 | .inl k=>hashInt k
 | .inr x=>hashStr w x
theorem zbt:∀{k:Key} {v:Value},keyIs k v=true->(∃i t,k=Sum.inl i/\v=Value.int i t)\/(∃x t,k=Sum.inr x/\v=Value.str x t)
 | .inl i,v,h=>by
  obtain⟨t,e⟩:=Value.isInt_shape (k:=i) (v:=v) h
  exact .inl ⟨i,t,rfl,e⟩
 | .inr x,v,h=>by
  obtain⟨t,e⟩:=Value.isStrOf_shape (x:=x) (v:=v) h
  exact .inr ⟨x,t,rfl,e⟩
theorem keyIs_int(i:Int)(t:Tok):keyIs (.inl i) (.int i t)=true:=by simp[keyIs,Value.isInt]
theorem keyIs_str(x:Str)(t:Tok):keyIs (.inr x) (.str x t)=true:=by simp[keyIs,Value.isStrOf]
theorem key_ll(a b:Int):decide ((Sum.inl a:Key)=Sum.inl b)=(a==b):=by
 by_cases e:a=b
 ·subst e;simp
 ·have h:¬(Sum.inl a:Key)=Sum.inl b:=fun q=>e (Sum.inl.inj q)
  rw[decide_eq_false h]
  exact(beq_eq_false_iff_ne.mpr e).symm
theorem key_rr(a b:Str):decide ((Sum.inr a:Key)=Sum.inr b)=decide (a=b):=by
 by_cases e:a=b
 ·subst e;simp
 ·have h:¬(Sum.inr a:Key)=Sum.inr b:=fun q=>e (Sum.inr.inj q)
  rw[decide_eq_false h,decide_eq_false e]
theorem key_lr(a:Int)(b:Str):decide ((Sum.inl a:Key)=Sum.inr b)=false:=decide_eq_false (fun q=>nomatch q)
theorem key_rl(a:Str)(b:Int):decide ((Sum.inr a:Key)=Sum.inl b)=false:=decide_eq_false (fun q=>nomatch q)
noncomputable def mixKind(prog:Program)(w:World):PySem.KeyKind prog w Key where
 is:=keyIs
 hash:=keyH w
 inj:=fun v a b ha hb=>by
  rcases zbt ha with⟨i,t,rfl,rfl⟩|⟨x,t,rfl,rfl⟩
  ·rcases zbt hb with⟨j,u,rfl,e⟩|⟨y,u,rfl,e⟩
   ·injection e with e1 _;rw[e1]
   ·exact nomatch e
  ·rcases zbt hb with⟨j,u,rfl,e⟩|⟨y,u,rfl,e⟩
   ·exact nomatch e
   ·injection e with e1 _;rw[e1]
 byValue:=fun k v h=>by
  rcases zbt h with⟨i,t,rfl,rfl⟩|⟨x,t,rfl,rfl⟩<;>rfl
 pyHash:=fun hv h=>by
  rcases zbt hv with⟨i,t,rfl,rfl⟩|⟨x,t,rfl,rfl⟩
  ·exact wpAny_pyHash_int h
  ·exact wpAny_pyHash_str h
 eqBool:=fun hu hv h=>by
  rcases zbt hu with⟨i,t,rfl,rfl⟩|⟨x,t,rfl,rfl⟩
  ·rcases zbt hv with⟨j,u,rfl,rfl⟩|⟨y,u,rfl,rfl⟩
   ·rw[key_ll]at h;exact wpAny_eqBool_int h
   ·rw[key_lr]at h;exact SeqAt.EqAt.int_str i t y u _ _ _ _ h
  ·rcases zbt hv with⟨j,u,rfl,rfl⟩|⟨y,u,rfl,rfl⟩
   ·rw[key_rl]at h;exact SeqAt.EqAt.str_int x t j u _ _ _ _ h
   ·rw[key_rr]at h;exact wpAny_eqBool_str h
 «strs»:=fun k x t v h=>by
  rcases zbt h with⟨i,u,rfl,e⟩|⟨y,u,rfl,e⟩
  ·exact nomatch e
  ·injection e with e1 _
   subst e1
   cases v<;>rfl
theorem mixKind_int(prog:Program)(w:World)(i:Int)(t:Tok):(mixKind prog w).is (.inl i) (.int i t)=true:=keyIs_int i t
theorem mixKind_str(prog:Program)(w:World)(x:Str)(t:Tok):(mixKind prog w).is (.inr x) (.str x t)=true:=keyIs_str x t
inductive V where
 |non|bl (b:Bool)|int (i:Int)|str (x:Str)|byt (b:Array UInt8)|flt (b:UInt64)|ref (a:Addr)|ty (n:String)
 deriving DecidableEq
noncomputable def RelV:V->Value->Prop
 | .non,u=>u=Value.none
 | .bl b,u=>u=Value.bool b
 | .int i,u=>∃t,u=Value.int i t
 | .str x,u=>∃t,u=Value.str x t
 | .byt b,u=>∃t,u=Value.bytes b t
 | .flt b,u=>∃t,u=Value.float b t
 | .ref a,u=>u=Value.ref a
 | .ty n,u=>u=Value.type n
noncomputable abbrev Vals:List V->List Value->Prop:=Paired RelV
theorem Vals.length{xs:List V}{us:List Value}(r:Vals xs us):xs.length=us.length:=Paired.length r
theorem Vals.get:∀{xs:List V} {us:List Value} {i:Nat} {x:V},Vals xs us->xs[i]? =some x->∃u,us[i]? =some u/\RelV x u
 |_,_,_,_,.nil,e=>by simp at e
 |_,_,0,_,.cons r _,e=>by simp at e;subst e;exact⟨_,rfl,r⟩
 |_,_,i+1,x,.cons _ t,e=>by
  obtain⟨u,h1,h2⟩:=Vals.get (i:=i) (x:=x) t (by simpa using e)
  exact⟨u,by simpa using h1,h2⟩
theorem Vals.set{x:V}{u:Value}(r:RelV x u):∀{xs:List V} {us:List Value} (i:Nat),Vals xs us->Vals (xs.set i x) (us.set i u)
 |_,_,_,.nil=> .nil
 |_,_,0,.cons _ t=> .cons r t
 |_,_,i+1,.cons q t=> .cons q (Vals.set r i t)
theorem Vals.append:∀{xs ys:List V} {us ws:List Value},Vals xs us->Vals ys ws->Vals (xs++ys) (us++ws)
 |_,_,_,_,.nil,s=>s
 |_,_,_,_,.cons r t,s=> .cons r (Vals.append t s)
theorem Vals.take:∀{xs:List V} {us:List Value} (n:Nat),Vals xs us->Vals (xs.take n) (us.take n)
 |_,_,0,_=> .nil
 |_,_,_+1,.nil=> .nil
 |_,_,n+1,.cons r t=> .cons r (Vals.take n t)
theorem Vals.drop:∀{xs:List V} {us:List Value} (n:Nat),Vals xs us->Vals (xs.drop n) (us.drop n)
 |_,_,0,r=>r
 |_,_,_+1,.nil=> .nil
 |_,_,n+1,.cons _ t=>Vals.drop n t
noncomputable def RelO:Option V->Option Value->Prop
 |some v,some u=>RelV v u
 |none,none=>True
 |_,_=>False
noncomputable def KV{κ:Type}:List (κ×V)->List (κ×Value)->Prop:=Paired fun(p:κ×V) (q:κ×Value)=>p.1=q.1/\RelV p.2 q.2
noncomputable def kV:Key->V
 | .inl i=> .int i
 | .inr x=> .str x
inductive HO where
 /-- a list -/
 |lst (xs:List V)
 /-- a tuple (never changes) -/
 |tup (xs:List V)
 /-- a dict whose keys are ints and texts; one whose keys are tuples of ints and texts (the empty one is both) -/
 |dK (kvs:List (Key×V))|dT (kvs:List (List Key×V))
 /-- a set of ints: its members, its size -/
 |set (S:Int->Bool) (n:Nat)
 /-- an instance of the class at C, its dict at dx, its attributes -/
 |ins (C dx:Addr) (fs:List (Str×V))
 /-- the dict of the instance at x -/
 |own (x:Addr)
 /-- the dict of an exception -/
 |xd (fs:List (Str×V))
 /-- a bound method, f of x -/
 |met (f x:Addr)
 /-- a range object lo, lo + 1, .. below hi -/
 |rng (lo hi:Int)
 /-- a thing that is known to the object (the script; a dict while a loop walks it): read, never written while it is so -/
 |frz (o:Obj) (u:HO)
 /-- a code object's table -/
 |tbl (ps:Array Value)
 /-- any other thing, by what is true of its one object (a def of one's own: SetO a S n := HO.ext fun h => ..) -/
 |ext (φ:Heap->Prop)
noncomputable abbrev Hp:=Addr->Option HO
noncomputable def upd(H:Hp)(a:Addr)(o:HO):Hp:=fun b=>if b=a then some o else H b
theorem zab{H:Hp}{a:Addr}{o:HO}:upd H a o a=some o:=by unfold upd;rw[if_pos rfl]
theorem zai{H:Hp}{a b:Addr}{o:HO}(h:b≠a):upd H a o b=H b:=by unfold upd;rw[if_neg h]
theorem upd_upd{H:Hp}{a:Addr}{o u:HO}:upd (upd H a o) a u=upd H a u:=by
 funext b;unfold upd;split<;>rfl
theorem ne_of{H:Hp}{a b:Addr}{o u:HO}(h:H a=some o)(h':H b=some u)(d:o≠u):a≠b:=by
 intro e;subst e;rw[h]at h';exact d (Option.some.inj h')
theorem zal{H:Hp}{a b:Addr}{o:HO}(h:H a=some o)(h':H b=none):a≠b:=by
 intro e;subst e;rw[h]at h';cases h'
section
variable(P:Program)(w:World)
noncomputable def ObjOk(H:Hp)(h:Heap)(a:Addr):HO->Prop
 | .lst xs=>xs.length<=sizeLine/\∃(its:List Value) (n:Nat),Vals xs its/\h.get? a=some {cls:= .type "list",data:= .seq its.toArray n}
 | .tup xs=>xs.length<=sizeLine/\∃its:List Value,Vals xs its/\IsTup h a its.toArray
 | .dK kvs=>kvs.length<=sizeLine/\(a==sysModules)=false/\∃vs,KV kvs vs/\h.DictOf (mixKind P w) a vs
 | .dT kvs=>kvs.length<=sizeLine/\(a==sysModules)=false/\∃xs:List (List Key×Addr×Value),
   Paired (fun(p:List Key×V) (q:List Key×Addr×Value)=>p.1=q.1/\H q.2.1=some (.tup (p.1.map kV))/\RelV p.2 q.2.2) kvs xs/\
   ∃o es ep,h.get? a=some o/\o.ExactDict/\o.data= .dict es ep/\es.toList=xs.map (entryOfKey (tupleKind (mixKind P w)))/\(xs.map (·.1)).Nodup
 | .set S n=>h.SetOf (intKind P w) a S n
 | .ins C dx fs=>H dx=some (.own a)/\fs.length<=1000/\dx≠a/\h.get? a=some (PySem.W.instObj C dx)/\
   ∃mA,h.Ns1 dx mA/\(∀f,RelO (fs.lookup f) (mA f))/\PySem.Within mA (fs.map (·.1))
 | .own _=>∃o,h.get? a=some o
 | .xd fs=>∃mA,h.Ns1 a mA/\∀f,RelO (fs.lookup f) (mA f)
 | .rng lo hi=>∃t u v,h.get? a=some {cls:= .type "range",data:= .fields #[.int lo t,.int hi u,.int 1 v]}
 | .frz o u=>h.get? a=some o/\ObjOk H h a u
 | .tbl ps=>h.get? a=some {cls:= .none,data:= .fields ps}
 | .met f x=>h.get? a=some (PySem.W.methodObj (.ref f) (.ref x))
 | .ext φ=>φ h/\(∃o,h.get? a=some o)/\∀h1 h2:Heap,φ h1->(∀o,h1.get? a=some o->h2.get? a=some o)->φ h2
noncomputable def HOk(H:Hp)(h:Heap):Prop:=∀a o,H a=some o->ObjOk P w H h a o
end
section
variable{P:Program}{w:World}{H H':Hp}{h h':Heap}{a:Addr}{o:HO}
theorem ObjOk.lt(x:ObjOk P w H h a o):a<h.objs.size:=by
 cases o with
 |lst xs=>obtain⟨_,_,_,_,e⟩:=x;exact yaq e
 |tup xs=>obtain⟨_,_,_,p⟩:=x;exact p.lt
 |dK kvs=>obtain⟨_,_,_,_,o,_,_,e,_⟩:=x;exact yaq e
 |dT kvs=>obtain⟨_,_,_,_,o,_,_,e,_⟩:=x;exact yaq e
 |set S n=>obtain⟨o,_,_,_,e,_⟩:=x;exact yaq e
 |ins C dx fs=>obtain⟨_,_,_,e,_⟩:=x;exact yaq e
 |own y=>obtain⟨_,e⟩:=x;exact yaq e
 |xd fs=>obtain⟨_,⟨_,_,_,e,_⟩,_⟩:=x;exact yaq e
 |rng lo hi=>obtain⟨_,_,_,e⟩:=x;exact yaq e
 |frz ob u=>obtain⟨e,_⟩:=x;exact yaq e
 |tbl ps=>exact yaq (show h.get? a=some _ from x)
 |met f y=>exact yaq (show h.get? a=some _ from x)
 |ext φ=>obtain⟨_,⟨_,e⟩,_⟩:=x;exact yaq e
theorem Paired.mapP{α β:Type}{F G:α->β->Prop}:∀{l₁:List α} {l₂:List β},Paired F l₁ l₂->(∀a b,F a b->G a b)->Paired G l₁ l₂
 |_,_,.nil,_=> .nil
 |_,_,.cons r t,f=> .cons (f _ _ r) (Paired.mapP t f)
theorem ObjOk.stay(x:ObjOk P w H h a o)(k:∀b u,(b=a\/H b=some (.own a))->h.get? b=some u->h'.get? b=some u)(ho:∀b,H b=some (.own a)->H' b=some (.own a))(ht:∀b xs,H b=some (.tup xs)->H' b=some (.tup xs)):ObjOk P w H' h' a o:=by
 induction o with
 |lst xs=>obtain⟨z,its,n,r,e⟩:=x;exact⟨z,its,n,r,k _ _ (.inl rfl) e⟩
 |tup xs=>obtain⟨z,its,r,ob,e,c⟩:=x;exact⟨z,its,r,ob,k _ _ (.inl rfl) e,c⟩
 |dK kvs=>obtain⟨z,y,vs,r,ob,es,ep,e,c⟩:=x;exact⟨z,y,vs,r,ob,es,ep,k _ _ (.inl rfl) e,c⟩
 |dT kvs=>
  obtain⟨z,y,xs,r,ob,es,ep,e,c⟩:=x
  exact⟨z,y,xs,Paired.mapP r fun p q z=>⟨z.1,ht _ _ z.2.1,z.2.2⟩,ob,es,ep,k _ _ (.inl rfl) e,c⟩
 |set S n=>obtain⟨ob,es,ep,t,e,c⟩:=x;exact⟨ob,es,ep,t,k _ _ (.inl rfl) e,c⟩
 |ins C dx fs=>
  obtain⟨d,z,ne,e,mA,⟨od,es,ep,e2,c⟩,r⟩:=x
  exact⟨ho _ d,z,ne,k _ _ (.inl rfl) e,mA,⟨od,es,ep,k _ _ (.inr d) e2,c⟩,r⟩
 |own y=>obtain⟨ob,e⟩:=x;exact⟨ob,k _ _ (.inl rfl) e⟩
 |xd fs=>obtain⟨mA,⟨od,es,ep,e,c⟩,r⟩:=x;exact⟨mA,⟨od,es,ep,k _ _ (.inl rfl) e,c⟩,r⟩
 |rng lo hi=>obtain⟨t,u,v,e⟩:=x;exact⟨t,u,v,k _ _ (.inl rfl) e⟩
 |frz ob u ih=>obtain⟨e,q⟩:=x;exact⟨k _ _ (.inl rfl) e,ih q⟩
 |tbl ps=>
  have e:h.get? a=some {cls:= .none,data:= .fields ps}:=x
  show h'.get? a=some {cls:= .none,data:= .fields ps}
  exact k a _ (.inl rfl) e
 |met f y=>
  have e:h.get? a=some (PySem.W.methodObj (.ref f) (.ref y)):=x
  show h'.get? a=some (PySem.W.methodObj (.ref f) (.ref y))
  exact k a _ (.inl rfl) e
 |ext φ=>obtain⟨p,⟨o,e⟩,st⟩:=x;exact⟨st _ _ p fun o q=>k _ _ (.inl rfl) q,⟨o,k _ _ (.inl rfl) e⟩,st⟩
theorem HOk.lt(x:HOk P w H h)(e:H a=some o):a<h.objs.size:=(x a o e).lt
theorem HOk.fresh(x:HOk P w H h)(e:h.objs.size<=a):H a=none:=by
 cases q:H a with
 |none=>rfl
 |some u=>exact absurd (yak (x.lt q) e) (ybj _)
theorem HOk.kept(x:HOk P w H h)(k:∀b u,h.get? b=some u->h'.get? b=some u):HOk P w H h':=fun a o e=>
 (x a o e).stay (fun b u _ q=>k b u q) (fun _ q=>q) fun _ _ q=>q
theorem HOk.laid(x:HOk P w H h)(k:∀b u,h.get? b=some u->h'.get? b=some u)(hp:h.objs.size<=a)(new:ObjOk P w (upd H a o) h' a o):HOk P w (upd H a o) h':=fun b u e=>by
 have hn:=x.fresh hp
 by_cases hb:b=a
 ·subst hb;rw[zab]at e;cases e;exact new
 ·rw[zai hb]at e
  exact(x b u e).stay (fun c v _ q=>k c v q) (fun c q=>by rw[zai (zal q hn)];exact q) fun c xs q=>by rw[zai (zal q hn)];exact q
end
noncomputable def Rd(H:Hp)(a:Addr)(u:HO):Prop:=H a=some u\/∃o,H a=some (.frz o u)
theorem Rd.ok{P:Program}{w:World}{H:Hp}{h:Heap}{a:Addr}{u:HO}(r:Rd H a u)(x:HOk P w H h):ObjOk P w H h a u:=by
 rcases r with r|⟨o,r⟩
 ·exact x a u r
 ·obtain⟨_,q⟩:=x a _ r
  exact q
noncomputable def Mut:Option HO->Prop
 |some (.lst _)=>True
 |some (.dK _)=>True
 |some (.dT _)=>True
 |some (.set _ _)=>True
 |some (.ins _ _ _)=>True
 |some (.ext _)=>True
 |_=>False
section
variable{P:Program}{w:World}{H:Hp}{h h':Heap}{x e:Addr}{o':HO}
theorem HOk.write(ok:HOk P w H h)(mu:Mut (H x))(he:e=x\/H e=some (.own x))(k:∀b u,b≠e->h.get? b=some u->h'.get? b=some u)(heo:∃u,h'.get? e=some u)(new:ObjOk P w (upd H x o') h' x o'):HOk P w (upd H x o') h':=fun b u q=>by
 have nown:∀c y,H c=some (.own y)->c≠x:=fun c y r z=>by subst z;rw[r]at mu;exact mu
 have ntup:∀c xs,H c=some (.tup xs)->c≠x:=fun c xs r z=>by subst z;rw[r]at mu;exact mu
 by_cases hb:b=x
 ·subst hb;rw[zab]at q;cases q;exact new
 ·rw[zai hb]at q
  by_cases hbe:b=e
  ·have q':H b=some (.own x):=by
    rcases he with z|z
    ·exact absurd (hbe.trans z) hb
    ·rw[hbe];exact z
   rw[q]at q';cases q'
   obtain⟨v,hv⟩:=heo
   exact⟨v,by rw[hbe];exact hv⟩
  ·refine(ok b u q).stay (fun c v hc r=>k c v ?_ r) (fun c r=>by rw[zai (nown c b r)];exact r) fun c xs r=>by rw[zai (ntup c xs r)];exact r
   rcases hc with rfl|hc
   ·exact hbe
   ·rintro rfl
    rcases he with z|z
    ·exact nown c b hc z
    ·rw[hc]at z;cases z;exact hb rfl
end
structure Un(fs ex:List Addr)(H H':Hp)(h h':Heap):Prop where
 keep:∀b o,h.get? b=some o->H b=none->b∉fs->b∉ex->h'.get? b=some o
 slot:∀b o,h.get? b=some o->H b=none->b∈fs->b∉ex->∃sl,h'.get? b=some {o with slots:=sl}
 free:∀b o,h.get? b=some o->H b=none->b∉ex->H' b=none
 there:∀b o,h.get? b=some o->b∉ex->∃o',h'.get? b=some o'
 tups:∀b xs,H b=some (.tup xs)->H' b=some (.tup xs)
 frzs:∀b o u,H b=some (.frz o u)->H' b=some (.frz o u)
 tbls:∀b ps,H b=some (.tbl ps)->∃more,H' b=some (.tbl (ps++more))
section
variable{fs fs' ex ex':List Addr}{H H1 H2:Hp}{h h1 h2 h':Heap}{a x e:Addr}{o:HO}
theorem Un.any(u:Un fs ex H H1 h h1){b:Addr}{ob:Obj}(q:h.get? b=some ob)(n:H b=none)(hx:b∉ex):∃sl,h1.get? b=some {ob with slots:=sl}:=by
 by_cases hb:b∈fs
 ·exact u.slot b ob q n hb hx
 ·exact⟨ob.slots,u.keep b ob q n hb hx⟩
theorem Un.kept(k:∀b u,h.get? b=some u->h'.get? b=some u):Un fs ex H H h h':=
 ⟨fun b ob q _ _ _=>k b ob q,fun b ob q _ _ _=>⟨ob.slots,k b ob q⟩,fun _ _ _ n _=>n,fun b ob q _=>⟨ob,k b ob q⟩,fun _ _ q=>q,fun _ _ _ q=>q,fun _ ps q=>⟨#[],by rw[q];simp⟩⟩
theorem Un.refl:Un fs ex H H h h:=Un.kept fun _ _ q=>q
theorem Un.laid(k:∀b u,h.get? b=some u->h'.get? b=some u)(hp:h.objs.size<=a)(hn:H a=none):Un fs ex H (upd H a o) h h' where
 keep:=fun b u q _ _ _=>k b u q
 slot:=fun b u q _ _ _=>⟨u.slots,k b u q⟩
 free:=fun b u q n _=>by rw[zai (yam (yak (yaq q) hp))];exact n
 there:=fun b u q _=>⟨u,k b u q⟩
 tups:=fun b xs q=>by rw[zai (zal q hn)];exact q
 frzs:=fun b u xs q=>by rw[zai (zal q hn)];exact q
 tbls:=fun b ps q=>⟨#[],by rw[zai (zal q hn),q];simp⟩
theorem Un.write(mu:Mut (H x))(he:e=x\/H e=some (.own x))(k:∀b u,b≠e->h.get? b=some u->h'.get? b=some u)(heo:∃u,h'.get? e=some u):Un fs ex H (upd H x o) h h':=by
 have hx:∀b,H b=none->b≠x:=fun b n z=>by subst z;rw[n]at mu;exact mu
 have hb:∀b,H b=none->b≠e:=fun b n z=>by
  subst z
  rcases he with r|r
  ·exact hx b n r
  ·rw[n]at r;cases r
 have hm:∀b u,H b=some u->¬Mut (some u)->b≠x:=fun b u q nm z=>by subst z;rw[q]at mu;exact nm mu
 refine⟨fun b u q n _ _=>k b u (hb b n) q,fun b u q n _ _=>⟨u.slots,k b u (hb b n) q⟩,fun b u q n _=>by rw[zai (hx b n)];exact n,fun b u q _=> ?_,
  fun b xs q=>by rw[zai (hm b _ q fun z=>z)];exact q,fun b u xs q=>by rw[zai (hm b _ q fun z=>z)];exact q,fun b ps q=>⟨#[],by rw[zai (hm b _ q fun z=>z),q];simp⟩⟩
 by_cases hbe:b=e
 ·subst hbe;exact heo
 ·exact⟨u,k b u hbe q⟩
end
noncomputable def trk(h:Heap)(H:Hp):List Addr:=(List.range h.objs.size).filter fun a=>(H a).isSome
noncomputable def hidT(h:Heap)(H:Hp):Heap:=PySem.W.hideAll h (trk h H)
theorem hidT_size(h:Heap)(H:Hp):(hidT h H).objs.size=h.objs.size:=PySem.W.hideAll_size _ _
theorem hidT_get{h:Heap}{H:Hp}{b:Addr}{o:Obj}(e:h.get? b=some o)(n:H b=none):(hidT h H).get? b=some o:=
 PySem.W.hideAll_get _ e fun hm=>by
  have q:(H b).isSome=true:=(yav.mp hm).2
  rw[n]at q;simp at q
theorem of_hidT{h:Heap}{H:Hp}{b:Addr}{o:Obj}(e:(hidT h H).get? b=some o):h.get? b=some o/\H b=none:=by
 have e':h.get? b=some o:=PySem.W.of_hideAll (trk h H) e
 refine⟨e',?_⟩
 cases q:H b with
 |none=>rfl
 |some x=>
  have hm:b∈trk h H:=yav.mpr ⟨ybf.mpr (yaq e'),by simp[q]⟩
  have z:(hidT h H).get? b=none:=PySem.W.hideAll_none (trk h H) hm
  rw[z]at e;cases e
structure Mod(K:W.Frag)(mg:Str->Option Value)(base:Heap):Prop where
 kin:K.In base
 glob:base.Ns mainGlobals mg
 blt:∃mb,base.Ns builtinsNs mb/\∀x:Str,x≠"__name__"->mb x=bootBuiltins x
 nolimit:base.NoLimit
structure Cx where
 prog:Program
 w:World
 K:W.Frag
 mg:Str->Option Value
 base:Heap
 A:Around
 N:List Str
 s₀:Shared
 H₀:Hp
 env:Env
 outer:List Env
 stack:List Env
 ex:List Addr
 fn:Str->Bool
 calm:Bool
 pn:List (Addr×Obj)
 xe:Value->Shared->Prop
noncomputable def frs(l:List Env):List Addr:=l.filterMap (·.frame)
noncomputable abbrev Cx.fs(X:Cx):List Addr:=frs X.outer
noncomputable def Vis(sc:Scope)(x:Str):Prop:=sc.names.lookup x=some .local\/sc.names.lookup x=some .cell\/sc.names.lookup x=some .free
noncomputable def Loc(sc:Scope)(x:Str):Prop:=sc.names.lookup x=some .local\/sc.names.lookup x=some .cell
noncomputable def Look(env:Env)(h:Heap)(m:Str->Option Value)(x:Str)(u:Value):Prop:=
 (env.kindOf x=some .local/\m x=some u)\/((env.kindOf x=some .cell\/env.kindOf x=some .free)/\∃c,env.cells.lookup x=some c/\h.IsCell c (some u))
structure Cx.Ok(X:Cx):Prop where
 mod:Mod X.K X.mg X.base
 kind:X.env.scope.kind= .function
 glob:X.env.globals=mainGlobals
 blt:X.env.builtins=builtinsNs
 above:X.s₀.heap.objs.size<=X.env.locals
 inj:∀x y c,X.env.cells.lookup x=some c->X.env.cells.lookup y=some c->x=y
 has:∀x,(X.env.kindOf x=some .cell\/X.env.kindOf x=some .free)->∃c,X.env.cells.lookup x=some c
 cab:∀x c,X.fn x=true->X.env.cells.lookup x=some c->X.s₀.heap.objs.size<=c
 hd:X.calm=true->X.A.handled=none
 frames:X.A.frames=some X.stack
 stk:X.stack=X.outer\/(X.stack=X.env::X.outer/\X.env.frame=some X.env.locals)
 exf:∀b∈X.ex,b≠X.env.locals/\∀x c,X.env.cells.lookup x=some c->c≠b
 bs:∀b o,X.base.get? b=some o->X.s₀.heap.get? b=some o/\X.H₀ b=none
 bsz:X.base.objs.size<=X.s₀.heap.objs.size
 noex:∀b o,X.base.get? b=some o->b∉X.ex
 exfs:∀b∈X.ex,b∉X.fs
 funs:X.s₀.heap.FunFrames X.base X.outer
 frf:∀b∈X.fs,X.H₀ b=none
structure Inv(X:Cx)(pins:List (Addr×Obj))(σ:List (Option V))(H:Hp)(s:Shared):Prop where
 ok:X.Ok
 os:s.os=X.s₀.os
 bare:AllBare s.gens
 base:Un X.fs X.ex X.H₀ H X.s₀.heap s.heap
 loc:∃m,s.heap.Ns X.env.locals m/\∀(i:Nat) (x:Str) (v:V),X.N[i]? =some x->σ[i]? =some (some v)->Vis X.env.scope x->∃u,RelV v u/\Look X.env s.heap m x u
 cell:∀x c,X.env.cells.lookup x=some c->∃v,s.heap.IsCell c v
 free:H X.env.locals=none
 freeC:∀x c,X.env.cells.lookup x=some c->H c=none
 pin:∀p∈X.pn++pins,s.heap.get? p.1=some p.2/\H p.1=none/\p.1≠X.env.locals/\p.1∉X.fs/\∀v,p.2.data≠.cell v
 hok:HOk X.prog X.w H s.heap
 len:σ.length=X.N.length
section
variable{X:Cx}{pins:List (Addr×Obj)}{σ:List (Option V)}{H H':Hp}{s:Shared}{h':Heap}
theorem Cx.Ok.nofr(ok:X.Ok){b:Addr}{o:Obj}(e:X.base.get? b=some o):b∉X.fs:=fun hb=>by
 have:=(ok.funs.mem hb).1
 rw[e]at this;cases this
theorem Inv.bs(I:Inv X pins σ H s):∀b o,X.base.get? b=some o->s.heap.get? b=some o/\H b=none:=fun b o e=>
 ⟨I.base.keep b o (I.ok.bs b o e).1 (I.ok.bs b o e).2 (I.ok.nofr e) (I.ok.noex b o e),I.base.free b o (I.ok.bs b o e).1 (I.ok.bs b o e).2 (I.ok.noex b o e)⟩
theorem Inv.bk(I:Inv X pins σ H s):∀b o,X.base.get? b=some o->s.heap.get? b=some o:=fun b o e=>(I.bs b o e).1
theorem Inv.mod(I:Inv X pins σ H s):Mod X.K X.mg X.base:=I.ok.mod
theorem Inv.kIn(I:Inv X pins σ H s):X.K.In s.heap:=I.ok.mod.kin.keeps I.bk
theorem Inv.lt(I:Inv X pins σ H s):X.env.locals<s.heap.objs.size:=let⟨_,hn,_⟩:=I.loc;hn.lt
theorem Inv.sz(I:Inv X pins σ H s):X.s₀.heap.objs.size<=s.heap.objs.size:=yau I.ok.above (yan I.lt)
theorem Inv.nofs(I:Inv X pins σ H s){a:Addr}(h:s.heap.objs.size<=a):a∉X.fs:=fun hb=>by
 obtain⟨_,o,ho,_⟩:=I.ok.funs.mem hb
 exact absurd (yak (yaq ho) (yau I.sz h)) (ybj _)
theorem Inv.cne(I:Inv X pins σ H s):∀x c,X.env.cells.lookup x=some c->c≠X.env.locals:=fun x c e z=>by
 obtain⟨v,o,ho,hd⟩:=I.cell x c e
 obtain⟨m,⟨o',es,ep,ho',hd',_⟩,_⟩:=I.loc
 rw[z,ho']at ho;cases ho;rw[hd']at hd;cases hd
theorem Inv.funs(I:Inv X pins σ H s):s.heap.FunFrames X.base X.outer:=by
 have all:∀(l:List Env),(∀b∈frs l,b∈X.fs)->X.s₀.heap.FunFrames X.base l->s.heap.FunFrames X.base l:=by
  intro l
  induction l with
  |nil=>intro _ _;trivial
  |cons env r ih=>
   intro hs hl
   obtain⟨hk,⟨L,o,hf,hn,ho,hd⟩,hr⟩:=hl
   have hL:L∈X.fs:=hs L (by unfold frs;rw[ycl,hf];exact yap)
   obtain⟨sl,e⟩:=I.base.slot L o ho (I.ok.frf L hL) hL fun z=>I.ok.exfs L z hL
   exact⟨hk,⟨L,_,hf,hn,e,hd⟩,ih (fun b hb=>hs b (by unfold frs;rw[ycl,hf];exact yai _ hb)) hr⟩
 exact all X.outer (fun _ hb=>hb) I.ok.funs
theorem Inv.stack(I:Inv X pins σ H s):s.heap.FunFrames X.base X.stack:=by
 rcases I.ok.stk with e|⟨e,hf⟩
 ·rw[e];exact I.funs
 ·rw[e]
  obtain⟨m,hn,_⟩:=I.loc
  refine .cons (by rw[I.ok.kind];decide) hf hn ?_ I.funs
  exact Heap.get?_none_of_le (yau I.ok.bsz I.ok.above)
theorem Inv.stkSub(I:Inv X pins σ H s):∀b∈frs X.stack,b∈X.env.locals::X.fs:=fun b hb=>by
 rcases I.ok.stk with e|⟨e,hf⟩
 ·rw[e]at hb;exact yai _ hb
 ·rw[e]at hb
  unfold frs at hb
  rw[ycl,hf]at hb
  exact hb
theorem Inv.stkFree(I:Inv X pins σ H s):∀b∈frs X.stack,H b=none:=fun b hb=>by
 rcases yaj.mp (I.stkSub b hb)with e|hb
 ·rw[e];exact I.free
 ·obtain⟨_,o,ho,_⟩:=I.ok.funs.mem hb
  exact I.base.free b o ho (I.ok.frf b hb) fun z=>I.ok.exfs b z hb
theorem Inv.step{g':Array GenState}{t':Nat}{d':Drawn}{ch:List Addr}(I:Inv X pins σ H s)(hch:∀b∈ch,(b∈X.ex\/X.s₀.heap.objs.size<=b)/\b≠X.env.locals/\(∀x c,X.env.cells.lookup x=some c->c≠b)/\∀p∈X.pn++pins,p.1≠b)(keep:∀b o,b≠X.env.locals->b∉X.fs->b∉ch->s.heap.get? b=some o->H b=none->h'.get? b=some o)(slot:∀b o,b≠X.env.locals->b∈X.fs->b∉ch->s.heap.get? b=some o->H b=none->∃sl,h'.get? b=some {o with slots:=sl})(free:∀b o,b∉ch->s.heap.get? b=some o->H b=none->H' b=none)(there:∀b o,b∉ch->s.heap.get? b=some o->∃o',h'.get? b=some o')(tups:∀b xs,H b=some (.tup xs)->H' b=some (.tup xs))(frzs:∀b o u,H b=some (.frz o u)->H' b=some (.frz o u))(tbls:∀b ps,H b=some (.tbl ps)->∃more,H' b=some (.tbl (ps++more)))(ns:∀m,s.heap.Ns X.env.locals m->h'.Ns X.env.locals m)(hok:HOk X.prog X.w H' h')(hg:AllBare g'):
  Inv X pins σ H' {s with heap:=h',gens:=g',drawn:=d',toks:=t'}:=by
 have neL:∀b o,X.s₀.heap.get? b=some o->b≠X.env.locals:=fun b o e=>yam (yak (yaq e) I.ok.above)
 have neC:∀b o,X.s₀.heap.get? b=some o->b∉X.ex->b∉ch:=fun b o e hx hb=>by
  rcases(hch b hb).1 with z|z
  ·exact hx z
  ·exact absurd (yak (yaq e) z) (ybj _)
 have cellK:∀x c,X.env.cells.lookup x=some c->∀v,s.heap.IsCell c v->h'.IsCell c v:=fun x c e v ⟨o,ho,hd⟩=>by
  have nch:c∉ch:=fun z=>(hch c z).2.2.1 x c e rfl
  by_cases hc:c∈X.fs
  ·obtain⟨sl,q⟩:=slot c o (I.cne x c e) hc nch ho (I.freeC x c e)
   exact⟨_,q,hd⟩
  ·exact⟨o,keep c o (I.cne x c e) hc nch ho (I.freeC x c e),hd⟩
 refine⟨I.ok,I.os,hg,⟨fun b o e n hb hx=> ?_,fun b o e n hb hx=> ?_,fun b o e n hx=> ?_,fun b o e hx=> ?_,fun b xs e=>tups b xs (I.base.tups b xs e),fun b o xs e=>frzs b o xs (I.base.frzs b o xs e),fun b ps e=> ?_⟩,?_,fun x c e=> ?_,?_,fun x c e=> ?_,fun p hp=> ?_,hok,I.len⟩
 ·exact keep b o (neL b o e) hb (neC b o e hx) (I.base.keep b o e n hb hx) (I.base.free b o e n hx)
 ·obtain⟨sl,e1⟩:=I.base.slot b o e n hb hx
  obtain⟨sl',e2⟩:=slot b _ (neL b o e) hb (neC b o e hx) e1 (I.base.free b o e n hx)
  exact⟨sl',e2⟩
 ·obtain⟨o',e1⟩:=I.base.there b o e hx
  exact free b o' (neC b o e hx) e1 (I.base.free b o e n hx)
 ·obtain⟨o',e1⟩:=I.base.there b o e hx
  exact there b o' (neC b o e hx) e1
 ·obtain⟨m1,e1⟩:=I.base.tbls b ps e
  obtain⟨m2,e2⟩:=tbls b _ e1
  exact⟨m1++m2,by rw[e2,Array.append_assoc]⟩
 ·obtain⟨m,hn,hl⟩:=I.loc
  refine⟨m,ns m hn,fun i x v e1 e2 e3=> ?_⟩
  obtain⟨u,r,l⟩:=hl i x v e1 e2 e3
  refine⟨u,r,?_⟩
  rcases l with l|⟨k,c,e,z⟩
  ·exact .inl l
  ·exact .inr ⟨k,c,e,cellK x c e _ z⟩
 ·obtain⟨v,z⟩:=I.cell x c e
  exact⟨v,cellK x c e v z⟩
 ·obtain⟨m,⟨o,_,_,ho,_⟩,_⟩:=I.loc
  exact free _ o (fun z=>(hch _ z).2.1 rfl) ho I.free
 ·obtain⟨v,o,ho,hd⟩:=I.cell x c e
  exact free c o (fun z=>(hch c z).2.2.1 x c e rfl) ho (I.freeC x c e)
 ·obtain⟨e,n,ne,nf,d⟩:=I.pin p hp
  have nch:p.1∉ch:=fun z=>(hch p.1 z).2.2.2 p hp rfl
  exact⟨keep p.1 p.2 ne nf nch e n,free p.1 p.2 nch e n,ne,nf,d⟩
theorem Inv.un{t':Nat}(I:Inv X pins σ H s)(u:Un X.fs [] H H' s.heap h')(hok:HOk X.prog X.w H' h'):Inv X pins σ H' {s with heap:=h',toks:=t'}:=by
 obtain⟨m,⟨o,es,ep,ho,r⟩,_⟩:=id I.loc
 obtain⟨sl,hL⟩:=u.any ho I.free (by simp)
 exact I.step (g':=s.gens) (d':=s.drawn) (ch:=[]) (fun _ z=>nomatch z) (fun b o _ hb _ e n=>u.keep b o e n hb (by simp)) (fun b o _ hb _ e n=>u.slot b o e n hb (by simp)) (fun b o _ e n=>u.free b o e n (by simp)) (fun b o _ e=>u.there b o e (by simp)) u.tups u.frzs u.tbls (fun m' hm=>by
  obtain⟨o',es',ep',ho',r'⟩:=hm
  rw[ho]at ho';cases ho'
  exact⟨_,es',ep',hL,r'⟩) hok I.bare
theorem Inv.call{g':Array GenState}{t':Nat}{d':Drawn}{ch:List Addr}(I:Inv X pins σ H s)(u:Un (frs X.stack) ch H H' s.heap h')(hok:HOk X.prog X.w H' h')(hg:AllBare g')(hch:∀b∈ch,(b∈X.ex\/X.s₀.heap.objs.size<=b)/\b≠X.env.locals/\(∀x c,X.env.cells.lookup x=some c->c≠b)/\∀p∈X.pn++pins,p.1≠b):
  Inv X pins σ H' {s with heap:=h',gens:=g',drawn:=d',toks:=t'}:=by
 obtain⟨m,⟨o,es,ep,ho,r⟩,_⟩:=id I.loc
 obtain⟨sl,hL⟩:=u.any ho I.free fun z=>(hch _ z).2.1 rfl
 exact I.step (ch:=ch) hch (fun b o hL hb hc e n=>u.keep b o e n (fun z=>(yaj.mp (I.stkSub b z)).elim hL hb) hc) (fun b o _ _ hc e n=>u.any e n hc) (fun b o hc e n=>u.free b o e n hc) (fun b o hc e=>u.there b o e hc) u.tups u.frzs u.tbls (fun m' hm=>by
  obtain⟨o',es',ep',ho',r'⟩:=hm
  rw[ho]at ho';cases ho'
  exact⟨_,es',ep',hL,r'⟩) hok hg
theorem Inv.turned{t':Nat}{it:Addr}(I:Inv X pins σ H s)(k:∀b o,b≠it->s.heap.get? b=some o->h'.get? b=some o)(hn:H it=none)(hL:it≠X.env.locals)(h1:it∈X.ex\/X.s₀.heap.objs.size<=it)(h2:∀x c,X.env.cells.lookup x=some c->c≠it)(h3:∀p∈X.pn++pins,p.1≠it):Inv X pins σ H {s with heap:=h',toks:=t'}:=by
 have nit:∀b u,H b=some u->b≠it:=fun b u e z=>by rw[z,hn]at e;cases e
 refine I.step (g':=s.gens) (d':=s.drawn) (ch:=[it]) (fun b hb=> ?_) (fun b o _ _ hc e _=>k b o (fun z=>hc (by simp[z])) e) (fun b o _ _ hc e _=>⟨o.slots,k b o (fun z=>hc (by simp[z])) e⟩) (fun _ _ _ _ n=>n)
  (fun b o hc e=>⟨o,k b o (fun z=>hc (by simp[z])) e⟩) (fun _ _ e=>e) (fun _ _ _ e=>e) (fun b ps e=>⟨#[],by rw[e];simp⟩) (fun m hm=> ?_) (fun b u e=> ?_) I.bare
 ·have e:b=it:=by simpa using hb
  subst e
  exact⟨h1,hL,h2,h3⟩
 ·obtain⟨o,es,ep,ho,r⟩:=hm
  exact⟨o,es,ep,k _ o (Ne.symm hL) ho,r⟩
 ·refine(I.hok b u e).stay (fun c v hc q=>k c v ?_ q) (fun _ q=>q) fun _ _ q=>q
  rcases hc with z|z
  ·rw[z];exact nit b u e
  ·exact nit c _ z
theorem Inv.tok(I:Inv X pins σ H s)(t:Nat):Inv X pins σ H {s with toks:=t}:=I.un (h':=s.heap) (t':=t) Un.refl I.hok
theorem Inv.kept{t':Nat}(I:Inv X pins σ H s)(k:∀b u,s.heap.get? b=some u->h'.get? b=some u):Inv X pins σ H {s with heap:=h',toks:=t'}:=I.un (Un.kept k) (I.hok.kept k)
theorem Inv.laid{a:Addr}{o:HO}{t':Nat}(I:Inv X pins σ H s)(k:∀b u,s.heap.get? b=some u->h'.get? b=some u)(hp:s.heap.objs.size<=a)(new:ObjOk X.prog X.w (upd H a o) h' a o):
  Inv X pins σ (upd H a o) {s with heap:=h',toks:=t'}:=I.un (Un.laid k hp (I.hok.fresh hp)) (I.hok.laid k hp new)
theorem Inv.write{x e:Addr}{o:HO}{t':Nat}(I:Inv X pins σ H s)(mu:Mut (H x))(he:e=x\/H e=some (.own x))(k:∀b u,b≠e->s.heap.get? b=some u->h'.get? b=some u)(heo:∃u,h'.get? e=some u)(new:ObjOk X.prog X.w (upd H x o) h' x o):Inv X pins σ (upd H x o) {s with heap:=h',toks:=t'}:=I.un (Un.write mu he k heo) (I.hok.write mu he k heo new)
theorem Inv.pins_of{pins':List (Addr×Obj)}(I:Inv X pins σ H s)(h:∀p∈pins',s.heap.get? p.1=some p.2/\H p.1=none/\p.1≠X.env.locals/\p.1∉X.fs/\∀v,p.2.data≠.cell v):Inv X pins' σ H s:=
 ⟨I.ok,I.os,I.bare,I.base,I.loc,I.cell,I.free,I.freeC,fun p hp=>(yay.mp hp).elim (fun z=>I.pin p (yde _ z)) (h p),I.hok,I.len⟩
theorem nodup_ix{N:List Str}(hN:N.Nodup){i j:Nat}{x:Str}(a:N[i]? =some x)(b:N[j]? =some x):i=j:=by
 obtain⟨h1,e1⟩:=yao.mp a
 obtain⟨h2,e2⟩:=yao.mp b
 exact(List.getElem_inj hN).mp (e1.trans e2.symm)
theorem store_ok2{M:Model}{A:Around}{E:Value->Shared->Prop}{i:Nat}{x:Str}{v:V}{u:Value}{Q:Unit->Shared->Prop}(I:Inv X pins σ H s)(hN:X.N.Nodup)(hi:X.N[i]? =some x)(hx:Loc X.env.scope x)(r:RelV v u)(h:∀s',Inv X pins (σ.set i (some v)) H s'->(∃a,Heap.SameBut a s.heap s'.heap/\(a=X.env.locals\/X.env.cells.lookup x=some a))->Q () s')(hf:X.fn x=true\/X.env.scope.names.lookup x=some .local:=by first |exact .inl rfl|exact .inr rfl|assumption):wpAny M A (storeName X.env x u) Q E s:=by
 obtain⟨m,hn,hl⟩:=id I.loc
 have hcls:(X.env.scope.kind== .class||(X.env.scope.kind== .module&&X.env.locals !=X.env.globals))=false:=by rw[I.ok.kind];rfl
 have hiσ:i<σ.length:=by rw[I.len];exact(yao.mp hi).1
 have cne:=I.cne
 have tracked:∀{a:Addr} {h':Heap},(∃o,s.heap.get? a=some o/\H a=none)->Heap.SameBut a s.heap h'->HOk X.prog X.w H h':=fun{a h'} ha hs b ob e=>by
  obtain⟨_,_,hfree⟩:=ha
  refine(I.hok b ob e).stay (fun c w' hc q=>(hs.2 c ?_).trans q) (fun _ q=>q) fun _ _ q=>q
  rintro rfl
  rcases hc with rfl|hc
  ·rw[hfree]at e;cases e
  ·rw[hfree]at hc;cases hc
 rcases hx with hk|hk
 ·refine wpAny_storeName_local hk hn (fun h' hn' hs=> ?_) hcls
  obtain⟨oL,_,_,hoL,_⟩:=id hn
  refine h _ ⟨I.ok,I.os,I.bare,⟨fun b o e n hb hx=> ?_,fun b o e n hb hx=> ?_,I.base.free,fun b o e hx=> ?_,I.base.tups,I.base.frzs,I.base.tbls⟩,⟨_,hn',fun j y v' e1 e2 e3=> ?_⟩,fun y c e=> ?_,I.free,I.freeC,fun p hp=> ?_,tracked ⟨oL,hoL,I.free⟩ hs,by simpa using I.len⟩ ⟨_,hs,.inl rfl⟩
  ·exact(hs.2 b (yam (yak (yaq e) I.ok.above))).trans (I.base.keep b o e n hb hx)
  ·obtain⟨sl,e1⟩:=I.base.slot b o e n hb hx
   exact⟨sl,(hs.2 b (yam (yak (yaq e) I.ok.above))).trans e1⟩
  ·obtain⟨o',e1⟩:=I.base.there b o e hx
   exact⟨o',(hs.2 b (yam (yak (yaq e) I.ok.above))).trans e1⟩
  ·by_cases hj:j=i
   ·subst hj
    rw[hi]at e1;cases e1
    rw[List.getElem?_set_self hiσ]at e2
    cases e2
    exact⟨u,r,.inl ⟨hk,by simp⟩⟩
   ·rw[List.getElem?_set_ne (Ne.symm hj)]at e2
    obtain⟨u',r',q⟩:=hl j y v' e1 e2 e3
    refine⟨u',r',?_⟩
    rcases q with⟨k,e⟩|⟨k,c,e,z⟩
    ·refine .inl ⟨k,?_⟩
     have:y≠x:=fun e=>hj (nodup_ix hN e1 (e▸hi))
     simp[this,e]
    ·exact .inr ⟨k,c,e,z.sameBut hs (cne y c e)⟩
  ·obtain⟨w',z⟩:=I.cell y c e
   exact⟨w',z.sameBut hs (cne y c e)⟩
  ·obtain⟨e,n,ne,nf,d⟩:=I.pin p hp
   exact⟨(hs.2 p.1 ne).trans e,n,ne,nf,d⟩
 ·have hfn:X.fn x=true:=by
   rcases hf with z|z
   ·exact z
   ·rw[z]at hk;cases hk
  obtain⟨c,hc⟩:=I.ok.has x (.inl hk)
  obtain⟨w',z⟩:=I.cell x c hc
  refine wpAny_storeName_cell I.ok.kind hk hc z (fun h' hc' hs=> ?_)
  obtain⟨oc,hoc,hocd⟩:=id z
  refine h {s with heap:=h'} ⟨I.ok,I.os,I.bare,⟨fun b o e n hb hx=> ?_,fun b o e n hb hx=> ?_,I.base.free,fun b o e hx=> ?_,I.base.tups,I.base.frzs,I.base.tbls⟩,⟨m,hn.sameBut hs (Ne.symm (cne x c hc)),fun j y v' e1 e2 e3=> ?_⟩,fun y c' e=> ?_,I.free,I.freeC,fun p hp=> ?_,tracked ⟨oc,hoc,I.freeC x c hc⟩ hs,by simpa using I.len⟩ ⟨c,hs,.inr hc⟩
  ·exact(hs.2 b (yam (yak (yaq e) (I.ok.cab x c hfn hc)))).trans (I.base.keep b o e n hb hx)
  ·obtain⟨sl,e1⟩:=I.base.slot b o e n hb hx
   exact⟨sl,(hs.2 b (yam (yak (yaq e) (I.ok.cab x c hfn hc)))).trans e1⟩
  ·obtain⟨o',e1⟩:=I.base.there b o e hx
   exact⟨o',(hs.2 b (yam (yak (yaq e) (I.ok.cab x c hfn hc)))).trans e1⟩
  ·by_cases hj:j=i
   ·subst hj
    rw[hi]at e1;cases e1
    rw[List.getElem?_set_self hiσ]at e2
    cases e2
    exact⟨u,r,.inr ⟨.inl hk,c,hc,hc'⟩⟩
   ·rw[List.getElem?_set_ne (Ne.symm hj)]at e2
    obtain⟨u',r',q⟩:=hl j y v' e1 e2 e3
    refine⟨u',r',?_⟩
    rcases q with q|⟨k,c',e,z'⟩
    ·exact .inl q
    ·refine .inr ⟨k,c',e,z'.sameBut hs ?_⟩
     rintro rfl
     exact hj (nodup_ix hN e1 (I.ok.inj _ _ _ e hc▸hi))
  ·by_cases hcc:c'=c
   ·subst hcc;exact⟨_,hc'⟩
   ·obtain⟨w2,z2⟩:=I.cell y c' e
    exact⟨w2,z2.sameBut hs hcc⟩
  ·obtain⟨e,n,ne,nf,d⟩:=I.pin p hp
   refine⟨(hs.2 p.1 ?_).trans e,n,ne,nf,d⟩
   intro q
   rw[q,hoc]at e
   have q':oc=p.2:=Option.some.inj e
   exact d w' (by rw[<-q'];exact hocd)
theorem store_ok{M:Model}{A:Around}{E:Value->Shared->Prop}{i:Nat}{x:Str}{v:V}{u:Value}{Q:Unit->Shared->Prop}(I:Inv X pins σ H s)(hN:X.N.Nodup)(hi:X.N[i]? =some x)(hx:Loc X.env.scope x)(r:RelV v u)(h:∀s',Inv X pins (σ.set i (some v)) H s'->Q () s')(hf:X.fn x=true\/X.env.scope.names.lookup x=some .local:=by first |exact .inl rfl|exact .inr rfl|assumption):wpAny M A (storeName X.env x u) Q E s:=
 store_ok2 I hN hi hx r (fun s' I' _=>h s' I') hf
theorem Inv.call'{s':Shared}{ch:List Addr}(I:Inv X pins σ H s)(ho:s'.os=s.os)(u:Un (frs X.stack) ch H H' s.heap s'.heap)(hok:HOk X.prog X.w H' s'.heap)(hg:AllBare s'.gens)(hch:∀b∈ch,(b∈X.ex\/X.s₀.heap.objs.size<=b)/\b≠X.env.locals/\(∀x c,X.env.cells.lookup x=some c->c≠b)/\∀p∈X.pn++pins,p.1≠b):Inv X pins σ H' s':=by
 obtain⟨h',g',d',t',o'⟩:=s'
 have e:o'=s.os:=ho
 subst e
 exact I.call (g':=g') (t':=t') (d':=d') u hok hg hch
end
noncomputable abbrev XK:=Value->Option Addr->Hp->Prop
noncomputable abbrev St:=List (Option V)
noncomputable abbrev VK:=V->Hp->Prop
noncomputable abbrev TE:=St->Hp->VK->Prop
noncomputable abbrev TT:=St->Hp->(Bool->Hp->Prop)->Prop
noncomputable abbrev TA:=St->Hp->(List V->Hp->Prop)->Prop
structure Ends where
 nx:St->Hp->Prop
 rt:VK
 bk:St->Hp->Prop:=fun _ _=>False
 ct:St->Hp->Prop:=fun _ _=>False
noncomputable abbrev TS:=Ends->St->Hp->Prop
noncomputable def EP(X:Cx)(pins:List (Addr×Obj))(σ:St)(Q:VK)(u:Value)(s':Shared):Prop:=∃v H',Inv X pins σ H' s'/\RelV v u/\Q v H'
noncomputable def TP(X:Cx)(pins:List (Addr×Obj))(σ:St)(Q:Bool->Hp->Prop)(b:Bool)(s':Shared):Prop:=∃H',Inv X pins σ H' s'/\Q b H'
noncomputable def AP(X:Cx)(pins:List (Addr×Obj))(σ:St)(Q:List V->Hp->Prop)(us:List Value)(s':Shared):Prop:=∃vs H',Inv X pins σ H' s'/\Vals vs us/\Q vs H'
noncomputable def SP(X:Cx)(pins:List (Addr×Obj))(D:Ends)(f:Flow)(s':Shared):Prop:=
 match f with
 | .next=>∃σ' H',Inv X pins σ' H' s'/\D.nx σ' H'
 | .brk=>∃σ' H',Inv X pins σ' H' s'/\D.bk σ' H'
 | .cont=>∃σ' H',Inv X pins σ' H' s'/\D.ct σ' H'
 | .ret u=>∃v σ' H',Inv X pins σ' H' s'/\RelV v u/\D.rt v H'
noncomputable def PE(X:Cx)(e:Expr)(t:TE):Prop:=
 ∀(pins:List (Addr×Obj)) (s:Shared) (σ:St) (H:Hp) (Q:VK),Inv X pins σ H s->t σ H Q->wpAny (model X.prog X.w) X.A (eval e X.env) (EP X pins σ Q) X.xe s
noncomputable def PT(X:Cx)(e:Expr)(t:TT):Prop:=
 ∀(pins:List (Addr×Obj)) (s:Shared) (σ:St) (H:Hp) (Q:Bool->Hp->Prop),Inv X pins σ H s->t σ H Q->wpAny (model X.prog X.w) X.A (isTrue e X.env (eval e X.env)) (TP X pins σ Q) X.xe s
noncomputable def PW(X:Cx)(e:Expr)(t:TT):Prop:=
 ∀(whole:Sem Value) (pins:List (Addr×Obj)) (s:Shared) (σ:St) (H:Hp) (Q:Bool->Hp->Prop),Inv X pins σ H s->t σ H Q->wpAny (model X.prog X.w) X.A (isTrue e X.env whole) (TP X pins σ Q) X.xe s
theorem PW.pt{X:Cx}{e:Expr}{t:TT}(h:PW X e t):PT X e t:=h _
noncomputable def PA(X:Cx)(es:List Expr)(t:TA):Prop:=
 ∀(pos:Pos) (pins:List (Addr×Obj)) (s:Shared) (σ:St) (H:Hp) (Q:List V->Hp->Prop),Inv X pins σ H s->t σ H Q->wpAny (model X.prog X.w) X.A (spliced (backTo pos (starEach es X.env))) (AP X pins σ Q) X.xe s
noncomputable def PS(X:Cx)(st:Stmt)(t:TS):Prop:=
 ∀(pins:List (Addr×Obj)) (s:Shared) (σ:St) (H:Hp) (D:Ends),Inv X pins σ H s->t D σ H->wpAny (model X.prog X.w) X.A (exec st X.env) (SP X pins D) X.xe s
noncomputable def PSs(X:Cx)(st:List Stmt)(t:TS):Prop:=
 ∀(pins:List (Addr×Obj)) (s:Shared) (σ:St) (H:Hp) (D:Ends),Inv X pins σ H s->t D σ H->wpAny (model X.prog X.w) X.A (execs st X.env) (SP X pins D) X.xe s
theorem thn{α:Type}{t:Sem α}{Q Q':α->Shared->Prop}{M:Model}{A:Around}{E:Value->Shared->Prop}{s:Shared}(h:wpAny M A t Q E s)(hQ:∀a s,Q a s->Q' a s):wpAny M A t Q' E s:=wpAny_mono h hQ fun _ _ x=>x
section
variable{X:Cx}
noncomputable def tVar(i:Nat):TE:=fun σ H Q=>∃v,σ[i]? =some (some v)/\Q v H
noncomputable def tC(v:V):TE:=fun _ H Q=>Q v H
theorem pe_var{i:Nat}{x:Str}{pos:Pos}(hN:X.N[i]? =some x)(hv:Vis X.env.scope x)(hd:(x==("__debug__":Str))=false:=by decide)(hcd:(x==("__classdict__":Str))=false:=by decide):PE X (.Name x pos) (tVar i):=by
 intro pins s σ H Q I h
 obtain⟨v,e,h⟩:=h
 obtain⟨m,hn,hl⟩:=I.loc
 obtain⟨u,r,l⟩:=hl i x v hN e hv
 have fin:EP X pins σ Q u s:=⟨v,H,I,r,h⟩
 rcases l with⟨hk,hm⟩|⟨hk,c,hc,hcell⟩
 ·exact wpAny_Name (wpAny_loadName_local I.ok.kind hk hn hm fin) hd
 ·rcases hk with hk|hk
  ·exact wpAny_Name (wpAny_loadName_cell I.ok.kind hk hc hcell fin) hd
  ·exact wpAny_Name (wpAny_loadName_free I.ok.kind hk hc hcell fin hcd) hd
theorem zah{i j pos}:PE X (.Constant (.int i) j pos) (tC (.int i)):=fun _ _ _ H _ I h=>wpAny_Constant_int ⟨.int i,H,I.tok _,⟨_,rfl⟩,h⟩
theorem pe_bl{b j pos}:PE X (.Constant (.bool b) j pos) (tC (.bl b)):=fun _ _ _ H _ I h=>Constant_bool ⟨.bl b,H,I,rfl,h⟩
theorem pe_non{j pos}:PE X (.Constant .none j pos) (tC .non):=fun _ _ _ H _ I h=>Constant_none ⟨.non,H,I,rfl,h⟩
noncomputable def Gl(X:Cx)(x:Str):Prop:=X.env.kindOf x=some .globalImplicit
theorem ld_glob{E:Value->Shared->Prop}{pins:List (Addr×Obj)}{s:Shared}{σ:St}{H:Hp}{x:Str}{u:Value}{pos:Pos}{Q:Value->Shared->Prop}(I:Inv X pins σ H s)(hg:Gl X x)(hm:X.mg x=some u)(h:Q u s)(hd:(x==("__debug__":Str))=false:=by decide):wpAny (model X.prog X.w) X.A (eval (.Name x pos) X.env) Q E s:=
 Calls.Name_function_global I.ok.kind hg (Calls.loadGlobal_global (by rw[I.ok.glob];exact I.mod.glob.keeps I.bk) hm h) hd
theorem ld_blt{E:Value->Shared->Prop}{pins:List (Addr×Obj)}{s:Shared}{σ:St}{H:Hp}{x:Str}{u:Value}{pos:Pos}{Q:Value->Shared->Prop}(I:Inv X pins σ H s)(hg:Gl X x)(hm:X.mg x=none)(hv:bootBuiltins x=some u)(h:Q u s)(hn:x≠"__name__":=by decide)(hd:(x==("__debug__":Str))=false:=by decide):wpAny (model X.prog X.w) X.A (eval (.Name x pos) X.env) Q E s:=by
 obtain⟨mb,h1,h2⟩:=I.mod.blt
 exact Calls.Name_function_global I.ok.kind hg (Calls.loadGlobal_builtin (by rw[I.ok.glob];exact I.mod.glob.keeps I.bk) hm (by rw[I.ok.blt];exact h1.keeps I.bk) ((h2 x hn).trans hv) h) hd
theorem pe_glob{x:Str}{v:V}{u:Value}{pos:Pos}(hg:Gl X x)(hm:X.mg x=some u)(r:RelV v u)(hd:(x==("__debug__":Str))=false:=by decide):PE X (.Name x pos) (tC v):=
 fun _ _ _ H _ I h=>ld_glob I hg hm ⟨v,H,I,r,h⟩ hd
theorem pe_bltn{x:Str}{v:V}{u:Value}{pos:Pos}(hg:Gl X x)(hm:X.mg x=none)(hv:bootBuiltins x=some u)(r:RelV v u)(hn:x≠"__name__":=by decide)(hd:(x==("__debug__":Str))=false:=by decide):PE X (.Name x pos) (tC v):=
 fun _ _ _ H _ I h=>ld_blt I hg hm hv ⟨v,H,I,r,h⟩ hn hd
variable{a b:Expr}{ta tb:TE}{pos:Pos}
noncomputable def tB(t:TE):TT:=fun σ H Q=>t σ H fun x H1=>∃c,x= .bl c/\Q c H1
theorem pt_val{e:Expr}{t:TE}(h:PE X e t)(he:∀whole,isTrue e X.env whole=(do let v<-whole;standAt e.pos;holding [v] (truthy v)):=by intro _;rfl):PT X e (tB t):=by
 intro pins s σ H Q I hw
 refine isTrue_plain (thn (h pins s σ H _ I hw) fun v s1 ⟨x,H1,I1,r1,q1⟩=> ?_) (he _)
 obtain⟨d,rfl,q⟩:=q1
 cases r1
 exact wpAny_truthy_bool ⟨H1,I1,q⟩
variable{tA tB':TT}{rest:List Expr}
noncomputable def tAnd(t u:TT):TT:=fun σ H Q=>t σ H fun c H1=>if c=true then u σ H1 Q else Q false H1
noncomputable def tOr(t u:TT):TT:=fun σ H Q=>t σ H fun c H1=>if c=true then Q true H1 else u σ H1 Q
noncomputable def tNot(t:TT):TT:=fun σ H Q=>t σ H fun c H1=>Q (!c) H1
theorem pw_and1(ha:PT X a tA):PW X (.BoolOp .And [a] pos) tA:=by
 intro wh pins s σ H Q I h
 refine isTrue_and (thn (ha pins s σ H Q I h) fun c s1 e=> ?_)
 cases c with
 |true=>exact isTrue_and_nil e
 |false=>exact e
theorem pw_or1(ha:PT X a tA):PW X (.BoolOp .Or [a] pos) tA:=by
 intro wh pins s σ H Q I h
 refine isTrue_or (thn (ha pins s σ H Q I h) fun c s1 e=> ?_)
 cases c with
 |false=>exact isTrue_or_nil e
 |true=>exact e
theorem pw_and(ha:PT X a tA)(hb:PW X (.BoolOp .And (b::rest) pos) tB'):PW X (.BoolOp .And (a::b::rest) pos) (tAnd tA tB'):=by
 intro wh pins s σ H Q I h
 refine isTrue_and (thn (ha pins s σ H _ I h) fun c s1 ⟨H1,I1,q1⟩=> ?_)
 cases c with
 |true=>exact hb wh pins s1 σ H1 Q I1 q1
 |false=>exact⟨H1,I1,q1⟩
theorem pw_or(ha:PT X a tA)(hb:PW X (.BoolOp .Or (b::rest) pos) tB'):PW X (.BoolOp .Or (a::b::rest) pos) (tOr tA tB'):=by
 intro wh pins s σ H Q I h
 refine isTrue_or (thn (ha pins s σ H _ I h) fun c s1 ⟨H1,I1,q1⟩=> ?_)
 cases c with
 |true=>exact⟨H1,I1,q1⟩
 |false=>exact hb wh pins s1 σ H1 Q I1 q1
theorem pt_not(ha:PT X a tA):PT X (.UnaryOp .Not a pos) (tNot tA):=by
 intro pins s σ H Q I h
 exact isTrue_not (ha pins s σ H (fun c H1=>Q (!c) H1) I h)
noncomputable def tAndV(ta tb:TE):TE:=fun σ H Q=>ta σ H fun x H1=>∃c,x= .bl c/\if c=true then tb σ H1 Q else Q (.bl false) H1
noncomputable def tOrV(ta tb:TE):TE:=fun σ H Q=>ta σ H fun x H1=>∃c,x= .bl c/\if c=true then Q (.bl true) H1 else tb σ H1 Q
noncomputable def tNotV(ta:TE):TE:=fun σ H Q=>ta σ H fun x H1=>∃c,x= .bl c/\Q (.bl (!c)) H1
theorem pe_one{op}{t:TE}(h:PE X a t):PE X (.BoolOp op [a] pos) t:=fun pins s σ H Q I hw=>BoolOp_one (h pins s σ H Q I hw)
theorem pe_and(ha:PE X a ta)(hb:PE X (.BoolOp .And (b::rest) pos) tb):PE X (.BoolOp .And (a::b::rest) pos) (tAndV ta tb):=by
 intro pins s σ H Q I h
 refine BoolOp_and (thn (ha pins s σ H _ I h) fun v s1 ⟨x,H1,I1,r1,q1⟩=> ?_)
 obtain⟨c,rfl,q1⟩:=q1
 cases r1
 refine wpAny_truthy_bool ?_
 cases c with
 |true=>exact hb pins s1 σ H1 Q I1 q1
 |false=>exact⟨.bl false,H1,I1,rfl,q1⟩
theorem pe_or(ha:PE X a ta)(hb:PE X (.BoolOp .Or (b::rest) pos) tb):PE X (.BoolOp .Or (a::b::rest) pos) (tOrV ta tb):=by
 intro pins s σ H Q I h
 refine BoolOp_or (thn (ha pins s σ H _ I h) fun v s1 ⟨x,H1,I1,r1,q1⟩=> ?_)
 obtain⟨c,rfl,q1⟩:=q1
 cases r1
 refine wpAny_truthy_bool ?_
 cases c with
 |false=>exact hb pins s1 σ H1 Q I1 q1
 |true=>exact⟨.bl true,H1,I1,rfl,q1⟩
theorem pe_not(ha:PE X a ta):PE X (.UnaryOp .Not a pos) (tNotV ta):=by
 intro pins s σ H Q I h
 refine UnaryOp_ (thn (ha pins s σ H _ I h) fun v s1 ⟨x,H1,I1,r1,q1⟩=> ?_)
 obtain⟨c,rfl,q1⟩:=q1
 cases r1
 exact not_of (wpAny_truthy_bool ⟨.bl (!c),H1,I1,rfl,q1⟩)
noncomputable def tIf(t:TT)(ta tb:TE):TE:=fun σ H Q=>t σ H fun c H1=>if c=true then ta σ H1 Q else tb σ H1 Q
theorem pe_ifExp{c:Expr}(hc:PT X c tA)(ha:PE X a ta)(hb:PE X b tb):PE X (.IfExp c a b pos) (tIf tA ta tb):=by
 intro pins s σ H Q I h
 refine wpAny_IfExp (thn (hc pins s σ H _ I h) fun d s1 ⟨H1,I1,q1⟩=> ?_)
 cases d with
 |true=>exact ha pins s1 σ H1 Q I1 q1
 |false=>exact hb pins s1 σ H1 Q I1 q1
end
noncomputable def SqL(K:W.Frag)(H:Hp)(a:Addr)(xs:List V):Prop:=
 Rd H a (.lst xs)\/
  ∃(o:Obj) (its:Array Value) (n:Nat),K.lookup a=some o/\o.cls= .type "list"/\o.dict=none/\o.data= .seq its n/\its.size<=sizeLine/\Vals xs its.toList
noncomputable def SqT(K:W.Frag)(H:Hp)(a:Addr)(xs:List V):Prop:=
 Rd H a (.tup xs)\/
  ∃(o:Obj) (its:Array Value) (n:Nat),K.lookup a=some o/\o.cls= .type "tuple"/\o.data= .seq its n/\its.size<=sizeLine/\Vals xs its.toList
noncomputable def absV:Value->Option V
 | .none=>some .non
 | .bool b=>some (.bl b)
 | .int i _=>some (.int i)
 | .str x _=>some (.str x)
 | .bytes b _=>some (.byt b)
 | .float b _=>some (.flt b)
 | .ref a=>some (.ref a)
 | .type n=>some (.ty n)
 |_=>none
theorem RelV.abs{x:V}{u:Value}(r:RelV x u):absV u=some x:=by
 cases x with
 |non=>cases r;rfl
 |bl _=>cases r;rfl
 |int _=>obtain⟨t,rfl⟩:=r;rfl
 |str _=>obtain⟨t,rfl⟩:=r;rfl
 |byt _=>obtain⟨t,rfl⟩:=r;rfl
 |flt _=>obtain⟨t,rfl⟩:=r;rfl
 |ref _=>cases r;rfl
 |ty _=>cases r;rfl
theorem RelV.inj{x y:V}{u:Value}(r:RelV x u)(q:RelV y u):x=y:=Option.some.inj (r.abs.symm.trans q.abs)
theorem Vals.inj{xs ys:List V}{us:List Value}(h:Vals xs us)(h':Vals ys us):xs=ys:=by
 induction h generalizing ys with
 |nil=>cases h';rfl
 |cons r _ ih=>cases h' with |cons r' t'=>rw[r.inj r',ih t']
section
variable{X:Cx}{pins:List (Addr×Obj)}{σ:St}{H:Hp}{s:Shared}{a:Addr}{xs ys:List V}
theorem SqL.of{K:W.Frag}(h:H a=some (.lst xs)):SqL K H a xs:= .inl (.inl h)
theorem SqT.of{K:W.Frag}(h:H a=some (.tup xs)):SqT K H a xs:= .inl (.inl h)
theorem Inv.list(I:Inv X pins σ H s)(h:SqL X.K H a xs):∃its:List Value,Vals xs its/\PlainL s.heap a its.toArray/\xs.length<=sizeLine:=by
 rcases h with h|⟨o,its,n,hk,hc,hd,hs,hz,r⟩
 ·obtain⟨z,its,n,r,e⟩:=h.ok I.hok
  exact⟨its,r,⟨_,n,e,rfl,rfl,rfl⟩,z⟩
 ·refine⟨its.toList,r,⟨o,n,I.kIn a o hk,hc,hd,by simpa using hs⟩,?_⟩
  have e:=r.length
  simp only[ybb]at e
  omega
theorem Inv.tuple(I:Inv X pins σ H s)(h:SqT X.K H a xs):∃its:List Value,Vals xs its/\IsTup s.heap a its.toArray/\xs.length<=sizeLine:=by
 rcases h with h|⟨o,its,n,hk,hc,hs,hz,r⟩
 ·obtain⟨z,its,r,p⟩:=h.ok I.hok
  exact⟨its,r,p,z⟩
 ·refine⟨its.toList,r,⟨o,I.kIn a o hk,hc,n,by simpa using hs⟩,?_⟩
  have e:=r.length
  simp only[ybb]at e
  omega
theorem Inv.list_inj(I:Inv X pins σ H s)(h:SqL X.K H a xs)(h':SqL X.K H a ys):xs=ys:=by
 obtain⟨its,r,⟨o,n,e,_,_,d⟩,_⟩:=I.list h
 obtain⟨its',r',⟨o',n',e',_,_,d'⟩,_⟩:=I.list h'
 rw[e]at e';cases e'
 rw[d]at d'
 injection d' with d1 _
 have:its=its':=by simpa using congrArg Array.toList d1
 subst this
 exact r.inj r'
theorem Inv.tuple_inj(I:Inv X pins σ H s)(h:SqT X.K H a xs)(h':SqT X.K H a ys):xs=ys:=by
 obtain⟨its,r,⟨o,e,_,n,d⟩,_⟩:=I.tuple h
 obtain⟨its',r',⟨o',e',_,n',d'⟩,_⟩:=I.tuple h'
 rw[e]at e';cases e'
 rw[d]at d'
 injection d' with d1 _
 have:its=its':=by simpa using congrArg Array.toList d1
 subst this
 exact r.inj r'
end
noncomputable abbrev Cx.wish(X:Cx)(E:Value->Shared->Prop):Cx:={X with xe:=E}
noncomputable abbrev Cx.nox(X:Cx):Cx:=X.wish fun _ _=>False
theorem Cx.Ok.wish{X:Cx}(ok:X.Ok)(E:Value->Shared->Prop):(X.wish E).Ok:=
 ⟨ok.mod,ok.kind,ok.glob,ok.blt,ok.above,ok.inj,ok.has,ok.cab,ok.hd,ok.frames,ok.stk,ok.exf,ok.bs,ok.bsz,ok.noex,ok.exfs,ok.funs,ok.frf⟩
theorem Cx.Ok.unwish{X:Cx}{E:Value->Shared->Prop}(ok:(X.wish E).Ok):X.Ok:=
 ⟨ok.mod,ok.kind,ok.glob,ok.blt,ok.above,ok.inj,ok.has,ok.cab,ok.hd,ok.frames,ok.stk,ok.exf,ok.bs,ok.bsz,ok.noex,ok.exfs,ok.funs,ok.frf⟩
section
variable{X:Cx}{pins:List (Addr×Obj)}{σ:St}{H:Hp}{s:Shared}{E:Value->Shared->Prop}
theorem Inv.wish(I:Inv X pins σ H s)(E:Value->Shared->Prop):Inv (X.wish E) pins σ H s:=⟨I.ok.wish E,I.os,I.bare,I.base,I.loc,I.cell,I.free,I.freeC,I.pin,I.hok,I.len⟩
theorem Inv.unwish(I:Inv (X.wish E) pins σ H s):Inv X pins σ H s:=⟨I.ok.unwish,I.os,I.bare,I.base,I.loc,I.cell,I.free,I.freeC,I.pin,I.hok,I.len⟩
theorem SP.unwish{D:Ends}{f:Flow}{s':Shared}(h:SP (X.wish E) pins D f s'):SP X pins D f s':=by
 cases f with
 |next=>obtain⟨σ',H',I,q⟩:=h;exact⟨σ',H',I.unwish,q⟩
 |brk=>obtain⟨σ',H',I,q⟩:=h;exact⟨σ',H',I.unwish,q⟩
 |cont=>obtain⟨σ',H',I,q⟩:=h;exact⟨σ',H',I.unwish,q⟩
 |ret u=>obtain⟨v,σ',H',I,r,q⟩:=h;exact⟨v,σ',H',I.unwish,r,q⟩
theorem PSs.nox{st:List Stmt}{t:TS}(h:PSs X.nox st t):PSs X st t:=fun pins s σ H D I hw=>
 wpAny_mono (h pins s σ H D (I.wish _) hw) (fun _ _ q=>q.unwish) fun _ _ z=>False.elim z
end
section
variable{X:Cx}{st:Stmt}{rest:List Stmt}{t u:TS}{e:Expr}{te:TE}{pos:Pos}
noncomputable def tNext:TS:=fun D σ H=>D.nx σ H
noncomputable def tSeq(t u:TS):TS:=fun D σ H=>t {D with nx:=u D} σ H
theorem zbg:PSs X [] tNext:=fun _ _ σ H _ I h=>wpAny_execs_nil ⟨σ,H,I,h⟩
theorem zae(h1:PS X st t)(h2:PSs X rest u):PSs X (st::rest) (tSeq t u):=by
 intro pins s σ H D I h
 refine wpAny_execs_cons (thn (h1 pins s σ H {D with nx:=u D} I h) fun f s1 q=> ?_)
 cases f with
 |next=>
  obtain⟨σ',H',I',q⟩:=q
  exact h2 pins s1 σ' H' D I' q
 |ret v=>exact q
 |brk=>exact q
 |cont=>exact q
theorem zaf(h1:PS X st t):PSs X [st] t:=by
 intro pins s σ H D I h
 refine wpAny_execs_cons (thn (h1 pins s σ H D I h) fun f s1 q=> ?_)
 cases f with
 |next=>exact wpAny_execs_nil q
 |ret v=>exact q
 |brk=>exact q
 |cont=>exact q
theorem Inv.quiet{pins:List (Addr×Obj)}{σ:St}{H:Hp}{s:Shared}(I:Inv X pins σ H s):interactive X.env=false:=by simp[interactive,I.ok.kind]
noncomputable def tDrop(te:TE):TS:=fun D σ H=>te σ H fun _ H1=>D.nx σ H1
theorem zbs(he:PE X e te)(hs:swapsWith e none pos.line X.env=pure false:=by rfl):PS X (.Expr e pos) (tDrop te):=by
 intro pins s σ H D I h
 exact wpAny_Expr_any (thn (he pins s σ H _ I h) fun v s1 ⟨x,H1,I1,r1,q1⟩=>⟨σ,H1,I1,q1⟩) I.quiet hs
noncomputable def tRet(te:TE):TS:=fun D σ H=>te σ H D.rt
theorem zao(he:PE X e te):PS X (.Return (some e) pos) (tRet te):=by
 intro pins s σ H D I h
 exact wpAny_Return_some (thn (he pins s σ H _ I h) fun v s1 ⟨x,H1,I1,r1,q1⟩=>⟨x,σ,H1,I1,r1,q1⟩)
noncomputable def tIfS(c:TT)(t u:TS):TS:=fun D σ H=>c σ H fun b H1=>if b=true then t D σ H1 else u D σ H1
theorem ps_if{c:Expr}{a b:List Stmt}{tc:TT}(hc:PT X c tc)(ha:PSs X a t)(hb:PSs X b u):PS X (.If c a b pos) (tIfS tc t u):=by
 intro pins s σ H D I h
 refine wpAny_If (thn (hc pins s σ H _ I h) fun d s1 ⟨H1,I1,q1⟩=> ?_)
 cases d with
 |true=>exact ha pins s1 σ H1 D I1 q1
 |false=>exact hb pins s1 σ H1 D I1 q1
noncomputable def tNever:TS:=fun _ _ _=>False
theorem pss_never{sts:List Stmt}:PSs X sts tNever:=fun _ _ _ _ _ _ h=>h.elim
end
noncomputable abbrev TG:=V->St->Hp->(St->Hp->Prop)->Prop
noncomputable abbrev TGs:=List V->St->Hp->(St->Hp->Prop)->Prop
noncomputable def PG(X:Cx)(target:Expr)(t:TG):Prop:=
 ∀(pins:List (Addr×Obj)) (s:Shared) (σ:St) (H:Hp) (v:V) (u:Value) (Q:St->Hp->Prop),Inv X pins σ H s->RelV v u->t v σ H Q->
  wpAny (model X.prog X.w) X.A (assign target X.env u) (fun _ s'=>∃σ' H',Inv X pins σ' H' s'/\Q σ' H') X.xe s
noncomputable def PGs(X:Cx)(ts:List Expr)(t:TGs):Prop:=
 ∀(pins:List (Addr×Obj)) (s:Shared) (σ:St) (H:Hp) (vs:List V) (us:List Value) (Q:St->Hp->Prop),Inv X pins σ H s->Vals vs us->t vs σ H Q->
  wpAny (model X.prog X.w) X.A (assignInOrder ((assignEach ts X.env).map (·.2)) us) (fun _ s'=>∃σ' H',Inv X pins σ' H' s'/\Q σ' H') X.xe s
noncomputable abbrev TSet:=V->V->V->Hp->(Hp->Prop)->Prop
noncomputable def PSet(X:Cx)(t:TSet):Prop:=
 ∀(pins:List (Addr×Obj)) (s:Shared) (σ:St) (H:Hp) (o i v:V) (ov iv u:Value) (Q:Hp->Prop),Inv X pins σ H s->RelV o ov->RelV i iv->RelV v u->t o i v H Q->
  wpAny (model X.prog X.w) X.A (setItem ov iv u) (fun _ s'=>∃H',Inv X pins σ H' s'/\Q H') X.xe s
section
variable{X:Cx}{pos:Pos}
noncomputable def gName(i:Nat):TG:=fun v σ H Q=>Q (σ.set i (some v)) H
theorem zaj{i:Nat}{x:Str}(hN:X.N.Nodup)(hi:X.N[i]? =some x)(hx:Loc X.env.scope x)(hf:X.fn x=true\/X.env.scope.names.lookup x=some .local:=by first |exact .inl rfl|exact .inr rfl|assumption):PG X (.Name x pos) (gName i):=by
 intro pins s σ H v u Q I r h
 exact wpAny_assign_Name (store_ok I hN hi hx r (fun s' I'=>⟨_,H,I',h⟩) hf)
noncomputable def gNil:TGs:=fun vs σ H Q=>vs=[]/\Q σ H
noncomputable def gCons(t:TG)(u:TGs):TGs:=fun vs σ H Q=>∃v r,vs=v::r/\t v σ H fun σ' H'=>u r σ' H' Q
theorem pgs_nil:PGs X [] gNil:=by
 intro pins s σ H vs us Q I r h
 obtain⟨e,h⟩:=h
 subst e
 cases r
 exact assignInOrder_nil ⟨σ,H,I,h⟩
theorem zcm{e:Expr}{es:List Expr}{t:TG}{u:TGs}(h1:PG X e t)(h2:PGs X es u)(hs:(assignEach (e::es) X.env).map (·.2)=assign e X.env::(assignEach es X.env).map (·.2):=by rfl):PGs X (e::es) (gCons t u):=by
 intro pins s σ H vs us Q I r h
 obtain⟨v,vr,e1,h⟩:=h
 subst e1
 cases r with
 |cons r rr=>
  rw[hs]
  refine assignInOrder_cons (thn (h1 pins s σ H _ _ _ I r h) fun _ s1 ⟨σ1,H1,I1,q1⟩=> ?_)
  exact h2 pins s1 σ1 H1 _ _ Q I1 rr q1
noncomputable def gTup(K:W.Frag)(n:Nat)(t:TGs):TG:=fun v σ H Q=>∃a xs,v= .ref a/\SqT K H a xs/\xs.length=n/\t xs σ H Q
theorem pg_tup{es:List Expr}{k:Nat}{t:TGs}{n:Nat}(hc:X.calm=true)(h:PGs X es t)(hn:(assignEach es X.env).length=n:=by rfl)(hst:(assignEach es X.env).findIdx? (·.1)=none:=by rfl):PG X (.Tuple es k pos) (gTup X.K n t):=by
 intro pins s σ H v u Q I r hw
 obtain⟨a,xs,e1,hq,hl,hw⟩:=hw
 subst e1
 cases r
 obtain⟨its,rv,ht,hz⟩:=I.tuple hq
 refine assign_Tuple_tuple (I.ok.hd hc) ht (by simp[hn,<-hl,rv.length]) hst fun h' hx=> ?_
 have I1:Inv X pins σ H {s with heap:=h'}:=I.kept (t':=s.toks) fun b o e=>hx b o (yam (yaq e)) e
 exact h pins _ σ H xs _ Q I1 (by simpa using rv) hw
noncomputable def gSub(to ti:TE)(t:TSet):TG:=fun v σ H Q=>to σ H fun o H1=>ti σ H1 fun i H2=>t o i v H2 fun H3=>Q σ H3
theorem pg_sub{o i:Expr}{to ti:TE}{t:TSet}(ho:PE X o to)(hi:PE X i ti)(hs:PSet X t)(ha:∀v,assign (.Subscript o i pos) X.env v=(do
   let ov<-holding [v] (eval o X.env)
   let iv<-holding [v,ov] (eval i X.env)
   standAt pos
   holding [v,ov,iv] (setItem ov iv v)
   release [v,ov,iv] []):=by intro _;rfl):PG X (.Subscript o i pos) (gSub to ti t):=by
 intro pins s σ H v u Q I r h
 rw[ha]
 refine wpAny_bind (wpAny_holding (thn (ho pins s σ H _ I h) fun ov s1 ⟨x,H1,I1,r1,q1⟩=> ?_))
 refine wpAny_bind (wpAny_holding (thn (hi pins s1 σ H1 _ I1 q1) fun iv s2 ⟨y,H2,I2,r2,q2⟩=> ?_))
 refine wpAny_bind (wpAny_standAt (wpAny_bind (wpAny_holding (thn (hs pins s2 σ H2 x y v ov iv u _ I2 r1 r2 r q2) fun _ s3 ⟨H3,I3,q3⟩=> ?_))))
 exact wpAny_release ⟨σ,H3,I3,q3⟩
noncomputable def tAsg(te:TE)(g:TG):TS:=fun D σ H=>te σ H fun x H1=>g x σ H1 D.nx
theorem ps_asg{tg e:Expr}{te:TE}{g:TG}(he:PE X e te)(hg:PG X tg g)(hs:swapsWithSole [tg] e pos.line X.env=pure false:=by rfl)(hw:swappedStores [tg] e X.env=pure none:=by rfl)(h1:(assignEach [tg] X.env).map (·.2)=[assign tg X.env]:=by rfl):PS X (.Assign [tg] e pos) (tAsg te g):=by
 intro pins s σ H D I h
 refine wpAny_Assign_stores (thn (he pins s σ H _ I h) fun v s1 ⟨x,H1,I1,r1,q1⟩=> ?_) hs hw
 rw[h1]
 exact thn (hg pins s1 σ H1 x v _ I1 r1 q1) fun _ s2 q=>q
theorem zan{i:Nat}{x:Str}{e:Expr}{te:TE}{pos':Pos}(hN:X.N.Nodup)(hi:X.N[i]? =some x)(hx:Loc X.env.scope x)(he:PE X e te)(hs:swapsWith e (some (.Name x pos')) pos.line X.env=pure false:=by rfl)(hf:X.fn x=true\/X.env.scope.names.lookup x=some .local:=by first |exact .inl rfl|exact .inr rfl|assumption):
  PS X (.Assign [.Name x pos'] e pos) (tAsg te (gName i)):=by
 intro pins s σ H D I h
 refine wpAny_Assign_Name (thn (he pins s σ H _ I h) fun v s1 ⟨y,H1,I1,r1,q1⟩=> ?_) hs
 exact store_ok I1 hN hi hx r1 (fun s2 I2=>⟨_,H1,I2,q1⟩) hf
end
section
variable{X:Cx}{pos:Pos}
noncomputable def tWhile(c:TT)(tb:TS):TS:=fun D σ H=>∃W:Nat->St->Hp->Prop,(∃m,W m σ H)/\∀m σ H,W m σ H->
 c σ H fun b H1=>if b=true then∃N:St->Hp->Prop,(∀σ' H',N σ' H'->∃m',m'<m/\W m' σ' H')/\tb {D with nx:=N,ct:=N,bk:=D.nx} σ H1 else D.nx σ H1
theorem ps_while{c:Expr}{body:List Stmt}{tc:TT}{tb:TS}(hp:PassesOwn (model X.prog X.w) X.A X.env X.xe)(hc:PT X c tc)(hb:PSs X body tb):PS X (.While c body [] pos) (tWhile tc tb):=by
 intro pins s σ H D I h
 obtain⟨W,⟨m0,w0⟩,turn⟩:=h
 refine wpAny_While (codeAny_whileLoop (fun n s'=>∃σ' H',Inv X pins σ' H' s'/\W n σ' H') ?_ m0 ⟨σ,H,I,w0⟩)
 rintro n s1 ⟨σ1,H1,I1,w1⟩
 refine wpAny_passesOwn hp (thn (hc pins s1 σ1 H1 _ I1 (turn n σ1 H1 w1)) fun b s2 ⟨H2,I2,q2⟩=> ?_)
 cases b with
 |true=>
  obtain⟨N,hN,q2⟩:=q2
  rw[if_pos rfl]
  refine wpAny_passesOwn hp (thn (hb pins s2 σ1 H2 _ I2 q2) fun f s3 q3=> ?_)
  cases f with
  |next=>
   obtain⟨σ3,H3,I3,n3⟩:=q3
   obtain⟨m',hm,w3⟩:=hN σ3 H3 n3
   exact⟨m',hm,σ3,H3,I3,w3⟩
  |cont=>
   obtain⟨σ3,H3,I3,n3⟩:=q3
   obtain⟨m',hm,w3⟩:=hN σ3 H3 n3
   exact⟨m',hm,σ3,H3,I3,w3⟩
  |brk=>exact q3
  |ret v=>exact q3
 |false=>
  rw[if_neg Bool.false_ne_true]
  exact wpAny_execs_nil ⟨σ1,H2,I2,q2⟩
end
structure It where
 go:Nat->Hp->Prop
 yld:Nat->Hp->V->Hp->Prop
 stop:Nat->Hp->Prop
noncomputable def FpOk(X:Cx)(pins:List (Addr×Obj))(H:Hp)(b:Addr):Prop:=
 H b=none/\b≠X.env.locals/\b∉X.fs/\(b∈X.ex\/X.s₀.heap.objs.size<=b)/\(∀x c,X.env.cells.lookup x=some c->c≠b)/\∀p∈X.pn++pins,p.1≠b
theorem Inv.fpOk{X:Cx}{pins:List (Addr×Obj)}{σ:St}{H H':Hp}{s:Shared}{b:Addr}(I:Inv X pins σ H s)(hb:s.heap.objs.size<=b)(hn:H' b=none):FpOk X pins H' b:=by
 refine⟨hn,ycu (yak I.lt hb),I.nofs hb,.inr (yau I.sz hb),fun x c e z=> ?_,fun p hp z=> ?_⟩
 ·obtain⟨v,q⟩:=I.cell x c e
  exact absurd (yak q.lt (by rw[z];exact hb)) (ybj _)
 ·exact absurd (yak (yaq (I.pin p hp).1) (by rw[z];exact hb)) (ybj _)
structure Turn(P:Program)(w:World)(K:W.Frag)(tg:Expr)(J:It)(fp:List Addr)(it:Addr)(tn:Nat->Heap->Prop):Prop where
 mem:it∈fp
 obj:∀i h,tn i h->∀b∈fp,∃o,h.get? b=some o/\∀v,o.data≠.cell v
 keep:∀i h h',tn i h->(∀b∈fp,∀o,h.get? b=some o->h'.get? b=some o)->tn i h'
 item:∀(X:Cx),X.prog=P->X.w=w->X.K=K->X.calm=true->∀(i:Nat) (pins:List (Addr×Obj)) (s:Shared) (σ:St) (H:Hp) (E:Value->Shared->Prop),Inv X pins σ H s->(∀b∈fp,FpOk X pins H b)->tn i s.heap->J.go i H->
  wpAny (model P w) X.A (pyNext (.ref it)) (fun r s1=>∃u,r=some u/\
   wpAny (model P w) X.A (letOwnedTupleGo tg (.ref it) u) (fun _ s2=>∃x H',Inv X pins σ H' s2/\RelV x u/\J.yld i H x H'/\tn (i+1) s2.heap/\∀b∈fp,H' b=none) E s1) E s
 done:∀(X:Cx),X.prog=P->X.w=w->X.K=K->X.calm=true->∀(i:Nat) (pins:List (Addr×Obj)) (s:Shared) (σ:St) (H:Hp) (E:Value->Shared->Prop),Inv X pins σ H s->(∀b∈fp,FpOk X pins H b)->tn i s.heap->J.stop i H->
  wpAny (model P w) X.A (pyNext (.ref it)) (fun r s1=>r=none/\Inv X pins σ H s1) E s
 self:∀(A:Around) (i:Nat) (s:Shared) (Q:Value->Shared->Prop) (E:Value->Shared->Prop),tn i s.heap->Q (.ref it) s->wpAny (model P w) A (pyIter (.ref it)) Q E s
noncomputable abbrev TI:=St->Hp->(It->Hp->Prop)->Prop
noncomputable def PIE(X:Cx)(pins:List (Addr×Obj))(σ:St)(tg:Expr)(R:It->Hp->Prop)(itv:Value)(s2:Shared):Prop:=
 ∃(it:Addr) (fp:List Addr) (tn:Nat->Heap->Prop) (J:It) (H':Hp),itv= .ref it/\Inv X pins σ H' s2/\Turn X.prog X.w X.K tg J fp it tn/\tn 0 s2.heap/\(∀b∈fp,FpOk X pins H' b)/\R J H'
noncomputable def PI(X:Cx)(tg iter:Expr)(wi:TI):Prop:=
 ∀(pins:List (Addr×Obj)) (s:Shared) (σ:St) (H:Hp) (R:It->Hp->Prop),Inv X pins σ H s->wi σ H R->
  wpAny (model X.prog X.w) X.A (eval iter X.env) (fun v s1=>wpAny (model X.prog X.w) X.A (pyIter v) (PIE X pins σ tg R) X.xe s1) X.xe s
theorem go_of{M:Model}{A:Around}{E:Value->Shared->Prop}{s:Shared}{tg:Expr}{it:Addr}{u:Value}{o:Obj}{n:String}{vs:Array Value}{Q:Unit->Shared->Prop}(ho:s.heap.get? it=some o)(hc:o.cls= .type n)(hd:o.data= .fields vs)(hn:["enumerate","zip","dict_itemiterator","dict_reverseitemiterator","odict_iterator","itertools.zip_longest","itertools.pairwise"].contains n=false)(hQ:Q () s):wpAny M A (letOwnedTupleGo tg (.ref it) u) Q E s:=by
 unfold letOwnedTupleGo
 cases tg<;>first
  |exact wpAny_pure hQ
  |(cases u<;>first
    |exact wpAny_pure hQ
    |(refine wpAny_bind (wpAny_load ho ?_)
      rw[hc,hd]
      show wpAny M A (if(["enumerate","zip","dict_itemiterator","dict_reverseitemiterator","odict_iterator","itertools.zip_longest","itertools.pairwise"].contains n&&vs[0]? ==some (rawInt _))=true then _ else _) Q E s
      rw[if_neg (by intro h;rw[hn,Bool.false_and]at h;cases h)]
      exact wpAny_pure hQ))
noncomputable def Itl(K:W.Frag)(a:Addr):It:=
 ⟨fun i H=>∃xs x,SqL K H a xs/\xs[i]? =some x,fun i H x H'=>H'=H/\∀xs,SqL K H a xs->xs[i]? =some x,fun i H=>∃xs,SqL K H a xs/\xs.length<=i⟩
noncomputable def Itt(K:W.Frag)(a:Addr):It:=
 ⟨fun i H=>∃xs x,SqT K H a xs/\xs[i]? =some x,fun i H x H'=>H'=H/\∀xs,SqT K H a xs->xs[i]? =some x,fun i H=>∃xs,SqT K H a xs/\xs.length<=i⟩
noncomputable def Itr(lo:Int)(n:Nat):It:=⟨fun i _=>i<n,fun i H x H'=>H'=H/\x= .int (lo+i),fun i _=>n<=i⟩
theorem turn_list{P:Program}{w:World}{K:W.Frag}{tg:Expr}(a it:Addr):Turn P w K tg (Itl K a) [it] it (fun i h=>h.IsListIter it a i) where
 mem:=by simp
 obj:=fun i h st b hb=>by
  have e:b=it:=by simpa using hb
  subst e
  obtain⟨o,e,c,d⟩:=st
  exact⟨o,e,fun v z=>by rw[d]at z;cases z⟩
 keep:=fun i h h' st k=>st.at fun o e=>k it (by simp) o e
 item:=by
  intro X hP hw hK hc i pins s σ H E I hf st hg
  subst hP hw hK
  obtain⟨xs,x,hq,hx⟩:=hg
  obtain⟨its,rv,p,hz⟩:=I.list hq
  obtain⟨u,hu,ru⟩:=rv.get hx
  obtain⟨f0,f1,f2,f3,f4,f5⟩:=hf it (by simp)
  refine wpAny_pyNext_list_item st p.isList (x:=u) (by simpa using hu) fun h' st' sb=> ?_
  have I1:Inv X pins σ H {s with heap:=h'}:=I.turned (t':=s.toks) (fun b o hb e=>(sb.2 b hb).trans e) f0 f1 f3 f4 f5
  obtain⟨o,e,c,d⟩:=id st'
  exact⟨u,rfl,go_of (s:={s with heap:=h'}) e c d (by decide) ⟨x,H,I1,ru,⟨rfl,fun ys hy=>by rw[I.list_inj hy hq];exact hx⟩,st',fun b hb=>(hf b hb).1⟩⟩
 done:=by
  intro X hP hw hK hc i pins s σ H E I hf st hg
  subst hP hw hK
  obtain⟨xs,hq,hx⟩:=hg
  obtain⟨its,rv,p,hz⟩:=I.list hq
  obtain⟨f0,f1,f2,f3,f4,f5⟩:=hf it (by simp)
  have hl:=rv.length
  exact wpAny_pyNext_list_end (I.ok.hd hc) st p.isList (by simp;omega) fun h' eb=>⟨rfl,I.turned (t':=s.toks) (fun b o hb e=>eb b o hb e) f0 f1 f3 f4 f5⟩
 self:=fun _ _ _ _ _ st h=>wpAny_pyIter_listiter st h
theorem turn_tuple{P:Program}{w:World}{K:W.Frag}{tg:Expr}(a it:Addr):Turn P w K tg (Itt K a) [it] it (fun i h=>h.IsTupleIter it a i) where
 mem:=by simp
 obj:=fun i h st b hb=>by
  have e:b=it:=by simpa using hb
  subst e
  obtain⟨o,e,c,d⟩:=st
  exact⟨o,e,fun v z=>by rw[d]at z;cases z⟩
 keep:=fun i h h' st k=>st.at fun o e=>k it (by simp) o e
 item:=by
  intro X hP hw hK hc i pins s σ H E I hf st hg
  subst hP hw hK
  obtain⟨xs,x,hq,hx⟩:=hg
  obtain⟨its,rv,p,hz⟩:=I.tuple hq
  obtain⟨u,hu,ru⟩:=rv.get hx
  obtain⟨f0,f1,f2,f3,f4,f5⟩:=hf it (by simp)
  refine wpAny_pyNext_tuple_item st (show s.heap.IsTuple a its.toArray from p) (x:=u) (by simpa using hu) fun h' st' sb=> ?_
  have I1:Inv X pins σ H {s with heap:=h'}:=I.turned (t':=s.toks) (fun b o hb e=>(sb.2 b hb).trans e) f0 f1 f3 f4 f5
  obtain⟨o,e,c,d⟩:=id st'
  exact⟨u,rfl,go_of (s:={s with heap:=h'}) e c d (by decide) ⟨x,H,I1,ru,⟨rfl,fun ys hy=>by rw[I.tuple_inj hy hq];exact hx⟩,st',fun b hb=>(hf b hb).1⟩⟩
 done:=by
  intro X hP hw hK hc i pins s σ H E I hf st hg
  subst hP hw hK
  obtain⟨xs,hq,hx⟩:=hg
  obtain⟨its,rv,p,hz⟩:=I.tuple hq
  obtain⟨f0,f1,f2,f3,f4,f5⟩:=hf it (by simp)
  have hl:=rv.length
  exact wpAny_pyNext_tuple_end (I.ok.hd hc) st (show s.heap.IsTuple a its.toArray from p) (by simp;omega) fun h' eb=>⟨rfl,I.turned (t':=s.toks) (fun b o hb e=>eb b o hb e) f0 f1 f3 f4 f5⟩
 self:=fun _ _ _ _ _ st h=>wpAny_pyIter_tupleiter st h
theorem turn_range{P:Program}{w:World}{K:W.Frag}{tg:Expr}(it:Addr)(lo:Int)(n:Nat):Turn P w K tg (Itr lo n) [it] it (fun i h=>IsRangeIter h it (lo+(i:Nat)*1) ((n:Int)-(i:Nat)) 1) where
 mem:=by simp
 obj:=fun i h st b hb=>by
  have e:b=it:=by simpa using hb
  subst e
  exact⟨_,st,fun v z=>by
   have z':Data.fields _=Data.cell v:=z
   cases z'⟩
 keep:=fun i h h' st k=>k it (by simp) _ st
 item:=by
  intro X hP hw hK hc i pins s σ H E I hf st hg
  subst hP hw hK
  obtain⟨f0,f1,f2,f3,f4,f5⟩:=hf it (by simp)
  have W:=Walks.range (prog:=X.prog) (w:=X.w) (I.ok.hd hc) it lo 1 n
  refine W.item i s _ _ hg st fun v h' tk hv st' kk=> ?_
  obtain⟨t,rfl⟩:=hv
  have I1:Inv X pins σ H {s with heap:=h',toks:=tk}:=I.turned (fun b o hb e=>kk b o (by simpa using hb) e) f0 f1 f3 f4 f5
  refine⟨_,rfl,go_of (s:={s with heap:=h',toks:=tk}) (n:="range_iterator") st' rfl rfl (by decide) ⟨.int (lo+i),H,I1,⟨t,?_⟩,⟨rfl,rfl⟩,st',fun b hb=>(hf b hb).1⟩⟩
  rw[Int.mul_one]
 done:=by
  intro X hP hw hK hc i pins s σ H E I hf st hg
  subst hP hw hK
  obtain⟨f0,f1,f2,f3,f4,f5⟩:=hf it (by simp)
  exact wpAny_pyNext_range_end (I.ok.hd hc) st (by have:n<=i:=hg;omega) fun h' eb=>⟨rfl,I.turned (t':=s.toks) (fun b o hb e=>eb b o hb e) f0 f1 f3 f4 f5⟩
 self:=fun _ _ _ _ _ st h=>wpAny_pyIter_rangeiter st h
section
variable{X:Cx}{tg:Expr}
theorem range_it{pins:List (Addr×Obj)}{σ:St}{H:Hp}{s:Shared}{R:It->Hp->Prop}{E:Value->Shared->Prop}{lo hi:Int}{t u v:Tok}{tk:Nat}(I:Inv X pins σ H s)(h1: -(2^62)<=lo)(h2:lo<2^62)(h3: -(2^62)<=hi)(h4:hi<2^62)(q:R (Itr lo (hi-lo).toNat) H):wpAny (model X.prog X.w) X.A (pyIter (.ref s.heap.objs.size)) (PIE X pins σ tg R) E {s with heap:=s.heap.push {cls:= .type "range",data:= .fields #[.int lo t,.int hi u,.int 1 v]},toks:=tk}:=by
 refine wpAny_pyIter_range (IsRange.new ..) (small_one h1 h2 h3 h4) ?_
 have I1:Inv X pins σ H {s with heap:=s.heap.push {cls:= .type "range",data:= .fields #[.int lo t,.int hi u,.int 1 v]},toks:=tk}:=I.kept fun b o e=>yad _ e
 refine⟨(s.heap.push {cls:= .type "range",data:= .fields #[.int lo t,.int hi u,.int 1 v]}).objs.size,[(s.heap.push {cls:= .type "range",data:= .fields #[.int lo t,.int hi u,.int 1 v]}).objs.size],_,_,H,rfl,
  I1.kept (t':=tk) fun b o e=>yad _ e,turn_range _ lo (hi-lo).toNat,?_,fun b hb=> ?_,q⟩
 ·have e1:lo+((0:Nat):Int)*1=lo:=by simp
  have e2:(((hi-lo).toNat:Nat):Int)-((0:Nat):Int)=Builtin.Range.rangeSize lo hi 1:=by rw[rangeSize_one];split<;>omega
  show IsRangeIter _ _ (lo+((0:Nat):Int)*1) ((((hi-lo).toNat:Nat):Int)-((0:Nat):Int)) 1
  rw[e1,e2]
  exact yal _ rfl
 ·have e:b=(s.heap.push {cls:= .type "range",data:= .fields #[.int lo t,.int hi u,.int 1 v]}).objs.size:=by simpa using hb
  subst e
  exact I1.fpOk (yab _) (I1.hok.fresh (yab _))
noncomputable def iRng1(ta:TA):TI:=fun σ H R=>ta σ H fun vs H1=>∃j:Int,vs=[.int j]/\ -(2^62)<=j/\j<2^62/\R (Itr 0 j.toNat) H1
noncomputable def iRng2(ta:TA):TI:=fun σ H R=>ta σ H fun vs H1=>∃i j:Int,vs=[.int i,.int j]/\(-(2^62)<=i/\i<2^62/\ -(2^62)<=j/\j<2^62)/\R (Itr i (j-i).toNat) H1
theorem zbp{a:Expr}{ta:TA}{p pos:Pos}(hg:Gl X "range")(hm:X.mg "range"=none)(ha:PA X [a] ta)(hs:starEach [a] X.env=[(false,eval a X.env)]:=by rfl):PI X tg (.Call (.Name "range" p) [a] [] pos) (iRng1 ta):=by
 intro pins s σ H R I h
 refine Call_ (ld_blt I hg hm boot_range (PyProof.Rows.callWith_type1 (thn (ha pos pins s σ H _ I h) fun us s1 ⟨vs,H1,I1,r1,q1⟩=> ?_) hs rfl))
 obtain⟨j,e,q1,q2,q⟩:=q1
 subst e
 cases r1 with
 |cons r rr=>
  cases rr
  obtain⟨t,rfl⟩:=r
  exact call_range_1 (range_it I1 (by omega) (by omega) q1 q2 (by simpa using q))
theorem pi_range2{a b:Expr}{ta:TA}{p pos:Pos}(hg:Gl X "range")(hm:X.mg "range"=none)(ha:PA X [a,b] ta)(hs:starEach [a,b] X.env=[(false,eval a X.env),(false,eval b X.env)]:=by rfl)(hs2:starEach [b] X.env=[(false,eval b X.env)]:=by rfl):
  PI X tg (.Call (.Name "range" p) [a,b] [] pos) (iRng2 ta):=by
 intro pins s σ H R I h
 refine Call_ (ld_blt I hg hm boot_range (PyProof.Rows.callWith_type1 (thn (ha pos pins s σ H _ I h) fun us s1 ⟨vs,H1,I1,r1,q1⟩=> ?_) (by rw[hs,hs2]) (by rw[hs2];rfl)))
 obtain⟨i,j,e,⟨q1,q2,q3,q4⟩,q⟩:=q1
 subst e
 cases r1 with
 |cons r rr=>
  cases rr with
  |cons r' rr=>
   cases rr
   obtain⟨t,rfl⟩:=r
   obtain⟨t',rfl⟩:=r'
   exact call_range_2 (range_it I1 q1 q2 q3 q4 q)
noncomputable def tFor(wi:TI)(g:TG)(tb:TS):TS:=fun D σ H=>wi σ H fun J H1=>∃W:Nat->Nat->St->Hp->Prop,(∃m,W 0 m σ H1)/\∀i m σ H,W i m σ H->
 (J.stop i H/\D.nx σ H)\/(J.go i H/\∃N:St->Hp->Prop,(∀σ' H',N σ' H'->∃m',m'<m/\W (i+1) m' σ' H')/\∀x H',J.yld i H x H'->g x σ H' fun σ2 H2=>tb {D with nx:=N,ct:=N,bk:=D.nx} σ2 H2)
noncomputable def pinsAt(fp:List Addr)(h:Heap):List (Addr×Obj):=fp.filterMap fun b=>(h.get? b).map fun o=>(b,o)
theorem mem_pinsAt{fp:List Addr}{h:Heap}{b:Addr}{o:Obj}(hb:b∈fp)(e:h.get? b=some o):(b,o)∈pinsAt fp h:=List.mem_filterMap.mpr ⟨b,hb,by rw[e];rfl⟩
theorem of_pinsAt{fp:List Addr}{h:Heap}{p:Addr×Obj}(hp:p∈pinsAt fp h):p.1∈fp/\h.get? p.1=some p.2:=by
 obtain⟨b,hb,e⟩:=List.mem_filterMap.mp hp
 cases q:h.get? b with
 |none=>rw[q]at e;cases e
 |some o=>
  rw[q]at e
  have e':(b,o)=p:=Option.some.inj e
  subst e'
  exact⟨hb,q⟩
theorem Inv.pinned{pins:List (Addr×Obj)}{σ:St}{H:Hp}{s:Shared}{fp:List Addr}(I:Inv X pins σ H s)(hf:∀b∈fp,FpOk X pins H b)(ho:∀b∈fp,∃o,s.heap.get? b=some o/\∀v,o.data≠.cell v):Inv X (pins++pinsAt fp s.heap) σ H s:=
 I.pins_of fun p hp=>(yay.mp hp).elim (fun z=>I.pin p (yaz _ z)) fun z=>by
  obtain⟨hb,e⟩:=of_pinsAt z
  obtain⟨f0,f1,f2,_⟩:=hf p.1 hb
  obtain⟨o,e',d⟩:=ho p.1 hb
  rw[e]at e';cases e'
  exact⟨e,f0,f1,f2,d⟩
theorem Inv.unpinned{pins pl:List (Addr×Obj)}{σ:St}{H:Hp}{s:Shared}(I:Inv X (pins++pl) σ H s):Inv X pins σ H s:=I.pins_of fun p hp=>I.pin p (yaz _ (yde _ hp))
theorem ps_for{iter:Expr}{body:List Stmt}{wi:TI}{g:TG}{tb:TS}{pos:Pos}(hp:PassesOwn (model X.prog X.w) X.A X.env X.xe)(hc:X.calm=true)(hi:PI X tg iter wi)(hg:PG X tg g)(hb:PSs X body tb)(hs:∀x,foldedSetIterable iter X.env x=pure x:=by intro _;rfl):PS X (.For tg iter body [] pos) (tFor wi g tb):=by
 intro pins s σ H D I h
 refine wpAny_For (thn (hi pins s σ H _ I h) fun v s1 h1=>thn h1 fun itv s2 h2=> ?_) hs
 obtain⟨it,fp,tn,J,H2,e,I2,T,st2,f2,W,⟨m0,w0⟩,turn⟩:=h2
 subst e
 -- what stays true of the iterator's objects through the loop
 have stat:∀{H':Hp},(∀b∈fp,H' b=none)->∀b∈fp,FpOk X pins H' b:=fun hn b hb=>⟨hn b hb,(f2 b hb).2⟩
 refine codeAny_forLoop_any (fun n s'=>∃i σ' H',Inv X pins σ' H' s'/\tn i s'.heap/\(∀b∈fp,H' b=none)/\W i n σ' H') ?_ m0 ⟨0,σ,H2,I2,st2,fun b hb=>(f2 b hb).1,w0⟩
 rintro n s3 ⟨i,σ3,H3,I3,st3,fr3,w3⟩
 rcases turn i n σ3 H3 w3 with⟨stop,qn⟩|⟨go,N,hN,step⟩
 ·refine wpAny_passesOwn hp (thn (T.done X rfl rfl rfl hc i pins s3 σ3 H3 X.xe I3 (stat fr3) st3 stop) fun r s4 ⟨hr,I4⟩=> ?_)
  subst hr
  exact wpAny_execs_nil ⟨σ3,H3,I4,qn⟩
 ·refine wpAny_passesOwn hp (thn (T.item X rfl rfl rfl hc i pins s3 σ3 H3 X.xe I3 (stat fr3) st3 go) fun r s4 ⟨u,hr,h4⟩=> ?_)
  subst hr
  refine wpAny_passesOwn hp (thn h4 fun _ s5 ⟨x,H5,I5,r5,y5,st5,fr5⟩=> ?_)
  have I5':=I5.pinned (stat fr5) (T.obj _ _ st5)
  refine wpAny_passesOwn hp (thn (hg _ s5 σ3 H5 x u _ I5' r5 (step x H5 y5)) fun _ s6 ⟨σ6,H6,I6,q6⟩=> ?_)
  refine wpAny_passesOwn hp (thn (hb _ s6 σ6 H6 _ I6 q6) fun f s7 q7=> ?_)
  have again:∀{σ7:St} {H7:Hp},Inv X (pins++pinsAt fp s5.heap) σ7 H7 s7->N σ7 H7->∃m,m<n/\∃i σ' H',Inv X pins σ' H' s7/\tn i s7.heap/\(∀b∈fp,H' b=none)/\W i m σ' H':=fun{σ7 H7} I7 n7=>by
   obtain⟨m',hm,w7⟩:=hN σ7 H7 n7
   refine⟨m',hm,i+1,σ7,H7,I7.unpinned,T.keep _ _ _ st5 fun b hb o e=>(I7.pin (b,o) (yaz _ (yaz _ (mem_pinsAt hb e)))).1,fun b hb=> ?_,w7⟩
   obtain⟨o,e,d⟩:=T.obj _ _ st5 b hb
   exact(I7.pin (b,o) (yaz _ (yaz _ (mem_pinsAt hb e)))).2.1
  cases f with
  |next=>obtain⟨σ7,H7,I7,n7⟩:=q7;exact again I7 n7
  |cont=>obtain⟨σ7,H7,I7,n7⟩:=q7;exact again I7 n7
  |brk=>obtain⟨σ7,H7,I7,q7⟩:=q7;exact⟨σ7,H7,I7.unpinned,q7⟩
  |ret v=>obtain⟨x7,σ7,H7,I7,r7,q7⟩:=q7;exact⟨x7,σ7,H7,I7.unpinned,r7,q7⟩
end
theorem for_list{K:W.Frag}{a:Addr}{xs:List V}{g:TG}{tb:TS}{D:Ends}{σ:St}{H:Hp}(Pv:Nat->St->Hp->Prop)(h0:Pv 0 σ H)(hl:∀i σ H,i<=xs.length->Pv i σ H->SqL K H a xs)(hs:∀i x σ H,xs[i]? =some x->Pv i σ H->g x σ H fun σ2 H2=>tb {D with nx:=Pv (i+1),ct:=Pv (i+1),bk:=D.nx} σ2 H2)(hd:∀σ H,Pv xs.length σ H->D.nx σ H):
  ∃W:Nat->Nat->St->Hp->Prop,(∃m,W 0 m σ H)/\∀i m σ H,W i m σ H->
   ((Itl K a).stop i H/\D.nx σ H)\/((Itl K a).go i H/\∃N:St->Hp->Prop,(∀σ' H',N σ' H'->∃m',m'<m/\W (i+1) m' σ' H')/\∀x H',(Itl K a).yld i H x H'->g x σ H' fun σ2 H2=>tb {D with nx:=N,ct:=N,bk:=D.nx} σ2 H2):=by
 refine⟨fun i m σ H=>m=xs.length-i/\i<=xs.length/\Pv i σ H,⟨xs.length,by simp,yas _,h0⟩,?_⟩
 rintro i m σ H ⟨rfl,hi,p⟩
 have q:=hl i σ H hi p
 by_cases hlt:i<xs.length
 ·refine .inr ⟨⟨xs,xs[i],q,by simp[hlt]⟩,Pv (i+1),fun σ' H' p'=>⟨xs.length-(i+1),by omega,rfl,hlt,p'⟩,fun x H' y=> ?_⟩
  obtain⟨e,y⟩:=y
  subst e
  exact hs i x σ _ (y xs q) p
 ·have e:i=xs.length:=by omega
  subst e
  exact .inl ⟨⟨xs,q,yab _⟩,hd σ H p⟩
theorem for_tup{K:W.Frag}{a:Addr}{xs:List V}{g:TG}{tb:TS}{D:Ends}{σ:St}{H:Hp}(Pv:Nat->St->Hp->Prop)(h0:Pv 0 σ H)(hl:∀i σ H,i<=xs.length->Pv i σ H->SqT K H a xs)(hs:∀i x σ H,xs[i]? =some x->Pv i σ H->g x σ H fun σ2 H2=>tb {D with nx:=Pv (i+1),ct:=Pv (i+1),bk:=D.nx} σ2 H2)(hd:∀σ H,Pv xs.length σ H->D.nx σ H):
  ∃W:Nat->Nat->St->Hp->Prop,(∃m,W 0 m σ H)/\∀i m σ H,W i m σ H->
   ((Itt K a).stop i H/\D.nx σ H)\/((Itt K a).go i H/\∃N:St->Hp->Prop,(∀σ' H',N σ' H'->∃m',m'<m/\W (i+1) m' σ' H')/\∀x H',(Itt K a).yld i H x H'->g x σ H' fun σ2 H2=>tb {D with nx:=N,ct:=N,bk:=D.nx} σ2 H2):=by
 refine⟨fun i m σ H=>m=xs.length-i/\i<=xs.length/\Pv i σ H,⟨xs.length,by simp,yas _,h0⟩,?_⟩
 rintro i m σ H ⟨rfl,hi,p⟩
 have q:=hl i σ H hi p
 by_cases hlt:i<xs.length
 ·refine .inr ⟨⟨xs,xs[i],q,by simp[hlt]⟩,Pv (i+1),fun σ' H' p'=>⟨xs.length-(i+1),by omega,rfl,hlt,p'⟩,fun x H' y=> ?_⟩
  obtain⟨e,y⟩:=y
  subst e
  exact hs i x σ _ (y xs q) p
 ·have e:i=xs.length:=by omega
  subst e
  exact .inl ⟨⟨xs,q,yab _⟩,hd σ H p⟩
theorem zdi{lo:Int}{n:Nat}{g:TG}{tb:TS}{D:Ends}{σ:St}{H:Hp}(Pv:Nat->St->Hp->Prop)(h0:Pv 0 σ H)(hs:∀i σ H,i<n->Pv i σ H->g (.int (lo+i)) σ H fun σ2 H2=>tb {D with nx:=Pv (i+1),ct:=Pv (i+1),bk:=D.nx} σ2 H2)(hd:∀σ H,Pv n σ H->D.nx σ H):
  ∃W:Nat->Nat->St->Hp->Prop,(∃m,W 0 m σ H)/\∀i m σ H,W i m σ H->
   ((Itr lo n).stop i H/\D.nx σ H)\/((Itr lo n).go i H/\∃N:St->Hp->Prop,(∀σ' H',N σ' H'->∃m',m'<m/\W (i+1) m' σ' H')/\∀x H',(Itr lo n).yld i H x H'->g x σ H' fun σ2 H2=>tb {D with nx:=N,ct:=N,bk:=D.nx} σ2 H2):=by
 refine⟨fun i m σ H=>m=n-i/\i<=n/\Pv i σ H,⟨n,by simp,yas _,h0⟩,?_⟩
 rintro i m σ H ⟨rfl,hi,p⟩
 by_cases hlt:i<n
 ·refine .inr ⟨hlt,Pv (i+1),fun σ' H' p'=>⟨n-(i+1),by omega,rfl,hlt,p'⟩,fun x H' y=> ?_⟩
  obtain⟨e,y⟩:=y
  subst e y
  exact hs i σ _ hlt p
 ·have e:i=n:=by omega
  subst e
  exact .inl ⟨yab _,hd σ H p⟩
noncomputable abbrev R2:=V->V->Hp->VK->Prop
noncomputable def OpR(X:Cx)(f:Value->Value->Sem Value)(r:R2):Prop:=
 ∀(pins:List (Addr×Obj)) (s:Shared) (σ:St) (H:Hp) (x y:V) (v u:Value) (Q:VK),Inv X pins σ H s->RelV x v->RelV y u->r x y H Q->
  wpAny (model X.prog X.w) X.A (f v u) (EP X pins σ Q) X.xe s
noncomputable def UnR(X:Cx)(f:Value->Sem Value)(r:V->Hp->VK->Prop):Prop:=
 ∀(pins:List (Addr×Obj)) (s:Shared) (σ:St) (H:Hp) (x:V) (v:Value) (Q:VK),Inv X pins σ H s->RelV x v->r x H Q->
  wpAny (model X.prog X.w) X.A (f v) (EP X pins σ Q) X.xe s
noncomputable def CallR(X:Cx)(f:Value)(r:List V->Hp->VK->Prop):Prop:=
 ∀(pins:List (Addr×Obj)) (s:Shared) (σ:St) (H:Hp) (xs:List V) (us:List Value) (Q:VK),Inv X pins σ H s->Vals xs us->r xs H Q->
  wpAny (model X.prog X.w) X.A (call f us) (EP X pins σ Q) X.xe s
noncomputable def TruR(X:Cx)(r:V->Hp->(Bool->Hp->Prop)->Prop):Prop:=
 ∀(pins:List (Addr×Obj)) (s:Shared) (σ:St) (H:Hp) (x:V) (v:Value) (Q:Bool->Hp->Prop),Inv X pins σ H s->RelV x v->r x H Q->
  wpAny (model X.prog X.w) X.A (truthy v) (TP X pins σ Q) X.xe s
noncomputable def tOp(r:R2)(ta tb:TE):TE:=fun σ H Q=>ta σ H fun x H1=>tb σ H1 fun y H2=>r x y H2 Q
noncomputable def tUn(r:V->Hp->VK->Prop)(ta:TE):TE:=fun σ H Q=>ta σ H fun x H1=>r x H1 Q
noncomputable def rI(C:Int->Int->Prop)(g:Int->Int->V):R2:=fun x y H Q=>∃i j,x= .int i/\y= .int j/\C i j/\Q (g i j) H
noncomputable def rI0(g:Int->Int->V):R2:=fun x y H Q=>∃i j,x= .int i/\y= .int j/\Q (g i j) H
noncomputable def rU(g:Int->V):V->Hp->VK->Prop:=fun x H Q=>∃i,x= .int i/\Q (g i) H
section
variable{X:Cx}{a b c:Expr}{ta tb tc:TE}{pos:Pos}
theorem binT(ha:PE X a ta)(hb:PE X b tb){pins:List (Addr×Obj)}{s:Shared}{σ:St}{H:Hp}{R:V->V->Hp->Prop}(I:Inv X pins σ H s)(h:ta σ H fun x H1=>tb σ H1 fun y H2=>R x y H2){Q:Value->Shared->Prop}{f:Value->Value->Sem Value}(hf:∀v u s2 x y H2,Inv X pins σ H2 s2->RelV x v->RelV y u->R x y H2->wpAny (model X.prog X.w) X.A (f v u) Q X.xe s2):
  wpAny (model X.prog X.w) X.A (eval a X.env) (fun v s₁=>wpAny (model X.prog X.w) X.A (eval b X.env) (fun u s₂=>wpAny (model X.prog X.w) X.A (f v u) Q X.xe s₂) X.xe s₁) X.xe s:=by
 refine thn (ha pins s σ H _ I h) fun v s1 ⟨x,H1,I1,r1,q1⟩=> ?_
 refine thn (hb pins s1 σ H1 _ I1 q1) fun u s2 ⟨y,H2,I2,r2,q2⟩=> ?_
 exact hf v u s2 x y H2 I2 r1 r2 q2
theorem zax{op:Operator}{r:R2}(ho:OpR X (binaryOp op) r)(ha:PE X a ta)(hb:PE X b tb):PE X (.BinOp a op b pos) (tOp r ta tb):=by
 intro pins s σ H Q I h
 exact wpAny_BinOp (binT ha hb I h fun v u s2 x y H2 I2 rx ry q=>ho pins s2 σ H2 x y v u Q I2 rx ry q)
theorem pe_un{op:UnaryOp}{r:V->Hp->VK->Prop}(ho:UnR X (unaryOp op) r)(ha:PE X a ta):PE X (.UnaryOp op a pos) (tUn r ta):=by
 intro pins s σ H Q I h
 exact UnaryOp_ (thn (ha pins s σ H _ I h) fun v s1 ⟨x,H1,I1,r1,q1⟩=>ho pins s1 σ H1 x v Q I1 r1 q1)
theorem opI{f:Value->Value->Sem Value}{C:Int->Int->Prop}{g:Int->Int->Int}(rule:∀(i j:Int) (t u:Tok) (s:Shared) (Q:Value->Shared->Prop) (E:Value->Shared->Prop),C i j->Q (.int (g i j) s.toks) {s with toks:=s.toks+1}->wpAny (model X.prog X.w) X.A (f (.int i t) (.int j u)) Q E s):
  OpR X f (rI C fun i j=> .int (g i j)):=by
 intro pins s σ H x y v u Q I rx ry h
 obtain⟨i,j,rfl,rfl,hc,q⟩:=h
 obtain⟨t,rfl⟩:=rx
 obtain⟨t',rfl⟩:=ry
 exact rule i j t t' s _ _ hc ⟨.int (g i j),H,I.tok _,⟨_,rfl⟩,q⟩
theorem opI0{f:Value->Value->Sem Value}{g:Int->Int->Int}(rule:∀(i j:Int) (t u:Tok) (s:Shared) (Q:Value->Shared->Prop) (E:Value->Shared->Prop),Q (.int (g i j) s.toks) {s with toks:=s.toks+1}->wpAny (model X.prog X.w) X.A (f (.int i t) (.int j u)) Q E s):
  OpR X f (rI0 fun i j=> .int (g i j)):=by
 intro pins s σ H x y v u Q I rx ry h
 obtain⟨i,j,rfl,rfl,q⟩:=h
 obtain⟨t,rfl⟩:=rx
 obtain⟨t',rfl⟩:=ry
 exact rule i j t t' s _ _ ⟨.int (g i j),H,I.tok _,⟨_,rfl⟩,q⟩
theorem opB0{f:Value->Value->Sem Value}{g:Int->Int->Bool}(rule:∀(i j:Int) (t u:Tok) (s:Shared) (Q:Value->Shared->Prop) (E:Value->Shared->Prop),Q (.bool (g i j)) s->wpAny (model X.prog X.w) X.A (f (.int i t) (.int j u)) Q E s):
  OpR X f (rI0 fun i j=> .bl (g i j)):=by
 intro pins s σ H x y v u Q I rx ry h
 obtain⟨i,j,rfl,rfl,q⟩:=h
 obtain⟨t,rfl⟩:=rx
 obtain⟨t',rfl⟩:=ry
 exact rule i j t t' s _ _ ⟨.bl (g i j),H,I,rfl,q⟩
noncomputable def CDiv(i j:Int):Prop:=0<j/\j<1073741824
noncomputable def CPow(i j:Int):Prop:=0<=j/\j<=1000000/\i.natAbs<2^64
noncomputable def CMul(i j:Int):Prop:=(-(2^64)<i/\i<2^64)\/(-(2^64)<j/\j<2^64)
theorem CMul.ok{i j:Int}(h:CMul i j):IntMulOk i j:=by
 rcases h with⟨h1,h2⟩|⟨h1,h2⟩
 ·exact .of_left (intBits_le_64 h1 h2)
 ·exact .of_right (intBits_le_64 h1 h2)
theorem op_add:OpR X (binaryOp .Add) (rI0 fun i j=> .int (i+j)):=opI0 fun _ _ _ _ _ _ _ q=>add_int q
theorem op_sub:OpR X (binaryOp .Sub) (rI0 fun i j=> .int (i-j)):=opI0 fun _ _ _ _ _ _ _ q=>sub_int q
theorem op_mul:OpR X (binaryOp .Mult) (rI CMul fun i j=> .int (i*j)):=opI fun _ _ _ _ _ _ _ hc q=>mul_int q hc.ok
theorem op_fdiv:OpR X (binaryOp .FloorDiv) (rI CDiv fun i j=> .int (i/j)):=opI fun i j _ _ _ _ _ hc q=>by
 have h1:(0:Int)<j:=hc.1
 have h2:j<1073741824:=hc.2
 exact floordiv_int (by omega) (by rw[ydv i (by omega)];exact q) (.inl (PyProof.noPylong_small (by omega)))
theorem op_mod:OpR X (binaryOp .Mod) (rI (fun _ j=>0<j) fun i j=> .int (i %j)):=opI fun i j _ _ _ _ _ hc q=>by
 have h1:(0:Int)<j:=hc
 exact mod_int' (by omega) (by rw[Int.fmod_eq_emod_of_nonneg i (by omega)];exact q)
theorem op_pow:OpR X (binaryOp .Pow) (rI CPow fun i j=> .int (i^j.toNat)):=opI fun _ _ _ _ _ _ _ hc q=>pow_int_small hc.1 hc.2.1 hc.2.2 q
theorem unI{f:Value->Sem Value}{g:Int->Int}(rule:∀(i:Int) (t:Tok) (s:Shared) (Q:Value->Shared->Prop) (E:Value->Shared->Prop),Q (.int (g i) s.toks) {s with toks:=s.toks+1}->wpAny (model X.prog X.w) X.A (f (.int i t)) Q E s):
  UnR X f (rU fun i=> .int (g i)):=by
 intro pins s σ H x v Q I rx h
 obtain⟨i,rfl,q⟩:=h
 obtain⟨t,rfl⟩:=rx
 exact rule i t s _ _ ⟨.int (g i),H,I.tok _,⟨_,rfl⟩,q⟩
theorem un_neg:UnR X (unaryOp .USub) (rU fun i=> .int (-i)):=unI fun _ _ _ _ _ q=>neg_int q
end
noncomputable def scal:V->V->Bool
 | .non,.non=>true| .non,.int _=>true| .int _,.non=>true| .non,.bl _=>true| .bl _,.non=>true| .non,.str _=>true| .str _,.non=>true
 | .int _,.int _=>true| .bl _,.bl _=>true| .str _,.str _=>true| .byt _,.byt _=>true
 | .int _,.str _=>true| .str _,.int _=>true| .bl _,.str _=>true| .str _,.bl _=>true
 |_,_=>false
noncomputable def rEq:R2:=fun x y H Q=>scal x y=true/\Q (.bl (decide (x=y))) H
noncomputable def rNe:R2:=fun x y H Q=>scal x y=true/\Q (.bl (!decide (x=y))) H
theorem dec_int{i j:Int}:decide (V.int i=V.int j)=(i==j):=by
 rw[Bool.eq_iff_iff]
 simp
theorem dec_bl{i j:Bool}:decide (V.bl i=V.bl j)=(i==j):=by
 rw[Bool.eq_iff_iff]
 simp
theorem dec_str{i j:Str}:decide (V.str i=V.str j)=(i==j):=by
 rw[Bool.eq_iff_iff]
 simp
theorem dec_byt{i j:Array UInt8}:decide (V.byt i=V.byt j)=(i.toList==j.toList):=by
 rw[Bool.eq_iff_iff]
 cases i
 cases j
 simp
section
variable{X:Cx}{a b c:Expr}{ta tb tc:TE}{pos:Pos}
theorem zbo{pins:List (Addr×Obj)}{σ:St}{H:Hp}{s:Shared}{Q:VK}{k k':Bool}(I:Inv X pins σ H s)(q:Q (.bl k) H)(e:k=k'):EP X pins σ Q (.bool k') s:=by
 subst e
 exact⟨.bl k,H,I,rfl,q⟩
theorem op_eq:OpR X (compareOp .Eq) rEq:=by
 intro pins s σ H x y v u Q I rx ry h
 obtain⟨hs,q⟩:=h
 cases x with
 |non=>
  cases rx
  cases y with
  |non=>cases ry;exact PySem.EqNone.eq_none_none (zbo I q (by simp))
  |bl j=>cases ry;exact PySem.EqNone.eq_none_bool (zbo I q (by simp))
  |int j=>obtain⟨t',rfl⟩:=ry;exact PySem.EqNone.eq_none_int (zbo I q (by simp))
  |str j=>obtain⟨t',rfl⟩:=ry;exact PySem.EqNone.eq_none_str (zbo I q (by simp))
  |_=>exact absurd (show false=true from hs) Bool.false_ne_true
 |bl i=>
  cases rx
  cases y with
  |non=>cases ry;exact PySem.EqNone.eq_bool_none (zbo I q (by simp))
  |bl j=>cases ry;exact eq_bool (zbo I q dec_bl)
  |str j=>obtain⟨t',rfl⟩:=ry;exact PySem.EqMixed.eq_bool_str (zbo I q (by simp))
  |_=>exact absurd (show false=true from hs) Bool.false_ne_true
 |int i=>
  obtain⟨t,rfl⟩:=rx
  cases y with
  |non=>cases ry;exact PySem.EqNone.eq_int_none (zbo I q (by simp))
  |int j=>obtain⟨t',rfl⟩:=ry;exact eq_int (zbo I q dec_int)
  |str j=>obtain⟨t',rfl⟩:=ry;exact PySem.EqMixed.eq_int_str (zbo I q (by simp))
  |_=>exact absurd (show false=true from hs) Bool.false_ne_true
 |str i=>
  obtain⟨t,rfl⟩:=rx
  cases y with
  |non=>cases ry;exact PySem.EqNone.eq_str_none (zbo I q (by simp))
  |bl j=>cases ry;exact PySem.EqMixed.eq_str_bool (zbo I q (by simp))
  |int j=>obtain⟨t',rfl⟩:=ry;exact PySem.EqMixed.eq_str_int (zbo I q (by simp))
  |str j=>obtain⟨t',rfl⟩:=ry;exact eq_str (zbo I q dec_str)
  |_=>exact absurd (show false=true from hs) Bool.false_ne_true
 |byt i=>
  obtain⟨t,rfl⟩:=rx
  cases y with
  |byt j=>obtain⟨t',rfl⟩:=ry;exact PySem.W.eq_bytes (zbo I q dec_byt)
  |_=>exact absurd (show false=true from hs) Bool.false_ne_true
 |_=>cases y<;>exact absurd (show false=true from hs) Bool.false_ne_true
theorem op_ne:OpR X (compareOp .NotEq) rNe:=by
 intro pins s σ H x y v u Q I rx ry h
 obtain⟨hs,q⟩:=h
 cases x with
 |non=>
  cases rx
  cases y with
  |non=>cases ry;exact PySem.EqNone.ne_none_none (zbo I q (by simp))
  |bl j=>cases ry;exact PySem.EqNone.ne_none_bool (zbo I q (by simp))
  |int j=>obtain⟨t',rfl⟩:=ry;exact PySem.EqNone.ne_none_int (zbo I q (by simp))
  |str j=>obtain⟨t',rfl⟩:=ry;exact PySem.EqNone.ne_none_str (zbo I q (by simp))
  |_=>exact absurd (show false=true from hs) Bool.false_ne_true
 |bl i=>
  cases rx
  cases y with
  |non=>cases ry;exact PySem.EqNone.ne_bool_none (zbo I q (by simp))
  |bl j=>cases ry;exact ne_bool (zbo I q (congrArg not dec_bl))
  |str j=>obtain⟨t',rfl⟩:=ry;exact PySem.EqMixed.ne_bool_str (zbo I q (by simp))
  |_=>exact absurd (show false=true from hs) Bool.false_ne_true
 |int i=>
  obtain⟨t,rfl⟩:=rx
  cases y with
  |non=>cases ry;exact PySem.EqNone.ne_int_none (zbo I q (by simp))
  |int j=>obtain⟨t',rfl⟩:=ry;exact ne_int (zbo I q (congrArg not dec_int))
  |str j=>obtain⟨t',rfl⟩:=ry;exact PySem.EqMixed.ne_int_str (zbo I q (by simp))
  |_=>exact absurd (show false=true from hs) Bool.false_ne_true
 |str i=>
  obtain⟨t,rfl⟩:=rx
  cases y with
  |non=>cases ry;exact PySem.EqNone.ne_str_none (zbo I q (by simp))
  |bl j=>cases ry;exact PySem.EqMixed.ne_str_bool (zbo I q (by simp))
  |int j=>obtain⟨t',rfl⟩:=ry;exact PySem.EqMixed.ne_str_int (zbo I q (by simp))
  |str j=>obtain⟨t',rfl⟩:=ry;exact ne_str (zbo I q (congrArg not dec_str))
  |_=>exact absurd (show false=true from hs) Bool.false_ne_true
 |byt i=>
  obtain⟨t,rfl⟩:=rx
  cases y with
  |byt j=>obtain⟨t',rfl⟩:=ry;exact PySem.W.ne_bytes (zbo I q (congrArg not dec_byt))
  |_=>exact absurd (show false=true from hs) Bool.false_ne_true
 |_=>cases y<;>exact absurd (show false=true from hs) Bool.false_ne_true
theorem op_lt:OpR X (compareOp .Lt) (rI0 fun i j=> .bl (decide (i<j))):=opB0 fun _ _ _ _ _ _ _ q=>lt_int q
theorem op_le:OpR X (compareOp .LtE) (rI0 fun i j=> .bl (decide (i<=j))):=opB0 fun _ _ _ _ _ _ _ q=>le_int q
theorem op_gt:OpR X (compareOp .Gt) (rI0 fun i j=> .bl (decide (j<i))):=opB0 fun _ _ _ _ _ _ _ q=>gt_int q
theorem op_isN:OpR X (compareOp .Is) (fun x y H Q=>y= .non/\Q (.bl (decide (x= .non))) H):=by
 intro pins s σ H x y v u Q I rx ry h
 obtain⟨rfl,q⟩:=h
 cases ry
 refine is_none_gen (zbo I q ?_)
 cases x<;>first
  |(cases rx;rfl)
  |(obtain⟨t,rfl⟩:=rx;rfl)
theorem op_notN:OpR X (compareOp .IsNot) (fun x y H Q=>y= .non/\Q (.bl (!decide (x= .non))) H):=by
 intro pins s σ H x y v u Q I rx ry h
 obtain⟨rfl,q⟩:=h
 cases ry
 refine isnot_none_gen (zbo I q ?_)
 cases x<;>first
  |(cases rx;rfl)
  |(obtain⟨t,rfl⟩:=rx;rfl)
theorem OpR.or{f:Value->Value->Sem Value}{r r':R2}(h:OpR X f r)(h':OpR X f r'):OpR X f (fun x y H Q=>r x y H Q\/r' x y H Q):=by
 intro pins s σ H x y v u Q I rx ry q
 rcases q with q|q
 ·exact h pins s σ H x y v u Q I rx ry q
 ·exact h' pins s σ H x y v u Q I rx ry q
theorem nomark(b:Expr){op:CmpOp}(h:op≠.In:=by decide)(h2:op≠.NotIn:=by decide):behindInMarks op b=false:=by
 have e1:(op==CmpOp.In)=false:=by cases op<;>first |rfl|exact absurd rfl h
 have e2:(op==CmpOp.NotIn)=false:=by cases op<;>first |rfl|exact absurd rfl h2
 cases b<;>simp[behindInMarks,e1,e2]
theorem pe_cmpR{op:CmpOp}{r:R2}(ho:OpR X (compareOp op) r)(ha:PE X a ta)(hb:PE X b tb)(hm:behindInMarks op b=false):PE X (.Compare a [op] [b] pos) (tOp r ta tb):=by
 intro pins s σ H Q I h
 exact wpAny_Compare1 (binT ha hb I h fun v u s2 x y H2 I2 rx ry q=>ho pins s2 σ H2 x y v u Q I2 rx ry q) hm
noncomputable def tTest(t:TE):TT:=fun σ H Q=>t σ H fun x H'=>∃k,x= .bl k/\Q k H'
theorem zas{op:CmpOp}{r:R2}(ho:OpR X (compareOp op) r)(ha:PE X a ta)(hb:PE X b tb)(hm:behindInMarks op b=false):PT X (.Compare a [op] [b] pos) (tTest (tOp r ta tb)):=by
 intro pins s σ H Q I h
 refine wpAny_isTrue_Compare1 (thn (ha pins s σ H _ I h) fun v s1 ⟨x,H1,I1,r1,q1⟩=>thn (hb pins s1 σ H1 _ I1 q1) fun u s2 ⟨y,H2,I2,r2,q2⟩=>
  thn (ho pins s2 σ H2 x y v u _ I2 r1 r2 q2) fun c s3 ⟨z,H3,I3,r3,k,e,q3⟩=> ?_) hm
 subst e
 cases r3
 exact wpAny_truthy_bool ⟨H3,I3,q3⟩
noncomputable def tChain(r r':R2)(ta tb tc:TE):TE:=fun σ H Q=>ta σ H fun x H1=>tb σ H1 fun y H2=>r x y H2 fun z H3=>∃k,z= .bl k/\
 (if k=true then tc σ H3 fun w' H4=>r' y w' H4 Q else Q (.bl false) H3)
theorem pe_chain{op op':CmpOp}{r r':R2}(ho:OpR X (compareOp op) r)(ho':OpR X (compareOp op') r')(ha:PE X a ta)(hb:PE X b tb)(hc:PE X c tc)(hm:lastMarks [op,op'] [b,c]=false:=by with_unfolding_all rfl):PE X (.Compare a [op,op'] [b,c] pos) (tChain r r' ta tb tc):=by
 intro pins s σ H Q I h
 refine Compare_chain (thn (ha pins s σ H _ I h) fun v s1 ⟨x,H1,I1,r1,q1⟩=>chain_link (thn (hb pins s1 σ H1 _ I1 q1) fun u s2 ⟨y,H2,I2,r2,q2⟩=>
  thn (ho pins s2 σ H2 x y v u _ I2 r1 r2 q2) fun d s3 ⟨z,H3,I3,r3,k,e,q3⟩=> ?_)) hm
 subst e
 cases r3
 refine wpAny_truthy_bool ?_
 cases k with
 |false=>exact ite_ff ⟨.bl false,H3,I3,rfl,q3⟩
 |true=>exact ite_tt (chain_last (thn (hc pins s3 σ H3 _ I3 q3) fun w' s4 ⟨z',H4,I4,r4,q4⟩=>ho' pins s4 σ H4 y z' u w' Q I4 r2 r4 q4))
theorem pt_chain{op op':CmpOp}{r r':R2}(ho:OpR X (compareOp op) r)(ho':OpR X (compareOp op') r')(ha:PE X a ta)(hb:PE X b tb)(hc:PE X c tc)(hm:lastMarks [op,op'] [b,c]=false:=by with_unfolding_all rfl):PT X (.Compare a [op,op'] [b,c] pos) (tTest (tChain r r' ta tb tc)):=by
 intro pins s σ H Q I h
 refine isTrue_chain (thn (ha pins s σ H _ I h) fun v s1 ⟨x,H1,I1,r1,q1⟩=>test_link (thn (hb pins s1 σ H1 _ I1 q1) fun u s2 ⟨y,H2,I2,r2,q2⟩=>
  thn (ho pins s2 σ H2 x y v u _ I2 r1 r2 q2) fun d s3 ⟨z,H3,I3,r3,k,e,q3⟩=> ?_)) hm
 subst e
 cases r3
 refine wpAny_truthy_bool ?_
 cases k with
 |false=>
  obtain⟨k',e',q'⟩:=q3
  cases e'
  exact ite_ff ⟨H3,I3,q'⟩
 |true=>
  refine ite_tt (test_last (thn (hc pins s3 σ H3 _ I3 q3) fun w' s4 ⟨z',H4,I4,r4,q4⟩=>thn (ho' pins s4 σ H4 y z' u w' _ I4 r2 r4 q4) fun d' s5 ⟨z2,H5,I5,r5,k2,e2,q5⟩=> ?_))
  subst e2
  cases r5
  exact wpAny_truthy_bool ⟨H5,I5,q5⟩
noncomputable def TruV(K:W.Frag)(x:V)(H:Hp)(k:Bool):Prop:=
 match x with
 | .non=>k=false
 | .bl b=>k=b
 | .int i=>k=(i !=0)
 | .str y=>y.length<=sizeLine/\k=((y.length:Int) !=0)
 | .byt y=>y.size<=sizeLine/\k=((y.size:Int) !=0)
 | .ref p=>(∃xs,SqL K H p xs/\k= !xs.isEmpty)\/(∃xs,SqT K H p xs/\k= !xs.isEmpty)\/∃kvs,H p=some (.dK kvs)/\k= !kvs.isEmpty
 |_=>False
theorem isEmpty_kv{κ:Type}{kvs:List (κ×V)}{vs:List (κ×Value)}(r:KV kvs vs):(!vs.isEmpty)= !kvs.isEmpty:=by
 cases r<;>rfl
theorem isEmpty_of{xs:List V}{its:List Value}(r:Vals xs its):(!its.toArray.isEmpty)= !xs.isEmpty:=by
 cases r<;>simp
theorem line63:(sizeLine:Nat)<2^63:=by rw[sizeLine_eq];decide
theorem tru_ok:TruR X (fun x H Q=>∃k,TruV X.K x H k/\Q k H):=by
 intro pins s σ H x v Q I rx h
 obtain⟨k,e,q⟩:=h
 have hl:=line63
 have hs:sizeLine=16777216:=sizeLine_eq
 cases x with
 |non=>
  cases rx
  have e':k=false:=e
  subst e'
  exact truthy_none ⟨H,I,q⟩
 |bl b=>
  cases rx
  have e':k=b:=e
  subst e'
  exact wpAny_truthy_bool ⟨H,I,q⟩
 |int i=>
  obtain⟨t,rfl⟩:=rx
  have e':k=(i !=0):=e
  subst e'
  exact PySem.P.truthy_int ⟨H,I,q⟩
 |str y=>
  obtain⟨t,rfl⟩:=rx
  obtain⟨hy,e'⟩:y.length<=sizeLine/\k=((y.length:Int) !=0):=e
  subst e'
  exact PySem.P.truthy_str (by omega) ⟨H,I.tok _,q⟩
 |byt y=>
  obtain⟨t,rfl⟩:=rx
  obtain⟨hy,e'⟩:y.size<=sizeLine/\k=((y.size:Int) !=0):=e
  subst e'
  exact PySem.W.truthy_bytes (by omega) ⟨H,I.tok _,q⟩
 |ref p=>
  cases rx
  have e':(∃xs,SqL X.K H p xs/\k= !xs.isEmpty)\/(∃xs,SqT X.K H p xs/\k= !xs.isEmpty)\/∃kvs,H p=some (.dK kvs)/\k= !kvs.isEmpty:=e
  rcases e' with⟨xs,hx,e'⟩|⟨xs,hx,e'⟩|⟨kvs,hx,e'⟩
  ·subst e'
   obtain⟨its,r,pl,hz⟩:=I.list hx
   have hlen:=r.length
   exact wpAny_truthy_list pl.isList (by simp only[yah];omega) ⟨H,I.tok _,by rw[isEmpty_of r];exact q⟩
  ·subst e'
   obtain⟨its,r,pl,hz⟩:=I.tuple hx
   have hlen:=r.length
   exact truthy_tuple pl (by simp only[yah];omega) ⟨H,I.tok _,by rw[isEmpty_of r];exact q⟩
  ·subst e'
   obtain⟨hz,hS,vs,r,m⟩:kvs.length<=sizeLine/\(p==sysModules)=false/\∃vs,KV kvs vs/\s.heap.DictOf (mixKind X.prog X.w) p vs:=I.hok p _ hx
   have hlen:kvs.length=vs.length:=Paired.length r
   exact wpAny_truthy_dict hS m (by omega) ⟨H,I.tok _,by rw[isEmpty_kv r];exact q⟩
 |_=>exact(show False from e).elim
theorem pt_truth(ha:PE X a ta)(he:∀whole,isTrue a X.env whole=(do let v<-whole;standAt a.pos;holding [v] (truthy v))):
  PT X a (fun σ H Q=>ta σ H fun x H'=>∃k,TruV X.K x H' k/\Q k H'):=by
 intro pins s σ H Q I h
 exact isTrue_plain (thn (ha pins s σ H _ I h) fun v s1 ⟨x,H1,I1,r1,q1⟩=>tru_ok pins s1 σ H1 x v Q I1 r1 q1) (he _)
theorem vals1{x:V}{us:List Value}(r:Vals [x] us):∃u,us=[u]/\RelV x u:=by
 cases r with
 |cons r1 r2=>cases r2;exact⟨_,rfl,r1⟩
theorem vals2{x y:V}{us:List Value}(r:Vals [x,y] us):∃u w',us=[u,w']/\RelV x u/\RelV y w':=by
 cases r with
 |cons r1 r2=>
  cases r2 with
  |cons r3 r4=>cases r4;exact⟨_,_,rfl,r1,r3⟩
theorem call_abs:CallR X (.builtin "abs") (fun xs H Q=>∃i,xs=[.int i]/\Q (.int (if i<0 then -i else i)) H):=by
 intro pins s σ H xs us Q I r h
 obtain⟨i,rfl,q⟩:=h
 obtain⟨u,rfl,t,rfl⟩:=vals1 r
 exact call_abs_int fun u tk=>⟨.int (if i<0 then -i else i),H,I.tok _,⟨_,rfl⟩,q⟩
theorem call_max2(hc:X.calm=true):CallR X (.builtin "max") (fun xs H Q=>∃i j,xs=[.int i,.int j]/\Q (.int (if j>i then j else i)) H):=by
 intro pins s σ H xs us Q I r h
 obtain⟨i,j,rfl,q⟩:=h
 obtain⟨u,w',rfl,⟨t,rfl⟩,⟨t',rfl⟩⟩:=vals2 r
 refine max_two_ints (I.ok.hd hc) fun h' tk k=>⟨_,H,I.kept k,?_,q⟩
 by_cases hj:j>i
 ·rw[if_pos hj,if_pos hj];exact⟨_,rfl⟩
 ·rw[if_neg hj,if_neg hj];exact⟨_,rfl⟩
theorem call_min2(hc:X.calm=true):CallR X (.builtin "min") (fun xs H Q=>∃i j,xs=[.int i,.int j]/\Q (.int (if j<i then j else i)) H):=by
 intro pins s σ H xs us Q I r h
 obtain⟨i,j,rfl,q⟩:=h
 obtain⟨u,w',rfl,⟨t,rfl⟩,⟨t',rfl⟩⟩:=vals2 r
 refine min_two_ints (I.ok.hd hc) fun h' tk k=>⟨_,H,I.kept k,?_,q⟩
 by_cases hj:j<i
 ·rw[if_pos hj,if_pos hj];exact⟨_,rfl⟩
 ·rw[if_neg hj,if_neg hj];exact⟨_,rfl⟩
theorem call_int1:CallR X (.type "int") (fun xs H Q=>(∃i,xs=[.int i]/\Q (.int i) H)\/∃k,xs=[.bl k]/\Q (.int (if k then 1 else 0)) H):=by
 intro pins s σ H xs us Q I r h
 rcases h with⟨i,rfl,q⟩|⟨k,rfl,q⟩
 ·obtain⟨u,rfl,t,rfl⟩:=vals1 r
  exact call_int_int ⟨.int i,H,I,⟨_,rfl⟩,q⟩
 ·obtain⟨u,rfl,r1⟩:=vals1 r
  cases r1
  exact call_int_bool ⟨.int (if k then 1 else 0),H,I.tok _,⟨_,rfl⟩,q⟩
end
structure ObjM(h:Heap)(x dx C:Addr)(mA:Str->Option Value):Prop where
 obj:h.get? x=some (PySem.W.instObj C dx)
 ns:h.Ns1 dx mA
 ne:dx≠x
theorem lookIn_ns{h:Heap}{dx:Addr}{mA:Str->Option Value}(n:h.Ns1 dx mA):∃od,h.get? dx=some od/\∀name,PySem.W.lookIn name od=some (mA name):=by
 obtain⟨o,es,ep,ho,hd,hk,_,hm⟩:=n
 refine⟨o,ho,fun name=> ?_⟩
 have e:=hm name
 unfold nsFind findBy at e
 rw[<-Array.find?_toList]at e
 unfold PySem.W.lookIn
 rw[hd]
 dsimp only
 split
 ·rename_i y q
  rw[q]at e
  exact congrArg some e
 ·rename_i q
  rw[q]at e
  have a:es.toList.any (·.refKey)=false:=by
   rw[yds]
   intro y hy
   obtain⟨z,t,hkey⟩:=hk y (Array.mem_toList_iff.mp hy)
   simp[DictEntry.refKey,hkey]
  have a':¬es.toList.any (·.refKey)=true:=by rw[a];exact Bool.false_ne_true
  rw[if_neg a']
  exact congrArg some e
theorem ObjM.look{h:Heap}{x dx C:Addr}{mA:Str->Option Value}(I:ObjM h x dx C mA):∃od,PySem.W.InstAt h x (PySem.W.instObj C dx) C (some od)/\∀name,PySem.W.lookIn name od=some (mA name):=
 let⟨od,ho,hl⟩:=lookIn_ns I.ns
 ⟨od,⟨I.obj,rfl,rfl,ho⟩,hl⟩
section
variable{prog:Program}{w:World}{A:Around}{E:Value->Shared->Prop}{s:Shared}{K:W.Frag}{x dx C f:Addr}{mA:Str->Option Value}{name:Str}{v:Value}
theorem get_map{expr:Bool}{Q:Value->Shared->Prop}(X:K.In s.heap)(I:ObjM s.heap x dx C mA)(hg:PySem.W.plainGet K C name=true)(hh:PySem.W.hasDictIn K C=true)(ha:PySem.W.findIn K (.ref C) name=some none)(hv:mA name=some v)(hv':PySem.W.handedIn v=true)(h:Q v {s with toks:=s.toks+1}):
  wpAny (model prog w) A (getAttr (.ref x) name expr) Q E s:=by
 obtain⟨od,J,hl⟩:=I.look
 exact PySem.W.get_value X J (PySem.W.plainGet_of hg).1 (PySem.W.findObj_own hh ha rfl (by rw[hl,hv])) hv' h
theorem get_meth{pl:Sem Bool}{Q:Value×List Value->Shared->Prop}(X:K.In s.heap)(I:ObjM s.heap x dx C mA)(hg:PySem.W.plainGet K C name=true)(hf:PySem.W.findIn K (.ref C) name=some (some (.ref f)))(ht:PySem.W.isFn K (.ref f)=true)(hv:mA name=none)(h:Q (.ref f,[.ref x]) s):
  wpAny (model prog w) A (getMethod (.ref x) name pl) Q E s:=by
 obtain⟨od,J,hl⟩:=I.look
 exact PySem.W.method_fn X J (PySem.W.plainGet_of hg).1 (PySem.W.plainGet_of hg).2 hf (beq_iff_eq.mp ht) (by show(PySem.W.lookIn name od).map (·.isSome)=some false;rw[hl,hv];rfl) h
theorem set_map{ns:List Str}{Q:Unit->Shared->Prop}(X:K.In s.heap)(I:ObjM s.heap x dx C mA)(hs:PySem.W.findIn K (.ref C) "__setattr__"=some (some (.builtin "object.__setattr__")))(hp:PySem.W.plainOver K C=true)(ht:PySem.W.takerIn K C name=some none)(hh:PySem.W.hasDictIn K C=true)(hw:PySem.Within mA ns)(hsz:ns.length<=sizeLine)(h:∀h',ObjM h' x dx C (fun y=>if y=name then some v else mA y)->Heap.SameBut dx s.heap h'->Q () {s with heap:=h',toks:=s.toks+2}):
  wpAny (model prog w) A (setAttr (.ref x) name v) Q E s:=by
 obtain⟨od,J,hl⟩:=I.look
 refine PySem.W.set_plain X J hs (PySem.W.osa_open (s:={s with toks:=s.toks+1}) (r:=none) X J hp ht fun b=> ?_)
 obtain⟨cd,hc,hd'⟩:=PySem.W.any_some hh
 have hx:s.heap.get? x=some ⟨.ref C,some dx,.plain,#[]⟩:=I.obj
 refine wpAny_bind (wpAny_pure (wpAny_bind (wpAny_bind (wpAny_loadPart hx (wpAny_bind (PySem.W.Looks.here (s:={s with toks:=s.toks+1}) (PySem.W.looks_clsIn X hc) ?_))))))
 rw[hd']
 refine wpAny_pure (a:=some dx) (wpAny_bind (wpAny_pure (wpAny_bind ?_)))
 refine wpAny_nsSet1 (s:={s with toks:=s.toks+1}) I.ns fun h' hn2 hs2=> ?_
 obtain⟨oD,esD,epD,hoD,hdD,hcD⟩:=hn2.count (PySem.Within.cons name v hw)
 refine wpAny_bind (wpAny_lookBehind hoD (by rw[hdD];exact pastItsLine_dict (yau hcD (by rw[ybh];omega))) ?_)
 exact wpAny_pure (h _ ⟨(hs2.2 _ (Ne.symm I.ne)).trans I.obj,hn2,I.ne⟩ hs2)
theorem make_map{R:Result->Shared->Prop}{vs:List Value}{kw:List (Str×Value)}(X:K.In s.heap)(hm:PySem.W.makesIn K C=true)(hi:PySem.W.findIn K (.ref C) "__init__"=some (some (.ref f)))(hf:PySem.W.typeIn K (.ref f)=some (.type "function"))(h:codeAny (model prog w) (A.under (.builtin "type.__call__" ⟨.ref C::vs,kw⟩)) (.call (.ref f) ⟨.ref (s.heap.objs.size+1)::vs,kw⟩) (PySem.W.InitBack (s.heap.objs.size+1) R)
   {s with heap:=(s.heap.push PySem.W.emptyDict).push (PySem.W.instObj C s.heap.objs.size)}):
  codeAny (model prog w) A (.call (.ref C) ⟨vs,kw⟩) R s:=by
 obtain⟨hh,g,d,t,os⟩:=s
 exact PySem.W.make_core (PySem.W.makes_of X hm) (PySem.W.looks_findIn X hi) (fun self=>PySem.W.bind_fn X self hf) (.inl rfl) h
end
noncomputable def putF(f:Str)(v:V):List (Str×V)->List (Str×V)
 |[]=>[(f,v)]
 |(g,x)::r=>if g=f then(g,v)::r else(g,x)::putF f v r
theorem lookup_putF(f g:Str)(v:V):∀fs:List (Str×V),(putF f v fs).lookup g=if g=f then some v else fs.lookup g
 |[]=>by
  show List.lookup g [(f,v)]=_
  by_cases h:g=f
  ·have hb:(g==f)=true:=beq_iff_eq.mpr h
   simp only[List.lookup,hb,if_pos h]
  ·have hb:(g==f)=false:=beq_eq_false_iff_ne.mpr h
   simp only[List.lookup,hb,if_neg h]
 |(k,x)::r=>by
  have ih:=lookup_putF f g v r
  rw[show putF f v ((k,x)::r)=(if k=f then(k,v)::r else(k,x)::putF f v r)from rfl]
  by_cases hk:k=f
  ·rw[if_pos hk]
   by_cases h:g=k
   ·have hb:(g==k)=true:=beq_iff_eq.mpr h
    simp only[List.lookup,hb,if_pos (h.trans hk)]
   ·have hb:(g==k)=false:=beq_eq_false_iff_ne.mpr h
    simp only[List.lookup,hb,if_neg (fun e:g=f=>h (e.trans hk.symm))]
  ·rw[if_neg hk]
   by_cases h:g=k
   ·have hb:(g==k)=true:=beq_iff_eq.mpr h
    simp only[List.lookup,hb,if_neg (fun e:g=f=>hk (h.symm.trans e))]
   ·have hb:(g==k)=false:=beq_eq_false_iff_ne.mpr h
    simp only[List.lookup,hb]
    exact ih
theorem keys_putF(f:Str)(v:V):∀fs:List (Str×V),f∈(putF f v fs).map (·.1)/\∀g,g∈fs.map (·.1)->g∈(putF f v fs).map (·.1)
 |[]=>⟨by simp[putF],fun g h=>by simp at h⟩
 |(k,x)::r=>by
  obtain⟨i1,i2⟩:=keys_putF f v r
  rw[show putF f v ((k,x)::r)=(if k=f then(k,v)::r else(k,x)::putF f v r)from rfl]
  by_cases hk:k=f
  ·rw[if_pos hk]
   subst hk
   exact⟨by simp,fun g h=>by simpa using h⟩
  ·rw[if_neg hk]
   refine⟨?_,fun g h=> ?_⟩
   ·rw[ybz]
    exact yai _ i1
   ·rw[ybz]at h⊢
    rcases yaj.mp h with e|e
    ·exact yaj.mpr (.inl e)
    ·exact yai _ (i2 g e)
theorem length_putF(f:Str)(v:V):∀fs:List (Str×V),(putF f v fs).length<=fs.length+1
 |[]=>by simp[putF]
 |(k,x)::r=>by
  have ih:=length_putF f v r
  rw[show putF f v ((k,x)::r)=(if k=f then(k,v)::r else(k,x)::putF f v r)from rfl]
  by_cases hk:k=f
  ·rw[if_pos hk,ybh,ybh];omega
  ·rw[if_neg hk,ybh,ybh];omega
theorem RelO.some_of{v:V}{o:Option Value}(r:RelO (some v) o):∃u,o=some u/\RelV v u:=by
 cases o with
 |none=>exact(show False from r).elim
 |some u=>exact⟨u,rfl,r⟩
theorem RelO.none_of{o:Option Value}(r:RelO none o):o=none:=by
 cases o with
 |none=>rfl
 |some u=>exact(show False from r).elim
theorem handed_of{v:V}{u:Value}(r:RelV v u):PySem.W.handedIn u=true:=by
 cases v with
 |non=>cases(show u=Value.none from r);rfl
 |bl b=>cases(show u=Value.bool b from r);rfl
 |int i=>obtain⟨t,e⟩:=(show∃t,u=Value.int i t from r);cases e;rfl
 |str x=>obtain⟨t,e⟩:=(show∃t,u=Value.str x t from r);cases e;rfl
 |byt b=>obtain⟨t,e⟩:=(show∃t,u=Value.bytes b t from r);cases e;rfl
 |flt b=>obtain⟨t,e⟩:=(show∃t,u=Value.float b t from r);cases e;rfl
 |ref a=>cases(show u=Value.ref a from r);rfl
 |ty n=>cases(show u=Value.type n from r);rfl
section
variable{P:Program}{w:World}{H H':Hp}{h h':Heap}{a C dx:Addr}{fs fs':List (Str×V)}
theorem ins_get(hok:HOk P w H h)(e:H a=some (.ins C dx fs)):∃mA,ObjM h a dx C mA/\(∀f,RelO (fs.lookup f) (mA f))/\PySem.Within mA (fs.map (·.1))/\fs.length<=1000/\H dx=some (.own a):=by
 obtain⟨d,z,ne,ob,mA,n,r,q⟩:=(show ObjOk P w H h a (.ins C dx fs)from hok a _ e)
 exact⟨mA,⟨ob,n,ne⟩,r,q,z,d⟩
end
structure Cls(K:W.Frag)(C:Addr):Prop where
 pg:PySem.W.plainGet K C Str.empty=true
 hd:PySem.W.hasDictIn K C=true
 po:PySem.W.plainOver K C=true
 sa:PySem.W.findIn K (.ref C) "__setattr__"=some (some (.builtin "object.__setattr__"))
theorem Cls.get{K:W.Frag}{C:Addr}(c:Cls K C)(f:Str):PySem.W.plainGet K C f=true:=c.pg
noncomputable def NoAttr(K:W.Frag)(C:Addr)(f:Str):Prop:=PySem.W.findIn K (.ref C) f=some none
theorem NoAttr.taker{K:W.Frag}{C:Addr}{f:Str}(n:NoAttr K C f):PySem.W.takerIn K C f=some none:=by
 unfold PySem.W.takerIn
 rw[show PySem.W.findIn K (.ref C) f=some none from n]
 rfl
structure Meth(K:W.Frag)(C:Addr)(m:Str)(f:Addr):Prop where
 at_:PySem.W.findIn K (.ref C) m=some (some (.ref f))
 fn:PySem.W.isFn K (.ref f)=true
 kp:PySem.W.keepIn K (.ref f)=true
section
variable{X:Cx}{pins:List (Addr×Obj)}{σ:St}{H:Hp}{s:Shared}{a C dx:Addr}{fs:List (Str×V)}{f:Str}{v:V}{A:Around}{E:Value->Shared->Prop}
theorem getattr_ok{b:Bool}{Q:Value->Shared->Prop}(I:Inv X pins σ H s)(e:H a=some (.ins C dx fs))(c:Cls X.K C)(n:NoAttr X.K C f)(l:fs.lookup f=some v)(h:∀u s',Inv X pins σ H s'->RelV v u->Q u s'):wpAny (model X.prog X.w) A (getAttr (.ref a) f b) Q E s:=by
 obtain⟨mA,O,r,_,_,_⟩:=ins_get I.hok e
 obtain⟨u,hu,ru⟩:=RelO.some_of (v:=v) (o:=mA f) (by rw[<-l];exact r f)
 exact get_map I.kIn O (c.get f) c.hd n hu (handed_of ru) (h u _ (I.tok _) ru)
theorem getmeth_ok{m:Str}{g:Addr}{pl:Sem Bool}{Q:Value×List Value->Shared->Prop}(I:Inv X pins σ H s)(e:H a=some (.ins C dx fs))(c:Cls X.K C)(k:Meth X.K C m g)(l:fs.lookup m=none)(h:Q (.ref g,[.ref a]) s):wpAny (model X.prog X.w) A (getMethod (.ref a) m pl) Q E s:=by
 obtain⟨mA,O,r,_,_,_⟩:=ins_get I.hok e
 have hn:mA m=none:=RelO.none_of (by rw[<-l];exact r m)
 exact get_meth I.kIn O (c.get m) k.at_ k.fn hn h
theorem setattr_ok{y:V}{u:Value}{Q:Unit->Shared->Prop}(I:Inv X pins σ H s)(e:H a=some (.ins C dx fs))(c:Cls X.K C)(n:NoAttr X.K C f)(hl:fs.length<1000)(ry:RelV y u)(h:∀s',Inv X pins σ (upd H a (.ins C dx (putF f y fs))) s'->Q () s'):wpAny (model X.prog X.w) A (setAttr (.ref a) f u) Q E s:=by
 obtain⟨mA,O,r,wi,_,ho⟩:=ins_get I.hok e
 have hz:(fs.map (·.1)).length<=sizeLine:=by rw[yaa,sizeLine_eq];omega
 refine set_map I.kIn O c.sa c.po n.taker c.hd wi hz fun h' O' sb=>h _ ?_
 have hd:∃o,h'.get? dx=some o:=let⟨o,_,_,e',_⟩:=O'.ns;⟨o,e'⟩
 refine I.write (x:=a) (e:=dx) (by rw[e];exact True.intro) (.inr ho) (fun b q hb z=>(sb.2 b hb).trans z) hd ?_
 refine⟨by rw[zai O.ne];exact ho,?_,O.ne,O'.obj,_,O'.ns,fun g=> ?_,fun g hg=> ?_⟩
 ·have:=length_putF f y fs;omega
 ·show RelO ((putF f y fs).lookup g) (if g=f then some u else mA g)
  rw[lookup_putF]
  by_cases q:g=f
  ·rw[if_pos q,if_pos q];exact ry
  ·rw[if_neg q,if_neg q];exact r g
 ·by_cases q:g=f
  ·rw[q];exact(keys_putF f y fs).1
  ·refine(keys_putF f y fs).2 g (wi g fun z=>hg ?_)
   show(if g=f then some u else mA g)=none
   rw[if_neg q];exact z
theorem Inv.made(I:Inv X pins σ H s):Inv X pins σ (upd (upd H s.heap.objs.size (.own (s.heap.objs.size+1))) (s.heap.objs.size+1) (.ins C s.heap.objs.size []))
  {s with heap:=(s.heap.push PySem.W.emptyDict).push (PySem.W.instObj C s.heap.objs.size)}:=by
 have e1:(s.heap.push PySem.W.emptyDict).get? s.heap.objs.size=some PySem.W.emptyDict:=yal s.heap rfl
 have e2:((s.heap.push PySem.W.emptyDict).push (PySem.W.instObj C s.heap.objs.size)).get? (s.heap.objs.size+1)=some (PySem.W.instObj C s.heap.objs.size):=by
  have:=yal (s.heap.push PySem.W.emptyDict) (o:=PySem.W.instObj C s.heap.objs.size) rfl
  rwa [ybm]at this
 have e3:(s.heap.push PySem.W.emptyDict).Ns s.heap.objs.size (fun _=>none):=⟨PySem.W.emptyDict,#[],_,e1,rfl,(fun e he=>absurd he (by simp)),fun _=>rfl⟩
 have I1:=I.laid (a:=s.heap.objs.size) (o:= .own (s.heap.objs.size+1)) (h':=s.heap.push PySem.W.emptyDict) (t':=s.toks) (fun b u q=>yad _ q) (yab _) ⟨_,e1⟩
 refine I1.laid (a:=s.heap.objs.size+1) (o:= .ins C s.heap.objs.size []) (t':=s.toks) (fun b u q=>yad _ q) (yca (ybm _ _)) ?_
 have ne:s.heap.objs.size≠s.heap.objs.size+1:=yam (yba _)
 refine⟨by rw[zai ne,zab],yas _,ne,e2,fun _=>none,(Heap.Ns1.of_empty e3).at fun o q=>yad _ q,fun _=>True.intro,fun y hy=>absurd rfl hy⟩
theorem attr_of{prog:Program}{w:World}{env:Env}{e:Expr}{f:Str}{pos:Pos}{s:Shared}{Q:Value->Shared->Prop}(hb:attributeBase e f env (eval e env)=eval e env)(h:wpAny (model prog w) A (eval e env) (fun o s₁=>wpAny (model prog w) A (getAttr o f true) Q E s₁) E s):wpAny (model prog w) A (eval (.Attribute e f pos) env) Q E s:=
 Attribute_any_ h (by rw[arm_eval_Attribute,hb])
end
noncomputable def tFld(K:W.Frag)(ta:TE)(f:Str):TE:=fun σ H Q=>ta σ H fun x H1=>∃a C dx fs v,x= .ref a/\H1 a=some (.ins C dx fs)/\Cls K C/\NoAttr K C f/\fs.lookup f=some v/\Q v H1
noncomputable def sFld(K:W.Frag)(ta tv:TE)(f:Str):TS:=fun D σ H=>tv σ H fun y H1=>ta σ H1 fun x H2=>∃a C dx fs,x= .ref a/\H2 a=some (.ins C dx fs)/\Cls K C/\NoAttr K C f/\fs.length<1000/\
 D.nx σ (upd H2 a (.ins C dx (putF f y fs)))
section
variable{X:Cx}{o e value:Expr}{f:Str}{pos pos' tpos:Pos}{ta tv:TE}
theorem zbx(he:PE X e ta)(hb:attributeBase e f X.env (eval e X.env)=eval e X.env):PE X (.Attribute e f pos) (tFld X.K ta f):=by
 intro pins s σ H Q I h
 refine attr_of hb (thn (he pins s σ H _ I h) fun u s1 ⟨x,H1,I1,rx,a,C,dx,fs,v,ex,ea,c,n,l,q⟩=> ?_)
 subst ex
 obtain rfl:u=Value.ref a:=rx
 exact getattr_ok I1 ea c n l fun u' s2 I2 ru=>⟨v,H1,I2,ru,q⟩
theorem ps_fld(ha:PE X o ta)(hv:PE X value tv)(hs:swapsWith value (some (.Attribute o f pos')) pos.line X.env=pure false):PS X (.Assign [.Attribute o f pos'] value pos) (sFld X.K ta tv f):=by
 intro pins s σ H D I h
 refine plainObj_wpAny_Assign_Attribute (thn (hv pins s σ H _ I h) fun u s1 ⟨y,H1,I1,ry,q⟩=>thn (ha pins s1 σ H1 _ I1 q) fun ov s2 ⟨x,H2,I2,rx,a,C,dx,fs,ex,ea,c,n,l,q2⟩=> ?_) hs
 subst ex
 obtain rfl:ov=Value.ref a:=rx
 exact setattr_ok I2 ea c n l ry fun s3 I3=>⟨σ,_,I3,q2⟩
end
section
variable{X:Cx}{pins:List (Addr×Obj)}{σ:St}{H:Hp}{s:Shared}{A:Around}{E:Value->Shared->Prop}{Q:Value->Shared->Prop}{c:Value}{b:Bool}
end
structure Room(k:Nat)(A:Around):Prop where
 hd:A.handled=none
 dp:A.depth+3*k+5<recursionLimit
 un:A.units+16*k+200<cLine
 gd:A.guards=some []
theorem Room.mono{j k:Nat}{A:Around}(r:Room k A)(h:j<=k):Room j A:=⟨r.hd,by have:=r.dp;omega,by have:=r.un;omega,r.gd⟩
theorem Room.deeper{k:Nat}{A:Around}(r:Room (k+1) A)(env:Env):Room k (A.deeper env):=
 ⟨r.hd,by have:=r.dp;show A.depth+1+3*k+5<_;omega,by have:=r.un;show A.units+3+16*k+200<_;omega,r.gd⟩
theorem make_depth{A:Around}{C:Addr}{us:List Value}{kw:List (Str×Value)}:(A.under (.builtin "type.__call__" ⟨.ref C::us,kw⟩)).depth=A.depth+1:=by
 first |rfl|simp[Around.under,Code.weight,Code.isCreation,Code.isGuard,Code.isCaller,Code.frames,Code.isFrame,guardIds]
theorem make_units{A:Around}{C:Addr}{us:List Value}{kw:List (Str×Value)}:(A.under (.builtin "type.__call__" ⟨.ref C::us,kw⟩)).units=A.units+1:=by
 first |rfl|simp[Around.under,Code.cUnits,Code.frames,Code.isFrame]
theorem Room.make{k:Nat}{A:Around}(r:Room (k+1) A)(C:Addr)(us:List Value)(kw:List (Str×Value)):Room k (A.under (.builtin "type.__call__" ⟨.ref C::us,kw⟩)):=
 ⟨r.hd,by have:=r.dp;rw[make_depth];omega,by have:=r.un;rw[make_units];omega,by
  have q:=r.gd
  first |exact q|(simp[Around.under,Code.isGuard,guardIds];exact q)|(unfold Around.under;simp[Code.isGuard,guardIds,q])⟩
theorem Room.depth{k:Nat}{A:Around}(r:Room k A):A.depth<recursionLimit:=by have:=r.dp;omega
theorem Room.units{k:Nat}{A:Around}(r:Room k A):A.units+64<cLine:=by have:=r.un;omega
theorem Room.units0{k:Nat}{A:Around}(r:Room k A):A.units<cLine:=by have:=r.un;omega
noncomputable def tNil:TA:=fun _ H Q=>Q [] H
noncomputable def tCons(ta:TE)(tr:TA):TA:=fun σ H Q=>ta σ H fun x H1=>tr σ H1 fun xs H2=>Q (x::xs) H2
section
variable{X:Cx}{e:Expr}{es:List Expr}{te:TE}{t:TA}{pos:Pos}
theorem zac:PA X [] tNil:=fun _ _ _ _ H Q I h=>Calls.spliced_nil ⟨[],H,I,.nil,h⟩
theorem zaa(ha:PE X e te)(hr:PA X es t)(hs:starEach (e::es) X.env=(false,eval e X.env)::starEach es X.env:=by rfl):PA X (e::es) (tCons te t):=by
 intro pos pins s σ H Q I h
 rw[hs]
 show wpAny _ _ (spliced ((false,eval e X.env)::backTo pos (starEach es X.env))) _ _ s
 refine Calls.spliced_cons (thn (ha pins s σ H _ I h) fun u s1 ⟨x,H1,I1,r1,q1⟩=> ?_)
 exact thn (hr pos pins s1 σ H1 _ I1 q1) fun us s2 ⟨xs,H2,I2,r2,q2⟩=>⟨x::xs,H2,I2,.cons r1 r2,q2⟩
noncomputable def tTup(t:TA):TE:=fun σ H Q=>t σ H fun xs H1=>xs.length<=sizeLine/\∀p,H1 p=none->Q (.ref p) (upd H1 p (.tup xs))
noncomputable def tLst(t:TA):TE:=fun σ H Q=>t σ H fun xs H1=>xs.length<=sizeLine/\∀p,H1 p=none->Q (.ref p) (upd H1 p (.lst xs))
theorem zbw{x1}(h:PA X es t):PE X (.Tuple es x1 pos) (tTup t):=by
 intro pins s σ H Q I hq
 refine wpAny_Tuple_spliced (thn (h pos pins s σ H _ I hq) fun us s1 ⟨xs,H1,I1,r,z,q⟩=>⟨by rw[<-r.length];exact z,?_⟩)
 have hf:H1 s1.heap.objs.size=none:=I1.hok.fresh (yab _)
 refine⟨.ref s1.heap.objs.size,upd H1 s1.heap.objs.size (.tup xs),I1.laid (t':=s1.toks) (fun b u e=>yad _ e) (yab _) ?_,rfl,q _ hf⟩
 exact⟨z,us,r,⟨_,yal _ rfl,rfl,_,rfl⟩⟩
theorem pe_lst(h:PA X es t):PE X (.List es pos) (tLst t):=by
 intro pins s σ H Q I hq
 refine wpAny_List_spliced (thn (h pos pins s σ H _ I hq) fun us s1 ⟨xs,H1,I1,r,z,q⟩=>⟨by rw[<-r.length];exact z,?_⟩)
 have hf:H1 s1.heap.objs.size=none:=I1.hok.fresh (yab _)
 refine⟨.ref s1.heap.objs.size,upd H1 s1.heap.objs.size (.lst xs),I1.laid (t':=s1.toks) (fun b u e=>yad _ e) (yab _) ?_,rfl,q _ hf⟩
 exact⟨z,us,0,r,yal _ rfl⟩
end
noncomputable abbrev Sp:=List V->Hp->VK->XK->Prop
noncomputable abbrev CXT:=List Env->Hp->Shared->XK->Value->Shared->Prop
structure Env0(P:Program)(w:World)(K:W.Frag)(mg:Str->Option Value)(base:Heap)(A:Around)(outer:List Env)(s:Shared)(H:Hp):Prop where
 frames:A.frames=some outer
 mod:Mod K mg base
 bs:∀b o,base.get? b=some o->s.heap.get? b=some o/\H b=none
 bsz:base.objs.size<=s.heap.objs.size
 funs:s.heap.FunFrames base outer
 frf:∀b∈frs outer,H b=none
 hok:HOk P w H s.heap
 bare:AllBare s.gens
noncomputable def CE(outer:List Env)(P:Program)(w:World)(H:Hp)(s:Shared)(Q:VK)(u:Value)(s':Shared):Prop:=
 ∃v H',s'.os=s.os/\AllBare s'.gens/\Un (frs outer) [] H H' s.heap s'.heap/\HOk P w H' s'.heap/\RelV v u/\Q v H'
noncomputable def CR(CX:CXT)(outer:List Env)(P:Program)(w:World)(H:Hp)(s:Shared)(Q:VK)(E:XK)(r:Result)(s':Shared):Prop:=
 match r with
 | .ok (.ret u)=>CE outer P w H s Q u s'
 | .ok _=>False
 | .error e=>CX outer H s E e s'
structure FnOk(P:Program)(w:World)(K:W.Frag)(mg:Str->Option Value)(base:Heap)(CX:CXT)(k:Nat)(f:Addr)(fd:FuncData)(ps:List Str)(sp:Sp):Prop where
 len:∀vs H Q E,sp vs H Q E->vs.length=ps.length
 run:∀(A:Around) (outer:List Env) (s:Shared) (H:Hp) (args:Args) (us:List Value) (vs:List V) (Q:VK) (E:XK),Room k A->Env0 P w K mg base A outer s H->BindsTo s fd args (ps.zip us)->Vals vs us->sp vs H Q E->
  codeAny (model P w) A (.call (.ref f) args) (CR CX outer P w H s Q E) s
theorem FnOk.mono{P:Program}{w:World}{K:W.Frag}{mg:Str->Option Value}{base:Heap}{CX:CXT}{j k:Nat}{f:Addr}{fd:FuncData}{ps:List Str}{sp:Sp}(F:FnOk P w K mg base CX j f fd ps sp)(h:j<=k):
  FnOk P w K mg base CX k f fd ps sp:=⟨F.len,fun A outer s H args us vs Q E hr=>F.run A outer s H args us vs Q E (hr.mono h)⟩
theorem Env0.make{P:Program}{w:World}{K:W.Frag}{mg:Str->Option Value}{base:Heap}{A:Around}{outer:List Env}{s:Shared}{H:Hp}(e:Env0 P w K mg base A outer s H)(C:Addr)(us:List Value)(kw:List (Str×Value)):
  Env0 P w K mg base (A.under (.builtin "type.__call__" ⟨.ref C::us,kw⟩)) outer s H:=⟨by first |exact e.frames|(simpa[Around.under,Code.envs,Code.isFrame,pushEnvs]using e.frames),e.mod,e.bs,e.bsz,e.funs,e.frf,e.hok,e.bare⟩
section
variable{X:Cx}{pins:List (Addr×Obj)}{σ:St}{H:Hp}{s s':Shared}
theorem Inv.env0(I:Inv X pins σ H s):Env0 X.prog X.w X.K X.mg X.base X.A X.stack s H:=
 ⟨I.ok.frames,I.ok.mod,I.bs,yau I.ok.bsz I.sz,I.stack,I.stkFree,I.hok,I.bare⟩
theorem Inv.after{Q:VK}{u:Value}(I:Inv X pins σ H s)(h:CE X.stack X.prog X.w H s Q u s'):EP X pins σ Q u s':=by
 obtain⟨v,H',os,bare,un,hok,r,q⟩:=h
 obtain⟨hh,g,d,t,os'⟩:=s'
 obtain rfl:os'=s.os:=os
 exact⟨v,H',I.call (h':=hh) (g':=g) (d':=d) (t':=t) (ch:=[]) un hok bare (fun b z=>absurd z (by simp)),r,q⟩
end
noncomputable def tCall(sp:Sp)(dvs:List V)(E:XK)(t:TA):TE:=fun σ H Q=>t σ H fun vs H1=>sp (vs++dvs) H1 Q E
noncomputable def tMeth(C:Addr)(m:Str)(sp:Sp)(dvs:List V)(E:XK)(ta:TE)(t:TA):TE:=fun σ H Q=>ta σ H fun x H1=>∃a dx fs,x= .ref a/\H1 a=some (.ins C dx fs)/\fs.lookup m=none/\
 t σ H1 fun vs H2=>sp (x::(vs++dvs)) H2 Q E
noncomputable def tMake(C:Addr)(sp:Sp)(dvs:List V)(E:XK)(t:TA):TE:=fun σ H Q=>t σ H fun vs H1=>∀x dx,H1 x=none->H1 dx=none->dx≠x->
 sp (.ref x::(vs++dvs)) (upd (upd H1 dx (.own x)) x (.ins C dx [])) (fun v H2=>v= .non/\Q (.ref x) H2) E
noncomputable def Binds(K:W.Frag)(fd:FuncData)(ps:List Str)(ds:List Value):Prop:=
 ∀(s:Shared) (us:List Value),K.In s.heap->(us++ds).length=ps.length->BindsTo s fd ⟨us,[]⟩ (ps.zip (us++ds))
theorem Binds.all{K:W.Frag}{fd:FuncData}{ps:List Str}(h:∀us:List Value,us.length=ps.length->bindArgs fd ⟨us,[]⟩=pure (ps.zip us)):Binds K fd ps []:=fun s us _ hl=>by
 rw[ybo]at hl⊢
 exact .of_eq (h us hl)
noncomputable def Passes(CX:CXT)(X:Cx)(E:XK):Prop:=∀(pins:List (Addr×Obj)) (σ:St) (H:Hp) (s:Shared) (e:Value) (s':Shared),Inv X pins σ H s->CX X.stack H s E e s'->X.xe e s'
section
variable{X:Cx}{CX:CXT}{k:Nat}{f C:Addr}{fd:FuncData}{ps:List Str}{sp:Sp}{dvs:List V}{ds:List Value}{E:XK}{x m:Str}{p pos apos:Pos}{e o:Expr}{es:List Expr}{ta:TE}{t:TA}
theorem run_fn{pins:List (Addr×Obj)}{σ:St}{H:Hp}{s:Shared}{Q:VK}{us:List Value}{vs:List V}(F:FnOk X.prog X.w X.K X.mg X.base CX k f fd ps sp)(hr:Room k X.A)(hb:Binds X.K fd ps ds)(hd:Vals dvs ds)(hx:Passes CX X E)
  (I:Inv X pins σ H s)(r:Vals vs us)(h:sp (vs++dvs) H Q E):wpAny (model X.prog X.w) X.A (call (.ref f) us) (EP X pins σ Q) X.xe s:=by
 have r2:Vals (vs++dvs) (us++ds):=r.append hd
 have hl:(us++ds).length=ps.length:=by rw[<-r2.length];exact F.len _ _ _ _ h
 refine wpAny_call (codeAny_mono (F.run X.A X.stack s H ⟨us,[]⟩ (us++ds) (vs++dvs) Q E hr I.env0 (hb s us I.kIn hl) r2 h) fun r s' hq=> ?_)
 cases r with
 |error e=>exact hx pins σ H s e s' I hq
 |ok fl=>
  cases fl with
  |ret u=>exact I.after hq
  |next=>exact False.elim hq
  |brk=>exact False.elim hq
  |cont=>exact False.elim hq
theorem zag(F:FnOk X.prog X.w X.K X.mg X.base CX k f fd ps sp)(hr:Room k X.A)(hg:Gl X x)(hm:X.mg x=some (.ref f))(hk:PySem.W.keepIn X.K (.ref f)=true)(hb:Binds X.K fd ps ds)(hd:Vals dvs ds)(hx:Passes CX X E)(ha:PA X (e::es) t)(hdb:(x==("__debug__":Str))=false:=by decide)(he:starEach (e::es) X.env=(false,eval e X.env)::starEach es X.env:=by rfl)(hpl:(backTo pos (starEach es X.env)).any (·.1)=false:=by rfl):
  PE X (.Call (.Name x p) (e::es) [] pos) (tCall sp dvs E t):=by
 intro pins s σ H Q I h
 refine wpAny_Call_Name_kw (ld_glob I hg hm ?_ hdb)
 refine PySem.W.callWith_K (h₀:=X.base) I.ok.mod.kin hk (thn (ha pos pins s σ H _ I h) fun us s1 ⟨vs,H1,I1,r,q⟩=>⟨I1.kIn,?_⟩) he hpl
 exact run_fn F hr hb hd hx I1 r q
theorem pe_meth{pl:Sem Bool}(he:PE X o ta)(c:Cls X.K C)(hm:Meth X.K C m f)(F:FnOk X.prog X.w X.K X.mg X.base CX k f fd ps sp)(hr:Room k X.A)(hb:Binds X.K fd ps ds)(hd:Vals dvs ds)(hx:Passes CX X E)(ha:PA X (e::es) t)(hst:starEach (e::es) X.env=(false,eval e X.env)::starEach es X.env:=by rfl)(hpl:(backTo pos (starEach es X.env)).any (·.1)=false:=by rfl)(ht:eval (.Call (.Attribute o m apos) (e::es) [] pos) X.env=(do
   let ov<-eval o X.env
   standAt apos.atName
   let(f,first)<-holding [ov] (getMethod ov m pl)
   callWith pos f first (backTo pos (starEach (e::es) X.env)) (backToKw pos (keywordEach [] X.env))):=by rfl):
  PE X (.Call (.Attribute o m apos) (e::es) [] pos) (tMeth C m sp dvs E ta t):=by
 intro pins s σ H Q I h
 refine PySem.W.methodCall_KW (pl:=pl) (thn (he pins s σ H _ I h) fun u s1 ⟨x,H1,I1,rx,a,dx,fs,ex,ea,l,q⟩=> ?_) ht
 subst ex
 obtain rfl:u=Value.ref a:=rx
 refine getmeth_ok I1 ea c hm l ?_
 refine PySem.W.callWith_K (first:=[.ref a]) (h₀:=X.base) I.ok.mod.kin hm.kp (thn (ha pos pins s1 σ H1 _ I1 q) fun us s2 ⟨vs,H2,I2,r,q2⟩=>⟨I2.kIn,?_⟩) hst hpl
 exact run_fn (us:= .ref a::us) (vs:= .ref a::vs) F hr hb hd hx I2 (.cons rfl r) q2
theorem pe_meth0{pl:Sem Bool}(he:PE X o ta)(c:Cls X.K C)(hm:Meth X.K C m f)(F:FnOk X.prog X.w X.K X.mg X.base CX k f fd ps sp)(hr:Room k X.A)(hb:Binds X.K fd ps ds)(hd:Vals dvs ds)(hx:Passes CX X E)(ht:eval (.Call (.Attribute o m apos) [] [] pos) X.env=(do
   let ov<-eval o X.env
   standAt apos.atName
   let(f,first)<-holding [ov] (getMethod ov m pl)
   callWith pos f first (backTo pos (starEach [] X.env)) (backToKw pos (keywordEach [] X.env))):=by rfl):
  PE X (.Call (.Attribute o m apos) [] [] pos) (tMeth C m sp dvs E ta tNil):=by
 intro pins s σ H Q I h
 refine PySem.W.methodCall_KW (pl:=pl) (thn (he pins s σ H _ I h) fun u s1 ⟨x,H1,I1,rx,a,dx,fs,ex,ea,l,q⟩=> ?_) ht
 subst ex
 obtain rfl:u=Value.ref a:=rx
 refine getmeth_ok I1 ea c hm l ?_
 exact PySem.W.callWith_K0 (first:=[.ref a]) I1.kIn hm.kp (run_fn (us:=[.ref a]) (vs:=[.ref a]) F hr hb hd hx I1 (.cons rfl .nil) q)
structure Mk(K:W.Frag)(C f:Addr):Prop where
 makes:PySem.W.makesIn K C=true
 init:PySem.W.findIn K (.ref C) "__init__"=some (some (.ref f))
 fn:PySem.W.isFn K (.ref f)=true
 kp:PySem.W.keepIn K (.ref C)=true
theorem run_make{pins:List (Addr×Obj)}{σ:St}{H:Hp}{s:Shared}{Q:VK}{us:List Value}{vs:List V}(M:Mk X.K C f)(F:FnOk X.prog X.w X.K X.mg X.base CX k f fd ps sp)(hr:Room (k+1) X.A)(hb:Binds X.K fd ps ds)(hd:Vals dvs ds)(hx:Passes CX X E)(I:Inv X pins σ H s)(r:Vals vs us)(h:∀x dx,H x=none->H dx=none->dx≠x->sp (.ref x::(vs++dvs)) (upd (upd H dx (.own x)) x (.ins C dx [])) (fun v H2=>v= .non/\Q (.ref x) H2) E):
  wpAny (model X.prog X.w) X.A (call (.ref C) us) (EP X pins σ Q) X.xe s:=by
 have hq:=h (s.heap.objs.size+1) s.heap.objs.size (I.hok.fresh (ycr _)) (I.hok.fresh (yab _)) (yam (yba _))
 have I2:=Inv.made (C:=C) I
 have r2:Vals (V.ref (s.heap.objs.size+1)::(vs++dvs)) (Value.ref (s.heap.objs.size+1)::(us++ds)):= .cons rfl (r.append hd)
 have hl:(Value.ref (s.heap.objs.size+1)::us++ds).length=ps.length:=by
  have e:=r2.length
  rw[F.len _ _ _ _ hq]at e
  exact e.symm
 refine wpAny_call (make_map (f:=f) I.kIn M.makes M.init (beq_iff_eq.mp M.fn) (codeAny_mono (F.run _ X.stack _ _ ⟨Value.ref (s.heap.objs.size+1)::us,[]⟩ (Value.ref (s.heap.objs.size+1)::(us++ds)) _ _ E (hr.make C us [])
  (I2.env0.make C us []) (hb _ (Value.ref (s.heap.objs.size+1)::us) I2.kIn hl) r2 hq) fun r s' hq'=> ?_))
 cases r with
 |error e=>exact hx pins σ _ _ e s' I2 hq'
 |ok fl=>
  cases fl with
  |ret u=>
   obtain⟨v,H',I3,rv,ev,q3⟩:=I2.after hq'
   subst ev
   exact⟨rv,⟨V.ref (s.heap.objs.size+1),H',I3,rfl,q3⟩⟩
  |next=>exact False.elim hq'
  |brk=>exact False.elim hq'
  |cont=>exact False.elim hq'
theorem pe_make(M:Mk X.K C f)(F:FnOk X.prog X.w X.K X.mg X.base CX k f fd ps sp)(hr:Room (k+1) X.A)(hg:Gl X x)(hm:X.mg x=some (.ref C))(hb:Binds X.K fd ps ds)(hd:Vals dvs ds)(hx:Passes CX X E)(ha:PA X (e::es) t)(hdb:(x==("__debug__":Str))=false:=by decide)(he:starEach (e::es) X.env=(false,eval e X.env)::starEach es X.env:=by rfl)(hpl:(backTo pos (starEach es X.env)).any (·.1)=false:=by rfl):
  PE X (.Call (.Name x p) (e::es) [] pos) (tMake C sp dvs E t):=by
 intro pins s σ H Q I h
 refine wpAny_Call_Name_kw (ld_glob I hg hm ?_ hdb)
 refine PySem.W.callWith_K (h₀:=X.base) I.ok.mod.kin M.kp (thn (ha pos pins s σ H _ I h) fun us s1 ⟨vs,H1,I1,r,q⟩=>⟨I1.kIn,?_⟩) he hpl
 exact run_make M F hr hb hd hx I1 r q
end
section
variable{X:Cx}{CX:CXT}{k:Nat}{f C:Addr}{fd:FuncData}{ps ks:List Str}{sp:Sp}{E:XK}{x m:Str}{p pos apos kpos:Pos}{e o:Expr}{es:List Expr}{kws:List Keyword}{te ta:TE}{t tk:TA}{nm:Option Str}
variable{g:List Value->List Value->List Value}{gV:List V->List V->List V}
end
structure FnScope(N P:List Str)(sc:Scope):Prop where
 kind:sc.kind= .function
 co:sc.isCoroutine=false
 gen:sc.isGenerator=false
 nd:N.Nodup
 pre:N.take P.length=P
 par:∀x∈P,sc.names.lookup x=some .local\/sc.names.lookup x=some .cell
 nofree:∀y∈sc.names,y.2≠.free
theorem bindL_out{kindOf:Str->Option NameKind}{x:Str}:∀{binds:List (Str×Value)} {m:Str->Option Value},(∀v,(x,v)∉binds)->bindL kindOf binds m x=m x
 |[],_,_=>rfl
 |(n,v)::r,m,h=>by
  unfold bindL
  rw[bindL_out fun w hw=>h w (yai _ hw)]
  split
  ·have:x≠n:=by rintro rfl;exact h v yap
   simp[this]
  ·rfl
theorem bindC_out{kindOf:Str->Option NameKind}{x:Str}:∀{binds:List (Str×Value)} {m:Str->Option Value},(∀v,(x,v)∉binds)->bindC kindOf binds m x=m x
 |[],_,_=>rfl
 |(n,v)::r,m,h=>by
  unfold bindC
  rw[bindC_out fun w hw=>h w (yai _ hw)]
  split
  ·rfl
  ·have:x≠n:=by rintro rfl;exact h v yap
   simp[this]
theorem bindL_get{kindOf:Str->Option NameKind}{x:Str}{v:Value}:∀{P:List Str} {vs:List Value} {i:Nat} {m:Str->Option Value},P.Nodup->P[i]? =some x->vs[i]? =some v->kindOf x=some .local->
  bindL kindOf (P.zip vs) m x=some v
 |[],_,_,_,_,h,_,_=>by simp at h
 |_::_,[],_,_,_,_,h,_=>by simp at h
 |p::P,w::vs,0,m,nd,h1,h2,hk=>by
  simp at h1 h2;subst h1;subst h2
  show bindL kindOf ((p,w)::P.zip vs) m p=_
  unfold bindL
  rw[bindL_out fun v hv=>(ych.mp nd).1 (List.of_mem_zip hv).1,if_pos hk]
  simp
 |p::P,w::vs,i+1,m,nd,h1,h2,hk=>by
  show bindL kindOf ((p,w)::P.zip vs) m x=_
  unfold bindL
  exact bindL_get (i:=i) (ych.mp nd).2 (by simpa using h1) (by simpa using h2) hk
theorem bindC_get{kindOf:Str->Option NameKind}{x:Str}{v:Value}:∀{P:List Str} {vs:List Value} {i:Nat} {m:Str->Option Value},P.Nodup->P[i]? =some x->vs[i]? =some v->kindOf x≠some .local->
  bindC kindOf (P.zip vs) m x=some v
 |[],_,_,_,_,h,_,_=>by simp at h
 |_::_,[],_,_,_,_,h,_=>by simp at h
 |p::P,w::vs,0,m,nd,h1,h2,hk=>by
  simp at h1 h2;subst h1;subst h2
  show bindC kindOf ((p,w)::P.zip vs) m p=_
  unfold bindC
  rw[bindC_out fun v hv=>(ych.mp nd).1 (List.of_mem_zip hv).1,if_neg hk]
  simp
 |p::P,w::vs,i+1,m,nd,h1,h2,hk=>by
  show bindC kindOf ((p,w)::P.zip vs) m x=_
  unfold bindC
  exact bindC_get (i:=i) (ych.mp nd).2 (by simpa using h1) (by simpa using h2) hk
noncomputable def start(N:List Str)(vs:List V):St:=vs.map some++List.replicate (N.length-vs.length) none
noncomputable def cxOf(CX:CXT)(P:Program)(w:World)(K:W.Frag)(mg:Str->Option Value)(base:Heap)(N:List Str)(qual:Str)(scope:Scope)(f:Addr)(cd:Value)(A:Around)(outer:List Env)(s:Shared)(H:Hp)(E:XK):Cx where
 prog:=P
 w:=w
 K:=K
 mg:=mg
 base:=base
 A:=A.deeper (envOfC qual scope s.heap.objs.size f cd)
 N:=N
 s₀:=s
 H₀:=H
 env:=envOfC qual scope s.heap.objs.size f cd
 outer:=outer
 stack:=envOfC qual scope s.heap.objs.size f cd::outer
 ex:=[]
 calm:=true
 fn:=fun _=>true
 pn:=[]
 xe:=fun e s'=>wpAny (model P w) (A.deeper (envOfC qual scope s.heap.objs.size f cd)) (leaving (envOfC qual scope s.heap.objs.size f cd) e) (fun _ s''=>CX outer H s E e s'') (fun e' s''=>CX outer H s E e' s'') s'
theorem cell_has{sc:Scope}{n:Nat}{x:Str}(h:sc.names.lookup x=some .cell):∃c,(cellsFrom n sc.names []).lookup x=some c:=by
 have q:=PySem.W.cellsFrom_some sc.names n [] (.inl h)
 exact Option.isSome_iff_exists.mp q
theorem inv_start{CX:CXT}{P:Program}{w:World}{K:W.Frag}{mg:Str->Option Value}{base:Heap}{N ps:List Str}{qual:Str}{scope:Scope}{f:Addr}{cd:Value}{A:Around}{outer:List Env}{s s1:Shared}{H:Hp}{E:XK}{us:List Value}{vs:List V}
  (S:FnScope N ps scope)(hd:A.handled=none)(e0:Env0 P w K mg base A outer s H)(hl:vs.length=ps.length)(r:Vals vs us)(x:InCallC s s.heap.objs.size (bindL (envOfC qual scope s.heap.objs.size f cd).kindOf (ps.zip us) fun _=>none) (cellsFrom (s.heap.objs.size+1) scope.names []) (bindC (envOfC qual scope s.heap.objs.size f cd).kindOf (ps.zip us) fun _=>none) s1):
  Inv (cxOf CX P w K mg base N qual scope f cd A outer s H E) [] (start N vs) H s1:=by
 have hpl:ps.length<=N.length:=by have:=congrArg List.length S.pre;rw[ybs]at this;omega
 obtain⟨h1,tk,rfl,hk⟩:=x.done
 have noA:∀b:Addr,b∉(cxOf CX P w K mg base N qual scope f cd A outer s H E).ex:=fun b z=>absurd (show b∈([]:List Addr)from z) (by simp)
 refine⟨⟨e0.mod,S.kind,rfl,rfl,yab _,fun y z c h1 h2=> ?_,fun y hy=> ?_,fun y c _ h=> ?_,fun _=>hd,Around.frames_deeper e0.frames,.inr ⟨rfl,rfl⟩,fun b z=>absurd z (noA b),e0.bs,e0.bsz,fun b _ _=>noA b,fun b z=>absurd z (noA b),e0.funs,e0.frf⟩,
  rfl,e0.bare,Un.kept hk,⟨_,x.toInCall.ns,fun i y v h1 h2 h3=> ?_⟩,fun y c h=>⟨_,x.cell y c h⟩,e0.hok.fresh (yab _),fun y c h=> ?_,fun p hp=>absurd (show p∈([]:List (Addr×Obj))from hp) (by simp),e0.hok.kept hk,?_⟩
 ·exact name_of_addr x.apart (PySem.mem_of_lookup h1) (PySem.mem_of_lookup h2)
 ·have hy:scope.names.lookup y=some .cell\/scope.names.lookup y=some .free:=hy
  rcases hy with hy|hy
  ·exact cell_has hy
  ·exact absurd rfl (S.nofree _ (PySem.mem_of_lookup hy))
 ·exact yan (x.above y c (PySem.mem_of_lookup h))
 ·have hi:i<vs.length:=by
   unfold start at h2
   by_cases hi:i<vs.length
   ·exact hi
   ·rw[ycf (by simpa using hi)]at h2
    rw[List.getElem?_replicate]at h2
    split at h2<;>cases h2
  have ha:vs[i]? =some v:=by
   unfold start at h2
   rw[ydd (by simpa using hi),yae]at h2
   cases e:vs[i]? with
   |none=>rw[e]at h2;cases h2
   |some a=>rw[e]at h2;cases h2;rfl
  obtain⟨u,hu,rv⟩:=r.get ha
  have hp:ps[i]? =some y:=by
   rw[<-S.pre,List.getElem?_take_of_lt (by omega)];exact h1
  have ndP:ps.Nodup:=by rw[<-S.pre];exact S.nd.sublist (List.take_sublist _ _)
  refine⟨u,rv,?_⟩
  rcases S.par y (ybd hp)with k|k
  ·exact .inl ⟨k,bindL_get ndP hp hu k⟩
  ·obtain⟨c,e⟩:=cell_has (n:=s.heap.objs.size+1) k
   refine .inr ⟨.inl k,c,e,?_⟩
   have q:=x.cell y c e
   rw[bindC_get ndP hp hu (by show scope.names.lookup y≠_;rw[k];decide)]at q
   exact q
 ·exact e0.hok.fresh (yan (x.above y c (PySem.mem_of_lookup h)))
 ·unfold start
  show _=N.length
  rw[yat,yaa,ydp]
  omega
theorem fn_of{CX:CXT}{P:Program}{w:World}{K:W.Frag}{mg:Str->Option Value}{base:Heap}{k:Nat}{f:Addr}{name qual:Str}{params:Arguments}{body:List Stmt}{scope:Scope}{dV kV doc pm cdv ct oc:Value}{an od:Option Addr}{osl:Array (Option Value)}{N ps:List Str}{sp:Sp}(lk:K.lookup f=some ⟨oc,od,.func (PySem.W.fnOf name qual params body scope dV kV doc pm an cdv ct),osl⟩)(hcd:PySem.W.codeIn K cdv qual=true)(S:FnScope N ps scope)(len:∀vs H Q E,sp vs H Q E->vs.length=ps.length)(hbody:∀(A:Around) (outer:List Env) (s:Shared) (H:Hp) (vs:List V) (Q:VK) (E:XK),Room k (A.deeper (envOfC qual scope s.heap.objs.size f cdv))->sp vs H Q E->
   ∃t,PSs (cxOf CX P w K mg base N qual scope f cdv A outer s H E) body t/\t {nx:=fun _ H'=>Q .non H',rt:=Q} (start N vs) H):
  FnOk P w K mg base CX (k+1) f (PySem.W.fnOf name qual params body scope dV kV doc pm an cdv ct) ps sp:=by
 refine⟨len,fun A outer s H args us vs Q E hr e0 hb r hsp=> ?_⟩
 have hl:=len _ _ _ _ hsp
 have KX:K.In s.heap:=e0.mod.kin.keeps fun b o e=>(e0.bs b o e).1
 have lim:s.heap.NoLimit:=e0.mod.nolimit.keeps fun b o e=>(e0.bs b o e).1
 have hkind:∀y∈ps.zip us,scope.names.lookup y.1=some .local\/(scope.names.lookup y.1=some .cell/\((cellsFrom (s.heap.objs.size+1) scope.names []).lookup y.1).isSome=true):=fun⟨n,v⟩ hy=>by
  rcases S.par n (List.of_mem_zip hy).1 with q|q
  ·exact .inl q
  ·exact .inr ⟨q,PySem.W.cellsFrom_some _ _ _ (.inl q)⟩
 refine codeAny_call_function hr.depth (KX _ _ lk) rfl S.co S.gen rfl (PySem.W.codeRec_of KX hcd) (hb _ _ _ _ ?_)
 refine wpAny_newFunctionEnv_cells S.kind hkind fun env he s1 x=> ?_
 subst he
 refine⟨lim.keeps x.toInCall.keep,codeAny_func ?_⟩
 obtain⟨t,ht,hq⟩:=hbody A outer s H vs Q E (hr.deeper _) hsp
 have I:Inv (cxOf CX P w K mg base N qual scope f cdv A outer s H E) [] (start N vs) H s1:=inv_start S hr.hd e0 hl r x
 refine wpAny_mono (ht [] s1 (start N vs) H _ I hq) (fun fl s' hs=> ?_) fun e s' hs=>hs
 have fin:∀{σ':St} {H':Hp} {v:V} {u:Value},Inv (cxOf CX P w K mg base N qual scope f cdv A outer s H E) [] σ' H' s'->RelV v u->Q v H'->CE outer P w H s Q u s':=
  fun{σ' H' v u} J rv q=>⟨v,H',J.os,J.bare,J.base,J.hok,rv,q⟩
 cases fl with
 |ret u=>
  obtain⟨v,σ',H',J,rv,q⟩:=hs
  exact fin J rv q
 |next=>
  obtain⟨σ',H',J,q⟩:=hs
  exact fin (v:=V.non) (u:=Value.none) J rfl q
 |brk=>
  obtain⟨_,_,_,q⟩:=hs
  exact False.elim q
 |cont=>
  obtain⟨_,_,_,q⟩:=hs
  exact False.elim q
section
variable{X:Cx}{x:Str}{p pos:Pos}{e:Expr}{es:List Expr}{t:TA}{id T:String}{r:List V->Hp->VK->Prop}
noncomputable def tCB(r:List V->Hp->VK->Prop)(t:TA):TE:=fun σ H Q=>t σ H fun vs H1=>r vs H1 Q
theorem zam(hc:CallR X (.builtin id) r)(hg:Gl X x)(hm:X.mg x=none)(hv:bootBuiltins x=some (.builtin id))(ha:PA X (e::es) t)(hn:x≠"__name__":=by decide)(hdb:(x==("__debug__":Str))=false:=by decide)(he:starEach (e::es) X.env=(false,eval e X.env)::starEach es X.env:=by rfl)(hpl:(backTo pos (starEach es X.env)).any (·.1)=false:=by rfl):PE X (.Call (.Name x p) (e::es) [] pos) (tCB r t):=by
 intro pins s σ H Q I h
 refine wpAny_Call_Name_kw (ld_blt I hg hm hv ?_ hn hdb)
 exact PyProof.Rows.callWith_builtin1 (thn (ha pos pins s σ H _ I h) fun us s1 ⟨vs,H1,I1,r1,q1⟩=>hc pins s1 σ H1 vs us Q I1 r1 q1) he hpl
theorem zcj(hc:CallR X (.type T) r)(hg:Gl X x)(hm:X.mg x=none)(hv:bootBuiltins x=some (.type T))(ha:PA X (e::es) t)(hn:x≠"__name__":=by decide)(hdb:(x==("__debug__":Str))=false:=by decide)(he:starEach (e::es) X.env=(false,eval e X.env)::starEach es X.env:=by rfl)(hpl:(backTo pos (starEach es X.env)).any (·.1)=false:=by rfl):PE X (.Call (.Name x p) (e::es) [] pos) (tCB r t):=by
 intro pins s σ H Q I h
 refine wpAny_Call_Name_kw (ld_blt I hg hm hv ?_ hn hdb)
 exact PyProof.Rows.callWith_type1 (thn (ha pos pins s σ H _ I h) fun us s1 ⟨vs,H1,I1,r1,q1⟩=>hc pins s1 σ H1 vs us Q I1 r1 q1) he hpl
end
end L2
namespace HT
open PySem PyProof.Rows
noncomputable def lexLt:List Int->List Int->Bool
 |[],[]=>false
 |[],_::_=>true
 |_::_,[]=>false
 |x::xs,y::ys=>if x=y then lexLt xs ys else decide (x<y)
theorem lexLt_cons(x y:Int)(xs ys:List Int):lexLt (x::xs) (y::ys)=if x=y then lexLt xs ys else decide (x<y):=rfl
theorem lexLt_nil_nil:lexLt [] []=false:=rfl
theorem lexLt_nil_cons(y:Int)(ys:List Int):lexLt [] (y::ys)=true:=rfl
theorem lexLt_cons_nil(x:Int)(xs:List Int):lexLt (x::xs) []=false:=rfl
theorem eqAt_int(A:Around)(s:Shared)(a:Int)(t:Tok)(c:Int)(u:Tok):∃e,SeqAt.EqAt A s (.int a t) (.int c u) e/\(e=true↔a=c):=
 ⟨(a==c),SeqAt.EqAt.int_int a t c u,by simp⟩
theorem rcLt_int(A:Around)(s:Shared)(a:Int)(t:Tok)(c:Int)(u:Tok)(prog:Program)(w:World)(E:Value->Shared->Prop)(Q:Value->Shared->Prop)(h:Q (.bool (decide (a<c))) s):
  wpAny (model prog w) A (richCompare .Lt (.int a t) (.int c u)) Q E s:=
 (PyProof.Rows.lt_int h:wpAny (model prog w) A (compareOp .Lt (.int a t) (.int c u)) Q E s)
section
open PySem.SeqAt
open PySem.AutoSeq1 (wpAny_loadPart')
open PySem.MeetsSeq PySem.MeetsSeq2 PySem.MeetsSeq3
theorem tuple_lt_ints(l b:Addr)(items items2:Array Value)(n n2:Nat)(dd dd2:Option Addr)(sl sl2:Array (Option Value))(ns ms:List Int)(hi:IntsAre items.toList ns)(hj:IntsAre items2.toList ms):
  Meets (Builtin.«tuple.__lt__» ⟨[.ref l,.ref b],[]⟩)
   (fun _ R s=>s.heap.get? l=some {cls:= .type "tuple",dict:=dd,data:= .seq items n,slots:=sl}/\s.heap.get? b=some {cls:= .type "tuple",dict:=dd2,data:= .seq items2 n2,slots:=sl2}/\
    R (.ok (.ret (.bool (lexLt ns ms)))) s):=
 .of_wp fun prog w A R s h=>by
  obtain⟨hp,g,d,tk,os⟩:=s;obtain⟨hl,hb,h⟩:=h
  have f2:=AutoSeq1.sub_tuple_tuple
  have z1:items.size=ns.length:=by rw[<-hi.length];simp
  have z2:items2.size=ms.length:=by rw[<-hj.length];simp
  wp_walk using wpAny_loadPart' hl,wpAny_loadPart' hb,wpAny_forIn_list _ (fun rest b s'=>b.1=none/\s'=⟨hp,g,d,tk,os⟩/\∃(vs ws:List Value) (ns' ms':List Int),rest=vs.zip ws/\
   IntsAre vs ns'/\IntsAre ws ms'/\ns'.length+items2.size=ms'.length+items.size/\R (.ok (.ret (.bool (lexLt ns' ms')))) ⟨hp,g,d,tk,os⟩) _
  case turn=>
   rintro⟨y,x⟩ rest b s' ⟨hb',rfl,vs,ws,ns',ms',hz,hvi,hwi,hlen,hR⟩
   cases hvi with
   |nil=>rw[List.zip_nil_left]at hz;cases hz
   |cons a t hvi'=>
    cases hwi with
    |nil=>rw[List.zip_nil_right]at hz;cases hz
    |cons c u hwi'=>
     rw[List.zip_cons_cons]at hz
     injection hz with hyx hrest
     injection hyx with hy hx
     subst hy hx
     rw[lexLt_cons]at hR
     simp only[ybh]at hlen
     obtain⟨e,he,hiff⟩:=eqAt_int A.in1 ⟨hp,g,d,tk,os⟩ a t c u
     refine wpAny_bind (he prog w _ _ ?_)
     cases e with
     |true=>
      rw[if_pos (hiff.mp rfl)]at hR
      wp_walk
      exact⟨rfl,rfl,_,_,_,_,hrest,hvi',hwi',by omega,hR⟩
     |false=>
      rw[if_neg (fun q=>absurd (hiff.mpr q) Bool.false_ne_true)]at hR
      have hri:=rcLt_int A.in1 ⟨hp,g,d,tk,os⟩ a t c u prog w
      wp_walk using hri
      exact⟨_,rfl,by simpa using hR⟩
  case fin=>
   rintro⟨b1,b2⟩ s' ⟨hb',rfl,vs,ws,ns',ms',hz,hvi,hwi,hlen,hR⟩
   simp only at hb'
   subst hb'
   have hv:lexLt ns' ms'=decide (items.size<items2.size):=by
    cases hvi with
    |nil=>
     cases hwi with
     |nil=>
      simp only[ydg]at hlen
      rw[lexLt_nil_nil]
      exact(decide_eq_false (by omega)).symm
     |cons c u hw=>
      simp only[ydg,ybh]at hlen
      rw[lexLt_nil_cons]
      exact(decide_eq_true (by omega)).symm
    |cons a t hv=>
     cases hwi with
     |nil=>
      simp only[ydg,ybh]at hlen
      rw[lexLt_cons_nil]
      exact(decide_eq_false (by omega)).symm
     |cons c u hw=>
      rw[List.zip_cons_cons]at hz
      cases hz
   rw[hv]at hR
   wp_walk
   exact⟨_,rfl,by simpa[Builtin.Tuple.tupleCompareSizes]using hR⟩
  case h=>
   exact⟨rfl,rfl,items.toList,items2.toList,ns,ms,rfl,hi,hj,by omega,h⟩
end
section
variable{prog:Program}{w:World}{A:Around}{E:Value->Shared->Prop}{s:Shared}
theorem lt_tupInts{l b:Addr}{items items2:Array Value}{ns ms:List Int}{Q:Value->Shared->Prop}(hl:IsTup s.heap l items)(hb:IsTup s.heap b items2)(hi:IntsAre items.toList ns)(hj:IntsAre items2.toList ms)(hu:A.units<cLine)(h:Q (.bool (lexLt ns ms)) s):wpAny (model prog w) A (compareOp .Lt (.ref l) (.ref b)) Q E s:=by
 obtain⟨⟨cls,dd,data,sl⟩,ho,hc,n,hd⟩:=id hl
 obtain⟨⟨cls2,dd2,data2,sl2⟩,ho2,hc2,n2,hd2⟩:=id hb
 simp only at hc hd hc2 hd2
 subst hc hd hc2 hd2
 exact richCompare_meets_room (op:= .Lt) ⟨_,ho,rfl⟩ ⟨_,ho2,rfl⟩ PySem.F.slot_tuple_lt PySem.F.entry_tuple_lt (PySem.F.args_tuple_lt_2 _ _) (tuple_lt_ints l b items items2 n n2 dd dd2 sl sl2 ns ms hi hj)
  ⟨ho,ho2,show Value.bool (lexLt ns ms)≠Value.notImplemented/\Q (.bool (lexLt ns ms)) s from⟨(fun x=>nomatch x),h⟩⟩ hu
theorem cat_tup{t b:Addr}{vs ws:List Value}{Q:Value->Shared->Prop}(ht:IsTup s.heap t vs.toArray)(hb:IsTup s.heap b ws.toArray)(hv:vs≠[])(h1:ws=[]->Q (.ref t) s)(h2:ws≠[]->Q (.ref s.heap.objs.size) {s with heap:=s.heap.push {cls:= .type "tuple",data:= .seq (vs++ws).toArray}})(hsz:vs.length+ws.length<=sizeLine):wpAny (model prog w) A (binaryOp .Add (.ref t) (.ref b)) Q E s:=by
 obtain⟨⟨cls,dd,data,sl⟩,ho,hc,n,hd⟩:=id ht
 obtain⟨⟨cls2,dd2,data2,sl2⟩,ho2,hc2,n2,hd2⟩:=id hb
 simp only at hc hd hc2 hd2
 subst hc hd hc2 hd2
 have e:vs.toArray++ws.toArray=(vs++ws).toArray:=by simp
 by_cases hw:ws=[]
 ·exact concat_meets ⟨_,ho,rfl⟩ ⟨_,ho2,rfl⟩ noFill_tuple_add seq_tuple_add PySem.F.slot_tuple_add PySem.F.entry_tuple_add (PySem.F.args_tuple_add_2 _ _)
   (tuple_addW1 t b vs.toArray ws.toArray n n2 dd dd2 sl sl2 (by simpa using hv) (by simp[hw])) ⟨ho,ho2,h1 hw⟩
 ·refine concat_meets ⟨_,ho,rfl⟩ ⟨_,ho2,rfl⟩ noFill_tuple_add seq_tuple_add PySem.F.slot_tuple_add PySem.F.entry_tuple_add (PySem.F.args_tuple_add_2 _ _)
   (tuple_addW2 t b vs.toArray ws.toArray n n2 dd dd2 sl sl2 (by simpa using hv) (by simpa using hw) (by rw[yah,yah];exact hsz)) ⟨ho,ho2,?_⟩
  rw[e]
  exact h2 hw
noncomputable def sIx(n d:Nat):Option Int->Nat
 |none=>d
 |some v=>if v<0 then(v+(n:Int)).toNat else min v.toNat n
theorem sIx_none(n d:Nat):sIx n d none=d:=rfl
theorem sIx_nat(n d k:Nat):sIx n d (some (k:Int))=min k n:=by
 show(if(k:Int)<0 then((k:Int)+(n:Int)).toNat else min (k:Int).toNat n)=min k n
 rw[if_neg (by omega),ybg]
theorem sIx_le(n d:Nat)(hd:d<=n)(o:Option Int):sIx n d o<=n:=by
 cases o with
 |none=>exact hd
 |some v=>
  show(if v<0 then(v+(n:Int)).toNat else min v.toNat n)<=n
  by_cases hv:v<0
  ·rw[if_pos hv];omega
  ·rw[if_neg hv];exact Nat.min_le_right _ _
theorem clip_eq(v:Int)(n d:Nat):(if v<0 then max (v+(n:Int)) 0 else min v (n:Int))=((sIx n d (some v):Nat):Int):=by
 show(if v<0 then max (v+(n:Int)) 0 else min v (n:Int))=(((if v<0 then(v+(n:Int)).toNat else min v.toNat n):Nat):Int)
 by_cases hv:v<0
 ·simp only[if_pos hv];omega
 ·simp only[if_neg hv];omega
theorem adjust_gen(lo hi:Option Int)(n:Nat):Builtin.Slice.sliceAdjust lo hi 1 (n:Int)=(((sIx n 0 lo:Nat):Int),((sIx n n hi:Nat):Int)):=by
 have h1:¬((1:Int)<0):=by omega
 unfold Builtin.Slice.sliceAdjust
 simp only[h1,if_false]
 refine Prod.ext ?_ ?_
 ·cases lo with
  |none=>rfl
  |some v=>exact clip_eq v n 0
 ·cases hi with
  |none=>rfl
  |some v=>exact clip_eq v n n
theorem places_gen(i j:Nat):Builtin.Slice.slicePlaces (i:Int) (j:Int) 1=j-i:=by
 unfold Builtin.Slice.slicePlaces
 have h1:(1:Int)>0:=by omega
 simp only[h1,if_true,Int.ediv_one]
 split<;>omega
theorem slicePart_{v:Value}{o:Option Int}{Q:Option Int->Shared->Prop}(p:IsPart v o)(h:Q o s):wpAny (model prog w) A (Builtin.Slice.slicePartIndex v) Q E s:=by
 cases p with
 |none=>exact slicePart_none h
 |int i t=>exact slicePart_int h
theorem sliceApplied_gen{sl:Addr}{vl vu:Value}{lo hi:Option Int}{n:Nat}{Q:Int×Int×Nat->Shared->Prop}(hs:s.heap.IsSliceOf sl vl vu .none)(pl:IsPart vl lo)(pu:IsPart vu hi)(h:Q (((sIx n 0 lo:Nat):Int),1,sIx n n hi-sIx n 0 lo) s):wpAny (model prog w) A (Builtin.Slice.sliceApplied (.ref sl) (pure (n:Int))) Q E s:=by
 obtain⟨os,hos,hcs,hds⟩:=id hs
 unfold Builtin.Slice.sliceApplied Builtin.Slice.sliceFields
 refine wpAny_bind (wpAny_bind (wpAny_field hos hds (x:=vl) rfl (wpAny_bind (wpAny_field hos hds (x:=vu) rfl (wpAny_bind (wpAny_field hos hds (x:= .none) rfl (wpAny_pure ?_)))))))
 refine wpAny_bind (slicePart_none ?_)
 show wpAny _ _ (if((1:Int)==0)=true then _ else _) _ _ s
 rw[if_neg (by decide)]
 refine wpAny_bind (slicePart_ pl (wpAny_bind (slicePart_ pu (wpAny_bind (wpAny_pure ?_)))))
 show wpAny _ _ (match Builtin.Slice.sliceAdjust lo hi 1 (n:Int)with |(lo,hi)=>pure (lo,(1:Int),Builtin.Slice.slicePlaces lo hi 1)) _ _ s
 rw[adjust_gen lo hi n]
 show wpAny _ _ (pure (((sIx n 0 lo:Nat):Int),(1:Int),Builtin.Slice.slicePlaces ((sIx n 0 lo:Nat):Int) ((sIx n n hi:Nat):Int) 1)) _ _ s
 rw[places_gen]
 exact wpAny_pure h
theorem pick_gen(xs:Array Value)(i k:Nat):((List.range k).filterMap fun(m:Nat)=>xs[((i:Int)+(m:Int)*1).toNat]?).toArray=((xs.toList.drop i).take k).toArray:=by
 have e:(fun(m:Nat)=>xs[((i:Int)+(m:Int)*1).toNat]?)=fun m=>xs[i+m]? :=by
  funext m
  have:((i:Int)+(m:Int)*1).toNat=i+m:=by omega
  rw[this]
 rw[e]
 have:=pick_run xs i k
 rw[List.filterMap_map]at this
 have e2:((fun x=>xs[x]?)∘fun x=>i+x)=fun m=>xs[i+m]? :=rfl
 rw[e2]at this
 rw[this]
theorem getItem_tuple_cut{t sl:Addr}{items:Array Value}{vl vu:Value}{lo hi:Option Int}{Q:Value->Shared->Prop}(ht:IsTup s.heap t items)(hs:s.heap.IsSliceOf sl vl vu .none)(pl:IsPart vl lo)(pu:IsPart vu hi)(hw:¬(sIx items.size 0 lo=0/\sIx items.size items.size hi=items.size))(h:Q (.ref s.heap.objs.size) {s with heap:=s.heap.push {cls:= .type "tuple",data:= .seq ((items.toList.drop (sIx items.size 0 lo)).take (sIx items.size items.size hi-sIx items.size 0 lo)).toArray}})(hsz:items.size<=sizeLine):wpAny (model prog w) A (getItem (.ref t) (.ref sl)) Q E s:=by
 have htake:sizeOk (.seq ((items.toList.drop (sIx items.size 0 lo)).take (sIx items.size items.size hi-sIx items.size 0 lo)).toArray):=by
  show((items.toList.drop (sIx items.size 0 lo)).take (sIx items.size items.size hi-sIx items.size 0 lo)).toArray.size<=sizeLine
  rw[yah,ybs,List.length_drop,ybb]
  omega
 have hj:sIx items.size items.size hi<=items.size:=sIx_le _ _ (yab _) hi
 obtain⟨os,hos,hcs,hds⟩:=id hs
 have hTs:s.TypeIs (.ref sl) "slice":=⟨os,hos,hcs⟩
 unfold getItem
 try with_reducible refine wpAny_holding ?_
 first |refine wpAny_bind (wpAny_pure ?_)|skip
 refine wpAny_bind (wpAny_sequenceKey ht.typeIs (by decide) ?_)
 refine wpAny_bind (wpAny_callSpecial?_slot (name:=Str.ofString "__getitem__") ht.typeIs PyProof.Rows.slot_tuple_getitem
  (wpAny_call_entry PyProof.Rows.slot_tuple_getitem ht.typeIs entry_tuple_getitem ?_ (args_tuple_getitem _ _)))
 show wpAny _ _ (Builtin.Tuple.tupleItemsOf (.ref t)>>=_) _ _ s
 refine wpAny_bind (tupleItemsOf_ ht ?_)
 refine wpAny_bind (wpAny_typeOf hTs ?_)
 rw[if_pos (by decide)]
 refine wpAny_bind (sliceApplied_gen hs pl pu ?_)
 have hno:¬((((sIx items.size 0 lo:Nat):Int)==0&&(1:Int)==1&&(sIx items.size items.size hi-sIx items.size 0 lo)==items.size)=true):=by
  intro q
  rw[Bool.and_eq_true,Bool.and_eq_true]at q
  have q1:((sIx items.size 0 lo:Nat):Int)=0:=eq_of_beq q.1.1
  have q2:sIx items.size items.size hi-sIx items.size 0 lo=items.size:=eq_of_beq q.2
  exact hw ⟨by omega,by omega⟩
 show wpAny _ _ (if(((sIx items.size 0 lo:Nat):Int)==0&&(1:Int)==1&&(sIx items.size items.size hi-sIx items.size 0 lo)==items.size)=true then _ else _) _ _ s
 rw[if_neg hno,pick_gen]
 first
  |exact wpAny_bind (m:=Builtin.Tuple.tupleExact _) (wpAny_newObj_type (wpAny_pure ⟨_,rfl,wpAny_pure h⟩) htake)
  |exact wpAny_bind (m:=Builtin.Tuple.tupleExact _) (wpAny_newObj_type (wpAny_bind (wpAny_pure (wpAny_pure ⟨_,rfl,wpAny_pure h⟩))) htake)
  |exact wpAny_bind (wpAny_bind (m:=Builtin.Tuple.tupleExact _) (wpAny_newObj_type (wpAny_pure (wpAny_pure ⟨_,rfl,wpAny_pure h⟩)) htake))
  |exact wpAny_bind (wpAny_bind (m:=Builtin.Tuple.tupleExact _) (wpAny_newObj_type (wpAny_pure ⟨_,rfl,wpAny_pure h⟩) htake))
end
end HT
namespace L2
open PySem PySem.Spec PyProof.Rows
noncomputable abbrev TO:=St->Hp->(Option Int->Hp->Prop)->Prop
noncomputable def PO(X:Cx)(e:Option Expr)(t:TO):Prop:=
 ∀(pins:List (Addr×Obj)) (s:Shared) (σ:St) (H:Hp) (Q:Option Int->Hp->Prop),Inv X pins σ H s->t σ H Q->
  wpAny (model X.prog X.w) X.A (evalPart e X.env) (fun u s'=>∃o H',Inv X pins σ H' s'/\IsPart u o/\Q o H') X.xe s
noncomputable def tNoPart:TO:=fun _ H Q=>Q none H
noncomputable def tPart(t:TE):TO:=fun σ H Q=>t σ H fun x H1=>∃i,x= .int i/\Q (some i) H1
theorem intsAre_of{ns:List Int}:∀{us:List Value},Vals (ns.map V.int) us->IntsAre us ns:=by
 induction ns with
 |nil=>intro us r;rw[List.map_nil]at r;cases r;exact .nil
 |cons n ns ih=>
  intro us r
  rw[ybz]at r
  cases r with
  |cons r1 r2=>
   obtain⟨t,e⟩:=r1
   subst e
   exact .cons n t (ih r2)
section
variable{X:Cx}{e:Expr}{te:TE}{lo hi:Option Expr}{tl th:TO}{pos p2:Pos}
theorem po_none:PO X none tNoPart:=by
 intro pins s σ H Q I h
 rw[evalPart_none]
 exact wpAny_pure ⟨none,H,I,.none,h⟩
theorem po_some(h:PE X e te):PO X (some e) (tPart te):=by
 intro pins s σ H Q I hw
 rw[evalPart_some]
 refine thn (h pins s σ H _ I hw) fun u s1 ⟨x,H1,I1,r1,q1⟩=> ?_
 obtain⟨i,rfl,q⟩:=q1
 obtain⟨t,rfl⟩:=r1
 exact⟨some i,H1,I1,.int i t,q⟩
noncomputable def SlR(X:Cx)(r:V->Option Int->Option Int->Hp->VK->Prop):Prop:=
 ∀(pins:List (Addr×Obj)) (s:Shared) (σ:St) (H:Hp) (x:V) (v vl vu:Value) (lo hi:Option Int) (sl:Addr) (Q:VK),Inv X pins σ H s->RelV x v->s.heap.IsSliceOf sl vl vu .none->IsPart vl lo->IsPart vu hi->r x lo hi H Q->
  ∃T id,typeLookup (.type T) "__getitem__"=pure (some (.builtin id))/\s.TypeIs v T/\wpAny (model X.prog X.w) X.A (getItem v (.ref sl)) (EP X pins σ Q) X.xe s
noncomputable def tSl(r:V->Option Int->Option Int->Hp->VK->Prop)(te:TE)(tl th:TO):TE:=fun σ H Q=>te σ H fun x H1=>tl σ H1 fun l H2=>th σ H2 fun u H3=>r x l u H3 Q
theorem pe_slice{r:V->Option Int->Option Int->Hp->VK->Prop}(hr:SlR X r)(he:PE X e te)(hl:PO X lo tl)(hu:PO X hi th):PE X (.Subscript e (.Slice lo hi none p2) pos) (tSl r te tl th):=by
 intro pins s σ H Q I h
 refine Subscript_ (thn (he pins s σ H _ I h) fun v s1 ⟨x,H1,I1,r1,q1⟩=> ?_)
 refine wpAny_Slice (thn (hl pins s1 σ H1 _ I1 q1) fun vl s2 ⟨l,H2,I2,pl,q2⟩=>thn (hu pins s2 σ H2 _ I2 q2) fun vu s3 ⟨u,H3,I3,pu,q3⟩=> ?_)
 rw[evalPart_none]
 refine wpAny_pure ?_
 have I4:Inv X pins σ H3 {s3 with heap:=s3.heap.push {cls:= .type "slice",data:= .fields #[vl,vu,.none]}}:=I3.kept (t':=s3.toks) fun b ob q=>yad _ q
 obtain⟨T,id,hT,ht,hg⟩:=hr pins {s3 with heap:=s3.heap.push {cls:= .type "slice",data:= .fields #[vl,vu,.none]}} σ H3 x v vl vu l u s3.heap.objs.size Q I4 r1 (Heap.IsSliceOf.new ..) pl pu q3
 show wpAny (model X.prog X.w) X.A (subscriptTail e (.Slice lo hi none p2) v (.ref s3.heap.objs.size)) (EP X pins σ Q) X.xe {s3 with heap:=s3.heap.push {cls:= .type "slice",data:= .fields #[vl,vu,.none]}}
 exact tail_any (ops:=[.ref s3.heap.objs.size,v]) ht hT hg (by with_unfolding_all rfl)
noncomputable def cutV(xs:List V)(lo hi:Option Int):List V:=(xs.drop (HT.sIx xs.length 0 lo)).take (HT.sIx xs.length xs.length hi-HT.sIx xs.length 0 lo)
theorem cutV_length(xs:List V)(lo hi:Option Int):(cutV xs lo hi).length<=xs.length:=by
 unfold cutV
 rw[ybs,List.length_drop]
 omega
noncomputable def rSlT(K:W.Frag):V->Option Int->Option Int->Hp->VK->Prop:=fun x lo hi H Q=>∃a xs,x= .ref a/\SqT K H a xs/\
 ¬(HT.sIx xs.length 0 lo=0/\HT.sIx xs.length xs.length hi=xs.length)/\∀p,H p=none->Q (.ref p) (upd H p (.tup (cutV xs lo hi)))
theorem sl_tup:SlR X (rSlT X.K):=by
 intro pins s σ H x v vl vu lo hi sl Q I rx hs pl pu h
 obtain⟨a,xs,rfl,hx,hw,q⟩:=h
 cases rx
 obtain⟨its,r,ht,hz⟩:=I.tuple hx
 have hlen:its.toArray.size=xs.length:=by rw[yah];exact r.length.symm
 refine⟨"tuple",_,PyProof.Rows.slot_tuple_getitem.lookup,ht.typeIs,?_⟩
 refine HT.getItem_tuple_cut ht hs pl pu (by rw[hlen];exact hw) ?_ (by rw[hlen];exact hz)
 rw[hlen]
 refine⟨.ref s.heap.objs.size,_,I.laid (t':=s.toks) (o:= .tup (cutV xs lo hi)) (fun b ob q=>yad _ q) (yab _) ?_,rfl,q _ (I.hok.fresh (yab _))⟩
 exact⟨yau (cutV_length xs lo hi) hz,_,(r.drop (HT.sIx xs.length 0 lo)).take (HT.sIx xs.length xs.length hi-HT.sIx xs.length 0 lo),IsTup.new _ _⟩
noncomputable def rLtT(K:W.Frag):R2:=fun x y H Q=>∃a b ns ms,x= .ref a/\y= .ref b/\SqT K H a (ns.map V.int)/\SqT K H b (ms.map V.int)/\Q (.bl (HT.lexLt ns ms)) H
theorem op_ltT(hu:X.A.units<cLine):OpR X (compareOp .Lt) (rLtT X.K):=by
 intro pins s σ H x y v u Q I rx ry h
 obtain⟨a,b,ns,ms,rfl,rfl,ha,hb,q⟩:=h
 cases rx
 cases ry
 obtain⟨its,r1,p1,_⟩:=I.tuple ha
 obtain⟨its2,r2,p2,_⟩:=I.tuple hb
 have i1:IntsAre its.toArray.toList ns:=intsAre_of r1
 have i2:IntsAre its2.toArray.toList ms:=intsAre_of r2
 exact HT.lt_tupInts p1 p2 i1 i2 hu ⟨.bl (HT.lexLt ns ms),H,I,rfl,q⟩
noncomputable def rCatT(K:W.Frag):R2:=fun x y H Q=>∃a b xs ys,x= .ref a/\y= .ref b/\SqT K H a xs/\SqT K H b ys/\xs≠[]/\xs.length+ys.length<=sizeLine/\
 (ys=[]->Q (.ref a) H)/\(ys≠[]->∀p,H p=none->Q (.ref p) (upd H p (.tup (xs++ys))))
theorem Vals.nil_iff{xs:List V}{us:List Value}(r:Vals xs us):us=[]↔xs=[]:=by
 cases r with
 |nil=>simp
 |cons _ _=>simp
theorem op_catT:OpR X (binaryOp .Add) (rCatT X.K):=by
 intro pins s σ H x y v u Q I rx ry h
 obtain⟨a,b,xs,ys,rfl,rfl,ha,hb,hx,hz,q1,q2⟩:=h
 cases rx
 cases ry
 obtain⟨its,r1,p1,_⟩:=I.tuple ha
 obtain⟨its2,r2,p2,_⟩:=I.tuple hb
 refine HT.cat_tup p1 p2 (fun z=>hx (r1.nil_iff.mp z)) (fun z=>⟨.ref a,H,I,rfl,q1 (r2.nil_iff.mp z)⟩) (fun z=> ?_) (by rw[<-r1.length,<-r2.length];exact hz)
 refine⟨.ref s.heap.objs.size,_,I.laid (t':=s.toks) (o:= .tup (xs++ys)) (fun b ob q=>yad _ q) (yab _) ?_,rfl,q2 (fun w=>z (r2.nil_iff.mpr w)) _ (I.hok.fresh (yab _))⟩
 exact⟨by rw[yat];exact hz,_,r1.append r2,IsTup.new _ _⟩
end
noncomputable def ixN(n:Nat)(i:Int):Option Nat:=if 0<=i then(if i<n then some i.toNat else none)else if -(n:Int)<=i then some (i+n).toNat else none
noncomputable def atI{α:Type}(xs:List α)(i:Int):Option α:=(ixN xs.length i).bind fun j=>xs[j]?
theorem ixN_seq{n:Nat}{i:Int}{j:Nat}(h:ixN n i=some j):seqIndex? i n=some j/\j<n/\ -(n:Int)<=i/\i<n:=by
 unfold ixN at h
 by_cases h0:0<=i
 ·rw[if_pos h0]at h
  by_cases h1:i<n
  ·rw[if_pos h1]at h
   have e:i.toNat=j:=Option.some.inj h
   exact⟨by rw[seqIndex_of h0 h1,e],by omega,by omega,h1⟩
  ·rw[if_neg h1]at h;cases h
 ·rw[if_neg h0]at h
  by_cases h1: -(n:Int)<=i
  ·rw[if_pos h1]at h
   have e:(i+n).toNat=j:=Option.some.inj h
   exact⟨by rw[seqIndex_neg (by omega) h1,e],by omega,h1,by omega⟩
  ·rw[if_neg h1]at h;cases h
theorem atI_get{α:Type}{xs:List α}{i:Int}{v:α}(h:atI xs i=some v):∃j,seqIndex? i xs.length=some j/\xs[j]? =some v/\j<xs.length/\ -(xs.length:Int)<=i/\i<xs.length:=by
 unfold atI at h
 cases e:ixN xs.length i with
 |none=>rw[e]at h;cases h
 |some j=>
  rw[e]at h
  obtain⟨h1,h2,h3,h4⟩:=ixN_seq e
  exact⟨j,h1,h,h2,h3,h4⟩
theorem atI_nat{α:Type}{xs:List α}{j:Nat}{v:α}(h:xs[j]? =some v):atI xs (j:Int)=some v:=by
 have hj:j<xs.length:=(yao.mp h).1
 have e:ixN xs.length (j:Int)=some j:=by
  unfold ixN
  rw[if_pos (by omega),if_pos (by omega)];simp
 unfold atI;rw[e];exact h
noncomputable def PlainIx(b:Expr):Prop:=∀o i,subscripted b false o i=operate [o,i] (getItem o i)
noncomputable def IxR(X:Cx)(r:R2):Prop:=
 ∀(value slice:Expr) (pins:List (Addr×Obj)) (s:Shared) (σ:St) (H:Hp) (x y:V) (v u:Value) (Q:VK),Inv X pins σ H s->RelV x v->RelV y u->r x y H Q->
  subscripted slice false v u=operate [v,u] (getItem v u)->wpAny (model X.prog X.w) X.A (subscriptTail value slice v u) (EP X pins σ Q) X.xe s
noncomputable def MtR(X:Cx)(id:String)(r:V->List V->Hp->VK->Prop):Prop:=
 ∀(pins:List (Addr×Obj)) (s:Shared) (σ:St) (H:Hp) (x:V) (xs:List V) (v:Value) (us:List Value) (Q:VK),Inv X pins σ H s->RelV x v->Vals xs us->r x xs H Q->
  wpAny (model X.prog X.w) X.A (call (.builtin id) (v::us)) (EP X pins σ Q) X.xe s
section
variable{X:Cx}{a b:Expr}{ta tb:TE}{pos:Pos}
theorem zay{r:R2}(hr:IxR X r)(ha:PE X a ta)(hb:PE X b tb)(hs:PlainIx b):PE X (.Subscript a b pos) (tOp r ta tb):=by
 intro pins s σ H Q I h
 exact Subscript_ (binT ha hb I h fun v u s2 x y H2 I2 rx ry q=>hr a b pins s2 σ H2 x y v u Q I2 rx ry q (hs _ _))
noncomputable def rIxL(K:W.Frag):R2:=fun x y H Q=>∃p xs i v,x= .ref p/\y= .int i/\SqL K H p xs/\atI xs i=some v/\Q v H
noncomputable def rIxT(K:W.Frag):R2:=fun x y H Q=>∃p xs i v,x= .ref p/\y= .int i/\SqT K H p xs/\atI xs i=some v/\Q v H
theorem zbf:IxR X (rIxL X.K):=by
 intro value slice pins s σ H x y v u Q I rx ry h hs
 obtain⟨p,xs,i,z,rfl,rfl,hq,he,q⟩:=h
 cases rx
 obtain⟨t,rfl⟩:=ry
 obtain⟨its,r,pl,hz⟩:=I.list hq
 obtain⟨j,h1,h2,h3,h4,h5⟩:=atI_get he
 obtain⟨w,ew,rw'⟩:=r.get h2
 have hl:=r.length
 have hn:=line63
 have fin:EP X pins σ Q w s:=⟨z,H,I,rw',q⟩
 by_cases h0:0<=i
 ·have hj:i.toNat=j:=by
   rw[seqIndex_of h0 h5]at h1
   exact Option.some.inj h1
  exact item_listR pl.isList h0 (by omega) (by rw[hj];simpa using ew) fin hs
 ·have hj:(i+(its.toArray.size:Int)).toNat=j:=by
   rw[seqIndex_neg (by omega) h4]at h1
   rw[yah,<-hl]
   exact Option.some.inj h1
  exact subscriptTail_builtinR (x:=w) pl.isList.typeIs slot_list_getitem.lookup
   (wpAny_getItem_list_neg (Q:=fun r s'=>r=w/\EP X pins σ Q r s') pl.isList (by omega) (by rw[yah]<;>omega) (by omega) (by rw[hj];simpa using ew) ⟨rfl,fin⟩) hs
theorem zcf:IxR X (rIxT X.K):=by
 intro value slice pins s σ H x y v u Q I rx ry h hs
 obtain⟨p,xs,i,z,rfl,rfl,hq,he,q⟩:=h
 cases rx
 obtain⟨t,rfl⟩:=ry
 obtain⟨its,r,pl,hz⟩:=I.tuple hq
 obtain⟨j,h1,h2,h3,h4,h5⟩:=atI_get he
 obtain⟨w,ew,rw'⟩:=r.get h2
 have hl:=r.length
 have hn:=line63
 have fin:EP X pins σ Q w s:=⟨z,H,I,rw',q⟩
 exact subscriptTail_builtinR (x:=w) pl.typeIs slot_tuple_getitem.lookup
  (getItem_tuple (j:=j) (Q:=fun r s'=>r=w/\EP X pins σ Q r s') pl (by omega) (by omega) (by rw[yah,<-hl];exact h1) (by simpa using ew) ⟨rfl,fin⟩) hs
theorem mapSeq_set(its:List Value)(n j:Nat)(u:Value):Obj.mapSeq (·.setIfInBounds j u) {cls:= .type "list",data:= .seq its.toArray n}={cls:= .type "list",data:= .seq (its.set j u).toArray n}:=by
 simp[Obj.mapSeq]
theorem Inv.lst{pins:List (Addr×Obj)}{σ:St}{H:Hp}{s:Shared}{p:Addr}{xs:List V}(I:Inv X pins σ H s)(h:H p=some (.lst xs)):
  ∃(its:List Value) (n:Nat),Vals xs its/\s.heap.get? p=some {cls:= .type "list",data:= .seq its.toArray n}/\xs.length<=sizeLine:=by
 obtain⟨z,its,n,r,e⟩:=I.hok p _ h
 exact⟨its,n,r,e,z⟩
theorem Inv.lstUpd{pins:List (Addr×Obj)}{σ:St}{H:Hp}{s:Shared}{p:Addr}{xs ys:List V}{its its':List Value}{n n':Nat}{f:Obj->Obj}(I:Inv X pins σ H s)(h:H p=some (.lst xs))(ho:s.heap.get? p=some {cls:= .type "list",data:= .seq its.toArray n})(hf:f {cls:= .type "list",data:= .seq its.toArray n}={cls:= .type "list",data:= .seq its'.toArray n'})(r:Vals ys its')(hz:ys.length<=sizeLine)(t:Nat):
  Inv X pins σ (upd H p (.lst ys)) {s with heap:=s.heap.update p f,toks:=t}:=by
 have e:(s.heap.update p f).get? p=some {cls:= .type "list",data:= .seq its'.toArray n'}:=by
  rw[ycb f ho (by rw[hf]<;>rfl),hf]
 refine I.write (x:=p) (e:=p) (by rw[h];trivial) (.inl rfl) (fun b u hb q=>(yck _ _ (Ne.symm hb)).trans q) ⟨_,e⟩ ?_
 exact⟨hz,its',n',r,e⟩
noncomputable def rSetL:V->V->V->Hp->(Hp->Prop)->Prop:=fun o i v H Q=>∃p xs k j,o= .ref p/\i= .int k/\H p=some (.lst xs)/\ixN xs.length k=some j/\Q (upd H p (.lst (xs.set j v)))
theorem set_list:PSet X rSetL:=by
 intro pins s σ H o i v ov iv u Q I ro ri rv h
 obtain⟨p,xs,k,j,rfl,rfl,hp,hj,q⟩:=h
 cases ro
 obtain⟨t,rfl⟩:=ri
 obtain⟨its,n,r,ho,hz⟩:=I.lst hp
 obtain⟨h1,h2,h3,h4⟩:=ixN_seq hj
 have hl:=r.length
 have hn:=line63
 have I':Inv X pins σ (upd H p (.lst (xs.set j v))) {s with heap:=s.heap.update p (Obj.mapSeq (·.setIfInBounds j u))}:=
  I.lstUpd hp ho (mapSeq_set its n j u) (r.set rv j) (by rw[List.length_set];exact hz) s.toks
 by_cases h0:0<=k
 ·have hk:k.toNat=j:=by
   rw[seqIndex_of h0 h4]at h1
   exact Option.some.inj h1
  exact PySem.W.ki_setAt ho h0 (by omega) (by rw[yah,<-hl];exact h4) (by rw[hk];exact⟨_,I',q⟩)
 ·have hk:(k+(its.toArray.size:Int)).toNat=j:=by
   rw[seqIndex_neg (by omega) h3]at h1
   rw[yah,<-hl]
   exact Option.some.inj h1
  exact PySem.W.ki_setBack ho (by omega) (by rw[yah,<-hl];exact h3) (by omega) (by rw[hk];exact⟨_,I',q⟩)
theorem slice_bounds(lo hi:Option Int)(n:Nat):(sliceBounds lo hi none n).1=((HT.sIx n 0 lo:Nat):Int)/\(sliceBounds lo hi none n).2.1=((HT.sIx n n hi:Nat):Int)/\(sliceBounds lo hi none n).2.2=1:=by
 refine⟨?_,?_,rfl⟩
 ·cases lo with
  |none=>simp[sliceBounds,HT.sIx]
  |some i=>
   simp only[sliceBounds,HT.sIx,Option.getD_none,show(1:Int)>0 by decide,if_true]
   by_cases h:i<0
   ·simp only[h,if_true]<;>omega
   ·simp only[h,if_false]<;>omega
 ·cases hi with
  |none=>simp[sliceBounds,HT.sIx]
  |some i=>
   simp only[sliceBounds,HT.sIx,Option.getD_none,show(1:Int)>0 by decide,if_true]
   by_cases h:i<0
   ·simp only[h,if_true]<;>omega
   ·simp only[h,if_false]<;>omega
theorem slicePick_cut(its:List Value)(lo hi:Option Int):slicePick its.toArray lo hi none=((its.drop (HT.sIx its.length 0 lo)).take (HT.sIx its.length its.length hi-HT.sIx its.length 0 lo)).toArray:=by
 obtain⟨h1,h2,h3⟩:=slice_bounds lo hi its.toArray.size
 unfold slicePick
 rw[h1,h2,h3]
 simp only[sliceRange_one,pick_run,yah]<;>rfl
noncomputable def rSlL(K:W.Frag):V->Option Int->Option Int->Hp->VK->Prop:=fun x lo hi H Q=>∃a xs,x= .ref a/\SqL K H a xs/\∀p,H p=none->Q (.ref p) (upd H p (.lst (cutV xs lo hi)))
theorem sl_list:SlR X (rSlL X.K):=by
 intro pins s σ H x v vl vu lo hi sl Q I rx hs pl pu h
 obtain⟨a,xs,rfl,hx,q⟩:=h
 cases rx
 obtain⟨its,r,ht,hz⟩:=I.list hx
 have hlen:=r.length
 refine⟨"list",_,slot_list_getitem.lookup,ht.isList.typeIs,?_⟩
 refine wpAny_getItem_list_slice ht.isList hs pl pu .none (by simp) ?_ (by rw[yah]<;>omega)
 rw[slicePick_cut,<-hlen]
 refine⟨.ref s.heap.objs.size,_,I.laid (t':=s.toks) (o:= .lst (cutV xs lo hi)) (fun b ob q=>yad _ q) (yab _) ?_,rfl,q _ (I.hok.fresh (yab _))⟩
 exact⟨yau (cutV_length xs lo hi) hz,_,0,(r.drop (HT.sIx xs.length 0 lo)).take (HT.sIx xs.length xs.length hi-HT.sIx xs.length 0 lo),yal _ rfl⟩
theorem call_len_seq:CallR X (.builtin "len") (fun xs H Q=>∃p ys,xs=[.ref p]/\(SqL X.K H p ys\/SqT X.K H p ys)/\Q (.int ys.length) H):=by
 intro pins s σ H xs us Q I r h
 obtain⟨p,ys,rfl,hq,q⟩:=h
 obtain⟨u,rfl,rx⟩:=vals1 r
 cases rx
 have hn:=line63
 rcases hq with hq|hq
 ·obtain⟨its,r',pl,hz⟩:=I.list hq
  have hlen:=r'.length
  exact Calls.call_len_list pl.isList (by simp only[yah]<;>omega) ⟨.int ys.length,H,I.tok _,⟨s.toks+1,by rw[yah,hlen]⟩,q⟩
 ·obtain⟨its,r',pl,hz⟩:=I.tuple hq
  have hlen:=r'.length
  exact len_tuple pl (by simp only[yah]<;>omega) ⟨.int ys.length,H,I.tok _,⟨s.toks+1,by rw[yah,hlen]⟩,q⟩
theorem call_list_of:CallR X (.type "list") (fun xs H Q=>∃p ys,xs=[.ref p]/\(SqL X.K H p ys\/SqT X.K H p ys)/\∀l,H l=none->Q (.ref l) (upd H l (.lst ys))):=by
 intro pins s σ H xs us Q I r h
 obtain⟨p,ys,rfl,hq,q⟩:=h
 obtain⟨u,rfl,rx⟩:=vals1 r
 cases rx
 have fin:∀(its:List Value),Vals ys its->ys.length<=sizeLine->∀(h':Heap) (c':Nat),(∀b o',s.heap.get? b=some o'->h'.get? b=some o')->
   h'.get? s.heap.objs.size=some {cls:= .type "list",dict:=none,data:= .seq its.toArray c',slots:=#[]}->EP X pins σ Q (.ref s.heap.objs.size) {s with heap:=h'}:=fun its r' hz h' c' kp e=>
  ⟨.ref s.heap.objs.size,_,I.laid (t':=s.toks) kp (yab _) (show ObjOk X.prog X.w _ h' _ (.lst ys)from⟨hz,its,c',r',e⟩),rfl,q _ (I.hok.fresh (yab _))⟩
 rcases hq with hq|hq
 ·obtain⟨its,r',pl,hz⟩:=I.list hq
  have hlen:=r'.length
  obtain⟨o,ho,hc,n,hd⟩:=pl.isList
  exact call_list_seq p (.inl rfl) ho hc hd (fun h' c' kp e=>fin its r' hz h' c' kp e) (by simp only[yah]<;>omega)
 ·obtain⟨its,r',pl,hz⟩:=I.tuple hq
  have hlen:=r'.length
  obtain⟨o,ho,hc,n,hd⟩:=pl
  exact call_list_seq p (.inr rfl) ho hc hd (fun h' c' kp e=>fin its r' hz h' c' kp e) (by simp only[yah]<;>omega)
theorem zbc:CallR X (.type "tuple") (fun xs H Q=>∃p ys,xs=[.ref p]/\((SqL X.K H p ys/\∀l,H l=none->Q (.ref l) (upd H l (.tup ys)))\/(SqT X.K H p ys/\Q (.ref p) H))):=by
 intro pins s σ H xs us Q I r h
 obtain⟨p,ys,rfl,h⟩:=h
 obtain⟨u,rfl,rx⟩:=vals1 r
 cases rx
 rcases h with⟨hq,q⟩|⟨hq,q⟩
 ·obtain⟨its,r',pl,hz⟩:=I.list hq
  have hlen:=r'.length
  refine call_tuple_list pl.isList (fun h' kp=> ?_) (by simp only[yah]<;>omega)
  have I1:Inv X pins σ H {s with heap:=h'}:=I.kept (t':=s.toks) kp
  have I2:Inv X pins σ (upd H h'.objs.size (.tup ys)) {s with heap:=h'.push {cls:= .type "tuple",data:= .seq its.toArray}}:=
   I1.laid (t':=s.toks) (fun b o e=>yad _ e) (yab _) (show ObjOk X.prog X.w _ _ _ (.tup ys)from⟨hz,its,r',IsTup.new _ _⟩)
  exact⟨.ref h'.objs.size,_,I2,rfl,q _ (I1.hok.fresh (yab _))⟩
 ·obtain⟨its,r',pl,hz⟩:=I.tuple hq
  exact call_tuple_same pl ⟨.ref p,H,I,rfl,q⟩
noncomputable def tyV(K:W.Frag)(T:String)(x:V)(H:Hp):Prop:=match x with
 | .str _=>T="str"
 | .int _=>T="int"
 | .ref p=>(T="list"/\∃xs,SqL K H p xs)\/(T="tuple"/\∃o,K.lookup p=some o/\o.cls= .type "tuple"/\o.dict=none)\/
   (T="dict"/\((∃kvs,H p=some (.dK kvs))\/∃kvs,H p=some (.dT kvs)))\/(T="set"/\∃S n,H p=some (.set S n))
 |_=>False
theorem tyV_is{pins:List (Addr×Obj)}{σ:St}{H:Hp}{s:Shared}{T:String}{x:V}{v:Value}(I:Inv X pins σ H s)(r:RelV x v)(ty:tyV X.K T x H):
  s.TypeIs v T/\∀a,v= .ref a->∃ob,s.heap.get? a=some ob/\ob.dict=none:=by
 cases x with
 |str z=>
  obtain⟨t,rfl⟩:=r
  cases(show T="str" from ty)
  exact⟨typeIs_str s z t,fun _ e=>nomatch e⟩
 |int i=>
  obtain⟨t,rfl⟩:=r
  cases(show T="int" from ty)
  exact⟨typeIs_int s i t,fun _ e=>nomatch e⟩
 |ref p=>
  cases r
  rcases ty with⟨rfl,xs,hq⟩|⟨rfl,o,hk,hc,hd⟩|⟨rfl,hk⟩|⟨rfl,S,n,hk⟩
  ·obtain⟨its,_,pl,_⟩:=I.list hq
   refine⟨pl.isList.typeIs,fun a e=> ?_⟩
   cases e
   obtain⟨o,n,e,c,hd,_⟩:=pl
   exact⟨o,e,hd⟩
  ·refine⟨⟨o,I.kIn p o hk,hc⟩,fun a e=> ?_⟩
   cases e
   exact⟨o,I.kIn _ o hk,hd⟩
  ·have z:∃o,s.heap.get? p=some o/\o.ExactDict:=by
    rcases hk with⟨kvs,hk⟩|⟨kvs,hk⟩
    ·obtain⟨_,_,_,_,o,_,_,e,ex,_⟩:=I.hok p _ hk
     exact⟨o,e,ex⟩
    ·obtain⟨_,_,_,_,o,_,_,e,ex,_⟩:=I.hok p _ hk
     exact⟨o,e,ex⟩
   obtain⟨o,e,ex⟩:=z
   refine⟨⟨o,e,ex.1⟩,fun a e2=> ?_⟩
   cases e2
   exact⟨o,e,ex.2.1⟩
  ·obtain⟨o,_,_,_,e,ex,_⟩:=I.hok p _ hk
   refine⟨⟨o,e,ex.1⟩,fun a e2=> ?_⟩
   cases e2
   exact⟨o,e,ex.2.1⟩
 |_=>exact False.elim ty
noncomputable def tBM(K:W.Frag)(T:String)(r:V->List V->Hp->VK->Prop)(to:TE)(t:TA):TE:=fun σ H Q=>to σ H fun x H1=>tyV K T x H1/\t σ H1 fun xs H2=>r x xs H2 Q
variable{o e:Expr}{es:List Expr}{to:TE}{t:TA}{name:Str}{apos cpos:Pos}{T id:String}{r:V->List V->Hp->VK->Prop}
theorem pe_bm(pa:PlainAttrs T)(slot:Slot T name id)(hty:typeOf (.builtin id)=pure (.type "method_descriptor"))(hm:MtR X id r)(ho:PE X o to)(ha:PA X (e::es) t)(hbase:attributeBase o name X.env (eval o X.env)=eval o X.env:=by rfl)(hfew:((backTo cpos (starEach (e::es) X.env)).all (fun x=> !x.1)&&(backToKw cpos (keywordEach [] X.env)).all (fun x=>x.1.isSome)
   &&decide ((e::es).length+([]:List Keyword).length+(if([]:List Keyword).isEmpty then 0 else 1)<30))=true:=by rfl)(hline:(apos.endLine==cpos.line)=true:=by rfl)(hs:starEach (e::es) X.env=(false,eval e X.env)::starEach es X.env:=by rfl)(hplain:(backTo cpos (starEach es X.env)).any (·.1)=false:=by rfl):
  PE X (.Call (.Attribute o name apos) (e::es) [] cpos) (tBM X.K T r to t):=by
 intro pins s σ H Q I h
 refine wpAny_Call_method_late hbase hfew hline rfl (thn (ho pins s σ H _ I h) fun v s1 ⟨x,H1,I1,r1,ty,q1⟩=> ?_)
 obtain⟨h1,h2⟩:=tyV_is I1 r1 ty
 refine⟨T,id,pa,slot,hty,h1,h2,?_⟩
 have hA:=ha cpos pins s1 σ H1 _ I1 q1
 rw[hs]at hA⊢
 refine Calls.callWith_builtin (by show(false||(backTo cpos (starEach es X.env)).any (·.1))=false;rw[hplain]<;>rfl) (Calls.evalArgs_plain ?_)
 exact thn hA fun us s2 ⟨vs,H2,I2,r2,q2⟩=>hm pins s2 σ H2 x vs v us Q I2 r1 r2 q2
end
noncomputable def MtM(X:Cx)(id:String)(r:V->List V->Hp->VK->Prop):Prop:=
 ∀(pins:List (Addr×Obj)) (s:Shared) (σ:St) (H:Hp) (x:V) (xs:List V) (v:Value) (us:List Value) (Q:VK),Inv X pins σ H s->RelV x v->Vals xs us->r x xs H Q->
  wpAny (model X.prog X.w) X.A (call (.builtin id) (v::us)) (EP X pins σ Q) X.xe s
theorem Vals.one{x:V}{us:List Value}(h:Vals [x] us):∃u,us=[u]/\RelV x u:=by
 cases h with
 |cons r h=>cases h;exact⟨_,rfl,r⟩
theorem Vals.two{x y:V}{us:List Value}(h:Vals [x,y] us):∃u v,us=[u,v]/\RelV x u/\RelV y v:=by
 cases h with
 |cons r h=>obtain⟨v,rfl,q⟩:=Vals.one h;exact⟨_,_,rfl,r,q⟩
theorem foldl_rep(its:List Value):∀(k:Nat) (acc:List Value),
  List.foldl (fun x1 x2=>x1++x2) acc.toArray (List.replicate k its.toArray)=(acc++(List.replicate k its).flatten).toArray
 |0,acc=>by simp
 |k+1,acc=>by
  have e:acc.toArray++its.toArray=(acc++its).toArray:=by simp
  have e2:(acc++its)++(List.replicate k its).flatten=acc++(List.replicate (k+1) its).flatten:=by
   rw[ycm,ydt,List.append_assoc]
  rw[<-e2,<-foldl_rep its k (acc++its),<-e,ycm,List.foldl_cons]
section
variable{X:Cx}{pins:List (Addr×Obj)}{σ:St}{H:Hp}{s:Shared}{l b:Addr}{xs ys zs:List V}
theorem Inv.lset{its its':List Value}{n:Nat}{f:Array Value->Array Value}{t':Nat}(I:Inv X pins σ H s)(hH:H l=some (.lst xs))(e:s.heap.get? l=some {cls:= .type "list",data:= .seq its.toArray n})(hf:f its.toArray=its'.toArray)(hv:Vals ys its')(hz:ys.length<=sizeLine):
  Inv X pins σ (upd H l (.lst ys)) {s with heap:=s.heap.update l (Obj.mapSeq f),toks:=t'}:=by
 have q:=PySem.IsL.update e f
 rw[hf]at q
 refine I.write (x:=l) (e:=l) (by rw[hH];exact trivial) (.inl rfl) (fun b' u hb hu=>(yck s.heap (Obj.mapSeq f) (Ne.symm hb)).trans hu) ⟨_,q⟩ ?_
 exact⟨hz,its',_,hv,q⟩
theorem Inv.lnew{its:List Value}{t':Nat}(I:Inv X pins σ H s)(hv:Vals ys its)(hz:ys.length<=sizeLine):
  Inv X pins σ (upd H s.heap.objs.size (.lst ys)) {s with heap:=s.heap.push {cls:= .type "list",data:= .seq its.toArray},toks:=t'}:=
 I.laid (fun _ _ q=>yad _ q) (yab _) ⟨hz,its,0,hv,yal _ rfl⟩
theorem Inv.fresh(I:Inv X pins σ H s):H s.heap.objs.size=none:=I.hok.fresh (yab _)
theorem Inv.lstM(I:Inv X pins σ H s)(hH:H l=some (.lst xs)):xs.length<=sizeLine/\∃(its:List Value) (n:Nat),Vals xs its/\xs.length=its.length/\s.heap.get? l=some {cls:= .type "list",data:= .seq its.toArray n}:=by
 obtain⟨z,its,n,r,e⟩:=I.hok l _ hH
 exact⟨z,its,n,r,r.length,e⟩
theorem notLongL{n:Nat}(h:n<=sizeLine):Builtin.List.listTooLong n=false:=by
 unfold Builtin.List.listTooLong
 exact decide_eq_false (by omega)
end
section
variable{X:Cx}
noncomputable def rAppend:V->List V->Hp->VK->Prop:=fun x vs H Q=>∃l xs y,x= .ref l/\vs=[y]/\H l=some (.lst xs)/\xs.length<sizeLine/\Q .non (upd H l (.lst (xs++[y])))
theorem mt_append:MtM X "list.append" rAppend:=by
 intro pins s σ H x vs v us Q I rx rv h
 obtain⟨l,xs,y,rfl,rfl,hH,hz,q⟩:=h
 cases rx
 obtain⟨u,rfl,ru⟩:=rv.one
 obtain⟨z,its,n,r,hl,e⟩:=I.lstM hH
 refine call_meets F.slot_list_append ⟨_,e,rfl⟩ F.entry_list_append (F.args_list_append_2 _ _) (PySem.list_append l its.toArray n u (by rw[yah];omega)) ⟨e,?_⟩
 refine⟨.non,_,I.lset (its':=its++[u]) hH e (by simp) (r.append (.cons ru .nil)) ?_,rfl,q⟩
 rw[yat,List.length_singleton]
 omega
noncomputable def rExtend:V->List V->Hp->VK->Prop:=fun x vs H Q=>∃l b xs zs,x= .ref l/\vs=[.ref b]/\H l=some (.lst xs)/\H b=some (.lst zs)/\xs.length+zs.length<=sizeLine/\Q .non (upd H l (.lst (xs++zs)))
theorem mt_extend:MtM X "list.extend" rExtend:=by
 intro pins s σ H x vs v us Q I rx rv h
 obtain⟨l,b,xs,zs,rfl,rfl,hH,hB,hz,q⟩:=h
 cases rx
 obtain⟨u,rfl,ru⟩:=rv.one
 cases ru
 obtain⟨z,its,n,r,hl,e⟩:=I.lstM hH
 obtain⟨z2,its2,n2,r2,hl2,e2⟩:=I.lstM hB
 have hsz:its.toArray.size+its2.toArray.size<=sizeLine:=by rw[yah,yah];omega
 have hlong:¬(!its.toArray.isEmpty&&Builtin.List.listTooLong (its.toArray.size+its2.toArray.size))=true:=by
  rw[notLongL hsz,Bool.and_false]
  exact Bool.false_ne_true
 refine call_meets F.slot_list_extend ⟨_,e,rfl⟩ F.entry_list_extend (F.args_list_extend_2 _ _)
  (AutoSeq1.list_extend_list_list_0 l its.toArray n b its2.toArray n2 hlong (by rw[yah];omega) (by omega)) ⟨e,e2,?_⟩
 refine⟨.non,_,I.lset (its':=its++its2) hH e (by simp) (r.append r2) ?_,rfl,q⟩
 rw[yat]
 omega
noncomputable def rCat:R2:=fun x y H Q=>∃l b xs zs,x= .ref l/\y= .ref b/\H l=some (.lst xs)/\H b=some (.lst zs)/\xs.length+zs.length<=sizeLine/\∀p,H p=none->Q (.ref p) (upd H p (.lst (xs++zs)))
theorem op_cat:OpR X (binaryOp .Add) rCat:=by
 intro pins s σ H x y v u Q I rx ry h
 obtain⟨l,b,xs,zs,rfl,rfl,hH,hB,hz,q⟩:=h
 cases rx
 cases ry
 obtain⟨z,its,n,r,hl,e⟩:=I.lstM hH
 obtain⟨z2,its2,n2,r2,hl2,e2⟩:=I.lstM hB
 refine PySem.P.add_list e e2 ?_ (by rw[yah,yah];omega)
 have ea:its.toArray++its2.toArray=(its++its2).toArray:=by simp
 rw[ea]
 exact⟨.ref _,_,I.lnew (t':=s.toks) (r.append r2) (by rw[yat];omega),rfl,q _ I.fresh⟩
theorem len_rep{α:Type}(xs:List α)(k:Nat):(List.replicate k xs).flatten.length=k*xs.length:=by
 induction k with
 |zero=>simp
 |succ k ih=>rw[ycm,ydt,yat,ih,Nat.succ_mul,Nat.add_comm]
end
section
variable{prog:Program}{w:World}{A:Around}{E:Value->Shared->Prop}{s:Shared}
end
section
variable{X:Cx}
end
end L2
namespace Att
open PySem PySem.W PySem.Calls PyProof.Rows
theorem ints_of_wellAll{P:Params}{h:Heap}:∀(ns:List Int) (vs:List Value),WellAll P h vs (ns.map WData.int)->IntsAre vs ns:=by
 intro ns
 induction ns with
 |nil=>
  intro vs w
  rw[List.map_nil]at w
  cases w
  exact .nil
 |cons n ns ih=>
  intro vs w
  rw[ybz]at w
  cases w with
  |cons a b=>
   cases a
   exact .cons _ _ (ih _ b)
theorem script_of{l:OpenLaw}{n:Nat}(hn:l.most=some n){P:Params}{h:Heap}{args:List WData}{vals:List Value}(hpre:l.row.toRowW.claim.pre args=true)(hwl:WellAll P h vals args):
  ∃a vs ns,vals=[Value.ref a]/\args=[WData.list (ns.map WData.int)]/\h.get? a=some {cls:= .type "list",data:= .seq vs.toArray}/\IntsAre vs ns/\ns.length<=n:=by
 have hsh:WShape.hasAll [] args [.list .int]=true:=(pre_splitW hpre).1
 have hc:l.pre.holds [] {args:=args}=true:=(pre_splitW hpre).2
 obtain⟨d,r,rfl,h1,h2⟩:=hasAllW_cons hsh
 obtain rfl:=hasAllW_nil h2
 obtain⟨xs,rfl,h3⟩:=hasW_list h1
 obtain⟨ns,rfl⟩:=items_int h3
 have hlen:ns.length<=n:=by
  unfold OpenLaw.pre at hc
  have h4:(WTm.not (.lt (.lit (.int (n:Int))) (.len (.arg 0)))).holds [] {args:=[.list (ns.map .int)]}=true:=by
   have h4:=(holds_andW hc).1
   rw[hn]at h4
   exact h4
  have h5:=condW_of h4 (w_not (w_lt w_lit (w_len_list (w_arg rfl))))
  rw[yaa]at h5
  refine Nat.le_of_not_lt fun q=> ?_
  have q':(n:Int)<((ns.length:Nat):Int):=by omega
  first
   |(rw[decide_eq_true q']at h5;exact absurd h5 (by decide))
   |(simp at h5;omega)
 cases hwl with
 |cons w1 w2=>
  cases w2
  cases w1 with
  |list ho hall=>exact⟨_,_,ns,rfl,rfl,ho,ints_of_wellAll ns _ hall,hlen⟩
theorem post_true(l:OpenLaw)(args:List WData):l.row.toRowW.claim.post args (.bool true) args=true:=
 postW_of (r:=l.row.toRowW) (X:=(true==true))
  (show WShape.has [] (.bool true) .bool=true by first |rfl|decide|simp[WShape.has,WShape.arms,WShape.armsAll])
  (show(WTm.eq .res (.lit (.bool true))).value [] {args:=args,res:=some (.bool true),after:=args}=some (.bool (true==true))from w_eq_bool (w_res rfl) w_lit) rfl
theorem attach_call{l:OpenLaw}{n:Nat}{q:Program}{loose:List Str}{XP:(Str->Option Value)->Heap->Prop}{YP:World->Heap->Prop}{d:DefRec}(hn:l.most=some n)(hdf:d.params.defaults=[])(call:∀(w:World) (s₀ s₁:Shared) (mg mb:Str->Option Value) (fa:Addr) (o:Obj) (pm cd doc:Value) (a:Addr) (vs:List Value) (ns:List Int),
   Ground q loose [] XP w s₀ mg mb s₁.heap->YP w s₁.heap->
   s₁.heap.get? fa=some o->o.data= .func (docDef d.name d.params d.body d.scope pm cd doc)->s₁.heap.CodeRec cd d.name->mg d.name=some (.ref fa)->
   s₁.heap.get? a=some {cls:= .type "list",data:= .seq vs.toArray}->IntsAre vs ns->ns.length<=n->s₁.gens=#[]->
   codeAny (model l.prog w) callerA (.call (.ref fa) ⟨[.ref a],[]⟩) (fun r s'=>r= .ok (.ret (.bool true))/\OldK s₁.heap s'.heap/\s'.os=s₁.os/\AllBare s'.gens) s₁):
  WalkO q loose XP YP l.row.toRowW d [] (fun f vs=>PySem.call f vs):=by
 intro w s₀ s₁ mg mb G Y fa o pm cd doc dV kV ho hd hcd hD hmg hg args vals as hpre hlay hrd hwl hlo
 obtain rfl:dV= .none:=Dflts.none hD hdf
 obtain rfl:kV= .none:=Dflts.noKw hD
 obtain⟨a,vs,ns,rfl,rfl,hobj,hints,hlen⟩:=script_of hn hpre hwl
 refine enter_call (codeAny_mono (call w s₀ s₁ mg mb fa o pm cd doc a vs ns G Y ho (fd_plain hd) hcd hmg hobj hints hlen hg) fun r s' hq=> ?_)
 obtain⟨rfl,h2,h3,h4⟩:=hq
 exact⟨.inl ⟨.bool true,.bool true,[],rfl,fun _=>rfl,.bool true,post_true l _,fun _=>⟨List.Pairwise.nil,fun _ hm=>(nomatch hm)⟩⟩,h2,h3,h4⟩
section
variable{prog:Program}{w:World}{A:Around}{E:Value->Shared->Prop}{s:Shared}{K:Frag}
end
end Att
namespace L2
open PySem PySem.Spec PyProof.Rows
theorem vals_ints:∀{vs:List Value} {ns:List Int},IntsAre vs ns->Vals (ns.map V.int) vs
 |_,_,.nil=> .nil
 |_,_,.cons n t h=> .cons ⟨t,rfl⟩ (vals_ints h)
noncomputable def Only(H:Hp):Prop:=∀b,H b=none\/∃o xs,H b=some (.frz o (.lst xs))
theorem law_call{P:Program}{w:World}{K:W.Frag}{mg mb:Str->Option Value}{CX:CXT}{k:Nat}{fa a:Addr}{fd:FuncData}{x:Str}{sp:Sp}{s₁:Shared}{vs:List Value}{ns:List Int}
  (KX:K.In s₁.heap)(hns:s₁.heap.Ns mainGlobals mg)(hb:s₁.heap.Ns builtinsNs mb)(hbb:∀x:Str,x≠"__name__"->mb x=bootBuiltins x)(hlim:s₁.heap.NoLimit)(hg:s₁.gens=#[])(ha:s₁.heap.get? a=some {cls:= .type "list",data:= .seq vs.toArray})(hi:IntsAre vs ns)(hl:ns.length<=sizeLine)(hr:Room k callerA)
  (F:∀base:Heap,K.In base->base.Ns mainGlobals mg->FnOk P w K mg base CX k fa fd [x] sp)(hbind:∀(s:Shared) (u:Value),BindsTo s fd ⟨[u],[]⟩ [(x,u)])(hsp:∀H:Hp,Only H->SqL K H a (ns.map V.int)->sp [.ref a] H (fun v _=>v= .bl true) fun _ _ _=>False)(hCX:∀H e s',CX [] H s₁ (fun _ _ _=>False) e s'->False):
  codeAny (model P w) callerA (.call (.ref fa) ⟨[.ref a],[]⟩) (fun r s'=>r= .ok (.ret (.bool true))/\OldK s₁.heap s'.heap/\s'.os=s₁.os/\AllBare s'.gens) s₁:=by
 have rv:=vals_ints hi
 have lenV:=hi.length
 -- from an abstract heap in which nothing but the script may be tracked
 have core:∀H:Hp,Only H->SqL K H a (ns.map V.int)->HOk P w H s₁.heap->(∀b,H b≠none->b=a)->(H a≠none->K.lookup a=none)->
   codeAny (model P w) callerA (.call (.ref fa) ⟨[.ref a],[]⟩) (fun r s'=>r= .ok (.ret (.bool true))/\OldK s₁.heap s'.heap/\s'.os=s₁.os/\AllBare s'.gens) s₁:=by
  intro H hO hS hok hA hK
  have base_of:∀{b:Addr} {o:Obj},s₁.heap.get? b=some o->H b=none->(hidT s₁.heap H).get? b=some o:=fun e n=>hidT_get e n
  have noA:∀{b:Addr} {o:Obj} {es:Array DictEntry} {ep:Nat},s₁.heap.get? b=some o->o.data= .dict es ep->H b=none:=fun{b o es ep} e d=>by
   cases q:H b with
   |none=>rfl
   |some u=>
    have e':b=a:=hA b (by rw[q];simp)
    subst e'
    rw[ha]at e;cases e
    have d':Data.seq vs.toArray _=Data.dict es ep:=d
    cases d'
  have nsK:∀{b:Addr} {m:Str->Option Value},s₁.heap.Ns b m->(hidT s₁.heap H).Ns b m:=fun{b m} ⟨o,es,ep,e,d,r⟩=>⟨o,es,ep,base_of e (noA e d),d,r⟩
  have hKb:K.In (hidT s₁.heap H):=fun b o e=>base_of (KX b o e) (by
   cases q:H b with
   |none=>rfl
   |some u=>
    have e':b=a:=hA b (by rw[q];simp)
    subst e'
    rw[hK (by rw[q];simp)]at e;cases e)
  have hM:Mod K mg (hidT s₁.heap H):=⟨hKb,nsK hns,⟨mb,nsK hb,hbb⟩,let⟨mc,h1,h2⟩:=hlim;⟨mc,nsK h1,h2⟩⟩
  have e0:Env0 P w K mg (hidT s₁.heap H) callerA [] s₁ H:=⟨rfl,hM,fun b o e=>of_hidT e,yca (hidT_size _ _),trivial,fun b hb=>absurd (show b∈([]:List Addr)from hb) (by simp),hok,.of_eq hg⟩
  refine codeAny_mono ((F _ hKb (nsK hns)).run callerA [] s₁ H ⟨[.ref a],[]⟩ [.ref a] [.ref a] _ _ hr e0 (hbind s₁ (.ref a)) (.cons rfl .nil) (hsp H hO hS)) fun r s' h=> ?_
  cases r with
  |error e=>exact(hCX H e s' h).elim
  |ok fl=>
   cases fl with
   |next=>exact False.elim h
   |brk=>exact False.elim h
   |cont=>exact False.elim h
   |ret u=>
    obtain⟨v,H',os,bare,un,hok',r',q⟩:=h
    have q':v= .bl true:=q
    subst q'
    obtain rfl:u=Value.bool true:=r'
    refine⟨rfl,OldK.of_keep fun b o e=> ?_,os,bare⟩
    cases q:H b with
    |none=>exact un.keep b o e q (by intro z;exact absurd (show b∈([]:List Addr)from z) (by simp)) (by simp)
    |some u=>
     rcases hO b with z|⟨ob,xs,z⟩
     ·rw[q]at z;cases z
     ·have z2:=un.frzs b ob _ z
      obtain⟨e1,_⟩:=hok b _ z
      obtain⟨e2,_⟩:=hok' b _ z2
      rw[e]at e1;cases e1
      exact e2
 cases hk:K.lookup a with
 |some o=>
  -- the script is one of the module's own objects
  have e:=KX a o hk
  rw[ha]at e
  cases e
  refine core (fun _=>none) (fun _=> .inl rfl) (.inr ⟨_,vs.toArray,_,hk,rfl,rfl,rfl,by rw[yah,lenV];exact hl,by simpa using rv⟩) (fun b u z=>by have z':(none:Option HO)=some u:=z;cases z') (fun b z=>absurd rfl z) fun z=>absurd rfl z
 |none=>
  refine core (fun b=>if b=a then some (.frz {cls:= .type "list",data:= .seq vs.toArray} (.lst (ns.map V.int)))else none) (fun b=> ?_) (.inl (.inr ⟨{cls:= .type "list",data:= .seq vs.toArray},if_pos rfl⟩)) (fun b u z=> ?_) (fun b z=> ?_) fun _=>hk
  ·by_cases hb:b=a
   ·exact .inr ⟨_,_,if_pos hb⟩
   ·exact .inl (if_neg hb)
  ·by_cases hb:b=a
   ·have z':=(if_pos hb).symm.trans z
    cases z'
    subst hb
    exact⟨ha,by rw[yaa];exact hl,vs,_,rv,ha⟩
   ·have z':=(if_neg hb).symm.trans z
    cases z'
  ·by_cases hb:b=a
   ·exact hb
   ·exact absurd (if_neg hb) z
theorem walk_of{l:PySem.W.OpenLaw}{n k:Nat}{q:Program}{loose:List Str}{XP:(Str->Option Value)->Heap->Prop}{YP:World->Heap->Prop}{d:DefRec}{K:Params->PySem.W.Frag}{CX:World->CXT}{sp:World->Sp}{x:Str}(hn:l.most=some n)(hn2:n<=sizeLine)(hdf:d.params.defaults=[])(hr:Room k callerA)(hY:∀(w:World) (h:Heap),YP w h->(K w.params).In h)
  (F:∀(w:World) (mg:Str->Option Value) (fa:Addr) (h:Heap),(K w.params).In h->h.Ns mainGlobals mg->mg d.name=some (.ref fa)->
   ∃fd:FuncData,(∀(s:Shared) (u:Value),BindsTo s fd ⟨[u],[]⟩ [(x,u)])/\
    ∀base:Heap,(K w.params).In base->base.Ns mainGlobals mg->FnOk l.prog w (K w.params) mg base (CX w) k fa fd [x] (sp w))(hsp:∀(w:World) (H:Hp) (a:Addr) (ns:List Int),ns.length<=n->Only H->SqL (K w.params) H a (ns.map V.int)->sp w [.ref a] H (fun v _=>v= .bl true) fun _ _ _=>False)(hCX:∀(w:World) (H:Hp) (s:Shared) (e:Value) (s':Shared),CX w [] H s (fun _ _ _=>False) e s'->False):
  PySem.W.WalkO q loose XP YP l.row.toRowW d [] (fun f vs=>PySem.call f vs):=by
 refine Att.attach_call hn hdf fun w s₀ s₁ mg mb fa o pm cd doc a vs ns G Y ho hd hcd hmg hobj hints hlen hg=> ?_
 have KX:=hY w _ Y
 obtain⟨fd,hb,hF⟩:=F w mg fa _ KX G.T.g hmg
 exact law_call KX G.T.g G.T.b G.T.builtins G.T.nolimit hg hobj hints (yau hlen hn2) hr hF hb (fun H hO hS=>hsp w H a ns hlen hO hS) fun H e s'=>hCX w H s₁ e s'
noncomputable def inClass(s:Stmt)(j:Nat):Stmt:=match s with
 | .ClassDef _ _ _ body _ _ _ _ _ _ _=>body.getD j (.Pass ⟨0,0,0,0⟩)
 |_=> .Pass ⟨0,0,0,0⟩
noncomputable def defArgs(s:Stmt):Arguments:=match s with
 | .FunctionDef _ a _ _ _ _ _ _ _ _=>a
 |_=>{posonlyargs:=[],args:=[],vararg:=none,kwonlyargs:=[],kw_defaults:=[],kwarg:=none,defaults:=[]}
noncomputable def defBody(s:Stmt):List Stmt:=match s with
 | .FunctionDef _ _ b _ _ _ _ _ _ _=>b
 |_=>[]
noncomputable def defScope(s:Stmt):Scope:=match s with
 | .FunctionDef _ _ _ _ _ _ sc _ _ _=>sc
 |_=>{kind:= .function,names:=[],isGenerator:=false,isCoroutine:=false}
noncomputable abbrev CX0:CXT:=fun _ _ _ _ _ _=>False
noncomputable abbrev E0:XK:=fun _ _ _=>False
theorem pass0{X:Cx}:Passes CX0 X E0:=fun _ _ _ _ _ _ _ h=>h.elim
structure Fun(K:W.Frag)(x qual:Str)(st:Stmt)(f:Addr)(fd:FuncData):Prop where
 ex:∃(oc:Value) (od:Option Addr) (kV doc pm:Value) (an:Option Addr) (cdv ct:Value) (osl:Array (Option Value)),
  fd=PySem.W.fnOf x qual (defArgs st) (defBody st) (defScope st) .none kV doc pm an cdv ct/\K.lookup f=some ⟨oc,od,.func fd,osl⟩/\PySem.W.codeIn K cdv qual=true
 kp:PySem.W.keepIn K (.ref f)=true
section
variable{P:Program}{w:World}{K:W.Frag}{mg:Str->Option Value}{base:Heap}
theorem Fun.ok{x qual:Str}{st:Stmt}{f:Addr}{fd:FuncData}{N ps:List Str}{k:Nat}{sp:Sp}(F:Fun K x qual st f fd)(S:FnScope N ps (defScope st))(len:∀vs H Q E,sp vs H Q E->vs.length=ps.length)(hbody:∀(cdv:Value) (A:Around) (outer:List Env) (s:Shared) (H:Hp) (vs:List V) (Q:VK) (E:XK),Room k (A.deeper (envOfC qual (defScope st) s.heap.objs.size f cdv))->sp vs H Q E->
   ∃t,PSs (cxOf CX0 P w K mg base N qual (defScope st) f cdv A outer s H E).nox (defBody st) t/\t {nx:=fun _ H'=>Q .non H',rt:=Q} (start N vs) H):FnOk P w K mg base CX0 (k+1) f fd ps sp:=by
 obtain⟨oc,od,kV,doc,pm,an,cdv,ct,osl,rfl,lk,hcd⟩:=F.ex
 refine fn_of lk hcd S len fun A outer s H vs Q E hr hsp=> ?_
 obtain⟨t,h,q⟩:=hbody cdv A outer s H vs Q E hr hsp
 exact⟨t,h.nox,q⟩
theorem Fun.binds{x qual:Str}{st:Stmt}{f:Addr}{fd:FuncData}{ps:List Str}(F:Fun K x qual st f fd)(h:∀(kV doc pm:Value) (an:Option Addr) (cdv ct:Value) (us:List Value),us.length=ps.length->bindArgs (PySem.W.fnOf x qual (defArgs st) (defBody st) (defScope st) .none kV doc pm an cdv ct) ⟨us,[]⟩=pure (ps.zip us)):Binds K fd ps []:=by
 obtain⟨oc,od,kV,doc,pm,an,cdv,ct,osl,rfl,lk,hcd⟩:=F.ex
 exact .all (h kV doc pm an cdv ct)
theorem zaq{x qual:Str}{st:Stmt}{f:Addr}{oc:Value}{od an:Option Addr}{osl:Array (Option Value)}{kV doc pm cdv ct:Value}(l:K.lookup f=some ⟨oc,od,.func (PySem.W.fnOf x qual (defArgs st) (defBody st) (defScope st) .none kV doc pm an cdv ct),osl⟩)(c:PySem.W.codeIn K cdv qual=true)(k:PySem.W.keepIn K (.ref f)=true):Fun K x qual st f (PySem.W.fnOf x qual (defArgs st) (defBody st) (defScope st) .none kV doc pm an cdv ct):=⟨⟨oc,od,kV,doc,pm,an,cdv,ct,osl,rfl,l,c⟩,k⟩
end
theorem hu_of{A:Around}{k:Nat}(hr:Room k A):A.units+1<cLine:=ybn (Nat.add_le_add_left (by decide:1<=64) _) hr.units
theorem small1000{n:Nat}(h:n<=1000):n<sizeLine:=ybn h (by decide)
section
variable{X:Cx}
theorem pv(i:Nat){x:Str}{pos:Pos}(hN:X.N[i]? =some x:=by rfl)(hv:Vis X.env.scope x:=by first |exact Or.inl rfl|exact Or.inr (Or.inl rfl)|exact Or.inr (Or.inr rfl))(hd:(x==("__debug__":Str))=false:=by decide)(hcd:(x==("__classdict__":Str))=false:=by decide):PE X (.Name x pos) (tVar i):=pe_var hN hv hd hcd
end
theorem iteF{A B:Prop}(h:B):if false=true then A else B:=by
 rw[if_neg Bool.false_ne_true]
 exact h
theorem iteT{A B:Prop}(h:A):if true=true then A else B:=by
 rw[if_pos rfl]
 exact h
theorem ite2{c A B:Prop} [Decidable c](h1:c->A)(h2:¬c->B):if c then A else B:=by
 by_cases h:c
 ·rw[if_pos h]
  exact h1 h
 ·rw[if_neg h]
  exact h2 h
noncomputable def Same(H H':Hp):Prop:=∀b o,H b=some o->H' b=some o
theorem Same.refl(H:Hp):Same H H:=fun _ _ h=>h
theorem Same.trans{H H1 H2:Hp}(a:Same H H1)(b:Same H1 H2):Same H H2:=fun c o h=>b c o (a c o h)
theorem Same.free{H H':Hp}(e:Same H H'){l:Addr}(h:H' l=Option.none):H l=Option.none:=by
 cases q:H l with
 |none=>rfl
 |some o=>
  rw[e l o q]at h
  cases h
theorem Same.seq{K:W.Frag}{H H':Hp}{a:Addr}{xs:List V}(e:Same H H')(h:SqL K H a xs):SqL K H' a xs:=by
 rcases h with(h|⟨o,h⟩)|h
 ·exact .inl (.inl (e _ _ h))
 ·exact .inl (.inr ⟨o,e _ _ h⟩)
 ·exact .inr h
end L2
set_option maxHeartbeats 4000000
namespace L2
open PySem PySem.Spec PyProof.Rows
noncomputable def clOf(cells:List (Str×Addr)):List (Str×NameKind)->List (Str×Addr)->List (Str×Addr)
 |[],acc=>acc
 |p::r,acc=>clOf cells r (if(p.2==NameKind.free)=true then(p.1,(cells.lookup p.1).getD 0)::acc else acc)
theorem clOf_mem{cells:List (Str×Addr)}:∀{names:List (Str×NameKind)} {acc:List (Str×Addr)} {x:Str} {c:Addr},(x,c)∈clOf cells names acc->(x,c)∈acc\/c=(cells.lookup x).getD 0/\(x,NameKind.free)∈names
 |[],_,_,_,h=> .inl h
 |(n,k)::r,acc,x,c,h=>by
  rcases clOf_mem (names:=r) h with q|⟨q,m⟩
  ·dsimp only at q
   split at q
   ·rename_i hk
    rcases yaj.mp q with e|e
    ·cases e
     have:k=NameKind.free:=by simpa using hk
     subst this
     exact .inr ⟨rfl,yap⟩
    ·exact .inl e
   ·exact .inl q
  ·exact .inr ⟨q,yai _ m⟩
theorem clOf_acc{cells:List (Str×Addr)}:∀{names:List (Str×NameKind)} {acc:List (Str×Addr)} {p:Str×Addr},p∈acc->p∈clOf cells names acc
 |[],_,_,h=>h
 |(n,k)::r,acc,p,h=>by
  refine clOf_acc (names:=r) ?_
  split
  ·exact yai _ h
  ·exact h
theorem clOf_has{cells:List (Str×Addr)}:∀{names:List (Str×NameKind)} {acc:List (Str×Addr)} {x:Str},(x,NameKind.free)∈names->∃c,(x,c)∈clOf cells names acc
 |(n,k)::r,acc,x,h=>by
  rcases yaj.mp h with e|e
  ·cases e
   refine⟨(cells.lookup n).getD 0,clOf_acc (names:=r) ?_⟩
   rw[if_pos (show(NameKind.free==NameKind.free)=true from rfl)]
   exact yap
  ·exact clOf_has (names:=r) e
theorem zbr{β:Type}:∀{l:List (Str×β)} {x:Str} {c:β},(x,c)∈l->∃d,l.lookup x=some d/\(x,d)∈l
 |(n,k)::r,x,c,h=>by
  cases hx:x==n with
  |true=>
   have e:x=n:=by simpa using hx
   subst e
   exact⟨k,by simp[ybx],yap⟩
  |false=>
   rcases yaj.mp h with e|e
   ·cases e;simp at hx
   ·obtain⟨d,h1,h2⟩:=zbr e
    exact⟨d,by simp only[ybx,hx];exact h1,yai _ h2⟩
noncomputable def compOk(sc scope:Scope):Bool:=scope.names.all fun p=>(p.2 !=NameKind.cell)&&(p.2 !=NameKind.local||scope.names.lookup p.1==some NameKind.local)&&
 (p.2 !=NameKind.free||sc.names.lookup p.1==some NameKind.cell||sc.names.lookup p.1==some NameKind.free)
section
variable{sc scope:Scope}
theorem compOk.cell(h:compOk sc scope=true):∀y∈scope.names,y.2≠.cell:=fun y hy e=>by
 have q:=yax.mp h y hy
 simp[e]at q
theorem compOk.names(h:compOk sc scope=true):∀y∈scope.names,y.2= .local->scope.names.lookup y.1=some .local:=fun y hy e=>by
 have q:=yax.mp h y hy
 simpa[e]using q
theorem compOk.free(h:compOk sc scope=true){x:Str}(hy:(x,NameKind.free)∈scope.names):sc.names.lookup x=some .cell\/sc.names.lookup x=some .free:=by
 have q:=yax.mp h _ hy
 simpa using q
end
theorem closure_of{scope:Scope}{env:Env}(h:∀x,(x,NameKind.free)∈scope.names->∃c,env.cells.lookup x=some c):closureFor scope env=pure (clOf env.cells scope.names []):=by
 have key:∀(names:List (Str×NameKind)) (acc:List (Str×Addr)),(∀x,(x,NameKind.free)∈names->∃c,env.cells.lookup x=some c)->
   (forIn names acc fun(x:Str×NameKind) (cs:List (Str×Addr))=>if(x.2==NameKind.free)=true then(do let y<-cellOf env x.1;pure (ForInStep.yield ((x.1,y)::cs)))else pure (ForInStep.yield cs):Sem (List (Str×Addr)))=pure (clOf env.cells names acc):=by
  intro names
  induction names with
  |nil=>intro acc _;rfl
  |cons p r ih=>
   intro acc hh
   obtain⟨n,k⟩:=p
   rw[List.forIn_cons]
   dsimp only
   by_cases hk:(k==NameKind.free)=true
   ·have e:k=NameKind.free:=by simpa using hk
    subst e
    obtain⟨c,hc⟩:=hh n yap
    rw[if_pos hk]
    unfold cellOf
    rw[hc]
    simp only[pure_bind]
    refine Eq.trans (ih _ fun x hx=>hh x (yai _ hx)) ?_
    show _=pure (clOf env.cells r (if(NameKind.free==NameKind.free)=true then(n,(env.cells.lookup n).getD 0)::acc else acc))
    rw[if_pos hk,hc]
    rfl
   ·rw[if_neg hk]
    simp only[pure_bind]
    refine Eq.trans (ih _ fun x hx=>hh x (yai _ hx)) ?_
    show _=pure (clOf env.cells r (if(k==NameKind.free)=true then(n,(env.cells.lookup n).getD 0)::acc else acc))
    rw[if_neg hk]
 have q:=key scope.names [] h
 unfold closureFor
 simp only[bind_pure]
 exact q
theorem relab_look{env:Env}:∀{names:List (Str×NameKind)} {x:Str} {k:NameKind},names.lookup x=some k->
  (names.map fun(n,k)=>if(k==NameKind.free&&env.scope.kind== .function&&env.kindOf n==some .cell)then(n,NameKind.cell)else(n,k)).lookup x=some (if(k==NameKind.free&&env.scope.kind== .function&&env.kindOf x==some .cell)=true then .cell else k)
 |[],_,_,h=>by simp at h
 |(n,k)::r,x,k',h=>by
  have ih:= @relab_look env r x k'
  show List.lookup x ((if(k==NameKind.free&&env.scope.kind== .function&&env.kindOf n==some .cell)=true then(n,NameKind.cell)else(n,k))::_)=_
  cases hx:x==n with
  |true=>
   have e:x=n:=by simpa using hx
   subst e
   simp only[ybx,hx]at h
   cases h
   by_cases hc:(k==NameKind.free&&env.scope.kind== .function&&env.kindOf x==some .cell)=true
   ·rw[if_pos hc,if_pos hc];simp[ybx]
   ·rw[if_neg hc,if_neg hc];simp[ybx]
  |false=>
   simp only[ybx,hx]at h
   by_cases hc:(k==NameKind.free&&env.scope.kind== .function&&env.kindOf n==some .cell)=true
   ·rw[if_pos hc];simp only[ybx,hx];exact ih h
   ·rw[if_neg hc];simp only[ybx,hx];exact ih h
theorem relab_none{env:Env}:∀{names:List (Str×NameKind)} {x:Str},names.lookup x=none->
  (names.map fun(n,k)=>if(k==NameKind.free&&env.scope.kind== .function&&env.kindOf n==some .cell)then(n,NameKind.cell)else(n,k)).lookup x=none
 |[],_,_=>rfl
 |(n,k)::r,x,h=>by
  have ih:= @relab_none env r x
  show List.lookup x ((if(k==NameKind.free&&env.scope.kind== .function&&env.kindOf n==some .cell)=true then(n,NameKind.cell)else(n,k))::_)=_
  cases hx:x==n with
  |true=>simp only[ybx,hx]at h;cases h
  |false=>
   simp only[ybx,hx]at h
   by_cases hc:(k==NameKind.free&&env.scope.kind== .function&&env.kindOf n==some .cell)=true
   ·rw[if_pos hc];simp only[ybx,hx];exact ih h
   ·rw[if_neg hc];simp only[ybx,hx];exact ih h
theorem relab_cell{scope:Scope}{env:Env}{x:Str}(hc:∀y∈scope.names,y.2≠.cell)(h:(relabel scope env).names.lookup x=some .cell\/(relabel scope env).names.lookup x=some .free):(x,NameKind.free)∈scope.names:=by
 cases e:scope.names.lookup x with
 |none=>
  have q:=relab_none (env:=env) e
  rcases h with h|h
  ·rw[show(relabel scope env).names.lookup x=none from q]at h;cases h
  ·rw[show(relabel scope env).names.lookup x=none from q]at h;cases h
 |some k=>
  have q:=relab_look (env:=env) e
  have m:=PySem.mem_of_lookup e
  by_cases hk:k= .free
  ·subst hk;exact m
  ·have q':(relabel scope env).names.lookup x=some k:=by
    refine Eq.trans q ?_
    have:(k==NameKind.free)=false:=by simpa using hk
    simp[this]
   rw[q']at h
   rcases h with h|h
   ·cases h;exact absurd rfl (hc _ m)
   ·cases h;exact absurd rfl hk
theorem relab_free{scope:Scope}{env:Env}{x:Str}(h:scope.names.lookup x=some .free):(relabel scope env).names.lookup x=some .cell\/(relabel scope env).names.lookup x=some .free:=by
 have q:=relab_look (env:=env) h
 by_cases hc:((NameKind.free==NameKind.free)&&env.scope.kind== .function&&env.kindOf x==some .cell)=true
 ·rw[if_pos hc]at q;exact .inl q
 ·rw[if_neg hc]at q;exact .inr q
noncomputable def compCx(X:Cx)(scope:Scope)(N:List Str)(s:Shared)(H:Hp)(cl:List (Str×Addr))(C:Addr)(ex:List Addr):Cx:=
 {X with N:=N,s₀:=s,H₀:=H,env:=compEnvC scope cl C X.env,outer:=X.stack,ex:=ex,fn:=fun _=>false,pn:=[],xe:=fun _ _=>False}
inductive Caps(X:Cx)(scope:Scope):List Str->List Nat->Prop
 |nil:Caps X scope [] []
 |cons {x:Str} {j:Nat} {xs:List Str} {js:List Nat} (hN:X.N[j]? =some x) (hf:scope.names.lookup x=some .free) (t:Caps X scope xs js):Caps X scope (x::xs) (j::js)
theorem Caps.get{X:Cx}{scope:Scope}:∀{xs:List Str} {js:List Nat} {k:Nat} {x:Str},Caps X scope xs js->xs[k]? =some x->∃j,js[k]? =some j/\X.N[j]? =some x/\scope.names.lookup x=some .free
 |_,_,k,x,.nil,h=>by simp at h
 |_,_,0,x,.cons h1 h2 _,h=>by simp at h;subst h;exact⟨_,rfl,h1,h2⟩
 |_,_,k+1,x,.cons _ _ t,h=>by
  obtain⟨j,a,b⟩:=Caps.get (k:=k) t (by simpa using h)
  exact⟨j,by simpa using a,b⟩
theorem Caps.len{X:Cx}{scope:Scope}:∀{xs:List Str} {js:List Nat},Caps X scope xs js->xs.length=js.length
 |_,_,.nil=>rfl
 |_,_,.cons _ _ t=>by simp[Caps.len t]
noncomputable def iniOf(own:List Str)(ix:List Nat)(σ:St):St:=own.map (fun _=>none)++ix.map fun j=>(σ[j]?).join
noncomputable def PTs(X:Cx)(ifs:List Expr)(t:TT):Prop:=
 ∀(pins:List (Addr×Obj)) (s:Shared) (σ:St) (H:Hp) (Q:Bool->Hp->Prop),Inv X pins σ H s->t σ H Q->
  wpAny (model X.prog X.w) X.A (forIn ifs true fun c r=>if r=true then do let ok<-isTrue c X.env (eval c X.env);pure (ForInStep.yield ok)else pure (ForInStep.yield r)) (TP X pins σ Q) X.xe s
theorem zcl{X:Cx}:PTs X [] (fun _ H Q=>Q true H):=fun _ _ _ H _ I h=>wpAny_tests_nil ⟨H,I,h⟩
theorem pts_one{X:Cx}{c:Expr}{t:TT}(h:PT X c t):PTs X [c] t:=fun pins s σ H Q I hq=>wpAny_tests_one (h pins s σ H Q I hq)
theorem HOk.add{P:Program}{w:World}{H:Hp}{h:Heap}{a:Addr}{o:HO}(x:HOk P w H h)(hn:H a=none)(new:ObjOk P w (upd H a o) h a o):HOk P w (upd H a o) h:=fun b u e=>by
 by_cases hb:b=a
 ·subst hb;rw[zab]at e;cases e;exact new
 ·rw[zai hb]at e
  exact(x b u e).stay (fun c v _ q=>q) (fun c q=>by rw[zai (zal q hn)];exact q) fun c xs q=>by rw[zai (zal q hn)];exact q
theorem Un.add{fs ex:List Addr}{H H':Hp}{h h':Heap}{a:Addr}{o:HO}(u:Un fs ex H H' h h')(ha:h.objs.size<=a)(hn:H' a=none):Un fs ex H (upd H' a o) h h' where
 keep:=u.keep
 slot:=u.slot
 free:=fun b ob q n hx=>by rw[zai (yam (yak (yaq q) ha))];exact u.free b ob q n hx
 there:=u.there
 tups:=fun b xs q=>by have:=u.tups b xs q;rw[zai (zal this hn)];exact this
 frzs:=fun b ob xs q=>by have:=u.frzs b ob xs q;rw[zai (zal this hn)];exact this
 tbls:=fun b ps q=>by obtain⟨m,e⟩:=u.tbls b ps q;exact⟨m,by rw[zai (zal e hn)];exact e⟩
section
variable{X:Cx}{tg iter elt:Expr}{ifs:List Expr}{scope:Scope}{pos:Pos}{own caps:List Str}{ix:List Nat}{g:TG}{tc:TT}{te:TE}
theorem comp_entry{pins:List (Addr×Obj)}{s s':Shared}{σ:St}{H:Hp}{fp:List Addr}{C:Addr}{m:Str->Option Value}(ck:compOk X.env.scope scope=true)(hkind:scope.kind= .function)(hcap:Caps X scope caps ix)
  (I:Inv X pins σ H s)(f2:∀b∈fp,FpOk X pins H b)(hlt:∀b∈fp,b<s.heap.objs.size)(hC:s.heap.objs.size<=C)(hos:s'.os=s.os)(hg:AllBare s'.gens)(hk:∀b o,s.heap.get? b=some o->s'.heap.get? b=some o)(hn:s'.heap.Ns C m):
  Inv (compCx X scope (own++caps) s H (clOf X.env.cells scope.names []) C fp) [] (iniOf own ix σ) H s':=by
 have cl1:∀x c,(clOf X.env.cells scope.names []).lookup x=some c->X.env.cells.lookup x=some c:=fun x c e=>by
  rcases clOf_mem (PySem.mem_of_lookup e)with q|⟨q,mm⟩
  ·cases q
  ·obtain⟨d,hd⟩:=I.ok.has x (compOk.free ck mm)
   rw[hd]at q
   rw[hd,q];rfl
 have cl2:∀x,(x,NameKind.free)∈scope.names->∃c,(clOf X.env.cells scope.names []).lookup x=some c:=fun x mm=>by
  obtain⟨c,hc⟩:=clOf_has (cells:=X.env.cells) (acc:=[]) mm
  obtain⟨d,hd,_⟩:=zbr hc
  exact⟨d,hd⟩
 have bsz:X.base.objs.size<=s.heap.objs.size:=yau I.ok.bsz I.sz
 refine⟨⟨I.ok.mod,hkind,I.ok.glob,I.ok.blt,hC,fun x y c h1 h2=>I.ok.inj x y c (cl1 x c h1) (cl1 y c h2),fun x hx=>cl2 x (relab_cell (compOk.cell ck) hx),fun x c h=>(nomatch h),I.ok.hd,I.ok.frames,.inl rfl,fun b hb=>⟨yam (yak (hlt b hb) hC),fun x c e=>(f2 b hb).2.2.2.2.1 x c (cl1 x c e)⟩,I.bs,bsz,
  fun b o e hb=> ?_,fun b hb hz=> ?_,I.stack,I.stkFree⟩,?_,hg,Un.kept hk,⟨m,hn,fun i x v h1 h2 h3=> ?_⟩,fun x c e=> ?_,I.hok.fresh hC,fun x c e=>I.freeC x c (cl1 x c e),fun p hp=>absurd (show p∈([]:List (Addr×Obj))from hp) (by simp),I.hok.kept hk,?_⟩
 ·rcases(f2 b hb).2.2.2.1 with z|z
  ·exact I.ok.noex b o e z
  ·exact absurd (yak (yaq e) (yau I.ok.bsz z)) (ybj _)
 ·rcases yaj.mp (I.stkSub b hz)with z|z
  ·exact(f2 b hb).2.1 z
  ·exact(f2 b hb).2.2.1 z
 ·exact hos
 ·have h1:(own++caps)[i]? =some x:=h1
  have h2:(own.map (fun _=>(none:Option V))++ix.map fun j=>(σ[j]?).join)[i]? =some (some v):=h2
  by_cases hi:i<own.length
  ·rw[ydd (by simpa using hi),yae]at h2
   cases e:own[i]? <;>rw[e]at h2<;>simp at h2
  ·rw[ycf (by simpa using hi)]at h2
   rw[ycf (by omega)]at h1
   rw[yaa]at h2
   obtain⟨j,e1,e2,e3⟩:=hcap.get h1
   rw[yae,e1]at h2
   have h2':(σ[j]?).join=some v:=by simpa using h2
   have h4:σ[j]? =some (some v):=by
    cases q:σ[j]? with
    |none=>rw[q]at h2';cases h2'
    |some w=>rw[q]at h2';exact congrArg some h2'
   obtain⟨m0,hn0,hl0⟩:=I.loc
   have mm:=PySem.mem_of_lookup e3
   have vis:=compOk.free ck mm
   obtain⟨u,r,l⟩:=hl0 j x v e2 h4 (.inr vis)
   refine⟨u,r,.inr ?_⟩
   rcases l with⟨k,_⟩|⟨k,c,e,z⟩
   ·rcases vis with q|q
    ·rw[show X.env.kindOf x=some .cell from q]at k;cases k
    ·rw[show X.env.kindOf x=some .free from q]at k;cases k
   ·obtain⟨d,hd⟩:=cl2 x mm
    have:=cl1 x d hd
    rw[e]at this
    cases this
    exact⟨relab_free e3,c,hd,z.keeps hk⟩
 ·obtain⟨v,z⟩:=I.cell x c (cl1 x c e)
  exact⟨v,z.keeps hk⟩
 ·show(own.map (fun _=>(none:Option V))++ix.map fun j=>(σ[j]?).join).length=(own++caps).length
  simp[hcap.len]
theorem comp_core(ck:compOk X.env.scope scope=true)(hkind:scope.kind= .function)(hcap:Caps X scope caps ix)(hc:X.calm=true)(hg:∀s H cl C ex,PG (compCx X scope (own++caps) s H cl C ex) tg g)(ht:∀s H cl C ex,PTs (compCx X scope (own++caps) s H cl C ex) ifs tc)(he:∀s H cl C ex,PE (compCx X scope (own++caps) s H cl C ex) elt te){pins:List (Addr×Obj)}{s2:Shared}{σ:St}{H2:Hp}{E:Value->Shared->Prop}(I2:Inv X pins σ H2 s2){it:Addr}{fp:List Addr}{tn:Nat->Heap->Prop}{J:It}(T:Turn X.prog X.w X.K tg J fp it tn)(st2:tn 0 s2.heap)(f2:∀b∈fp,FpOk X pins H2 b)
  {W:Nat->Nat->List V->St->Hp->Prop}{m0:Nat}(w0:W 0 m0 [] (iniOf own ix σ) H2){Fin:List V->Hp->Prop}(turn:∀i m acc σ H,W i m acc σ H->(J.stop i H/\acc.length<=sizeLine/\Fin acc H)\/(J.go i H/\acc.length<sizeLine/\∃N:List V->St->Hp->Prop,(∀acc' σ' H',N acc' σ' H'->∃m',m'<m/\W (i+1) m' acc' σ' H')/\∀x H',J.yld i H x H'->g x σ H' fun σ2 H2=>tc σ2 H2 fun b H3=>
   if b=true then te σ2 H3 fun v H4=>N (acc++[v]) σ2 H4 else N acc σ2 H3))
  {RR:Value->Addr->Result->Shared->Prop}(hRR:∀D C s' acc Hf m,Inv X pins σ (upd Hf D (.lst acc)) s'->Hf D=none->s'.heap.Ns C m->FpOk X pins (upd Hf D (.lst acc)) C->Fin acc Hf->RR (.ref D) C (.ok .next) s'):
  wpAny (model X.prog X.w) X.A (newList []) (fun acc s₃=>wpAny (model X.prog X.w) X.A (newFunctionEnv scope X.env.globals (clOf X.env.cells scope.names []) [] X.env.qual none .none (some X.env)) (fun cenv s₄=>
   codeAny (model X.prog X.w) X.A (.compStart (.ListComp elt [⟨tg,iter,ifs,0⟩] scope pos) 0 (.ref it) acc {cenv with scope:=relabel scope X.env}) (RR acc cenv.locals) s₄) E s₃) E s2:=by
 refine wpAny_newObj_type (wpAny_newFunctionEnv (compOk.cell ck) (by intro y hy;simp at hy) (fun h₁ hns₁ hsb₁=> ?_) hkind)
 dsimp only at hns₁ hsb₁⊢
 generalize hP:s2.heap.push {cls:= .type "list",dict:=none,data:= .seq ([]:List Value).toArray}=P1 at hns₁ hsb₁⊢
 have hC:P1.objs.size=s2.heap.objs.size+1:=by rw[<-hP,ybm]
 have hlt:∀b∈fp,b<s2.heap.objs.size:=fun b hb=>by
  obtain⟨o,e,_⟩:=T.obj _ _ st2 b hb
  exact yaq e
 have old:∀b o,s2.heap.get? b=some o->h₁.get? b=some o:=fun b o e=>
  hsb₁.extBut b o (by rw[hC];exact yam (yaw (yaq e))) (yad _ (hP▸yad _ e))
 have hD1:h₁.get? s2.heap.objs.size=some {cls:= .type "list",data:= .seq ([]:List Value).toArray 0}:=
  hsb₁.extBut _ _ (by rw[hC];exact yam (yba _)) (yad _ (hP▸yal _ rfl))
 generalize hDD:s2.heap.objs.size=D at *
 rw[hC]at hns₁⊢
 have entry:Inv (compCx X scope (own++caps) s2 H2 (clOf X.env.cells scope.names []) (D+1) fp) [] (iniOf own ix σ) H2 {s2 with heap:=h₁,toks:=s2.toks+([]:List (Str×Value)).length}:=
  comp_entry ck hkind hcap I2 f2 (by rw[hDD];exact hlt) (by rw[hDD];exact ycr _) rfl I2.bare old hns₁
 generalize hX':compCx X scope (own++caps) s2 H2 (clOf X.env.cells scope.names []) (D+1) fp=X' at entry
 have eP:X'.prog=X.prog:=by rw[<-hX'];rfl
 have ew:X'.w=X.w:=by rw[<-hX'];rfl
 have eK:X'.K=X.K:=by rw[<-hX'];rfl
 have eA:X'.A=X.A:=by rw[<-hX'];rfl
 have ecalm:X'.calm=true:=by rw[<-hX'];exact hc
 have efs:X'.fs=frs X.stack:=by rw[<-hX'];rfl
 have eex:X'.ex=fp:=by rw[<-hX'];rfl
 have epn:X'.pn=[]:=by rw[<-hX'];rfl
 have es0:X'.s₀=s2:=by rw[<-hX'];rfl
 have eH0:X'.H₀=H2:=by rw[<-hX'];rfl
 have exe:X'.xe=fun _ _=>False:=by rw[<-hX'];rfl
 have eenv:X'.env=compEnvC scope (clOf X.env.cells scope.names []) (D+1) X.env:=by rw[<-hX'];rfl
 have eloc:X'.env.locals=D+1:=by rw[eenv];rfl
 have hg':PG X' tg g:=by rw[<-hX'];exact hg _ _ _ _ _
 have ht':PTs X' ifs tc:=by rw[<-hX'];exact ht _ _ _ _ _
 have he':PE X' elt te:=by rw[<-hX'];exact he _ _ _ _ _
 have ecl:∀x c,X'.env.cells.lookup x=some c->c<D:=fun x c e=>by
  obtain⟨v,o,ho,_⟩:=entry.cell x c e
  have hcn:=entry.freeC x c e
  -- a cell of the enclosing frame: it lies in s2's heap
  rw[eenv]at e
  rcases clOf_mem (PySem.mem_of_lookup e)with q|⟨q,mm⟩
  ·cases q
  ·obtain⟨d,hd⟩:=I2.ok.has x (compOk.free ck mm)
   rw[hd]at q
   have q:c=d:=q
   subst q
   obtain⟨v',o',ho',_⟩:=I2.cell x c hd
   rw[<-hDD]
   exact yaq ho'
 have dfs:D∉frs X.stack:=fun hb=>by
  rcases yaj.mp (I2.stkSub D hb)with z|z
  ·exact absurd (Nat.lt_of_lt_of_eq I2.lt hDD) (by rw[z];exact ybj _)
  ·exact I2.nofs (yca hDD) z
 have fpn:∀{H':Hp} {o:Obj},(∀b∈fp,H' b=none)->∀b∈fp,FpOk X' [(D,o)] H' b:=fun{H' o} hn b hb=>by
  have hbl:=hlt b hb
  refine⟨hn b hb,by rw[eloc];exact yam (yaw hbl),?_,.inl (by rw[eex];exact hb),fun x c e=> ?_,fun p hp=> ?_⟩
  ·rw[efs]
   intro z
   rcases yaj.mp (I2.stkSub b z)with z|z
   ·exact(f2 b hb).2.1 z
   ·exact(f2 b hb).2.2.1 z
  ·rw[eenv]at e
   rcases clOf_mem (PySem.mem_of_lookup e)with q|⟨q,mm⟩
   ·cases q
   ·obtain⟨d,hd⟩:=I2.ok.has x (compOk.free ck mm)
    rw[hd]at q
    have q:c=d:=q
    subst q
    exact(f2 b hb).2.2.2.2.1 x c hd
  ·rw[epn]at hp
   have:p=(D,o):=by simpa using hp
   rw[this]
   exact ycu hbl
 have pinD:∀{σ':St} {H':Hp} {s':Shared} {o:Obj},Inv X' [] σ' H' s'->s'.heap.get? D=some o->H' D=none->(∀v,o.data≠.cell v)->Inv X' [(D,o)] σ' H' s':=fun{σ' H' s' o} I e n d=>
  I.pins_of fun p hp=>by
   have:p=(D,o):=by simpa using hp
   subst this
   exact⟨e,n,by rw[eloc];exact yam (yba D),by rw[efs];exact dfs,d⟩
 have loop:∀s₃:Shared,s₃={s2 with heap:=h₁,toks:=s2.toks+([]:List (Str×Value)).length}->
   codeAny (model X.prog X.w) X.A (.compLoop (.ListComp elt [⟨tg,iter,ifs,0⟩] scope pos) 0 (.ref it) (.ref D) X'.env) (RR (.ref D) (D+1)) s₃:=by
  intro s₃ hs₃
  refine codeAny_loop rfl (fun n s'=>∃i acc its k σ' H',Inv X' [] σ' H' s'/\tn i s'.heap/\(∀b∈fp,H' b=none)/\s'.heap.get? D=some {cls:= .type "list",data:= .seq (List.toArray its) k}/\Vals acc its/\H' D=none/\W i n acc σ' H') ?_ m0
   ⟨0,[],[],0,iniOf own ix σ,H2,by rw[hs₃];exact entry,by rw[hs₃];exact T.keep _ _ _ st2 fun b _ o e=>old b o e,fun b hb=>(f2 b hb).1,by rw[hs₃];exact hD1,.nil,I2.hok.fresh (yca hDD),w0⟩
  rintro n s3 ⟨i,acc,its,k,σ3,H3,I3,st3,fr3,eD,rv,nD,w3⟩
  show wpAny _ X.A ((compTurn (.ListComp elt [⟨tg,iter,ifs,0⟩] scope pos) 0 (.ref it) (.ref D) X'.env).onRaise (fun x=>do noteFrame x X'.env;theTreesLotGoes x)) _ _ s3
  refine wpAny_noted ?_
  rw[compTurn_list]
  have noE:∀{α:Type} {t:Sem α} {Q:α->Shared->Prop} {E':Value->Shared->Prop} {s:Shared},wpAny (model X'.prog X'.w) X'.A t Q X'.xe s->wpAny (model X.prog X.w) X.A t Q E' s:=fun{α t Q E' s} h=>by
   rw[eP,ew,eA,exe]at h
   exact wpAny_mono h (fun _ _ q=>q) fun _ _ z=>z.elim
  have I3':=pinD (o:={cls:= .type "list",data:= .seq (List.toArray its) k}) I3 eD nD (fun v z=>by
   have z':Data.seq (List.toArray its) k=Data.cell v:=z
   cases z')
  refine wpAny_bind (wpAny_standAt (wpAny_bind ?_))
  rcases turn i n acc σ3 H3 w3 with⟨stop,hz,fin⟩|⟨go,hz,Nn,hN,step⟩
  ·have q:=T.done X' eP ew eK ecalm i [(D,_)] s3 σ3 H3 (notedBy (model X.prog X.w) X.A X'.env fun e s'=>RR (.ref D) (D+1) (.error e) s') I3' (fpn fr3) st3 stop
   rw[eA]at q
   refine thn q fun r s4 ⟨hr,I4⟩=> ?_
   subst hr
   refine wpAny_pure ?_
   obtain⟨e4,_⟩:=I4.pin (D,_) (yaz _ yap)
   obtain⟨mC,hnC,_⟩:=I4.loc
   have u4:=I4.base
   rw[efs,eex,eH0,es0]at u4
   have ok4:=I4.hok
   rw[eP,ew]at ok4
   have nC:H3 (D+1)=none:=by have:=I4.free;rw[eloc]at this;exact this
   have hok:HOk X.prog X.w (upd H3 D (.lst acc)) s4.heap:=ok4.add nD ⟨hz,its,k,rv,e4⟩
   refine hRR D (D+1) s4 acc H3 mC ?_ nD (by rw[eloc]at hnC;exact hnC) ?_ fin
   ·refine I2.call' (s':=s4) (ch:=fp) ?_ (u4.add (by rw[hDD];exact yab _) nD) hok I4.bare fun b hb=> ?_
    ·have:=I4.os;rw[es0]at this;exact this
    ·obtain⟨f0,f1,f3,f4,f5,f6⟩:=f2 b hb
     exact⟨f4,f1,f5,f6⟩
   ·refine I2.fpOk (by rw[hDD];exact ycr _) ?_
    rw[zai (ycu (yba D))]
    exact nC
  ·have q:=T.item X' eP ew eK ecalm i [(D,_)] s3 σ3 H3 (notedBy (model X.prog X.w) X.A X'.env fun e s'=>RR (.ref D) (D+1) (.error e) s') I3' (fpn fr3) st3 go
   rw[eA]at q
   refine thn q fun r s4 ⟨u,hr,h4⟩=> ?_
   subst hr
   dsimp only
   refine wpAny_bind (thn h4 fun _ s5 ⟨x,H5,I5,r5,y5,st5,fr5⟩=> ?_)
   have I5':=I5.pinned (fpn fr5) (T.obj _ _ st5)
   have again:∀{σ7:St} {H7:Hp} {s7:Shared},Inv X' ([(D,{cls:= .type "list",data:= .seq (List.toArray its) k})]++pinsAt fp s5.heap) σ7 H7 s7->tn (i+1) s7.heap/\(∀b∈fp,H7 b=none)/\s7.heap.get? D=some {cls:= .type "list",data:= .seq (List.toArray its) k}/\H7 D=none:=fun{σ7 H7 s7} I7=>by
    refine⟨T.keep _ _ _ st5 fun b hb o e=>(I7.pin (b,o) (yaz _ (yaz _ (mem_pinsAt hb e)))).1,fun b hb=> ?_,?_⟩
    ·obtain⟨o,e,d⟩:=T.obj _ _ st5 b hb
     exact(I7.pin (b,o) (yaz _ (yaz _ (mem_pinsAt hb e)))).2.1
    ·have:=I7.pin (D,_) (yaz _ (yde _ yap))
     exact⟨this.1,this.2.1⟩
   refine wpAny_bind (thn (noE (hg' _ s5 σ3 H5 x u _ I5' r5 (step x H5 y5))) fun _ s6 ⟨σ6,H6,I6,q6⟩=> ?_)
   refine wpAny_bind (thn (noE (ht' _ s6 σ6 H6 _ I6 q6)) fun ok s7 ⟨H7,I7,q7⟩=> ?_)
   cases ok with
   |false=>
    rw[if_neg Bool.false_ne_true]at q7
    obtain⟨m',hm,w7⟩:=hN _ _ _ q7
    obtain⟨a1,a2,a3,a4⟩:=again I7
    exact wpAny_pure ⟨rfl,m',hm,i+1,acc,its,k,σ6,H7,I7.pins_of (fun p hp=>nomatch hp),a1,a2,a3,rv,a4,w7⟩
   |true=>
    rw[if_pos rfl]at q7
    refine wpAny_bind (wpAny_bind (thn (noE (he' _ s7 σ6 H7 _ I7 q7)) fun v s8 ⟨y,H8,I8,r8,q8⟩=> ?_))
    obtain⟨m',hm,w8⟩:=hN _ _ _ q8
    obtain⟨a1,a2,a3,a4⟩:=again I8
    have hl:=rv.length
    refine wpAny_bind (call_meets F.slot_list_append ⟨_,a3,rfl⟩ F.entry_list_append (F.args_list_append_2 _ _) (PySem.list_append D its.toArray k v (by rw[yah];omega)) ⟨a3,?_⟩)
    refine wpAny_pure (wpAny_pure ⟨rfl,m',hm,i+1,acc++[y],its++[v],?_⟩)
    have qD:=PySem.IsL.update a3 (fun a:Array Value=>a.push v)
    rw[List.push_toArray]at qD
    have kp:∀b o,b≠D->s8.heap.get? b=some o->(s8.heap.update D (Obj.mapSeq fun a=>a.push v)).get? b=some o:=fun b o hb e=>(yck s8.heap _ (Ne.symm hb)).trans e
    have I8':Inv X' [] σ6 H8 {s8 with heap:=s8.heap.update D (Obj.mapSeq fun a=>a.push v)}:=by
     refine(I8.pins_of (pins':=[]) (fun p hp=>nomatch hp)).turned (t':=s8.toks) (it:=D) kp a4 (by rw[eloc];exact yam (yba D)) (.inr (by rw[es0,hDD];exact yab _)) (fun x c e=>yam (ecl x c e)) (fun p hp=> ?_)
     rw[epn]at hp
     exact nomatch hp
    exact⟨_,σ6,H8,I8',T.keep _ _ _ a1 fun b hb o e=>kp b o (yam (hlt b hb)) e,a2,qD,rv.append (.cons r8 .nil),a4,w8⟩
 have eenv':({newEnv scope (D+1) X.env.globals (clOf X.env.cells scope.names []) X.env.qual none Value.none (some X.env) 0 with scope:=relabel scope X.env}:Env)=X'.env:=by rw[eenv];rfl
 have L:=loop _ rfl
 rw[<-eenv']at L
 exact codeAny_compStart_list L (T.self X.A 0 _ _ _ (T.keep _ _ _ st2 fun b _ o e=>old b o e) L)
end
noncomputable def CompW(J:It)(ini:St)(H:Hp)(g:TG)(tc:TT)(te:TE)(Fin:List V->Hp->Prop):Prop:=
 ∃W:Nat->Nat->List V->St->Hp->Prop,(∃m,W 0 m [] ini H)/\∀i m acc σ H,W i m acc σ H->
  (J.stop i H/\acc.length<=sizeLine/\Fin acc H)\/(J.go i H/\acc.length<sizeLine/\∃N:List V->St->Hp->Prop,(∀acc' σ' H',N acc' σ' H'->∃m',m'<m/\W (i+1) m' acc' σ' H')/\∀x H',J.yld i H x H'->g x σ H' fun σ2 H2=>tc σ2 H2 fun b H3=>
   if b=true then te σ2 H3 fun v H4=>N (acc++[v]) σ2 H4 else N acc σ2 H3)
noncomputable def tComp(wi:TI)(own:List Str)(ix:List Nat)(g:TG)(tc:TT)(te:TE):TE:=fun σ H Q=>wi σ H fun J H1=>
 CompW J (iniOf own ix σ) H1 g tc te fun acc H'=>∀p,H' p=none->Q (.ref p) (upd H' p (.lst acc))
section
variable{X:Cx}{tg iter elt:Expr}{ifs:List Expr}{scope:Scope}{pos:Pos}{own caps:List Str}{ix:List Nat}{wi:TI}{g:TG}{tc:TT}{te:TE}
theorem zbq(hc:X.calm=true)(hi:PI X tg iter wi)(ck:compOk X.env.scope scope=true)(hkind:scope.kind= .function)(hcap:Caps X scope caps ix)(hg:∀s H cl C ex,PG (compCx X scope (own++caps) s H cl C ex) tg g)(ht:∀s H cl C ex,PTs (compCx X scope (own++caps) s H cl C ex) ifs tc)(he:∀s H cl C ex,PE (compCx X scope (own++caps) s H cl C ex) elt te)(hs:∀x,foldedSetIterable iter X.env x=pure x:=by intro _;rfl):PE X (.ListComp elt [⟨tg,iter,ifs,0⟩] scope pos) (tComp wi own ix g tc te):=by
 intro pins s σ H Q I h
 rw[eval_ListComp]
 refine wpAny_comprehension_free (use:=none) rfl hs (closure_of fun x hx=>I.ok.has x (compOk.free ck hx)) hkind (compOk.names ck) (thn (hi pins s σ H _ I h) fun xv s1 h1=>thn h1 fun itv s2 h2=> ?_)
 obtain⟨it,fp,tn,J,H2,e,I2,T,st2,f2,W,⟨m0,w0⟩,turn⟩:=h2
 subst e
 refine comp_core (RR:=fun acc C=>compPost (model X.prog X.w) X.A X.xe none (EP X pins σ Q) acc C) ck hkind hcap hc hg ht he I2 T st2 f2 w0 turn ?_
 intro D C s' acc Hf m I' nD hn fC fin
 refine⟨m,hn,fun h' sb=> ?_⟩
 obtain⟨f0,f1,f3,f4,f5,f6⟩:=fC
 exact⟨.ref D,_,I'.turned (t':=s'.toks) (it:=C) (fun b o hb e=>(sb.2 b hb).trans e) f0 f1 f4 f5 f6,rfl,fin D nD⟩
theorem ps_setComp{i:Nat}{y:Str}{py spos:Pos}(hN:X.N.Nodup)(hiN:X.N[i]? =some y)(hx:Loc X.env.scope y)(hc:X.calm=true)(hi:PI X tg iter wi)(ck:compOk X.env.scope scope=true)(hkind:scope.kind= .function)(hcap:Caps X scope caps ix)(hg:∀s H cl C ex,PG (compCx X scope (own++caps) s H cl C ex) tg g)(ht:∀s H cl C ex,PTs (compCx X scope (own++caps) s H cl C ex) ifs tc)(he:∀s H cl C ex,PE (compCx X scope (own++caps) s H cl C ex) elt te)(hsw:swapsWith (.ListComp elt [⟨tg,iter,ifs,0⟩] scope pos) (some (.Name y py)) spos.line X.env=pure true:=by rfl)(hf:X.fn y=true\/X.env.scope.names.lookup y=some .local:=by first |exact .inl rfl|exact .inr rfl|assumption)(hs:∀x,foldedSetIterable iter X.env x=pure x:=by intro _;rfl):PS X (.Assign [.Name y py] (.ListComp elt [⟨tg,iter,ifs,0⟩] scope pos) spos) (tAsg (tComp wi own ix g tc te) (gName i)):=by
 intro pins s σ H Dn I h
 rw[exec_Assign_Name_used _ _ _ _ hsw]
 refine wpAny_bind (wpAny_standAt (wpAny_bind ?_))
 show wpAny _ X.A (do let _<-comprehension (.ListComp elt [⟨tg,iter,ifs,0⟩] scope pos) scope X.env _ (newList []) false (eval iter X.env) (some (assign (.Name y py) X.env))) _ _ s
 refine wpAny_bind (wpAny_mono (wpAny_comprehension_free (use:=some (assign (.Name y py) X.env)) (Q:=fun _ s'=>SP X pins Dn .next s') rfl hs (closure_of fun x hx=>I.ok.has x (compOk.free ck hx)) hkind (compOk.names ck)
  (thn (hi pins s σ H _ I h) fun xv s1 h1=>thn h1 fun itv s2 h2=> ?_)) (fun _ s' hq=>wpAny_pure (wpAny_pure hq)) fun _ _ e=>e)
 obtain⟨it,fp,tn,J,H2,e,I2,T,st2,f2,W,⟨m0,w0⟩,turn⟩:=h2
 subst e
 refine comp_core (RR:=fun acc C=>compPost (model X.prog X.w) X.A X.xe (some (assign (.Name y py) X.env)) (fun _ s'=>SP X pins Dn .next s') acc C) ck hkind hcap hc hg ht he I2 T st2 f2 w0 turn ?_
 intro D C s' acc Hf m I' nD hn fC fin
 obtain⟨f0,f1,f3,f4,f5,f6⟩:=fC
 show wpAny _ X.A (assign (.Name y py) X.env (.ref D)) _ _ _
 refine wpAny_assign_Name (store_ok2 I' hN hiN hx (show RelV (.ref D) (.ref D)from rfl) (fun s'' I'' ⟨a,sb,ha⟩=> ?_) hf)
 have hCa:C≠a:=by
  rcases ha with ha|ha
  ·rw[ha];exact f1
  ·exact fun z=>f5 y a ha z.symm
 refine⟨m,hn.sameBut sb hCa,fun h' sb'=> ?_⟩
 exact⟨_,_,I''.turned (t':=s''.toks) (it:=C) (fun b o hb e=>(sb'.2 b hb).trans e) f0 f1 f4 f5 f6,fin D nD⟩
end
section
variable{K:W.Frag}{a:Addr}{xs:List V}{g:TG}{tc:TT}{te:TE}{Fin:List V->Hp->Prop}{ini:St}{H:Hp}
theorem comp_list(Pv:Nat->List V->St->Hp->Prop)(h0:Pv 0 [] ini H)(hl:∀(i:Nat) acc σ H,i<=xs.length->Pv i acc σ H->SqL K H a xs)(hz:∀(i:Nat) acc σ H,i<=xs.length->Pv i acc σ H->acc.length<=i)(hx:xs.length<=sizeLine)(hs:∀(i:Nat) x acc σ H,xs[i]? =some x->Pv i acc σ H->g x σ H fun σ2 H2=>tc σ2 H2 fun b H3=>if b=true then te σ2 H3 fun v H4=>Pv (i+1) (acc++[v]) σ2 H4 else Pv (i+1) acc σ2 H3)(hd:∀acc σ H,Pv xs.length acc σ H->Fin acc H):CompW (Itl K a) ini H g tc te Fin:=by
 refine⟨fun i m acc σ H=>m=xs.length-i/\i<=xs.length/\Pv i acc σ H,⟨xs.length,by simp,yas _,h0⟩,?_⟩
 rintro i m acc σ H ⟨rfl,hi,p⟩
 have q:=hl i acc σ H hi p
 have z:=hz i acc σ H hi p
 by_cases hlt:i<xs.length
 ·refine .inr ⟨⟨xs,xs[i],q,by simp[hlt]⟩,by omega,fun acc σ H=>Pv (i+1) acc σ H,fun acc' σ' H' r=>⟨_,by omega,rfl,hlt,r⟩,fun x H' y=> ?_⟩
  obtain⟨e,y⟩:=y
  subst e
  exact hs i x acc σ _ (y xs q) p
 ·have e:i=xs.length:=by omega
  subst e
  exact .inl ⟨⟨xs,q,yab _⟩,by omega,hd acc σ H p⟩
theorem zdj(Pv:Nat->List V->St->Hp->Prop)(h0:Pv 0 [] ini H)(hl:∀(i:Nat) acc σ H,i<=xs.length->Pv i acc σ H->SqT K H a xs)(hz:∀(i:Nat) acc σ H,i<=xs.length->Pv i acc σ H->acc.length<=i)(hx:xs.length<=sizeLine)(hs:∀(i:Nat) x acc σ H,xs[i]? =some x->Pv i acc σ H->g x σ H fun σ2 H2=>tc σ2 H2 fun b H3=>if b=true then te σ2 H3 fun v H4=>Pv (i+1) (acc++[v]) σ2 H4 else Pv (i+1) acc σ2 H3)(hd:∀acc σ H,Pv xs.length acc σ H->Fin acc H):CompW (Itt K a) ini H g tc te Fin:=by
 refine⟨fun i m acc σ H=>m=xs.length-i/\i<=xs.length/\Pv i acc σ H,⟨xs.length,by simp,yas _,h0⟩,?_⟩
 rintro i m acc σ H ⟨rfl,hi,p⟩
 have q:=hl i acc σ H hi p
 have z:=hz i acc σ H hi p
 by_cases hlt:i<xs.length
 ·refine .inr ⟨⟨xs,xs[i],q,by simp[hlt]⟩,by omega,fun acc σ H=>Pv (i+1) acc σ H,fun acc' σ' H' r=>⟨_,by omega,rfl,hlt,r⟩,fun x H' y=> ?_⟩
  obtain⟨e,y⟩:=y
  subst e
  exact hs i x acc σ _ (y xs q) p
 ·have e:i=xs.length:=by omega
  subst e
  exact .inl ⟨⟨xs,q,yab _⟩,by omega,hd acc σ H p⟩
theorem zck{lo:Int}{n:Nat}(Pv:Nat->List V->St->Hp->Prop)(h0:Pv 0 [] ini H)(hz:∀(i:Nat) acc σ H,i<=n->Pv i acc σ H->acc.length<=i)(hx:n<=sizeLine)(hs:∀(i:Nat) acc σ H,i<n->Pv i acc σ H->g (.int (lo+i)) σ H fun σ2 H2=>tc σ2 H2 fun b H3=>if b=true then te σ2 H3 fun v H4=>Pv (i+1) (acc++[v]) σ2 H4 else Pv (i+1) acc σ2 H3)(hd:∀acc σ H,Pv n acc σ H->Fin acc H):CompW (Itr lo n) ini H g tc te Fin:=by
 refine⟨fun i m acc σ H=>m=n-i/\i<=n/\Pv i acc σ H,⟨n,by simp,yas _,h0⟩,?_⟩
 rintro i m acc σ H ⟨rfl,hi,p⟩
 have z:=hz i acc σ H hi p
 by_cases hlt:i<n
 ·refine .inr ⟨hlt,by omega,fun acc σ H=>Pv (i+1) acc σ H,fun acc' σ' H' r=>⟨_,by omega,rfl,hlt,r⟩,fun x H' y=> ?_⟩
  obtain⟨e,y⟩:=y
  subst e y
  exact hs i acc σ _ hlt p
 ·have e:i=n:=by omega
  subst e
  exact .inl ⟨yab _,by omega,hd acc σ H p⟩
end
end L2
namespace Srt
open PySem PySem.W PyProof.Rows
section
variable{O:KeyOrd}{key:Nat->O.α}{N:Nat}{cmp:Nat->Nat->(Bool->Shared->Prop)->Shared->Prop}{s:Shared}
noncomputable def AskOk(O:KeyOrd)(key:Nat->O.α)(N:Nat)(cmp:Nat->Nat->(Bool->Shared->Prop)->Shared->Prop)(s:Shared):Prop:=
 ∀i j (C:Bool->Shared->Prop),i<N->j<N->C (O.blt (key i) (key j)) s->cmp i j C s
noncomputable def KN(key:Nat->O.α)(p:Array Nat)(i:Nat):O.α:=key (p.getD i 0)
noncomputable def So(key:Nat->O.α)(p:Array Nat)(k:Nat):Prop:=∀i j,i<=j->j<k->O.kle (KN key p i) (KN key p j)
noncomputable def Ni(key:Nat->O.α)(p:Array Nat)(k:Nat):Prop:=∀i j,i<=j->j<k->O.kle (KN key p j) (KN key p i)
structure Ord(N:Nat)(p:Array Nat):Prop where
 perm:p.Perm (List.toArray (List.range N))
theorem Ord.size{p:Array Nat}(h:Ord N p):p.size=N:=by have:=h.perm.size_eq;simpa using this
theorem Ord.lt{p:Array Nat}(h:Ord N p){i:Nat}(hi:i<N):p.getD i 0<N:=by
 have hi':i<p.size:=by rw[h.size];exact hi
 have e:p.getD i 0=p[i]:=by simp[Array.getD,hi']
 rw[e]
 have m:p[i]∈p.toList:=by simp
 have:=(ydw.mp h.perm).mem_iff.mp m
 simpa using this
theorem Ord.rev{p:Array Nat}(h:Ord N p)(i j:Nat):Ord N (kas_rev p i j):=⟨(mirror_perm _ _ _ _).trans h.perm⟩
theorem Ord.bub{p:Array Nat}(h:Ord N p)(i j:Nat):Ord N (bubble p i j):=⟨(bubble_perm _ _ _).trans h.perm⟩
theorem getD_q(p:Array Nat)(i:Nat):p.getD i 0=(p[i]?).getD 0:=by simp
theorem KN_rev{p:Array Nat}{i j:Nat}(hj:j<=p.size)(k:Nat):KN key (kas_rev p i j) k=if i<=k/\k<j then KN key p (i+j-1-k)else KN key p k:=by
 have e:=getElem?_mirror_all (i:=i) hj k
 unfold KN kas_rev
 rw[getD_q,e]
 split
 ·rw[getD_q]
 ·rw[getD_q]
theorem KN_rev_equal{p:Array Nat}{i j:Nat}(hj:j<=p.size)(heq:∀k,i<=k->k<j->KN key p k=KN key p (j-1))(k:Nat):KN key (kas_rev p i j) k=KN key p k:=by
 rw[KN_rev hj]
 split
 ·rename_i h
  rw[heq k h.1 h.2,heq _ (by omega) (by omega)]
 ·rfl
theorem KN_bub{p:Array Nat}{src d:Nat}(hs:src<p.size)(hd:d<=src)(k:Nat):KN key (bubble p src d) k=if k=src-d then KN key p src else if src-d<k/\k<=src then KN key p (k-1)else KN key p k:=by
 have e:=getElem?_bubble hs d hd k
 have q:KN key (bubble p src d) k=key (((bubble p src d)[k]?).getD 0):=congrArg key (getD_q _ _)
 have q2:∀i,KN key p i=key ((p[i]?).getD 0):=fun i=>congrArg key (getD_q _ _)
 rw[q,e,q2,q2,q2]
 by_cases h1:k=src-d
 ·rw[if_pos h1,if_pos h1]
 ·rw[if_neg h1,if_neg h1]
  by_cases h2:src-d<k/\k<=src
  ·rw[if_pos h2,if_pos h2]
  ·rw[if_neg h2,if_neg h2]
theorem lt_pred{i j:Nat}(h:i<=j)(hn:¬i=j):i<=j-1:=ydy (ycg h hn)
theorem eq_top{j n:Nat}(h:j<n+1)(hn:¬j<n):j=n:=ydh (ycn h) (Nat.not_lt.mp hn)
theorem pred_lt'{x k:Nat}(h:1<=x)(hk:x<=k):x-1<k:=ydf h hk
theorem lt_mid{x f N:Nat}(h:x+(f+1)<=N):x<N:=yak (Nat.lt_add_of_pos_right (ybu f)) h
theorem up_one{x f N:Nat}(h:x+(f+1)<=N):x+1+f<=N:=yau (yca (ydi x f)) h
theorem up_le{x f m:Nat}(h:m<=x+1+f):m<=x+(f+1):=yau h (yca (ydi x f))
theorem rev_le{i j n:Nat}(h:i<=j):0+n-1-j<=0+n-1-i:=Nat.sub_le_sub_left h _
theorem rev_lt{i n:Nat}(h:i<n):0+n-1-i<n:=by
 rw[Nat.zero_add]
 exact ybn (Nat.sub_le _ _) (ydf (ybn (yas _) h) (yab _))
theorem asc(ok:AskOk O key N cmp s){p:Array Nat}(hp:Ord N p){Q:Nat->Shared->Prop}:∀(f n:Nat),1<=n->n+f<=N->So key p n->(∀m,n<=m->m<=n+f->So key p m->(m=n+f\/O.klt (KN key p m) (KN key p (m-1)))->Q m s)->(kas_asc p f n).kasWp cmp Q s
 |0,n,_,_,hs,h=>h n (yab _) (yab _) hs (.inl rfl)
 |f+1,n,h1,hn,hs,h=>by
  have hnN:n<N:=lt_mid hn
  refine ok _ _ _ (hp.lt hnN) (hp.lt (pred_lt' h1 (yan hnN))) ?_
  cases hless:O.blt (key (p.getD n 0)) (key (p.getD (n-1) 0))with
  |true=>
   show Q n s
   exact h n (yab _) (Nat.le_add_right _ _) hs (.inr hless)
  |false=>
   show(kas_asc p f (n+1)).kasWp cmp Q s
   refine asc ok hp f (n+1) (ybu _) (up_one hn) (fun i j hij hj=> ?_) fun m a b c d=>h m (Nat.le_of_succ_le a) (up_le b) c (d.imp (fun z=>z.trans (ydi n f)) id)
   by_cases hjn:j<n
   ·exact hs i j hij hjn
   ·have hj':j=n:=eq_top hj hjn
    subst hj'
    by_cases hi':i=j
    ·subst hi';exact KeyOrd.kle_refl _
    ·exact KeyOrd.kle_trans (hs i (j-1) (lt_pred hij hi') (pred_lt' h1 (yab _))) hless
theorem tail3(ok:AskOk O key N cmp s){p:Array Nat}(hp:Ord N p){n:Nat}{Q:Nat×Array Nat->Shared->Prop}(h1:1<=n)(hn:n<=N)(hs:Ni key p n)(h:∀m p',Ord N p'->1<=m->m<=N->So key p' m->Q (m,p') s):(kas_tail3 n N p).kasWp cmp Q s:=by
 unfold kas_tail3
 rw[KasT.kasWp_bind]
 have hsz:n<=p.size:=by rw[hp.size];exact hn
 have hN:n+(N-n)=N:=Nat.add_sub_cancel' hn
 refine asc ok (hp.rev 0 n) (N-n) n h1 (yca hN) (fun i j hij hj=> ?_) fun m a b c _=>h m _ (hp.rev 0 n) (yau h1 a) (yau b (yca hN)) c
 rw[KN_rev hsz,KN_rev hsz,if_pos ⟨yas _,ybn hij hj⟩,if_pos ⟨yas _,hj⟩]
 exact hs _ _ (rev_le hij) (rev_lt (ybn hij hj))
theorem desc1{p p':Array Nat}{x:Nat}(h1:1<=x)(hs:Ni key p x)(hless:O.kle (KN key p x) (KN key p (x-1)))(hk:∀k,KN key p' k=KN key p k):Ni key p' (x+1):=by
 intro i j hij hj
 rw[hk,hk]
 by_cases hjx:j<x
 ·exact hs i j hij hjx
 ·have hj':j=x:=eq_top hj hjx
  subst hj'
  by_cases hi':i=j
  ·subst hi';exact KeyOrd.kle_refl _
  ·exact KeyOrd.kle_trans hless (hs i (j-1) (lt_pred hij hi') (pred_lt' h1 (yab _)))
theorem one_eq{p:Array Nat}{x i:Nat}(h1:x+1-(0+1)<=i)(h2:i<x+1):KN key p i=KN key p (x+1-1):=congrArg _ (ydh (ycn h2) h1)
theorem desc(ok:AskOk O key N cmp s){Q:Array Nat×Nat×Nat->Shared->Prop}:∀(f:Nat) (p:Array Nat) (x neq:Nat),Ord N p->1<=x->x+f<=N->Ni key p x->neq+1<=x->(∀i,x-(neq+1)<=i->i<x->KN key p i=KN key p (x-1))->
  (∀p' m q,Ord N p'->x<=m->m<=x+f->Ni key p' m->q+1<=m->(∀i,m-(q+1)<=i->i<m->KN key p' i=KN key p' (m-1))->Q (p',m,q) s)->(kas_desc f p x neq).kasWp cmp Q s
 |0,p,x,neq,hp,_,_,hs,hq,he,h=>h p x neq hp (yab _) (yab _) hs hq he
 |f+1,p,x,neq,hp,h1,hn,hs,hq,he,h=>by
  have hxN:x<N:=lt_mid hn
  have hsz:x<=p.size:=by rw[hp.size];exact yan hxN
  have hx1:x-1<N:=pred_lt' h1 (yan hxN)
  have hh:∀p' m q,Ord N p'->x+1<=m->m<=x+1+f->Ni key p' m->q+1<=m->(∀i,m-(q+1)<=i->i<m->KN key p' i=KN key p' (m-1))->Q (p',m,q) s:=fun p' m q a b c d e g=>h p' m q a (Nat.le_of_succ_le b) (up_le c) d e g
  refine ok _ _ _ (hp.lt hxN) (hp.lt hx1) ?_
  cases hless:O.blt (key (p.getD x 0)) (key (p.getD (x-1) 0))with
  |true=>
   show(if neq>0 then kas_desc f (kas_rev p (x-(neq+1)) x) (x+1) 0 else kas_desc f p (x+1) 0).kasWp cmp Q s
   by_cases hneq:neq>0
   ·rw[if_pos hneq]
    exact desc ok f _ (x+1) 0 (hp.rev _ _) (ybu _) (up_one hn) (desc1 h1 hs (KeyOrd.kle_of_klt hless) (KN_rev_equal hsz he)) (ybu _) (fun i h1 h2=>one_eq h1 h2) hh
   ·rw[if_neg hneq]
    exact desc ok f _ (x+1) 0 hp (ybu _) (up_one hn) (desc1 h1 hs (KeyOrd.kle_of_klt hless) fun _=>rfl) (ybu _) (fun i h1 h2=>one_eq h1 h2) hh
  |false=>
   show(KasT.ask (p.getD (x-1) 0) (p.getD x 0) fun d=>if d=true then KasT.ret (p,x,neq)else kas_desc f p (x+1) (neq+1)).kasWp cmp Q s
   refine ok _ _ _ (hp.lt hx1) (hp.lt hxN) ?_
   cases hl:O.blt (key (p.getD (x-1) 0)) (key (p.getD x 0))with
   |true=>exact h p x neq hp (yab _) (Nat.le_add_right _ _) hs hq he
   |false=>
    show(kas_desc f p (x+1) (neq+1)).kasWp cmp Q s
    have heqx:KN key p x=KN key p (x-1):=KeyOrd.kle_antisymm hl hless
    refine desc ok f _ (x+1) (neq+1) hp (ybu _) (up_one hn) (desc1 h1 hs (by rw[heqx];exact KeyOrd.kle_refl _) fun _=>rfl) (Nat.succ_le_succ hq) (fun i h1 h2=> ?_) hh
    show KN key p i=KN key p x
    by_cases hix:i=x
    ·subst hix;rfl
    ·rw[heqx];exact he i (yau (yca (Nat.succ_sub_succ x (neq+1)).symm) h1) (ycg (ycn h2) hix)
theorem descPart(ok:AskOk O key N cmp s){p:Array Nat}(hp:Ord N p){n:Nat}{Q:Nat×Array Nat->Shared->Prop}(hn:n+1<=N)(hs:Ni key p (n+1))(h:∀m p',Ord N p'->1<=m->m<=N->So key p' m->Q (m,p') s):(kas_descPart n N p).kasWp cmp Q s:=by
 unfold kas_descPart
 rw[KasT.kasWp_bind]
 have hN:n+1+(N-(n+1))<=N:=yca (Nat.add_sub_cancel' hn)
 refine desc ok _ _ _ _ hp (ybu _) hN hs (ybu _) (fun i h1 h2=>one_eq h1 h2) fun p' m q a b c d e g=> ?_
 have hm:m<=N:=yau c hN
 have hm1:1<=m:=yau (ybu _) b
 have hsz:m<=p'.size:=by rw[a.size];exact hm
 dsimp only
 by_cases hq:q>0
 ·rw[if_pos hq]
  refine tail3 ok (a.rev _ _) hm1 hm (fun i j hij hj=> ?_) h
  rw[KN_rev_equal hsz g,KN_rev_equal hsz g]
  exact d i j hij hj
 ·rw[if_neg hq]
  exact tail3 ok a hm1 hm d h
theorem count(ok:AskOk O key N cmp s){p:Array Nat}(hp:Ord N p){Q:Nat×Array Nat->Shared->Prop}(h1:1<=N)(h:∀m p',Ord N p'->1<=m->m<=N->So key p' m->Q (m,p') s):(kas_count N p).kasWp cmp Q s:=by
 unfold kas_count
 rw[KasT.kasWp_bind]
 have hN:1+(N-1)=N:=Nat.add_sub_cancel' h1
 refine asc ok hp (N-1) 1 (yab _) (yca hN) (fun i j hij hj=>by
  have hj0:j=0:=Nat.lt_one_iff.mp hj
  subst hj0
  have hi0:i=0:=Nat.le_zero.mp hij
  subst hi0;exact KeyOrd.kle_refl _) fun n a b hsn hor=> ?_
 have hnN:n<=N:=yau b (yca hN)
 by_cases hnn:n=N
 ·rw[if_pos (by simpa using hnn)]
  exact h n p hp a hnN hsn
 ·rw[if_neg (by simpa using hnn)]
  have hlt:O.klt (KN key p n) (KN key p (n-1)):=hor.resolve_left fun z=>hnn (z.trans hN)
  have hln:n<N:=ycg hnN hnn
  by_cases hgt:n>1
  ·rw[if_pos hgt]
   have hn1:n-1<n:=pred_lt' a (yab _)
   refine ok _ _ _ (hp.lt h1) (hp.lt (ycv hn1 hln)) ?_
   cases hrose:O.blt (key (p.getD 0 0)) (key (p.getD (n-1) 0))with
   |true=>exact h n p hp a hnN hsn
   |false=>
    show(kas_descPart n N (kas_rev p 0 n)).kasWp cmp Q s
    have hsz:n<=p.size:=by rw[hp.size];exact hnN
    have hall:∀k,0<=k->k<n->KN key p k=KN key p (n-1):=fun k _ hk=>
     KeyOrd.kle_antisymm (hsn k (n-1) (ydy hk) hn1) (KeyOrd.kle_trans hrose (hsn 0 k (yas _) hk))
    refine descPart ok (hp.rev 0 n) hln (fun i j hij hj=> ?_) h
    rw[KN_rev_equal hsz hall,KN_rev_equal hsz hall]
    by_cases hjn:j<n
    ·rw[hall i (yas _) (ybn hij hjn),hall j (yas _) hjn];exact KeyOrd.kle_refl _
    ·have hj':j=n:=eq_top hj hjn
     subst hj'
     by_cases hi':i=j
     ·subst hi';exact KeyOrd.kle_refl _
     ·rw[hall i (yas _) (ycg hij hi')];exact KeyOrd.kle_of_klt hlt
  ·rw[if_neg hgt]
   have hn1':n=1:=ydh (Nat.not_lt.mp hgt) a
   subst hn1'
   refine descPart ok hp hln (fun i j hij hj=> ?_) h
   by_cases hi':i=j
   ·subst hi';exact KeyOrd.kle_refl _
   ·have hij':i<j:=ycg hij hi'
    have hj1:j=1:=ydh (ycn hj) (ybn (yas i) hij')
    subst hj1
    have hi0:i=0:=Nat.lt_one_iff.mp hij'
    subst hi0
    exact KeyOrd.kle_of_klt hlt
theorem half_lt{l r:Nat}(h:l<r):(l+r)/2<r:=by omega
theorem half_ge{l r:Nat}(h:l<r):l<=(l+r)/2:=by omega
theorem place(ok:AskOk O key N cmp s){p:Array Nat}(hp:Ord N p){k:Nat}{Q:Nat->Shared->Prop}(hk:k<N)(hs:So key p k):∀(f l r:Nat),l<=r->r<=k->r-l<=f->(∀i,i<l->O.kle (KN key p i) (KN key p k))->(∀i,r<=i->i<k->O.klt (KN key p k) (KN key p i))->
  (∀l,l<=k->(∀i,i<l->O.kle (KN key p i) (KN key p k))->(∀i,l<=i->i<k->O.klt (KN key p k) (KN key p i))->Q l s)->(kas_place p k f l r).kasWp cmp Q s
 |0,l,r,hlr,hrk,hm,hlo,hhi,h=>by
  have e:l=r:=ydh hlr (Nat.sub_eq_zero_iff_le.mp (Nat.le_zero.mp hm))
  subst e
  exact h l hrk hlo hhi
 |f+1,l,r,hlr,hrk,hm,hlo,hhi,h=>by
  show(if l≥r then KasT.ret l else KasT.ask (p.getD k 0) (p.getD ((l+r)/2) 0) fun c=>if c=true then kas_place p k f l ((l+r)/2)else kas_place p k f ((l+r)/2+1) r).kasWp cmp Q s
  by_cases hge:l≥r
  ·rw[if_pos hge]
   have e:l=r:=ydh hlr hge
   subst e
   exact h l hrk hlo hhi
  ·rw[if_neg hge]
   have hc:(l+r)/2<r:=half_lt (Nat.not_le.mp hge)
   have hd:l<=(l+r)/2:=half_ge (Nat.not_le.mp hge)
   generalize (l+r)/2=c at hc hd⊢
   refine ok _ _ _ (hp.lt hk) (hp.lt (ycv (yak hc hrk) hk)) ?_
   cases hless:O.blt (key (p.getD k 0)) (key (p.getD c 0))with
   |true=>
    refine place ok hp hk hs f l c hd (yan (yak hc hrk)) (ycn (yak (Nat.sub_lt_sub_right hd hc) hm)) hlo (fun i h1 h2=> ?_) h
    by_cases hi:i=c
    ·subst hi;exact hless
    ·exact KeyOrd.klt_of_klt_of_kle hless (hs c i h1 h2)
   |false=>
    refine place ok hp hk hs f (c+1) r hc hrk (ycn (yak (Nat.sub_lt_sub_left (ybn hd hc) (Nat.lt_succ_of_le hd)) hm)) (fun i h1=> ?_) hhi h
    by_cases hi:i=c
    ·subst hi;exact hless
    ·exact KeyOrd.kle_trans (hs i c (ycn h1) (yak hc hrk)) hless
theorem bins1{p:Array Nat}{k l:Nat}(hs:So key p k)(hl:l<=k)(hsz:k<p.size)(hlo:∀i,i<l->O.kle (KN key p i) (KN key p k))(hhi:∀i,l<=i->i<k->O.klt (KN key p k) (KN key p i)):So key (bubble p k (k-l)) (k+1):=by
 intro i j hij hj
 have e:k-(k-l)=l:=Nat.sub_sub_self hl
 rw[KN_bub hsz (Nat.sub_le _ _),KN_bub hsz (Nat.sub_le _ _),e]
 have hjk:j<=k:=ycn hj
 by_cases hi1:i=l
 ·rw[if_pos hi1]
  by_cases hj1:j=l
  ·rw[if_pos hj1];exact KeyOrd.kle_refl _
  ·have lj:l<j:=ycg (hi1▸hij) (Ne.symm hj1)
   rw[if_neg hj1,if_pos ⟨lj,hjk⟩]
   exact KeyOrd.kle_of_klt (hhi (j-1) (ydy lj) (ydf (ybn (yas _) lj) hjk))
 ·rw[if_neg hi1]
  by_cases hi2:l<i/\i<=k
  ·have lj:l<j:=yak hi2.1 hij
   rw[if_pos hi2,if_neg (Ne.symm (yam lj)),if_pos ⟨lj,hjk⟩]
   exact hs _ _ (Nat.sub_le_sub_right hij 1) (ydf (ybn (yas _) lj) hjk)
  ·rw[if_neg hi2]
   have il:i<l:=ycg (Nat.not_lt.mp fun z=>hi2 ⟨z,yau hij hjk⟩) hi1
   by_cases hj1:j=l
   ·rw[if_pos hj1];exact hlo i il
   ·rw[if_neg hj1]
    by_cases hj2:l<j/\j<=k
    ·rw[if_pos hj2];exact hs _ _ (ydy (ycv il hj2.1)) (ydf (ybn (yas _) hj2.1) hjk)
    ·rw[if_neg hj2];exact hs _ _ hij (yak (ycg (Nat.not_lt.mp fun z=>hj2 ⟨z,hjk⟩) hj1) hl)
theorem bins(ok:AskOk O key N cmp s){Q:Array Nat->Shared->Prop}:∀(f:Nat) (p:Array Nat) (k:Nat),Ord N p->1<=k->k+f=N->So key p k->(∀p',Ord N p'->So key p' N->Q p' s)->(kas_bin f p k).kasWp cmp Q s
 |0,p,k,hp,_,hf,hs,h=>h p hp ((show k=N from hf)▸hs)
 |f+1,p,k,hp,h1,hf,hs,h=>by
  show((kas_place p k k 0 k).bind fun l=>kas_bin f (bubble p k (k-l)) (k+1)).kasWp cmp Q s
  rw[KasT.kasWp_bind]
  have hk:k<N:=lt_mid (yca hf)
  have hsz:k<p.size:=by rw[hp.size];exact hk
  refine place ok hp hk hs k 0 k (yas _) (yab _) (Nat.sub_le _ _) (fun i hi=>absurd hi (ycx _)) (fun i h1 h2=>absurd h2 (Nat.not_lt.mpr h1)) fun l hl hlo hhi=> ?_
  exact bins ok f _ (k+1) (hp.bub _ _) (ybu _) ((ydi k f).trans hf) (bins1 hs hl hsz hlo hhi) h
theorem sort(ok:AskOk O key N cmp s){Q:Array Nat->Shared->Prop}(h1:1<=N)(h:∀p',Ord N p'->So key p' N->Q p' s):(kas_sort N).kasWp cmp Q s:=by
 unfold kas_sort
 rw[KasT.kasWp_bind]
 refine count ok ⟨Array.Perm.refl _⟩ h1 fun m p' hp hm1 hm2 hs=> ?_
 dsimp only
 by_cases hlt:m<N
 ·rw[if_pos hlt]
  have e:max m 1=m:=by omega
  rw[e]
  exact bins ok _ _ _ hp hm1 (by omega) hs h
 ·rw[if_neg hlt]
  have e:m=N:=by omega
  subst e
  exact h p' hp hs
end
end Srt
namespace Srt
open PySem PySem.W PyProof.Rows PySem.Calls
noncomputable def Outs{O:KeyOrd}(key:Nat->O.α)(vs out:List Value):Prop:=∃p:Array Nat,Ord vs.length p/\So key p vs.length/\out=p.toList.map fun i=>vs.getD i Value.none
section
variable{prog:Program}{w:World}{A:Around}{E:Value->Shared->Prop}{s:Shared}{O:KeyOrd}{key:Nat->O.α}{κ:SortKind}{vs:List Value}
theorem outs_small(h2:vs.length<2):Outs key vs vs:=by
 refine⟨List.toArray (List.range vs.length),⟨Array.Perm.refl _⟩,fun i j hij hj=> ?_,?_⟩
 ·have e:i=j:=by omega
  subst e;exact KeyOrd.kle_refl _
 ·match vs,h2 with
  |[],_=>rfl
  |[v],_=>rfl
  |_::_::_,h=>simp at h;omega
theorem list_sort_own{a:Addr}{n:Nat}{P:PySem.Fin->Shared->Prop}(ho:s.heap.get? a=some (seqObj "list" vs.toArray n))(h64:vs.length<64)(hkind:2<=vs.length->∀h',(∀b o,b≠a->s.heap.get? b=some o->h'.get? b=some o)->∀Q:SortKind->Shared->Prop,Q κ {s with heap:=h'}->wpAny (model prog w) A (keyKind' vs.toArray) Q E {s with heap:=h'})(hask:2<=vs.length->∀h',(∀b o,b≠a->s.heap.get? b=some o->h'.get? b=some o)->AskOk O key vs.length (kas_ask prog w A κ vs) {s with heap:=h'})(h:∀h' out c,Outs key vs out->(∀b o,b≠a->s.heap.get? b=some o->h'.get? b=some o)->h'.get? a=some (seqObj "list" (List.toArray out) c)->P (.done (.ret .none)) {s with heap:=h'}):
  wpAny (model prog w) A (Builtin.«list.sort» ⟨[.ref a],[]⟩) P E s:=by
 have ha:a<s.heap.objs.size:=yaq ho
 have s1:=Heap.SameBut.update s.heap a (Obj.mapSeq fun _=>(#[]:Array Value))
 obtain⟨e1,ho1⟩:∃e1,(s.heap.update a (Obj.mapSeq fun _=>(#[]:Array Value))).get? a=some (seqObj "list" #[] e1):=⟨_,get?_update_seq ho fun _=>#[]⟩
 have keep:∀b o,b≠a->s.heap.get? b=some o->(((s.heap.update a (Obj.mapSeq fun _=>(#[]:Array Value))).push (seqObj "tuple" vs.toArray 0)).push (seqObj "list" #[] 0)).get? b=some o:=fun b o hb e=>
  yad _ (yad _ ((s1.2 b hb).trans e))
 have ho6:(((s.heap.update a (Obj.mapSeq fun _=>(#[]:Array Value))).push (seqObj "tuple" vs.toArray 0)).push (seqObj "list" #[] 0)).get? a=some (seqObj "list" #[] e1):=yad _ (yad _ ho1)
 rw[list_sort_plain]
 refine wpAny_bind (listItems_at ho rfl ?_)
 refine wpAny_bind (listUpdate_at ho rfl ?_ (by rw[yah,sizeLine_eq];omega) (yas _))
 refine wpAny_bind (seqEpoch_at ho1 rfl ?_)
 refine wpAny_bind (wpAny_newTuple ?_ (by show vs.length<=_;rw[sizeLine_eq];omega))
 refine wpAny_bind (wpAny_newList ?_ (yas _))
 refine wpAny_holding ?_
 show wpAny (model prog w) A _ P E {s with heap:=((s.heap.update a (Obj.mapSeq fun _=>(#[]:Array Value))).push (seqObj "tuple" vs.toArray 0)).push (seqObj "list" #[] 0)}
 dsimp only
 by_cases h2:vs.toArray.size<2
 ·have h2':vs.length<2:=by simpa using h2
  rw[if_pos h2,if_pos h2]
  refine wpAny_bind (wpAny_pure ?_)
  rw[StateT.run_pure]
  refine wpAny_bind (wpAny_pure ?_)
  dsimp only
  refine wpAny_bind (seqEpoch_at ho6 rfl ?_)
  refine wpAny_bind (listUpdate_at ho6 rfl ?_ (yas _) (by rw[Array.size_map];show(pairsOf vs).size<=_;rw[pairsOf_size,sizeLine_eq];omega))
  simp only[bne_self_eq_false,Bool.false_eq_true,if_false]
  refine wpAny_pure ?_
  have eo:(vs.toArray.zip vs.toArray).map (·.2)=List.toArray vs:=by
   apply Array.toList_inj.mp
   simp[List.map_snd_zip]
  have s2:=Heap.SameBut.update (((s.heap.update a (Obj.mapSeq fun _=>(#[]:Array Value))).push (seqObj "tuple" vs.toArray 0)).push (seqObj "list" #[] 0)) a (Obj.mapSeq fun _=>List.toArray vs)
  obtain⟨c2,hc2⟩:∃c2,((((s.heap.update a (Obj.mapSeq fun _=>(#[]:Array Value))).push (seqObj "tuple" vs.toArray 0)).push (seqObj "list" #[] 0)).update a (Obj.mapSeq fun _=>List.toArray vs)).get? a=some (seqObj "list" (List.toArray vs) c2):=⟨_,get?_update_seq ho6 fun _=>List.toArray vs⟩
  have fin:=h _ vs c2 (outs_small h2') (fun b o hb e=>(s2.2 b hb).trans (keep b o hb e)) hc2
  first
   |exact fin
   |(rw[<-eo]at fin;exact fin)
   |(show P _ {s with heap:=Heap.update _ a (Obj.mapSeq fun _=>(vs.toArray.zip vs.toArray).map (·.2))};rw[eo];exact fin)
 ·have h2':2<=vs.length:=by rw[yah]at h2;omega
  rw[if_neg h2,if_neg h2]
  refine wpAny_bind (hkind h2' _ keep _ ?_)
  refine wpAny_bind (wpAny_mono (kat_run (Q:=fun st' s'=>s'={s with heap:=((s.heap.update a (Obj.mapSeq fun _=>(#[]:Array Value))).push (seqObj "tuple" vs.toArray 0)).push (seqObj "list" #[] 0)}/\∃p:Array Nat,p.size=vs.length/\arrOf st'=p.map (kas_item (vs.toArray.zip vs.toArray))/\failedOf st'=none/\Ord vs.length p/\So key p vs.length)
   (G:=fun p s'=>s'={s with heap:=((s.heap.update a (Obj.mapSeq fun _=>(#[]:Array Value))).push (seqObj "tuple" vs.toArray 0)).push (seqObj "list" #[] 0)}/\Ord vs.length p/\So key p vs.length)
   rfl h2' h64 (fun p' st' s' a1 a2 a3 a4=>⟨a4.1,p',a1,a2,a3,a4.2.1,a4.2.2⟩) (sort (hask h2' _ keep) (by omega) fun p' hp hs=>⟨rfl,hp,hs⟩)) ?_ fun _ _ e=>e)
  rintro⟨⟨⟩,st'⟩ s' ⟨rfl,p,hp,har,hf,hor,hso⟩
  dsimp only
  have hout:=kat_snds rfl har
  have hsz:(List.toArray (p.toList.map fun i=>vs.getD i Value.none)).size=vs.length:=by rw[yah,yaa,ybb,hp]
  rw[hout]
  refine wpAny_bind (seqEpoch_at ho6 rfl ?_)
  refine wpAny_bind (listUpdate_at ho6 rfl ?_ (yas _) (yau (yca hsz) (by rw[sizeLine_eq];omega)))
  rw[hf]
  simp only[bne_self_eq_false,Bool.false_eq_true,if_false]
  have s2:=Heap.SameBut.update (((s.heap.update a (Obj.mapSeq fun _=>(#[]:Array Value))).push (seqObj "tuple" vs.toArray 0)).push (seqObj "list" #[] 0)) a (Obj.mapSeq fun _=>List.toArray (p.toList.map fun i=>vs.getD i Value.none))
  obtain⟨c2,hc2⟩:∃c2,((((s.heap.update a (Obj.mapSeq fun _=>(#[]:Array Value))).push (seqObj "tuple" vs.toArray 0)).push (seqObj "list" #[] 0)).update a (Obj.mapSeq fun _=>List.toArray (p.toList.map fun i=>vs.getD i Value.none))).get? a=some (seqObj "list" (List.toArray (p.toList.map fun i=>vs.getD i Value.none)) c2):=⟨_,get?_update_seq ho6 fun _=>_⟩
  exact wpAny_pure (h _ _ c2 ⟨p,hor,hso,rfl⟩ (fun b o hb e=>(s2.2 b hb).trans (keep b o hb e)) hc2)
theorem sorted_own{l:Addr}{Q:Value->Shared->Prop}(hl:s.heap.IsList l vs.toArray)(h64:vs.length<64)(hkind:2<=vs.length->∀h',(∀b o,s.heap.get? b=some o->h'.get? b=some o)->∀(E:Value->Shared->Prop) (Q:SortKind->Shared->Prop),Q κ {s with heap:=h'}->wpAny (model prog w) A.in1.in1 (keyKind' vs.toArray) Q E {s with heap:=h'})(hask:2<=vs.length->∀h',(∀b o,s.heap.get? b=some o->h'.get? b=some o)->AskOk O key vs.length (kas_ask prog w A.in1.in1 κ vs) {s with heap:=h'})(h:∀D h' out c,Outs key vs out->s.heap.objs.size<=D->(∀b o,s.heap.get? b=some o->h'.get? b=some o)->h'.get? D=some (seqObj "list" (List.toArray out) c)->Q (.ref D) {s with heap:=h'}):
  wpAny (model prog w) A (call (.builtin "sorted") [.ref l]) Q E s:=by
 refine Calls.call_function_entry kind_sorted plain_sorted entry_sorted (args_sorted1 _) ?_
 unfold Builtin.«sorted»
 refine wpAny_bind (m:=checkCount "sorted" 1 1 _) (wpAny_pure ?_)
 refine wpAny_bind (collect_list hl ?_ (by rw[sizeLine_eq];omega))
 refine wpAny_bind (wpAny_newList ?_ (by rw[sizeLine_eq];omega))
 have hsz:((s.heap.push (seqObj "list" #[] 0)).update s.heap.objs.size (Obj.mapSeq (· ++vs.toArray))).objs.size=s.heap.objs.size+1:=by
  rw[Heap.size_update,size_push']
 have hoL:(((s.heap.push (seqObj "list" #[] 0)).update s.heap.objs.size (Obj.mapSeq (· ++vs.toArray))).push (seqObj "list" vs.toArray 0)).get? (s.heap.objs.size+1)=some (seqObj "list" vs.toArray 0):=by
  rw[<-hsz];exact yal _ rfl
 have keep:∀b o,s.heap.get? b=some o->(((s.heap.push (seqObj "list" #[] 0)).update s.heap.objs.size (Obj.mapSeq (· ++vs.toArray))).push (seqObj "list" vs.toArray 0)).get? b=some o:=fun b o q=>by
  have hlt:b<s.heap.objs.size:=yaq q
  rw[Heap.get?_push_ne _ _ _ (by rw[hsz];exact yam (yaw hlt)),Heap.get?_update_ne _ _ _ _ (yam hlt),Heap.get?_push_ne _ _ _ (yam hlt)]
  exact q
 have ne:∀b o,s.heap.get? b=some o->b≠s.heap.objs.size+1:=fun b o q=>yam (yaw (yaq q))
 show wpAny _ _ _ _ _ {s with heap:=((s.heap.push (seqObj "list" #[] 0)).update s.heap.objs.size (Obj.mapSeq (· ++vs.toArray))).push (seqObj "list" vs.toArray 0)}
 rw[hsz]
 refine wpAny_bind (wpAny_holding (wpAny_call_entry slot_list_sort ⟨_,hoL,rfl⟩ entry_list_sort ?body (args_list_sort _)))
 case body=>
  refine list_sort_own (key:=key) (κ:=κ) (s:={s with heap:=((s.heap.push (seqObj "list" #[] 0)).update s.heap.objs.size (Obj.mapSeq (· ++vs.toArray))).push (seqObj "list" vs.toArray 0)}) hoL h64
   (fun h2 h' k Q hq=>hkind h2 h' (fun b o q=>k b o (ne b o q) (keep b o q)) _ Q hq) (fun h2 h' k=>hask h2 h' fun b o q=>k b o (ne b o q) (keep b o q)) fun h' out c ho k hc=> ?_
  exact⟨_,rfl,wpAny_pure ⟨_,rfl,h _ h' out c ho (ycr _) (fun b o q=>k b o (ne b o q) (keep b o q)) hc⟩⟩
end
end Srt
namespace HT
open PySem PyProof.Rows
theorem lexLt_iff:∀(a b:List Int),lexLt a b=decide (a<b)
 |[],[]=>by simp[lexLt]
 |[],_::_=>by simp[lexLt]
 |_::_,[]=>by simp[lexLt]
 |x::xs,y::ys=>by
  rw[lexLt_cons,lexLt_iff xs ys]
  by_cases e:x=y
  ·subst e;simp
  ·rw[if_neg e]
   by_cases l:x<y
   ·simp[l,ydq]
   ·have:¬(x::xs<y::ys):=by rw[ydq];simp[l,e]
    simp[l,this]
end HT
namespace Srt
open PySem PySem.W PyProof.Rows PySem.Calls
noncomputable def lexOrd:KeyOrd where
 α:=List Int
 blt a b:=decide (a<b)
 irrefl a:=by simpa using List.lt_irrefl a
 trans a b c h1 h2:=by simp only[decide_eq_true_eq]at *;exact List.lt_trans h1 h2
 negTrans a b c h:=by
  simp only[decide_eq_true_eq]at *
  by_cases hab:a<b
  ·exact .inl hab
  ·exact .inr (List.lt_of_le_of_lt (ycy.mp hab) h)
 total a b h1 h2:=by simp only[decide_eq_false_iff_not]at *;exact List.le_antisymm (ycy.mp h2) (ycy.mp h1)
noncomputable def intOrd:KeyOrd where
 α:=Int
 blt a b:=decide (a<b)
 irrefl a:=by simp
 trans a b c h1 h2:=by simp only[decide_eq_true_eq]at *;omega
 negTrans a b c h:=by simp only[decide_eq_true_eq]at *;omega
 total a b h1 h2:=by simp only[decide_eq_false_iff_not]at *;omega
section
variable{prog:Program}{w:World}{A:Around}{E:Value->Shared->Prop}{s:Shared}{Q:Bool->Shared->Prop}
theorem lex_ints{na nb:Nat}{xs ys:List Value}{ns ms:List Int}(i:Nat)(hx:IntsAre xs ns)(hy:IntsAre ys ms)(hl:ns.length+nb=ms.length+na)(h:Q (HT.lexLt ns ms) s):KatLex prog w A true (decide (na<nb)) Q (xs.zip ys) i s:=by
 induction hx generalizing ys ms i with
 |nil=>
  rw[List.zip_nil_left]
  refine kat_nil ?_
  cases hy with
  |nil=>
   rw[HT.lexLt_nil_nil]at h
   rw[decide_eq_false (by simp only[ydg]at hl;omega)];exact h
  |cons c u hw=>
   rw[HT.lexLt_nil_cons]at h
   rw[decide_eq_true (by simp only[ydg,ybh]at hl;omega)];exact h
 |cons a t hv ih=>
  cases hy with
  |nil=>
   rw[List.zip_nil_right]
   refine kat_nil ?_
   rw[HT.lexLt_cons_nil]at h
   rw[decide_eq_false (by simp only[ydg,ybh]at hl;omega)];exact h
  |cons c u hw=>
   rw[List.zip_cons_cons]
   rw[HT.lexLt_cons]at h
   refine kat_cons (wpAny_eqBool_int ?_)
   refine kat_go (fun e=> ?_) fun e=> ?_
   ·have e':a=c:=by simpa using e
    rw[if_pos e']at h
    exact kat_yes (ih (i+1) hw (by simp only[ybh]at hl;omega) h)
   ·have e':a≠c:=by simpa using e
    rw[if_neg e']at h
    refine kat_no ?_
    cases i with
    |zero=>exact oneLt_int h
    |succ i=>exact kat_one _ _ (lt_int (show PySem.W.BoolBack Q (.bool (decide (a<c))) s from h))
end
theorem outs_of{O:KeyOrd}{key:Nat->O.α}{α:Type}{vs out:List Value}{its:List α}{d:α}{f:α->O.α}{R:α->Value->Prop}(hR:Paired R its vs)(hk:∀i (hi:i<its.length),key i=f its[i])(h:Outs key vs out):
  ∃its':List α,its'.Perm its/\Paired R its' out/\its'.Pairwise fun x y=>O.kle (f x) (f y):=by
 obtain⟨p,hp,hs,rfl⟩:=h
 have hl:=hR.length
 have get:∀{l₁:List α} {l₂:List Value} {i:Nat},Paired R l₁ l₂->(h:i<l₁.length)->∃v,l₂[i]? =some v/\R l₁[i] v:=by
  intro l₁ l₂ i q
  induction q generalizing i with
  |nil=>intro h;simp at h
  |cons r t ih=>
   intro h
   cases i with
   |zero=>exact⟨_,rfl,r⟩
   |succ i=>
    obtain⟨v,e,rv⟩:=ih (i:=i) (by simpa using h)
    exact⟨v,by simpa using e,by simpa using rv⟩
 have hlt:∀i∈p.toList,i<its.length:=fun i hi=>by
  have:=(ydw.mp hp.perm).mem_iff.mp hi
  rw[hl];simpa using this
 refine⟨p.toList.map fun i=>its.getD i d,?_,?_,?_⟩
 ·have q:=(ydw.mp hp.perm).map (fun i=>its.getD i d)
  refine q.trans ?_
  have e:(List.toArray (List.range vs.length)).toList.map (fun i=>its.getD i d)=its:=by
   rw[<-hl]
   apply ydu
   intro i
   simp only[yae]
   by_cases hi:i<its.length
   ·simp[hi]
   ·simp[hi]
  rw[e]
 ·have mk:∀l:List Nat,(∀i∈l,i<its.length)->Paired R (l.map fun i=>its.getD i d) (l.map fun i=>vs.getD i Value.none):=by
   intro l
   induction l with
   |nil=>intro _;exact .nil
   |cons i l ih=>
    intro hb
    refine .cons ?_ (ih fun j hj=>hb j (yai _ hj))
    have hi:=hb i yap
    obtain⟨v,e,r⟩:=get hR hi
    have e1:its.getD i d=its[i]:=by simp[hi]
    have e2:vs.getD i Value.none=v:=by rw[yag,e];rfl
    show R (its.getD i d) (vs.getD i Value.none)
    rw[e1,e2];exact r
  exact mk _ hlt
 ·rw[ybq]
  intro i j hi hj hij
  simp only[yaa,ybb]at hi hj
  simp only[List.getElem_map]
  have hsz:=hp.size
  have q:=hs i j (by omega) (by omega)
  have e:∀k (hk':k<p.size),KN key p k=f (its.getD p.toList[k] d):=fun k hk'=>by
   have e1:p.getD k 0=p.toList[k]:=by simp[Array.getD,hk']
   have hb:=hlt p.toList[k] (yby _)
   have e2:its.getD p.toList[k] d=its[p.toList[k]]:=by simp only[yag,yac hb,Option.getD_some]
   unfold KN
   rw[e1,e2]
   exact hk _ hb
  rw[e i hi,e j hj]at q
  exact q
end Srt
namespace L2
open PySem PySem.Spec PyProof.Rows PySem.W
section
variable{X:Cx}
theorem call_sortedT:CallR X (.builtin "sorted") (fun xs H Q=>∃(a:Addr) (its:List (Addr×List Int)),xs=[.ref a]/\SqL X.K H a (its.map fun p=>V.ref p.1)/\(∀p∈its,SqT X.K H p.1 (p.2.map V.int)/\p.2≠[])/\its.length<64/\
  ∀(l:Addr) (its':List (Addr×List Int)),H l=none->its'.Perm its->its'.Pairwise (fun p q=>HT.lexLt q.2 p.2=false)->Q (.ref l) (upd H l (.lst (its'.map fun p=>V.ref p.1)))):=by
 intro pins s σ H xs us Q I r h
 obtain⟨a,its,rfl,hS,hT,h64,q⟩:=h
 obtain⟨u,rfl,ru⟩:=r.one
 cases ru
 obtain⟨vs,rv,pl,hz⟩:=I.list hS
 have hlen:its.length=vs.length:=by have:=rv.length;simpa using this
 -- the values beside the tuples
 have pr:Paired (fun(p:Addr×List Int) (v:Value)=>v= .ref p.1) its vs:=by
  have go:∀(l:List (Addr×List Int)) (us:List Value),Vals (l.map fun p=>V.ref p.1) us->Paired (fun(p:Addr×List Int) (v:Value)=>v= .ref p.1) l us:=by
   intro l
   induction l with
   |nil=>intro us h;cases h;exact .nil
   |cons p l ih=>
    intro us h
    cases h with
    |cons r t=>exact .cons r (ih _ t)
  exact go its vs rv
 have tup:∀p∈its,∃(items:List Value),IntsAre items p.2/\IsTup s.heap p.1 items.toArray:=fun p hp=>by
  obtain⟨its',r',t',_⟩:=I.tuple (hT p hp).1
  exact⟨its',intsAre_of r',t'⟩
 refine Srt.sorted_own (O:=Srt.lexOrd) (key:=fun i=>(its.getD i (0,[])).2) (κ:=tuples' true) (s:=s) pl.isList (by omega) (fun h2 h' k E' Q' hq=> ?_) (fun h2 h' k=> ?_) (fun D h' out c ho hD k hc=> ?_)
 ·have kt:∀(l:List (Addr×List Int)) (us:List Value),Paired (fun(p:Addr×List Int) (v:Value)=>v= .ref p.1) l us->(∀p∈l,p∈its)->∃fs:List Value,KatTups h' us fs/\fs.length=us.length/\∀v∈fs,∃i t,v=Value.int i t:=by
   intro l us h
   induction h with
   |nil=>intro _;exact⟨[],trivial,rfl,fun _ hv=>nomatch hv⟩
   | @cons p v l us r t ih=>
    intro hs
    obtain⟨fs,k1,k2,k3⟩:=ih fun p hp=>hs p (yai _ hp)
    obtain⟨items,hi,o,e,hc,n,hd⟩:=tup p (hs p yap)
    have hne:=(hT p (hs p yap)).2
    obtain⟨pa,pn⟩:=p
    dsimp only at hi hne e r
    cases hi with
    |nil=>exact absurd rfl hne
    |cons i t hi'=>
     rw[r]
     refine⟨Value.int i t::fs,KatTups.cons (k _ _ e) hc hd (by simp) k1,by simp[k2],fun v hv=> ?_⟩
     rcases yaj.mp hv with e|e
     ·exact⟨i,t,e⟩
     ·exact k3 v e
  obtain⟨fs,k1,k2,k3⟩:=kt its vs pr fun _ hp=>hp
  refine kat_kind (s:={s with heap:=h'}) (T:= .type "int") k1 (by omega) (fun v hv=> ?_) (by rfl) hq
  obtain⟨i,t,rfl⟩:=k3 v hv
  exact fun A Q E s _ q=>wpAny_pure q
 ·intro i j C hi hj hC
  rw[<-hlen]at hi hj
  have get:∀i (hi:i<its.length),vs.getD i Value.none= .ref its[i].1:=by
   have go:∀(l:List (Addr×List Int)) (us:List Value),Paired (fun(p:Addr×List Int) (v:Value)=>v= .ref p.1) l us->∀i (hi:i<l.length),us.getD i Value.none= .ref l[i].1:=by
    intro l us h
    induction h with
    |nil=>intro i hi;simp at hi
    |cons r t ih=>
     intro i hi
     cases i with
     |zero=>exact r
     |succ i=>simpa using ih i (by simpa using hi)
   exact go its vs pr
  unfold kas_ask
  rw[get i hi,get j hj]
  obtain⟨xi,hxi,oi,ei,ci,ni,di⟩:=tup its[i] (yby _)
  obtain⟨xj,hxj,oj,ej,cj,nj,dj⟩:=tup its[j] (yby _)
  refine kat_lt (s:={s with heap:=h'}) (k _ _ ei) di (k _ _ ej) dj ?_
  refine Srt.lex_ints 0 hxi hxj ?_ ?_
  ·have:=hxi.length;have:=hxj.length
   simp only[yah]
   omega
  ·rw[HT.lexLt_iff]
   have e1:its.getD i (0,[])=its[i]:=by simp[hi]
   have e2:its.getD j (0,[])=its[j]:=by simp[hj]
   have hC':C (decide ((its.getD i (0,[])).2<(its.getD j (0,[])).2)) {s with heap:=h'}:=hC
   rw[e1,e2]at hC'
   exact hC'
 ·obtain⟨its',hp,hr,hw⟩:=Srt.outs_of (d:=((0,[]):Addr×List Int)) (f:=fun p=>p.2) pr (fun i hi=>by show(its.getD i (0,[])).2=_;simp[hi]) ho
  have hn:H D=none:=I.hok.fresh hD
  have rv':Vals (its'.map fun p=>V.ref p.1) out:=by
   have go:∀(l:List (Addr×List Int)) (us:List Value),Paired (fun(p:Addr×List Int) (v:Value)=>v= .ref p.1) l us->Vals (l.map fun p=>V.ref p.1) us:=by
    intro l us h
    induction h with
    |nil=>exact .nil
    |cons r t ih=>exact .cons r ih
   exact go its' out hr
  have zl:(its'.map fun p=>V.ref p.1).length<=sizeLine:=by
   have:=hp.length_eq
   rw[yaa]
   exact yan (small1000 (by omega))
  have J:Inv X pins σ (upd H D (.lst (its'.map fun p=>V.ref p.1))) {s with heap:=h',toks:=s.toks}:=I.laid k hD ⟨zl,out,c,rv',hc⟩
  refine⟨.ref D,_,J,rfl,q D its' hn hp (hw.imp fun{x y} hxy=> ?_)⟩
  rw[HT.lexLt_iff];exact hxy
end
end L2
namespace L2
open PySem PySem.Spec PyProof.Rows
section
variable{X:Cx}
theorem bools_of:∀{bs:List Bool} {us:List Value},Vals (bs.map V.bl) us->us=bs.map Value.bool
 |[],_,h=>by cases h;rfl
 |b::bs,_,h=>by
  cases h with
  |cons r t=>rw[ybz,bools_of t];exact congrArg (· ::_) r
theorem call_all(hc:X.calm=true):CallR X (.builtin "all") (fun xs H Q=>∃(a:Addr) (bs:List Bool),xs=[.ref a]/\SqL X.K H a (bs.map V.bl)/\Q (.bl (bs.all id)) H):=by
 intro pins s σ H xs us Q I r h
 obtain⟨a,bs,rfl,hS,q⟩:=h
 obtain⟨u,rfl,ru⟩:=r.one
 cases ru
 obtain⟨vs,rv,pl,hz⟩:=I.list hS
 have hv:=bools_of rv
 have hl:=pl.isList
 have hlt:a<s.heap.objs.size:=by obtain⟨_,e,_⟩:=hl;exact yaq e
 refine call_all_walk (wpAny_pyIter_list hl ?_)
 refine⟨s.heap.objs.size,[s.heap.objs.size,a],[s.heap.objs.size],vs.toArray.size,_,_,fun i=>(bs[i]?).getD true,rfl,Walks.list (A:=X.A.in1) (I.ok.hd hc) _ a (yam hlt) vs.toArray,
  ⟨⟨_,yal _ rfl,rfl,rfl⟩,hl.push _⟩,fun i v s' Q' E' hP hQ=> ?_,fun h' tk hk=> ?_⟩
 ·have hP':vs[i]? =some v:=by simpa using hP
  rw[hv,yae]at hP'
  cases e:bs[i]? with
  |none=>rw[e]at hP';cases hP'
  |some b=>
   rw[e]at hP'
   cases hP'
   simp only[e,Option.getD_some]at hQ
   exact wpAny_truthy_bool hQ
 ·have e:((List.range vs.toArray.size).all fun i=>(bs[i]?).getD true)=bs.all id:=by
   rw[yah,hv,yaa];exact LSm.range_all bs
  rw[e]
  exact⟨.bl _,H,I.kept (LSm.kept_iter hk),rfl,q⟩
noncomputable def KindV(K:W.Frag)(H:Hp):V->String->Prop
 | .non,T=>T="NoneType"
 | .bl _,T=>T="bool"
 | .int _,T=>T="int"
 | .str _,T=>T="str"
 | .ref a,T=>(T="tuple"/\∃xs,SqT K H a xs)\/(T="list"/\∃xs,SqL K H a xs)\/(T="dict"/\∃kvs,H a=some (.dK kvs))
 |_,_=>False
noncomputable def isiB(T C:String):Bool:=T==C||(T=="bool"&&C=="int")
theorem zdk:CallR X (.builtin "isinstance") (fun xs H Q=>∃(x:V) (T C:String),xs=[x,.ty C]/\KindV X.K H x T/\(C="int"\/C="bool"\/C="tuple"\/C="list")/\Q (.bl (isiB T C)) H):=by
 intro pins s σ H xs us Q I r h
 obtain⟨x,T,C,rfl,hk,hC,q⟩:=h
 obtain⟨u,v,rfl,ru,rv⟩:=r.two
 cases rv
 have fin0:∀b,b=isiB T C->EP X pins σ Q (.bool b) s:=fun b e=>⟨.bl b,H,I,rfl,by rw[e];exact q⟩
 have fin1:∀b,b=isiB T C->EP X pins σ Q (.bool b) {s with toks:=s.toks+1}:=fun b e=>⟨.bl b,H,I.tok _,rfl,by rw[e];exact q⟩
 cases x with
 |non=>
  cases ru;cases hk
  rcases hC with rfl|rfl|rfl|rfl
  ·exact IsiPair.NoneType_int (fin1 _ rfl)
  ·exact IsiPair.NoneType_bool (fin1 _ rfl)
  ·exact IsiPair.NoneType_tuple (fin1 _ rfl)
  ·exact IsiPair.NoneType_list (fin1 _ rfl)
 |bl b=>
  cases ru;cases hk
  rcases hC with rfl|rfl|rfl|rfl
  ·exact IsiPair.bool_int (fin0 _ rfl)
  ·exact IsiPair.bool_bool (fin0 _ rfl)
  ·exact IsiPair.bool_tuple (fin1 _ rfl)
  ·exact IsiPair.bool_list (fin1 _ rfl)
 |int i=>
  obtain⟨t,rfl⟩:=ru;cases hk
  rcases hC with rfl|rfl|rfl|rfl
  ·exact IsiPair.int_int (fin0 _ rfl)
  ·exact IsiPair.int_bool (fin1 _ rfl)
  ·exact IsiPair.int_tuple (fin1 _ rfl)
  ·exact IsiPair.int_list (fin1 _ rfl)
 |str z=>
  obtain⟨t,rfl⟩:=ru;cases hk
  rcases hC with rfl|rfl|rfl|rfl
  ·exact IsiPair.str_int (fin1 _ rfl)
  ·exact IsiPair.str_bool (fin1 _ rfl)
  ·exact IsiPair.str_tuple (fin1 _ rfl)
  ·exact IsiPair.str_list (fin1 _ rfl)
 |ref a=>
  cases ru
  rcases hk with⟨rfl,xs,hS⟩|⟨rfl,xs,hS⟩|⟨rfl,kvs,hS⟩
  ·obtain⟨its,_,⟨o,e,c,n,d⟩,_⟩:=I.tuple hS
   rcases hC with rfl|rfl|rfl|rfl
   ·exact IsiPair.tuple_int e c (fin1 _ rfl)
   ·exact IsiPair.tuple_bool e c (fin1 _ rfl)
   ·exact IsiPair.tuple_tuple e c (fin0 _ rfl)
   ·exact IsiPair.tuple_list e c (fin1 _ rfl)
  ·obtain⟨its,_,⟨o,n,e,c,d,_⟩,_⟩:=I.list hS
   rcases hC with rfl|rfl|rfl|rfl
   ·exact IsiPair.list_int e c (fin1 _ rfl)
   ·exact IsiPair.list_bool e c (fin1 _ rfl)
   ·exact IsiPair.list_tuple e c (fin1 _ rfl)
   ·exact IsiPair.list_list e c (fin0 _ rfl)
  ·obtain⟨_,_,vs,_,o,es,ep,e,c,_⟩:=I.hok a _ hS
   have c':o.cls= .type "dict":=c.1
   rcases hC with rfl|rfl|rfl|rfl
   ·exact IsiPair.dict_int e c' (fin1 _ rfl)
   ·exact IsiPair.dict_bool e c' (fin1 _ rfl)
   ·exact IsiPair.dict_tuple e c' (fin1 _ rfl)
   ·exact IsiPair.dict_list e c' (fin1 _ rfl)
 |_=>exact hk.elim
end
mutual
inductive DV(K:W.Frag)(H:Hp):V->PyData->Prop
 |non:DV K H .non .none
 |bl (b:Bool):DV K H (.bl b) (.bool b)
 |int (i:Int):DV K H (.int i) (.int i)
 |str (x:Str):DV K H (.str x) (.str x)
 |tup {a:Addr} {xs:List V} {ds:List PyData} (h:SqT K H a xs) (t:DVs K H xs ds):DV K H (.ref a) (.tuple ds)
 |lst {a:Addr} {xs:List V} {ds:List PyData} (h:SqL K H a xs) (t:DVs K H xs ds):DV K H (.ref a) (.list ds)
 |dc0 {a:Addr} (h:H a=some (.dK [])):DV K H (.ref a) (.dict [])
 |dc1 {a b:Addr} {i:Int} (h:H a=some (.dK [(Sum.inl i,.ref b)])) (t:SqT K H b []):DV K H (.ref a) (.dict [(.int i,.tuple [])])
inductive DVs(K:W.Frag)(H:Hp):List V->List PyData->Prop
 |nil:DVs K H [] []
 |cons {x:V} {d:PyData} {xs:List V} {ds:List PyData} (h:DV K H x d) (t:DVs K H xs ds):DVs K H (x::xs) (d::ds)
end
theorem Same.tup{K:W.Frag}{H H':Hp}{a:Addr}{xs:List V}(e:Same H H')(h:SqT K H a xs):SqT K H' a xs:=by
 rcases h with(h|⟨o,h⟩)|h
 ·exact .inl (.inl (e _ _ h))
 ·exact .inl (.inr ⟨o,e _ _ h⟩)
 ·exact .inr h
theorem DVs.same{K:W.Frag}{H H':Hp}(e:Same H H'){xs:List V}{ds:List PyData}(h:DVs K H xs ds):DVs K H' xs ds:=
 DVs.rec (motive_1:=fun x d _=>DV K H' x d) (motive_2:=fun xs ds _=>DVs K H' xs ds) .non (fun b=> .bl b) (fun i=> .int i) (fun x=> .str x) (fun h _ t=> .tup (e.tup h) t) (fun h _ t=> .lst (e.seq h) t) (fun h=> .dc0 (e _ _ h)) (fun h t=> .dc1 (e _ _ h) (e.tup t)) .nil (fun _ _ h t=> .cons h t) h
theorem pairs_nil{P:Program}{w:World}{es:List DictEntry}(h:Pairs (mixKind P w) es []):es=[]:=by
 cases h;rfl
theorem pairs_one{P:Program}{w:World}{es:List DictEntry}{k:Key}{u:Value}(h:Pairs (mixKind P w) es [(k,u)]):∃e,es=[e]/\keyIs k e.key=true/\e.val=u:=by
 cases h with
 |cons h1 h2 h3=>
  cases h3
  exact⟨_,rfl,h1,h2⟩
section
variable{X:Cx}{pins:List (Addr×Obj)}{σ:St}{H:Hp}{s:Shared}
theorem dc0_reads(I:Inv X pins σ H s){a:Addr}(h:H a=some (.dK [])):Reads s.heap (.ref a) (.dict []) (a::[]++[])/\(a==sysModules)=false:=by
 obtain⟨_,hne,vs,r0,o,es,ep,e,c,d,_,pr,_⟩:=I.hok _ _ h
 cases r0
 have hes:es.toList=[]:=pairs_nil pr
 refine⟨.dict (kvs:=[]) (as:=[]) (bs:=[]) e c.1 d ?_ ?_,hne⟩
 ·rw[hes];exact .nil
 ·rw[hes];exact .nil
theorem dc1_reads(I:Inv X pins σ H s){a b:Addr}{i:Int}(h:H a=some (.dK [(Sum.inl i,.ref b)]))(t:SqT X.K H b []):Reads s.heap (.ref a) (.dict [(.int i,.tuple [])]) (a::([]++[])++([]++[]))/\(a==sysModules)=false:=by
 obtain⟨_,hne,vs,r0,o,es,ep,e,c,d,_,pr,_⟩:=I.hok _ _ h
 obtain⟨its,rv,⟨o2,e2,c2,n2,d2⟩,_⟩:=I.tuple t
 cases rv
 cases r0 with
 | @cons p q ps qs hq tl=>
  cases tl
  obtain⟨en,he,hk,hv⟩:=pairs_one pr
  obtain⟨k,u⟩:=q
  dsimp only at hq
  obtain⟨hk1,hu1⟩:=hq
  subst hk1
  cases hu1
  obtain⟨tk,ek⟩:∃tk,en.key=Value.int i tk:=by
   rcases zbt hk with⟨i',t',e3,e4⟩|⟨x,t',e3,e4⟩
   ·cases e3;exact⟨t',e4⟩
   ·cases e3
  refine⟨.dict (kvs:=[(.int i,.tuple [])]) (as:=[]++[]) (bs:=[]++[]) e c.1 d ?_ ?_,hne⟩
  ·rw[he]
   show ReadsAll s.heap [en.key] [PyData.int i] _
   rw[ek]
   exact .cons (.int i tk) .nil
  ·rw[he]
   show ReadsAll s.heap [en.val] [PyData.tuple []] _
   rw[hv]
   exact .cons (.tuple e2 c2 d2 .nil) .nil
end
section
variable{X:Cx}{pins:List (Addr×Obj)}{σ:St}{H:Hp}{s:Shared}
theorem reads_tup(I:Inv X pins σ H s){a:Addr}{xs:List V}{ds:List PyData}(h:SqT X.K H a xs)(t:∀{us:List Value},Vals xs us->∃as,ReadsAll s.heap us ds as){u:Value}(r:RelV (.ref a) u):∃as,Reads s.heap u (.tuple ds) as:=by
 cases r
 obtain⟨its,rv,⟨o,e,c,n,d⟩,_⟩:=I.tuple h
 obtain⟨as,ra⟩:=t rv
 exact⟨_,.tuple e c d (by simpa using ra)⟩
theorem reads_lst(I:Inv X pins σ H s){a:Addr}{xs:List V}{ds:List PyData}(h:SqL X.K H a xs)(t:∀{us:List Value},Vals xs us->∃as,ReadsAll s.heap us ds as){u:Value}(r:RelV (.ref a) u):∃as,Reads s.heap u (.list ds) as:=by
 cases r
 obtain⟨its,rv,⟨o,n,e,c,_,d⟩,_⟩:=I.list h
 obtain⟨as,ra⟩:=t rv
 exact⟨_,.list e c d (by simpa using ra)⟩
theorem DV.reads(I:Inv X pins σ H s){x:V}{d:PyData}{u:Value}(h:DV X.K H x d)(r:RelV x u):∃as,Reads s.heap u d as:=
 DV.rec (motive_1:=fun x d _=>∀{u:Value},RelV x u->∃as,Reads s.heap u d as) (motive_2:=fun xs ds _=>∀{us:List Value},Vals xs us->∃as,ReadsAll s.heap us ds as)
  (fun r=>by cases r;exact⟨_,.none⟩) (fun b _ r=>by cases r;exact⟨_,.bool b⟩) (fun i _ r=>by obtain⟨t,rfl⟩:=r;exact⟨_,.int i t⟩) (fun x _ r=>by obtain⟨t,rfl⟩:=r;exact⟨_,.str x t⟩)
  (fun h _ t _ r=>reads_tup I h t r) (fun h _ t _ r=>reads_lst I h t r) (fun h _ r=>by cases r;exact⟨_,(dc0_reads I h).1⟩) (fun h t _ r=>by cases r;exact⟨_,(dc1_reads I h t).1⟩)
  (fun r=>by cases r;exact⟨_,.nil⟩) (fun _ _ h t _ r=>by
   cases r with
   |cons r rr=>
    obtain⟨as,ra⟩:=h r
    obtain⟨bs,rb⟩:=t rr
    exact⟨_,.cons ra rb⟩) h r
theorem DVs.reads(I:Inv X pins σ H s){xs:List V}{ds:List PyData}{us:List Value}(h:DVs X.K H xs ds)(r:Vals xs us):∃as,ReadsAll s.heap us ds as:=
 DVs.rec (motive_1:=fun _ _ _=>True) (motive_2:=fun xs ds _=>∀{us:List Value},Vals xs us->∃as,ReadsAll s.heap us ds as) trivial (fun _=>trivial) (fun _=>trivial) (fun _=>trivial) (fun _ _ _=>trivial) (fun _ _ _=>trivial) (fun _=>trivial) (fun _ _=>trivial)
  (fun r=>by cases r;exact⟨_,.nil⟩) (fun h _ _ t _ r=>by
   cases r with
   |cons r rr=>
    obtain⟨as,ra⟩:=DV.reads I h r
    obtain⟨bs,rb⟩:=t rr
    exact⟨_,.cons ra rb⟩) h r
end
mutual
noncomputable def noL:PyData->Bool
 | .list _=>false
 | .tuple ds=>noLs ds
 |_=>true
noncomputable def noLs:List PyData->Bool
 |[]=>true
 |d::ds=>noL d&&noLs ds
end
section
variable{X:Cx}{pins:List (Addr×Obj)}{σ:St}{H:Hp}{s:Shared}
end
theorem DVs.ints{K:W.Frag}{H:Hp}:∀(ns:List Int),DVs K H (ns.map V.int) (ns.map PyData.int)
 |[]=> .nil
 |n::ns=> .cons (.int n) (DVs.ints ns)
theorem DVs.len{K:W.Frag}{H:Hp}{xs:List V}{ds:List PyData}(h:DVs K H xs ds):xs.length=ds.length:=
 DVs.rec (motive_1:=fun _ _ _=>True) (motive_2:=fun xs ds _=>xs.length=ds.length) trivial (fun _=>trivial) (fun _=>trivial) (fun _=>trivial) (fun _ _ _=>trivial) (fun _ _ _=>trivial) (fun _=>trivial) (fun _ _=>trivial) rfl (fun _ _ _ t=>congrArg Nat.succ t) h
section
variable{X:Cx}
theorem op_eqD(hu:X.A.units+64<cLine):OpR X (compareOp .Eq) (fun x y H Q=>∃da db,DV X.K H x da/\DV X.K H y db/\da.canLay0=true/\db.canLay0=true/\min da.depth db.depth<=64/\Q (.bl (PyData.eqv da db)) H):=by
 intro pins s σ H x y v u Q I rx ry h
 obtain⟨da,db,hx,hy,ca,cb,hd,q⟩:=h
 obtain⟨as,ra⟩:=DV.reads I hx rx
 obtain⟨bs,rb⟩:=DV.reads I hy ry
 exact SeqAt.rcAt_reads ra rb ca cb (by omega) _ _ _ _ ⟨.bl _,H,I,rfl,q⟩
theorem op_neD(hu:X.A.units+64<cLine):OpR X (compareOp .NotEq) (fun x y H Q=>∃da db,DV X.K H x da/\DV X.K H y db/\da.canLay0=true/\db.canLay0=true/\min da.depth db.depth<=64/\Q (.bl (!PyData.eqv da db)) H):=by
 intro pins s σ H x y v u Q I rx ry h
 obtain⟨da,db,hx,hy,ca,cb,hd,q⟩:=h
 obtain⟨as,ra⟩:=DV.reads I hx rx
 obtain⟨bs,rb⟩:=DV.reads I hy ry
 exact SeqAt.rcNeAt_reads ra rb ca cb (by omega) _ _ _ _ ⟨.bl _,H,I,rfl,q⟩
theorem allLay:∀{ds:List PyData},PyData.canLayAll0 ds=true->∀d∈ds,d.canLay0=true
 |[],_,d,h=>nomatch h
 |e::ds,h,d,hd=>by
  have h':(e.canLay0&&PyData.canLayAll0 ds)=true:=h
  rw[Bool.and_eq_true]at h'
  rcases yaj.mp hd with rfl|hd
  ·exact h'.1
  ·exact allLay h'.2 d hd
open Classical in
theorem op_inD(hu:X.A.units+64<cLine):OpR X (compareOp .In) (fun x y H Q=>∃(p:Addr) (xs:List V) (ds:List PyData) (dx:PyData),y= .ref p/\(SqL X.K H p xs\/SqT X.K H p xs)/\DVs X.K H xs ds/\DV X.K H x dx/\PyData.canLayAll0 ds=true/\dx.canLay0=true/\dx.depth<=60/\
  Q (.bl (ds.any fun d=>PyData.eqv d dx)) H):=by
 intro pins s σ H x y v u Q I rx ry h
 obtain⟨p,xs,ds,dx,rfl,hq,hds,hx,ca,cb,hd,q⟩:=h
 cases ry
 obtain⟨bs,rb⟩:=DV.reads I hx rx
 have key:∀{its:List Value},Vals xs its->(∀y∈its,SeqAt.EqAt X.A.in1 s y v (decide (∃d as,Reads s.heap y d as/\d∈ds/\PyData.eqv d dx=true)))/\(its.any fun y=>decide (∃d as,Reads s.heap y d as/\d∈ds/\PyData.eqv d dx=true))=ds.any fun d=>PyData.eqv d dx:=by
  intro its rv
  obtain⟨as,ra⟩:=DVs.reads I hds rv
  have each:∀{us:List Value} {es:List PyData} {as:List Addr},ReadsAll s.heap us es as->(∀e∈es,e∈ds)->(∀y∈us,SeqAt.EqAt X.A.in1 s y v (decide (∃d as,Reads s.heap y d as/\d∈ds/\PyData.eqv d dx=true)))/\(us.any fun y=>decide (∃d as,Reads s.heap y d as/\d∈ds/\PyData.eqv d dx=true))=es.any fun d=>PyData.eqv d dx:=by
   intro us
   induction us with
   |nil=>intro es as h _;cases h;exact⟨(fun y hy=>(nomatch hy)),rfl⟩
   |cons y us ih=>
    intro es as h hs
    cases h with
    | @cons _ _ d ds' as' bs' r rr=>
     obtain⟨i1,i2⟩:=ih rr fun e he=>hs e (yai _ he)
     have cl:=allLay ca d (hs d yap)
     have e:decide (∃d as,Reads s.heap y d as/\d∈ds/\PyData.eqv d dx=true)=PyData.eqv d dx:=by
      rw[Bool.eq_iff_iff,decide_eq_true_eq]
      constructor
      ·rintro⟨d',as'',r',_,q'⟩
       obtain⟨rfl,_⟩:=(PySem.Reads.unique r _ _ r')
       exact q'
      ·intro q'
       exact⟨d,_,r,hs d yap,q'⟩
     refine⟨fun z hz=> ?_,?_⟩
     ·rcases yaj.mp hz with rfl|hz
      ·rw[e]
       exact SeqAt.eqAt_reads d dx _ s _ _ _ _ r rb cl cb (by show X.A.units+1+min d.depth dx.depth<cLine;omega)
      ·exact i1 z hz
     ·rw[ydk,ydk,i2,e]
  exact each ra fun e he=>he
 rcases hq with hq|hq
 ·obtain⟨its,r,pl,hz⟩:=I.list hq
  obtain⟨k1,k2⟩:=key r
  refine SeqAt.in_listAt _ pl.isList (fun w hw=>k1 w (by simpa using hw)) ⟨.bl _,H,I,rfl,?_⟩
  rw[show∀f:Value->Bool,its.toArray.any f=its.any f from fun f=>by simp,k2]
  exact q
 ·obtain⟨its,r,pl,hz⟩:=I.tuple hq
  obtain⟨k1,k2⟩:=key r
  refine SeqAt.in_tupleAt _ pl (fun w hw=>k1 w (by simpa using hw)) ⟨.bl _,H,I,rfl,?_⟩
  rw[show∀f:Value->Bool,its.toArray.any f=its.any f from fun f=>by simp,k2]
  exact q
end
end L2
namespace HT
open PySem PyProof.Rows
section
open PySem.SeqAt
open PySem.AutoSeq1 (wpAny_loadPart')
open PySem.MeetsSeq PySem.MeetsSeq2 PySem.MeetsSeq3
end
section
variable{prog:Program}{w:World}{A:Around}{E:Value->Shared->Prop}{s:Shared}
theorem getItem_tuple_whole{t sl:Addr}{items:Array Value}{vl vu:Value}{lo hi:Option Int}{Q:Value->Shared->Prop}(ht:IsTup s.heap t items)(hs:s.heap.IsSliceOf sl vl vu .none)(pl:IsPart vl lo)(pu:IsPart vu hi)(hw:sIx items.size 0 lo=0/\sIx items.size items.size hi=items.size)(h:Q (.ref t) s):wpAny (model prog w) A (getItem (.ref t) (.ref sl)) Q E s:=by
 obtain⟨os,hos,hcs,hds⟩:=id hs
 have hTs:s.TypeIs (.ref sl) "slice":=⟨os,hos,hcs⟩
 unfold getItem
 try with_reducible refine wpAny_holding ?_
 first |refine wpAny_bind (wpAny_pure ?_)|skip
 refine wpAny_bind (wpAny_sequenceKey ht.typeIs (by decide) ?_)
 refine wpAny_bind (wpAny_callSpecial?_slot (name:=Str.ofString "__getitem__") ht.typeIs PyProof.Rows.slot_tuple_getitem
  (wpAny_call_entry PyProof.Rows.slot_tuple_getitem ht.typeIs entry_tuple_getitem ?_ (args_tuple_getitem _ _)))
 show wpAny _ _ (Builtin.Tuple.tupleItemsOf (.ref t)>>=_) _ _ s
 refine wpAny_bind (tupleItemsOf_ ht ?_)
 refine wpAny_bind (wpAny_typeOf hTs ?_)
 rw[if_pos (by decide)]
 refine wpAny_bind (sliceApplied_gen hs pl pu ?_)
 have hyes:((((sIx items.size 0 lo:Nat):Int)==0&&(1:Int)==1&&(sIx items.size items.size hi-sIx items.size 0 lo)==items.size)=true):=by
  rw[hw.1,hw.2];simp
 show wpAny _ _ (if(((sIx items.size 0 lo:Nat):Int)==0&&(1:Int)==1&&(sIx items.size items.size hi-sIx items.size 0 lo)==items.size)=true then _ else _) _ _ s
 rw[if_pos hyes]
 obtain⟨o,ho,hc,n,hd⟩:=id ht
 refine wpAny_bind ?_
 show wpAny _ _ (Builtin.Tuple.tupleIsExact (.ref t)) _ _ s
 unfold Builtin.Tuple.tupleIsExact
 refine wpAny_bind (wpAny_typeOf ht.typeIs ?_)
 refine wpAny_pure ?_
 rw[if_pos (by decide)]
 first
  |exact wpAny_bind (wpAny_rule (wpAny_bind (wpAny_pure ⟨_,rfl,wpAny_pure h⟩)))
  |exact wpAny_bind (wpAny_rule (wpAny_pure ⟨_,rfl,wpAny_pure h⟩))
  |exact wpAny_bind (wpAny_rule (wpAny_bind (wpAny_pure (wpAny_pure ⟨_,rfl,wpAny_pure h⟩))))
  |(trace_state;exact wpAny_bind (wpAny_bind (wpAny_rule (wpAny_pure ⟨_,rfl,wpAny_pure h⟩))))
end
end HT
namespace L2
open PySem PySem.Spec PyProof.Rows
section
variable{X:Cx}
theorem op_fdivL:OpR X (binaryOp .FloorDiv) (rI (fun _ j=>0<j/\j<1000000000000000000000000000000) fun i j=> .int (i/j)):=opI fun i j _ _ _ _ _ hc q=>by
 have h1:(0:Int)<j:=hc.1
 have h2:j<1000000000000000000000000000000:=hc.2
 refine floordiv_int (by omega) ?_ (Or.inl (PyProof.noPylong_of_log2 ?_))
 ·rw[ydv _ (by omega)]
  exact q
 ·have h3:j.natAbs≠0:=by omega
  have h4:j.natAbs<2^100:=by
   have:(2:Nat)^100=1267650600228229401496703205376:=by decide
   omega
  have:=(Nat.log2_lt h3).mpr h4
  omega
noncomputable def rCatE(K:W.Frag):R2:=fun x y H Q=>∃a b xs ys,x= .ref a/\y= .ref b/\SqT K H a xs/\SqT K H b ys/\xs.length+ys.length<=sizeLine/\∀r H',Same H H'->SqT K H' r (xs++ys)->Q (.ref r) H'
theorem op_catE:OpR X (binaryOp .Add) (rCatE X.K):=by
 intro pins s σ H x y v u Q I rx ry h
 obtain⟨a,b,xs,ys,rfl,rfl,ha,hb,hz,q⟩:=h
 by_cases hx:xs=[]
 ·subst hx
  cases rx
  cases ry
  obtain⟨its,r1,p1,_⟩:=I.tuple ha
  obtain⟨its2,r2,p2,_⟩:=I.tuple hb
  cases r1
  obtain⟨⟨cls,dd,data,sl⟩,ho,hc,n,hd⟩:=id p1
  obtain⟨⟨cls2,dd2,data2,sl2⟩,ho2,hc2,n2,hd2⟩:=id p2
  simp only at hc hd hc2 hd2
  subst hc hd hc2 hd2
  exact concat_meets ⟨_,ho,rfl⟩ ⟨_,ho2,rfl⟩ noFill_tuple_add seq_tuple_add PySem.F.slot_tuple_add PySem.F.entry_tuple_add (PySem.F.args_tuple_add_2 _ _)
   (tuple_addW0 a b _ _ n n2 dd dd2 sl sl2 (by simp)) ⟨ho,ho2,⟨.ref b,H,I,rfl,q b H (Same.refl _) hb⟩⟩
 ·refine op_catT pins s σ H _ _ v u Q I rx ry ⟨a,b,xs,ys,rfl,rfl,ha,hb,hx,hz,fun e=> ?_,fun e p hp=> ?_⟩
  ·subst e
   exact q a H (Same.refl _) (by rw[ybo];exact ha)
  ·exact q p _ (fun c o e=>by rw[zai (zal e hp)];exact e) (SqT.of zab)
end
end L2
namespace HT
open PySem PySem.Calls PySem.Spec PyProof.Rows PySem.W
section
variable{prog:Program}{w:World}{A:Around}{E:Value->Shared->Prop}{s:Shared}
theorem places_rev(n:Nat):Builtin.Slice.slicePlaces ((n:Int)-1) (-1) (-1)=n:=by
 unfold Builtin.Slice.slicePlaces
 rw[if_neg (by decide)]
 by_cases h:(n:Int)-1> -1
 ·rw[if_pos h]
  have e:((n:Int)-1- -1-1)/(- -1)+1=(n:Int):=by
   rw[show(- -1:Int)=1 by decide,Int.ediv_one]
   omega
  first |(rw[e];rfl)|(rw[e,ybg])|omega
 ·rw[if_neg h]
  have:n=0:=by omega
  subst this
  rfl
theorem sliceApplied_rev{sl:Addr}{vl vu vk:Value}{n:Nat}{Q:Int×Int×Nat->Shared->Prop}(hs:s.heap.IsSliceOf sl vl vu vk)(pl:IsPart vl none)(pu:IsPart vu none)(pk:IsPart vk (some (-1)))(h:Q ((n:Int)-1, -1,n) s):wpAny (model prog w) A (Builtin.Slice.sliceApplied (.ref sl) (pure (n:Int))) Q E s:=by
 obtain⟨os,hos,hcs,hds⟩:=id hs
 unfold Builtin.Slice.sliceApplied Builtin.Slice.sliceFields
 refine wpAny_bind (wpAny_bind (wpAny_field hos hds (x:=vl) rfl (wpAny_bind (wpAny_field hos hds (x:=vu) rfl (wpAny_bind (wpAny_field hos hds (x:=vk) rfl (wpAny_pure ?_)))))))
 refine wpAny_bind (slicePart_ pk ?_)
 show wpAny _ _ (if((-1:Int)==0)=true then _ else _) _ _ s
 rw[if_neg (by decide)]
 refine wpAny_bind (slicePart_ pl (wpAny_bind (slicePart_ pu (wpAny_bind (wpAny_pure ?_)))))
 show wpAny _ _ (pure ((n:Int)-1,(-1:Int),Builtin.Slice.slicePlaces ((n:Int)-1) (-1) (-1))) _ _ s
 rw[places_rev]
 exact wpAny_pure h
theorem rev_range(n:Nat):(List.range n).map (fun k=>n-1-k)=(List.range n).reverse:=by
 apply List.ext_getElem
 ·simp
 ·intro i h1 h2
  rw[List.getElem_map,List.getElem_reverse];simp
theorem all_range{α:Type}(xs:Array α):(List.range xs.size).filterMap (fun k=>xs[k]?)=xs.toList:=by
 have h:=pick_run xs 0 xs.size
 have e:(List.range xs.size).map (0+ ·)=List.range xs.size:=by
  rw[show((0+ ·):Nat->Nat)=id from funext fun k=>Nat.zero_add k,List.map_id]
 rw[e,List.drop_zero,List.take_of_length_le (by rw[ybb];exact yab _)]at h
 exact h
theorem fm_congr{α β:Type}{f g:α->Option β}:∀{l:List α},(∀x∈l,f x=g x)->l.filterMap f=l.filterMap g
 |[],_=>rfl
 |x::l,h=>by
  rw[ycl,ycl,h x (.head _),fm_congr fun y hy=>h y (.tail _ hy)]
theorem pick_rev(xs:Array Value):((List.range xs.size).filterMap fun(k:Nat)=>xs[(((xs.size:Int)-1)+(k:Int)*(-1)).toNat]?).toArray=xs.toList.reverse.toArray:=by
 have e:(List.range xs.size).filterMap (fun(k:Nat)=>xs[(((xs.size:Int)-1)+(k:Int)*(-1)).toNat]?)=((List.range xs.size).map fun k=>xs.size-1-k).filterMap (fun k=>xs[k]?):=by
  rw[List.filterMap_map]
  apply fm_congr
  intro k hk
  have:=ybf.mp hk
  have e:(((xs.size:Int)-1)+(k:Int)*(-1)).toNat=xs.size-1-k:=by omega
  show xs[(((xs.size:Int)-1)+(k:Int)*(-1)).toNat]? =xs[xs.size-1-k]?
  rw[e]
 rw[e,rev_range,List.filterMap_reverse,all_range]
theorem getItem_tuple_rev{t sl:Addr}{items:Array Value}{vl vu vk:Value}{Q:Value->Shared->Prop}(ht:IsTup s.heap t items)(hs:s.heap.IsSliceOf sl vl vu vk)(pl:IsPart vl none)(pu:IsPart vu none)(pk:IsPart vk (some (-1)))(h:Q (.ref s.heap.objs.size) {s with heap:=s.heap.push {cls:= .type "tuple",data:= .seq items.toList.reverse.toArray}})(hsz:items.size<=sizeLine):wpAny (model prog w) A (getItem (.ref t) (.ref sl)) Q E s:=by
 have htake:sizeOk (.seq items.toList.reverse.toArray):=by
  show items.toList.reverse.toArray.size<=sizeLine
  rw[yah,List.length_reverse,ybb]
  exact hsz
 obtain⟨os,hos,hcs,hds⟩:=id hs
 have hTs:s.TypeIs (.ref sl) "slice":=⟨os,hos,hcs⟩
 unfold getItem
 try with_reducible refine wpAny_holding ?_
 first |refine wpAny_bind (wpAny_pure ?_)|skip
 refine wpAny_bind (wpAny_sequenceKey ht.typeIs (by decide) ?_)
 refine wpAny_bind (wpAny_callSpecial?_slot (name:=Str.ofString "__getitem__") ht.typeIs PyProof.Rows.slot_tuple_getitem
  (wpAny_call_entry PyProof.Rows.slot_tuple_getitem ht.typeIs entry_tuple_getitem ?_ (args_tuple_getitem _ _)))
 show wpAny _ _ (Builtin.Tuple.tupleItemsOf (.ref t)>>=_) _ _ s
 refine wpAny_bind (tupleItemsOf_ ht ?_)
 refine wpAny_bind (wpAny_typeOf hTs ?_)
 rw[if_pos (by decide)]
 refine wpAny_bind (sliceApplied_rev hs pl pu pk ?_)
 have hno:¬((((items.size:Int)-1)==0&&(-1:Int)==1&&items.size==items.size)=true):=by
  intro q
  rw[Bool.and_eq_true,Bool.and_eq_true]at q
  exact absurd q.1.2 (by decide)
 show wpAny _ _ (if(((items.size:Int)-1)==0&&(-1:Int)==1&&items.size==items.size)=true then _ else _) _ _ s
 rw[if_neg hno,pick_rev]
 first
  |exact wpAny_bind (m:=Builtin.Tuple.tupleExact _) (wpAny_newObj_type (wpAny_pure ⟨_,rfl,wpAny_pure h⟩) htake)
  |exact wpAny_bind (m:=Builtin.Tuple.tupleExact _) (wpAny_newObj_type (wpAny_bind (wpAny_pure (wpAny_pure ⟨_,rfl,wpAny_pure h⟩))) htake)
  |exact wpAny_bind (wpAny_bind (m:=Builtin.Tuple.tupleExact _) (wpAny_newObj_type (wpAny_pure (wpAny_pure ⟨_,rfl,wpAny_pure h⟩)) htake))
  |exact wpAny_bind (wpAny_bind (m:=Builtin.Tuple.tupleExact _) (wpAny_newObj_type (wpAny_pure ⟨_,rfl,wpAny_pure h⟩) htake))
end
end HT
namespace L2
open PySem PySem.Spec PyProof.Rows
section
variable{X:Cx}{e m:Expr}{te:TE}{tm:TO}{pos p2:Pos}
theorem vals_snoc:∀{xs:List V} {us:List Value} {x:V} {u:Value},Vals xs us->RelV x u->Vals (xs++[x]) (us++[u])
 |_,_,_,_,.nil,h=> .cons h .nil
 |_,_,_,_,.cons a b,h=> .cons a (vals_snoc b h)
theorem vals_rev:∀{xs:List V} {us:List Value},Vals xs us->Vals xs.reverse us.reverse
 |_,_,.nil=> .nil
 |_,_,.cons a b=>by rw[List.reverse_cons,List.reverse_cons];exact vals_snoc (vals_rev b) a
noncomputable def tRevT(K:W.Frag)(te:TE)(tm:TO):TE:=fun σ H Q=>te σ H fun x H1=>tm σ H1 fun o H2=>o=some (-1)/\∃a xs,x= .ref a/\SqT K H2 a xs/\∀p,H2 p=none->Q (.ref p) (upd H2 p (.tup xs.reverse))
theorem pe_rev(he:PE X e te)(hm:PO X (some m) tm):PE X (.Subscript e (.Slice none none (some m) p2) pos) (tRevT X.K te tm):=by
 intro pins s σ H Q I h
 refine Subscript_ (thn (he pins s σ H _ I h) fun v s1 ⟨x,H1,I1,r1,q1⟩=> ?_)
 refine wpAny_Slice (thn (po_none pins s1 σ H1 (fun o H=>o=none/\H=H1) I1 ⟨rfl,rfl⟩) fun vl s2 ⟨l,H2,I2,pl,⟨el,eh⟩⟩=>thn (po_none pins s2 σ H2 (fun o H=>o=none/\H=H2) I2 ⟨rfl,rfl⟩) fun vu s3 ⟨u,H3,I3,pu,⟨eu,eh2⟩⟩=> ?_)
 subst el eh eu eh2
 refine thn (hm pins s3 σ _ _ I3 q1) fun vk s4 ⟨k,H4,I4,pk,ek,a,xs,ex,hx,q⟩=> ?_
 subst ek ex
 cases r1
 have I5:Inv X pins σ H4 {s4 with heap:=s4.heap.push {cls:= .type "slice",data:= .fields #[vl,vu,vk]}}:=I4.kept (t':=s4.toks) fun b ob q=>yad _ q
 obtain⟨its,r,ht,hz⟩:=I5.tuple hx
 have hlen:its.toArray.size=xs.length:=by rw[yah];exact r.length.symm
 show wpAny (model X.prog X.w) X.A (subscriptTail e (.Slice none none (some m) p2) (.ref a) (.ref s4.heap.objs.size)) (EP X pins σ Q) X.xe {s4 with heap:=s4.heap.push {cls:= .type "slice",data:= .fields #[vl,vu,vk]}}
 refine tail_any (ops:=[.ref a,.ref s4.heap.objs.size]) ht.typeIs PyProof.Rows.slot_tuple_getitem.lookup (HT.getItem_tuple_rev ht (Heap.IsSliceOf.new ..) pl pu pk ?_ (by rw[hlen];exact hz)) (by with_unfolding_all rfl)
 refine⟨.ref _,_,I5.laid (t':=s4.toks) (o:= .tup xs.reverse) (fun b ob q=>yad _ q) (yab _) ?_,rfl,q _ (I5.hok.fresh (yab _))⟩
 refine⟨by rw[List.length_reverse];exact hz,_,?_,IsTup.new _ _⟩
 simpa using vals_rev r
end
section
variable{X:Cx}{tg:Expr}
noncomputable def iListL(K:W.Frag)(tl:TE):TI:=fun σ H R=>tl σ H fun x H1=>∃a xs,x= .ref a/\SqL K H1 a xs/\(xs.length<=sizeLine->R (Itl K a) H1)
noncomputable def iTupL(K:W.Frag)(tl:TE):TI:=fun σ H R=>tl σ H fun x H1=>∃a xs,x= .ref a/\SqT K H1 a xs/\(xs.length<=sizeLine->R (Itt K a) H1)
theorem pi_listL{l:Expr}{tl:TE}(hl:PE X l tl):PI X tg l (iListL X.K tl):=by
 intro pins s σ H R I h
 refine thn (hl pins s σ H _ I h) fun v s1 ⟨x,H1,I1,r1,q1⟩=> ?_
 obtain⟨a,xs,e,hq,q⟩:=q1
 subst e
 cases r1
 obtain⟨its,rv,p,hz⟩:=I1.list hq
 refine wpAny_pyIter_list p.isList ?_
 refine⟨s1.heap.objs.size,[s1.heap.objs.size],_,_,H1,rfl,I1.kept (t':=s1.toks) fun b o e=>yad _ e,turn_list a _,⟨_,yal _ rfl,rfl,rfl⟩,fun b hb=> ?_,q hz⟩
 have e:b=s1.heap.objs.size:=by simpa using hb
 subst e
 exact I1.fpOk (yab _) (I1.hok.fresh (yab _))
theorem pi_tupL{l:Expr}{tl:TE}(hl:PE X l tl):PI X tg l (iTupL X.K tl):=by
 intro pins s σ H R I h
 refine thn (hl pins s σ H _ I h) fun v s1 ⟨x,H1,I1,r1,q1⟩=> ?_
 obtain⟨a,xs,e,hq,q⟩:=q1
 subst e
 cases r1
 obtain⟨its,rv,p,hz⟩:=I1.tuple hq
 refine wpAny_pyIter_tuple (show s1.heap.IsTuple a its.toArray from p) ?_
 refine⟨s1.heap.objs.size,[s1.heap.objs.size],_,_,H1,rfl,I1.kept (t':=s1.toks) fun b o e=>yad _ e,turn_tuple a _,⟨_,yal _ rfl,rfl,rfl⟩,fun b hb=> ?_,q hz⟩
 have e:b=s1.heap.objs.size:=by simpa using hb
 subst e
 exact I1.fpOk (yab _) (I1.hok.fresh (yab _))
theorem zbz:CallR X (.builtin "len") (fun xs H Q=>∃p ys,xs=[.ref p]/\(SqL X.K H p ys\/SqT X.K H p ys)/\(ys.length<=16777216->Q (.int ys.length) H)):=by
 intro pins s σ H xs us Q I r h
 obtain⟨p,ys,rfl,hq,q⟩:=h
 have hz:ys.length<=16777216:=by
  rw[<-sizeLine_eq]
  rcases hq with hq|hq
  ·exact(I.list hq).choose_spec.2.2
  ·exact(I.tuple hq).choose_spec.2.2
 exact call_len_seq pins s σ H _ us Q I r ⟨p,ys,rfl,hq,q hz⟩
end
mutual
inductive DX(K:W.Frag)(H:Hp):V->PyData->Prop
 |non:DX K H .non .none
 |bl (b:Bool):DX K H (.bl b) (.bool b)
 |int (i:Int):DX K H (.int i) (.int i)
 |str (x:Str):DX K H (.str x) (.str x)
 |tup {a:Addr} {xs:List V} {ds:List PyData} (h:SqT K H a xs) (t:DXs K H xs ds):DX K H (.ref a) (.tuple ds)
 |lst {a:Addr} {xs:List V} {ds:List PyData} (h:SqL K H a xs) (t:DXs K H xs ds):DX K H (.ref a) (.list ds)
 |dct {a:Addr} {kvs:List (Key×V)} (ds:List (PyData×PyData)) (h:H a=some (.dK kvs)):DX K H (.ref a) (.dict ds)
inductive DXs(K:W.Frag)(H:Hp):List V->List PyData->Prop
 |nil:DXs K H [] []
 |cons {x:V} {d:PyData} {xs:List V} {ds:List PyData} (h:DX K H x d) (t:DXs K H xs ds):DXs K H (x::xs) (d::ds)
end
theorem DX.same{K:W.Frag}{H H':Hp}(e:Same H H'){x:V}{d:PyData}(h:DX K H x d):DX K H' x d:=
 DX.rec (motive_1:=fun x d _=>DX K H' x d) (motive_2:=fun xs ds _=>DXs K H' xs ds) .non (fun b=> .bl b) (fun i=> .int i) (fun x=> .str x) (fun h _ t=> .tup (e.tup h) t) (fun h _ t=> .lst (e.seq h) t) (fun ds h=> .dct ds (e _ _ h)) .nil (fun _ _ h t=> .cons h t) h
theorem DXs.same{K:W.Frag}{H H':Hp}(e:Same H H'){xs:List V}{ds:List PyData}(h:DXs K H xs ds):DXs K H' xs ds:=
 DXs.rec (motive_1:=fun x d _=>DX K H' x d) (motive_2:=fun xs ds _=>DXs K H' xs ds) .non (fun b=> .bl b) (fun i=> .int i) (fun x=> .str x) (fun h _ t=> .tup (e.tup h) t) (fun h _ t=> .lst (e.seq h) t) (fun ds h=> .dct ds (e _ _ h)) .nil (fun _ _ h t=> .cons h t) h
theorem DV.dx{K:W.Frag}{H:Hp}{x:V}{d:PyData}(h:DV K H x d):DX K H x d:=
 DV.rec (motive_1:=fun x d _=>DX K H x d) (motive_2:=fun xs ds _=>DXs K H xs ds) .non (fun b=> .bl b) (fun i=> .int i) (fun x=> .str x) (fun h _ t=> .tup h t) (fun h _ t=> .lst h t) (fun h=> .dct [] h) (fun h _=> .dct _ h) .nil (fun _ _ h t=> .cons h t) h
noncomputable def kindD:PyData->String
 | .none=>"NoneType"
 | .bool _=>"bool"
 | .int _=>"int"
 | .str _=>"str"
 | .list _=>"list"
 | .tuple _=>"tuple"
 | .dict _=>"dict"
theorem DX.kind{K:W.Frag}{H:Hp}:∀{x:V} {d:PyData},DX K H x d->KindV K H x (kindD d)
 |_,_,.non=>rfl
 |_,_,.bl _=>rfl
 |_,_,.int _=>rfl
 |_,_,.str _=>rfl
 |_,_,.tup h _=> .inl ⟨rfl,_,h⟩
 |_,_,.lst h _=> .inr (.inl ⟨rfl,_,h⟩)
 |_,_,.dct _ h=> .inr (.inr ⟨rfl,_,h⟩)
theorem DXs.len{K:W.Frag}{H:Hp}{xs:List V}{ds:List PyData}(h:DXs K H xs ds):xs.length=ds.length:=
 DXs.rec (motive_1:=fun _ _ _=>True) (motive_2:=fun xs ds _=>xs.length=ds.length) trivial (fun _=>trivial) (fun _=>trivial) (fun _=>trivial) (fun _ _ _=>trivial) (fun _ _ _=>trivial) (fun _ _=>trivial) rfl (fun _ _ _ t=>congrArg Nat.succ t) h
theorem DXs.get{K:W.Frag}{H:Hp}:∀{xs:List V} {ds:List PyData} {i:Nat} {x:V},DXs K H xs ds->xs[i]? =some x->∃d,ds[i]? =some d/\DX K H x d
 |_,_,_,_,.nil,e=>by simp at e
 |_,_,0,_,.cons h _,e=>by simp at e;subst e;exact⟨_,rfl,h⟩
 |_,_,i+1,x,.cons _ t,e=>by
  obtain⟨d,h1,h2⟩:=DXs.get (i:=i) t (by simpa using e)
  exact⟨d,by simpa using h1,h2⟩
structure Dfn(K:W.Frag)(mg:Str->Option Value)(x:Str)(st:Stmt)(ps:List Str)(f:Addr)(fd:FuncData):Prop where
 F:Fun K x x st f fd
 b:Binds K fd ps []
 m:mg x=some (.ref f)
theorem zad{H:Hp}{p:Addr}(h:H p=none)(o:HO):Same H (upd H p o):=fun b u q=>by rw[zai (zal q h)];exact q
end L2
namespace HsD
open PySem L2
noncomputable def wholeD:PyData->Bool
 | .int _=>true
 |_=>false
noncomputable def placeD(n:Int):PyData->Bool
 | .int i=>decide (0<=i)&&decide (i<n)
 |_=>false
noncomputable def intD:PyData->Int
 | .int i=>i
 |_=>0
noncomputable def kids:PyData->List PyData
 | .tuple ds=>ds
 |_=>[]
noncomputable def risesI(ns:List Int):Bool:=(List.range (ns.length-1)).all fun k=>decide (ns.getD k 0<ns.getD (k+1) 0)
noncomputable def risesT(ts:List (List Int)):Bool:=(List.range (ts.length-1)).all fun k=>HT.lexLt (ts.getD k []) (ts.getD (k+1) [])
noncomputable def setD(n:Int):PyData->Bool
 | .tuple ds=>ds.all (placeD n)&&risesI (ds.map intD)
 |_=>false
noncomputable def tieD(n:Int)(d:PyData):Bool:=setD n d&&decide ((kids d).length=2)
noncomputable def tiesD(n:Int):PyData->Bool
 | .tuple ds=>ds.all (tieD n)&&risesT (ds.map fun t=>(kids t).map intD)
 |_=>false
noncomputable def webD:PyData->Bool
 | .tuple [n,t]=>wholeD n&&(decide (0<=intD n)&&decide (intD n<=10))&&tiesD (intD n) t
 |_=>false
theorem placeD_int{n:Int}:∀{d:PyData},placeD n d=true->∃i,d= .int i/\0<=i/\i<n
 | .int i,h=>⟨i,rfl,by simpa[placeD]using h⟩
end HsD
namespace L2
open PySem PySem.Spec PyProof.Rows
section
variable{X:Cx}
theorem ix_tupK(K:W.Frag)(h:X.K=K:=by rfl):IxR X (rIxT K):=by subst h;exact zcf
theorem ix_listK(K:W.Frag)(h:X.K=K:=by rfl):IxR X (rIxL K):=by subst h;exact zbf
theorem call_lenK(K:W.Frag)(h:X.K=K:=by rfl):CallR X (.builtin "len") (fun xs H Q=>∃p ys,xs=[.ref p]/\(SqL K H p ys\/SqT K H p ys)/\(ys.length<=16777216->Q (.int ys.length) H)):=by subst h;exact zbz
theorem op_ltTK(K:W.Frag)(hu:X.A.units<cLine)(h:X.K=K:=by rfl):OpR X (compareOp .Lt) (rLtT K):=by subst h;exact op_ltT hu
theorem op_inDK(K:W.Frag)(hu:X.A.units+64<cLine)(h:X.K=K:=by rfl):OpR X (compareOp .In) (fun x y H Q=>∃(p:Addr) (xs:List V) (ds:List PyData) (dx:PyData),y= .ref p/\(SqL K H p xs\/SqT K H p xs)/\DVs K H xs ds/\DV K H x dx/\PyData.canLayAll0 ds=true/\dx.canLay0=true/\dx.depth<=60/\
  Q (.bl (ds.any fun d=>PyData.eqv d dx)) H):=by subst h;exact op_inD hu
theorem pg_tupK(K:W.Frag){es:List Expr}{k:Nat}{t:TGs}{n:Nat}{pos:Pos}(hc:X.calm=true)(h:PGs X es t)(hn:(assignEach es X.env).length=n:=by rfl)(hst:(assignEach es X.env).findIdx? (·.1)=none:=by rfl)(hK:X.K=K:=by rfl):PG X (.Tuple es k pos) (gTup K n t):=by subst hK;exact pg_tup hc h hn hst
end
end L2
namespace PySem
open Sem (wp)
open AutoSeq1 (wpAny_loadPart')
section
variable{prog:Program}{w:World}{A:Around}{E:Value->Shared->Prop}{s:Shared}
theorem wpAny_collect_range{Q:List Value->Shared->Prop}{r:Addr}{a b c:Int}{t u v:Tok}{n:Nat}(hh:A.handled=none)(hr:IsRange s.heap r a b c t u v)(hsmall:Builtin.Range.small a b c=true)(hn:Builtin.Range.rangeSize a b c=n)(hlen:n<=2^24)(hQ:∀h' tk acc,(∀b o',s.heap.get? b=some o'->h'.get? b=some o')->ItemsOf (fun i v=>∃t,v= .int (a+i*c) t) acc n->Q acc.toList {s with heap:=h',toks:=tk}):
  wpAny (model prog w) A (collect (.ref r)) Q E s:=by
 unfold collect
 refine wpAny_bind (wpAny_runValue (codeAny_builtin F.entry_proto_collect ?_));rw[Around.under_plainId F.plain_proto_collect _];show wpAny _ A.in1 (newList []>>=fun l=>again (.builtin "list.__iadd__" ⟨[l,.ref r],[]⟩)) _ _ s;refine wpAny_bind (wpAny_newObj_type ?_);refine wpAny_pure ⟨plainId_quiet F.plain_list_iadd _,codeAny_builtin F.entry_list_iadd ?_⟩;rw[Around.under_plainId F.plain_list_iadd _]
 show wpAny _ A.in1 (Builtin.List.listExtendWith (.ref s.heap.objs.size) (.ref r) (.ref s.heap.objs.size)) _ _ _;have hS:(s.heap.push {cls:= .type "list",data:= .seq ([]:List Value).toArray}).get? s.heap.objs.size=some {cls:= .type "list",data:= .seq #[] 0}:=yal _ rfl;have fin':∀h' tk acc' c',(∀b o,b≠s.heap.objs.size->(s.heap.push {cls:= .type "list",data:= .seq ([]:List Value).toArray}).get? b=some o->h'.get? b=some o)->
   h'.get? s.heap.objs.size=some {cls:= .type "list",dict:=none,data:= .seq acc' c',slots:=#[]}->ItemsOf (fun i v=>∃t,v= .int (a+i*c) t) acc' n->wpAny (model prog w) A (match Value.ref s.heap.objs.size with
   |Value.ref a=>do
    match(<-load a).data with
     |Data.seq xs _=>pure xs.toList
     |_=>unsupported "internal:collect"
   |_=>unsupported "internal:collect") Q E {s with heap:=h',toks:=tk}:=fun h' tk acc' c' hk hS' hacc=>by
  show wpAny _ A (load s.heap.objs.size>>=_) _ _ _
  refine wpAny_bind (wpAny_load hS' ?_)
  refine wpAny_pure ?_
  exact hQ h' tk acc' (fun b o e=>hk b o (yam (yaq e)) (yad _ e)) hacc
 refine wpAny_mono (wpAny_extend_range (A:=A) (R:=fun r s'=>r= .ok (.ret (.ref s.heap.objs.size))/\∃h' tk acc' c',s'={s with heap:=h',toks:=tk}/\(∀b o,b≠s.heap.objs.size->(s.heap.push {cls:= .type "list",data:= .seq ([]:List Value).toArray}).get? b=some o->h'.get? b=some o)/\
   h'.get? s.heap.objs.size=some {cls:= .type "list",dict:=none,data:= .seq acc' c',slots:=#[]}/\ItemsOf (fun i v=>∃t,v= .int (a+i*c) t) acc' n) (s:={s with heap:=s.heap.push {cls:= .type "list",data:= .seq ([]:List Value).toArray}}) hh (yad _ hr) hsmall hn hlen s.heap.objs.size (.ref s.heap.objs.size) 0 hS (fun h' tk acc' c' hk hS' hacc=>⟨rfl,h',tk,acc',c',rfl,hk,hS',hacc⟩)) (fun fin s' h=> ?_) (fun e s' h=> ?_)
 ·cases fin with
  |done f=>
   obtain⟨e,h',tk,acc',c',rfl,h1,h2,h3⟩:=h
   cases e
   exact fin' h' tk acc' c' h1 h2 h3
  |again c'=>exact⟨h.1,codeAny_mono h.2 fun r s'' hr=>by obtain⟨rfl,h',tk,acc',c',rfl,h1,h2,h3⟩:=hr;exact fin' h' tk acc' c' h1 h2 h3⟩
 ·exact absurd h.1 (by simp)
end
theorem meets_tuple_new_range(r:Addr)(a b c:Int)(t u v:Tok)(n:Nat)(hsmall:Builtin.Range.small a b c=true)(hn:Builtin.Range.rangeSize a b c=n)(hlen:n<=2^24):
  Meets (Builtin.«tuple.__new__» ⟨[.type "tuple",.ref r],[]⟩)
   (fun A R s=>A.handled=none/\IsRange s.heap r a b c t u v/\∀(h':Heap) tk acc,(∀b o',s.heap.get? b=some o'->h'.get? b=some o')->ItemsOf (fun i v=>∃t,v= .int (a+i*c) t) acc n->R (.ok (.ret (.ref h'.objs.size))) {s with heap:=h'.push {cls:= .type "tuple",data:= .seq acc},toks:=tk}):=
 .of_wp fun prog w A R s h=>by
  obtain⟨hp,g,d,tk,os⟩:=s;obtain⟨hh,ht,h⟩:=h
  have hsub:=sub_tuple_self
  have hinit:=init_tuple_lookup
  have hmh:=madeHere_tuple
  have hT:Shared.TypeIs ⟨hp,g,d,tk,os⟩ (.ref r) "range":=⟨_,ht,rfl⟩
  wp_walk using wpAny_loadPart' ht,wpAny_typeOf hT,wpAny_collect_range (A:=A.in1) hh ht hsmall hn hlen
  intro h' tk' acc hk hacc
  show wpAny _ _ (Builtin.Tuple.tupleExact acc.toList.toArray>>=fun v=>ret v) _ _ _
  unfold Builtin.Tuple.tupleExact
  refine wpAny_bind (wpAny_newObj_type ?_ (by show acc.toList.toArray.size<=sizeLine;rw[sizeLine_eq];simp;rw[hacc.1];omega))
  refine wpAny_pure ⟨_,rfl,?_⟩
  have e:acc.toList.toArray=acc:=by simp
  rw[e]
  exact h h' tk' acc hk hacc
section
variable{prog:Program}{w:World}{A:Around}{E:Value->Shared->Prop}{s:Shared}
theorem call_tuple_range{Q:Value->Shared->Prop}{r:Addr}{a b c:Int}{t u v:Tok}{n:Nat}(hh:A.handled=none)(hr:IsRange s.heap r a b c t u v)(hsmall:Builtin.Range.small a b c=true)(hn:Builtin.Range.rangeSize a b c=n)(hlen:n<=2^24)(h:∀(h':Heap) tk acc,(∀b o',s.heap.get? b=some o'->h'.get? b=some o')->ItemsOf (fun i v=>∃t,v= .int (a+i*c) t) acc n->Q (.ref h'.objs.size) {s with heap:=h'.push {cls:= .type "tuple",data:= .seq acc},toks:=tk}):
  wpAny (model prog w) A (call (.type "tuple") [.ref r]) Q E s:=
 callType_new F.called_tuple (by decide) (F.typeCall_tuple_1 _) (F.newCall_tuple_1 _) (fun obj=>F.args_object_init_2 obj _) F.entry_tuple_new
  (meets_tuple_new_range r a b c t u v n hsmall hn hlen) ⟨hh,hr,fun h' tk acc hk hacc=>⟨⟨_,yal _ rfl,rfl⟩,h h' tk acc hk hacc⟩⟩
end
end PySem
namespace L2
open PySem PySem.Spec PyProof.Rows
section
variable{X:Cx}{p p' pos pos':Pos}{a:Expr}{ta:TA}
noncomputable def tupR(n:Nat):List V:=(List.range n).map fun(k:Nat)=>V.int (k:Int)
noncomputable def tTupR(ta:TA):TE:=fun σ H Q=>ta σ H fun vs H1=>∃j:Int,vs=[.int j]/\0<=j/\j<=16777216/\∀l,H1 l=none->Q (.ref l) (upd H1 l (.tup (tupR j.toNat)))
theorem vals_items:∀{n:Nat} {us:List Value},us.length=n->(∀(j:Nat) (u:Value),us[j]? =some u->∃t:Tok,u=Value.int (0+((j:Nat):Int)*1) t)->Vals (tupR n) us:=by
 intro n us hl hi
 have go:∀(us:List Value) (k:Nat),(∀(j:Nat) (u:Value),us[j]? =some u->∃t:Tok,u=Value.int (0+((j+k:Nat):Int)*1) t)->Vals ((List.range' k us.length).map fun(k:Nat)=>V.int (k:Int)) us:=by
  intro us
  induction us with
  |nil=>intro k _;exact .nil
  |cons u us ih=>
   intro k h
   obtain⟨t,e⟩:=h 0 u rfl
   refine .cons ⟨t,?_⟩ (ih (k+1) fun j u' hj=> ?_)
   ·rw[e];congr 1;omega
   ·obtain⟨t',e'⟩:=h (j+1) u' (by simpa using hj)
    refine⟨t',?_⟩
    rw[e'];congr 1;omega
 have:=go us 0 (fun j u hj=>by obtain⟨t,e⟩:=hi j u hj;exact⟨t,by rw[e];rfl⟩)
 unfold tupR
 rw[List.range_eq_range',<-hl]
 exact this
theorem pe_tupRange(hc:X.calm=true)(hgT:Gl X "tuple")(hmT:X.mg "tuple"=none)(hg:Gl X "range")(hm:X.mg "range"=none)(ha:PA X [a] ta)(hs:starEach [a] X.env=[(false,eval a X.env)]:=by rfl)(hs2:starEach [Expr.Call (.Name "range" p') [a] [] pos'] X.env=[(false,eval (Expr.Call (.Name "range" p') [a] [] pos') X.env)]:=by rfl):
  PE X (.Call (.Name "tuple" p) [.Call (.Name "range" p') [a] [] pos'] [] pos) (tTupR ta):=by
 intro pins s σ H Q I h
 refine wpAny_Call_Name_kw (ld_blt I hgT hmT (show bootBuiltins "tuple"=some (.type "tuple")from by decide+kernel) ?_ (by decide) (by decide))
 refine PyProof.Rows.callWith_type1 ?_ hs2 rfl
 rw[hs2]
 refine Calls.spliced_cons ?_
 refine Call_ (ld_blt I hg hm boot_range (PyProof.Rows.callWith_type1 (thn (ha pos' pins s σ H _ I h) fun us s1 ⟨vs,H1,I1,r1,q1⟩=> ?_) hs rfl))
 obtain⟨j,e,q1,q2,q⟩:=q1
 subst e
 cases r1 with
 |cons r rr=>
  cases rr
  obtain⟨t,rfl⟩:=r
  refine call_range_1 ?_
  refine Calls.spliced_nil ?_
  have hn:Builtin.Range.rangeSize 0 j 1=((j.toNat:Nat):Int):=by rw[rangeSize_one];split<;>omega
  refine call_tuple_range (I.ok.hd hc) (IsRange.new ..) (small_one (by decide) (by decide) (by omega) (by omega)) hn (by omega) fun h' tk acc hk hacc=> ?_
  have I2:Inv X pins σ H1 {s1 with heap:=h',toks:=tk}:=I1.kept fun b o e=>hk b o (yad _ e)
  have hv:Vals (tupR j.toNat) acc.toList:=vals_items (by rw[ybb];exact hacc.1) (fun i u hu=>hacc.2 i u (by simpa using hu))
  have hz:(tupR j.toNat).length<=sizeLine:=by unfold tupR;rw[sizeLine_eq];simp;omega
  have I3:Inv X pins σ (upd H1 h'.objs.size (.tup (tupR j.toNat))) {s1 with heap:=h'.push {cls:= .type "tuple",data:= .seq acc},toks:=tk}:=
   I2.laid (t':=tk) (fun b o e=>yad _ e) (yab _) (show ObjOk X.prog X.w _ _ _ (.tup (tupR j.toNat))from⟨hz,acc.toList,hv,by rw[show acc=acc.toList.toArray by simp];exact IsTup.new _ _⟩)
  exact⟨.ref h'.objs.size,_,I3,rfl,q _ (I2.hok.fresh (yab _))⟩
open Classical in
theorem op_notInD(hu:X.A.units+64<cLine):OpR X (compareOp .NotIn) (fun x y H Q=>∃(p:Addr) (xs:List V) (ds:List PyData) (dx:PyData),y= .ref p/\(SqL X.K H p xs\/SqT X.K H p xs)/\DVs X.K H xs ds/\DV X.K H x dx/\PyData.canLayAll0 ds=true/\dx.canLay0=true/\dx.depth<=60/\
  Q (.bl (!(ds.any fun d=>PyData.eqv d dx))) H):=by
 intro pins s σ H x y v u Q I rx ry h
 obtain⟨p,xs,ds,dx,rfl,hq,hds,hx,ca,cb,hd,q⟩:=h
 cases ry
 obtain⟨bs,rb⟩:=DV.reads I hx rx
 have key:∀{its:List Value},Vals xs its->(∀y∈its,SeqAt.EqAt X.A.in1 s y v (decide (∃d as,Reads s.heap y d as/\d∈ds/\PyData.eqv d dx=true)))/\(its.any fun y=>decide (∃d as,Reads s.heap y d as/\d∈ds/\PyData.eqv d dx=true))=ds.any fun d=>PyData.eqv d dx:=by
  intro its rv
  obtain⟨as,ra⟩:=DVs.reads I hds rv
  have each:∀{us:List Value} {es:List PyData} {as:List Addr},ReadsAll s.heap us es as->(∀e∈es,e∈ds)->(∀y∈us,SeqAt.EqAt X.A.in1 s y v (decide (∃d as,Reads s.heap y d as/\d∈ds/\PyData.eqv d dx=true)))/\(us.any fun y=>decide (∃d as,Reads s.heap y d as/\d∈ds/\PyData.eqv d dx=true))=es.any fun d=>PyData.eqv d dx:=by
   intro us
   induction us with
   |nil=>intro es as h _;cases h;exact⟨(fun y hy=>(nomatch hy)),rfl⟩
   |cons y us ih=>
    intro es as h hs
    cases h with
    | @cons _ _ d ds' as' bs' r rr=>
     obtain⟨i1,i2⟩:=ih rr fun e he=>hs e (yai _ he)
     have cl:=allLay ca d (hs d yap)
     have e:decide (∃d as,Reads s.heap y d as/\d∈ds/\PyData.eqv d dx=true)=PyData.eqv d dx:=by
      rw[Bool.eq_iff_iff,decide_eq_true_eq]
      constructor
      ·rintro⟨d',as'',r',_,q'⟩
       obtain⟨rfl,_⟩:=(PySem.Reads.unique r _ _ r')
       exact q'
      ·intro q'
       exact⟨d,_,r,hs d yap,q'⟩
     refine⟨fun z hz=> ?_,?_⟩
     ·rcases yaj.mp hz with rfl|hz
      ·rw[e]
       exact SeqAt.eqAt_reads d dx _ s _ _ _ _ r rb cl cb (by show X.A.units+1+min d.depth dx.depth<cLine;omega)
      ·exact i1 z hz
     ·rw[ydk,ydk,i2,e]
  exact each ra fun e he=>he
 rcases hq with hq|hq
 ·obtain⟨its,r,pl,hz⟩:=I.list hq
  obtain⟨k1,k2⟩:=key r
  refine SeqAt.notIn_listAt _ pl.isList (fun w hw=>k1 w (by simpa using hw)) ⟨.bl _,H,I,rfl,?_⟩
  rw[show∀f:Value->Bool,its.toArray.any f=its.any f from fun f=>by simp,k2]
  exact q
 ·obtain⟨its,r,pl,hz⟩:=I.tuple hq
  obtain⟨k1,k2⟩:=key r
  refine SeqAt.notIn_tupleAt _ pl (fun w hw=>k1 w (by simpa using hw)) ⟨.bl _,H,I,rfl,?_⟩
  rw[show∀f:Value->Bool,its.toArray.any f=its.any f from fun f=>by simp,k2]
  exact q
theorem op_notInDK(K:W.Frag)(hu:X.A.units+64<cLine)(h:X.K=K:=by rfl):OpR X (compareOp .NotIn) (fun x y H Q=>∃(p:Addr) (xs:List V) (ds:List PyData) (dx:PyData),y= .ref p/\(SqL K H p xs\/SqT K H p xs)/\DVs K H xs ds/\DV K H x dx/\PyData.canLayAll0 ds=true/\dx.canLay0=true/\dx.depth<=60/\
  Q (.bl (!(ds.any fun d=>PyData.eqv d dx))) H):=by subst h;exact op_notInD hu
end
end L2
namespace PySem
open Sem (wp)
open Builtin
open AutoSeq1 (wpAny_loadPart')
theorem noFill_tuple_mul:fillsNumberSlot (.type "tuple") "mul"=pure false:=
 fillsNumberSlot_seq (id:="tuple.__mul__") (r:=some (.builtin "tuple.__rmul__")) F.slot_tuple_mul.lookup (by decide+kernel) F.slot_tuple_rmul.lookup (by decide+kernel)
theorem repeat_tuple:seqRepeat? (.type "tuple")=pure (some (.builtin "tuple.__mul__")):=by
 unfold seqRepeat?
 rw[seqSlot_of (T:="tuple") (name:="__mul__") (id:="tuple.__mul__") F.slot_tuple_mul.lookup (by decide+kernel),seqSlot_of (T:="tuple") (name:="__rmul__") (id:="tuple.__rmul__") F.slot_tuple_rmul.lookup (by decide+kernel)]
 rfl
theorem int_rmul_tup(a:Int)(t:Tok)(l:Addr)(items:Array Value)(n:Nat)(d:Option Addr)(sl:Array (Option Value)):
  Meets (Builtin.«int.__rmul__» ⟨[.int a t,.ref l],[]⟩) (fun _ R s=>s.heap.get? l=some {cls:= .type "tuple",dict:=d,data:= .seq items n,slots:=sl}/\R (.ok (.ret Value.notImplemented)) s):=
 .of_wp fun prog w A R s h=>by obtain⟨hp,g,d,tk,os⟩:=s;obtain⟨hl,h⟩:=h;wp_walk;exact⟨_,rfl,h⟩
theorem tup_mul_1(l:Addr)(items:Array Value)(n:Nat)(d:Option Addr)(sl:Array (Option Value))(x:Int)(u:Tok)(hx:x=1):
  Meets (Builtin.«tuple.__mul__» ⟨[.ref l,.int x u],[]⟩) (fun _ R s=>s.heap.get? l=some {cls:= .type "tuple",dict:=d,data:= .seq items n,slots:=sl}/\R (.ok (.ret (Value.ref l))) s):=
 .of_wp fun prog w A R s h=>by
  subst hx
  obtain⟨hp,g,d,tk,os⟩:=s;obtain⟨hl,h⟩:=h;have f1:=AutoSeq1.idx_int
  wp_walk using wpAny_loadPart' hl;exact⟨_,rfl,h⟩
theorem tup_mul_0(l:Addr)(items:Array Value)(n:Nat)(d:Option Addr)(sl:Array (Option Value))(x:Int)(u:Tok)(hx:x<=0)(hlo: -(2^63)<=x)(hne:items.isEmpty=false):
  Meets (Builtin.«tuple.__mul__» ⟨[.ref l,.int x u],[]⟩) (fun _ R s=>s.heap.get? l=some {cls:= .type "tuple",dict:=d,data:= .seq items n,slots:=sl}/\R (.ok (.ret (Value.ref s.heap.objs.size))) {s with heap:=s.heap.push {cls:=Value.type "tuple",data:=Data.seq #[]},toks:=s.toks}):=
 .of_wp fun prog w A R s h=>by
  obtain⟨hp,g,d,tk,os⟩:=s;obtain⟨hl,h⟩:=h;have f1:=AutoSeq1.idx_int
  have c1:¬((decide (x< -(2^63))||decide (x≥2^63))=true):=by simp;omega
  have c2:¬((items.isEmpty||x==1)=true):=by rw[hne];simp;omega
  have c3:(decide (x<=0)||items.isEmpty)=true:=by rw[hne];simp;omega
  wp_walk using wpAny_loadPart' hl;rw[if_neg c1];wp_walk using wpAny_loadPart' hl;rw[if_neg c2];wp_walk using wpAny_loadPart' hl;exact⟨_,rfl,h⟩
theorem tup_mul_n(l:Addr)(items:Array Value)(n:Nat)(d:Option Addr)(sl:Array (Option Value))(x:Int)(u:Tok)(hx:1<x)(hhi:x<2^63)(hne:items.isEmpty=false)(hsz:items.size*x.toNat<=1000):
  Meets (Builtin.«tuple.__mul__» ⟨[.ref l,.int x u],[]⟩) (fun _ R s=>s.heap.get? l=some {cls:= .type "tuple",dict:=d,data:= .seq items n,slots:=sl}/\R (.ok (.ret (Value.ref s.heap.objs.size))) {s with heap:=s.heap.push {cls:=Value.type "tuple",data:=Data.seq (List.foldl (fun x1 x2=>x1++x2) #[] (List.replicate x.toNat items))},toks:=s.toks}):=
 .of_wp fun prog w A R s h=>by
  obtain⟨hp,g,d,tk,os⟩:=s;obtain⟨hl,h⟩:=h;have f1:=AutoSeq1.idx_int
  have c1:¬((decide (x< -(2^63))||decide (x≥2^63))=true):=by simp;omega
  have c2:¬((items.isEmpty||x==1)=true):=by rw[hne];simp;omega
  have c3:¬((decide (x<=0)||items.isEmpty)=true):=by rw[hne];simp;omega
  have hxs:(items.size:Int)*x=((items.size*x.toNat:Nat):Int):=by rw[Int.natCast_mul,Int.toNat_of_nonneg (by omega)]
  have c4:¬((items.size:Int)*x>(2^63-1)/8):=by rw[hxs];omega
  have c5:¬(Builtin.Tuple.tupleTooMany ((items.size:Int)*x)=true):=by
   rw[hxs]
   intro z
   have z':((items.size*x.toNat:Nat):Int)>(sizeLine:Int):=of_decide_eq_true z
   have:=sizeLine_eq
   generalize items.size*x.toNat=m at *
   omega
  have htake:(List.foldl (fun x1 x2=>x1++x2) #[] (List.replicate x.toNat items)).size<=sizeLine:=by
   have e:List.foldl (fun x1 x2=>x1++x2) #[] (List.replicate x.toNat items)=(List.replicate x.toNat items.toList).flatten.toArray:=by
    have:=PyProof.Rows.listMul_foldl_if items x.toNat
    rw[if_neg (by rw[hne];simp)]at this
    exact this
   rw[e,yah]
   have:(List.replicate x.toNat items.toList).flatten.length=x.toNat*items.size:=by simp
   rw[this,Nat.mul_comm,sizeLine_eq]
   omega
  wp_walk using wpAny_loadPart' hl;rw[if_neg c1];wp_walk using wpAny_loadPart' hl;rw[if_neg c2];wp_walk using wpAny_loadPart' hl;rw[if_neg c3]
  try dsimp only
  rw[if_neg c4]
  try dsimp only
  rw[if_neg c5]
  try dsimp only
  unfold Builtin.Tuple.tupleExact
  refine wpAny_bind (wpAny_newObj_type (wpAny_pure ?_) htake)
  exact⟨_,rfl,h⟩
end PySem
namespace L2
open PySem PySem.Spec PyProof.Rows
section
variable{X:Cx}{p p' pos pos':Pos}{a:Expr}{ta:TA}
theorem Vals.rep'{xs:List V}{us:List Value}(h:Vals xs us):∀k:Nat,Vals (List.replicate k xs).flatten (List.replicate k us).flatten
 |0=> .nil
 |k+1=>by rw[ycm,ycm,ydt,ydt];exact h.append (Vals.rep' h k)
noncomputable def rRepT(K:W.Frag):R2:=fun x y H Q=>∃a k xs,x= .ref a/\y= .int k/\SqT K H a xs/\xs≠[]/\ -(2^63)<=k/\k<2^63/\xs.length*k.toNat<=1000/\∀r H',Same H H'->SqT K H' r (List.replicate k.toNat xs).flatten->Q (.ref r) H'
theorem op_repT:OpR X (binaryOp .Mult) (rRepT X.K):=by
 intro pins s σ H x y v u Q I rx ry h
 obtain⟨a,k,xs,rfl,rfl,ha,hne,h1,h2,hz,q⟩:=h
 cases rx
 obtain⟨t,rfl⟩:=ry
 obtain⟨its,r1,p1,_⟩:=I.tuple ha
 obtain⟨⟨cls,dd,data,sl⟩,ho,hc,n,hd⟩:=id p1
 simp only at hc hd
 subst hc hd
 have hlen:=r1.length
 have hem:its.toArray.isEmpty=false:=by
  cases its with
  |nil=>cases r1;exact absurd rfl hne
  |cons _ _=>rfl
 have road:∀{S:PySem.Spec},Meets (Builtin.«tuple.__mul__» ⟨[.ref a,.int k t],[]⟩) S->S X.A (wants (EP X pins σ Q) X.xe) s->wpAny (model X.prog X.w) X.A (binaryOp .Mult (.ref a) (.int k t)) (EP X pins σ Q) X.xe s:=fun M hS=>
  wpAny_binaryOp_repeat_ref (T:="tuple") (U:="int") (by decide) ⟨_,ho,rfl⟩ (fun s'=>typeIs_int s' k t) noFill_tuple_mul F.fills_int_mul F.slot_int_rmul repeat_tuple F.slot_int_index.lookup
   (call_meets F.slot_int_rmul (typeIs_int s k t) F.entry_int_rmul (F.args_int_rmul_2 _ _) (int_rmul_tup k t a its.toArray n dd sl)
    ⟨ho,rfl,⟨_,ho,rfl⟩,call_meets F.slot_tuple_mul ⟨_,ho,rfl⟩ F.entry_tuple_mul (F.args_tuple_mul_2 _ _) M hS⟩)
 by_cases c1:k=1
 ·refine road (tup_mul_1 a its.toArray n dd sl k t c1) ⟨ho,⟨.ref a,H,I,rfl,q a H (Same.refl _) ?_⟩⟩
  subst c1
  have:(List.replicate (1:Int).toNat xs).flatten=xs:=by simp
  rw[this];exact ha
 by_cases c0:k<=0
 ·refine road (tup_mul_0 a its.toArray n dd sl k t c0 h1 hem) ⟨ho,?_⟩
  have e0:k.toNat=0:=by omega
  refine⟨.ref s.heap.objs.size,_,I.laid (t':=s.toks) (o:= .tup []) (fun b ob q=>yad _ q) (yab _) ⟨yas _,[],.nil,IsTup.new _ _⟩,rfl,q _ _ (fun c o e=>by rw[zai (zal e (I.hok.fresh (yab _)))];exact e) ?_⟩
  rw[e0]
  exact SqT.of zab
 ·have hsz:its.toArray.size*k.toNat<=1000:=by rw[yah,<-hlen];exact hz
  refine road (tup_mul_n a its.toArray n dd sl k t (by omega) h2 hem hsz) ⟨ho,?_⟩
  have hnew:List.foldl (fun x1 x2=>x1++x2) #[] (List.replicate k.toNat its.toArray)=(List.replicate k.toNat its).flatten.toArray:=by
   have:=foldl_rep its k.toNat []
   rw[List.nil_append]at this
   exact this
  rw[hnew]
  have hz':(List.replicate k.toNat xs).flatten.length<=sizeLine:=by
   rw[len_rep,Nat.mul_comm]
   exact yau hz (by rw[sizeLine_eq];decide)
  refine⟨.ref s.heap.objs.size,_,I.laid (t':=s.toks) (o:= .tup (List.replicate k.toNat xs).flatten) (fun b ob q=>yad _ q) (yab _) ⟨hz',_,Vals.rep' r1 k.toNat,IsTup.new _ _⟩,rfl,q _ _ (fun c o e=>by rw[zai (zal e (I.hok.fresh (yab _)))];exact e) (SqT.of zab)⟩
noncomputable def tLstR(ta:TA):TE:=fun σ H Q=>ta σ H fun vs H1=>∃j:Int,vs=[.int j]/\0<=j/\j<=16777216/\∀l,H1 l=none->Q (.ref l) (upd H1 l (.lst (tupR j.toNat)))
theorem pe_lstRange(hc:X.calm=true)(hgT:Gl X "list")(hmT:X.mg "list"=none)(hg:Gl X "range")(hm:X.mg "range"=none)(ha:PA X [a] ta)(hs:starEach [a] X.env=[(false,eval a X.env)]:=by rfl)(hs2:starEach [Expr.Call (.Name "range" p') [a] [] pos'] X.env=[(false,eval (Expr.Call (.Name "range" p') [a] [] pos') X.env)]:=by rfl):
  PE X (.Call (.Name "list" p) [.Call (.Name "range" p') [a] [] pos'] [] pos) (tLstR ta):=by
 intro pins s σ H Q I h
 refine wpAny_Call_Name_kw (ld_blt I hgT hmT (show bootBuiltins "list"=some (.type "list")from by decide+kernel) ?_ (by decide) (by decide))
 refine PyProof.Rows.callWith_type1 ?_ hs2 rfl
 rw[hs2]
 refine Calls.spliced_cons ?_
 refine Call_ (ld_blt I hg hm boot_range (PyProof.Rows.callWith_type1 (thn (ha pos' pins s σ H _ I h) fun us s1 ⟨vs,H1,I1,r1,q1⟩=> ?_) hs rfl))
 obtain⟨j,e,q1,q2,q⟩:=q1
 subst e
 cases r1 with
 |cons r rr=>
  cases rr
  obtain⟨t,rfl⟩:=r
  refine call_range_1 ?_
  refine Calls.spliced_nil ?_
  have hn:Builtin.Range.rangeSize 0 j 1=((j.toNat:Nat):Int):=by rw[rangeSize_one];split<;>omega
  refine call_list_range (I.ok.hd hc) (IsRange.new ..) (small_one (by decide) (by decide) (by omega) (by omega)) hn (by omega) fun h' tk acc c hk hS hacc=> ?_
  have hv:Vals (tupR j.toNat) acc.toList:=vals_items (by rw[ybb];exact hacc.1) (fun i u hu=>hacc.2 i u (by simpa using hu))
  have hz:(tupR j.toNat).length<=sizeLine:=by unfold tupR;rw[sizeLine_eq];simp;omega
  have I2:Inv X pins σ H1 {s1 with heap:=s1.heap.push {cls:=Value.type "range",data:=Data.fields #[Value.int 0 s1.toks,Value.int j t,Value.int 1 (s1.toks+1)]},toks:=s1.toks+1+1}:=I1.kept fun b o e=>yad _ e
  exact⟨.ref _,_,I2.laid (t':=tk) (o:= .lst (tupR j.toNat)) hk (yab _) ⟨hz,acc.toList,c,hv,by simpa using hS⟩,rfl,q _ (I2.hok.fresh (yab _))⟩
end
end L2
namespace PySem
open Sem (wp)
open AutoSeq1 (wpAny_loadPart')
theorem enum_new_tup(l:Addr)(items:Array Value)(n:Nat)(dct:Option Addr)(sl:Array (Option Value)):
  Meets (Builtin.«enumerate.__new__» ⟨[.type "enumerate",.ref l],[]⟩) (fun _ R s=>s.heap.get? l=some {cls:= .type "tuple",dict:=dct,data:= .seq items n,slots:=sl}/\
   R (.ok (.ret (.ref (s.heap.push {cls:= .type "tuple_iterator",data:= .fields #[.ref l,.int 0 0]}).objs.size)))
    {s with heap:=(s.heap.push {cls:= .type "tuple_iterator",data:= .fields #[.ref l,.int 0 0]}).push {cls:= .type "enumerate",data:= .fields #[.none,.bool false,.ref s.heap.objs.size,rawInt 0,.none,.none]}}):=
 .of_wp fun prog w A R s h=>by
  obtain⟨hp,g,d,tk,os⟩:=s;obtain⟨hl,h⟩:=h;have hsub:=sub_enumerate
  have hL:Heap.IsTuple (Shared.heap ⟨hp,g,d,tk,os⟩) l items:=⟨_,hl,rfl,n,rfl⟩
  wp_walk using wpAny_loadPart' hl
  refine wpAny_stack_any fun st=>wpAny_pure ?_;split
  ·rename_i c _ _ _ _ _
   cases(c==Value.type "enumerate")
   ·wp_walk using wpAny_loadPart' hl,wpAny_pyIter_tuple hL;exact⟨_,rfl,h⟩
   ·wp_walk using wpAny_loadPart' hl,wpAny_pyIter_tuple hL;exact⟨_,rfl,h⟩
  ·wp_walk using wpAny_loadPart' hl,wpAny_pyIter_tuple hL;exact⟨_,rfl,h⟩
section
variable{prog:Program}{w:World}{A:Around}{E:Value->Shared->Prop}{s:Shared}
theorem nextOf_tup{it t:Addr}{i:Nat}{items:Array Value}{x:Value}{Q:Value->Shared->Prop}(hit:s.heap.IsTupleIter it t i)(ht:s.heap.IsTuple t items)(hx:items[i]? =some x)(hQ:∀h',h'.IsTupleIter it t (i+1)->Heap.SameBut it s.heap h'->Q x {s with heap:=h'}):wpAny (model prog w) A (Builtin.SmallTypes.nextOf (.ref it)) Q E s:=by
 obtain⟨o,ho,hc,hd⟩:=id hit;obtain⟨ol,hol,_,nl,hdl⟩:=ht;unfold Builtin.SmallTypes.nextOf
 refine wpAny_bind (wpAny_callSpecial?_slot (name:=Str.ofString "__next__") hit.typeIs F.slot_tuple_iterator_next (wpAny_call_entry F.slot_tuple_iterator_next hit.typeIs F.entry_tuple_iterator_next ?_ (F.args_tuple_iterator_next_1 _)))
 show wpAny _ _ (field (.ref it) 0>>=_) _ _ s;refine wpAny_bind (wpAny_field ho hd (x:= .ref t) rfl ?_)
 show wpAny _ _ (if(Value.ref t==Value.none)=true then _ else _) _ _ s;rw[if_neg (show¬((Value.ref t==Value.none)=true)from Bool.false_ne_true)]
 show wpAny _ _ (field (.ref it) 1>>=_) _ _ s;refine wpAny_bind (wpAny_field ho hd (x:= .int i 0) rfl ?_)
 show wpAny _ _ (seqItems? (.ref t)>>=_) _ _ s;refine wpAny_bind (wpAny_seqItems hol hdl ?_)
 simp only[ybg,hx];refine wpAny_bind (wpAny_setField ho hd (by simp) (wpAny_pure ⟨x,rfl,wpAny_pure (hQ _ ?_ (Heap.SameBut.update ..))⟩))
 exact⟨_,ycb _ ho (Obj.isFreed_of_fields (Obj.data_mapFields hd _)),(Obj.cls_mapFields ..).trans hc,by rw[Obj.data_mapFields hd];simp[rawInt]⟩
theorem nextOf_tup_end{it t:Addr}{i:Nat}{items:Array Value}{Q:Value->Shared->Prop}(hh:A.handled=none)(hit:s.heap.IsTupleIter it t i)(ht:s.heap.IsTuple t items)(hx:items[i]? =none)(hE:∀h' e,Heap.ExtBut it s.heap h'->(∃o,h'.get? e=some o/\o.cls= .type "StopIteration")->E (.ref e) {s with heap:=h'}):wpAny (model prog w) A (Builtin.SmallTypes.nextOf (.ref it)) Q E s:=by
 obtain⟨o,ho,hc,hd⟩:=id hit;obtain⟨ol,hol,_,nl,hdl⟩:=ht;unfold Builtin.SmallTypes.nextOf
 refine wpAny_bind (wpAny_callSpecial?_slot (name:=Str.ofString "__next__") hit.typeIs F.slot_tuple_iterator_next (wpAny_call_entry F.slot_tuple_iterator_next hit.typeIs F.entry_tuple_iterator_next ?_ (F.args_tuple_iterator_next_1 _)))
 show wpAny _ _ (field (.ref it) 0>>=_) _ _ s;refine wpAny_bind (wpAny_field ho hd (x:= .ref t) rfl ?_)
 show wpAny _ _ (if(Value.ref t==Value.none)=true then _ else _) _ _ s;rw[if_neg (show¬((Value.ref t==Value.none)=true)from Bool.false_ne_true)]
 show wpAny _ _ (field (.ref it) 1>>=_) _ _ s;refine wpAny_bind (wpAny_field ho hd (x:= .int i 0) rfl ?_)
 show wpAny _ _ (seqItems? (.ref t)>>=_) _ _ s;refine wpAny_bind (wpAny_seqItems hol hdl ?_)
 simp only[ybg,hx];refine wpAny_bind (wpAny_rule (wpAny_bind (wpAny_setField ho hd (by simp) ?_)))
 show wpAny _ _ (newExc (.type "StopIteration") []>>=_) _ _ _;refine wpAny_bind ?_;simp only[newExc,newTuple];refine wpAny_bind (wpAny_newObj_type ?_ (by size_fits))
 refine wpAny_bind (m:=firstArgMember _ _) (wpAny_of_eq (a:=Value.none) (by first |rfl|(simp only[firstArgMember];rfl)) ?_);refine wpAny_newObj_type ?_ (by size_fits)
 simp only[raiseNew];refine wpAny_bind (wpAny_handled ?_);first |rw[show A.in1.handled=none from hh]|rw[hh]
 refine wpAny_bind (wpAny_pure (wpAny_throw ?_));exact hE _ _ (((Heap.SameBut.update ..).extBut.push _).push _) ⟨_,yal _ rfl,rfl⟩
end
theorem Draws.tup{prog:Program}{w:World}{A:Around}(hh:A.handled=none)(it l:Addr)(hne:l≠it)(items:Array Value):
  Draws prog w A it [it,l] items.size (fun i v=>items[i]? =some v) (fun i h=>h.IsTupleIter it l i/\h.IsTuple l items) where
 live:=fun i h st=>by obtain⟨⟨o,e,_⟩,_⟩:=st;exact⟨o,e⟩
 frame:=fun i h h' st k=>⟨st.1.at fun o e=>k it (by simp) o e,st.2.at fun o e=>k l (by simp) o e⟩
 item:=fun i s Q E hi st hQ=>by
  have hx:items[i]? =some items[i]:=ybr hi
  exact nextOf_tup st.1 st.2 hx fun h' hit' hs=>hQ _ h' s.toks hx ⟨hit',st.2.at fun o e=>(hs.2 l hne).trans e⟩ hs
 done:=fun s Q E st hE=>nextOf_tup_end hh st.1 st.2 (Array.getElem?_eq_none (yab _)) hE
section
variable{prog:Program}{w:World}{A:Around}{E:Value->Shared->Prop}{s:Shared}
theorem call_enum_tup{l:Addr}{items:Array Value}{Q:Value->Shared->Prop}(hL:s.heap.IsTuple l items)(h:∀h',IsEnum h' (s.heap.objs.size+1) s.heap.objs.size 0 .none->h'.IsTupleIter s.heap.objs.size l 0->h'.objs.size=s.heap.objs.size+2->(∀b o,s.heap.get? b=some o->h'.get? b=some o)->Q (.ref (s.heap.objs.size+1)) {s with heap:=h'}):
  wpAny (model prog w) A (call (.type "enumerate") [.ref l]) Q E s:=by
 obtain⟨⟨c,dct,dt,sl⟩,hl,hc,n,hd⟩:=hL;replace hc:c= .type "tuple":=hc;replace hd:dt= .seq items n:=hd;subst hc hd
 refine callType_new F.called_enumerate (by decide) (F.typeCall_enumerate_1 _) (F.newCall_enumerate_1 _) (fun obj=>F.args_object_init_2 obj _) F.entry_enumerate_new (enum_new_tup l items n dct sl) ⟨hl,?_⟩
 have hz:(s.heap.push {cls:= .type "tuple_iterator",data:= .fields #[.ref l,.int 0 0]}).objs.size=s.heap.objs.size+1:=ybm ..
 show _/\_
 rw[hz]
 have he:IsEnum ((s.heap.push {cls:= .type "tuple_iterator",data:= .fields #[.ref l,.int 0 0]}).push {cls:= .type "enumerate",data:= .fields #[.none,.bool false,.ref s.heap.objs.size,rawInt 0,.none,.none]}) (s.heap.objs.size+1) s.heap.objs.size 0 .none:=by
  have:=yal (s.heap.push {cls:= .type "tuple_iterator",data:= .fields #[.ref l,.int 0 0]}) (o:={cls:= .type "enumerate",data:= .fields #[.none,.bool false,.ref s.heap.objs.size,rawInt 0,.none,.none]}) rfl
  rw[hz]at this;exact this
 exact⟨⟨_,he,rfl⟩,h _ he ⟨_,yad _ (yal _ rfl),rfl,rfl⟩ (by rw[ybm,hz]) fun b o x=>yad _ (yad _ x)⟩
end
end PySem
namespace L2
open PySem PySem.Spec PyProof.Rows
section
variable{X:Cx}{pins:List (Addr×Obj)}{σ:St}{H:Hp}{s:Shared}{h':Heap}
theorem Inv.turnsLaid{t':Nat}{fp:List Addr}{T:Addr}{o:HO}(I:Inv X pins σ H s)(k:∀b o,b∉fp->s.heap.get? b=some o->h'.get? b=some o)(hf:∀b∈fp,FpOk X pins H b)(hT:s.heap.objs.size<=T)(new:ObjOk X.prog X.w (upd H T o) h' T o):
  Inv X pins σ (upd H T o) {s with heap:=h',toks:=t'}:=by
 have hTn:H T=none:=I.hok.fresh hT
 have nfp:∀b u,H b=some u->b∉fp:=fun b u e z=>by rw[(hf b z).1]at e;cases e
 have neT:∀b o,s.heap.get? b=some o->b≠T:=fun b o e=>yam (yak (yaq e) hT)
 have neU:∀b u,H b=some u->b≠T:=fun b u e z=>by rw[z,hTn]at e;cases e
 refine I.step (g':=s.gens) (d':=s.drawn) (ch:=fp) (fun b hb=> ?_) (fun b o _ _ hc e _=>k b o hc e) (fun b o _ _ hc e _=>⟨o.slots,k b o hc e⟩) (fun b o _ e n=>by rw[zai (neT b o e)];exact n)
  (fun b o hc e=>⟨o,k b o hc e⟩) (fun b xs e=>by rw[zai (neU b _ e)];exact e) (fun b o u e=>by rw[zai (neU b _ e)];exact e) (fun b ps e=>⟨#[],by rw[zai (neU b _ e),e];simp⟩) (fun m hm=> ?_) (fun b u e=> ?_) I.bare
 ·obtain⟨f0,f1,f2,f3,f4,f5⟩:=hf b hb
  exact⟨f3,f1,f4,f5⟩
 ·obtain⟨o,es,ep,ho,r⟩:=hm
  exact⟨o,es,ep,k _ o (fun z=>(hf _ z).2.1 rfl) ho,r⟩
 ·by_cases hb:b=T
  ·subst hb
   rw[zab]at e
   cases e
   exact new
  ·rw[zai hb]at e
   refine(I.hok b u e).stay (fun c v hc q=>k c v ?_ q) (fun c q=>by rw[zai (neU c _ q)];exact q) fun c xs q=>by rw[zai (neU c _ q)];exact q
   rcases hc with z|z
   ·rw[z];exact nfp b u e
   ·exact nfp c _ z
theorem Inv.turns{t':Nat}{fp:List Addr}(I:Inv X pins σ H s)(k:∀b o,b∉fp->s.heap.get? b=some o->h'.get? b=some o)(hf:∀b∈fp,FpOk X pins H b):Inv X pins σ H {s with heap:=h',toks:=t'}:=by
 have nfp:∀b u,H b=some u->b∉fp:=fun b u e z=>by rw[(hf b z).1]at e;cases e
 refine I.step (g':=s.gens) (d':=s.drawn) (ch:=fp) (fun b hb=> ?_) (fun b o _ _ hc e _=>k b o hc e) (fun b o _ _ hc e _=>⟨o.slots,k b o hc e⟩) (fun b o _ e n=>n)
  (fun b o hc e=>⟨o,k b o hc e⟩) (fun b xs e=>e) (fun b o u e=>e) (fun b ps e=>⟨#[],by rw[e];simp⟩) (fun m hm=> ?_) (fun b u e=> ?_) I.bare
 ·obtain⟨f0,f1,f2,f3,f4,f5⟩:=hf b hb
  exact⟨f3,f1,f4,f5⟩
 ·obtain⟨o,es,ep,ho,r⟩:=hm
  exact⟨o,es,ep,k _ o (fun z=>(hf _ z).2.1 rfl) ho,r⟩
 ·refine(I.hok b u e).stay (fun c v hc q=>k c v ?_ q) (fun c q=>q) fun c xs q=>q
  rcases hc with z|z
  ·rw[z];exact nfp b u e
  ·exact nfp c _ z
end
noncomputable def SqE(K:W.Frag)(b:Bool)(H:Hp)(a:Addr)(xs:List V):Prop:=match b with
 |false=>SqL K H a xs
 |true=>SqT K H a xs
noncomputable def Ite(K:W.Frag)(b:Bool)(a:Addr)(xs:List V):It:=
 ⟨fun i H=>SqE K b H a xs/\i<xs.length,fun i H x H'=>∃t v,x= .ref t/\H t=none/\H'=upd H t (.tup [.int (i:Int),v])/\xs[i]? =some v,fun i H=>SqE K b H a xs/\i=xs.length⟩
theorem turn_enumL{P:Program}{w:World}{K:W.Frag}{es:List Expr}{k:Nat}{pos:Pos}(a e it:Addr)(xs:List V)(hne:e≠it):
  Turn P w K (.Tuple es k pos) (Ite K false a xs) [e,it] e (fun i h=>(∃old,IsEnum h e it (i:Int) old)/\h.IsListIter it a i) where
 mem:=by simp
 obj:=fun i h st b hb=>by
  obtain⟨⟨old,he⟩,o,e1,c,d⟩:=st
  rcases yaj.mp hb with z|hb
  ·subst z;exact⟨_,he,fun v z=>by cases z⟩
  ·have z:b=it:=by simpa using hb
   subst z
   exact⟨o,e1,fun v z=>by rw[d]at z;cases z⟩
 keep:=fun i h h' st k=>⟨st.1.imp fun old he=>k e (by simp) _ he,st.2.at fun o e=>k it (by simp) o e⟩
 item:=by
  intro X hP hw hK hc i pins s σ H E I hf st hg
  subst hP hw hK
  obtain⟨hq0,hi⟩:=hg
  have hq:SqL X.K H a xs:=hq0
  obtain⟨its,rv,p,hz⟩:=I.list hq
  have hx:xs[i]? =some xs[i]:=yac hi
  obtain⟨u,hu,ru⟩:=rv.get hx
  obtain⟨⟨old,he⟩,hit⟩:=st
  refine wpAny_pyNext_enum_item he hit p.isList (x:=u) (by simpa using hu) hne fun h1 ho hit1 hT hsz hk=>⟨_,rfl,?_⟩
  refine wpAny_letOwnedTupleGo_enum ho fun h2 he2 hs2=> ?_
  have hs2':Heap.SameBut e h1 h2:=hs2
  have nTe:s.heap.objs.size≠e:=fun z=>absurd (yaq he) (by rw[<-z];exact ybj _)
  have keep:∀b o,b∉[e,it]->s.heap.get? b=some o->h2.get? b=some o:=fun b o hb q=>(hs2'.2 b fun z=>hb (by simp[z])).trans (hk b o (fun z=>hb (by simp[z])) (fun z=>hb (by simp[z])) q)
  have hT2:h2.get? s.heap.objs.size=some {cls:= .type "tuple",data:= .seq #[.int i s.toks,u]}:=(hs2'.2 _ nTe).trans hT
  have I2:=I.turnsLaid (h':=h2) (t':=s.toks+1) (o:= .tup [.int (i:Int),xs[i]]) keep hf (yab _) ⟨(by show 2<=sizeLine;decide),[.int i s.toks,u],.cons ⟨_,rfl⟩ (.cons ru .nil),_,hT2,rfl,_,rfl⟩
  exact⟨.ref s.heap.objs.size,_,I2,rfl,⟨_,_,rfl,I.hok.fresh (yab _),rfl,hx⟩,⟨⟨_,by simpa using he2⟩,hit1.at fun o q=>(hs2'.2 it hne.symm).trans q⟩,fun b hb=>by
   rw[zai (fun z=> ?_)]
   ·exact(hf b hb).1
   ·obtain⟨_,q1,_⟩:=hit
    rcases yaj.mp hb with y|y
    ·exact nTe (z.symm.trans y)
    ·have y:b=it:=by simpa using y
     rw[<-y,z]at q1
     exact absurd (yaq q1) (ybj _)⟩
 done:=by
  intro X hP hw hK hc i pins s σ H E I hf st hg
  subst hP hw hK
  obtain⟨hq0,hi⟩:=hg
  have hq:SqL X.K H a xs:=hq0
  obtain⟨its,rv,p,hz⟩:=I.list hq
  have hl:=rv.length
  obtain⟨⟨old,he⟩,hit⟩:=st
  exact wpAny_pyNext_enum_end (I.ok.hd hc) he hit p.isList (by simp;omega) fun h' eb=>⟨rfl,I.turns (t':=s.toks) (fp:=[e,it]) (fun b o hb q=>eb b o (fun z=>hb (by simp[z])) q) hf⟩
 self:=fun _ _ _ _ _ st h=>by
  obtain⟨⟨old,he⟩,_⟩:=st
  exact wpAny_pyIter_enum he h
theorem turn_enumT{P:Program}{w:World}{K:W.Frag}{es:List Expr}{k:Nat}{pos:Pos}(a e it:Addr)(xs:List V)(hne:e≠it)(hat:a≠it)(hae:a≠e):
  Turn P w K (.Tuple es k pos) (Ite K true a xs) [e,it] e (fun i h=>(∃old,IsEnum h e it (i:Int) old)/\h.IsTupleIter it a i) where
 mem:=by simp
 obj:=fun i h st b hb=>by
  obtain⟨⟨old,he⟩,o,e1,c,d⟩:=st
  rcases yaj.mp hb with z|hb
  ·subst z;exact⟨_,he,fun v z=>by cases z⟩
  ·have z:b=it:=by simpa using hb
   subst z
   exact⟨o,e1,fun v z=>by rw[d]at z;cases z⟩
 keep:=fun i h h' st k=>⟨st.1.imp fun old he=>k e (by simp) _ he,st.2.at fun o e=>k it (by simp) o e⟩
 item:=by
  intro X hP hw hK hc i pins s σ H E I hf st hg
  subst hP hw hK
  obtain⟨hq0,hi⟩:=hg
  have hq:SqT X.K H a xs:=hq0
  obtain⟨its,rv,p,hz⟩:=I.tuple hq
  have hx:xs[i]? =some xs[i]:=yac hi
  obtain⟨u,hu,ru⟩:=rv.get hx
  obtain⟨⟨old,he⟩,hit⟩:=st
  have hl:=rv.length
  have pt:s.heap.IsTuple a its.toArray:=p
  have D:=Draws.tup (prog:=X.prog) (w:=X.w) (A:=X.A.in1) (I.ok.hd hc) it a hat its.toArray
  refine wpAny_pyNext_enum_itemD D he ⟨hit,pt⟩ (by simp;omega) hne (by simp;exact⟨hne,fun z=>hae z.symm⟩) fun y h1 tk hy ho hst1 hT hsz hk=>⟨_,rfl,?_⟩
  have ey:y=u:=by
   have hu':its.toArray[i]? =some u:=by simpa using hu
   rw[hu']at hy
   exact(Option.some.inj hy).symm
  subst ey
  refine wpAny_letOwnedTupleGo_enum ho fun h2 he2 hs2=> ?_
  have hs2':Heap.SameBut e h1 h2:=hs2
  have nTe:s.heap.objs.size≠e:=fun z=>absurd (yaq he) (by rw[<-z];exact ybj _)
  have keep:∀b o,b∉[e,it]->s.heap.get? b=some o->h2.get? b=some o:=fun b o hb q=>(hs2'.2 b fun z=>hb (by simp[z])).trans (hk b o (fun z=>hb (by simp[z])) (fun z=>hb (by simp[z])) q)
  have hT2:h2.get? s.heap.objs.size=some {cls:= .type "tuple",data:= .seq #[.int i tk,y]}:=(hs2'.2 _ nTe).trans hT
  have I2:=I.turnsLaid (h':=h2) (t':=tk+1) (o:= .tup [.int (i:Int),xs[i]]) keep hf (yab _) ⟨(by show 2<=sizeLine;decide),[.int i tk,y],.cons ⟨_,rfl⟩ (.cons ru .nil),_,hT2,rfl,_,rfl⟩
  exact⟨.ref s.heap.objs.size,_,I2,rfl,⟨_,_,rfl,I.hok.fresh (yab _),rfl,hx⟩,⟨⟨_,by simpa using he2⟩,hst1.1.at fun o q=>(hs2'.2 it hne.symm).trans q⟩,fun b hb=>by
   rw[zai (fun z=> ?_)]
   ·exact(hf b hb).1
   ·obtain⟨_,q1,_⟩:=hit
    rcases yaj.mp hb with y|y
    ·exact nTe (z.symm.trans y)
    ·have y:b=it:=by simpa using y
     rw[<-y,z]at q1
     exact absurd (yaq q1) (ybj _)⟩
 done:=by
  intro X hP hw hK hc i pins s σ H E I hf st hg
  subst hP hw hK
  obtain⟨hq0,hi⟩:=hg
  have hq:SqT X.K H a xs:=hq0
  obtain⟨its,rv,p,hz⟩:=I.tuple hq
  have hl:=rv.length
  obtain⟨⟨old,he⟩,hit⟩:=st
  have pt:s.heap.IsTuple a its.toArray:=p
  have ei:i=its.toArray.size:=by rw[yah];omega
  subst ei
  have D:=Draws.tup (prog:=X.prog) (w:=X.w) (A:=X.A.in1) (I.ok.hd hc) it a hat its.toArray
  exact wpAny_pyNext_enum_endD D he ⟨hit,pt⟩ fun h' eb=>⟨rfl,I.turns (t':=s.toks) (fp:=[e,it]) (fun b o hb q=>eb b o (fun z=>hb (by simp[z])) q) hf⟩
 self:=fun _ _ _ _ _ st h=>by
  obtain⟨⟨old,he⟩,_⟩:=st
  exact wpAny_pyIter_enum he h
section
variable{X:Cx}{es:List Expr}{k:Nat}{pos0:Pos}
noncomputable def iEnum(K:W.Frag)(ta:TA):TI:=fun σ H R=>ta σ H fun vs H1=>∃(b:Bool) (a:Addr) (xs:List V),vs=[.ref a]/\SqE K b H1 a xs/\(xs.length<=sizeLine->R (Ite K b a xs) H1)
theorem pi_enum{a:Expr}{ta:TA}{p pos:Pos}(hg:Gl X "enumerate")(hm:X.mg "enumerate"=none)(ha:PA X [a] ta)(hs:starEach [a] X.env=[(false,eval a X.env)]:=by rfl):
  PI X (.Tuple es k pos0) (.Call (.Name "enumerate" p) [a] [] pos) (iEnum X.K ta):=by
 intro pins s σ H R I h
 refine Call_ (ld_blt I hg hm (show bootBuiltins "enumerate"=some (.type "enumerate")from by decide+kernel) (PyProof.Rows.callWith_type1 (thn (ha pos pins s σ H _ I h) fun us s1 ⟨vs,H1,I1,r1,q1⟩=> ?_) hs rfl))
 obtain⟨b,l,xs,e,hq,q⟩:=q1
 subst e
 cases r1 with
 |cons r rr=>
  cases rr
  cases r
  cases b with
  |false=>
   obtain⟨its,rv,pl,hz⟩:=I1.list (show SqL X.K H1 l xs from hq)
   refine call_enumerate_list pl.isList fun h' he hit hsz hk=> ?_
   refine wpAny_pyIter_enum he ?_
   have I2:Inv X pins σ H1 {s1 with heap:=h'}:=I1.kept (t':=s1.toks) hk
   have hne:s1.heap.objs.size+1≠s1.heap.objs.size:=Nat.succ_ne_self _
   refine⟨s1.heap.objs.size+1,[s1.heap.objs.size+1,s1.heap.objs.size],_,_,H1,rfl,I2,turn_enumL l _ _ xs hne,⟨⟨_,he⟩,hit⟩,fun c hc=> ?_,q hz⟩
   rcases yaj.mp hc with z|z
   ·subst z;exact I1.fpOk (ycr _) (I1.hok.fresh (ycr _))
   ·have z:c=s1.heap.objs.size:=by simpa using z
    subst z;exact I1.fpOk (yab _) (I1.hok.fresh (yab _))
  |true=>
   obtain⟨its,rv,pl,hz⟩:=I1.tuple (show SqT X.K H1 l xs from hq)
   have pt:s1.heap.IsTuple l its.toArray:=pl
   have hlt:l<s1.heap.objs.size:=by obtain⟨_,e,_⟩:=id pt;exact yaq e
   refine call_enum_tup pt fun h' he hit hsz hk=> ?_
   refine wpAny_pyIter_enum he ?_
   have I2:Inv X pins σ H1 {s1 with heap:=h'}:=I1.kept (t':=s1.toks) hk
   have hne:s1.heap.objs.size+1≠s1.heap.objs.size:=Nat.succ_ne_self _
   refine⟨s1.heap.objs.size+1,[s1.heap.objs.size+1,s1.heap.objs.size],_,_,H1,rfl,I2,turn_enumT l _ _ xs hne (yam hlt) (yam (yaw hlt)),⟨⟨_,he⟩,hit⟩,fun c hc=> ?_,q hz⟩
   rcases yaj.mp hc with z|z
   ·subst z;exact I1.fpOk (ycr _) (I1.hok.fresh (ycr _))
   ·have z:c=s1.heap.objs.size:=by simpa using z
    subst z;exact I1.fpOk (yab _) (I1.hok.fresh (yab _))
end
section
variable{ini:St}{H:Hp}{g:TG}{tc:TT}{te:TE}{Fin:List V->Hp->Prop}{K:W.Frag}{b:Bool}{a:Addr}{xs:List V}
theorem comp_enum(Pv:Nat->List V->St->Hp->Prop)(h0:Pv 0 [] ini H)(hl:∀(i:Nat) acc σ H,i<=xs.length->Pv i acc σ H->SqE K b H a xs)(hz:∀(i:Nat) acc σ H,i<=xs.length->Pv i acc σ H->acc.length<=i)(hx:xs.length<=sizeLine)(hs:∀(i:Nat) v t acc σ H,xs[i]? =some v->Pv i acc σ H->H t=none->g (.ref t) σ (upd H t (.tup [.int (i:Int),v])) fun σ2 H2=>tc σ2 H2 fun b H3=>if b=true then te σ2 H3 fun v H4=>Pv (i+1) (acc++[v]) σ2 H4 else Pv (i+1) acc σ2 H3)(hd:∀acc σ H,Pv xs.length acc σ H->Fin acc H):CompW (Ite K b a xs) ini H g tc te Fin:=by
 refine⟨fun i m acc σ H=>m=xs.length-i/\i<=xs.length/\Pv i acc σ H,⟨xs.length,by simp,yas _,h0⟩,?_⟩
 rintro i m acc σ H ⟨rfl,hi,p⟩
 have q:=hl i acc σ H hi p
 have z:=hz i acc σ H hi p
 by_cases hlt:i<xs.length
 ·refine .inr ⟨⟨q,hlt⟩,by omega,fun acc σ H=>Pv (i+1) acc σ H,fun acc' σ' H' r=>⟨_,by omega,rfl,hlt,r⟩,fun x H' y=> ?_⟩
  obtain⟨t,v,rfl,ht,rfl,hv⟩:=y
  exact hs i v t acc σ H hv p ht
 ·have e:i=xs.length:=by omega
  subst e
  exact .inl ⟨⟨q,rfl⟩,by omega,hd acc σ H p⟩
end
section
variable{X:Cx}{e m a:Expr}{te:TE}{tm:TO}{ta:TA}{p p' pos pos' p2:Pos}
theorem step_in{l:List Int}{k:Int}(h:k∈l):step_dedup l k=l:=by unfold step_dedup;simp[h]
theorem step_out{l:List Int}{k:Int}(h:¬k∈l):step_dedup l k=l++[k]:=by unfold step_dedup;simp[h]
theorem firstMet_mem(ns:List Int):∀(i:Nat),i<=ns.length->∀k,k∈firstMet (fun i=>ns.getD i 0) i↔k∈ns.take i
 |0,_,k=>by rw[firstMet_zero,List.take_zero]
 |i+1,h,k=>by
  have ih:=firstMet_mem ns i (by omega) k
  have e1:ns.getD i 0=ns[i]:=by simp[show i<ns.length by omega]
  rw[firstMet_succ,yce,yac (by omega),yay,<-ih]
  try dsimp only
  rw[e1]
  by_cases hm:ns[i]∈firstMet (fun i=>ns.getD i 0) i
  ·rw[step_in hm]
   constructor
   ·exact .inl
   ·rintro(z|z)
    ·exact z
    ·have:k=ns[i]:=by simpa using z
     rw[this];exact hm
  ·rw[step_out hm,yay]
   simp
theorem op_catEK(K:W.Frag)(h:X.K=K:=by rfl):OpR X (binaryOp .Add) (rCatE K):=by subst h;exact op_catE
end
section
variable{ini:St}{H:Hp}{g:TG}{tc:TT}{te:TE}{Fin:List V->Hp->Prop}{K:W.Frag}{b:Bool}{a:Addr}{xs:List V}
end
theorem seq_mid{s u:TS}{D:Ends}{σ:St}{H:Hp}(I:St->Hp->Prop)(h1:∀N:St->Hp->Prop,(∀σ' H',I σ' H'->N σ' H')->s {D with nx:=N} σ H)(h2:∀σ' H',I σ' H'->u D σ' H'):tSeq s u D σ H:=h1 (u D) h2
section
variable{K:W.Frag}{σ:St}{H0:Hp}{tp:Addr}
end
theorem cf_mem:∀(names:List (Str×NameKind)) (n:Nat) (acc:List (Str×Addr)) {x:Str} {c:Addr},(x,c)∈cellsFrom n names acc->(x,c)∈acc\/((x,NameKind.cell)∈names/\n<=c)
 |[],_,_,_,_,h=> .inl h
 |(nm,k)::r,n,acc,x,c,h=>by
  unfold cellsFrom at h
  split at h
  ·rename_i hk
   have ek:k=NameKind.cell:=by simpa using hk
   rcases cf_mem r _ _ h with q|⟨q,m⟩
   ·rcases yaj.mp q with e|e
    ·cases e
     subst ek
     exact .inr ⟨yap,yab _⟩
    ·exact .inl e
   ·exact .inr ⟨yai _ q,by omega⟩
  ·rcases cf_mem r _ _ h with q|⟨q,m⟩
   ·exact .inl q
   ·exact .inr ⟨yai _ q,m⟩
theorem cf_acc:∀(names:List (Str×NameKind)) (n:Nat) (acc:List (Str×Addr)) {p:Str×Addr},p∈acc->p∈cellsFrom n names acc
 |[],_,_,_,h=>h
 |(nm,k)::r,n,acc,p,h=>by
  unfold cellsFrom
  split
  ·exact cf_acc r _ _ (yai _ h)
  ·exact cf_acc r _ _ h
theorem cf_has:∀(names:List (Str×NameKind)) (n:Nat) (acc:List (Str×Addr)) {x:Str},(x,NameKind.cell)∈names->∃c,(x,c)∈cellsFrom n names acc
 |(nm,k)::r,n,acc,x,h=>by
  unfold cellsFrom
  rcases yaj.mp h with e|e
  ·cases e
   rw[if_pos (show(NameKind.cell==NameKind.cell)=true from rfl)]
   exact⟨n,cf_acc r _ _ yap⟩
  ·split
   ·exact cf_has r _ _ e
   ·exact cf_has r _ _ e
theorem cf_inj{n0:Nat}:∀(names:List (Str×NameKind)) (n:Nat) (acc:List (Str×Addr)),n0<=n->(∀x y c,(x,c)∈acc->(y,c)∈acc->n0<=c->x=y)->(∀x c,(x,c)∈acc->c<n)->∀x y c,(x,c)∈cellsFrom n names acc->(y,c)∈cellsFrom n names acc->n0<=c->x=y
 |[],_,_,_,h,_=>h
 |(nm,k)::r,n,acc,hn,h,hl=>by
  unfold cellsFrom
  split
  ·refine cf_inj r (n+1) ((nm,n)::acc) (by omega) (fun x y c hx hy hc=> ?_) (fun x c hx=> ?_)
   ·rcases yaj.mp hx with e1|e1<;>rcases yaj.mp hy with e2|e2
    ·cases e1;cases e2;rfl
    ·cases e1;exact absurd (hl _ _ e2) (ybj _)
    ·cases e2;exact absurd (hl _ _ e1) (ybj _)
    ·exact h x y c e1 e2 hc
   ·rcases yaj.mp hx with e1|e1
    ·cases e1;exact yba _
    ·exact yaw (hl _ _ e1)
  ·exact cf_inj r n acc hn h hl
theorem cf_cell:∀(names:List (Str×NameKind)) (h:Heap) (acc:List (Str×Addr)) {x:Str} {c:Addr},(x,c)∈cellsFrom h.objs.size names acc->(x,c)∈acc\/(pushCells h names).IsCell c none
 |[],_,_,_,_,h=> .inl h
 |(nm,k)::r,h,acc,x,c,hm=>by
  unfold cellsFrom at hm
  unfold pushCells
  split at hm
  ·rename_i hk
   rw[if_pos hk]
   have hm':(x,c)∈cellsFrom (h.push {cls:= .type "cell",data:= .cell none}).objs.size r ((nm,h.objs.size)::acc):=by rw[ybm];exact hm
   rcases cf_cell r (h.push {cls:= .type "cell",data:= .cell none}) _ hm' with q|q
   ·rcases yaj.mp q with e|e
    ·cases e
     exact .inr ⟨_,pushCells_keeps _ _ _ _ (yal _ rfl),rfl⟩
    ·exact .inl e
   ·exact .inr q
  ·rename_i hk
   rw[if_neg hk]
   exact cf_cell r h acc hm
theorem newEnvC{M:Model}{A:Around}{E:Value->Shared->Prop}{s:Shared}{scope:Scope}{globals:Addr}{closure:List (Str×Addr)}{qual:Str}{env:Env}{Q:Env->Shared->Prop}(hQ:Q (newEnv scope s.heap.objs.size globals (cellsFrom (s.heap.objs.size+1) scope.names closure) qual none Value.none (some env) 0) {s with heap:=pushCells (s.heap.push {cls:= .type "dict",data:= .dict #[]}) scope.names}):
  wpAny M A (newFunctionEnv scope globals closure [] qual none .none (some env)) Q E s:=by
 simp only[newFunctionEnv,Option.isSome_some,if_true]
 refine wpAny_bind (wpAny_alloc ?_)
 refine wpAny_bind (wpAny_layCells _ (fun name kind cells=>by cases hkc:kind==NameKind.cell<;>simp[hkc]) _ _ _ _ ?_)
 rw[List.forIn_nil]
 refine wpAny_bind (wpAny_pure (wpAny_pure ?_))
 rw[show({s with heap:=s.heap.push {cls:= .type "dict",data:= .dict #[]}}:Shared).heap.objs.size=s.heap.objs.size+1 from ybm ..]
 exact hQ
noncomputable def compOkC(sc scope:Scope):Bool:=scope.names.all fun p=>(p.2 !=NameKind.cell||scope.names.lookup p.1==some NameKind.cell)&&(p.2 !=NameKind.local||scope.names.lookup p.1==some NameKind.local)&&
 (p.2 !=NameKind.free||(scope.names.lookup p.1==some NameKind.free&&(sc.names.lookup p.1==some NameKind.cell||sc.names.lookup p.1==some NameKind.free)))
section
variable{sc scope:Scope}
theorem compOkC.cell(h:compOkC sc scope=true){x:Str}(hy:(x,NameKind.cell)∈scope.names):scope.names.lookup x=some .cell:=by
 have q:=yax.mp h _ hy
 simpa using q
theorem compOkC.names(h:compOkC sc scope=true):∀y∈scope.names,y.2= .local->scope.names.lookup y.1=some .local:=fun y hy e=>by
 have q:=yax.mp h y hy
 simpa[e]using q
theorem compOkC.free(h:compOkC sc scope=true){x:Str}(hy:(x,NameKind.free)∈scope.names):scope.names.lookup x=some .free/\(sc.names.lookup x=some .cell\/sc.names.lookup x=some .free):=by
 have q:=yax.mp h _ hy
 simpa using q
end
theorem relab_cellC{scope:Scope}{env:Env}{x:Str}(h:(relabel scope env).names.lookup x=some .cell\/(relabel scope env).names.lookup x=some .free):(x,NameKind.free)∈scope.names\/(x,NameKind.cell)∈scope.names:=by
 cases e:scope.names.lookup x with
 |none=>
  have q:=relab_none (env:=env) e
  rcases h with h|h
  ·rw[show(relabel scope env).names.lookup x=none from q]at h;cases h
  ·rw[show(relabel scope env).names.lookup x=none from q]at h;cases h
 |some k=>
  have q:=relab_look (env:=env) e
  have m:=PySem.mem_of_lookup e
  by_cases hk:k= .free
  ·subst hk;exact .inl m
  ·have q':(relabel scope env).names.lookup x=some k:=by
    refine Eq.trans q ?_
    have:(k==NameKind.free)=false:=by simpa using hk
    simp[this]
   rw[q']at h
   rcases h with h|h
   ·cases h;exact .inr m
   ·cases h;exact absurd rfl hk
noncomputable def compCxC(X:Cx)(scope:Scope)(N:List Str)(s:Shared)(H:Hp)(cl:List (Str×Addr))(C:Addr)(ex:List Addr):Cx:=
 {X with N:=N,s₀:=s,H₀:=H,env:=compEnvC scope cl C X.env,outer:=X.stack,ex:=ex,fn:=fun x=>scope.names.lookup x==some NameKind.cell,pn:=[],xe:=fun _ _=>False}
section
variable{X:Cx}{tg iter elt:Expr}{ifs:List Expr}{scope:Scope}{pos:Pos}{own caps:List Str}{ix:List Nat}{g:TG}{tc:TT}{te:TE}
noncomputable abbrev clC(X:Cx)(scope:Scope)(C:Addr):List (Str×Addr):=cellsFrom (C+1) scope.names (clOf X.env.cells scope.names [])
theorem clC_mem{pins:List (Addr×Obj)}{s:Shared}{σ:St}{H:Hp}{C:Addr}(ck:compOkC X.env.scope scope=true)(I:Inv X pins σ H s){x:Str}{c:Addr}(e:(clC X scope C).lookup x=some c):
  (X.env.cells.lookup x=some c/\(x,NameKind.free)∈scope.names)\/((x,NameKind.cell)∈scope.names/\C<c/\(x,c)∉clOf X.env.cells scope.names []):=by
 have old:(x,c)∈clOf X.env.cells scope.names []->X.env.cells.lookup x=some c/\(x,NameKind.free)∈scope.names:=fun q=>by
  rcases clOf_mem q with q|⟨q,mm⟩
  ·cases q
  ·obtain⟨d,hd⟩:=I.ok.has x (compOkC.free ck mm).2
   rw[hd]at q
   have q:c=d:=q
   rw[q]
   exact⟨hd,mm⟩
 rcases cf_mem _ _ _ (PySem.mem_of_lookup e)with q|⟨q,m⟩
 ·exact .inl (old q)
 ·refine .inr ⟨q,m,fun z=> ?_⟩
  have h1:=compOkC.cell ck q
  have h2:=(compOkC.free ck (old z).2).1
  rw[h1]at h2;cases h2
theorem comp_entryC{pins:List (Addr×Obj)}{s s':Shared}{σ:St}{H:Hp}{fp:List Addr}{C:Addr}{m:Str->Option Value}(ck:compOkC X.env.scope scope=true)(hkind:scope.kind= .function)(hcap:Caps X scope caps ix)
  (I:Inv X pins σ H s)(f2:∀b∈fp,FpOk X pins H b)(hlt:∀b∈fp,b<s.heap.objs.size)(hC:s.heap.objs.size<=C)(hos:s'.os=s.os)(hg:AllBare s'.gens)(hk:∀b o,s.heap.get? b=some o->s'.heap.get? b=some o)(hn:s'.heap.Ns C m)(hcl:∀x c,(clC X scope C).lookup x=some c->(x,c)∉clOf X.env.cells scope.names []->s'.heap.IsCell c none):
  Inv (compCxC X scope (own++caps) s H (clC X scope C) C fp) [] (iniOf own ix σ) H s':=by
 have cl1:=fun x c e=>clC_mem (C:=C) (x:=x) (c:=c) ck I e
 have oldlt:∀x c,X.env.cells.lookup x=some c->c<s.heap.objs.size:=fun x c e=>by
  obtain⟨v,o,ho,_⟩:=I.cell x c e
  exact yaq ho
 have cl2:∀x,(x,NameKind.free)∈scope.names\/(x,NameKind.cell)∈scope.names->∃c,(clC X scope C).lookup x=some c:=fun x mm=>by
  rcases mm with mm|mm
  ·obtain⟨c,hc⟩:=clOf_has (cells:=X.env.cells) (acc:=[]) mm
   obtain⟨d,hd,_⟩:=zbr (cf_acc scope.names (C+1) _ hc)
   exact⟨d,hd⟩
  ·obtain⟨c,hc⟩:=cf_has scope.names (C+1) (clOf X.env.cells scope.names []) mm
   obtain⟨d,hd,_⟩:=zbr hc
   exact⟨d,hd⟩
 have inj:∀x y c,(clC X scope C).lookup x=some c->(clC X scope C).lookup y=some c->x=y:=fun x y c h1 h2=>by
  rcases cl1 x c h1 with⟨q1,_⟩|⟨q1,m1,_⟩<;>rcases cl1 y c h2 with⟨q2,_⟩|⟨q2,m2,_⟩
  ·exact I.ok.inj x y c q1 q2
  ·exact absurd (ycv (yak (oldlt x c q1) hC) m2) (ybj _)
  ·exact absurd (ycv (yak (oldlt y c q2) hC) m1) (ybj _)
  ·refine cf_inj (n0:=C+1) scope.names (C+1) _ (yab _) (fun x y c hx hy hc=> ?_) (fun x c hx=> ?_) x y c (PySem.mem_of_lookup h1) (PySem.mem_of_lookup h2) m1
   ·obtain⟨d,hd,_⟩:=zbr hx
    rcases clOf_mem hx with q|⟨q,mm⟩
    ·cases q
    ·obtain⟨d,hd⟩:=I.ok.has x (compOkC.free ck mm).2
     rw[hd]at q
     have q:c=d:=q
     subst q
     exact absurd (yak (yak (oldlt x c hd) hC) (yan hc)) (ybj _)
   ·rcases clOf_mem hx with q|⟨q,mm⟩
    ·cases q
    ·obtain⟨d,hd⟩:=I.ok.has x (compOkC.free ck mm).2
     rw[hd]at q
     have q:c=d:=q
     subst q
     exact yaw (yak (oldlt x c hd) hC)
 have bsz:X.base.objs.size<=s.heap.objs.size:=yau I.ok.bsz I.sz
 refine⟨⟨I.ok.mod,hkind,I.ok.glob,I.ok.blt,hC,inj,fun x hx=>cl2 x (relab_cellC hx),fun x c h e=> ?cab,I.ok.hd,I.ok.frames,.inl rfl,fun b hb=>⟨yam (yak (hlt b hb) hC),fun x c e=> ?exf⟩,I.bs,bsz,
  fun b o e hb=> ?_,fun b hb hz=> ?_,I.stack,I.stkFree⟩,?_,hg,Un.kept hk,⟨m,hn,fun i x v h1 h2 h3=> ?_⟩,fun x c e=> ?_,I.hok.fresh hC,fun x c e=> ?frc,fun p hp=>absurd (show p∈([]:List (Addr×Obj))from hp) (by simp),I.hok.kept hk,?_⟩
 case cab=>
  rcases cl1 x c e with⟨_,q⟩|⟨_,q,_⟩
  ·have y1:=(compOkC.free ck q).1
   have y2:(scope.names.lookup x==some NameKind.cell)=true:=h
   rw[y1]at y2
   exact absurd y2 (by decide)
  ·exact yau hC (yan q)
 case exf=>
  rcases cl1 x c e with⟨q,_⟩|⟨_,q,_⟩
  ·exact(f2 b hb).2.2.2.2.1 x c q
  ·exact Ne.symm (yam (ycv (yak (hlt b hb) hC) q))
 case frc=>
  rcases cl1 x c e with⟨q,_⟩|⟨_,q,_⟩
  ·exact I.freeC x c q
  ·exact I.hok.fresh (yau hC (yan q))
 ·rcases(f2 b hb).2.2.2.1 with z|z
  ·exact I.ok.noex b o e z
  ·exact absurd (yak (yaq e) (yau I.ok.bsz z)) (ybj _)
 ·rcases yaj.mp (I.stkSub b hz)with z|z
  ·exact(f2 b hb).2.1 z
  ·exact(f2 b hb).2.2.1 z
 ·exact hos
 ·have h1:(own++caps)[i]? =some x:=h1
  have h2:(own.map (fun _=>(none:Option V))++ix.map fun j=>(σ[j]?).join)[i]? =some (some v):=h2
  by_cases hi:i<own.length
  ·rw[ydd (by simpa using hi),yae]at h2
   cases e:own[i]? <;>rw[e]at h2<;>simp at h2
  ·rw[ycf (by simpa using hi)]at h2
   rw[ycf (by omega)]at h1
   rw[yaa]at h2
   obtain⟨j,e1,e2,e3⟩:=hcap.get h1
   rw[yae,e1]at h2
   have h2':(σ[j]?).join=some v:=by simpa using h2
   have h4:σ[j]? =some (some v):=by
    cases q:σ[j]? with
    |none=>rw[q]at h2';cases h2'
    |some w=>rw[q]at h2';exact congrArg some h2'
   obtain⟨m0,hn0,hl0⟩:=I.loc
   have mm:=PySem.mem_of_lookup e3
   have vis:=(compOkC.free ck mm).2
   obtain⟨u,r,l⟩:=hl0 j x v e2 h4 (.inr vis)
   refine⟨u,r,.inr ?_⟩
   rcases l with⟨k,_⟩|⟨k,c,e,z⟩
   ·rcases vis with q|q
    ·rw[show X.env.kindOf x=some .cell from q]at k;cases k
    ·rw[show X.env.kindOf x=some .free from q]at k;cases k
   ·obtain⟨d,hd⟩:=cl2 x (.inl mm)
    rcases cl1 x d hd with⟨this,_⟩|⟨qc,_⟩
    ·rw[e]at this
     cases this
     exact⟨relab_free e3,c,hd,z.keeps hk⟩
    ·have y1:=compOkC.cell ck qc
     rw[e3]at y1;cases y1
 ·rcases cl1 x c e with⟨q,_⟩|⟨_,_,q⟩
  ·obtain⟨v,z⟩:=I.cell x c q
   exact⟨v,z.keeps hk⟩
  ·exact⟨none,hcl x c e q⟩
 ·show(own.map (fun _=>(none:Option V))++ix.map fun j=>(σ[j]?).join).length=(own++caps).length
  simp[hcap.len]
theorem comp_coreC(ck:compOkC X.env.scope scope=true)(hkind:scope.kind= .function)(hcap:Caps X scope caps ix)(hc:X.calm=true)(hg:∀s H cl C ex,PG (compCxC X scope (own++caps) s H cl C ex) tg g)(ht:∀s H cl C ex,PTs (compCxC X scope (own++caps) s H cl C ex) ifs tc)(he:∀s H cl C ex,PE (compCxC X scope (own++caps) s H cl C ex) elt te){pins:List (Addr×Obj)}{s2:Shared}{σ:St}{H2:Hp}{E:Value->Shared->Prop}(I2:Inv X pins σ H2 s2){it:Addr}{fp:List Addr}{tn:Nat->Heap->Prop}{J:It}(T:Turn X.prog X.w X.K tg J fp it tn)(st2:tn 0 s2.heap)(f2:∀b∈fp,FpOk X pins H2 b)
  {W:Nat->Nat->List V->St->Hp->Prop}{m0:Nat}(w0:W 0 m0 [] (iniOf own ix σ) H2){Fin:List V->Hp->Prop}(turn:∀i m acc σ H,W i m acc σ H->(J.stop i H/\acc.length<=sizeLine/\Fin acc H)\/(J.go i H/\acc.length<sizeLine/\∃N:List V->St->Hp->Prop,(∀acc' σ' H',N acc' σ' H'->∃m',m'<m/\W (i+1) m' acc' σ' H')/\∀x H',J.yld i H x H'->g x σ H' fun σ2 H2=>tc σ2 H2 fun b H3=>
   if b=true then te σ2 H3 fun v H4=>N (acc++[v]) σ2 H4 else N acc σ2 H3))
  {RR:Value->Addr->Result->Shared->Prop}(hRR:∀D C s' acc Hf m,Inv X pins σ (upd Hf D (.lst acc)) s'->Hf D=none->s'.heap.Ns C m->FpOk X pins (upd Hf D (.lst acc)) C->Fin acc Hf->RR (.ref D) C (.ok .next) s'):
  wpAny (model X.prog X.w) X.A (newList []) (fun acc s₃=>wpAny (model X.prog X.w) X.A (newFunctionEnv scope X.env.globals (clOf X.env.cells scope.names []) [] X.env.qual none .none (some X.env)) (fun cenv s₄=>
   codeAny (model X.prog X.w) X.A (.compStart (.ListComp elt [⟨tg,iter,ifs,0⟩] scope pos) 0 (.ref it) acc {cenv with scope:=relabel scope X.env}) (RR acc cenv.locals) s₄) E s₃) E s2:=by
 refine wpAny_newObj_type (newEnvC ?_)
 generalize hP:s2.heap.push {cls:= .type "list",dict:=none,data:= .seq ([]:List Value).toArray}=P1
 have hC:P1.objs.size=s2.heap.objs.size+1:=by rw[<-hP,ybm]
 have hlt:∀b∈fp,b<s2.heap.objs.size:=fun b hb=>by
  obtain⟨o,e,_⟩:=T.obj _ _ st2 b hb
  exact yaq e
 generalize hh1:pushCells (P1.push {cls:= .type "dict",data:= .dict #[]}) scope.names=h₁
 have hns₁:h₁.Ns P1.objs.size (fun _=>none):=by rw[<-hh1];exact(Heap.Ns.new P1 (.type "dict")).keeps (pushCells_keeps _ _)
 have old:∀b o,s2.heap.get? b=some o->h₁.get? b=some o:=fun b o e=>by
  rw[<-hh1];exact pushCells_keeps _ _ b o (yad _ (hP▸yad _ e))
 have hD1:h₁.get? s2.heap.objs.size=some {cls:= .type "list",data:= .seq ([]:List Value).toArray 0}:=by
  rw[<-hh1];exact pushCells_keeps _ _ _ _ (yad _ (hP▸yal _ rfl))
 have hcl1:∀x c,(clC X scope P1.objs.size).lookup x=some c->(x,c)∉clOf X.env.cells scope.names []->h₁.IsCell c none:=fun x c e n=>by
  have e':(x,c)∈cellsFrom (P1.objs.size+1) scope.names (clOf X.env.cells scope.names []):=PySem.mem_of_lookup e
  rw[show P1.objs.size+1=(P1.push {cls:= .type "dict",data:= .dict #[]}).objs.size from(ybm ..).symm]at e'
  rcases cf_cell _ _ _ e' with q|q
  ·exact absurd q n
  ·rw[<-hh1];exact q
 show codeAny (model X.prog X.w) X.A (.compStart (.ListComp elt [⟨tg,iter,ifs,0⟩] scope pos) 0 (.ref it) (.ref s2.heap.objs.size) {newEnv scope P1.objs.size X.env.globals (clC X scope P1.objs.size) X.env.qual none Value.none (some X.env) 0 with scope:=relabel scope X.env}) (RR (.ref s2.heap.objs.size) P1.objs.size) {s2 with heap:=h₁}
 generalize hDD:s2.heap.objs.size=D at *
 rw[hC]at hns₁ hcl1⊢
 have entry:Inv (compCxC X scope (own++caps) s2 H2 (clC X scope (D+1)) (D+1) fp) [] (iniOf own ix σ) H2 {s2 with heap:=h₁}:=
  comp_entryC ck hkind hcap I2 f2 (by rw[hDD];exact hlt) (by rw[hDD];exact ycr _) rfl I2.bare old hns₁ hcl1
 generalize hX':compCxC X scope (own++caps) s2 H2 (clC X scope (D+1)) (D+1) fp=X' at entry
 have eP:X'.prog=X.prog:=by rw[<-hX'];rfl
 have ew:X'.w=X.w:=by rw[<-hX'];rfl
 have eK:X'.K=X.K:=by rw[<-hX'];rfl
 have eA:X'.A=X.A:=by rw[<-hX'];rfl
 have ecalm:X'.calm=true:=by rw[<-hX'];exact hc
 have efs:X'.fs=frs X.stack:=by rw[<-hX'];rfl
 have eex:X'.ex=fp:=by rw[<-hX'];rfl
 have epn:X'.pn=[]:=by rw[<-hX'];rfl
 have es0:X'.s₀=s2:=by rw[<-hX'];rfl
 have eH0:X'.H₀=H2:=by rw[<-hX'];rfl
 have exe:X'.xe=fun _ _=>False:=by rw[<-hX'];rfl
 have eenv:X'.env=compEnvC scope (clC X scope (D+1)) (D+1) X.env:=by rw[<-hX'];rfl
 have eloc:X'.env.locals=D+1:=by rw[eenv];rfl
 have hg':PG X' tg g:=by rw[<-hX'];exact hg _ _ _ _ _
 have ht':PTs X' ifs tc:=by rw[<-hX'];exact ht _ _ _ _ _
 have he':PE X' elt te:=by rw[<-hX'];exact he _ _ _ _ _
 have ecl:∀x c,X'.env.cells.lookup x=some c->c≠D:=fun x c e=>by
  rw[eenv]at e
  rcases clC_mem (C:=D+1) ck I2 e with⟨q,_⟩|⟨_,q,_⟩
  ·obtain⟨v',o',ho',_⟩:=I2.cell x c q
   exact yam (by rw[<-hDD];exact yaq ho')
  ·exact Ne.symm (yam (ycv (yba D) q))
 have dfs:D∉frs X.stack:=fun hb=>by
  rcases yaj.mp (I2.stkSub D hb)with z|z
  ·exact absurd (Nat.lt_of_lt_of_eq I2.lt hDD) (by rw[z];exact ybj _)
  ·exact I2.nofs (yca hDD) z
 have fpn:∀{H':Hp} {o:Obj},(∀b∈fp,H' b=none)->∀b∈fp,FpOk X' [(D,o)] H' b:=fun{H' o} hn b hb=>by
  have hbl:=hlt b hb
  refine⟨hn b hb,by rw[eloc];exact yam (yaw hbl),?_,.inl (by rw[eex];exact hb),fun x c e=> ?_,fun p hp=> ?_⟩
  ·rw[efs]
   intro z
   rcases yaj.mp (I2.stkSub b z)with z|z
   ·exact(f2 b hb).2.1 z
   ·exact(f2 b hb).2.2.1 z
  ·rw[eenv]at e
   rcases clC_mem (C:=D+1) ck I2 e with⟨q,_⟩|⟨_,q,_⟩
   ·exact(f2 b hb).2.2.2.2.1 x c q
   ·exact Ne.symm (yam (ycv (yaw hbl) q))
  ·rw[epn]at hp
   have:p=(D,o):=by simpa using hp
   rw[this]
   exact ycu hbl
 have pinD:∀{σ':St} {H':Hp} {s':Shared} {o:Obj},Inv X' [] σ' H' s'->s'.heap.get? D=some o->H' D=none->(∀v,o.data≠.cell v)->Inv X' [(D,o)] σ' H' s':=fun{σ' H' s' o} I e n d=>
  I.pins_of fun p hp=>by
   have:p=(D,o):=by simpa using hp
   subst this
   exact⟨e,n,by rw[eloc];exact yam (yba D),by rw[efs];exact dfs,d⟩
 have loop:∀s₃:Shared,s₃={s2 with heap:=h₁}->
   codeAny (model X.prog X.w) X.A (.compLoop (.ListComp elt [⟨tg,iter,ifs,0⟩] scope pos) 0 (.ref it) (.ref D) X'.env) (RR (.ref D) (D+1)) s₃:=by
  intro s₃ hs₃
  refine codeAny_loop rfl (fun n s'=>∃i acc its k σ' H',Inv X' [] σ' H' s'/\tn i s'.heap/\(∀b∈fp,H' b=none)/\s'.heap.get? D=some {cls:= .type "list",data:= .seq (List.toArray its) k}/\Vals acc its/\H' D=none/\W i n acc σ' H') ?_ m0
   ⟨0,[],[],0,iniOf own ix σ,H2,by rw[hs₃];exact entry,by rw[hs₃];exact T.keep _ _ _ st2 fun b _ o e=>old b o e,fun b hb=>(f2 b hb).1,by rw[hs₃];exact hD1,.nil,I2.hok.fresh (yca hDD),w0⟩
  rintro n s3 ⟨i,acc,its,k,σ3,H3,I3,st3,fr3,eD,rv,nD,w3⟩
  show wpAny _ X.A ((compTurn (.ListComp elt [⟨tg,iter,ifs,0⟩] scope pos) 0 (.ref it) (.ref D) X'.env).onRaise (fun x=>do noteFrame x X'.env;theTreesLotGoes x)) _ _ s3
  refine wpAny_noted ?_
  rw[compTurn_list]
  have noE:∀{α:Type} {t:Sem α} {Q:α->Shared->Prop} {E':Value->Shared->Prop} {s:Shared},wpAny (model X'.prog X'.w) X'.A t Q X'.xe s->wpAny (model X.prog X.w) X.A t Q E' s:=fun{α t Q E' s} h=>by
   rw[eP,ew,eA,exe]at h
   exact wpAny_mono h (fun _ _ q=>q) fun _ _ z=>z.elim
  have I3':=pinD (o:={cls:= .type "list",data:= .seq (List.toArray its) k}) I3 eD nD (fun v z=>by
   have z':Data.seq (List.toArray its) k=Data.cell v:=z
   cases z')
  refine wpAny_bind (wpAny_standAt (wpAny_bind ?_))
  rcases turn i n acc σ3 H3 w3 with⟨stop,hz,fin⟩|⟨go,hz,Nn,hN,step⟩
  ·have q:=T.done X' eP ew eK ecalm i [(D,_)] s3 σ3 H3 (notedBy (model X.prog X.w) X.A X'.env fun e s'=>RR (.ref D) (D+1) (.error e) s') I3' (fpn fr3) st3 stop
   rw[eA]at q
   refine thn q fun r s4 ⟨hr,I4⟩=> ?_
   subst hr
   refine wpAny_pure ?_
   obtain⟨e4,_⟩:=I4.pin (D,_) (yaz _ yap)
   obtain⟨mC,hnC,_⟩:=I4.loc
   have u4:=I4.base
   rw[efs,eex,eH0,es0]at u4
   have ok4:=I4.hok
   rw[eP,ew]at ok4
   have nC:H3 (D+1)=none:=by have:=I4.free;rw[eloc]at this;exact this
   have hok:HOk X.prog X.w (upd H3 D (.lst acc)) s4.heap:=ok4.add nD ⟨hz,its,k,rv,e4⟩
   refine hRR D (D+1) s4 acc H3 mC ?_ nD (by rw[eloc]at hnC;exact hnC) ?_ fin
   ·refine I2.call' (s':=s4) (ch:=fp) ?_ (u4.add (by rw[hDD];exact yab _) nD) hok I4.bare fun b hb=> ?_
    ·have:=I4.os;rw[es0]at this;exact this
    ·obtain⟨f0,f1,f3,f4,f5,f6⟩:=f2 b hb
     exact⟨f4,f1,f5,f6⟩
   ·refine I2.fpOk (by rw[hDD];exact ycr _) ?_
    rw[zai (ycu (yba D))]
    exact nC
  ·have q:=T.item X' eP ew eK ecalm i [(D,_)] s3 σ3 H3 (notedBy (model X.prog X.w) X.A X'.env fun e s'=>RR (.ref D) (D+1) (.error e) s') I3' (fpn fr3) st3 go
   rw[eA]at q
   refine thn q fun r s4 ⟨u,hr,h4⟩=> ?_
   subst hr
   dsimp only
   refine wpAny_bind (thn h4 fun _ s5 ⟨x,H5,I5,r5,y5,st5,fr5⟩=> ?_)
   have I5':=I5.pinned (fpn fr5) (T.obj _ _ st5)
   have again:∀{σ7:St} {H7:Hp} {s7:Shared},Inv X' ([(D,{cls:= .type "list",data:= .seq (List.toArray its) k})]++pinsAt fp s5.heap) σ7 H7 s7->tn (i+1) s7.heap/\(∀b∈fp,H7 b=none)/\s7.heap.get? D=some {cls:= .type "list",data:= .seq (List.toArray its) k}/\H7 D=none:=fun{σ7 H7 s7} I7=>by
    refine⟨T.keep _ _ _ st5 fun b hb o e=>(I7.pin (b,o) (yaz _ (yaz _ (mem_pinsAt hb e)))).1,fun b hb=> ?_,?_⟩
    ·obtain⟨o,e,d⟩:=T.obj _ _ st5 b hb
     exact(I7.pin (b,o) (yaz _ (yaz _ (mem_pinsAt hb e)))).2.1
    ·have:=I7.pin (D,_) (yaz _ (yde _ yap))
     exact⟨this.1,this.2.1⟩
   refine wpAny_bind (thn (noE (hg' _ s5 σ3 H5 x u _ I5' r5 (step x H5 y5))) fun _ s6 ⟨σ6,H6,I6,q6⟩=> ?_)
   refine wpAny_bind (thn (noE (ht' _ s6 σ6 H6 _ I6 q6)) fun ok s7 ⟨H7,I7,q7⟩=> ?_)
   cases ok with
   |false=>
    rw[if_neg Bool.false_ne_true]at q7
    obtain⟨m',hm,w7⟩:=hN _ _ _ q7
    obtain⟨a1,a2,a3,a4⟩:=again I7
    exact wpAny_pure ⟨rfl,m',hm,i+1,acc,its,k,σ6,H7,I7.pins_of (fun p hp=>nomatch hp),a1,a2,a3,rv,a4,w7⟩
   |true=>
    rw[if_pos rfl]at q7
    refine wpAny_bind (wpAny_bind (thn (noE (he' _ s7 σ6 H7 _ I7 q7)) fun v s8 ⟨y,H8,I8,r8,q8⟩=> ?_))
    obtain⟨m',hm,w8⟩:=hN _ _ _ q8
    obtain⟨a1,a2,a3,a4⟩:=again I8
    have hl:=rv.length
    refine wpAny_bind (call_meets F.slot_list_append ⟨_,a3,rfl⟩ F.entry_list_append (F.args_list_append_2 _ _) (PySem.list_append D its.toArray k v (by rw[yah];omega)) ⟨a3,?_⟩)
    refine wpAny_pure (wpAny_pure ⟨rfl,m',hm,i+1,acc++[y],its++[v],?_⟩)
    have qD:=PySem.IsL.update a3 (fun a:Array Value=>a.push v)
    rw[List.push_toArray]at qD
    have kp:∀b o,b≠D->s8.heap.get? b=some o->(s8.heap.update D (Obj.mapSeq fun a=>a.push v)).get? b=some o:=fun b o hb e=>(yck s8.heap _ (Ne.symm hb)).trans e
    have I8':Inv X' [] σ6 H8 {s8 with heap:=s8.heap.update D (Obj.mapSeq fun a=>a.push v)}:=by
     refine(I8.pins_of (pins':=[]) (fun p hp=>nomatch hp)).turned (t':=s8.toks) (it:=D) kp a4 (by rw[eloc];exact yam (yba D)) (.inr (by rw[es0,hDD];exact yab _)) (fun x c e=>ecl x c e) (fun p hp=> ?_)
     rw[epn]at hp
     exact nomatch hp
    exact⟨_,σ6,H8,I8',T.keep _ _ _ a1 fun b hb o e=>kp b o (yam (hlt b hb)) e,a2,qD,rv.append (.cons r8 .nil),a4,w8⟩
 have eenv':({newEnv scope (D+1) X.env.globals (clC X scope (D+1)) X.env.qual none Value.none (some X.env) 0 with scope:=relabel scope X.env}:Env)=X'.env:=by rw[eenv];rfl
 have L:=loop _ rfl
 rw[<-eenv']at L
 exact codeAny_compStart_list L (T.self X.A 0 _ _ _ (T.keep _ _ _ st2 fun b _ o e=>old b o e) L)
end
section
variable{X:Cx}{tg iter elt:Expr}{ifs:List Expr}{scope:Scope}{pos:Pos}{own caps:List Str}{ix:List Nat}{wi:TI}{g:TG}{tc:TT}{te:TE}
theorem pe_compC(hc:X.calm=true)(hi:PI X tg iter wi)(ck:compOkC X.env.scope scope=true)(hkind:scope.kind= .function)(hcap:Caps X scope caps ix)(hg:∀s H cl C ex,PG (compCxC X scope (own++caps) s H cl C ex) tg g)(ht:∀s H cl C ex,PTs (compCxC X scope (own++caps) s H cl C ex) ifs tc)(he:∀s H cl C ex,PE (compCxC X scope (own++caps) s H cl C ex) elt te)(hs:∀x,foldedSetIterable iter X.env x=pure x:=by intro _;rfl):PE X (.ListComp elt [⟨tg,iter,ifs,0⟩] scope pos) (tComp wi own ix g tc te):=by
 intro pins s σ H Q I h
 rw[eval_ListComp]
 refine wpAny_comprehension_free (use:=none) rfl hs (closure_of fun x hx=>I.ok.has x ((compOkC.free ck hx).2)) hkind (compOkC.names ck) (thn (hi pins s σ H _ I h) fun xv s1 h1=>thn h1 fun itv s2 h2=> ?_)
 obtain⟨it,fp,tn,J,H2,e,I2,T,st2,f2,W,⟨m0,w0⟩,turn⟩:=h2
 subst e
 refine comp_coreC (RR:=fun acc C=>compPost (model X.prog X.w) X.A X.xe none (EP X pins σ Q) acc C) ck hkind hcap hc hg ht he I2 T st2 f2 w0 turn ?_
 intro D C s' acc Hf m I' nD hn fC fin
 refine⟨m,hn,fun h' sb=> ?_⟩
 obtain⟨f0,f1,f3,f4,f5,f6⟩:=fC
 exact⟨.ref D,_,I'.turned (t':=s'.toks) (it:=C) (fun b o hb e=>(sb.2 b hb).trans e) f0 f1 f4 f5 f6,rfl,fin D nD⟩
end
section
variable{prog:Program}{w:World}{A:Around}{E:Value->Shared->Prop}{s:Shared}
end
section
variable{X:Cx}{a:Expr}{ta:TA}{p p' pos pos':Pos}
end
end L2
namespace Srt
open PySem PySem.W PyProof.Rows PySem.Calls
section
variable{prog:Program}{w:World}{A:Around}{E:Value->Shared->Prop}{s:Shared}{O:KeyOrd}{key:Nat->O.α}{κ:SortKind}{vs:List Value}
end
end Srt
namespace L2
open PySem PySem.Spec PyProof.Rows
section
variable{X:Cx}
theorem vals_paired:∀{xs:List Int} {us:List Value},Vals (xs.map V.int) us->Paired (fun(i:Int) (v:Value)=>∃t,v= .int i t) xs us
 |[],_,h=>by cases h;exact .nil
 |_::_,_,h=>by
  cases h with
  |cons r t=>exact .cons r (vals_paired t)
theorem paired_vals:∀{xs:List Int} {us:List Value},Paired (fun(i:Int) (v:Value)=>∃t,v= .int i t) xs us->Vals (xs.map V.int) us
 |_,_,.nil=> .nil
 |_,_,.cons r t=> .cons r (paired_vals t)
theorem ints_at{xs:List Int}{us:List Value}(h:Paired (fun(i:Int) (v:Value)=>∃t,v= .int i t) xs us):∀i (hi:i<xs.length),∃t,us.getD i Value.none= .int xs[i] t:=by
 induction h with
 |nil=>intro i hi;simp at hi
 |cons r t ih=>
  intro i hi
  cases i with
  |zero=>exact r
  |succ i=>simpa using ih i (by simpa using hi)
end
section
variable{K:W.Frag}{σ:St}{H0:Hp}
end
end L2
namespace L2
open PySem PySem.W PySem.Spec PyProof.Rows
section
variable{X:Cx}
theorem call_sortedE:CallR X (.builtin "sorted") (fun xs H Q=>∃(a:Addr) (its:List (Addr×List Int)),xs=[.ref a]/\SqL X.K H a (its.map fun p=>V.ref p.1)/\(∀p∈its,SqT X.K H p.1 (p.2.map V.int)/\(2<=its.length->p.2≠[]))/\its.length<64/\
  ∀(l:Addr) (its':List (Addr×List Int)),H l=none->its'.Perm its->its'.Pairwise (fun p q=>HT.lexLt q.2 p.2=false)->Q (.ref l) (upd H l (.lst (its'.map fun p=>V.ref p.1)))):=by
 intro pins s σ H xs us Q I r h
 obtain⟨a,its,rfl,hS,hT,h64,q⟩:=h
 obtain⟨u,rfl,ru⟩:=r.one
 cases ru
 obtain⟨vs,rv,pl,hz⟩:=I.list hS
 have hlen:its.length=vs.length:=by have:=rv.length;simpa using this
 -- the values beside the tuples
 have pr:Paired (fun(p:Addr×List Int) (v:Value)=>v= .ref p.1) its vs:=by
  have go:∀(l:List (Addr×List Int)) (us:List Value),Vals (l.map fun p=>V.ref p.1) us->Paired (fun(p:Addr×List Int) (v:Value)=>v= .ref p.1) l us:=by
   intro l
   induction l with
   |nil=>intro us h;cases h;exact .nil
   |cons p l ih=>
    intro us h
    cases h with
    |cons r t=>exact .cons r (ih _ t)
  exact go its vs rv
 have tup:∀p∈its,∃(items:List Value),IntsAre items p.2/\IsTup s.heap p.1 items.toArray:=fun p hp=>by
  obtain⟨its',r',t',_⟩:=I.tuple (hT p hp).1
  exact⟨its',intsAre_of r',t'⟩
 refine Srt.sorted_own (O:=Srt.lexOrd) (key:=fun i=>(its.getD i (0,[])).2) (κ:=tuples' true) (s:=s) pl.isList (by omega) (fun h2 h' k E' Q' hq=> ?_) (fun h2 h' k=> ?_) (fun D h' out c ho hD k hc=> ?_)
 ·have kt:∀(l:List (Addr×List Int)) (us:List Value),Paired (fun(p:Addr×List Int) (v:Value)=>v= .ref p.1) l us->(∀p∈l,p∈its)->∃fs:List Value,KatTups h' us fs/\fs.length=us.length/\∀v∈fs,∃i t,v=Value.int i t:=by
   intro l us h
   induction h with
   |nil=>intro _;exact⟨[],trivial,rfl,fun _ hv=>nomatch hv⟩
   | @cons p v l us r t ih=>
    intro hs
    obtain⟨fs,k1,k2,k3⟩:=ih fun p hp=>hs p (yai _ hp)
    obtain⟨items,hi,o,e,hc,n,hd⟩:=tup p (hs p yap)
    have hne:=(hT p (hs p yap)).2 (by omega)
    obtain⟨pa,pn⟩:=p
    dsimp only at hi hne e r
    cases hi with
    |nil=>exact absurd rfl hne
    |cons i t hi'=>
     rw[r]
     refine⟨Value.int i t::fs,KatTups.cons (k _ _ e) hc hd (by simp) k1,by simp[k2],fun v hv=> ?_⟩
     rcases yaj.mp hv with e|e
     ·exact⟨i,t,e⟩
     ·exact k3 v e
  obtain⟨fs,k1,k2,k3⟩:=kt its vs pr fun _ hp=>hp
  refine kat_kind (s:={s with heap:=h'}) (T:= .type "int") k1 (by omega) (fun v hv=> ?_) (by rfl) hq
  obtain⟨i,t,rfl⟩:=k3 v hv
  exact fun A Q E s _ q=>wpAny_pure q
 ·intro i j C hi hj hC
  rw[<-hlen]at hi hj
  have get:∀i (hi:i<its.length),vs.getD i Value.none= .ref its[i].1:=by
   have go:∀(l:List (Addr×List Int)) (us:List Value),Paired (fun(p:Addr×List Int) (v:Value)=>v= .ref p.1) l us->∀i (hi:i<l.length),us.getD i Value.none= .ref l[i].1:=by
    intro l us h
    induction h with
    |nil=>intro i hi;simp at hi
    |cons r t ih=>
     intro i hi
     cases i with
     |zero=>exact r
     |succ i=>simpa using ih i (by simpa using hi)
   exact go its vs pr
  unfold kas_ask
  rw[get i hi,get j hj]
  obtain⟨xi,hxi,oi,ei,ci,ni,di⟩:=tup its[i] (yby _)
  obtain⟨xj,hxj,oj,ej,cj,nj,dj⟩:=tup its[j] (yby _)
  refine kat_lt (s:={s with heap:=h'}) (k _ _ ei) di (k _ _ ej) dj ?_
  refine Srt.lex_ints 0 hxi hxj ?_ ?_
  ·have:=hxi.length;have:=hxj.length
   simp only[yah]
   omega
  ·rw[HT.lexLt_iff]
   have e1:its.getD i (0,[])=its[i]:=by simp[hi]
   have e2:its.getD j (0,[])=its[j]:=by simp[hj]
   have hC':C (decide ((its.getD i (0,[])).2<(its.getD j (0,[])).2)) {s with heap:=h'}:=hC
   rw[e1,e2]at hC'
   exact hC'
 ·obtain⟨its',hp,hr,hw⟩:=Srt.outs_of (d:=((0,[]):Addr×List Int)) (f:=fun p=>p.2) pr (fun i hi=>by show(its.getD i (0,[])).2=_;simp[hi]) ho
  have hn:H D=none:=I.hok.fresh hD
  have rv':Vals (its'.map fun p=>V.ref p.1) out:=by
   have go:∀(l:List (Addr×List Int)) (us:List Value),Paired (fun(p:Addr×List Int) (v:Value)=>v= .ref p.1) l us->Vals (l.map fun p=>V.ref p.1) us:=by
    intro l us h
    induction h with
    |nil=>exact .nil
    |cons r t ih=>exact .cons r ih
   exact go its' out hr
  have zl:(its'.map fun p=>V.ref p.1).length<=sizeLine:=by
   have:=hp.length_eq
   rw[yaa]
   exact yan (small1000 (by omega))
  have J:Inv X pins σ (upd H D (.lst (its'.map fun p=>V.ref p.1))) {s with heap:=h',toks:=s.toks}:=I.laid k hD ⟨zl,out,c,rv',hc⟩
  refine⟨.ref D,_,J,rfl,q D its' hn hp (hw.imp fun{x y} hxy=> ?_)⟩
  rw[HT.lexLt_iff];exact hxy
theorem pt_truthK(K:W.Frag){a:Expr}{ta:TE}(ha:PE X a ta)(he:∀whole,isTrue a X.env whole=(do let v<-whole;standAt a.pos;holding [v] (truthy v)))(h:X.K=K:=by rfl):
  PT X a (fun σ H Q=>ta σ H fun x H'=>∃k,TruV K x H' k/\Q k H'):=by subst h;exact pt_truth ha he
end
end L2
namespace L2
open PySem PySem.Spec PyProof.Rows
section
variable{prog:Program}{w:World}{A:Around}{E:Value->Shared->Prop}{s:Shared}{l:Addr}{kid:String}{vs:List Value}{R:Result->Shared->Prop}{Q:Value->Shared->Prop}
end
section
variable{X:Cx}{a:Expr}{ta:TA}{p p2 kp pos:Pos}
end
section
variable{P:Program}{w:World}{K:W.Frag}{mg:Str->Option Value}{base:Heap}{N:List Str}{qual:Str}{scope:Scope}{f:Addr}{cd:Value}{A:Around}{outer:List Env}{s:Shared}{H:Hp}{E:XK}
end
section
variable{P:Program}{w:World}{K:W.Frag}{mg:Str->Option Value}{base:Heap}{N:List Str}{qual:Str}{scope:Scope}{f:Addr}{cd:Value}{A:Around}{outer:List Env}{s:Shared}{H:Hp}{E:XK}
end
end L2
namespace L2
open PySem PySem.Spec PySem.Calls PyProof.Rows PySem.W PySem.Builtin.Getset_descriptor
section
variable{prog:Program}{w:World}{A:Around}{E:Value->Shared->Prop}{s:Shared}{K:Frag}{x D:Addr}
end
end L2
namespace L2
open PySem PySem.Spec PyProof.Rows
section
variable{X:Cx}{pins:List (Addr×Obj)}{σ:St}{H H':Hp}{s s':Shared}{e C:Addr}{B:Heap}
end
section
variable{X:Cx}{k:Nat}{f D:Addr}{fd:FuncData}{ps:List Str}{sp:Sp}{fn x n:Str}{p cpos epos np hpos pos:Pos}{a:Expr}{as:List Expr}{t:TA}{ts:TS}{b₀:Stmt}{suite:List Stmt}{i:Nat}
end
section
variable{X:Cx}
end
mutual
noncomputable def litF:Nat->Expr->Option PyData
 |0,_=>none
 |n+1,e=>match e with
  | .Constant (.int i) _ _=>some (.int i)
  | .Constant (.bool b) _ _=>some (.bool b)
  | .Constant .none _ _=>some .none
  | .Constant (.str x) _ _=>some (.str x)
  | .UnaryOp .USub (.Constant (.int i) _ _) _=>some (.int (-i))
  | .Tuple es _ _=>(litsF n es).map .tuple
  | .List es _=>(litsF n es).map .list
  | .Dict [] [] _=>some (.dict [])
  |_=>none
noncomputable def litsF:Nat->List Expr->Option (List PyData)
 |0,_=>none
 |_+1,[]=>some []
 |n+1,e::es=>match litF n e,litsF n es with
  |some d,some ds=>some (d::ds)
  |_,_=>none
end
section
variable{X:Cx}
end
end L2
namespace L2
open PySem PySem.Spec PyProof.Rows
section
variable{κ:Type} [DecidableEq κ]
noncomputable def valV(kvs:List (κ×V))(k:κ):Option V:=(kvs.find? fun kv=>decide (kv.1=k)).map (·.2)
noncomputable def putK(kvs:List (κ×V))(k:κ)(v:V):List (κ×V):=
 if(kvs.any fun kv=>decide (kv.1=k))=true then kvs.map (fun kv=>if kv.1=k then(kv.1,v)else kv)else kvs++[(k,v)]
theorem zdb{p:κ×V}{r:List (κ×V)}{k:κ}(e:p.1=k):valV (p::r) k=some p.2:=by simp[valV,ydr,e]
theorem zdc{p:κ×V}{r:List (κ×V)}{k:κ}(e:¬p.1=k):valV (p::r) k=valV r k:=by simp[valV,ydr,e]
theorem valV_any(k:κ):∀kvs:List (κ×V),(kvs.any fun kv=>decide (kv.1=k))=(valV kvs k).isSome
 |[]=>rfl
 |p::r=>by
  rw[ydk]
  by_cases e:p.1=k
  ·simp only[zdb e,decide_eq_true e,Bool.true_or,Option.isSome_some]
  ·rw[zdc e,decide_eq_false e,Bool.false_or];exact valV_any k r
theorem valV_map(k j:κ)(y:V):∀kvs:List (κ×V),valV (kvs.map fun kv=>if kv.1=k then(kv.1,y)else kv) j=(valV kvs j).map fun x=>if j=k then y else x
 |[]=>rfl
 |p::r=>by
  have ih:=valV_map k j y r
  rw[ybz]
  by_cases h:p.1=k
  ·rw[if_pos h]
   by_cases e:p.1=j
   ·rw[zdb (p:=(p.1,y)) e,zdb e,Option.map_some,if_pos (e.symm.trans h)]
   ·rw[zdc (p:=(p.1,y)) e,zdc e,ih]
  ·rw[if_neg h]
   by_cases e:p.1=j
   ·rw[zdb (p:=p) e,zdb e,Option.map_some,if_neg (fun z=>h (e.trans z))]
   ·rw[zdc (p:=p) e,zdc e,ih]
theorem valV_snoc(k j:κ)(y:V):∀kvs:List (κ×V),valV kvs k=none->valV (kvs++[(k,y)]) j=if j=k then some y else valV kvs j
 |[],_=>by
  by_cases e:k=j
  ·rw[if_pos e.symm];exact zdb (p:=(k,y)) e
  ·rw[if_neg (fun z=>e z.symm)];exact zdc (p:=(k,y)) e
 |p::r,hn=>by
  rw[List.cons_append]
  have hk:¬p.1=k:=fun z=>by rw[zdb z]at hn;cases hn
  rw[zdc hk]at hn
  have ih:=valV_snoc k j y r hn
  by_cases e:p.1=j
  ·rw[zdb e,zdb e,if_neg (fun z=>hk (e.trans z))]
  ·rw[zdc e,zdc e,ih]
theorem valV_put(kvs:List (κ×V))(k j:κ)(y:V):valV (putK kvs k y) j=if j=k then some y else valV kvs j:=by
 unfold putK
 by_cases a:(kvs.any fun kv=>decide (kv.1=k))=true
 ·rw[if_pos a,valV_map]
  rw[valV_any]at a
  by_cases e:j=k
  ·obtain⟨x,hx⟩:=Option.isSome_iff_exists.mp a
   rw[if_pos e,e,hx,Option.map_some,if_pos rfl]
  ·rw[if_neg e]
   cases valV kvs j with
   |none=>rfl
   |some x=>rw[Option.map_some,if_neg e]
 ·rw[if_neg a]
  refine valV_snoc k j y kvs ?_
  rw[valV_any]at a
  cases q:valV kvs k with
  |none=>rfl
  |some x=>rw[q]at a;exact(a rfl).elim
theorem length_putK(kvs:List (κ×V))(k:κ)(v:V):(putK kvs k v).length<=kvs.length+1:=by
 unfold putK
 split
 ·rw[yaa];omega
 ·rw[yat,ybh,ydg];omega
theorem RelO.isSome_eq{o:Option V}{u:Option Value}(r:RelO o u):o.isSome=u.isSome:=by
 cases o with
 |none=>cases u with
  |none=>rfl
  |some _=>exact(show False from r).elim
 |some _=>cases u with
  |none=>exact(show False from r).elim
  |some _=>rfl
theorem KV.val{kvs:List (κ×V)}{vs:List (κ×Value)}(r:KV kvs vs)(k:κ):RelO (valV kvs k) (valueAt vs k):=by
 unfold KV at r
 induction r with
 |nil=>exact True.intro
 | @cons p q ps qs h t ih=>
  obtain⟨h1,h2⟩:=h
  by_cases e:p.1=k
  ·have e':q.1=k:=h1.symm.trans e
   have b:valueAt (q::qs) k=some q.2:=by simp[valueAt,ydr,e']
   rw[zdb e,b];exact h2
  ·have e':¬q.1=k:=fun z=>e (h1.trans z)
   have b:valueAt (q::qs) k=valueAt qs k:=by simp[valueAt,ydr,e']
   rw[zdc e,b];exact ih
theorem KV.any{kvs:List (κ×V)}{vs:List (κ×Value)}(r:KV kvs vs)(k:κ):(kvs.any fun kv=>decide (kv.1=k))=vs.any fun kv=>decide (kv.1=k):=by
 unfold KV at r
 induction r with
 |nil=>rfl
 |cons h t ih=>rw[ydk,ydk,ih,h.1]
theorem KV.repl{kvs:List (κ×V)}{vs:List (κ×Value)}(r:KV kvs vs)(k:κ){y:V}{u:Value}(ry:RelV y u):
  KV (kvs.map fun kv=>if kv.1=k then(kv.1,y)else kv) (vs.map fun kv=>if kv.1=k then(kv.1,u)else kv):=by
 unfold KV at r⊢
 induction r with
 |nil=>exact .nil
 | @cons p q ps qs h t ih=>
  rw[ybz,ybz]
  refine .cons ?_ ih
  obtain⟨h1,h2⟩:=h
  by_cases e:p.1=k
  ·rw[if_pos e,if_pos (h1.symm.trans e)];exact⟨h1,ry⟩
  ·rw[if_neg e,if_neg (fun z=>e (h1.trans z))];exact⟨h1,h2⟩
theorem KV.put{kvs:List (κ×V)}{vs:List (κ×Value)}(r:KV kvs vs)(k:κ){y:V}{u:Value}(ry:RelV y u):KV (putK kvs k y) (stored vs k u):=by
 unfold putK stored
 rw[r.any k]
 by_cases e:(vs.any fun kv=>decide (kv.1=k))=true
 ·rw[if_pos e,if_pos e];exact r.repl k ry
 ·rw[if_neg e,if_neg e];exact Paired.snoc r ⟨rfl,ry⟩
theorem KV.length{kvs:List (κ×V)}{vs:List (κ×Value)}(r:KV kvs vs):kvs.length=vs.length:=Paired.length r
end
theorem kV_is{P:Program}{w:World}{k:Key}{u:Value}(r:RelV (kV k) u):(mixKind P w).is k u=true:=by
 cases k with
 |inl i=>obtain⟨t,e⟩:=(show∃t,u=Value.int i t from r);subst e;exact mixKind_int P w i t
 |inr x=>obtain⟨t,e⟩:=(show∃t,u=Value.str x t from r);subst e;exact mixKind_str P w x t
theorem items_are{P:Program}{w:World}:∀{ks:List Key} {us:List Value},Vals (ks.map kV) us->ItemsAre (mixKind P w) ks us
 |[],_,r=>by rw[List.map_nil]at r;cases r;exact .nil
 |k::ks,_,r=>by
  rw[ybz]at r
  cases r with
  |cons h t=>exact .cons (kV_is h) (items_are t)
noncomputable abbrev KT(H:Hp):List (List Key×V)->List (List Key×Addr×Value)->Prop:=Paired fun p q=>p.1=q.1/\H q.2.1=some (.tup (p.1.map kV))/\RelV p.2 q.2.2
theorem KT.val{H:Hp}{kvs:List (List Key×V)}{xs:List (List Key×Addr×Value)}(r:KT H kvs xs)(k:List Key):RelO (valV kvs k) ((atKey xs k).map (·.2)):=by
 induction r with
 |nil=>exact True.intro
 | @cons p q ps qs h t ih=>
  obtain⟨h1,_,h2⟩:=h
  by_cases e:p.1=k
  ·have e':q.1=k:=h1.symm.trans e
   have b:atKey (q::qs) k=some q.2:=by simp[atKey,ydr,e']
   rw[zdb e,b];exact h2
  ·have e':¬q.1=k:=fun z=>e (h1.trans z)
   have b:atKey (q::qs) k=atKey qs k:=by simp[atKey,ydr,e']
   rw[zdc e,b];exact ih
theorem KT.repl{H:Hp}{kvs:List (List Key×V)}{xs:List (List Key×Addr×Value)}(r:KT H kvs xs)(k:List Key){y:V}{u:Value}(ry:RelV y u):
  KT H (kvs.map fun kv=>if kv.1=k then(kv.1,y)else kv) (xs.map (putAt k u)):=by
 induction r with
 |nil=>exact .nil
 | @cons p q ps qs h t ih=>
  rw[ybz,ybz]
  refine .cons ?_ ih
  obtain⟨h1,h2,h3⟩:=h
  unfold putAt
  by_cases e:p.1=k
  ·rw[if_pos e,if_pos (h1.symm.trans e)];exact⟨h1,h2,ry⟩
  ·rw[if_neg e,if_neg (fun z=>e (h1.trans z))];exact⟨h1,h2,h3⟩
theorem KT.put{H:Hp}{kvs:List (List Key×V)}{xs:List (List Key×Addr×Value)}(r:KT H kvs xs)(k:List Key){b:Addr}{y:V}{u:Value}(hb:H b=some (.tup (k.map kV)))(ry:RelV y u):
  KT H (putK kvs k y) (storedH xs k b u):=by
 have e:(kvs.any fun kv=>decide (kv.1=k))=(atKey xs k).isSome:=by
  rw[valV_any,(r.val k).isSome_eq,Option.isSome_map]
 unfold putK storedH
 rw[e]
 by_cases q:(atKey xs k).isSome=true
 ·rw[if_pos q,if_pos q];exact r.repl k ry
 ·rw[if_neg q,if_neg q];exact Paired.snoc r ⟨rfl,hb,ry⟩
theorem KT.keeps{H H':Hp}{kvs:List (List Key×V)}{xs:List (List Key×Addr×Value)}(r:KT H kvs xs)(ht:∀b ys,H b=some (.tup ys)->H' b=some (.tup ys)):KT H' kvs xs:=
 Paired.mapP r fun _ _ z=>⟨z.1,ht _ _ z.2.1,z.2.2⟩
section
variable{P:Program}{w:World}{H:Hp}{h:Heap}{a:Addr}
theorem rd_of{u:HO}(ok:HOk P w H h)(e:Rd H a u):ObjOk P w H h a u:=e.ok ok
theorem dk_rd{kvs:List (Key×V)}(ok:HOk P w H h)(e:Rd H a (.dK kvs)):kvs.length<=sizeLine/\(a==sysModules)=false/\∃vs,KV kvs vs/\h.DictOf (mixKind P w) a vs:=
 show ObjOk P w H h a (.dK kvs)from rd_of ok e
theorem dk_of{kvs:List (Key×V)}(ok:HOk P w H h)(e:H a=some (.dK kvs)):kvs.length<=sizeLine/\(a==sysModules)=false/\∃vs,KV kvs vs/\h.DictOf (mixKind P w) a vs:=dk_rd ok (.inl e)
theorem key_of{ks:List Key}(ok:HOk P w H h)(e:H a=some (.tup (ks.map kV))):(tupleKind (mixKind P w)).is h ks a:=by
 obtain⟨_,its,r,o,h1,h2,n,h3⟩:=(show ObjOk P w H h a (.tup (ks.map kV))from ok a _ e)
 exact⟨o,its.toArray,n,h1,h2,h3,by simpa using items_are r⟩
theorem dt_rd{kvs:List (List Key×V)}(ok:HOk P w H h)(e:Rd H a (.dT kvs)):kvs.length<=sizeLine/\(a==sysModules)=false/\
  ∃xs,KT H kvs xs/\h.DictOfH (tupleKind (mixKind P w)) a xs:=by
 obtain⟨z,y,xs,r,o,es,ep,h1,h2,h3,h4,h5⟩:=(show ObjOk P w H h a (.dT kvs)from rd_of ok e)
 refine⟨z,y,xs,r,o,es,ep,h1,h2,h3,h4,fun x hx=> ?_,h5⟩
 have all:∀{l:List (List Key×V)} {m:List (List Key×Addr×Value)},KT H l m->∀x∈m,(tupleKind (mixKind P w)).is h x.1 x.2.1:=by
  intro l m q
  induction q with
  |nil=>intro x hx;exact nomatch hx
  | @cons p q ps qs hq t ih=>
   intro x hx
   rcases yaj.mp hx with e|hx
   ·subst e
    exact key_of ok (by rw[<-hq.1];exact hq.2.1)
   ·exact ih x hx
 exact all r x hx
theorem dt_of{kvs:List (List Key×V)}(ok:HOk P w H h)(e:H a=some (.dT kvs)):kvs.length<=sizeLine/\(a==sysModules)=false/\
  ∃xs,KT H kvs xs/\h.DictOfH (tupleKind (mixKind P w)) a xs:=dt_rd ok (.inl e)
end
noncomputable def DGet(H:Hp)(a:Addr)(y:V)(r:Option V):Prop:=
 (∃kvs k,Rd H a (.dK kvs)/\y=kV k/\r=valV kvs k)\/∃kvs k b,Rd H a (.dT kvs)/\y= .ref b/\H b=some (.tup (k.map kV))/\r=valV kvs k
noncomputable def DPut(H:Hp)(a:Addr)(y v:V)(H':Hp):Prop:=
 (∃kvs k,H a=some (.dK kvs)/\y=kV k/\kvs.length<sizeLine/\H'=upd H a (.dK (putK kvs k v)))\/
 ∃kvs k b,H a=some (.dT kvs)/\y= .ref b/\H b=some (.tup (k.map kV))/\kvs.length<sizeLine/\H'=upd H a (.dT (putK kvs k v))
theorem DGet.t{H:Hp}{a b:Addr}{kvs:List (List Key×V)}{k:List Key}(e:H a=some (.dT kvs))(eb:H b=some (.tup (k.map kV))):DGet H a (.ref b) (valV kvs k):= .inr ⟨kvs,k,b,.inl e,rfl,eb,rfl⟩
theorem DPut.t{H:Hp}{a b:Addr}{kvs:List (List Key×V)}{k:List Key}{v:V}(e:H a=some (.dT kvs))(eb:H b=some (.tup (k.map kV)))(hl:kvs.length<sizeLine):
  DPut H a (.ref b) v (upd H a (.dT (putK kvs k v))):= .inr ⟨kvs,k,b,e,rfl,eb,hl,rfl⟩
section
variable{X:Cx}{pins:List (Addr×Obj)}{σ:St}{H:Hp}{s:Shared}{a:Addr}{y v:V}{u r:Value}{o:Option V}{A:Around}{E:Value->Shared->Prop}
theorem Inv.big(I:Inv X pins σ H s):sysModules<s.heap.objs.size:=by
 have h:mainGlobals<s.heap.objs.size:=(I.mod.glob.keeps I.bk).lt
 exact ycv (by decide) h
theorem d_getItem{Q:Value->Shared->Prop}(hu:A.units+1<cLine)(I:Inv X pins σ H s)(g:DGet H a y (some v))(ry:RelV y u)(h:∀w' s',Inv X pins σ H s'->RelV v w'->Q w' s'):
  wpAny (model X.prog X.w) A (getItem (.ref a) u) Q E s:=by
 rcases g with⟨kvs,k,e,ey,l⟩|⟨kvs,k,b,e,ey,eb,l⟩
 ·subst ey
  obtain⟨z,hd,vs,rel,dd⟩:=dk_rd I.hok e
  obtain⟨w',hw,rw'⟩:=RelO.some_of (v:=v) (o:=valueAt vs k) (by rw[l];exact rel.val k)
  exact wpAny_getItem_of (kV_is ry) dd.mapOf hw (h w' _ (I.tok _) rw')
 ·subst ey
  cases(show u=Value.ref b from ry)
  obtain⟨z,hd,xs,rel,dd⟩:=dt_rd I.hok e
  obtain⟨w',hw,rw'⟩:=RelO.some_of (v:=v) (o:=(atKey xs k).map (·.2)) (by rw[l];exact rel.val k)
  obtain⟨p,hp,hp2⟩:=Option.map_eq_some_iff.mp hw
  refine wpAny_getItem_heap (tupleKind_room_in1 hu) (key_of I.hok eb) dd hp ?_
  rw[hp2]
  exact h w' _ (I.tok _) rw'
theorem d_notIn{Q:Value->Shared->Prop}(hu:A.units+1<cLine)(I:Inv X pins σ H s)(g:DGet H a y o)(ry:RelV y u)(h:∀s',Inv X pins σ H s'->Q (.bool (!o.isSome)) s'):
  wpAny (model X.prog X.w) A (compareOp .NotIn u (.ref a)) Q E s:=by
 rcases g with⟨kvs,k,e,ey,l⟩|⟨kvs,k,b,e,ey,eb,l⟩
 ·subst ey
  obtain⟨z,hd,vs,rel,dd⟩:=dk_rd I.hok e
  refine wpAny_notIn_of (kV_is ry) hd dd.mapOf ?_
  rw[<-(rel.val k).isSome_eq,<-l]
  exact h _ (I.tok _)
 ·subst ey
  cases(show u=Value.ref b from ry)
  obtain⟨z,hd,xs,rel,dd⟩:=dt_rd I.hok e
  refine wpAny_notIn_heap (tupleKind_room_in1 hu) (key_of I.hok eb) hd dd ?_
  have q:=(rel.val k).isSome_eq
  rw[Option.isSome_map]at q
  rw[<-q,<-l]
  exact h _ (I.tok _)
theorem d_write{h':Heap}{t':Nat}{ob:HO}(I:Inv X pins σ H s)(mu:Mut (H a))(hs:Heap.SameBut a s.heap h')(he:∃q,h'.get? a=some q)(new:ObjOk X.prog X.w (upd H a ob) h' a ob):
  Inv X pins σ (upd H a ob) {s with heap:=h',toks:=t'}:=
 I.write (x:=a) (e:=a) mu (.inl rfl) (fun b q hb z=>(hs.2 b hb).trans z) he new
theorem dk_new{P:Program}{w:World}{H':Hp}{h':Heap}{kvs:List (Key×V)}{vs:List (Key×Value)}(z:kvs.length<=sizeLine)(hd:(a==sysModules)=false)(rel:KV kvs vs)(dd:h'.DictOf (mixKind P w) a vs):
  ObjOk P w H' h' a (.dK kvs):=⟨z,hd,vs,rel,dd⟩
theorem d_setItem{H':Hp}{Q:Unit->Shared->Prop}(hu:A.units+1<cLine)(I:Inv X pins σ H s)(g:DPut H a y v H')(ry:RelV y u)(rv:RelV v r)(h:∀s',Inv X pins σ H' s'->Q () s'):
  wpAny (model X.prog X.w) A (setItem (.ref a) u r) Q E s:=by
 rcases g with⟨kvs,k,e,ey,l,eH⟩|⟨kvs,k,b,e,ey,eb,l,eH⟩
 ·subst ey eH
  obtain⟨z,hd,vs,rel,dd⟩:=dk_of I.hok e
  have hz:vs.length<=sizeLine:=by rw[<-rel.length];exact z
  have hl:(putK kvs k v).length<=sizeLine:=by have:=length_putK kvs k v;omega
  refine wpAny_setItem_pairs (hsz:=hz) (kV_is ry) dd fun h' dd' hs=>h _ ?_
  have he:∃q,h'.get? a=some q:=let⟨q,_,_,hq,_⟩:=dd';⟨q,hq⟩
  exact d_write I (by rw[e];exact True.intro) hs he (dk_new hl hd (rel.put k rv) dd')
 ·subst ey eH
  cases(show u=Value.ref b from ry)
  obtain⟨z,hd,xs,rel,dd⟩:=dt_of I.hok e
  have hz:xs.length<=sizeLine:=by rw[<-Paired.length rel];exact z
  have hl:(putK kvs k v).length<=sizeLine:=by have:=length_putK kvs k v;omega
  refine wpAny_setItem_heap (hsz:=hz) (tupleKind_room_in1 hu) (key_of I.hok eb) dd fun h' dd' hs=>h _ ?_
  obtain⟨q,es,ep,hq,h2,h3,h4,_,h5⟩:=dd'
  refine d_write I (by rw[e];exact True.intro) hs ⟨q,hq⟩ ⟨hl,hd,_,(rel.put k eb rv).keeps fun c ys ec=> ?_,q,es,ep,hq,h2,h3,h4,h5⟩
  rw[zai (ne_of ec e (fun z=>nomatch z))]
  exact ec
end
section
variable{X:Cx}{pins:List (Addr×Obj)}{σ:St}{H:Hp}{s:Shared}{a:Addr}{kvs:List (Key×V)}{k:Key}{u:Value}{A:Around}{E:Value->Shared->Prop}
end
noncomputable def NoSl(i:Expr):Prop:=∀ov iv,subscripted i false ov iv=operate [ov,iv] (getItem ov iv)
theorem subD_of{prog:Program}{w:World}{A:Around}{E:Value->Shared->Prop}{s:Shared}{env:Env}{value slice:Expr}{pos:Pos}{T id:String}{Q:Value->Shared->Prop}(hl:typeLookup (.type T) "__getitem__"=pure (some (.builtin id)))(hs:NoSl slice)(h:wpAny (model prog w) A (eval value env) (fun o s₁=>wpAny (model prog w) A (eval slice env) (fun i s₂=>s₂.TypeIs o T/\wpAny (model prog w) A (getItem o i) Q E s₂) E s₁) E s):
  wpAny (model prog w) A (eval (.Subscript value slice pos) env) Q E s:=by
 refine Subscript_ (wpAny_mono h (fun o s₁ h₁=>wpAny_mono h₁ (fun i s₂ h₂=> ?_) fun _ _ x=>x) fun _ _ x=>x)
 obtain⟨hT,h₂⟩:=h₂
 unfold subscriptTail
 refine wpAny_bind ?_
 rw[getitemInPython_of_ne hT.not_modules]
 refine wpAny_bind (wpAny_specialOf hT hl ?_)
 have fin:wpAny (model prog w) A (subscripted slice false o i) (fun r s₃=>wpAny (model prog w) A (letTemporaryGo value o r>>=fun _=>pure r) Q E s₃) E s₂:=by
  rw[hs o i]
  exact wpAny_operating (wpAny_mono h₂ (fun r s₃ h₃=>wpAny_bind (wpAny_letTemporaryGo (wpAny_pure h₃))) fun _ _ x=>x)
 first
  |exact wpAny_pure (wpAny_bind fin)
  |exact wpAny_bind (wpAny_pure (wpAny_bind fin))
  |exact wpAny_bind fin
theorem dict_typeIs{X:Cx}{pins:List (Addr×Obj)}{σ:St}{H:Hp}{s:Shared}{a:Addr}{y:V}{o:Option V}(I:Inv X pins σ H s)(g:DGet H a y o):s.TypeIs (.ref a) "dict":=by
 rcases g with⟨kvs,k,e,_,_⟩|⟨kvs,k,b,e,_,_,_⟩
 ·obtain⟨_,_,vs,_,dd⟩:=dk_rd I.hok e
  exact dd.typeIs
 ·obtain⟨_,_,xs,_,dd⟩:=dt_rd I.hok e
  exact dd.typeIs
noncomputable def tDGet(td ty:TE):TE:=fun σ H Q=>td σ H fun x H1=>ty σ H1 fun y H2=>∃a v,x= .ref a/\DGet H2 a y (some v)/\Q v H2
noncomputable def sDPut(td ty tv:TE):TS:=fun D σ H=>tv σ H fun v H1=>td σ H1 fun x H2=>ty σ H2 fun y H3=>∃a H4,x= .ref a/\DPut H3 a y v H4/\D.nx σ H4
section
variable{X:Cx}{o i e value:Expr}{pos pos' tpos:Pos}{td ty tv:TE}
theorem pe_dget(hu:X.A.units+1<cLine)(ho:PE X o td)(hi:PE X i ty)(hs:NoSl i):PE X (.Subscript o i pos) (tDGet td ty):=by
 intro pins s σ H Q I h
 refine subD_of PySem.F.slot_dict_getitem.lookup hs (thn (ho pins s σ H _ I h) fun u s1 ⟨x,H1,I1,rx,q1⟩=>thn (hi pins s1 σ H1 _ I1 q1) fun iv s2 ⟨y,H2,I2,ry,a,v,ex,g,q2⟩=> ?_)
 subst ex
 obtain rfl:u=Value.ref a:=rx
 exact⟨dict_typeIs I2 g,d_getItem hu I2 g ry fun w' s3 I3 rw'=>⟨v,H2,I3,rw',q2⟩⟩
theorem ps_dput(hu:X.A.units+1<cLine)(ho:PE X o td)(hi:PE X i ty)(hv:PE X value tv)(hs:swapsWith value (some (.Subscript o i pos')) pos.line X.env=pure false):
  PS X (.Assign [.Subscript o i pos'] value pos) (sDPut td ty tv):=by
 intro pins s σ H D I h
 refine wpAny_Assign_Subscript (thn (hv pins s σ H _ I h) fun r s1 ⟨v,H1,I1,rv,q1⟩=>thn (ho pins s1 σ H1 _ I1 q1) fun u s2 ⟨x,H2,I2,rx,q2⟩=>thn (hi pins s2 σ H2 _ I2 q2) fun iv s3 ⟨y,H3,I3,ry,a,H4,ex,g,q3⟩=> ?_) hs
 subst ex
 obtain rfl:u=Value.ref a:=rx
 exact d_setItem hu I3 g ry rv fun s4 I4=>⟨σ,H4,I4,q3⟩
end
theorem dt_empty{P:Program}{w:World}{H:Hp}(h:Heap)(hb:sysModules<h.objs.size):ObjOk P w H (h.push {cls:= .type "dict",data:= .dict #[]}) h.objs.size (.dT []):=
 ⟨yas _,beq_eq_false_iff_ne.mpr (Ne.symm (yam hb)),[],.nil,_,#[],0,yal _ rfl,⟨rfl,rfl,rfl⟩,rfl,rfl,List.nodup_nil⟩
noncomputable def tDNewT:TE:=fun _ H Q=>∀p,H p=none->Q (.ref p) (upd H p (.dT []))
section
variable{X:Cx}{pos:Pos}
theorem pe_dnewT:PE X (.Dict [] [] pos) tDNewT:=fun pins s σ H Q I h=>
 wpAny_Dict_empty ⟨.ref s.heap.objs.size,_,I.laid (a:=s.heap.objs.size) (o:= .dT []) (t':=s.toks) (fun _ _ q=>yad _ q) (yab _) (dt_empty s.heap I.big),rfl,h _ (I.hok.fresh (yab _))⟩
end
end L2
namespace PySem
namespace F
end F
section
variable{prog:Program}{w:World}{A:Around}{E:Value->Shared->Prop}{s:Shared}
end
end PySem
namespace L2
open PySem PySem.Spec PyProof.Rows
section
variable{X:Cx}{tg:Expr}
end
section
variable{X:Cx}
theorem call_minL(hc:X.calm=true):CallR X (.builtin "min") (fun xs H Q=>∃(a:Addr) (ns:List Int),xs=[.ref a]/\SqL X.K H a (ns.map V.int)/\ns≠[]/\∀m∈ns,(∀n∈ns,m<=n)->Q (.int m) H):=by
 intro pins s σ H xs us Q I r h
 obtain⟨a,ns,rfl,hS,hne,q⟩:=h
 obtain⟨u,rfl,ru⟩:=r.one
 cases ru
 obtain⟨vs,rv,pl,hz⟩:=I.list hS
 have hl:=pl.isList
 have hlt:a<s.heap.objs.size:=by obtain⟨_,e,_⟩:=hl;exact yaq e
 have hlen:=rv.length
 rw[yaa]at hlen
 have hI:∀(i:Nat) (v:Value),vs.toArray[i]? =some v->∃t,v= .int (ns.getD i 0) t:=fun i v hv=>by
  have hv':vs[i]? =some v:=by simpa using hv
  have hi:i<ns.length:=by have:=(yao.mp hv').1;omega
  have hn:(ns.map V.int)[i]? =some (.int (ns.getD i 0)):=by rw[yae,yac hi,yag,yac hi];rfl
  obtain⟨u,hu,ru⟩:=rv.get hn
  rw[hv']at hu
  cases hu
  obtain⟨t,rfl⟩:=ru
  exact⟨t,rfl⟩
 refine call_min_walk (wpAny_pyIter_list hl ?_)
 refine⟨s.heap.objs.size,[s.heap.objs.size,a],[s.heap.objs.size],vs.toArray.size,_,_,_,rfl,Walks.list (A:=X.A.in1) (I.ok.hd hc) _ a (yam hlt) vs.toArray,
  ⟨⟨_,yal _ rfl,rfl,rfl⟩,hl.push _⟩,?_,?_,CmpOf.ints_lt (fun i=>ns.getD i 0) hI,fun v h' tk hP hk=> ?_⟩
 ·intro b hb
  show b<(s.heap.push _).objs.size
  rw[ybm]
  rcases yaj.mp hb with rfl|hb
  ·exact yba _
  ·rw[yar.mp hb];exact yaw hlt
 ·rw[yah,<-hlen];exact List.length_pos_iff.mpr hne
 ·obtain⟨t,rfl⟩:=hI _ v hP
  obtain⟨h1,h2⟩:=argBest_lt (fun i=>ns.getD i 0) (vs.toArray.size-1)
  have hn0:0<ns.length:=List.length_pos_iff.mpr hne
  have hb:argBest (fun i j=>decide (ns.getD i 0<ns.getD j 0)) (vs.toArray.size-1)<ns.length:=by
   have:vs.toArray.size=ns.length:=by rw[yah];omega
   omega
  refine⟨.int _,H,I.kept (LSm.kept_iter hk),⟨t,rfl⟩,q _ ?_ fun n hn=> ?_⟩
  ·rw[yag,yac hb];exact yby hb
  ·obtain⟨j,hj,rfl⟩:=ybw hn
   have:=h2 j (by rw[yah];omega)
   rw[yag (i:=j),yac hj]at this
   exact this
end
end L2
namespace PySem
section
variable{prog:Program}{w:World}{Ky:Type} [DecidableEq Ky]{knd:KeyKind prog w Ky}{A:Around}{E:Value->Shared->Prop}{s:Shared}
end
end PySem
namespace L2
open PySem PySem.Spec PyProof.Rows
section
variable{X:Cx}
end
end L2
namespace L2
open PySem
noncomputable def Rise(xs:Array Nat):Prop:=xs.toList.Pairwise (· < ·)
theorem Rise.at{xs:Array Nat}(h:Rise xs){i k:Nat}(hk:k<xs.size)(hik:i<k):xs.toList[i]'(by simp;omega)<xs.toList[k]'(by simpa using hk):=ybq.mp h i k _ _ hik
theorem getD_at{xs:Array Nat}{i d:Nat}(h:i<xs.size):xs.getD i d=xs.toList[i]'(by simpa using h):=by
 rw[Array.getElem_toList]
 simp[Array.getD,h]
theorem below_go{xs:Array Nat}(hx:Rise xs)(j:Nat):∀(fuel lo hi:Nat),lo<=hi->hi<=xs.size->hi-lo<=fuel->(∀i (h:i<xs.size),i<lo->xs.toList[i]'(by simpa using h)<j)->(∀i (h:i<xs.size),hi<=i->j<=xs.toList[i]'(by simpa using h))->
  SetTable.below.go xs j fuel lo hi<=xs.size/\(∀i (h:i<xs.size),i<SetTable.below.go xs j fuel lo hi->xs.toList[i]'(by simpa using h)<j)/\(∀i (h:i<xs.size),SetTable.below.go xs j fuel lo hi<=i->j<=xs.toList[i]'(by simpa using h))
 |0,lo,hi,h1,h2,h3,a,b=>by
  have e:lo=hi:=by omega
  subst e
  unfold SetTable.below.go
  exact⟨h2,a,b⟩
 |fuel+1,lo,hi,h1,h2,h3,a,b=>by
  unfold SetTable.below.go
  by_cases c:lo<hi
  ·rw[if_pos c]
   have hm:(lo+hi)/2<xs.size:=by omega
   dsimp only
   rw[getD_at hm]
   by_cases q:xs.toList[(lo+hi)/2]'(by simpa using hm)<j
   ·rw[if_pos q]
    refine below_go hx j fuel _ hi (by omega) h2 (by omega) (fun i hi' hlt=> ?_) b
    by_cases e:i=(lo+hi)/2
    ·subst e;exact q
    ·exact ycv (hx.at hm (by omega)) q
   ·rw[if_neg q]
    refine below_go hx j fuel lo _ (by omega) (by omega) (by omega) a (fun i hi' hle=> ?_)
    by_cases e:i=(lo+hi)/2
    ·subst e;omega
    ·have:=hx.at hi' (show(lo+hi)/2<i by omega)
     omega
  ·rw[if_neg c]
   have e:lo=hi:=by omega
   subst e
   exact⟨h2,a,b⟩
theorem below_ok{xs:Array Nat}(hx:Rise xs)(j:Nat):SetTable.below xs j<=xs.size/\(∀i (h:i<xs.size),i<SetTable.below xs j->xs.toList[i]'(by simpa using h)<j)/\(∀i (h:i<xs.size),SetTable.below xs j<=i->j<=xs.toList[i]'(by simpa using h)):=
 below_go hx j xs.size 0 xs.size (yas _) (yab _) (yab _) (fun i _ h=>absurd h (ycx _)) (fun i h h'=>absurd h (Nat.not_lt.mpr h'))
theorem insert_list{α:Type}(xs:Array α)(p:Nat)(x:α):(SetTable.insertAt xs p x).toList=xs.toList.take p++x::xs.toList.drop p:=by
 unfold SetTable.insertAt
 simp
 exact List.take_of_length_le (by simp)
theorem insert_rise{xs:Array Nat}(hx:Rise xs){j:Nat}(hn:xs[SetTable.below xs j]? ≠some j):Rise (SetTable.insertAt xs (SetTable.below xs j) j):=by
 obtain⟨b1,b2,b3⟩:=below_ok hx j
 unfold Rise
 rw[insert_list,yct]
 have lt1:∀a∈xs.toList.take (SetTable.below xs j),a<j:=fun a ha=>by
  obtain⟨i,hi,e⟩:=List.mem_take_iff_getElem.mp ha
  rw[<-e]
  exact b2 i (by simp at hi;omega) (by omega)
 have lt2:∀a∈xs.toList.drop (SetTable.below xs j),j<a:=fun a ha=>by
  obtain⟨i,hi,e⟩:=List.mem_drop_iff_getElem.mp ha
  have hs0:i+SetTable.below xs j<xs.size:=by simpa using hi
  have hs:SetTable.below xs j+i<xs.size:=by omega
  have z:=b3 (SetTable.below xs j+i) hs (Nat.le_add_right _ _)
  have e':xs.toList[SetTable.below xs j+i]'(by simpa using hs)=a:=by rw[<-e]
  rw[e']at z
  by_cases c:i=0
  ·subst c
   refine ycg z fun ej=>hn ?_
   rw[<-yco,yac (by simpa using hs)]
   exact congrArg some (e'.trans ej.symm)
  ·have hs0:SetTable.below xs j<xs.size:=by omega
   have z0:=b3 (SetTable.below xs j) hs0 (yab _)
   have:=hx.at hs (show SetTable.below xs j<SetTable.below xs j+i by omega)
   rw[e']at this
   omega
 refine⟨hx.sublist (List.take_sublist _ _),yea.mpr ⟨lt2,hx.sublist (List.drop_sublist _ _)⟩,fun a ha b hb=> ?_⟩
 rcases yaj.mp hb with e|e
 ·rw[e];exact lt1 a ha
 ·exact ycv (lt1 a ha) (lt2 b e)
structure TabOk(b:Bool)(t:SetTable):Prop where
 rise:Rise t.place
 nod:t.dummies=#[]
 led:t.led=b
theorem has_none(j:Nat):SetTable.has #[] j=false:=by
 unfold SetTable.has
 simp
theorem slot_empty{t:SetTable}{j:Nat}(h:t.slot j= .empty):t.place[SetTable.below t.place j]? ≠some j:=fun e=>by
 unfold SetTable.slot at h
 dsimp only at h
 rw[e]at h
 simp at h
theorem probe_go{t:SetTable}(ht:t.dummies=#[])(ha:Nat->Int)(h:Int):∀(fuel:Nat) (p:SetTable.Probe) (j:Nat) (d:Option Nat),p.dummy=none->SetTable.probe.go t ha h fuel p=some (.empty j d)->d=none/\t.slot j= .empty
 |0,p,j,d,_,e=>by unfold SetTable.probe.go at e;cases e
 |fuel+1,p,j,d,hp,e=>by
  unfold SetTable.probe.go at e
  have adv:(t.advance p).dummy=none:=by
   unfold SetTable.advance
   split
   ·exact hp
   ·exact hp
  cases z:t.slot p.j with
  |empty=>
   rw[z]at e
   cases e
   exact⟨hp,z⟩
  |dummy=>
   exfalso
   unfold SetTable.slot at z
   dsimp only at z
   rw[ht,has_none]at z
   split at z
   ·cases z
   ·simp at z
  |live i=>
   rw[z]at e
   dsimp only at e
   split at e
   ·cases e
   ·exact probe_go ht ha h fuel _ j d adv e
theorem range_rise(n:Nat):Rise (Array.range n):=by
 unfold Rise
 rw[Array.toList_range]
 exact ydb
theorem standIn_ok{b:Bool}{t:SetTable}(h:TabOk b t)(n:Nat):TabOk b (t.standIn n):=⟨range_rise n,rfl,h.led⟩
theorem lay_ok{b:Bool}{t:SetTable}(h:TabOk b t)(es:Array (Int×Value))(hh:Int)(x:Value):TabOk b (layNew t es hh x).2.1:=by
 unfold layNew
 cases z:t.freeSlot hh with
 |none=>exact standIn_ok h _
 |some q=>
  obtain⟨slot,was⟩:=q
  have emp:t.slot slot= .empty:=by
   unfold SetTable.freeSlot SetTable.probe at z
   cases y:SetTable.probe.go t (fun _=>hh+1) hh (10*SetTable.turns t.mask) (t.probeStart hh)with
   |none=>rw[y]at z;cases z
   |some m=>
    rw[y]at z
    cases m with
    |candidate _ _ _=>cases z
    |empty j d=>
     obtain⟨rfl,e⟩:=probe_go h.nod _ _ _ _ _ _ rfl y
     cases z
     exact e
  have put_ok:TabOk b (t.put slot).1:=by
   refine⟨insert_rise h.rise (slot_empty emp),?_,h.led⟩
   show(if SetTable.has t.dummies slot then _ else t.dummies)=#[]
   rw[h.nod,has_none]
   rfl
  dsimp only
  unfold SetTable.orStandIn
  split
  ·exact put_ok
  ·exact standIn_ok put_ok _
theorem laid_ok{mask finger moves:Nat}{b plain:Bool}{hs:Array Int}{t':SetTable}{order:Array Nat}(e:SetTable.laid mask finger moves b plain hs=some (t',order)):TabOk b t':=by
 unfold SetTable.laid at e
 cases z:SetTable.layClean mask hs with
 |none=>rw[z]at e;cases e
 |some owner=>
  rw[z]at e
  cases e
  refine⟨?_,rfl,rfl⟩
  unfold Rise
  show(((List.range (mask+1)).filterMap fun j=>(owner.getD j none).map (j, ·)).map (·.1)).Pairwise (· < ·)
  rw[List.map_filterMap]
  refine List.Pairwise.filterMap _ (R:=(· < ·)) (fun a a' haa' c hc c' hc'=> ?_) ydb
  cases y:owner.getD a none with
  |none=>simp[y]at hc
  |some k=>
   cases y':owner.getD a' none with
   |none=>simp[y']at hc'
   |some k'=>
    simp[y]at hc
    simp[y']at hc'
    omega
theorem relay_ok{b:Bool}{t:SetTable}(h:TabOk b t)(es:Array (Int×Value))(wanted:Nat):TabOk b (relayAll t es wanted).2.1:=by
 unfold relayAll
 cases z:t.relaid (es.map (·.1)) wanted with
 |none=>exact standIn_ok h _
 |some q=>
  obtain⟨t',order⟩:=q
  dsimp only
  split
  ·unfold SetTable.relaid at z
   have:=laid_ok z
   rw[h.led]at this
   exact this
  ·exact standIn_ok h _
theorem fresh_ok(b:Bool):TabOk b (.fresh 0 0 b):=⟨.nil,rfl,rfl⟩
theorem unplain_ok{b:Bool}{t:SetTable}(h:TabOk b t):TabOk b {t with plain:=false}:=⟨h.rise,h.nod,h.led⟩
end L2
namespace PySem
namespace F
theorem slot_sit_next:Slot "set_iterator" "__next__" "set_iterator.__next__":=
 .of (owner:="set_iterator") (n:="__next__") (by rw[typeLookup_type,builtinLookup_eq_fast];kernel_rfl) (by decide+kernel) (by decide+kernel) (by decide+kernel)
  (by first |exact .inl (by decide+kernel)|exact .inr (by decide+kernel)) (by rw[isSubtype_type];kernel_rfl)
theorem slot_sit_iter:Slot "set_iterator" "__iter__" "set_iterator.__iter__":=
 .of (owner:="set_iterator") (n:="__iter__") (by rw[typeLookup_type,builtinLookup_eq_fast];kernel_rfl) (by decide+kernel) (by decide+kernel) (by decide+kernel)
  (by first |exact .inl (by decide+kernel)|exact .inr (by decide+kernel)) (by rw[isSubtype_type];kernel_rfl)
theorem entry_sit_next:entryFor table "set_iterator.__next__"=some Builtin.«set_iterator.__next__»:=entryFor_of_tree (by kernel_rfl)
theorem entry_sit_iter:entryFor table "set_iterator.__iter__"=some Builtin.«dict_keyiterator.__iter__»:=
 entryFor_alias (id':="dict_keyiterator.__iter__") (by kernel_rfl) rfl (by decide+kernel) (by kernel_rfl)
theorem entry_set_iter':entryFor table "set.__iter__"=some Builtin.«frozenset.__iter__»:=
 entryFor_alias (id':="frozenset.__iter__") (by kernel_rfl) rfl (by decide+kernel) (by kernel_rfl)
theorem args_sit_next(a:Value):argsOk "set_iterator.__next__" ⟨[a],[]⟩:=by
 unfold argsOk;kernel_rfl
theorem args_sit_iter(a:Value):argsOk "set_iterator.__iter__" ⟨[a],[]⟩:=by
 unfold argsOk;kernel_rfl
end F
end PySem
namespace PySem
open L2 (TabOk Rise)
theorem erase_perm{α:Type}:∀(l:List α) (i:Nat) (x:α),l[i]? =some x->(x::l.eraseIdx i).Perm l
 |[],i,x,h=>by cases i<;>cases h
 |y::l,0,x,h=>by cases h;exact .refl _
 |y::l,i+1,x,h=>(List.Perm.swap y x _).trans ((erase_perm l i x h).cons y)
theorem pick_go{α:Type}(next:Nat->Nat):∀(fuel k:Nat) (left:List α) (out:Array α),left.length=fuel->(pickOrder.go next fuel k left out).toList.Perm (out.toList++left)
 |0,k,left,out,h=>by
  rw[List.eq_nil_of_length_eq_zero h]
  unfold pickOrder.go
  rw[ybo]
 |fuel+1,k,left,out,h=>by
  unfold pickOrder.go
  have lt:next k %left.length<left.length:=Nat.mod_lt _ (by omega)
  rw[yac lt]
  dsimp only
  refine(pick_go next fuel (k+1) _ _ (by rw[List.length_eraseIdx,if_pos lt];omega)).trans ?_
  rw[Array.toList_push,List.append_assoc]
  exact List.Perm.append_left _ (erase_perm left _ _ (yac lt))
theorem pick_perm{α:Type}(next:Nat->Nat)(xs:Array α):(pickOrder next xs).toList.Perm xs.toList:=by
 unfold pickOrder
 have:=pick_go next xs.size 0 xs.toList #[] (by simp)
 simpa using this
section
variable{prog:Program}{w:World}{A:Around}{E:Value->Shared->Prop}{s:Shared}
theorem wpAny_choose{src:Source}{n:Nat}{Q:Nat->Shared->Prop}(hn:n≠0)(h:∀i d,i<n->Q i {s with drawn:=d}):wpAny (model prog w) A (choose src n) Q E s:=fun Γ p _=>by
 unfold choose
 rw[Sem.wp_choose]
 refine⟨hn,?_⟩
 rw[Sem.wp_pure]
 exact h _ _ (Nat.mod_lt _ (Nat.pos_of_ne_zero hn))
theorem wpAny_drawOrder{α:Type}:∀(n:Nat) (xs:List α) {s:Shared} {Q:List α->Shared->Prop},xs.length=n->(∀ys d,ys.Perm xs->Q ys {s with drawn:=d})->wpAny (model prog w) A (drawOrder n xs) Q E s
 |0,xs,s,Q,h,q=>by
  have:=q [] s.drawn (by rw[List.eq_nil_of_length_eq_zero h])
  unfold drawOrder
  exact wpAny_pure this
 |n+1,[],s,Q,h,q=>by cases h
 |n+1,x::xs,s,Q,h,q=>by
  unfold drawOrder
  refine wpAny_bind (wpAny_choose (by simp) fun i d hi=> ?_)
  rw[yac hi]
  dsimp only
  refine wpAny_bind (wpAny_drawOrder n ((x::xs).eraseIdx i) (by rw[List.length_eraseIdx,if_pos hi];omega) fun ys d' hp=>wpAny_pure ?_)
  exact q _ d' ((hp.cons _).trans (erase_perm _ i _ (yac hi)))
structure SetAt(w:World)(h:Heap)(d:Addr)(es:Array (Int×Value))(ep:Nat)(t:SetTable):Prop where
 ob:∃o,h.get? d=some o/\o.ExactSet/\o.data= .set es ep t
 fits:t.fits es.size=true
 tab:TabOk (!w.params.followText "set-order") t
theorem SetAt.at{h h':Heap}{d:Addr}{es:Array (Int×Value)}{ep:Nat}{t:SetTable}(S:SetAt w h d es ep t)(e:∀o,h.get? d=some o->h'.get? d=some o):SetAt w h' d es ep t:=
 let⟨o,ho,r⟩:=S.ob;⟨⟨o,e _ ho,r⟩,S.fits,S.tab⟩
theorem SetAt.typeIs{d:Addr}{es:Array (Int×Value)}{ep:Nat}{t:SetTable}(S:SetAt w s.heap d es ep t):s.TypeIs (.ref d) "set":=let⟨o,ho,hx,_⟩:=S.ob;⟨o,ho,hx.1⟩
theorem SetAt.state{d:Addr}{es:Array (Int×Value)}{ep:Nat}{t:SetTable}{Q:(Array (Int×Value)×Nat×SetTable)->Shared->Prop}(S:SetAt w s.heap d es ep t)(q:Q (es,ep,t) s):wpAny (model prog w) A (setState d) Q E s:=let⟨o,ho,hx,hd⟩:=S.ob;wpAny_setState_of ho hd S.fits q
theorem wpAny_byText{Q:Bool->Shared->Prop}(q:Q (w.params.followText "set-order") s):wpAny (model prog w) A setsByText Q E s:=by
 unfold setsByText
 exact wpAny_bind (wpAny_askSetting (wpAny_pure q))
noncomputable def fromSlot(t:SetTable)(i:Nat):Nat:=if i=0 then 0 else t.place.getD (i-1) 0+1
theorem below_fromSlot{b:Bool}{t:SetTable}(ht:TabOk b t){i:Nat}(hi:i<=t.place.size):SetTable.below t.place (fromSlot t i)=i:=by
 obtain⟨b1,b2,b3⟩:=L2.below_ok ht.rise (fromSlot t i)
 have lo:i<=SetTable.below t.place (fromSlot t i):=by
  refine Nat.le_of_not_lt fun c=> ?_
  have hs:i-1<t.place.size:=by omega
  have z:=b3 (i-1) hs (by omega)
  have e:fromSlot t i=t.place.toList[i-1]'(by simpa using hs)+1:=by
   unfold fromSlot
   rw[if_neg (by omega),L2.getD_at hs]
  omega
 have hi':SetTable.below t.place (fromSlot t i)<=i:=by
  refine Nat.le_of_not_lt fun c=> ?_
  have hs:i<t.place.size:=by omega
  have z:=b2 i hs c
  by_cases c0:i=0
  ·subst c0
   unfold fromSlot at z
   rw[if_pos rfl]at z
   omega
  ·have e:fromSlot t i=t.place.toList[i-1]'(by simp;omega)+1:=by
    unfold fromSlot
    rw[if_neg c0,L2.getD_at (by omega)]
   have:=ht.rise.at hs (show i-1<i by omega)
   omega
 omega
theorem next_slot{d:Addr}{es:Array (Int×Value)}{ep:Nat}{t:SetTable}{i:Nat}{Q:Option (Value×Nat)->Shared->Prop}(S:SetAt w s.heap d es ep t)(hb:w.params.followText "set-order"=false)(hd:(!t.plain&&decide (es.size>1))=false)(hi:i<=es.size)(q:Q ((es[i]?).map fun e=>(e.2,fromSlot t (i+1))) s):wpAny (model prog w) A (setNext d (fromSlot t i) i ep) Q E s:=by
 have ps:t.place.size=es.size:=by have:=S.fits;unfold SetTable.fits at this;simp at this;exact this.1
 have led:t.led=true:=by rw[S.tab.led,hb];rfl
 unfold setNext
 refine wpAny_bind (S.state (wpAny_bind (wpAny_byText ?_)))
 rw[hb]
 dsimp only
 refine wpAny_ite_split (fun hab=>absurd hab (by decide)) fun _=> ?_
 refine wpAny_ite_split (fun hab=> ?_) fun _=> ?_
 ·have hab:(!t.plain&&decide (es.size>1))=true:=hab
  rw[hd]at hab;cases hab
 refine wpAny_bind ?_
 show wpAny _ _ (if(!t.led&& !es.isEmpty)=true then _ else _) _ _ _
 rw[led]
 refine wpAny_ite_split (fun hab=>absurd hab (by simp)) fun _=> ?_
 refine wpAny_pure ?_
 refine wpAny_pure ?_
 rw[below_fromSlot S.tab (by omega)]
 by_cases c:i<es.size
 ·rw[ybr c]at q⊢
  rw[ybr (by omega:i<t.place.size)]
  have e:fromSlot t (i+1)=t.place[i]+1:=by
   unfold fromSlot
   rw[if_neg (by omega),Nat.add_sub_cancel]
   simp[Array.getD,(by omega:i<t.place.size)]
  rw[e]at q
  exact q
 ·rw[Array.getElem?_eq_none (by omega)]at q⊢
  exact q
theorem next_text{d:Addr}{es:Array (Int×Value)}{ep:Nat}{t:SetTable}{i slot:Nat}{Q:Option (Value×Nat)->Shared->Prop}(S:SetAt w s.heap d es ep t)(hb:w.params.followText "set-order"=true)(q:Q (((pickOrder (w.params.setOrder d ep) es)[i]?).map fun e=>(e.2,slot)) s):wpAny (model prog w) A (setNext d slot i ep) Q E s:=by
 unfold setNext
 refine wpAny_bind (S.state (wpAny_bind (wpAny_byText ?_)))
 rw[hb]
 dsimp only
 refine wpAny_ite_split (fun _=> ?_) fun hab=>absurd rfl hab
 refine wpAny_ite_split (fun hab=> ?_) fun _=> ?_
 ·simp at hab
 refine wpAny_bind ?_
 unfold setWalk
 refine wpAny_bind (S.state (wpAny_bind (wpAny_byText ?_)))
 rw[hb]
 refine wpAny_ite_split (fun _=> ?_) fun hab=>absurd rfl hab
 refine wpAny_bind (wpAny_askSetting ?_)
 exact wpAny_pure (wpAny_pure q)
noncomputable def IsSetIter(h:Heap)(I d:Addr)(first:Value)(i n ep:Nat):Prop:=∃o,h.get? I=some o/\o.cls= .type "set_iterator"/\o.data= .fields #[first,.int i 0,.ref d,.int n 0,.int ep 0]
theorem IsSetIter.at{h h':Heap}{I d:Addr}{first:Value}{i n ep:Nat}(x:IsSetIter h I d first i n ep)(e:∀o,h.get? I=some o->h'.get? I=some o):IsSetIter h' I d first i n ep:=let⟨o,ho,r⟩:=x;⟨o,e _ ho,r⟩
theorem IsSetIter.typeIs{I d:Addr}{first:Value}{i n ep:Nat}(x:IsSetIter s.heap I d first i n ep):s.TypeIs (.ref I) "set_iterator":=let⟨o,ho,hc,_⟩:=x;⟨o,ho,hc⟩
theorem setiter_self{I d:Addr}{first:Value}{i n ep:Nat}{Q:Value->Shared->Prop}(hit:IsSetIter s.heap I d first i n ep)(h:Q (.ref I) s):wpAny (model prog w) A (pyIter (.ref I)) Q E s:=by
 refine wpAny_pyIter_slot hit.typeIs F.slot_sit_iter (wpAny_call_entry F.slot_sit_iter hit.typeIs F.entry_sit_iter ?_ (F.args_sit_iter _))
 show wpAny _ _ (ret (.ref I)) _ _ s
 exact wpAny_pure ⟨_,rfl,"set_iterator",_,hit.typeIs,F.slot_sit_next.lookup,h⟩
theorem SetAt.entries{d:Addr}{es:Array (Int×Value)}{ep:Nat}{t:SetTable}{Q:Array (Int×Value)->Shared->Prop}(S:SetAt w s.heap d es ep t)(q:Q es s):wpAny (model prog w) A (setEntries d) Q E s:=by
 unfold setEntries
 exact wpAny_bind (S.state (wpAny_pure q))
theorem setiter_item{I d:Addr}{es:Array (Int×Value)}{ep:Nat}{t:SetTable}{i sl sl':Nat}{x:Value}{Q:Option Value->Shared->Prop}(hit:IsSetIter s.heap I d (.int sl 0) i es.size ep)(S:SetAt w s.heap d es ep t)(hne:d≠I)(hnext:∀(Q':Option (Value×Nat)->Shared->Prop) (E':Value->Shared->Prop),Q' (some (x,sl')) s->wpAny (model prog w) A.in1 (setNext d sl i ep) Q' E' s)(hQ:∀h',IsSetIter h' I d (.int sl' 0) (i+1) es.size ep->Heap.SameBut I s.heap h'->Q (some x) {s with heap:=h'}):wpAny (model prog w) A (pyNext (.ref I)) Q E s:=by
 obtain⟨o,ho,hc,hd⟩:=id hit
 unfold pyNext
 refine wpAny_bind (wpAny_attempt (wpAny_callSpecial?_slot (name:=Str.ofString "__next__") hit.typeIs F.slot_sit_next (wpAny_call_entry F.slot_sit_next hit.typeIs F.entry_sit_next ?_ (F.args_sit_next _))))
 unfold Builtin.«set_iterator.__next__»
 refine wpAny_bind (wpAny_pure ?_)
 refine wpAny_bind (wpAny_fieldsOf ho hd ?_)
 refine wpAny_bind (S.entries ?_)
 refine wpAny_ite_split (fun hab=>absurd hab (by simp)) fun _=> ?_
 refine wpAny_bind ?_
 rw[ybg,ybg,ybg]
 refine hnext _ _ ?_
 refine wpAny_bind (wpAny_setField ho hd (by simp) ?_)
 have ho1:=ycb (Obj.mapFields (·.setIfInBounds 0 (rawInt (sl':Int)))) ho (Obj.isFreed_of_fields (Obj.data_mapFields hd _))
 have hd1:=Obj.data_mapFields hd (·.setIfInBounds 0 (rawInt (sl':Int)))
 refine wpAny_bind (wpAny_setField ho1 hd1 (by simp) ?_)
 refine wpAny_pure ⟨_,rfl,wpAny_pure (hQ _ ⟨_,ycb _ ho1 (Obj.isFreed_of_fields (Obj.data_mapFields hd1 _)),(Obj.cls_mapFields ..).trans ((Obj.cls_mapFields ..).trans hc),by rw[Obj.data_mapFields hd1];simp[rawInt]⟩ ((Heap.SameBut.update ..).trans (Heap.SameBut.update ..)))⟩
theorem setiter_end{I d:Addr}{es:Array (Int×Value)}{ep:Nat}{t:SetTable}{i sl:Nat}{Q:Option Value->Shared->Prop}(hh:A.handled=none)(hit:IsSetIter s.heap I d (.int sl 0) i es.size ep)(S:SetAt w s.heap d es ep t)(hne:d≠I)(hnext:∀(Q':Option (Value×Nat)->Shared->Prop) (E':Value->Shared->Prop),Q' none s->wpAny (model prog w) A.in1 (setNext d sl i ep) Q' E' s)(hQ:∀h',Heap.ExtBut I s.heap h'->Q none {s with heap:=h'}):wpAny (model prog w) A (pyNext (.ref I)) Q E s:=by
 obtain⟨o,ho,hc,hd⟩:=id hit
 unfold pyNext
 refine wpAny_bind (wpAny_attempt (wpAny_callSpecial?_slot (name:=Str.ofString "__next__") hit.typeIs F.slot_sit_next (wpAny_call_entry F.slot_sit_next hit.typeIs F.entry_sit_next ?_ (F.args_sit_next _))))
 unfold Builtin.«set_iterator.__next__»
 refine wpAny_bind (wpAny_pure ?_)
 refine wpAny_bind (wpAny_fieldsOf ho hd ?_)
 refine wpAny_bind (S.entries ?_)
 refine wpAny_ite_split (fun hab=>absurd hab (by simp)) fun _=> ?_
 refine wpAny_bind ?_
 rw[ybg,ybg,ybg]
 refine hnext _ _ ?_
 refine wpAny_bind (wpAny_setField ho hd (by simp) ?_)
 show wpAny _ _ (newExc (.type "StopIteration") []>>=_) _ _ _
 refine wpAny_bind ?_
 simp only[newExc,newTuple]
 refine wpAny_bind (wpAny_newObj_type ?_ (by size_fits))
 refine wpAny_bind (m:=firstArgMember _ _) (wpAny_of_eq (a:=Value.none) (by first |rfl|(simp only[firstArgMember];rfl)) ?_)
 refine wpAny_newObj_type ?_ (by size_fits)
 simp only[raiseNew]
 refine wpAny_bind (wpAny_handled ?_)
 rw[show A.in1.handled=none from hh]
 refine wpAny_bind (wpAny_pure (wpAny_throw ?_))
 refine wpAny_bind (wpAny_isInstance (T:="StopIteration") (b:=true) ⟨_,yal _ rfl,rfl⟩ isSubtype_stop ?_)
 exact wpAny_pure (hQ _ (((Heap.SameBut.update ..).extBut.push _).push _))
theorem Walks.setInt(hh:A.handled=none)(I d:Addr)(hne:d≠I)(es:Array (Int×Value))(ep:Nat)(t:SetTable)(L:List Value)(hL:L.length=es.size)(slot:Nat->Nat)(hnext:∀(i:Nat) (s:Shared) (Q':Option (Value×Nat)->Shared->Prop) (E':Value->Shared->Prop),i<=es.size->SetAt w s.heap d es ep t->Q' ((L[i]?).map fun x=>(x,slot (i+1))) s->wpAny (model prog w) A.in1 (setNext d (slot i) i ep) Q' E' s):
  Walks prog w A I [I,d] [I] es.size (fun i v=>L[i]? =some v) (fun i h=>IsSetIter h I d (.int (slot i) 0) i es.size ep/\SetAt w h d es ep t) where
 sub:=fun b hb=>by simp at hb;simp[hb]
 frame:=fun _ _ _ st hk=>⟨st.1.at fun o e=>hk I (by simp) o e,st.2.at fun o e=>hk d (by simp) o e⟩
 item:=fun i s Q E hi st hQ=>by
  obtain⟨x,hx⟩:∃x,L[i]? =some x:=⟨L[i],by simp[hL,hi]⟩
  refine setiter_item (t:=t) (x:=x) (sl':=slot (i+1)) st.1 st.2 hne (fun Q' E' q=>hnext i s Q' E' (by omega) st.2 (by rw[hx];exact q)) fun h' hit' hs'=> ?_
  exact hQ x h' s.toks hx ⟨hit',st.2.at fun o e=>hs'.extBut d o hne e⟩ fun b o hb e=>hs'.extBut b o (fun h=>hb (by simp[h])) e
 done:=fun s Q E st hQ=>setiter_end hh st.1 st.2 hne (fun Q' E' q=>hnext _ s Q' E' (yab _) st.2 (by rw[ybv (by omega)];exact q)) fun h' he'=>hQ h' s.toks fun b o hb e=>he' b o (fun h=>hb (by simp[h])) e
 self:=fun _ _ _ _ st hQ=>setiter_self st.1 hQ
theorem seqItems_tuple{T:Addr}{its:Array Value}{Q:Option (Array Value)->Shared->Prop}(h:s.heap.IsTuple T its)(q:Q (some its) s):wpAny (model prog w) A (seqItems? (.ref T)) Q E s:=by
 obtain⟨o,ho,hc,n,hd⟩:=h
 unfold seqItems?
 dsimp only
 refine wpAny_bind (wpAny_load ho ?_)
 rw[hd]
 exact wpAny_pure q
theorem setiterD_item{I d T:Addr}{es:Array (Int×Value)}{ep:Nat}{t:SetTable}{i p:Nat}{x:Int×Value}{its:Array Value}{Q:Option Value->Shared->Prop}(hit:IsSetIter s.heap I d (.ref T) i es.size ep)(S:SetAt w s.heap d es ep t)(hT:s.heap.IsTuple T its)(hp:its[i]? =some (.int p 0))(hx:es[p]? =some x)(hQ:∀h',IsSetIter h' I d (.ref T) (i+1) es.size ep->Heap.SameBut I s.heap h'->Q (some x.2) {s with heap:=h'}):wpAny (model prog w) A (pyNext (.ref I)) Q E s:=by
 obtain⟨o,ho,hc,hd⟩:=id hit
 unfold pyNext
 refine wpAny_bind (wpAny_attempt (wpAny_callSpecial?_slot (name:=Str.ofString "__next__") hit.typeIs F.slot_sit_next (wpAny_call_entry F.slot_sit_next hit.typeIs F.entry_sit_next ?_ (F.args_sit_next _))))
 unfold Builtin.«set_iterator.__next__»
 refine wpAny_bind (wpAny_pure ?_)
 refine wpAny_bind (wpAny_fieldsOf ho hd ?_)
 refine wpAny_bind (S.entries ?_)
 refine wpAny_ite_split (fun hab=>absurd hab (by simp)) fun _=> ?_
 refine wpAny_bind (seqItems_tuple hT ?_)
 dsimp only
 rw[ybg,hp]
 dsimp only
 refine wpAny_bind ?_
 unfold setNextDrawn
 refine wpAny_bind (S.state ?_)
 refine wpAny_ite_split (fun hab=>absurd hab (by simp)) fun _=> ?_
 rw[ybg,hx]
 refine wpAny_pure ?_
 refine wpAny_bind (wpAny_setField ho hd (by simp) ?_)
 refine wpAny_pure ⟨_,rfl,wpAny_pure (hQ _ ⟨_,ycb _ ho (Obj.isFreed_of_fields (Obj.data_mapFields hd _)),(Obj.cls_mapFields ..).trans hc,by rw[Obj.data_mapFields hd];simp[rawInt]⟩ (Heap.SameBut.update ..))⟩
theorem setiterD_end{I d T:Addr}{es:Array (Int×Value)}{ep:Nat}{t:SetTable}{i:Nat}{its:Array Value}{Q:Option Value->Shared->Prop}(hh:A.handled=none)(hit:IsSetIter s.heap I d (.ref T) i es.size ep)(S:SetAt w s.heap d es ep t)(hT:s.heap.IsTuple T its)(hp:its[i]? =none)(hQ:∀h',Heap.ExtBut I s.heap h'->Q none {s with heap:=h'}):wpAny (model prog w) A (pyNext (.ref I)) Q E s:=by
 obtain⟨o,ho,hc,hd⟩:=id hit
 unfold pyNext
 refine wpAny_bind (wpAny_attempt (wpAny_callSpecial?_slot (name:=Str.ofString "__next__") hit.typeIs F.slot_sit_next (wpAny_call_entry F.slot_sit_next hit.typeIs F.entry_sit_next ?_ (F.args_sit_next _))))
 unfold Builtin.«set_iterator.__next__»
 refine wpAny_bind (wpAny_pure ?_)
 refine wpAny_bind (wpAny_fieldsOf ho hd ?_)
 refine wpAny_bind (S.entries ?_)
 refine wpAny_ite_split (fun hab=>absurd hab (by simp)) fun _=> ?_
 refine wpAny_bind (seqItems_tuple hT ?_)
 dsimp only
 rw[ybg,hp]
 dsimp only
 refine wpAny_bind (wpAny_setField ho hd (by simp) ?_)
 have ho1:=ycb (Obj.mapFields (·.setIfInBounds 0 (rawInt 0))) ho (Obj.isFreed_of_fields (Obj.data_mapFields hd _))
 have hd1:=Obj.data_mapFields hd (·.setIfInBounds 0 (rawInt 0))
 refine wpAny_bind (wpAny_setField ho1 hd1 (by simp) ?_)
 show wpAny _ _ (newExc (.type "StopIteration") []>>=_) _ _ _
 refine wpAny_bind ?_
 simp only[newExc,newTuple]
 refine wpAny_bind (wpAny_newObj_type ?_ (by size_fits))
 refine wpAny_bind (m:=firstArgMember _ _) (wpAny_of_eq (a:=Value.none) (by first |rfl|(simp only[firstArgMember];rfl)) ?_)
 refine wpAny_newObj_type ?_ (by size_fits)
 simp only[raiseNew]
 refine wpAny_bind (wpAny_handled ?_)
 rw[show A.in1.handled=none from hh]
 refine wpAny_bind (wpAny_pure (wpAny_throw ?_))
 refine wpAny_bind (wpAny_isInstance (T:="StopIteration") (b:=true) ⟨_,yal _ rfl,rfl⟩ isSubtype_stop ?_)
 exact wpAny_pure (hQ _ ((((Heap.SameBut.update ..).trans (Heap.SameBut.update ..)).extBut.push _).push _))
theorem Walks.setRef(hh:A.handled=none)(I d T:Addr)(hne:d≠I)(hTI:T≠I)(es:Array (Int×Value))(ep:Nat)(t:SetTable)(ps:List Nat)(hps:ps.Perm (List.range es.size)):
  Walks prog w A I [I,d,T] [I] es.size (fun i v=>∃p x,ps[i]? =some p/\es[p]? =some x/\v=x.2) (fun i h=>IsSetIter h I d (.ref T) i es.size ep/\SetAt w h d es ep t/\h.IsTuple T (ps.map fun(p:Nat)=>Value.int p 0).toArray) where
 sub:=fun b hb=>by simp at hb;simp[hb]
 frame:=fun _ _ _ st hk=>⟨st.1.at fun o e=>hk I (by simp) o e,st.2.1.at fun o e=>hk d (by simp) o e,let⟨o,ho,r⟩:=st.2.2;⟨o,hk T (by simp) o ho,r⟩⟩
 item:=fun i s Q E hi st hQ=>by
  have hl:ps.length=es.size:=by rw[hps.length_eq,ybe]
  obtain⟨p,hp⟩:∃p,ps[i]? =some p:=⟨ps[i],by simp[hl,hi]⟩
  have hlt:p<es.size:=ybf.mp (hps.mem_iff.mp (ybd hp))
  refine setiterD_item (t:=t) (p:=p) (x:=es[p]) st.1 st.2.1 st.2.2 (by simp[hp]) (ybr hlt) fun h' hit' hs'=> ?_
  exact hQ _ h' s.toks ⟨p,_,hp,ybr hlt,rfl⟩ ⟨hit',st.2.1.at fun o e=>hs'.extBut d o hne e,let⟨o,ho,r⟩:=st.2.2;⟨o,hs'.extBut T o hTI ho,r⟩⟩ fun b o hb e=>hs'.extBut b o (fun h=>hb (by simp[h])) e
 done:=fun s Q E st hQ=>setiterD_end hh st.1 st.2.1 st.2.2 (by simp[hps.length_eq]) fun h' he'=>hQ h' s.toks fun b o hb e=>he' b o (fun h=>hb (by simp[h])) e
 self:=fun _ _ _ _ st hQ=>setiter_self st.1 hQ
end
section
variable{prog:Program}{w:World}{A:Around}{E:Value->Shared->Prop}{s:Shared}
noncomputable def sitO(first:Value)(d:Addr)(n ep:Nat):Obj:={cls:= .type "set_iterator",dict:=none,data:= .fields #[first,.int 0 0,.ref d,.int n 0,.int ep 0]}
noncomputable def placesO(ps:List Nat):Obj:={cls:= .type "tuple",dict:=none,data:= .seq (ps.map fun(p:Nat)=>Value.int p 0).toArray}
theorem SetAt.push{h:Heap}{d:Addr}{es:Array (Int×Value)}{ep:Nat}{t:SetTable}(S:SetAt w h d es ep t)(o:Obj):SetAt w (h.push o) d es ep t:=S.at fun _ e=>yad _ e
theorem iter_set{d:Addr}{es:Array (Int×Value)}{ep:Nat}{t:SetTable}{Q:Value->Shared->Prop}(S:SetAt w s.heap d es ep t)(hz:es.size<=1000)(hA:(w.params.followText "set-order"=true\/(!t.plain&&decide (es.size>1))=false)->Q (.ref s.heap.objs.size) {s with heap:=s.heap.push (sitO (.int 0 0) d es.size ep)})(hB:∀ps dr,ps.Perm (List.range es.size)->Q (.ref (s.heap.objs.size+1)) {s with heap:=(s.heap.push (placesO ps)).push (sitO (.ref s.heap.objs.size) d es.size ep),drawn:=dr}):
  wpAny (model prog w) A (pyIter (.ref d)) Q E s:=by
 refine wpAny_pyIter_slot S.typeIs F.slot_set_iter (wpAny_call_entry F.slot_set_iter S.typeIs F.entry_set_iter' ?_ (F.args_set_iter_1 _))
 unfold Builtin.«frozenset.__iter__»
 refine wpAny_bind (wpAny_pure ?_)
 refine wpAny_bind ?_
 unfold Builtin.Frozenset.sizeOf
 refine wpAny_bind (S.entries (wpAny_pure ?_))
 refine wpAny_bind ?_
 unfold setDrawn
 refine wpAny_bind (S.state (wpAny_bind (wpAny_byText (wpAny_pure ?_))))
 have ep_ok:∀{s':Shared} {Q':Nat->Shared->Prop} {E':Value->Shared->Prop},SetAt w s'.heap d es ep t->Q' ep s'->wpAny (model prog w) A.in1 (setEpoch d) Q' E' s':=fun S' q=>by
  unfold setEpoch
  exact wpAny_bind (S'.state (wpAny_pure q))
 refine wpAny_ite_split (fun hab=> ?_) fun hab=> ?_
 ·refine wpAny_bind (wpAny_drawOrder _ _ (by simp) fun ps dr hp=> ?_)
  refine wpAny_bind ?_
  simp only[newTuple]
  refine wpAny_newObj_type ?_ (show(ps.map fun(i:Nat)=>rawInt (i:Int)).toArray.size<=sizeLine from by
   have:=hp.length_eq
   rw[ybe]at this
   rw[yah,yaa,sizeLine_eq];omega)
  refine wpAny_bind (ep_ok (S.push _) ?_)
  simp only[newFields]
  refine wpAny_bind (wpAny_newObj_type ?_ (by size_fits))
  have q:=hB ps dr hp
  refine wpAny_pure ⟨_,rfl,"set_iterator",_,⟨_,yal _ rfl,rfl⟩,F.slot_sit_next.lookup,?_⟩
  rw[ybm]
  exact q
 ·refine wpAny_bind (wpAny_pure ?_)
  refine wpAny_bind (ep_ok S ?_)
  simp only[newFields]
  refine wpAny_bind (wpAny_newObj_type ?_ (by size_fits))
  refine wpAny_pure ⟨_,rfl,"set_iterator",_,⟨_,yal _ rfl,rfl⟩,F.slot_sit_next.lookup,hA ?_⟩
  have hab:¬(!w.params.followText "set-order"&&(!t.plain&&decide (es.size>1)))=true:=hab
  cases hb:w.params.followText "set-order" with
  |true=>exact .inl rfl
  |false=>rw[hb]at hab;exact .inr (by simpa using hab)
theorem hint_set{d:Addr}{es:Array (Int×Value)}{ep:Nat}{t:SetTable}{Q:Bool->Shared->Prop}(S:SetAt w s.heap d es ep t)(h:Q false s):wpAny (model prog w) A (Builtin.List.listLengthHint (.ref d)) Q E s:=by
 have hT:s.TypeIs (.ref d) "set":=S.typeIs
 unfold Builtin.List.listLengthHint
 refine wpAny_bind (wpAny_specialOf hT F.slot_set_len.lookup ?_)
 generalize hid:("set.__len__":String)=id0
 wp_delta
 rw[show splitId id0=some ("set","__len__")from by subst hid;decide+kernel]
 subst hid
 refine wpAny_bind (wpAny_isInstance (T:="set") (b:=true) hT (by rw[isSubtype_type];kernel_rfl) ?_)
 refine wpAny_ite_split (fun hab=>absurd hab (by decide)) (fun _=> ?_)
 refine wpAny_ite_split (fun _=> ?_) (fun hab=>absurd (by decide+kernel) hab)
 refine wpAny_bind (wpAny_typeOf hT ?_)
 exact wpAny_pure h
theorem items_list{L:List Value}{acc:Array Value}(h:ItemsOf (fun i v=>L[i]? =some v) acc L.length):acc.toList=L:=by
 refine ydu fun i=> ?_
 by_cases c:i<acc.size
 ·have e:acc.toList[i]? =some acc[i]:=by rw[yco,ybr c]
  rw[e]
  exact(h.2 i _ (by rw[ybr c])).symm
 ·have:=h.1
  rw[ybv (by simpa using c),ybv (by omega)]
theorem perm_range_get{α:Type}(xs:Array α){ps:List Nat}(hp:ps.Perm (List.range xs.size)):(ps.filterMap fun p=>xs[p]?).Perm xs.toList:=by
 refine(hp.filterMap _).trans ?_
 have e:(List.range xs.size).filterMap (fun p=>xs[p]?)=xs.toList:=by
  have key:∀(l:List α),(List.range l.length).filterMap (fun p=>l[p]?)=l:=by
   intro l
   induction l with
   |nil=>rfl
   |cons x l ih=>
    rw[ybh,List.range_succ_eq_map,ycl,List.filterMap_map]
    show x::(List.range l.length).filterMap (fun p=>l[p]?)=x::l
    rw[ih]
  have:=key xs.toList
  simpa using this
 rw[e]
theorem fm_get{α:Type}(xs:Array α):∀(pl:List Nat),(∀p∈pl,p<xs.size)->∀i:Nat,(pl.filterMap fun p=>xs[p]?)[i]? =(pl[i]?).bind fun p=>xs[p]?
 |[],_,i=>by simp
 |p::pl,h,i=>by
  have hp:=h p yap
  rw[ycl,ybr hp]
  cases i with
  |zero=>simp[hp]
  |succ i=>simpa using fm_get xs pl (fun q hq=>h q (yai _ hq)) i
theorem extend_set{R:Result->Shared->Prop}{d:Addr}{es:Array (Int×Value)}{ep:Nat}{t:SetTable}(hh:A.handled=none)(S:SetAt w s.heap d es ep t)(hz:es.size<=1000)(l:Addr)(res:Value)(c₀:Nat)(hl:s.heap.get? l=some {cls:= .type "list",data:= .seq #[] c₀})(hR:∀h' tk dr acc' c',(∀b o,b≠l->s.heap.get? b=some o->h'.get? b=some o)->h'.get? l=some {cls:= .type "list",dict:=none,data:= .seq acc' c',slots:=#[]}->
   acc'.toList.Perm (es.toList.map (·.2))->R (.ok (.ret res)) {s with heap:=h',toks:=tk,drawn:=dr}):
  wpAny (model prog w) A.in1 (Builtin.List.listExtendWith (.ref l) (.ref d) res)
   (fun fin s'=>match fin with | .done f=>R (.ok f) s'| .again c'=>c'.quiet=true/\codeAny (model prog w) A c' R s') (fun e s'=>R (.error e) s') s:=by
 obtain⟨od,ho,hx,hdat⟩:=S.ob
 have hld:l≠d:=fun e=>by
  rw[e,ho]at hl
  cases hl
  cases hdat
 have hllt:l<s.heap.objs.size:=yaq hl
 have hdlt:d<s.heap.objs.size:=yaq ho
 have ps:t.place.size=es.size:=by have:=S.fits;unfold SetTable.fits at this;simp at this;exact this.1
 -- from a walk that stands at its start
 have key:∀(h:Heap) (I:Addr) (fp:List Addr) (P:Nat->Value->Prop) (St:Nat->Heap->Prop) (dr:Drawn) (W:Walks prog w A.in1 I fp [I] es.size P St),l∉fp->s.heap.objs.size<=I->(∀acc,ItemsOf P acc es.size->acc.toList.Perm (es.toList.map (·.2)))->
   SetAt w h d es ep t->(∀b o,s.heap.get? b=some o->h.get? b=some o)->St 0 h->
   wpAny (model prog w) A.in1 (do
     let room<-holding [Value.ref I] (Builtin.List.listLengthHint (.ref d))
     if(room||true)=true then do rule "list.extend.makes-room";Builtin.List.listTouch (.ref l)
     again (.builtin "list.extend.loop" ⟨[.ref l,.ref I,res],[]⟩))
    (fun fin s'=>match fin with | .done f=>R (.ok f) s'| .again c'=>c'.quiet=true/\codeAny (model prog w) A c' R s') (fun e s'=>R (.error e) s') {s with heap:=h,drawn:=dr}:=by
  intro h I fp P St dr W hlf hI hP hS hk st
  have hlI:l≠I:=yam (yak hllt hI)
  refine wpAny_bind (wpAny_holding (hint_set (s:={s with heap:=h,drawn:=dr}) hS ?_))
  refine wpAny_ite_split (fun _=> ?_) (fun hab=>absurd rfl hab)
  refine wpAny_bind (wpAny_rule ?_)
  refine wpAny_bind ?_
  show wpAny _ _ (updateSeq l (·.push .none)>>=fun _=>updateSeq l (·.pop)) _ _ _
  have hl1:=hk _ _ hl
  refine wpAny_bind (wpAny_updateSeq hl1 rfl ?_)
  have hl2:=ycb (Obj.mapSeq (·.push Value.none)) hl1 rfl
  refine wpAny_updateSeq (hz:=by seq_fits) hl2 rfl ?_
  have hl3:=ycb (Obj.mapSeq (·.pop)) hl2 rfl
  have keep:∀b o,b≠l->h.get? b=some o->((h.update l (Obj.mapSeq (·.push Value.none))).update l (Obj.mapSeq (·.pop))).get? b=some o:=fun b o hb e=>(yck _ _ (Ne.symm hb)).trans ((yck _ _ (Ne.symm hb)).trans e)
  have st':=W.frame 0 _ _ st fun b hb o e=>keep b o (fun q=>hlf (q▸hb)) e
  refine wpAny_pure ⟨plainId_quiet F.plain_extend_loop _,?_⟩
  refine codeAny_extend_loopS W.toS (by rw[sizeLine_eq];omega) l hlf res es.size 0 _ #[] _ rfl (yas _) st' hl3 (ItemsOf.nil _) fun s' acc' c' hmv hS' hacc=> ?_
  rw[Moved.eq_with hmv]
  refine hR s'.heap s'.toks dr acc' c' (fun b o hb e=>hmv.heap b o (fun hmem=> ?_) (keep b o hb (hk b o e))) hS' (hP acc' hacc)
  rcases yaj.mp hmem with e'|hmem
  ·exact hb e'
  ·have:=yaq e
   rw[yar.mp hmem]at this
   exact absurd (yak this hI) (ybj _)
 unfold Builtin.List.listExtendWith
 refine wpAny_bind (wpAny_typeOf (T:="set") S.typeIs ?_)
 have h1:Builtin.List.listSameRef (.ref l) (.ref d)=false:=by simp[Builtin.List.listSameRef,hld]
 have h2:(Value.type "set"==Value.type "list")=false:=by decide
 have h3:(Value.type "set"==Value.type "tuple")=false:=by decide
 simp only[h1,h2,h3,Bool.or_false,Bool.false_eq_true,if_false]
 refine wpAny_bind (iter_set S hz (fun hm=> ?_) fun pl dr hp=> ?_)
 ·by_cases hb:w.params.followText "set-order"=true
  ·have W:=Walks.setInt (prog:=prog) (w:=w) (A:=A.in1) hh s.heap.objs.size d (yam hdlt) es ep t ((pickOrder (w.params.setOrder d ep) es).toList.map (·.2)) (by rw[yaa,(pick_perm _ es).length_eq,ybb]) (fun _=>0)
    (fun i s Q' E' _ S' q=>next_text S' hb (by rw[yae,Option.map_map,yco]at q;exact q))
   have k:=key (s.heap.push (sitO (.int 0 0) d es.size ep)) _ _ _ _ s.drawn W (by simp;exact⟨yam hllt,hld⟩) (yab _) (fun acc ha=>by
     have e:=items_list (L:=(pickOrder (w.params.setOrder d ep) es).toList.map (·.2)) (acc:=acc) (by rw[yaa,(pick_perm _ es).length_eq,ybb];exact ha)
     rw[e]
     exact(pick_perm _ es).map _) (S.push _) (fun b o e=>yad _ e) ⟨⟨_,yal _ rfl,rfl,rfl⟩,S.push _⟩
   exact k
  ·have hb:w.params.followText "set-order"=false:=by simpa using hb
   have hd:(!t.plain&&decide (es.size>1))=false:=hm.resolve_left (by rw[hb];decide)
   have W:=Walks.setInt (prog:=prog) (w:=w) (A:=A.in1) hh s.heap.objs.size d (yam hdlt) es ep t (es.toList.map (·.2)) (by simp) (fromSlot t)
    (fun i s Q' E' hi S' q=>next_slot S' hb hd hi (by rw[yae,Option.map_map,yco]at q;exact q))
   have k:=key (s.heap.push (sitO (.int 0 0) d es.size ep)) _ _ _ _ s.drawn W (by simp;exact⟨yam hllt,hld⟩) (yab _) (fun acc ha=>by
     have e:=items_list (L:=es.toList.map (·.2)) (acc:=acc) (by rw[yaa,ybb];exact ha)
     rw[e]) (S.push _) (fun b o e=>yad _ e) ⟨⟨_,yal _ rfl,rfl,rfl⟩,S.push _⟩
   exact k
 ·have W:=Walks.setRef (prog:=prog) (w:=w) (A:=A.in1) hh (s.heap.objs.size+1) d s.heap.objs.size (yam (yaw hdlt)) (yam (yba _)) es ep t pl hp
  have g0:(s.heap.push (placesO pl)).get? s.heap.objs.size=some (placesO pl):=yal _ rfl
  have k:=key ((s.heap.push (placesO pl)).push (sitO (.ref s.heap.objs.size) d es.size ep)) _ _ _ _ dr W (by simp;exact⟨yam (yaw hllt),hld,yam hllt⟩) (ycr _) (fun acc ha=>by
    have hl':pl.length=es.size:=by rw[hp.length_eq,ybe]
    have e:acc.toList=(pl.filterMap fun p=>es[p]?).map (·.2):=by
     have ll:((pl.filterMap fun p=>es[p]?).map (·.2)).length=es.size:=by rw[yaa,(perm_range_get es hp).length_eq,ybb]
     refine items_list (L:=(pl.filterMap fun p=>es[p]?).map (·.2)) ?_
     rw[ll]
     refine⟨ha.1,fun i v hv=> ?_⟩
     obtain⟨p,x,q1,q2,rfl⟩:=ha.2 i v hv
     rw[yae,fm_get es pl (fun p hp'=>ybf.mp (hp.mem_iff.mp hp')),q1]
     show(es[p]?).map _=_
     rw[q2];rfl
    rw[e]
    exact(perm_range_get es hp).map _) ((S.push _).push _) (fun b o e=>yad _ (yad _ e))
    ⟨⟨sitO (.ref s.heap.objs.size) d es.size ep,by rw[<-ybm s.heap (placesO pl)];exact yal _ rfl,rfl,rfl⟩,(S.push _).push _,⟨_,yad _ g0,rfl,_,rfl⟩⟩
  exact k
end
end PySem
namespace PySem
open L2 (TabOk Rise lay_ok relay_ok unplain_ok)
section
variable{prog:Program}{w:World}{A:Around}{E:Value->Shared->Prop}{s:Shared}
noncomputable def SetG(prog:Program)(w:World)(h:Heap)(d:Addr)(S:Int->Bool)(n:Nat):Prop:=
 ∃o es ep t,h.get? d=some o/\o.ExactSet/\o.data= .set es ep t/\ElemsOf (intKind prog w) es.toList/\(∀k,S k=true↔∃e∈es.toList,(intKind prog w).is k e.2=true)/\es.size<scanBound/\t.fits es.size=true/\es.size=n/\TabOk (!w.params.followText "set-order") t
theorem SetG.at{h h':Heap}{d:Addr}{S:Int->Bool}{n:Nat}(g:SetG prog w h d S n)(e:∀o,h.get? d=some o->h'.get? d=some o):SetG prog w h' d S n:=let⟨o,es,ep,t,ho,r⟩:=g;⟨o,es,ep,t,e _ ho,r⟩
theorem SetG.congr{h:Heap}{d:Addr}{S S':Int->Bool}{n n':Nat}(g:SetG prog w h d S n)(e:∀k,S k=S' k)(en:n=n'):SetG prog w h d S' n':=by
 have:S=S':=funext e
 subst this;subst en;exact g
theorem SetG.store{h:Heap}{d:Addr}{o:Obj}{es:Array (Int×Value)}{ep:Nat}{t:SetTable}(ho:h.get? d=some o)(hx:o.ExactSet)(hd:o.data= .set es ep t)
  {es':Array (Int×Value)}{t':SetTable}{S:Int->Bool}(el:ElemsOf (intKind prog w) es'.toList)(mem:∀k,S k=true↔∃e∈es'.toList,(intKind prog w).is k e.2=true)(lt:es'.size<scanBound)(ft:t'.fits es'.size=true)(tb:TabOk (!w.params.followText "set-order") t'):
  (h.update d (Obj.putSet es' t')).get? d=some {o with data:= .set es' (ep+1) t'}/\SetG prog w (h.update d (Obj.putSet es' t')) d S es'.size:=by
 obtain⟨g,_⟩:=SetOf_store (knd:=intKind prog w) ho hx hd el mem lt ft
 exact⟨g,_,es',ep+1,t',g,hx,rfl,el,mem,lt,ft,rfl,tb⟩
theorem tail_ok{gw:Bool->Sem Unit}(hg:∀(b:Bool) (s₁:Shared) (Q':Unit->Shared->Prop),Q' () s₁->wpAny (model prog w) A (gw b) Q' E s₁){d:Addr}{o:Obj}{es:Array (Int×Value)}{ep:Nat}{t:SetTable}(ho:s.heap.get? d=some o)(hx:o.ExactSet)(hd:o.data= .set es ep t){es1:Array (Int×Value)}{t1:SetTable}{S:Int->Bool}(el:ElemsOf (intKind prog w) es1.toList)(mem:∀k,S k=true↔∃e∈es1.toList,(intKind prog w).is k e.2=true)(lt:es1.size<scanBound)(ft:t1.fits es1.size=true)(tb:TabOk (!w.params.followText "set-order") t1){was:Bool}{R:Option Bool->Shared->Prop}(q:∀h',Heap.SameBut d s.heap h'->SetG prog w h' d S es1.size->R (some true) {s with heap:=h'}):
  wpAny (model prog w) A (do
    storeSet d es1 t1
    if(!was&&t1.tooFull)=true then do
      gw (relayAll t1 es1 (SetTable.grown es1.size)).2.2
      storeSet d (relayAll t1 es1 (SetTable.grown es1.size)).1 (relayAll t1 es1 (SetTable.grown es1.size)).2.1
      pure (some true)
     else pure (some true)) R E s:=by
 refine wpAny_bind (wpAny_storeSet_of ho hd ?_ (fits_of_scanBound lt))
 obtain⟨g1,G1⟩:=SetG.store (prog:=prog) (w:=w) ho hx hd el mem lt ft tb
 have b1:=Heap.SameBut.update s.heap d (Obj.putSet es1 t1)
 refine wpAny_ite_split (fun _=> ?_) fun _=>wpAny_pure (q _ b1 G1)
 have pm:=relayAll_perm t1 es1 (SetTable.grown es1.size)
 have ff:=relayAll_fits t1 es1 (SetTable.grown es1.size)
 have tt:=relay_ok tb es1 (SetTable.grown es1.size)
 generalize relayAll t1 es1 (SetTable.grown es1.size)=r at pm ff tt⊢
 obtain⟨es2,t2,gv⟩:=r
 dsimp only at pm ff tt⊢
 have sz:es2.size=es1.size:=by rw[<-ybb,pm.length_eq,ybb]
 refine wpAny_bind (hg _ _ _ (wpAny_bind (wpAny_storeSet_of g1 rfl ?_ (fits_of_scanBound (by rw[sz];exact lt)))))
 obtain⟨_,G2⟩:=SetG.store (prog:=prog) (w:=w) (S:=S) g1 hx rfl (el.perm pm) (fun k=>(mem k).trans ⟨fun⟨e,he,z⟩=>⟨e,pm.mem_iff.mpr he,z⟩,fun⟨e,he,z⟩=>⟨e,pm.mem_iff.mp he,z⟩⟩) (by rw[sz];exact lt) ff tt
 rw[sz]at G2
 exact wpAny_pure (q _ (b1.trans (Heap.SameBut.update _ d _)) G2)
theorem add_ok{d:Addr}{S:Int->Bool}{n:Nat}{k:Int}{x:Value}{Q:Bool->Shared->Prop}(hk:(intKind prog w).is k x=true)(hs:x.scannable=true)(G:SetG prog w s.heap d S n)(room:n+1<scanBound)(q:∀h' b,Heap.SameBut d s.heap h'->SetG prog w h' d (fun k'=>S k'||decide (k'=k)) (if S k then n else n+1)->Q b {s with heap:=h'}):wpAny (model prog w) A (setAddHashed d x ((intKind prog w).hash k)) Q E s:=by
 obtain⟨o,es,ep,t,ho,hx,hd,el,mem,lt,ft,en,tb⟩:=G
 unfold setAddHashed setAddHashedIn
 refine wpAny_holding (wpAny_bind (wpAny_setState_of ho hd ft ?_))
 dsimp only
 rw[byScan_of hs lt el]
 simp only[↓reduceIte]
 unfold setAddByScan
 refine wpAny_bind (wpAny_bind (wpAny_rule (wpAny_bind (wpAny_setScan_of hk ho hd ft el ?_))))
 cases z:List.findIdx? (fun e=>(intKind prog w).is k e.2) es.toList with
 |some j=>
  obtain⟨hj,pj,_⟩:=List.findIdx?_eq_some_iff_getElem.mp z
  have yes:S k=true:=(mem k).mpr ⟨es.toList[j],yby hj,pj⟩
  refine wpAny_pure (wpAny_pure ?_)
  have r:=q s.heap false (Heap.SameBut.refl d s.heap) ⟨o,es,ep,t,ho,hx,hd,el,fun k'=>by
   rw[Bool.or_eq_true,decide_eq_true_eq,<-mem k']
   exact⟨fun y=>y.elim id fun e=>e▸yes,.inl⟩,lt,ft,by rw[yes];exact en,tb⟩
  exact r
 |none=>
  dsimp only
  have no:S k=false:=by
   cases y:S k with
   |false=>rfl
   |true=>
    obtain⟨e,he,p⟩:=(mem k).mp y
    have:=List.findIdx?_eq_none_iff.mp z e he
    rw[p]at this;cases this
  have gwk:∀(b:Bool) (s₁:Shared) (Q':Unit->Shared->Prop),Q' () s₁->wpAny (model prog w) A (match b with |true=>rule "set.scan.the-table-gave-way"|false=>pure ()) Q' E s₁:=fun b s₁ Q' y=>by cases b<;>first |exact wpAny_pure y|exact wpAny_rule y
  have pm:=layNew_perm t es ((intKind prog w).hash k) x
  have ff:=layNew_fits t es ((intKind prog w).hash k) x
  have tt:=lay_ok tb es ((intKind prog w).hash k) x
  generalize layNew t es ((intKind prog w).hash k) x=r at pm ff tt⊢
  obtain⟨es1,t1,was,gv⟩:=r
  dsimp only at pm ff tt⊢
  rw[Array.toList_push]at pm
  have el1:ElemsOf (intKind prog w) es1.toList:=(el.push hk hs).perm pm
  have mem1:=mem_push_iff (knd:=intKind prog w) hk mem pm
  have sz:es1.size=n+1:=by rw[<-ybb,pm.length_eq,yat,ybb,en];rfl
  have lt1:es1.size<scanBound:=by rw[sz];exact room
  refine wpAny_bind (gwk _ _ _ ?_)
  have fin:∀h',Heap.SameBut d s.heap h'->SetG prog w h' d (fun k'=>S k'||decide (k'=k)) es1.size->wpAny (model prog w) A (match some true with |some added=>pure added|none=>setAddHashedIn d x ((intKind prog w).hash k) 99999) Q E {s with heap:=h'}:=fun h' sb g=>by
   have r:=q h' true sb (by rw[no];rw[sz]at g;exact g)
   exact wpAny_pure r
  split
  ·refine wpAny_bind ?_
   rw[hashByValue_scannable 8 hs]
   refine wpAny_pure (tail_ok gwk ho hx hd el1 mem1 lt1 ?_ ?_ fin)
   ·split
    ·exact ff
    ·exact SetTable.fits_plain_off ff
   ·split
    ·exact tt
    ·exact unplain_ok tt
  ·refine wpAny_bind (wpAny_pure ?_)
   simp only[↓reduceIte]
   exact tail_ok gwk ho hx hd el1 mem1 lt1 ff tt fin
end
end PySem
namespace L2
open PySem PySem.Spec PyProof.Rows
section
variable{prog:Program}{w:World}{A:Around}{E:Value->Shared->Prop}{s:Shared}
theorem code_set_newL(a:Value){Q₁:Value->Shared->Prop}(h:Q₁ (.ref s.heap.objs.size) {s with heap:=s.heap.push {cls:= .type "set",dict:=none,data:= .set #[] 0 (.fresh 0 0 (!w.params.followText "set-order"))}}):
  codeAny (model prog w) A (.call (.builtin "set.__new__") ⟨[.type "set",a],[]⟩) (wants Q₁ E) s:=by
 refine codeAny_of_tree ?_
 show wpAny _ A.in1 (do checkBuiltinCall "set.__new__" ⟨[.type "set",a],[]⟩;again (.builtin "set.__new__" ⟨[.type "set",a],[]⟩)) _ _ s
 refine wpAny_bind (wpAny_of_eq (PySem.F.newCall_set_1 a) (wpAny_pure ⟨plainId_quiet PySem.F.plain_set_new _,codeAny_builtin PySem.F.entry_set_new ?_⟩))
 rw[Around.under_plainId PySem.F.plain_set_new _]
 unfold Builtin.«set.__new__» Builtin.Frozenset.newClass
 have hsub:=sub_set_self
 obtain⟨hp,g,d,tk,os⟩:=s
 dsimp only
 wp_walk
 refine wpAny_askSetting (wpAny_pure ?_)
 dsimp only
 simp only[newObj]
 refine wpAny_bind (wpAny_alloc (wpAny_pure ?_))
 exact wpAny_pure h
end
section
variable{prog:Program}{w:World}{A:Around}{R:Result->Shared->Prop}{I:Addr}{fp wr:List Addr}{G:Array GenState->Array GenState->Prop}{n:Nat}{P:Nat->Value->Prop}{St:Nat->Shared->Prop}
theorem loopG(W:WalksS prog w A.in1 I fp wr G n P St)(D:Addr)(hD:D∉fp)(val:Nat->Int)(hv:∀i v,P i v->∃t,v= .int (val i) t)(hb:n+1<scanBound):
  ∀(k i:Nat) (s:Shared),n-i=k->i<=n->St i s->SetG prog w s.heap D (fun k'=>(firstMet val i).any (· ==k')) (firstMet val i).length->
   (∀s',Moved (D::wr) G s s'->SetG prog w s'.heap D (fun k'=>(firstMet val n).any (· ==k')) (firstMet val n).length->R (.ok (.ret .none)) s')->
   codeAny (model prog w) A (.builtin "set.update.loop" ⟨[.ref D,.ref I],[]⟩) R s:=by
 have hw:D∉wr:=fun h=>hD (W.sub _ h)
 have sub:∀b∈wr,b∈D::wr:=fun b hb=>yai _ hb
 intro k
 induction k with
 |zero=>
  intro i s hk hi st g hR
  obtain rfl:i=n:=by omega
  refine codeAny_builtin PyProof.Rows.F.entry_set_update_loop ?_
  rw[Around.under_plainId PyProof.Rows.F.plain_set_update_loop _]
  show wpAny _ A.in1 (pyNext (.ref I)>>=_) _ _ s
  refine wpAny_bind (W.done s _ _ st fun s' hm=> ?_)
  show wpAny _ A.in1 (ret Value.none) _ _ s'
  exact wpAny_pure (hR s' (hm.mono sub) (g.at fun o e=>hm.heap D _ hw e))
 |succ k ih=>
  intro i s hk hi st g hR
  have lt:i<n:=by omega
  refine codeAny_builtin PyProof.Rows.F.entry_set_update_loop ?_
  rw[Around.under_plainId PyProof.Rows.F.plain_set_update_loop _]
  show wpAny _ A.in1 (pyNext (.ref I)>>=_) _ _ s
  refine wpAny_bind (W.item i s _ _ lt st fun v s' hP st' hm=> ?_)
  obtain⟨t,rfl⟩:=hv i v hP
  have g':=g.at (h':=s'.heap) fun o e=>hm.heap D _ hw e
  show wpAny _ A.in1 (holding [Value.int (val i) t] (setAdd D (.int (val i) t))>>=_) _ _ s'
  refine wpAny_bind (wpAny_holding ?_)
  unfold setAdd
  refine wpAny_holding (wpAny_bind ((intKind prog w).pyHash (k:=val i) (intKind_is _ _ _ _) ?_))
  refine add_ok (s:={s' with toks:=s'.toks+1}) (intKind_is _ _ _ _) rfl g' (by have:=firstMet_length_le val i;omega) fun h' _ sb g2=> ?_
  refine wpAny_pure ⟨plainId_quiet PyProof.Rows.F.plain_set_update_loop _,ih (i+1) _ (by omega) lt (W.frame _ s' _ _ st' (ycr _) fun b hb o e=> ?_) (g2.congr (fun k'=>by rw[firstMet_succ,step_any]) (by rw[firstMet_succ,step_length])) fun s'' hm'' g3=> ?_⟩
  ·rw[sb.2 b (fun h:b=D=>hD (by rw[<-h];exact hb))];exact e
  ·refine hR s'' (Moved.trans W.gtrans ((hm.mono sub).then_heap (ycr _) fun b o hb e=> ?_) hm'') g3
   rw[sb.2 b (fun h:b=D=>hb (by rw[h];exact yap))];exact e
end
section
variable{prog:Program}{w:World}{A:Around}{E:Value->Shared->Prop}{s:Shared}
theorem set_tupleG{t:Addr}{its:Array Value}{ns:List Int}{Q:Value->Shared->Prop}(hA:A.handled=none)(ht:s.heap.IsTuple t its)(hI:PyProof.Rows.IntsAre its.toList ns)(hz:its.size+1<scanBound)(fin:∀(g:Heap) (tk:Nat),SetG prog w g s.heap.objs.size (fun k'=>(firstMet (fun i=>ns.getD i 0) its.size).any (· ==k')) (firstMet (fun i=>ns.getD i 0) its.size).length->(∀b o,b<s.heap.objs.size->s.heap.get? b=some o->g.get? b=some o)->Q (.ref s.heap.objs.size) {s with heap:=g,toks:=tk}):
  wpAny (model prog w) A (call (.type "set") [.ref t]) Q E s:=by
 obtain⟨c,tl,q1⟩:=F.called_set.mro
 have q2:=F.called_set.made
 have q3:=F.called_set.sub
 refine wpAny_call (codeAny_of_tree ?_)
 show wpAny _ _ (callAny (.type "set") _) _ _ _
 refine wpAny_pure ⟨Code.quiet_builtin _ (by decide+kernel),codeAny_builtin PySem.F.entry_type_call ?_⟩
 rw[Around.under_plain (weight_type_call_type "set" [.ref t] []) rfl]
 have q4:=F.called_set.notType
 have q5:=F.called_set.canCreate
 have q6:=F.typeCall_set_1 (.ref t)
 repeat(any_goals(first |assumption|wp_step))
 refine codeAny_mono (code_set_newL (.ref t) (E:=E) (Q₁:=fun ob u=>ob= .ref s.heap.objs.size/\u={s with heap:=s.heap.push {cls:= .type "set",dict:=none,data:= .set #[] 0 (.fresh 0 0 (!w.params.followText "set-order"))}}) ⟨rfl,rfl⟩) fun r u hr=> ?_
 cases r with
 |error e=>exact hr
 |ok fl=>
  cases fl with
  |ret obj=>
   obtain⟨rfl,rfl⟩:=hr
   generalize hled:(!w.params.followText "set-order")=led at *
   have g0:(s.heap.push {cls:= .type "set",dict:=none,data:= .set #[] 0 (.fresh 0 0 led)}).get? s.heap.objs.size=some {cls:= .type "set",dict:=none,data:= .set #[] 0 (.fresh 0 0 led)}:=yal _ rfl
   have g1:Shared.TypeIs {s with heap:=s.heap.push {cls:= .type "set",dict:=none,data:= .set #[] 0 (.fresh 0 0 led)}} (.ref s.heap.objs.size) "set":=⟨_,g0,rfl⟩
   have q7:=F.called_set.init.lookup
   have q8:=F.called_set.init.bind (.ref s.heap.objs.size)
   repeat(any_goals(first |assumption|wp_step))
   refine codeAny_mono (codeAny_call_builtin (R:=wants (fun r s₂=>r= .none/\∃g tk,s₂={s with heap:=g,toks:=tk}/\SetG prog w g s.heap.objs.size (fun k'=>(firstMet (fun i=>ns.getD i 0) its.size).any (· ==k')) (firstMet (fun i=>ns.getD i 0) its.size).length/\(∀b o,b<s.heap.objs.size->s.heap.get? b=some o->g.get? b=some o)) E) F.called_set.init.plain F.entry_set_init (check_set_init_1 g1 ?_)) fun r₂ s₂ hr₂=> ?_
   ·obtain⟨⟨oc,od,oda,os⟩,ho,hc,nl,hd⟩:=ht
    simp only at hc hd
    subst hc hd
    have ho':(s.heap.push {cls:= .type "set",dict:=none,data:= .set #[] 0 (.fresh 0 0 led)}).get? t=some {cls:= .type "tuple",dict:=od,data:= .seq its nl,slots:=os}:=yad _ ho
    have b1:=PySem.F.sub_tuple_set
    have b2:=PySem.F.sub_tuple_frozenset
    have b3:(Value.type "tuple"==Value.type "dict")=false:=by decide
    have ht1:(s.heap.push {cls:= .type "set",dict:=none,data:= .set #[] 0 (.fresh 0 0 led)}).IsTuple t its:=⟨_,ho',rfl,nl,rfl⟩
    unfold Builtin.«set.__init__» noKeywords Builtin.Frozenset.updateFrom
    generalize hPI:pyIter=PI
    wp_walk
    subst hPI
    refine wpAny_pyIter_tuple ht1 (wpAny_bind (wpAny_runValue ?_))
    have lt:t<s.heap.objs.size:=yaq ho
    have hA3:A.in1.in1.in1.handled=none:=by simp[hA]
    have nI:t≠(s.heap.push {cls:= .type "set",dict:=none,data:= .set #[] 0 (.fresh 0 0 led)}).objs.size:=by rw[ybm];exact yam (yaw lt)
    have nf:s.heap.objs.size∉[(s.heap.push {cls:= .type "set",dict:=none,data:= .set #[] 0 (.fresh 0 0 led)}).objs.size,t]:=by
     rw[ybm];simp only[yaj,yar,ydn,or_false,not_or];exact⟨yam (yba _),ycu lt⟩
    refine loopG ((Walks.tuple hA3 _ t nI its).toS) s.heap.objs.size nf (fun i=>ns.getD i 0) (fun i v hv=>IntsAre.int_at hI i v (by rw[yco];exact hv)) hz (its.size-0) 0 _ (by omega) (yas _)
     ⟨⟨_,yal _ rfl,rfl,rfl⟩,ht1.at fun o e=>yad _ e⟩ ?hS0 ?hR
    case hS0=>exact⟨_,#[],0,_,yad _ g0,⟨rfl,rfl,rfl⟩,rfl,fun e he=>by simp at he,fun k=>by simp[firstMet],by unfold scanBound;simp,rfl,rfl,by rw[hled];exact fresh_ok led⟩
    case hR=>
     intro s' hm hS'
     obtain⟨g,g',d',tk',os'⟩:=s'
     obtain⟨rfl,rfl,rfl⟩:g'=s.gens/\d'=s.drawn/\os'=s.os:=⟨hm.gens,hm.drawn,hm.os⟩
     show wpAny _ _ _ _ _ _
     refine wpAny_pure ?_
     show wpAny _ _ (ret Value.none) _ _ _
     refine wpAny_pure ⟨rfl,g,tk',rfl,hS',fun b o hb e=>hm.heap b o ?_ (yad _ (yad _ e))⟩
     have n1:b≠s.heap.objs.size:=yam hb
     have n2:b≠(s.heap.push {cls:= .type "set",dict:=none,data:= .set #[] 0 (.fresh 0 0 led)}).objs.size:=by rw[ybm];exact yam (yaw hb)
     simp only[yaj,yar,ydn,or_false,not_or];exact⟨n1,n2⟩
   ·cases r₂ with
    |error e=>exact hr₂
    |ok fl₂=>
     cases fl₂ with
     |ret r=>
      obtain⟨rfl,g,tk,rfl,hS',hk'⟩:=hr₂
      repeat(any_goals(first |assumption|wp_step))
      exact fin _ _ hS' hk'
     |_=>exact hr₂.elim
  |_=>exact hr.elim
theorem set_listG{t:Addr}{its:Array Value}{ns:List Int}{Q:Value->Shared->Prop}(hA:A.handled=none)(ht:s.heap.IsList t its)(hI:PyProof.Rows.IntsAre its.toList ns)(hz:its.size+1<scanBound)(fin:∀(g:Heap) (tk:Nat),SetG prog w g s.heap.objs.size (fun k'=>(firstMet (fun i=>ns.getD i 0) its.size).any (· ==k')) (firstMet (fun i=>ns.getD i 0) its.size).length->(∀b o,b<s.heap.objs.size->s.heap.get? b=some o->g.get? b=some o)->Q (.ref s.heap.objs.size) {s with heap:=g,toks:=tk}):
  wpAny (model prog w) A (call (.type "set") [.ref t]) Q E s:=by
 obtain⟨c,tl,q1⟩:=F.called_set.mro
 have q2:=F.called_set.made
 have q3:=F.called_set.sub
 refine wpAny_call (codeAny_of_tree ?_)
 show wpAny _ _ (callAny (.type "set") _) _ _ _
 refine wpAny_pure ⟨Code.quiet_builtin _ (by decide+kernel),codeAny_builtin PySem.F.entry_type_call ?_⟩
 rw[Around.under_plain (weight_type_call_type "set" [.ref t] []) rfl]
 have q4:=F.called_set.notType
 have q5:=F.called_set.canCreate
 have q6:=F.typeCall_set_1 (.ref t)
 repeat(any_goals(first |assumption|wp_step))
 refine codeAny_mono (code_set_newL (.ref t) (E:=E) (Q₁:=fun ob u=>ob= .ref s.heap.objs.size/\u={s with heap:=s.heap.push {cls:= .type "set",dict:=none,data:= .set #[] 0 (.fresh 0 0 (!w.params.followText "set-order"))}}) ⟨rfl,rfl⟩) fun r u hr=> ?_
 cases r with
 |error e=>exact hr
 |ok fl=>
  cases fl with
  |ret obj=>
   obtain⟨rfl,rfl⟩:=hr
   generalize hled:(!w.params.followText "set-order")=led at *
   have g0:(s.heap.push {cls:= .type "set",dict:=none,data:= .set #[] 0 (.fresh 0 0 led)}).get? s.heap.objs.size=some {cls:= .type "set",dict:=none,data:= .set #[] 0 (.fresh 0 0 led)}:=yal _ rfl
   have g1:Shared.TypeIs {s with heap:=s.heap.push {cls:= .type "set",dict:=none,data:= .set #[] 0 (.fresh 0 0 led)}} (.ref s.heap.objs.size) "set":=⟨_,g0,rfl⟩
   have q7:=F.called_set.init.lookup
   have q8:=F.called_set.init.bind (.ref s.heap.objs.size)
   repeat(any_goals(first |assumption|wp_step))
   refine codeAny_mono (codeAny_call_builtin (R:=wants (fun r s₂=>r= .none/\∃g tk,s₂={s with heap:=g,toks:=tk}/\SetG prog w g s.heap.objs.size (fun k'=>(firstMet (fun i=>ns.getD i 0) its.size).any (· ==k')) (firstMet (fun i=>ns.getD i 0) its.size).length/\(∀b o,b<s.heap.objs.size->s.heap.get? b=some o->g.get? b=some o)) E) F.called_set.init.plain F.entry_set_init (check_set_init_1 g1 ?_)) fun r₂ s₂ hr₂=> ?_
   ·obtain⟨⟨oc,od,oda,os⟩,ho,hc,nl,hd⟩:=ht
    simp only at hc hd
    subst hc hd
    have ho':(s.heap.push {cls:= .type "set",dict:=none,data:= .set #[] 0 (.fresh 0 0 led)}).get? t=some {cls:= .type "list",dict:=od,data:= .seq its nl,slots:=os}:=yad _ ho
    have b1:=PySem.F.sub_list_set
    have b2:=PySem.F.sub_list_frozenset
    have b3:(Value.type "list"==Value.type "dict")=false:=by decide
    have ht1:(s.heap.push {cls:= .type "set",dict:=none,data:= .set #[] 0 (.fresh 0 0 led)}).IsList t its:=⟨_,ho',rfl,nl,rfl⟩
    unfold Builtin.«set.__init__» noKeywords Builtin.Frozenset.updateFrom
    generalize hPI:pyIter=PI
    wp_walk
    subst hPI
    refine wpAny_pyIter_list ht1 (wpAny_bind (wpAny_runValue ?_))
    have lt:t<s.heap.objs.size:=yaq ho
    have hA3:A.in1.in1.in1.handled=none:=by simp[hA]
    have nI:t≠(s.heap.push {cls:= .type "set",dict:=none,data:= .set #[] 0 (.fresh 0 0 led)}).objs.size:=by rw[ybm];exact yam (yaw lt)
    have nf:s.heap.objs.size∉[(s.heap.push {cls:= .type "set",dict:=none,data:= .set #[] 0 (.fresh 0 0 led)}).objs.size,t]:=by
     rw[ybm];simp only[yaj,yar,ydn,or_false,not_or];exact⟨yam (yba _),ycu lt⟩
    refine loopG ((Walks.list hA3 _ t nI its).toS) s.heap.objs.size nf (fun i=>ns.getD i 0) (fun i v hv=>IntsAre.int_at hI i v (by rw[yco];exact hv)) hz (its.size-0) 0 _ (by omega) (yas _)
     ⟨⟨_,yal _ rfl,rfl,rfl⟩,ht1.push _⟩ ?hS0 ?hR
    case hS0=>exact⟨_,#[],0,_,yad _ g0,⟨rfl,rfl,rfl⟩,rfl,fun e he=>by simp at he,fun k=>by simp[firstMet],by unfold scanBound;simp,rfl,rfl,by rw[hled];exact fresh_ok led⟩
    case hR=>
     intro s' hm hS'
     obtain⟨g,g',d',tk',os'⟩:=s'
     obtain⟨rfl,rfl,rfl⟩:g'=s.gens/\d'=s.drawn/\os'=s.os:=⟨hm.gens,hm.drawn,hm.os⟩
     show wpAny _ _ _ _ _ _
     refine wpAny_pure ?_
     show wpAny _ _ (ret Value.none) _ _ _
     refine wpAny_pure ⟨rfl,g,tk',rfl,hS',fun b o hb e=>hm.heap b o ?_ (yad _ (yad _ e))⟩
     have n1:b≠s.heap.objs.size:=yam hb
     have n2:b≠(s.heap.push {cls:= .type "set",dict:=none,data:= .set #[] 0 (.fresh 0 0 led)}).objs.size:=by rw[ybm];exact yam (yaw hb)
     simp only[yaj,yar,ydn,or_false,not_or];exact⟨n1,n2⟩
   ·cases r₂ with
    |error e=>exact hr₂
    |ok fl₂=>
     cases fl₂ with
     |ret r=>
      obtain⟨rfl,g,tk,rfl,hS',hk'⟩:=hr₂
      repeat(any_goals(first |assumption|wp_step))
      exact fin _ _ hS' hk'
     |_=>exact hr₂.elim
  |_=>exact hr.elim
end
end L2
namespace Srt
open PySem PySem.W PyProof.Rows PySem.Calls
section
variable{prog:Program}{w:World}{A:Around}{E:Value->Shared->Prop}{s:Shared}
theorem collect_set{d:Addr}{es:Array (Int×Value)}{ep:Nat}{t:SetTable}{Q:List Value->Shared->Prop}(hA:A.handled=none)(S:SetAt w s.heap d es ep t)(hz:es.size<=1000)(h:∀h' tk dr items,(∀b o,s.heap.get? b=some o->h'.get? b=some o)->s.heap.objs.size<=h'.objs.size->List.Perm items (es.toList.map (·.2))->Q items {s with heap:=h',toks:=tk,drawn:=dr}):
  wpAny (model prog w) A (collect (.ref d)) Q E s:=by
 unfold collect
 refine wpAny_bind (wpAny_runValue (codeAny_builtin entry_proto_collect' ?_))
 show wpAny _ _ (do again (.builtin "list.__iadd__" ⟨[<-newList [],.ref d],[]⟩)) _ _ s
 refine wpAny_bind (wpAny_newList (wpAny_pure ⟨Code.quiet_builtin _ (by decide+kernel),codeAny_builtin entry_list_iadd' ?_⟩))
 rw[Around.under_plainId PySem.F.plain_list_iadd _]
 show wpAny _ _ (Builtin.List.listExtendWith (.ref s.heap.objs.size) (.ref d) (.ref s.heap.objs.size)) _ _ {s with heap:=s.heap.push (seqObj "list" #[] 0)}
 refine extend_set (R:=fun r s'=>match r with
   | .ok (.ret v)=>wpAny (model prog w) A (match v with
    | .ref a=>do match(<-load a).data with
     | .seq xs _=>pure xs.toList
     |_=>unsupported "internal:collect"
    |_=>unsupported "internal:collect") Q E s'
   | .ok _=>False
   | .error e=>E e s') (s:={s with heap:=s.heap.push (seqObj "list" #[] 0)}) (by simpa using hA) (S.push _) hz s.heap.objs.size _ 0 (yal _ rfl) fun h' tk dr acc c keep hl pm=> ?_
 show wpAny (model prog w) A (load s.heap.objs.size>>=_) Q E _
 refine wpAny_bind (wpAny_load hl ?_)
 exact wpAny_pure (h h' tk dr acc.toList (fun b o e=>keep b o (yam (yaq e)) (yad _ e)) (yan (yaq hl)) pm)
end
end Srt
namespace L2
open PySem PySem.Spec PyProof.Rows
noncomputable def iv:Value->Int
 | .int k _=>k
 |_=>0
theorem vals_iv:∀{us:List Value},(∀v∈us,∃k t,v= .int k t)->Vals ((us.map iv).map V.int) us
 |[],_=> .nil
 |v::us,h=>by
  obtain⟨k,t,rfl⟩:=h v yap
  exact .cons ⟨t,rfl⟩ (vals_iv fun u hu=>h u (yai _ hu))
theorem nd_le:∀{c t:List Int},c.Nodup->(∀x∈c,x∈t)->c.length<=t.length
 |[],_,_,_=>yas _
 |x::c,t,nd,h=>by
  have hx:=h x yap
  rw[ych]at nd
  have z:=nd_le (c:=c) (t:=t.erase x) nd.2 fun y hy=>(List.mem_erase_of_ne (fun e:y=x=>nd.1 (e▸hy))).mpr (h y (yai _ hy))
  rw[List.length_erase_of_mem hx]at z
  have p:0<t.length:=ydc hx
  rw[ybh]
  omega
theorem nd_of_len:∀{c t:List Int},c.Nodup->(∀x∈c,x∈t)->t.length<=c.length->t.Nodup:=by
 intro c t nd sub len
 refine Classical.byContradiction fun no=> ?_
 obtain⟨x,hx⟩:∃x,2<=t.count x:=by
  refine Classical.byContradiction fun n2=>no (List.nodup_iff_count.mpr fun a=> ?_)
  exact Nat.le_of_not_lt fun c2=>n2 ⟨a,c2⟩
 have hm:x∈t:=List.count_pos_iff.mp (by omega)
 have z:=nd_le (c:=c) (t:=t.erase x) nd fun y hy=>by
  by_cases e:y=x
  ·subst e
   exact List.count_pos_iff.mp (by rw[List.count_erase_self];omega)
  ·exact(List.mem_erase_of_ne e).mpr (sub y hy)
 rw[List.length_erase_of_mem hm]at z
 have p:0<t.length:=ydc hm
 omega
section
variable{prog:Program}{w:World}{A:Around}{E:Value->Shared->Prop}{s:Shared}
theorem firstMet_nd(val:Nat->Int):∀n,(firstMet val n).Nodup
 |0=> .nil
 |n+1=>by
  rw[firstMet_succ]
  unfold step_dedup
  split
  ·exact firstMet_nd val n
  ·rename_i h
   rw[List.nodup_append]
   refine⟨firstMet_nd val n,by simp,fun a ha b hb e=>h ?_⟩
   rw[List.any_eq_true]
   rw[yar.mp hb]at e
   exact⟨a,ha,by simp[e]⟩
theorem setG_list{d:Addr}{n:Nat}{val:Nat->Int}(G:SetG prog w s.heap d (fun k'=>(firstMet val n).any (· ==k')) (firstMet val n).length):
  ∃es ep t,SetAt w s.heap d es ep t/\es.size=(firstMet val n).length/\(∀v∈es.toList.map (·.2),∃k t,v= .int k t)/\((es.toList.map (·.2)).map iv).Nodup/\∀k,k∈(es.toList.map (·.2)).map iv↔k∈firstMet val n:=by
 obtain⟨o,es,ep,t,ho,hx,hd,el,mem,lt,ft,en,tb⟩:=G
 have hInt:∀v∈es.toList.map (·.2),∃k t,v= .int k t:=fun v hv=>by
  obtain⟨e,he,rfl⟩:=ybk.mp hv
  obtain⟨⟨k,hk,_⟩,_⟩:=el e he
  exact⟨k,Value.isInt_shape (k:=k) (v:=e.2) hk⟩
 have mm:∀k,k∈(es.toList.map (·.2)).map iv↔k∈firstMet val n:=fun k=>by
  have m:=mem k
  have e1:(firstMet val n).any (· ==k)=true↔k∈firstMet val n:=by
   rw[List.any_eq_true]
   exact⟨fun⟨x,hx,e⟩=>by rw[<-beq_iff_eq.mp e];exact hx,fun h=>⟨k,h,by simp⟩⟩
  rw[<-e1,m]
  constructor
  ·intro h
   obtain⟨v,hv,rfl⟩:=ybk.mp h
   obtain⟨j,tk,rfl⟩:=hInt v hv
   obtain⟨e,he,e2⟩:=ybk.mp hv
   exact⟨e,he,by rw[e2];exact intKind_is _ _ _ _⟩
  ·rintro⟨e,he,z⟩
   obtain⟨tk,e2⟩:=Value.isInt_shape (k:=k) (v:=e.2) z
   exact ybk.mpr ⟨e.2,ybk.mpr ⟨e,he,rfl⟩,by rw[e2];rfl⟩
 refine⟨es,ep,t,⟨⟨o,ho,hx,hd⟩,ft,tb⟩,en,hInt,?_,mm⟩
 exact nd_of_len (firstMet_nd val n) (fun x hx=>(mm x).mpr hx) (by rw[yaa,yaa,ybb,en];exact yab _)
end
end L2
namespace Srt
open PySem PySem.W PyProof.Rows PySem.Calls
section
variable{prog:Program}{w:World}{A:Around}{E:Value->Shared->Prop}{s:Shared}
theorem sorted_set{d:Addr}{es:Array (Int×Value)}{ep:Nat}{t:SetTable}{Q:Value->Shared->Prop}(hA:A.handled=none)(S:SetAt w s.heap d es ep t)(h64:es.size<64)(hi:∀v∈es.toList.map (·.2),∃k t,v= .int k t)(q:∀D h' tk dr out c (ys:List Int),ys.Perm ((es.toList.map (·.2)).map L2.iv)->ys.Pairwise (· <= ·)->L2.Vals (ys.map L2.V.int) out->s.heap.objs.size<=D->(∀b o,s.heap.get? b=some o->h'.get? b=some o)->h'.get? D=some (seqObj "list" (List.toArray out) c)->Q (.ref D) {s with heap:=h',toks:=tk,drawn:=dr}):
  wpAny (model prog w) A (call (.builtin "sorted") [.ref d]) Q E s:=by
 refine Calls.call_function_entry kind_sorted plain_sorted entry_sorted (args_sorted1 _) ?_
 unfold Builtin.«sorted»
 refine wpAny_bind (m:=checkCount "sorted" 1 1 _) (wpAny_pure (wpAny_bind (collect_set (by simpa using hA) S (by omega) fun h1 tk dr vs keep1 le pm=> ?_)))
 have hi':∀v∈vs,∃k t,v=Value.int k t:=fun v hv=>hi v (pm.mem_iff.mp hv)
 have rv:=L2.vals_iv hi'
 have pm':(vs.map L2.iv).Perm ((es.toList.map (·.2)).map L2.iv):=pm.map _
 have hl:vs.length=es.size:=by rw[pm.length_eq,yaa,ybb]
 have hln:(vs.map L2.iv).length=vs.length:=yaa _
 generalize vs.map L2.iv=ns at *
 have pr:=L2.vals_paired rv
 have hI:IntsAre vs ns:=L2.intsAre_of rv
 refine wpAny_bind (wpAny_newList ?_ (by rw[sizeLine_eq];omega))
 have hoL:(h1.push (seqObj "list" vs.toArray 0)).get? h1.objs.size=some (seqObj "list" vs.toArray 0):=yal _ rfl
 have keep:∀b o,s.heap.get? b=some o->(h1.push (seqObj "list" vs.toArray 0)).get? b=some o:=fun b o e=>yad _ (keep1 b o e)
 have ne:∀b o,s.heap.get? b=some o->b≠h1.objs.size:=fun b o e=>yam (yaq (keep1 b o e))
 refine wpAny_bind (wpAny_holding (wpAny_call_entry slot_list_sort ⟨_,hoL,rfl⟩ entry_list_sort ?body (args_list_sort _)))
 case body=>
  refine list_sort_own (O:=intOrd) (key:=fun i=>ns.getD i 0) (κ:=oneType') (s:={s with heap:=h1.push (seqObj "list" vs.toArray 0),toks:=tk,drawn:=dr}) hoL (by omega)
   (fun h2 h' k Q hq=> ?_) (fun h2 h' k=> ?_) fun h' out c ho k hc=> ?_
  ·rw[ksk_kind (kz:=ns) (by simpa using hI) (by simpa using h2)]
   exact wpAny_pure hq
  ·intro i j C hi hj hC
   rw[<-hln]at hi hj
   unfold PySem.W.kas_ask
   obtain⟨t1,e1⟩:=L2.ints_at pr i hi
   obtain⟨t2,e2⟩:=L2.ints_at pr j hj
   rw[e1,e2]
   refine PySem.W.kat_lt_int ?_
   have hC':C (decide (ns.getD i 0<ns.getD j 0)) _:=hC
   have e3:ns.getD i 0=ns[i]:=by simp[hi]
   have e4:ns.getD j 0=ns[j]:=by simp[hj]
   rw[e3,e4]at hC'
   exact hC'
  ·obtain⟨ys,hp,hr,hw⟩:=Srt.outs_of (d:=(0:Int)) (f:=fun p=>p) pr (fun i hi=>by show ns.getD i 0=_;simp[hi]) ho
   refine⟨_,rfl,wpAny_pure ⟨_,rfl,q _ h' tk dr out c ys (hp.trans pm') (hw.imp fun{x y} hxy=> ?_) (L2.paired_vals hr) le (fun b o e=>k b o (ne b o e) (keep b o e)) hc⟩⟩
   have:decide (y<x)=false:=hxy
   have:=of_decide_eq_false this
   omega
end
end Srt
namespace L2
open PySem PySem.Spec PyProof.Rows
section
variable{X:Cx}{a:Expr}{ta:TA}{p p' pos pos':Pos}
noncomputable def tSortSet(K:W.Frag)(ta:TA):TE:=fun σ H Q=>ta σ H fun vs H1=>∃(b:Bool) (l:Addr) (ns:List Int),vs=[.ref l]/\SqE K b H1 l (ns.map V.int)/\ns.length<60/\
 ∀(r:Addr) (ys:List Int),H1 r=none->ys.Pairwise (· < ·)->(∀k,k∈ys↔k∈ns)->Q (.ref r) (upd H1 r (.lst (ys.map V.int)))
theorem pe_sortedSet(hc:X.calm=true)(hgL:Gl X "sorted")(hmL:X.mg "sorted"=none)(hg:Gl X "set")(hm:X.mg "set"=none)(ha:PA X [a] ta)(hs:starEach [a] X.env=[(false,eval a X.env)]:=by rfl)(hs2:starEach [Expr.Call (.Name "set" p') [a] [] pos'] X.env=[(false,eval (Expr.Call (.Name "set" p') [a] [] pos') X.env)]:=by rfl):
  PE X (.Call (.Name "sorted" p) [.Call (.Name "set" p') [a] [] pos'] [] pos) (tSortSet X.K ta):=by
 intro pins s σ H Q I h
 refine wpAny_Call_Name_kw (ld_blt I hgL hmL (show bootBuiltins "sorted"=some (.builtin "sorted")from by decide+kernel) ?_ (by decide) (by decide))
 refine PyProof.Rows.callWith_builtin1 ?_ hs2 rfl
 rw[hs2]
 refine Calls.spliced_cons ?_
 refine Call_ (ld_blt I hg hm (show bootBuiltins "set"=some (.type "set")from by decide+kernel) (PyProof.Rows.callWith_type1 (thn (ha pos' pins s σ H _ I h) fun us s1 ⟨vs,H1,I1,r1,q1⟩=> ?_) hs rfl))
 obtain⟨b,l,ns,e,hq,hz,q⟩:=q1
 subst e
 cases r1 with
 |cons r rr=>
  cases rr
  cases r
  have main:∀its:List Value,Vals (ns.map V.int) its->∀(g:Heap) (tk:Nat),SetG X.prog X.w g s1.heap.objs.size (fun k'=>(firstMet (fun i=>ns.getD i 0) its.toArray.size).any (· ==k')) (firstMet (fun i=>ns.getD i 0) its.toArray.size).length->(∀b o,b<s1.heap.objs.size->s1.heap.get? b=some o->g.get? b=some o)->
    wpAny (model X.prog X.w) X.A (call (.builtin "sorted") [.ref s1.heap.objs.size]) (EP X pins σ Q) X.xe {s1 with heap:=g,toks:=tk}:=by
   intro its rv g tk G keep
   have hln:its.toArray.size=ns.length:=by rw[yah];exact IntsAre.length (intsAre_of rv)
   obtain⟨es,ep,t,S,en,hInt,nd,mm⟩:=setG_list (s:={s1 with heap:=g,toks:=tk}) G
   have hle:=firstMet_length_le (fun i=>ns.getD i 0) its.toArray.size
   have szg:s1.heap.objs.size<=g.objs.size:=by obtain⟨o,ho,_⟩:=S.ob;exact yan (yaq ho)
   refine Srt.sorted_set (s:={s1 with heap:=g,toks:=tk}) (I.ok.hd hc) S (by omega) hInt fun D h' tk' dr out c ys hp hw rv' hD k hO=> ?_
   have zl:(ys.map V.int).length<=sizeLine:=by
    have h1:=hp.length_eq
    have h2:es.toList.length=es.size:=ybb
    simp only[yaa]at h1
    rw[yaa,sizeLine_eq];omega
   have J:Inv X pins σ (upd H1 D (.lst (ys.map V.int))) {s1 with heap:=h',toks:=tk'}:=I1.laid (fun b o e=>k b o (keep b o (yaq e) e)) (yau szg hD) ⟨zl,out,c,rv',hO⟩
   have J':Inv X pins σ (upd H1 D (.lst (ys.map V.int))) {s1 with heap:=h',toks:=tk',drawn:=dr}:=⟨J.ok,J.os,J.bare,J.base,J.loc,J.cell,J.free,J.freeC,J.pin,J.hok,J.len⟩
   refine⟨.ref D,_,J',rfl,q D ys (I1.hok.fresh (yau szg hD)) ?_ fun k=> ?_⟩
   ·have nd':ys.Nodup:=hp.nodup_iff.mpr nd
    have both:=hw.and nd'
    exact both.imp fun{x y} h=>by have:=h.1;have:=h.2;omega
   ·rw[hp.mem_iff,mm,hln,firstMet_mem,ybp]
    exact yab _
  cases b with
  |true=>
   obtain⟨its,rv,pl,_⟩:=I1.tuple (show SqT X.K H1 l (ns.map V.int)from hq)
   have hi:IntsAre its ns:=intsAre_of rv
   have hln:its.length=ns.length:=IntsAre.length hi
   refine set_tupleG (ns:=ns) (I.ok.hd hc) (show s1.heap.IsTuple l its.toArray from pl) (by simpa using hi) (by unfold scanBound;simp;omega) fun g tk G keep=> ?_
   exact Calls.spliced_nil (main its rv g tk G keep)
  |false=>
   obtain⟨its,rv,pl,_⟩:=I1.list (show SqL X.K H1 l (ns.map V.int)from hq)
   have hi:IntsAre its ns:=intsAre_of rv
   have hln:its.length=ns.length:=IntsAre.length hi
   refine set_listG (ns:=ns) (I.ok.hd hc) pl.isList (by simpa using hi) (by unfold scanBound;simp;omega) fun g tk G keep=> ?_
   exact Calls.spliced_nil (main its rv g tk G keep)
end
section
variable{prog:Program}{w:World}{A:Around}{E:Value->Shared->Prop}{s:Shared}
end
section
variable{X:Cx}{o e:Expr}{to:TE}{t:TA}{apos cpos:Pos}
end
section
variable{X:Cx}{e e1 e2:Expr}{es:List Expr}{te:TE}{pos:Pos}
end
section
variable{X:Cx}{e:Expr}{te:TE}{pos:Pos}
end
section
variable{X:Cx}{tg l:Expr}{tl:TE}
end
section
variable{g:TG}{tc:TT}{te:TE}{Fin:List V->Hp->Prop}{ini:St}{H:Hp}
end
end L2
namespace SplJ
open PySem PySem.StrLaws PySem.Builtin.Str
section
variable{c:Nat}{ys:List Nat}
end
end SplJ
namespace DH
open PySem PySem.W PyProof.Rows PySem.Calls
section
variable{prog:Program}{w:World}{A:Around}{E:Value->Shared->Prop}{s:Shared}{d it:Addr}{es:Array DictEntry}{ep i:Nat}
end
section
variable{M:Model}{A:Around}{E:Value->Shared->Prop}{s:Shared}
end
section
variable{prog:Program}{w:World}{A:Around}{E:Value->Shared->Prop}{s:Shared}
end
section
variable{prog:Program}{w:World}{A:Around}{E:Value->Shared->Prop}{s:Shared}{d:Addr}{es:Array DictEntry}{ep:Nat}
end
end DH
namespace L2
open PySem PySem.Spec PyProof.Rows
section
variable{X:Cx}
end
end L2
namespace DH
open PySem PySem.W PyProof.Rows PySem.Calls
section
variable{prog:Program}{w:World}{K:Type} [DecidableEq K]{knd:HeapKind prog w K}{A:Around}{E:Value->Shared->Prop}{s:Shared}
end
end DH
namespace L2
open PySem PySem.Spec PyProof.Rows
section
variable{X:Cx}
end
section
variable{X:Cx}
noncomputable def rCatR:R2:=fun x y H Q=>∃a b xs ys,x= .ref a/\y= .ref b/\H a=some (.tup xs)/\H b=some (.tup ys)/\xs.length+ys.length<=sizeLine/\∀r H',Same H H'->H' r=some (.tup (xs++ys))->Q (.ref r) H'
theorem op_catR:OpR X (binaryOp .Add) rCatR:=by
 intro pins s σ H x y v u Q I rx ry h
 obtain⟨a,b,xs,ys,rfl,rfl,ha,hb,hz,q⟩:=h
 by_cases hx:xs=[]
 ·subst hx
  cases rx
  cases ry
  obtain⟨its,r1,p1,_⟩:=I.tuple (SqT.of (K:=X.K) ha)
  obtain⟨its2,r2,p2,_⟩:=I.tuple (SqT.of (K:=X.K) hb)
  cases r1
  obtain⟨⟨cls,dd,data,sl⟩,ho,hc,n,hd⟩:=id p1
  obtain⟨⟨cls2,dd2,data2,sl2⟩,ho2,hc2,n2,hd2⟩:=id p2
  simp only at hc hd hc2 hd2
  subst hc hd hc2 hd2
  exact concat_meets ⟨_,ho,rfl⟩ ⟨_,ho2,rfl⟩ noFill_tuple_add seq_tuple_add PySem.F.slot_tuple_add PySem.F.entry_tuple_add (PySem.F.args_tuple_add_2 _ _)
   (tuple_addW0 a b _ _ n n2 dd dd2 sl sl2 (by simp)) ⟨ho,ho2,⟨.ref b,H,I,rfl,q b H (Same.refl _) hb⟩⟩
 ·refine op_catT pins s σ H _ _ v u Q I rx ry ⟨a,b,xs,ys,rfl,rfl,SqT.of ha,SqT.of hb,hx,hz,fun e=> ?_,fun e p hp=> ?_⟩
  ·subst e
   exact q a H (Same.refl _) (by rw[ybo];exact ha)
  ·exact q p _ (fun c o e=>by rw[zai (zal e hp)];exact e) zab
end
section
variable{X:Cx}{scope:Scope}{caps:List Str}{ix:List Nat}{y:Str}{A:Around}{pins:List (Addr×Obj)}{σ:St}{H:Hp}{s:Shared}{f:Addr}{cdv:Value}{v:V}{u:Value}
end
section
variable{X:Cx}{scope:Scope}{pins:List (Addr×Obj)}{σ:St}{H:Hp}{s:Shared}{c P:Addr}{pos:Pos}{params:Arguments}{body:Expr}{A:Around}{E:Value->Shared->Prop}{Q:Value->Shared->Prop}
end
section
variable{X:Cx}{σ:St}{H:Hp}{s:Shared}{pins:List (Addr×Obj)}
variable{I S f l:Addr}{fo:Obj}{vs:List Value}{RR:Result->Shared->Prop}
end
section
variable{X:Cx}{a body:Expr}{ta:TA}{te:TE}{p kp pos lpos:Pos}{k:Nat}{scope:Scope}{caps:List Str}{ix:List Nat}{y:Str}{params:Arguments}{c P:Addr}
end
end L2
namespace DH
open PySem PySem.W PyProof.Rows PySem.Calls
section
variable{prog:Program}{w:World}{A:Around}{E:Value->Shared->Prop}{s:Shared}{d it v:Addr}{es:Array DictEntry}{ep i:Nat}
end
end DH
namespace L2
open PySem PySem.Spec PyProof.Rows
section
variable{X:Cx}{pins pins0:List (Addr×Obj)}{σ σ0:St}{H H0:Hp}{s s0:Shared}{d:Addr}{kvs:List (List Key×V)}{o:Obj}
theorem op_notInT(hu:X.A.units+64<cLine):OpR X (compareOp .NotIn) (fun x y H Q=>∃a o,y= .ref a/\DGet H a x o/\Q (.bl (!o.isSome)) H):=by
 intro pins s σ H x y v u Q I rx ry h
 obtain⟨a,o,rfl,g,q⟩:=h
 cases ry
 exact d_notIn (by omega) I g rx fun s3 I3=>⟨.bl (!o.isSome),H,I3,rfl,q⟩
end
section
variable{d:Addr}{o:Obj}{kvs:List (List Key×V)}{g:TG}{tc:TT}{te:TE}{Fin:List V->Hp->Prop}{ini:St}{H:Hp}
end
noncomputable def isK(k:Int):Value->Bool
 | .int i _=>i==k
 |_=>false
theorem vals_from{i:Int}:∀{n:Nat} {us:List Value},us.length=n->(∀(j:Nat) (u:Value),us[j]? =some u->∃t:Tok,u=Value.int (i+((j:Nat):Int)*1) t)->Vals (((List.range n).map fun(k:Nat)=>i+(k:Int)).map V.int) us:=by
 intro n us hl hi
 have go:∀(us:List Value) (k:Nat),(∀(j:Nat) (u:Value),us[j]? =some u->∃t:Tok,u=Value.int (i+((j+k:Nat):Int)*1) t)->Vals (((List.range' k us.length).map fun(k:Nat)=>i+(k:Int)).map V.int) us:=by
  intro us
  induction us with
  |nil=>intro k _;exact .nil
  |cons u us ih=>
   intro k h
   obtain⟨t,e⟩:=h 0 u rfl
   refine .cons ⟨t,?_⟩ ?_
   ·rw[e]
    show Value.int (i+((0+k:Nat):Int)*1) t=Value.int (i+(k:Int)) t
    congr 1;omega
   ·refine ih (k+1) fun j u hu=> ?_
    obtain⟨t,e⟩:=h (j+1) u (by simpa using hu)
    exact⟨t,by rw[e];congr 1;omega⟩
 have:=go us 0 fun j u hu=>hi j u hu
 rw[hl,<-List.range_eq_range']at this
 exact this
section
variable{X:Cx}{e a b:Expr}{ta:TE}{f:Str}{pos p p' pos':Pos}
theorem pe_fldK(K:W.Frag)(he:PE X e ta)(hb:attributeBase e f X.env (eval e X.env)=eval e X.env)(h:X.K=K:=by rfl):PE X (.Attribute e f pos) (tFld K ta f):=by subst h;exact zbx he hb
theorem mt_indexI:MtM X "list.index" (fun x vs H Q=>∃(l:Addr) (ns:List Int) (k:Int) (j:Nat),x= .ref l/\vs=[.int k]/\H l=some (.lst (ns.map V.int))/\ns[j]? =some k/\(∀i,i<j->ns[i]? ≠some k)/\ns.length<=1000/\Q (.int (j:Nat)) H):=by
 intro pins s σ H x vs v us Q I rx rv h
 obtain⟨l,ns,k,j,rfl,rfl,hH,hj,hno,hb,q⟩:=h
 cases rx
 obtain⟨u,rfl,ru⟩:=rv.one
 obtain⟨t,rfl⟩:=ru
 obtain⟨z,its,n,r,hl,e⟩:=I.lstM hH
 rw[yaa]at z hl
 have hI:∀(i:Nat) (v:Value),its[i]? =some v->∃t,v= .int (ns.getD i 0) t/\ns[i]? =some (ns.getD i 0):=fun i v hv=>by
  have hi:i<ns.length:=by have:=(yao.mp hv).1;omega
  have e0:ns[i]? =some (ns.getD i 0):=by rw[yag,yac hi];rfl
  obtain⟨u,hu,ru⟩:=r.get (show(ns.map V.int)[i]? =some (.int (ns.getD i 0)) by rw[yae,e0];rfl)
  rw[hv]at hu
  cases hu
  obtain⟨t,rfl⟩:=ru
  exact⟨t,rfl,e0⟩
 have hj':j<its.length:=by have:=(yao.mp hj).1;omega
 refine call_meets F.slot_list_index ⟨_,e,rfl⟩ F.entry_list_index (F.args_list_index_2 _ _)
  (MeetsSeq.list_index l its.toArray n (.int k t) (isK k) (fun y hy=> ?_) j (by simpa using hj') (by omega) ?_ (fun i hi hlt=> ?_)) ⟨e,?_⟩
 ·obtain⟨i,hi,rfl⟩:=ybw (show y∈its by simpa using hy)
  obtain⟨t',e',_⟩:=hI i its[i] (yac hi)
  rw[e']
  exact MeetsSeq.EqGives.int _ _ _ _
 ·obtain⟨t',e',e0⟩:=hI j its[j] (yac hj')
  show isK k its[j]=true
  rw[e']
  rw[hj]at e0
  have:k=ns.getD j 0:=Option.some.inj e0
  show(ns.getD j 0==k)=true
  rw[<-this];exact beq_self_eq_true _
 ·have hi':i<its.length:=by simpa using hi
  obtain⟨t',e',e0⟩:=hI i its[i] (yac hi')
  show isK k its[i]=false
  rw[e']
  show(ns.getD i 0==k)=false
  refine beq_eq_false_iff_ne.mpr fun z=>hno i hlt ?_
  rw[e0,z]
 ·exact⟨.int (j:Nat),H,I.tok _,⟨s.toks,rfl⟩,q⟩
end
section
variable{X:Cx}{a b:Expr}{ta:TA}{p pos p' pos':Pos}
noncomputable def rngFT(i:Int)(n:Nat):List Int:=(List.range n).map fun(k:Nat)=>i+(k:Int)
noncomputable def tLstR2(ta:TA):TE:=fun σ H Q=>ta σ H fun vs H1=>∃i j:Int,vs=[.int i,.int j]/\0<=i/\i<=j/\j<=1000000/\∀l,H1 l=none->Q (.ref l) (upd H1 l (.lst ((rngFT i (j-i).toNat).map V.int)))
theorem pe_lstRange2(hc:X.calm=true)(hgT:Gl X "list")(hmT:X.mg "list"=none)(hg:Gl X "range")(hm:X.mg "range"=none)(ha:PA X [a,b] ta)(hs:starEach [a,b] X.env=[(false,eval a X.env),(false,eval b X.env)]:=by rfl)(hs':starEach [b] X.env=[(false,eval b X.env)]:=by rfl)(hs2:starEach [Expr.Call (.Name "range" p') [a,b] [] pos'] X.env=[(false,eval (Expr.Call (.Name "range" p') [a,b] [] pos') X.env)]:=by rfl):
  PE X (.Call (.Name "list" p) [.Call (.Name "range" p') [a,b] [] pos'] [] pos) (tLstR2 ta):=by
 intro pins s σ H Q I h
 refine wpAny_Call_Name_kw (ld_blt I hgT hmT (show bootBuiltins "list"=some (.type "list")from by decide+kernel) ?_ (by decide) (by decide))
 refine PyProof.Rows.callWith_type1 ?_ hs2 rfl
 rw[hs2]
 refine Calls.spliced_cons ?_
 refine Call_ (ld_blt I hg hm boot_range (PyProof.Rows.callWith_type1 (thn (ha pos' pins s σ H _ I h) fun us s1 ⟨vs,H1,I1,r1,q1⟩=> ?_) (by rw[hs,hs']) (by rw[hs'];rfl)))
 obtain⟨i,j,e,q0,q1,q2,q⟩:=q1
 subst e
 cases r1 with
 |cons r rr=>
  cases rr with
  |cons r' rr=>
   cases rr
   obtain⟨t,rfl⟩:=r
   obtain⟨t',rfl⟩:=r'
   refine call_range_2 ?_
   refine Calls.spliced_nil ?_
   have hn:Builtin.Range.rangeSize i j 1=(((j-i).toNat:Nat):Int):=by rw[rangeSize_one];split<;>omega
   refine call_list_range (I.ok.hd hc) (IsRange.new ..) (small_one (by omega) (by omega) (by omega) (by omega)) hn (by omega) fun h' tk acc c hk hS hacc=> ?_
   have hv:Vals ((rngFT i (j-i).toNat).map V.int) acc.toList:=vals_from (by rw[ybb];exact hacc.1) (fun k u hu=>hacc.2 k u (by simpa using hu))
   have hz:((rngFT i (j-i).toNat).map V.int).length<=sizeLine:=by unfold rngFT;rw[sizeLine_eq];simp;omega
   have I2:Inv X pins σ H1 {s1 with heap:=s1.heap.push {cls:=Value.type "range",data:=Data.fields #[Value.int i t,Value.int j t',Value.int 1 s1.toks]},toks:=s1.toks+1}:=I1.kept fun b o e=>yad _ e
   exact⟨.ref _,_,I2.laid (t':=tk) (o:= .lst ((rngFT i (j-i).toNat).map V.int)) hk (yab _) ⟨hz,acc.toList,c,hv,by simpa using hS⟩,rfl,q _ (I2.hok.fresh (yab _))⟩
end
structure Mdf(K:W.Frag)(C:Addr)(x qual:Str)(st:Stmt)(ps:List Str)(f:Addr)(fd:FuncData):Prop where
 F:Fun K x qual st f fd
 b:Binds K fd ps []
 m:Meth K C x f
end L2
namespace PySem
open Sem (wp)
section
variable{prog:Program}{w:World}{A:Around}{E:Value->Shared->Prop}{s:Shared}
end
section
variable{prog:Program}{w:World}{A:Around}{E:Value->Shared->Prop}{s:Shared}
end
end PySem
namespace L2
open PySem PySem.Spec PyProof.Rows
section
variable{X:Cx}{es:List Expr}{k:Nat}{pos0:Pos}
end
section
variable{ini:St}{H:Hp}{g:TG}{tc:TT}{te:TE}{Fin:List V->Hp->Prop}{K:W.Frag}{a b:Addr}{xs ys:List V}
end
end L2
namespace HT
open PySem PyProof.Rows
section
open PySem.SeqAt
open PySem.AutoSeq1 (wpAny_loadPart')
open PySem.MeetsSeq PySem.MeetsSeq2 PySem.MeetsSeq3
end
section
variable{prog:Program}{w:World}{A:Around}{E:Value->Shared->Prop}{s:Shared}
end
end HT
namespace L2
open PySem PySem.Spec PyProof.Rows
section
variable{X:Cx}
end
end L2
namespace Sx
noncomputable abbrev Vec:=Nat->Int
noncomputable abbrev Mat:=Nat->Vec
noncomputable def sm:Nat->(Nat->Int)->Int
 |0,_=>0
 |k+1,f=>sm k f+f k
theorem sm_congr{f g:Nat->Int}:∀k,(∀i,i<k->f i=g i)->sm k f=sm k g
 |0,_=>rfl
 |k+1,h=>by
  show sm k f+f k=sm k g+g k
  rw[sm_congr k fun i hi=>h i (yaw hi),h k (yba k)]
theorem sm_add(f g:Nat->Int):∀k,sm k (fun i=>f i+g i)=sm k f+sm k g
 |0=>rfl
 |k+1=>by
  show sm k (fun i=>f i+g i)+(f k+g k)=sm k f+f k+(sm k g+g k)
  rw[sm_add f g k];omega
theorem sm_mul(a:Int)(f:Nat->Int):∀k,sm k (fun i=>a*f i)=a*sm k f
 |0=>by show(0:Int)=a*0;rw[ycc]
 |k+1=>by
  show sm k (fun i=>a*f i)+a*f k=a*(sm k f+f k)
  rw[sm_mul a f k,Int.mul_add]
theorem sm_zero{f:Nat->Int}:∀k,(∀i,i<k->f i=0)->sm k f=0
 |0,_=>rfl
 |k+1,h=>by
  show sm k f+f k=0
  rw[sm_zero k fun i hi=>h i (yaw hi),h k (yba k)];rfl
theorem sm_one{f:Nat->Int}{j:Nat}:∀k,j<k->(∀i,i<k->i≠j->f i=0)->sm k f=f j
 |k+1,hj,h=>by
  show sm k f+f k=f j
  by_cases e:j=k
  ·subst e
   rw[sm_zero j fun i hi=>h i (yaw hi) (yam hi),Int.zero_add]
  ·rw[sm_one k (by omega) fun i hi=>h i (yaw hi),h k (yba k) (Ne.symm e),Int.add_zero]
theorem sm_two{f:Nat->Int}{j:Nat}:∀k,j+1<k->(∀i,i<k->i≠j->i≠j+1->f i=0)->f j+f (j+1)=0->sm k f=0
 |k+1,hj,h,z=>by
  show sm k f+f k=0
  by_cases e:j+1=k
  ·subst e
   rw[sm_one (j:=j) (j+1) (yba _) fun i hi hn=>h i (yaw hi) hn (yam hi)]
   exact z
  ·rw[sm_two k (by omega) (fun i hi=>h i (yaw hi)) z,h k (yba k) (by omega) (Ne.symm e)];rfl
theorem sm_swap(f:Nat->Nat->Int)(m:Nat):∀k,sm k (fun i=>sm m (fun j=>f i j))=sm m (fun j=>sm k (fun i=>f i j))
 |0=>by show(0:Int)=sm m fun _=>0;rw[sm_zero m fun _ _=>rfl]
 |k+1=>by
  show sm k (fun i=>sm m (fun j=>f i j))+sm m (fun j=>f k j)=sm m (fun j=>sm k (fun i=>f i j)+f k j)
  rw[sm_swap f m k,sm_add]
theorem sm_nn{f:Nat->Int}:∀k,(∀i,i<k->0<=f i)->0<=sm k f
 |0,_=>ycs _
 |k+1,h=>Int.add_nonneg (sm_nn k fun i hi=>h i (yaw hi)) (h k (yba k))
theorem sm_neg{f:Nat->Int}:∀k,sm k f<0->∃i,i<k/\f i<0
 |0,h=>absurd h (Int.lt_irrefl 0)
 |k+1,h=>by
  by_cases c:f k<0
  ·exact⟨k,yba k,c⟩
  ·have h':sm k f+f k<0:=h
   obtain⟨i,hi,hf⟩:=sm_neg k (f:=f) (by omega)
   exact⟨i,yaw hi,hf⟩
theorem sm_none{f:Nat->Int}:∀k,(∀i,i<k->0<=f i)->sm k f<=0->∀i,i<k->f i=0
 |0,_,_,i,hi=>absurd hi (ycx i)
 |k+1,h,z,i,hi=>by
  have h1:=sm_nn k fun i hi=>h i (yaw hi)
  have h2:=h k (yba k)
  have z':sm k f+f k<=0:=z
  by_cases e:i=k
  ·subst e;omega
  ·exact sm_none k (fun i hi=>h i (yaw hi)) (by omega) i (by omega)
noncomputable def sg(i:Nat):Int:=if i %2=0 then 1 else -1
theorem sg_succ(i:Nat):sg (i+1)= -sg i:=by
 unfold sg
 rcases Nat.mod_two_eq_zero_or_one i with h|h
 ·rw[if_pos h,if_neg (by omega)]
 ·rw[if_pos (by omega),if_neg (by omega)];rfl
theorem sg_abs(i:Nat):sg i=1\/sg i= -1:=by unfold sg;split;exact .inl rfl;exact .inr rfl
noncomputable def skp(i r:Nat):Nat:=if r<i then r else r+1
noncomputable def uns(i r:Nat):Nat:=if r<i then r else r-1
theorem skp_ne(i r:Nat):skp i r≠i:=by unfold skp;split<;>omega
theorem skp_iff{i r j:Nat}(h:j≠i):skp i r=j↔r=uns i j:=by unfold skp uns;split<;>split<;>omega
theorem skp_lt{i r k:Nat}(hi:i<k+1)(hr:r<k):skp i r<k+1:=by unfold skp;split<;>omega
theorem uns_lt{i j k:Nat}(h:j≠i)(hi:i<k+1)(hj:j<k+1):uns i j<k:=by unfold uns;split<;>omega
noncomputable def mnr(M:Mat)(i:Nat):Mat:=fun r c=>M (skp i r) (c+1)
noncomputable def det:Nat->Mat->Int
 |0,_=>1
 |k+1,M=>sm (k+1) fun i=>sg i*M i 0*det k (mnr M i)
noncomputable def put(M:Mat)(r:Nat)(v:Vec):Mat:=fun i=>if i=r then v else M i
theorem put_same(M:Mat)(r:Nat)(v:Vec):put M r v r=v:=by unfold put;rw[if_pos rfl]
theorem put_ne(M:Mat){r i:Nat}(v:Vec)(h:i≠r):put M r v i=M i:=by unfold put;rw[if_neg h]
theorem put_self(M:Mat)(r:Nat):put M r (M r)=M:=by funext i;unfold put;split;rename_i h;rw[h];rfl
theorem put_comm(M:Mat){r t:Nat}(u v:Vec)(h:r≠t):put (put M r u) t v=put (put M t v) r u:=by
 funext i;unfold put
 by_cases h1:i=t
 ·by_cases h2:i=r
  ·exact absurd (h2.symm.trans h1) h
  ·rw[if_pos h1,if_neg h2,if_pos h1]
 ·rw[if_neg h1]
  by_cases h2:i=r
  ·rw[if_pos h2,if_pos h2]
  ·rw[if_neg h2,if_neg h2,if_neg h1]
theorem mnr_put_same(M:Mat)(i:Nat)(v:Vec):mnr (put M i v) i=mnr M i:=by
 funext r c;unfold mnr;rw[put_ne _ _ (skp_ne i r)]
theorem mnr_put(M:Mat){i j:Nat}(v:Vec)(h:j≠i):mnr (put M j v) i=put (mnr M i) (uns i j) (fun c=>v (c+1)):=by
 funext r c
 unfold mnr put
 by_cases e:r=uns i j
 ·rw[if_pos e,if_pos ((skp_iff h).mpr e)]
 ·rw[if_neg e,if_neg fun z=>e ((skp_iff h).mp z)]
theorem det_congr:∀k {M N:Mat},(∀i,i<k->∀j,j<k->M i j=N i j)->det k M=det k N
 |0,_,_,_=>rfl
 |k+1,M,N,h=>sm_congr (k+1) fun i hi=>by
  rw[h i hi 0 (ybu k),det_congr k (M:=mnr M i) (N:=mnr N i) fun r hr c hc=>h _ (skp_lt hi hr) _ (Nat.succ_lt_succ hc)]
theorem det_lin:∀k (M:Mat) (r:Nat) (a b:Int) (u v:Vec),r<k->det k (put M r fun c=>a*u c+b*v c)=a*det k (put M r u)+b*det k (put M r v)
 |k+1,M,r,a,b,u,v,hr=>by
  unfold det
  rw[<-sm_mul,<-sm_mul,<-sm_add]
  refine sm_congr (k+1) fun i hi=> ?_
  by_cases e:r=i
  ·subst e
   rw[mnr_put_same,mnr_put_same,mnr_put_same,put_same,put_same,put_same]
   grind
  ·rw[mnr_put _ _ e,mnr_put _ _ e,mnr_put _ _ e,put_ne _ _ (Ne.symm e),put_ne _ _ (Ne.symm e),put_ne _ _ (Ne.symm e),det_lin k (mnr M i) (uns i r) a b (fun c=>u (c+1)) (fun c=>v (c+1)) (uns_lt e hi hr)]
   grind
theorem det_adj:∀k (M:Mat) (r:Nat),r+1<k->M r=M (r+1)->det k M=0
 |k+1,M,r,hr,e=>by
  unfold det
  refine sm_two (j:=r) (k+1) hr (fun i hi h1 h2=> ?_) ?_
  ·have z:det k (mnr M i)=0:=by
    by_cases c:i<r
    ·refine det_adj k (mnr M i) (r-1) (by omega) ?_
     funext x;unfold mnr skp
     rw[if_neg (by omega),if_neg (by omega),show r-1+1=r by omega,e]
    ·refine det_adj k (mnr M i) r (by omega) ?_
     funext x;unfold mnr skp
     rw[if_pos (by omega),if_pos (by omega),e]
   rw[z,ycc]
  ·have z:mnr M r=mnr M (r+1):=by
    funext x c;unfold mnr skp
    by_cases h1:x<r
    ·rw[if_pos h1,if_pos (by omega)]
    ·rw[if_neg h1]
     by_cases h2:x=r
     ·subst h2;rw[if_pos (by omega),e]
     ·rw[if_neg (by omega)]
   rw[z,e,sg_succ]
   grind
theorem det_flip(k:Nat)(M:Mat)(t:Nat)(u v:Vec)(h:t+1<k):det k (put (put M t u) (t+1) v)= -det k (put (put M t v) (t+1) u):=by
 have n1:t≠t+1:=by omega
 have z:∀w:Vec,det k (put (put M t w) (t+1) w)=0:=fun w=>det_adj k _ t h (by rw[put_ne _ _ n1,put_same,put_same])
 have lin1:∀(N:Mat) (r:Nat) (a b:Vec),r<k->det k (put N r fun c=>a c+b c)=det k (put N r a)+det k (put N r b):=fun N r a b hr=>by
  have:=det_lin k N r 1 1 a b hr
  simp only[ydl]at this
  exact this
 have z1:=z fun c=>u c+v c
 rw[lin1 _ (t+1) u v h,put_comm M _ _ n1,put_comm M _ _ n1,lin1 _ t u v (by omega),lin1 _ t u v (by omega),<-put_comm M _ _ n1,<-put_comm M _ _ n1,<-put_comm M _ _ n1,<-put_comm M _ _ n1,z u,z v]at z1
 omega
theorem det_alike:∀(d k:Nat) (M:Mat) (r:Nat),r+d+1<k->M r=M (r+d+1)->det k M=0
 |0,k,M,r,h,e=>det_adj k M r h e
 |d+1,k,M,r,h,e=>by
  have f:=det_flip k M (r+d+1) (M (r+d+1)) (M (r+d+1+1)) h
  rw[put_self,put_self]at f
  rw[f,det_alike d k _ r (by omega) (by rw[put_ne _ _ (by omega),put_ne _ _ (by omega),put_ne _ _ (by omega),put_same,e];rfl)]
  rfl
theorem det_same{k:Nat}{M:Mat}{r t:Nat}(hr:r<k)(ht:t<k)(h:r≠t)(e:M r=M t):det k M=0:=by
 by_cases c:r<t
 ·exact det_alike (t-r-1) k M r (by omega) (by rw[e];congr 1;omega)
 ·exact det_alike (r-t-1) k M t (by omega) (by rw[<-e];congr 1;omega)
theorem det_unit:∀k (M:Mat),(∀i,i<k->∀j,j<k->M i j=if i=j then 1 else 0)->det k M=1
 |0,_,_=>rfl
 |k+1,M,h=>by
  unfold det
  rw[sm_one (j:=0) (k+1) (ybu k) fun i hi hn=>by rw[h i hi 0 (ybu k),if_neg hn];grind]
  rw[h 0 (ybu k) 0 (ybu k),if_pos rfl,det_unit k (mnr M 0) fun i hi j hj=> ?_]
  ·rfl
  ·unfold mnr skp
   rw[if_neg (by omega),h _ (by omega) _ (by omega)]
   by_cases e:i=j
   ·rw[if_pos e,if_pos (by omega)]
   ·rw[if_neg e,if_neg (by omega)]
noncomputable def fct:Nat->Int
 |0=>1
 |k+1=>(k+1:Int)*fct k
theorem sm_abs{f:Nat->Int}{b:Int}:∀k,(∀i,i<k-> -b<=f i/\f i<=b)-> -((k:Int)*b)<=sm k f/\sm k f<=(k:Int)*b
 |0,_=>by
  show -((0:Int)*b)<=0/\(0:Int)<=0*b
  omega
 |k+1,h=>by
  have ih:=sm_abs k fun i hi=>h i (yaw hi)
  have hk:=h k (yba k)
  show -((k+1:Nat)*b)<=sm k f+f k/\sm k f+f k<=(k+1:Nat)*b
  rw[show(((k+1:Nat):Int))*b=(k:Int)*b+b by rw[Int.natCast_succ,Int.add_mul,ydl]]
  omega
theorem mul_abs{x y a b:Int}(hx: -a<=x/\x<=a)(hy: -b<=y/\y<=b): -(a*b)<=x*y/\x*y<=a*b:=by
 have h1:0<=(a-x)*(b-y):=ycj (by omega) (by omega)
 have h2:0<=(a+x)*(b+y):=ycj (by omega) (by omega)
 have h3:0<=(a-x)*(b+y):=ycj (by omega) (by omega)
 have h4:0<=(a+x)*(b-y):=ycj (by omega) (by omega)
 constructor<;>grind
theorem det_abs:∀k (M:Mat) (c:Nat) (B:Int),1<=B->(∀i,i<k->∀j,j<k->i≠c-> -1<=M i j/\M i j<=1)->(∀j,j<k->c<k-> -B<=M c j/\M c j<=B)-> -(fct k*B)<=det k M/\det k M<=fct k*B
 |0,M,c,B,hB,_,_=>by
  show -(1*B)<=1/\(1:Int)<=1*B
  omega
 |k+1,M,c,B,hB,h1,h2=>by
  unfold det
  have e:fct (k+1)*B=((k+1:Nat):Int)*(fct k*B):=by show((k:Int)+1)*fct k*B=_;rw[Int.mul_assoc];rfl
  rw[e]
  refine sm_abs (k+1) fun i hi=> ?_
  have hs:∀x y:Int, -y<=x/\x<=y-> -y<=sg i*x/\sg i*x<=y:=fun x y h=>by
   rcases sg_abs i with s|s
   ·rw[s,ydl];exact h
   ·rw[s];omega
  rw[Int.mul_assoc]
  refine hs _ _ ?_
  by_cases ci:i=c
  ·subst ci
   have a:=det_abs k (mnr M i) k 1 (by decide) (fun r hr x hx _=>h1 _ (skp_lt hi hr) _ (by omega) (skp_ne i r)) (fun x hx hk=>absurd hk (ybj k))
   have b:=h2 0 (ybu k) hi
   rw[Int.mul_one]at a
   have:=mul_abs b a
   rw[ycd (fct k) B]
   exact this
  ·have a:=det_abs k (mnr M i) (uns i c) B hB (fun r hr x hx hn=>h1 _ (skp_lt hi hr) _ (by omega) fun z=>hn ((skp_iff (Ne.symm ci)).mp z)) (fun x hx hk=>by
    have hc:skp i (uns i c)=c:=(skp_iff (Ne.symm ci)).mpr rfl
    have hlt:c<k+1:=by unfold uns at hk;split at hk<;>omega
    have:=h2 (x+1) (by omega) hlt
    unfold mnr
    rw[hc];exact this)
   have b:=h1 i hi 0 (ybu k) ci
   have:=mul_abs b a
   rw[ydl]at this
   exact this
end Sx
namespace Sx
structure Tab where
 col:Nat->Nat
 row:Nat->Nat
 cell:Nat->Nat->Int
 over:Int
 s:Int
noncomputable def one:Vec:=fun j=>if j=0 then 1 else 0
section
variable(n m:Nat)(S:Nat->Nat->Bool)(w:Nat->Int)
noncomputable def nv(a:Nat):Vec:=fun j=>if a<n then(if j=a+1 then 1 else 0)else(if j=0 then 1 else if S (a-n) (j-1)=true then -1 else 0)
noncomputable def zv:Vec:=fun j=>if j=0 then 0 else w (j-1)
noncomputable def rv(T:Tab)(r:Nat):Vec:=if r<m then nv n S (T.row r)else zv w
noncomputable def bas(T:Tab):Mat:=fun i=>if i=0 then one else nv n S (T.col (i-1))
noncomputable def Fn(T:Tab)(c:Nat)(v:Vec):Int:=T.s*det (n+1) (put (bas n S T) c v)
structure Good(T:Tab):Prop where
 pos:0<T.over
 eq:∀r,r<=m->∀j,j<=n->T.over*rv n m S w T r j=T.cell r n*one j-sm n (fun c=>T.cell r c*nv n S (T.col c) j)
 sg:T.s=1\/T.s= -1
 dt:T.over=T.s*det (n+1) (bas n S T)
 cinj:∀c c',c<n->c'<n->T.col c=T.col c'->c=c'
 rinj:∀r r',r<m->r'<m->T.row r=T.row r'->r=r'
 dis:∀c r,c<n->r<m->T.col c≠T.row r
 clt:∀c,c<n->T.col c<n+m
 rlt:∀r,r<m->T.row r<n+m
 all:∀a,a<n+m->(∃c,c<n/\T.col c=a)\/∃r,r<m/\T.row r=a
 fea:∀r,r<m->0<=T.cell r n
end
section
variable{n m:Nat}{S:Nat->Nat->Bool}{w:Nat->Int}{T:Tab}
theorem rv_row{r:Nat}(h:r<m):rv n m S w T r=nv n S (T.row r):=if_pos h
theorem rv_last:rv n m S w T m=zv w:=if_neg (ybj m)
theorem bas_zero:bas n S T 0=one:=rfl
theorem bas_col(c:Nat):bas n S T (c+1)=nv n S (T.col c):=by unfold bas;rw[if_neg (ybi c)];rfl
theorem Fn_lin{c:Nat}(hc:c<=n)(a b:Int)(u v:Vec):Fn n S T c (fun j=>a*u j+b*v j)=a*Fn n S T c u+b*Fn n S T c v:=by
 unfold Fn;rw[det_lin (n+1) (bas n S T) c a b u v (by omega)];grind
theorem zdl{c:Nat}{u v:Vec}(h:∀j,j<=n->u j=v j):Fn n S T c u=Fn n S T c v:=by
 unfold Fn
 rw[det_congr (n+1) (M:=put (bas n S T) c u) (N:=put (bas n S T) c v) fun i _ j hj=> ?_]
 unfold put
 split
 ·exact h j (by omega)
 ·rfl
theorem Fn_sum{c:Nat}(hc:c<=n)(x:Int)(a:Vec)(y:Nat->Int)(W:Nat->Vec):∀k,Fn n S T c (fun j=>x*a j-sm k (fun i=>y i*W i j))=x*Fn n S T c a-sm k (fun i=>y i*Fn n S T c (W i))
 |0=>by
  have h:=Fn_lin (T:=T) (S:=S) hc x 0 a a
  rw[zdl (v:=fun j=>x*a j+0*a j) fun j _=>by show x*a j-0=_;omega,h]
  show _=_-0
  omega
 |k+1=>by
  have h:=Fn_lin (T:=T) (S:=S) hc 1 (-(y k)) (fun j=>x*a j-sm k (fun i=>y i*W i j)) (W k)
  rw[zdl (v:=fun j=>1*(x*a j-sm k (fun i=>y i*W i j))+ -(y k)*W k j) fun j _=>by show x*a j-(sm k _+y k*W k j)=_;grind,h,Fn_sum hc x a y W k]
  show _=x*Fn n S T c a-(sm k _+y k*Fn n S T c (W k))
  grind
theorem Fn_smul{c:Nat}(hc:c<=n)(a:Int)(u:Vec):Fn n S T c (fun j=>a*u j)=a*Fn n S T c u:=by
 have h:=Fn_lin (T:=T) (S:=S) hc a 0 u u
 rw[zdl (v:=fun j=>a*u j+0*u j) fun j _=>by omega,h];omega
theorem Fn_at(g:T.over=T.s*det (n+1) (bas n S T)){c i:Nat}(hc:c<=n)(hi:i<=n):Fn n S T c (bas n S T i)=if i=c then T.over else 0:=by
 unfold Fn
 by_cases e:i=c
 ·subst e;rw[if_pos rfl,put_self,<-g]
 ·rw[if_neg e,det_same (r:=c) (t:=i) (by omega) (by omega) (Ne.symm e) (by rw[put_same,put_ne _ _ e]),ycc]
theorem Fn_one(g:T.over=T.s*det (n+1) (bas n S T)){c:Nat}(hc:c<=n):Fn n S T c one=if c=0 then T.over else 0:=by
 have:=Fn_at g hc (yas n)
 rw[bas_zero]at this
 rw[this]
 by_cases e:c=0
 ·rw[if_pos e,if_pos e.symm]
 ·rw[if_neg e,if_neg (Ne.symm e)]
theorem Fn_col(g:T.over=T.s*det (n+1) (bas n S T)){c i:Nat}(hc:c<=n)(hi:i<n):Fn n S T c (nv n S (T.col i))=if i+1=c then T.over else 0:=by
 have:=Fn_at g hc (show i+1<=n by omega)
 rw[bas_col]at this
 exact this
theorem zcs{a x y:Int}(h:0<a)(e:a*x=a*y):x=y:=Int.eq_of_mul_eq_mul_left (by omega) e
theorem Good.base(G:Good n m S w T){r:Nat}(hr:r<=m):Fn n S T 0 (rv n m S w T r)=T.cell r n:=by
 have h1:=Fn_smul (T:=T) (S:=S) (c:=0) (yas n) T.over (rv n m S w T r)
 rw[zdl fun j hj=>G.eq r hr j hj,Fn_sum (yas n) _ _ (T.cell r) (fun c=>nv n S (T.col c)),Fn_one G.dt (yas n),if_pos rfl,sm_zero n fun c hc=>by rw[Fn_col G.dt (yas n) hc,if_neg (ybi c),ycc]]at h1
 refine zcs G.pos ?_
 rw[<-h1,ycd];omega
theorem Good.dir(G:Good n m S w T){r c:Nat}(hr:r<=m)(hc:c<n):Fn n S T (c+1) (rv n m S w T r)= -T.cell r c:=by
 have h1:=Fn_smul (T:=T) (S:=S) (c:=c+1) hc T.over (rv n m S w T r)
 rw[zdl fun j hj=>G.eq r hr j hj,Fn_sum hc _ _ (T.cell r) (fun c=>nv n S (T.col c)),Fn_one G.dt hc,if_neg (ybi c),sm_one (j:=c) n hc fun i hi hn=>by rw[Fn_col G.dt hc hi,if_neg (by omega),ycc],Fn_col G.dt hc hc,if_pos rfl]at h1
 refine zcs G.pos ?_
 rw[<-h1];grind
noncomputable def turn(T:Tab)(p q:Nat):Tab where
 col:=fun c=>if c=q then T.row p else T.col c
 row:=fun r=>if r=p then T.col q else T.row r
 over:=T.cell p q
 s:= -T.s
 cell:=fun r c=>if r=p then(if c=q then T.over else T.cell p c)else if c=q then -T.cell r q else(T.cell r c*T.cell p q-T.cell r q*T.cell p c)/T.over
theorem turn_bas{p q:Nat}:bas n S (turn T p q)=put (bas n S T) (q+1) (nv n S (T.row p)):=by
 funext i
 unfold bas put turn
 dsimp only
 by_cases h0:i=0
 ·rw[if_pos h0,if_neg (by omega),if_pos h0]
 ·rw[if_neg h0]
  by_cases h1:i=q+1
  ·rw[if_pos h1,if_pos (by omega)]
  ·rw[if_neg h1,if_neg (by omega),if_neg h0]
theorem turn_rv{p q r:Nat}(h:r≠p):rv n m S w (turn T p q) r=rv n m S w T r:=by
 unfold rv turn
 dsimp only
 rw[if_neg h]
theorem Good.turned_dt(G:Good n m S w T){p q:Nat}(hp:p<m)(hq:q<n):(turn T p q).over=(turn T p q).s*det (n+1) (bas n S (turn T p q)):=by
 have h:=G.dir (r:=p) (yan hp) hq
 rw[rv_row hp]at h
 unfold Fn at h
 rw[turn_bas]
 show T.cell p q= -T.s*_
 grind
theorem Good.exact(G:Good n m S w T){p q r c:Nat}(hp:p<m)(hq:q<n)(hb:0<T.cell p q)(hr:r<=m)(hrp:r≠p)(hc:c<=n)(hcq:c≠q):
  T.over*(turn T p q).cell r c=T.cell r c*T.cell p q-T.cell r q*T.cell p c:=by
 have g':=G.turned_dt hp hq
 have num0:∀j,j<=n->T.cell p q*T.over*rv n m S w T r j=(T.cell r n*T.cell p q-T.cell r q*T.cell p n)*one j-sm n (fun c=>(T.cell r c*T.cell p q-T.cell r q*T.cell p c)*nv n S (T.col c) j)+T.over*T.cell r q*nv n S (T.row p) j:=fun j hj=>by
  have e1:=G.eq r hr j hj
  have e2:=G.eq p (yan hp) j hj
  rw[rv_row hp]at e2
  have e3:sm n (fun c=>(T.cell r c*T.cell p q-T.cell r q*T.cell p c)*nv n S (T.col c) j)=T.cell p q*sm n (fun c=>T.cell r c*nv n S (T.col c) j)+ -(T.cell r q)*sm n (fun c=>T.cell p c*nv n S (T.col c) j):=by
   rw[<-sm_mul,<-sm_mul,<-sm_add]
   exact sm_congr n fun c _=>by grind
  rw[e3]
  generalize sm n (fun c=>T.cell r c*nv n S (T.col c) j)=A at *
  generalize sm n (fun c=>T.cell p c*nv n S (T.col c) j)=B at *
  grind
 have app:∀d,d<=n->T.cell p q*T.over*Fn n S (turn T p q) d (rv n m S w T r)=(T.cell r n*T.cell p q-T.cell r q*T.cell p n)*Fn n S (turn T p q) d one-sm n (fun c=>(T.cell r c*T.cell p q-T.cell r q*T.cell p c)*Fn n S (turn T p q) d (nv n S (T.col c)))+T.over*T.cell r q*Fn n S (turn T p q) d (nv n S (T.row p)):=fun d hd=>by
  rw[<-Fn_smul hd,zdl num0,<-Fn_sum hd _ _ (fun c=>T.cell r c*T.cell p q-T.cell r q*T.cell p c) (fun c=>nv n S (T.col c))]
  have h:=Fn_lin (T:=turn T p q) (S:=S) hd 1 (T.over*T.cell r q) (fun j=>(T.cell r n*T.cell p q-T.cell r q*T.cell p n)*one j-sm n (fun c=>(T.cell r c*T.cell p q-T.cell r q*T.cell p c)*nv n S (T.col c) j)) (nv n S (T.row p))
  simp only[ydl]at h
  exact h
 have colq:nv n S ((turn T p q).col q)=nv n S (T.row p):=by unfold turn;dsimp only;rw[if_pos rfl]
 have coln:∀c,c≠q->nv n S ((turn T p q).col c)=nv n S (T.col c):=fun c h=>by unfold turn;dsimp only;rw[if_neg h]
 have ov:(turn T p q).over=T.cell p q:=rfl
 have key:∃x,T.cell r c*T.cell p q-T.cell r q*T.cell p c=T.over*x:=by
  by_cases hl:c=n
  ·subst hl
   have h:=app 0 (yas _)
   have f1:=Fn_one g' (yas c)
   have f2:=Fn_col g' (yas c) hq
   rw[if_pos rfl,ov]at f1
   rw[colq,if_neg (ybi q)]at f2
   rw[f1,f2,sm_zero c fun i hi=> ?_]at h
   ·refine⟨Fn c S (turn T p q) 0 (rv c m S w T r),zcs hb ?_⟩
    grind
   ·by_cases hiq:i=q
    ·subst hiq;rw[Int.sub_self,yed]
    ·have f3:=Fn_col g' (yas c) hi
     rw[coln i hiq,if_neg (ybi i)]at f3
     rw[f3,ycc]
  ·have hc':c<n:=by omega
   have h:=app (c+1) hc'
   have f1:=Fn_one g' (show c+1<=n from hc')
   have f2:=Fn_col g' (show c+1<=n from hc') hq
   have f3:=Fn_col g' (show c+1<=n from hc') hc'
   rw[if_neg (ybi c)]at f1
   rw[colq,if_neg (by omega)]at f2
   rw[coln c hcq,if_pos rfl,ov]at f3
   rw[f1,f2,sm_one (j:=c) n hc' fun i hi hn=> ?_,f3]at h
   ·refine⟨-Fn n S (turn T p q) (c+1) (rv n m S w T r),zcs hb ?_⟩
    grind
   ·by_cases hiq:i=q
    ·subst hiq;rw[Int.sub_self,yed]
    ·have f4:=Fn_col g' (show c+1<=n from hc') hi
     rw[coln i hiq,if_neg (by omega)]at f4
     rw[f4,ycc]
 obtain⟨x,hx⟩:=key
 show T.over*(if r=p then _ else if c=q then _ else(T.cell r c*T.cell p q-T.cell r q*T.cell p c)/T.over)=_
 rw[if_neg hrp,if_neg hcq,hx,Int.mul_ediv_cancel_left _ (Int.ne_of_gt G.pos)]
theorem Good.turn(G:Good n m S w T){p q:Nat}(hp:p<m)(hq:q<n)(hb:0<T.cell p q)(ra:∀r,r<m->0<T.cell r q->T.cell p n*T.cell r q<=T.cell r n*T.cell p q):Good n m S w (turn T p q):=by
 have hqn:n≠q:=by omega
 have c1:∀r,r≠p->(Sx.turn T p q).cell r q= -T.cell r q:=fun r h=>by unfold Sx.turn;dsimp only;rw[if_neg h,if_pos rfl]
 have c2:(Sx.turn T p q).cell p q=T.over:=by unfold Sx.turn;dsimp only;rw[if_pos rfl,if_pos rfl]
 have c3:∀c,c≠q->(Sx.turn T p q).cell p c=T.cell p c:=fun c h=>by unfold Sx.turn;dsimp only;rw[if_pos rfl,if_neg h]
 have k1:(Sx.turn T p q).col q=T.row p:=by unfold Sx.turn;dsimp only;rw[if_pos rfl]
 have k2:∀c,c≠q->(Sx.turn T p q).col c=T.col c:=fun c h=>by unfold Sx.turn;dsimp only;rw[if_neg h]
 have r1:(Sx.turn T p q).row p=T.col q:=by unfold Sx.turn;dsimp only;rw[if_pos rfl]
 have r2:∀r,r≠p->(Sx.turn T p q).row r=T.row r:=fun r h=>by unfold Sx.turn;dsimp only;rw[if_neg h]
 refine⟨hb,fun r hr j hj=> ?_,?_,G.turned_dt hp hq,fun c c' hc hc' e=> ?_,fun r r' hr hr' e=> ?_,fun c r hc hr e=> ?_,fun c hc=> ?_,fun r hr=> ?_,fun a ha=> ?_,fun r hr=> ?_⟩
 ·have e2:=G.eq p (yan hp) j hj
  rw[rv_row hp]at e2
  by_cases h:r=p
  ·subst h
   rw[rv_row hp,r1,c3 n hqn]
   have e3:sm n (fun c=>(Sx.turn T r q).cell r c*nv n S ((Sx.turn T r q).col c) j)=sm n (fun c=>T.cell r c*nv n S (T.col c) j)+(T.over*nv n S (T.row r) j-T.cell r q*nv n S (T.col q) j):=by
    have:sm n (fun c=>if c=q then T.over*nv n S (T.row r) j-T.cell r q*nv n S (T.col q) j else 0)=T.over*nv n S (T.row r) j-T.cell r q*nv n S (T.col q) j:=by
     rw[sm_one (j:=q) n hq fun i _ hn=>if_neg hn,if_pos rfl]
    rw[<-this,<-sm_add]
    refine sm_congr n fun c _=> ?_
    by_cases hc:c=q
    ·subst hc;rw[c2,k1,if_pos rfl];omega
    ·rw[c3 c hc,k2 c hc,if_neg hc];omega
   rw[e3]
   show T.cell r q*nv n S (T.col q) j=_
   omega
  ·rw[turn_rv h]
   have e1:=G.eq r hr j hj
   have e3:T.over*sm n (fun c=>(Sx.turn T p q).cell r c*nv n S ((Sx.turn T p q).col c) j)=T.cell p q*sm n (fun c=>T.cell r c*nv n S (T.col c) j)+ -(T.cell r q)*sm n (fun c=>T.cell p c*nv n S (T.col c) j)+ -(T.over*T.cell r q*nv n S (T.row p) j):=by
    have:sm n (fun c=>if c=q then -(T.over*T.cell r q*nv n S (T.row p) j)else 0)= -(T.over*T.cell r q*nv n S (T.row p) j):=by
     rw[sm_one (j:=q) n hq fun i _ hn=>if_neg hn,if_pos rfl]
    rw[<-this,<-sm_mul,<-sm_mul,<-sm_mul,<-sm_add,<-sm_add]
    refine sm_congr n fun c hc=> ?_
    by_cases hcq:c=q
    ·subst hcq;rw[c1 r h,k1,if_pos rfl];grind
    ·have:=G.exact hp hq hb hr h (yan hc) hcq
     rw[k2 c hcq,if_neg hcq,<-Int.mul_assoc,this];grind
   have e4:=G.exact hp hq hb hr h (yab n) hqn
   refine zcs G.pos ?_
   show T.over*(T.cell p q*rv n m S w T r j)=_
   rw[Int.mul_sub,e3,<-Int.mul_assoc T.over ((Sx.turn T p q).cell r n),e4]
   generalize sm n (fun c=>T.cell r c*nv n S (T.col c) j)=A at *
   generalize sm n (fun c=>T.cell p c*nv n S (T.col c) j)=B at *
   grind
 ·rcases G.sg with e|e
  ·exact .inr (by show -T.s= -1;rw[e])
  ·exact .inl (by show -T.s=1;rw[e];rfl)
 ·by_cases h1:c=q
  ·by_cases h2:c'=q
   ·rw[h1,h2]
   ·rw[h1,k1,k2 c' h2]at e;exact absurd e.symm (G.dis c' p hc' hp)
  ·by_cases h2:c'=q
   ·rw[h2,k1,k2 c h1]at e;exact absurd e (G.dis c p hc hp)
   ·rw[k2 c h1,k2 c' h2]at e;exact G.cinj c c' hc hc' e
 ·by_cases h1:r=p
  ·by_cases h2:r'=p
   ·rw[h1,h2]
   ·rw[h1,r1,r2 r' h2]at e;exact absurd e (G.dis q r' hq hr')
  ·by_cases h2:r'=p
   ·rw[h2,r1,r2 r h1]at e;exact absurd e.symm (G.dis q r hq hr)
   ·rw[r2 r h1,r2 r' h2]at e;exact G.rinj r r' hr hr' e
 ·by_cases h1:c=q
  ·by_cases h2:r=p
   ·rw[h1,h2,k1,r1]at e;exact G.dis q p hq hp e.symm
   ·rw[h1,k1,r2 r h2]at e;exact h2 (G.rinj p r hp hr e).symm
  ·by_cases h2:r=p
   ·rw[h2,k2 c h1,r1]at e;exact h1 (G.cinj c q hc hq e)
   ·rw[k2 c h1,r2 r h2]at e;exact G.dis c r hc hr e
 ·by_cases h1:c=q
  ·rw[h1,k1];exact G.rlt p hp
  ·rw[k2 c h1];exact G.clt c hc
 ·by_cases h1:r=p
  ·rw[h1,r1];exact G.clt q hq
  ·rw[r2 r h1];exact G.rlt r hr
 ·rcases G.all a ha with⟨c,hc,e⟩|⟨r,hr,e⟩
  ·by_cases h1:c=q
   ·exact .inr ⟨p,hp,by rw[r1,<-h1,e]⟩
   ·exact .inl ⟨c,hc,by rw[k2 c h1,e]⟩
  ·by_cases h1:r=p
   ·exact .inl ⟨q,hq,by rw[k1,<-h1,e]⟩
   ·exact .inr ⟨r,hr,by rw[r2 r h1,e]⟩
 ·by_cases h1:r=p
  ·rw[h1,c3 n hqn];exact G.fea p hp
  ·have e:=G.exact hp hq hb (yan hr) h1 (yab n) hqn
   have f1:=G.fea r hr
   have f2:=G.fea p hp
   have z:0<=T.cell r n*T.cell p q-T.cell r q*T.cell p n:=by
    by_cases hc:0<T.cell r q
    ·have:=ra r hr hc
     rw[ycd (T.cell r q)];omega
    ·have a1:0<=T.cell r n*T.cell p q:=ycj f1 (by omega)
     have a2:0<= -(T.cell r q)*T.cell p n:=ycj (by omega) f2
     grind
   rw[<-e]at z
   have:=G.pos
   refine Int.not_lt.mp fun hn=> ?_
   have:T.over*(Sx.turn T p q).cell r n<0:=Int.mul_neg_of_pos_of_neg G.pos hn
   omega
end
end Sx
namespace Sx
structure Step(n m:Nat)(T:Tab)(p q:Nat):Prop where
 hp:p<m
 hq:q<n
 neg:T.cell m q<0
 ent:∀c,c<n->T.cell m c<0->T.col q<=T.col c
 by_:0<T.cell p q
 lev:∀r,r<m->0<T.cell r q->T.cell p n*T.cell r q<T.cell r n*T.cell p q\/(T.cell p n*T.cell r q=T.cell r n*T.cell p q/\T.row p<=T.row r)
noncomputable def inC(n:Nat)(T:Tab)(a:Nat):Prop:=∃c,c<n/\T.col c=a
section
variable{n m:Nat}{S:Nat->Nat->Bool}{w:Nat->Int}
theorem Step.good{T:Tab}{p q:Nat}(s:Step n m T p q)(G:Good n m S w T):Good n m S w (turn T p q):=
 G.turn s.hp s.hq s.by_ fun r hr h=>(s.lev r hr h).elim ycp fun e=>yee e.1
theorem Step.worth{T:Tab}{p q:Nat}(s:Step n m T p q)(G:Good n m S w T):T.over*(turn T p q).cell m n-(turn T p q).over*T.cell m n= -(T.cell m q)*T.cell p n:=by
 have h:=G.exact s.hp s.hq s.by_ (yab m) (ycu s.hp) (yab n) (ycu s.hq)
 rw[h]
 show _-T.cell p q*_=_
 grind
theorem Step.le{T:Tab}{p q:Nat}(s:Step n m T p q)(G:Good n m S w T):(turn T p q).over*T.cell m n<=T.over*(turn T p q).cell m n:=by
 have h:=s.worth G
 have:=ycj (a:= -(T.cell m q)) (b:=T.cell p n) (by have:=s.neg;omega) (G.fea p s.hp)
 omega
theorem frac_le{a b c d e f:Int}(hd:0<d)(hb:0<b)(hf:0<f)(h1:d*a<=b*c)(h2:f*c<=d*e):f*a<=b*e:=by
 have x:=ybl h1 (ycp hf)
 have y:=ybl h2 (ycp hb)
 refine Int.le_of_mul_le_mul_left (a:=d) ?_ hd
 grind
theorem frac_lt{a b c d e f:Int}(hd:0<d)(hb:0<b)(hf:0<f)(h1:d*a<=b*c)(h2:f*c<d*e):f*a<b*e:=by
 have x:=ybl h1 (ycp hf)
 have y:=Int.mul_lt_mul_of_pos_left h2 hb
 refine Int.lt_of_mul_lt_mul_left (a:=d) ?_ (ycp hd)
 grind
theorem frac_lt'{a b c d e f:Int}(hd:0<d)(hb:0<b)(hf:0<f)(h1:d*a<b*c)(h2:f*c<=d*e):f*a<b*e:=by
 have x:=Int.mul_lt_mul_of_pos_left h1 hf
 have y:=ybl h2 (ycp hb)
 refine Int.lt_of_mul_lt_mul_left (a:=d) ?_ (ycp hd)
 grind
theorem goes{P:Nat->Prop}{s:Nat}:∀d,P s->¬P (s+d)->∃t,s<=t/\t<s+d/\P t/\¬P (t+1)
 |0,h,h'=>absurd h h'
 |d+1,h,h'=>by
  by_cases c:P (s+d)
  ·exact⟨s+d,by omega,by omega,c,h'⟩
  ·obtain⟨t,a,b,x⟩:=goes d h c
   exact⟨t,a,by omega,x⟩
theorem goes'{P:Nat->Prop}{s e:Nat}(hse:s<=e)(h:P s)(h':¬P e):∃t,s<=t/\t<e/\P t/\¬P (t+1):=by
 obtain⟨t,a,b,x⟩:=goes (s:=s) (e-s) h (by rw[show s+(e-s)=e by omega];exact h')
 exact⟨t,a,by omega,x⟩
theorem most{P:Nat->Prop}:∀N,(∃a,P a)->(∀a,P a->a<N)->∃a,P a/\∀b,P b->b<=a
 |0,⟨a,h⟩,hb=>absurd (hb a h) (ycx a)
 |N+1,h,hb=>by
  by_cases c:P N
  ·exact⟨N,c,fun b hP=>by have:=hb b hP;omega⟩
  ·exact most N h fun a hP=>by
    have:=hb a hP
    have:a≠N:=fun e=>c (e▸hP)
    omega
structure Run(n m:Nat)(S:Nat->Nat->Bool)(w:Nat->Int)(T:Nat->Tab)(p q:Nat->Nat)(L:Nat):Prop where
 first:Good n m S w (T 0)
 step:∀t,t<L->Step n m (T t) (p t) (q t)
 next:∀t,t<L->T (t+1)=turn (T t) (p t) (q t)
variable{T:Nat->Tab}{p q:Nat->Nat}{L:Nat}
theorem Run.good(R:Run n m S w T p q L):∀t,t<=L->Good n m S w (T t)
 |0,_=>R.first
 |t+1,h=>by rw[R.next t h];exact(R.step t h).good (R.good t (Nat.le_of_succ_le h))
theorem Run.worth(R:Run n m S w T p q L){i:Nat}:∀d,i+d<=L->(T (i+d)).over*(T i).cell m n<=(T i).over*(T (i+d)).cell m n
 |0,_=>ycs _
 |d+1,h=>by
  have ih:=R.worth d (i:=i) (by omega)
  have g1:=R.good (i+d) (by omega)
  have st:=(R.step (i+d) (by omega)).le g1
  rw[<-R.next (i+d) (by omega)]at st
  exact frac_le g1.pos (R.good i (by omega)).pos (R.good (i+d+1) h).pos ih st
theorem Run.worth'(R:Run n m S w T p q L){i j:Nat}(hij:i<=j)(hj:j<=L):(T j).over*(T i).cell m n<=(T i).over*(T j).cell m n:=by
 have:=R.worth (i:=i) (j-i) (by omega)
 rwa [show i+(j-i)=j by omega]at this
theorem same_worth{A B:Tab}(GA:Good n m S w A)(GB:Good n m S w B)(h:∀a,inC n B a->inC n A a):B.over*A.cell m n=A.over*B.cell m n:=by
 have h1:=Fn_smul (T:=A) (S:=S) (c:=0) (yas n) B.over (zv w)
 have e:=GB.eq m (yab m)
 rw[rv_last]at e
 have b:=GA.base (yab m)
 rw[rv_last]at b
 rw[zdl e,Fn_sum (yas n) _ _ (B.cell m) (fun c=>nv n S (B.col c)),Fn_one GA.dt (yas n),if_pos rfl,sm_zero n fun c hc=> ?_,b]at h1
 ·rw[<-h1,ycd];omega
 ·obtain⟨c',hc',e'⟩:=h _ ⟨c,hc,rfl⟩
  rw[<-e',Fn_col GA.dt (yas n) hc',if_neg (ybi c'),ycc]
theorem turn_inC{T:Tab}{p q:Nat}(G:Good n m S w T)(hp:p<m)(hq:q<n)(a:Nat):inC n (turn T p q) a↔(inC n T a/\a≠T.col q)\/a=T.row p:=by
 constructor
 ·rintro⟨c,hc,e⟩
  have e':(if c=q then T.row p else T.col c)=a:=e
  by_cases h:c=q
  ·rw[if_pos h]at e';exact .inr e'.symm
  ·rw[if_neg h]at e'
   exact .inl ⟨⟨c,hc,e'⟩,fun z=>h (G.cinj c q hc hq (e'.trans z))⟩
 ·rintro(⟨⟨c,hc,e⟩,hn⟩|e)
  ·have h:c≠q:=fun z=>hn (by rw[<-e,z])
   exact⟨c,hc,by show(if c=q then _ else _)=a;rw[if_neg h];exact e⟩
  ·exact⟨q,hq,by show(if q=q then _ else _)=a;rw[if_pos rfl];exact e.symm⟩
theorem flat{T:Tab}{p q:Nat}(G:Good n m S w T)(G':Good n m S w (turn T p q))(s:Step n m T p q)(h0:T.cell p n=0){a:Nat}(ha:a<n+m):Fn n S (turn T p q) 0 (nv n S a)=0↔Fn n S T 0 (nv n S a)=0:=by
 have z0:=yas n
 rcases G'.all a ha with⟨c,hc,e⟩|⟨r,hr,e⟩
 ·have f1:=Fn_col G'.dt z0 hc
  rw[e,if_neg (ybi c)]at f1
  refine⟨fun _=> ?_,fun _=>f1⟩
  have e':(if c=q then T.row p else T.col c)=a:=e
  by_cases h:c=q
  ·rw[if_pos h]at e'
   have:=G.base (yan s.hp)
   rw[rv_row s.hp,e']at this
   rw[this,h0]
  ·rw[if_neg h]at e'
   have:=Fn_col G.dt z0 hc
   rw[e',if_neg (ybi c)]at this
   exact this
 ·have f1:=G'.base (yan hr)
  rw[rv_row hr,e]at f1
  have e':(if r=p then T.col q else T.row r)=a:=e
  rw[f1]
  by_cases h:r=p
  ·rw[if_pos h]at e'
   have f2:=Fn_col G.dt z0 s.hq
   rw[e',if_neg (ybi q)]at f2
   have f3:(turn T p q).cell r n=T.cell p n:=by
    show(if r=p then(if n=q then _ else _)else _)=_
    rw[if_pos h,if_neg (ycu s.hq)]
   rw[f3,h0]
   exact⟨fun _=>f2,fun _=>rfl⟩
  ·rw[if_neg h]at e'
   have f2:=G.base (yan hr)
   rw[rv_row hr,e']at f2
   rw[f2]
   have x:=G.exact s.hp s.hq s.by_ (yan hr) h (yab n) (ycu s.hq)
   rw[h0,ycc,Int.sub_zero]at x
   constructor
   ·intro z
    rw[z,ycc]at x
    rcases Int.mul_eq_zero.mp x.symm with y|y
    ·exact y
    ·have:=s.by_;omega
   ·intro z
    rw[z,yed]at x
    rcases Int.mul_eq_zero.mp x with y|y
    ·have:=G.pos;omega
    ·exact y
theorem Run.no_return(R:Run n m S w T p q L){i j:Nat}(hij:i<j)(hj:j<=L):¬∀a,inC n (T i) a↔inC n (T j) a:=by
 intro same
 have Gt:∀t,i<=t->t<=j->Good n m S w (T t):=fun t _ h=>R.good t (yau h hj)
 have D:=same_worth (Gt i (yab i) (yan hij)) (Gt j (yan hij) (yab j)) fun a=>(same a).mpr
 have St:∀t,t<j->Step n m (T t) (p t) (q t):=fun t h=>R.step t (yak h hj)
 have nx:∀t,t<j->T (t+1)=turn (T t) (p t) (q t):=fun t h=>R.next t (yak h hj)
 -- every turn of these is flat
 have fl:∀t,i<=t->t<j->(T t).cell (p t) n=0:=fun t hi ht=>by
  have g:=Gt t hi (yan ht)
  have W:=(St t ht).worth g
  have F:=g.fea (p t) (St t ht).hp
  have N:=(St t ht).neg
  by_cases z:(T t).cell (p t) n=0
  ·exact z
  ·exfalso
   have B:(turn (T t) (p t) (q t)).over*(T t).cell m n<(T t).over*(turn (T t) (p t) (q t)).cell m n:=by
    have:=yeb (a:= -((T t).cell m (q t))) (b:=(T t).cell (p t) n) (by omega) (by omega)
    omega
   rw[<-nx t ht]at B
   have A:=R.worth' (i:=i) (j:=t) hi (by omega)
   have C:=R.worth' (i:=t+1) (j:=j) ht hj
   have o1:=(Gt i (yab i) (yan hij)).pos
   have o2:=g.pos
   have o3:=(Gt (t+1) (by omega) ht).pos
   have o4:=(Gt j (yan hij) (yab j)).pos
   have x:=frac_lt o2 o1 o3 A B
   have y:=frac_lt' o3 o1 o4 x C
   omega
 have ic:∀t,t<j->i<=t->∀a,inC n (T (t+1)) a↔(inC n (T t) a/\a≠(T t).col (q t))\/a=(T t).row (p t):=fun t ht hi a=>by
  rw[nx t ht];exact turn_inC (Gt t hi (yan ht)) (St t ht).hp (St t ht).hq a
 have zeros:∀{a:Nat},a<n+m->∀d s,i<=s->s+d<=j->(Fn n S (T (s+d)) 0 (nv n S a)=0↔Fn n S (T s) 0 (nv n S a)=0):=fun{a} ha d=>by
  induction d with
  |zero=>intro s _ _;exact Iff.rfl
  |succ d ih=>
   intro s hs hd
   have f:=flat (Gt (s+d) (by omega) (by omega)) (by rw[<-nx (s+d) (by omega)];exact Gt (s+d+1) (by omega) hd) (St (s+d) (by omega)) (fl (s+d) (by omega) (by omega)) ha
   rw[<-nx (s+d) (by omega)]at f
   exact f.trans (ih s hs (by omega))
 have zero2:∀{a s t:Nat},a<n+m->i<=s->s<=j->i<=t->t<=j->Fn n S (T s) 0 (nv n S a)=0->Fn n S (T t) 0 (nv n S a)=0:=fun{a s t} ha h1 h2 h3 h4 z=>by
  by_cases c:s<=t
  ·have:=zeros ha (t-s) s h1 (by omega)
   rw[show s+(t-s)=t by omega]at this
   exact this.mpr z
  ·have:=zeros ha (s-t) t h3 (by omega)
   rw[show t+(s-t)=s by omega]at this
   exact this.mp z
 -- the greatest name that comes and goes
 let Fk:Nat->Prop:=fun a=>∃t,i<=t/\t<j/\((inC n (T t) a/\¬inC n (T (t+1)) a)\/(¬inC n (T t) a/\inC n (T (t+1)) a))
 have fkc:∀t,i<=t->t<j->Fk ((T t).col (q t)):=fun t hi ht=>by
  have g:=Gt t hi (yan ht)
  refine⟨t,hi,ht,.inl ⟨⟨q t,(St t ht).hq,rfl⟩,fun z=> ?_⟩⟩
  rcases(ic t ht hi _).mp z with⟨_,z⟩|z
  ·exact z rfl
  ·exact g.dis (q t) (p t) (St t ht).hq (St t ht).hp z
 have lt:∀a,Fk a->a<n+m:=fun a h=>by
  obtain⟨t,hi,ht,(⟨⟨c,hc,e⟩,_⟩|⟨_,⟨c,hc,e⟩⟩)⟩:=h
  ·rw[<-e];exact(Gt t hi (yan ht)).clt c hc
  ·rw[<-e];exact(Gt (t+1) (by omega) ht).clt c hc
 obtain⟨tt,hF,hmax⟩:=most (n+m) ⟨_,fkc i (yab i) hij⟩ lt
 have diff:∀{a s e:Nat},i<=s->s<=j->i<=e->e<=j->inC n (T s) a->¬inC n (T e) a->Fk a:=fun{a s e} h1 h2 h3 h4 x y=>by
  by_cases c:s<=e
  ·obtain⟨t,a1,a2,a3,a4⟩:=goes' (P:=fun t=>inC n (T t) a) c x y
   exact⟨t,by omega,by omega,.inl ⟨a3,a4⟩⟩
  ·obtain⟨t,a1,a2,a3,a4⟩:=goes' (P:=fun t=>¬inC n (T t) a) (s:=e) (e:=s) (by omega) y (fun z=>z x)
   exact⟨t,by omega,by omega,.inr ⟨a3,Classical.not_not.mp a4⟩⟩
 obtain⟨t1,h1i,h1j,h1a,h1b⟩:∃t,i<=t/\t<j/\inC n (T t) tt/\¬inC n (T (t+1)) tt:=by
  obtain⟨t,hi,ht,(⟨x,y⟩|⟨x,y⟩)⟩:=hF
  ·exact⟨t,hi,ht,x,y⟩
  ·by_cases c:inC n (T j) tt
   ·obtain⟨u,a1,a2,a3,a4⟩:=goes' (P:=fun t=>inC n (T t) tt) hi ((same tt).mpr c) x
    exact⟨u,a1,by omega,a3,a4⟩
   ·obtain⟨u,a1,a2,a3,a4⟩:=goes' (P:=fun t=>inC n (T t) tt) (s:=t+1) (e:=j) ht y c
    exact⟨u,by omega,a2,a3,a4⟩
 obtain⟨t2,h2i,h2j,h2a,h2b⟩:∃t,i<=t/\t<j/\¬inC n (T t) tt/\inC n (T (t+1)) tt:=by
  have up:∀s e,i<=s->s<=e->e<=j->¬inC n (T s) tt->inC n (T e) tt->∃t,i<=t/\t<j/\¬inC n (T t) tt/\inC n (T (t+1)) tt:=fun s e a b c x y=>by
   obtain⟨u,a1,a2,a3,a4⟩:=goes' (P:=fun t=>¬inC n (T t) tt) b x (fun z=>z y)
   exact⟨u,by omega,by omega,a3,Classical.not_not.mp a4⟩
  by_cases c:inC n (T j) tt
  ·exact up (t1+1) j (by omega) h1j (yab j) h1b c
  ·exact up i t1 (yab i) h1i (by omega) (fun z=>c ((same tt).mp z)) h1a
 have e1:tt=(T t1).col (q t1):=by
  refine Classical.byContradiction fun hn=>h1b ((ic t1 h1j h1i tt).mpr (.inl ⟨h1a,hn⟩))
 have e2:tt=(T t2).row (p t2):=by
  rcases(ic t2 h2j h2i tt).mp h2b with⟨z,_⟩|z
  ·exact absurd z h2a
  ·exact z
 have G1:=Gt t1 h1i (yan h1j)
 have G2:=Gt t2 h2i (yan h2j)
 have S1:=St t1 h1j
 have S2:=St t2 h2j
 -- along the column that enters at t2
 have hq2:q t2+1<=n:=S2.hq
 have dz:=G2.dir (yab m) S2.hq
 rw[rv_last]at dz
 have sum:=Fn_smul (T:=T t2) (S:=S) hq2 (T t1).over (zv w)
 have eq1:=G1.eq m (yab m)
 rw[rv_last]at eq1
 rw[zdl eq1,Fn_sum hq2 _ _ ((T t1).cell m) (fun c=>nv n S ((T t1).col c)),Fn_one G2.dt hq2,if_neg (ybi _),dz]at sum
 have neg:sm n (fun c=>(T t1).cell m c*Fn n S (T t2) (q t2+1) (nv n S ((T t1).col c)))<0:=by
  have:=yeb G1.pos (b:= -((T t2).cell m (q t2))) (by have:=S2.neg;omega)
  omega
 obtain⟨c,hc,hlt⟩:=sm_neg n neg
 have hnm:=G1.clt c hc
 rcases G2.all _ hnm with⟨c0,hc0,e0⟩|⟨r0,hr0,e0⟩
 ·have f:=Fn_col G2.dt hq2 hc0
  rw[e0]at f
  by_cases z:c0=q t2
  ·rw[if_pos (by omega)]at f
   rw[f]at hlt
   have cn:(T t1).cell m c<0:=by
    refine Int.not_le.mp fun h=> ?_
    have:=ycj h (ycp G2.pos)
    omega
   have a:=S1.ent c hc cn
   rw[<-e1,<-e0,z]at a
   have b:=hmax _ (fkc t2 h2i h2j)
   have:tt=(T t2).col (q t2):=ydh a b
   exact G2.dis (q t2) (p t2) S2.hq S2.hp (this.symm.trans e2)
  ·rw[if_neg (by omega)]at f
   rw[f,ycc]at hlt
   exact absurd hlt (Int.lt_irrefl 0)
 ·have f:=G2.dir (yan hr0) S2.hq
  rw[rv_row hr0,e0]at f
  rw[f]at hlt
  have fk:Fk ((T t1).col c):=diff h1i (yan h1j) h2i (yan h2j) ⟨c,hc,rfl⟩ (fun⟨c',hc',e'⟩=>G2.dis c' r0 hc' hr0 (e'.trans e0.symm))
  have le:=hmax _ fk
  by_cases z:(T t1).col c=tt
  ·have cq:c=q t1:=G1.cinj c (q t1) hc S1.hq (z.trans e1)
   have rp:r0=p t2:=G2.rinj r0 (p t2) hr0 S2.hp (e0.trans (z.trans e2))
   subst cq rp
   have a:=S1.neg
   have b:=S2.by_
   have:=yeb (a:= -((T t1).cell m (q t1))) (b:=(T t2).cell (p t2) (q t2)) (by omega) b
   grind
  ·have cn:¬(T t1).cell m c<0:=fun h=>by
    have:=S1.ent c hc h
    omega
   have pos0:0<(T t2).cell r0 (q t2):=by
    refine Int.not_le.mp fun h=> ?_
    have:=ycj (a:=(T t1).cell m c) (b:= -((T t2).cell r0 (q t2))) (by omega) (by omega)
    omega
   have v1:Fn n S (T t1) 0 (nv n S ((T t1).col c))=0:=by rw[Fn_col G1.dt (yas n) hc,if_neg (ybi c)]
   have v2:=zero2 hnm h1i (yan h1j) h2i (yan h2j) v1
   have b:=G2.base (yan hr0)
   rw[rv_row hr0,e0,v2]at b
   have k:=fl t2 h2i h2j
   rcases S2.lev r0 hr0 pos0 with h|⟨_,h⟩
   ·rw[k,<-b,yed,yed]at h
    exact absurd h (Int.lt_irrefl 0)
   ·rw[<-e2,e0]at h
    omega
noncomputable def enc:List Bool->Nat
 |[]=>0
 |b::l=>(if b=true then 1 else 0)+2*enc l
theorem enc_lt:∀l:List Bool,enc l<2^l.length
 |[]=>by decide
 |b::l=>by
  have:=enc_lt l
  show(if b=true then 1 else 0)+2*enc l<2^(l.length+1)
  rw[Nat.pow_succ]
  split<;>omega
theorem enc_inj:∀{l l':List Bool},l.length=l'.length->enc l=enc l'->l=l'
 |[],[],_,_=>rfl
 |b::l,b'::l',h,e=>by
  have e':(if b=true then 1 else 0)+2*enc l=(if b'=true then 1 else 0)+2*enc l':=e
  have hb:b=b':=by cases b<;>cases b'<;>simp at e'⊢<;>omega
  subst hb
  rw[enc_inj (l:=l) (l':=l') (by simpa using h) (by omega)]
theorem few:∀(K:Nat) (l:List Nat),l.Nodup->(∀x∈l,x<K)->l.length<=K
 |0,[],_,_=>yab 0
 |0,x::_,_,h=>absurd (h x yap) (ycx x)
 |K+1,l,nd,h=>by
  have a:=few K (l.filter fun x=>decide (x≠K)) (nd.filter _) fun x hx=>by
   obtain⟨h1,h2⟩:=yav.mp hx
   have:=h x h1
   have:=of_decide_eq_true h2
   omega
  have b:l.length<=(l.filter fun x=>decide (x≠K)).length+1:=by
   clear a h
   induction l with
   |nil=>exact yas _
   |cons y l ih=>
    have nd':=ych.mp nd
    rw[yci]
    by_cases c:y=K
    ·subst c
     rw[if_neg (by simp)]
     have:l.filter (fun x=>decide (x≠y))=l:=List.filter_eq_self.mpr fun x hx=>decide_eq_true fun e=>nd'.1 (e▸hx)
     rw[this];exact yab _
    ·rw[if_pos (decide_eq_true c)]
     have:=ih nd'.2
     simp only[ybh]
     omega
  omega
open Classical in
noncomputable def code(n m:Nat)(T:Tab):Nat:=enc ((List.range (n+m)).map fun a=>decide (inC n T a))
theorem Run.short(R:Run n m S w T p q L):L<2^(n+m):=by
 have inj:∀i j,i<=L->j<=L->code n m (T i)=code n m (T j)->i=j:=by
  have one:∀i j,i<j->j<=L->code n m (T i)≠code n m (T j):=fun i j hij hj e=>by
   have l:=enc_inj (by simp) e
   refine R.no_return hij hj fun a=> ?_
   by_cases ha:a<n+m
   ·have:=congrArg (fun l:List Bool=>l[a]?) l
    simp only[yae,ycz ha,Option.map_some,Option.some.injEq,decide_eq_decide]at this
    exact this
   ·exact⟨fun⟨c,hc,e⟩=>absurd ((R.good i (by omega)).clt c hc) (by omega),fun⟨c,hc,e⟩=>absurd ((R.good j hj).clt c hc) (by omega)⟩
  intro i j hi hj e
  rcases Nat.lt_trichotomy i j with h|h|h
  ·exact absurd e (one i j h hj)
  ·exact h
  ·exact absurd e.symm (one j i h hi)
 have nd:((List.range (L+1)).map fun t=>code n m (T t)).Nodup:=by
  refine ycw.mpr (List.nodup_range.imp_of_mem fun{a b} ha hb hab e=>hab (inj a b ?_ ?_ e))
  ·have:=ybf.mp ha;omega
  ·have:=ybf.mp hb;omega
 have:=few (2^(n+m)) _ nd fun x hx=>by
  obtain⟨t,_,rfl⟩:=ybk.mp hx
  have:=enc_lt ((List.range (n+m)).map fun a=> @decide (inC n (T t) a) (Classical.propDecidable _))
  rw[yaa,ybe]at this
  exact this
 rw[yaa,ybe]at this
 omega
end
end Sx
namespace Sx
section
variable{n m:Nat}{S:Nat->Nat->Bool}{w:Nat->Int}{T:Tab}
theorem nv_low{a j:Nat}(h:a<n):nv n S a j=if j=a+1 then 1 else 0:=if_pos h
theorem nv_high{k j:Nat}:nv n S (n+k) j=if j=0 then 1 else if S k (j-1)=true then -1 else 0:=by
 unfold nv;rw[if_neg (by omega),show n+k-n=k by omega]
theorem sm_unit{y:Nat->Int}{j:Nat}(hj:j<=n):sm n (fun c=>y c*nv n S c j)=if j=0 then 0 else y (j-1):=by
 by_cases h:j=0
 ·rw[if_pos h]
  exact sm_zero n fun c hc=>by rw[nv_low hc,if_neg (by omega),ycc]
 ·rw[if_neg h,sm_one (j:=j-1) n (by omega) fun c hc hn=>by rw[nv_low hc,if_neg (by omega),ycc],nv_low (by omega),if_pos (by omega),Int.mul_one]
theorem nv_set{k j:Nat}(hj:j<=n):nv n S (n+k) j=1*one j-sm n (fun c=>(if S k c=true then 1 else 0)*nv n S c j):=by
 rw[nv_high,sm_unit hj]
 unfold one
 by_cases h:j=0
 ·rw[if_pos h,if_pos h,if_pos h];rfl
 ·rw[if_neg h,if_neg h,if_neg h]
  split<;>rfl
theorem zv_set{j:Nat}(hj:j<=n):zv w j=0*one j-sm n (fun c=> -(w c)*nv n S c j):=by
 rw[sm_unit hj]
 unfold zv
 by_cases h:j=0
 ·rw[if_pos h,if_pos h];omega
 ·rw[if_neg h,if_neg h];omega
noncomputable def start(n m:Nat)(S:Nat->Nat->Bool)(w:Nat->Int):Tab where
 col:=fun c=>c
 row:=fun r=>n+r
 cell:=fun r c=>if r=m then(if c=n then 0 else -(w c))else if c=n then 1 else if S r c=true then 1 else 0
 over:=1
 s:=1
theorem start_good:Good n m S w (start n m S w):=by
 refine⟨Int.one_pos,fun r hr j hj=> ?_,.inl rfl,?_,fun c c' _ _ e=>e,fun r r' _ _ e=>by have:n+r=n+r':=e;omega,fun c r hc _ e=>by have:c=n+r:=e;omega,fun c hc=>by show c<n+m;omega,fun r hr=>by show n+r<n+m;omega,fun a ha=> ?_,fun r hr=> ?_⟩
 ·show 1*rv n m S w (start n m S w) r j=(start n m S w).cell r n*one j-sm n (fun c=>(start n m S w).cell r c*nv n S c j)
  by_cases h:r<m
  ·rw[rv_row h]
   show 1*nv n S (n+r) j=_
   rw[ydl,nv_set hj]
   have e1:(start n m S w).cell r n=1:=by show(if r=m then _ else if n=n then(1:Int)else _)=1;rw[if_neg (by omega),if_pos rfl]
   rw[e1,sm_congr n fun c hc=> ?_]
   show _=(if r=m then _ else if c=n then(1:Int)else if S r c=true then 1 else 0)*_
   rw[if_neg (show¬r=m by omega),if_neg (show¬c=n by omega)]
  ·have e:r=m:=by omega
   subst e
   rw[rv_last,ydl,zv_set (n:=n) (S:=S) hj]
   have e1:(start n r S w).cell r n=0:=by show(if r=r then(if n=n then(0:Int)else _)else _)=0;rw[if_pos rfl,if_pos rfl]
   rw[e1,sm_congr n fun c hc=> ?_]
   show _=(if r=r then(if c=n then(0:Int)else -(w c))else _)*_
   rw[if_pos rfl,if_neg (show¬c=n by omega)]
 ·show(1:Int)=1*det (n+1) _
  rw[det_unit (n+1) _ fun i hi j hj=> ?_]; · rfl
  by_cases h:i=0
  ·subst h
   rw[bas_zero]
   unfold one
   by_cases e:j=0
   ·rw[if_pos e,if_pos e.symm]
   ·rw[if_neg e,if_neg (Ne.symm e)]
  ·obtain⟨c,rfl⟩:∃c,i=c+1:=⟨i-1,by omega⟩
   rw[bas_col]
   show nv n S c j=_
   rw[nv_low (by omega)]
   by_cases e:j=c+1
   ·rw[if_pos e,if_pos e.symm]
   ·rw[if_neg e,if_neg (Ne.symm e)]
 ·by_cases h:a<n
  ·exact .inl ⟨a,h,rfl⟩
  ·exact .inr ⟨a-n,by omega,by show n+(a-n)=a;omega⟩
 ·show 0<=(if r=m then _ else if n=n then(1:Int)else _)
  rw[if_neg (by omega),if_pos rfl];decide
theorem Good.bounded(G:Good n m S w T)(cov:∀p,p<n->∃k,k<m/\S k p=true){q:Nat}(hq:q<n):∃r,r<m/\0<T.cell r q:=by
 refine Classical.byContradiction fun no=> ?_
 have no':∀r,r<m->T.cell r q<=0:=fun r hr=>Int.not_lt.mp fun h=>no ⟨r,hr,h⟩
 have hq':q+1<=n:=hq
 have nn:∀a,a<n+m->0<=Fn n S T (q+1) (nv n S a):=fun a ha=>by
  rcases G.all a ha with⟨c,hc,e⟩|⟨r,hr,e⟩
  ·rw[<-e,Fn_col G.dt hq' hc]
   split
   ·exact ycp G.pos
   ·exact ycs 0
  ·have:=G.dir (yan hr) hq
   rw[rv_row hr,e]at this
   rw[this]
   have:=no' r hr
   omega
 have set:∀k,Fn n S T (q+1) (nv n S (n+k))= -sm n (fun p=>(if S k p=true then 1 else 0)*Fn n S T (q+1) (nv n S p)):=fun k=>by
  rw[zdl fun j hj=>nv_set hj,Fn_sum hq' _ _ (fun c=>if S k c=true then 1 else 0) (fun c=>nv n S c),Fn_one G.dt hq',if_neg (ybi q)]
  omega
 have low:∀p,p<n->Fn n S T (q+1) (nv n S p)=0:=fun p hp=>by
  obtain⟨k,hk,hs⟩:=cov p hp
  have a:=nn (n+k) (by omega)
  rw[set k]at a
  have:=sm_none n (f:=fun p=>(if S k p=true then 1 else 0)*Fn n S T (q+1) (nv n S p)) (fun i hi=> ?_) (by omega) p hp
  ·rw[if_pos hs,ydl]at this
   exact this
  ·have:=nn i (by omega)
   split<;>omega
 have z:Fn n S T (q+1) (nv n S (T.col q))=0:=by
  have hc:=G.clt q hq
  by_cases h:T.col q<n
  ·exact low _ h
  ·have e:T.col q=n+(T.col q-n):=by omega
   rw[e,set,sm_zero n fun p hp=>by rw[low p hp,ycc]];rfl
 rw[Fn_col G.dt hq' hq,if_pos rfl]at z
 have:=G.pos
 omega
theorem nv_abs(a j:Nat): -1<=nv n S a j/\nv n S a j<=1:=by
 unfold nv
 split
 ·split<;>decide
 ·split
  ·decide
  ·split<;>decide
theorem bas_abs(i j:Nat): -1<=bas n S T i j/\bas n S T i j<=1:=by
 unfold bas
 split
 ·unfold one;split<;>decide
 ·exact nv_abs _ _
theorem Fn_abs(G:Good n m S w T){c:Nat}{v:Vec}{B:Int}(hB:1<=B)(h:∀j,j<=n-> -B<=v j/\v j<=B): -(fct (n+1)*B)<=Fn n S T c v/\Fn n S T c v<=fct (n+1)*B:=by
 have d:=det_abs (n+1) (put (bas n S T) c v) c B hB (fun i _ j _ hn=>by rw[put_ne _ _ hn];exact bas_abs i j) (fun j hj _=>by rw[put_same];exact h j (by omega))
 unfold Fn
 rcases G.sg with s|s
 ·rw[s,ydl];exact d
 ·rw[s];omega
theorem Good.over_le(G:Good n m S w T):T.over<=fct (n+1):=by
 have d:=Fn_abs G (c:=0) (v:=bas n S T 0) (B:=1) (by decide) fun j _=>bas_abs 0 j
 rw[Fn_at G.dt (yas n) (yas n),if_pos rfl]at d
 omega
theorem Good.cell_abs(G:Good n m S w T)(hw:∀p,p<n->0<=w p/\w p<=99){r c:Nat}(hr:r<=m)(hc:c<=n): -(fct (n+1)*99)<=T.cell r c/\T.cell r c<=fct (n+1)*99:=by
 have hv:∀j,j<=n-> -99<=rv n m S w T r j/\rv n m S w T r j<=99:=fun j hj=>by
  unfold rv
  split
  ·have:=nv_abs (n:=n) (S:=S) (T.row r) j;omega
  ·unfold zv
   split
   ·decide
   ·have:=hw (j-1) (by omega);omega
 by_cases h:c=n
 ·subst h
  have d:=Fn_abs G (c:=0) (B:=99) (by decide) hv
  rw[G.base hr]at d
  exact d
 ·have d:=Fn_abs G (c:=c+1) (B:=99) (by decide) hv
  rw[G.dir hr (by omega)]at d
  omega
theorem fct_le:∀{k:Nat},k<=11->fct k<=39916800
 |0,_|1,_|2,_|3,_|4,_|5,_|6,_|7,_|8,_|9,_|10,_|11,_=>by decide
noncomputable def Ys(n m:Nat)(T:Tab)(a:Nat):Int:=sm n fun c=>if T.col c=a then T.cell m c else 0
noncomputable def Xs(n m:Nat)(T:Tab)(a:Nat):Int:=sm m fun r=>if T.row r=a then T.cell r n else 0
theorem Good.ys_at(G:Good n m S w T){c:Nat}(hc:c<n):Ys n m T (T.col c)=T.cell m c:=by
 unfold Ys
 rw[sm_one (j:=c) n hc fun i hi hn=>if_neg fun e=>hn (G.cinj i c hi hc e),if_pos rfl]
theorem ys_no{a:Nat}(h:∀c,c<n->T.col c≠a):Ys n m T a=0:=sm_zero n fun c hc=>if_neg (h c hc)
theorem Good.xs_at(G:Good n m S w T){r:Nat}(hr:r<m):Xs n m T (T.row r)=T.cell r n:=by
 unfold Xs
 rw[sm_one (j:=r) m hr fun i hi hn=>if_neg fun e=>hn (G.rinj i r hi hr e),if_pos rfl]
theorem xs_no{a:Nat}(h:∀r,r<m->T.row r≠a):Xs n m T a=0:=sm_zero m fun r hr=>if_neg (h r hr)
theorem Good.xs_fn(G:Good n m S w T){a:Nat}(ha:a<n+m):Fn n S T 0 (nv n S a)=Xs n m T a:=by
 rcases G.all a ha with⟨c,hc,e⟩|⟨r,hr,e⟩
 ·rw[<-e,Fn_col G.dt (yas n) hc,if_neg (ybi c),xs_no fun r hr z=>G.dis c r hc hr z.symm]
 ·rw[<-e,G.xs_at hr]
  have:=G.base (yan hr)
  rw[rv_row hr]at this
  exact this
theorem Good.xs_nn(G:Good n m S w T)(a:Nat):0<=Xs n m T a:=sm_nn m fun r hr=>by
 have:=G.fea r hr
 split
 ·exact this
 ·exact ycs 0
theorem ys_nn(h:∀c,c<n->0<=T.cell m c)(a:Nat):0<=Ys n m T a:=sm_nn n fun c hc=>by
 have:=h c hc
 split
 ·exact this
 ·exact ycs 0
theorem sm_split(f:Nat->Int)(a:Nat):∀b,sm (a+b) f=sm a f+sm b fun k=>f (a+k)
 |0=>by show sm a f=sm a f+0;omega
 |b+1=>by
  show sm (a+b) f+f (a+b)=_
  rw[sm_split f a b]
  show _=sm a f+(sm b (fun k=>f (a+k))+f (a+b))
  omega
theorem Good.reix(G:Good n m S w T)(g:Nat->Int):sm n (fun c=>T.cell m c*g (T.col c))=sm n (fun a=>Ys n m T a*g a)+sm m (fun k=>Ys n m T (n+k)*g (n+k)):=by
 rw[<-sm_split (fun a=>Ys n m T a*g a)]
 have e:∀a,Ys n m T a*g a=sm n fun c=>(if T.col c=a then T.cell m c else 0)*g a:=fun a=>by
  unfold Ys
  rw[ycd,<-sm_mul]
  exact sm_congr n fun c _=>ycd _ _
 rw[sm_congr (n+m) fun a _=>e a,sm_swap (fun a c=>(if T.col c=a then T.cell m c else 0)*g a)]
 refine sm_congr n fun c hc=> ?_
 rw[sm_one (j:=T.col c) (n+m) (G.clt c hc) fun a _ hn=>by rw[if_neg (Ne.symm hn),yed],if_pos rfl]
theorem Good.total(G:Good n m S w T):sm m (fun k=>Ys n m T (n+k))=T.cell m n:=by
 have e:=G.eq m (yab m) 0 (yas n)
 rw[rv_last,G.reix (fun a=>nv n S a 0),sm_zero n fun a ha=>by rw[nv_low ha,if_neg (by omega),ycc]]at e
 have z:zv w 0=0:=rfl
 have o:one 0=1:=rfl
 rw[z,o,sm_congr m fun k _=>show Ys n m T (n+k)*nv n S (n+k) 0=Ys n m T (n+k) by rw[nv_high,if_pos rfl,Int.mul_one]]at e
 omega
theorem Good.enough(G:Good n m S w T){p:Nat}(hp:p<n):sm m (fun k=>if S k p=true then Ys n m T (n+k)else 0)=T.over*w p+Ys n m T p:=by
 have e:=G.eq m (yab m) (p+1) hp
 rw[rv_last,G.reix (fun a=>nv n S a (p+1)),sm_one (j:=p) n hp fun a ha hn=>by rw[nv_low ha,if_neg (by omega),ycc],nv_low hp,if_pos rfl]at e
 have z:zv w (p+1)=w p:=by unfold zv;rw[if_neg (ybi p)];rfl
 have o:one (p+1)=0:=if_neg (ybi p)
 rw[z,o,sm_congr m fun k _=>show Ys n m T (n+k)*nv n S (n+k) (p+1)= -1*(if S k p=true then Ys n m T (n+k)else 0) by
  rw[nv_high,if_neg (ybi p),Nat.add_sub_cancel]
  split<;>omega,sm_mul]at e
 omega
theorem Good.light(G:Good n m S w T){k:Nat}(hk:k<m):sm n (fun p=>if S k p=true then Xs n m T p else 0)<=T.over:=by
 have h:Fn n S T 0 (nv n S (n+k))=1*Fn n S T 0 one-sm n (fun p=>(if S k p=true then 1 else 0)*Fn n S T 0 (nv n S p)):=by
  rw[zdl fun j hj=>nv_set hj,Fn_sum (yas n) _ _ (fun c=>if S k c=true then 1 else 0) (fun c=>nv n S c)]
 rw[Fn_one G.dt (yas n),if_pos rfl,G.xs_fn (by omega),sm_congr n fun p hp=>show(if S k p=true then(1:Int)else 0)*Fn n S T 0 (nv n S p)=if S k p=true then Xs n m T p else 0 by
  rw[G.xs_fn (by omega)]
  split<;>omega]at h
 have:=G.xs_nn (n+k)
 omega
theorem Good.prices(G:Good n m S w T):sm n (fun p=>w p*Xs n m T p)=T.cell m n:=by
 have h:=G.base (yab m)
 rw[rv_last,zdl fun j hj=>zv_set (n:=n) (S:=S) hj,Fn_sum (yas n) _ _ (fun c=> -(w c)) (fun c=>nv n S c),sm_congr n fun p hp=>show -(w p)*Fn n S T 0 (nv n S p)= -1*(w p*Xs n m T p) by rw[G.xs_fn (by omega)];grind,sm_mul]at h
 omega
end
end Sx
namespace Hs
open PySem L2 HsD
noncomputable def top(i:Nat):Stmt:=PySem.Challenge.pw_hueshare_k31_needed_places_and_parts.main.body.getD i (.Pass ⟨0,0,0,0⟩)
noncomputable abbrev zbu:Stmt:=top 9
noncomputable abbrev zcz:Stmt:=top 10
noncomputable abbrev zce:Stmt:=top 11
noncomputable abbrev zci:Stmt:=top 12
noncomputable abbrev s_is_set:Stmt:=top 13
noncomputable abbrev zda:Stmt:=top 14
noncomputable abbrev s_is_web:Stmt:=top 15
noncomputable abbrev zbb:Stmt:=top 16
noncomputable abbrev zcw:Stmt:=top 17
noncomputable abbrev zbj:Stmt:=top 18
noncomputable abbrev zcx:Stmt:=top 19
noncomputable abbrev s_pairs:Stmt:=top 20
noncomputable abbrev zdf:Stmt:=top 21
noncomputable abbrev zdg:Stmt:=top 22
noncomputable abbrev zat:Stmt:=top 24
noncomputable abbrev s_lowest:Stmt:=top 25
noncomputable abbrev s_is_less:Stmt:=top 26
noncomputable abbrev zcb:Stmt:=top 28
noncomputable abbrev s_beside:Stmt:=top 29
noncomputable abbrev zbv:Stmt:=top 30
noncomputable abbrev zbd:Stmt:=top 32
noncomputable abbrev s_in_both:Stmt:=top 33
noncomputable abbrev zcr:Stmt:=top 34
noncomputable abbrev zcd:Stmt:=top 35
noncomputable abbrev zbn:Stmt:=inClass (top 38) 0
noncomputable abbrev zap:Stmt:=inClass (top 38) 1
noncomputable abbrev zar:Stmt:=inClass (top 38) 2
noncomputable abbrev zaw:Stmt:=inClass (top 38) 3
noncomputable abbrev zba:Stmt:=inClass (top 38) 4
noncomputable abbrev zbm:Stmt:=inClass (top 38) 5
noncomputable abbrev zbe:Stmt:=inClass (top 38) 6
noncomputable abbrev zak:Stmt:=inClass (top 38) 7
noncomputable abbrev zav:Stmt:=inClass (top 38) 8
noncomputable abbrev zau:Stmt:=inClass (top 38) 9
noncomputable abbrev zca:Stmt:=top 39
noncomputable abbrev s_shares:Stmt:=top 40
noncomputable abbrev s_value:Stmt:=top 41
noncomputable abbrev zaz:Stmt:=top 43
noncomputable abbrev zcg:Stmt:=top 44
noncomputable abbrev s_needed:Stmt:=top 45
noncomputable abbrev zcq:Stmt:=top 46
noncomputable abbrev s_is_part:Stmt:=top 47
noncomputable abbrev s_ring:Stmt:=top 50
noncomputable abbrev zch:Stmt:=top 52
noncomputable abbrev zco:Stmt:=top 53
noncomputable abbrev zbl:Stmt:=top 54
noncomputable abbrev zcc:Stmt:=top 55
noncomputable abbrev zcy:Stmt:=top 56
noncomputable abbrev zbh:Stmt:=top 57
noncomputable abbrev zbk:Stmt:=top 58
noncomputable abbrev zcp:Stmt:=top 59
noncomputable abbrev s_law:Stmt:=top 60
section
variable{P:Program}{w:World}{K:W.Frag}{mg:Str->Option Value}{base:Heap}
noncomputable def spWhole(K:W.Frag):Sp:=fun vs H Q _=>∃x d,vs=[x]/\DX K H x d/\Q (.bl (wholeD d)) H
theorem sc_whole:FnScope ["thing"] ["thing"] (defScope zbu):=⟨rfl,rfl,rfl,by decide+kernel,rfl,by decide+kernel,by decide+kernel⟩
theorem ok_whole{f:Addr}{fd:FuncData}(F:Fun K "is_whole" "is_whole" zbu f fd)(mi:mg "isinstance"=none)(mI:mg "int"=none)(mB:mg "bool"=none):FnOk P w K mg base CX0 1 f fd ["thing"] (spWhole K):=by
 refine F.ok sc_whole (fun vs H Q E h=> ?_) (fun cdv A outer s H vs Q E hr h=> ?_)
 ·obtain⟨x,d,rfl,_⟩:=h
  rfl
 obtain⟨x,d,rfl,hx,q⟩:=h
 refine⟨_,zaf (zao (pe_and (zam zdk rfl mi (by decide+kernel) (zaa (pv 0) (zaa (pe_bltn rfl mI (v:= .ty "int") (by decide+kernel) rfl) zac)))
  (pe_one (pe_not (zam zdk rfl mi (by decide+kernel) (zaa (pv 0) (zaa (pe_bltn rfl mB (v:= .ty "bool") (by decide+kernel) rfl) zac))))))),?_⟩
 refine⟨_,rfl,x,_,_,rfl,hx.kind,.inl rfl,_,rfl,?_⟩
 refine ite2 (fun c=> ?_) (fun c=> ?_)
 ·refine⟨_,rfl,x,_,_,rfl,hx.kind,.inr (.inl rfl),_,rfl,?_⟩
  cases d<;>first |exact q|(simp[isiB,kindD]at c;done)
 ·cases d<;>first |exact q|(exfalso;exact c rfl)
noncomputable def spPlace(K:W.Frag):Sp:=fun vs H Q _=>∃(n:Int) (x:V) (d:PyData),vs=[.int n,x]/\DX K H x d/\Q (.bl (placeD n d)) H
theorem sc_place:FnScope ["n","thing"] ["n","thing"] (defScope zcz):=⟨rfl,rfl,rfl,by decide+kernel,rfl,by decide+kernel,by decide+kernel⟩
theorem ok_place{f g:Addr}{fd gd:FuncData}(F:Fun K "is_place" "is_place" zcz f fd)(D:Dfn K mg "is_whole" zbu ["thing"] g gd)(G:FnOk P w K mg base CX0 1 g gd ["thing"] (spWhole K)):FnOk P w K mg base CX0 2 f fd ["n","thing"] (spPlace K):=by
 refine F.ok sc_place (fun vs H Q E h=> ?_) (fun cdv A outer s H vs Q E hr h=> ?_)
 ·obtain⟨n,x,d,rfl,_⟩:=h
  rfl
 obtain⟨n,x,d,rfl,hx,q⟩:=h
 refine⟨_,zaf (zao (pe_and (zag G hr rfl D.m D.F.kp D.b .nil pass0 (zaa (pv 1) zac)) (pe_one (pe_chain op_le op_lt zah (pv 1) (pv 0))))),?_⟩
 refine⟨_,rfl,x,d,rfl,hx,_,rfl,?_⟩
 refine ite2 (fun c=> ?_) (fun c=> ?_)
 ·cases hx with
  |int i=>
   refine⟨_,rfl,_,_,rfl,rfl,_,rfl,?_⟩
   refine ite2 (fun c2=> ?_) (fun c2=> ?_)
   ·refine⟨_,rfl,_,_,rfl,rfl,?_⟩
    have e:placeD n (.int i)=decide (i<n):=by show(decide (0<=i)&&decide (i<n))=_;rw[c2];rfl
    rw[e]at q;exact q
   ·have e:placeD n (.int i)=false:=by show(decide (0<=i)&&decide (i<n))=_;rw[Bool.eq_false_iff.mpr c2];rfl
    rw[e]at q;exact q
  |_=>simp[wholeD]at c
 ·have e:placeD n d=false:=by
   cases d<;>first |rfl|(exfalso;exact c rfl)
  rw[e]at q;exact q
noncomputable def spPlaces(K:W.Frag):Sp:=fun vs H Q _=>∃(n:Int) (a:Addr) (xs:List V) (ds:List PyData),vs=[.int n,.ref a]/\SqT K H a xs/\DXs K H xs ds/\∀H',Same H H'->Q (.bl (ds.all (placeD n))) H'
theorem sc_places:FnScope ["n","things"] ["n","things"] (defScope zce):=⟨rfl,rfl,rfl,by decide+kernel,rfl,by decide+kernel,by decide+kernel⟩
theorem all_take{α:Type}(ds:List α)(p:α->Bool):(ds.map p).all id=ds.all p:=by rw[List.all_map];rfl
theorem ok_places{f g:Addr}{fd gd:FuncData}(F:Fun K "are_places" "are_places" zce f fd)(D:Dfn K mg "is_place" zcz ["n","thing"] g gd)(G:FnOk P w K mg base CX0 2 g gd ["n","thing"] (spPlace K))(mA:mg "all"=none):FnOk P w K mg base CX0 3 f fd ["n","things"] (spPlaces K):=by
 refine F.ok sc_places (fun vs H Q E h=> ?_) (fun cdv A outer s H vs Q E hr h=> ?_)
 ·obtain⟨n,a,xs,ds,rfl,_⟩:=h
  rfl
 obtain⟨n,a,xs,ds,rfl,hS,hd,q⟩:=h
 refine⟨_,zaf (zao (zam (call_all rfl) rfl mA (by decide+kernel) (zaa (zbq (own:=["thing"]) (caps:=["n"]) (ix:=[0]) rfl (pi_tupL (pv 1)) rfl rfl (.cons rfl rfl .nil) (fun _ _ _ _ _=>zaj (i:=0) (show(["thing","n"]:List Str).Nodup from by decide+kernel) rfl (Or.inl rfl)) (fun _ _ _ _ _=>zcl) (fun _ _ _ _ _=>zag G hr rfl D.m D.F.kp D.b .nil pass0 (zaa (pv 1) (zaa (pv 0) zac)))) zac))),?_⟩
 refine⟨_,rfl,a,xs,rfl,hS,fun hz=> ?_⟩
 have hl:=hd.len
 refine zdj (xs:=xs) (fun i acc σ H'=>acc=((ds.take i).map (placeD n)).map V.bl/\Same H H'/\∃o,σ=[o,some (.int n)]) ⟨rfl,Same.refl _,_,rfl⟩ (fun i acc σ H' _ p=>p.2.1.tup hS) (fun i acc σ H' hi p=> ?_) hz (fun i x acc σ H' hx p=> ?_) (fun acc σ H' p=> ?_)
 ·rw[p.1];simp;omega
 ·obtain⟨rfl,sm,o,rfl⟩:=p
  obtain⟨d,e1,e2⟩:=hd.get hx
  refine⟨_,rfl,_,rfl,n,x,d,rfl,DX.same sm e2,?_,sm,_,rfl⟩
  rw[yce,e1]
  simp
 ·intro p1 hp1
  obtain⟨rfl,sm,_⟩:=p
  refine⟨p1,(ds.map (placeD n)),rfl,SqL.of (by rw[zab,hl,ybp]),?_⟩
  rw[all_take]
  exact q _ (sm.trans (zad hp1 _))
noncomputable def RisV(K:W.Frag)(H:Hp)(x y:V)(b:Bool):Prop:=(∃i j,x= .int i/\y= .int j/\b=decide (i<j))\/(∃p q ns ms,x= .ref p/\y= .ref q/\SqT K H p (ns.map V.int)/\SqT K H q (ms.map V.int)/\b=HT.lexLt ns ms)
noncomputable def spRising(K:W.Frag):Sp:=fun vs H Q _=>∃(a:Addr) (xs:List V) (bs:Nat->Bool),vs=[.ref a]/\SqT K H a xs/\(∀k,k+1<xs.length->∃x y,xs[k]? =some x/\xs[k+1]? =some y/\RisV K H x y (bs k))/\
 ∀H',Same H H'->Q (.bl ((List.range (xs.length-1)).all bs)) H'
theorem sc_rising:FnScope ["things"] ["things"] (defScope zci):=⟨rfl,rfl,rfl,by decide+kernel,rfl,by decide+kernel,by decide+kernel⟩
theorem ok_rising{f:Addr}{fd:FuncData}(F:Fun K "is_rising" "is_rising" zci f fd)(mA:mg "all"=none)(mR:mg "range"=none)(mL:mg "len"=none):FnOk P w K mg base CX0 1 f fd ["things"] (spRising K):=by
 refine F.ok sc_rising (fun vs H Q E h=> ?_) (fun cdv A outer s H vs Q E hr h=> ?_)
 ·obtain⟨a,xs,bs,rfl,_⟩:=h
  rfl
 obtain⟨a,xs,bs,rfl,hS,hb,q⟩:=h
 refine⟨_,zaf (zao (zam (call_all rfl) rfl mA (by decide+kernel) (zaa (zbq (own:=["k"]) (caps:=["things"]) (ix:=[0]) rfl
  (pi_range2 rfl mR (zaa zah (zaa (zam zbz rfl mL PySem.boot_len (zaa (pv 0) zac)) zac))) rfl rfl (.cons rfl rfl .nil) (fun _ _ _ _ _=>zaj (i:=0) (show(["k","things"]:List Str).Nodup from by decide+kernel) rfl (Or.inl rfl)) (fun _ _ _ _ _=>zcl) (fun _ _ _ _ _=>pe_cmpR (op_lt.or (op_ltTK K hr.units0)) (zay (ix_tupK K) (pv 1) (zax op_sub (pv 0) zah) (fun _ _=>rfl)) (zay (ix_tupK K) (pv 1) (pv 0) (fun _ _=>rfl)) (nomark _))) zac))),?_⟩
 refine⟨_,rfl,a,xs,rfl,.inr hS,fun hz=>⟨1,_,rfl,⟨by omega,by omega,by omega,by omega⟩,?_⟩⟩
 have en:((xs.length:Int)-1).toNat=xs.length-1:=by omega
 rw[en]
 refine zck (fun i acc σ H'=>acc=((List.range i).map bs).map V.bl/\Same H H'/\∃o,σ=[o,some (.ref a)]) ⟨rfl,Same.refl _,_,rfl⟩ (fun i acc σ H' hi p=>by rw[p.1];simp) (by rw[sizeLine_eq];omega) (fun i acc σ H' hi p=> ?_) (fun acc σ H' p=> ?_)
 ·obtain⟨rfl,sm,o,rfl⟩:=p
  obtain⟨x,y,hx,hy,hxy⟩:=hb i (by omega)
  have e1:(1+(i:Int))-1=((i:Nat):Int):=by omega
  have e2:(1+(i:Int))=((i+1:Nat):Int):=by omega
  have a1:atI xs (1+(i:Int)-1)=some x:=by rw[e1];exact atI_nat hx
  have a2:atI xs (1+(i:Int))=some y:=by rw[e2];exact atI_nat hy
  refine⟨_,rfl,_,rfl,_,_,rfl,rfl,a,xs,_,x,rfl,rfl,sm.tup hS,a1,_,rfl,_,rfl,a,xs,_,y,rfl,rfl,sm.tup hS,a2,?_⟩
  have ea:((List.range i).map bs).map V.bl++[V.bl (bs i)]=((List.range (i+1)).map bs).map V.bl:=by rw[ybt];simp
  rcases hxy with⟨u,v,rfl,rfl,e⟩|⟨p,p',ns,ms,rfl,rfl,h1,h2,e⟩
  ·refine .inl ⟨u,v,rfl,rfl,?_,sm,_,rfl⟩
   show _++[V.bl (decide (u<v))]=_
   rw[<-e];exact ea
  ·refine .inr ⟨p,p',ns,ms,rfl,rfl,sm.tup h1,sm.tup h2,?_,sm,_,rfl⟩
   show _++[V.bl (HT.lexLt ns ms)]=_
   rw[<-e];exact ea
 ·intro p1 hp1
  obtain⟨rfl,sm,_⟩:=p
  refine⟨p1,(List.range (xs.length-1)).map bs,rfl,SqL.of zab,?_⟩
  rw[all_take]
  exact q _ (sm.trans (zad hp1 _))
theorem ints_of{H:Hp}{n:Int}{xs:List V}{ds:List PyData}(h:DXs K H xs ds)(hp:ds.all (placeD n)=true):xs=(ds.map intD).map V.int:=by
 induction ds generalizing xs with
 |nil=>cases h;rfl
 |cons d ds ih=>
  rw[List.all_cons,Bool.and_eq_true]at hp
  cases h with
  |cons h t=>
   obtain⟨i,rfl,_⟩:=placeD_int hp.1
   cases h
   rw[ybz,ybz,<-ih t hp.2]
   rfl
theorem rises_int{H:Hp}(ns:List Int):∀k,k+1<(ns.map V.int).length->∃x y,(ns.map V.int)[k]? =some x/\(ns.map V.int)[k+1]? =some y/\RisV K H x y (decide (ns.getD k 0<ns.getD (k+1) 0)):=fun k hk=>by
 rw[yaa]at hk
 have h1:k<ns.length:=by omega
 refine⟨.int (ns.getD k 0),.int (ns.getD (k+1) 0),by simp[h1],by simp[hk],.inl ⟨_,_,rfl,rfl,rfl⟩⟩
noncomputable def spSet(K:W.Frag):Sp:=fun vs H Q _=>∃(n:Int) (x:V) (d:PyData),vs=[.int n,x]/\DX K H x d/\∀H',Same H H'->Q (.bl (setD n d)) H'
theorem sc_set:FnScope ["n","thing"] ["n","thing"] (defScope s_is_set):=⟨rfl,rfl,rfl,by decide+kernel,rfl,by decide+kernel,by decide+kernel⟩
theorem ok_set{f f1 f2:Addr}{fd d1 d2:FuncData}(F:Fun K "is_set" "is_set" s_is_set f fd)(D1:Dfn K mg "are_places" zce ["n","things"] f1 d1)(G1:FnOk P w K mg base CX0 3 f1 d1 ["n","things"] (spPlaces K))(D2:Dfn K mg "is_rising" zci ["things"] f2 d2)(G2:FnOk P w K mg base CX0 1 f2 d2 ["things"] (spRising K))(mi:mg "isinstance"=none)(mT:mg "tuple"=none):FnOk P w K mg base CX0 4 f fd ["n","thing"] (spSet K):=by
 refine F.ok sc_set (fun vs H Q E h=> ?_) (fun cdv A outer s H vs Q E hr h=> ?_)
 ·obtain⟨n,x,d,rfl,_⟩:=h
  rfl
 obtain⟨n,x,d,rfl,hx,q⟩:=h
 refine⟨_,zaf (zao (pe_and (zam zdk rfl mi (by decide+kernel) (zaa (pv 1) (zaa (pe_bltn rfl mT (v:= .ty "tuple") (by decide+kernel) rfl) zac)))
  (pe_and (zag G1 hr rfl D1.m D1.F.kp D1.b .nil pass0 (zaa (pv 0) (zaa (pv 1) zac))) (pe_one (zag (G2.mono (by decide)) hr rfl D2.m D2.F.kp D2.b .nil pass0 (zaa (pv 1) zac)))))),?_⟩
 refine⟨_,rfl,x,_,_,rfl,hx.kind,.inr (.inr (.inl rfl)),_,rfl,?_⟩
 refine ite2 (fun c=> ?_) (fun c=> ?_)
 ·cases hx with
  | @tup a xs ds h t=>
   refine⟨_,rfl,_,rfl,n,a,xs,ds,rfl,h,t,fun H1 sm=>⟨_,rfl,?_⟩⟩
   refine ite2 (fun c2=> ?_) (fun c2=> ?_)
   ·have ex:=ints_of t c2
    refine⟨_,rfl,a,xs,fun k=>decide ((ds.map intD).getD k 0<(ds.map intD).getD (k+1) 0),rfl,sm.tup h,?_,fun H2 sm2=> ?_⟩
    ·rw[ex];exact rises_int _
    ·have e:setD n (.tuple ds)=(List.range (xs.length-1)).all fun k=>decide ((ds.map intD).getD k 0<(ds.map intD).getD (k+1) 0):=by
      show(ds.all (placeD n)&&risesI (ds.map intD))=_
      rw[c2,t.len]
      show risesI (ds.map intD)=_
      unfold risesI
      rw[yaa]
     have:=q H2 (sm.trans sm2)
     rw[e]at this;exact this
   ·have e:setD n (.tuple ds)=false:=by
     show(ds.all (placeD n)&&risesI (ds.map intD))=_
     rw[Bool.eq_false_iff.mpr c2];rfl
    have:=q H1 sm
    rw[e]at this;exact this
  |_=>simp[isiB,kindD]at c
 ·have e:setD n d=false:=by
   cases d<;>first |rfl|(exfalso;exact c rfl)
  have:=q H (Same.refl _)
  rw[e]at this;exact this
noncomputable def spTies(K:W.Frag):Sp:=fun vs H Q _=>∃(n:Int) (x:V) (d:PyData),vs=[.int n,x]/\DX K H x d/\∀H',Same H H'->Q (.bl (tiesD n d)) H'
theorem sc_ties:FnScope ["n","thing"] ["n","thing"] (defScope zda):=⟨rfl,rfl,rfl,by decide+kernel,rfl,by decide+kernel,by decide+kernel⟩
theorem tie_tup{H:Hp}{n:Int}{x:V}{d:PyData}(h:DX K H x d)(ht:tieD n d=true):∃p,x= .ref p/\SqT K H p (((kids d).map intD).map V.int):=by
 cases h with
 | @tup a xs ds h t=>
  have q:(ds.all (placeD n)&&risesI (ds.map intD)&&decide (ds.length=2))=true:=ht
  rw[Bool.and_eq_true,Bool.and_eq_true]at q
  exact⟨a,rfl,by rw[ints_of t q.1.1]at h;exact h⟩
 |_=>simp[tieD,setD]at ht
theorem rises_tup{H:Hp}{n:Int}{xs:List V}{ds:List PyData}(t:DXs K H xs ds)(ha:ds.all (tieD n)=true):∀k,k+1<xs.length->∃x y,xs[k]? =some x/\xs[k+1]? =some y/\
  RisV K H x y (HT.lexLt ((ds.map fun t=>(kids t).map intD).getD k []) ((ds.map fun t=>(kids t).map intD).getD (k+1) [])):=fun k hk=>by
 have hl:=t.len
 have h1:k<xs.length:=by omega
 obtain⟨d1,e1,x1⟩:=t.get (i:=k) (x:=xs[k]) (by simp[h1])
 obtain⟨d2,e2,x2⟩:=t.get (i:=k+1) (x:=xs[k+1]) (by simp[hk])
 have m1:=yax.mp ha d1 (ybd e1)
 have m2:=yax.mp ha d2 (ybd e2)
 obtain⟨p1,q1,s1⟩:=tie_tup x1 m1
 obtain⟨p2,q2,s2⟩:=tie_tup x2 m2
 refine⟨xs[k],xs[k+1],by simp[h1],by simp[hk],.inr ⟨p1,p2,_,_,q1,q2,s1,s2,?_⟩⟩
 have g1:(ds.map fun t=>(kids t).map intD).getD k []=(kids d1).map intD:=by rw[yag,yae,e1];rfl
 have g2:(ds.map fun t=>(kids t).map intD).getD (k+1) []=(kids d2).map intD:=by rw[yag,yae,e2];rfl
 rw[g1,g2]
theorem ok_ties{f f1 f2:Addr}{fd d1 d2:FuncData}(F:Fun K "are_ties" "are_ties" zda f fd)(D1:Dfn K mg "is_set" s_is_set ["n","thing"] f1 d1)(G1:FnOk P w K mg base CX0 4 f1 d1 ["n","thing"] (spSet K))(D2:Dfn K mg "is_rising" zci ["things"] f2 d2)(G2:FnOk P w K mg base CX0 1 f2 d2 ["things"] (spRising K))(mi:mg "isinstance"=none)(mT:mg "tuple"=none)(mA:mg "all"=none)(mL:mg "len"=none):FnOk P w K mg base CX0 5 f fd ["n","thing"] (spTies K):=by
 refine F.ok sc_ties (fun vs H Q E h=> ?_) (fun cdv A outer s H vs Q E hr h=> ?_)
 ·obtain⟨n,x,d,rfl,_⟩:=h
  rfl
 obtain⟨n,x,d,rfl,hx,q⟩:=h
 refine⟨_,zae (ps_if (pt_not (pt_val (zam zdk rfl mi (by decide+kernel) (zaa (pv 1) (zaa (pe_bltn rfl mT (v:= .ty "tuple") (by decide+kernel) rfl) zac))))) (zaf (zao pe_bl)) zbg) (zaf (zao (pe_and (zam (call_all rfl) rfl mA (by decide+kernel) (zaa (zbq (own:=["tie"]) (caps:=["n"]) (ix:=[0]) rfl (pi_tupL (pv 1)) rfl rfl (.cons rfl rfl .nil) (fun _ _ _ _ _=>zaj (i:=0) (show(["tie","n"]:List Str).Nodup from by decide+kernel) rfl (Or.inl rfl)) (fun _ _ _ _ _=>zcl) (fun _ _ _ _ _=>pe_and (zag G1 hr rfl D1.m D1.F.kp D1.b .nil pass0 (zaa (pv 1) (zaa (pv 0) zac))) (pe_one (pe_cmpR op_eq (zam (call_lenK K) rfl mL PySem.boot_len (zaa (pv 0) zac)) zah (nomark _))))) zac))
  (pe_one (zag (G2.mono (by decide)) hr rfl D2.m D2.F.kp D2.b .nil pass0 (zaa (pv 1) zac)))))),?_⟩
 refine⟨_,rfl,x,_,_,rfl,hx.kind,.inr (.inr (.inl rfl)),_,rfl,?_⟩
 refine ite2 (fun c=> ?_) (fun c=> ?_)
 ·have e:tiesD n d=false:=by
   cases d<;>first |rfl|(exfalso;simp[isiB,kindD]at c;done)
  have:=q H (Same.refl _)
  rw[e]at this;exact this
 ·cases hx with
  | @tup a xs ds h t=>
   refine⟨_,rfl,a,xs,rfl,h,fun hz=> ?_⟩
   have hl:=t.len
   refine zdj (xs:=xs) (fun i acc σ H'=>acc=((ds.take i).map (tieD n)).map V.bl/\Same H H'/\∃o,σ=[o,some (.int n)]) ⟨rfl,Same.refl _,_,rfl⟩ (fun i acc σ H' _ p=>p.2.1.tup h) (fun i acc σ H' hi p=> ?_) hz (fun i x acc σ H' hx p=> ?_) (fun acc σ H' p=> ?_)
   ·rw[p.1];simp;omega
   ·obtain⟨rfl,sm,o,rfl⟩:=p
    obtain⟨d,e1,e2⟩:=t.get hx
    refine⟨_,rfl,_,rfl,n,x,d,rfl,DX.same sm e2,fun H1 sm1=>⟨_,rfl,?_⟩⟩
    have ea:∀b,b=tieD n d->((ds.take i).map (tieD n)).map V.bl++[V.bl b]=((ds.take (i+1)).map (tieD n)).map V.bl:=fun b hb=>by
     rw[yce,e1,hb];simp
    refine ite2 (fun c2=> ?_) (fun c2=> ?_)
    ·cases e2 with
     | @tup a2 xs2 ds2 h2 t2=>
      refine⟨_,rfl,a2,xs2,rfl,.inr (sm1.tup (sm.tup h2)),fun hz2=>⟨rfl,ea _ ?_,sm.trans sm1,_,rfl⟩⟩
      show decide (V.int (xs2.length:Int)=V.int 2)=(setD n (.tuple ds2)&&decide (ds2.length=2))
      rw[c2,t2.len]
      by_cases e3:ds2.length=2
      ·rw[e3];rfl
      ·rw[decide_eq_false e3,decide_eq_false (by intro z;injection z with z;exact e3 (by omega))];rfl
     |_=>simp[setD]at c2
    ·refine⟨ea _ ?_,sm.trans sm1,_,rfl⟩
     show false=(setD n d&&decide ((kids d).length=2))
     rw[Bool.eq_false_iff.mpr c2];rfl
   ·intro p1 hp1
    obtain⟨rfl,sm,_⟩:=p
    have sm':Same H (upd H' p1 (.lst (((ds.take xs.length).map (tieD n)).map V.bl))):=sm.trans (zad hp1 _)
    refine⟨p1,(ds.map (tieD n)),rfl,SqL.of (by rw[zab,hl,ybp]),_,rfl,?_⟩
    rw[all_take]
    refine ite2 (fun c2=> ?_) (fun c2=> ?_)
    ·refine⟨_,rfl,a,xs,fun k=>HT.lexLt ((ds.map fun t=>(kids t).map intD).getD k []) ((ds.map fun t=>(kids t).map intD).getD (k+1) []),rfl,sm'.tup h,?_,fun H2 sm2=> ?_⟩
     ·exact rises_tup (DXs.same sm' t) c2
     ·have e:tiesD n (.tuple ds)=(List.range (xs.length-1)).all fun k=>HT.lexLt ((ds.map fun t=>(kids t).map intD).getD k []) ((ds.map fun t=>(kids t).map intD).getD (k+1) []):=by
       show(ds.all (tieD n)&&risesT (ds.map fun t=>(kids t).map intD))=_
       rw[c2,hl]
       show risesT (ds.map fun t=>(kids t).map intD)=_
       unfold risesT
       rw[yaa]
      have:=q H2 (sm'.trans sm2)
      rw[e]at this;exact this
    ·have e:tiesD n (.tuple ds)=false:=by
      show(ds.all (tieD n)&&risesT (ds.map fun t=>(kids t).map intD))=_
      rw[Bool.eq_false_iff.mpr c2];rfl
     have:=q _ sm'
     rw[e]at this;exact this
  |_=>exfalso;exact c rfl
end
end Hs
namespace HsD
open PySem L2
noncomputable def pairD(p:Int×Int):PyData:= .tuple [.int p.1,.int p.2]
noncomputable def webDat(n:Int)(ts:List (Int×Int)):PyData:= .tuple [.int n,.tuple (ts.map pairD)]
noncomputable def WebV(K:W.Frag)(H:Hp)(a:Addr)(n:Int)(ts:List (Int×Int)):Prop:=∃t rs,SqT K H a [.int n,.ref t]/\SqT K H t rs/\DVs K H rs (ts.map pairD)
theorem WebV.dv{K:W.Frag}{H:Hp}{a:Addr}{n:Int}{ts:List (Int×Int)}(h:WebV K H a n ts):DV K H (.ref a) (webDat n ts):=by
 obtain⟨t,rs,h1,h2,h3⟩:=h
 exact .tup h1 (.cons (.int n) (.cons (.tup h2 h3) .nil))
theorem WebV.same{K:W.Frag}{H H':Hp}{a:Addr}{n:Int}{ts:List (Int×Int)}(h:WebV K H a n ts)(e:Same H H'):WebV K H' a n ts:=by
 obtain⟨t,rs,h1,h2,h3⟩:=h
 exact⟨t,rs,e.tup h1,e.tup h2,DVs.same e h3⟩
noncomputable def hasTie(ts:List (Int×Int))(i j:Int):Bool:=decide ((if j<i then j else i,if j>i then j else i)∈ts)
theorem eqv_pair(p q:Int×Int):PyData.eqv (pairD p) (pairD q)=decide (p=q):=by
 obtain⟨a,b⟩:=p
 obtain⟨c,d⟩:=q
 show((a==c)&&((b==d)&&true))=_
 rw[Bool.eq_iff_iff]
 simp
theorem lay_pairs:∀ts:List (Int×Int),PyData.canLayAll0 (ts.map pairD)=true
 |[]=>rfl
 |p::ts=>by
  show(PyData.canLay0 (pairD p)&&PyData.canLayAll0 (ts.map pairD))=true
  rw[lay_pairs ts];rfl
theorem any_pair(ts:List (Int×Int))(q:Int×Int):((ts.map pairD).any fun d=>PyData.eqv d (pairD q))=decide (q∈ts):=by
 rw[List.any_map,Bool.eq_iff_iff,List.any_eq_true]
 constructor
 ·rintro⟨p,hp,h⟩
  have h':PyData.eqv (pairD p) (pairD q)=true:=h
  rw[eqv_pair]at h'
  have e:p=q:=of_decide_eq_true h'
  subst e
  exact decide_eq_true hp
 ·intro h
  refine⟨q,of_decide_eq_true h,?_⟩
  show PyData.eqv (pairD q) (pairD q)=true
  rw[eqv_pair]
  exact decide_eq_true rfl
end HsD
namespace Hs
open PySem L2 HsD
section
variable{P:Program}{w:World}{K:W.Frag}{mg:Str->Option Value}{base:Heap}
noncomputable def spWeb(K:W.Frag):Sp:=fun vs H Q _=>∃(x:V) (d:PyData),vs=[x]/\DX K H x d/\∀H',Same H H'->Q (.bl (webD d)) H'
theorem sc_web:FnScope ["thing","n"] ["thing"] (defScope s_is_web):=⟨rfl,rfl,rfl,by decide+kernel,rfl,by decide+kernel,by decide+kernel⟩
theorem ok_web{f f1 f2:Addr}{fd d1 d2:FuncData}{tk:Tok}(F:Fun K "is_web" "is_web" s_is_web f fd)(D1:Dfn K mg "is_whole" zbu ["thing"] f1 d1)(G1:FnOk P w K mg base CX0 1 f1 d1 ["thing"] (spWhole K))(D2:Dfn K mg "are_ties" zda ["n","thing"] f2 d2)(G2:FnOk P w K mg base CX0 5 f2 d2 ["n","thing"] (spTies K))(mi:mg "isinstance"=none)(mT:mg "tuple"=none)(mL:mg "len"=none)(mM:mg "MOST_PLACES"=some (.int 10 tk)):FnOk P w K mg base CX0 6 f fd ["thing"] (spWeb K):=by
 refine F.ok sc_web (fun vs H Q E h=> ?_) (fun cdv A outer s H vs Q E hr h=> ?_)
 ·obtain⟨x,d,rfl,_⟩:=h
  rfl
 obtain⟨x,d,rfl,hx,q⟩:=h
 refine⟨_,zae (ps_if (PW.pt (pw_or (pt_not (pt_val (zam zdk rfl mi (by decide+kernel) (zaa (pv 0) (zaa (pe_bltn rfl mT (v:= .ty "tuple") (by decide+kernel) rfl) zac)))))
   (pw_or1 (zas op_ne (zam zbz rfl mL PySem.boot_len (zaa (pv 0) zac)) zah (nomark _))))) (zaf (zao pe_bl)) zbg) (zae (zan (i:=1) sc_web.nd rfl (Or.inl rfl) (zay zcf (pv 0) zah (fun _ _=>rfl))) (zaf (zao (pe_and (zag (G1.mono (by decide)) hr rfl D1.m D1.F.kp D1.b .nil pass0 (zaa (pv 1) zac)) (pe_and (pe_chain op_le op_le zah (pv 1) (pe_glob rfl mM (v:= .int 10) ⟨_,rfl⟩))
   (pe_one (zag G2 hr rfl D2.m D2.F.kp D2.b .nil pass0 (zaa (pv 1) (zaa (zay zcf (pv 0) zah (fun _ _=>rfl)) zac))))))))),?_⟩
 refine⟨_,rfl,x,_,_,rfl,hx.kind,.inr (.inr (.inl rfl)),_,rfl,?_⟩
 refine ite2 (fun c=> ?_) (fun c=> ?_)
 ·have e:webD d=false:=by
   cases d<;>first |rfl|(exfalso;simp[isiB,kindD]at c;done)
  have:=q H (Same.refl _)
  rw[e]at this;exact this
 ·cases hx with
  | @tup a xs ds h t=>
   have hl:=t.len
   refine⟨_,rfl,a,xs,rfl,.inr h,fun hz=>⟨rfl,_,rfl,?_⟩⟩
   refine ite2 (fun c2=> ?_) (fun c2=> ?_)
   ·have e:webD (.tuple ds)=false:=by
     match ds,hl with
     |[],_=>rfl
     |[_],_=>rfl
     |[_,_],hl=>
      exfalso
      have e2:(!decide (V.int (xs.length:Int)=V.int 2))=true:=c2
      rw[hl]at e2
      simp at e2
     |_::_::_::_,_=>rfl
    have:=q H (Same.refl _)
    rw[e]at this;exact this
   ·have e2:xs.length=2:=by
     have e2:¬(!decide (V.int (xs.length:Int)=V.int 2))=true:=c2
     simp at e2
     omega
    cases t with
    |nil=>simp at e2
    |cons h0 t0=>
     cases t0 with
     |nil=>simp at e2
     | @cons x1 dd1 xs1 ds1 h1 t1=>
      cases t1 with
      |cons _ _=>simp at e2
      |nil=>
       rename_i x0 dd0
       refine⟨_,rfl,a,_,_,x0,rfl,rfl,h,by rfl,?_⟩
       refine⟨_,rfl,x0,dd0,rfl,h0,_,rfl,?_⟩
       refine ite2 (fun c3=> ?_) (fun c3=> ?_)
       ·cases h0 with
        |int n=>
         refine⟨_,rfl,_,_,rfl,rfl,_,rfl,?_⟩
         have fin:∀b,b=webD (.tuple [.int n,dd1])->∀H',Same H H'->Q (.bl b) H':=fun b hb H' sm=>by rw[hb];exact q H' sm
         have wd:webD (.tuple [.int n,dd1])=((decide (0<=n)&&decide (n<=10))&&tiesD n dd1):=rfl
         refine ite2 (fun c4=> ?_) (fun c4=> ?_)
         ·refine⟨_,_,rfl,rfl,_,rfl,?_⟩
          refine ite2 (fun c5=> ?_) (fun c5=> ?_)
          ·refine⟨_,rfl,_,rfl,a,_,_,x1,rfl,rfl,h,by rfl,n,x1,dd1,rfl,h1,fun H' sm=>fin _ ?_ H' sm⟩
           rw[wd,c4,c5];rfl
          ·refine fin _ ?_ H (Same.refl _)
           rw[wd,Bool.eq_false_iff.mpr c5,Bool.and_false];rfl
         ·refine⟨_,rfl,?_⟩
          refine iteF (fin _ ?_ H (Same.refl _))
          rw[wd,Bool.eq_false_iff.mpr c4];rfl
        |_=>simp[wholeD]at c3
       ·have e:webD (.tuple [dd0,dd1])=false:=by
         show(wholeD dd0&&(decide (0<=intD dd0)&&decide (intD dd0<=10))&&tiesD (intD dd0) dd1)=false
         rw[Bool.eq_false_iff.mpr c3];rfl
        have:=q H (Same.refl _)
        rw[e]at this;exact this
  |_=>exfalso;exact c rfl
noncomputable def spNeedWeb(K:W.Frag):Sp:=fun vs H Q _=>∃(x:V) (d:PyData),vs=[x]/\DX K H x d/\webD d=true/\∀H',Same H H'->Q .non H'
theorem sc_needWeb:FnScope ["thing"] ["thing"] (defScope zbb):=⟨rfl,rfl,rfl,by decide+kernel,rfl,by decide+kernel,by decide+kernel⟩
theorem ok_needWeb{f f1:Addr}{fd d1:FuncData}(F:Fun K "need_web" "need_web" zbb f fd)(D1:Dfn K mg "is_web" s_is_web ["thing"] f1 d1)(G1:FnOk P w K mg base CX0 6 f1 d1 ["thing"] (spWeb K)):FnOk P w K mg base CX0 7 f fd ["thing"] (spNeedWeb K):=by
 refine F.ok sc_needWeb (fun vs H Q E h=> ?_) (fun cdv A outer s H vs Q E hr h=> ?_)
 ·obtain⟨x,d,rfl,_⟩:=h
  rfl
 obtain⟨x,d,rfl,hx,hw,q⟩:=h
 refine⟨_,zaf (ps_if (pt_not (pt_val (zag G1 hr rfl D1.m D1.F.kp D1.b .nil pass0 (zaa (pv 0) zac)))) pss_never zbg),?_⟩
 refine⟨_,rfl,x,d,rfl,hx,fun H' sm=>⟨_,rfl,?_⟩⟩
 rw[hw]
 exact iteF (q H' sm)
noncomputable def spHas(K:W.Frag):Sp:=fun vs H Q _=>∃(a:Addr) (n i j:Int) (ts:List (Int×Int)),vs=[.ref a,.int i,.int j]/\WebV K H a n ts/\∀H',Same H H'->Q (.bl (hasTie ts i j)) H'
theorem sc_has:FnScope ["web","one","other"] ["web","one","other"] (defScope zdg):=⟨rfl,rfl,rfl,by decide+kernel,rfl,by decide+kernel,by decide+kernel⟩
theorem ok_has{f:Addr}{fd:FuncData}(F:Fun K "has_tie" "has_tie" zdg f fd)(mi:mg "min"=none)(ma:mg "max"=none):FnOk P w K mg base CX0 1 f fd ["web","one","other"] (spHas K):=by
 refine F.ok sc_has (fun vs H Q E h=> ?_) (fun cdv A outer s H vs Q E hr h=> ?_)
 ·obtain⟨a,n,i,j,ts,rfl,_⟩:=h
  rfl
 obtain⟨a,n,i,j,ts,rfl,hW,q⟩:=h
 refine⟨_,zaf (zao (pe_cmpR (op_inD hr.units) (zbw (zaa (zam (call_min2 rfl) rfl mi (by decide+kernel) (zaa (pv 1) (zaa (pv 2) zac))) (zaa (zam (call_max2 rfl) rfl ma (by decide+kernel) (zaa (pv 1) (zaa (pv 2) zac))) zac)))
  (zay zcf (pv 0) zah (fun _ _=>rfl)) (by with_unfolding_all rfl))),?_⟩
 refine⟨_,rfl,_,rfl,_,_,rfl,_,rfl,_,rfl,_,_,rfl,(by show 2<=sizeLine;decide),fun p hp=> ?_⟩
 have sm:=zad hp (.tup [.int (if j<i then j else i),.int (if j>i then j else i)])
 obtain⟨t,rs,h1,h2,h3⟩:=hW.same sm
 refine⟨_,rfl,a,_,_,.ref t,rfl,rfl,h1,rfl,t,rs,_,pairD (if j<i then j else i,if j>i then j else i),rfl,.inr h2,h3,.tup (SqT.of zab) (.cons (.int _) (.cons (.int _) .nil)),lay_pairs ts,rfl,(by show max 0 (max 0 0)+1<=60;decide),?_⟩
 rw[any_pair]
 exact q _ sm
end
noncomputable def WebOk(n:Int)(ts:List (Int×Int)):Prop:=webD (webDat n ts)=true
section
variable{P:Program}{w:World}{K:W.Frag}{mg:Str->Option Value}{base:Heap}
noncomputable def spNeedSet(K:W.Frag):Sp:=fun vs H Q _=>∃(a:Addr) (n:Int) (t x:V) (d:PyData),vs=[.ref a,x]/\SqT K H a [.int n,t]/\DX K H x d/\setD n d=true/\∀H',Same H H'->Q .non H'
theorem sc_needSet:FnScope ["web","thing"] ["web","thing"] (defScope zcw):=⟨rfl,rfl,rfl,by decide+kernel,rfl,by decide+kernel,by decide+kernel⟩
theorem ok_needSet{f f1:Addr}{fd d1:FuncData}(F:Fun K "need_set" "need_set" zcw f fd)(D1:Dfn K mg "is_set" s_is_set ["n","thing"] f1 d1)(G1:FnOk P w K mg base CX0 4 f1 d1 ["n","thing"] (spSet K)):FnOk P w K mg base CX0 5 f fd ["web","thing"] (spNeedSet K):=by
 refine F.ok sc_needSet (fun vs H Q E h=> ?_) (fun cdv A outer s H vs Q E hr h=> ?_)
 ·obtain⟨a,n,t,x,d,rfl,_⟩:=h
  rfl
 obtain⟨a,n,t,x,d,rfl,ha,hx,hd,q⟩:=h
 refine⟨_,zaf (ps_if (pt_not (pt_val (zag G1 hr rfl D1.m D1.F.kp D1.b .nil pass0 (zaa (zay zcf (pv 0) zah (fun _ _=>rfl)) (zaa (pv 1) zac))))) pss_never zbg),?_⟩
 refine⟨_,rfl,a,_,_,.int n,rfl,rfl,ha,rfl,_,rfl,n,x,d,rfl,hx,fun H' sm=>⟨_,rfl,?_⟩⟩
 rw[hd]
 exact iteF (q H' sm)
noncomputable def spNeedFew(K:W.Frag):Sp:=fun vs H Q _=>∃(n:Int),vs=[.int n]/\n<=10/\Q .non H
theorem sc_needFew:FnScope ["n"] ["n"] (defScope zcx):=⟨rfl,rfl,rfl,by decide+kernel,rfl,by decide+kernel,by decide+kernel⟩
theorem ok_needFew{f:Addr}{fd:FuncData}{tk:Tok}(F:Fun K "need_few" "need_few" zcx f fd)(mM:mg "MOST_PLACES"=some (.int 10 tk)):FnOk P w K mg base CX0 1 f fd ["n"] (spNeedFew K):=by
 refine F.ok sc_needFew (fun vs H Q E h=> ?_) (fun cdv A outer s H vs Q E hr h=> ?_)
 ·obtain⟨n,rfl,_⟩:=h
  rfl
 obtain⟨n,rfl,hn,q⟩:=h
 refine⟨_,zaf (ps_if (zas op_gt (pv 0) (pe_glob rfl mM (v:= .int 10) ⟨_,rfl⟩) (nomark _)) pss_never zbg),?_⟩
 refine⟨_,rfl,_,_,rfl,rfl,_,rfl,?_⟩
 rw[decide_eq_false (show¬(10:Int)<n by omega)]
 exact iteF q
theorem bl_ite{b:Bool}{A B:Prop}(h:b=true)(hA:A):if b=true then A else B:=by rw[h];exact iteT hA
theorem bl_itf{b:Bool}{A B:Prop}(h:b=false)(hB:B):if b=true then A else B:=by rw[h];exact iteF hB
noncomputable def spFromTo(K:W.Frag):Sp:=fun vs H Q _=>∃a b i:Int,vs=[.int a,.int b,.int i]/\a<=i/\i<=b/\Q .non H
theorem sc_fromTo:FnScope ["least","most","thing"] ["least","most","thing"] (defScope zbj):=⟨rfl,rfl,rfl,by decide+kernel,rfl,by decide+kernel,by decide+kernel⟩
theorem ok_fromTo{f f1:Addr}{fd d1:FuncData}(F:Fun K "need_from_to" "need_from_to" zbj f fd)(D1:Dfn K mg "is_whole" zbu ["thing"] f1 d1)(G1:FnOk P w K mg base CX0 1 f1 d1 ["thing"] (spWhole K)):
  FnOk P w K mg base CX0 2 f fd ["least","most","thing"] (spFromTo K):=by
 refine F.ok sc_fromTo (fun vs H Q E h=> ?_) (fun cdv A outer s H vs Q E hr h=> ?_)
 ·obtain⟨_,_,_,rfl,_⟩:=h
  rfl
 obtain⟨a,b,i,rfl,h0,h1,q⟩:=h
 refine⟨_,zaf (ps_if (PW.pt (pw_or (pt_not (pt_val (zag G1 hr rfl D1.m D1.F.kp D1.b .nil pass0 (zaa (pv 2) zac)))) (pw_or1 (pt_not (pt_chain op_le op_le (pv 0) (pv 2) (pv 1)))))) pss_never zbg),?_⟩
 refine⟨_,rfl,.int i,.int i,rfl,.int i,_,rfl,?_⟩
 refine iteF ?_
 refine⟨_,rfl,_,rfl,_,_,rfl,rfl,_,rfl,?_⟩
 refine bl_ite (decide_eq_true h0) ?_
 refine⟨_,rfl,_,_,rfl,rfl,_,rfl,?_⟩
 refine bl_itf (by rw[decide_eq_true h1];rfl) q
end
end Hs
namespace L2
open PySem
noncomputable def SameX(t:Addr)(H H':Hp):Prop:=∀b o,b≠t->H b=some o->H' b=some o
theorem SameX.refl(t:Addr)(H:Hp):SameX t H H:=fun _ _ _ h=>h
theorem SameX.trans{t:Addr}{H H1 H2:Hp}(a:SameX t H H1)(b:SameX t H1 H2):SameX t H H2:=fun c o n h=>b c o n (a c o n h)
theorem Same.x{H H':Hp}(h:Same H H')(t:Addr):SameX t H H':=fun b o _ e=>h b o e
theorem SameX.upd{t:Addr}{H H':Hp}{o:HO}(h:SameX t H H'):SameX t H (upd H' t o):=fun b u n e=>by rw[zai n];exact h b u n e
noncomputable def ScrV(K:W.Frag)(H:Hp)(scr:Addr)(ns:List Int):Prop:=(∃o,H scr=some (.frz o (.lst (ns.map V.int))))\/
 ∃(o:Obj) (its:Array Value) (n:Nat),K.lookup scr=some o/\o.cls= .type "list"/\o.dict=none/\o.data= .seq its n/\its.size<=sizeLine/\Vals (ns.map V.int) its.toList
theorem ScrV.sq{K:W.Frag}{H:Hp}{scr:Addr}{ns:List Int}(h:ScrV K H scr ns):SqL K H scr (ns.map V.int):=by
 rcases h with⟨o,h⟩|h
 ·exact .inl (.inr ⟨o,h⟩)
 ·exact .inr h
theorem ScrV.samex{K:W.Frag}{H H':Hp}{scr t:Addr}{ns:List Int}{zs:List V}(h:ScrV K H scr ns)(e:SameX t H H')(n:H t=some (.lst zs)):ScrV K H' scr ns:=by
 rcases h with⟨o,h⟩|h
 ·exact .inl ⟨o,e _ _ (ne_of h n (by intro z;cases z)) h⟩
 ·exact .inr h
theorem ScrV.same{K:W.Frag}{H H':Hp}{scr:Addr}{ns:List Int}(h:ScrV K H scr ns)(e:Same H H'):ScrV K H' scr ns:=by
 rcases h with⟨o,h⟩|h
 ·exact .inl ⟨o,e _ _ h⟩
 ·exact .inr h
theorem zbi:∀ns:List Int,PyData.canLayAll0 (ns.map PyData.int)=true
 |[]=>rfl
 |n::ns=>by
  show(true&&PyData.canLayAll0 (ns.map PyData.int))=true
  rw[zbi ns];rfl
theorem none_ne'{H:Hp}{a b:Addr}{o:HO}(h:H a=some o)(n:H b=none):b≠a:=fun e=>by rw[e,h]at n;cases n
theorem SameX.free{t:Addr}{H H':Hp}{a:Addr}(e:SameX t H H')(n:a≠t)(h:H' a=none):H a=none:=by
 cases q:H a with
 |none=>rfl
 |some o=>rw[e a o n q]at h;cases h
end L2
namespace Hs
open PySem L2 HsD
section
variable{P:Program}{w:World}{K:W.Frag}{mg:Str->Option Value}{base:Heap}
theorem mod_nn(a:Int){b:Int}(h:0<b):0<=a %b:=Int.emod_nonneg _ (by omega)
theorem mod_lt(a:Int){b:Int}(h:0<b):a %b<b:=Int.emod_lt_of_pos _ h
theorem at_ints{ns:List Int}{k:Int}(h0:0<=k)(h1:k<(ns.length:Int)):∃v:Int,atI (ns.map V.int) k=some (.int v):=by
 have hk:k.toNat<ns.length:=by omega
 have ek:((k.toNat:Nat):Int)=k:=by omega
 have q:atI (ns.map V.int) ((k.toNat:Nat):Int)=some (.int ns[k.toNat]):=atI_nat (by rw[yae,yac hk];rfl)
 rw[ek]at q
 exact⟨_,q⟩
noncomputable def spCell(K:W.Frag):Sp:=fun vs H Q _=>∃(scr:Addr) (ns:List Int) (k:Int),vs=[.ref scr,.int k]/\ScrV K H scr ns/\0<=k/\∀c:Int,Q (.int c) H
theorem sc_cell:FnScope ["script","k"] ["script","k"] (defScope zch):=⟨rfl,rfl,rfl,by decide+kernel,rfl,by decide+kernel,by decide+kernel⟩
theorem ok_cell{f:Addr}{fd:FuncData}(F:Fun K "_law_acell" "_law_acell" zch f fd)(mL:mg "len"=none):FnOk P w K mg base CX0 1 f fd ["script","k"] (spCell K):=by
 refine F.ok sc_cell (fun vs H Q E h=> ?_) (fun cdv A outer s H vs Q E hr h=> ?_)
 ·obtain⟨m,n,k,rfl,_⟩:=h
  rfl
 obtain⟨scr,ns,k,rfl,hS,hk,q⟩:=h
 refine⟨_,zae (ps_if (zas op_lt (pv 1) (zam zbz rfl mL PySem.boot_len (zaa (pv 0) zac)) (nomark _)) (zaf (zao (zay zbf (pv 0) (pv 1) (fun _ _=>rfl)))) zbg) (zaf (zao zah)),?_⟩
 refine⟨_,rfl,_,rfl,scr,_,rfl,.inl hS.sq,fun hz=>⟨_,_,rfl,rfl,_,rfl,?_⟩⟩
 refine ite2 (fun c=> ?_) (fun c=> ?_)
 ·have c3:k<((ns.map V.int).length:Int):=of_decide_eq_true c
  rw[yaa]at c3
  obtain⟨v,hx⟩:=at_ints hk c3
  exact⟨_,rfl,_,rfl,scr,_,_,_,rfl,rfl,hS.sq,hx,q v⟩
 ·exact q 0
noncomputable def spTape(K:W.Frag):Sp:=fun vs H Q _=>∃(scr:Addr) (ns:List Int) (k:Int),vs=[.ref scr,.int k]/\ScrV K H scr ns/\0<=k/\∀p H' t,Same H H'->H' p=some (.lst [.int t])->H p=none->Q (.ref p) H'
theorem sc_tape:FnScope ["script","k","cell","p","number","last","turn"] ["script","k"] (defScope zco):=⟨rfl,rfl,rfl,by decide+kernel,rfl,by decide+kernel,by decide+kernel⟩
theorem ok_tape{f f1:Addr}{fd d1:FuncData}(F:Fun K "_law_atape" "_law_atape" zco f fd)(D1:Dfn K mg "_law_acell" zch ["script","k"] f1 d1)(G1:FnOk P w K mg base CX0 1 f1 d1 ["script","k"] (spCell K))(mR:mg "range"=none):
  FnOk P w K mg base CX0 2 f fd ["script","k"] (spTape K):=by
 refine F.ok sc_tape (fun vs H Q E h=> ?_) (fun cdv A outer s H vs Q E hr h=> ?_)
 ·obtain⟨m,n,k,rfl,_⟩:=h
  rfl
 obtain⟨scr,ns,k,rfl,hS,hk,q⟩:=h
 refine⟨_,zae (zan (i:=2) sc_tape.nd rfl (Or.inl rfl) (zag G1 hr rfl D1.m D1.F.kp D1.b .nil pass0 (zaa (pv 0) (zaa (pv 1) zac)))) (zae (ps_if (zas op_eq (zax op_mod (pv 2) zah) zah (nomark _)) (zaf (zao (pe_lst (zaa (zax op_fdiv (pv 2) zah) zac)))) zbg) (zae (zan (i:=3) sc_tape.nd rfl (Or.inl rfl) zah) (zae (zan (i:=4) sc_tape.nd rfl (Or.inl rfl) zah) (zae (zan (i:=5) sc_tape.nd rfl (Or.inl rfl) (zax op_mod (zax op_add (zax op_add (zax op_mul (zax op_mod (pv 2) (pv 3)) zah) (zax op_mul zah (pv 1))) zah) (pv 3))) (zae (ps_for PassesOwn.never rfl (zbp rfl mR (zaa zah zac)) (zaj (i:=6) sc_tape.nd rfl (Or.inl rfl)) (zae (zan (i:=4) sc_tape.nd rfl (Or.inl rfl) (zax op_add (zax op_mul (pv 4) (pv 3)) (pv 5))) (zaf (zan (i:=5) sc_tape.nd rfl (Or.inl rfl) (zax op_mod (zax op_add (zax op_add (zax op_mul (pv 5) (pv 5)) (zax op_mul zah (pv 1))) (pv 6)) (pv 3)))))) (zaf (zao (pe_lst (zaa (pv 4) zac))))))))),?_⟩
 refine⟨_,rfl,_,rfl,scr,ns,k,rfl,hS,hk,fun c=> ?_⟩
 refine⟨_,rfl,_,_,rfl,rfl,(by show(0:Int)<2;decide),rfl,_,rfl,?_⟩
 refine ite2 (fun c1=> ?_) (fun c1=> ?_)
 ·exact⟨_,rfl,_,_,rfl,rfl,⟨by decide,by decide⟩,(by show 1<=sizeLine;decide),fun p hp=>q p _ _ (zad hp _) zab hp⟩
 ·refine⟨_,rfl,_,rfl,_,_,rfl,rfl,(by show(0:Int)<2305843009213693951;decide),_,_,rfl,rfl,.inr ⟨by decide,by decide⟩,_,rfl,_,_,rfl,rfl,.inl ⟨by decide,by decide⟩,_,_,rfl,rfl,_,_,rfl,rfl,_,rfl,_,_,rfl,rfl,(by show(0:Int)<2305843009213693951;decide),?_⟩
  generalize hfirst:((fun i j=>V.int (i %j)) _ _:V)=vf
  obtain⟨a1,e1,a2,a3⟩:∃a:Int,vf= .int a/\0<=a/\a<2305843009213693951:=⟨_,hfirst.symm,mod_nn _ (by decide),mod_lt _ (by decide)⟩
  rw[e1]
  refine⟨9,rfl,by decide,by decide,?_⟩
  refine zdi (n:=9) (fun i σ H'=>H'=H/\∃(b l:Int) (o:Option V),σ=[some (.ref scr),some (.int k),some (.int c),some (.int 2305843009213693951),some (.int b),some (.int l),o]/\0<=l/\l<2305843009213693951) ⟨rfl,_,_,_,rfl,a2,a3⟩ (fun i σ H' hi p=> ?_) (fun σ H' p=> ?_)
  ·obtain⟨rfl,b,l,o,rfl,h0,h1⟩:=p
   refine⟨_,rfl,_,rfl,_,_,rfl,rfl,.inr ⟨by decide,by decide⟩,_,rfl,_,_,rfl,rfl,?_⟩
   refine⟨_,rfl,_,rfl,_,_,rfl,rfl,.inl ⟨by omega,by omega⟩,_,rfl,_,_,rfl,rfl,.inl ⟨by decide,by decide⟩,_,_,rfl,rfl,_,rfl,_,_,rfl,rfl,_,rfl,_,_,rfl,rfl,(by show(0:Int)<2305843009213693951;decide),?_⟩
   exact⟨rfl,_,_,_,rfl,mod_nn _ (by decide),mod_lt _ (by decide)⟩
  ·obtain⟨rfl,b,l,o,rfl,h0,h1⟩:=p
   exact⟨_,rfl,(by show 1<=sizeLine;decide),fun p hp=>q p _ _ (zad hp _) zab hp⟩
noncomputable def spDig(K:W.Frag):Sp:=fun vs H Q _=>∃(tp:Addr) (t m:Int),vs=[.ref tp,.int m]/\H tp=some (.lst [.int t])/\0<m/\m<1000000000000000000000000000000/\∀r t':Int,0<=r->r<m->Q (.int r) (upd H tp (.lst [.int t']))
theorem sc_dig:FnScope ["tape","many","found"] ["tape","many"] (defScope zbl):=⟨rfl,rfl,rfl,by decide+kernel,rfl,by decide+kernel,by decide+kernel⟩
theorem ok_dig{f:Addr}{fd:FuncData}(F:Fun K "_law_adigit" "_law_adigit" zbl f fd):FnOk P w K mg base CX0 1 f fd ["tape","many"] (spDig K):=by
 refine F.ok sc_dig (fun vs H Q E h=> ?_) (fun cdv A outer s H vs Q E hr h=> ?_)
 ·obtain⟨m,n,k,rfl,_⟩:=h
  rfl
 obtain⟨tp,t,m,rfl,hH,hm0,hm1,q⟩:=h
 refine⟨_,zae (zan (i:=2) sc_dig.nd rfl (Or.inl rfl) (zax op_mod (zay zbf (pv 0) zah (fun _ _=>rfl)) (pv 1))) (zae (ps_asg (zax op_fdivL (zay zbf (pv 0) zah (fun _ _=>rfl)) (pv 1)) (pg_sub (pv 0) zah set_list)) (zaf (zao (pv 2)))),?_⟩
 refine⟨_,rfl,tp,_,_,.int t,rfl,rfl,SqL.of hH,rfl,_,rfl,_,_,rfl,rfl,hm0,?_⟩
 refine⟨_,rfl,tp,_,_,.int t,rfl,rfl,SqL.of hH,rfl,_,rfl,_,_,rfl,rfl,⟨hm0,hm1⟩,_,rfl,tp,_,_,0,rfl,rfl,hH,rfl,?_⟩
 exact⟨_,rfl,q _ _ (mod_nn _ hm0) (mod_lt _ hm0)⟩
noncomputable def spAw(K:W.Frag):Sp:=fun vs H Q _=>∃(i:Int),vs=[.int i]/\Q (.bl true) H
theorem sc_aw:FnScope ["found"] ["found"] (defScope zcc):=⟨rfl,rfl,rfl,by decide+kernel,rfl,by decide+kernel,by decide+kernel⟩
theorem ok_aw{f:Addr}{fd:FuncData}(F:Fun K "_law_awhole" "_law_awhole" zcc f fd)(mi:mg "isinstance"=none)(mI:mg "int"=none)(mB:mg "bool"=none):FnOk P w K mg base CX0 1 f fd ["found"] (spAw K):=by
 refine F.ok sc_aw (fun vs H Q E h=> ?_) (fun cdv A outer s H vs Q E hr h=> ?_)
 ·obtain⟨x,rfl,_⟩:=h
  rfl
 obtain⟨i,rfl,q⟩:=h
 refine⟨_,zaf (zao (pe_and (zam zdk rfl mi (by decide+kernel) (zaa (pv 0) (zaa (pe_bltn rfl mI (v:= .ty "int") (by decide+kernel) rfl) zac)))
  (pe_one (pe_not (zam zdk rfl mi (by decide+kernel) (zaa (pv 0) (zaa (pe_bltn rfl mB (v:= .ty "bool") (by decide+kernel) rfl) zac))))))),?_⟩
 refine⟨_,rfl,.int i,"int",_,rfl,rfl,.inl rfl,_,rfl,?_⟩
 refine iteT ?_
 exact⟨_,rfl,.int i,"int",_,rfl,rfl,.inr (.inl rfl),_,rfl,q⟩
end
end Hs
namespace L2
open PySem
theorem DVs.append{K:W.Frag}{H:Hp}{xs ys:List V}{ds es:List PyData}(h:DVs K H xs ds)(h':DVs K H ys es):DVs K H (xs++ys) (ds++es):=
 DVs.rec (motive_1:=fun _ _ _=>True) (motive_2:=fun xs ds _=>DVs K H (xs++ys) (ds++es)) trivial (fun _=>trivial) (fun _=>trivial) (fun _=>trivial) (fun _ _ _=>trivial) (fun _ _ _=>trivial) (fun _=>trivial) (fun _ _=>trivial) h' (fun h _ _ t=> .cons h t) h
theorem SameX.tup{K:W.Frag}{t:Addr}{H H':Hp}{a:Addr}{xs zs:List V}(e:SameX t H H')(n:H t=some (.lst zs))(h:SqT K H a xs):SqT K H' a xs:=by
 rcases h with(h|⟨o,h⟩)|h
 ·exact .inl (.inl (e _ _ (ne_of h n (by intro z;cases z)) h))
 ·exact .inl (.inr ⟨o,e _ _ (ne_of h n (by intro z;cases z)) h⟩)
 ·exact .inr h
end L2
namespace HsD
open PySem L2
theorem pairs_samex{K:W.Frag}{t:Addr}{H H':Hp}{zs:List V}(e:SameX t H H')(n:H t=some (.lst zs)){rs:List V}{ps:List (Int×Int)}(h:DVs K H rs (ps.map pairD)):DVs K H' rs (ps.map pairD):=by
 induction ps generalizing rs with
 |nil=>cases h;exact .nil
 |cons p ps ih=>
  cases h with
  |cons h tl=>
   refine .cons ?_ (ih tl)
   cases h with
   |tup h hd=>
    cases hd with
    |cons a1 t1=>
     cases a1
     cases t1 with
     |cons a2 t2=>
      cases a2
      cases t2
      exact .tup (e.tup n h) (.cons (.int _) (.cons (.int _) .nil))
theorem WebV.samex{K:W.Frag}{t:Addr}{H H':Hp}{zs:List V}{a:Addr}{n:Int}{ts:List (Int×Int)}(h:WebV K H a n ts)(e:SameX t H H')(hn:H t=some (.lst zs)):WebV K H' a n ts:=by
 obtain⟨u,rs,h1,h2,h3⟩:=h
 exact⟨u,rs,e.tup hn h1,e.tup hn h2,pairs_samex e hn h3⟩
structure Sub(j:Nat)(l:List Int):Prop where
 nd:l.Nodup
 lt:∀i∈l,0<=i/\i<(j:Int)
theorem nodup_len{α:Type} [DecidableEq α]:∀{l m:List α},l.Nodup->(∀a∈l,a∈m)->l.length<=m.length
 |[],m,_,_=>yas _
 |a::l,m,nd,h=>by
  have ha:=h a yap
  have nd':=ych.mp nd
  have q:∀b∈l,b∈m.erase a:=fun b hb=>by
   have hne:b≠a:=fun e=>nd'.1 (e▸hb)
   exact(List.mem_erase_of_ne hne).mpr (h b (yai _ hb))
  have:=nodup_len nd'.2 q
  have e:=List.length_erase_of_mem ha
  have:0<m.length:=ydc ha
  simp only[ybh]
  omega
theorem Sub.len{j:Nat}{l:List Int}(h:Sub j l):l.length<=j:=by
 have q:=nodup_len (m:=(List.range j).map fun(k:Nat)=>(k:Int)) h.nd fun i hi=>by
  have:=h.lt i hi
  exact ybk.mpr ⟨i.toNat,ybf.mpr (by omega),by omega⟩
 simpa using q
structure PairsOk(n:Int)(ps:List (Int×Int)):Prop where
 nd:ps.Nodup
 lt:∀p∈ps,0<=p.1/\p.1<p.2/\p.2<n
noncomputable def allP(n:Nat):List (Int×Int):=((List.range n).map fun(j:Nat)=>(List.range j).map fun(i:Nat)=>((i:Int),(j:Int))).flatten
theorem pairs_len{n:Int}{ps:List (Int×Int)}(h:PairsOk n ps)(hn:n<=10):ps.length<=45:=by
 have q:=nodup_len (m:=allP 10) h.nd fun p hp=>by
  obtain⟨h0,h1,h2⟩:=h.lt p hp
  obtain⟨a,b⟩:=p
  dsimp only at h0 h1 h2
  refine List.mem_flatten.mpr ⟨(List.range b.toNat).map fun(i:Nat)=>((i:Int),((b.toNat:Nat):Int)),ybk.mpr ⟨b.toNat,ybf.mpr (by omega),rfl⟩,ybk.mpr ⟨a.toNat,ybf.mpr (by omega),?_⟩⟩
  have e1:((a.toNat:Nat):Int)=a:=by omega
  have e2:((b.toNat:Nat):Int)=b:=by omega
  rw[e1,e2]
 have e:(allP 10).length=45:=by decide
 omega
noncomputable def pl(p:Int×Int):List Int:=[p.1,p.2]
theorem pl_inj{p q:Int×Int}(h:pl p=pl q):p=q:=by
 obtain⟨a,b⟩:=p
 obtain⟨c,d⟩:=q
 unfold pl at h
 simp at h
 rw[h.1,h.2]
theorem lex_of{a b:List Int}(h:HT.lexLt b a=false)(ne:a≠b):HT.lexLt a b=true:=by
 rw[HT.lexLt_iff]at h⊢
 have h1:¬b<a:=of_decide_eq_false h
 have h2:a<=b:=ycy.mp h1
 refine decide_eq_true ?_
 rcases Classical.em (a<b)with h3|h3
 ·exact h3
 ·exact absurd (List.le_antisymm h2 (ycy.mp h3)) ne
theorem tie_pair{n:Int}{p:Int×Int}(h0:0<=p.1)(h1:p.1<p.2)(h2:p.2<n):tieD n (pairD p)=true:=by
 show((placeD n (.int p.1)&&(placeD n (.int p.2)&&true))&&risesI [p.1,p.2]&&decide (([PyData.int p.1,PyData.int p.2]).length=2))=true
 have e1:placeD n (.int p.1)=true:=by
  show(decide (0<=p.1)&&decide (p.1<n))=true
  rw[decide_eq_true h0,decide_eq_true (by omega)];rfl
 have e2:placeD n (.int p.2)=true:=by
  show(decide (0<=p.2)&&decide (p.2<n))=true
  rw[decide_eq_true (by omega),decide_eq_true h2];rfl
 have e3:risesI [p.1,p.2]=true:=by
  show(decide (p.1<p.2)&&true)=true
  rw[decide_eq_true h1];rfl
 rw[e1,e2,e3];rfl
theorem web_ok{n:Int}{ts:List (Int×Int)}(hn0:0<=n)(hn1:n<=10)(h:PairsOk n ts)(hs:ts.Pairwise fun p q=>HT.lexLt (pl q) (pl p)=false):webD (webDat n ts)=true:=by
 show(true&&(decide (0<=n)&&decide (n<=10))&&((ts.map pairD).all (tieD n)&&risesT ((ts.map pairD).map fun t=>(kids t).map intD)))=true
 have e1:(ts.map pairD).all (tieD n)=true:=by
  rw[List.all_map,yax]
  intro p hp
  obtain⟨h0,h1,h2⟩:=h.lt p hp
  exact tie_pair h0 h1 h2
 have e2:(ts.map pairD).map (fun t=>(kids t).map intD)=ts.map pl:=by rw[ydj];rfl
 have e3:risesT (ts.map pl)=true:=by
  unfold risesT
  rw[yax]
  intro k hk
  have hk':k<ts.length-1:=by simpa using hk
  have g1:(ts.map pl).getD k []=pl ts[k]:=by rw[yag,yae,yac (by omega)];rfl
  have g2:(ts.map pl).getD (k+1) []=pl ts[k+1]:=by rw[yag,yae,yac (by omega)];rfl
  rw[g1,g2]
  refine lex_of (ybq.mp hs k (k+1) (by omega) (by omega) (by omega)) fun e=> ?_
  have:=(List.getElem_inj h.nd).mp (pl_inj e)
  omega
 rw[decide_eq_true hn0,decide_eq_true hn1,e1,e2,e3];rfl
noncomputable def tiedL(ts:List (Int×Int))(i j:Int):Bool:=decide ((i,j)∈ts)||decide ((j,i)∈ts)
theorem tied_eq{n:Int}{ts:List (Int×Int)}(h:PairsOk n ts)(i j:Int):hasTie ts i j=tiedL ts i j:=by
 unfold hasTie tiedL
 have no:∀{a b:Int},b<=a->decide ((a,b)∈ts)=false:=fun{a b} hab=>decide_eq_false fun hm=>by
  have:=(h.lt _ hm).2.1
  dsimp only at this
  omega
 rcases Int.lt_trichotomy i j with c|c|c
 ·rw[if_neg (show¬j<i by omega),if_pos (show j>i by omega),no (show i<=j by omega),Bool.or_false]
 ·subst c
  rw[if_neg (show¬i<i by omega),Bool.or_self]
  try rw[if_neg (show¬i>i by omega)]
 ·rw[if_pos (show j<i by omega),if_neg (show¬j>i by omega),no (show j<=i by omega),Bool.false_or]
end HsD
namespace Hs
open PySem L2 HsD
noncomputable def lt2(p q:Int×Int):Prop:=p.1<q.1\/(p.1=q.1/\p.2<q.2)
theorem lt2.trans{p q r:Int×Int}(a:lt2 p q)(b:lt2 q r):lt2 p r:=by
 unfold lt2 at *;omega
theorem lt2.irr{p:Int×Int}(a:lt2 p p):False:=by
 unfold lt2 at a;omega
theorem eq_of_sorted:∀{l m:List (Int×Int)},l.Pairwise lt2->m.Pairwise lt2->(∀p,p∈l↔p∈m)->l=m
 |[],[],_,_,_=>rfl
 |[],q::m,_,_,h=>absurd ((h q).mpr (yap ..)) (by simp)
 |p::l,[],_,_,h=>absurd ((h p).mp (yap ..)) (by simp)
 |p::l,q::m,hl,hm,h=>by
  rw[yea]at hl hm
  have e:p=q:=by
   rcases yaj.mp ((h p).mp (yap ..))with e|e
   ·exact e
   rcases yaj.mp ((h q).mpr (yap ..))with e'|e'
   ·exact e'.symm
   exact(lt2.irr ((hl.1 _ e').trans (hm.1 _ e))).elim
  subst e
  have:l=m:=eq_of_sorted hl.2 hm.2 (fun r=>by
   have hr:=h r
   rw[yaj,yaj]at hr
   constructor
   ·intro hi
    rcases hr.mp (.inr hi)with e|e
    ·subst e;exact(lt2.irr (hl.1 _ hi)).elim
    ·exact e
   ·intro hi
    rcases hr.mpr (.inr hi)with e|e
    ·subst e;exact(lt2.irr (hm.1 _ hi)).elim
    ·exact e)
  rw[this]
theorem lex_lt2{p q:Int×Int}(h:HT.lexLt (pl p) (pl q)=true):lt2 p q:=by
 rw[HT.lexLt_iff]at h
 have:=of_decide_eq_true h
 unfold pl at this
 rw[ydq]at this
 rcases this with a|⟨a,b⟩
 ·exact .inl a
 ·rw[ydq]at b
  rcases b with b|⟨_,b⟩
  ·exact .inr ⟨a,b⟩
  ·exact absurd b (by simp)
theorem pairwise_of_adj{l:List (Int×Int)}(h:∀k,(hk:k+1<l.length)->lt2 l[k] l[k+1]):l.Pairwise lt2:=by
 rw[ybq]
 intro i j hi hj hij
 have go:∀d:Nat,(hd:i+1+d<l.length)->lt2 l[i] l[i+1+d]:=by
  intro d
  induction d with
  |zero=>intro hd;exact h i hd
  |succ d ih=>intro hd;exact(ih (by omega)).trans (h (i+1+d) hd)
 have e:j=i+1+(j-i-1):=by omega
 have:=go (j-i-1) (by omega)
 simpa[<-e]using this
theorem web_sorted{n:Int}{ts:List (Int×Int)}(h:WebOk n ts):ts.Pairwise lt2:=by
 have h1:tiesD n (.tuple (ts.map pairD))=true:=by
  unfold WebOk webDat webD at h
  rw[Bool.and_eq_true]at h
  exact h.2
 unfold tiesD at h1
 rw[Bool.and_eq_true]at h1
 have h2:=h1.2
 unfold risesT at h2
 rw[yax]at h2
 refine pairwise_of_adj fun k hk=> ?_
 have e:(List.map (fun t=>(kids t).map intD) (ts.map pairD))=ts.map pl:=by
  rw[ydj];rfl
 rw[e,yaa]at h2
 have h3:=h2 k (by rw[ybf];omega)
 have g:∀j,(hj:j<ts.length)->(ts.map pl).getD j []=pl ts[j]:=fun j hj=>by
  rw[yag,yae,yac hj];rfl
 rw[g k (by omega),g (k+1) hk]at h3
 exact lex_lt2 h3
noncomputable def row(so:Int->Int->Bool)(i:Int)(k:Nat):List (Int×Int):=((List.range k).map fun(t:Nat)=>(i,i+1+(t:Int))).filter fun p=>so p.1 p.2
noncomputable def rows(so:Int->Int->Bool)(m:Int)(i:Nat):List (Int×Int):=((List.range i).map fun(t:Nat)=>row so (0+(t:Int)) (m-(0+(t:Int)+1)).toNat).flatten
theorem row_succ(so:Int->Int->Bool)(i:Int)(k:Nat):row so i (k+1)=row so i k++(if so i (i+1+(k:Int))=true then[(i,i+1+(k:Int))]else[]):=by
 unfold row
 rw[ybt,yaf,ycq]
 congr 1
 show List.filter _ [(i,i+1+(k:Int))]=_
 rw[yci]
 rfl
theorem rows_succ(so:Int->Int->Bool)(m:Int)(i:Nat):rows so m (i+1)=rows so m i++row so (0+(i:Int)) (m-(0+(i:Int)+1)).toNat:=by
 unfold rows
 rw[ybt,yaf,List.flatten_append]
 simp
theorem mem_row{so:Int->Int->Bool}{i:Int}{k:Nat}{p:Int×Int}:p∈row so i k↔p.1=i/\i<p.2/\p.2<i+1+(k:Int)/\so p.1 p.2=true:=by
 unfold row
 rw[yav,ybk]
 constructor
 ·rintro⟨⟨t,ht,rfl⟩,h⟩
  rw[ybf]at ht
  exact⟨rfl,by show i<i+1+(t:Int);omega,by show i+1+(t:Int)<_;omega,h⟩
 ·rintro⟨h1,h2,h3,h4⟩
  refine⟨⟨(p.2-i-1).toNat,by rw[ybf];omega,?_⟩,h4⟩
  apply Prod.ext
  ·exact h1.symm
  ·show i+1+(((p.2-i-1).toNat:Nat):Int)=p.2;omega
theorem zdh{so:Int->Int->Bool}{m:Int}:∀{i:Nat} {p:Int×Int},p∈rows so m i↔0<=p.1/\p.1<(i:Int)/\p.1<p.2/\p.2<m/\so p.1 p.2=true
 |0,p=>by
  constructor
  ·intro h;simp[rows]at h
  ·intro h;omega
 |i+1,p=>by
  rw[rows_succ,yay,zdh (i:=i),mem_row]
  constructor
  ·rintro(h|h)
   ·exact⟨h.1,by omega,h.2.2⟩
   ·exact⟨by omega,by omega,by omega,by omega,h.2.2.2⟩
  ·rintro⟨h1,h2,h3,h4,h5⟩
   by_cases e:p.1<(i:Int)
   ·exact .inl ⟨h1,e,h3,h4,h5⟩
   ·exact .inr ⟨by omega,by omega,by omega,h5⟩
theorem row_sorted(so:Int->Int->Bool)(i:Int)(k:Nat):(row so i k).Pairwise lt2:=by
 unfold row
 refine List.Pairwise.filter _ ?_
 rw[ycw]
 exact ydb.imp fun h=> .inr ⟨rfl,by show i+1+_<i+1+_;omega⟩
theorem zcv(so:Int->Int->Bool)(m:Int):∀i:Nat,(rows so m i).Pairwise lt2
 |0=>by unfold rows;exact List.Pairwise.nil
 |i+1=>by
  rw[rows_succ,yct]
  refine⟨zcv so m i,row_sorted so _ _,fun p hp q hq=> ?_⟩
  rw[zdh]at hp
  rw[mem_row]at hq
  exact .inl (by omega)
theorem rows_eq{so:Int->Int->Bool}{m:Int}{l:List (Int×Int)}(hm:0<=m)(hs:l.Pairwise lt2)(h:∀p:Int×Int,p∈l↔0<=p.1/\p.1<p.2/\p.2<m/\so p.1 p.2=true):l=rows so m m.toNat:=by
 refine eq_of_sorted hs (zcv so m _) fun p=> ?_
 rw[h,zdh]
 constructor
 ·rintro⟨a,b,c,d⟩;exact⟨a,by omega,b,c,d⟩
 ·rintro⟨a,b,c,d,e⟩;exact⟨a,c,d,e⟩
theorem rows_ok{so:Int->Int->Bool}{m:Int}{i:Nat}:PairsOk m (rows so m i):=
 ⟨(zcv so m i).imp fun h e=>by subst e;exact lt2.irr h,fun p hp=>by rw[zdh]at hp;exact⟨hp.1,hp.2.2.1,hp.2.2.2.1⟩⟩
theorem nodup_lt2{l:List (Int×Int)}(h:l.Pairwise lt2):l.Nodup:=h.imp fun h e=>by subst e;exact lt2.irr h
end Hs
namespace L2
open PySem
theorem DVs.get'{K:W.Frag}{H:Hp}:∀{xs:List V} {ds:List PyData} {i:Nat},DVs K H xs ds->i<ds.length->∃x d,xs[i]? =some x/\ds[i]? =some d/\DV K H x d
 |_,_,i,.nil,h=>by simp at h
 |_,_,0,.cons h _,_=>⟨_,_,rfl,rfl,h⟩
 |_,_,i+1,.cons _ t,h=>by
  obtain⟨x,d,h1,h2,h3⟩:=DVs.get' (i:=i) t (by simpa using h)
  exact⟨x,d,by simpa using h1,by simpa using h2,h3⟩
end L2
namespace Hs
open PySem L2 HsD
structure WebIs(K:W.Frag)(H:Hp)(a:Addr)(n:Int)(ts:List (Int×Int)):Prop where
 web:WebV K H a n ts
 h0:0<=n
 h1:n<=10
 pk:PairsOk n ts
 ok:WebOk n ts
theorem WebIs.same{K:W.Frag}{H H':Hp}{a:Addr}{n:Int}{ts:List (Int×Int)}(h:WebIs K H a n ts)(e:Same H H'):WebIs K H' a n ts:=⟨h.web.same e,h.h0,h.h1,h.pk,h.ok⟩
theorem WebIs.samex{K:W.Frag}{H H':Hp}{t a:Addr}{zs:List V}{n:Int}{ts:List (Int×Int)}(h:WebIs K H a n ts)(e:SameX t H H')(hn:H t=some (.lst zs)):WebIs K H' a n ts:=⟨h.web.samex e hn,h.h0,h.h1,h.pk,h.ok⟩
theorem WebIs.len{K:W.Frag}{H:Hp}{a:Addr}{n:Int}{ts:List (Int×Int)}(h:WebIs K H a n ts):ts.length<=45:=pairs_len h.pk h.h1
theorem WebIs.srt{K:W.Frag}{H:Hp}{a:Addr}{n:Int}{ts:List (Int×Int)}(h:WebIs K H a n ts):ts.Pairwise lt2:=web_sorted h.ok
noncomputable def tt(_ _:Int):Bool:=true
theorem lt2_lex{p q:Int×Int}(h:lt2 p q):HT.lexLt (pl q) (pl p)=false:=by
 rw[HT.lexLt_iff]
 refine decide_eq_false fun z=> ?_
 have:lt2 q p:=lex_lt2 (by rw[HT.lexLt_iff];exact decide_eq_true z)
 exact lt2.irr (h.trans this)
theorem web_of_sub{n:Int}{ts:List (Int×Int)}{i:Nat}(h0:0<=n)(h1:n<=10)(h:ts.Sublist (rows tt n i)):PairsOk n ts/\WebOk n ts:=by
 have hs:ts.Pairwise lt2:=(zcv tt n i).sublist h
 have ho:PairsOk n ts:=⟨nodup_lt2 hs,fun p hp=>(rows_ok (so:=tt) (m:=n) (i:=i)).lt p (h.subset hp)⟩
 exact⟨ho,web_ok h0 h1 ho (hs.imp lt2_lex)⟩
theorem pair_at{K:W.Frag}{H:Hp}{rs:List V}{ps:List (Int×Int)}{i:Nat}{x:V}(h:DVs K H rs (ps.map pairD))(hx:rs[i]? =some x):∃(t:Addr) (hi:i<ps.length),x= .ref t/\SqT K H t [.int (ps[i]).1,.int (ps[i]).2]:=by
 have hlen:=h.len
 rw[yaa]at hlen
 have hi:i<ps.length:=by rw[<-hlen];exact(yao.mp hx).1
 obtain⟨x',d,e1,e2,e3⟩:=DVs.get' (i:=i) h (by rw[yaa];exact hi)
 rw[hx]at e1;cases e1
 rw[yae,yac hi]at e2
 cases e2
 cases e3 with
 |tup hp tp=>
  cases tp with
  |cons ta tb=>
   cases tb with
   |cons tc td=>
    cases td
    cases ta
    cases tc
    exact⟨_,hi,rfl,hp⟩
theorem at_xs{xs:List Int}{i:Int}(h0:0<=i)(h1:i<(xs.length:Int)):atI (xs.map V.int) i=some (.int (xs.getD i.toNat 0)):=by
 have hk:i.toNat<xs.length:=by omega
 have ek:((i.toNat:Nat):Int)=i:=by omega
 have q:atI (xs.map V.int) ((i.toNat:Nat):Int)=some (.int (xs.getD i.toNat 0)):=atI_nat (by rw[yae,yac hk,yag,yac hk];rfl)
 rw[ek]at q
 exact q
noncomputable def TiesL(K:W.Frag)(H:Hp)(l:Addr)(R:List (Int×Int))(P:Int×Int->Prop):Prop:=∃(rs:List V) (ts:List (Int×Int)),H l=some (.lst rs)/\DVs K H rs (ts.map pairD)/\ts.Sublist R/\∀p∈ts,P p
theorem TiesL.nil{K:W.Frag}{H:Hp}{l:Addr}{R:List (Int×Int)}{P:Int×Int->Prop}(h:H l=some (.lst [])):TiesL K H l R P:=⟨[],[],h,.nil,List.nil_sublist _,fun p hp=>(nomatch hp)⟩
theorem TiesL.step{K:W.Frag}{H H':Hp}{l c:Addr}{R:List (Int×Int)}{P:Int×Int->Prop}{zs:List V}(h:TiesL K H l R P)(e:SameX c H H')(hc:H c=some (.lst zs))(n:l≠c):TiesL K H' l R P:=by
 obtain⟨rs,ts,h1,h2,h3⟩:=h
 exact⟨rs,ts,e _ _ n h1,pairs_samex e hc h2,h3⟩
theorem TiesL.mono{K:W.Frag}{H:Hp}{l:Addr}{R R':List (Int×Int)}{P:Int×Int->Prop}(h:TiesL K H l R P)(e:R.Sublist R'):TiesL K H l R' P:=by
 obtain⟨rs,ts,h1,h2,h3,h4⟩:=h
 exact⟨rs,ts,h1,h2,h3.trans e,h4⟩
theorem TiesL.push{K:W.Frag}{H:Hp}{l p:Addr}{R:List (Int×Int)}{P:Int×Int->Prop}{i j:Int}{rs:List V}{ts:List (Int×Int)}(h1:H l=some (.lst rs))(h2:DVs K H rs (ts.map pairD))(h3:ts.Sublist R)(h4:∀p∈ts,P p)(hp:SqT K H p [.int i,.int j])(hP:P (i,j)):TiesL K (upd H l (.lst (rs++[.ref p]))) l (R++[(i,j)]) P:=by
 have x:SameX l H (upd H l (.lst (rs++[.ref p]))):=(SameX.refl _ _).upd
 refine⟨_,ts++[(i,j)],zab,?_,h3.append (List.Sublist.refl _),fun q hq=> ?_⟩
 ·rw[yaf]
  exact(pairs_samex x h1 h2).append (.cons (.tup (x.tup h1 hp) (.cons (.int _) (.cons (.int _) .nil))) .nil)
 ·rcases yay.mp hq with q'|q'
  ·exact h4 q q'
  ·rw[yar.mp q'];exact hP
theorem sub_len{n:Int}{ts:List (Int×Int)}{i k:Nat}(h1:n<=10)(hk:0+(i:Int)+1+(k:Int)<=n)(h:ts.Sublist (rows tt n i++row tt (0+(i:Int)) k)):ts.length<=45:=by
 refine pairs_len (n:=n) ⟨?_,fun p hp=> ?_⟩ h1
 ·refine nodup_lt2 (List.Pairwise.sublist h ?_)
  rw[yct]
  refine⟨zcv _ _ _,row_sorted _ _ _,fun p hp q hq=> ?_⟩
  rw[zdh]at hp
  rw[mem_row]at hq
  exact .inl (by omega)
 ·rcases yay.mp (h.subset hp)with q|q
  ·rw[zdh]at q;exact⟨q.1,q.2.2.1,q.2.2.2.1⟩
  ·rw[mem_row]at q;exact⟨by omega,by omega,by omega⟩
section
variable{P:Program}{w:World}{K:W.Frag}{mg:Str->Option Value}{base:Heap}
end
theorem rows_filter{so:Int->Int->Bool}{m:Int}{i:Nat}:(rows tt m i).filter (fun p=>so p.1 p.2)=rows so m i:=by
 refine eq_of_sorted ((zcv _ _ _).filter _) (zcv _ _ _) fun p=> ?_
 rw[yav,zdh,zdh]
 constructor
 ·rintro⟨⟨a,b,c,d,_⟩,e⟩;exact⟨a,b,c,d,e⟩
 ·rintro⟨a,b,c,d,e⟩;exact⟨⟨a,b,c,d,rfl⟩,e⟩
section
variable{P:Program}{w:World}{K:W.Frag}{mg:Str->Option Value}{base:Heap}
structure LstP(K:W.Frag)(H:Hp)(l:Addr)(ps:List (Int×Int)):Prop where
 ex:∃rs,H l=some (.lst rs)/\DVs K H rs (ps.map pairD)
theorem LstP.same{H H':Hp}{l:Addr}{ps:List (Int×Int)}(h:LstP K H l ps)(e:Same H H'):LstP K H' l ps:=by
 obtain⟨rs,h1,h2⟩:=h.ex
 exact⟨rs,e _ _ h1,h2.same e⟩
noncomputable def spAllP(K:W.Frag):Sp:=fun vs H Q _=>∃(n:Int),vs=[.int n]/\0<=n/\n<=10/\∀l H',Same H H'->LstP K H' l (rows tt n n.toNat)->Q (.ref l) H'
theorem sc_allp:FnScope ["n","found","one"] ["n"] (defScope s_pairs):=⟨rfl,rfl,rfl,by decide+kernel,rfl,by decide+kernel,by decide+kernel⟩
theorem ok_allp{f:Addr}{fd:FuncData}(F:Fun K "pairs" "pairs" s_pairs f fd)(mR:mg "range"=none):FnOk P w K mg base CX0 1 f fd ["n"] (spAllP K):=by
 refine F.ok sc_allp (fun vs H Q E h=> ?_) (fun cdv A outer s H vs Q E hr h=> ?_)
 ·obtain⟨n,rfl,_⟩:=h
  rfl
 obtain⟨n,rfl,hn0,hn1,q⟩:=h
 refine⟨_,zae (zan (i:=1) sc_allp.nd rfl (Or.inl rfl) (pe_lst zac)) (zae (ps_for PassesOwn.never rfl (zbp rfl mR (zaa (pv 0) zac)) (zaj (i:=2) sc_allp.nd rfl (Or.inr rfl)) (zaf (zbs (pe_bm PySem.F.plainAttrs_list PySem.F.slot_list_extend PySem.F.type_list_extend mt_extend (pv 1) (zaa
    (zbq (own:=["other"]) (caps:=["one"]) (ix:=[2]) rfl (pi_range2 rfl mR (zaa (zax op_add (pv 2) zah) (zaa (pv 0) zac))) rfl rfl (.cons rfl rfl .nil) (fun _ _ _ _ _=>zaj (i:=0) (show(["other","one"]:List Str).Nodup from by decide+kernel) rfl (Or.inl rfl)) (fun _ _ _ _ _=>zcl) (fun _ _ _ _ _=>zbw (zaa (pv 1) (zaa (pv 0) zac)))) zac))))) (zaf (zao (pv 1)))),?_⟩
 refine⟨(by show 0<=sizeLine;decide),fun l hl=> ?_⟩
 refine⟨_,rfl,n,rfl,by omega,by omega,?_⟩
 refine zdi (n:=n.toNat) (fun i σ H'=>Same H H'/\(∃rs,H' l=some (.lst rs)/\DVs K H' rs ((rows tt n i).map pairD))/\∃o,σ=[some (.int n),some (.ref l),o]) ⟨zad hl _,⟨[],zab,.nil⟩,_,rfl⟩ (fun i σ H' hi p=> ?_) (fun σ H' p=> ?_)
 ·obtain⟨sm,⟨rs,hr1,hr2⟩,o,rfl⟩:=p
  have hlen:=hr2.len
  rw[yaa]at hlen
  have h45:=pairs_len (rows_ok (so:=tt) (m:=n) (i:=i)) hn1
  refine⟨_,rfl,.inl ⟨rfl,_,SqL.of hr1⟩,_,rfl,_,_,rfl,rfl,_,rfl,_,_,rfl,⟨by omega,by omega,by omega,by omega⟩,?_⟩
  refine zck (n:=(n-(0+(i:Int)+1)).toNat) (fun k acc σ H2=>Same H' H2/\acc.length=k/\DVs K H2 acc ((row tt (0+(i:Int)) k).map pairD)/\∃o1,σ=[o1,some (.int (0+(i:Int)))]) ⟨Same.refl _,rfl,.nil,_,rfl⟩ (fun k acc σ H2 hk p=>by rw[p.2.1];exact yab _) (by rw[sizeLine_eq];omega) (fun k acc σ H2 hk p=> ?_) (fun acc σ H2 p=> ?_)
  ·obtain⟨s2,hl2,hd,o1,rfl⟩:=p
   refine⟨_,rfl,_,rfl,(by show 2<=sizeLine;decide),fun p hp=> ?_⟩
   have s3:=zad hp (.tup [.int (0+(i:Int)),.int (0+(i:Int)+1+(k:Int))])
   refine⟨s2.trans s3,by rw[yat,hl2];rfl,?_,_,rfl⟩
   rw[row_succ,yaf,if_pos (show tt (0+(i:Int)) (0+(i:Int)+1+(k:Int))=true from rfl)]
   exact(hd.same s3).append (.cons (.tup (SqT.of zab) (.cons (.int _) (.cons (.int _) .nil))) .nil)
  ·intro p1 hp1
   obtain⟨s2,hl2,hd,_⟩:=p
   have s3:=zad hp1 (.lst acc)
   have hr3:=s3 _ _ (s2 _ _ hr1)
   refine⟨l,p1,rs,acc,rfl,rfl,hr3,zab,?_,?_⟩
   ·rw[sizeLine_eq];omega
   ·have x4:SameX l (upd H2 p1 (.lst acc)) (upd (upd H2 p1 (.lst acc)) l (.lst (rs++acc))):=(SameX.refl _ _).upd
    refine⟨?_,⟨_,zab,?_⟩,_,rfl⟩
    ·intro b o hb
     have nb:b≠l:=fun e=>by rw[e,hl]at hb;cases hb
     exact x4 _ _ nb (s3 _ _ (s2 _ _ (sm _ _ hb)))
    ·rw[rows_succ]
     exact pairs_samex x4 hr3 (by rw[yaf];exact((hr2.same s2).same s3).append (hd.same s3))
 ·obtain⟨sm,⟨rs,hr1,hr2⟩,o,rfl⟩:=p
  exact⟨_,rfl,q l _ sm ⟨rs,hr1,hr2⟩⟩
theorem filter_take{so:Int×Int->Bool}{ps:List (Int×Int)}{i:Nat}(hi:i<ps.length):(ps.take (i+1)).filter so=(ps.take i).filter so++(if so ps[i]=true then[ps[i]]else[]):=by
 rw[yce,yac hi,ycq]
 congr 1
 show List.filter so [ps[i]]=_
 rw[yci]
 rfl
end
structure SetOk(n:Int)(xs:List Int):Prop where
 srt:xs.Pairwise (· < ·)
 lt:∀x∈xs,0<=x/\x<n
theorem SetOk.len{n:Int}{xs:List Int}(h:SetOk n xs)(hn:n<=10):xs.length<=10:=by
 have h1:Sub n.toNat xs:=⟨h.srt.imp fun h e=>by omega,fun i hi=>by have:=h.lt i hi;omega⟩
 have:=h1.len
 omega
theorem SetOk.setD{n:Int}{xs:List Int}(h:SetOk n xs):HsD.setD n (.tuple (xs.map PyData.int))=true:=by
 unfold HsD.setD
 rw[Bool.and_eq_true]
 refine⟨?_,?_⟩
 ·rw[List.all_map,yax]
  intro x hx
  have:=h.lt x hx
  show(decide (0<=x)&&decide (x<n))=true
  rw[decide_eq_true this.1,decide_eq_true this.2];rfl
 ·rw[ydj]
  have e:xs.map (intD∘PyData.int)=xs:=(ydm fun x _=>rfl).trans (List.map_id xs)
  rw[e]
  unfold risesI
  rw[yax]
  intro k hk
  rw[ybf]at hk
  have h2:=ybq.mp h.srt k (k+1) (by omega) (by omega) (by omega)
  have g:∀j,(hj:j<xs.length)->xs.getD j 0=xs[j]:=fun j hj=>by rw[yag,yac hj];rfl
  rw[g k (by omega),g (k+1) (by omega)]
  exact decide_eq_true h2
noncomputable def so9(xs:List Int)(ts:List (Int×Int))(i j:Int):Bool:=hasTie ts (xs.getD i.toNat 0) (xs.getD j.toNat 0)
noncomputable def so9'(xs:List Int)(ts:List (Int×Int))(i j:Int):Bool:=decide ((xs.getD i.toNat 0,xs.getD j.toNat 0)∈ts)
theorem so9_eq{n:Int}{xs:List Int}{ts:List (Int×Int)}(h:SetOk n xs){i j:Int}(h0:0<=i)(h1:i<j)(h2:j<(xs.length:Int)):so9 xs ts i j=so9' xs ts i j:=by
 have g:∀j,(hj:j<xs.length)->xs.getD j 0=xs[j]:=fun j hj=>by rw[yag,yac hj];rfl
 have hl:=ybq.mp h.srt i.toNat j.toNat (by omega) (by omega) (by omega)
 rw[<-g i.toNat (by omega),<-g j.toNat (by omega)]at hl
 unfold so9 so9' hasTie
 generalize xs.getD i.toNat 0=x at *
 generalize xs.getD j.toNat 0=y at *
 rw[if_neg (by omega),if_pos (by omega)]
noncomputable def upto(n:Nat):List Int:=(List.range n).map fun(k:Nat)=>(k:Int)
theorem zdd(n:Int):SetOk n (upto n.toNat):=by
 unfold upto
 refine⟨?_,fun x hx=> ?_⟩
 ·rw[ycw]
  exact ydb.imp fun h=>by omega
 ·obtain⟨k,hk,rfl⟩:=ybk.mp hx
  rw[ybf]at hk
  omega
theorem upto_len(n:Nat):(upto n).length=n:=by unfold upto;simp
theorem upto_get{n:Nat}{i:Int}(h0:0<=i)(h1:i<(n:Int)):(upto n).getD i.toNat 0=i:=by
 unfold upto
 rw[yag,yae,ycz (by omega)]
 show((i.toNat:Nat):Int)=i
 omega
theorem upto_rows{n:Int}{ts:List (Int×Int)}(hn:0<=n)(h:PairsOk n ts)(hs:ts.Pairwise lt2):rows (so9 (upto n.toNat) ts) n n.toNat=ts:=by
 refine(rows_eq hn hs fun p=> ?_).symm
 constructor
 ·intro hp
  have a:=h.lt p hp
  refine⟨a.1,a.2.1,a.2.2,?_⟩
  rw[so9_eq (zdd n) a.1 a.2.1 (by rw[upto_len];omega)]
  unfold so9'
  rw[upto_get a.1 (by omega),upto_get (by omega) (by omega)]
  exact decide_eq_true hp
 ·rintro⟨a,b,c,d⟩
  rw[so9_eq (zdd n) a b (by rw[upto_len];omega)]at d
  unfold so9' at d
  rw[upto_get a (by omega),upto_get (by omega) (by omega)]at d
  exact of_decide_eq_true d
section
variable{P:Program}{w:World}{K:W.Frag}{mg:Str->Option Value}{base:Heap}
end
end Hs
namespace Hs
open HsD
end Hs
namespace Hs
noncomputable def ff:Nat->Nat
 |0=>1
 |1=>1
 |2=>2
 |3=>3
 |4=>4
 |5=>6
 |6=>9
 |7=>12
 |8=>18
 |9=>27
 |_=>36
theorem ff_mono:∀m n:Nat,m<=n->n<=10->ff m<=ff n:=by
 have h:∀n:Fin 11,∀m:Fin 11,m.val<=n.val->ff m.val<=ff n.val:=by decide
 intro m n hm hn
 exact h ⟨n,by omega⟩ ⟨m,by omega⟩ hm
theorem ff_step:∀n d:Nat,0<d->d<=n->n<=10->d*ff (n-d)<=ff n:=by
 have h:∀n:Fin 11,∀d:Fin 11,0<d.val->d.val<=n.val->d.val*ff (n.val-d.val)<=ff n.val:=by decide
 intro n d h0 hd hn
 exact h ⟨n,by omega⟩ ⟨d,by omega⟩ h0 hd
structure Full(r:Int->Int->Bool)(V:List Int)(s:List Int):Prop where
 up:s.Pairwise (· < ·)
 sub:∀x∈s,x∈V
 ind:∀x∈s,∀y∈s,x≠y->r x y=false
 max:∀v∈V,v∉s->∃x∈s,r x v=true
theorem least_at(g:Int->Nat):∀V:List Int,V≠[]->∃v∈V,∀u∈V,g v<=g u
 |[],h=>absurd rfl h
 |[x],_=>⟨x,by simp,fun u hu=>by rw[yar.mp hu];exact yab _⟩
 |x::y::V,_=>by
  obtain⟨v,hv,hm⟩:=least_at g (y::V) (by simp)
  by_cases c:g x<=g v
  ·refine⟨x,by simp,fun u hu=> ?_⟩
   rcases yaj.mp hu with e|e
   ·rw[e];exact yab _
   ·exact yau c (hm u e)
  ·refine⟨v,yai _ hv,fun u hu=> ?_⟩
   rcases yaj.mp hu with e|e
   ·rw[e];omega
   ·exact hm u e
theorem filter_two{α:Type}(p:α->Bool):∀l:List α,(l.filter p).length+(l.filter fun x=> !p x).length=l.length
 |[]=>rfl
 |x::l=>by
  have ih:=filter_two p l
  rw[yci,yci]
  cases p x<;>simp <;>omega
theorem cover_len{α β:Type}(p:β->α->Bool)(m:Nat):∀(us:List β) (fs:List α),(∀s∈fs,∃u∈us,p u s=true)->(∀u∈us,∀gs:List α,gs.Sublist fs->(∀s∈gs,p u s=true)->gs.length<=m)->fs.length<=us.length*m
 |[],fs,h,_=>by
  cases fs with
  |nil=>simp
  |cons s fs=>obtain⟨u,hu,_⟩:=h s (by simp);cases hu
 |u::us,fs,h,hm=>by
  have e:=filter_two (p u) fs
  have a:=hm u (by simp) (fs.filter (p u)) ydz (fun s hs=>(yav.mp hs).2)
  have b:=cover_len p m us (fs.filter fun x=> !p u x) (fun s hs=>by
   obtain⟨h1,h2⟩:=yav.mp hs
   obtain⟨w,hw,hp⟩:=h s h1
   rcases yaj.mp hw with z|z
   ·rw[z]at hp;rw[hp]at h2;cases h2
   ·exact⟨w,z,hp⟩) (fun w hw gs hg hp=>hm w (yai _ hw) gs (hg.trans ydz) hp)
  rw[ybh,Nat.succ_mul]
  omega
theorem up_same:∀{xs ys:List Int},xs.Pairwise (· < ·)->ys.Pairwise (· < ·)->(∀k,k∈xs↔k∈ys)->xs=ys
 |[],[],_,_,_=>rfl
 |[],y::ys,_,_,h=>by have:=(h y).mpr (by simp);simp at this
 |x::xs,[],_,_,h=>by have:=(h x).mp (by simp);simp at this
 |x::xs,y::ys,hx,hy,h=>by
  rw[yea]at hx hy
  have e:x=y:=by
   have a:=(h x).mp (by simp)
   have b:=(h y).mpr (by simp)
   rcases yaj.mp a with a|a
   ·exact a
   ·rcases yaj.mp b with b|b
    ·exact b.symm
    ·have:=hy.1 x a;have:=hx.1 y b;omega
  subst e
  rw[up_same hx.2 hy.2 fun k=> ?_]
  constructor
  ·intro hk
   rcases yaj.mp ((h k).mp (yai _ hk))with a|a
   ·have:=hx.1 k hk;omega
   ·exact a
  ·intro hk
   rcases yaj.mp ((h k).mpr (yai _ hk))with a|a
   ·have:=hy.1 k hk;omega
   ·exact a
theorem map_nodup{α β:Type}{g:α->β}:∀{l:List α},l.Nodup->(∀a∈l,∀b∈l,g a=g b->a=b)->(l.map g).Nodup
 |[],_,_=>List.nodup_nil
 |a::l,h,hi=>by
  rw[ych]at h
  rw[ybz,ych]
  refine⟨fun hm=> ?_,map_nodup h.2 fun x hx y hy=>hi x (yai _ hx) y (yai _ hy)⟩
  obtain⟨b,hb,e⟩:=ybk.mp hm
  have:=hi b (yai _ hb) a (by simp) e
  rw[this]at hb
  exact h.1 hb
noncomputable def nearTo(r:Int->Int->Bool)(v u:Int):Bool:=decide (u=v)||r u v
theorem full_count{r:Int->Int->Bool}(sym:∀i j,r i j=r j i):∀(n:Nat) (V:List Int),V.length=n->n<=10->∀fs:List (List Int),fs.Nodup->(∀s∈fs,Full r V s)->fs.length<=ff n:=by
 intro n
 induction n using Nat.strongRecOn with
 |ind n ih=>
  intro V hV hn fs nd hf
  by_cases hz:V=[]
  ·have e:∀s∈fs,s=[]:=fun s hs=>by
    cases s with
    |nil=>rfl
    |cons x s=>have:=(hf _ hs).sub x (by simp);rw[hz]at this;cases this
   have l1:fs.length<=1:=by
    match fs,nd,e with
    |[],_,_=>simp
    |[_],_,_=>simp
    |a::b::fs,nd,e=>
     exfalso
     rw[ych]at nd
     apply nd.1
     rw[e a (by simp),e b (by simp)]
     simp
   have:1<=ff n:=by
    have:=ff_mono 0 n (yas _) hn
    exact this
   omega
  obtain⟨v,hv,hmin⟩:=least_at (fun u=>(V.filter (nearTo r u)).length) V hz
  have key:=cover_len (fun(u:Int) (s:List Int)=>decide (u∈s)) (ff (n-(V.filter (nearTo r v)).length)) (V.filter (nearTo r v)) fs (fun s hs=> ?_) (fun u hu gs hg hp=> ?_)
  ·have hle:(V.filter (nearTo r v)).length<=n:=by rw[<-hV];exact ybc _ _
   have hpos:0<(V.filter (nearTo r v)).length:=ydc (yav.mpr ⟨hv,by unfold nearTo;simp⟩)
   exact yau key (ff_step n _ hpos hle hn)
  ·by_cases c:v∈s
   ·exact⟨v,yav.mpr ⟨hv,by unfold nearTo;simp⟩,decide_eq_true c⟩
   ·obtain⟨x,hx,hr⟩:=(hf s hs).max v hv c
    exact⟨x,yav.mpr ⟨(hf s hs).sub x hx,by unfold nearTo;rw[hr];simp⟩,decide_eq_true hx⟩
  ·have huV:u∈V:=(yav.mp hu).1
   have fg:∀s∈gs,Full r V s/\u∈s:=fun s hs=>⟨hf s (hg.subset hs),of_decide_eq_true (hp s hs)⟩
   have hle:(V.filter (nearTo r u)).length<=n:=by rw[<-hV];exact ybc _ _
   have hge:=hmin u huV
   have hpos:0<(V.filter (nearTo r u)).length:=ydc (yav.mpr ⟨huV,by unfold nearTo;simp⟩)
   have hV2:(V.filter fun x=> !nearTo r u x).length=n-(V.filter (nearTo r u)).length:=by have:=filter_two (nearTo r u) V;omega
   have memf:∀(s:List Int) (x:Int),x∈s.filter (fun x=> !decide (x=u))↔x∈s/\x≠u:=fun s x=>by rw[yav];simp
   have h1:=ih (n-(V.filter (nearTo r u)).length) (by omega) (V.filter fun x=> !nearTo r u x) hV2 (by omega) (gs.map fun s=>s.filter fun x=> !decide (x=u)) (map_nodup (nd.sublist hg) fun s hs t ht e=> ?_) (fun t ht=> ?_)
   ·rw[yaa]at h1
    exact yau h1 (ff_mono _ _ (by omega) (by omega))
   ·obtain⟨a1,a2⟩:=fg s hs
    obtain⟨b1,b2⟩:=fg t ht
    refine up_same a1.up b1.up fun k=> ?_
    have hk:k∈s.filter (fun x=> !decide (x=u))↔k∈t.filter (fun x=> !decide (x=u)):=by rw[show s.filter (fun x=> !decide (x=u))=t.filter (fun x=> !decide (x=u))from e]
    rw[memf,memf]at hk
    by_cases c:k=u
    ·rw[c];exact⟨fun _=>b2,fun _=>a2⟩
    ·exact⟨fun z=>(hk.mp ⟨z,c⟩).1,fun z=>(hk.mpr ⟨z,c⟩).1⟩
   ·obtain⟨s,hs,rfl⟩:=ybk.mp ht
    obtain⟨a1,a2⟩:=fg s hs
    refine⟨a1.up.sublist ydz,fun x hx=> ?_,fun x hx y hy=> ?_,fun w hw hn=> ?_⟩
    ·obtain⟨x1,x2⟩:=(memf s x).mp hx
     refine yav.mpr ⟨a1.sub x x1,?_⟩
     unfold nearTo
     rw[a1.ind x x1 u a2 x2,decide_eq_false x2]
     rfl
    ·exact a1.ind x ((memf s x).mp hx).1 y ((memf s y).mp hy).1
    ·obtain⟨w1,w2⟩:=yav.mp hw
     have w3:nearTo r u w=false:=by simpa using w2
     unfold nearTo at w3
     rw[Bool.or_eq_false_iff]at w3
     have wu:w≠u:=of_decide_eq_false w3.1
     have ws:w∉s:=fun z=>hn ((memf s w).mpr ⟨z,wu⟩)
     obtain⟨x,hx,hr⟩:=a1.max w w1 ws
     have xu:x≠u:=fun z=>by rw[z,sym u w,w3.2]at hr;cases hr
     exact⟨x,(memf s x).mpr ⟨hx,xu⟩,hr⟩
end Hs
namespace Hs
open PySem HsD
noncomputable def rng(n:Nat):List Int:=(List.range n).map fun k=>((k:Nat):Int)
theorem mem_rng{n:Nat}{x:Int}:x∈rng n↔0<=x/\x<(n:Int):=by
 unfold rng
 rw[ybk]
 constructor
 ·rintro⟨k,hk,rfl⟩
  have:=ybf.mp hk
  omega
 ·rintro⟨h0,h1⟩
  exact⟨x.toNat,ybf.mpr (by omega),by omega⟩
theorem zde(ts:List (Int×Int))(i j:Int):tiedL ts i j=tiedL ts j i:=by unfold tiedL;rw[Bool.or_comm]
noncomputable def goB(ts:List (Int×Int))(w:Bool)(s:List Int)(p:Int):Bool:=s.all fun q=>tiedL ts p q==w
noncomputable def setsL(ts:List (Int×Int))(w:Bool):Nat->List (List Int)
 |0=>[[]]
 |k+1=>setsL ts w k++((setsL ts w k).filter fun s=>goB ts w s (k:Int)).map fun s=>s++[(k:Int)]
noncomputable def fullB(ts:List (Int×Int))(w:Bool)(n:Nat)(s:List Int):Bool:= !((rng n).any fun p=> !decide (p∈s)&&goB ts w s p)
noncomputable def fulls(ts:List (Int×Int))(w:Bool)(n:Nat):List (List Int):=(setsL ts w n).filter (fullB ts w n)
structure SetK(ts:List (Int×Int))(w:Bool)(k:Nat)(s:List Int):Prop where
 up:s.Pairwise (· < ·)
 lt:∀x∈s,0<=x/\x<(k:Int)
 all:∀x∈s,∀y∈s,x≠y->(tiedL ts x y==w)=true
theorem sets_k{ts:List (Int×Int)}{w:Bool}:∀(k:Nat) (s:List Int),s∈setsL ts w k->SetK ts w k s
 |0,s,h=>by
  rw[yar.mp (show s∈[[]]from h)]
  exact⟨List.Pairwise.nil,fun x hx=>(nomatch hx),fun x hx=>(nomatch hx)⟩
 |k+1,s,h=>by
  rcases yay.mp (show s∈setsL ts w k++((setsL ts w k).filter fun s=>goB ts w s (k:Int)).map fun s=>s++[(k:Int)]from h)with q|q
  ·have S:=sets_k k s q
   exact⟨S.up,fun x hx=>by have:=S.lt x hx;omega,S.all⟩
  ·obtain⟨t,ht,rfl⟩:=ybk.mp q
   obtain⟨t1,t2⟩:=yav.mp ht
   have S:=sets_k k t t1
   have g:∀y∈t,(tiedL ts (k:Int) y==w)=true:=fun y hy=>yax.mp t2 y hy
   refine⟨?_,fun x hx=> ?_,fun x hx y hy hne=> ?_⟩
   ·rw[yct]
    refine⟨S.up,List.pairwise_singleton _ _,fun x hx y hy=> ?_⟩
    rw[yar.mp hy]
    exact(S.lt x hx).2
   ·rcases yay.mp hx with z|z
    ·have:=S.lt x z;omega
    ·rw[yar.mp z];omega
   ·rcases yay.mp hx with z|z
    ·rcases yay.mp hy with z'|z'
     ·exact S.all x z y z' hne
     ·rw[yar.mp z',zde];exact g x z
    ·rw[yar.mp z]at hne⊢
     rcases yay.mp hy with z'|z'
     ·exact g y z'
     ·exact absurd (yar.mp z').symm hne
theorem sets_nodup{ts:List (Int×Int)}{w:Bool}:∀k:Nat,(setsL ts w k).Nodup
 |0=>by show([[]]:List (List Int)).Nodup;simp
 |k+1=>by
  show(setsL ts w k++((setsL ts w k).filter fun s=>goB ts w s (k:Int)).map fun s=>s++[(k:Int)]).Nodup
  refine List.nodup_append.mpr ⟨sets_nodup k,map_nodup ((sets_nodup k).filter _) (fun a _ b _ e=>List.append_cancel_right e),fun a ha b hb e=> ?_⟩
  obtain⟨t,_,rfl⟩:=ybk.mp hb
  have:=(sets_k k a ha).lt (k:Int) (by rw[e];simp)
  omega
theorem sets_len{ts:List (Int×Int)}{w:Bool}:∀k:Nat,(setsL ts w k).length<=2^k
 |0=>yab _
 |k+1=>by
  show(setsL ts w k++((setsL ts w k).filter fun s=>goB ts w s (k:Int)).map fun s=>s++[(k:Int)]).length<=2^(k+1)
  rw[yat,yaa,Nat.pow_succ]
  have a:=sets_len (ts:=ts) (w:=w) k
  have b:=ybc (fun s=>goB ts w s (k:Int)) (setsL ts w k)
  omega
theorem full_of{ts:List (Int×Int)}{w:Bool}{n:Nat}{s:List Int}(h:s∈fulls ts w n):Full (fun i j=> !(tiedL ts i j==w)) (rng n) s:=by
 obtain⟨h1,h2⟩:=yav.mp h
 have S:=sets_k n s h1
 refine⟨S.up,fun x hx=>mem_rng.mpr (S.lt x hx),fun x hx y hy hne=>by rw[S.all x hx y hy hne];rfl,fun v hv hn=> ?_⟩
 unfold fullB at h2
 apply Classical.byContradiction
 intro hc
 have h3:((rng n).any fun p=> !decide (p∈s)&&goB ts w s p)=false:=by simpa using h2
 rw[yds]at h3
 apply h3 v hv
 rw[decide_eq_false hn]
 show goB ts w s v=true
 unfold goB
 rw[yax]
 intro q hq
 cases e:(tiedL ts v q==w)with
 |true=>rfl
 |false=>exact absurd ⟨q,hq,by show(!(tiedL ts q v==w))=true;rw[zde,e];rfl⟩ hc
theorem fulls_len{ts:List (Int×Int)}{w:Bool}{n:Nat}(hn:n<=10):(fulls ts w n).length<=36:=by
 have h:=full_count (r:=fun i j=> !(tiedL ts i j==w)) (fun i j=>by rw[zde]) n (rng n) (by unfold rng;simp) hn (fulls ts w n) ((sets_nodup n).filter _) (fun s hs=>full_of hs)
 have:=ff_mono n 10 hn (yab _)
 exact yau h this
noncomputable def leftL(ts:List (Int×Int))(w:Bool)(n:Nat)(s:List Int):List Int:=(rng n).filter fun p=>s.all fun q=> !decide (p=q)&&(tiedL ts q p==w)
noncomputable def friendL(ts:List (Int×Int))(w:Bool)(n:Nat)(q:Int):List Int:=(rng n).filter fun p=> !decide (p=q)&&(tiedL ts q p==w)
theorem left_nil(ts:List (Int×Int))(w:Bool)(n:Nat):leftL ts w n []=rng n:=by unfold leftL;exact List.filter_eq_self.mpr fun _ _=>rfl
theorem left_snoc(ts:List (Int×Int))(w:Bool)(n:Nat)(s:List Int)(k:Int):leftL ts w n (s++[k])=(leftL ts w n s).filter fun p=>decide (p∈friendL ts w n k):=by
 unfold leftL
 rw[List.filter_filter]
 refine List.filter_congr fun p hp=> ?_
 rw[List.all_append,Bool.and_comm]
 congr 1
 unfold friendL
 rw[Bool.eq_iff_iff,decide_eq_true_eq,yav]
 simp[hp]
theorem in_left{ts:List (Int×Int)}{w:Bool}{n k:Nat}{s:List Int}(hs:SetK ts w k s)(hk:k<n):decide ((k:Int)∈leftL ts w n s)=goB ts w s (k:Int):=by
 unfold leftL goB
 rw[Bool.eq_iff_iff,decide_eq_true_eq,yav,yax,yax]
 constructor
 ·rintro⟨_,h⟩ q hq
  have:=h q hq
  rw[Bool.and_eq_true]at this
  rw[zde];exact this.2
 ·intro h
  refine⟨mem_rng.mpr ⟨by omega,by omega⟩,fun q hq=> ?_⟩
  have:=(hs.lt q hq).2
  rw[Bool.and_eq_true]
  refine⟨?_,by rw[zde];exact h q hq⟩
  rw[decide_eq_false (by omega)];rfl
theorem left_full(ts:List (Int×Int))(w:Bool)(n:Nat)(s:List Int):decide (leftL ts w n s=[])=fullB ts w n s:=by
 unfold leftL fullB
 rw[Bool.eq_iff_iff,decide_eq_true_eq,List.filter_eq_nil_iff,Bool.not_eq_true',yds]
 constructor
 ·intro h p hp hc
  rw[Bool.and_eq_true]at hc
  apply h p hp
  rw[yax]
  intro q hq
  have h1:p∉s:=by simpa using hc.1
  have h2:=yax.mp hc.2 q hq
  rw[Bool.and_eq_true]
  refine⟨?_,by rw[zde];exact h2⟩
  have ne:¬p=q:=fun e=>h1 (by rw[e];exact hq)
  rw[decide_eq_false ne];rfl
 ·intro h p hp hc
  apply h p hp
  rw[yax]at hc
  rw[Bool.and_eq_true]
  refine⟨?_,?_⟩
  ·have:p∉s:=fun z=>by
    have:=hc p z
    simp at this
   rw[decide_eq_false this];rfl
  ·unfold goB
   rw[yax]
   intro q hq
   have:=hc q hq
   rw[Bool.and_eq_true]at this
   rw[zde];exact this.2
theorem lex_one{xs ys:List (List Int)}(h:xs.Perm ys)(hx:xs.Pairwise fun a b=>HT.lexLt b a=false)(hy:ys.Pairwise fun a b=>HT.lexLt b a=false):xs=ys:=by
 refine List.Perm.eq_of_pairwise (le:=fun a b=>HT.lexLt b a=false) (fun a b _ _ h1 h2=> ?_) hx hy h
 rw[HT.lexLt_iff,decide_eq_false_iff_not]at h1 h2
 exact List.le_antisymm (ycy.mp h1) (ycy.mp h2)
theorem rising_same:∀{xs ys:List Int},xs.Pairwise (· < ·)->ys.Pairwise (· < ·)->(∀k,k∈xs↔k∈ys)->xs=ys
 |[],[],_,_,_=>rfl
 |[],y::ys,_,_,h=>by have:=(h y).mpr (by simp);simp at this
 |x::xs,[],_,_,h=>by have:=(h x).mp (by simp);simp at this
 |x::xs,y::ys,hx,hy,h=>by
  rw[yea]at hx hy
  have e:x=y:=by
   have a:=(h x).mp (by simp)
   have b:=(h y).mpr (by simp)
   rcases yaj.mp a with a|a
   ·exact a
   ·rcases yaj.mp b with b|b
    ·exact b.symm
    ·have:=hy.1 x a;have:=hx.1 y b;omega
  subst e
  rw[rising_same hx.2 hy.2 fun k=> ?_]
  constructor
  ·intro hk
   rcases yaj.mp ((h k).mp (yai _ hk))with a|a
   ·have:=hx.1 k hk;omega
   ·exact a
  ·intro hk
   rcases yaj.mp ((h k).mpr (yai _ hk))with a|a
   ·have:=hy.1 k hk;omega
   ·exact a
theorem sets_of{ts:List (Int×Int)}{w:Bool}:∀(k:Nat) (s:List Int),SetK ts w k s->s∈setsL ts w k
 |0,s,h=>by
  cases s with
  |nil=>show([]:List Int)∈[[]];simp
  |cons x s=>have:=h.lt x (by simp);omega
 |k+1,s,h=>by
  show s∈setsL ts w k++((setsL ts w k).filter fun s=>goB ts w s (k:Int)).map fun s=>s++[(k:Int)]
  by_cases c:(k:Int)∈s
  ·have hm:∀x,x∈s.filter (fun x=> !decide (x=(k:Int)))↔x∈s/\x≠(k:Int):=fun x=>by rw[yav];simp
   refine yaz _ (ybk.mpr ⟨s.filter (fun x=> !decide (x=(k:Int))),yav.mpr ⟨sets_of k _ ⟨h.up.filter _,fun x hx=> ?_,fun x hx y hy hne=> ?_⟩,?_⟩,?_⟩)
   ·have a:=(hm x).mp hx
    have b:=h.lt x a.1
    have:=a.2
    omega
   ·exact h.all x ((hm x).mp hx).1 y ((hm y).mp hy).1 hne
   ·unfold goB
    rw[yax]
    intro q hq
    have a:=(hm q).mp hq
    exact h.all _ c q a.1 (fun e=>a.2 e.symm)
   ·refine rising_same ?_ h.up fun x=> ?_
    ·rw[yct]
     refine⟨h.up.filter _,List.pairwise_singleton _ _,fun x hx y hy=> ?_⟩
     rw[yar.mp hy]
     have a:=(hm x).mp hx
     have b:=h.lt x a.1
     have:=a.2
     omega
    ·rw[yay,hm,yar]
     constructor
     ·rintro(a|a)
      ·exact a.1
      ·rw[a];exact c
     ·intro a
      by_cases e:x=(k:Int)
      ·exact .inr e
      ·exact .inl ⟨a,e⟩
  ·refine yde _ (sets_of k s ⟨h.up,fun x hx=> ?_,h.all⟩)
   have b:=h.lt x hx
   have:x≠(k:Int):=fun e=>c (by rw[<-e];exact hx)
   omega
theorem SetK.of{ts:List (Int×Int)}{w:Bool}{n:Nat}{s:List Int}(F:Full (fun i j=> !(tiedL ts i j==w)) (rng n) s):SetK ts w n s:=
 ⟨F.up,fun x hx=>mem_rng.mp (F.sub x hx),fun x hx y hy hne=>by
  have:=F.ind x hx y hy hne
  try dsimp only at this
  cases e:(tiedL ts x y==w)with
  |true=>rfl
  |false=>rw[e]at this;cases this⟩
theorem full_in{ts:List (Int×Int)}{w:Bool}{n:Nat}{s:List Int}(F:Full (fun i j=> !(tiedL ts i j==w)) (rng n) s):s∈fulls ts w n:=by
 refine yav.mpr ⟨sets_of n s (SetK.of F),?_⟩
 unfold fullB
 rw[Bool.not_eq_true',yds]
 intro p hp hc
 rw[Bool.and_eq_true]at hc
 have hn:p∉s:=by simpa using hc.1
 obtain⟨x,hx,hr⟩:=F.max p hp hn
 have:=yax.mp hc.2 x hx
 try dsimp only at hr this
 rw[zde,this]at hr
 cases hr
theorem most_at{α:Type}(g:α->Nat):∀V:List α,V≠[]->∃v∈V,∀u∈V,g u<=g v
 |[],h=>absurd rfl h
 |[x],_=>⟨x,by simp,fun u hu=>by rw[yar.mp hu];exact yab _⟩
 |x::y::V,_=>by
  obtain⟨v,hv,hm⟩:=most_at g (y::V) (by simp)
  by_cases c:g v<=g x
  ·refine⟨x,by simp,fun u hu=> ?_⟩
   rcases yaj.mp hu with e|e
   ·rw[e];exact yab _
   ·exact yau (hm u e) c
  ·refine⟨v,yai _ hv,fun u hu=> ?_⟩
   rcases yaj.mp hu with e|e
   ·rw[e];omega
   ·exact hm u e
theorem ext_full{ts:List (Int×Int)}{w:Bool}{n:Nat}{s:List Int}(hs:SetK ts w n s):∃t∈fulls ts w n,∀x∈s,x∈t:=by
 let C:=(setsL ts w n).filter fun t=>s.all fun x=>decide (x∈t)
 have mC:∀t,t∈C↔t∈setsL ts w n/\∀x∈s,x∈t:=fun t=>by
  show t∈(setsL ts w n).filter _↔_
  rw[yav,yax]
  simp
 have hne:C≠[]:=fun e=>by
  have:s∈C:=(mC s).mpr ⟨sets_of n s hs,fun x hx=>hx⟩
  rw[e]at this;cases this
 obtain⟨t,ht,hm⟩:=most_at List.length C hne
 obtain⟨h1,h2⟩:=(mC t).mp ht
 have T:=sets_k n t h1
 refine⟨t,full_in ⟨T.up,fun x hx=>mem_rng.mpr (T.lt x hx),fun x hx y hy hne=> ?_,fun v hv hn=> ?_⟩,h2⟩
 ·show(!(tiedL ts x y==w))=false
  rw[T.all x hx y hy hne];rfl
 ·apply Classical.byContradiction
  intro hc
  have go:∀x∈t,(tiedL ts x v==w)=true:=fun x hx=>by
   cases e:(tiedL ts x v==w)with
   |true=>rfl
   |false=>exact absurd ⟨x,hx,by show(!(tiedL ts x v==w))=true;rw[e];rfl⟩ hc
  have mU:∀x,x∈(rng n).filter (fun x=>decide (x∈t)||decide (x=v))↔x∈t\/x=v:=fun x=>by
   rw[yav,Bool.or_eq_true,decide_eq_true_eq,decide_eq_true_eq]
   constructor
   ·exact fun z=>z.2
   ·rintro(z|z)
    ·exact⟨mem_rng.mpr (T.lt x z),.inl z⟩
    ·exact⟨by rw[z];exact hv,.inr z⟩
  have up:((rng n).filter (fun x=>decide (x∈t)||decide (x=v))).Pairwise (· < ·):=by
   refine List.Pairwise.filter _ ?_
   unfold rng
   rw[ycw]
   exact ydb.imp fun{a b} h=>by omega
  have U:SetK ts w n ((rng n).filter (fun x=>decide (x∈t)||decide (x=v))):=⟨up,fun x hx=>mem_rng.mp (yav.mp hx).1,fun x hx y hy hne=>by
   rcases(mU x).mp hx with a|a
   ·rcases(mU y).mp hy with b|b
    ·exact T.all x a y b hne
    ·rw[b];exact go x a
   ·rcases(mU y).mp hy with b|b
    ·rw[a,zde];exact go y b
    ·exact absurd (a.trans b.symm) hne⟩
  have inC:=(mC _).mpr ⟨sets_of n _ U,fun x hx=>(mU x).mpr (.inl (h2 x hx))⟩
  have l1:=hm _ inC
  have l2:=nodup_len (l:=v::t) (m:=(rng n).filter (fun x=>decide (x∈t)||decide (x=v))) (ych.mpr ⟨hn,T.up.imp fun{a b} h=>by omega⟩) (fun x hx=>by
   rcases yaj.mp hx with z|z
   ·exact(mU x).mpr (.inr z)
   ·exact(mU x).mpr (.inl z))
  rw[ybh]at l2
  omega
end Hs
namespace Hs
open PySem L2 HsD
section
variable{P:Program}{w:World}{K:W.Frag}{mg:Str->Option Value}{base:Heap}
theorem blV_eq(a b:Bool):decide (V.bl a=V.bl b)=(a==b):=by cases a<;>cases b<;>rfl
theorem intV_eq(a b:Int):decide (V.int a=V.int b)=decide (a=b):=by
 by_cases e:a=b
 ·subst e;simp
 ·rw[decide_eq_false e,decide_eq_false (by intro z;injection z with z;exact e z)]
theorem intV_ne{a b:Int}:(!decide (V.int a=V.int b))= !decide (a=b):=by rw[intV_eq]
theorem any_ints(xs:List Int)(k:Int):((xs.map PyData.int).any fun d=>PyData.eqv d (.int k))=decide (k∈xs):=by
 induction xs with
 |nil=>simp
 |cons x xs ih=>
  rw[ybz,ydk,ih]
  have e:PyData.eqv (.int x) (.int k)=decide (k=x):=by
   show(x==k)=_
   rw[Bool.eq_iff_iff];simp;exact⟨fun h=>h.symm,fun h=>h.symm⟩
  rw[e,Bool.eq_iff_iff]
  simp
theorem zcu{α:Type}{p:α->Bool}{l:List α}{i:Nat}(hi:i<l.length):(l.take (i+1)).filter p=(l.take i).filter p++(if p l[i]=true then[l[i]]else[]):=by
 rw[yce,yac hi,ycq]
 congr 1
 show[l[i]].filter p=_
 rw[yci]
 rfl
theorem rng_succ(k:Nat):rng (k+1)=rng k++[(k:Int)]:=by unfold rng;rw[ybt,yaf];rfl
theorem tupR_rng(n:Nat):tupR n=(rng n).map V.int:=by unfold tupR rng;rw[ydj];rfl
noncomputable def spInBoth(K:W.Frag):Sp:=fun vs H Q _=>∃(l m:Addr) (xs ys:List Int),vs=[.ref l,.ref m]/\SqL K H l (xs.map V.int)/\SqL K H m (ys.map V.int)/\∀r H',Same H H'->H' r=some (.lst ((xs.filter fun p=>decide (p∈ys)).map V.int))->H r=none->Q (.ref r) H'
theorem sc_inBoth:FnScope ["ones","others"] ["ones","others"] (defScope s_in_both):=⟨rfl,rfl,rfl,by decide+kernel,rfl,by decide+kernel,by decide+kernel⟩
theorem ok_inBoth{f:Addr}{fd:FuncData}(F:Fun K "in_both" "in_both" s_in_both f fd):
  FnOk P w K mg base CX0 1 f fd ["ones","others"] (spInBoth K):=by
 refine F.ok sc_inBoth (fun vs H Q E h=> ?_) (fun cdv A outer s H vs Q E hr h=> ?_)
 ·obtain⟨l,m,xs,ys,rfl,_⟩:=h
  rfl
 obtain⟨l,m,xs,ys,rfl,hL,hM,q⟩:=h
 refine⟨_,(zaf (zao (zbq (own:=["place"]) (caps:=["others"]) (ix:=[1]) rfl (pi_listL (pv 0)) rfl rfl (.cons rfl rfl .nil) (fun _ _ _ _ _=>(zaj (i:=0) (show(["place","others"]:List Str).Nodup from by decide+kernel) rfl (Or.inl rfl))) (fun _ _ _ _ _=>pts_one (zas (op_inDK K hr.units) (pv 0) (pv 1) (by with_unfolding_all rfl))) (fun _ _ _ _ _=>(pv 0))))),?_⟩
 refine⟨_,rfl,l,_,rfl,hL,fun hz=> ?_⟩
 refine comp_list (xs:=xs.map V.int) (fun k acc σ H'=>acc=((xs.take k).filter fun p=>decide (p∈ys)).map V.int/\Same H H'/\∃o,σ=[o,some (.ref m)]) ⟨rfl,Same.refl _,_,rfl⟩ (fun k acc σ H' _ p=>p.2.1.seq hL) (fun k acc σ H' hk p=> ?_) hz (fun k x acc σ H' hx p=> ?_) (fun acc σ H' p=> ?_)
 ·rw[p.1,yaa]
  exact yau (ybc _ _) (by rw[ybs];exact yda _ _)
 ·obtain⟨rfl,sm,o,rfl⟩:=p
  rw[yae]at hx
  cases ex:xs[k]? with
  |none=>rw[ex]at hx;cases hx
  |some y=>
   rw[ex]at hx
   cases hx
   obtain⟨hk,ey⟩:=yao.mp ex
   have e:=zcu (p:=fun p=>decide (p∈ys)) hk
   rw[ey]at e
   refine⟨_,rfl,_,rfl,m,_,_,.int y,rfl,.inl (sm.seq hM),DVs.ints ys,.int _,zbi ys,rfl,(by show 0<=60;decide),_,rfl,?_⟩
   rw[any_ints]
   refine ite2 (fun c=> ?_) (fun c=> ?_)
   ·exact⟨_,rfl,by rw[e,if_pos c,yaf];rfl,sm,_,rfl⟩
   ·exact⟨by rw[e,if_neg c,ybo],sm,_,rfl⟩
 ·intro p1 hp1
  obtain⟨rfl,sm,_⟩:=p
  rw[yaa,ybp]
  exact q p1 _ (sm.trans (zad hp1 _)) zab (sm.free hp1)
noncomputable def spByTie(K:W.Frag):Sp:=fun vs H Q _=>∃(a:Addr) (n i:Int) (ts:List (Int×Int)) (w:Bool),vs=[.ref a,.int i,.bl w]/\WebIs K H a n ts/\∀r H',Same H H'->H' r=some (.lst ((friendL ts w n.toNat i).map V.int))->H r=none->Q (.ref r) H'
theorem sc_byTie:FnScope ["web","place","tied"] ["web","place","tied"] (defScope zbd):=⟨rfl,rfl,rfl,by decide+kernel,rfl,by decide+kernel,by decide+kernel⟩
theorem ok_byTie{f f1:Addr}{fd d1:FuncData}(F:Fun K "places_by_tie" "places_by_tie" zbd f fd)(D1:Dfn K mg "has_tie" zdg ["web","one","other"] f1 d1)(G1:FnOk P w K mg base CX0 1 f1 d1 ["web","one","other"] (spHas K))(m_range:mg "range"=none):
  FnOk P w K mg base CX0 2 f fd ["web","place","tied"] (spByTie K):=by
 refine F.ok sc_byTie (fun vs H Q E h=> ?_) (fun cdv A outer s H vs Q E hr h=> ?_)
 ·obtain⟨a,n,i,ts,w,rfl,_⟩:=h
  rfl
 obtain⟨a,n,i,ts,w,rfl,hA,q⟩:=h
 refine⟨_,(zaf (zao (zbq (own:=["other"]) (caps:=["place","web","tied"]) (ix:=[1,0,2]) rfl (zbp rfl m_range (zaa (zay zcf (pv 0) zah (fun _ _=>rfl)) zac)) rfl rfl (.cons rfl rfl (.cons rfl rfl (.cons rfl rfl .nil))) (fun _ _ _ _ _=>(zaj (i:=0) (show(["other","place","web","tied"]:List Str).Nodup from by decide+kernel) rfl (Or.inl rfl))) (fun _ _ _ _ _=>pts_one (PW.pt (pw_and (zas op_ne (pv 0) (pv 1) (nomark _)) (pw_and1 (zas op_eq (zag G1 hr rfl D1.m D1.F.kp D1.b .nil pass0 (zaa (pv 2) (zaa (pv 1) (zaa (pv 0) zac)))) (pv 3) (nomark _)))))) (fun _ _ _ _ _=>(pv 0))))),?_⟩
 have h0:=hA.h0
 have h10:=hA.h1
 obtain⟨ta,ra,a1,a2,a3⟩:=id hA.web
 refine⟨_,rfl,a,_,_,.int n,rfl,rfl,a1,rfl,n,rfl,by omega,by omega,?_⟩
 refine zck (n:=n.toNat) (fun k acc σ H'=>acc=((rng k).filter fun p=> !decide (p=i)&&(tiedL ts i p==w)).map V.int/\Same H H'/\∃o,σ=[o,some (.int i),some (.ref a),some (.bl w)]) ⟨rfl,Same.refl _,_,rfl⟩ (fun k acc σ H' hk p=> ?_) (by rw[sizeLine_eq];omega) (fun k acc σ H' hk p=> ?_) (fun acc σ H' p=> ?_)
 ·rw[p.1,yaa]
  exact yau (ybc _ _) (by unfold rng;simp)
 ·obtain⟨rfl,sm,o,rfl⟩:=p
  have ek:(0+(k:Int))=(k:Int):=by omega
  rw[ek]
  have e:∀b,b=(!decide ((k:Int)=i)&&(tiedL ts i (k:Int)==w))->((rng (k+1)).filter fun p=> !decide (p=i)&&(tiedL ts i p==w))=((rng k).filter fun p=> !decide (p=i)&&(tiedL ts i p==w))++(if b=true then[(k:Int)]else[]):=fun b hb=>by
   rw[rng_succ,ycq,yci,hb];rfl
  refine⟨_,rfl,_,rfl,rfl,_,rfl,?_⟩
  rw[intV_ne]
  refine ite2 (fun c=> ?_) (fun c=> ?_)
  ·refine⟨_,rfl,_,rfl,_,rfl,a,n,_,_,ts,rfl,(hA.same sm).web,fun H5 s5=>⟨_,rfl,rfl,_,rfl,?_⟩⟩
   rw[blV_eq,tied_eq hA.pk]
   refine ite2 (fun c2=> ?_) (fun c2=> ?_)
   ·exact⟨_,rfl,by rw[e true (by rw[c,c2];rfl),yaf];rfl,sm.trans s5,_,rfl⟩
   ·exact⟨by rw[e false (by rw[c,Bool.eq_false_iff.mpr c2];rfl)];simp,sm.trans s5,_,rfl⟩
  ·exact⟨by rw[e false (by rw[Bool.eq_false_iff.mpr c];rfl)];simp,sm,_,rfl⟩
 ·intro p1 hp1
  obtain⟨rfl,sm,_⟩:=p
  exact q p1 _ (sm.trans (zad hp1 _)) zab (sm.free hp1)
noncomputable def SetsAt(K:W.Frag)(H:Hp)(r:Addr)(ss:List (List Int)):Prop:=∃its:List (Addr×List Int),H r=some (.lst (its.map fun p=>V.ref p.1))/\(∀p∈its,SqT K H p.1 (p.2.map V.int))/\its.map (fun p=>p.2)=ss
noncomputable def SortedF(ss:List (List Int))(ts:List (Int×Int))(w:Bool)(n:Nat):Prop:=ss.Perm (fulls ts w n)/\ss.Pairwise fun a b=>HT.lexLt b a=false
theorem full_ne{ts:List (Int×Int)}{w:Bool}{n:Nat}(h2:2<=(fulls ts w n).length):∀s∈fulls ts w n,s≠[]:=by
 intro s hs e
 subst e
 have F:=full_of hs
 cases n with
 |zero=>
  have:(fulls ts w 0).length<=1:=by
   show(([[]]:List (List Int)).filter (fullB ts w 0)).length<=1
   exact ybc _ _
  omega
 |succ n=>
  obtain⟨x,hx,_⟩:=F.max 0 (mem_rng.mpr ⟨by omega,by omega⟩) (by simp)
  cases hx
structure Fit(K:W.Frag)(H:Hp)(ts:List (Int×Int))(w:Bool)(n:Nat)(q:Addr×Addr×Addr×List Int):Prop where
 pr:SqT K H q.1 [.ref q.2.1,.ref q.2.2.1]
 so:SqT K H q.2.1 (q.2.2.2.map V.int)
 le:H q.2.2.1=some (.lst ((leftL ts w n q.2.2.2).map V.int))
theorem Fit.same{H H':Hp}{ts:List (Int×Int)}{w:Bool}{n:Nat}{q:Addr×Addr×Addr×List Int}(h:Fit K H ts w n q)(e:Same H H'):Fit K H' ts w n q:=⟨e.tup h.pr,e.tup h.so,e _ _ h.le⟩
noncomputable def FoundV(K:W.Frag)(H:Hp)(fd:Addr)(ts:List (Int×Int))(w:Bool)(n:Nat)(ss:List (List Int)):Prop:=∃its:List (Addr×Addr×Addr×List Int),H fd=some (.lst (its.map fun q=>V.ref q.1))/\(∀q∈its,Fit K H ts w n q)/\its.map (fun q=>q.2.2.2)=ss
noncomputable def spFullSets(K:W.Frag):Sp:=fun vs H Q _=>∃(fl:Addr) (fas:List Addr) (ts:List (Int×Int)) (w:Bool) (n:Nat),vs=[.ref fl]/\H fl=some (.lst (fas.map V.ref))/\fas.length=n/\n<=10/\(∀(i:Nat) f,fas[i]? =some f->H f=some (.lst ((friendL ts w n (i:Int)).map V.int)))/\
 ∀r ss H',Same H H'->SetsAt K H' r ss->SortedF ss ts w n->H r=none->Q (.ref r) H'
theorem sc_fullSets:FnScope ["friends","found","place","wider"] ["friends"] (defScope zcr):=⟨rfl,rfl,rfl,by decide+kernel,rfl,by decide+kernel,by decide+kernel⟩
theorem ok_fullSets{f f1:Addr}{fd d1:FuncData}(F:Fun K "full_sets" "full_sets" zcr f fd)(D1:Dfn K mg "in_both" s_in_both ["ones","others"] f1 d1)(G1:FnOk P w K mg base CX0 1 f1 d1 ["ones","others"] (spInBoth K))(m_list:mg "list"=none)(m_range:mg "range"=none)(m_len:mg "len"=none)(m_sorted:mg "sorted"=none):
  FnOk P w K mg base CX0 2 f fd ["friends"] (spFullSets K):=by
 refine F.ok sc_fullSets (fun vs H Q E h=> ?_) (fun cdv A outer s H vs Q E hr h=> ?_)
 ·obtain⟨fl,fas,ts,w,n,rfl,_⟩:=h
  rfl
 obtain⟨fl,fas,ts,w,n,rfl,hF,hn,h10,hfr,q⟩:=h
 refine⟨_,(zae (zan (i:=1) sc_fullSets.nd rfl (Or.inl rfl) (pe_lst (zaa (zbw (zaa (zbw zac) (zaa (pe_lstRange rfl rfl m_list rfl m_range (zaa (zam zbz rfl m_len PySem.boot_len (zaa (pv 0) zac)) zac)) zac))) zac))) (zae (ps_for PassesOwn.never rfl (zbp rfl m_range (zaa (zam zbz rfl m_len PySem.boot_len (zaa (pv 0) zac)) zac)) (zaj (i:=2) sc_fullSets.nd rfl (Or.inr rfl)) (zae (ps_setComp (i:=3) (own:=["some","left"]) (caps:=["place","friends"]) (ix:=[2,0]) sc_fullSets.nd rfl (Or.inl rfl) rfl (pi_listL (pv 1)) rfl rfl (.cons rfl rfl (.cons rfl rfl .nil)) (fun _ _ _ _ _=>(pg_tupK K (n:=2) rfl (zcm (zaj (i:=0) (show(["some","left","place","friends"]:List Str).Nodup from by decide+kernel) rfl (Or.inl rfl)) (zcm (zaj (i:=1) (show(["some","left","place","friends"]:List Str).Nodup from by decide+kernel) rfl (Or.inl rfl)) pgs_nil)))) (fun _ _ _ _ _=>pts_one (zas (op_inDK K hr.units) (pv 2) (pv 1) (by with_unfolding_all rfl))) (fun _ _ _ _ _=>(zbw (zaa (zax (op_catEK K) (pv 0) (zbw (zaa (pv 2) zac))) (zaa (zag G1 hr rfl D1.m D1.F.kp D1.b .nil pass0 (zaa (pv 1) (zaa (zay (ix_listK K) (pv 3) (pv 2) (fun _ _=>rfl)) zac))) zac))))) (zaf (zan (i:=1) sc_fullSets.nd rfl (Or.inl rfl) (zax op_cat (pv 1) (pv 3)))))) (zaf (zao (zam call_sortedE rfl m_sorted (by decide+kernel) (zaa (zbq (own:=["some","left"]) (caps:=[]) (ix:=[]) rfl (pi_listL (pv 1)) rfl rfl .nil (fun _ _ _ _ _=>(pg_tupK K (n:=2) rfl (zcm (zaj (i:=0) (show(["some","left"]:List Str).Nodup from by decide+kernel) rfl (Or.inl rfl)) (zcm (zaj (i:=1) (show(["some","left"]:List Str).Nodup from by decide+kernel) rfl (Or.inl rfl)) pgs_nil)))) (fun _ _ _ _ _=>pts_one (pt_not (pt_truthK K (pv 1) (fun _=>rfl)))) (fun _ _ _ _ _=>(pv 0))) zac)))))),?_⟩
 have el:((fas.map V.ref).length:Int)=(n:Int):=by rw[yaa,hn]
 refine⟨(by show 0<=sizeLine;decide),fun e1 he1=> ?_⟩
 have s1:=zad he1 (.tup [])
 have t1:SqT K (upd H e1 (.tup [])) e1 []:=SqT.of zab
 generalize (upd H e1 (.tup []))=H1 at *
 refine⟨_,rfl,fl,_,rfl,.inl (SqL.of (s1 _ _ hF)),fun _=>⟨_,rfl,by omega,by rw[el];omega,fun rl hrl=> ?_⟩⟩
 have er:tupR ((fas.map V.ref).length:Int).toNat=(rng n).map V.int:=by rw[el,ybg,tupR_rng]
 rw[er]
 have s2:=zad hrl (.lst ((rng n).map V.int))
 have t2:(upd H1 rl (.lst ((rng n).map V.int))) rl=some (.lst ((rng n).map V.int)):=zab
 generalize (upd H1 rl (.lst ((rng n).map V.int)))=H2 at *
 refine⟨(by show 2<=sizeLine;decide),fun e3 he3=> ?_⟩
 have s3:=zad he3 (.tup [.ref e1,.ref rl])
 have t3:SqT K (upd H2 e3 (.tup [.ref e1,.ref rl])) e3 [.ref e1,.ref rl]:=SqT.of zab
 generalize (upd H2 e3 (.tup [.ref e1,.ref rl]))=H3 at *
 refine⟨(by show 1<=sizeLine;decide),fun fd hfd=> ?_⟩
 have s4:=zad hfd (.lst [.ref e3])
 have F4:FoundV K (upd H3 fd (.lst [.ref e3])) fd ts w n (setsL ts w 0):=by
  refine⟨[(e3,e1,rl,[])],zab,fun q hq=> ?_,rfl⟩
  rw[yar.mp hq]
  exact⟨s4.tup t3,s4.tup (s3.tup (s2.tup t1)),by rw[left_nil];exact s4 _ _ (s3 _ _ t2)⟩
 have s04:=s1.trans (s2.trans (s3.trans s4))
 generalize (upd H3 fd (.lst [.ref e3]))=H4 at *
 refine⟨_,rfl,fl,_,rfl,.inl (SqL.of (s04 _ _ hF)),fun _=>⟨_,rfl,by omega,by rw[el];omega,?_⟩⟩
 have en:((fas.map V.ref).length:Int).toNat=n:=by rw[el,ybg]
 rw[en]
 refine zdi (n:=n) (fun k σ H'=>Same H H'/\∃fd b2 b3,FoundV K H' fd ts w n (setsL ts w k)/\σ=[some (.ref fl),some (.ref fd),b2,b3]) ⟨s04,fd,_,_,F4,rfl⟩ (fun k σ H' hk p=> ?_) (fun σ H' p=> ?_)
 ·obtain⟨s5,fd,b2,b3,F5,rfl⟩:=p
  have ek:(0+(k:Int))=(k:Int):=by omega
  rw[ek]
  obtain⟨its,f1,f2,f3⟩:=F5
  have hlen:its.length<=1024:=by
   have a:=sets_len (ts:=ts) (w:=w) k
   rw[<-f3,yaa]at a
   have b:2^k<=2^10:=Nat.pow_le_pow_right (by decide) (by omega)
   have c:2^10=1024:=by decide
   omega
  have hkf:k<fas.length:=by omega
  have hfk:(fas.map V.ref)[k]? =some (.ref fas[k]):=by rw[yae,yac hkf];rfl
  have hgk:=hfr k fas[k] (yac hkf)
  refine⟨_,rfl,fd,_,rfl,SqL.of f1,fun hzf=> ?_⟩
  refine comp_list (xs:=its.map fun q=>V.ref q.1) (fun i acc σ H''=>(∃its2:List (Addr×Addr×Addr×List Int),acc=its2.map (fun q=>V.ref q.1)/\(∀q∈its2,Fit K H'' ts w n q)/\its2.map (fun q=>q.2.2.2)=(((setsL ts w k).take i).filter fun s=>goB ts w s (k:Int)).map fun s=>s++[(k:Int)])/\Same H' H''/\∃o1 o2,σ=[o1,o2,some (.int (k:Int)),some (.ref fl)]) ⟨⟨[],rfl,fun q hq=>(nomatch hq),rfl⟩,Same.refl _,_,_,rfl⟩ (fun i acc σ H'' _ p=>p.2.1.seq (SqL.of f1)) (fun i acc σ H'' hi p=> ?_) hzf (fun i x acc σ H'' hx p=> ?_) (fun acc σ H'' p=> ?_)
  ·obtain⟨⟨its2,rfl,g2,g3⟩,_⟩:=p
   have a:=congrArg List.length g3
   rw[yaa,yaa]at a
   rw[yaa,a]
   exact yau (ybc _ _) (by rw[ybs];exact yda _ _)
  ·obtain⟨⟨its2,rfl,g2,g3⟩,sm,o1,o2,rfl⟩:=p
   rw[yae]at hx
   cases ex:its[i]? with
   |none=>rw[ex]at hx;cases hx
   |some v=>
    rw[ex]at hx
    cases hx
    have fv:=(f2 v (ybd ex)).same sm
    have hsv:(setsL ts w k)[i]? =some v.2.2.2:=by rw[<-f3,yae,ex];rfl
    obtain⟨hi,esv⟩:=yao.mp hsv
    have Sv:=sets_k k v.2.2.2 (ybd hsv)
    have e:=zcu (p:=fun s=>goB ts w s (k:Int)) hi
    rw[esv]at e
    refine⟨v.1,_,rfl,fv.pr,rfl,_,_,rfl,_,_,rfl,rfl,?_⟩
    refine⟨_,rfl,_,rfl,v.2.2.1,_,_,.int (k:Int),rfl,.inl (SqL.of fv.le),DVs.ints _,.int _,zbi _,rfl,(by show 0<=60;decide),_,rfl,?_⟩
    rw[any_ints,in_left Sv hk]
    refine ite2 (fun c=> ?_) (fun c=> ?_)
    ·refine⟨_,rfl,_,rfl,(by show 1<=sizeLine;decide),fun e5 he5=> ?_⟩
     have s6:=zad he5 (.tup [.int (k:Int)])
     have t6:SqT K (upd H'' e5 (.tup [.int (k:Int)])) e5 [.int (k:Int)]:=SqT.of zab
     generalize (upd H'' e5 (.tup [.int (k:Int)]))=H6 at *
     have hvl:v.2.2.2.length<=10:=by
      have a:=nodup_len (l:=v.2.2.2) (m:=rng n) (Sv.up.imp fun{x y} h=>by omega) (fun x hx=>mem_rng.mpr (by have:=Sv.lt x hx;omega))
      have b:(rng n).length=n:=by unfold rng;simp
      omega
     refine⟨v.2.1,e5,_,_,rfl,rfl,s6.tup fv.so,t6,(by rw[yaa,sizeLine_eq];show v.2.2.2.length+1<=_;omega),fun r7 H7 s7 h7=> ?_⟩
     have s67:=s6.trans s7
     refine⟨_,rfl,_,rfl,_,rfl,fl,_,_,.ref fas[k],rfl,rfl,SqL.of ((s5.trans (sm.trans s67)) _ _ hF),atI_nat hfk,v.2.2.1,fas[k],_,_,rfl,SqL.of (s67 _ _ fv.le),SqL.of ((s5.trans (sm.trans s67)) _ _ hgk),fun r8 H8 s8 h8 n8=> ?_⟩
     refine⟨(by show 2<=sizeLine;decide),fun e9 he9=> ?_⟩
     have s9:=zad he9 (.tup [.ref r7,.ref r8])
     have s69:=s67.trans (s8.trans s9)
     refine⟨⟨its2++[(e9,r7,r8,v.2.2.2++[(k:Int)])],by rw[yaf];rfl,fun q hq=> ?_,by rw[yaf,g3,e,if_pos c,yaf];rfl⟩,sm.trans s69,_,_,rfl⟩
     rcases yay.mp hq with z|z
     ·exact(g2 q z).same s69
     ·rw[yar.mp z]
      refine⟨SqT.of zab,s9.tup (s8.tup ?_),by rw[left_snoc];exact s9 _ _ h8⟩
      rw[yaf];exact h7
    ·exact⟨⟨its2,rfl,g2,by rw[g3,e,if_neg c,ybo]⟩,sm,_,_,rfl⟩
  ·intro p1 hp1
   obtain⟨⟨its2,rfl,g2,g3⟩,sm,o1,o2,rfl⟩:=p
   have hle:(its.map fun q=>V.ref q.1).length=(setsL ts w k).length:=by rw[yaa,<-f3,yaa]
   rw[hle,ybp]at g3
   have s6:=zad hp1 (.lst (its2.map fun q=>V.ref q.1))
   have l2:its2.length<=1024:=by
    have a:=congrArg List.length g3
    rw[yaa,yaa]at a
    have b:=ybc (fun s=>goB ts w s (k:Int)) (setsL ts w k)
    rw[<-f3,yaa]at b
    rw[<-f3]at a
    omega
   refine⟨_,rfl,_,rfl,fd,p1,_,_,rfl,rfl,(sm.trans s6) _ _ f1,zab,by rw[yaa,yaa,sizeLine_eq];omega,fun p2 hp2=> ?_⟩
   have s7:=zad hp2 (.lst ((its.map fun q=>V.ref q.1)++(its2.map fun q=>V.ref q.1)))
   refine⟨s5.trans (sm.trans (s6.trans s7)),p2,_,_,⟨its++its2,by rw[zab,yaf],fun q hq=> ?_,by rw[yaf,f3,g3];rfl⟩,rfl⟩
   rcases yay.mp hq with z|z
   ·exact(f2 q z).same (sm.trans (s6.trans s7))
   ·exact(g2 q z).same (s6.trans s7)
 ·obtain⟨s5,fd,b2,b3,⟨its,f1,f2,f3⟩,rfl⟩:=p
  refine⟨_,rfl,fd,_,rfl,SqL.of f1,fun hzf=> ?_⟩
  refine comp_list (xs:=its.map fun q=>V.ref q.1) (fun i acc σ H''=>(∃its2:List (Addr×List Int),acc=its2.map (fun q=>V.ref q.1)/\(∀q∈its2,SqT K H' q.1 (q.2.map V.int))/\its2.map (fun q=>q.2)=((setsL ts w n).take i).filter (fullB ts w n))/\Same H' H''/\∃o1 o2,σ=[o1,o2]) ⟨⟨[],rfl,fun q hq=>(nomatch hq),rfl⟩,Same.refl _,_,_,rfl⟩ (fun i acc σ H'' _ p=>p.2.1.seq (SqL.of f1)) (fun i acc σ H'' hi p=> ?_) hzf (fun i x acc σ H'' hx p=> ?_) (fun acc σ H'' p=> ?_)
  ·obtain⟨⟨its2,rfl,g2,g3⟩,_⟩:=p
   have a:=congrArg List.length g3
   rw[yaa]at a
   rw[yaa,a]
   exact yau (ybc _ _) (by rw[ybs];exact yda _ _)
  ·obtain⟨⟨its2,rfl,g2,g3⟩,sm,o1,o2,rfl⟩:=p
   rw[yae]at hx
   cases ex:its[i]? with
   |none=>rw[ex]at hx;cases hx
   |some v=>
    rw[ex]at hx
    cases hx
    have fv:=f2 v (ybd ex)
    have hsv:(setsL ts w n)[i]? =some v.2.2.2:=by rw[<-f3,yae,ex];rfl
    obtain⟨hi,esv⟩:=yao.mp hsv
    have e:=zcu (p:=fullB ts w n) hi
    rw[esv]at e
    refine⟨v.1,_,rfl,sm.tup fv.pr,rfl,_,_,rfl,_,_,rfl,rfl,?_⟩
    refine⟨_,rfl,_,.inl ⟨_,SqL.of (sm _ _ fv.le),rfl⟩,?_⟩
    have eb:(!!((leftL ts w n v.2.2.2).map V.int).isEmpty)=fullB ts w n v.2.2.2:=by
     rw[Bool.not_not,<-left_full]
     cases leftL ts w n v.2.2.2<;>rfl
    dsimp only
    rw[eb]
    refine ite2 (fun c=> ?_) (fun c=> ?_)
    ·refine⟨_,rfl,⟨its2++[(v.2.1,v.2.2.2)],by rw[yaf];rfl,fun q hq=> ?_,by rw[yaf,g3,e,if_pos c];rfl⟩,sm,_,_,rfl⟩
     rcases yay.mp hq with z|z
     ·exact g2 q z
     ·rw[yar.mp z];exact fv.so
    ·exact⟨⟨its2,rfl,g2,by rw[g3,e,if_neg c,ybo]⟩,sm,_,_,rfl⟩
  ·intro p1 hp1
   obtain⟨⟨its2,rfl,g2,g3⟩,sm,_⟩:=p
   have hle:(its.map fun q=>V.ref q.1).length=(setsL ts w n).length:=by rw[yaa,<-f3,yaa]
   rw[hle,ybp]at g3
   have g4:its2.map (fun q=>q.2)=fulls ts w n:=g3
   have hl2:its2.length=(fulls ts w n).length:=by rw[<-g4,yaa]
   have h36:=fulls_len (ts:=ts) (w:=w) h10
   have s6:=zad hp1 (.lst (its2.map fun q=>V.ref q.1))
   refine⟨p1,its2,rfl,SqL.of zab,fun p hp=>⟨(sm.trans s6).tup (g2 p hp),fun h2=> ?_⟩,by omega,fun l its' hl hpm hpw=> ?_⟩
   ·exact full_ne (ts:=ts) (w:=w) (n:=n) (by omega) p.2 (by rw[<-g4];exact ybk.mpr ⟨p,hp,rfl⟩)
   ·have s7:=zad hl (.lst (its'.map fun q=>V.ref q.1))
    have s57:=s5.trans (sm.trans (s6.trans s7))
    refine q l (its'.map fun q=>q.2) _ s57 ⟨its',zab,fun p hp=>(sm.trans (s6.trans s7)).tup (g2 p (hpm.mem_iff.mp hp)),rfl⟩ ⟨?_,?_⟩ ((s5.trans (sm.trans s6)).free hl)
    ·rw[<-g4];exact hpm.map _
    ·rw[ycw];exact hpw
noncomputable def spFullApart(K:W.Frag):Sp:=fun vs H Q _=>∃(a:Addr) (n:Int) (ts:List (Int×Int)),vs=[.ref a]/\WebIs K H a n ts/\∀r ss H',Same H H'->SetsAt K H' r ss->SortedF ss ts false n.toNat->H r=none->Q (.ref r) H'
theorem sc_fullApart:FnScope ["web"] ["web"] (defScope zcd):=⟨rfl,rfl,rfl,by decide+kernel,rfl,by decide+kernel,by decide+kernel⟩
theorem ok_fullApart{f f1 f2 f3:Addr}{fd d1 d2 d3:FuncData}(F:Fun K "full_apart" "full_apart" zcd f fd)(D1:Dfn K mg "need_web" zbb ["thing"] f1 d1)(G1:FnOk P w K mg base CX0 7 f1 d1 ["thing"] (spNeedWeb K))(D2:Dfn K mg "full_sets" zcr ["friends"] f2 d2)(G2':FnOk P w K mg base CX0 2 f2 d2 ["friends"] (spFullSets K))(D3:Dfn K mg "places_by_tie" zbd ["web","place","tied"] f3 d3)(G3':FnOk P w K mg base CX0 2 f3 d3 ["web","place","tied"] (spByTie K))(m_range:mg "range"=none):
  FnOk P w K mg base CX0 8 f fd ["web"] (spFullApart K):=by
 have G2:FnOk P w K mg base CX0 7 f2 d2 ["friends"] (spFullSets K):=G2'.mono (by decide)
 have G3:FnOk P w K mg base CX0 7 f3 d3 ["web","place","tied"] (spByTie K):=G3'.mono (by decide)
 refine F.ok sc_fullApart (fun vs H Q E h=> ?_) (fun cdv A outer s H vs Q E hr h=> ?_)
 ·obtain⟨a,n,ts,rfl,_⟩:=h
  rfl
 obtain⟨a,n,ts,rfl,hA,q⟩:=h
 refine⟨_,(zae (zbs (zag G1 hr rfl D1.m D1.F.kp D1.b .nil pass0 (zaa (pv 0) zac))) (zaf (zao (zag G2 hr rfl D2.m D2.F.kp D2.b .nil pass0 (zaa (zbq (own:=["place"]) (caps:=["web"]) (ix:=[0]) rfl (zbp rfl m_range (zaa (zay zcf (pv 0) zah (fun _ _=>rfl)) zac)) rfl rfl (.cons rfl rfl .nil) (fun _ _ _ _ _=>(zaj (i:=0) (show(["place","web"]:List Str).Nodup from by decide+kernel) rfl (Or.inl rfl))) (fun _ _ _ _ _=>zcl) (fun _ _ _ _ _=>(zag G3 hr rfl D3.m D3.F.kp D3.b .nil pass0 (zaa (pv 1) (zaa (pv 0) (zaa pe_bl zac)))))) zac))))),?_⟩
 have h0:=hA.h0
 have h10:=hA.h1
 refine⟨_,rfl,_,_,rfl,hA.web.dv.dx,hA.ok,fun H1 s1=> ?_⟩
 have hA1:=hA.same s1
 obtain⟨ta,ra,a1,a2,a3⟩:=id hA1.web
 refine⟨_,rfl,a,_,_,.int n,rfl,rfl,a1,rfl,n,rfl,by omega,by omega,?_⟩
 refine zck (n:=n.toNat) (fun k acc σ H'=>(∃fas:List Addr,acc=fas.map V.ref/\fas.length=k/\∀(i:Nat) f,fas[i]? =some f->H' f=some (.lst ((friendL ts false n.toNat (i:Int)).map V.int)))/\Same H1 H'/\∃o,σ=[o,some (.ref a)]) ⟨⟨[],rfl,rfl,fun i f h=>by simp at h⟩,Same.refl _,_,rfl⟩ (fun k acc σ H' hk p=> ?_) (by rw[sizeLine_eq];omega) (fun k acc σ H' hk p=> ?_) (fun acc σ H' p=> ?_)
 ·obtain⟨⟨fas,rfl,hl,_⟩,_⟩:=p
  rw[yaa];omega
 ·obtain⟨⟨fas,rfl,hl,hf⟩,sm,o,rfl⟩:=p
  have ek:(0+(k:Int))=(k:Int):=by omega
  rw[ek]
  refine⟨_,rfl,_,rfl,a,n,_,ts,false,rfl,hA1.same sm,fun r H5 s5 h5 n5=>⟨⟨fas++[r],by rw[yaf];rfl,by rw[yat,hl];rfl,fun i f hi=> ?_⟩,sm.trans s5,_,rfl⟩⟩
  by_cases c:i<fas.length
  ·rw[ydd c]at hi
   exact s5 _ _ (hf i f hi)
  ·have hb:i<(fas++[r]).length:=(yao.mp hi).1
   rw[yat]at hb
   have e:i=fas.length:=by have:[r].length=1:=rfl;omega
   rw[e,ycf (yab _),Nat.sub_self]at hi
   cases hi
   rw[e,hl];exact h5
 ·intro p1 hp1
  obtain⟨⟨fas,rfl,hl,hf⟩,sm,_⟩:=p
  have s6:=zad hp1 (.lst (fas.map V.ref))
  exact⟨p1,fas,ts,false,n.toNat,rfl,zab,hl,by omega,fun i f hi=>s6 _ _ (hf i f hi),fun r ss H7 s7 h7 h8 n7=>q r ss H7 (s1.trans (sm.trans (s6.trans s7))) h7 h8 ((s1.trans (sm.trans s6)).free n7)⟩
end
end Hs
namespace L2
open PySem PySem.Spec PyProof.Rows
theorem big_lt{n:Nat}(h:n<=10^200):n<2^700:=ybn h (by decide+kernel)
section
variable{X:Cx}
theorem op_fdivW:OpR X (binaryOp .FloorDiv) (rI (fun _ j=>0<j/\j.natAbs<=10^200) fun i j=> .int (i/j)):=opI fun i j _ _ _ _ _ hc q=>by
 have h1:(0:Int)<j:=hc.1
 refine floordiv_int (by omega) ?_ (Or.inl (PyProof.noPylong_of_log2 ?_))
 ·rw[ydv _ (by omega)]
  exact q
 ·have h3:j.natAbs≠0:=by omega
  have h4:=(Nat.log2_lt h3).mpr (big_lt hc.2)
  omega
end
end L2
namespace Hs
open PySem L2 HsD
theorem gcd_step(m n:Nat):Nat.gcd n (m %n)=Nat.gcd m n:=by
 rw[Nat.gcd_comm m n,Nat.gcd_rec n m,Nat.gcd_comm]
structure Low(a:Int)(b:Nat)(u:Int)(v:Nat):Prop where
 pos:0<v
 cop:Nat.gcd u.natAbs v=1
 eq:u*(b:Int)=a*(v:Int)
 lu:u.natAbs<=a.natAbs
 lv:v<=b
 nn:0<=a->0<=u
theorem low_mk(a:Int)(b:Nat)(hb:0<b):Low a b (a/((Nat.gcd a.natAbs b:Nat):Int)) (b/Nat.gcd a.natAbs b):=by
 have hg:0<Nat.gcd a.natAbs b:=Nat.gcd_pos_of_pos_right _ hb
 obtain⟨x,hx⟩:((Nat.gcd a.natAbs b:Nat):Int)∣a:=Int.natAbs_dvd_natAbs.mp (by rw[ydo];exact Nat.gcd_dvd_left _ _)
 obtain⟨y,hy⟩:=Nat.gcd_dvd_right a.natAbs b
 generalize hgg:Nat.gcd a.natAbs b=g at *
 have e1:a/(g:Int)=x:=by rw[hx];exact Int.mul_ediv_cancel_left _ (by omega)
 have e2:b/g=y:=by rw[hy];exact Nat.mul_div_cancel_left _ hg
 rw[e1,e2]
 have hna:a.natAbs=g*x.natAbs:=by rw[hx,yec];rfl
 have hy0:0<y:=by
  rcases Nat.eq_zero_or_pos y with h|h
  ·subst h;simp at hy;omega
  ·exact h
 refine⟨hy0,?_,?_,?_,?_,fun h=> ?_⟩
 ·have h2:Nat.gcd (g*x.natAbs) (g*y)=g:=by rw[<-hna,<-hy];exact hgg
  rw[Nat.gcd_mul_left]at h2
  have h3:g*Nat.gcd x.natAbs y=g*1:=by omega
  exact Nat.eq_of_mul_eq_mul_left hg h3
 ·rw[hx]
  have:(b:Int)=(g:Int)*(y:Int):=by rw[hy];exact Int.natCast_mul _ _
  rw[this,ycd (g:Int) x,Int.mul_assoc]
 ·rw[hna];exact Nat.le_mul_of_pos_left _ hg
 ·rw[hy];exact Nat.le_mul_of_pos_left _ hg
 ·rw[<-e1];exact Int.ediv_nonneg h (by omega)
theorem abs_eq(i:Int):(if i<0 then -i else i)=((i.natAbs:Nat):Int):=by split<;>omega
theorem gcd_le(a:Int)(b:Nat)(hb:0<b):Nat.gcd a.natAbs b<=b:=Nat.le_of_dvd hb (Nat.gcd_dvd_right _ _)
section
variable{P:Program}{w:World}{K:W.Frag}{mg:Str->Option Value}{base:Heap}
noncomputable def spGd(K:W.Frag):Sp:=fun vs H Q _=>∃(m n:Nat),vs=[.int m,.int n]/\Q (.int ((Nat.gcd m n:Nat):Int)) H
theorem sc_gd:FnScope ["one","other","rest"] ["one","other"] (defScope zat):=⟨rfl,rfl,rfl,by decide+kernel,rfl,by decide+kernel,by decide+kernel⟩
theorem ok_gd{f:Addr}{fd:FuncData}(F:Fun K "greatest_divisor" "greatest_divisor" zat f fd):FnOk P w K mg base CX0 1 f fd ["one","other"] (spGd K):=by
 refine F.ok sc_gd (fun vs H Q E h=> ?_) (fun cdv A outer s H vs Q E hr h=> ?_)
 ·obtain⟨m,n,rfl,_⟩:=h
  rfl
 obtain⟨m,n,rfl,q⟩:=h
 refine⟨_,zae (ps_while PassesOwn.never (pt_truth (pv 1) (fun _=>rfl)) (zae (zan (i:=2) sc_gd.nd rfl (Or.inl rfl) (zax op_mod (pv 0) (pv 1))) (zae (zan (i:=0) sc_gd.nd rfl (Or.inl rfl) (pv 1)) (zaf (zan (i:=1) sc_gd.nd rfl (Or.inl rfl) (pv 2)))))) (zaf (zao (pv 0))),?_⟩
 refine⟨fun k σ H'=>H'=H/\∃(m':Nat) (r:Option V),σ=[some (.int (m':Int)),some (.int (k:Int)),r]/\Nat.gcd m' k=Nat.gcd m n,⟨n,rfl,m,_,rfl,rfl⟩,?_⟩
 rintro k σ H' ⟨rfl,m',r,rfl,hg⟩
 refine⟨_,rfl,_,rfl,?_⟩
 refine ite2 (fun c=> ?_) (fun c=> ?_)
 ·have hk:0<k:=by
   rcases Nat.eq_zero_or_pos k with h|h
   ·subst h;exact absurd c (by decide)
   ·exact h
  refine⟨fun σ' H2=>H2=H'/\∃r',σ'=[some (.int (k:Int)),some (.int ((m' %k:Nat):Int)),r'],fun σ' H2 ⟨e1,r',e2⟩=>⟨m' %k,Nat.mod_lt _ hk,e1,k,r',e2,?_⟩,?_⟩
  ·rw[gcd_step];exact hg
  ·exact⟨_,rfl,_,rfl,_,_,rfl,rfl,Int.ofNat_lt.mpr hk,_,rfl,_,rfl,rfl,_,rfl⟩
 ·have hk:k=0:=by
   rcases Nat.eq_zero_or_pos k with h|h
   ·exact h
   ·exfalso;apply c;show((k:Int) !=0)=true;simp;omega
  subst hk
  rw[Nat.gcd_zero_right]at hg
  refine⟨_,rfl,?_⟩
  rw[hg];exact q
noncomputable def spLow(K:W.Frag):Sp:=fun vs H Q _=>∃(a:Int) (b:Nat),vs=[.int a,.int b]/\0<b/\b<=10^200/\∀p H' u v,Same H H'->H' p=some (.tup [.int u,.int ((v:Nat):Int)])->Low a b u v->Q (.ref p) H'
theorem sc_low:FnScope ["a","b","by"] ["a","b"] (defScope s_lowest):=⟨rfl,rfl,rfl,by decide+kernel,rfl,by decide+kernel,by decide+kernel⟩
theorem low_div{H:Hp}{a:Int}{b:Nat}{p:Addr}(hp:H p=none):(upd H p (.tup [.int (a/((Nat.gcd a.natAbs b:Nat):Int)),.int ((b:Int)/((Nat.gcd a.natAbs b:Nat):Int))])) p=some (.tup [.int (a/((Nat.gcd a.natAbs b:Nat):Int)),.int (((b/Nat.gcd a.natAbs b:Nat)):Int)]):=by
 rw[zab,Int.natCast_ediv]
theorem ok_low{f f1:Addr}{fd d1:FuncData}(F:Fun K "lowest" "lowest" s_lowest f fd)(D1:Dfn K mg "greatest_divisor" zat ["one","other"] f1 d1)(G1:FnOk P w K mg base CX0 1 f1 d1 ["one","other"] (spGd K))(mA:mg "abs"=none):
  FnOk P w K mg base CX0 2 f fd ["a","b"] (spLow K):=by
 refine F.ok sc_low (fun vs H Q E h=> ?_) (fun cdv A outer s H vs Q E hr h=> ?_)
 ·obtain⟨m,n,rfl,_⟩:=h
  rfl
 obtain⟨a,b,rfl,hb,hB,q⟩:=h
 refine⟨_,zae (zan (i:=2) sc_low.nd rfl (Or.inl rfl) (zag G1 hr rfl D1.m D1.F.kp D1.b .nil pass0 (zaa (zam call_abs rfl mA (by decide+kernel) (zaa (pv 0) zac)) (zaa (pv 1) zac)))) (zaf (zao (zbw (zaa (zax op_fdivW (pv 0) (pv 2)) (zaa (zax op_fdivW (pv 1) (pv 2)) zac))))),?_⟩
 refine⟨_,rfl,a,rfl,_,rfl,a.natAbs,b,?_,?_⟩
 ·rw[abs_eq];rfl
 have hg:0<Nat.gcd a.natAbs b:=Nat.gcd_pos_of_pos_right _ hb
 have hg2:(((Nat.gcd a.natAbs b:Nat):Int)).natAbs<=10^200:=yau (gcd_le a b hb) hB
 refine⟨_,rfl,_,rfl,_,_,rfl,rfl,⟨Int.ofNat_lt.mpr hg,hg2⟩,_,rfl,_,rfl,_,_,rfl,rfl,⟨Int.ofNat_lt.mpr hg,hg2⟩,(by show 2<=sizeLine;decide),fun p hp=> ?_⟩
 exact q p _ _ _ (zad hp _) (low_div hp) (low_mk a b hb)
noncomputable def rowL(n:Nat)(X:Nat->Int):List V:=((List.range (n+1)).map X).map V.int
noncomputable def nameL(n:Nat)(c:Nat->Nat):List Int:=(List.range n).map fun k=>((c k:Nat):Int)
noncomputable def flds(cl co ro:Addr)(o:Int):List (Str×V):=[("cells",.ref cl),("over",.int o),("columns",.ref co),("rows",.ref ro)]
structure TabA(K:W.Frag)(C:Addr)(H0 H:Hp)(o dx cl co ro:Addr)(rws:List Addr)(n m:Nat)(T:Sx.Tab):Prop where
 same:Same H0 H
 o0:H0 o=none
 cl0:H0 cl=none
 co0:H0 co=none
 ro0:H0 ro=none
 ne:co≠ro
 nc:co∉rws
 nr:ro∉rws
 at_:H o=some (.ins C dx (flds cl co ro T.over))
 cells:H cl=some (.lst (rws.map V.ref))
 len:rws.length=m+1
 row:∀r a,rws[r]? =some a->H a=some (.lst (rowL n (T.cell r)))
 cols:H co=some (.lst ((nameL n T.col).map V.int))
 rows:H ro=some (.lst ((nameL m T.row).map V.int))
noncomputable def TabV(K:W.Frag)(C:Addr)(H0 H:Hp)(o:Addr)(n m:Nat)(T:Sx.Tab):Prop:=∃dx cl co ro rws,TabA K C H0 H o dx cl co ro rws n m T
theorem TabA.sm{C:Addr}{H0 H H':Hp}{o dx cl co ro:Addr}{rws:List Addr}{n m:Nat}{T:Sx.Tab}(h:TabA K C H0 H o dx cl co ro rws n m T)(s:Same H H'):TabA K C H0 H' o dx cl co ro rws n m T:=
 ⟨h.same.trans s,h.o0,h.cl0,h.co0,h.ro0,h.ne,h.nc,h.nr,s _ _ h.at_,s _ _ h.cells,h.len,fun r a e=>s _ _ (h.row r a e),s _ _ h.cols,s _ _ h.rows⟩
theorem TabV.sm{C:Addr}{H0 H H':Hp}{o:Addr}{n m:Nat}{T:Sx.Tab}(h:TabV K C H0 H o n m T)(s:Same H H'):TabV K C H0 H' o n m T:=by
 obtain⟨dx,cl,co,ro,rws,h⟩:=h
 exact⟨dx,cl,co,ro,rws,h.sm s⟩
structure TG(n m:Nat)(S:Nat->Nat->Bool)(wt:Nat->Int)(T:Sx.Tab):Prop where
 good:Sx.Good n m S wt T
 n10:n<=10
 m40:m<=40
 wb:∀p,p<n->0<=wt p/\wt p<=99
 cov:∀p,p<n->∃k,k<m/\S k p=true
theorem TG.cell{n m:Nat}{S:Nat->Nat->Bool}{wt:Nat->Int}{T:Sx.Tab}(h:TG n m S wt T){r c:Nat}(hr:r<=m)(hc:c<=n): -4000000000<=T.cell r c/\T.cell r c<=4000000000:=by
 have a:=h.good.cell_abs h.wb hr hc
 have b:=Sx.fct_le (k:=n+1) (by have:=h.n10;omega)
 omega
theorem TG.over{n m:Nat}{S:Nat->Nat->Bool}{wt:Nat->Int}{T:Sx.Tab}(h:TG n m S wt T):0<T.over/\T.over<=39916800:=by
 have a:=h.good.over_le
 have b:=Sx.fct_le (k:=n+1) (by have:=h.n10;omega)
 exact⟨h.good.pos,by omega⟩
theorem zct(n:Nat)(X:Nat->Int):(rowL n X).length=n+1:=by unfold rowL;rw[yaa,yaa,ybe]
theorem rowL_at{n c:Nat}(X:Nat->Int)(h:c<=n):(rowL n X)[c]? =some (.int (X c)):=by
 unfold rowL;rw[yae,yae,ycz (by omega)];rfl
theorem rowL_ix{n c:Nat}(X:Nat->Int)(h:c<=n):atI (rowL n X) (c:Int)=some (.int (X c)):=atI_nat (rowL_at X h)
theorem atI_last{xs:List V}{v:V}(h:xs[xs.length-1]? =some v)(h0:0<xs.length):atI xs (-1)=some v:=by
 have e:ixN xs.length (-1)=some (xs.length-1):=by
  unfold ixN
  rw[if_neg (by decide),if_pos (by omega)]
  congr 1
  omega
 unfold atI
 rw[e]
 exact h
theorem rowL_last(n:Nat)(X:Nat->Int):atI (rowL n X) (-1)=some (.int (X n)):=atI_last (by rw[zct];exact rowL_at X (yab n)) (by rw[zct];omega)
theorem zby(n:Nat)(c:Nat->Nat):(nameL n c).length=n:=by unfold nameL;rw[yaa,ybe]
theorem zcn{n k:Nat}(c:Nat->Nat)(h:k<n):(nameL n c)[k]? =some ((c k:Nat):Int):=by
 unfold nameL;rw[yae,ycz h];rfl
theorem nameL_ix{n k:Nat}(c:Nat->Nat)(h:k<n):atI ((nameL n c).map V.int) (k:Int)=some (.int ((c k:Nat):Int)):=atI_nat (by rw[yae,zcn c h];rfl)
theorem nameL_set{n k:Nat}(c:Nat->Nat)(v:Nat)(h:k<n):(nameL n c).set k (v:Int)=nameL n (fun i=>if i=k then v else c i):=by
 refine ydu fun i=> ?_
 rw[List.getElem?_set]
 by_cases hi:i<n
 ·rw[zcn _ hi,zcn _ hi,zby]
  by_cases e:k=i
  ·rw[if_pos e,if_pos h,if_pos e.symm]
  ·rw[if_neg e,if_neg (Ne.symm e)]
 ·rw[ybv (by rw[zby];omega),ybv (by rw[zby];omega),if_neg (by omega)]
theorem TabA.rowR{C:Addr}{H0 H:Hp}{o dx cl co ro:Addr}{rws:List Addr}{n m:Nat}{T:Sx.Tab}(h:TabA K C H0 H o dx cl co ro rws n m T){r:Nat}(hr:r<=m):∃a,rws[r]? =some a/\atI (rws.map V.ref) (r:Int)=some (.ref a)/\H a=some (.lst (rowL n (T.cell r))):=by
 have hl:=h.len
 have e:rws[r]? =some rws[r]:=yac (by omega)
 exact⟨rws[r],e,atI_nat (by rw[yae,e];rfl),h.row r _ e⟩
theorem TabA.rowZ{C:Addr}{H0 H:Hp}{o dx cl co ro:Addr}{rws:List Addr}{n m:Nat}{T:Sx.Tab}(h:TabA K C H0 H o dx cl co ro rws n m T):∃a,rws[m]? =some a/\atI (rws.map V.ref) (-1)=some (.ref a)/\H a=some (.lst (rowL n (T.cell m))):=by
 obtain⟨a,e,_,f⟩:=h.rowR (yab m)
 exact⟨a,e,atI_last (by rw[yaa,h.len,yae,Nat.add_sub_cancel,e];rfl) (by rw[yaa,h.len];omega),f⟩
noncomputable def spTNc(K:W.Frag)(C:Addr):Sp:=fun vs H Q _=>∃(o:Addr) (H0:Hp) (n m:Nat) (S:Nat->Nat->Bool) (wt:Nat->Int) (T:Sx.Tab),vs=[.ref o]/\TabV K C H0 H o n m T/\TG n m S wt T/\
 ((∀c,c<n->0<=T.cell m c)->∀H',Same H H'->Q .non H')/\∀(q:Nat) H',q<n->T.cell m q<0->(∀c,c<n->T.cell m c<0->T.col q<=T.col c)->Same H H'->Q (.int (q:Int)) H'
theorem sc_tNc:FnScope ["self","worth","names"] ["self"] (defScope zap):=⟨rfl,rfl,rfl,by decide+kernel,rfl,by decide+kernel,by decide+kernel⟩
theorem ok_tNc{f C:Addr}{fd:FuncData}(F:Fun K "next_column" "Tableau.next_column" zap f fd)
  (Cc:Cls K C)(n_cells:NoAttr K C "cells")(n_over:NoAttr K C "over")(n_columns:NoAttr K C "columns")(n_rows:NoAttr K C "rows")(m_enumerate:mg "enumerate"=none)(m_min:mg "min"=none):
  FnOk P w K mg base CX0 1 f fd ["self"] (spTNc K C):=by
 refine F.ok sc_tNc (fun vs H Q E h=> ?_) (fun cdv A outer s H vs Q E hr h=> ?_)
 ·obtain⟨o,H0,n,m,S,wt,T,rfl,_⟩:=h
  rfl
 obtain⟨o,H0,n,m,S,wt,T,rfl,⟨dx,cl,co,ro,rws,hT⟩,hG,q1,q2⟩:=h
 refine⟨_,(zae (zan (i:=1) sc_tNc.nd rfl (Or.inr rfl) (zay zbf (zbx (pv 0) rfl) (pe_un un_neg zah) (fun _ _=>rfl))) (zae (ps_setComp (i:=2) (own:=["k","name"]) (caps:=["worth"]) (ix:=[1]) sc_tNc.nd rfl (Or.inl rfl) rfl (pi_enum rfl m_enumerate (zaa (zbx (pv 0) rfl) zac)) rfl rfl (.cons rfl rfl .nil) (fun _ _ _ _ _=>(pg_tupK K (n:=2) rfl (zcm (zaj (i:=0) (show(["k","name","worth"]:List Str).Nodup from by decide+kernel) rfl (Or.inl rfl)) (zcm (zaj (i:=1) (show(["k","name","worth"]:List Str).Nodup from by decide+kernel) rfl (Or.inl rfl)) pgs_nil)))) (fun _ _ _ _ _=>pts_one (zas op_lt (zay (ix_listK K) (pv 2) (pv 0) (fun _ _=>rfl)) zah (nomark _))) (fun _ _ _ _ _=>(pv 1))) (zaf (zao (pe_ifExp (pt_truth (pv 2) (fun _=>rfl)) (pe_bm PySem.F.plainAttrs_list PySem.F.slot_list_index PySem.F.type_list_index mt_indexI (zbx (pv 0) rfl) (zaa (zam (call_minL rfl) rfl m_min (by decide+kernel) (zaa (pv 2) zac)) zac)) pe_non))))),?_⟩
 obtain⟨za,ze,zi,zr⟩:=hT.rowZ
 refine⟨_,rfl,o,C,dx,_,_,rfl,hT.at_,Cc,n_cells,rfl,_,rfl,cl,_,_,_,rfl,rfl,SqL.of hT.cells,zi,?_⟩
 refine⟨_,rfl,o,C,dx,_,_,rfl,hT.at_,Cc,n_columns,rfl,false,co,_,rfl,SqL.of hT.cols,fun hz=> ?_⟩
 refine comp_enum (K:=K) (b:=false) (a:=co) (xs:=(nameL n T.col).map V.int) (fun i acc σ H'=>acc=(((List.range i).filter fun c=>decide (T.cell m c<0)).map fun c=>((T.col c:Nat):Int)).map V.int/\Same H H'/\∃o1 o2,σ=[o1,o2,some (.ref za)]) ⟨rfl,Same.refl _,_,_,rfl⟩ (fun i acc σ H' _ p=>p.2.1.seq (SqL.of hT.cols)) (fun i acc σ H' _ p=> ?_) hz (fun i v t acc σ H' hv p ht=> ?_) (fun acc σ H' p=> ?_)
 ·rw[p.1,yaa,yaa]
  exact yau (ybc _ _) (by rw[ybe];exact yab _)
 ·obtain⟨rfl,sm,o1,o2,rfl⟩:=p
  have hi:i<n:=by
   have:=(yao.mp hv).1
   rw[yaa,zby]at this
   exact this
  rw[yae,zcn _ hi]at hv
  cases hv
  have s1:=zad ht (.tup [.int (i:Int),.int ((T.col i:Nat):Int)])
  refine⟨t,_,rfl,SqT.of zab,rfl,_,_,rfl,_,_,rfl,rfl,?_⟩
  refine⟨_,rfl,_,rfl,za,_,_,_,rfl,rfl,SqL.of ((sm.trans s1) _ _ zr),rowL_ix _ (yan hi),_,_,rfl,rfl,_,rfl,?_⟩
  have go:((List.range (i+1)).filter fun c=>decide (T.cell m c<0))=((List.range i).filter fun c=>decide (T.cell m c<0))++(if decide (T.cell m i<0)=true then[i]else[]):=by
   rw[ybt,ycq]
   congr 1
   rw[yci]
   split<;>rfl
  refine ite2 (fun c=> ?_) (fun c=> ?_)
  ·exact⟨_,rfl,by rw[go,if_pos c,yaf,yaf];rfl,sm.trans s1,_,_,rfl⟩
  ·exact⟨by rw[go,if_neg c,ybo],sm.trans s1,_,_,rfl⟩
 ·intro p1 hp1
  obtain⟨rfl,sm,_⟩:=p
  rw[yaa,zby]
  have s1:=zad hp1 (.lst ((((List.range n).filter fun c=>decide (T.cell m c<0)).map fun c=>((T.col c:Nat):Int)).map V.int))
  have e1:(upd H' p1 (.lst ((((List.range n).filter fun c=>decide (T.cell m c<0)).map fun c=>((T.col c:Nat):Int)).map V.int))) p1=some (.lst ((((List.range n).filter fun c=>decide (T.cell m c<0)).map fun c=>((T.col c:Nat):Int)).map V.int)):=zab
  have s2:=sm.trans s1
  generalize (upd H' p1 (.lst ((((List.range n).filter fun c=>decide (T.cell m c<0)).map fun c=>((T.col c:Nat):Int)).map V.int)))=H1 at *
  have hT1:=hT.sm s2
  refine⟨_,rfl,_,.inl ⟨_,SqL.of e1,rfl⟩,?_⟩
  cases hl:(List.range n).filter fun c=>decide (T.cell m c<0)with
  |nil=>
   refine iteF ?_
   refine q1 (fun c hc=>Int.not_lt.mp fun hn=> ?_) _ s2
   have:c∈(List.range n).filter fun c=>decide (T.cell m c<0):=yav.mpr ⟨ybf.mpr hc,decide_eq_true hn⟩
   rw[hl]at this
   cases this
  |cons c0 rest=>
   rw[hl]at e1
   refine iteT ?_
   refine⟨_,rfl,o,C,dx,_,_,rfl,hT1.at_,Cc,n_columns,rfl,.inl ⟨rfl,_,SqL.of hT1.cols⟩,_,rfl,p1,_,rfl,SqL.of e1,(fun e=>nomatch e),fun mn hmn hle=> ?_⟩
   rw[<-hl]at hmn hle
   obtain⟨c,hc,rfl⟩:=ybk.mp hmn
   obtain⟨hc1,hc2⟩:=yav.mp hc
   have hcn:=ybf.mp hc1
   refine⟨co,nameL n T.col,_,c,rfl,rfl,hT1.cols,zcn _ hcn,fun i hi e=> ?_,by rw[zby];have:=hG.n10;omega,?_⟩
   ·rw[zcn _ (by omega)]at e
    have:T.col i=T.col c:=Int.ofNat.inj (Option.some.inj e)
    have:=hG.good.cinj i c (by omega) hcn this
    omega
   ·refine q2 c _ hcn (of_decide_eq_true hc2) (fun c' hc' hn=> ?_) s2
    have:=hle _ (ybk.mpr ⟨c',yav.mpr ⟨ybf.mpr hc',decide_eq_true hn⟩,rfl⟩)
    omega
noncomputable def tiB(n q:Nat)(T:Sx.Tab)(r t:Nat):Bool:=decide (T.cell r n*T.cell t q<T.cell t n*T.cell r q)||(decide (T.cell r n*T.cell t q=T.cell t n*T.cell r q)&&decide (T.row r<T.row t))
noncomputable def spTTi(K:W.Frag)(C:Addr):Sp:=fun vs H Q _=>∃(o:Addr) (H0:Hp) (n m q r t:Nat) (S:Nat->Nat->Bool) (wt:Nat->Int) (T:Sx.Tab),vs=[.ref o,.int (q:Int),.int (r:Int),.int (t:Int)]/\TabV K C H0 H o n m T/\TG n m S wt T/\q<n/\r<m/\t<m/\Q (.bl (tiB n q T r t)) H
theorem sc_tTi:FnScope ["self","column","row","other","one","two"] ["self","column","row","other"] (defScope zar):=⟨rfl,rfl,rfl,by decide+kernel,rfl,by decide+kernel,by decide+kernel⟩
theorem ok_tTi{f C:Addr}{fd:FuncData}(F:Fun K "is_tighter" "Tableau.is_tighter" zar f fd)
  (Cc:Cls K C)(n_cells:NoAttr K C "cells")(n_over:NoAttr K C "over")(n_columns:NoAttr K C "columns")(n_rows:NoAttr K C "rows"):
  FnOk P w K mg base CX0 1 f fd ["self","column","row","other"] (spTTi K C):=by
 refine F.ok sc_tTi (fun vs H Q E h=> ?_) (fun cdv A outer s H vs Q E hr h=> ?_)
 ·obtain⟨o,H0,n,m,q,r,t,S,wt,T,rfl,_⟩:=h
  rfl
 obtain⟨o,H0,n,m,q,r,t,S,wt,T,rfl,⟨dx,cl,co,ro,rws,hT⟩,hG,hq,hr0,ht,qq⟩:=h
 refine⟨_,(zae (zan (i:=4) sc_tTi.nd rfl (Or.inl rfl) (zax op_mul (zay zbf (zay zbf (zbx (pv 0) rfl) (pv 2) (fun _ _=>rfl)) (pe_un un_neg zah) (fun _ _=>rfl)) (zay zbf (zay zbf (zbx (pv 0) rfl) (pv 3) (fun _ _=>rfl)) (pv 1) (fun _ _=>rfl)))) (zae (zan (i:=5) sc_tTi.nd rfl (Or.inl rfl) (zax op_mul (zay zbf (zay zbf (zbx (pv 0) rfl) (pv 3) (fun _ _=>rfl)) (pe_un un_neg zah) (fun _ _=>rfl)) (zay zbf (zay zbf (zbx (pv 0) rfl) (pv 2) (fun _ _=>rfl)) (pv 1) (fun _ _=>rfl)))) (zaf (zao (pe_or (pe_cmpR op_lt (pv 4) (pv 5) (nomark _)) (pe_one (pe_and (pe_cmpR op_eq (pv 4) (pv 5) (nomark _)) (pe_one (pe_cmpR op_lt (zay zbf (zbx (pv 0) rfl) (pv 2) (fun _ _=>rfl)) (zay zbf (zbx (pv 0) rfl) (pv 3) (fun _ _=>rfl)) (nomark _)))))))))),?_⟩
 obtain⟨ra,re,ri,rr⟩:=hT.rowR (yan hr0)
 obtain⟨ta,te,ti,tr⟩:=hT.rowR (yan ht)
 have b1:=hG.cell (yan hr0) (yab n)
 have b2:=hG.cell (yan ht) (yab n)
 refine⟨_,rfl,o,C,dx,_,_,rfl,hT.at_,Cc,n_cells,rfl,_,rfl,cl,_,_,_,rfl,rfl,SqL.of hT.cells,ri,_,rfl,ra,_,_,_,rfl,rfl,SqL.of rr,rowL_last _ _,?_⟩
 refine⟨_,rfl,o,C,dx,_,_,rfl,hT.at_,Cc,n_cells,rfl,_,rfl,cl,_,_,_,rfl,rfl,SqL.of hT.cells,ti,_,rfl,ta,_,_,_,rfl,rfl,SqL.of tr,rowL_ix _ (yan hq),_,_,rfl,rfl,.inl ⟨by omega,by omega⟩,?_⟩
 refine⟨_,rfl,o,C,dx,_,_,rfl,hT.at_,Cc,n_cells,rfl,_,rfl,cl,_,_,_,rfl,rfl,SqL.of hT.cells,ti,_,rfl,ta,_,_,_,rfl,rfl,SqL.of tr,rowL_last _ _,?_⟩
 refine⟨_,rfl,o,C,dx,_,_,rfl,hT.at_,Cc,n_cells,rfl,_,rfl,cl,_,_,_,rfl,rfl,SqL.of hT.cells,ri,_,rfl,ra,_,_,_,rfl,rfl,SqL.of rr,rowL_ix _ (yan hq),_,_,rfl,rfl,.inl ⟨by omega,by omega⟩,?_⟩
 refine⟨_,rfl,_,rfl,_,_,rfl,rfl,_,rfl,?_⟩
 unfold tiB at qq
 refine ite2 (fun c=> ?_) (fun c=> ?_)
 ·rw[c,Bool.true_or]at qq;exact qq
 ·rw[eq_false_of_ne_true c,Bool.false_or]at qq
  refine⟨_,rfl,_,rfl,rfl,_,rfl,?_⟩
  refine ite2 (fun c2=> ?_) (fun c2=> ?_)
  ·have c2':decide (T.cell r n*T.cell t q=T.cell t n*T.cell r q)=true:=decide_eq_true (V.int.inj (of_decide_eq_true c2))
   rw[c2',Bool.true_and]at qq
   refine⟨_,rfl,o,C,dx,_,_,rfl,hT.at_,Cc,n_rows,rfl,_,rfl,ro,_,_,_,rfl,rfl,SqL.of hT.rows,nameL_ix _ hr0,?_⟩
   refine⟨_,rfl,o,C,dx,_,_,rfl,hT.at_,Cc,n_rows,rfl,_,rfl,ro,_,_,_,rfl,rfl,SqL.of hT.rows,nameL_ix _ ht,_,_,rfl,rfl,?_⟩
   rw[<-show decide (((T.row r:Nat):Int)<((T.row t:Nat):Int))=decide (T.row r<T.row t)from decide_eq_decide.mpr Int.ofNat_lt]at qq
   exact qq
  ·have c2':decide (T.cell r n*T.cell t q=T.cell t n*T.cell r q)=false:=decide_eq_false fun e=>c2 (decide_eq_true (congrArg V.int e))
   rw[c2',Bool.false_and]at qq
   exact qq
noncomputable def Lev(n q:Nat)(T:Sx.Tab)(p r:Nat):Prop:=T.cell p n*T.cell r q<T.cell r n*T.cell p q\/(T.cell p n*T.cell r q=T.cell r n*T.cell p q/\T.row p<=T.row r)
theorem lev_trans{n q:Nat}{T:Sx.Tab}{a b c:Nat}(ha:0<T.cell a q)(hb:0<T.cell b q)(hc:0<T.cell c q)(h1:Lev n q T a b)(h2:Lev n q T b c):Lev n q T a c:=by
 have cm:∀x y:Nat,T.cell x n*T.cell y q=T.cell y q*T.cell x n:=fun x y=>ycd _ _
 have cn:∀x y:Nat,T.cell y n*T.cell x q=T.cell x q*T.cell y n:=fun x y=>ycd _ _
 unfold Lev at *
 rw[cm a b,cn a b]at h1
 rw[cm b c,cn b c]at h2
 rw[cm a c,cn a c]
 rcases h1 with h1|⟨h1,l1⟩
 ·rcases h2 with h2|⟨h2,_⟩
  ·exact .inl (Sx.frac_lt hb ha hc (ycp h1) h2)
  ·exact .inl (Sx.frac_lt' hb ha hc h1 (yee h2))
 ·rcases h2 with h2|⟨h2,l2⟩
  ·exact .inl (Sx.frac_lt hb ha hc (yee h1) h2)
  ·exact .inr ⟨Int.le_antisymm (Sx.frac_le hb ha hc (yee h1) (yee h2)) (Sx.frac_le hb hc ha (by rw[<-h2];exact ycs _) (by rw[<-h1];exact ycs _)),yau l1 l2⟩
theorem ti_yes{n q:Nat}{T:Sx.Tab}{r t:Nat}(h:tiB n q T r t=true):Lev n q T r t:=by
 unfold tiB at h
 rw[Bool.or_eq_true,Bool.and_eq_true]at h
 rcases h with h|⟨h1,h2⟩
 ·exact .inl (of_decide_eq_true h)
 ·exact .inr ⟨of_decide_eq_true h1,yan (of_decide_eq_true h2)⟩
theorem ti_no{n q:Nat}{T:Sx.Tab}{r t:Nat}(h:tiB n q T r t=false):Lev n q T t r:=by
 unfold tiB at h
 rw[Bool.or_eq_false_iff,Bool.and_eq_false_iff]at h
 have h1:=of_decide_eq_false h.1
 by_cases c:T.cell r n*T.cell t q=T.cell t n*T.cell r q
 ·refine .inr ⟨c.symm,?_⟩
  rcases h.2 with z|z
  ·exact absurd c (of_decide_eq_false z)
  ·exact Nat.not_lt.mp (of_decide_eq_false z)
 ·exact .inl (by omega)
noncomputable def spTNr(K:W.Frag)(C:Addr):Sp:=fun vs H Q _=>∃(o:Addr) (H0:Hp) (n m q:Nat) (S:Nat->Nat->Bool) (wt:Nat->Int) (T:Sx.Tab),vs=[.ref o,.int (q:Int)]/\TabV K C H0 H o n m T/\TG n m S wt T/\q<n/\
 ∀p:Nat,p<m->0<T.cell p q->(∀r,r<m->0<T.cell r q->Lev n q T p r)->Q (.int (p:Int)) H
theorem sc_tNr:FnScope ["self","column","tightest","row"] ["self","column"] (defScope zaw):=⟨rfl,rfl,rfl,by decide+kernel,rfl,by decide+kernel,by decide+kernel⟩
theorem ok_tNr{f f1 C:Addr}{fd d1:FuncData}(F:Fun K "next_row" "Tableau.next_row" zaw f fd)
  (Cc:Cls K C)(n_cells:NoAttr K C "cells")(n_over:NoAttr K C "over")(n_columns:NoAttr K C "columns")(n_rows:NoAttr K C "rows")(D1:Mdf K C "is_tighter" "Tableau.is_tighter" zar ["self","column","row","other"] f1 d1)(G1:FnOk P w K mg base CX0 1 f1 d1 ["self","column","row","other"] (spTTi K C))(m_range:mg "range"=none)(m_len:mg "len"=none):
  FnOk P w K mg base CX0 2 f fd ["self","column"] (spTNr K C):=by
 refine F.ok sc_tNr (fun vs H Q E h=> ?_) (fun cdv A outer s H vs Q E hr h=> ?_)
 ·obtain⟨o,H0,n,m,q,S,wt,T,rfl,_⟩:=h
  rfl
 obtain⟨o,H0,n,m,q,S,wt,T,rfl,⟨dx,cl,co,ro,rws,hT⟩,hG,hq,qq⟩:=h
 refine⟨_,(zae (zan (i:=2) sc_tNr.nd rfl (Or.inl rfl) pe_non) (zae (ps_for PassesOwn.never rfl (zbp rfl m_range (zaa (zam zbz rfl m_len PySem.boot_len (zaa (zbx (pv 0) rfl) zac)) zac)) (zaj (i:=3) sc_tNr.nd rfl (Or.inl rfl)) (zaf (ps_if (PW.pt (pw_and (zas op_gt (zay zbf (zay zbf (zbx (pv 0) rfl) (pv 3) (fun _ _=>rfl)) (pv 1) (fun _ _=>rfl)) zah (nomark _)) (pw_and1 (PW.pt (pw_or (zas op_isN (pv 2) pe_non (nomark _)) (pw_or1 (pt_val (pe_meth (pv 0) Cc D1.m G1 hr D1.b .nil pass0 (zaa (pv 1) (zaa (pv 3) (zaa (pv 2) zac))))))))))) (zaf (zan (i:=2) sc_tNr.nd rfl (Or.inl rfl) (pv 3))) zbg))) (zaf (zao (pv 2))))),?_⟩
 refine⟨_,rfl,o,C,dx,_,_,rfl,hT.at_,Cc,n_rows,rfl,ro,_,rfl,.inl (SqL.of hT.rows),fun _=> ?_⟩
 rw[yaa,zby]
 refine⟨_,rfl,by have:=hG.m40;omega,by have:=hG.m40;omega,?_⟩
 refine zdi (n:=m) (fun i σ H'=>H'=H/\∃(x:V) (o3:Option V),σ=[some (.ref o),some (.int (q:Int)),some x,o3]/\((x= .non/\∀r,r<i->T.cell r q<=0)\/∃p:Nat,p<i/\x= .int (p:Int)/\0<T.cell p q/\∀r,r<i->0<T.cell r q->Lev n q T p r)) ⟨rfl,_,_,rfl,.inl ⟨rfl,fun r hr=>absurd hr (ycx r)⟩⟩ (fun i σ H' hi p=> ?_) (fun σ H' p=> ?_)
 ·obtain⟨rfl,x,o3,rfl,hx⟩:=p
  rw[Int.zero_add]
  obtain⟨ra,re,ri,rr⟩:=hT.rowR (yan hi)
  refine⟨_,rfl,o,C,dx,_,_,rfl,hT.at_,Cc,n_cells,rfl,_,rfl,cl,_,_,_,rfl,rfl,SqL.of hT.cells,ri,_,rfl,ra,_,_,_,rfl,rfl,SqL.of rr,rowL_ix _ (yan hq),_,_,rfl,rfl,_,rfl,?_⟩
  refine ite2 (fun c=> ?_) (fun c=> ?_)
  ·have c':0<T.cell i q:=of_decide_eq_true c
   rcases hx with⟨rfl,hx⟩|⟨p,hp,rfl,hp0,hlev⟩
   ·refine⟨_,rfl,rfl,_,rfl,?_⟩
    refine iteT ?_
    refine iteT ?_
    refine⟨_,rfl,rfl,_,_,rfl,.inr ⟨i,yba i,rfl,c',fun r hr h0=> ?_⟩⟩
    by_cases e:r=i
    ·subst e;exact .inr ⟨rfl,yab _⟩
    ·have:=hx r (by omega);omega
   ·refine⟨_,rfl,rfl,_,rfl,?_⟩
    refine iteF ?_
    refine⟨_,rfl,o,dx,_,rfl,hT.at_,rfl,_,rfl,_,rfl,_,rfl,o,H0,n,m,q,i,p,S,wt,T,rfl,⟨dx,cl,co,ro,rws,hT⟩,hG,hq,hi,by omega,_,rfl,?_⟩
    refine ite2 (fun z=> ?_) (fun z=> ?_)
    ·refine⟨_,rfl,rfl,_,_,rfl,.inr ⟨i,yba i,rfl,c',fun r hr h0=> ?_⟩⟩
     by_cases e:r=i
     ·subst e;exact .inr ⟨rfl,yab _⟩
     ·exact lev_trans c' hp0 h0 (ti_yes z) (hlev r (by omega) h0)
    ·refine⟨rfl,_,_,rfl,.inr ⟨p,by omega,rfl,hp0,fun r hr h0=> ?_⟩⟩
     by_cases e:r=i
     ·subst e;exact ti_no (eq_false_of_ne_true z)
     ·exact hlev r (by omega) h0
  ·refine iteF ?_
   have c':T.cell i q<=0:=Int.not_lt.mp fun h=>c (decide_eq_true h)
   refine⟨rfl,_,_,rfl,?_⟩
   rcases hx with⟨rfl,hx⟩|⟨p,hp,rfl,hp0,hlev⟩
   ·refine .inl ⟨rfl,fun r hr=> ?_⟩
    by_cases e:r=i
    ·subst e;exact c'
    ·exact hx r (by omega)
   ·refine .inr ⟨p,by omega,rfl,hp0,fun r hr h0=> ?_⟩
    by_cases e:r=i
    ·subst e;omega
    ·exact hlev r (by omega) h0
 ·obtain⟨rfl,x,o3,rfl,hx⟩:=p
  rcases hx with⟨rfl,hx⟩|⟨p,hp,rfl,hp0,hlev⟩
  ·obtain⟨r,hr0,h0⟩:=hG.good.bounded hG.cov hq
   have:=hx r hr0
   omega
  ·exact⟨_,rfl,qq p hp hp0 hlev⟩
noncomputable def tdF(ov:Int)(X Y:Nat->Int)(q c:Nat):Int:=if c=q then -X q else(X c*Y q-X q*Y c)/ov
theorem rowL_set{n q:Nat}(X:Nat->Int)(v:Int)(h:q<=n):(rowL n X).set q (.int v)=rowL n fun c=>if c=q then v else X c:=by
 refine ydu fun i=> ?_
 rw[List.getElem?_set]
 by_cases hi:i<=n
 ·rw[rowL_at _ hi,rowL_at _ hi,zct]
  by_cases e:q=i
  ·rw[if_pos e,if_pos (by omega),if_pos e.symm]
  ·rw[if_neg e,if_neg (Ne.symm e)]
 ·rw[ybv (by rw[zct];omega),ybv (by rw[zct];omega),if_neg (by omega)]
theorem rowL_congr{n:Nat}{X Y:Nat->Int}(h:∀c,c<=n->X c=Y c):rowL n X=rowL n Y:=by
 unfold rowL
 rw[ydm fun c hc=>h c (by have:=ybf.mp hc;omega)]
noncomputable def spTTd(K:W.Frag)(C:Addr):Sp:=fun vs H Q _=>∃(o xa ya:Addr) (H0:Hp) (n m q:Nat) (X Y:Nat->Int) (T:Sx.Tab),vs=[.ref o,.ref xa,.ref ya,.int (q:Int)]/\TabV K C H0 H o n m T/\n<=10/\(0<T.over/\T.over<=39916800)/\q<=n/\H xa=some (.lst (rowL n X))/\H ya=some (.lst (rowL n Y))/\
 (∀c,c<=n->(-4000000000<=X c/\X c<=4000000000)/\(-4000000000<=Y c/\Y c<=4000000000))/\∀r H',Same H H'->H r=none->H' r=some (.lst (rowL n (tdF T.over X Y q)))->Q (.ref r) H'
theorem sc_tTd:FnScope ["self","cells","pivots","column","by","fresh"] ["self","cells","pivots","column"] (defScope zba):=⟨rfl,rfl,rfl,by decide+kernel,rfl,by decide+kernel,by decide+kernel⟩
theorem ok_tTd{f C:Addr}{fd:FuncData}(F:Fun K "turned" "Tableau.turned" zba f fd)
  (Cc:Cls K C)(n_cells:NoAttr K C "cells")(n_over:NoAttr K C "over")(n_columns:NoAttr K C "columns")(n_rows:NoAttr K C "rows")(m_enumerate:mg "enumerate"=none):
  FnOk P w K mg base CX0 1 f fd ["self","cells","pivots","column"] (spTTd K C):=by
 refine F.ok sc_tTd (fun vs H Q E h=> ?_) (fun cdv A outer s H vs Q E hr h=> ?_)
 ·obtain⟨o,xa,ya,H0,n,m,q,X,Y,T,rfl,_⟩:=h
  rfl
 obtain⟨o,xa,ya,H0,n,m,q,X,Y,T,rfl,⟨dx,cl,co,ro,rws,hT⟩,hn,⟨ho0,ho1⟩,hq,hX,hY,hb,qq⟩:=h
 refine⟨_,(zae (zan (i:=4) sc_tTd.nd rfl (Or.inr rfl) (zay zbf (pv 2) (pv 3) (fun _ _=>rfl))) (zae (ps_setComp (i:=5) (own:=["k","cell"]) (caps:=["by","cells","column","pivots","self"]) (ix:=[4,1,3,2,0]) sc_tTd.nd rfl (Or.inl rfl) rfl (pi_enum rfl m_enumerate (zaa (pv 1) zac)) rfl rfl (.cons rfl rfl (.cons rfl rfl (.cons rfl rfl (.cons rfl rfl (.cons rfl rfl .nil))))) (fun _ _ _ _ _=>(pg_tupK K (n:=2) rfl (zcm (zaj (i:=0) (show(["k","cell","by","cells","column","pivots","self"]:List Str).Nodup from by decide+kernel) rfl (Or.inl rfl)) (zcm (zaj (i:=1) (show(["k","cell","by","cells","column","pivots","self"]:List Str).Nodup from by decide+kernel) rfl (Or.inl rfl)) pgs_nil)))) (fun _ _ _ _ _=>zcl) (fun _ _ _ _ _=>(zax op_fdivL (zax op_sub (zax op_mul (pv 1) (pv 2)) (zax op_mul (zay (ix_listK K) (pv 3) (pv 4) (fun _ _=>rfl)) (zay (ix_listK K) (pv 5) (pv 0) (fun _ _=>rfl)))) (pe_fldK K (pv 6) rfl)))) (zae (ps_asg (pe_un un_neg (zay zbf (pv 1) (pv 3) (fun _ _=>rfl))) (pg_sub (pv 5) (pv 3) set_list)) (zaf (zao (pv 5)))))),?_⟩
 refine⟨_,rfl,_,rfl,ya,_,_,_,rfl,rfl,SqL.of hY,rowL_ix _ hq,?_⟩
 refine⟨_,rfl,false,xa,_,rfl,SqL.of hX,fun hz=> ?_⟩
 refine comp_enum (K:=K) (b:=false) (a:=xa) (xs:=rowL n X) (fun i acc σ H'=>acc=((List.range i).map fun c=>(X c*Y q-X q*Y c)/T.over).map V.int/\Same H H'/\∃o1 o2,σ=[o1,o2,some (.int (Y q)),some (.ref xa),some (.int (q:Int)),some (.ref ya),some (.ref o)]) ⟨rfl,Same.refl _,_,_,rfl⟩ (fun i acc σ H' _ p=>p.2.1.seq (SqL.of hX)) (fun i acc σ H' _ p=> ?_) hz (fun i v t acc σ H' hv p ht=> ?_) (fun acc σ H' p=> ?_)
 ·rw[p.1,yaa,yaa,ybe];exact yab _
 ·obtain⟨rfl,sm,o1,o2,rfl⟩:=p
  have hi:i<=n:=by
   have:=(yao.mp hv).1
   rw[zct]at this
   omega
  rw[rowL_at _ hi]at hv
  cases hv
  have s1:=zad ht (.tup [.int (i:Int),.int (X i)])
  have s2:=sm.trans s1
  have bi:=(hb i hi).1
  have bq:=(hb q hq).1
  refine⟨t,_,rfl,SqT.of zab,rfl,_,_,rfl,_,_,rfl,rfl,?_⟩
  refine⟨_,rfl,_,rfl,_,_,rfl,rfl,.inl ⟨by omega,by omega⟩,?_⟩
  refine⟨_,rfl,_,rfl,xa,_,_,_,rfl,rfl,SqL.of (s2 _ _ hX),rowL_ix _ hq,_,rfl,_,rfl,ya,_,_,_,rfl,rfl,SqL.of (s2 _ _ hY),rowL_ix _ hi,_,_,rfl,rfl,.inl ⟨by omega,by omega⟩,_,_,rfl,rfl,?_⟩
  refine⟨_,rfl,o,C,dx,_,_,rfl,s2 _ _ hT.at_,Cc,n_over,rfl,_,_,rfl,rfl,⟨ho0,by omega⟩,?_⟩
  exact⟨by rw[ybt,yaf,yaf];rfl,s2,_,_,rfl⟩
 ·intro p1 hp1
  obtain⟨rfl,sm,_⟩:=p
  rw[zct]
  have s1:=zad hp1 (.lst (rowL n fun c=>(X c*Y q-X q*Y c)/T.over))
  have s2:=sm.trans s1
  have h0:H p1=none:=by
   cases e:H p1 with
   |none=>rfl
   |some u=>rw[sm _ _ e]at hp1;cases hp1
  refine⟨_,rfl,_,rfl,xa,_,_,_,rfl,rfl,SqL.of (s2 _ _ hX),rowL_ix _ hq,_,rfl,?_⟩
  refine⟨_,rfl,_,rfl,p1,_,_,q,rfl,rfl,zab,?_,?_⟩
  ·have e:ixN (rowL n fun c=>(X c*Y q-X q*Y c)/T.over).length (q:Int)=some q:=by
    rw[zct];unfold ixN
    rw[if_pos (by omega),if_pos (by omega)];rfl
   exact e
  ·refine⟨_,rfl,qq p1 _ (fun b u hb=> ?_) h0 ?_⟩
   ·have nb:b≠p1:=fun e=>by rw[e,h0]at hb;cases hb
    rw[zai nb]
    exact s2 _ _ hb
   ·rw[zab]
    have e:=rowL_set (fun c=>(X c*Y q-X q*Y c)/T.over) (-X q) hq
    exact congrArg (fun l=>some (HO.lst l)) e
theorem cutV_to{xs:List V}{k:Nat}(hk:k<=xs.length):cutV xs none (some (k:Int))=xs.take k:=by
 unfold cutV
 rw[HT.sIx_nat,HT.sIx_none,Nat.min_eq_left hk,List.drop_zero,Nat.sub_zero]
theorem cutV_from{xs:List V}{k:Nat}(hk:k<=xs.length):cutV xs (some (k:Int)) none=xs.drop k:=by
 unfold cutV
 rw[HT.sIx_nat,HT.sIx_none,Nat.min_eq_left hk,List.take_of_length_le (by rw[List.length_drop];omega)]
theorem _root_.L2.Same.updN{H0 H:Hp}{a:Addr}{u:HO}(s:Same H0 H)(h:H0 a=none):Same H0 (upd H a u):=fun b o hb=>by
 have nb:b≠a:=fun e=>by rw[e,h]at hb;cases hb
 rw[zai nb];exact s _ _ hb
theorem _root_.L2.Same.none{H0 H:Hp}{a:Addr}(s:Same H0 H)(h:H a=none):H0 a=none:=by
 cases e:H0 a with
 |none=>rfl
 |some u=>rw[s _ _ e]at h;cases h
section
variable{C:Addr}{H0 H:Hp}{o dx cl co ro:Addr}{rws:List Addr}{n m:Nat}{T:Sx.Tab}
theorem TabA.ocl(h:TabA K C H0 H o dx cl co ro rws n m T):o≠cl:=ne_of h.at_ h.cells fun e=>nomatch e
theorem TabA.oco(h:TabA K C H0 H o dx cl co ro rws n m T):o≠co:=ne_of h.at_ h.cols fun e=>nomatch e
theorem TabA.oro(h:TabA K C H0 H o dx cl co ro rws n m T):o≠ro:=ne_of h.at_ h.rows fun e=>nomatch e
theorem refs_ints{rws:List Addr}{xs:List Int}(h:0<rws.length)(e:rws.map V.ref=xs.map V.int):False:=by
 cases rws with
 |nil=>exact absurd h (ybj 0)
 |cons a r=>
  cases xs with
  |nil=>cases e
  |cons x xs=>injection e with e1 _;cases e1
theorem TabA.clco(h:TabA K C H0 H o dx cl co ro rws n m T):cl≠co:=fun e=>by
 have z:=h.cols
 rw[<-e,h.cells]at z
 exact refs_ints (by rw[h.len];omega) (HO.lst.inj (Option.some.inj z))
theorem TabA.clro(h:TabA K C H0 H o dx cl co ro rws n m T):cl≠ro:=fun e=>by
 have z:=h.rows
 rw[<-e,h.cells]at z
 exact refs_ints (by rw[h.len];omega) (HO.lst.inj (Option.some.inj z))
theorem TabA.clrow(h:TabA K C H0 H o dx cl co ro rws n m T){r:Nat}{a:Addr}(e:rws[r]? =some a):a≠cl:=fun z=>by
 have y:=h.row r a e
 rw[z,h.cells]at y
 exact refs_ints (by rw[h.len];omega) (HO.lst.inj (Option.some.inj y))
theorem TabA.orow(h:TabA K C H0 H o dx cl co ro rws n m T){r:Nat}{a:Addr}(e:rws[r]? =some a):a≠o:=fun z=>by
 have y:=h.row r a e
 rw[z,h.at_]at y
 cases y
theorem TabA.setCells(h:TabA K C H0 H o dx cl co ro rws n m T){cl':Addr}{rws':List Addr}{X:Nat->Nat->Int}(h0:H0 cl'=none)(hc:H cl'=some (.lst (rws'.map V.ref)))(hl:rws'.length=m+1)(hr:∀r a,rws'[r]? =some a->H a=some (.lst (rowL n (X r))))(n1:co∉rws')(n2:ro∉rws'):
  TabA K C H0 (upd H o (.ins C dx (putF "cells" (.ref cl') (flds cl co ro T.over)))) o dx cl' co ro rws' n m {T with cell:=X}:=by
 have k:∀b,b≠o->∀u,H b=some u->(upd H o (.ins C dx (putF "cells" (.ref cl') (flds cl co ro T.over)))) b=some u:=fun b hb u e=>by rw[zai hb];exact e
 refine⟨h.same.updN h.o0,h.o0,h0,h.co0,h.ro0,h.ne,n1,n2,zab,k _ (fun e=> ?_) _ hc,hl,fun r a e=>k _ (fun z=> ?_) _ (hr r a e),k _ h.oco.symm _ h.cols,k _ h.oro.symm _ h.rows⟩
 ·rw[e,h.at_]at hc;cases hc
 ·have y:=hr r a e
  rw[z,h.at_]at y
  cases y
theorem TabA.setRow(h:TabA K C H0 H o dx cl co ro rws n m T){p:Nat}{a:Addr}{X:Nat->Int}(hp:p<=m)(ha:H a=some (.lst (rowL n X)))(n1:co≠a)(n2:ro≠a):
  TabA K C H0 (upd H cl (.lst ((rws.map V.ref).set p (.ref a)))) o dx cl co ro (rws.set p a) n m {T with cell:=fun r c=>if r=p then X c else T.cell r c}:=by
 have k:∀b,b≠cl->∀u,H b=some u->(upd H cl (.lst ((rws.map V.ref).set p (.ref a)))) b=some u:=fun b hb u e=>by rw[zai hb];exact e
 have hac:a≠cl:=fun z=>by
  rw[z,h.cells]at ha
  exact refs_ints (by rw[h.len];omega) (HO.lst.inj (Option.some.inj ha))
 refine⟨h.same.updN h.cl0,h.o0,h.cl0,h.co0,h.ro0,h.ne,fun z=> ?_,fun z=> ?_,k _ h.ocl _ h.at_,by rw[zab,List.map_set],by rw[List.length_set];exact h.len,fun r b e=> ?_,k _ h.clco.symm _ h.cols,k _ h.clro.symm _ h.rows⟩
 ·rcases List.mem_or_eq_of_mem_set z with z|z
  ·exact h.nc z
  ·exact n1 z
 ·rcases List.mem_or_eq_of_mem_set z with z|z
  ·exact h.nr z
  ·exact n2 z
 ·rw[List.getElem?_set]at e
  by_cases c:p=r
  ·rw[if_pos c,if_pos (by rw[h.len];omega)]at e
   cases e
   rw[k _ hac _ ha]
   exact congrArg (fun l=>some (HO.lst l)) (rowL_congr fun c' _=>by show X c'=if r=p then X c' else T.cell r c';rw[if_pos c.symm])
  ·rw[if_neg c]at e
   rw[k _ (h.clrow e) _ (h.row r b e)]
   exact congrArg (fun l=>some (HO.lst l)) (rowL_congr fun c' _=>by show T.cell r c'=if r=p then X c' else T.cell r c';rw[if_neg (Ne.symm c)])
theorem TabA.setOver(h:TabA K C H0 H o dx cl co ro rws n m T)(v:Int):TabA K C H0 (upd H o (.ins C dx (putF "over" (.int v) (flds cl co ro T.over)))) o dx cl co ro rws n m {T with over:=v}:=by
 have k:∀b,b≠o->∀u,H b=some u->(upd H o (.ins C dx (putF "over" (.int v) (flds cl co ro T.over)))) b=some u:=fun b hb u e=>by rw[zai hb];exact e
 exact⟨h.same.updN h.o0,h.o0,h.cl0,h.co0,h.ro0,h.ne,h.nc,h.nr,zab,k _ h.ocl.symm _ h.cells,h.len,fun r a e=>k _ (h.orow e) _ (h.row r a e),k _ h.oco.symm _ h.cols,k _ h.oro.symm _ h.rows⟩
theorem TabA.setRows(h:TabA K C H0 H o dx cl co ro rws n m T){p:Nat}(v:Nat)(hp:p<m):TabA K C H0 (upd H ro (.lst (((nameL m T.row).map V.int).set p (.int (v:Int))))) o dx cl co ro rws n m {T with row:=fun r=>if r=p then v else T.row r}:=by
 have k:∀b,b≠ro->∀u,H b=some u->(upd H ro (.lst (((nameL m T.row).map V.int).set p (.int (v:Int))))) b=some u:=fun b hb u e=>by rw[zai hb];exact e
 refine⟨h.same.updN h.ro0,h.o0,h.cl0,h.co0,h.ro0,h.ne,h.nc,h.nr,k _ h.oro _ h.at_,k _ h.clro _ h.cells,h.len,fun r a e=>k _ (fun z=>h.nr (z▸ybd e)) _ (h.row r a e),k _ h.ne _ h.cols,?_⟩
 rw[zab,<-List.map_set,nameL_set _ _ hp]
theorem TabA.setCols(h:TabA K C H0 H o dx cl co ro rws n m T){q:Nat}(v:Nat)(hq:q<n):TabA K C H0 (upd H co (.lst (((nameL n T.col).map V.int).set q (.int (v:Int))))) o dx cl co ro rws n m {T with col:=fun c=>if c=q then v else T.col c}:=by
 have k:∀b,b≠co->∀u,H b=some u->(upd H co (.lst (((nameL n T.col).map V.int).set q (.int (v:Int))))) b=some u:=fun b hb u e=>by rw[zai hb];exact e
 refine⟨h.same.updN h.co0,h.o0,h.cl0,h.co0,h.ro0,h.ne,h.nc,h.nr,k _ h.oco _ h.at_,k _ h.clco _ h.cells,h.len,fun r a e=>k _ (fun z=>h.nc (z▸ybd e)) _ (h.row r a e),?_,k _ h.ne.symm _ h.rows⟩
 rw[zab,<-List.map_set,nameL_set _ _ hq]
end
theorem rowL_cut{n q:Nat}(X:Nat->Int)(v:Int)(h:q<=n):((rowL n X).take q++[.int v])++(rowL n X).drop (q+1)=rowL n fun c=>if c=q then v else X c:=by
 rw[<-rowL_set X v h,List.set_eq_take_append_cons_drop,if_pos (by rw[zct];omega),List.append_assoc]
 rfl
noncomputable def spTTu(K:W.Frag)(C:Addr):Sp:=fun vs H Q _=>∃(o:Addr) (H0:Hp) (n m p q:Nat) (S:Nat->Nat->Bool) (wt:Nat->Int) (T:Sx.Tab),vs=[.ref o,.int (p:Int),.int (q:Int)]/\TabV K C H0 H o n m T/\TG n m S wt T/\p<m/\q<n/\∀H',TabV K C H0 H' o n m (Sx.turn T p q)->Q .non H'
theorem sc_tTu:FnScope ["self","row","column","pivots","by","name"] ["self","row","column"] (defScope zbm):=⟨rfl,rfl,rfl,by decide+kernel,rfl,by decide+kernel,by decide+kernel⟩
theorem ok_tTu{f f1 C:Addr}{fd d1:FuncData}(F:Fun K "turn" "Tableau.turn" zbm f fd)
  (Cc:Cls K C)(n_cells:NoAttr K C "cells")(n_over:NoAttr K C "over")(n_columns:NoAttr K C "columns")(n_rows:NoAttr K C "rows")(D1:Mdf K C "turned" "Tableau.turned" zba ["self","cells","pivots","column"] f1 d1)(G1:FnOk P w K mg base CX0 1 f1 d1 ["self","cells","pivots","column"] (spTTd K C)):
  FnOk P w K mg base CX0 2 f fd ["self","row","column"] (spTTu K C):=by
 refine F.ok sc_tTu (fun vs H Q E h=> ?_) (fun cdv A outer s H vs Q E hr h=> ?_)
 ·obtain⟨o,H0,n,m,p,q,S,wt,T,rfl,_⟩:=h
  rfl
 obtain⟨o,H0,n,m,p,q,S,wt,T,rfl,⟨dx,cl,co,ro,rws,hT⟩,hG,hp,hq,qq⟩:=h
 refine⟨_,(zae (zan (i:=3) sc_tTu.nd rfl (Or.inr rfl) (zay zbf (zbx (pv 0) rfl) (pv 1) (fun _ _=>rfl))) (zae (zan (i:=4) sc_tTu.nd rfl (Or.inl rfl) (zay zbf (pv 3) (pv 2) (fun _ _=>rfl))) (zae (ps_fld (pv 0) (zbq (own:=["cells"]) (caps:=["self","pivots","column"]) (ix:=[0,3,2]) rfl (pi_listL (zbx (pv 0) rfl)) rfl rfl (.cons rfl rfl (.cons rfl rfl (.cons rfl rfl .nil))) (fun _ _ _ _ _=>(zaj (i:=0) (show(["cells","self","pivots","column"]:List Str).Nodup from by decide+kernel) rfl (Or.inl rfl))) (fun _ _ _ _ _=>zcl) (fun _ _ _ _ _=>(pe_meth (pv 1) Cc D1.m G1 hr D1.b .nil pass0 (zaa (pv 0) (zaa (pv 2) (zaa (pv 3) zac)))))) rfl) (zae (ps_asg (zax op_cat (zax op_cat (pe_slice sl_list (pv 3) po_none (po_some (pv 2))) (pe_lst (zaa (zbx (pv 0) rfl) zac))) (pe_slice sl_list (pv 3) (po_some (zax op_add (pv 2) zah)) po_none)) (pg_sub (zbx (pv 0) rfl) (pv 1) set_list)) (zae (ps_fld (pv 0) (pv 4) rfl) (zae (zan (i:=5) sc_tTu.nd rfl (Or.inl rfl) (zay zbf (zbx (pv 0) rfl) (pv 1) (fun _ _=>rfl))) (zae (ps_asg (zay zbf (zbx (pv 0) rfl) (pv 2) (fun _ _=>rfl)) (pg_sub (zbx (pv 0) rfl) (pv 1) set_list)) (zaf (ps_asg (pv 5) (pg_sub (zbx (pv 0) rfl) (pv 2) set_list)))))))))),?_⟩
 obtain⟨pa,pe,pi,pr⟩:=hT.rowR (yan hp)
 refine⟨_,rfl,o,C,dx,_,_,rfl,hT.at_,Cc,n_cells,rfl,_,rfl,cl,_,_,_,rfl,rfl,SqL.of hT.cells,pi,?_⟩
 refine⟨_,rfl,_,rfl,pa,_,_,_,rfl,rfl,SqL.of pr,rowL_ix _ (yan hq),?_⟩
 refine⟨_,rfl,o,C,dx,_,_,rfl,hT.at_,Cc,n_cells,rfl,cl,_,rfl,SqL.of hT.cells,fun hz=> ?_⟩
 refine comp_list (xs:=rws.map V.ref) (fun i acc σ H'=>∃as:List Addr,acc=as.map V.ref/\as.length=i/\Same H H'/\(∀r a,as[r]? =some a->H a=none/\H' a=some (.lst (rowL n (tdF T.over (T.cell r) (T.cell p) q))))/\∃o1,σ=[o1,some (.ref o),some (.ref pa),some (.int (q:Int))]) ⟨[],rfl,rfl,Same.refl _,fun r a e=>(nomatch e),_,rfl⟩ (fun i acc σ H' _ x=> ?_) (fun i acc σ H' _ x=> ?_) hz (fun i v acc σ H' hv x=> ?_) (fun acc σ H' x=> ?_)
 ·obtain⟨_,_,_,sm,_⟩:=x
  exact sm.seq (SqL.of hT.cells)
 ·obtain⟨as,rfl,hl,_⟩:=x
  rw[yaa,hl];exact yab _
 ·obtain⟨as,rfl,hl,sm,has,o1,rfl⟩:=x
  rw[yae]at hv
  cases er:rws[i]? with
  |none=>rw[er]at hv;cases hv
  |some ra=>
   rw[er]at hv
   cases hv
   have him:i<=m:=by have:=(yao.mp er).1;rw[hT.len]at this;omega
   refine⟨_,rfl,o,dx,_,rfl,sm _ _ hT.at_,rfl,_,rfl,_,rfl,_,rfl,o,ra,pa,H0,n,m,q,T.cell i,T.cell p,T,rfl,⟨dx,cl,co,ro,rws,hT.sm sm⟩,hG.n10,hG.over,yan hq,sm _ _ (hT.row i ra er),sm _ _ pr,fun c hc=>⟨hG.cell him hc,hG.cell (yan hp) hc⟩,fun r1 H1 s1 h1 e1=> ?_⟩
   refine⟨as++[r1],by rw[yaf];rfl,by rw[yat,hl];rfl,sm.trans s1,fun r a e=> ?_,_,rfl⟩
   rw[List.getElem?_append]at e
   by_cases c:r<as.length
   ·rw[if_pos c]at e
    exact⟨(has r a e).1,s1 _ _ (has r a e).2⟩
   ·rw[if_neg c]at e
    have er':r-as.length=0:=by
     have:=(yao.mp e).1
     have:r-as.length<1:=this
     omega
    rw[er']at e
    cases e
    have:r=i:=by omega
    subst this
    exact⟨sm.none h1,e1⟩
 ·intro p1 hp1
  obtain⟨as,rfl,hl,sm,has,_⟩:=x
  rw[yaa,hT.len]at hl
  have s1:=zad hp1 (.lst (as.map V.ref))
  have hT1:=hT.sm (sm.trans s1)
  have h10:H0 p1=none:=hT.same.none (sm.none hp1)
  have nas:∀b u,H b=some u->b∉as:=fun b u hb hm=>by
   obtain⟨r,hr1,rfl⟩:=ybw hm
   have:=(has r _ (yac hr1)).1
   rw[hb]at this;cases this
  have hT2:=hT1.setCells (cl':=p1) (rws':=as) (X:=fun r=>tdF T.over (T.cell r) (T.cell p) q) h10 zab hl (fun r a e=>s1 _ _ (has r a e).2) (nas _ _ hT.cols) (nas _ _ hT.rows)
  refine⟨_,rfl,o,C,dx,_,rfl,hT1.at_,Cc,n_cells,(by show 4<1000;decide),?_⟩
  have npo:pa≠o:=hT.orow pe
  have pr2:=(sm.trans s1) _ _ pr
  have pr3:(upd (upd H' p1 (.lst (as.map V.ref))) o (.ins C dx (putF "cells" (.ref p1) (flds cl co ro T.over)))) pa=some (.lst (rowL n (T.cell p))):=by rw[zai npo];exact pr2
  generalize (upd (upd H' p1 (.lst (as.map V.ref))) o (.ins C dx (putF "cells" (.ref p1) (flds cl co ro T.over))))=H2 at *
  -- the row of the turn
  refine⟨_,rfl,_,rfl,_,rfl,pa,_,rfl,SqL.of pr3,fun l1 hl1=> ?_⟩
  have t1:=zad hl1 (.lst (cutV (rowL n (T.cell p)) none (some (q:Int))))
  have f1:(upd H2 l1 (.lst (cutV (rowL n (T.cell p)) none (some (q:Int))))) l1=some (.lst (cutV (rowL n (T.cell p)) none (some (q:Int)))):=zab
  generalize (upd H2 l1 (.lst (cutV (rowL n (T.cell p)) none (some (q:Int)))))=H3 at *
  refine⟨_,rfl,o,C,dx,_,_,rfl,t1 _ _ hT2.at_,Cc,n_over,rfl,(by show 1<=sizeLine;decide),fun l2 hl2=> ?_⟩
  have t2:=zad hl2 (.lst [.int T.over])
  have f2:(upd H3 l2 (.lst [.int T.over])) l2=some (.lst [.int T.over]):=zab
  have f1':=t2 _ _ f1
  refine⟨l1,l2,_,_,rfl,rfl,f1',f2,?_,fun l3 hl3=> ?_⟩
  ·have:=cutV_length (rowL n (T.cell p)) none (some (q:Int))
   rw[zct]at this
   have:=hG.n10
   rw[sizeLine_eq];show _+1<=_;omega
  have t3:=zad hl3 (.lst (cutV (rowL n (T.cell p)) none (some (q:Int))++[.int T.over]))
  have f3:(upd (upd H3 l2 (.lst [.int T.over])) l3 (.lst (cutV (rowL n (T.cell p)) none (some (q:Int))++[.int T.over]))) l3=some (.lst (cutV (rowL n (T.cell p)) none (some (q:Int))++[.int T.over])):=zab
  have t13:=t1.trans (t2.trans t3)
  generalize (upd (upd H3 l2 (.lst [.int T.over])) l3 (.lst (cutV (rowL n (T.cell p)) none (some (q:Int))++[.int T.over])))=H5 at *
  refine⟨_,rfl,_,rfl,_,_,rfl,rfl,_,rfl,pa,_,rfl,SqL.of (t13 _ _ pr3),fun l4 hl4=> ?_⟩
  have t4:=zad hl4 (.lst (cutV (rowL n (T.cell p)) (some ((q:Int)+1)) none))
  refine⟨l3,l4,_,_,rfl,rfl,t4 _ _ f3,zab,?_,fun l5 hl5=> ?_⟩
  ·have a1:=cutV_length (rowL n (T.cell p)) none (some (q:Int))
   have a2:=cutV_length (rowL n (T.cell p)) (some ((q:Int)+1)) none
   rw[zct]at a1 a2
   have:=hG.n10
   rw[yat,sizeLine_eq];show _+1+_<=_;omega
  have t5:=zad hl5 (.lst ((cutV (rowL n (T.cell p)) none (some (q:Int))++[.int T.over])++cutV (rowL n (T.cell p)) (some ((q:Int)+1)) none))
  have erow:(cutV (rowL n (T.cell p)) none (some (q:Int))++[.int T.over])++cutV (rowL n (T.cell p)) (some ((q:Int)+1)) none=rowL n fun c=>if c=q then T.over else T.cell p c:=by
   rw[cutV_to (by rw[zct];omega),show(q:Int)+1=((q+1:Nat):Int)from by omega,cutV_from (by rw[zct];omega)]
   exact rowL_cut _ _ (yan hq)
  rw[erow]at t5⊢
  have hT3:=hT2.sm (t13.trans (t4.trans t5))
  have f5:(upd (upd H5 l4 (.lst (cutV (rowL n (T.cell p)) (some ((q:Int)+1)) none))) l5 (.lst (rowL n fun c=>if c=q then T.over else T.cell p c))) l5=some (.lst (rowL n fun c=>if c=q then T.over else T.cell p c)):=zab
  have g1:co≠l5:=zal ((t13.trans t4) _ _ hT2.cols) hl5
  have g2:ro≠l5:=zal ((t13.trans t4) _ _ hT2.rows) hl5
  generalize (upd (upd H5 l4 (.lst (cutV (rowL n (T.cell p)) (some ((q:Int)+1)) none))) l5 (.lst (rowL n fun c=>if c=q then T.over else T.cell p c)))=H6 at *
  have hT4:=hT3.setRow (p:=p) (yan hp) f5 g1 g2
  refine⟨_,rfl,o,C,dx,_,_,rfl,hT3.at_,Cc,n_cells,rfl,_,rfl,p1,_,_,p,rfl,rfl,hT3.cells,?_,?_⟩
  ·have e:ixN (as.map V.ref).length (p:Int)=some p:=by
    rw[yaa,hl];unfold ixN
    rw[if_pos (by omega),if_pos (by omega)];rfl
   exact e
  generalize (upd H6 p1 (.lst ((as.map V.ref).set p (.ref l5))))=H7 at *
  have hT5:=hT4.setOver (T.cell p q)
  refine⟨_,rfl,_,rfl,o,C,dx,_,rfl,hT4.at_,Cc,n_over,(by show 4<1000;decide),?_⟩
  generalize (upd H7 o (.ins C dx (putF "over" (.int (T.cell p q)) (flds p1 co ro T.over))))=H8 at *
  refine⟨_,rfl,o,C,dx,_,_,rfl,hT5.at_,Cc,n_rows,rfl,_,rfl,ro,_,_,_,rfl,rfl,SqL.of hT5.rows,nameL_ix _ hp,?_⟩
  refine⟨_,rfl,o,C,dx,_,_,rfl,hT5.at_,Cc,n_columns,rfl,_,rfl,co,_,_,_,rfl,rfl,SqL.of hT5.cols,nameL_ix _ hq,?_⟩
  have hT6:=hT5.setRows (p:=p) (T.col q) hp
  refine⟨_,rfl,o,C,dx,_,_,rfl,hT5.at_,Cc,n_rows,rfl,_,rfl,ro,_,_,p,rfl,rfl,hT5.rows,?_,?_⟩
  ·have e:ixN ((nameL m T.row).map V.int).length (p:Int)=some p:=by
    rw[yaa,zby];unfold ixN
    rw[if_pos (by omega),if_pos (by omega)];rfl
   exact e
  generalize (upd H8 ro (.lst (((nameL m T.row).map V.int).set p (.int ((T.col q:Nat):Int)))))=H9 at *
  have hT7:=hT6.setCols (q:=q) (T.row p) hq
  refine⟨_,rfl,_,rfl,o,C,dx,_,_,rfl,hT6.at_,Cc,n_columns,rfl,_,rfl,co,_,_,q,rfl,rfl,hT6.cols,?_,?_⟩
  ·have e:ixN ((nameL n T.col).map V.int).length (q:Int)=some q:=by
    rw[yaa,zby];unfold ixN
    rw[if_pos (by omega),if_pos (by omega)];rfl
   exact e
  refine qq _ ⟨dx,p1,co,ro,_,hT7.same,hT7.o0,hT7.cl0,hT7.co0,hT7.ro0,hT7.ne,hT7.nc,hT7.nr,hT7.at_,hT7.cells,hT7.len,fun r a e=> ?_,hT7.cols,hT7.rows⟩
  rw[hT7.row r a e]
  refine congrArg (fun l=>some (HO.lst l)) (rowL_congr fun c _=> ?_)
  show(if r=p then(if c=q then T.over else T.cell p c)else tdF T.over (T.cell r) (T.cell p) q c)=_
  rfl
end
section
variable{P:Program}{w:World}{K:W.Frag}{mg:Str->Option Value}{base:Heap}
theorem run_more{n m:Nat}{S:Nat->Nat->Bool}{wt:Nat->Int}{Ts:Nat->Sx.Tab}{ps qs:Nat->Nat}{L p q:Nat}(R:Sx.Run n m S wt Ts ps qs L)(s:Sx.Step n m (Ts L) p q):
  Sx.Run n m S wt (fun t=>if t<=L then Ts t else Sx.turn (Ts L) p q) (fun t=>if t<L then ps t else p) (fun t=>if t<L then qs t else q) (L+1):=by
 refine⟨by rw[if_pos (yas L)];exact R.first,fun t ht=> ?_,fun t ht=> ?_⟩
 ·by_cases c:t<L
  ·rw[if_pos (yan c),if_pos c,if_pos c];exact R.step t c
  ·have e:t=L:=by omega
   subst e
   rw[if_pos (yab t),if_neg c,if_neg c];exact s
 ·by_cases c:t<L
  ·rw[if_pos (show t+1<=L from c),if_pos (yan c),if_pos c,if_pos c];exact R.next t c
  ·have e:t=L:=by omega
   subst e
   rw[if_neg (by omega),if_pos (yab t),if_neg c,if_neg c]
structure Sta(n m:Nat)(S:Nat->Nat->Bool)(wt:Nat->Int):Prop where
 n10:n<=10
 m40:m<=40
 wb:∀p,p<n->0<=wt p/\wt p<=99
 cov:∀p,p<n->∃k,k<m/\S k p=true
theorem Sta.tg{n m:Nat}{S:Nat->Nat->Bool}{wt:Nat->Int}{T:Sx.Tab}(h:Sta n m S wt)(g:Sx.Good n m S wt T):TG n m S wt T:=⟨g,h.n10,h.m40,h.wb,h.cov⟩
noncomputable def NcV(n m:Nat)(T:Sx.Tab)(x:V):Prop:=(x= .non/\∀c,c<n->0<=T.cell m c)\/∃q:Nat,x= .int (q:Int)/\q<n/\T.cell m q<0/\∀c,c<n->T.cell m c<0->T.col q<=T.col c
noncomputable def SolW(K:W.Frag)(C o:Addr)(H0:Hp)(n m:Nat)(S:Nat->Nat->Bool)(wt:Nat->Int)(k:Nat)(σ:St)(H:Hp):Prop:=
 ∃(Ts:Nat->Sx.Tab) (ps qs:Nat->Nat) (L:Nat) (x:V),Sx.Run n m S wt Ts ps qs L/\L+k=2^(n+m)/\TabV K C H0 H o n m (Ts L)/\σ=[some (.ref o),some x]/\NcV n m (Ts L) x
noncomputable def spTSo(K:W.Frag)(C:Addr):Sp:=fun vs H Q _=>∃(o:Addr) (H0:Hp) (n m:Nat) (S:Nat->Nat->Bool) (wt:Nat->Int) (T:Sx.Tab),vs=[.ref o]/\TabV K C H0 H o n m T/\Sta n m S wt/\Sx.Good n m S wt T/\
 ∀T' H',TabV K C H0 H' o n m T'->Sx.Good n m S wt T'->(∀c,c<n->0<=T'.cell m c)->Q .non H'
theorem sc_tSo:FnScope ["self","column"] ["self"] (defScope zbe):=⟨rfl,rfl,rfl,by decide+kernel,rfl,by decide+kernel,by decide+kernel⟩
theorem ok_tSo{f f1 f2 f3 C:Addr}{fd d1 d2 d3:FuncData}(F:Fun K "solve" "Tableau.solve" zbe f fd)
  (Cc:Cls K C)(n_cells:NoAttr K C "cells")(n_over:NoAttr K C "over")(n_columns:NoAttr K C "columns")(n_rows:NoAttr K C "rows")(D1:Mdf K C "next_column" "Tableau.next_column" zap ["self"] f1 d1)(G1':FnOk P w K mg base CX0 1 f1 d1 ["self"] (spTNc K C))(D2:Mdf K C "turn" "Tableau.turn" zbm ["self","row","column"] f2 d2)(G2:FnOk P w K mg base CX0 2 f2 d2 ["self","row","column"] (spTTu K C))(D3:Mdf K C "next_row" "Tableau.next_row" zaw ["self","column"] f3 d3)(G3:FnOk P w K mg base CX0 2 f3 d3 ["self","column"] (spTNr K C)):
  FnOk P w K mg base CX0 3 f fd ["self"] (spTSo K C):=by
 have G1:FnOk P w K mg base CX0 2 f1 d1 ["self"] (spTNc K C):=G1'.mono (by decide)
 refine F.ok sc_tSo (fun vs H Q E h=> ?_) (fun cdv A outer s H vs Q E hr h=> ?_)
 ·obtain⟨o,H0,n,m,S,wt,T,rfl,_⟩:=h
  rfl
 obtain⟨o,H0,n,m,S,wt,T,rfl,hT,hS,hg,qq⟩:=h
 refine⟨_,(zae (zan (i:=1) sc_tSo.nd rfl (Or.inl rfl) (pe_meth0 (pv 0) Cc D1.m G1 hr D1.b .nil pass0)) (zaf (ps_while PassesOwn.never (zas op_notN (pv 1) pe_non (nomark _)) (zae (zbs (pe_meth (pv 0) Cc D2.m G2 hr D2.b .nil pass0 (zaa (pe_meth (pv 0) Cc D3.m G3 hr D3.b .nil pass0 (zaa (pv 1) zac)) (zaa (pv 1) zac)))) (zaf (zan (i:=1) sc_tSo.nd rfl (Or.inl rfl) (pe_meth0 (pv 0) Cc D1.m G1 hr D1.b .nil pass0))))))),?_⟩
 have key:∀(x:V) (H1:Hp),TabV K C H0 H1 o n m T->NcV n m T x->∃k,SolW K C o H0 n m S wt k [some (.ref o),some x] H1:=fun x H1 h1 h2=>
  ⟨2^(n+m),fun _=>T,fun _=>0,fun _=>0,0,x,⟨hg,fun t ht=>absurd ht (ycx t),fun t ht=>absurd ht (ycx t)⟩,Nat.zero_add _,h1,rfl,h2⟩
 obtain⟨dx,cl,co,ro,rws,hA0⟩:=id hT
 refine⟨_,rfl,o,dx,_,rfl,hA0.at_,rfl,o,H0,n,m,S,wt,T,rfl,hT,hS.tg hg,?a,?b⟩
 case' a=>
  intro h H1 s1
  have w0:=key _ _ (hT.sm s1) (.inl ⟨rfl,h⟩)
  refine⟨SolW K C o H0 n m S wt,w0,?_⟩
  clear w0 s1 h
 case' b=>
  intro q H1 hq hn he s1
  have w0:=key _ _ (hT.sm s1) (.inr ⟨q,rfl,hq,hn,he⟩)
  refine⟨SolW K C o H0 n m S wt,w0,?_⟩
  clear w0 s1 he hn hq q
 all_goals
  clear H1
  intro k σ H1 h
  obtain⟨Ts,ps,qs,L,x,R,hk,⟨dx',cl,co,ro,rws,hA⟩,rfl,hx⟩:=h
  have hgL:=R.good L (yab L)
  have hG:=hS.tg hgL
  have hsh:=R.short
  rcases hx with⟨rfl,hx⟩|⟨q,rfl,hq,hn,he⟩
  ·refine⟨_,rfl,rfl,_,rfl,?_⟩
   refine iteF ?_
   exact qq (Ts L) H1 ⟨dx',cl,co,ro,rws,hA⟩ hgL hx
  ·refine⟨_,rfl,rfl,_,rfl,?_⟩
   refine iteT ?_
   refine⟨SolW K C o H0 n m S wt (k-1),fun σ' H' z=>⟨k-1,by omega,z⟩,?_⟩
   refine⟨_,rfl,o,dx',_,rfl,hA.at_,rfl,_,rfl,o,dx',_,rfl,hA.at_,rfl,_,rfl,o,H0,n,m,q,S,wt,Ts L,rfl,⟨dx',cl,co,ro,rws,hA⟩,hG,hq,fun p hp h0 hlev=> ?_⟩
   have st:Sx.Step n m (Ts L) p q:=⟨hp,hq,hn,he,h0,hlev⟩
   refine⟨_,rfl,o,H0,n,m,p,q,S,wt,Ts L,rfl,⟨dx',cl,co,ro,rws,hA⟩,hG,hp,hq,fun H2 hT2=> ?_⟩
   have R2:=run_more R st
   have g2:=st.good hgL
   obtain⟨dx2,cl2,co2,ro2,rws2,hA2⟩:=id hT2
   have fin:∀(x:V) (H3:Hp),Same H2 H3->NcV n m (Sx.turn (Ts L) p q) x->SolW K C o H0 n m S wt (k-1) [some (.ref o),some x] H3:=fun x H3 s3 hx=>by
    refine⟨_,_,_,L+1,x,R2,by omega,?_,rfl,?_⟩
    ·rw[if_neg (by omega)];exact hT2.sm s3
    ·rw[if_neg (by omega)];exact hx
   exact⟨_,rfl,o,dx2,_,rfl,hA2.at_,rfl,o,H0,n,m,S,wt,_,rfl,hT2,hS.tg g2,fun h H3 s3=>fin _ H3 s3 (.inl ⟨rfl,h⟩),fun q' H3 hq' hn' he' s3=>fin _ H3 s3 (.inr ⟨q',rfl,hq',hn',he'⟩)⟩
noncomputable def IxAt(k:Nat)(i:Int)(r:Nat):Prop:=(i=(r:Int)/\r<=k)\/(i= -1/\r=k)
noncomputable def spTFa(K:W.Frag)(C:Addr):Sp:=fun vs H Q _=>∃(o:Addr) (H0:Hp) (n m r c:Nat) (i j:Int) (S:Nat->Nat->Bool) (wt:Nat->Int) (T:Sx.Tab),vs=[.ref o,.int i,.int j]/\TabV K C H0 H o n m T/\TG n m S wt T/\IxAt m i r/\IxAt n j c/\
 ∀p H' u v,Same H H'->H' p=some (.tup [.int u,.int ((v:Nat):Int)])->Low (T.cell r c) T.over.toNat u v->Q (.ref p) H'
theorem sc_tFa:FnScope ["self","row","column"] ["self","row","column"] (defScope zak):=⟨rfl,rfl,rfl,by decide+kernel,rfl,by decide+kernel,by decide+kernel⟩
theorem ok_tFa{f f1 C:Addr}{fd d1:FuncData}(F:Fun K "fraction_at" "Tableau.fraction_at" zak f fd)
  (Cc:Cls K C)(n_cells:NoAttr K C "cells")(n_over:NoAttr K C "over")(n_columns:NoAttr K C "columns")(n_rows:NoAttr K C "rows")(D1:Dfn K mg "lowest" s_lowest ["a","b"] f1 d1)(G1:FnOk P w K mg base CX0 2 f1 d1 ["a","b"] (spLow K)):
  FnOk P w K mg base CX0 3 f fd ["self","row","column"] (spTFa K C):=by
 refine F.ok sc_tFa (fun vs H Q E h=> ?_) (fun cdv A outer s H vs Q E hr h=> ?_)
 ·obtain⟨o,H0,n,m,r,c,i,j,S,wt,T,rfl,_⟩:=h
  rfl
 obtain⟨o,H0,n,m,r,c,i,j,S,wt,T,rfl,⟨dx,cl,co,ro,rws,hT⟩,hG,hi,hj,qq⟩:=h
 refine⟨_,(zaf (zao (zag G1 hr rfl D1.m D1.F.kp D1.b .nil pass0 (zaa (zay zbf (zay zbf (zbx (pv 0) rfl) (pv 1) (fun _ _=>rfl)) (pv 2) (fun _ _=>rfl)) (zaa (zbx (pv 0) rfl) zac))))),?_⟩
 have hri:∃a,atI (rws.map V.ref) i=some (.ref a)/\H a=some (.lst (rowL n (T.cell r))):=by
  rcases hi with⟨rfl,h⟩|⟨rfl,rfl⟩
  ·obtain⟨a,_,h1,h2⟩:=hT.rowR h
   exact⟨a,h1,h2⟩
  ·obtain⟨a,_,h1,h2⟩:=hT.rowZ
   exact⟨a,h1,h2⟩
 have hcj:atI (rowL n (T.cell r)) j=some (.int (T.cell r c)):=by
  rcases hj with⟨rfl,h⟩|⟨rfl,rfl⟩
  ·exact rowL_ix _ h
  ·exact rowL_last _ _
 obtain⟨a,h1,h2⟩:=hri
 have ho:=hG.over
 refine⟨_,rfl,o,C,dx,_,_,rfl,hT.at_,Cc,n_cells,rfl,_,rfl,cl,_,_,_,rfl,rfl,SqL.of hT.cells,h1,_,rfl,a,_,_,_,rfl,rfl,SqL.of h2,hcj,?_⟩
 refine⟨_,rfl,o,C,dx,_,_,rfl,hT.at_,Cc,n_over,rfl,T.cell r c,T.over.toNat,?_,by omega,yau (show T.over.toNat<=39916800 by omega) (by decide),fun p H' u v s e l=>qq p H' u v s e l⟩
 rw[show((T.over.toNat:Nat):Int)=T.over by omega];rfl
theorem low_none{u:Int}{v b:Nat}(hb:0<b)(h:Low 0 1 u v):Low 0 b u v:=by
 have e:=h.eq
 have hu:u=0:=by omega
 subst hu
 have c:=h.cop
 rw[show(0:Int).natAbs=0 from rfl,Nat.gcd_zero_left]at c
 subst c
 exact⟨by decide,rfl,by omega,yab _,hb,fun _=>ycs _⟩
noncomputable def spTPo(K:W.Frag)(C:Addr):Sp:=fun vs H Q _=>∃(o:Addr) (H0:Hp) (n m a:Nat) (S:Nat->Nat->Bool) (wt:Nat->Int) (T:Sx.Tab),vs=[.ref o,.int (a:Int)]/\TabV K C H0 H o n m T/\TG n m S wt T/\
 ∀p H' u v,Same H H'->H' p=some (.tup [.int u,.int ((v:Nat):Int)])->Low (Sx.Xs n m T a) T.over.toNat u v->Q (.ref p) H'
theorem sc_tPo:FnScope ["self","name"] ["self","name"] (defScope zav):=⟨rfl,rfl,rfl,by decide+kernel,rfl,by decide+kernel,by decide+kernel⟩
theorem ok_tPo{f f1 f2 C:Addr}{fd d1 d2:FuncData}(F:Fun K "price_of" "Tableau.price_of" zav f fd)
  (Cc:Cls K C)(n_cells:NoAttr K C "cells")(n_over:NoAttr K C "over")(n_columns:NoAttr K C "columns")(n_rows:NoAttr K C "rows")(D1:Dfn K mg "lowest" s_lowest ["a","b"] f1 d1)(G1':FnOk P w K mg base CX0 2 f1 d1 ["a","b"] (spLow K))(D2:Mdf K C "fraction_at" "Tableau.fraction_at" zak ["self","row","column"] f2 d2)(G2:FnOk P w K mg base CX0 3 f2 d2 ["self","row","column"] (spTFa K C)):
  FnOk P w K mg base CX0 4 f fd ["self","name"] (spTPo K C):=by
 have G1:FnOk P w K mg base CX0 3 f1 d1 ["a","b"] (spLow K):=G1'.mono (by decide)
 refine F.ok sc_tPo (fun vs H Q E h=> ?_) (fun cdv A outer s H vs Q E hr h=> ?_)
 ·obtain⟨o,H0,n,m,a,S,wt,T,rfl,_⟩:=h
  rfl
 obtain⟨o,H0,n,m,a,S,wt,T,rfl,⟨dx,cl,co,ro,rws,hT⟩,hG,qq⟩:=h
 refine⟨_,(zae (ps_if (zas (op_notInD hr.units) (pv 1) (zbx (pv 0) rfl) (by with_unfolding_all rfl)) (zaf (zao (zag G1 hr rfl D1.m D1.F.kp D1.b .nil pass0 (zaa zah (zaa zah zac))))) zbg) (zaf (zao (pe_meth (pv 0) Cc D2.m G2 hr D2.b .nil pass0 (zaa (pe_bm PySem.F.plainAttrs_list PySem.F.slot_list_index PySem.F.type_list_index mt_indexI (zbx (pv 0) rfl) (zaa (pv 1) zac)) (zaa (pe_un un_neg zah) zac)))))),?_⟩
 have ho:=hG.over
 refine⟨_,rfl,_,rfl,o,C,dx,_,_,rfl,hT.at_,Cc,n_rows,rfl,ro,_,_,.int (a:Int),rfl,.inl (SqL.of hT.rows),DVs.ints _,.int _,zbi _,rfl,(by show 0<=60;decide),_,rfl,?_⟩
 rw[any_ints]
 refine ite2 (fun c=> ?_) (fun c=> ?_)
 ·have c':((a:Nat):Int)∉nameL m T.row:=by
   intro hm
   rw[decide_eq_true hm]at c
   cases c
  refine⟨0,1,rfl,by decide,by decide,fun p H' u v s e l=>qq p H' u v s e ?_⟩
  rw[Sx.xs_no fun r hr z=>c' (by
   have:=zcn T.row hr
   rw[z]at this
   exact ybd this)]
  exact low_none (by omega) l
 ·have c':((a:Nat):Int)∈nameL m T.row:=by
   refine Classical.byContradiction fun hm=>c ?_
   rw[decide_eq_false hm];rfl
  obtain⟨r,hr1,er⟩:=ybw c'
  have hr0:r<m:=by rw[zby]at hr1;exact hr1
  have e0:=yac hr1
  rw[er]at e0
  have ea:T.row r=a:=by
   rw[zcn _ hr0]at e0
   exact Int.ofNat.inj (Option.some.inj e0)
  subst ea
  refine⟨_,rfl,o,dx,_,rfl,hT.at_,rfl,_,rfl,o,C,dx,_,_,rfl,hT.at_,Cc,n_rows,rfl,.inl ⟨rfl,_,SqL.of hT.rows⟩,_,rfl,ro,nameL m T.row,_,r,rfl,rfl,hT.rows,zcn _ hr0,fun i hi e=> ?_,by rw[zby];have:=hG.m40;omega,?_⟩
  ·rw[zcn _ (by omega)]at e
   have:=hG.good.rinj i r (by omega) hr0 (Int.ofNat.inj (Option.some.inj e))
   omega
  ·refine⟨_,rfl,o,H0,n,m,r,n,_,_,S,wt,T,rfl,⟨dx,cl,co,ro,rws,hT⟩,hG,.inl ⟨rfl,yan hr0⟩,.inr ⟨rfl,rfl⟩,fun p H' u v s e l=>qq p H' u v s e ?_⟩
   rw[hG.good.xs_at hr0]
   exact l
noncomputable def spTSh(K:W.Frag)(C:Addr):Sp:=fun vs H Q _=>∃(o:Addr) (H0:Hp) (n m a:Nat) (S:Nat->Nat->Bool) (wt:Nat->Int) (T:Sx.Tab),vs=[.ref o,.int (a:Int)]/\TabV K C H0 H o n m T/\TG n m S wt T/\
 ∀p H' u v,Same H H'->H' p=some (.tup [.int u,.int ((v:Nat):Int)])->Low (Sx.Ys n m T a) T.over.toNat u v->Q (.ref p) H'
theorem sc_tSh:FnScope ["self","name"] ["self","name"] (defScope zau):=⟨rfl,rfl,rfl,by decide+kernel,rfl,by decide+kernel,by decide+kernel⟩
theorem ok_tSh{f f1 f2 C:Addr}{fd d1 d2:FuncData}(F:Fun K "share_of" "Tableau.share_of" zau f fd)
  (Cc:Cls K C)(n_cells:NoAttr K C "cells")(n_over:NoAttr K C "over")(n_columns:NoAttr K C "columns")(n_rows:NoAttr K C "rows")(D1:Dfn K mg "lowest" s_lowest ["a","b"] f1 d1)(G1':FnOk P w K mg base CX0 2 f1 d1 ["a","b"] (spLow K))(D2:Mdf K C "fraction_at" "Tableau.fraction_at" zak ["self","row","column"] f2 d2)(G2:FnOk P w K mg base CX0 3 f2 d2 ["self","row","column"] (spTFa K C)):
  FnOk P w K mg base CX0 4 f fd ["self","name"] (spTSh K C):=by
 have G1:FnOk P w K mg base CX0 3 f1 d1 ["a","b"] (spLow K):=G1'.mono (by decide)
 refine F.ok sc_tSh (fun vs H Q E h=> ?_) (fun cdv A outer s H vs Q E hr h=> ?_)
 ·obtain⟨o,H0,n,m,a,S,wt,T,rfl,_⟩:=h
  rfl
 obtain⟨o,H0,n,m,a,S,wt,T,rfl,⟨dx,cl,co,ro,rws,hT⟩,hG,qq⟩:=h
 refine⟨_,(zae (ps_if (zas (op_notInD hr.units) (pv 1) (zbx (pv 0) rfl) (by with_unfolding_all rfl)) (zaf (zao (zag G1 hr rfl D1.m D1.F.kp D1.b .nil pass0 (zaa zah (zaa zah zac))))) zbg) (zaf (zao (pe_meth (pv 0) Cc D2.m G2 hr D2.b .nil pass0 (zaa (pe_un un_neg zah) (zaa (pe_bm PySem.F.plainAttrs_list PySem.F.slot_list_index PySem.F.type_list_index mt_indexI (zbx (pv 0) rfl) (zaa (pv 1) zac)) zac)))))),?_⟩
 have ho:=hG.over
 refine⟨_,rfl,_,rfl,o,C,dx,_,_,rfl,hT.at_,Cc,n_columns,rfl,co,_,_,.int (a:Int),rfl,.inl (SqL.of hT.cols),DVs.ints _,.int _,zbi _,rfl,(by show 0<=60;decide),_,rfl,?_⟩
 rw[any_ints]
 refine ite2 (fun c=> ?_) (fun c=> ?_)
 ·have c':((a:Nat):Int)∉nameL n T.col:=by
   intro hm
   rw[decide_eq_true hm]at c
   cases c
  refine⟨0,1,rfl,by decide,by decide,fun p H' u v s e l=>qq p H' u v s e ?_⟩
  rw[Sx.ys_no fun r hr z=>c' (by
   have:=zcn T.col hr
   rw[z]at this
   exact ybd this)]
  exact low_none (by omega) l
 ·have c':((a:Nat):Int)∈nameL n T.col:=by
   refine Classical.byContradiction fun hm=>c ?_
   rw[decide_eq_false hm];rfl
  obtain⟨r,hr1,er⟩:=ybw c'
  have hr0:r<n:=by rw[zby]at hr1;exact hr1
  have e0:=yac hr1
  rw[er]at e0
  have ea:T.col r=a:=by
   rw[zcn _ hr0]at e0
   exact Int.ofNat.inj (Option.some.inj e0)
  subst ea
  refine⟨_,rfl,o,dx,_,rfl,hT.at_,rfl,_,rfl,_,rfl,o,C,dx,_,_,rfl,hT.at_,Cc,n_columns,rfl,.inl ⟨rfl,_,SqL.of hT.cols⟩,_,rfl,co,nameL n T.col,_,r,rfl,rfl,hT.cols,zcn _ hr0,fun i hi e=> ?_,by rw[zby];have:=hG.n10;omega,?_⟩
  ·rw[zcn _ (by omega)]at e
   have:=hG.good.cinj i r (by omega) hr0 (Int.ofNat.inj (Option.some.inj e))
   omega
  ·refine⟨o,H0,n,m,m,r,_,_,S,wt,T,rfl,⟨dx,cl,co,ro,rws,hT⟩,hG,.inr ⟨rfl,rfl⟩,.inl ⟨rfl,yan hr0⟩,fun p H' u v s e l=>qq p H' u v s e ?_⟩
   rw[hG.good.ys_at hr0]
   exact l
noncomputable def setS(L:List (List Int))(k p:Nat):Bool:=decide (((p:Nat):Int)∈L.getD k [])
noncomputable def wtF(wl:List Int)(p:Nat):Int:=wl.getD p 0
theorem row_in{n m r:Nat}{L:List (List Int)}{wt:Nat->Int}(hr:r<m):((List.range n).map fun(p:Nat)=>if decide (((p:Nat):Int)∈L.getD r [])=true then(1:Int)else 0).map V.int++[.int 1]=rowL n ((Sx.start n m (setS L) wt).cell r):=by
 unfold rowL
 rw[ybt,yaf,yaf]
 congr 1
 ·refine congrArg _ (ydm fun c hc=> ?_)
  have hc':=ybf.mp hc
  show _=if r=m then _ else if c=n then(1:Int)else if setS L r c=true then 1 else 0
  rw[if_neg (show¬r=m by omega),if_neg (show¬c=n by omega)]
  rfl
 ·show[V.int 1]=[V.int (if r=m then _ else if n=n then(1:Int)else _)]
  rw[if_neg (by omega),if_pos rfl]
theorem row_out{m:Nat}{L:List (List Int)}{wl:List Int}:(wl.map fun x=> -x).map V.int++[.int 0]=rowL wl.length ((Sx.start wl.length m (setS L) (wtF wl)).cell m):=by
 unfold rowL
 rw[ybt,yaf,yaf]
 congr 1
 ·refine congrArg _ (ydu fun i=> ?_)
  rw[yae,yae]
  by_cases hi:i<wl.length
  ·rw[yac hi,ycz hi]
   show some (-wl[i])=some (if m=m then(if i=wl.length then(0:Int)else -(wl.getD i 0))else _)
   rw[if_pos rfl,if_neg (by omega),yag,yac hi]
   rfl
  ·rw[ybv (by omega),ybv (by rw[ybe];omega)];rfl
 ·show[V.int 0]=[V.int (if m=m then(if wl.length=wl.length then(0:Int)else _)else _)]
  rw[if_pos rfl,if_pos rfl]
theorem _root_.L2.SqT.updI{H:Hp}{a o C dx:Addr}{fs:List (Str×V)}{u:HO}{xs:List V}(hO:H o=some (.ins C dx fs))(h:SqT K H a xs):SqT K (upd H o u) a xs:=by
 rcases h with(h|⟨ob,h⟩)|h
 ·exact .inl (.inl (by rw[zai (ne_of h hO fun e=>nomatch e)];exact h))
 ·exact .inl (.inr ⟨ob,by rw[zai (ne_of h hO fun e=>nomatch e)];exact h⟩)
 ·exact .inr h
noncomputable def spTIni(K:W.Frag)(C:Addr):Sp:=fun vs H Q _=>∃(o dx sl wa:Addr) (H0:Hp) (its:List (Addr×List Int)) (wl:List Int),vs=[.ref o,.ref sl,.ref wa]/\H o=some (.ins C dx [])/\Same H0 H/\H0 o=none/\H sl=some (.lst (its.map fun p=>V.ref p.1))/\(∀p∈its,SqT K H p.1 (p.2.map V.int))/\SqT K H wa (wl.map V.int)/\wl.length<=10/\its.length<=40/\
 ∀H',TabV K C H0 H' o wl.length its.length (Sx.start wl.length its.length (setS (its.map (·.2))) (wtF wl))->Q .non H'
theorem sc_tIni:FnScope ["self","sets","wants","n"] ["self","sets","wants"] (defScope zbn):=⟨rfl,rfl,rfl,by decide+kernel,rfl,by decide+kernel,by decide+kernel⟩
theorem ok_tIni{f C:Addr}{fd:FuncData}(F:Fun K "__init__" "Tableau.__init__" zbn f fd)
  (Cc:Cls K C)(n_cells:NoAttr K C "cells")(n_over:NoAttr K C "over")(n_columns:NoAttr K C "columns")(n_rows:NoAttr K C "rows")(m_len:mg "len"=none)(m_range:mg "range"=none)(m_list:mg "list"=none):
  FnOk P w K mg base CX0 1 f fd ["self","sets","wants"] (spTIni K C):=by
 refine F.ok sc_tIni (fun vs H Q E h=> ?_) (fun cdv A outer s H vs Q E hr h=> ?_)
 ·obtain⟨o,dx,sl,wa,H0,its,wl,rfl,_⟩:=h
  rfl
 obtain⟨o,dx,sl,wa,H0,its,wl,rfl,hO,hS0,h0,hS,hP,hW,hn,hm,qq⟩:=h
 refine⟨_,(zae (zan (i:=3) sc_tIni.nd rfl (Or.inr rfl) (zam zbz rfl m_len PySem.boot_len (zaa (pv 2) zac))) (zae (ps_fld (pv 0) (pe_compC (own:=["some"]) (caps:=["n"]) (ix:=[3]) rfl (pi_listL (pv 1)) rfl rfl (.cons rfl rfl .nil) (fun _ _ _ _ _=>(zaj (i:=0) (show(["some","n"]:List Str).Nodup from by decide+kernel) rfl (Or.inr rfl))) (fun _ _ _ _ _=>zcl) (fun _ _ _ _ _=>(zax op_cat (zbq (own:=["place"]) (caps:=["some"]) (ix:=[0]) rfl (zbp rfl m_range (zaa (pv 1) zac)) rfl rfl (.cons rfl rfl .nil) (fun _ _ _ _ _=>(zaj (i:=0) (show(["place","some"]:List Str).Nodup from by decide+kernel) rfl (Or.inl rfl))) (fun _ _ _ _ _=>zcl) (fun _ _ _ _ _=>(pe_ifExp (zas (op_inDK K hr.units) (pv 0) (pv 1) (by with_unfolding_all rfl)) zah zah))) (pe_lst (zaa zah zac))))) rfl) (zae (zbs (pe_bm PySem.F.plainAttrs_list PySem.F.slot_list_append PySem.F.type_list_append mt_append (zbx (pv 0) rfl) (zaa (zax op_cat (zbq (own:=["want"]) (caps:=[]) (ix:=[]) rfl (pi_tupL (pv 2)) rfl rfl .nil (fun _ _ _ _ _=>(zaj (i:=0) (show(["want"]:List Str).Nodup from by decide+kernel) rfl (Or.inl rfl))) (fun _ _ _ _ _=>zcl) (fun _ _ _ _ _=>(pe_un un_neg (pv 0)))) (pe_lst (zaa zah zac))) zac))) (zae (ps_fld (pv 0) zah rfl) (zae (ps_fld (pv 0) (pe_lstRange rfl rfl m_list rfl m_range (zaa (pv 3) zac)) rfl) (zaf (ps_fld (pv 0) (pe_lstRange2 rfl rfl m_list rfl m_range (zaa (pv 3) (zaa (zax op_add (pv 3) (zam zbz rfl m_len PySem.boot_len (zaa (pv 1) zac))) zac))) rfl))))))),?_⟩
 refine⟨_,rfl,wa,_,rfl,.inr hW,fun _=> ?_⟩
 rw[yaa]
 refine⟨_,rfl,sl,_,rfl,SqL.of hS,fun hz=> ?_⟩
 refine comp_list (xs:=its.map fun p=>V.ref p.1) (fun i acc σ H'=>∃as:List Addr,acc=as.map V.ref/\as.length=i/\Same H H'/\(∀r a,as[r]? =some a->H' a=some (.lst (rowL wl.length ((Sx.start wl.length its.length (setS (its.map (·.2))) (wtF wl)).cell r))))/\∃o1,σ=[o1,some (.int (wl.length:Int))]) ⟨[],rfl,rfl,Same.refl _,fun r a e=>(nomatch e),_,rfl⟩ (fun i acc σ H' _ x=> ?_) (fun i acc σ H' _ x=> ?_) hz (fun i v acc σ H1 hv x=> ?_) (fun acc σ H1 x=> ?_)
 ·obtain⟨_,_,_,sm,_⟩:=x
  exact sm.seq (SqL.of hS)
 ·obtain⟨as,rfl,hl,_⟩:=x
  rw[yaa,hl];exact yab _
 ·obtain⟨as,rfl,hl,sm,has,o1,rfl⟩:=x
  rw[yae]at hv
  cases ev:its[i]? with
  |none=>rw[ev]at hv;cases hv
  |some it=>
   rw[ev]at hv
   cases hv
   have him:i<its.length:=(yao.mp ev).1
   have hit:=hP it (ybd ev)
   have eg:(its.map (·.2)).getD i []=it.2:=by rw[yag,yae,ev];rfl
   refine⟨_,rfl,_,rfl,by omega,by omega,?_⟩
   refine zck (n:=wl.length) (fun c acc σ H'=>acc=((List.range c).map fun(p:Nat)=>if decide (((p:Nat):Int)∈it.2)=true then(1:Int)else 0).map V.int/\H'=H1/\∃o2,σ=[o2,some (.ref it.1)]) ⟨rfl,rfl,_,rfl⟩ (fun c acc σ H' hc y=> ?_) (by rw[sizeLine_eq];omega) (fun c acc σ H' hc y=> ?_) (fun acc σ H' y=> ?_)
   ·rw[y.1,yaa,yaa,ybe];exact yab _
   ·obtain⟨rfl,rfl,o2,rfl⟩:=y
    refine⟨_,rfl,_,rfl,it.1,_,_,.int (0+(c:Int)),rfl,.inr (sm.tup hit),DVs.ints _,.int _,zbi _,rfl,(by show 0<=60;decide),_,rfl,?_⟩
    rw[any_ints,Int.zero_add]
    refine ite2 (fun z=> ?_) (fun z=> ?_)
    ·exact⟨by rw[ybt,yaf,yaf];show _=_++[V.int (if _ then _ else _)];rw[if_pos z],rfl,_,rfl⟩
    ·exact⟨by rw[ybt,yaf,yaf];show _=_++[V.int (if _ then _ else _)];rw[if_neg z],rfl,_,rfl⟩
   ·intro p1 hp1
    obtain⟨rfl,rfl,_⟩:=y
    have s1:=zad hp1 (.lst (((List.range wl.length).map fun(p:Nat)=>if decide (((p:Nat):Int)∈it.2)=true then(1:Int)else 0).map V.int))
    refine⟨(by show 1<=sizeLine;decide),fun p2 hp2=> ?_⟩
    have s2:=zad hp2 (.lst [.int 1])
    refine⟨p1,p2,_,_,rfl,rfl,s2 _ _ zab,zab,(by rw[yaa,yaa,ybe,sizeLine_eq];show _+1<=_;omega),fun p3 hp3=> ?_⟩
    have s3:=zad hp3 (.lst (((List.range wl.length).map fun(p:Nat)=>if decide (((p:Nat):Int)∈it.2)=true then(1:Int)else 0).map V.int++[.int 1]))
    have s13:=s1.trans (s2.trans s3)
    refine⟨as++[p3],by rw[yaf];rfl,by rw[yat,hl];rfl,sm.trans s13,fun r a e=> ?_,_,rfl⟩
    rw[List.getElem?_append]at e
    by_cases c:r<as.length
    ·rw[if_pos c]at e
     exact s13 _ _ (has r a e)
    ·rw[if_neg c]at e
     have er':r-as.length=0:=by
      have:=(yao.mp e).1
      have:r-as.length<1:=this
      omega
     rw[er']at e
     cases e
     have:r=i:=by omega
     subst this
     rw[zab,<-row_in (wt:=wtF wl) him,eg]
 ·intro p1 hp1
  obtain⟨as,rfl,hl,sm,has,_⟩:=x
  rw[yaa]at hl
  have s1:=zad hp1 (.lst (as.map V.ref))
  have hO1:=(sm.trans s1) _ _ hO
  refine⟨_,rfl,o,C,dx,_,rfl,hO1,Cc,n_cells,(by show 0<1000;decide),?_⟩
  -- what lies beside the object
  have np:p1≠o:=(zal (sm _ _ hO) hp1).symm
  have h10:H p1=none:=sm.none hp1
  have as_ne:∀r a,as[r]? =some a->a≠o/\a≠p1:=fun r a e=>⟨fun z=>(by have y:=has r a e;rw[z,sm _ _ hO]at y;cases y),fun z=>(by have y:=has r a e;rw[z,hp1]at y;cases y)⟩
  have W2:SqT K (upd (upd H1 p1 (.lst (as.map V.ref))) o (.ins C dx (putF "cells" (.ref p1) []))) wa (wl.map V.int):=((sm.trans s1).tup hW).updI hO1
  have S2:(upd (upd H1 p1 (.lst (as.map V.ref))) o (.ins C dx (putF "cells" (.ref p1) []))) sl=some (.lst (its.map fun p=>V.ref p.1)):=by
   rw[zai (ne_of ((sm.trans s1) _ _ hS) hO1 fun e=>nomatch e)];exact(sm.trans s1) _ _ hS
  have A2:∀r a,as[r]? =some a->(upd (upd H1 p1 (.lst (as.map V.ref))) o (.ins C dx (putF "cells" (.ref p1) []))) a=some (.lst (rowL wl.length ((Sx.start wl.length its.length (setS (its.map (·.2))) (wtF wl)).cell r))):=fun r a e=>by
   rw[zai (as_ne r a e).1];exact s1 _ _ (has r a e)
  have P2:(upd (upd H1 p1 (.lst (as.map V.ref))) o (.ins C dx (putF "cells" (.ref p1) []))) p1=some (.lst (as.map V.ref)):=by rw[zai np,zab]
  have O2:(upd (upd H1 p1 (.lst (as.map V.ref))) o (.ins C dx (putF "cells" (.ref p1) []))) o=some (.ins C dx [("cells",.ref p1)]):=zab
  have Z2:Same H0 (upd (upd H1 p1 (.lst (as.map V.ref))) o (.ins C dx (putF "cells" (.ref p1) []))):=Same.updN (hS0.trans (sm.trans s1)) h0
  generalize (upd (upd H1 p1 (.lst (as.map V.ref))) o (.ins C dx (putF "cells" (.ref p1) [])))=H2 at *
  refine⟨_,rfl,o,C,dx,_,_,rfl,O2,Cc,n_cells,rfl,.inl ⟨rfl,_,SqL.of P2⟩,_,rfl,wa,_,rfl,W2,fun hz2=> ?_⟩
  refine zdj (xs:=wl.map V.int) (fun i acc σ H'=>acc=((wl.take i).map fun x=> -x).map V.int/\H'=H2/\∃o2,σ=[o2]) ⟨rfl,rfl,_,rfl⟩ (fun i acc σ H' _ y=>by rw[y.2.1];exact W2) (fun i acc σ H' _ y=> ?_) hz2 (fun i v acc σ H' hv y=> ?_) (fun acc σ H' y=> ?_)
  ·rw[y.1,yaa,yaa,ybs];exact yda _ _
  ·obtain⟨rfl,rfl,o2,rfl⟩:=y
   rw[yae]at hv
   cases ev:wl[i]? with
   |none=>rw[ev]at hv;cases hv
   |some x=>
    rw[ev]at hv
    cases hv
    exact⟨_,rfl,_,rfl,by rw[yce,ev,yaf,yaf];rfl,rfl,_,rfl⟩
  intro p2 hp2
  obtain⟨rfl,rfl,_⟩:=y
  rw[yaa,ybp]
  have s2:=zad hp2 (.lst ((wl.map fun x=> -x).map V.int))
  refine⟨(by show 1<=sizeLine;decide),fun p3 hp3=> ?_⟩
  have s3:=zad hp3 (.lst [.int 0])
  refine⟨p2,p3,_,_,rfl,rfl,s3 _ _ zab,zab,(by rw[yaa,yaa,sizeLine_eq];show _+1<=_;omega),fun p4 hp4=> ?_⟩
  have s4:=zad hp4 (.lst ((wl.map fun x=> -x).map V.int++[.int 0]))
  have s24:=s2.trans (s3.trans s4)
  rw[row_out (m:=its.length) (L:=its.map (·.2))]at s24 s4⊢
  have e4:(upd (upd (upd H' p2 (.lst ((wl.map fun x=> -x).map V.int))) p3 (.lst [.int 0])) p4 (.lst (rowL wl.length ((Sx.start wl.length its.length (setS (its.map (·.2))) (wtF wl)).cell its.length)))) p4=some (.lst (rowL wl.length ((Sx.start wl.length its.length (setS (its.map (·.2))) (wtF wl)).cell its.length))):=zab
  have n4:p4≠p1:=(zal (s3 _ _ (s2 _ _ P2)) hp4).symm
  have n4o:p4≠o:=(zal (s3 _ _ (s2 _ _ O2)) hp4).symm
  have P3:=s24 _ _ P2
  have O3:=s24 _ _ O2
  have S3:=s24 _ _ S2
  have Z3:=Z2.trans s24
  have A3:∀r a,as[r]? =some a->_:=fun r a e=>s24 _ _ (A2 r a e)
  generalize (upd (upd (upd H' p2 (.lst ((wl.map fun x=> -x).map V.int))) p3 (.lst [.int 0])) p4 (.lst (rowL wl.length ((Sx.start wl.length its.length (setS (its.map (·.2))) (wtF wl)).cell its.length))))=H3 at *
  refine⟨p1,_,_,rfl,rfl,P3,(by rw[yaa,sizeLine_eq];omega),?_⟩
  -- all rows
  have h1n:H0 p1=none:=hS0.none h10
  have nos:o≠p1:=np.symm
  have nsl:sl≠p1:=(zal hS h10)
  have C4:(upd H3 p1 (.lst (as.map V.ref++[.ref p4]))) p1=some (.lst ((as++[p4]).map V.ref)):=by rw[zab,yaf];rfl
  have O4:(upd H3 p1 (.lst (as.map V.ref++[.ref p4]))) o=some (.ins C dx [("cells",.ref p1)]):=by rw[zai nos];exact O3
  have S4:(upd H3 p1 (.lst (as.map V.ref++[.ref p4]))) sl=some (.lst (its.map fun p=>V.ref p.1)):=by rw[zai nsl];exact S3
  have Z4:Same H0 (upd H3 p1 (.lst (as.map V.ref++[.ref p4]))):=Same.updN Z3 h1n
  have R4:∀r a,(as++[p4])[r]? =some a->(upd H3 p1 (.lst (as.map V.ref++[.ref p4]))) a=some (.lst (rowL wl.length ((Sx.start wl.length its.length (setS (its.map (·.2))) (wtF wl)).cell r)))/\a≠o:=fun r a e=>by
   rw[List.getElem?_append]at e
   by_cases c:r<as.length
   ·rw[if_pos c]at e
    refine⟨?_,(as_ne r a e).1⟩
    rw[zai (as_ne r a e).2];exact A3 r a e
   ·rw[if_neg c]at e
    have er':r-as.length=0:=by
     have:=(yao.mp e).1
     have:r-as.length<1:=this
     omega
    rw[er']at e
    cases e
    have:r=its.length:=by omega
    subst this
    refine⟨?_,n4o⟩
    rw[zai n4];exact e4
  generalize (upd H3 p1 (.lst (as.map V.ref++[.ref p4])))=H4 at *
  refine⟨_,rfl,o,C,dx,_,rfl,O4,Cc,n_over,(by show 1<1000;decide),?_⟩
  have O5:(upd H4 o (.ins C dx (putF "over" (.int 1) [("cells",.ref p1)]))) o=some (.ins C dx [("cells",.ref p1),("over",.int 1)]):=zab
  have k5:∀b u,b≠o->H4 b=some u->(upd H4 o (.ins C dx (putF "over" (.int 1) [("cells",.ref p1)]))) b=some u:=fun b u hb e=>by rw[zai hb];exact e
  have nso:sl≠o:=ne_of S4 O4 fun e=>nomatch e
  have C5:=k5 _ _ np C4
  have S5:=k5 _ _ nso S4
  have Z5:Same H0 (upd H4 o (.ins C dx (putF "over" (.int 1) [("cells",.ref p1)]))):=Same.updN Z4 h0
  have R5:∀r a,(as++[p4])[r]? =some a->_:=fun r a e=>k5 _ _ (R4 r a e).2 (R4 r a e).1
  generalize (upd H4 o (.ins C dx (putF "over" (.int 1) [("cells",.ref p1)])))=H5 at *
  refine⟨_,rfl,(wl.length:Int),rfl,by omega,by omega,fun co hco=> ?_⟩
  have s6:=zad hco (.lst (tupR (wl.length:Int).toNat))
  have O6:=s6 _ _ O5
  refine⟨_,rfl,o,C,dx,_,rfl,O6,Cc,n_columns,(by show 2<1000;decide),?_⟩
  have nco:co≠o:=(zal O5 hco).symm
  have k7:∀b u,b≠o->(upd H5 co (.lst (tupR (wl.length:Int).toNat))) b=some u->(upd (upd H5 co (.lst (tupR (wl.length:Int).toNat))) o (.ins C dx (putF "columns" (.ref co) [("cells",.ref p1),("over",.int 1)]))) b=some u:=fun b u hb e=>by rw[zai hb];exact e
  have O7:(upd (upd H5 co (.lst (tupR (wl.length:Int).toNat))) o (.ins C dx (putF "columns" (.ref co) [("cells",.ref p1),("over",.int 1)]))) o=some (.ins C dx [("cells",.ref p1),("over",.int 1),("columns",.ref co)]):=zab
  have C7:=k7 _ _ np (s6 _ _ C5)
  have S7:=k7 _ _ nso (s6 _ _ S5)
  have L7:=k7 _ _ nco zab
  have R7:∀r a,(as++[p4])[r]? =some a->_:=fun r a e=>k7 _ _ (R4 r a e).2 (s6 _ _ (R5 r a e))
  have Z7:Same H0 (upd (upd H5 co (.lst (tupR (wl.length:Int).toNat))) o (.ins C dx (putF "columns" (.ref co) [("cells",.ref p1),("over",.int 1)]))):=Same.updN (Z5.trans s6) h0
  have c0:H0 co=none:=Z5.none hco
  have ncr:co∉as++[p4]:=fun hm=>by
   obtain⟨r,hr1,e⟩:=ybw hm
   have:=R5 r _ (yac hr1)
   rw[e,hco]at this;cases this
  generalize (upd (upd H5 co (.lst (tupR (wl.length:Int).toNat))) o (.ins C dx (putF "columns" (.ref co) [("cells",.ref p1),("over",.int 1)])))=H7 at *
  refine⟨_,rfl,_,rfl,_,rfl,sl,_,rfl,.inl (SqL.of S7),fun _=>⟨_,_,rfl,rfl,_,_,rfl,by omega,?_,?_,fun ro hro=> ?_⟩⟩
  ·rw[yaa];omega
  ·rw[yaa];omega
  rw[yaa]
  have s8:=zad hro (.lst ((rngFT (wl.length:Int) ((wl.length:Int)+(its.length:Int)-(wl.length:Int)).toNat).map V.int))
  have O8:=s8 _ _ O7
  refine⟨_,rfl,o,C,dx,_,rfl,O8,Cc,n_rows,(by show 3<1000;decide),?_⟩
  have nro:ro≠o:=(zal O7 hro).symm
  have k9:∀b u,b≠o->(upd H7 ro (.lst ((rngFT (wl.length:Int) ((wl.length:Int)+(its.length:Int)-(wl.length:Int)).toNat).map V.int))) b=some u->(upd (upd H7 ro (.lst ((rngFT (wl.length:Int) ((wl.length:Int)+(its.length:Int)-(wl.length:Int)).toNat).map V.int))) o (.ins C dx (putF "rows" (.ref ro) [("cells",.ref p1),("over",.int 1),("columns",.ref co)]))) b=some u:=fun b u hb e=>by rw[zai hb];exact e
  refine qq _ ⟨dx,p1,co,ro,as++[p4],Same.updN (Z7.trans s8) h0,h0,h1n,c0,Z7.none hro,zal L7 hro,ncr,fun hm=> ?_,zab,k9 _ _ np (s8 _ _ C7),by rw[yat,hl];rfl,fun r a e=>k9 _ _ (R4 r a e).2 (s8 _ _ (R7 r a e)),?_,?_⟩
  ·obtain⟨r,hr1,e⟩:=ybw hm
   have:=R7 r _ (yac hr1)
   rw[e,hro]at this;cases this
  ·rw[k9 _ _ nco (s8 _ _ L7)]
   congr 2
   unfold tupR nameL
   rw[ydj,show(wl.length:Int).toNat=wl.length by omega]
   rfl
  ·rw[k9 _ _ nro zab]
   congr 2
   unfold rngFT nameL
   rw[show((wl.length:Int)+(its.length:Int)-(wl.length:Int)).toNat=its.length by omega]
   refine congrArg _ (ydm fun k _=> ?_)
   show(wl.length:Int)+(k:Int)=((wl.length+k:Nat):Int)
   omega
end
noncomputable def lowF(a:Int)(b:Nat):Int×Nat:=(a/((Nat.gcd a.natAbs b:Nat):Int),b/Nat.gcd a.natAbs b)
theorem lowF_low(a:Int){b:Nat}(hb:0<b):Low a b (lowF a b).1 (lowF a b).2:=low_mk a b hb
theorem low_uniq{a:Int}{b:Nat}{u u':Int}{v v':Nat}(hb:0<b)(h:Low a b u v)(h':Low a b u' v'):u=u'/\v=v':=by
 have e1:=h.eq
 have e2:=h'.eq
 have bi:(0:Int)<(b:Int):=by omega
 have cr:u*(v':Int)=u'*(v:Int):=by
  refine Int.eq_of_mul_eq_mul_left (a:=(b:Int)) (by omega) ?_
  have x:(b:Int)*(u*(v':Int))=u*(b:Int)*(v':Int):=by grind
  have y:(b:Int)*(u'*(v:Int))=u'*(b:Int)*(v:Int):=by grind
  rw[x,y,e1,e2];grind
 have cn:u.natAbs*v'=u'.natAbs*v:=by
  have:=congrArg Int.natAbs cr
  rwa [yec,yec,ydo,ydo]at this
 have d1:v∣v':=by
  have:v∣u.natAbs*v':=by rw[cn];exact Nat.dvd_mul_left _ _
  exact(Nat.Coprime.symm h.cop).dvd_of_dvd_mul_left this
 have d2:v'∣v:=by
  have:v'∣u'.natAbs*v:=by rw[<-cn];exact Nat.dvd_mul_left _ _
  exact(Nat.Coprime.symm h'.cop).dvd_of_dvd_mul_left this
 have ev:=Nat.dvd_antisymm d1 d2
 subst ev
 refine⟨?_,rfl⟩
 have hv:=h.pos
 exact ydx (a:=(v:Int)) (by omega) cr
theorem low_is{a:Int}{b:Nat}{u:Int}{v:Nat}(hb:0<b)(h:Low a b u v):(u,v)=lowF a b:=by
 obtain⟨e1,e2⟩:=low_uniq hb h (lowF_low a hb)
 rw[e1,e2]
theorem pos_of_mul{x y:Int}(h:0<x*y)(hy:0<y):0<x:=by
 refine Int.not_le.mp fun hn=> ?_
 have:=ycj (a:= -x) (b:=y) (by omega) (by omega)
 grind
theorem lowF_pos{a:Int}{b:Nat}(hb:0<b):0<(lowF a b).1↔0<a:=by
 have l:=lowF_low a hb
 have e:=l.eq
 have hv:(0:Int)<((lowF a b).2:Int):=by have:=l.pos;omega
 have bi:(0:Int)<(b:Int):=by omega
 constructor
 ·intro h
  have:0<(lowF a b).1*(b:Int):=yeb h bi
  rw[e]at this
  exact pos_of_mul this hv
 ·intro h
  have:0<a*((lowF a b).2:Int):=yeb h hv
  rw[<-e]at this
  exact pos_of_mul this bi
structure Sh(n:Nat)(L:List (List Int))(wl:List Int)(ov:Nat)(Z:Int)(Y X:Nat->Int):Prop where
 pos:0<ov
 big:ov<=39916800
 yn:∀k,0<=Y k
 xn:∀p,0<=X p
 tot:Sx.sm L.length Y=Z
 eno:∀p,p<n->(ov:Int)*wtF wl p<=Sx.sm L.length fun k=>if setS L k p=true then Y k else 0
 lig:∀k,k<L.length->(Sx.sm n fun p=>if setS L k p=true then X p else 0)<=(ov:Int)
 wor:(Sx.sm n fun p=>wtF wl p*X p)=Z
theorem sh_of{n:Nat}{L:List (List Int)}{wl:List Int}{T:Sx.Tab}(hg:TG n L.length (setS L) (wtF wl) T)(hz:∀c,c<n->0<=T.cell L.length c):
  Sh n L wl T.over.toNat (T.cell L.length n) (fun k=>Sx.Ys n L.length T (n+k)) (fun p=>Sx.Xs n L.length T p):=by
 have ho:=hg.over
 have eo:((T.over.toNat:Nat):Int)=T.over:=by omega
 refine⟨by omega,by omega,fun k=>Sx.ys_nn hz _,fun p=>hg.good.xs_nn _,hg.good.total,fun p hp=> ?_,fun k hk=> ?_,hg.good.prices⟩
 ·rw[eo,hg.good.enough hp]
  have:=Sx.ys_nn hz p
  omega
 ·rw[eo];exact hg.good.light hk
theorem cov_of{ts:List (Int×Int)}{n:Nat}{ss:List (List Int)}(h:SortedF ss ts false n){p:Nat}(hp:p<n):∃k,k<ss.length/\setS ss k p=true:=by
 have sk:SetK ts false n [(p:Int)]:=⟨List.pairwise_singleton _ _,fun x hx=>by rw[yar.mp hx];omega,fun x hx y hy hn=>absurd ((yar.mp hx).trans (yar.mp hy).symm) hn⟩
 obtain⟨t,ht,hx⟩:=ext_full sk
 have ht':=h.1.mem_iff.mpr ht
 obtain⟨k,hk,rfl⟩:=ybw ht'
 refine⟨k,hk,?_⟩
 unfold setS
 rw[yag,yac hk]
 exact decide_eq_true (hx _ yap)
theorem sorted_len{ts:List (Int×Int)}{n:Nat}{ss:List (List Int)}(h:SortedF ss ts false n)(hn:n<=10):ss.length<=36:=by rw[h.1.length_eq];exact fulls_len hn
noncomputable def layOf(ss:List (List Int))(ov:Nat)(Y:Nat->Int):List (List Int×(Int×Nat)):=((List.range ss.length).filter fun k=>decide (0<Y k)).map fun k=>(ss.getD k [],lowF (Y k) ov)
noncomputable def prcOf(n ov:Nat)(X:Nat->Int):List (Int×Nat):=(List.range n).map fun p=>lowF (X p) ov
section
variable{K:W.Frag}
noncomputable def FrA(K:W.Frag)(H:Hp)(a:Addr)(f:Int×Nat):Prop:=SqT K H a [.int f.1,.int ((f.2:Nat):Int)]
noncomputable def ShrV(K:W.Frag)(H:Hp)(v:V)(q:List Int×(Int×Nat)):Prop:=∃t sa fa,v= .ref t/\SqT K H t [.ref sa,.ref fa]/\SqT K H sa (q.1.map V.int)/\FrA K H fa q.2
noncomputable def LayV(K:W.Frag)(H:Hp):List V->List (List Int×(Int×Nat))->Prop:=Paired (ShrV K H)
noncomputable def FrsV(K:W.Frag)(H:Hp):List V->List (Int×Nat)->Prop:=Paired fun v f=>∃a,v= .ref a/\FrA K H a f
theorem ShrV.same{H H':Hp}{v:V}{q:List Int×(Int×Nat)}(h:ShrV K H v q)(s:Same H H'):ShrV K H' v q:=by
 obtain⟨t,sa,fa,e,h1,h2,h3⟩:=h
 exact⟨t,sa,fa,e,s.tup h1,s.tup h2,s.tup h3⟩
theorem LayV.same{H H':Hp}{vs:List V}{l:List (List Int×(Int×Nat))}(h:LayV K H vs l)(s:Same H H'):LayV K H' vs l:=Paired.mapP h fun _ _ z=>z.same s
theorem FrsV.same{H H':Hp}{vs:List V}{l:List (Int×Nat)}(h:FrsV K H vs l)(s:Same H H'):FrsV K H' vs l:=Paired.mapP h fun _ _ ⟨a,e,z⟩=>⟨a,e,s.tup z⟩
theorem Paired.snoc{α β:Type}{R:α->β->Prop}:∀{l:List α} {m:List β} {a:α} {b:β},Paired R l m->R a b->Paired R (l++[a]) (m++[b])
 |_,_,_,_,.nil,h=> .cons h .nil
 |_,_,_,_,.cons r t,h=> .cons r (Paired.snoc t h)
theorem Paired.at_{α β:Type}{R:α->β->Prop}:∀{l:List α} {m:List β} {i:Nat} {a:α},Paired R l m->l[i]? =some a->∃b,m[i]? =some b/\R a b
 |_,_,_,_,.nil,e=>by simp at e
 |_,_,0,_,.cons r _,e=>by simp at e;subst e;exact⟨_,rfl,r⟩
 |_,_,i+1,a,.cons _ t,e=>by
  obtain⟨b,h1,h2⟩:=Paired.at_ (i:=i) (a:=a) t (by simpa using e)
  exact⟨b,by simpa using h1,h2⟩
theorem Paired.lenP{α β:Type}{R:α->β->Prop}:∀{l:List α} {m:List β},Paired R l m->l.length=m.length
 |_,_,.nil=>rfl
 |_,_,.cons _ t=>by simp[Paired.lenP t]
end
section
variable{P:Program}{w:World}{K:W.Frag}{mg:Str->Option Value}{base:Heap}
noncomputable def WantsL(n:Int)(wl:List Int):Prop:=(wl.length:Int)=n/\∀x∈wl,0<=x/\x<=99
theorem all_true(k:Nat):(List.replicate k true).all id=true:=by
 rw[yax]
 intro b hb
 rw[(List.mem_replicate.mp hb).2];rfl
noncomputable def spNeedWants(K:W.Frag):Sp:=fun vs H Q _=>∃(a wa:Addr) (n:Int) (t:V) (wl:List Int),vs=[.ref a,.ref wa]/\SqT K H a [.int n,t]/\SqT K H wa (wl.map V.int)/\WantsL n wl/\∀H',Same H H'->Q .non H'
theorem sc_needWants:FnScope ["web","thing"] ["web","thing"] (defScope zca):=⟨rfl,rfl,rfl,by decide+kernel,rfl,by decide+kernel,by decide+kernel⟩
theorem ok_needWants{f f1:Addr}{fd d1:FuncData}{tk0:Tok}(F:Fun K "need_wants" "need_wants" zca f fd)(D1:Dfn K mg "is_whole" zbu ["thing"] f1 d1)(G1:FnOk P w K mg base CX0 1 f1 d1 ["thing"] (spWhole K))(m_len:mg "len"=none)(m_isinstance:mg "isinstance"=none)(m_tuple:mg "tuple"=none)(m_all:mg "all"=none)(m_MOST_WANT:mg "MOST_WANT"=some (.int 99 tk0)):
  FnOk P w K mg base CX0 2 f fd ["web","thing"] (spNeedWants K):=by
 refine F.ok sc_needWants (fun vs H Q E h=> ?_) (fun cdv A outer s H vs Q E hr h=> ?_)
 ·obtain⟨a,wa,n,t,wl,rfl,_⟩:=h
  rfl
 obtain⟨a,wa,n,t,wl,rfl,hA,hW,⟨hl,hb⟩,qq⟩:=h
 refine⟨_,(zae (ps_if (PW.pt (pw_or (pt_not (pt_val (zam zdk rfl m_isinstance (by decide+kernel) (zaa (pv 1) (zaa (pe_bltn rfl m_tuple (v:= .ty "tuple") (by decide+kernel) rfl) zac))))) (pw_or1 (zas op_ne (zam zbz rfl m_len PySem.boot_len (zaa (pv 1) zac)) (zay zcf (pv 0) zah (fun _ _=>rfl)) (nomark _))))) pss_never zbg) (zaf (ps_if (pt_not (pt_val (zam (call_all rfl) rfl m_all (by decide+kernel) (zaa (zbq (own:=["want"]) (caps:=[]) (ix:=[]) rfl (pi_tupL (pv 1)) rfl rfl .nil (fun _ _ _ _ _=>(zaj (i:=0) (show(["want"]:List Str).Nodup from by decide+kernel) rfl (Or.inl rfl))) (fun _ _ _ _ _=>zcl) (fun _ _ _ _ _=>(pe_and (zag G1 hr rfl D1.m D1.F.kp D1.b .nil pass0 (zaa (pv 0) zac)) (pe_one (pe_chain op_le op_le zah (pv 0) (pe_glob rfl m_MOST_WANT (v:= .int 99) ⟨_,rfl⟩)))))) zac)))) pss_never zbg))),?_⟩
 refine⟨_,rfl,.ref wa,"tuple",_,rfl,.inl ⟨rfl,_,hW⟩,.inr (.inr (.inl rfl)),_,rfl,?_⟩
 refine iteF ?_
 refine⟨_,rfl,wa,_,rfl,.inr hW,fun hz=>⟨_,rfl,a,_,_,.int n,rfl,rfl,hA,rfl,rfl,_,rfl,?_⟩⟩
 have e1:(!decide (V.int (((wl.map V.int).length:Nat):Int)=V.int n))=false:=by rw[yaa,hl];simp
 rw[e1]
 refine iteF ?_
 refine⟨_,rfl,wa,_,rfl,hW,fun hz=> ?_⟩
 refine zdj (xs:=wl.map V.int) (fun i acc σ H'=>acc=(List.replicate i true).map V.bl/\H'=H/\∃o,σ=[o]) ⟨rfl,rfl,_,rfl⟩ (fun i acc σ H' _ p=>by rw[p.2.1];exact hW) (fun i acc σ H' _ p=>by rw[p.1,yaa,ydp];exact yab _) hz (fun i x acc σ H' hx p=> ?_) (fun acc σ H' p=> ?_)
 ·obtain⟨rfl,rfl,o,rfl⟩:=p
  rw[yae]at hx
  cases ex:wl[i]? with
  |none=>rw[ex]at hx;cases hx
  |some y=>
   rw[ex]at hx
   cases hx
   have hy:=hb y (ybd ex)
   refine⟨_,rfl,.int y,.int y,rfl,.int _,_,rfl,iteT ?_⟩
   refine⟨_,rfl,_,_,rfl,rfl,_,rfl,?_⟩
   rw[decide_eq_true hy.1]
   refine iteT ?_
   refine⟨_,_,rfl,rfl,?_,rfl,_,rfl⟩
   show _++[V.bl (decide (y<=99))]=_
   rw[decide_eq_true hy.2,List.replicate_succ',yaf];rfl
 ·intro p1 hp1
  obtain⟨rfl,rfl,_⟩:=p
  refine⟨p1,_,rfl,SqL.of zab,_,rfl,?_⟩
  rw[all_true]
  exact iteF (qq _ (zad hp1 _))
noncomputable def spShares(K:W.Frag):Sp:=fun vs H Q _=>∃(a wa:Addr) (n:Int) (ts:List (Int×Int)) (wl:List Int),vs=[.ref a,.ref wa]/\WebIs K H a n ts/\SqT K H wa (wl.map V.int)/\WantsL n wl/\
 ∀(r va la pa:Addr) (lrefs prefs:List V) (ss:List (List Int)) (ov:Nat) (Z:Int) (Y X:Nat->Int) H',Same H H'->H' r=some (.tup [.ref va,.ref la,.ref pa])->FrA K H' va (lowF Z ov)->H' la=some (.lst lrefs)->LayV K H' lrefs (layOf ss ov Y)->H' pa=some (.lst prefs)->FrsV K H' prefs (prcOf n.toNat ov X)->
  SortedF ss ts false n.toNat->Sh n.toNat ss wl ov Z Y X->H la=none->H pa=none->la≠pa->Q (.ref r) H'
theorem sc_shares:FnScope ["web","wants","n","sets","tableau","given","laying","prices"] ["web","wants"] (defScope s_shares):=⟨rfl,rfl,rfl,by decide+kernel,rfl,by decide+kernel,by decide+kernel⟩
theorem ok_shares{f f1 f2 f3 f4 f5 f6 f7 f8 C:Addr}{fd d1 d2 d3 d4 d5 d6 d7 d8:FuncData}(F:Fun K "shares" "shares" s_shares f fd)
  (Cc:Cls K C)(n_cells:NoAttr K C "cells")(n_over:NoAttr K C "over")(n_columns:NoAttr K C "columns")(n_rows:NoAttr K C "rows")(m_Tableau:mg "Tableau"=some (.ref C))(D1:Dfn K mg "need_web" zbb ["thing"] f1 d1)(G1':FnOk P w K mg base CX0 7 f1 d1 ["thing"] (spNeedWeb K))(D2:Dfn K mg "need_wants" zca ["web","thing"] f2 d2)(G2':FnOk P w K mg base CX0 2 f2 d2 ["web","thing"] (spNeedWants K))(D3:Dfn K mg "full_apart" zcd ["web"] f3 d3)(G3:FnOk P w K mg base CX0 8 f3 d3 ["web"] (spFullApart K))(D4:Mdf K C "__init__" "Tableau.__init__" zbn ["self","sets","wants"] f4 d4)(Mk4:Mk K C f4)(G4m':FnOk P w K mg base CX0 1 f4 d4 ["self","sets","wants"] (spTIni K C))(D5:Mdf K C "solve" "Tableau.solve" zbe ["self"] f5 d5)(G5':FnOk P w K mg base CX0 3 f5 d5 ["self"] (spTSo K C))(D6:Mdf K C "share_of" "Tableau.share_of" zau ["self","name"] f6 d6)(G6':FnOk P w K mg base CX0 4 f6 d6 ["self","name"] (spTSh K C))(D7:Mdf K C "price_of" "Tableau.price_of" zav ["self","name"] f7 d7)(G7':FnOk P w K mg base CX0 4 f7 d7 ["self","name"] (spTPo K C))(D8:Mdf K C "fraction_at" "Tableau.fraction_at" zak ["self","row","column"] f8 d8)(G8':FnOk P w K mg base CX0 3 f8 d8 ["self","row","column"] (spTFa K C))(m_enumerate:mg "enumerate"=none)(m_range:mg "range"=none):
  FnOk P w K mg base CX0 9 f fd ["web","wants"] (spShares K):=by
 have G1:FnOk P w K mg base CX0 8 f1 d1 ["thing"] (spNeedWeb K):=G1'.mono (by decide)
 have G2:FnOk P w K mg base CX0 8 f2 d2 ["web","thing"] (spNeedWants K):=G2'.mono (by decide)
 have G4m:FnOk P w K mg base CX0 7 f4 d4 ["self","sets","wants"] (spTIni K C):=G4m'.mono (by decide)
 have G5:FnOk P w K mg base CX0 8 f5 d5 ["self"] (spTSo K C):=G5'.mono (by decide)
 have G6:FnOk P w K mg base CX0 8 f6 d6 ["self","name"] (spTSh K C):=G6'.mono (by decide)
 have G7:FnOk P w K mg base CX0 8 f7 d7 ["self","name"] (spTPo K C):=G7'.mono (by decide)
 have G8:FnOk P w K mg base CX0 8 f8 d8 ["self","row","column"] (spTFa K C):=G8'.mono (by decide)
 refine F.ok sc_shares (fun vs H Q E h=> ?_) (fun cdv A outer s H vs Q E hr h=> ?_)
 ·obtain⟨a,wa,n,ts,wl,rfl,_⟩:=h
  rfl
 obtain⟨a,wa,n,ts,wl,rfl,hA,hW,hwl,qq⟩:=h
 refine⟨_,(zae (zbs (zag G1 hr rfl D1.m D1.F.kp D1.b .nil pass0 (zaa (pv 0) zac))) (zae (zbs (zag G2 hr rfl D2.m D2.F.kp D2.b .nil pass0 (zaa (pv 0) (zaa (pv 1) zac)))) (zae (zan (i:=2) sc_shares.nd rfl (Or.inr rfl) (zay zcf (pv 0) zah (fun _ _=>rfl))) (zae (zan (i:=3) sc_shares.nd rfl (Or.inl rfl) (zag G3 hr rfl D3.m D3.F.kp D3.b .nil pass0 (zaa (pv 0) zac))) (zae (zan (i:=4) sc_shares.nd rfl (Or.inr rfl) (pe_make Mk4 G4m hr rfl m_Tableau D4.b .nil pass0 (zaa (pv 3) (zaa (pv 1) zac)))) (zae (zbs (pe_meth0 (pv 4) Cc D5.m G5 hr D5.b .nil pass0)) (zae (ps_setComp (i:=5) (own:=["k","some"]) (caps:=["tableau","n"]) (ix:=[4,2]) sc_shares.nd rfl (Or.inl rfl) rfl (pi_enum rfl m_enumerate (zaa (pv 3) zac)) rfl rfl (.cons rfl rfl (.cons rfl rfl .nil)) (fun _ _ _ _ _=>(pg_tupK K (n:=2) rfl (zcm (zaj (i:=0) (show(["k","some","tableau","n"]:List Str).Nodup from by decide+kernel) rfl (Or.inl rfl)) (zcm (zaj (i:=1) (show(["k","some","tableau","n"]:List Str).Nodup from by decide+kernel) rfl (Or.inl rfl)) pgs_nil)))) (fun _ _ _ _ _=>zcl) (fun _ _ _ _ _=>(zbw (zaa (pv 1) (zaa (pe_meth (pv 2) Cc D6.m G6 hr D6.b .nil pass0 (zaa (zax op_add (pv 3) (pv 0)) zac)) zac))))) (zae (ps_setComp (i:=6) (own:=["share"]) (caps:=[]) (ix:=[]) sc_shares.nd rfl (Or.inl rfl) rfl (pi_listL (pv 5)) rfl rfl .nil (fun _ _ _ _ _=>(zaj (i:=0) (show(["share"]:List Str).Nodup from by decide+kernel) rfl (Or.inl rfl))) (fun _ _ _ _ _=>pts_one (zas op_gt (zay (ix_tupK K) (zay (ix_tupK K) (pv 0) zah (fun _ _=>rfl)) zah (fun _ _=>rfl)) zah (nomark _))) (fun _ _ _ _ _=>(pv 0))) (zae (ps_setComp (i:=7) (own:=["place"]) (caps:=["tableau"]) (ix:=[4]) sc_shares.nd rfl (Or.inl rfl) rfl (zbp rfl m_range (zaa (pv 2) zac)) rfl rfl (.cons rfl rfl .nil) (fun _ _ _ _ _=>(zaj (i:=0) (show(["place","tableau"]:List Str).Nodup from by decide+kernel) rfl (Or.inl rfl))) (fun _ _ _ _ _=>zcl) (fun _ _ _ _ _=>(pe_meth (pv 1) Cc D7.m G7 hr D7.b .nil pass0 (zaa (pv 0) zac)))) (zaf (zao (zbw (zaa (pe_meth (pv 4) Cc D8.m G8 hr D8.b .nil pass0 (zaa (pe_un un_neg zah) (zaa (pe_un un_neg zah) zac))) (zaa (pv 6) (zaa (pv 7) zac))))))))))))))),?_⟩
 have h0:=hA.h0
 have h10:=hA.h1
 refine⟨_,rfl,.ref a,_,rfl,hA.web.dv.dx,hA.ok,fun H1 s1=> ?_⟩
 obtain⟨tt1,rr1,w1,w2,w3⟩:=id (hA.same s1).web
 refine⟨_,rfl,_,rfl,a,wa,n,_,wl,rfl,w1,s1.tup hW,hwl,fun H2 s2=> ?_⟩
 have s12:=s1.trans s2
 have hA2:=hA.same s12
 obtain⟨tt2,rr2,x1,x2,x3⟩:=id hA2.web
 refine⟨_,rfl,a,_,_,.int n,rfl,rfl,x1,rfl,?_⟩
 refine⟨_,rfl,a,n,ts,rfl,hA2,fun sl ss H3 s3 hSet hSort hsl=> ?_⟩
 obtain⟨its,hS,hP,hss⟩:=hSet
 have s13:=s12.trans s3
 have hm:its.length=ss.length:=by rw[<-hss,yaa]
 have hm36:=sorted_len hSort (by omega)
 have hwn:wl.length=n.toNat:=by have:=hwl.1;omega
 refine⟨_,rfl,_,rfl,fun o dx ho hdx hne=> ?_⟩
 have sM:Same H3 (upd (upd H3 dx (.own o)) o (.ins C dx [])):=(zad hdx _).trans (zad (by rw[zai (Ne.symm hne)];exact ho) _)
 refine⟨o,dx,sl,wa,H3,its,wl,rfl,zab,sM,ho,sM _ _ hS,fun p hp=>sM.tup (hP p hp),sM.tup (s13.tup hW),by omega,by omega,fun H4 hT4=>⟨rfl,?_⟩⟩
 rw[hss,hm,hwn]at hT4
 have hSta:Sta n.toNat ss.length (setS ss) (wtF wl):=by
  refine⟨by omega,by omega,fun p hp=> ?_,fun p hp=>cov_of hSort hp⟩
  unfold wtF
  rw[yag,yac (by omega)]
  exact hwl.2 _ (yby _)
 obtain⟨dx4,cl4,co4,ro4,rw4,hA4⟩:=id hT4
 refine⟨_,rfl,o,dx4,_,rfl,hA4.at_,rfl,o,H3,n.toNat,ss.length,setS ss,wtF wl,_,rfl,hT4,hSta,Sx.start_good,fun T H5 hT5 hg5 hz5=> ?_⟩
 have hG:=hSta.tg hg5
 have hSh:=sh_of hG hz5
 obtain⟨dx5,cl5,co5,ro5,rw5,hA5⟩:=id hT5
 have s35:=hA5.same
 have ovp:=hSh.pos
 generalize hY:(fun k=>Sx.Ys n.toNat ss.length T (n.toNat+k))=Y at *
 generalize hX:(fun p=>Sx.Xs n.toNat ss.length T p)=X at *
 -- given
 refine⟨_,rfl,false,sl,_,rfl,SqL.of (s35 _ _ hS),fun hz=> ?_⟩
 refine comp_enum (K:=K) (b:=false) (a:=sl) (xs:=its.map fun p=>V.ref p.1) (fun i acc σ H'=>LayV K H' acc ((List.range i).map fun k=>(ss.getD k [],lowF (Y k) T.over.toNat))/\Same H5 H'/\∃o1 o2,σ=[o1,o2,some (.ref o),some (.int n)]) ⟨.nil,Same.refl _,_,_,rfl⟩ (fun i acc σ H' _ p=>p.2.1.seq (SqL.of (s35 _ _ hS))) (fun i acc σ H' _ p=> ?_) hz (fun i v t acc σ H' hv p ht=> ?_) (fun acc σ H' p=> ?_)
 ·rw[Paired.lenP p.1,yaa,ybe];exact yab _
 ·obtain⟨hl,sm,o1,o2,rfl⟩:=p
  rw[yae]at hv
  cases ev:its[i]? with
  |none=>rw[ev]at hv;cases hv
  |some it=>
   rw[ev]at hv
   cases hv
   have eg:ss.getD i []=it.2:=by rw[<-hss,yag,yae,ev];rfl
   have t1:=zad ht (.tup [.int (i:Int),.ref it.1])
   have hT6:=hT5.sm (sm.trans t1)
   obtain⟨dx6,cl6,co6,ro6,rw6,hA6⟩:=id hT6
   refine⟨t,_,rfl,SqT.of zab,rfl,_,_,rfl,_,_,rfl,rfl,?_⟩
   refine⟨_,rfl,_,rfl,o,dx6,_,rfl,hA6.at_,rfl,_,rfl,_,rfl,_,_,rfl,rfl,o,H3,n.toNat,ss.length,n.toNat+i,setS ss,wtF wl,T,?_,hT6,hG,fun fa H7 u v' s7 e7 l7=> ?_⟩
   ·rw[show(((n.toNat+i:Nat)):Int)=n+(i:Int) by omega];rfl
   ·refine⟨(by show 2<=sizeLine;decide),fun tp htp=> ?_⟩
    have s8:=zad htp (.tup [.ref it.1,.ref fa])
    have s68:=t1.trans (s7.trans s8)
    have hlow:(u,v')=lowF (Y i) T.over.toNat:=by rw[<-hY];exact low_is ovp l7
    refine⟨?_,sm.trans s68,_,_,rfl⟩
    rw[ybt,yaf]
    refine Paired.snoc (LayV.same hl s68) ⟨tp,it.1,fa,rfl,SqT.of zab,?_,?_⟩
    ·show SqT K _ it.1 ((ss.getD i []).map V.int)
     rw[eg]
     exact(s35.trans (sm.trans s68)).tup (hP it (ybd ev))
    ·show FrA K _ fa (lowF (Y i) T.over.toNat)
     rw[<-hlow]
     exact s8.tup (SqT.of e7)
 intro gl hgl
 obtain⟨hl,sm5,_⟩:=p
 rw[yaa,hm]at hl
 have g1:=zad hgl (.lst acc)
 have s6:=sm5.trans g1
 have eg1:(upd H' gl (.lst acc)) gl=some (.lst acc):=zab
 have hl6:=LayV.same hl g1
 generalize (upd H' gl (.lst acc))=H6 at *
 -- laying
 refine⟨_,rfl,gl,_,rfl,SqL.of eg1,fun hz=> ?_⟩
 refine comp_list (xs:=acc) (fun i acc' σ H'=>H'=H6/\LayV K H6 acc' (((List.range i).filter fun k=>decide (0<Y k)).map fun k=>(ss.getD k [],lowF (Y k) T.over.toNat))/\∃o1,σ=[o1]) ⟨rfl,.nil,_,rfl⟩ (fun i acc' σ H' _ p=>by rw[p.1];exact SqL.of eg1) (fun i acc' σ H' _ p=> ?_) hz (fun i v acc' σ H' hv p=> ?_) (fun acc' σ H' p=> ?_)
 ·rw[Paired.lenP p.2.1,yaa]
  exact yau (ybc _ _) (by rw[ybe];exact yab _)
 ·obtain⟨rfl,hl',o1,rfl⟩:=p
  obtain⟨qv,eq1,hv1⟩:=Paired.at_ hl6 hv
  have hi:i<ss.length:=by
   have:=(yao.mp hv).1
   rw[Paired.lenP hl6,yaa,ybe]at this
   exact this
  rw[yae,ycz hi]at eq1
  have eq2:qv=(ss.getD i [],lowF (Y i) T.over.toNat):=(Option.some.inj eq1).symm
  obtain⟨t,sa,fa,rfl,h1,h2,h3⟩:=id hv1
  have h3':FrA K H' fa (lowF (Y i) T.over.toNat):=by rw[eq2]at h3;exact h3
  refine⟨_,rfl,t,_,_,.ref fa,rfl,rfl,h1,rfl,fa,_,_,.int (lowF (Y i) T.over.toNat).1,rfl,rfl,h3',rfl,_,_,rfl,rfl,_,rfl,?_⟩
  have go:((List.range (i+1)).filter fun k=>decide (0<Y k))=((List.range i).filter fun k=>decide (0<Y k))++(if decide (0<Y i)=true then[i]else[]):=by
   rw[ybt,ycq]
   congr 1
   rw[yci]
   split<;>rfl
  have ed:decide (0<(lowF (Y i) T.over.toNat).1)=decide (0<Y i):=decide_eq_decide.mpr (lowF_pos ovp)
  refine ite2 (fun c=> ?_) (fun c=> ?_)
  ·have c':decide (0<Y i)=true:=by rw[<-ed];exact c
   refine⟨_,rfl,rfl,?_,_,rfl⟩
   rw[go,if_pos c',yaf]
   refine Paired.snoc hl' ?_
   rw[eq2]at hv1
   exact hv1
  ·have c':¬decide (0<Y i)=true:=by rw[<-ed];exact c
   refine⟨rfl,?_,_,rfl⟩
   rw[go,if_neg c',ybo]
   exact hl'
 intro la hla
 obtain⟨rfl,hlay,_⟩:=p
 rw[Paired.lenP hl6,yaa,ybe]at hlay
 have g2:=zad hla (.lst acc')
 have s7:=s6.trans g2
 have ela:(upd H' la (.lst acc')) la=some (.lst acc'):=zab
 have hlay7:=LayV.same hlay g2
 have hT7:=hT5.sm s7
 generalize (upd H' la (.lst acc'))=H7 at *
 -- prices
 refine⟨_,rfl,n,rfl,by omega,by omega,?_⟩
 refine zck (n:=n.toNat) (fun i acc2 σ H2=>FrsV K H2 acc2 ((List.range i).map fun p=>lowF (X p) T.over.toNat)/\Same H7 H2/\∃o1,σ=[o1,some (.ref o)]) ⟨.nil,Same.refl _,_,rfl⟩ (fun i acc2 σ H2 hi p=> ?_) (by rw[sizeLine_eq];omega) (fun i acc2 σ H2 hi p=> ?_) (fun acc2 σ H2 p=> ?_)
 ·rw[Paired.lenP p.1,yaa,ybe];exact yab _
 ·obtain⟨hf,sm,o1,rfl⟩:=p
  have hT8:=hT7.sm sm
  obtain⟨dx8,cl8,co8,ro8,rw8,hA8⟩:=id hT8
  refine⟨_,rfl,o,dx8,_,rfl,hA8.at_,rfl,_,rfl,o,H3,n.toNat,ss.length,i,setS ss,wtF wl,T,by rw[Int.zero_add];rfl,hT8,hG,fun fa H9 u v' s9 e9 l9=> ?_⟩
  have hlow:(u,v')=lowF (X i) T.over.toNat:=by rw[<-hX];exact low_is ovp l9
  refine⟨?_,sm.trans s9,_,rfl⟩
  rw[ybt,yaf]
  refine Paired.snoc (FrsV.same hf s9) ⟨fa,rfl,?_⟩
  show FrA K H9 fa (lowF (X i) T.over.toNat)
  rw[<-hlow]
  exact SqT.of e9
 intro pa hpa
 obtain⟨hf,sm7,_⟩:=p
 have g3:=zad hpa (.lst acc2)
 have s8:=sm7.trans g3
 have epa:(upd H2 pa (.lst acc2)) pa=some (.lst acc2):=zab
 have hf8:=FrsV.same hf g3
 have hT8:=hT7.sm s8
 have nlp:la≠pa:=zal (sm7 _ _ ela) hpa
 generalize (upd H2 pa (.lst acc2))=H8 at *
 obtain⟨dx8,cl8,co8,ro8,rw8,hA8⟩:=id hT8
 refine⟨_,rfl,o,dx8,_,rfl,hA8.at_,rfl,_,rfl,_,rfl,o,H3,n.toNat,ss.length,ss.length,n.toNat,_,_,setS ss,wtF wl,T,rfl,hT8,hG,.inr ⟨rfl,rfl⟩,.inr ⟨rfl,rfl⟩,fun va H9 u v' s9 e9 l9=> ?_⟩
 refine⟨_,rfl,_,rfl,(by show 3<=sizeLine;decide),fun r hr'=> ?_⟩
 have s10:=zad hr' (.tup [.ref va,.ref la,.ref pa])
 have s810:=s9.trans s10
 have hlow:(u,v')=lowF (T.cell ss.length n.toNat) T.over.toNat:=low_is ovp l9
 refine qq r va la pa acc' acc2 ss T.over.toNat (T.cell ss.length n.toNat) Y X _ (s13.trans (s35.trans (s7.trans (s8.trans s810)))) zab ?_ ((s8.trans s810) _ _ ela) (LayV.same hlay7 (s8.trans s810)) (s810 _ _ epa) (FrsV.same hf8 s810) hSort hSh ?_ ?_ nlp
 ·rw[<-hlow];exact s10.tup (SqT.of e9)
 ·exact(s13.trans (s35.trans s6)).none hla
 ·exact(s13.trans (s35.trans (s7.trans sm7))).none hpa
noncomputable def oneL(n:Nat):List Int:=List.replicate n 1
noncomputable def spValue(K:W.Frag):Sp:=fun vs H Q _=>∃(a:Addr) (n:Int) (ts:List (Int×Int)),vs=[.ref a]/\WebIs K H a n ts/\
 ∀(va:Addr) (ss:List (List Int)) (ov:Nat) (Z:Int) (Y X:Nat->Int) H',Same H H'->FrA K H' va (lowF Z ov)->SortedF ss ts false n.toNat->Sh n.toNat ss (oneL n.toNat) ov Z Y X->Q (.ref va) H'
theorem sc_value:FnScope ["web"] ["web"] (defScope s_value):=⟨rfl,rfl,rfl,by decide+kernel,rfl,by decide+kernel,by decide+kernel⟩
theorem ok_value{f f1 f2:Addr}{fd d1 d2:FuncData}(F:Fun K "value" "value" s_value f fd)(D1:Dfn K mg "need_web" zbb ["thing"] f1 d1)(G1':FnOk P w K mg base CX0 7 f1 d1 ["thing"] (spNeedWeb K))(D2:Dfn K mg "shares" s_shares ["web","wants"] f2 d2)(G2:FnOk P w K mg base CX0 9 f2 d2 ["web","wants"] (spShares K)):
  FnOk P w K mg base CX0 10 f fd ["web"] (spValue K):=by
 have G1:FnOk P w K mg base CX0 9 f1 d1 ["thing"] (spNeedWeb K):=G1'.mono (by decide)
 refine F.ok sc_value (fun vs H Q E h=> ?_) (fun cdv A outer s H vs Q E hr h=> ?_)
 ·obtain⟨a,n,ts,rfl,_⟩:=h
  rfl
 obtain⟨a,n,ts,rfl,hA,qq⟩:=h
 refine⟨_,(zae (zbs (zag G1 hr rfl D1.m D1.F.kp D1.b .nil pass0 (zaa (pv 0) zac))) (zaf (zao (zay zcf (zag G2 hr rfl D2.m D2.F.kp D2.b .nil pass0 (zaa (pv 0) (zaa (zax op_repT (zbw (zaa zah zac)) (zay zcf (pv 0) zah (fun _ _=>rfl))) zac))) zah (fun _ _=>rfl))))),?_⟩
 have h0:=hA.h0
 have h10:=hA.h1
 refine⟨_,rfl,.ref a,_,rfl,hA.web.dv.dx,hA.ok,fun H1 s1=> ?_⟩
 obtain⟨tt1,rr1,w1,w2,w3⟩:=id (hA.same s1).web
 refine⟨_,rfl,(by show 1<=sizeLine;decide),fun p1 hp1=> ?_⟩
 have s2:=zad hp1 (.tup [.int 1])
 refine⟨_,rfl,a,_,_,.int n,rfl,rfl,s2.tup w1,rfl,p1,n,_,rfl,rfl,SqT.of zab,(fun e=>nomatch e),by omega,by omega,?_,fun wa H3 s3 h3=> ?_⟩
 ·show 1*n.toNat<=1000
  omega
 have ew:(List.replicate n.toNat [V.int 1]).flatten=(oneL n.toNat).map V.int:=by
  unfold oneL
  generalize n.toNat=k
  induction k with
  |zero=>rfl
  |succ k ih=>rw[ycm,ydt,ih,ycm];rfl
 rw[ew]at h3
 have s13:=s1.trans (s2.trans s3)
 refine⟨a,wa,n,ts,oneL n.toNat,rfl,hA.same s13,h3,⟨by unfold oneL;rw[ydp];omega,fun x hx=> ?_⟩,fun r va la pa lrefs prefs ss ov Z Y X H4 s4 e1 e2 e3 e4 e5 e6 hSort hSh _ _ _=> ?_⟩
 ·rw[(List.mem_replicate.mp hx).2];decide
 exact⟨r,_,_,.ref va,rfl,rfl,SqT.of e1,rfl,qq va ss ov Z Y X H4 (s13.trans s4) e2 hSort hSh⟩
noncomputable def spCut(K:W.Frag):Sp:=fun vs H Q _=>∃(a sm:Addr) (n:Int) (ts:List (Int×Int)) (xs:List Int),vs=[.ref a,.ref sm]/\WebIs K H a n ts/\SqT K H sm (xs.map V.int)/\SetOk n xs/\
 ∀r H',Same H H'->WebV K H' r (xs.length:Int) (rows (so9 xs ts) (xs.length:Int) (xs.length:Int).toNat)->Q (.ref r) H'
theorem sc_cut:FnScope ["web","some","kept"] ["web","some"] (defScope zbv):=⟨rfl,rfl,rfl,by decide+kernel,rfl,by decide+kernel,by decide+kernel⟩
theorem ok_cut{f f1 f2 f3 f4:Addr}{fd d1 d2 d3 d4:FuncData}(F:Fun K "cut_down" "cut_down" zbv f fd)(D1:Dfn K mg "need_web" zbb ["thing"] f1 d1)(G1:FnOk P w K mg base CX0 7 f1 d1 ["thing"] (spNeedWeb K))(D2:Dfn K mg "need_set" zcw ["web","thing"] f2 d2)(G2':FnOk P w K mg base CX0 5 f2 d2 ["web","thing"] (spNeedSet K))(D3:Dfn K mg "pairs" s_pairs ["n"] f3 d3)(G3':FnOk P w K mg base CX0 1 f3 d3 ["n"] (spAllP K))(D4:Dfn K mg "has_tie" zdg ["web","one","other"] f4 d4)(G4':FnOk P w K mg base CX0 1 f4 d4 ["web","one","other"] (spHas K))(mT:mg "tuple"=none)(mL:mg "len"=none):
  FnOk P w K mg base CX0 8 f fd ["web","some"] (spCut K):=by
 have G2:FnOk P w K mg base CX0 7 f2 d2 ["web","thing"] (spNeedSet K):=G2'.mono (by decide)
 have G3:FnOk P w K mg base CX0 7 f3 d3 ["n"] (spAllP K):=G3'.mono (by decide)
 have G4:FnOk P w K mg base CX0 7 f4 d4 ["web","one","other"] (spHas K):=G4'.mono (by decide)
 refine F.ok sc_cut (fun vs H Q E h=> ?_) (fun cdv A outer s H vs Q E hr h=> ?_)
 ·obtain⟨a,sm,n,ts,xs,rfl,_⟩:=h
  rfl
 obtain⟨a,sm,n,ts,xs,rfl,hA,hX,hok,q⟩:=h
 refine⟨_,zae (zbs (zag G1 hr rfl D1.m D1.F.kp D1.b .nil pass0 (zaa (pv 0) zac))) (zae (zbs (zag G2 hr rfl D2.m D2.F.kp D2.b .nil pass0 (zaa (pv 0) (zaa (pv 1) zac)))) (zae (ps_setComp (i:=2) (own:=["i","j"]) (caps:=["web","some"]) (ix:=[0,1]) sc_cut.nd rfl (Or.inl rfl) rfl (pi_listL (zag G3 hr rfl D3.m D3.F.kp D3.b .nil pass0 (zaa (zam zbz rfl mL PySem.boot_len (zaa (pv 1) zac)) zac))) rfl rfl (.cons rfl rfl (.cons rfl rfl .nil)) (fun _ _ _ _ _=>pg_tupK K (n:=2) rfl (zcm (zaj (i:=0) (show(["i","j","web","some"]:List Str).Nodup from by decide+kernel) rfl (Or.inl rfl)) (zcm (zaj (i:=1) (show(["i","j","web","some"]:List Str).Nodup from by decide+kernel) rfl (Or.inl rfl)) pgs_nil))) (fun _ _ _ _ _=>pts_one (pt_val (zag G4 hr rfl D4.m D4.F.kp D4.b .nil pass0 (zaa (pv 2) (zaa (zay (ix_tupK K) (pv 3) (pv 0) (fun _ _=>rfl)) (zaa (zay (ix_tupK K) (pv 3) (pv 1) (fun _ _=>rfl)) zac)))))) (fun _ _ _ _ _=>zbw (zaa (pv 0) (zaa (pv 1) zac)))) (zaf (zao (zbw (zaa (zam zbz rfl mL PySem.boot_len (zaa (pv 1) zac)) (zaa (zcj zbc rfl mT (by decide+kernel) (zaa (pv 2) zac)) zac))))))),?_⟩
 have hA1:=hA.h1
 have h10:=hok.len hA1
 refine⟨_,rfl,_,_,rfl,hA.web.dv.dx,hA.ok,fun H1 s1=> ?_⟩
 obtain⟨ta,ra,a1,a2,a3⟩:=id (hA.same s1).web
 have hDX:DX K H1 (.ref sm) (.tuple (xs.map PyData.int)):=(DV.tup (s1.tup hX) (DVs.ints xs)).dx
 refine⟨_,rfl,_,rfl,a,n,_,_,_,rfl,a1,hDX,hok.setD,fun H2 s2=> ?_⟩
 have s12:=s1.trans s2
 refine⟨_,rfl,sm,_,rfl,.inr (s12.tup hX),fun _=>⟨_,rfl,by omega,by rw[yaa];omega,fun l H3 s3 p1=> ?_⟩⟩
 rw[yaa]at p1
 obtain⟨rs,e1,v1⟩:=p1.ex
 refine⟨l,rs,rfl,SqL.of e1,fun hz=> ?_⟩
 have hlen:=v1.len
 rw[yaa]at hlen
 have s13:=s12.trans s3
 generalize hR:rows tt (xs.length:Int) (xs.length:Int).toNat=R at *
 have hR':∀p∈R,0<=p.1/\p.1<p.2/\p.2<(xs.length:Int):=fun p hp=>by rw[<-hR,zdh]at hp;exact⟨hp.1,hp.2.2.1,hp.2.2.2.1⟩
 refine comp_list (xs:=rs) (fun i acc σ H'=>Same H3 H'/\acc.length<=i/\DVs K H' acc ((R.take i).filter (fun p=>so9 xs ts p.1 p.2)|>.map pairD)/\∃o1 o2,σ=[o1,o2,some (.ref a),some (.ref sm)]) ⟨Same.refl _,yab _,.nil,_,_,rfl⟩ (fun i acc σ H' _ p=>p.1.seq (SqL.of e1)) (fun i acc σ H' hi p=>p.2.1) hz (fun i x acc σ H' hx p=> ?_) (fun acc σ H' p=> ?_)
 ·obtain⟨sm',hl,hd,o1,o2,rfl⟩:=p
  obtain⟨t,hi,rfl,ht⟩:=pair_at v1 hx
  have sA:=s13.trans sm'
  have hb:=hR' _ (yby hi)
  refine⟨t,_,rfl,sm'.tup ht,rfl,_,_,rfl,_,_,rfl,rfl,?_⟩
  refine⟨_,rfl,_,rfl,_,rfl,sm,_,_,_,rfl,rfl,sA.tup hX,at_xs hb.1 (by omega),_,rfl,_,rfl,sm,_,_,_,rfl,rfl,sA.tup hX,at_xs (by omega) hb.2.2,?_⟩
  refine⟨a,n,_,_,ts,rfl,(hA.same sA).web,fun H5 s5=>⟨_,rfl,?_⟩⟩
  rw[filter_take hi]
  refine ite2 (fun c=> ?_) (fun c=> ?_)
  ·refine⟨_,rfl,_,rfl,(by show 2<=sizeLine;decide),fun p hp=> ?_⟩
   have s6:=zad hp (.tup [.int (R[i]).1,.int (R[i]).2])
   refine⟨sm'.trans (s5.trans s6),by rw[yat];show acc.length+1<=i+1;omega,?_,_,_,rfl⟩
   rw[if_pos (show so9 xs ts _ _=true from c),yaf]
   exact(hd.same (s5.trans s6)).append (.cons (.tup (SqT.of zab) (.cons (.int _) (.cons (.int _) .nil))) .nil)
  ·refine⟨sm'.trans s5,by omega,?_,_,_,rfl⟩
   rw[if_neg (show¬so9 xs ts _ _=true from c),ybo]
   exact hd.same s5
 ·intro p1 hp1
  obtain⟨sm',hl,hd,_⟩:=p
  rw[hlen,ybp,<-hR,rows_filter]at hd
  have s5:=zad hp1 (.lst acc)
  have sA:=s13.trans (sm'.trans s5)
  refine⟨_,rfl,sm,_,rfl,.inr (sA.tup hX),fun _=>⟨_,rfl,p1,_,rfl,.inl ⟨SqL.of zab,fun t ht=> ?_⟩⟩⟩
  have s6:=zad ht (.tup acc)
  refine⟨(by show 2<=sizeLine;decide),fun r hr'=> ?_⟩
  rw[yaa]
  have s7:=zad hr' (.tup [.int (xs.length:Int),.ref t])
  exact q r _ (sA.trans (s6.trans s7)) ⟨t,acc,SqT.of zab,SqT.of (s7 _ _ zab),hd.same (s5.trans (s6.trans s7))⟩
noncomputable def sh(b:Int)(p:Int×Int):Int×Int:=(p.1+b,p.2+b)
theorem sh_sorted{b:Int}{ts:List (Int×Int)}(h:ts.Pairwise lt2):(ts.map (sh b)).Pairwise lt2:=by
 rw[ycw]
 refine h.imp fun h=> ?_
 unfold lt2 sh at *
 omega
theorem mem_sh{b:Int}{ts:List (Int×Int)}{p:Int×Int}:p∈ts.map (sh b)↔(p.1-b,p.2-b)∈ts:=by
 rw[ybk]
 constructor
 ·rintro⟨q,hq,rfl⟩
  have e:(q.1+b-b,q.2+b-b)=q:=Prod.ext (by show q.1+b-b=q.1;omega) (by show q.2+b-b=q.2;omega)
  show(q.1+b-b,q.2+b-b)∈ts
  rw[e];exact hq
 ·intro h
  exact⟨_,h,Prod.ext (by show p.1-b+b=p.1;omega) (by show p.2-b+b=p.2;omega)⟩
noncomputable def spMoved(K:W.Frag):Sp:=fun vs H Q _=>∃(a:Addr) (n b:Int) (ts:List (Int×Int)),vs=[.ref a,.int b]/\WebV K H a n ts/\∀l H',Same H H'->LstP K H' l (ts.map (sh b))->H l=none->Q (.ref l) H'
theorem sc_moved:FnScope ["web","by"] ["web","by"] (defScope zcb):=⟨rfl,rfl,rfl,by decide+kernel,rfl,by decide+kernel,by decide+kernel⟩
theorem ok_moved{f:Addr}{fd:FuncData}(F:Fun K "moved_ties" "moved_ties" zcb f fd):FnOk P w K mg base CX0 1 f fd ["web","by"] (spMoved K):=by
 refine F.ok sc_moved (fun vs H Q E h=> ?_) (fun cdv A outer s H vs Q E hr h=> ?_)
 ·obtain⟨a,n,b,ts,rfl,_⟩:=h
  rfl
 obtain⟨a,n,b,ts,rfl,hW,q⟩:=h
 refine⟨_,zaf (zao (zbq (own:=["one","other"]) (caps:=["by"]) (ix:=[1]) rfl (pi_tupL (zay zcf (pv 0) zah (fun _ _=>rfl))) rfl rfl (.cons rfl rfl .nil) (fun _ _ _ _ _=>pg_tupK K (n:=2) rfl (zcm (zaj (i:=0) (show(["one","other","by"]:List Str).Nodup from by decide+kernel) rfl (Or.inl rfl)) (zcm (zaj (i:=1) (show(["one","other","by"]:List Str).Nodup from by decide+kernel) rfl (Or.inl rfl)) pgs_nil))) (fun _ _ _ _ _=>zcl) (fun _ _ _ _ _=>zbw (zaa (zax op_add (pv 0) (pv 2)) (zaa (zax op_add (pv 1) (pv 2)) zac))))),?_⟩
 obtain⟨t,rs,h1,h2,h3⟩:=hW
 refine⟨_,rfl,a,_,_,.ref t,rfl,rfl,h1,rfl,t,rs,rfl,h2,fun hz=> ?_⟩
 have hlen:=h3.len
 rw[yaa]at hlen
 refine zdj (xs:=rs) (fun i acc σ H'=>Same H H'/\acc.length=i/\DVs K H' acc (((ts.take i).map (sh b)).map pairD)/\∃o1 o2,σ=[o1,o2,some (.int b)]) ⟨Same.refl _,rfl,.nil,_,_,rfl⟩ (fun i acc σ H' _ p=>p.1.tup h2) (fun i acc σ H' hi p=>by rw[p.2.1];exact yab _) hz (fun i x acc σ H' hx p=> ?_) (fun acc σ H' p=> ?_)
 ·obtain⟨sm,hl,hd,o1,o2,rfl⟩:=p
  have hi:i<ts.length:=by rw[<-hlen];exact(yao.mp hx).1
  obtain⟨x',d,e1,e2,e3⟩:=DVs.get' (i:=i) h3 (by rw[yaa];exact hi)
  rw[hx]at e1;cases e1
  rw[yae,yac hi]at e2
  cases e2
  cases e3 with
  |tup hp tp=>
   cases tp with
   |cons ta tb=>
    cases tb with
    |cons tc td=>
     cases td
     cases ta
     cases tc
     refine⟨_,_,rfl,sm.tup hp,rfl,_,_,rfl,_,_,rfl,rfl,?_⟩
     refine⟨_,rfl,_,rfl,_,_,rfl,rfl,_,rfl,_,rfl,_,_,rfl,rfl,(by show 2<=sizeLine;decide),fun p hp'=> ?_⟩
     have s2:=zad hp' (.tup [.int (ts[i].1+b),.int (ts[i].2+b)])
     refine⟨sm.trans s2,by rw[yat,hl];rfl,?_,_,_,rfl⟩
     rw[yce,yac hi]
     simp only[Option.toList_some,yaf]
     refine(hd.same s2).append (.cons (.tup (SqT.of zab) (.cons (.int _) (.cons (.int _) .nil))) .nil)
 ·intro p1 hp1
  obtain⟨sm,hl,hd,_⟩:=p
  rw[hlen,ybp]at hd
  have s2:=zad hp1 (.lst acc)
  exact q p1 _ (sm.trans s2) ⟨acc,zab,hd.same s2⟩ (sm.free hp1)
noncomputable def bes(n1:Int)(t1 t2:List (Int×Int)):List (Int×Int):=t1.map (sh 0)++t2.map (sh n1)
theorem mem_bes{n1:Int}{t1 t2:List (Int×Int)}{p:Int×Int}:p∈bes n1 t1 t2↔p∈t1\/(p.1-n1,p.2-n1)∈t2:=by
 unfold bes
 rw[yay,mem_sh,mem_sh]
 have e:(p.1-0,p.2-0)=p:=Prod.ext (by show p.1-0=p.1;omega) (by show p.2-0=p.2;omega)
 rw[e]
theorem bes_sorted{n1 n2:Int}{t1 t2:List (Int×Int)}(h1:PairsOk n1 t1)(h2:PairsOk n2 t2)(s1:t1.Pairwise lt2)(s2:t2.Pairwise lt2):(bes n1 t1 t2).Pairwise lt2:=by
 unfold bes
 rw[yct]
 refine⟨sh_sorted s1,sh_sorted s2,fun p hp q hq=> ?_⟩
 rw[mem_sh]at hp hq
 have a:=h1.lt _ hp
 have b:=h2.lt _ hq
 exact .inl (by have a1:p.1-0<p.2-0:=a.2.1;have a2:p.2-0<n1:=a.2.2;have b1:0<=q.1-n1:=b.1;omega)
theorem bes_lt{n1 n2:Int}{t1 t2:List (Int×Int)}(h1:PairsOk n1 t1)(h2:PairsOk n2 t2)(hn1:0<=n1)(hn2:0<=n2):∀p∈bes n1 t1 t2,0<=p.1/\p.1<p.2/\p.2<n1+n2/\(p.2<n1\/n1<=p.1):=by
 intro p hp
 rw[mem_bes]at hp
 rcases hp with hp|hp
 ·have a:=h1.lt _ hp
  omega
 ·obtain⟨b1,b2,b3⟩:=h2.lt _ hp
  have b1':0<=p.1-n1:=b1
  have b2':p.1-n1<p.2-n1:=b2
  have b3':p.2-n1<n2:=b3
  omega
noncomputable def spBeside(K:W.Frag):Sp:=fun vs H Q _=>∃(a b:Addr) (n1 n2:Int) (t1 t2:List (Int×Int)),vs=[.ref a,.ref b]/\WebV K H a n1 t1/\WebV K H b n2 t2/\WebOk n1 t1/\WebOk n2 t2/\t1.length<=45/\t2.length<=45/\n1+n2<=10/\∀r H',Same H H'->WebV K H' r (n1+n2) (bes n1 t1 t2)->Q (.ref r) H'
theorem sc_beside:FnScope ["one","other","n"] ["one","other"] (defScope s_beside):=⟨rfl,rfl,rfl,by decide+kernel,rfl,by decide+kernel,by decide+kernel⟩
theorem ok_beside{f f1 f2 f3:Addr}{fd d1 d2 d3:FuncData}(F:Fun K "beside" "beside" s_beside f fd)(D1:Dfn K mg "need_web" zbb ["thing"] f1 d1)(G1:FnOk P w K mg base CX0 7 f1 d1 ["thing"] (spNeedWeb K))(D2:Dfn K mg "need_few" zcx ["n"] f2 d2)(G2:FnOk P w K mg base CX0 1 f2 d2 ["n"] (spNeedFew K))(D3:Dfn K mg "moved_ties" zcb ["web","by"] f3 d3)(G3:FnOk P w K mg base CX0 1 f3 d3 ["web","by"] (spMoved K))(mT:mg "tuple"=none):
  FnOk P w K mg base CX0 8 f fd ["one","other"] (spBeside K):=by
 refine F.ok sc_beside (fun vs H Q E h=> ?_) (fun cdv A outer s H vs Q E hr h=> ?_)
 ·obtain⟨a,b,n1,n2,t1,t2,rfl,_⟩:=h
  rfl
 obtain⟨a,b,n1,n2,t1,t2,rfl,hA,hB,oA,oB,lA,lB,hn,q⟩:=h
 refine⟨_,zae (zbs (zag G1 hr rfl D1.m D1.F.kp D1.b .nil pass0 (zaa (pv 0) zac))) (zae (zbs (zag G1 hr rfl D1.m D1.F.kp D1.b .nil pass0 (zaa (pv 1) zac))) (zae (zan (i:=2) sc_beside.nd rfl (Or.inl rfl) (zax op_add (zay zcf (pv 0) zah (fun _ _=>rfl)) (zay zcf (pv 1) zah (fun _ _=>rfl)))) (zae (zbs (zag (G2.mono (by decide)) hr rfl D2.m D2.F.kp D2.b .nil pass0 (zaa (pv 2) zac))) (zaf (zao (zbw (zaa (pv 2) (zaa (zcj zbc rfl mT (by decide+kernel) (zaa (zax op_cat
   (zag (G3.mono (by decide)) hr rfl D3.m D3.F.kp D3.b .nil pass0 (zaa (pv 0) (zaa zah zac)))
   (zag (G3.mono (by decide)) hr rfl D3.m D3.F.kp D3.b .nil pass0 (zaa (pv 1) (zaa (zay zcf (pv 0) zah (fun _ _=>rfl)) zac)))) zac)) zac)))))))),?_⟩
 refine⟨_,rfl,_,_,rfl,hA.dv.dx,oA,fun H1 s1=> ?_⟩
 refine⟨_,rfl,_,_,rfl,(hB.same s1).dv.dx,oB,fun H2 s2=> ?_⟩
 have s12:=s1.trans s2
 obtain⟨ta,ra,a1,a2,a3⟩:=id (hA.same s12)
 obtain⟨tb,rb,b1,b2,b3⟩:=id (hB.same s12)
 refine⟨_,rfl,a,_,_,.int n1,rfl,rfl,a1,rfl,_,rfl,b,_,_,.int n2,rfl,rfl,b1,rfl,_,_,rfl,rfl,?_⟩
 refine⟨_,rfl,n1+n2,rfl,hn,?_⟩
 refine⟨_,rfl,_,rfl,a,n1,0,t1,rfl,hA.same s12,fun l1 H3 s3 p1 _=> ?_⟩
 refine⟨_,rfl,_,rfl,a,_,_,.int n1,rfl,rfl,s3.tup a1,rfl,b,n2,n1,t2,rfl,(hB.same s12).same s3,fun l2 H4 s4 p2 _=> ?_⟩
 obtain⟨r1,e1,v1⟩:=(p1.same s4).ex
 obtain⟨r2,e2,v2⟩:=p2.ex
 have hl1:=v1.len
 have hl2:=v2.len
 simp only[yaa]at hl1 hl2
 refine⟨l1,l2,r1,r2,rfl,rfl,e1,e2,by rw[sizeLine_eq];omega,fun p hp=> ?_⟩
 have s5:=zad hp (.lst (r1++r2))
 refine⟨p,_,rfl,.inl ⟨SqL.of zab,fun t ht=> ?_⟩⟩
 have s6:=zad ht (.tup (r1++r2))
 refine⟨(by show 2<=sizeLine;decide),fun r hr'=> ?_⟩
 have s7:=zad hr' (.tup [.int (n1+n2),.ref t])
 refine q r _ (s12.trans (s3.trans (s4.trans (s5.trans (s6.trans s7))))) ⟨t,r1++r2,SqT.of zab,SqT.of (s7 _ _ zab),?_⟩
 unfold bes
 rw[yaf]
 exact((v1.append v2).same s5).same (s6.trans s7)
noncomputable def srtL(l:List (List Int)):List (List Int):=l.mergeSort fun a b=> !HT.lexLt b a
theorem srtL_perm(l:List (List Int)):(srtL l).Perm l:=List.mergeSort_perm _ _
theorem srtL_sorted(l:List (List Int)):(srtL l).Pairwise fun a b=>HT.lexLt b a=false:=by
 have h:=List.pairwise_mergeSort (le:=fun a b:List Int=> !HT.lexLt b a) (fun a b c h1 h2=> ?_) (fun a b=> ?_) l
 ·exact h.imp fun{a b} z=>by simpa using z
 ·simp only[Bool.not_eq_true',HT.lexLt_iff,decide_eq_false_iff_not]at h1 h2⊢
  exact ycy.mpr (List.le_trans (ycy.mp h1) (ycy.mp h2))
 ·simp only[Bool.or_eq_true,Bool.not_eq_true',HT.lexLt_iff,decide_eq_false_iff_not]
  rcases List.le_total a b with z|z
  ·exact .inl (ycy.mpr z)
  ·exact .inr (ycy.mpr z)
theorem srtL_is{xs l:List (List Int)}(h:xs.Perm l)(hx:xs.Pairwise fun a b=>HT.lexLt b a=false):xs=srtL l:=lex_one (h.trans (srtL_perm l).symm) hx (srtL_sorted l)
noncomputable def ringB(n:Int):List (List Int):=((List.range (n-1).toNat).map fun(t:Nat)=>[0+(t:Int),0+(t:Int)+1])++[[0,n-1]]
noncomputable def unP(l:List Int):Int×Int:=(l.getD 0 0,l.getD 1 0)
noncomputable def ringT(n:Int):List (Int×Int):=(srtL (ringB n)).map unP
theorem dvs_un{H:Hp}:∀its:List (Addr×List Int),(∀p∈its,SqT K H p.1 (p.2.map V.int)/\p.2.length=2)->DVs K H (its.map fun p=>V.ref p.1) ((its.map fun p=>unP p.2).map pairD)
 |[],_=> .nil
 |(a,l)::its,h=>by
  obtain⟨h1,h2⟩:=h _ yap
  have ih:=dvs_un its fun p hp=>h p (yai _ hp)
  match l,h2 with
  |[x,y],_=>exact .cons (.tup h1 (.cons (.int _) (.cons (.int _) .nil))) ih
theorem ring_two{n:Int}:∀l∈ringB n,l.length=2:=fun l hl=>by
 rcases yay.mp hl with z|z
 ·obtain⟨t,_,rfl⟩:=ybk.mp z;rfl
 ·rw[yar.mp z];rfl
theorem ring_web{H:Hp}{n:Int}{its its':List (Addr×List Int)}{t1 wb:Addr}(hm:(its.map (·.2)).Perm (ringB n))(hperm:its'.Perm its)(hsort:its'.Pairwise fun p q=>HT.lexLt q.2 p.2=false)(hT:∀p∈its,SqT K H p.1 (p.2.map V.int))(hwb:SqT K H wb [.int n,.ref t1])(ht1:SqT K H t1 (its'.map fun p=>V.ref p.1)):WebV K H wb n (ringT n):=by
 have e:its'.map (·.2)=srtL (ringB n):=srtL_is ((hperm.map _).trans hm) (by rw[ycw];exact hsort)
 refine⟨t1,_,hwb,ht1,?_⟩
 rw[show ringT n=its'.map fun p=>unP p.2 from by unfold ringT;rw[<-e,ydj];rfl]
 exact dvs_un its' fun p hp=>⟨hT p (hperm.mem_iff.mp hp),ring_two p.2 ((hm.mem_iff).mp (List.mem_map_of_mem (hperm.mem_iff.mp hp)))⟩
noncomputable def spRingW(K:W.Frag):Sp:=fun vs H Q _=>∃n:Int,vs=[.int n]/\3<=n/\n<=10/\∀r H',Same H H'->WebV K H' r n (ringT n)->Q (.ref r) H'
theorem sc_ringW:FnScope ["n","around"] ["n"] (defScope s_ring):=⟨rfl,rfl,rfl,by decide+kernel,rfl,by decide+kernel,by decide+kernel⟩
theorem ok_ringW{f f1:Addr}{fd d1:FuncData}{tk0:Tok}{tk1:Tok}(F:Fun K "ring" "ring" s_ring f fd)(D1:Dfn K mg "need_from_to" zbj ["least","most","thing"] f1 d1)(G1:FnOk P w K mg base CX0 2 f1 d1 ["least","most","thing"] (spFromTo K))(m_range:mg "range"=none)(m_tuple:mg "tuple"=none)(m_sorted:mg "sorted"=none)(m_LEAST_RING:mg "LEAST_RING"=some (.int 3 tk0))(m_MOST_PLACES:mg "MOST_PLACES"=some (.int 10 tk1)):
  FnOk P w K mg base CX0 3 f fd ["n"] (spRingW K):=by
 refine F.ok sc_ringW (fun vs H Q E h=> ?_) (fun cdv A outer s H vs Q E hr h=> ?_)
 ·obtain⟨n,rfl,_⟩:=h
  rfl
 obtain⟨n,rfl,h0,h1,q⟩:=h
 refine⟨_,(zae (zbs (zag G1 hr rfl D1.m D1.F.kp D1.b .nil pass0 (zaa (pe_glob rfl m_LEAST_RING (v:= .int 3) ⟨_,rfl⟩) (zaa (pe_glob rfl m_MOST_PLACES (v:= .int 10) ⟨_,rfl⟩) (zaa (pv 0) zac))))) (zae (zan (i:=1) sc_ringW.nd rfl (Or.inl rfl) (zax op_cat (zbq (own:=["place"]) (caps:=[]) (ix:=[]) rfl (zbp rfl m_range (zaa (zax op_sub (pv 0) zah) zac)) rfl rfl .nil (fun _ _ _ _ _=>(zaj (i:=0) (show(["place"]:List Str).Nodup from by decide+kernel) rfl (Or.inl rfl))) (fun _ _ _ _ _=>zcl) (fun _ _ _ _ _=>(zbw (zaa (pv 0) (zaa (zax op_add (pv 0) zah) zac))))) (pe_lst (zaa (zbw (zaa zah (zaa (zax op_sub (pv 0) zah) zac))) zac)))) (zaf (zao (zbw (zaa (pv 0) (zaa (zcj zbc rfl m_tuple (by decide+kernel) (zaa (zam call_sortedT rfl m_sorted (by decide+kernel) (zaa (pv 1) zac)) zac)) zac))))))),?_⟩
 refine⟨_,rfl,3,10,n,rfl,h0,h1,?_⟩
 refine⟨_,rfl,_,_,rfl,rfl,_,rfl,by omega,by omega,?_⟩
 refine zck (n:=(n-1).toNat) (fun i acc σ H'=>∃its:List (Addr×List Int),acc=its.map (fun p=>V.ref p.1)/\its.map (·.2)=((List.range i).map fun(t:Nat)=>[0+(t:Int),0+(t:Int)+1])/\(∀p∈its,SqT K H' p.1 (p.2.map V.int))/\Same H H'/\∃o,σ=[o]) ⟨[],rfl,rfl,fun p hp=>(nomatch hp),Same.refl _,_,rfl⟩ (fun i acc σ H' hi p=> ?_) (by rw[sizeLine_eq];omega) (fun i acc σ H' hi p=> ?_) (fun acc σ H' p=> ?_)
 ·obtain⟨its,rfl,hl,_⟩:=p
  have:=congrArg List.length hl
  rw[yaa,yaa,ybe]at this
  rw[yaa,this];exact yab _
 ·obtain⟨its,rfl,hl,hok,sm,o,rfl⟩:=p
  refine⟨_,rfl,_,rfl,_,_,rfl,rfl,(by show 2<=sizeLine;decide),fun pn hpn=> ?_⟩
  have sn:=zad hpn (.tup [.int (0+(i:Int)),.int (0+(i:Int)+1)])
  refine⟨its++[(pn,[0+(i:Int),0+(i:Int)+1])],by rw[yaf];rfl,by rw[yaf,hl,ybt,yaf];rfl,fun p hp=> ?_,sm.trans sn,_,rfl⟩
  rcases yay.mp hp with z|z
  ·exact sn.tup (hok p z)
  ·rw[yar.mp z]
   exact SqT.of zab
 ·intro p1 hp1
  obtain⟨its,rfl,hl,hok,sm,_⟩:=p
  have hlen:its.length=(n-1).toNat:=by
   have:=congrArg List.length hl
   rwa [yaa,yaa,ybe]at this
  have s2:=zad hp1 (.lst (its.map fun p=>V.ref p.1))
  refine⟨_,rfl,_,_,rfl,rfl,(by show 2<=sizeLine;decide),fun p2 hp2=> ?_⟩
  have s3:=zad hp2 (.tup [.int 0,.int (n-1)])
  have k3:SqT K (upd (upd H' p1 (.lst (its.map fun p=>V.ref p.1))) p2 (.tup [.int 0,.int (n-1)])) p2 (([0,n-1]:List Int).map V.int):=SqT.of zab
  refine⟨(by show 1<=sizeLine;decide),fun p3 hp3=> ?_⟩
  have s4:=zad hp3 (.lst [.ref p2])
  refine⟨p1,p3,_,_,rfl,rfl,s4 _ _ (s3 _ _ zab),zab,(by rw[yaa,hlen,sizeLine_eq];show _+1<=_;omega),fun p4 hp4=> ?_⟩
  have s5:=zad hp4 (.lst (its.map (fun p=>V.ref p.1)++[.ref p2]))
  have s25:=s2.trans (s3.trans (s4.trans s5))
  have k5:=(s4.trans s5).tup k3
  have e5:(upd (upd (upd (upd H' p1 (.lst (its.map fun p=>V.ref p.1))) p2 (.tup [.int 0,.int (n-1)])) p3 (.lst [.ref p2])) p4 (.lst (its.map (fun p=>V.ref p.1)++[.ref p2]))) p4=some (.lst ((its++[(p2,[0,n-1])]).map fun p=>V.ref p.1)):=by rw[zab,yaf];rfl
  generalize (upd (upd (upd (upd H' p1 (.lst (its.map fun p=>V.ref p.1))) p2 (.tup [.int 0,.int (n-1)])) p3 (.lst [.ref p2])) p4 (.lst (its.map (fun p=>V.ref p.1)++[.ref p2])))=H5 at *
  have hT:∀p∈its++[(p2,[0,n-1])],SqT K H5 p.1 (p.2.map V.int):=fun p hp=>by
   rcases yay.mp hp with z|z
   ·exact s25.tup (hok p z)
   ·rw[yar.mp z];exact k5
  have hm:((its++[(p2,[0,n-1])]).map (·.2)).Perm (ringB n):=by rw[yaf,hl];exact List.Perm.refl _
  refine⟨_,rfl,_,rfl,p4,its++[(p2,[0,n-1])],rfl,SqL.of e5,fun p hp=>⟨hT p hp,fun e=> ?_⟩,by rw[yat,hlen];show _+1<64;omega,fun l its' hl' hperm hsort=> ?_⟩
  ·have:=ring_two p.2 ((hm.mem_iff).mp (List.mem_map_of_mem hp))
   rw[e]at this;cases this
  ·have s6:=zad hl' (.lst (its'.map fun p=>V.ref p.1))
   refine⟨l,_,rfl,.inl ⟨SqL.of zab,fun t ht=>⟨(by show 2<=sizeLine;decide),fun r hr'=> ?_⟩⟩⟩
   have s7:=zad ht (.tup (its'.map fun p=>V.ref p.1))
   have s8:=zad hr' (.tup [.int n,.ref t])
   refine q r _ (sm.trans (s25.trans (s6.trans (s7.trans s8)))) ?_
   exact ring_web hm hperm hsort (fun p hp=>(s6.trans (s7.trans s8)).tup (hT p hp)) (SqT.of zab) (s8.tup (SqT.of zab))
noncomputable def spWithout(K:W.Frag):Sp:=fun vs H Q _=>∃(a b:Addr) (xs ys:List Int),vs=[.ref a,.ref b]/\SqT K H a (xs.map V.int)/\SqT K H b (ys.map V.int)/\∀r H',Same H H'->H' r=some (.tup ((xs.filter fun o=> !decide (o∈ys)).map V.int))->Q (.ref r) H'
theorem sc_without:FnScope ["some","part"] ["some","part"] (defScope zdf):=⟨rfl,rfl,rfl,by decide+kernel,rfl,by decide+kernel,by decide+kernel⟩
theorem ok_without{f:Addr}{fd:FuncData}(F:Fun K "without" "without" zdf f fd)(m_tuple:mg "tuple"=none):
  FnOk P w K mg base CX0 1 f fd ["some","part"] (spWithout K):=by
 refine F.ok sc_without (fun vs H Q E h=> ?_) (fun cdv A outer s H vs Q E hr h=> ?_)
 ·obtain⟨a,b,xs,ys,rfl,_⟩:=h
  rfl
 obtain⟨a,b,xs,ys,rfl,hA,hB,q⟩:=h
 refine⟨_,(zaf (zao (zcj zbc rfl m_tuple (by decide+kernel) (zaa (zbq (own:=["place"]) (caps:=["part"]) (ix:=[1]) rfl (pi_tupL (pv 0)) rfl rfl (.cons rfl rfl .nil) (fun _ _ _ _ _=>(zaj (i:=0) (show(["place","part"]:List Str).Nodup from by decide+kernel) rfl (Or.inl rfl))) (fun _ _ _ _ _=>pts_one (zas (op_notInDK K hr.units) (pv 0) (pv 1) (by with_unfolding_all rfl))) (fun _ _ _ _ _=>(pv 0))) zac)))),?_⟩
 refine⟨_,rfl,a,_,rfl,hA,fun hz=> ?_⟩
 refine zdj (xs:=xs.map V.int) (fun k acc σ H'=>acc=((xs.take k).filter fun o=> !decide (o∈ys)).map V.int/\Same H H'/\∃o,σ=[o,some (.ref b)]) ⟨rfl,Same.refl _,_,rfl⟩ (fun k acc σ H' _ p=>p.2.1.tup hA) (fun k acc σ H' hk p=> ?_) hz (fun k x acc σ H' hx pp=> ?_) (fun acc σ H' p=> ?_)
 ·rw[p.1,yaa]
  exact yau (ybc _ _) (by rw[ybs];exact yda _ _)
 ·obtain⟨rfl,sm,o,rfl⟩:=pp
  rw[yae]at hx
  cases ex:xs[k]? with
  |none=>rw[ex]at hx;cases hx
  |some y=>
   rw[ex]at hx
   cases hx
   obtain⟨hk,ey⟩:=yao.mp ex
   have e:=zcu (p:=fun o=> !decide (o∈ys)) hk
   rw[ey]at e
   refine⟨_,rfl,_,rfl,b,_,_,.int y,rfl,.inr (sm.tup hB),DVs.ints ys,.int _,zbi ys,rfl,(by show 0<=60;decide),_,rfl,?_⟩
   rw[any_ints]
   refine ite2 (fun c=> ?_) (fun c=> ?_)
   ·exact⟨_,rfl,by rw[e,if_pos c,yaf];rfl,sm,_,rfl⟩
   ·exact⟨by rw[e,if_neg c,ybo],sm,_,rfl⟩
 ·intro p1 hp1
  obtain⟨rfl,sm,_⟩:=p
  refine⟨p1,_,rfl,.inl ⟨SqL.of zab,fun l hl=> ?_⟩⟩
  exact q l _ (sm.trans ((zad hp1 _).trans (zad hl _))) (by rw[zab,yaa,ybp])
noncomputable def spLess(K:W.Frag):Sp:=fun vs H Q _=>∃(p p':Addr) (u u':Int) (v v':Nat),vs=[.ref p,.ref p']/\SqT K H p [.int u,.int ((v:Nat):Int)]/\SqT K H p' [.int u',.int ((v':Nat):Int)]/\v<=39916800/\v'<=39916800/\Q (.bl (decide (u*(v':Int)<u'*(v:Int)))) H
theorem sc_less:FnScope ["one","other"] ["one","other"] (defScope s_is_less):=⟨rfl,rfl,rfl,by decide+kernel,rfl,by decide+kernel,by decide+kernel⟩
theorem ok_less{f:Addr}{fd:FuncData}(F:Fun K "is_less" "is_less" s_is_less f fd):
  FnOk P w K mg base CX0 1 f fd ["one","other"] (spLess K):=by
 refine F.ok sc_less (fun vs H Q E h=> ?_) (fun cdv A outer s H vs Q E hr h=> ?_)
 ·obtain⟨p,p1,u,u1,v,v1,rfl,_⟩:=h
  rfl
 obtain⟨p,p1,u,u1,v,v1,rfl,h1,h2,b1,b2,q⟩:=h
 refine⟨_,(zaf (zao (pe_cmpR op_lt (zax op_mul (zay zcf (pv 0) zah (fun _ _=>rfl)) (zay zcf (pv 1) zah (fun _ _=>rfl))) (zax op_mul (zay zcf (pv 1) zah (fun _ _=>rfl)) (zay zcf (pv 0) zah (fun _ _=>rfl))) (nomark _)))),?_⟩
 exact⟨_,rfl,p,_,_,.int u,rfl,rfl,h1,rfl,_,rfl,p1,_,_,.int v1,rfl,rfl,h2,rfl,_,_,rfl,rfl,.inr ⟨by omega,by omega⟩,_,rfl,p1,_,_,.int u1,rfl,rfl,h2,rfl,_,rfl,p,_,_,.int v,rfl,rfl,h1,rfl,_,_,rfl,rfl,.inr ⟨by omega,by omega⟩,_,_,rfl,rfl,q⟩
end
theorem sm_le{f g:Nat->Int}:∀k,(∀i,i<k->f i<=g i)->Sx.sm k f<=Sx.sm k g
 |0,_=>ycs _
 |k+1,h=>Int.add_le_add (sm_le k fun i hi=>h i (by omega)) (h k (by omega))
theorem setk_of{n:Nat}{ts:List (Int×Int)}{ss:List (List Int)}(hS:SortedF ss ts false n){s:List Int}(h:s∈ss):SetK ts false n s:=sets_k n s (yav.mp (hS.1.mem_iff.mp h)).1
theorem low_cross{u u':Int}{v v':Nat}(hv:0<v)(c1:Nat.gcd u.natAbs v=1)(c2:Nat.gcd u'.natAbs v'=1)(cr:u*(v':Int)=u'*(v:Int)):u=u'/\v=v':=by
 have cn:u.natAbs*v'=u'.natAbs*v:=by
  have:=congrArg Int.natAbs cr
  rwa [yec,yec,ydo,ydo]at this
 have d1:v∣v':=(Nat.Coprime.symm c1).dvd_of_dvd_mul_left (by rw[cn];exact Nat.dvd_mul_left _ _)
 have d2:v'∣v:=(Nat.Coprime.symm c2).dvd_of_dvd_mul_left (by rw[<-cn];exact Nat.dvd_mul_left _ _)
 have ev:=Nat.dvd_antisymm d1 d2
 subst ev
 exact⟨ydx (a:=(v:Int)) (by omega) cr,rfl⟩
theorem weak{n:Nat}{ts:List (Int×Int)}{ss ss':List (List Int)}{wl:List Int}{ov ov':Nat}{Z Z':Int}{Y X Y' X':Nat->Int}(hS:SortedF ss ts false n)(hS':SortedF ss' ts false n)(h:Sh n ss wl ov Z Y X)(h':Sh n ss' wl ov' Z' Y' X'):Z*(ov':Int)<=Z'*(ov:Int):=by
 have lig:∀k,k<ss'.length->(Sx.sm n fun p=>if setS ss' k p=true then X p else 0)<=(ov:Int):=fun k hk=>by
  have m:ss'[k]∈ss:=hS.1.mem_iff.mpr (hS'.1.mem_iff.mp (yby hk))
  obtain⟨j,hj,ej⟩:=ybw m
  have e:=h.lig j hj
  have:∀p,setS ss' k p=setS ss j p:=fun p=>by
   unfold setS
   rw[yag,yag,yac hk,yac hj,ej]
  simp only[this]
  exact e
 have a1:Z*(ov':Int)=Sx.sm n fun p=>(ov':Int)*(wtF wl p*X p):=by rw[Sx.sm_mul,h.wor,ycd]
 have a2:(Sx.sm n fun p=>(ov':Int)*(wtF wl p*X p))<=Sx.sm n fun p=>Sx.sm ss'.length fun k=>X p*(if setS ss' k p=true then Y' k else 0):=by
  refine sm_le n fun p hp=> ?_
  rw[Sx.sm_mul]
  have:=ybl (h'.eno p hp) (h.xn p)
  have x:(ov':Int)*(wtF wl p*X p)=X p*((ov':Int)*wtF wl p):=by grind
  rw[x];exact this
 have a3:=Sx.sm_swap (fun p k=>X p*(if setS ss' k p=true then Y' k else 0)) ss'.length n
 have a4:(Sx.sm ss'.length fun k=>Sx.sm n fun p=>X p*(if setS ss' k p=true then Y' k else 0))<=Sx.sm ss'.length fun k=>(ov:Int)*Y' k:=by
  refine sm_le _ fun k hk=> ?_
  have e:(Sx.sm n fun p=>X p*(if setS ss' k p=true then Y' k else 0))=Sx.sm n fun p=>Y' k*(if setS ss' k p=true then X p else 0):=Sx.sm_congr n fun p _=>by split<;>grind
  rw[e,Sx.sm_mul]
  have:=ybl (lig k hk) (h'.yn k)
  rw[ycd (ov:Int)];exact this
 have a5:(Sx.sm ss'.length fun k=>(ov:Int)*Y' k)=Z'*(ov:Int):=by rw[Sx.sm_mul,h'.tot,ycd]
 rw[a1]
 refine Int.le_trans a2 ?_
 rw[a3]
 refine Int.le_trans a4 ?_
 rw[a5]
 exact ycs _
theorem sh_one{n:Nat}{ts:List (Int×Int)}{ss ss':List (List Int)}{wl:List Int}{ov ov':Nat}{Z Z':Int}{Y X Y' X':Nat->Int}(hS:SortedF ss ts false n)(hS':SortedF ss' ts false n)(h:Sh n ss wl ov Z Y X)(h':Sh n ss' wl ov' Z' Y' X'):lowF Z ov=lowF Z' ov':=by
 have e:=Int.le_antisymm (weak hS hS' h h') (weak hS' hS h' h)
 have l:=lowF_low Z h.pos
 have l':=lowF_low Z' h'.pos
 have p1:=h.pos
 have p2:=h'.pos
 have e1:=l.eq
 have e2:=l'.eq
 obtain⟨x,y⟩:=low_cross l.pos l.cop l'.cop (by
  refine ydx (a:=(ov:Int)*(ov':Int)) ?_ ?_
  ·have:=yeb (a:=(ov:Int)) (b:=(ov':Int)) (by omega) (by omega)
   omega
  ·generalize (lowF Z ov).1=u at *
   generalize (lowF Z ov).2=v at *
   generalize (lowF Z' ov').1=u' at *
   generalize (lowF Z' ov').2=v' at *
   have x1:u*(v':Int)*((ov:Int)*(ov':Int))=(u*(ov:Int))*((v':Int)*(ov':Int)):=by grind
   have x2:u'*(v:Int)*((ov:Int)*(ov':Int))=(u'*(ov':Int))*((v:Int)*(ov:Int)):=by grind
   rw[x1,x2,e1,e2]
   have x3:Z*(v:Int)*((v':Int)*(ov':Int))=(Z*(ov':Int))*((v:Int)*(v':Int)):=by grind
   rw[x3,e];grind)
 exact Prod.ext x y
theorem apart_sum{n:Nat}{ts:List (Int×Int)}{ss:List (List Int)}{wl:List Int}{ov:Nat}{Z:Int}{Y X:Nat->Int}(hS:SortedF ss ts false n)(h:Sh n ss wl ov Z Y X){xs:List Int}(hk:SetK ts false n xs):
  (Sx.sm n fun p=>if decide (((p:Nat):Int)∈xs)=true then X p else 0)<=(ov:Int):=by
 obtain⟨t,ht,hx⟩:=ext_full hk
 obtain⟨k,hk',rfl⟩:=ybw (hS.1.mem_iff.mpr ht)
 refine Int.le_trans (sm_le n fun p hp=> ?_) (h.lig k hk')
 have hxn:=h.xn p
 by_cases c:decide (((p:Nat):Int)∈xs)=true
 ·rw[if_pos c,if_pos]
  ·exact ycs _
  ·unfold setS
   rw[yag,yac hk']
   exact decide_eq_true (hx _ (of_decide_eq_true c))
 ·rw[if_neg c]
  split
  ·exact hxn
  ·exact ycs _
theorem wt_one{n p:Nat}(hp:p<n):wtF (oneL n) p=1:=by
 unfold wtF oneL
 rw[yag,List.getElem?_replicate_of_lt hp];rfl
theorem back_set{n n':Nat}{ts ts':List (Int×Int)}{s:List Int}(φ:Nat->Nat)(irr:∀i,tiedL ts i i=false)(hom:∀i j:Nat,i<n'->j<n'->tiedL ts' i j=true->tiedL ts (φ i) (φ j)=true)(hs:SetK ts false n s):SetK ts' false n' ((upto n').filter fun q=>decide (((φ q.toNat:Nat):Int)∈s)):=by
 have mu:∀x∈((upto n').filter fun q=>decide (((φ q.toNat:Nat):Int)∈s)),(0<=x/\x<(n':Int))/\((φ x.toNat:Nat):Int)∈s:=fun x hx=>by
  obtain⟨h1,h2⟩:=yav.mp hx
  have:=(zdd (n':Int)).lt x h1
  exact⟨this,of_decide_eq_true h2⟩
 refine⟨(zdd (n':Int)).srt.filter _,fun x hx=>(mu x hx).1,fun x hx y hy hne=> ?_⟩
 obtain⟨⟨x0,x1⟩,mx⟩:=mu x hx
 obtain⟨⟨y0,y1⟩,my⟩:=mu y hy
 cases c:tiedL ts' x y with
 |false=>rfl
 |true=>
  have c':tiedL ts' ((x.toNat:Nat):Int) ((y.toNat:Nat):Int)=true:=by rw[Int.toNat_of_nonneg x0,Int.toNat_of_nonneg y0];exact c
  have t:=hom x.toNat y.toNat (by omega) (by omega) c'
  by_cases e:((φ x.toNat:Nat):Int)=((φ y.toNat:Nat):Int)
  ·rw[e,irr]at t;cases t
  ·have:=hs.all _ mx _ my e
   rw[t]at this;cases this
theorem val_hom{n n':Nat}{ts ts':List (Int×Int)}{ss ss':List (List Int)}{ov ov':Nat}{Z Z':Int}{Y X Y' X':Nat->Int}(φ:Nat->Nat)(hφ:∀q,q<n'->φ q<n)(irr:∀i,tiedL ts i i=false)(hom:∀i j:Nat,i<n'->j<n'->tiedL ts' i j=true->tiedL ts (φ i) (φ j)=true)(hS:SortedF ss ts false n)(hS':SortedF ss' ts' false n')(h:Sh n ss (oneL n) ov Z Y X)(h':Sh n' ss' (oneL n') ov' Z' Y' X'):Z'*(ov:Int)<=Z*(ov':Int):=by
 have a1:Z'*(ov:Int)=Sx.sm n' fun q=>(ov:Int)*(wtF (oneL n') q*X' q):=by rw[Sx.sm_mul,h'.wor,ycd]
 have a2:(Sx.sm n' fun q=>(ov:Int)*(wtF (oneL n') q*X' q))<=Sx.sm n' fun q=>Sx.sm ss.length fun k=>X' q*(if setS ss k (φ q)=true then Y k else 0):=by
  refine sm_le n' fun q hq=> ?_
  rw[Sx.sm_mul,wt_one hq,ydl]
  have:=ybl (h.eno (φ q) (hφ q hq)) (h'.xn q)
  rw[wt_one (hφ q hq),Int.mul_one]at this
  rw[ycd];exact this
 have a3:=Sx.sm_swap (fun q k=>X' q*(if setS ss k (φ q)=true then Y k else 0)) ss.length n'
 have a4:(Sx.sm ss.length fun k=>Sx.sm n' fun q=>X' q*(if setS ss k (φ q)=true then Y k else 0))<=Sx.sm ss.length fun k=>(ov':Int)*Y k:=by
  refine sm_le _ fun k hk=> ?_
  have e:(Sx.sm n' fun q=>X' q*(if setS ss k (φ q)=true then Y k else 0))=Sx.sm n' fun q=>Y k*(if setS ss k (φ q)=true then X' q else 0):=Sx.sm_congr n' fun q _=>by split<;>grind
  rw[e,Sx.sm_mul]
  have sk:SetK ts false n (ss.getD k []):=setk_of hS (by rw[yag,yac hk];exact yby hk)
  have al:=apart_sum hS' h' (back_set φ irr hom sk)
  have e2:(Sx.sm n' fun q=>if setS ss k (φ q)=true then X' q else 0)=Sx.sm n' fun p=>if decide (((p:Nat):Int)∈(upto n').filter fun q=>decide (((φ q.toNat:Nat):Int)∈ss.getD k []))=true then X' p else 0:=by
   refine Sx.sm_congr n' fun q hq=> ?_
   have:decide (((q:Nat):Int)∈(upto n').filter fun q=>decide (((φ q.toNat:Nat):Int)∈ss.getD k []))=setS ss k (φ q):=by
    unfold setS
    refine decide_eq_decide.mpr ?_
    rw[yav]
    refine⟨fun z=>of_decide_eq_true z.2,fun z=>⟨?_,decide_eq_true z⟩⟩
    unfold upto
    exact ybk.mpr ⟨q,ybf.mpr hq,rfl⟩
   rw[this]
  rw[e2]
  have:=ybl al (h.yn k)
  rw[ycd (ov':Int)];exact this
 have a5:(Sx.sm ss.length fun k=>(ov':Int)*Y k)=Z*(ov':Int):=by rw[Sx.sm_mul,h.tot,ycd]
 rw[a1]
 refine Int.le_trans a2 ?_
 rw[a3]
 refine Int.le_trans a4 ?_
 rw[a5]
 exact ycs _
noncomputable def IsVal(n:Int)(ts:List (Int×Int))(f:Int×Nat):Prop:=∃(ss:List (List Int)) (ov:Nat) (Z:Int) (Y X:Nat->Int),SortedF ss ts false n.toNat/\Sh n.toNat ss (oneL n.toNat) ov Z Y X/\f=lowF Z ov
theorem IsVal.one{n:Int}{ts:List (Int×Int)}{f g:Int×Nat}(h:IsVal n ts f)(h':IsVal n ts g):f=g:=by
 obtain⟨ss,ov,Z,Y,X,a,b,rfl⟩:=h
 obtain⟨ss',ov',Z',Y',X',a',b',rfl⟩:=h'
 exact sh_one a a' b b'
noncomputable def leF(f g:Int×Nat):Prop:=f.1*(g.2:Int)<=g.1*(f.2:Int)
structure Frc(f:Int×Nat):Prop where
 pos:0<f.2
 cop:Nat.gcd f.1.natAbs f.2=1
 nn:0<=f.1
 big:f.2<=39916800
theorem leF.anti{f g:Int×Nat}(h:leF f g)(h':leF g f)(a:Frc f)(b:Frc g):f=g:=by
 obtain⟨x,y⟩:=low_cross a.pos a.cop b.cop (Int.le_antisymm h h')
 exact Prod.ext x y
theorem IsVal.frc{n:Int}{ts:List (Int×Int)}{f:Int×Nat}(h:IsVal n ts f):Frc f:=by
 obtain⟨ss,ov,Z,Y,X,a,b,rfl⟩:=h
 have l:=lowF_low Z b.pos
 refine⟨l.pos,l.cop,l.nn ?_,yau (Nat.div_le_self _ _) b.big⟩
 rw[<-b.tot]
 exact Sx.sm_nn _ fun k _=>b.yn k
theorem val_le{n n':Int}{ts ts':List (Int×Int)}{f f':Int×Nat}(φ:Nat->Nat)(hφ:∀q,q<n'.toNat->φ q<n.toNat)(irr:∀i,tiedL ts i i=false)(hom:∀i j:Nat,i<n'.toNat->j<n'.toNat->tiedL ts' i j=true->tiedL ts (φ i) (φ j)=true)(h:IsVal n ts f)(h':IsVal n' ts' f'):leF f' f:=by
 obtain⟨ss,ov,Z,Y,X,a,b,rfl⟩:=h
 obtain⟨ss',ov',Z',Y',X',a',b',rfl⟩:=h'
 have k:=val_hom φ hφ irr hom a a' b b'
 have l:=lowF_low Z b.pos
 have l':=lowF_low Z' b'.pos
 have p1:=b.pos
 have p2:=b'.pos
 have e1:=l.eq
 have e2:=l'.eq
 have v1:=l.pos
 have v2:=l'.pos
 unfold leF
 generalize (lowF Z ov).1=u at *
 generalize (lowF Z ov).2=v at *
 generalize (lowF Z' ov').1=u' at *
 generalize (lowF Z' ov').2=v' at *
 refine Int.le_of_mul_le_mul_right (a:=(ov:Int)*(ov':Int)) ?_ (yeb (by omega) (by omega))
 have x1:u'*(v:Int)*((ov:Int)*(ov':Int))=(u'*(ov':Int))*((v:Int)*(ov:Int)):=by grind
 have x2:u*(v':Int)*((ov:Int)*(ov':Int))=(u*(ov:Int))*((v':Int)*(ov':Int)):=by grind
 rw[x1,x2,e1,e2]
 have x3:Z'*(v':Int)*((v:Int)*(ov:Int))=(Z'*(ov:Int))*((v:Int)*(v':Int)):=by grind
 have x4:Z*(v:Int)*((v':Int)*(ov':Int))=(Z*(ov':Int))*((v:Int)*(v':Int)):=by grind
 rw[x3,x4]
 exact Int.mul_le_mul_of_nonneg_right k (ycj (by omega) (by omega))
noncomputable def cutT(xs:List Int)(ts:List (Int×Int)):List (Int×Int):=rows (so9 xs ts) (xs.length:Int) (xs.length:Int).toNat
theorem cut_irr(xs:List Int)(ts:List (Int×Int))(i:Int):tiedL (cutT xs ts) i i=false:=by
 unfold tiedL cutT
 have:¬(i,i)∈rows (so9 xs ts) (xs.length:Int) (xs.length:Int).toNat:=fun h=>by
  rw[zdh]at h
  have:i<i:=h.2.2.1
  omega
 rw[decide_eq_false this];rfl
theorem cut_ok(xs:List Int)(ts:List (Int×Int))(h:xs.length<=10):PairsOk (xs.length:Int) (cutT xs ts)/\WebOk (xs.length:Int) (cutT xs ts):=by
 refine web_of_sub (i:=(xs.length:Int).toNat) (by omega) (by omega) ?_
 unfold cutT
 rw[<-rows_filter]
 exact ydz
theorem get_mem{xs:List Int}{i:Nat}(h:i<xs.length):xs.getD i 0∈xs:=by
 rw[yag,yac h]
 exact yby h
theorem up_lt{xs:List Int}(hs:xs.Pairwise (· < ·)){i j:Nat}(hj:j<xs.length)(hij:i<j):xs.getD i 0<xs.getD j 0:=by
 rw[yag,yag,yac hj,yac (show i<xs.length by omega)]
 exact ybq.mp hs i j (by omega) hj hij
theorem cut_mono{n:Int}{ts:List (Int×Int)}{xs ys:List Int}{f g:Int×Nat}(hx:SetOk n xs)(hy:SetOk n ys)(sub:∀p∈ys,p∈xs)(hf:IsVal (xs.length:Int) (cutT xs ts) f)(hg:IsVal (ys.length:Int) (cutT ys ts) g):leF g f:=by
 have ix:∀q,q<ys.length->xs.idxOf (ys.getD q 0)<xs.length/\xs.getD (xs.idxOf (ys.getD q 0)) 0=ys.getD q 0:=fun q hq=>by
  have m:=sub _ (get_mem hq)
  have l:=List.idxOf_lt_length_of_mem m
  refine⟨l,?_⟩
  rw[yag,yac l]
  exact List.getElem_idxOf l
 have key:∀i j:Nat,((i:Int),(j:Int))∈cutT ys ts->(((xs.idxOf (ys.getD i 0):Nat):Int),((xs.idxOf (ys.getD j 0):Nat):Int))∈cutT xs ts:=fun i j h=>by
  unfold cutT at h⊢
  rw[zdh]at h⊢
  obtain⟨_,_,h3,h4,h5⟩:=h
  have h3':(i:Int)<(j:Int):=h3
  have h4':(j:Int)<(ys.length:Int):=h4
  obtain⟨l1,e1⟩:=ix i (by omega)
  obtain⟨l2,e2⟩:=ix j (by omega)
  have lt:=up_lt hy.srt (i:=i) (j:=j) (by omega) (by omega)
  have lx:xs.idxOf (ys.getD i 0)<xs.idxOf (ys.getD j 0):=by
   refine Nat.lt_of_not_le fun z=> ?_
   rcases Nat.eq_or_lt_of_le z with z|z
   ·rw[z,e1]at e2;omega
   ·have:=up_lt hx.srt l1 z
    omega
  refine⟨Int.natCast_nonneg _,?_,?_,?_,?_⟩
  ·show((xs.idxOf (ys.getD i 0):Nat):Int)<(((xs.length:Int).toNat:Nat):Int);omega
  ·show((xs.idxOf (ys.getD i 0):Nat):Int)<((xs.idxOf (ys.getD j 0):Nat):Int);omega
  ·show((xs.idxOf (ys.getD j 0):Nat):Int)<(xs.length:Int);omega
  ·show so9 xs ts ((xs.idxOf (ys.getD i 0):Nat):Int) ((xs.idxOf (ys.getD j 0):Nat):Int)=true
   have h5':so9 ys ts ((i:Nat):Int) ((j:Nat):Int)=true:=h5
   unfold so9 at h5'⊢
   rw[ybg,ybg]at h5'⊢
   rw[e1,e2];exact h5'
 refine val_le (fun q=>xs.idxOf (ys.getD q 0)) (fun q hq=> ?_) (cut_irr xs ts) (fun i j hi hj t=> ?_) hf hg
 ·rw[ybg]at hq⊢;exact(ix q hq).1
 ·unfold tiedL at t⊢
  rw[Bool.or_eq_true]at t⊢
  rcases t with t|t
  ·exact .inl (decide_eq_true (key i j (of_decide_eq_true t)))
  ·exact .inr (decide_eq_true (key j i (of_decide_eq_true t)))
theorem cut_all{n:Int}{ts:List (Int×Int)}(hn:0<=n)(hp:PairsOk n ts)(hs:ts.Pairwise lt2):cutT (upto n.toNat) ts=ts:=by
 have e:((upto n.toNat).length:Int)=n:=by rw[upto_len];omega
 unfold cutT
 rw[e]
 exact upto_rows hn hp hs
noncomputable def At(ts:List (Int×Int))(xs:List Int):Prop:=∃f,IsVal (xs.length:Int) (cutT xs ts) f
open Classical in
noncomputable def vl(ts:List (Int×Int))(xs:List Int):Int×Nat:=if h:At ts xs then h.choose else(0,1)
theorem vl_is{ts:List (Int×Int)}{xs:List Int}(h:At ts xs):IsVal (xs.length:Int) (cutT xs ts) (vl ts xs):=by
 unfold vl
 rw[dif_pos h]
 exact h.choose_spec
theorem at_vl{ts:List (Int×Int)}{xs:List Int}{f:Int×Nat}(h:IsVal (xs.length:Int) (cutT xs ts) f):At ts xs/\f=vl ts xs:=⟨⟨f,h⟩,h.one (vl_is ⟨f,h⟩)⟩
theorem vl_le{n:Int}{ts:List (Int×Int)}{xs ys:List Int}(hx:SetOk n xs)(hy:SetOk n ys)(sub:∀p∈ys,p∈xs)(a:At ts xs)(b:At ts ys):leF (vl ts ys) (vl ts xs):=cut_mono hx hy sub (vl_is a) (vl_is b)
noncomputable def del(xs:List Int)(p:Int):List Int:=xs.filter fun o=> !decide (o=p)
theorem del_wo(xs:List Int)(p:Int):(xs.filter fun o=> !decide (o∈[p]))=del xs p:=by
 unfold del
 congr 1;funext o
 rw[decide_eq_decide.mpr (yar (a:=o) (b:=p))]
theorem del_ok{n:Int}{xs:List Int}(h:SetOk n xs)(p:Int):SetOk n (del xs p):=⟨h.srt.filter _,fun x hx=>h.lt x (yav.mp hx).1⟩
theorem mem_del{xs:List Int}{p x:Int}:x∈del xs p↔x∈xs/\x≠p:=by
 unfold del
 rw[yav]
 simp
noncomputable def lessB(f g:Int×Nat):Bool:=decide (f.1*(g.2:Int)<g.1*(f.2:Int))
noncomputable def ndB(ts:List (Int×Int))(xs:List Int)(p:Int):Bool:= !decide (vl ts (del xs p)=vl ts xs)
theorem less_nd{n:Int}{ts:List (Int×Int)}{xs:List Int}{p:Int}(hx:SetOk n xs)(a:At ts xs)(b:At ts (del xs p)):lessB (vl ts (del xs p)) (vl ts xs)=ndB ts xs p:=by
 have l:=vl_le hx (del_ok hx p) (fun x hx=>(mem_del.mp hx).1) a b
 unfold lessB ndB
 by_cases e:vl ts (del xs p)=vl ts xs
 ·rw[e,decide_eq_true rfl]
  exact decide_eq_false (Int.lt_irrefl _)
 ·rw[decide_eq_false e]
  refine decide_eq_true (Int.lt_iff_le_and_ne.mpr ⟨l,fun z=>e ?_⟩)
  exact leF.anti l (yee z.symm) (vl_is b).frc (vl_is a).frc
noncomputable def need(ts:List (Int×Int))(xs:List Int):List Int:=xs.filter (ndB ts xs)
structure Atx(ts:List (Int×Int))(xs:List Int):Prop where
 all:At ts xs
 each:∀p∈xs,At ts (del xs p)
structure Held(n:Int)(ts:List (Int×Int))(told:List Int):Prop where
 ok:SetOk n told
 aA:At ts (upto n.toNat)
 aT:At ts told
 eq:vl ts told=vl ts (upto n.toNat)
 why:∀p∈told,∃S,SetOk n S/\(∀x∈told,x∈S)/\At ts (del S p)/\vl ts (del S p)≠vl ts (upto n.toNat)
theorem mem_upto{n:Int}{x:Int}:x∈upto n.toNat↔0<=x/\x<n:=by
 refine⟨fun h=>(zdd n).lt x h,fun h=> ?_⟩
 unfold upto
 exact ybk.mpr ⟨x.toNat,ybf.mpr (by omega),by omega⟩
theorem Held.need{n:Int}{ts:List (Int×Int)}{told:List Int}(h:Held n ts told)(a:Atx ts told):need ts told=told:=by
 refine List.filter_eq_self.mpr fun p hp=> ?_
 unfold ndB
 have:vl ts (del told p)≠vl ts told:=fun e=>by
  obtain⟨S,hS,sub,aS,ne⟩:=h.why p hp
  have l1:=vl_le (del_ok hS p) (del_ok h.ok p) (fun x hx=>mem_del.mpr ⟨sub x (mem_del.mp hx).1,(mem_del.mp hx).2⟩) aS (a.each p hp)
  have l2:=vl_le (zdd n) (del_ok hS p) (fun x hx=>mem_upto.mpr ((del_ok hS p).lt x hx)) h.aA aS
  rw[e,h.eq]at l1
  exact ne (leF.anti l2 l1 (vl_is aS).frc (vl_is h.aA).frc)
 rw[decide_eq_false this];rfl
theorem Held.due{n:Int}{ts:List (Int×Int)}{told:List Int}(h:Held n ts told)(a:Atx ts (upto n.toNat)):∀p∈Hs.need ts (upto n.toNat),p∈told:=fun p hp=>by
 obtain⟨h1,h2⟩:=yav.mp hp
 by_cases c:p∈told
 ·exact c
 ·exfalso
  have e:vl ts (del (upto n.toNat) p)=vl ts (upto n.toNat):=by
   have aD:=a.each p h1
   have l1:=vl_le (del_ok (zdd n) p) h.ok (fun x hx=>mem_del.mpr ⟨mem_upto.mpr (h.ok.lt x hx),fun e=>c (by rw[<-e];exact hx)⟩) aD h.aT
   have l2:=vl_le (zdd n) (del_ok (zdd n) p) (fun x hx=>(mem_del.mp hx).1) a.all aD
   rw[h.eq]at l1
   exact leF.anti l2 l1 (vl_is aD).frc (vl_is a.all).frc
  unfold ndB at h2
  rw[e,decide_eq_true rfl]at h2
  cases h2
noncomputable def partB(n:Int)(ts:List (Int×Int))(xs:List Int):Bool:=HsD.setD n (.tuple (xs.map PyData.int))&&(decide (vl ts xs=vl ts (upto n.toNat))&&decide (Hs.need ts xs=xs))
theorem Held.part{n:Int}{ts:List (Int×Int)}{told:List Int}(h:Held n ts told)(a:Atx ts told):partB n ts told=true:=by
 unfold partB
 rw[h.ok.setD,decide_eq_true h.eq,decide_eq_true (h.need a)];rfl
section
variable{P:Program}{w:World}{K:W.Frag}{mg:Str->Option Value}{base:Heap}
noncomputable def spAWeb(K:W.Frag):Sp:=fun vs H Q _=>∃(tp:Addr) (t m:Int),vs=[.ref tp,.int m]/\H tp=some (.lst [.int t])/\0<=m/\m<=10/\
 ∀r n ts H' t',SameX tp H H'->H' tp=some (.lst [.int t'])->WebIs K H' r n ts->n<=m->Q (.ref r) H'
theorem sc_aweb:FnScope ["tape","most","n","often","ties","i","j"] ["tape","most"] (defScope zcy):=⟨rfl,rfl,rfl,by decide+kernel,rfl,by decide+kernel,by decide+kernel⟩
theorem ok_aweb{f f1:Addr}{fd d1:FuncData}(F:Fun K "_law_aweb" "_law_aweb" zcy f fd)(D1:Dfn K mg "_law_adigit" zbl ["tape","many"] f1 d1)(G1:FnOk P w K mg base CX0 1 f1 d1 ["tape","many"] (spDig K))(m_range:mg "range"=none)(m_tuple:mg "tuple"=none):
  FnOk P w K mg base CX0 2 f fd ["tape","most"] (spAWeb K):=by
 refine F.ok sc_aweb (fun vs H Q E h=> ?_) (fun cdv A outer s H vs Q E hr h=> ?_)
 ·obtain⟨tp,t,m,rfl,_⟩:=h
  rfl
 obtain⟨tp,t,m,rfl,hT,hm0,hm1,q⟩:=h
 refine⟨_,(zae (zan (i:=2) sc_aweb.nd rfl (Or.inl rfl) (zag G1 hr rfl D1.m D1.F.kp D1.b .nil pass0 (zaa (pv 0) (zaa (zax op_add (pv 1) zah) zac)))) (zae (zan (i:=3) sc_aweb.nd rfl (Or.inl rfl) (zax op_add zah (zag G1 hr rfl D1.m D1.F.kp D1.b .nil pass0 (zaa (pv 0) (zaa zah zac))))) (zae (zan (i:=4) sc_aweb.nd rfl (Or.inl rfl) (pe_lst zac)) (zae (ps_for PassesOwn.never rfl (zbp rfl m_range (zaa (pv 2) zac)) (zaj (i:=5) sc_aweb.nd rfl (Or.inl rfl)) (zaf (ps_for PassesOwn.never rfl (pi_range2 rfl m_range (zaa (zax op_add (pv 5) zah) (zaa (pv 2) zac))) (zaj (i:=6) sc_aweb.nd rfl (Or.inl rfl)) (zaf (ps_if (zas op_lt (zag G1 hr rfl D1.m D1.F.kp D1.b .nil pass0 (zaa (pv 0) (zaa zah zac))) (pv 3) (nomark _)) (zaf (zbs (pe_bm PySem.F.plainAttrs_list PySem.F.slot_list_append PySem.F.type_list_append mt_append (pv 4) (zaa (zbw (zaa (pv 5) (zaa (pv 6) zac))) zac)))) zbg))))) (zaf (zao (zbw (zaa (pv 2) (zaa (zcj zbc rfl m_tuple (by decide+kernel) (zaa (pv 4) zac)) zac))))))))),?_⟩
 refine⟨_,rfl,_,rfl,_,_,rfl,rfl,tp,t,m+1,rfl,hT,by omega,by omega,fun n t1 hn0 hn1'=> ?_⟩
 have hn1:n<=10:=by omega
 refine⟨_,rfl,tp,t1,5,rfl,zab,by decide,by decide,fun o t2 ho0 ho1=>⟨_,_,rfl,rfl,?_⟩⟩
 refine⟨(by show 0<=sizeLine;decide),fun tl htl=> ?_⟩
 have ntc:tl≠tp:=none_ne' (zab (H:=upd H tp (.lst [.int t1])) (a:=tp) (o:= .lst [.int t2])) htl
 have s2:=zad htl (.lst [])
 have tl0:H tl=none:=by
  have z:∀t1 t2:Int,upd (upd H tp (.lst [.int t1])) tp (.lst [.int t2])=upd H tp (.lst [.int t2]):=fun _ _=>upd_upd
  rw[z,zai ntc]at htl
  exact htl
 refine⟨_,rfl,n,rfl,by omega,by omega,?_⟩
 refine zdi (n:=n.toNat) (fun i σ H'=>SameX tp H H'/\(∃t',H' tp=some (.lst [.int t']))/\TiesL K H' tl (rows tt n i) (fun _=>True)/\∃a4 a5,σ=[some (.ref tp),some (.int m),some (.int n),some (.int (1+o)),some (.ref tl),a4,a5])
  ⟨((SameX.refl tp H).upd.upd).trans (s2.x _),⟨_,s2 _ _ zab⟩,TiesL.nil zab,_,_,rfl⟩ (fun i σ H' hi p=> ?_) (fun σ H' p=> ?_)
 ·obtain⟨x,⟨t0,c⟩,tl1,a4,a5,rfl⟩:=p
  refine⟨_,rfl,_,_,rfl,rfl,_,rfl,_,_,rfl,⟨by omega,by omega,by omega,by omega⟩,?_⟩
  refine zdi (n:=(n-(0+(i:Int)+1)).toNat) (fun k σ H'=>SameX tp H H'/\(∃t',H' tp=some (.lst [.int t']))/\TiesL K H' tl (rows tt n i++row tt (0+(i:Int)) k) (fun _=>True)/\∃a5,σ=[some (.ref tp),some (.int m),some (.int n),some (.int (1+o)),some (.ref tl),some (.int (0+(i:Int))),a5])
   ⟨x,⟨_,c⟩,by rw[show row tt (0+(i:Int)) 0=[]from rfl,ybo];exact tl1,_,rfl⟩ (fun k σ H' hk p=> ?_) (fun σ H' p=> ?_)
  ·obtain⟨x,⟨t0,c⟩,tl1,a5,rfl⟩:=p
   refine⟨_,rfl,tp,t0,6,rfl,c,by decide,by decide,fun d t2 hd0 hd1=>⟨_,rfl,_,_,rfl,rfl,_,rfl,?_⟩⟩
   have x2:SameX tp H' (upd H' tp (.lst [.int t2])):=(SameX.refl _ _).upd
   have c2:(upd H' tp (.lst [.int t2])) tp=some (.lst [.int t2]):=zab
   have tl2:=tl1.step x2 c ntc
   have er:rows tt n i++row tt (0+(i:Int)) (k+1)=(rows tt n i++row tt (0+(i:Int)) k)++[(0+(i:Int),0+(i:Int)+1+(k:Int))]:=by rw[row_succ,if_pos (show tt _ _=true from rfl),List.append_assoc]
   rw[er]
   generalize upd H' tp (.lst [.int t2])=H2 at *
   refine ite2 (fun cc=> ?_) (fun cc=> ?_)
   ·obtain⟨rs,ts,h1,h2,h3,h4⟩:=tl2
    have hl:=sub_len hn1 (by omega) h3
    have hrl:=h2.len
    rw[yaa]at hrl
    refine⟨_,rfl,.inl ⟨rfl,_,SqL.of h1⟩,_,rfl,_,rfl,(by show 2<=sizeLine;decide),fun p hp=> ?_⟩
    have s3:=zad hp (.tup [.int (0+(i:Int)),.int (0+(i:Int)+1+(k:Int))])
    refine⟨tl,rs,_,rfl,rfl,s3 _ _ h1,(by rw[sizeLine_eq];omega),?_⟩
    have xw:SameX tl (upd H2 p (.tup [.int (0+(i:Int)),.int (0+(i:Int)+1+(k:Int))])) (upd (upd H2 p (.tup [.int (0+(i:Int)),.int (0+(i:Int)+1+(k:Int))])) tl (.lst (rs++[.ref p]))):=(SameX.refl _ _).upd
    refine⟨fun q o hq e=> ?_,⟨t2,xw _ _ ntc.symm (s3 _ _ c2)⟩,TiesL.push (s3 _ _ h1) (h2.same s3) h3 h4 (SqT.of zab) trivial,_,rfl⟩
    have nq:q≠tl:=fun z=>by rw[z,tl0]at e;cases e
    exact xw _ _ nq (s3 _ _ (x2 _ _ hq (x _ _ hq e)))
   ·exact⟨x.trans x2,⟨_,c2⟩,tl2.mono (List.sublist_append_left _ _),_,rfl⟩
  ·obtain⟨x,c,tl1,a5,rfl⟩:=p
   rw[<-rows_succ]at tl1
   exact⟨x,c,tl1,_,_,rfl⟩
 ·obtain⟨x,⟨t0,c⟩,⟨rs,ts,h1,h2,h3,h4⟩,a4,a5,rfl⟩:=p
  refine⟨_,rfl,_,rfl,tl,rs,rfl,.inl ⟨SqL.of h1,fun t ht=>⟨(by show 2<=sizeLine;decide),fun wb hwb=> ?_⟩⟩⟩
  have s3:=zad ht (.tup rs)
  have s4:=zad hwb (.tup [.int n,.ref t])
  have s34:=s3.trans s4
  obtain⟨g1,g2⟩:=web_of_sub hn0 hn1 h3
  exact q wb n ts _ t0 (x.trans (s34.x _)) (s34 _ _ c) ⟨⟨t,rs,SqT.of zab,SqT.of (s4 _ _ zab),h2.same s34⟩,hn0,hn1,g1,g2⟩ (by omega)
theorem depth_all:∀l:List Int,PyData.depthAll (l.map PyData.int)<=1
 |[]=>by decide
 |x::l=>by
  have:=depth_all l
  show max _ (PyData.depthAll (l.map PyData.int))<=1
  exact Nat.max_le.mpr ⟨by show 0<=1;decide,this⟩
noncomputable def frD(f:Int×Nat):PyData:= .tuple [.int f.1,.int ((f.2:Nat):Int)]
theorem FrA.dv{H:Hp}{a:Addr}{f:Int×Nat}(h:FrA K H a f):DV K H (.ref a) (frD f):= .tup h (.cons (.int _) (.cons (.int _) .nil))
theorem eqv_intsT(xs ys:List Int):PyData.eqv (.tuple (xs.map PyData.int)) (.tuple (ys.map PyData.int))=decide (xs=ys):=by
 have:∀(xs ys:List Int),PyData.eqvAll (xs.map PyData.int) (ys.map PyData.int)=decide (xs=ys):=by
  intro xs
  induction xs with
  |nil=>intro ys;cases ys<;>simp[PyData.eqvAll]
  |cons x xs ih=>intro ys;cases ys with
   |nil=>simp[PyData.eqvAll]
   |cons y ys=>
    have e:(x==y)=decide (x=y):=by rw[Bool.eq_iff_iff];simp
    simp[PyData.eqvAll,PyData.eqv,ih,e]
 simp[PyData.eqv,this]
theorem depth_intsT(l m:List Int):min (PyData.tuple (l.map PyData.int)).depth (PyData.tuple (m.map PyData.int)).depth<=64:=by
 have:=depth_all l
 have e:(PyData.tuple (l.map PyData.int)).depth=PyData.depthAll (l.map PyData.int)+1:=rfl
 rw[e];omega
theorem eqv_fr(f g:Int×Nat):PyData.eqv (frD f) (frD g)=decide (f=g):=by
 have h:=eqv_intsT [f.1,((f.2:Nat):Int)] [g.1,((g.2:Nat):Int)]
 refine(show PyData.eqv (frD f) (frD g)=_ from h).trans (decide_eq_decide.mpr ⟨fun e=> ?_,fun e=>by rw[e]⟩)
 obtain⟨e1,e2⟩:=List.cons.inj e
 obtain⟨e3,_⟩:=List.cons.inj e2
 exact Prod.ext e1 (by omega)
theorem tup_upto(n:Nat):tupR n=(upto n).map V.int:=by unfold tupR upto;rw[ydj];rfl
theorem cutWeb{H:Hp}{r:Addr}{n:Int}{xs:List Int}{ts:List (Int×Int)}(h:WebV K H r (xs.length:Int) (cutT xs ts))(hx:SetOk n xs)(hn:n<=10):WebIs K H r (xs.length:Int) (cutT xs ts):=by
 have l:=hx.len hn
 have c:=cut_ok xs ts l
 exact⟨h,by omega,by omega,c.1,c.2⟩
theorem set_of{n:Int}{xs:List Int}(h:HsD.setD n (.tuple (xs.map PyData.int))=true):SetOk n xs:=by
 unfold HsD.setD at h
 rw[Bool.and_eq_true]at h
 obtain⟨h1,h2⟩:=h
 rw[List.all_map,yax]at h1
 rw[ydj]at h2
 have e:xs.map (intD∘PyData.int)=xs:=(ydm fun x _=>rfl).trans (List.map_id xs)
 rw[e]at h2
 refine⟨?_,fun x hx=> ?_⟩
 ·unfold risesI at h2
  rw[yax]at h2
  have g:∀j,(hj:j<xs.length)->xs.getD j 0=xs[j]:=fun j hj=>by rw[yag,yac hj];rfl
  have step:∀k,(hk:k+1<xs.length)->xs[k]<xs[k+1]:=fun k hk=>by
   have:=of_decide_eq_true (h2 k (ybf.mpr (by omega)))
   rw[g k (by omega),g (k+1) hk]at this
   exact this
  have far:∀d i,(h:i+d+1<xs.length)->xs[i]<xs[i+d+1]:=fun d=>by
   induction d with
   |zero=>exact fun i h=>step i h
   |succ d ih=>exact fun i h=>Int.lt_trans (ih i (by omega)) (step (i+d+1) h)
  refine ybq.mpr fun i j hi hj hij=> ?_
  have:=far (j-i-1) i (by omega)
  have e:i+(j-i-1)+1=j:=by omega
  simp only[e]at this
  exact this
 ·have:=h1 x hx
  have this:(decide (0<=x)&&decide (x<n))=true:=this
  rw[Bool.and_eq_true]at this
  exact⟨of_decide_eq_true this.1,of_decide_eq_true this.2⟩
noncomputable def spVwo(K:W.Frag):Sp:=fun vs H Q _=>∃(a sm:Addr) (n:Int) (ts:List (Int×Int)) (xs:List Int) (p:Int),vs=[.ref a,.ref sm,.int p]/\WebIs K H a n ts/\SqT K H sm (xs.map V.int)/\SetOk n xs/\
 ∀va H',Same H H'->FrA K H' va (vl ts (del xs p))->At ts (del xs p)->Q (.ref va) H'
theorem sc_vwo:FnScope ["web","some","place"] ["web","some","place"] (defScope zaz):=⟨rfl,rfl,rfl,by decide+kernel,rfl,by decide+kernel,by decide+kernel⟩
theorem ok_vwo{f f1 f2 f3:Addr}{fd d1 d2 d3:FuncData}(F:Fun K "value_without" "value_without" zaz f fd)(D1:Dfn K mg "value" s_value ["web"] f1 d1)(G1:FnOk P w K mg base CX0 10 f1 d1 ["web"] (spValue K))(D2:Dfn K mg "cut_down" zbv ["web","some"] f2 d2)(G2':FnOk P w K mg base CX0 8 f2 d2 ["web","some"] (spCut K))(D3:Dfn K mg "without" zdf ["some","part"] f3 d3)(G3':FnOk P w K mg base CX0 1 f3 d3 ["some","part"] (spWithout K)):
  FnOk P w K mg base CX0 11 f fd ["web","some","place"] (spVwo K):=by
 have G2:FnOk P w K mg base CX0 10 f2 d2 ["web","some"] (spCut K):=G2'.mono (by decide)
 have G3:FnOk P w K mg base CX0 10 f3 d3 ["some","part"] (spWithout K):=G3'.mono (by decide)
 refine F.ok sc_vwo (fun vs H Q E h=> ?_) (fun cdv A outer s H vs Q E hr h=> ?_)
 ·obtain⟨a,sm,n,ts,xs,p,rfl,_⟩:=h
  rfl
 obtain⟨a,sm,n,ts,xs,p,rfl,hA,hX,hok,qq⟩:=h
 refine⟨_,(zaf (zao (zag G1 hr rfl D1.m D1.F.kp D1.b .nil pass0 (zaa (zag G2 hr rfl D2.m D2.F.kp D2.b .nil pass0 (zaa (pv 0) (zaa (zag G3 hr rfl D3.m D3.F.kp D3.b .nil pass0 (zaa (pv 1) (zaa (zbw (zaa (pv 2) zac)) zac))) zac))) zac)))),?_⟩
 refine⟨_,rfl,_,rfl,_,rfl,(by show 1<=sizeLine;decide),fun p1 hp1=> ?_⟩
 have s1:=zad hp1 (.tup [.int p])
 refine⟨sm,p1,xs,[p],rfl,s1.tup hX,SqT.of zab,fun r H2 s2 h2=> ?_⟩
 rw[del_wo]at h2
 have dk:=del_ok hok p
 refine⟨a,r,n,ts,_,rfl,hA.same (s1.trans s2),SqT.of h2,dk,fun r3 H3 s3 W3=> ?_⟩
 refine⟨r3,_,_,rfl,cutWeb W3 dk hA.h1,fun va ss ov Z Y X H4 s4 e4 hSort hSh=> ?_⟩
 obtain⟨aX,ev⟩:=at_vl (xs:=del xs p) (ts:=ts) (f:=lowF Z ov) ⟨ss,ov,Z,Y,X,hSort,hSh,rfl⟩
 rw[ev]at e4
 exact qq va H4 (s1.trans (s2.trans (s3.trans s4))) e4 aX
theorem filt_go'{p:Int->Bool}{xs:List Int}{i:Nat}{y:Int}(ex:xs[i]? =some y):(xs.take (i+1)).filter p=(xs.take i).filter p++(if p y=true then[y]else[]):=by
 rw[yce,ex,ycq]
 congr 1
 show List.filter p [y]=_
 rw[yci];rfl
noncomputable def spNin(K:W.Frag):Sp:=fun vs H Q _=>∃(a sm:Addr) (n:Int) (ts:List (Int×Int)) (xs:List Int),vs=[.ref a,.ref sm]/\WebIs K H a n ts/\SqT K H sm (xs.map V.int)/\SetOk n xs/\
 ∀r H',Same H H'->H' r=some (.tup ((Hs.need ts xs).map V.int))->Atx ts xs->Q (.ref r) H'
theorem sc_nin:FnScope ["web","some","held"] ["web","some"] (defScope zcg):=⟨rfl,rfl,rfl,by decide+kernel,rfl,by decide+kernel,by decide+kernel⟩
theorem ok_nin{f f1 f2 f3 f4:Addr}{fd d1 d2 d3 d4:FuncData}(F:Fun K "needed_in" "needed_in" zcg f fd)(D1:Dfn K mg "value" s_value ["web"] f1 d1)(G1':FnOk P w K mg base CX0 10 f1 d1 ["web"] (spValue K))(D2:Dfn K mg "cut_down" zbv ["web","some"] f2 d2)(G2':FnOk P w K mg base CX0 8 f2 d2 ["web","some"] (spCut K))(D3:Dfn K mg "is_less" s_is_less ["one","other"] f3 d3)(G3':FnOk P w K mg base CX0 1 f3 d3 ["one","other"] (spLess K))(D4:Dfn K mg "value_without" zaz ["web","some","place"] f4 d4)(G4:FnOk P w K mg base CX0 11 f4 d4 ["web","some","place"] (spVwo K))(m_tuple:mg "tuple"=none):
  FnOk P w K mg base CX0 12 f fd ["web","some"] (spNin K):=by
 have G1:FnOk P w K mg base CX0 11 f1 d1 ["web"] (spValue K):=G1'.mono (by decide)
 have G2:FnOk P w K mg base CX0 11 f2 d2 ["web","some"] (spCut K):=G2'.mono (by decide)
 have G3:FnOk P w K mg base CX0 11 f3 d3 ["one","other"] (spLess K):=G3'.mono (by decide)
 refine F.ok sc_nin (fun vs H Q E h=> ?_) (fun cdv A outer s H vs Q E hr h=> ?_)
 ·obtain⟨a,sm,n,ts,xs,rfl,_⟩:=h
  rfl
 obtain⟨a,sm,n,ts,xs,rfl,hA,hX,hok,qq⟩:=h
 refine⟨_,(zae (zan (i:=2) sc_nin.nd rfl (Or.inr rfl) (zag G1 hr rfl D1.m D1.F.kp D1.b .nil pass0 (zaa (zag G2 hr rfl D2.m D2.F.kp D2.b .nil pass0 (zaa (pv 0) (zaa (pv 1) zac))) zac))) (zaf (zao (zcj zbc rfl m_tuple (by decide+kernel) (zaa (zbq (own:=["place"]) (caps:=["web","some","held"]) (ix:=[0,1,2]) rfl (pi_tupL (pv 1)) rfl rfl (.cons rfl rfl (.cons rfl rfl (.cons rfl rfl .nil))) (fun _ _ _ _ _=>(zaj (i:=0) (show(["place","web","some","held"]:List Str).Nodup from by decide+kernel) rfl (Or.inl rfl))) (fun _ _ _ _ _=>pts_one (pt_val (zag G3 hr rfl D3.m D3.F.kp D3.b .nil pass0 (zaa (zag G4 hr rfl D4.m D4.F.kp D4.b .nil pass0 (zaa (pv 1) (zaa (pv 2) (zaa (pv 0) zac)))) (zaa (pv 3) zac))))) (fun _ _ _ _ _=>(pv 0))) zac))))),?_⟩
 refine⟨_,rfl,_,rfl,a,sm,n,ts,xs,rfl,hA,hX,hok,fun r1 H1 s1 W1=> ?_⟩
 refine⟨r1,_,_,rfl,cutWeb W1 hok hA.h1,fun va ss ov Z Y X H2 s2 e2 hSort hSh=> ?_⟩
 obtain⟨aX,ev⟩:=at_vl (xs:=xs) (ts:=ts) (f:=lowF Z ov) ⟨ss,ov,Z,Y,X,hSort,hSh,rfl⟩
 rw[ev]at e2
 have s12:=s1.trans s2
 refine⟨_,rfl,sm,_,rfl,s12.tup hX,fun hz=> ?_⟩
 refine zdj (xs:=xs.map V.int) (fun i acc σ H'=>acc=((xs.take i).filter (ndB ts xs)).map V.int/\Same H2 H'/\(∀p∈xs.take i,At ts (del xs p))/\∃o,σ=[o,some (.ref a),some (.ref sm),some (.ref va)]) ⟨rfl,Same.refl _,fun p hp=>(nomatch hp),_,rfl⟩ (fun i acc σ H' _ p=>(s12.trans p.2.1).tup hX) (fun i acc σ H' hi p=> ?_) hz (fun i x acc σ H' hx p=> ?_) (fun acc σ H' p=> ?_)
 ·rw[p.1,yaa]
  exact yau (ybc _ _) (by rw[ybs];exact yda _ _)
 ·obtain⟨rfl,sm',hat,o,rfl⟩:=p
  rw[yae]at hx
  cases ex:xs[i]? with
  |none=>rw[ex]at hx;cases hx
  |some y=>
   rw[ex]at hx
   cases hx
   have s2':=s12.trans sm'
   refine⟨_,rfl,_,rfl,_,rfl,a,sm,n,ts,xs,y,rfl,hA.same s2',s2'.tup hX,hok,fun vb H5 s5 e5 a5=> ?_⟩
   refine⟨_,rfl,vb,va,_,_,_,_,rfl,e5,(sm'.trans s5).tup e2,(vl_is a5).frc.big,(vl_is aX).frc.big,_,rfl,?_⟩
   have el:decide ((vl ts (del xs y)).1*((vl ts xs).2:Int)<(vl ts xs).1*((vl ts (del xs y)).2:Int))=ndB ts xs y:=less_nd hok aX a5
   rw[el]
   have go:=filt_go' (p:=ndB ts xs) ex
   have hat':∀p∈xs.take (i+1),At ts (del xs p):=fun p hp=>by
    rw[yce,ex]at hp
    rcases yay.mp hp with z|z
    ·exact hat p z
    ·have:p=y:=by simpa using z
     rw[this];exact a5
   refine ite2 (fun c=> ?_) (fun c=> ?_)
   ·exact⟨_,rfl,by rw[go,if_pos c,yaf];rfl,sm'.trans s5,hat',_,rfl⟩
   ·exact⟨by rw[go,if_neg c,ybo],sm'.trans s5,hat',_,rfl⟩
 ·intro p1 hp1
  obtain⟨rfl,sm',hat,_⟩:=p
  rw[yaa,ybp]at *
  have t1:=zad hp1 (.lst ((xs.filter (ndB ts xs)).map V.int))
  refine⟨p1,_,rfl,.inl ⟨SqL.of zab,fun l hl=> ?_⟩⟩
  exact qq l _ (s12.trans (sm'.trans (t1.trans (zad hl _)))) zab ⟨aX,hat⟩
noncomputable def spNed(K:W.Frag):Sp:=fun vs H Q _=>∃(a:Addr) (n:Int) (ts:List (Int×Int)),vs=[.ref a]/\WebIs K H a n ts/\
 ∀r H',Same H H'->H' r=some (.tup ((Hs.need ts (upto n.toNat)).map V.int))->Atx ts (upto n.toNat)->Q (.ref r) H'
theorem sc_ned:FnScope ["web"] ["web"] (defScope s_needed):=⟨rfl,rfl,rfl,by decide+kernel,rfl,by decide+kernel,by decide+kernel⟩
theorem ok_ned{f f1 f2:Addr}{fd d1 d2:FuncData}(F:Fun K "needed" "needed" s_needed f fd)(D1:Dfn K mg "need_web" zbb ["thing"] f1 d1)(G1':FnOk P w K mg base CX0 7 f1 d1 ["thing"] (spNeedWeb K))(D2:Dfn K mg "needed_in" zcg ["web","some"] f2 d2)(G2:FnOk P w K mg base CX0 12 f2 d2 ["web","some"] (spNin K))(m_tuple:mg "tuple"=none)(m_range:mg "range"=none):
  FnOk P w K mg base CX0 13 f fd ["web"] (spNed K):=by
 have G1:FnOk P w K mg base CX0 12 f1 d1 ["thing"] (spNeedWeb K):=G1'.mono (by decide)
 refine F.ok sc_ned (fun vs H Q E h=> ?_) (fun cdv A outer s H vs Q E hr h=> ?_)
 ·obtain⟨a,n,ts,rfl,_⟩:=h
  rfl
 obtain⟨a,n,ts,rfl,hA,qq⟩:=h
 refine⟨_,(zae (zbs (zag G1 hr rfl D1.m D1.F.kp D1.b .nil pass0 (zaa (pv 0) zac))) (zaf (zao (zag G2 hr rfl D2.m D2.F.kp D2.b .nil pass0 (zaa (pv 0) (zaa (pe_tupRange rfl rfl m_tuple rfl m_range (zaa (zay zcf (pv 0) zah (fun _ _=>rfl)) zac)) zac)))))),?_⟩
 have h0:=hA.h0
 have h10:=hA.h1
 refine⟨_,rfl,.ref a,_,rfl,hA.web.dv.dx,hA.ok,fun H1 s1=> ?_⟩
 obtain⟨tt1,rr1,w1,w2,w3⟩:=id (hA.same s1).web
 refine⟨_,rfl,_,rfl,a,_,_,.int n,rfl,rfl,w1,rfl,n,rfl,h0,by omega,fun l hl=> ?_⟩
 rw[tup_upto]
 have s2:=zad hl (.tup ((upto n.toNat).map V.int))
 exact⟨a,l,n,ts,upto n.toNat,rfl,hA.same (s1.trans s2),SqT.of zab,zdd n,fun r H3 s3 h3 a3=>qq r H3 (s1.trans (s2.trans s3)) h3 a3⟩
theorem val_all{n:Int}{ts:List (Int×Int)}(hn:0<=n)(hp:PairsOk n ts)(hs:ts.Pairwise lt2){f:Int×Nat}(h:IsVal n ts f):At ts (upto n.toNat)/\f=vl ts (upto n.toNat):=by
 refine at_vl ?_
 rw[cut_all hn hp hs,upto_len,show((n.toNat:Nat):Int)=n by omega]
 exact h
noncomputable def spIspt(K:W.Frag):Sp:=fun vs H Q _=>∃(a sm:Addr) (n:Int) (ts:List (Int×Int)) (xs:List Int),vs=[.ref a,.ref sm]/\WebIs K H a n ts/\SqT K H sm (xs.map V.int)/\
 ∀H',Same H H'->Q (.bl (partB n ts xs)) H'
theorem sc_ispt:FnScope ["web","some"] ["web","some"] (defScope s_is_part):=⟨rfl,rfl,rfl,by decide+kernel,rfl,by decide+kernel,by decide+kernel⟩
theorem ok_ispt{f f1 f2 f3 f4 f5:Addr}{fd d1 d2 d3 d4 d5:FuncData}(F:Fun K "is_part" "is_part" s_is_part f fd)(D1:Dfn K mg "need_web" zbb ["thing"] f1 d1)(G1':FnOk P w K mg base CX0 7 f1 d1 ["thing"] (spNeedWeb K))(D2:Dfn K mg "value" s_value ["web"] f2 d2)(G2':FnOk P w K mg base CX0 10 f2 d2 ["web"] (spValue K))(D3:Dfn K mg "cut_down" zbv ["web","some"] f3 d3)(G3':FnOk P w K mg base CX0 8 f3 d3 ["web","some"] (spCut K))(D4:Dfn K mg "is_set" s_is_set ["n","thing"] f4 d4)(G4':FnOk P w K mg base CX0 4 f4 d4 ["n","thing"] (spSet K))(D5:Dfn K mg "needed_in" zcg ["web","some"] f5 d5)(G5:FnOk P w K mg base CX0 12 f5 d5 ["web","some"] (spNin K)):
  FnOk P w K mg base CX0 13 f fd ["web","some"] (spIspt K):=by
 have G1:FnOk P w K mg base CX0 12 f1 d1 ["thing"] (spNeedWeb K):=G1'.mono (by decide)
 have G2:FnOk P w K mg base CX0 12 f2 d2 ["web"] (spValue K):=G2'.mono (by decide)
 have G3:FnOk P w K mg base CX0 12 f3 d3 ["web","some"] (spCut K):=G3'.mono (by decide)
 have G4:FnOk P w K mg base CX0 12 f4 d4 ["n","thing"] (spSet K):=G4'.mono (by decide)
 refine F.ok sc_ispt (fun vs H Q E h=> ?_) (fun cdv A outer s H vs Q E hr h=> ?_)
 ·obtain⟨a,sm,n,ts,xs,rfl,_⟩:=h
  rfl
 obtain⟨a,sm,n,ts,xs,rfl,hA,hX,qq⟩:=h
 refine⟨_,(zae (zbs (zag G1 hr rfl D1.m D1.F.kp D1.b .nil pass0 (zaa (pv 0) zac))) (zae (ps_if (PW.pt (pw_or (pt_not (pt_val (zag G4 hr rfl D4.m D4.F.kp D4.b .nil pass0 (zaa (zay zcf (pv 0) zah (fun _ _=>rfl)) (zaa (pv 1) zac))))) (pw_or1 (zas (op_neD hr.units) (zag G2 hr rfl D2.m D2.F.kp D2.b .nil pass0 (zaa (zag G3 hr rfl D3.m D3.F.kp D3.b .nil pass0 (zaa (pv 0) (zaa (pv 1) zac))) zac)) (zag G2 hr rfl D2.m D2.F.kp D2.b .nil pass0 (zaa (pv 0) zac)) (nomark _))))) (zaf (zao pe_bl)) zbg) (zaf (zao (pe_cmpR (op_eqD hr.units) (zag G5 hr rfl D5.m D5.F.kp D5.b .nil pass0 (zaa (pv 0) (zaa (pv 1) zac))) (pv 1) (nomark _)))))),?_⟩
 have h0:=hA.h0
 have h10:=hA.h1
 refine⟨_,rfl,.ref a,_,rfl,hA.web.dv.dx,hA.ok,fun H1 s1=> ?_⟩
 obtain⟨tt1,rr1,w1,w2,w3⟩:=id (hA.same s1).web
 have hDX:DX K H1 (.ref sm) (.tuple (xs.map PyData.int)):=(DV.tup (s1.tup hX) (DVs.ints xs)).dx
 refine⟨_,rfl,a,_,_,.int n,rfl,rfl,w1,rfl,_,rfl,n,.ref sm,_,rfl,hDX,fun H2 s2=>⟨_,rfl,?_⟩⟩
 have s12:=s1.trans s2
 cases hd:HsD.setD n (.tuple (xs.map PyData.int))with
 |false=>
  refine iteT (iteT ?_)
  have e:partB n ts xs=false:=by unfold partB;rw[hd];rfl
  rw[<-e];exact qq H2 s12
 |true=>
  have hok:=set_of hd
  refine iteF ?_
  refine⟨_,rfl,_,rfl,a,sm,n,ts,xs,rfl,hA.same s12,s12.tup hX,hok,fun r3 H3 s3 W3=> ?_⟩
  refine⟨r3,_,_,rfl,cutWeb W3 hok h10,fun va ss ov Z Y X H4 s4 e4 hSort hSh=> ?_⟩
  obtain⟨aX,ev⟩:=at_vl (xs:=xs) (ts:=ts) (f:=lowF Z ov) ⟨ss,ov,Z,Y,X,hSort,hSh,rfl⟩
  rw[ev]at e4
  have s14:=s12.trans (s3.trans s4)
  refine⟨_,rfl,a,n,ts,rfl,hA.same s14,fun vb ss' ov' Z' Y' X' H5 s5 e5 hSort' hSh'=> ?_⟩
  obtain⟨aA,ev'⟩:=val_all h0 hA.pk hA.srt (f:=lowF Z' ov') ⟨ss',ov',Z',Y',X',hSort',hSh',rfl⟩
  rw[ev']at e5
  refine⟨_,_,FrA.dv (s5.tup e4),FrA.dv e5,rfl,rfl,(by show min 1 1<=64;decide),_,rfl,?_⟩
  rw[eqv_fr]
  have s15:=s14.trans s5
  by_cases c:vl ts xs=vl ts (upto n.toNat)
  ·rw[decide_eq_true c]
   refine iteF ?_
   refine⟨_,rfl,_,rfl,a,sm,n,ts,xs,rfl,hA.same s15,s15.tup hX,hok,fun r6 H6 s6 h6 a6=> ?_⟩
   refine⟨_,rfl,.tuple ((Hs.need ts xs).map PyData.int),.tuple (xs.map PyData.int),.tup (SqT.of h6) (DVs.ints _),.tup ((s15.trans s6).tup hX) (DVs.ints _),zbi _,zbi _,depth_intsT _ _,?_⟩
   rw[eqv_intsT]
   have e:partB n ts xs=decide (Hs.need ts xs=xs):=by unfold partB;rw[hd,decide_eq_true c];rfl
   rw[<-e];exact qq H6 (s15.trans s6)
  ·rw[decide_eq_false c]
   refine iteT ?_
   have e:partB n ts xs=false:=by unfold partB;rw[hd,decide_eq_false c];rfl
   rw[<-e];exact qq H5 s15
structure HeldI(n:Int)(ts:List (Int×Int))(i:Nat)(S:List Int):Prop where
 ok:SetOk n S
 aT:At ts S
 eq:vl ts S=vl ts (upto n.toNat)
 why:∀p∈S,p<(i:Int)->∃S',SetOk n S'/\(∀x∈S,x∈S')/\At ts (del S' p)/\vl ts (del S' p)≠vl ts (upto n.toNat)
theorem HeldI.go{n:Int}{ts:List (Int×Int)}{i:Nat}{S:List Int}(h:HeldI n ts i S)(a:At ts (del S (0+(i:Int))))(e:vl ts (del S (0+(i:Int)))=vl ts (upto n.toNat)):HeldI n ts (i+1) (del S (0+(i:Int))):=by
 refine⟨del_ok h.ok _,a,e,fun p hp hi=> ?_⟩
 obtain⟨m1,m2⟩:=mem_del.mp hp
 obtain⟨S',a1,a2,a3,a4⟩:=h.why p m1 (by omega)
 exact⟨S',a1,fun x hx=>a2 x (mem_del.mp hx).1,a3,a4⟩
theorem HeldI.stay{n:Int}{ts:List (Int×Int)}{i:Nat}{S:List Int}(h:HeldI n ts i S)(a:At ts (del S (0+(i:Int))))(e:vl ts (del S (0+(i:Int)))≠vl ts (upto n.toNat)):HeldI n ts (i+1) S:=by
 refine⟨h.ok,h.aT,h.eq,fun p hp hi=> ?_⟩
 by_cases c:p=0+(i:Int)
 ·rw[c];exact⟨S,h.ok,fun x hx=>hx,a,e⟩
 ·exact h.why p hp (by omega)
theorem HeldI.fin{n:Int}{ts:List (Int×Int)}{S:List Int}(h:HeldI n ts n.toNat S)(a:At ts (upto n.toNat)):Held n ts S:=⟨h.ok,a,h.aT,h.eq,fun p hp=>h.why p hp (by have:=h.ok.lt p hp;omega)⟩
noncomputable def spHpt(K:W.Frag):Sp:=fun vs H Q _=>∃(a:Addr) (n:Int) (ts:List (Int×Int)),vs=[.ref a]/\WebIs K H a n ts/\
 ∀r told H',Same H H'->H' r=some (.tup (told.map V.int))->Held n ts told->Q (.ref r) H'
theorem sc_hpt:FnScope ["web","held","some","place"] ["web"] (defScope zcq):=⟨rfl,rfl,rfl,by decide+kernel,rfl,by decide+kernel,by decide+kernel⟩
theorem ok_hpt{f f1 f2 f3 f4:Addr}{fd d1 d2 d3 d4:FuncData}(F:Fun K "held_part" "held_part" zcq f fd)(D1:Dfn K mg "need_web" zbb ["thing"] f1 d1)(G1':FnOk P w K mg base CX0 7 f1 d1 ["thing"] (spNeedWeb K))(D2:Dfn K mg "value" s_value ["web"] f2 d2)(G2':FnOk P w K mg base CX0 10 f2 d2 ["web"] (spValue K))(D3:Dfn K mg "value_without" zaz ["web","some","place"] f3 d3)(G3:FnOk P w K mg base CX0 11 f3 d3 ["web","some","place"] (spVwo K))(D4:Dfn K mg "without" zdf ["some","part"] f4 d4)(G4':FnOk P w K mg base CX0 1 f4 d4 ["some","part"] (spWithout K))(m_tuple:mg "tuple"=none)(m_range:mg "range"=none):
  FnOk P w K mg base CX0 12 f fd ["web"] (spHpt K):=by
 have G1:FnOk P w K mg base CX0 11 f1 d1 ["thing"] (spNeedWeb K):=G1'.mono (by decide)
 have G2:FnOk P w K mg base CX0 11 f2 d2 ["web"] (spValue K):=G2'.mono (by decide)
 have G4:FnOk P w K mg base CX0 11 f4 d4 ["some","part"] (spWithout K):=G4'.mono (by decide)
 refine F.ok sc_hpt (fun vs H Q E h=> ?_) (fun cdv A outer s H vs Q E hr h=> ?_)
 ·obtain⟨a,n,ts,rfl,_⟩:=h
  rfl
 obtain⟨a,n,ts,rfl,hA,qq⟩:=h
 refine⟨_,(zae (zbs (zag G1 hr rfl D1.m D1.F.kp D1.b .nil pass0 (zaa (pv 0) zac))) (zae (zan (i:=1) sc_hpt.nd rfl (Or.inl rfl) (zag G2 hr rfl D2.m D2.F.kp D2.b .nil pass0 (zaa (pv 0) zac))) (zae (zan (i:=2) sc_hpt.nd rfl (Or.inl rfl) (pe_tupRange rfl rfl m_tuple rfl m_range (zaa (zay zcf (pv 0) zah (fun _ _=>rfl)) zac))) (zae (ps_for PassesOwn.never rfl (zbp rfl m_range (zaa (zay zcf (pv 0) zah (fun _ _=>rfl)) zac)) (zaj (i:=3) sc_hpt.nd rfl (Or.inl rfl)) (zaf (ps_if (zas (op_eqD hr.units) (zag G3 hr rfl D3.m D3.F.kp D3.b .nil pass0 (zaa (pv 0) (zaa (pv 2) (zaa (pv 3) zac)))) (pv 1) (nomark _)) (zaf (zan (i:=2) sc_hpt.nd rfl (Or.inl rfl) (zag G4 hr rfl D4.m D4.F.kp D4.b .nil pass0 (zaa (pv 2) (zaa (zbw (zaa (pv 3) zac)) zac))))) zbg))) (zaf (zao (pv 2))))))),?_⟩
 have h0:=hA.h0
 have h10:=hA.h1
 refine⟨_,rfl,.ref a,_,rfl,hA.web.dv.dx,hA.ok,fun H1 s1=> ?_⟩
 refine⟨_,rfl,a,n,ts,rfl,hA.same s1,fun va ss ov Z Y X H2 s2 e2 hSort hSh=> ?_⟩
 obtain⟨aA,ev⟩:=val_all h0 hA.pk hA.srt (f:=lowF Z ov) ⟨ss,ov,Z,Y,X,hSort,hSh,rfl⟩
 rw[ev]at e2
 have s12:=s1.trans s2
 obtain⟨tt1,rr1,w1,w2,w3⟩:=id (hA.same s12).web
 refine⟨_,rfl,a,_,_,.int n,rfl,rfl,w1,rfl,n,rfl,h0,by omega,fun l hl=> ?_⟩
 rw[tup_upto]
 have s3:=zad hl (.tup ((upto n.toNat).map V.int))
 have h3:(upd H2 l (.tup ((upto n.toNat).map V.int))) l=some (.tup ((upto n.toNat).map V.int)):=zab
 generalize (upd H2 l (.tup ((upto n.toNat).map V.int)))=H3 at *
 have s13:=s12.trans s3
 refine⟨_,rfl,a,_,_,.int n,rfl,rfl,s3.tup w1,rfl,n,rfl,by omega,by omega,?_⟩
 refine zdi (n:=n.toNat) (fun i σ H'=>∃(sr:Addr) (S:List Int) (o:Option V),σ=[some (.ref a),some (.ref va),some (.ref sr),o]/\Same H3 H'/\H' sr=some (.tup (S.map V.int))/\HeldI n ts i S) ⟨l,_,_,rfl,Same.refl _,h3,zdd n,aA,rfl,fun p hp hi=> ?_⟩ (fun i σ H' hi p=> ?_) (fun σ H' p=> ?_)
 ·have:=(zdd n).lt p hp
  omega
 ·obtain⟨sr,S,o,rfl,sm,hsr,hI⟩:=p
  have s13':=s13.trans sm
  refine⟨_,rfl,_,rfl,_,rfl,a,sr,n,ts,S,_,rfl,hA.same s13',SqT.of hsr,hI.ok,fun vb H5 s5 e5 a5=> ?_⟩
  refine⟨_,rfl,_,_,FrA.dv e5,FrA.dv ((s3.trans (sm.trans s5)).tup e2),rfl,rfl,(by show min 1 1<=64;decide),_,rfl,?_⟩
  rw[eqv_fr]
  refine ite2 (fun c=> ?_) (fun c=> ?_)
  ·refine⟨_,rfl,_,rfl,(by show 1<=sizeLine;decide),fun p1 hp1=> ?_⟩
   have t1:=zad hp1 (.tup [.int (0+(i:Int))])
   refine⟨sr,p1,S,[0+(i:Int)],rfl,SqT.of ((s5.trans t1) _ _ hsr),SqT.of zab,fun r H7 s7 h7=> ?_⟩
   rw[del_wo]at h7
   exact⟨r,_,_,rfl,sm.trans (s5.trans (t1.trans s7)),h7,hI.go a5 (of_decide_eq_true c)⟩
  ·exact⟨sr,S,_,rfl,sm.trans s5,s5 _ _ hsr,hI.stay a5 (fun z=>c (decide_eq_true z))⟩
 ·obtain⟨sr,S,o,rfl,sm,hsr,hI⟩:=p
  exact⟨_,rfl,qq sr S H' (s13.trans sm) hsr (hI.fin aA)⟩
theorem keyV(xs:List Int):(xs.map (Sum.inl (β:=Str))).map kV=xs.map V.int:=by rw[ydj];rfl
theorem sqt_x{H H':Hp}{d a:Addr}{kvs:List (List Key×V)}{xs:List V}(e:SameX d H H')(hd:H d=some (.dT kvs))(h:SqT K H a xs):SqT K H' a xs:=by
 rcases h with(h|⟨o,h⟩)|h
 ·exact .inl (.inl (e _ _ (fun z=>by rw[z,hd]at h;cases h) h))
 ·exact .inl (.inr ⟨o,e _ _ (fun z=>by rw[z,hd]at h;cases h) h⟩)
 ·exact .inr h
theorem dv_x{H H':Hp}{d:Addr}{kvs:List (List Key×V)}(e:SameX d H H')(hd:H d=some (.dT kvs)){rs:List V}{ts:List (Int×Int)}(h:DVs K H rs (ts.map pairD)):DVs K H' rs (ts.map pairD):=by
 induction ts generalizing rs with
 |nil=>cases h;exact .nil
 |cons t ts ih=>
  cases h with
  |cons h1 h2=>
   refine .cons ?_ (ih h2)
   cases h1 with
   |tup hp tp=>
    cases tp with
    |cons ta tb=>
     cases tb with
     |cons tc td=>
      cases td
      cases ta
      cases tc
      exact .tup (sqt_x e hd hp) (.cons (.int _) (.cons (.int _) .nil))
theorem web_x{H H':Hp}{d a:Addr}{kvs:List (List Key×V)}{n:Int}{ts:List (Int×Int)}(h:WebIs K H a n ts)(e:SameX d H H')(hd:H d=some (.dT kvs)):WebIs K H' a n ts:=by
 obtain⟨t,rs,h1,h2,h3⟩:=id h.web
 exact⟨⟨t,rs,sqt_x e hd h1,sqt_x e hd h2,dv_x e hd h3⟩,h.h0,h.h1,h.pk,h.ok⟩
theorem SameX.new{d l:Addr}{H H':Hp}{o:HO}(e:SameX d H H')(n:H l=none):SameX d H (upd H' l o):=fun b u hn h=>by
 rw[zai (fun z=>by rw[z,n]at h;cases h)];exact e b u hn h
structure KnV(K:W.Frag)(H:Hp)(d:Addr)(ts:List (Int×Int))(kvs:List (List Key×V)):Prop where
 at_:H d=some (.dT kvs)
 all:∀k v,valV kvs k=some v->∃(xs:List Int) (fa:Addr),k=xs.map Sum.inl/\v= .ref fa/\FrA K H fa (vl ts xs)/\At ts xs
theorem KnV.same{H H':Hp}{d:Addr}{ts:List (Int×Int)}{kvs:List (List Key×V)}(h:KnV K H d ts kvs)(s:Same H H'):KnV K H' d ts kvs:=
 ⟨s _ _ h.at_,fun k v e=>by obtain⟨xs,fa,h1,h2,h3,h4⟩:=h.all k v e;exact⟨xs,fa,h1,h2,s.tup h3,h4⟩⟩
theorem KnV.put{H:Hp}{d fa:Addr}{ts:List (Int×Int)}{kvs:List (List Key×V)}{xs:List Int}(h:KnV K H d ts kvs)(hf:FrA K H fa (vl ts xs))(a:At ts xs):KnV K (upd H d (.dT (putK kvs (xs.map Sum.inl) (.ref fa)))) d ts (putK kvs (xs.map Sum.inl) (.ref fa)):=by
 have x:SameX d H (upd H d (.dT (putK kvs (xs.map Sum.inl) (.ref fa)))):=(SameX.refl _ _).upd
 refine⟨zab,fun k v e=> ?_⟩
 rw[valV_put]at e
 by_cases c:k=xs.map Sum.inl
 ·rw[if_pos c]at e
  cases e
  exact⟨xs,fa,c,rfl,sqt_x x h.at_ hf,a⟩
 ·rw[if_neg c]at e
  obtain⟨ys,fb,h1,h2,h3,h4⟩:=h.all k v e
  exact⟨ys,fb,h1,h2,sqt_x x h.at_ h3,h4⟩
theorem map_inl_inj{xs ys:List Int}(h:xs.map (Sum.inl (β:=Str))=ys.map Sum.inl):xs=ys:=by
 induction xs generalizing ys with
 |nil=>cases ys with
  |nil=>rfl
  |cons y ys=>cases h
 |cons x xs ih=>cases ys with
  |nil=>cases h
  |cons y ys=>
   obtain⟨h1,h2⟩:=List.cons.inj h
   rw[Sum.inl.inj h1,ih h2]
theorem KnV.get{H:Hp}{d:Addr}{ts:List (Int×Int)}{kvs:List (List Key×V)}{xs:List Int}(h:KnV K H d ts kvs)(s:(valV kvs (xs.map Sum.inl)).isSome=true):∃fa,valV kvs (xs.map Sum.inl)=some (.ref fa)/\FrA K H fa (vl ts xs)/\At ts xs:=by
 cases e:valV kvs (xs.map Sum.inl)with
 |none=>rw[e]at s;cases s
 |some v=>
  obtain⟨ys,fa,h1,rfl,h3,h4⟩:=h.all _ _ e
  rw[<-map_inl_inj h1]at h3 h4
  exact⟨fa,rfl,h3,h4⟩
theorem put_mono{kvs:List (List Key×V)}{k j:List Key}{v:V}(h:(valV kvs j).isSome=true):(valV (putK kvs k v) j).isSome=true:=by
 rw[valV_put]
 split
 ·rfl
 ·exact h
noncomputable def spANed(K:W.Frag):Sp:=fun vs H Q _=>∃(a sm d:Addr) (n:Int) (ts:List (Int×Int)) (xs:List Int) (kvs:List (List Key×V)),vs=[.ref a,.ref sm,.ref d]/\WebIs K H a n ts/\H sm=some (.tup (xs.map V.int))/\SetOk n xs/\KnV K H d ts kvs/\kvs.length<=10000/\
 ∀r kvs' H',SameX d H H'->KnV K H' d ts kvs'->kvs'.length<=kvs.length+11->(valV kvs' (xs.map Sum.inl)).isSome=true->(∀k,(valV kvs k).isSome=true->(valV kvs' k).isSome=true)->H' r=some (.tup ((Hs.need ts xs).map V.int))->Atx ts xs->Q (.ref r) H'
theorem sc_aned:FnScope ["web","some","known","found","place","fewer"] ["web","some","known"] (defScope zbh):=⟨rfl,rfl,rfl,by decide+kernel,rfl,by decide+kernel,by decide+kernel⟩
theorem ok_aned{f f1 f2:Addr}{fd d1 d2:FuncData}(F:Fun K "_law_aneeded" "_law_aneeded" zbh f fd)(D1:Dfn K mg "value" s_value ["web"] f1 d1)(G1:FnOk P w K mg base CX0 10 f1 d1 ["web"] (spValue K))(D2:Dfn K mg "cut_down" zbv ["web","some"] f2 d2)(G2':FnOk P w K mg base CX0 8 f2 d2 ["web","some"] (spCut K))(m_tuple:mg "tuple"=none):
  FnOk P w K mg base CX0 11 f fd ["web","some","known"] (spANed K):=by
 have G2:FnOk P w K mg base CX0 10 f2 d2 ["web","some"] (spCut K):=G2'.mono (by decide)
 refine F.ok sc_aned (fun vs H Q E h=> ?_) (fun cdv A outer s H vs Q E hr h=> ?_)
 ·obtain⟨a,sm,d,n,ts,xs,kvs,rfl,_⟩:=h
  rfl
 obtain⟨a,sm,d,n,ts,xs,kvs,rfl,hA,hX,hok,hK,hlen,qq⟩:=h
 refine⟨_,(zae (ps_if (zas (op_notInT hr.units) (pv 1) (pv 2) (by with_unfolding_all rfl)) (zaf (ps_dput (hu_of hr) (pv 2) (pv 1) (zag G1 hr rfl D1.m D1.F.kp D1.b .nil pass0 (zaa (zag G2 hr rfl D2.m D2.F.kp D2.b .nil pass0 (zaa (pv 0) (zaa (pv 1) zac))) zac)) rfl)) zbg) (zae (zan (i:=3) sc_aned.nd rfl (Or.inl rfl) (pe_lst zac)) (zae (ps_for PassesOwn.never rfl (pi_tupL (pv 1)) (zaj (i:=4) sc_aned.nd rfl (Or.inr rfl)) (zae (zan (i:=5) sc_aned.nd rfl (Or.inl rfl) (zcj zbc rfl m_tuple (by decide+kernel) (zaa (zbq (own:=["other"]) (caps:=["place"]) (ix:=[4]) rfl (pi_tupL (pv 1)) rfl rfl (.cons rfl rfl .nil) (fun _ _ _ _ _=>(zaj (i:=0) (show(["other","place"]:List Str).Nodup from by decide+kernel) rfl (Or.inl rfl))) (fun _ _ _ _ _=>pts_one (zas op_ne (pv 0) (pv 1) (nomark _))) (fun _ _ _ _ _=>(pv 0))) zac))) (zae (ps_if (zas (op_notInT hr.units) (pv 5) (pv 2) (by with_unfolding_all rfl)) (zaf (ps_dput (hu_of hr) (pv 2) (pv 5) (zag G1 hr rfl D1.m D1.F.kp D1.b .nil pass0 (zaa (zag G2 hr rfl D2.m D2.F.kp D2.b .nil pass0 (zaa (pv 0) (zaa (pv 5) zac))) zac)) rfl)) zbg) (zaf (ps_if (zas (op_neD hr.units) (pe_dget (hu_of hr) (pv 2) (pv 5) (fun _ _=>rfl)) (pe_dget (hu_of hr) (pv 2) (pv 1) (fun _ _=>rfl)) (nomark _)) (zaf (zbs (pe_bm PySem.F.plainAttrs_list PySem.F.slot_list_append PySem.F.type_list_append mt_append (pv 3) (zaa (pv 4) zac)))) zbg))))) (zaf (zao (zcj zbc rfl m_tuple (by decide+kernel) (zaa (pv 3) zac))))))),?_⟩
 have h10:=hA.h1
 have hxl:=hok.len h10
 have ned:sm≠d:=fun z=>by rw[z,hK.at_]at hX;cases hX
 refine seq_mid (fun σ' H'=>∃kvs',σ'=[some (.ref a),some (.ref sm),some (.ref d),none,none,none]/\SameX d H H'/\KnV K H' d ts kvs'/\kvs'.length<=kvs.length+1/\(valV kvs' (xs.map Sum.inl)).isSome=true/\∀k,(valV kvs k).isSome=true->(valV kvs' k).isSome=true) (fun N hN=> ?_) (fun σ' H1 p=> ?_)
 ·refine⟨_,rfl,_,rfl,d,_,rfl,DGet.t (k:=xs.map Sum.inl) hK.at_ (by rw[keyV];exact hX),_,rfl,?_⟩
  refine ite2 (fun c=> ?_) (fun c=> ?_)
  ·refine⟨_,rfl,_,rfl,a,sm,n,ts,xs,rfl,hA,SqT.of hX,hok,fun r3 H3 s3 W3=> ?_⟩
   refine⟨r3,_,_,rfl,cutWeb W3 hok h10,fun va ss ov Z Y X H4 s4 e4 hSort hSh=> ?_⟩
   obtain⟨aX,ev⟩:=at_vl (xs:=xs) (ts:=ts) (f:=lowF Z ov) ⟨ss,ov,Z,Y,X,hSort,hSh,rfl⟩
   rw[ev]at e4
   have s34:=s3.trans s4
   have hK4:=hK.same s34
   refine⟨_,rfl,_,rfl,d,_,rfl,DPut.t (k:=xs.map Sum.inl) hK4.at_ (by rw[keyV];exact s34 _ _ hX) (by rw[sizeLine_eq];omega),?_⟩
   refine hN _ _ ⟨_,rfl,(s34.x d).upd,hK4.put e4 aX,length_putK _ _ _,?_,fun k hk=>put_mono hk⟩
   rw[valV_put,if_pos rfl];rfl
  ·refine hN _ _ ⟨kvs,rfl,SameX.refl _ _,hK,by omega,?_,fun k hk=>hk⟩
   cases z:(valV kvs (xs.map Sum.inl)).isSome with
   |true=>rfl
   |false=>rw[z]at c;exact absurd rfl c
 obtain⟨kvs1,rfl,x1,hK1,hl1,hs1,hm1⟩:=p
 have hA1:=web_x hA x1 hK.at_
 have hX1:=x1 _ _ ned hX
 obtain⟨fx,_,_,aX⟩:=hK1.get hs1
 refine⟨(by show 0<=sizeLine;decide),fun l hl=> ?_⟩
 have nld:l≠d:=fun z=>by rw[z,hK1.at_]at hl;cases hl
 have t1:=zad hl (.lst [])
 have hl0:H l=none:=x1.free nld hl
 have hL2:(upd H1 l (.lst [])) l=some (.lst []):=zab
 have hK2:=hK1.same t1
 have x2:SameX d H (upd H1 l (.lst [])):=x1.trans (t1.x d)
 generalize (upd H1 l (.lst []))=H2 at *
 refine⟨_,rfl,sm,_,rfl,SqT.of (t1 _ _ hX1),fun hz=> ?_⟩
 refine for_tup (K:=K) (a:=sm) (xs:=xs.map V.int) (fun i σ H'=>∃(kvs':List (List Key×V)) (o4 o5:Option V),σ=[some (.ref a),some (.ref sm),some (.ref d),some (.ref l),o4,o5]/\SameX d H H'/\KnV K H' d ts kvs'/\kvs'.length<=kvs.length+1+i/\(valV kvs' (xs.map Sum.inl)).isSome=true/\(∀k,(valV kvs k).isSome=true->(valV kvs' k).isSome=true)/\H' l=some (.lst (((xs.take i).filter (ndB ts xs)).map V.int))/\∀p∈xs.take i,At ts (del xs p))
  ⟨kvs1,_,_,rfl,x2,hK2,hl1,hs1,hm1,hL2,fun p hp=>(nomatch hp)⟩ (fun i σ H' _ p=> ?_) (fun i x σ H' hx p=> ?_) (fun σ H' p=> ?_)
 ·obtain⟨kvs',o4,o5,rfl,x3,hK3,_⟩:=p
  exact SqT.of (x3 _ _ ned hX)
 ·obtain⟨kvs',o4,o5,rfl,x3,hK3,hl3,hs3,hm3,hL3,hat⟩:=p
  rw[yae]at hx
  cases ex:xs[i]? with
  |none=>rw[ex]at hx;cases hx
  |some y=>
   rw[ex]at hx
   cases hx
   have hA3:=web_x hA x3 hK.at_
   have hX3:=x3 _ _ ned hX
   have iL:i<xs.length:=(yao.mp ex).1
   refine⟨_,rfl,sm,_,rfl,SqT.of hX3,fun hz=> ?_⟩
   refine zdj (xs:=xs.map V.int) (fun k acc σ H4=>acc=((xs.take k).filter fun o=> !decide (o=y)).map V.int/\H4=H'/\∃o,σ=[o,some (.int y)]) ⟨rfl,rfl,_,rfl⟩ (fun k acc σ H4 _ p=>by rw[p.2.1];exact SqT.of hX3) (fun k acc σ H4 hk p=> ?_) hz (fun k x acc σ H4 hx p=> ?_) (fun acc σ H4 p=> ?_)
   ·rw[p.1,yaa]
    exact yau (ybc _ _) (by rw[ybs];exact yda _ _)
   ·obtain⟨rfl,rfl,o,rfl⟩:=p
    rw[yae]at hx
    cases ez:xs[k]? with
    |none=>rw[ez]at hx;cases hx
    |some z=>
     rw[ez]at hx
     cases hx
     have go:=filt_go' (p:=fun o=> !decide (o=y)) ez
     refine⟨_,rfl,_,rfl,rfl,_,rfl,?_⟩
     have ee:(!decide (V.int z=V.int y))= !decide (z=y):=by congr 1;exact decide_eq_decide.mpr ⟨fun h=>V.int.inj h,fun h=>by rw[h]⟩
     rw[ee]
     refine ite2 (fun c=> ?_) (fun c=> ?_)
     ·exact⟨_,rfl,by rw[go,if_pos c,yaf];rfl,rfl,_,rfl⟩
     ·exact⟨by rw[go,if_neg c,ybo],rfl,_,rfl⟩
   ·intro p1 hp1
    obtain⟨rfl,rfl,_⟩:=p
    rw[yaa,ybp]at *
    have u1:=zad hp1 (.lst ((xs.filter fun o=> !decide (o=y)).map V.int))
    refine⟨p1,_,rfl,.inl ⟨SqL.of zab,fun fw hfw=> ?_⟩⟩
    have u2:=zad hfw (.tup ((del xs y).map V.int))
    have u12:=u1.trans u2
    have hF:(upd (upd H4 p1 (.lst ((xs.filter fun o=> !decide (o=y)).map V.int))) fw (.tup ((xs.filter fun o=> !decide (o=y)).map V.int))) fw=some (.tup ((del xs y).map V.int)):=zab
    have x4:=x3.trans (u12.x d)
    have hK4:=hK3.same u12
    have hL4:=u12 _ _ hL3
    change Same H4 (upd (upd H4 p1 (.lst ((xs.filter fun o=> !decide (o=y)).map V.int))) fw (.tup ((xs.filter fun o=> !decide (o=y)).map V.int)))at u12
    change SameX d H (upd (upd H4 p1 (.lst ((xs.filter fun o=> !decide (o=y)).map V.int))) fw (.tup ((xs.filter fun o=> !decide (o=y)).map V.int)))at x4
    change KnV K (upd (upd H4 p1 (.lst ((xs.filter fun o=> !decide (o=y)).map V.int))) fw (.tup ((xs.filter fun o=> !decide (o=y)).map V.int))) d ts kvs' at hK4
    change (upd (upd H4 p1 (.lst ((xs.filter fun o=> !decide (o=y)).map V.int))) fw (.tup ((xs.filter fun o=> !decide (o=y)).map V.int))) l=_ at hL4
    generalize (upd (upd H4 p1 (.lst ((xs.filter fun o=> !decide (o=y)).map V.int))) fw (.tup ((xs.filter fun o=> !decide (o=y)).map V.int)))=H5 at *
    have dk:=del_ok hok y
    have nfd:fw≠d:=fun z=>by rw[z,hK4.at_]at hF;cases hF
    have nlf:l≠fw:=fun z=>by rw[z,hF]at hL4;cases hL4
    dsimp only[gName,List.set]
    refine seq_mid (fun σ' H'=>∃kvs2,σ'=[some (.ref a),some (.ref sm),some (.ref d),some (.ref l),some (.int y),some (.ref fw)]/\SameX d H5 H'/\KnV K H' d ts kvs2/\kvs2.length<=kvs'.length+1/\(valV kvs2 ((del xs y).map Sum.inl)).isSome=true/\∀k,(valV kvs' k).isSome=true->(valV kvs2 k).isSome=true) (fun N hN=> ?_) (fun σ' H6 p=> ?_)
    ·refine⟨_,rfl,_,rfl,d,_,rfl,DGet.t (k:=(del xs y).map Sum.inl) hK4.at_ (by rw[keyV];exact hF),_,rfl,?_⟩
     refine ite2 (fun c=> ?_) (fun c=> ?_)
     ·refine⟨_,rfl,_,rfl,a,fw,n,ts,_,rfl,web_x hA x4 hK.at_,SqT.of hF,dk,fun r7 H7 s7 W7=> ?_⟩
      refine⟨r7,_,_,rfl,cutWeb W7 dk h10,fun va ss ov Z Y X H8 s8 e8 hSort hSh=> ?_⟩
      obtain⟨aD,ev⟩:=at_vl (xs:=del xs y) (ts:=ts) (f:=lowF Z ov) ⟨ss,ov,Z,Y,X,hSort,hSh,rfl⟩
      rw[ev]at e8
      have s78:=s7.trans s8
      have hK8:=hK4.same s78
      refine⟨_,rfl,_,rfl,d,_,rfl,DPut.t (k:=(del xs y).map Sum.inl) hK8.at_ (by rw[keyV];exact s78 _ _ hF) (by rw[sizeLine_eq];omega),?_⟩
      refine hN _ _ ⟨_,rfl,(s78.x d).upd,hK8.put e8 aD,length_putK _ _ _,?_,fun k hk=>put_mono hk⟩
      rw[valV_put,if_pos rfl];rfl
     ·refine hN _ _ ⟨kvs',rfl,SameX.refl _ _,hK4,by omega,?_,fun k hk=>hk⟩
      cases z:(valV kvs' ((del xs y).map Sum.inl)).isSome with
      |true=>rfl
      |false=>rw[z]at c;exact absurd rfl c
    obtain⟨kvs2,rfl,x6,hK6,hl6,hs6,hm6⟩:=p
    have hX6:=(x4.trans x6) _ _ ned hX
    have hF6:=x6 _ _ nfd hF
    have hL6:=x6 _ _ nld hL4
    obtain⟨f1,g1,e1,aD⟩:=hK6.get hs6
    obtain⟨f2,g2,e2,_⟩:=hK6.get (hm6 _ hs3)
    have G1:=DGet.t (k:=(del xs y).map Sum.inl) hK6.at_ (by rw[keyV];exact hF6)
    have G2:=DGet.t (k:=xs.map Sum.inl) hK6.at_ (by rw[keyV];exact hX6)
    rw[g1]at G1
    rw[g2]at G2
    refine⟨_,rfl,_,rfl,d,_,rfl,G1,_,rfl,_,rfl,d,_,rfl,G2,_,_,FrA.dv e1,FrA.dv e2,rfl,rfl,(by show min 1 1<=64;decide),_,rfl,?_⟩
    rw[eqv_fr]
    have go:=filt_go' (p:=ndB ts xs) ex
    have hat':∀p∈xs.take (i+1),At ts (del xs p):=fun p hp=>by
     rw[yce,ex]at hp
     rcases yay.mp hp with z|z
     ·exact hat p z
     ·have:p=y:=by simpa using z
      rw[this];exact aD
    have x46:=x4.trans x6
    refine ite2 (fun c=> ?_) (fun c=> ?_)
    ·refine⟨_,rfl,.inl ⟨rfl,_,SqL.of hL6⟩,_,rfl,l,_,_,rfl,rfl,hL6,?_,?_⟩
     ·rw[yaa,sizeLine_eq]
      have:=ybc (ndB ts xs) (xs.take i)
      rw[ybs]at this
      omega
     ·have xl:SameX d H6 (upd H6 l (.lst (((xs.take i).filter (ndB ts xs)).map V.int++[.int y])))->True:=fun _=>trivial
      refine⟨kvs2,_,_,rfl,Hs.SameX.new x46 hl0,⟨by rw[zai (Ne.symm nld)];exact hK6.at_,fun k v ek=> ?_⟩,by omega,hm6 _ hs3,fun k hk=>hm6 k (hm3 k hk),?_,hat'⟩
      ·obtain⟨ys,fb,q1,q2,q3,q4⟩:=hK6.all k v ek
       refine⟨ys,fb,q1,q2,?_,q4⟩
       rcases q3 with(q3|⟨o,q3⟩)|q3
       ·exact .inl (.inl (by rw[zai (fun z=>by rw[z,hL6]at q3;cases q3)];exact q3))
       ·exact .inl (.inr ⟨o,by rw[zai (fun z=>by rw[z,hL6]at q3;cases q3)];exact q3⟩)
       ·exact .inr q3
      ·rw[zab,go,if_pos (show ndB ts xs y=true from c),yaf];rfl
    ·refine⟨kvs2,_,_,rfl,x46,hK6,by omega,hm6 _ hs3,fun k hk=>hm6 k (hm3 k hk),?_,hat'⟩
     rw[go,if_neg (show¬ndB ts xs y=true from c),ybo];exact hL6
 ·obtain⟨kvs',o4,o5,rfl,x3,hK3,hl3,hs3,hm3,hL3,hat⟩:=p
  rw[yaa]at hL3 hat hl3
  rw[ybp]at hL3 hat
  refine⟨_,rfl,l,_,rfl,.inl ⟨SqL.of hL3,fun r hr'=> ?_⟩⟩
  have s4:=zad hr' (.tup ((Hs.need ts xs).map V.int))
  exact qq r kvs' _ (x3.trans (s4.x d)) (hK3.same s4) (by omega) hs3 hm3 zab ⟨aX,hat⟩
theorem inc_one{a b:List Int}(ha:a.Pairwise (· < ·))(hb:b.Pairwise (· < ·))(h:∀k,k∈a↔k∈b):a=b:=by
 have na:a.Nodup:=ha.imp fun h e=>by omega
 have nb:b.Nodup:=hb.imp fun h e=>by omega
 have hp:a.Perm b:=(List.perm_ext_iff_of_nodup na nb).mpr h
 exact List.Perm.eq_of_pairwise (fun x y _ _ (h1:x<=y) (h2:y<=x)=>Int.le_antisymm h1 h2) (show a.Pairwise (fun x y:Int=>x<=y)from ha.imp fun h=>ycp h) (show b.Pairwise (fun x y:Int=>x<=y)from hb.imp fun h=>ycp h) hp
theorem eqv_intsL(xs ys:List Int):PyData.eqv (.list (xs.map PyData.int)) (.list (ys.map PyData.int))=decide (xs=ys):=by
 have h:=eqv_intsT xs ys
 simp only[PyData.eqv]at h⊢
 exact h
theorem depth_intsL(l m:List Int):min (PyData.list (l.map PyData.int)).depth (PyData.list (m.map PyData.int)).depth<=64:=by
 have:=depth_all l
 have e:(PyData.list (l.map PyData.int)).depth=PyData.depthAll (l.map PyData.int)+1:=rfl
 rw[e];omega
noncomputable def spAPt(K:W.Frag):Sp:=fun vs H Q _=>∃(a sm d:Addr) (n:Int) (ts:List (Int×Int)) (xs:List Int) (kvs:List (List Key×V)),vs=[.ref a,.ref sm,.ref d]/\WebIs K H a n ts/\H sm=some (.tup (xs.map V.int))/\xs.length<=40/\KnV K H d ts kvs/\kvs.length<=9000/\
 ∀kvs' H',SameX d H H'->KnV K H' d ts kvs'->kvs'.length<=kvs.length+22->(SetOk n xs->Atx ts xs)->Q (.bl (partB n ts xs)) H'
theorem sc_apt:FnScope ["web","some","known","every","own"] ["web","some","known"] (defScope zbk):=⟨rfl,rfl,rfl,by decide+kernel,rfl,by decide+kernel,by decide+kernel⟩
theorem ok_apt{f f1:Addr}{fd d1:FuncData}(F:Fun K "_law_ais_part" "_law_ais_part" zbk f fd)(D1:Dfn K mg "_law_aneeded" zbh ["web","some","known"] f1 d1)(G1:FnOk P w K mg base CX0 11 f1 d1 ["web","some","known"] (spANed K))(m_tuple:mg "tuple"=none)(m_range:mg "range"=none)(m_list:mg "list"=none)(m_sorted:mg "sorted"=none)(m_set:mg "set"=none):
  FnOk P w K mg base CX0 12 f fd ["web","some","known"] (spAPt K):=by
 refine F.ok sc_apt (fun vs H Q E h=> ?_) (fun cdv A outer s H vs Q E hr h=> ?_)
 ·obtain⟨a,sm,d,n,ts,xs,kvs,rfl,_⟩:=h
  rfl
 obtain⟨a,sm,d,n,ts,xs,kvs,rfl,hA,hX,hxl,hK,hlen,qq⟩:=h
 refine⟨_,(zae (zan (i:=3) sc_apt.nd rfl (Or.inr rfl) (pe_tupRange rfl rfl m_tuple rfl m_range (zaa (zay zcf (pv 0) zah (fun _ _=>rfl)) zac))) (zae (ps_if (PW.pt (pw_or (zas (op_neD hr.units) (zcj call_list_of rfl m_list (by decide+kernel) (zaa (pv 1) zac)) (pe_sortedSet rfl rfl m_sorted rfl m_set (zaa (pv 1) zac)) (nomark _)) (pw_or1 (zas (op_neD hr.units) (zbq (own:=["place"]) (caps:=["every"]) (ix:=[3]) rfl (pi_tupL (pv 1)) rfl rfl (.cons rfl rfl .nil) (fun _ _ _ _ _=>(zaj (i:=0) (show(["place","every"]:List Str).Nodup from by decide+kernel) rfl (Or.inl rfl))) (fun _ _ _ _ _=>pts_one (zas (op_notInDK K hr.units) (pv 0) (pv 1) (by with_unfolding_all rfl))) (fun _ _ _ _ _=>(pv 0))) (pe_lst zac) (nomark _))))) (zaf (zao pe_bl)) zbg) (zae (zan (i:=4) sc_apt.nd rfl (Or.inl rfl) (zag G1 hr rfl D1.m D1.F.kp D1.b .nil pass0 (zaa (pv 0) (zaa (pv 1) (zaa (pv 2) zac))))) (zae (zbs (zag G1 hr rfl D1.m D1.F.kp D1.b .nil pass0 (zaa (pv 0) (zaa (pv 3) (zaa (pv 2) zac))))) (zaf (zao (pe_and (pe_cmpR (op_eqD hr.units) (pe_dget (hu_of hr) (pv 2) (pv 1) (fun _ _=>rfl)) (pe_dget (hu_of hr) (pv 2) (pv 3) (fun _ _=>rfl)) (nomark _)) (pe_one (pe_cmpR (op_eqD hr.units) (pv 4) (pv 1) (nomark _)))))))))),?_⟩
 have h0:=hA.h0
 have h10:=hA.h1
 have ned:sm≠d:=fun z=>by rw[z,hK.at_]at hX;cases hX
 have nope:¬SetOk n xs->partB n ts xs=false:=fun hn=>by
  unfold partB
  cases hd:HsD.setD n (.tuple (xs.map PyData.int))with
  |false=>rfl
  |true=>exact absurd (set_of hd) hn
 obtain⟨tt1,rr1,w1,w2,w3⟩:=id hA.web
 refine⟨_,rfl,a,_,_,.int n,rfl,rfl,w1,rfl,n,rfl,h0,by omega,fun l hl=> ?_⟩
 rw[tup_upto]
 have s1:=zad hl (.tup ((upto n.toNat).map V.int))
 have e1:(upd H l (.tup ((upto n.toNat).map V.int))) l=some (.tup ((upto n.toNat).map V.int)):=zab
 generalize (upd H l (.tup ((upto n.toNat).map V.int)))=H1 at *
 have hX1:=s1 _ _ hX
 refine⟨_,rfl,sm,_,rfl,.inr (SqT.of hX1),fun l2 hl2=> ?_⟩
 have s2:=zad hl2 (.lst (xs.map V.int))
 have e2:(upd H1 l2 (.lst (xs.map V.int))) l2=some (.lst (xs.map V.int)):=zab
 generalize (upd H1 l2 (.lst (xs.map V.int)))=H2 at *
 refine⟨_,rfl,true,sm,xs,rfl,SqT.of (s2 _ _ hX1),by omega,fun r3 ys hr3 hys hm=> ?_⟩
 have s3:=zad hr3 (.lst (ys.map V.int))
 have e3:(upd H2 r3 (.lst (ys.map V.int))) r3=some (.lst (ys.map V.int)):=zab
 generalize (upd H2 r3 (.lst (ys.map V.int)))=H3 at *
 have s23:=s2.trans s3
 have s13:=s1.trans s23
 refine⟨.list (xs.map PyData.int),.list (ys.map PyData.int),.lst (SqL.of (s3 _ _ e2)) (DVs.ints _),.lst (SqL.of e3) (DVs.ints _),zbi _,zbi _,depth_intsL _ _,_,rfl,?_⟩
 rw[eqv_intsL]
 by_cases c1:xs=ys
 ·rw[decide_eq_true c1]
  refine iteF ?_
  have hX3:=s23 _ _ hX1
  have hl3:=s23 _ _ e1
  refine⟨_,rfl,sm,_,rfl,SqT.of hX3,fun hz=> ?_⟩
  refine zdj (xs:=xs.map V.int) (fun k acc σ H'=>acc=((xs.take k).filter fun o=> !decide (o∈upto n.toNat)).map V.int/\H'=H3/\∃o,σ=[o,some (.ref l)]) ⟨rfl,rfl,_,rfl⟩ (fun k acc σ H' _ p=>by rw[p.2.1];exact SqT.of hX3) (fun k acc σ H' hk p=> ?_) hz (fun k x acc σ H' hx p=> ?_) (fun acc σ H' p=> ?_)
  ·rw[p.1,yaa]
   exact yau (ybc _ _) (by rw[ybs];exact yda _ _)
  ·obtain⟨rfl,rfl,o,rfl⟩:=p
   rw[yae]at hx
   cases ex:xs[k]? with
   |none=>rw[ex]at hx;cases hx
   |some y=>
    rw[ex]at hx
    cases hx
    have go:=filt_go' (p:=fun o=> !decide (o∈upto n.toNat)) ex
    refine⟨_,rfl,_,rfl,l,_,_,.int y,rfl,.inr (SqT.of hl3),DVs.ints _,.int _,zbi _,rfl,(by show 0<=60;decide),_,rfl,?_⟩
    rw[any_ints]
    refine ite2 (fun c=> ?_) (fun c=> ?_)
    ·exact⟨_,rfl,by rw[go,if_pos c,yaf];rfl,rfl,_,rfl⟩
    ·exact⟨by rw[go,if_neg c,ybo],rfl,_,rfl⟩
  ·intro p1 hp1
   obtain⟨rfl,rfl,_⟩:=p
   rw[yaa,ybp]at *
   have s4:=zad hp1 (.lst ((xs.filter fun o=> !decide (o∈upto n.toNat)).map V.int))
   have e4:(upd H' p1 (.lst ((xs.filter fun o=> !decide (o∈upto n.toNat)).map V.int))) p1=some (.lst ((xs.filter fun o=> !decide (o∈upto n.toNat)).map V.int)):=zab
   generalize (upd H' p1 (.lst ((xs.filter fun o=> !decide (o∈upto n.toNat)).map V.int)))=H4 at *
   refine⟨(by show 0<=sizeLine;decide),fun p2 hp2=> ?_⟩
   have s5:=zad hp2 (.lst [])
   have e5:(upd H4 p2 (.lst [])) p2=some (.lst []):=zab
   generalize (upd H4 p2 (.lst []))=H5 at *
   refine⟨.list ((xs.filter fun o=> !decide (o∈upto n.toNat)).map PyData.int),.list (([]:List Int).map PyData.int),.lst (SqL.of (s5 _ _ e4)) (DVs.ints _),.lst (SqL.of e5) .nil,zbi _,zbi _,depth_intsL _ _,_,rfl,?_⟩
   rw[eqv_intsL]
   have s15:=s13.trans (s4.trans s5)
   by_cases c2:(xs.filter fun o=> !decide (o∈upto n.toNat))=[]
   ·rw[decide_eq_true c2]
    refine iteF ?_
    have hok:SetOk n xs:=⟨by rw[c1];exact hys,fun x hx=>mem_upto.mp (by
     have:=List.filter_eq_nil_iff.mp c2 x hx
     simpa using this)⟩
    have hX5:=(s4.trans s5) _ _ hX3
    have hl5:=(s4.trans s5) _ _ hl3
    have hK5:=hK.same s15
    refine⟨_,rfl,_,rfl,_,rfl,a,sm,d,n,ts,xs,kvs,rfl,hA.same s15,hX5,hok,hK5,by omega,fun r kvs2 H7 x7 hK7 hl7 hs7 hm7 e7 a7=> ?_⟩
    have nld:l≠d:=fun z=>by rw[z,hK5.at_]at hl5;cases hl5
    refine⟨_,rfl,_,rfl,_,rfl,a,l,d,n,ts,upto n.toNat,kvs2,rfl,web_x (hA.same s15) x7 hK5.at_,x7 _ _ nld hl5,zdd n,hK7,by omega,fun r8 kvs3 H8 x8 hK8 hl8 hs8 hm8 e8 a8=> ?_⟩
    obtain⟨f1,g1,q1,_⟩:=hK8.get (hm8 _ hs7)
    obtain⟨f2,g2,q2,_⟩:=hK8.get hs8
    have x78:=x7.trans x8
    have hX8:=x78 _ _ ned hX5
    have G1:=DGet.t (k:=xs.map Sum.inl) hK8.at_ (by rw[keyV];exact hX8)
    have G2:=DGet.t (k:=(upto n.toNat).map Sum.inl) hK8.at_ (by rw[keyV];exact x78 _ _ nld hl5)
    rw[g1]at G1
    rw[g2]at G2
    have fin:∀b,partB n ts xs=b->Q (.bl b) H8:=fun b eb=>by
     rw[<-eb]
     exact qq kvs3 H8 ((s15.x d).trans x78) hK8 (by omega) fun _=>a7
    refine⟨_,rfl,_,rfl,d,_,rfl,G1,_,rfl,_,rfl,d,_,rfl,G2,_,_,FrA.dv q1,FrA.dv q2,rfl,rfl,(by show min 1 1<=64;decide),_,rfl,?_⟩
    rw[eqv_fr]
    have nrd:r≠d:=fun z=>by rw[z,hK7.at_]at e7;cases e7
    by_cases c3:vl ts xs=vl ts (upto n.toNat)
    ·rw[decide_eq_true c3]
     refine iteT ?_
     refine⟨_,rfl,_,rfl,.tuple ((Hs.need ts xs).map PyData.int),.tuple (xs.map PyData.int),.tup (SqT.of (x8 _ _ nrd e7)) (DVs.ints _),.tup (SqT.of hX8) (DVs.ints _),zbi _,zbi _,depth_intsT _ _,?_⟩
     rw[eqv_intsT]
     refine fin _ ?_
     unfold partB
     rw[hok.setD,decide_eq_true c3];rfl
    ·rw[decide_eq_false c3]
     refine iteF ?_
     refine fin _ ?_
     unfold partB
     rw[decide_eq_false c3,Bool.false_and,Bool.and_false]
   ·rw[decide_eq_false c2]
    refine iteT ?_
    have hn:¬SetOk n xs:=fun h=>c2 (List.filter_eq_nil_iff.mpr fun x hx=>by simpa using mem_upto.mpr (h.lt x hx))
    rw[<-nope hn]
    exact qq kvs H5 (s15.x d) (hK.same s15) (by omega) fun h=>absurd h hn
 ·rw[decide_eq_false c1]
  refine iteT (iteT ?_)
  have hn:¬SetOk n xs:=fun h=>c1 (inc_one h.srt hys fun k=>(hm k).symm)
  rw[<-nope hn]
  exact qq kvs H3 (s13.x d) (hK.same s13) (by omega) fun h=>absurd h hn
theorem call_tuple_ofK{X:Cx}(K:W.Frag)(h:X.K=K:=by rfl):CallR X (.type "tuple") (fun xs H Q=>∃p ys,xs=[.ref p]/\((SqL K H p ys/\∀l,H l=none->Q (.ref l) (upd H l (.tup ys)))\/(SqT K H p ys/\Q (.ref p) H))):=by subst h;exact zbc
theorem pe_sortedSetK{X:Cx}{a:Expr}{ta:TA}{p p' pos pos':Pos}(K:W.Frag)(hc:X.calm=true)(hgL:Gl X "sorted")(hmL:X.mg "sorted"=none)(hg:Gl X "set")(hm:X.mg "set"=none)(ha:PA X [a] ta)(h:X.K=K:=by rfl)(hs:starEach [a] X.env=[(false,eval a X.env)]:=by rfl)(hs2:starEach [Expr.Call (.Name "set" p') [a] [] pos'] X.env=[(false,eval (Expr.Call (.Name "set" p') [a] [] pos') X.env)]:=by rfl):
  PE X (.Call (.Name "sorted" p) [.Call (.Name "set" p') [a] [] pos'] [] pos) (tSortSet K ta):=by subst h;exact pe_sortedSet hc hgL hmL hg hm ha hs hs2
theorem map_cut(ys:List Int)(lo hi:Option Int):∃zs:List Int,cutV (ys.map V.int) lo hi=zs.map V.int/\zs.length<=ys.length:=by
 refine⟨(ys.drop (HT.sIx (ys.map V.int).length 0 lo)).take (HT.sIx (ys.map V.int).length (ys.map V.int).length hi-HT.sIx (ys.map V.int).length 0 lo),?_,?_⟩
 ·unfold cutV
  rw[List.map_take,List.map_drop]
 ·rw[ybs,List.length_drop];omega
noncomputable def rSlR:V->Option Int->Option Int->Hp->VK->Prop:=fun x lo hi H Q=>∃a xs,x= .ref a/\H a=some (.tup xs)/\∀r H',Same H H'->H' r=some (.tup (cutV xs lo hi))->Q (.ref r) H'
theorem sl_tupR{X:Cx}:SlR X rSlR:=by
 intro pins s σ H x v vl vu lo hi sl Q I rx hs pl pu h
 obtain⟨a,xs,rfl,hx,q⟩:=h
 by_cases hw:HT.sIx xs.length 0 lo=0/\HT.sIx xs.length xs.length hi=xs.length
 ·cases rx
  obtain⟨its,r,ht,hz⟩:=I.tuple (SqT.of (K:=X.K) hx)
  have hlen:its.toArray.size=xs.length:=by rw[yah];exact r.length.symm
  refine⟨"tuple",_,PyProof.Rows.slot_tuple_getitem.lookup,ht.typeIs,?_⟩
  refine HT.getItem_tuple_whole ht hs pl pu (by rw[hlen];exact hw) ⟨.ref a,H,I,rfl,q a H (Same.refl _) ?_⟩
  have e:cutV xs lo hi=xs:=by
   unfold cutV
   rw[hw.1,hw.2]
   simp
  rw[e];exact hx
 ·exact sl_tup pins s σ H _ v vl vu lo hi sl Q I rx hs pl pu ⟨a,xs,rfl,SqT.of hx,hw,fun p hp=>q p _ (fun c o e=>by rw[zai (zal e hp)];exact e) zab⟩
noncomputable def TA(H:Hp)(v:V):Prop:=∃(p:Addr) (xs:List Int),v= .ref p/\H p=some (.tup (xs.map V.int))/\xs.length<=22
theorem TA.same{H H':Hp}{v:V}(h:TA H v)(s:Same H H'):TA H' v:=by
 obtain⟨p,xs,h1,h2,h3⟩:=h
 exact⟨p,xs,h1,s _ _ h2,h3⟩
theorem TA.samex{H H':Hp}{v:V}{t:Addr}{zs:List V}(h:TA H v)(s:SameX t H H')(ht:H t=some (.lst zs)):TA H' v:=by
 obtain⟨p,xs,h1,h2,h3⟩:=h
 exact⟨p,xs,h1,s _ _ (fun z=>by rw[z,ht]at h2;cases h2) h2,h3⟩
theorem ta_new{H:Hp}{p:Addr}(xs:List Int)(h:H p=some (.tup (xs.map V.int)))(hl:xs.length<=22):TA H (.ref p):=⟨p,xs,rfl,h,hl⟩
theorem ta_cut{H:Hp}{p:Addr}{xs:List Int}{lo hi:Option Int}(h:H p=some (.tup (cutV (xs.map V.int) lo hi)))(hl:xs.length<=22):TA H (.ref p):=by
 obtain⟨zs,e,l⟩:=map_cut xs lo hi
 rw[e]at h
 exact⟨p,zs,rfl,h,by omega⟩
noncomputable def spASome(K:W.Frag):Sp:=fun vs H Q _=>∃(tp a td:Addr) (t n:Int) (ts:List (Int×Int)) (told:List Int),vs=[.ref tp,.ref a,.ref td]/\H tp=some (.lst [.int t])/\WebIs K H a n ts/\H td=some (.tup (told.map V.int))/\SetOk n told/\
 ∀r vs' H' t',SameX tp H H'->H' tp=some (.lst [.int t'])->H' r=some (.lst vs')->(∀v∈vs',TA H' v)->vs'.length<=40->H r=none->Q (.ref r) H'
theorem sc_asome:FnScope ["tape","web","told","n","found"] ["tape","web","told"] (defScope zcp):=⟨rfl,rfl,rfl,by decide+kernel,rfl,by decide+kernel,by decide+kernel⟩
theorem ok_asome{f f1:Addr}{fd d1:FuncData}(F:Fun K "_law_asome" "_law_asome" zcp f fd)(D1:Dfn K mg "_law_adigit" zbl ["tape","many"] f1 d1)(G1:FnOk P w K mg base CX0 1 f1 d1 ["tape","many"] (spDig K))(m_tuple:mg "tuple"=none)(m_range:mg "range"=none)(m_sorted:mg "sorted"=none)(m_set:mg "set"=none):
  FnOk P w K mg base CX0 2 f fd ["tape","web","told"] (spASome K):=by
 refine F.ok sc_asome (fun vs H Q E h=> ?_) (fun cdv A outer s H vs Q E hr h=> ?_)
 ·obtain⟨tp,a,td,t,n,ts,told,rfl,_⟩:=h
  rfl
 obtain⟨tp,a,td,t,n,ts,told,rfl,hTp,hA,hT,hok,qq⟩:=h
 refine⟨_,(zae (zan (i:=3) sc_asome.nd rfl (Or.inl rfl) (zay zcf (pv 1) zah (fun _ _=>rfl))) (zae (zan (i:=4) sc_asome.nd rfl (Or.inl rfl) (pe_lst (zaa (pv 2) (zaa (pe_tupRange rfl rfl m_tuple rfl m_range (zaa (pv 3) zac)) (zaa (zbw zac) (zaa (pe_rev (pv 2) (po_some (pe_un un_neg zah))) (zaa (zax op_catR (pv 2) (pe_slice sl_tupR (pv 2) (po_some (pe_un un_neg zah)) po_none)) (zaa (zax op_catR (pv 2) (zbw (zaa (pv 3) zac))) (zaa (zax op_catR (zbw (zaa (pe_un un_neg zah) zac)) (pv 2)) zac))))))))) (zae (zan (i:=4) sc_asome.nd rfl (Or.inl rfl) (zax op_cat (pv 4) (pe_lst (zaa (pe_slice sl_tupR (pv 2) (po_some zah) po_none) (zaa (zbw (zaa (zax op_pow zah zah) zac)) zac))))) (zae (zan (i:=4) sc_asome.nd rfl (Or.inl rfl) (zax op_cat (pv 4) (zbq (own:=["place"]) (caps:=[]) (ix:=[]) rfl (zbp rfl m_range (zaa (pv 3) zac)) rfl rfl .nil (fun _ _ _ _ _=>(zaj (i:=0) (show(["place"]:List Str).Nodup from by decide+kernel) rfl (Or.inl rfl))) (fun _ _ _ _ _=>zcl) (fun _ _ _ _ _=>(zbw (zaa (pv 0) zac)))))) (zae (zan (i:=4) sc_asome.nd rfl (Or.inl rfl) (zax op_cat (pv 4) (zbq (own:=["place"]) (caps:=["told"]) (ix:=[2]) rfl (zbp rfl m_range (zaa (pv 3) zac)) rfl rfl (.cons rfl rfl .nil) (fun _ _ _ _ _=>(zaj (i:=0) (show(["place","told"]:List Str).Nodup from by decide+kernel) rfl (Or.inl rfl))) (fun _ _ _ _ _=>zcl) (fun _ _ _ _ _=>(zcj (call_tuple_ofK K) rfl m_tuple (by decide+kernel) (zaa (pe_sortedSetK K rfl rfl m_sorted rfl m_set (zaa (zax op_catR (pv 1) (zbw (zaa (pv 0) zac))) zac)) zac)))))) (zae (zbs (pe_bm PySem.F.plainAttrs_list PySem.F.slot_list_append PySem.F.type_list_append mt_append (pv 4) (zaa (zcj zbc rfl m_tuple (by decide+kernel) (zaa (zbq (own:=["place"]) (caps:=["tape"]) (ix:=[0]) rfl (zbp rfl m_range (zaa (pv 3) zac)) rfl rfl (.cons rfl rfl .nil) (fun _ _ _ _ _=>(zaj (i:=0) (show(["place","tape"]:List Str).Nodup from by decide+kernel) rfl (Or.inl rfl))) (fun _ _ _ _ _=>pts_one (zas op_eq (zag G1 hr rfl D1.m D1.F.kp D1.b .nil pass0 (zaa (pv 1) (zaa zah zac))) zah (nomark _))) (fun _ _ _ _ _=>(pv 0))) zac)) zac))) (zaf (zao (pv 4))))))))),?_⟩
 have h0:=hA.h0
 have h10:=hA.h1
 have hl10:=hok.len h10
 obtain⟨tt1,rr1,w1,w2,w3⟩:=id hA.web
 refine⟨_,rfl,a,_,_,.int n,rfl,rfl,w1,rfl,?_⟩
 refine⟨_,rfl,_,rfl,n,rfl,h0,by omega,fun l1 hl1=> ?_⟩
 rw[tup_upto]
 have s1:=zad hl1 (.tup ((upto n.toNat).map V.int))
 have a1:=ta_new (H:=upd H l1 (.tup ((upto n.toNat).map V.int))) (upto n.toNat) zab (by rw[upto_len];omega)
 generalize (upd H l1 (.tup ((upto n.toNat).map V.int)))=H1 at *
 refine⟨(by show 0<=sizeLine;decide),fun l2 hl2=> ?_⟩
 have s2:=zad hl2 (.tup [])
 have a2:=ta_new (H:=upd H1 l2 (.tup [])) [] zab (by decide)
 generalize (upd H1 l2 (.tup []))=H2 at *
 have z2:=s1.trans s2
 refine⟨_,rfl,_,rfl,_,rfl,rfl,td,_,rfl,SqT.of (z2 _ _ hT),fun l3 hl3=> ?_⟩
 have s3:=zad hl3 (.tup (told.map V.int).reverse)
 have a3:=ta_new (H:=upd H2 l3 (.tup (told.map V.int).reverse)) told.reverse (by rw[zab,List.map_reverse]) (by rw[List.length_reverse];omega)
 generalize (upd H2 l3 (.tup (told.map V.int).reverse))=H3 at *
 have z3:=z2.trans s3
 refine⟨_,rfl,_,rfl,_,rfl,_,rfl,td,_,rfl,z3 _ _ hT,fun l4 H4 s4 e4=> ?_⟩
 have z4:=z3.trans s4
 obtain⟨zs4,ez4,lz4⟩:=map_cut told (some (-1)) none
 have e4':H4 l4=some (.tup (zs4.map V.int)):=by rw[<-ez4];exact e4
 refine⟨td,l4,_,_,rfl,rfl,z4 _ _ hT,e4',by rw[yaa,yaa,sizeLine_eq];omega,fun l5 H5 s5 e5=> ?_⟩
 have a5:=ta_new (told++zs4) (by rw[yaf];exact e5) (by rw[yat];omega)
 have z5:=z4.trans s5
 refine⟨_,rfl,_,rfl,(by show 1<=sizeLine;decide),fun l6 hl6=> ?_⟩
 have s6:=zad hl6 (.tup [.int n])
 have z6:=z5.trans s6
 refine⟨td,l6,_,_,rfl,rfl,z6 _ _ hT,zab,by rw[yaa,sizeLine_eq];show told.length+1<=_;omega,fun l7 H7 s7 e7=> ?_⟩
 have a7:=ta_new (told++[n]) (by rw[yaf];exact e7) (by rw[yat];show _+1<=_;omega)
 have z7:=z6.trans s7
 refine⟨_,rfl,(by show 1<=sizeLine;decide),fun l8 hl8=> ?_⟩
 have s8:=zad hl8 (.tup [.int (-1)])
 have z8:=z7.trans s8
 refine⟨_,rfl,l8,td,_,_,rfl,rfl,zab,z8 _ _ hT,by rw[yaa,sizeLine_eq];show 1+told.length<=_;omega,fun l9 H9 s9 e9=> ?_⟩
 have a9:=ta_new ([-1]++told) (by rw[yaf];exact e9) (by rw[yat];show 1+_<=_;omega)
 have z9:=z8.trans s9
 refine⟨(by show 7<=sizeLine;decide),fun f1 hf1=> ?_⟩
 have f1s:=zad hf1 (.lst [.ref td,.ref l1,.ref l2,.ref l3,.ref l5,.ref l7,.ref l9])
 have b1:∀v∈([.ref td,.ref l1,.ref l2,.ref l3,.ref l5,.ref l7,.ref l9]:List V),TA (upd H9 f1 (.lst [.ref td,.ref l1,.ref l2,.ref l3,.ref l5,.ref l7,.ref l9])) v:=fun v hv=>by
  have q19:=s2.trans (s3.trans (s4.trans (s5.trans (s6.trans (s7.trans (s8.trans (s9.trans f1s)))))))
  simp only[yaj,ydn,or_false]at hv
  rcases hv with rfl|rfl|rfl|rfl|rfl|rfl|rfl
  ·exact ta_new told ((z9.trans f1s) _ _ hT) (by omega)
  ·exact a1.same q19
  ·exact a2.same (s3.trans (s4.trans (s5.trans (s6.trans (s7.trans (s8.trans (s9.trans f1s)))))))
  ·exact a3.same (s4.trans (s5.trans (s6.trans (s7.trans (s8.trans (s9.trans f1s))))))
  ·exact a5.same (s6.trans (s7.trans (s8.trans (s9.trans f1s))))
  ·exact a7.same (s8.trans (s9.trans f1s))
  ·exact a9.same f1s
 have y1:=z9.trans f1s
 have g1:(upd H9 f1 (.lst [.ref td,.ref l1,.ref l2,.ref l3,.ref l5,.ref l7,.ref l9])) f1=some (.lst [.ref td,.ref l1,.ref l2,.ref l3,.ref l5,.ref l7,.ref l9]):=zab
 have k1:([.ref td,.ref l1,.ref l2,.ref l3,.ref l5,.ref l7,.ref l9]:List V).length=7:=rfl
 generalize (upd H9 f1 (.lst [.ref td,.ref l1,.ref l2,.ref l3,.ref l5,.ref l7,.ref l9]))=F1 at *
 generalize ([.ref td,.ref l1,.ref l2,.ref l3,.ref l5,.ref l7,.ref l9]:List V)=V1 at *
 refine⟨_,rfl,_,rfl,_,rfl,td,_,rfl,y1 _ _ hT,fun m1 M1 t1 n1=> ?_⟩
 have c1:=ta_cut n1 (by omega)
 refine⟨_,_,rfl,rfl,⟨by decide,by decide,by decide⟩,(by show 1<=sizeLine;decide),fun m2 hm2=> ?_⟩
 have t2:=zad hm2 (.tup [.int (10^(20:Int).toNat)])
 have c2:=ta_new (H:=upd M1 m2 (.tup [.int (10^(20:Int).toNat)])) [10^(20:Int).toNat] zab (by decide)
 generalize (upd M1 m2 (.tup [.int (10^(20:Int).toNat)]))=M2 at *
 refine⟨(by show 2<=sizeLine;decide),fun m3 hm3=> ?_⟩
 have t3:=zad hm3 (.lst [.ref m1,.ref m2])
 have t13:=t1.trans (t2.trans t3)
 refine⟨f1,m3,_,_,rfl,rfl,t13 _ _ g1,zab,by rw[k1,sizeLine_eq];show 7+2<=_;omega,fun f2 hf2=> ?_⟩
 have f2s:=zad hf2 (.lst (V1++[.ref m1,.ref m2]))
 have t14:=t13.trans f2s
 have y2:=y1.trans t14
 have b2:∀v∈V1++[.ref m1,.ref m2],TA (upd (upd M2 m3 (.lst [.ref m1,.ref m2])) f2 (.lst (V1++[.ref m1,.ref m2]))) v:=fun v hv=>by
  rcases yay.mp hv with hv|hv
  ·exact(b1 v hv).same t14
  ·simp only[yaj,ydn,or_false]at hv
   rcases hv with rfl|rfl
   ·exact c1.same (t2.trans (t3.trans f2s))
   ·exact c2.same (t3.trans f2s)
 have g2:(upd (upd M2 m3 (.lst [.ref m1,.ref m2])) f2 (.lst (V1++[.ref m1,.ref m2]))) f2=some (.lst (V1++[.ref m1,.ref m2])):=zab
 have k2:(V1++[V.ref m1,V.ref m2]).length=9:=by rw[yat,k1];rfl
 generalize (upd (upd M2 m3 (.lst [.ref m1,.ref m2])) f2 (.lst (V1++[.ref m1,.ref m2])))=F2 at *
 generalize (V1++[V.ref m1,V.ref m2])=V2 at *
 -- each place alone
 refine⟨_,rfl,_,rfl,n,rfl,by omega,by omega,?_⟩
 refine zck (n:=n.toNat) (fun i acc σ H'=>(∀v∈acc,TA H' v)/\acc.length=i/\Same F2 H'/\∃o,σ=[o]) ⟨fun v hv=>(nomatch hv),rfl,Same.refl _,_,rfl⟩ (fun i acc σ H' hi p=>by rw[p.2.1];exact yab _) (by rw[sizeLine_eq];omega) (fun i acc σ H' hi p=> ?_) (fun acc σ H' p=> ?_)
 ·obtain⟨hall,hl,sm,o,rfl⟩:=p
  refine⟨_,rfl,(by show 1<=sizeLine;decide),fun q hq=> ?_⟩
  have sq:=zad hq (.tup [.int (0+(i:Int))])
  refine⟨fun v hv=> ?_,by rw[yat,hl];rfl,sm.trans sq,_,rfl⟩
  rcases yay.mp hv with hv|hv
  ·exact(hall v hv).same sq
  ·rw[yar.mp hv]
   exact ta_new [0+(i:Int)] zab (by show 1<=22;decide)
 intro j1 hj1
 obtain⟨d1,k3,u1,_⟩:=p
 have u2:=zad hj1 (.lst acc)
 refine⟨f2,j1,_,_,rfl,rfl,(u1.trans u2) _ _ g2,zab,by rw[k2,k3,sizeLine_eq];omega,fun f3 hf3=> ?_⟩
 have u3:=zad hf3 (.lst (V2++acc))
 have u13:=u1.trans (u2.trans u3)
 have b3:∀v∈V2++acc,TA (upd (upd H' j1 (.lst acc)) f3 (.lst (V2++acc))) v:=fun v hv=>by
  rcases yay.mp hv with hv|hv
  ·exact(b2 v hv).same u13
  ·exact(d1 v hv).same (u2.trans u3)
 have y3:=y2.trans u13
 have g3:(upd (upd H' j1 (.lst acc)) f3 (.lst (V2++acc))) f3=some (.lst (V2++acc)):=zab
 have k4:(V2++acc).length<=19:=by rw[yat,k2,k3];omega
 generalize (upd (upd H' j1 (.lst acc)) f3 (.lst (V2++acc)))=F3 at *
 generalize (V2++acc)=V3 at *
 -- told and a place
 refine⟨_,rfl,_,rfl,n,rfl,by omega,by omega,?_⟩
 refine zck (n:=n.toNat) (fun i acc σ H'=>(∀v∈acc,TA H' v)/\acc.length=i/\Same F3 H'/\∃o,σ=[o,some (.ref td)]) ⟨fun v hv=>(nomatch hv),rfl,Same.refl _,_,rfl⟩ (fun i acc σ H' hi p=>by rw[p.2.1];exact yab _) (by rw[sizeLine_eq];omega) (fun i acc σ H' hi p=> ?_) (fun acc2 σ2 H2' p=> ?_)
 ·obtain⟨hall,hl,sm,o,rfl⟩:=p
  have hT3:=(y3.trans sm) _ _ hT
  refine⟨_,rfl,_,rfl,(by show 1<=sizeLine;decide),fun q hq=> ?_⟩
  have sq:=zad hq (.tup [.int (0+(i:Int))])
  refine⟨td,q,_,_,rfl,rfl,sq _ _ hT3,zab,by rw[yaa,sizeLine_eq];show told.length+1<=_;omega,fun q2 Hq s2q e2q=> ?_⟩
  refine⟨true,q2,told++[0+(i:Int)],rfl,SqT.of (by rw[yaf];exact e2q),by rw[yat];show _+1<60;omega,fun r ys hr' hys hm=> ?_⟩
  have sr:=zad hr' (.lst (ys.map V.int))
  refine⟨r,_,rfl,.inl ⟨SqL.of zab,fun w hw=> ?_⟩⟩
  have sw:=zad hw (.tup (ys.map V.int))
  have sall:=sq.trans (s2q.trans (sr.trans sw))
  have oky:SetOk n ys:=⟨hys,fun x hx=>by
   rcases yay.mp ((hm x).mp hx)with z|z
   ·exact hok.lt x z
   ·rw[yar.mp z];omega⟩
  refine⟨fun v hv=> ?_,by rw[yat,hl];rfl,sm.trans sall,_,rfl⟩
  rcases yay.mp hv with hv|hv
  ·exact(hall v hv).same sall
  ·rw[yar.mp hv]
   exact ta_new ys zab (by have:=oky.len h10;omega)
 intro j2 hj2
 obtain⟨d2,k5,v1,_⟩:=p
 have v2:=zad hj2 (.lst acc2)
 refine⟨f3,j2,_,_,rfl,rfl,(v1.trans v2) _ _ g3,zab,by rw[k5,sizeLine_eq];omega,fun f4 hf4=> ?_⟩
 have v3:=zad hf4 (.lst (V3++acc2))
 have v13:=v1.trans (v2.trans v3)
 have b4:∀v∈V3++acc2,TA (upd (upd H2' j2 (.lst acc2)) f4 (.lst (V3++acc2))) v:=fun v hv=>by
  rcases yay.mp hv with hv|hv
  ·exact(b3 v hv).same v13
  ·exact(d2 v hv).same (v2.trans v3)
 have y4:=y3.trans v13
 have hf40:H f4=none:=(y3.trans (v1.trans v2)).free hf4
 have g4:(upd (upd H2' j2 (.lst acc2)) f4 (.lst (V3++acc2))) f4=some (.lst (V3++acc2)):=zab
 have k6:(V3++acc2).length<=29:=by rw[yat,k5];omega
 have htp4:=y4 _ _ hTp
 have n4:f4≠tp:=fun z=>by rw[z,hTp]at hf40;cases hf40
 generalize (upd (upd H2' j2 (.lst acc2)) f4 (.lst (V3++acc2)))=F4 at *
 generalize (V3++acc2)=V4 at *
 -- a drawn set
 refine⟨_,rfl,.inl ⟨rfl,_,SqL.of g4⟩,_,rfl,n,rfl,by omega,by omega,?_⟩
 refine zck (n:=n.toNat) (fun i acc σ H'=>(∃zs:List Int,acc=zs.map V.int/\zs.length<=i)/\SameX tp F4 H'/\(∃t',H' tp=some (.lst [.int t']))/\∃o,σ=[o,some (.ref tp)]) ⟨⟨[],rfl,yab _⟩,SameX.refl _ _,⟨t,htp4⟩,_,rfl⟩ (fun i acc σ H' hi p=> ?_) (by rw[sizeLine_eq];omega) (fun i acc σ H' hi p=> ?_) (fun acc3 σ3 H3' p=> ?_)
 ·obtain⟨⟨zs,rfl,hl⟩,_⟩:=p
  rw[yaa];exact hl
 ·obtain⟨⟨zs,rfl,hl⟩,xx,⟨t',ht'⟩,o,rfl⟩:=p
  refine⟨_,rfl,tp,t',2,rfl,ht',by decide,by decide,fun r t2' r0 r1=> ?_⟩
  refine⟨rfl,_,rfl,?_⟩
  refine ite2 (fun c=> ?_) (fun c=> ?_)
  ·exact⟨_,rfl,⟨zs++[0+(i:Int)],by rw[yaf];rfl,by rw[yat];show _+1<=_;omega⟩,xx.upd,⟨t2',zab⟩,_,rfl⟩
  ·exact⟨⟨zs,rfl,by omega⟩,xx.upd,⟨t2',zab⟩,_,rfl⟩
 intro j3 hj3
 obtain⟨⟨zs,rfl,hzl⟩,xx,⟨t',ht'⟩,_⟩:=p
 have w1':=zad hj3 (.lst (zs.map V.int))
 refine⟨j3,_,rfl,.inl ⟨SqL.of zab,fun j4 hj4=> ?_⟩⟩
 have w2':=zad hj4 (.tup (zs.map V.int))
 have w12:=w1'.trans w2'
 have g5:=w12 _ _ (xx _ _ n4 g4)
 refine⟨f4,_,_,rfl,rfl,g5,by rw[sizeLine_eq];omega,?_⟩
 have ex:SameX tp H (upd (upd H3' j3 (.lst (zs.map V.int))) j4 (.tup (zs.map V.int))):=(y4.x tp).trans (xx.trans (w12.x tp))
 have htpF:=w12 _ _ ht'
 have b5:∀v∈V4,TA (upd (upd H3' j3 (.lst (zs.map V.int))) j4 (.tup (zs.map V.int))) v:=fun v hv=>((b4 v hv).samex xx htp4).same w12
 have b6:TA (upd (upd H3' j3 (.lst (zs.map V.int))) j4 (.tup (zs.map V.int))) (.ref j4):=ta_new zs zab (by omega)
 generalize (upd (upd H3' j3 (.lst (zs.map V.int))) j4 (.tup (zs.map V.int)))=F5 at *
 have up:∀v,TA F5 v->TA (upd F5 f4 (.lst (V4++[.ref j4]))) v:=fun v hv=>by
  obtain⟨p,xs,h1,h2,h3⟩:=hv
  exact⟨p,xs,h1,by rw[zai (fun z=>by rw[z,g5]at h2;cases h2)];exact h2,h3⟩
 refine⟨_,rfl,qq f4 _ _ t' (Hs.SameX.new ex hf40) (by rw[zai (Ne.symm n4)];exact htpF) zab (fun v hv=> ?_) (by rw[yat];show _+1<=_;omega) hf40⟩
 rcases yay.mp hv with hv|hv
 ·exact up v (b5 v hv)
 ·rw[yar.mp hv];exact up _ b6
theorem ring_small{n:Int}(h0:3<=n)(h1:n<=5):PairsOk n (ringT n)/\(ringT n).Pairwise lt2/\(ringT n).length<=45:=by
 have go:∀(L:List (List Int)) (hp:L.Perm (ringB n)) (hs:L.Pairwise fun a b=>HT.lexLt b a=false),ringT n=L.map unP:=fun L hp hs=>by unfold ringT;rw[srtL_is hp hs]
 have c:n=3\/n=4\/n=5:=by omega
 rcases c with rfl|rfl|rfl
 ·rw[go [[0,1],[0,2],[1,2]] (by decide) (by decide)]
  exact⟨⟨by decide,by decide⟩,by simp[unP,lt2],by decide⟩
 ·rw[go [[0,1],[0,3],[1,2],[2,3]] (by decide) (by decide)]
  exact⟨⟨by decide,by decide⟩,by simp[unP,lt2],by decide⟩
 ·rw[go [[0,1],[0,4],[1,2],[2,3],[3,4]] (by decide) (by decide)]
  exact⟨⟨by decide,by decide⟩,by simp[unP,lt2],by decide⟩
theorem web_up{n:Int}{ts:List (Int×Int)}(h0:0<=n)(h1:n<=10)(hs:ts.Pairwise lt2)(hl:∀p∈ts,0<=p.1/\p.1<p.2/\p.2<n):PairsOk n ts/\WebOk n ts:=by
 have ho:PairsOk n ts:=⟨nodup_lt2 hs,hl⟩
 exact⟨ho,web_ok h0 h1 ho (hs.imp lt2_lex)⟩
theorem no_false(k:Nat):((List.replicate k (PyData.bool true)).any fun d=>PyData.eqv d (.bool false))=false:=by
 rw[yds]
 intro d hd
 rw[List.eq_of_mem_replicate hd]
 simp[PyData.eqv]
theorem lay_trues:∀k:Nat,PyData.canLayAll0 (List.replicate k (PyData.bool true))=true
 |0=>rfl
 |k+1=>by show(true&&PyData.canLayAll0 (List.replicate k (PyData.bool true)))=true;rw[lay_trues k];rfl
theorem dvs_trues{H:Hp}:∀k:Nat,DVs K H ((List.replicate k true).map V.bl) (List.replicate k (PyData.bool true))
 |0=> .nil
 |k+1=> .cons (.bl true) (dvs_trues k)
noncomputable def spLaw(K:W.Frag):Sp:=fun vs H Q _=>∃(a:Addr) (ns:List Int),vs=[.ref a]/\ScrV K H a ns/\ns.length<=63/\∀H',Q (.bl true) H'
theorem spLaw_of{H:Hp}{a:Addr}{ns:List Int}(hl:ns.length<=63)(hO:Only H)(hS:SqL K H a (ns.map V.int)):spLaw K [.ref a] H (fun v _=>v= .bl true) fun _ _ _=>False:=by
 refine⟨a,ns,rfl,?_,hl,fun _=>rfl⟩
 rcases hS with(h|⟨o,h⟩)|h
 ·rcases hO a with q|⟨o,xs,q⟩
  ·rw[q]at h;cases h
  ·rw[q]at h;cases h
 ·exact .inl ⟨o,h⟩
 ·exact .inr h
theorem sc_law:FnScope ["script","start","tape","web","known","due","turn","found","told","one","answer"] ["script"] (defScope s_law):=⟨rfl,rfl,rfl,by decide+kernel,rfl,by decide+kernel,by decide+kernel⟩
theorem ok_law{f f1 f2 f3 f4 f5 f6 f7 f8 f9 f10 f11 f12 f13:Addr}{fd d1 d2 d3 d4 d5 d6 d7 d8 d9 d10 d11 d12 d13:FuncData}(F:Fun K "law" "law" s_law f fd)(D1:Dfn K mg "_law_atape" zco ["script","k"] f1 d1)(G1':FnOk P w K mg base CX0 2 f1 d1 ["script","k"] (spTape K))(D2:Dfn K mg "_law_aweb" zcy ["tape","most"] f2 d2)(G2':FnOk P w K mg base CX0 2 f2 d2 ["tape","most"] (spAWeb K))(D3:Dfn K mg "_law_acell" zch ["script","k"] f3 d3)(G3':FnOk P w K mg base CX0 1 f3 d3 ["script","k"] (spCell K))(D4:Dfn K mg "beside" s_beside ["one","other"] f4 d4)(G4':FnOk P w K mg base CX0 8 f4 d4 ["one","other"] (spBeside K))(D5:Dfn K mg "ring" s_ring ["n"] f5 d5)(G5':FnOk P w K mg base CX0 3 f5 d5 ["n"] (spRingW K))(D6:Dfn K mg "_law_adigit" zbl ["tape","many"] f6 d6)(G6':FnOk P w K mg base CX0 1 f6 d6 ["tape","many"] (spDig K))(D7:Dfn K mg "_law_aneeded" zbh ["web","some","known"] f7 d7)(G7':FnOk P w K mg base CX0 11 f7 d7 ["web","some","known"] (spANed K))(D8:Dfn K mg "needed" s_needed ["web"] f8 d8)(G8:FnOk P w K mg base CX0 13 f8 d8 ["web"] (spNed K))(D9:Dfn K mg "held_part" zcq ["web"] f9 d9)(G9':FnOk P w K mg base CX0 12 f9 d9 ["web"] (spHpt K))(D10:Dfn K mg "_law_ais_part" zbk ["web","some","known"] f10 d10)(G10':FnOk P w K mg base CX0 12 f10 d10 ["web","some","known"] (spAPt K))(D11:Dfn K mg "_law_awhole" zcc ["found"] f11 d11)(G11':FnOk P w K mg base CX0 1 f11 d11 ["found"] (spAw K))(D12:Dfn K mg "_law_asome" zcp ["tape","web","told"] f12 d12)(G12':FnOk P w K mg base CX0 2 f12 d12 ["tape","web","told"] (spASome K))(D13:Dfn K mg "is_part" s_is_part ["web","some"] f13 d13)(G13:FnOk P w K mg base CX0 13 f13 d13 ["web","some"] (spIspt K))(m_range:mg "range"=none)(m_max:mg "max"=none)(m_min:mg "min"=none)(m_len:mg "len"=none)(m_int:mg "int"=none)(m_tuple:mg "tuple"=none)(m_isinstance:mg "isinstance"=none)(m_bool:mg "bool"=none):
  FnOk P w K mg base CX0 14 f fd ["script"] (spLaw K):=by
 have G1:FnOk P w K mg base CX0 13 f1 d1 ["script","k"] (spTape K):=G1'.mono (by decide)
 have G2:FnOk P w K mg base CX0 13 f2 d2 ["tape","most"] (spAWeb K):=G2'.mono (by decide)
 have G3:FnOk P w K mg base CX0 13 f3 d3 ["script","k"] (spCell K):=G3'.mono (by decide)
 have G4:FnOk P w K mg base CX0 13 f4 d4 ["one","other"] (spBeside K):=G4'.mono (by decide)
 have G5:FnOk P w K mg base CX0 13 f5 d5 ["n"] (spRingW K):=G5'.mono (by decide)
 have G6:FnOk P w K mg base CX0 13 f6 d6 ["tape","many"] (spDig K):=G6'.mono (by decide)
 have G7:FnOk P w K mg base CX0 13 f7 d7 ["web","some","known"] (spANed K):=G7'.mono (by decide)
 have G9:FnOk P w K mg base CX0 13 f9 d9 ["web"] (spHpt K):=G9'.mono (by decide)
 have G10:FnOk P w K mg base CX0 13 f10 d10 ["web","some","known"] (spAPt K):=G10'.mono (by decide)
 have G11:FnOk P w K mg base CX0 13 f11 d11 ["found"] (spAw K):=G11'.mono (by decide)
 have G12:FnOk P w K mg base CX0 13 f12 d12 ["tape","web","told"] (spASome K):=G12'.mono (by decide)
 refine F.ok sc_law (fun vs H Q E h=> ?_) (fun cdv A outer s H vs Q E hr h=> ?_)
 ·obtain⟨scr,ns,rfl,_⟩:=h
  rfl
 obtain⟨scr,ns,rfl,hS,hl,q⟩:=h
 refine⟨_,(zae (ps_for PassesOwn.never rfl (pi_range2 rfl m_range (zaa zah (zaa (zam (call_max2 rfl) rfl m_max (by decide+kernel) (zaa zah (zaa (zam (call_min2 rfl) rfl m_min (by decide+kernel) (zaa zah (zaa (zam zbz rfl m_len PySem.boot_len (zaa (pv 0) zac)) zac))) zac))) zac))) (zaj (i:=1) sc_law.nd rfl (Or.inl rfl)) (zae (zan (i:=2) sc_law.nd rfl (Or.inl rfl) (zag G1 hr rfl D1.m D1.F.kp D1.b .nil pass0 (zaa (pv 0) (zaa (pv 1) zac)))) (zae (zan (i:=3) sc_law.nd rfl (Or.inl rfl) (zag G2 hr rfl D2.m D2.F.kp D2.b .nil pass0 (zaa (pv 2) (zaa (zay zbf (pe_lst (zaa zah (zaa zah zac))) (zcj call_int1 rfl m_int (by decide+kernel) (zaa (pe_cmpR op_gt (pv 1) zah (nomark _)) zac)) (fun _ _=>rfl)) zac)))) (zae (ps_if (PW.pt (pw_and (zas op_eq (pv 1) zah (nomark _)) (pw_and1 (zas op_eq (zax op_mod (zax op_fdiv (zag G3 hr rfl D3.m D3.F.kp D3.b .nil pass0 (zaa (pv 0) (zaa zah zac))) zah) zah) zah (nomark _))))) (zaf (zan (i:=3) sc_law.nd rfl (Or.inl rfl) (zag G4 hr rfl D4.m D4.F.kp D4.b .nil pass0 (zaa (zag G2 hr rfl D2.m D2.F.kp D2.b .nil pass0 (zaa (pv 2) (zaa zah zac))) (zaa (zag G5 hr rfl D5.m D5.F.kp D5.b .nil pass0 (zaa (zax op_add zah (zag G6 hr rfl D6.m D6.F.kp D6.b .nil pass0 (zaa (pv 2) (zaa zah zac)))) zac)) zac))))) zbg) (zae (zan (i:=4) sc_law.nd rfl (Or.inl rfl) pe_dnewT) (zae (zan (i:=5) sc_law.nd rfl (Or.inl rfl) (zag G7 hr rfl D7.m D7.F.kp D7.b .nil pass0 (zaa (pv 3) (zaa (pe_tupRange rfl rfl m_tuple rfl m_range (zaa (zay zcf (pv 3) zah (fun _ _=>rfl)) zac)) (zaa (pv 4) zac))))) (zae (ps_for PassesOwn.never rfl (zbp rfl m_range (zaa zah zac)) (zaj (i:=6) sc_law.nd rfl (Or.inl rfl)) (zae (zan (i:=7) sc_law.nd rfl (Or.inl rfl) (zag G8 hr rfl D8.m D8.F.kp D8.b .nil pass0 (zaa (pv 3) zac))) (zae (zan (i:=8) sc_law.nd rfl (Or.inr rfl) (zag G9 hr rfl D9.m D9.F.kp D9.b .nil pass0 (zaa (pv 3) zac))) (zae (ps_if (PW.pt (pw_or (pt_not (pt_val (zam zdk rfl m_isinstance (by decide+kernel) (zaa (pv 7) (zaa (pe_bltn rfl m_tuple (v:= .ty "tuple") (by decide+kernel) rfl) zac))))) (pw_or (zas (op_neD hr.units) (pv 7) (pv 5) (nomark _)) (pw_or1 (pt_not (pt_val (zam zdk rfl m_isinstance (by decide+kernel) (zaa (pv 8) (zaa (pe_bltn rfl m_tuple (v:= .ty "tuple") (by decide+kernel) rfl) zac))))))))) (zaf (zao pe_bl)) zbg) (zae (ps_if (PW.pt (pw_or (zas (op_inD hr.units) pe_bl (zbq (own:=["place"]) (caps:=[]) (ix:=[]) rfl (pi_tupL (zax op_catE (pv 7) (pv 8))) rfl rfl .nil (fun _ _ _ _ _=>(zaj (i:=0) (show(["place"]:List Str).Nodup from by decide+kernel) rfl (Or.inl rfl))) (fun _ _ _ _ _=>zcl) (fun _ _ _ _ _=>(zag G11 hr rfl D11.m D11.F.kp D11.b .nil pass0 (zaa (pv 0) zac)))) (by with_unfolding_all rfl)) (pw_or1 (pt_not (pt_val (zag G10 hr rfl D10.m D10.F.kp D10.b .nil pass0 (zaa (pv 3) (zaa (pv 8) (zaa (pv 4) zac))))))))) (zaf (zao pe_bl)) zbg) (zaf (ps_if (zas (op_neD hr.units) (zbq (own:=["place"]) (caps:=["told"]) (ix:=[8]) rfl (pi_tupL (pv 5)) rfl rfl (.cons rfl rfl .nil) (fun _ _ _ _ _=>(zaj (i:=0) (show(["place","told"]:List Str).Nodup from by decide+kernel) rfl (Or.inl rfl))) (fun _ _ _ _ _=>pts_one (zas (op_notInDK K hr.units) (pv 0) (pv 1) (by with_unfolding_all rfl))) (fun _ _ _ _ _=>(pv 0))) (pe_lst zac) (nomark _)) (zaf (zao pe_bl)) zbg))))))) (zaf (ps_for PassesOwn.never rfl (pi_listL (zag G12 hr rfl D12.m D12.F.kp D12.b .nil pass0 (zaa (pv 2) (zaa (pv 3) (zaa (pv 8) zac))))) (zaj (i:=9) sc_law.nd rfl (Or.inl rfl)) (zae (zan (i:=10) sc_law.nd rfl (Or.inl rfl) (zag G13 hr rfl D13.m D13.F.kp D13.b .nil pass0 (zaa (pv 3) (zaa (pv 9) zac)))) (zaf (ps_if (PW.pt (pw_or (pt_not (pt_val (zam zdk rfl m_isinstance (by decide+kernel) (zaa (pv 10) (zaa (pe_bltn rfl m_bool (v:= .ty "bool") (by decide+kernel) rfl) zac))))) (pw_or1 (zas op_ne (pv 10) (zag G10 hr rfl D10.m D10.F.kp D10.b .nil pass0 (zaa (pv 3) (zaa (pv 9) (zaa (pv 4) zac)))) (nomark _))))) (zaf (zao pe_bl)) zbg)))))))))))) (zaf (zao pe_bl))),?_⟩
 refine⟨_,rfl,scr,_,rfl,.inl hS.sq,fun hz=>⟨_,_,rfl,_,_,rfl,_,_,rfl,?_⟩⟩
 obtain⟨m,em,hm0,hm1⟩:∃m:Int,(if(if((ns.map V.int).length:Int)<3 then((ns.map V.int).length:Int)else 3)>1 then(if((ns.map V.int).length:Int)<3 then((ns.map V.int).length:Int)else 3)else 1)=m/\0<=m/\m<=3:=by
  refine⟨_,rfl,?_,?_⟩
  ·split
   ·split<;>omega
   ·omega
  ·split
   ·split<;>omega
   ·omega
 rw[em]
 refine⟨⟨by decide,by decide,by omega,by omega⟩,?_⟩
 refine zdi (n:=(m-0).toNat) (fun i σ H'=>Same H H'/\∃o1 o2 o3 o4 o5 o6 o7 o8 o9 o10,σ=[some (.ref scr),o1,o2,o3,o4,o5,o6,o7,o8,o9,o10]) ⟨Same.refl _,_,_,_,_,_,_,_,_,_,_,rfl⟩ (fun i σ H1 hi p=> ?_) (fun σ H1 p=> ?_)
 ·obtain⟨s1,o1,o2,o3,o4,o5,o6,o7,o8,o9,o10,rfl⟩:=p
  have hS1:=hS.same s1
  refine⟨_,rfl,_,rfl,scr,ns,0+(i:Int),rfl,hS1,by omega,fun tp H2 t s2 htp htp0=> ?_⟩
  have hS2:=hS1.same s2
  obtain⟨m2,hm2,m20,m21⟩:∃m2:Int,atI [V.int 5,V.int 4] (if decide ((0:Int)<0+(i:Int))=true then 1 else 0)=some (.int m2)/\0<=m2/\m2<=5:=by
   split
   ·exact⟨4,rfl,by decide,by decide⟩
   ·exact⟨5,rfl,by decide,by decide⟩
  refine⟨_,rfl,(by show 2<=sizeLine;decide),fun lm hlm=>⟨_,rfl,_,_,rfl,rfl,.inr ⟨_,rfl,lm,_,_,.int m2,rfl,rfl,SqL.of zab,hm2,?_⟩⟩⟩
  have sl:=zad hlm (.lst [.int 5,.int 4])
  refine⟨tp,t,m2,rfl,sl _ _ htp,m20,by omega,fun r0 n0 ts0 H3 t3 x3 h3 hW0 hn0=> ?_⟩
  have x13:SameX tp H2 H3:=(sl.x tp).trans x3
  dsimp only[gName,List.set]
  refine seq_mid (fun σ' H'=>∃(r:Addr) (n:Int) (ts:List (Int×Int)) (t':Int),σ'=[some (.ref scr),some (.int (0+(i:Int))),some (.ref tp),some (.ref r),o4,o5,o6,o7,o8,o9,o10]/\SameX tp H2 H'/\H' tp=some (.lst [.int t'])/\WebIs K H' r n ts) (fun N hN=> ?_) (fun σ' H4 p=> ?_)
  ·have same3:N [some (.ref scr),some (.int (0+(i:Int))),some (.ref tp),some (.ref r0),o4,o5,o6,o7,o8,o9,o10] H3:=hN _ _ ⟨r0,n0,ts0,t3,rfl,x13,h3,hW0⟩
   refine⟨_,rfl,rfl,_,rfl,?_⟩
   refine ite2 (fun c=> ?_) (fun c=>iteF same3)
   refine⟨_,rfl,scr,ns,7,rfl,hS2.samex x13 htp,by decide,fun cv=> ?_⟩
   refine⟨_,_,rfl,rfl,⟨by decide,by decide⟩,_,_,rfl,rfl,(by show(0:Int)<8;decide),rfl,_,rfl,?_⟩
   refine ite2 (fun c2=> ?_) (fun c2=>same3)
   refine⟨_,rfl,tp,t3,2,rfl,h3,by decide,by decide,fun r1 n1 ts1 H5 t5 x5 h5 hW1 hn1=> ?_⟩
   refine⟨_,rfl,tp,t5,3,rfl,h5,by decide,by decide,fun dg t6 hd0 hd1=> ?_⟩
   have x6:SameX tp H5 (upd H5 tp (.lst [.int t6])):=(SameX.refl _ _).upd
   have h6:(upd H5 tp (.lst [.int t6])) tp=some (.lst [.int t6]):=zab
   have hW6:=hW1.samex x6 h5
   generalize (upd H5 tp (.lst [.int t6]))=H6 at *
   refine⟨_,_,rfl,rfl,3+dg,rfl,by omega,by omega,fun r2 H7 s7 W7=> ?_⟩
   obtain⟨p1,p2,p3⟩:=ring_small (n:=3+dg) (by omega) (by omega)
   have ok2:=web_up (n:=3+dg) (by omega) (by omega) p2 p1.lt
   have hW7:=hW6.same s7
   have g0:=hW1.h0
   refine⟨r1,r2,n1,3+dg,ts1,ringT (3+dg),rfl,hW7.web,W7,hW7.ok,ok2.2,hW7.len,p3,by omega,fun r3 H8 s8 W8=> ?_⟩
   have sb:=bes_sorted hW7.pk p1 hW7.srt p2
   have lb:=bes_lt hW7.pk p1 g0 (by omega)
   have ok3:=web_up (n:=n1+(3+dg)) (by omega) (by omega) sb fun p hp=>⟨(lb p hp).1,(lb p hp).2.1,(lb p hp).2.2.1⟩
   have s78:=s7.trans s8
   exact hN _ _ ⟨r3,_,_,t6,rfl,x13.trans (x5.trans (x6.trans (s78.x tp))),s78 _ _ h6,W8,by omega,by omega,ok3.1,ok3.2⟩
  obtain⟨r,n,ts,t4,rfl,x4,h4,hW⟩:=p
  have h0:=hW.h0
  have h10:=hW.h1
  obtain⟨tw,rw',w1,w2,w3⟩:=id hW.web
  intro d hd
  have sd:=zad hd (.dT [])
  have hK:KnV K (upd H4 d (.dT [])) d ts []:=⟨zab,fun k v e=>by cases e⟩
  have hWd:=hW.same sd
  have htd:=sd _ _ h4
  have ndt:d≠tp:=fun z=>by rw[z,h4]at hd;cases hd
  have xd:SameX tp H2 (upd H4 d (.dT [])):=x4.trans (sd.x tp)
  have hd2:H2 d=none:=x4.free ndt hd
  generalize (upd H4 d (.dT []))=H5 at *
  obtain⟨tw5,rw5,y1,y2,y3⟩:=id hWd.web
  refine⟨_,rfl,_,rfl,r,_,_,.int n,rfl,rfl,y1,rfl,n,rfl,h0,by omega,fun le hle=> ?_⟩
  rw[tup_upto]
  have se:=zad hle (.tup ((upto n.toNat).map V.int))
  have he:(upd H5 le (.tup ((upto n.toNat).map V.int))) le=some (.tup ((upto n.toNat).map V.int)):=zab
  generalize (upd H5 le (.tup ((upto n.toNat).map V.int)))=H6 at *
  have hK6:=hK.same se
  refine⟨_,rfl,r,le,d,n,ts,upto n.toNat,[],rfl,hWd.same se,he,zdd n,hK6,by decide,fun du kvs1 H7 x7 hK7 hl7 hs7 hm7 e7 a7=> ?_⟩
  have tpd:tp≠d:=Ne.symm ndt
  have two:∀{A B:Hp},(∀b o,b≠tp->b≠d->A b=some o->B b=some o)->True:=fun _=>trivial
  have z7:∀b o,b≠tp->b≠d->H2 b=some o->H7 b=some o:=fun b o n1 n2 e=>x7 _ _ n2 (se _ _ (xd _ _ n1 e))
  have ht7:=x7 _ _ tpd (se _ _ htd)
  have hW7:=web_x (hWd.same se) x7 hK6.at_
  refine⟨_,rfl,by decide,by decide,?_⟩
  refine zdi (n:=2) (fun j σ H'=>∃(kvs:List (List Key×V)) (o6 o7 o8:Option V),σ=[some (.ref scr),some (.int (0+(i:Int))),some (.ref tp),some (.ref r),some (.ref d),some (.ref du),o6,o7,o8,o9,o10]/\SameX d H7 H'/\KnV K H' d ts kvs/\kvs.length<=11+22*j/\(j=0\/∃td told,o8=some (.ref td)/\H' td=some (.tup (told.map V.int))/\SetOk n told))
   ⟨kvs1,_,_,_,rfl,SameX.refl _ _,hK7,by simpa using hl7,.inl rfl⟩ (fun j σ H8 hj p=> ?_) (fun σ H8 p=> ?_)
  ·obtain⟨kvs,o6,o7,o8,rfl,x8,hK8,hl8,_⟩:=p
   have hW8:=web_x hW7 x8 hK7.at_
   have ndd:du≠d:=fun z=>by rw[z,hK7.at_]at e7;cases e7
   have e8:=x8 _ _ ndd e7
   refine⟨_,rfl,r,n,ts,rfl,hW8,fun fa H9 s9 e9 a9=> ?_⟩
   refine⟨_,rfl,r,n,ts,rfl,hW8.same s9,fun td told H10 s10 e10 hH=> ?_⟩
   have s810:=s9.trans s10
   have e9':=s10 _ _ e9
   refine⟨_,rfl,.ref fa,"tuple",_,rfl,.inl ⟨rfl,_,SqT.of e9'⟩,.inr (.inr (.inl rfl)),_,rfl,?_⟩
   refine iteF ?_
   refine⟨_,rfl,_,rfl,.tuple ((Hs.need ts (upto n.toNat)).map PyData.int),.tuple ((Hs.need ts (upto n.toNat)).map PyData.int),.tup (SqT.of e9') (DVs.ints _),.tup (SqT.of (s810 _ _ e8)) (DVs.ints _),zbi _,zbi _,depth_intsT _ _,_,rfl,?_⟩
   rw[eqv_intsT,decide_eq_true rfl]
   refine iteF ?_
   refine⟨_,rfl,.ref td,"tuple",_,rfl,.inl ⟨rfl,_,SqT.of e10⟩,.inr (.inr (.inl rfl)),_,rfl,?_⟩
   refine iteF ?_
   -- numbers
   have okN:(Hs.need ts (upto n.toNat)).length<=10:=by
    have:=ybc (ndB ts (upto n.toNat)) (upto n.toNat)
    rw[upto_len]at this
    show(List.filter _ _).length<=10
    omega
   have okT:=hH.ok.len h10
   refine⟨_,rfl,_,rfl,fa,td,_,_,rfl,rfl,SqT.of e9',SqT.of e10,by rw[yaa,yaa,sizeLine_eq];omega,fun ca H11 s11 e11=> ?_⟩
   refine⟨ca,_,rfl,e11,fun hz=> ?_⟩
   refine zdj (xs:=(Hs.need ts (upto n.toNat)).map V.int++told.map V.int) (fun k acc σ H'=>acc=(List.replicate k true).map V.bl/\H'=H11/\∃o,σ=[o]) ⟨rfl,rfl,_,rfl⟩ (fun k acc σ H' _ p=>by rw[p.2.1];exact e11) (fun k acc σ H' _ p=>by rw[p.1,yaa,ydp];exact yab _) hz (fun k x acc σ H' hx p=> ?_) (fun acc σ H' p=> ?_)
   ·obtain⟨rfl,rfl,o,rfl⟩:=p
    rw[<-yaf,yae]at hx
    cases ex:(Hs.need ts (upto n.toNat)++told)[k]? with
    |none=>rw[ex]at hx;cases hx
    |some y=>
     rw[ex]at hx
     cases hx
     refine⟨_,rfl,y,rfl,?_,rfl,_,rfl⟩
     rw[List.replicate_succ',yaf];rfl
   intro p1 hp1
   obtain⟨rfl,rfl,_⟩:=p
   have s12:=zad hp1 (.lst ((List.replicate ((Hs.need ts (upto n.toNat)).map V.int++told.map V.int).length true).map V.bl))
   refine⟨p1,_,_,.bool false,rfl,.inl (SqL.of zab),dvs_trues _,.bl false,lay_trues _,rfl,(by decide),_,rfl,?_⟩
   rw[no_false]
   refine iteF ?_
   generalize (upd H' p1 (.lst ((List.replicate ((Hs.need ts (upto n.toNat)).map V.int++told.map V.int).length true).map V.bl)))=H12 at *
   have s1012:=s11.trans s12
   have s812:=s810.trans s1012
   have e12:=s1012 _ _ e10
   refine⟨_,rfl,_,rfl,_,rfl,r,td,d,n,ts,told,kvs,rfl,hW8.same s812,e12,by omega,hK8.same s812,by omega,fun kvs2 H13 x13' hK13 hl13 aT=> ?_⟩
   rw[hH.part (aT hH.ok)]
   refine⟨_,rfl,?_⟩
   refine iteF ?_
   have ntd:td≠d:=fun z=>by rw[z,(hK8.same s812).at_]at e12;cases e12
   have e13:=x13' _ _ ntd e12
   have du13:=x13' _ _ ndd (s812 _ _ e8)
   -- what is due is told
   refine⟨_,rfl,du,_,rfl,SqT.of du13,fun hz=> ?_⟩
   refine zdj (xs:=(Hs.need ts (upto n.toNat)).map V.int) (fun k acc σ H'=>acc=[]/\H'=H13/\∃o,σ=[o,some (.ref td)]) ⟨rfl,rfl,_,rfl⟩ (fun k acc σ H' _ p=>by rw[p.2.1];exact SqT.of du13) (fun k acc σ H' _ p=>by rw[p.1];exact yas _) hz (fun k x acc σ H' hx p=> ?_) (fun acc σ H' p=> ?_)
   ·obtain⟨rfl,rfl,o,rfl⟩:=p
    rw[yae]at hx
    cases ex:(Hs.need ts (upto n.toNat))[k]? with
    |none=>rw[ex]at hx;cases hx
    |some y=>
     rw[ex]at hx
     cases hx
     have hy:=hH.due a9 y (ybd ex)
     refine⟨_,rfl,_,rfl,td,_,_,.int y,rfl,.inr (SqT.of e13),DVs.ints _,.int _,zbi _,rfl,(by show 0<=60;decide),_,rfl,?_⟩
     rw[any_ints,decide_eq_true hy]
     exact iteF ⟨rfl,rfl,_,rfl⟩
   intro p2 hp2
   obtain⟨rfl,rfl,_⟩:=p
   have s14:=zad hp2 (.lst [])
   have e14:(upd H' p2 (.lst [])) p2=some (.lst []):=zab
   generalize (upd H' p2 (.lst []))=H14 at *
   refine⟨(by show 0<=sizeLine;decide),fun p3 hp3=> ?_⟩
   have s15:=zad hp3 (.lst [])
   refine⟨.list (([]:List Int).map PyData.int),.list (([]:List Int).map PyData.int),.lst (SqL.of (s15 _ _ e14)) .nil,.lst (SqL.of zab) .nil,rfl,rfl,depth_intsL [] [],_,rfl,?_⟩
   rw[eqv_intsL,decide_eq_true rfl]
   refine iteF ?_
   have s1315:=s14.trans s15
   refine⟨kvs2,_,_,_,rfl,x8.trans ((s812.x d).trans (x13'.trans (s1315.x d))),hK13.same s1315,by omega,.inr ⟨td,told,rfl,s1315 _ _ e13,hH.ok⟩⟩
  ·obtain⟨kvs,o6,o7,o8,rfl,x8,hK8,hl8,hto⟩:=p
   rcases hto with hto|⟨td,told,rfl,etd,hok⟩
   ·omega
   have hW8:=web_x hW7 x8 hK7.at_
   have ht8:=x8 _ _ tpd ht7
   refine⟨_,rfl,_,rfl,_,rfl,tp,r,td,t4,n,ts,told,rfl,ht8,hW8,etd,hok,fun rs vs' H9 t9 x9 h9 e9 ta9 hl9 nr=> ?_⟩
   have z8:∀b o,b≠tp->b≠d->H2 b=some o->H9 b=some o:=fun b o n1 n2 e=>x9 _ _ n1 (x8 _ _ n2 (z7 b o n1 n2 e))
   have hK9:KnV K H9 d ts kvs:=⟨x9 _ _ ndt hK8.at_,fun k v e=>by
    obtain⟨xs,fa,q1,q2,q3,q4⟩:=hK8.all k v e
    refine⟨xs,fa,q1,q2,?_,q4⟩
    rcases q3 with(q3|⟨o,q3⟩)|q3
    ·exact .inl (.inl (x9 _ _ (fun z=>by rw[z,ht8]at q3;cases q3) q3))
    ·exact .inl (.inr ⟨o,x9 _ _ (fun z=>by rw[z,ht8]at q3;cases q3) q3⟩)
    ·exact .inr q3⟩
   have hW9:=hW8.samex x9 ht8
   have nrd:rs≠d:=fun z=>by rw[z,hK9.at_]at e9;cases e9
   refine⟨rs,vs',rfl,SqL.of e9,fun hz=> ?_⟩
   refine for_list (K:=K) (a:=rs) (xs:=vs') (fun j σ H'=>∃(kvs':List (List Key×V)) (o9 o10:Option V),σ=[some (.ref scr),some (.int (0+(i:Int))),some (.ref tp),some (.ref r),some (.ref d),some (.ref du),o6,o7,some (.ref td),o9,o10]/\SameX d H9 H'/\KnV K H' d ts kvs'/\kvs'.length<=55+22*j)
    ⟨kvs,_,_,rfl,SameX.refl _ _,hK9,by omega⟩ (fun j σ H' _ p=> ?_) (fun j v σ H10 hv p=> ?_) (fun σ H10 p=> ?_)
   ·obtain⟨_,_,_,_,x10,_⟩:=p
    exact SqL.of (x10 _ _ nrd e9)
   ·obtain⟨kvs',o9',o10',rfl,x10,hK10,hl10⟩:=p
    have hj:j<vs'.length:=(yao.mp hv).1
    obtain⟨pa,xs,rfl,epa,hxl⟩:=ta9 v (ybd hv)
    have npd:pa≠d:=fun z=>by rw[z,hK9.at_]at epa;cases epa
    have epa10:=x10 _ _ npd epa
    have hW10:=web_x hW9 x10 hK9.at_
    refine⟨_,rfl,_,rfl,r,pa,n,ts,xs,rfl,hW10,SqT.of epa10,fun H11 s11=> ?_⟩
    refine⟨_,rfl,.bl _,"bool",_,rfl,rfl,.inr (.inl rfl),_,rfl,?_⟩
    refine iteF ?_
    refine⟨_,rfl,_,rfl,_,rfl,_,rfl,r,pa,d,n,ts,xs,kvs',rfl,hW10.same s11,s11 _ _ epa10,by omega,hK10.same s11,by omega,fun kvs2 H12 x12 hK12 hl12 _=> ?_⟩
    refine⟨rfl,_,rfl,?_⟩
    have eb:(!decide (V.bl (partB n ts xs)=V.bl (partB n ts xs)))=false:=by rw[decide_eq_true rfl];rfl
    rw[eb]
    refine iteF ?_
    exact⟨kvs2,_,_,rfl,x10.trans ((s11.x d).trans x12),hK12,by omega⟩
   ·obtain⟨kvs',o9',o10',rfl,x10,hK10,hl10⟩:=p
    refine⟨s1.trans fun b o e=> ?_,_,_,_,_,_,_,_,_,_,_,rfl⟩
    have n1:b≠tp:=fun z=>by rw[z,htp0]at e;cases e
    have n2:b≠d:=fun z=>by
     have:=s2 _ _ e
     rw[z,hd2]at this;cases this
    exact x10 _ _ n2 (z8 b o n1 n2 (s2 _ _ e))
 ·exact q _
end
theorem len_1{α:Type}:∀{us:List α},us.length=1->∃a,us=[a]
 |[a],_=>⟨a,rfl⟩
theorem len_2{α:Type}:∀{us:List α},us.length=2->∃a b,us=[a,b]
 |[a,b],_=>⟨a,b,rfl⟩
theorem len_3{α:Type}:∀{us:List α},us.length=3->∃a b c,us=[a,b,c]
 |[a,b,c],_=>⟨a,b,c,rfl⟩
theorem len_4{α:Type}:∀{us:List α},us.length=4->∃a b c d,us=[a,b,c,d]
 |[a,b,c,d],_=>⟨a,b,c,d,rfl⟩
theorem all_mk{l:W.OpenLaw}{w:World}{K:W.Frag}{h:Heap}{mg:Str->Option Value}{fa:Addr}(X:K.In h)(G:h.Ns mainGlobals mg)(hfa:mg "law"=some (.ref fa)){f0 f1 f2 f3 f4 f5 f6 f7 f8 f9 f10 f11 f12 f13 f14 f15 f16 f17 f18 f19 f20 f21 f22 f23 f24 f25 f26 f27 f28 f29 f30 f31 f32 f33 f34 f35 f36 f37 f38 f39 f40 f41:Addr}{od0 an0 od1 an1 od2 an2 od3 an3 od4 an4 od5 an5 od6 an6 od7 an7 od8 an8 od9 an9 od10 an10 od11 an11 od12 an12 od13 an13 od14 an14 od15 an15 od16 an16 od17 an17 od18 an18 od19 an19 od20 an20 od21 an21 od22 an22 od23 an23 od24 an24 od25 an25 od26 an26 od27 an27 od28 an28 od29 an29 od30 an30 od31 an31 od32 an32 od33 an33 od34 an34 od35 an35 od36 an36 od37 an37 od38 an38 od39 an39 od40 an40 od41 an41:Option Addr}{sl0 sl1 sl2 sl3 sl4 sl5 sl6 sl7 sl8 sl9 sl10 sl11 sl12 sl13 sl14 sl15 sl16 sl17 sl18 sl19 sl20 sl21 sl22 sl23 sl24 sl25 sl26 sl27 sl28 sl29 sl30 sl31 sl32 sl33 sl34 sl35 sl36 sl37 sl38 sl39 sl40 sl41:Array (Option Value)}{oc0 kV0 dc0 pm0 cd0 ct0 oc1 kV1 dc1 pm1 cd1 ct1 oc2 kV2 dc2 pm2 cd2 ct2 oc3 kV3 dc3 pm3 cd3 ct3 oc4 kV4 dc4 pm4 cd4 ct4 oc5 kV5 dc5 pm5 cd5 ct5 oc6 kV6 dc6 pm6 cd6 ct6 oc7 kV7 dc7 pm7 cd7 ct7 oc8 kV8 dc8 pm8 cd8 ct8 oc9 kV9 dc9 pm9 cd9 ct9 oc10 kV10 dc10 pm10 cd10 ct10 oc11 kV11 dc11 pm11 cd11 ct11 oc12 kV12 dc12 pm12 cd12 ct12 oc13 kV13 dc13 pm13 cd13 ct13 oc14 kV14 dc14 pm14 cd14 ct14 oc15 kV15 dc15 pm15 cd15 ct15 oc16 kV16 dc16 pm16 cd16 ct16 oc17 kV17 dc17 pm17 cd17 ct17 oc18 kV18 dc18 pm18 cd18 ct18 oc19 kV19 dc19 pm19 cd19 ct19 oc20 kV20 dc20 pm20 cd20 ct20 oc21 kV21 dc21 pm21 cd21 ct21 oc22 kV22 dc22 pm22 cd22 ct22 oc23 kV23 dc23 pm23 cd23 ct23 oc24 kV24 dc24 pm24 cd24 ct24 oc25 kV25 dc25 pm25 cd25 ct25 oc26 kV26 dc26 pm26 cd26 ct26 oc27 kV27 dc27 pm27 cd27 ct27 oc28 kV28 dc28 pm28 cd28 ct28 oc29 kV29 dc29 pm29 cd29 ct29 oc30 kV30 dc30 pm30 cd30 ct30 oc31 kV31 dc31 pm31 cd31 ct31 oc32 kV32 dc32 pm32 cd32 ct32 oc33 kV33 dc33 pm33 cd33 ct33 oc34 kV34 dc34 pm34 cd34 ct34 oc35 kV35 dc35 pm35 cd35 ct35 oc36 kV36 dc36 pm36 cd36 ct36 oc37 kV37 dc37 pm37 cd37 ct37 oc38 kV38 dc38 pm38 cd38 ct38 oc39 kV39 dc39 pm39 cd39 ct39 oc40 kV40 dc40 pm40 cd40 ct40 oc41 kV41 dc41 pm41 cd41 ct41:Value}{tk0:Tok}{tk1:Tok}{tk2:Tok}{c_Tableau:Addr}{mf0:Addr}{mod0 man0:Option Addr}{msl0:Array (Option Value)}{moc0 mkV0 mdc0 mpm0 mcd0 mct0:Value}{mf1:Addr}{mod1 man1:Option Addr}{msl1:Array (Option Value)}{moc1 mkV1 mdc1 mpm1 mcd1 mct1:Value}{mf2:Addr}{mod2 man2:Option Addr}{msl2:Array (Option Value)}{moc2 mkV2 mdc2 mpm2 mcd2 mct2:Value}{mf3:Addr}{mod3 man3:Option Addr}{msl3:Array (Option Value)}{moc3 mkV3 mdc3 mpm3 mcd3 mct3:Value}{mf4:Addr}{mod4 man4:Option Addr}{msl4:Array (Option Value)}{moc4 mkV4 mdc4 mpm4 mcd4 mct4:Value}{mf5:Addr}{mod5 man5:Option Addr}{msl5:Array (Option Value)}{moc5 mkV5 mdc5 mpm5 mcd5 mct5:Value}{mf6:Addr}{mod6 man6:Option Addr}{msl6:Array (Option Value)}{moc6 mkV6 mdc6 mpm6 mcd6 mct6:Value}{mf7:Addr}{mod7 man7:Option Addr}{msl7:Array (Option Value)}{moc7 mkV7 mdc7 mpm7 mcd7 mct7:Value}{mf8:Addr}{mod8 man8:Option Addr}{msl8:Array (Option Value)}{moc8 mkV8 mdc8 mpm8 mcd8 mct8:Value}{mf9:Addr}{mod9 man9:Option Addr}{msl9:Array (Option Value)}{moc9 mkV9 mdc9 mpm9 mcd9 mct9:Value}(a0:W.nsIn K mainGlobals "is_whole"=some (some (.ref f0)))(l0:K.lookup f0=some ⟨oc0,od0,.func (W.fnOf "is_whole" "is_whole" (defArgs zbu) (defBody zbu) (defScope zbu) .none kV0 dc0 pm0 an0 cd0 ct0),sl0⟩)(c0:W.codeIn K cd0 "is_whole"=true)(k0:W.keepIn K (.ref f0)=true)(a1:W.nsIn K mainGlobals "is_place"=some (some (.ref f1)))(l1:K.lookup f1=some ⟨oc1,od1,.func (W.fnOf "is_place" "is_place" (defArgs zcz) (defBody zcz) (defScope zcz) .none kV1 dc1 pm1 an1 cd1 ct1),sl1⟩)(c1:W.codeIn K cd1 "is_place"=true)(k1:W.keepIn K (.ref f1)=true)(a2:W.nsIn K mainGlobals "are_places"=some (some (.ref f2)))(l2:K.lookup f2=some ⟨oc2,od2,.func (W.fnOf "are_places" "are_places" (defArgs zce) (defBody zce) (defScope zce) .none kV2 dc2 pm2 an2 cd2 ct2),sl2⟩)(c2:W.codeIn K cd2 "are_places"=true)(k2:W.keepIn K (.ref f2)=true)(a3:W.nsIn K mainGlobals "is_rising"=some (some (.ref f3)))(l3:K.lookup f3=some ⟨oc3,od3,.func (W.fnOf "is_rising" "is_rising" (defArgs zci) (defBody zci) (defScope zci) .none kV3 dc3 pm3 an3 cd3 ct3),sl3⟩)(c3:W.codeIn K cd3 "is_rising"=true)(k3:W.keepIn K (.ref f3)=true)(a4:W.nsIn K mainGlobals "is_set"=some (some (.ref f4)))(l4:K.lookup f4=some ⟨oc4,od4,.func (W.fnOf "is_set" "is_set" (defArgs s_is_set) (defBody s_is_set) (defScope s_is_set) .none kV4 dc4 pm4 an4 cd4 ct4),sl4⟩)(c4:W.codeIn K cd4 "is_set"=true)(k4:W.keepIn K (.ref f4)=true)(a5:W.nsIn K mainGlobals "are_ties"=some (some (.ref f5)))(l5:K.lookup f5=some ⟨oc5,od5,.func (W.fnOf "are_ties" "are_ties" (defArgs zda) (defBody zda) (defScope zda) .none kV5 dc5 pm5 an5 cd5 ct5),sl5⟩)(c5:W.codeIn K cd5 "are_ties"=true)(k5:W.keepIn K (.ref f5)=true)(a6:W.nsIn K mainGlobals "is_web"=some (some (.ref f6)))(l6:K.lookup f6=some ⟨oc6,od6,.func (W.fnOf "is_web" "is_web" (defArgs s_is_web) (defBody s_is_web) (defScope s_is_web) .none kV6 dc6 pm6 an6 cd6 ct6),sl6⟩)(c6:W.codeIn K cd6 "is_web"=true)(k6:W.keepIn K (.ref f6)=true)(a7:W.nsIn K mainGlobals "need_web"=some (some (.ref f7)))(l7:K.lookup f7=some ⟨oc7,od7,.func (W.fnOf "need_web" "need_web" (defArgs zbb) (defBody zbb) (defScope zbb) .none kV7 dc7 pm7 an7 cd7 ct7),sl7⟩)(c7:W.codeIn K cd7 "need_web"=true)(k7:W.keepIn K (.ref f7)=true)(a8:W.nsIn K mainGlobals "need_set"=some (some (.ref f8)))(l8:K.lookup f8=some ⟨oc8,od8,.func (W.fnOf "need_set" "need_set" (defArgs zcw) (defBody zcw) (defScope zcw) .none kV8 dc8 pm8 an8 cd8 ct8),sl8⟩)(c8:W.codeIn K cd8 "need_set"=true)(k8:W.keepIn K (.ref f8)=true)(a9:W.nsIn K mainGlobals "need_from_to"=some (some (.ref f9)))(l9:K.lookup f9=some ⟨oc9,od9,.func (W.fnOf "need_from_to" "need_from_to" (defArgs zbj) (defBody zbj) (defScope zbj) .none kV9 dc9 pm9 an9 cd9 ct9),sl9⟩)(c9:W.codeIn K cd9 "need_from_to"=true)(k9:W.keepIn K (.ref f9)=true)(a10:W.nsIn K mainGlobals "need_few"=some (some (.ref f10)))(l10:K.lookup f10=some ⟨oc10,od10,.func (W.fnOf "need_few" "need_few" (defArgs zcx) (defBody zcx) (defScope zcx) .none kV10 dc10 pm10 an10 cd10 ct10),sl10⟩)(c10:W.codeIn K cd10 "need_few"=true)(k10:W.keepIn K (.ref f10)=true)(a11:W.nsIn K mainGlobals "pairs"=some (some (.ref f11)))(l11:K.lookup f11=some ⟨oc11,od11,.func (W.fnOf "pairs" "pairs" (defArgs s_pairs) (defBody s_pairs) (defScope s_pairs) .none kV11 dc11 pm11 an11 cd11 ct11),sl11⟩)(c11:W.codeIn K cd11 "pairs"=true)(k11:W.keepIn K (.ref f11)=true)(a12:W.nsIn K mainGlobals "without"=some (some (.ref f12)))(l12:K.lookup f12=some ⟨oc12,od12,.func (W.fnOf "without" "without" (defArgs zdf) (defBody zdf) (defScope zdf) .none kV12 dc12 pm12 an12 cd12 ct12),sl12⟩)(c12:W.codeIn K cd12 "without"=true)(k12:W.keepIn K (.ref f12)=true)(a13:W.nsIn K mainGlobals "has_tie"=some (some (.ref f13)))(l13:K.lookup f13=some ⟨oc13,od13,.func (W.fnOf "has_tie" "has_tie" (defArgs zdg) (defBody zdg) (defScope zdg) .none kV13 dc13 pm13 an13 cd13 ct13),sl13⟩)(c13:W.codeIn K cd13 "has_tie"=true)(k13:W.keepIn K (.ref f13)=true)(a14:W.nsIn K mainGlobals "greatest_divisor"=some (some (.ref f14)))(l14:K.lookup f14=some ⟨oc14,od14,.func (W.fnOf "greatest_divisor" "greatest_divisor" (defArgs zat) (defBody zat) (defScope zat) .none kV14 dc14 pm14 an14 cd14 ct14),sl14⟩)(c14:W.codeIn K cd14 "greatest_divisor"=true)(k14:W.keepIn K (.ref f14)=true)(a15:W.nsIn K mainGlobals "lowest"=some (some (.ref f15)))(l15:K.lookup f15=some ⟨oc15,od15,.func (W.fnOf "lowest" "lowest" (defArgs s_lowest) (defBody s_lowest) (defScope s_lowest) .none kV15 dc15 pm15 an15 cd15 ct15),sl15⟩)(c15:W.codeIn K cd15 "lowest"=true)(k15:W.keepIn K (.ref f15)=true)(a16:W.nsIn K mainGlobals "is_less"=some (some (.ref f16)))(l16:K.lookup f16=some ⟨oc16,od16,.func (W.fnOf "is_less" "is_less" (defArgs s_is_less) (defBody s_is_less) (defScope s_is_less) .none kV16 dc16 pm16 an16 cd16 ct16),sl16⟩)(c16:W.codeIn K cd16 "is_less"=true)(k16:W.keepIn K (.ref f16)=true)(a17:W.nsIn K mainGlobals "moved_ties"=some (some (.ref f17)))(l17:K.lookup f17=some ⟨oc17,od17,.func (W.fnOf "moved_ties" "moved_ties" (defArgs zcb) (defBody zcb) (defScope zcb) .none kV17 dc17 pm17 an17 cd17 ct17),sl17⟩)(c17:W.codeIn K cd17 "moved_ties"=true)(k17:W.keepIn K (.ref f17)=true)(a18:W.nsIn K mainGlobals "beside"=some (some (.ref f18)))(l18:K.lookup f18=some ⟨oc18,od18,.func (W.fnOf "beside" "beside" (defArgs s_beside) (defBody s_beside) (defScope s_beside) .none kV18 dc18 pm18 an18 cd18 ct18),sl18⟩)(c18:W.codeIn K cd18 "beside"=true)(k18:W.keepIn K (.ref f18)=true)(a19:W.nsIn K mainGlobals "cut_down"=some (some (.ref f19)))(l19:K.lookup f19=some ⟨oc19,od19,.func (W.fnOf "cut_down" "cut_down" (defArgs zbv) (defBody zbv) (defScope zbv) .none kV19 dc19 pm19 an19 cd19 ct19),sl19⟩)(c19:W.codeIn K cd19 "cut_down"=true)(k19:W.keepIn K (.ref f19)=true)(a20:W.nsIn K mainGlobals "places_by_tie"=some (some (.ref f20)))(l20:K.lookup f20=some ⟨oc20,od20,.func (W.fnOf "places_by_tie" "places_by_tie" (defArgs zbd) (defBody zbd) (defScope zbd) .none kV20 dc20 pm20 an20 cd20 ct20),sl20⟩)(c20:W.codeIn K cd20 "places_by_tie"=true)(k20:W.keepIn K (.ref f20)=true)(a21:W.nsIn K mainGlobals "in_both"=some (some (.ref f21)))(l21:K.lookup f21=some ⟨oc21,od21,.func (W.fnOf "in_both" "in_both" (defArgs s_in_both) (defBody s_in_both) (defScope s_in_both) .none kV21 dc21 pm21 an21 cd21 ct21),sl21⟩)(c21:W.codeIn K cd21 "in_both"=true)(k21:W.keepIn K (.ref f21)=true)(a22:W.nsIn K mainGlobals "full_sets"=some (some (.ref f22)))(l22:K.lookup f22=some ⟨oc22,od22,.func (W.fnOf "full_sets" "full_sets" (defArgs zcr) (defBody zcr) (defScope zcr) .none kV22 dc22 pm22 an22 cd22 ct22),sl22⟩)(c22:W.codeIn K cd22 "full_sets"=true)(k22:W.keepIn K (.ref f22)=true)(a23:W.nsIn K mainGlobals "full_apart"=some (some (.ref f23)))(l23:K.lookup f23=some ⟨oc23,od23,.func (W.fnOf "full_apart" "full_apart" (defArgs zcd) (defBody zcd) (defScope zcd) .none kV23 dc23 pm23 an23 cd23 ct23),sl23⟩)(c23:W.codeIn K cd23 "full_apart"=true)(k23:W.keepIn K (.ref f23)=true)(a24:W.nsIn K mainGlobals "need_wants"=some (some (.ref f24)))(l24:K.lookup f24=some ⟨oc24,od24,.func (W.fnOf "need_wants" "need_wants" (defArgs zca) (defBody zca) (defScope zca) .none kV24 dc24 pm24 an24 cd24 ct24),sl24⟩)(c24:W.codeIn K cd24 "need_wants"=true)(k24:W.keepIn K (.ref f24)=true)(a25:W.nsIn K mainGlobals "shares"=some (some (.ref f25)))(l25:K.lookup f25=some ⟨oc25,od25,.func (W.fnOf "shares" "shares" (defArgs s_shares) (defBody s_shares) (defScope s_shares) .none kV25 dc25 pm25 an25 cd25 ct25),sl25⟩)(c25:W.codeIn K cd25 "shares"=true)(k25:W.keepIn K (.ref f25)=true)(a26:W.nsIn K mainGlobals "value"=some (some (.ref f26)))(l26:K.lookup f26=some ⟨oc26,od26,.func (W.fnOf "value" "value" (defArgs s_value) (defBody s_value) (defScope s_value) .none kV26 dc26 pm26 an26 cd26 ct26),sl26⟩)(c26:W.codeIn K cd26 "value"=true)(k26:W.keepIn K (.ref f26)=true)(a27:W.nsIn K mainGlobals "value_without"=some (some (.ref f27)))(l27:K.lookup f27=some ⟨oc27,od27,.func (W.fnOf "value_without" "value_without" (defArgs zaz) (defBody zaz) (defScope zaz) .none kV27 dc27 pm27 an27 cd27 ct27),sl27⟩)(c27:W.codeIn K cd27 "value_without"=true)(k27:W.keepIn K (.ref f27)=true)(a28:W.nsIn K mainGlobals "needed_in"=some (some (.ref f28)))(l28:K.lookup f28=some ⟨oc28,od28,.func (W.fnOf "needed_in" "needed_in" (defArgs zcg) (defBody zcg) (defScope zcg) .none kV28 dc28 pm28 an28 cd28 ct28),sl28⟩)(c28:W.codeIn K cd28 "needed_in"=true)(k28:W.keepIn K (.ref f28)=true)(a29:W.nsIn K mainGlobals "needed"=some (some (.ref f29)))(l29:K.lookup f29=some ⟨oc29,od29,.func (W.fnOf "needed" "needed" (defArgs s_needed) (defBody s_needed) (defScope s_needed) .none kV29 dc29 pm29 an29 cd29 ct29),sl29⟩)(c29:W.codeIn K cd29 "needed"=true)(k29:W.keepIn K (.ref f29)=true)(a30:W.nsIn K mainGlobals "held_part"=some (some (.ref f30)))(l30:K.lookup f30=some ⟨oc30,od30,.func (W.fnOf "held_part" "held_part" (defArgs zcq) (defBody zcq) (defScope zcq) .none kV30 dc30 pm30 an30 cd30 ct30),sl30⟩)(c30:W.codeIn K cd30 "held_part"=true)(k30:W.keepIn K (.ref f30)=true)(a31:W.nsIn K mainGlobals "is_part"=some (some (.ref f31)))(l31:K.lookup f31=some ⟨oc31,od31,.func (W.fnOf "is_part" "is_part" (defArgs s_is_part) (defBody s_is_part) (defScope s_is_part) .none kV31 dc31 pm31 an31 cd31 ct31),sl31⟩)(c31:W.codeIn K cd31 "is_part"=true)(k31:W.keepIn K (.ref f31)=true)(a32:W.nsIn K mainGlobals "ring"=some (some (.ref f32)))(l32:K.lookup f32=some ⟨oc32,od32,.func (W.fnOf "ring" "ring" (defArgs s_ring) (defBody s_ring) (defScope s_ring) .none kV32 dc32 pm32 an32 cd32 ct32),sl32⟩)(c32:W.codeIn K cd32 "ring"=true)(k32:W.keepIn K (.ref f32)=true)(a33:W.nsIn K mainGlobals "_law_acell"=some (some (.ref f33)))(l33:K.lookup f33=some ⟨oc33,od33,.func (W.fnOf "_law_acell" "_law_acell" (defArgs zch) (defBody zch) (defScope zch) .none kV33 dc33 pm33 an33 cd33 ct33),sl33⟩)(c33:W.codeIn K cd33 "_law_acell"=true)(k33:W.keepIn K (.ref f33)=true)(a34:W.nsIn K mainGlobals "_law_atape"=some (some (.ref f34)))(l34:K.lookup f34=some ⟨oc34,od34,.func (W.fnOf "_law_atape" "_law_atape" (defArgs zco) (defBody zco) (defScope zco) .none kV34 dc34 pm34 an34 cd34 ct34),sl34⟩)(c34:W.codeIn K cd34 "_law_atape"=true)(k34:W.keepIn K (.ref f34)=true)(a35:W.nsIn K mainGlobals "_law_adigit"=some (some (.ref f35)))(l35:K.lookup f35=some ⟨oc35,od35,.func (W.fnOf "_law_adigit" "_law_adigit" (defArgs zbl) (defBody zbl) (defScope zbl) .none kV35 dc35 pm35 an35 cd35 ct35),sl35⟩)(c35:W.codeIn K cd35 "_law_adigit"=true)(k35:W.keepIn K (.ref f35)=true)(a36:W.nsIn K mainGlobals "_law_awhole"=some (some (.ref f36)))(l36:K.lookup f36=some ⟨oc36,od36,.func (W.fnOf "_law_awhole" "_law_awhole" (defArgs zcc) (defBody zcc) (defScope zcc) .none kV36 dc36 pm36 an36 cd36 ct36),sl36⟩)(c36:W.codeIn K cd36 "_law_awhole"=true)(k36:W.keepIn K (.ref f36)=true)(a37:W.nsIn K mainGlobals "_law_aweb"=some (some (.ref f37)))(l37:K.lookup f37=some ⟨oc37,od37,.func (W.fnOf "_law_aweb" "_law_aweb" (defArgs zcy) (defBody zcy) (defScope zcy) .none kV37 dc37 pm37 an37 cd37 ct37),sl37⟩)(c37:W.codeIn K cd37 "_law_aweb"=true)(k37:W.keepIn K (.ref f37)=true)(a38:W.nsIn K mainGlobals "_law_aneeded"=some (some (.ref f38)))(l38:K.lookup f38=some ⟨oc38,od38,.func (W.fnOf "_law_aneeded" "_law_aneeded" (defArgs zbh) (defBody zbh) (defScope zbh) .none kV38 dc38 pm38 an38 cd38 ct38),sl38⟩)(c38:W.codeIn K cd38 "_law_aneeded"=true)(k38:W.keepIn K (.ref f38)=true)(a39:W.nsIn K mainGlobals "_law_ais_part"=some (some (.ref f39)))(l39:K.lookup f39=some ⟨oc39,od39,.func (W.fnOf "_law_ais_part" "_law_ais_part" (defArgs zbk) (defBody zbk) (defScope zbk) .none kV39 dc39 pm39 an39 cd39 ct39),sl39⟩)(c39:W.codeIn K cd39 "_law_ais_part"=true)(k39:W.keepIn K (.ref f39)=true)(a40:W.nsIn K mainGlobals "_law_asome"=some (some (.ref f40)))(l40:K.lookup f40=some ⟨oc40,od40,.func (W.fnOf "_law_asome" "_law_asome" (defArgs zcp) (defBody zcp) (defScope zcp) .none kV40 dc40 pm40 an40 cd40 ct40),sl40⟩)(c40:W.codeIn K cd40 "_law_asome"=true)(k40:W.keepIn K (.ref f40)=true)(a41:W.nsIn K mainGlobals "law"=some (some (.ref f41)))(l41:K.lookup f41=some ⟨oc41,od41,.func (W.fnOf "law" "law" (defArgs s_law) (defBody s_law) (defScope s_law) .none kV41 dc41 pm41 an41 cd41 ct41),sl41⟩)(c41:W.codeIn K cd41 "law"=true)(k41:W.keepIn K (.ref f41)=true)(x0:W.nsIn K mainGlobals "MOST_PLACES"=some (some (.int 10 tk0)))(x1:W.nsIn K mainGlobals "MOST_WANT"=some (some (.int 99 tk1)))(x2:W.nsIn K mainGlobals "LEAST_RING"=some (some (.int 3 tk2)))(z0:W.nsIn K mainGlobals "abs"=some none)(z1:W.nsIn K mainGlobals "all"=some none)(z2:W.nsIn K mainGlobals "bool"=some none)(z3:W.nsIn K mainGlobals "enumerate"=some none)(z4:W.nsIn K mainGlobals "int"=some none)(z5:W.nsIn K mainGlobals "isinstance"=some none)(z6:W.nsIn K mainGlobals "len"=some none)(z7:W.nsIn K mainGlobals "list"=some none)(z8:W.nsIn K mainGlobals "max"=some none)(z9:W.nsIn K mainGlobals "min"=some none)(z10:W.nsIn K mainGlobals "range"=some none)(z11:W.nsIn K mainGlobals "set"=some none)(z12:W.nsIn K mainGlobals "sorted"=some none)(z13:W.nsIn K mainGlobals "tuple"=some none)(y0:W.nsIn K mainGlobals "Tableau"=some (some (.ref c_Tableau)))(ma0:W.findIn K (.ref c_Tableau) "__init__"=some (some (.ref mf0)))(ml0:K.lookup mf0=some ⟨moc0,mod0,.func (W.fnOf "__init__" "Tableau.__init__" (defArgs zbn) (defBody zbn) (defScope zbn) .none mkV0 mdc0 mpm0 man0 mcd0 mct0),msl0⟩)(mc0:W.codeIn K mcd0 "Tableau.__init__"=true)(mk0:W.keepIn K (.ref mf0)=true)(mi0:W.isFn K (.ref mf0)=true)(ma1:W.findIn K (.ref c_Tableau) "next_column"=some (some (.ref mf1)))(ml1:K.lookup mf1=some ⟨moc1,mod1,.func (W.fnOf "next_column" "Tableau.next_column" (defArgs zap) (defBody zap) (defScope zap) .none mkV1 mdc1 mpm1 man1 mcd1 mct1),msl1⟩)(mc1:W.codeIn K mcd1 "Tableau.next_column"=true)(mk1:W.keepIn K (.ref mf1)=true)(mi1:W.isFn K (.ref mf1)=true)(ma2:W.findIn K (.ref c_Tableau) "is_tighter"=some (some (.ref mf2)))(ml2:K.lookup mf2=some ⟨moc2,mod2,.func (W.fnOf "is_tighter" "Tableau.is_tighter" (defArgs zar) (defBody zar) (defScope zar) .none mkV2 mdc2 mpm2 man2 mcd2 mct2),msl2⟩)(mc2:W.codeIn K mcd2 "Tableau.is_tighter"=true)(mk2:W.keepIn K (.ref mf2)=true)(mi2:W.isFn K (.ref mf2)=true)(ma3:W.findIn K (.ref c_Tableau) "next_row"=some (some (.ref mf3)))(ml3:K.lookup mf3=some ⟨moc3,mod3,.func (W.fnOf "next_row" "Tableau.next_row" (defArgs zaw) (defBody zaw) (defScope zaw) .none mkV3 mdc3 mpm3 man3 mcd3 mct3),msl3⟩)(mc3:W.codeIn K mcd3 "Tableau.next_row"=true)(mk3:W.keepIn K (.ref mf3)=true)(mi3:W.isFn K (.ref mf3)=true)(ma4:W.findIn K (.ref c_Tableau) "turned"=some (some (.ref mf4)))(ml4:K.lookup mf4=some ⟨moc4,mod4,.func (W.fnOf "turned" "Tableau.turned" (defArgs zba) (defBody zba) (defScope zba) .none mkV4 mdc4 mpm4 man4 mcd4 mct4),msl4⟩)(mc4:W.codeIn K mcd4 "Tableau.turned"=true)(mk4:W.keepIn K (.ref mf4)=true)(mi4:W.isFn K (.ref mf4)=true)(ma5:W.findIn K (.ref c_Tableau) "turn"=some (some (.ref mf5)))(ml5:K.lookup mf5=some ⟨moc5,mod5,.func (W.fnOf "turn" "Tableau.turn" (defArgs zbm) (defBody zbm) (defScope zbm) .none mkV5 mdc5 mpm5 man5 mcd5 mct5),msl5⟩)(mc5:W.codeIn K mcd5 "Tableau.turn"=true)(mk5:W.keepIn K (.ref mf5)=true)(mi5:W.isFn K (.ref mf5)=true)(ma6:W.findIn K (.ref c_Tableau) "solve"=some (some (.ref mf6)))(ml6:K.lookup mf6=some ⟨moc6,mod6,.func (W.fnOf "solve" "Tableau.solve" (defArgs zbe) (defBody zbe) (defScope zbe) .none mkV6 mdc6 mpm6 man6 mcd6 mct6),msl6⟩)(mc6:W.codeIn K mcd6 "Tableau.solve"=true)(mk6:W.keepIn K (.ref mf6)=true)(mi6:W.isFn K (.ref mf6)=true)(ma7:W.findIn K (.ref c_Tableau) "fraction_at"=some (some (.ref mf7)))(ml7:K.lookup mf7=some ⟨moc7,mod7,.func (W.fnOf "fraction_at" "Tableau.fraction_at" (defArgs zak) (defBody zak) (defScope zak) .none mkV7 mdc7 mpm7 man7 mcd7 mct7),msl7⟩)(mc7:W.codeIn K mcd7 "Tableau.fraction_at"=true)(mk7:W.keepIn K (.ref mf7)=true)(mi7:W.isFn K (.ref mf7)=true)(ma8:W.findIn K (.ref c_Tableau) "price_of"=some (some (.ref mf8)))(ml8:K.lookup mf8=some ⟨moc8,mod8,.func (W.fnOf "price_of" "Tableau.price_of" (defArgs zav) (defBody zav) (defScope zav) .none mkV8 mdc8 mpm8 man8 mcd8 mct8),msl8⟩)(mc8:W.codeIn K mcd8 "Tableau.price_of"=true)(mk8:W.keepIn K (.ref mf8)=true)(mi8:W.isFn K (.ref mf8)=true)(ma9:W.findIn K (.ref c_Tableau) "share_of"=some (some (.ref mf9)))(ml9:K.lookup mf9=some ⟨moc9,mod9,.func (W.fnOf "share_of" "Tableau.share_of" (defArgs zau) (defBody zau) (defScope zau) .none mkV9 mdc9 mpm9 man9 mcd9 mct9),msl9⟩)(mc9:W.codeIn K mcd9 "Tableau.share_of"=true)(mk9:W.keepIn K (.ref mf9)=true)(mi9:W.isFn K (.ref mf9)=true)(cA_Tableau:W.plainGet K c_Tableau Str.empty=true)(cB_Tableau:W.hasDictIn K c_Tableau=true)(cC_Tableau:W.plainOver K c_Tableau=true)(cD_Tableau:W.findIn K (.ref c_Tableau) "__setattr__"=some (some (.builtin "object.__setattr__")))(cE_Tableau:W.makesIn K c_Tableau=true)(cF_Tableau:W.keepIn K (.ref c_Tableau)=true)(cN_Tableau_cells:W.findIn K (.ref c_Tableau) "cells"=some none)(cN_Tableau_over:W.findIn K (.ref c_Tableau) "over"=some none)(cN_Tableau_columns:W.findIn K (.ref c_Tableau) "columns"=some none)(cN_Tableau_rows:W.findIn K (.ref c_Tableau) "rows"=some none):
  ∃fd:FuncData,(∀(s:Shared) (v:Value),BindsTo s fd ⟨[v],[]⟩ [("script",v)])/\∀base:Heap,K.In base->base.Ns mainGlobals mg->FnOk l.prog w K mg base CX0 14 fa fd ["script"] (spLaw K):=by
 have e:=hfa.symm.trans (W.mg_of X G a41)
 cases e
 have F0:=zaq (st:=zbu) l0 c0 k0
 have E_is_whole:Dfn K mg "is_whole" zbu ["thing"] f0 _:=⟨F0,F0.binds (fun _ _ _ _ _ _ us hl=>by obtain⟨u0,rfl⟩:=Hs.len_1 hl;rfl),W.mg_of X G a0⟩
 have F1:=zaq (st:=zcz) l1 c1 k1
 have E_is_place:Dfn K mg "is_place" zcz ["n","thing"] f1 _:=⟨F1,F1.binds (fun _ _ _ _ _ _ us hl=>by obtain⟨u0,u1,rfl⟩:=Hs.len_2 hl;rfl),W.mg_of X G a1⟩
 have F2:=zaq (st:=zce) l2 c2 k2
 have E_are_places:Dfn K mg "are_places" zce ["n","things"] f2 _:=⟨F2,F2.binds (fun _ _ _ _ _ _ us hl=>by obtain⟨u0,u1,rfl⟩:=Hs.len_2 hl;rfl),W.mg_of X G a2⟩
 have F3:=zaq (st:=zci) l3 c3 k3
 have E_is_rising:Dfn K mg "is_rising" zci ["things"] f3 _:=⟨F3,F3.binds (fun _ _ _ _ _ _ us hl=>by obtain⟨u0,rfl⟩:=Hs.len_1 hl;rfl),W.mg_of X G a3⟩
 have F4:=zaq (st:=s_is_set) l4 c4 k4
 have E_is_set:Dfn K mg "is_set" s_is_set ["n","thing"] f4 _:=⟨F4,F4.binds (fun _ _ _ _ _ _ us hl=>by obtain⟨u0,u1,rfl⟩:=Hs.len_2 hl;rfl),W.mg_of X G a4⟩
 have F5:=zaq (st:=zda) l5 c5 k5
 have E_are_ties:Dfn K mg "are_ties" zda ["n","thing"] f5 _:=⟨F5,F5.binds (fun _ _ _ _ _ _ us hl=>by obtain⟨u0,u1,rfl⟩:=Hs.len_2 hl;rfl),W.mg_of X G a5⟩
 have F6:=zaq (st:=s_is_web) l6 c6 k6
 have E_is_web:Dfn K mg "is_web" s_is_web ["thing"] f6 _:=⟨F6,F6.binds (fun _ _ _ _ _ _ us hl=>by obtain⟨u0,rfl⟩:=Hs.len_1 hl;rfl),W.mg_of X G a6⟩
 have F7:=zaq (st:=zbb) l7 c7 k7
 have E_need_web:Dfn K mg "need_web" zbb ["thing"] f7 _:=⟨F7,F7.binds (fun _ _ _ _ _ _ us hl=>by obtain⟨u0,rfl⟩:=Hs.len_1 hl;rfl),W.mg_of X G a7⟩
 have F8:=zaq (st:=zcw) l8 c8 k8
 have E_need_set:Dfn K mg "need_set" zcw ["web","thing"] f8 _:=⟨F8,F8.binds (fun _ _ _ _ _ _ us hl=>by obtain⟨u0,u1,rfl⟩:=Hs.len_2 hl;rfl),W.mg_of X G a8⟩
 have F9:=zaq (st:=zbj) l9 c9 k9
 have E_need_from_to:Dfn K mg "need_from_to" zbj ["least","most","thing"] f9 _:=⟨F9,F9.binds (fun _ _ _ _ _ _ us hl=>by obtain⟨u0,u1,u2,rfl⟩:=Hs.len_3 hl;rfl),W.mg_of X G a9⟩
 have F10:=zaq (st:=zcx) l10 c10 k10
 have E_need_few:Dfn K mg "need_few" zcx ["n"] f10 _:=⟨F10,F10.binds (fun _ _ _ _ _ _ us hl=>by obtain⟨u0,rfl⟩:=Hs.len_1 hl;rfl),W.mg_of X G a10⟩
 have F11:=zaq (st:=s_pairs) l11 c11 k11
 have E_pairs:Dfn K mg "pairs" s_pairs ["n"] f11 _:=⟨F11,F11.binds (fun _ _ _ _ _ _ us hl=>by obtain⟨u0,rfl⟩:=Hs.len_1 hl;rfl),W.mg_of X G a11⟩
 have F12:=zaq (st:=zdf) l12 c12 k12
 have E_without:Dfn K mg "without" zdf ["some","part"] f12 _:=⟨F12,F12.binds (fun _ _ _ _ _ _ us hl=>by obtain⟨u0,u1,rfl⟩:=Hs.len_2 hl;rfl),W.mg_of X G a12⟩
 have F13:=zaq (st:=zdg) l13 c13 k13
 have E_has_tie:Dfn K mg "has_tie" zdg ["web","one","other"] f13 _:=⟨F13,F13.binds (fun _ _ _ _ _ _ us hl=>by obtain⟨u0,u1,u2,rfl⟩:=Hs.len_3 hl;rfl),W.mg_of X G a13⟩
 have F14:=zaq (st:=zat) l14 c14 k14
 have E_greatest_divisor:Dfn K mg "greatest_divisor" zat ["one","other"] f14 _:=⟨F14,F14.binds (fun _ _ _ _ _ _ us hl=>by obtain⟨u0,u1,rfl⟩:=Hs.len_2 hl;rfl),W.mg_of X G a14⟩
 have F15:=zaq (st:=s_lowest) l15 c15 k15
 have E_lowest:Dfn K mg "lowest" s_lowest ["a","b"] f15 _:=⟨F15,F15.binds (fun _ _ _ _ _ _ us hl=>by obtain⟨u0,u1,rfl⟩:=Hs.len_2 hl;rfl),W.mg_of X G a15⟩
 have F16:=zaq (st:=s_is_less) l16 c16 k16
 have E_is_less:Dfn K mg "is_less" s_is_less ["one","other"] f16 _:=⟨F16,F16.binds (fun _ _ _ _ _ _ us hl=>by obtain⟨u0,u1,rfl⟩:=Hs.len_2 hl;rfl),W.mg_of X G a16⟩
 have F17:=zaq (st:=zcb) l17 c17 k17
 have E_moved_ties:Dfn K mg "moved_ties" zcb ["web","by"] f17 _:=⟨F17,F17.binds (fun _ _ _ _ _ _ us hl=>by obtain⟨u0,u1,rfl⟩:=Hs.len_2 hl;rfl),W.mg_of X G a17⟩
 have F18:=zaq (st:=s_beside) l18 c18 k18
 have E_beside:Dfn K mg "beside" s_beside ["one","other"] f18 _:=⟨F18,F18.binds (fun _ _ _ _ _ _ us hl=>by obtain⟨u0,u1,rfl⟩:=Hs.len_2 hl;rfl),W.mg_of X G a18⟩
 have F19:=zaq (st:=zbv) l19 c19 k19
 have E_cut_down:Dfn K mg "cut_down" zbv ["web","some"] f19 _:=⟨F19,F19.binds (fun _ _ _ _ _ _ us hl=>by obtain⟨u0,u1,rfl⟩:=Hs.len_2 hl;rfl),W.mg_of X G a19⟩
 have F20:=zaq (st:=zbd) l20 c20 k20
 have E_places_by_tie:Dfn K mg "places_by_tie" zbd ["web","place","tied"] f20 _:=⟨F20,F20.binds (fun _ _ _ _ _ _ us hl=>by obtain⟨u0,u1,u2,rfl⟩:=Hs.len_3 hl;rfl),W.mg_of X G a20⟩
 have F21:=zaq (st:=s_in_both) l21 c21 k21
 have E_in_both:Dfn K mg "in_both" s_in_both ["ones","others"] f21 _:=⟨F21,F21.binds (fun _ _ _ _ _ _ us hl=>by obtain⟨u0,u1,rfl⟩:=Hs.len_2 hl;rfl),W.mg_of X G a21⟩
 have F22:=zaq (st:=zcr) l22 c22 k22
 have E_full_sets:Dfn K mg "full_sets" zcr ["friends"] f22 _:=⟨F22,F22.binds (fun _ _ _ _ _ _ us hl=>by obtain⟨u0,rfl⟩:=Hs.len_1 hl;rfl),W.mg_of X G a22⟩
 have F23:=zaq (st:=zcd) l23 c23 k23
 have E_full_apart:Dfn K mg "full_apart" zcd ["web"] f23 _:=⟨F23,F23.binds (fun _ _ _ _ _ _ us hl=>by obtain⟨u0,rfl⟩:=Hs.len_1 hl;rfl),W.mg_of X G a23⟩
 have F24:=zaq (st:=zca) l24 c24 k24
 have E_need_wants:Dfn K mg "need_wants" zca ["web","thing"] f24 _:=⟨F24,F24.binds (fun _ _ _ _ _ _ us hl=>by obtain⟨u0,u1,rfl⟩:=Hs.len_2 hl;rfl),W.mg_of X G a24⟩
 have F25:=zaq (st:=s_shares) l25 c25 k25
 have E_shares:Dfn K mg "shares" s_shares ["web","wants"] f25 _:=⟨F25,F25.binds (fun _ _ _ _ _ _ us hl=>by obtain⟨u0,u1,rfl⟩:=Hs.len_2 hl;rfl),W.mg_of X G a25⟩
 have F26:=zaq (st:=s_value) l26 c26 k26
 have E_value:Dfn K mg "value" s_value ["web"] f26 _:=⟨F26,F26.binds (fun _ _ _ _ _ _ us hl=>by obtain⟨u0,rfl⟩:=Hs.len_1 hl;rfl),W.mg_of X G a26⟩
 have F27:=zaq (st:=zaz) l27 c27 k27
 have E_value_without:Dfn K mg "value_without" zaz ["web","some","place"] f27 _:=⟨F27,F27.binds (fun _ _ _ _ _ _ us hl=>by obtain⟨u0,u1,u2,rfl⟩:=Hs.len_3 hl;rfl),W.mg_of X G a27⟩
 have F28:=zaq (st:=zcg) l28 c28 k28
 have E_needed_in:Dfn K mg "needed_in" zcg ["web","some"] f28 _:=⟨F28,F28.binds (fun _ _ _ _ _ _ us hl=>by obtain⟨u0,u1,rfl⟩:=Hs.len_2 hl;rfl),W.mg_of X G a28⟩
 have F29:=zaq (st:=s_needed) l29 c29 k29
 have E_needed:Dfn K mg "needed" s_needed ["web"] f29 _:=⟨F29,F29.binds (fun _ _ _ _ _ _ us hl=>by obtain⟨u0,rfl⟩:=Hs.len_1 hl;rfl),W.mg_of X G a29⟩
 have F30:=zaq (st:=zcq) l30 c30 k30
 have E_held_part:Dfn K mg "held_part" zcq ["web"] f30 _:=⟨F30,F30.binds (fun _ _ _ _ _ _ us hl=>by obtain⟨u0,rfl⟩:=Hs.len_1 hl;rfl),W.mg_of X G a30⟩
 have F31:=zaq (st:=s_is_part) l31 c31 k31
 have E_is_part:Dfn K mg "is_part" s_is_part ["web","some"] f31 _:=⟨F31,F31.binds (fun _ _ _ _ _ _ us hl=>by obtain⟨u0,u1,rfl⟩:=Hs.len_2 hl;rfl),W.mg_of X G a31⟩
 have F32:=zaq (st:=s_ring) l32 c32 k32
 have E_ring:Dfn K mg "ring" s_ring ["n"] f32 _:=⟨F32,F32.binds (fun _ _ _ _ _ _ us hl=>by obtain⟨u0,rfl⟩:=Hs.len_1 hl;rfl),W.mg_of X G a32⟩
 have F33:=zaq (st:=zch) l33 c33 k33
 have E_law_acell:Dfn K mg "_law_acell" zch ["script","k"] f33 _:=⟨F33,F33.binds (fun _ _ _ _ _ _ us hl=>by obtain⟨u0,u1,rfl⟩:=Hs.len_2 hl;rfl),W.mg_of X G a33⟩
 have F34:=zaq (st:=zco) l34 c34 k34
 have E_law_atape:Dfn K mg "_law_atape" zco ["script","k"] f34 _:=⟨F34,F34.binds (fun _ _ _ _ _ _ us hl=>by obtain⟨u0,u1,rfl⟩:=Hs.len_2 hl;rfl),W.mg_of X G a34⟩
 have F35:=zaq (st:=zbl) l35 c35 k35
 have E_law_adigit:Dfn K mg "_law_adigit" zbl ["tape","many"] f35 _:=⟨F35,F35.binds (fun _ _ _ _ _ _ us hl=>by obtain⟨u0,u1,rfl⟩:=Hs.len_2 hl;rfl),W.mg_of X G a35⟩
 have F36:=zaq (st:=zcc) l36 c36 k36
 have E_law_awhole:Dfn K mg "_law_awhole" zcc ["found"] f36 _:=⟨F36,F36.binds (fun _ _ _ _ _ _ us hl=>by obtain⟨u0,rfl⟩:=Hs.len_1 hl;rfl),W.mg_of X G a36⟩
 have F37:=zaq (st:=zcy) l37 c37 k37
 have E_law_aweb:Dfn K mg "_law_aweb" zcy ["tape","most"] f37 _:=⟨F37,F37.binds (fun _ _ _ _ _ _ us hl=>by obtain⟨u0,u1,rfl⟩:=Hs.len_2 hl;rfl),W.mg_of X G a37⟩
 have F38:=zaq (st:=zbh) l38 c38 k38
 have E_law_aneeded:Dfn K mg "_law_aneeded" zbh ["web","some","known"] f38 _:=⟨F38,F38.binds (fun _ _ _ _ _ _ us hl=>by obtain⟨u0,u1,u2,rfl⟩:=Hs.len_3 hl;rfl),W.mg_of X G a38⟩
 have F39:=zaq (st:=zbk) l39 c39 k39
 have E_law_ais_part:Dfn K mg "_law_ais_part" zbk ["web","some","known"] f39 _:=⟨F39,F39.binds (fun _ _ _ _ _ _ us hl=>by obtain⟨u0,u1,u2,rfl⟩:=Hs.len_3 hl;rfl),W.mg_of X G a39⟩
 have F40:=zaq (st:=zcp) l40 c40 k40
 have E_law_asome:Dfn K mg "_law_asome" zcp ["tape","web","told"] f40 _:=⟨F40,F40.binds (fun _ _ _ _ _ _ us hl=>by obtain⟨u0,u1,u2,rfl⟩:=Hs.len_3 hl;rfl),W.mg_of X G a40⟩
 have F41:=zaq (st:=s_law) l41 c41 k41
 have v_MOST_PLACES:=W.mg_of X G x0
 have v_MOST_WANT:=W.mg_of X G x1
 have v_LEAST_RING:=W.mg_of X G x2
 have n_abs:=W.mg_none_of X G z0
 have n_all:=W.mg_none_of X G z1
 have n_bool:=W.mg_none_of X G z2
 have n_enumerate:=W.mg_none_of X G z3
 have n_int:=W.mg_none_of X G z4
 have n_isinstance:=W.mg_none_of X G z5
 have n_len:=W.mg_none_of X G z6
 have n_list:=W.mg_none_of X G z7
 have n_max:=W.mg_none_of X G z8
 have n_min:=W.mg_none_of X G z9
 have n_range:=W.mg_none_of X G z10
 have n_set:=W.mg_none_of X G z11
 have n_sorted:=W.mg_none_of X G z12
 have n_tuple:=W.mg_none_of X G z13
 have m_Tableau:=W.mg_of X G y0
 have FM0:=zaq (st:=zbn) ml0 mc0 mk0
 have E_Tableau___init__:Mdf K c_Tableau "__init__" "Tableau.__init__" zbn ["self","sets","wants"] mf0 _:=⟨FM0,FM0.binds (fun _ _ _ _ _ _ us hl=>by obtain⟨u0,u1,u2,rfl⟩:=Hs.len_3 hl;rfl),⟨ma0,mi0,mk0⟩⟩
 have FM1:=zaq (st:=zap) ml1 mc1 mk1
 have E_Tableau_next_column:Mdf K c_Tableau "next_column" "Tableau.next_column" zap ["self"] mf1 _:=⟨FM1,FM1.binds (fun _ _ _ _ _ _ us hl=>by obtain⟨u0,rfl⟩:=Hs.len_1 hl;rfl),⟨ma1,mi1,mk1⟩⟩
 have FM2:=zaq (st:=zar) ml2 mc2 mk2
 have E_Tableau_is_tighter:Mdf K c_Tableau "is_tighter" "Tableau.is_tighter" zar ["self","column","row","other"] mf2 _:=⟨FM2,FM2.binds (fun _ _ _ _ _ _ us hl=>by obtain⟨u0,u1,u2,u3,rfl⟩:=Hs.len_4 hl;rfl),⟨ma2,mi2,mk2⟩⟩
 have FM3:=zaq (st:=zaw) ml3 mc3 mk3
 have E_Tableau_next_row:Mdf K c_Tableau "next_row" "Tableau.next_row" zaw ["self","column"] mf3 _:=⟨FM3,FM3.binds (fun _ _ _ _ _ _ us hl=>by obtain⟨u0,u1,rfl⟩:=Hs.len_2 hl;rfl),⟨ma3,mi3,mk3⟩⟩
 have FM4:=zaq (st:=zba) ml4 mc4 mk4
 have E_Tableau_turned:Mdf K c_Tableau "turned" "Tableau.turned" zba ["self","cells","pivots","column"] mf4 _:=⟨FM4,FM4.binds (fun _ _ _ _ _ _ us hl=>by obtain⟨u0,u1,u2,u3,rfl⟩:=Hs.len_4 hl;rfl),⟨ma4,mi4,mk4⟩⟩
 have FM5:=zaq (st:=zbm) ml5 mc5 mk5
 have E_Tableau_turn:Mdf K c_Tableau "turn" "Tableau.turn" zbm ["self","row","column"] mf5 _:=⟨FM5,FM5.binds (fun _ _ _ _ _ _ us hl=>by obtain⟨u0,u1,u2,rfl⟩:=Hs.len_3 hl;rfl),⟨ma5,mi5,mk5⟩⟩
 have FM6:=zaq (st:=zbe) ml6 mc6 mk6
 have E_Tableau_solve:Mdf K c_Tableau "solve" "Tableau.solve" zbe ["self"] mf6 _:=⟨FM6,FM6.binds (fun _ _ _ _ _ _ us hl=>by obtain⟨u0,rfl⟩:=Hs.len_1 hl;rfl),⟨ma6,mi6,mk6⟩⟩
 have FM7:=zaq (st:=zak) ml7 mc7 mk7
 have E_Tableau_fraction_at:Mdf K c_Tableau "fraction_at" "Tableau.fraction_at" zak ["self","row","column"] mf7 _:=⟨FM7,FM7.binds (fun _ _ _ _ _ _ us hl=>by obtain⟨u0,u1,u2,rfl⟩:=Hs.len_3 hl;rfl),⟨ma7,mi7,mk7⟩⟩
 have FM8:=zaq (st:=zav) ml8 mc8 mk8
 have E_Tableau_price_of:Mdf K c_Tableau "price_of" "Tableau.price_of" zav ["self","name"] mf8 _:=⟨FM8,FM8.binds (fun _ _ _ _ _ _ us hl=>by obtain⟨u0,u1,rfl⟩:=Hs.len_2 hl;rfl),⟨ma8,mi8,mk8⟩⟩
 have FM9:=zaq (st:=zau) ml9 mc9 mk9
 have E_Tableau_share_of:Mdf K c_Tableau "share_of" "Tableau.share_of" zau ["self","name"] mf9 _:=⟨FM9,FM9.binds (fun _ _ _ _ _ _ us hl=>by obtain⟨u0,u1,rfl⟩:=Hs.len_2 hl;rfl),⟨ma9,mi9,mk9⟩⟩
 have cl_Tableau:Cls K c_Tableau:=⟨cA_Tableau,cB_Tableau,cC_Tableau,cD_Tableau⟩
 have na_cells:NoAttr K c_Tableau "cells":=cN_Tableau_cells
 have na_over:NoAttr K c_Tableau "over":=cN_Tableau_over
 have na_columns:NoAttr K c_Tableau "columns":=cN_Tableau_columns
 have na_rows:NoAttr K c_Tableau "rows":=cN_Tableau_rows
 have mk_Tableau:Mk K c_Tableau mf0:=⟨cE_Tableau,ma0,mi0,cF_Tableau⟩
 refine⟨W.fnOf "law" "law" (defArgs s_law) (defBody s_law) (defScope s_law) .none kV41 dc41 pm41 an41 cd41 ct41,fun s v=> .of_eq rfl,fun base _ _=> ?_⟩
 have g_whole:=ok_whole (P:=l.prog) (w:=w) (base:=base) F0 n_isinstance n_int n_bool
 have g_place:=ok_place (P:=l.prog) (w:=w) (base:=base) F1 E_is_whole g_whole
 have g_places:=ok_places (P:=l.prog) (w:=w) (base:=base) F2 E_is_place g_place n_all
 have g_rising:=ok_rising (P:=l.prog) (w:=w) (mg:=mg) (base:=base) F3 n_all n_range n_len
 have g_set:=ok_set (P:=l.prog) (w:=w) (base:=base) F4 E_are_places g_places E_is_rising g_rising n_isinstance n_tuple
 have g_ties:=ok_ties (P:=l.prog) (w:=w) (base:=base) F5 E_is_set g_set E_is_rising g_rising n_isinstance n_tuple n_all n_len
 have g_web:=ok_web (P:=l.prog) (w:=w) (base:=base) F6 E_is_whole g_whole E_are_ties g_ties n_isinstance n_tuple n_len v_MOST_PLACES
 have g_needWeb:=ok_needWeb (P:=l.prog) (w:=w) (base:=base) F7 E_is_web g_web
 have g_needSet:=ok_needSet (P:=l.prog) (w:=w) (base:=base) F8 E_is_set g_set
 have g_needFew:=ok_needFew (P:=l.prog) (w:=w) (base:=base) F10 v_MOST_PLACES
 have g_fromTo:=ok_fromTo (P:=l.prog) (w:=w) (mg:=mg) (base:=base) F9 E_is_whole g_whole
 have g_has:=ok_has (P:=l.prog) (w:=w) (mg:=mg) (base:=base) F13 n_min n_max
 have g_allp:=ok_allp (P:=l.prog) (w:=w) (base:=base) F11 n_range
 have g_byTie:=ok_byTie (P:=l.prog) (w:=w) (mg:=mg) (base:=base) F20 E_has_tie g_has n_range
 have g_inBoth:=ok_inBoth (P:=l.prog) (w:=w) (mg:=mg) (base:=base) F21
 have g_fullSets:=ok_fullSets (P:=l.prog) (w:=w) (mg:=mg) (base:=base) F22 E_in_both g_inBoth n_list n_range n_len n_sorted
 have g_fullApart:=ok_fullApart (P:=l.prog) (w:=w) (mg:=mg) (base:=base) F23 E_need_web g_needWeb E_full_sets g_fullSets E_places_by_tie g_byTie n_range
 have g_gd:=ok_gd (P:=l.prog) (w:=w) (mg:=mg) (base:=base) F14
 have g_low:=ok_low (P:=l.prog) (w:=w) (base:=base) F15 E_greatest_divisor g_gd n_abs
 have g_cell:=ok_cell (P:=l.prog) (w:=w) (base:=base) F33 n_len
 have g_tape:=ok_tape (P:=l.prog) (w:=w) (base:=base) F34 E_law_acell g_cell n_range
 have g_dig:=ok_dig (P:=l.prog) (w:=w) (mg:=mg) (base:=base) F35
 have g_aw:=ok_aw (P:=l.prog) (w:=w) (base:=base) F36 n_isinstance n_int n_bool
 have g_aweb:=ok_aweb (P:=l.prog) (w:=w) (mg:=mg) (base:=base) F37 E_law_adigit g_dig n_range n_tuple
 have g_tNc:=ok_tNc (P:=l.prog) (w:=w) (mg:=mg) (base:=base) FM1 cl_Tableau na_cells na_over na_columns na_rows n_enumerate n_min
 have g_tTi:=ok_tTi (P:=l.prog) (w:=w) (mg:=mg) (base:=base) FM2 cl_Tableau na_cells na_over na_columns na_rows
 have g_tNr:=ok_tNr (P:=l.prog) (w:=w) (mg:=mg) (base:=base) FM3 cl_Tableau na_cells na_over na_columns na_rows E_Tableau_is_tighter g_tTi n_range n_len
 have g_tTd:=ok_tTd (P:=l.prog) (w:=w) (mg:=mg) (base:=base) FM4 cl_Tableau na_cells na_over na_columns na_rows n_enumerate
 have g_tTu:=ok_tTu (P:=l.prog) (w:=w) (mg:=mg) (base:=base) FM5 cl_Tableau na_cells na_over na_columns na_rows E_Tableau_turned g_tTd
 have g_tSo:=ok_tSo (P:=l.prog) (w:=w) (mg:=mg) (base:=base) FM6 cl_Tableau na_cells na_over na_columns na_rows E_Tableau_next_column g_tNc E_Tableau_turn g_tTu E_Tableau_next_row g_tNr
 have g_tFa:=ok_tFa (P:=l.prog) (w:=w) (mg:=mg) (base:=base) FM7 cl_Tableau na_cells na_over na_columns na_rows E_lowest g_low
 have g_tPo:=ok_tPo (P:=l.prog) (w:=w) (mg:=mg) (base:=base) FM8 cl_Tableau na_cells na_over na_columns na_rows E_lowest g_low E_Tableau_fraction_at g_tFa
 have g_tSh:=ok_tSh (P:=l.prog) (w:=w) (mg:=mg) (base:=base) FM9 cl_Tableau na_cells na_over na_columns na_rows E_lowest g_low E_Tableau_fraction_at g_tFa
 have g_tIni:=ok_tIni (P:=l.prog) (w:=w) (mg:=mg) (base:=base) FM0 cl_Tableau na_cells na_over na_columns na_rows n_len n_range n_list
 have g_needWants:=ok_needWants (P:=l.prog) (w:=w) (mg:=mg) (base:=base) F24 E_is_whole g_whole n_len n_isinstance n_tuple n_all v_MOST_WANT
 have g_shares:=ok_shares (P:=l.prog) (w:=w) (mg:=mg) (base:=base) F25 cl_Tableau na_cells na_over na_columns na_rows m_Tableau E_need_web g_needWeb E_need_wants g_needWants E_full_apart g_fullApart E_Tableau___init__ mk_Tableau g_tIni E_Tableau_solve g_tSo E_Tableau_share_of g_tSh E_Tableau_price_of g_tPo E_Tableau_fraction_at g_tFa n_enumerate n_range
 have g_value:=ok_value (P:=l.prog) (w:=w) (mg:=mg) (base:=base) F26 E_need_web g_needWeb E_shares g_shares
 have g_less:=ok_less (P:=l.prog) (w:=w) (mg:=mg) (base:=base) F16
 have g_cut:=ok_cut (P:=l.prog) (w:=w) (base:=base) F19 E_need_web g_needWeb E_need_set g_needSet E_pairs g_allp E_has_tie g_has n_tuple n_len
 have g_moved:=ok_moved (P:=l.prog) (w:=w) (mg:=mg) (base:=base) F17
 have g_beside:=ok_beside (P:=l.prog) (w:=w) (base:=base) F18 E_need_web g_needWeb E_need_few g_needFew E_moved_ties g_moved n_tuple
 have g_ringW:=ok_ringW (P:=l.prog) (w:=w) (mg:=mg) (base:=base) F32 E_need_from_to g_fromTo n_range n_tuple n_sorted v_LEAST_RING v_MOST_PLACES
 have g_without:=ok_without (P:=l.prog) (w:=w) (mg:=mg) (base:=base) F12 n_tuple
 have g_vwo:=ok_vwo (P:=l.prog) (w:=w) (mg:=mg) (base:=base) F27 E_value g_value E_cut_down g_cut E_without g_without
 have g_nin:=ok_nin (P:=l.prog) (w:=w) (mg:=mg) (base:=base) F28 E_value g_value E_cut_down g_cut E_is_less g_less E_value_without g_vwo n_tuple
 have g_ned:=ok_ned (P:=l.prog) (w:=w) (mg:=mg) (base:=base) F29 E_need_web g_needWeb E_needed_in g_nin n_tuple n_range
 have g_ispt:=ok_ispt (P:=l.prog) (w:=w) (mg:=mg) (base:=base) F31 E_need_web g_needWeb E_value g_value E_cut_down g_cut E_is_set g_set E_needed_in g_nin
 have g_hpt:=ok_hpt (P:=l.prog) (w:=w) (mg:=mg) (base:=base) F30 E_need_web g_needWeb E_value g_value E_value_without g_vwo E_without g_without n_tuple n_range
 have g_aned:=ok_aned (P:=l.prog) (w:=w) (mg:=mg) (base:=base) F38 E_value g_value E_cut_down g_cut n_tuple
 have g_apt:=ok_apt (P:=l.prog) (w:=w) (mg:=mg) (base:=base) F39 E_law_aneeded g_aned n_tuple n_range n_list n_sorted n_set
 have g_asome:=ok_asome (P:=l.prog) (w:=w) (mg:=mg) (base:=base) F40 E_law_adigit g_dig n_tuple n_range n_sorted n_set
 exact ok_law (P:=l.prog) (w:=w) (mg:=mg) (base:=base) F41 E_law_atape g_tape E_law_aweb g_aweb E_law_acell g_cell E_beside g_beside E_ring g_ringW E_law_adigit g_dig E_law_aneeded g_aned E_needed g_ned E_held_part g_hpt E_law_ais_part g_apt E_law_awhole g_aw E_law_asome g_asome E_is_part g_ispt n_range n_max n_min n_len n_int n_tuple n_isinstance n_bool
theorem walk{l:PySem.W.OpenLaw}{q:Program}{loose:List Str}{XP:(Str->Option Value)->Heap->Prop}{YP:World->Heap->Prop}{d:DefRec}{K:Params->PySem.W.Frag}(hn:l.most=some 63)(hdf:d.params.defaults=[])(hY:∀(w:World) (h:Heap),YP w h->(K w.params).In h)
  (F:∀(w:World) (mg:Str->Option Value) (fa:Addr) (h:Heap),(K w.params).In h->h.Ns mainGlobals mg->mg d.name=some (.ref fa)->
   ∃fd:FuncData,(∀(s:Shared) (u:Value),BindsTo s fd ⟨[u],[]⟩ [("script",u)])/\∀base:Heap,(K w.params).In base->base.Ns mainGlobals mg->FnOk l.prog w (K w.params) mg base CX0 14 fa fd ["script"] (spLaw (K w.params))):
  PySem.W.WalkO q loose XP YP l.row.toRowW d [] (fun f vs=>PySem.call f vs):=
 L2.walk_of (n:=63) (k:=14) (x:="script") (CX:=fun _=>CX0) (sp:=fun w=>spLaw (K w.params)) hn (by decide) hdf ⟨rfl,by decide,by decide,rfl⟩ hY F (fun _ _ a ns hl hO hS=>spLaw_of hl hO hS) fun _ _ _ _ _ z=>z
end Hs
open PySem PySem.W PyProof.Rows
set_option maxRecDepth 100000 in
set_option maxHeartbeats 0 in
theorem PySem.Challenge.cw_hueshare_k31_needed_places_and_parts_holds : PySem.Challenge.rw_hueshare_k31_needed_places_and_parts.Holds := by
 refine Hd.early.2 ?_
 unfold Hd.early
 dsimp only
 k_fill
 refine Hs.walk (l:=PySem.Challenge.rw_hueshare_k31_needed_places_and_parts) rfl rfl (fun w h Y=>PySem.W.kIn_of Y) ?F
 case F=>
  intro w mg fa h KX G hmg
  refine' Hs.all_mk KX G hmg ?a0 ?l0 ?c0 ?k0 ?a1 ?l1 ?c1 ?k1 ?a2 ?l2 ?c2 ?k2 ?a3 ?l3 ?c3 ?k3 ?a4 ?l4 ?c4 ?k4 ?a5 ?l5 ?c5 ?k5 ?a6 ?l6 ?c6 ?k6 ?a7 ?l7 ?c7 ?k7 ?a8 ?l8 ?c8 ?k8 ?a9 ?l9 ?c9 ?k9 ?a10 ?l10 ?c10 ?k10 ?a11 ?l11 ?c11 ?k11 ?a12 ?l12 ?c12 ?k12 ?a13 ?l13 ?c13 ?k13 ?a14 ?l14 ?c14 ?k14 ?a15 ?l15 ?c15 ?k15 ?a16 ?l16 ?c16 ?k16 ?a17 ?l17 ?c17 ?k17 ?a18 ?l18 ?c18 ?k18 ?a19 ?l19 ?c19 ?k19 ?a20 ?l20 ?c20 ?k20 ?a21 ?l21 ?c21 ?k21 ?a22 ?l22 ?c22 ?k22 ?a23 ?l23 ?c23 ?k23 ?a24 ?l24 ?c24 ?k24 ?a25 ?l25 ?c25 ?k25 ?a26 ?l26 ?c26 ?k26 ?a27 ?l27 ?c27 ?k27 ?a28 ?l28 ?c28 ?k28 ?a29 ?l29 ?c29 ?k29 ?a30 ?l30 ?c30 ?k30 ?a31 ?l31 ?c31 ?k31 ?a32 ?l32 ?c32 ?k32 ?a33 ?l33 ?c33 ?k33 ?a34 ?l34 ?c34 ?k34 ?a35 ?l35 ?c35 ?k35 ?a36 ?l36 ?c36 ?k36 ?a37 ?l37 ?c37 ?k37 ?a38 ?l38 ?c38 ?k38 ?a39 ?l39 ?c39 ?k39 ?a40 ?l40 ?c40 ?k40 ?a41 ?l41 ?c41 ?k41 ?x0 ?x1 ?x2 ?z0 ?z1 ?z2 ?z3 ?z4 ?z5 ?z6 ?z7 ?z8 ?z9 ?z10 ?z11 ?z12 ?z13 ?y0 ?ma0 ?ml0 ?mc0 ?mk0 ?mi0 ?ma1 ?ml1 ?mc1 ?mk1 ?mi1 ?ma2 ?ml2 ?mc2 ?mk2 ?mi2 ?ma3 ?ml3 ?mc3 ?mk3 ?mi3 ?ma4 ?ml4 ?mc4 ?mk4 ?mi4 ?ma5 ?ml5 ?mc5 ?mk5 ?mi5 ?ma6 ?ml6 ?mc6 ?mk6 ?mi6 ?ma7 ?ml7 ?mc7 ?mk7 ?mi7 ?ma8 ?ml8 ?mc8 ?mk8 ?mi8 ?ma9 ?ml9 ?mc9 ?mk9 ?mi9 ?cA_Tableau ?cB_Tableau ?cC_Tableau ?cD_Tableau ?cE_Tableau ?cF_Tableau ?cN_Tableau_cells ?cN_Tableau_over ?cN_Tableau_columns ?cN_Tableau_rows
  (case a0=>k_is)
  (case l0=>k_is)
  (case c0=>k_is)
  (case k0=>k_is)
  (case a1=>k_is)
  (case l1=>k_is)
  (case c1=>k_is)
  (case k1=>k_is)
  (case a2=>k_is)
  (case l2=>k_is)
  (case c2=>k_is)
  (case k2=>k_is)
  (case a3=>k_is)
  (case l3=>k_is)
  (case c3=>k_is)
  (case k3=>k_is)
  (case a4=>k_is)
  (case l4=>k_is)
  (case c4=>k_is)
  (case k4=>k_is)
  (case a5=>k_is)
  (case l5=>k_is)
  (case c5=>k_is)
  (case k5=>k_is)
  (case a6=>k_is)
  (case l6=>k_is)
  (case c6=>k_is)
  (case k6=>k_is)
  (case a7=>k_is)
  (case l7=>k_is)
  (case c7=>k_is)
  (case k7=>k_is)
  (case a8=>k_is)
  (case l8=>k_is)
  (case c8=>k_is)
  (case k8=>k_is)
  (case a9=>k_is)
  (case l9=>k_is)
  (case c9=>k_is)
  (case k9=>k_is)
  (case a10=>k_is)
  (case l10=>k_is)
  (case c10=>k_is)
  (case k10=>k_is)
  (case a11=>k_is)
  (case l11=>k_is)
  (case c11=>k_is)
  (case k11=>k_is)
  (case a12=>k_is)
  (case l12=>k_is)
  (case c12=>k_is)
  (case k12=>k_is)
  (case a13=>k_is)
  (case l13=>k_is)
  (case c13=>k_is)
  (case k13=>k_is)
  (case a14=>k_is)
  (case l14=>k_is)
  (case c14=>k_is)
  (case k14=>k_is)
  (case a15=>k_is)
  (case l15=>k_is)
  (case c15=>k_is)
  (case k15=>k_is)
  (case a16=>k_is)
  (case l16=>k_is)
  (case c16=>k_is)
  (case k16=>k_is)
  (case a17=>k_is)
  (case l17=>k_is)
  (case c17=>k_is)
  (case k17=>k_is)
  (case a18=>k_is)
  (case l18=>k_is)
  (case c18=>k_is)
  (case k18=>k_is)
  (case a19=>k_is)
  (case l19=>k_is)
  (case c19=>k_is)
  (case k19=>k_is)
  (case a20=>k_is)
  (case l20=>k_is)
  (case c20=>k_is)
  (case k20=>k_is)
  (case a21=>k_is)
  (case l21=>k_is)
  (case c21=>k_is)
  (case k21=>k_is)
  (case a22=>k_is)
  (case l22=>k_is)
  (case c22=>k_is)
  (case k22=>k_is)
  (case a23=>k_is)
  (case l23=>k_is)
  (case c23=>k_is)
  (case k23=>k_is)
  (case a24=>k_is)
  (case l24=>k_is)
  (case c24=>k_is)
  (case k24=>k_is)
  (case a25=>k_is)
  (case l25=>k_is)
  (case c25=>k_is)
  (case k25=>k_is)
  (case a26=>k_is)
  (case l26=>k_is)
  (case c26=>k_is)
  (case k26=>k_is)
  (case a27=>k_is)
  (case l27=>k_is)
  (case c27=>k_is)
  (case k27=>k_is)
  (case a28=>k_is)
  (case l28=>k_is)
  (case c28=>k_is)
  (case k28=>k_is)
  (case a29=>k_is)
  (case l29=>k_is)
  (case c29=>k_is)
  (case k29=>k_is)
  (case a30=>k_is)
  (case l30=>k_is)
  (case c30=>k_is)
  (case k30=>k_is)
  (case a31=>k_is)
  (case l31=>k_is)
  (case c31=>k_is)
  (case k31=>k_is)
  (case a32=>k_is)
  (case l32=>k_is)
  (case c32=>k_is)
  (case k32=>k_is)
  (case a33=>k_is)
  (case l33=>k_is)
  (case c33=>k_is)
  (case k33=>k_is)
  (case a34=>k_is)
  (case l34=>k_is)
  (case c34=>k_is)
  (case k34=>k_is)
  (case a35=>k_is)
  (case l35=>k_is)
  (case c35=>k_is)
  (case k35=>k_is)
  (case a36=>k_is)
  (case l36=>k_is)
  (case c36=>k_is)
  (case k36=>k_is)
  (case a37=>k_is)
  (case l37=>k_is)
  (case c37=>k_is)
  (case k37=>k_is)
  (case a38=>k_is)
  (case l38=>k_is)
  (case c38=>k_is)
  (case k38=>k_is)
  (case a39=>k_is)
  (case l39=>k_is)
  (case c39=>k_is)
  (case k39=>k_is)
  (case a40=>k_is)
  (case l40=>k_is)
  (case c40=>k_is)
  (case k40=>k_is)
  (case a41=>k_is)
  (case l41=>k_is)
  (case c41=>k_is)
  (case k41=>k_is)
  (case x0=>k_is)
  (case x1=>k_is)
  (case x2=>k_is)
  (case z0=>k_is)
  (case z1=>k_is)
  (case z2=>k_is)
  (case z3=>k_is)
  (case z4=>k_is)
  (case z5=>k_is)
  (case z6=>k_is)
  (case z7=>k_is)
  (case z8=>k_is)
  (case z9=>k_is)
  (case z10=>k_is)
  (case z11=>k_is)
  (case z12=>k_is)
  (case z13=>k_is)
  (case y0=>k_is)
  (case ma0=>k_is)
  (case ml0=>k_is)
  (case mc0=>k_is)
  (case mk0=>k_is)
  (case mi0=>k_is)
  (case ma1=>k_is)
  (case ml1=>k_is)
  (case mc1=>k_is)
  (case mk1=>k_is)
  (case mi1=>k_is)
  (case ma2=>k_is)
  (case ml2=>k_is)
  (case mc2=>k_is)
  (case mk2=>k_is)
  (case mi2=>k_is)
  (case ma3=>k_is)
  (case ml3=>k_is)
  (case mc3=>k_is)
  (case mk3=>k_is)
  (case mi3=>k_is)
  (case ma4=>k_is)
  (case ml4=>k_is)
  (case mc4=>k_is)
  (case mk4=>k_is)
  (case mi4=>k_is)
  (case ma5=>k_is)
  (case ml5=>k_is)
  (case mc5=>k_is)
  (case mk5=>k_is)
  (case mi5=>k_is)
  (case ma6=>k_is)
  (case ml6=>k_is)
  (case mc6=>k_is)
  (case mk6=>k_is)
  (case mi6=>k_is)
  (case ma7=>k_is)
  (case ml7=>k_is)
  (case mc7=>k_is)
  (case mk7=>k_is)
  (case mi7=>k_is)
  (case ma8=>k_is)
  (case ml8=>k_is)
  (case mc8=>k_is)
  (case mk8=>k_is)
  (case mi8=>k_is)
  (case ma9=>k_is)
  (case ml9=>k_is)
  (case mc9=>k_is)
  (case mk9=>k_is)
  (case mi9=>k_is)
  (case cA_Tableau=>k_is)
  (case cB_Tableau=>k_is)
  (case cC_Tableau=>k_is)
  (case cD_Tableau=>k_is)
  (case cE_Tableau=>k_is)
  (case cF_Tableau=>k_is)
  (case cN_Tableau_cells=>k_is)
  (case cN_Tableau_over=>k_is)
  (case cN_Tableau_columns=>k_is)
  (case cN_Tableau_rows=>k_is)
