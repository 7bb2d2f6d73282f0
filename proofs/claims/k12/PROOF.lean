import PyProof.Rows.All
import Wide.All
import OpenK.AllK
import Wide.FinOn
import Lean
import PyProof.EqAt
import PyProof.EqKinds
import PyProof.TupleCall
import PyProof.ListRange
import PyProof.TupleOfSeq
import PyProof.Draws
import PyProof.EnumMake
import PyProof.TupleIter
import PyProof.Rows.SetFrom
import PyProof.SetRoads
import PyProof.WalksMore
import PyProof.Rows.SortShell
import KE.KMinBuiltin
import PyProof.Rows.CallKwBuiltin
import KE.KRevIter
import PyProof.Rows.Tup
import PyProof.Rows.Range3
import PyProof.DictWalks
import PyProof.DictTruth
import PyProof.TupleKey
import PyProof.Rows.SeqMore2
import PyProof.FString
import PySem.Challenge.RW_hueshare_k12_made_ones_refused
set_option Elab.async false
set_option linter.all false
set_option maxRecDepth 100000
namespace Hd
open PySem PySem.W PySem.Calls PyProof.Rows
-- a run of the text's top over the heap as a tree, as one fold
noncomputable def runT(tb:String->Option Builtin)(p:Program)(w:World)(m:Nat)(ann:Option Value)(n:Nat):SharedT->Thread->Option SharedT:=
 @Nat.rec (fun _=>SharedT->Thread->Option SharedT) (fun _ _=>none)
  (fun _ ih s t=> @Bool.rec (fun _=>Option SharedT)
   (@Bool.rec (fun _=>Option SharedT) none
    (@Option.rec (SharedT×Thread) (fun _=>Option SharedT) none (fun r=>ih r.1 r.2) (stepT (denote tb) p w s t)) (stepOk m ann t))
   (some s) (through t)) n
theorem run_abs{tb:String->Option Builtin}{p:Program}{w:World}{m:Nat}{ann:Option Value}:∀(n:Nat) (s s':SharedT) (t:Thread),
  runT tb p w m ann n s t=some s'->topRun tb p w m ann n s.abs t=some s'.abs:=by
 intro n
 induction n with
 |zero=>intro s s' t h;exact absurd h (by intro h;cases h)
 |succ n ih=>
  intro s s' t h
  have h1: @Bool.rec (fun _=>Option SharedT) (@Bool.rec (fun _=>Option SharedT) none
    (@Option.rec (SharedT×Thread) (fun _=>Option SharedT) none (fun r=>runT tb p w m ann n r.1 r.2) (stepT (denote tb) p w s t)) (stepOk m ann t))
    (some s) (through t)=some s':=h
  unfold topRun
  cases e1:through t with
  |true=>rw[e1]at h1;injection h1 with h1;rw[h1]
  |false=>
   rw[e1]at h1
   cases e2:stepOk m ann t with
   |false=>rw[e2]at h1;cases h1
   |true=>
    rw[e2]at h1
    cases e3:stepT (denote tb) p w s t with
    |none=>rw[e3]at h1;cases h1
    |some r=>
     rw[e3]at h1
     have e4:=stepT_spec (s':=r.1) (t':=r.2) e3
     show(match step (denote tb) p w s.abs t with | .go a b=>topRun tb p w m ann n a b| .halt _ _=>none)=_
     rw[e4]
     exact ih _ _ _ h1
noncomputable def treeOf(l:List Obj):BT:=(l.foldl (fun x o=>(x.1.ins x.2 o,x.2+1)) ((BT.nil,0):BT×Nat)).1
-- the run from the start that the kit has laid
noncomputable def ran(p:Program)(N:Nat)(w:World)(os:OsState):Option SharedT:=
 runT treeTable p w 11 (some (.ref 6)) N ⟨treeOf (boot_heap w.params).objs.toList,11,{},Array.mk [],boot_drawn,boot_toks,os⟩ (topStub p)
-- what is looked at behind the run
noncomputable def looked(p q:Program)(loose:List Str)(Xt:Shared->Bool)(g0:Bool)(h:Heap)(s:Shared):=
 ((staticsOk (importedModules p.main.body) h s.heap&&namesBound p s.heap&&gensDone s&&laidKept h s.heap),openSeen q loose (importedModules p.main.body) Xt g0 s)
noncomputable def LooksWell(p q:Program)(loose:List Str)(Xt:Shared->Bool)(g0:Bool)(N:Nat):Prop:=
 ∀(w:World) (os:OsState),(ran p N w os).map (fun s=>looked p q loose Xt g0 (boot_heap w.params) s.abs)=some (true,openGood q loose)
theorem left_of{p q:Program}{loose:List Str}{Xt:Shared->Bool}{α:Type}{Yf:Shared->α}{Ya:World->α}{N:Nat}{g0:Bool}(r:LooksWell p q loose Xt g0 N)(e:opening p=plainProg p.main.scope.names)(hN:Nat.ble 600 N=true)(f:∀s,fenceModules? p s=some s)(y:∀(w:World) (os:OsState),(ran p N w os).map (fun s=>Yf s.abs)=some (Ya w)):
  LeftO p q loose Xt Yf Ya N g0:=fun w=>by
 have b:((boot_heap w.params).isNs mainGlobals&&(Array.mk []:Array GenState).size==0,(boot_heap w.params).objs.size,(boot_heap w.params).nsMap mainGlobals "__annotations__")=(true,11,some (.ref 6)):=by kernel_rfl
 have c:absHeap (treeOf (boot_heap w.params).objs.toList) 11 {}=boot_heap w.params:=by kernel_rfl
 obtain⟨⟨h,gs',d',k',os⟩,e1,e'⟩:=Option.map_eq_some_iff.mp (boot_open e hN f w)
 obtain⟨rfl,rfl,rfl,rfl⟩:h=boot_heap w.params/\gs'=Array.mk []/\d'=boot_drawn/\k'=boot_toks:=by simpa using e'
 obtain⟨b1,b2,b3⟩:_/\_/\_:=by simpa only[Prod.mk.injEq]using b
 obtain⟨s,r1,r2⟩:=Option.map_eq_some_iff.mp (r w os)
 obtain⟨s',y1,y2⟩:=Option.map_eq_some_iff.mp (y w os)
 have es:s'=s:=by rw[r1]at y1;injection y1 with y1;exact y1.symm
 subst es
 obtain⟨l1,l2⟩:_/\_:=by simpa only[looked,Prod.mk.injEq]using r2
 have t1:=run_abs N _ _ _ r1
 have ab:SharedT.abs ⟨treeOf (boot_heap w.params).objs.toList,11,{},Array.mk [],boot_drawn,boot_toks,os⟩=⟨boot_heap w.params,Array.mk [],boot_drawn,boot_toks,os⟩:=by unfold SharedT.abs;rw[c]
 rw[ab]at t1
 have t:topFrom treeTable p w N ⟨boot_heap w.params,Array.mk [],boot_drawn,boot_toks,os⟩=some s'.abs:=by
  unfold topFrom
  dsimp only
  rw[b1,b2,b3,t1]
  show(match staticsOk (importedModules p.main.body) (boot_heap w.params) s'.abs.heap&&namesBound p s'.abs.heap&&gensDone s'.abs&&laidKept (boot_heap w.params) s'.abs.heap with |true=>_|false=>_)=_
  rw[l1]
 unfold openEnds
 rw[e1]
 show(topFrom treeTable p w N _).map _=_
 rw[t]
 show some (_,_)=_
 rw[l2,y2]
end Hd
section
open PySem PySem.W PyProof.Rows
namespace Hd
noncomputable abbrev L:=PySem.Challenge.rw_hueshare_k12_made_ones_refused
noncomputable def Q:Program:=view L.row.toRowW.prog [1,2,3,4,5,6,7,8,9,10,12,13,14,15,16,17,18,19,20,21,22,23,24,25,26,28,29,30,31,32,33,34,35,37,39,40,41,42,44,45,46,47,48,49,50,51,52,53,54,55]
noncomputable abbrev X:Shared->Bool:=fun s=>xlAt Q [] s&&recOk (RowW.records L.row.toRowW) s
set_option maxRecDepth 100000 in
theorem looks:LooksWell L.row.toRowW.prog Q [] X true 6682:=fun w os=>by kernel_rfl
end Hd
local macro_rules
 |`(tactic|o_head $H)=>`(tactic|
  refine holds_open (q:=Hd.Q) (loose:=[]) (N:=6682) (Xt:=Hd.X) (XP:=XL Hd.Q [])
   (Yf:=Hook.obs $H) (Ya:=Hook.val $H) (YP:=Hook.says $H)
   (Hd.left_of Hd.looks (by kernel_rfl) rfl (fun _=>by kernel_rfl) (fun _ _=>by kernel_rfl))
   (Hook.of $H) (Hook.keeps $H) (fun s e=>xl_of s (Bool.and_eq_true_iff.mp e).1) XL.keeps
   (by rfl) (by rfl) (by rfl) (fun s e=>recFacts_of (Bool.and_eq_true_iff.mp e).2) (by rfl)
   (by first |assumption|decide+kernel) (by decide+kernel) ⟨rfl,rfl,rfl,rfl,rfl,by decide+kernel⟩ ?hw ?hc)
set_option maxRecDepth 100000 in
set_option maxHeartbeats 0 in
noncomputable def Hd.early:PSigma fun P:Prop=>P->PySem.Challenge.rw_hueshare_k12_made_ones_refused.Holds:=by
 refine⟨?P,fun W=> ?_⟩
 rotate_left
 w_on;o_law;k_head;(case hw=>w_witness2)
 exact W
end
namespace L2
open PySem PySem.Spec PyProof.Rows
noncomputable abbrev Key:=Sum Int Str
noncomputable def keyIs:Key->Value->Bool
 | .inl k,v=>Value.isInt k v
 | .inr x,v=>Value.isStrOf x v
noncomputable def keyH(w:World):Key->Int
 | .inl k=>hashInt k
 | .inr x=>hashStr w x
theorem zbt:∀{k:Key} {v:Value},keyIs k v=true->(∃i t,k=Sum.inl i/\v=Value.int i t)\/(∃x t,k=Sum.inr x/\v=Value.str x t)
 | .inl i,v,h=>by
  obtain⟨t,e⟩:=Value.isInt_shape (k:=i) (v:=v) h
  exact .inl ⟨i,t,rfl,e⟩
 | .inr x,v,h=>by
  obtain⟨t,e⟩:=Value.isStrOf_shape (x:=x) (v:=v) h
  exact .inr ⟨x,t,rfl,e⟩
theorem key_ll(a b:Int):decide ((Sum.inl a:Key)=Sum.inl b)=(a==b):=by
 by_cases e:a=b
 ·subst e;simp
 ·have h:¬(Sum.inl a:Key)=Sum.inl b:=fun q=>e (Sum.inl.inj q)
  rw[decide_eq_false h]
  exact(beq_eq_false_iff_ne.mpr e).symm
theorem key_rr(a b:Str):decide ((Sum.inr a:Key)=Sum.inr b)=decide (a=b):=by
 by_cases e:a=b
 ·subst e;simp
 ·have h:¬(Sum.inr a:Key)=Sum.inr b:=fun q=>e (Sum.inr.inj q)
  rw[decide_eq_false h,decide_eq_false e]
theorem key_lr(a:Int)(b:Str):decide ((Sum.inl a:Key)=Sum.inr b)=false:=decide_eq_false (fun q=>nomatch q)
theorem key_rl(a:Str)(b:Int):decide ((Sum.inr a:Key)=Sum.inl b)=false:=decide_eq_false (fun q=>nomatch q)
noncomputable def mixKind(prog:Program)(w:World):PySem.KeyKind prog w Key where
 is:=keyIs
 hash:=keyH w
 inj:=fun v a b ha hb=>by
  rcases zbt ha with⟨i,t,rfl,rfl⟩|⟨x,t,rfl,rfl⟩
  ·rcases zbt hb with⟨j,u,rfl,e⟩|⟨y,u,rfl,e⟩
   ·injection e with e1 _;rw[e1]
   ·exact nomatch e
  ·rcases zbt hb with⟨j,u,rfl,e⟩|⟨y,u,rfl,e⟩
   ·exact nomatch e
   ·injection e with e1 _;rw[e1]
 byValue:=fun k v h=>by
  rcases zbt h with⟨i,t,rfl,rfl⟩|⟨x,t,rfl,rfl⟩<;>rfl
 pyHash:=fun hv h=>by
  rcases zbt hv with⟨i,t,rfl,rfl⟩|⟨x,t,rfl,rfl⟩
  ·exact wpAny_pyHash_int h
  ·exact wpAny_pyHash_str h
 eqBool:=fun hu hv h=>by
  rcases zbt hu with⟨i,t,rfl,rfl⟩|⟨x,t,rfl,rfl⟩
  ·rcases zbt hv with⟨j,u,rfl,rfl⟩|⟨y,u,rfl,rfl⟩
   ·rw[key_ll]at h;exact wpAny_eqBool_int h
   ·rw[key_lr]at h;exact SeqAt.EqAt.int_str i t y u _ _ _ _ h
  ·rcases zbt hv with⟨j,u,rfl,rfl⟩|⟨y,u,rfl,rfl⟩
   ·rw[key_rl]at h;exact SeqAt.EqAt.str_int x t j u _ _ _ _ h
   ·rw[key_rr]at h;exact wpAny_eqBool_str h
 «strs»:=fun k x t v h=>by
  rcases zbt h with⟨i,u,rfl,e⟩|⟨y,u,rfl,e⟩
  ·exact nomatch e
  ·injection e with e1 _
   subst e1
   cases v<;>rfl
end L2
namespace L2
open PySem PySem.Spec PyProof.Rows
inductive V where
 |non|bl (b:Bool)|int (i:Int)|str (x:Str)|byt (b:Array UInt8)|flt (b:UInt64)|ref (a:Addr)|ty (n:String)
 deriving DecidableEq
noncomputable def RelV:V->Value->Prop
 | .non,u=>u=Value.none
 | .bl b,u=>u=Value.bool b
 | .int i,u=>∃t,u=Value.int i t
 | .str x,u=>∃t,u=Value.str x t
 | .byt b,u=>∃t,u=Value.bytes b t
 | .flt b,u=>∃t,u=Value.float b t
 | .ref a,u=>u=Value.ref a
 | .ty n,u=>u=Value.type n
noncomputable abbrev Vals:List V->List Value->Prop:=Paired RelV
theorem Vals.length{xs:List V}{us:List Value}(r:Vals xs us):xs.length=us.length:=Paired.length r
theorem Vals.get:∀{xs:List V} {us:List Value} {i:Nat} {x:V},Vals xs us->xs[i]? =some x->∃u,us[i]? =some u/\RelV x u
 |_,_,_,_,.nil,e=>by simp at e
 |_,_,0,_,.cons r _,e=>by simp at e;subst e;exact⟨_,rfl,r⟩
 |_,_,i+1,x,.cons _ t,e=>by
  obtain⟨u,h1,h2⟩:=Vals.get (i:=i) (x:=x) t (by simpa using e)
  exact⟨u,by simpa using h1,h2⟩
theorem Vals.set{x:V}{u:Value}(r:RelV x u):∀{xs:List V} {us:List Value} (i:Nat),Vals xs us->Vals (xs.set i x) (us.set i u)
 |_,_,_,.nil=> .nil
 |_,_,0,.cons _ t=> .cons r t
 |_,_,i+1,.cons q t=> .cons q (Vals.set r i t)
theorem Vals.append:∀{xs ys:List V} {us ws:List Value},Vals xs us->Vals ys ws->Vals (xs++ys) (us++ws)
 |_,_,_,_,.nil,s=>s
 |_,_,_,_,.cons r t,s=> .cons r (Vals.append t s)
theorem Vals.take:∀{xs:List V} {us:List Value} (n:Nat),Vals xs us->Vals (xs.take n) (us.take n)
 |_,_,0,_=> .nil
 |_,_,_+1,.nil=> .nil
 |_,_,n+1,.cons r t=> .cons r (Vals.take n t)
theorem Vals.drop:∀{xs:List V} {us:List Value} (n:Nat),Vals xs us->Vals (xs.drop n) (us.drop n)
 |_,_,0,r=>r
 |_,_,_+1,.nil=> .nil
 |_,_,n+1,.cons _ t=>Vals.drop n t
noncomputable def RelO:Option V->Option Value->Prop
 |some v,some u=>RelV v u
 |none,none=>True
 |_,_=>False
noncomputable def KV{κ:Type}:List (κ×V)->List (κ×Value)->Prop:=Paired fun(p:κ×V) (q:κ×Value)=>p.1=q.1/\RelV p.2 q.2
noncomputable def kV:Key->V
 | .inl i=> .int i
 | .inr x=> .str x
inductive HO where
 /-- a list -/
 |lst (xs:List V)
 /-- a tuple (never changes) -/
 |tup (xs:List V)
 /-- a dict whose keys are ints and texts; one whose keys are tuples of ints and texts (the empty one is both) -/
 |dK (kvs:List (Key×V))|dT (kvs:List (List Key×V))
 /-- a set of ints: its members, its size -/
 |set (S:Int->Bool) (n:Nat)
 /-- an instance of the class at C, its dict at dx, its attributes -/
 |ins (C dx:Addr) (fs:List (Str×V))
 /-- the dict of the instance at x -/
 |own (x:Addr)
 /-- the dict of an exception -/
 |xd (fs:List (Str×V))
 /-- a bound method, f of x -/
 |met (f x:Addr)
 /-- a range object lo, lo + 1, .. below hi -/
 |rng (lo hi:Int)
 /-- a thing that is known to the object (the script; a dict while a loop walks it): read, never written while it is so -/
 |frz (o:Obj) (u:HO)
 /-- a code object's table -/
 |tbl (ps:Array Value)
 /-- any other thing, by what is true of its one object (a def of one's own: SetO a S n := HO.ext fun h => ..) -/
 |ext (φ:Heap->Prop)
noncomputable abbrev Hp:=Addr->Option HO
noncomputable def upd(H:Hp)(a:Addr)(o:HO):Hp:=fun b=>if b=a then some o else H b
theorem zac{H:Hp}{a:Addr}{o:HO}:upd H a o a=some o:=by unfold upd;rw[if_pos rfl]
theorem zbd{H:Hp}{a b:Addr}{o:HO}(h:b≠a):upd H a o b=H b:=by unfold upd;rw[if_neg h]
theorem ne_of{H:Hp}{a b:Addr}{o u:HO}(h:H a=some o)(h':H b=some u)(d:o≠u):a≠b:=by
 intro e;subst e;rw[h]at h';exact d (Option.some.inj h')
theorem zaz{H:Hp}{a b:Addr}{o:HO}(h:H a=some o)(h':H b=none):a≠b:=by
 intro e;subst e;rw[h]at h';cases h'
section
variable(P:Program)(w:World)
noncomputable def ObjOk(H:Hp)(h:Heap)(a:Addr):HO->Prop
 | .lst xs=>xs.length<=sizeLine/\∃(its:List Value) (n:Nat),Vals xs its/\h.get? a=some {cls:= .type "list",data:= .seq its.toArray n}
 | .tup xs=>xs.length<=sizeLine/\∃its:List Value,Vals xs its/\IsTup h a its.toArray
 | .dK kvs=>kvs.length<=sizeLine/\(a==sysModules)=false/\∃vs,KV kvs vs/\h.DictOf (mixKind P w) a vs
 | .dT kvs=>kvs.length<=sizeLine/\(a==sysModules)=false/\∃xs:List (List Key×Addr×Value),
   Paired (fun(p:List Key×V) (q:List Key×Addr×Value)=>p.1=q.1/\H q.2.1=some (.tup (p.1.map kV))/\RelV p.2 q.2.2) kvs xs/\
   ∃o es ep,h.get? a=some o/\o.ExactDict/\o.data= .dict es ep/\es.toList=xs.map (entryOfKey (tupleKind (mixKind P w)))/\(xs.map (·.1)).Nodup
 | .set S n=>h.SetOf (intKind P w) a S n
 | .ins C dx fs=>H dx=some (.own a)/\fs.length<=1000/\dx≠a/\h.get? a=some (PySem.W.instObj C dx)/\
   ∃mA,h.Ns1 dx mA/\(∀f,RelO (fs.lookup f) (mA f))/\PySem.Within mA (fs.map (·.1))
 | .own _=>∃o,h.get? a=some o
 | .xd fs=>∃mA,h.Ns1 a mA/\∀f,RelO (fs.lookup f) (mA f)
 | .rng lo hi=>∃t u v,h.get? a=some {cls:= .type "range",data:= .fields #[.int lo t,.int hi u,.int 1 v]}
 | .frz o u=>h.get? a=some o/\ObjOk H h a u
 | .tbl ps=>h.get? a=some {cls:= .none,data:= .fields ps}
 | .met f x=>h.get? a=some (PySem.W.methodObj (.ref f) (.ref x))
 | .ext φ=>φ h/\(∃o,h.get? a=some o)/\∀h1 h2:Heap,φ h1->(∀o,h1.get? a=some o->h2.get? a=some o)->φ h2
noncomputable def HOk(H:Hp)(h:Heap):Prop:=∀a o,H a=some o->ObjOk P w H h a o
end
section
variable{P:Program}{w:World}{H H':Hp}{h h':Heap}{a:Addr}{o:HO}
theorem ObjOk.lt(x:ObjOk P w H h a o):a<h.objs.size:=by
 cases o with
 |lst xs=>obtain⟨_,_,_,_,e⟩:=x;exact Heap.lt_size e
 |tup xs=>obtain⟨_,_,_,p⟩:=x;exact p.lt
 |dK kvs=>obtain⟨_,_,_,_,o,_,_,e,_⟩:=x;exact Heap.lt_size e
 |dT kvs=>obtain⟨_,_,_,_,o,_,_,e,_⟩:=x;exact Heap.lt_size e
 |set S n=>obtain⟨o,_,_,_,e,_⟩:=x;exact Heap.lt_size e
 |ins C dx fs=>obtain⟨_,_,_,e,_⟩:=x;exact Heap.lt_size e
 |own y=>obtain⟨_,e⟩:=x;exact Heap.lt_size e
 |xd fs=>obtain⟨_,⟨_,_,_,e,_⟩,_⟩:=x;exact Heap.lt_size e
 |rng lo hi=>obtain⟨_,_,_,e⟩:=x;exact Heap.lt_size e
 |frz ob u=>obtain⟨e,_⟩:=x;exact Heap.lt_size e
 |tbl ps=>exact Heap.lt_size (show h.get? a=some _ from x)
 |met f y=>exact Heap.lt_size (show h.get? a=some _ from x)
 |ext φ=>obtain⟨_,⟨_,e⟩,_⟩:=x;exact Heap.lt_size e
theorem Paired.mapP{α β:Type}{F G:α->β->Prop}:∀{l₁:List α} {l₂:List β},Paired F l₁ l₂->(∀a b,F a b->G a b)->Paired G l₁ l₂
 |_,_,.nil,_=> .nil
 |_,_,.cons r t,f=> .cons (f _ _ r) (Paired.mapP t f)
theorem ObjOk.stay(x:ObjOk P w H h a o)(k:∀b u,(b=a\/H b=some (.own a))->h.get? b=some u->h'.get? b=some u)(ho:∀b,H b=some (.own a)->H' b=some (.own a))(ht:∀b xs,H b=some (.tup xs)->H' b=some (.tup xs)):ObjOk P w H' h' a o:=by
 induction o with
 |lst xs=>obtain⟨z,its,n,r,e⟩:=x;exact⟨z,its,n,r,k _ _ (.inl rfl) e⟩
 |tup xs=>obtain⟨z,its,r,ob,e,c⟩:=x;exact⟨z,its,r,ob,k _ _ (.inl rfl) e,c⟩
 |dK kvs=>obtain⟨z,y,vs,r,ob,es,ep,e,c⟩:=x;exact⟨z,y,vs,r,ob,es,ep,k _ _ (.inl rfl) e,c⟩
 |dT kvs=>
  obtain⟨z,y,xs,r,ob,es,ep,e,c⟩:=x
  exact⟨z,y,xs,Paired.mapP r fun p q z=>⟨z.1,ht _ _ z.2.1,z.2.2⟩,ob,es,ep,k _ _ (.inl rfl) e,c⟩
 |set S n=>obtain⟨ob,es,ep,t,e,c⟩:=x;exact⟨ob,es,ep,t,k _ _ (.inl rfl) e,c⟩
 |ins C dx fs=>
  obtain⟨d,z,ne,e,mA,⟨od,es,ep,e2,c⟩,r⟩:=x
  exact⟨ho _ d,z,ne,k _ _ (.inl rfl) e,mA,⟨od,es,ep,k _ _ (.inr d) e2,c⟩,r⟩
 |own y=>obtain⟨ob,e⟩:=x;exact⟨ob,k _ _ (.inl rfl) e⟩
 |xd fs=>obtain⟨mA,⟨od,es,ep,e,c⟩,r⟩:=x;exact⟨mA,⟨od,es,ep,k _ _ (.inl rfl) e,c⟩,r⟩
 |rng lo hi=>obtain⟨t,u,v,e⟩:=x;exact⟨t,u,v,k _ _ (.inl rfl) e⟩
 |frz ob u ih=>obtain⟨e,q⟩:=x;exact⟨k _ _ (.inl rfl) e,ih q⟩
 |tbl ps=>
  have e:h.get? a=some {cls:= .none,data:= .fields ps}:=x
  show h'.get? a=some {cls:= .none,data:= .fields ps}
  exact k a _ (.inl rfl) e
 |met f y=>
  have e:h.get? a=some (PySem.W.methodObj (.ref f) (.ref y)):=x
  show h'.get? a=some (PySem.W.methodObj (.ref f) (.ref y))
  exact k a _ (.inl rfl) e
 |ext φ=>obtain⟨p,⟨o,e⟩,st⟩:=x;exact⟨st _ _ p fun o q=>k _ _ (.inl rfl) q,⟨o,k _ _ (.inl rfl) e⟩,st⟩
theorem HOk.lt(x:HOk P w H h)(e:H a=some o):a<h.objs.size:=(x a o e).lt
theorem HOk.fresh(x:HOk P w H h)(e:h.objs.size<=a):H a=none:=by
 cases q:H a with
 |none=>rfl
 |some u=>exact absurd (Nat.lt_of_lt_of_le (x.lt q) e) (Nat.lt_irrefl _)
theorem HOk.kept(x:HOk P w H h)(k:∀b u,h.get? b=some u->h'.get? b=some u):HOk P w H h':=fun a o e=>
 (x a o e).stay (fun b u _ q=>k b u q) (fun _ q=>q) fun _ _ q=>q
theorem HOk.laid(x:HOk P w H h)(k:∀b u,h.get? b=some u->h'.get? b=some u)(hp:h.objs.size<=a)(new:ObjOk P w (upd H a o) h' a o):HOk P w (upd H a o) h':=fun b u e=>by
 have hn:=x.fresh hp
 by_cases hb:b=a
 ·subst hb;rw[zac]at e;cases e;exact new
 ·rw[zbd hb]at e
  exact(x b u e).stay (fun c v _ q=>k c v q) (fun c q=>by rw[zbd (zaz q hn)];exact q) fun c xs q=>by rw[zbd (zaz q hn)];exact q
end
noncomputable def Rd(H:Hp)(a:Addr)(u:HO):Prop:=H a=some u\/∃o,H a=some (.frz o u)
theorem Rd.of{H:Hp}{a:Addr}{u:HO}(h:H a=some u):Rd H a u:= .inl h
theorem Rd.ok{P:Program}{w:World}{H:Hp}{h:Heap}{a:Addr}{u:HO}(r:Rd H a u)(x:HOk P w H h):ObjOk P w H h a u:=by
 rcases r with r|⟨o,r⟩
 ·exact x a u r
 ·obtain⟨_,q⟩:=x a _ r
  exact q
noncomputable def Mut:Option HO->Prop
 |some (.lst _)=>True
 |some (.dK _)=>True
 |some (.dT _)=>True
 |some (.set _ _)=>True
 |some (.ins _ _ _)=>True
 |some (.ext _)=>True
 |_=>False
section
variable{P:Program}{w:World}{H:Hp}{h h':Heap}{x e:Addr}{o':HO}
theorem HOk.write(ok:HOk P w H h)(mu:Mut (H x))(he:e=x\/H e=some (.own x))(k:∀b u,b≠e->h.get? b=some u->h'.get? b=some u)(heo:∃u,h'.get? e=some u)(new:ObjOk P w (upd H x o') h' x o'):HOk P w (upd H x o') h':=fun b u q=>by
 have nown:∀c y,H c=some (.own y)->c≠x:=fun c y r z=>by subst z;rw[r]at mu;exact mu
 have ntup:∀c xs,H c=some (.tup xs)->c≠x:=fun c xs r z=>by subst z;rw[r]at mu;exact mu
 by_cases hb:b=x
 ·subst hb;rw[zac]at q;cases q;exact new
 ·rw[zbd hb]at q
  by_cases hbe:b=e
  ·have q':H b=some (.own x):=by
    rcases he with z|z
    ·exact absurd (hbe.trans z) hb
    ·rw[hbe];exact z
   rw[q]at q';cases q'
   obtain⟨v,hv⟩:=heo
   exact⟨v,by rw[hbe];exact hv⟩
  ·refine(ok b u q).stay (fun c v hc r=>k c v ?_ r) (fun c r=>by rw[zbd (nown c b r)];exact r) fun c xs r=>by rw[zbd (ntup c xs r)];exact r
   rcases hc with rfl|hc
   ·exact hbe
   ·rintro rfl
    rcases he with z|z
    ·exact nown c b hc z
    ·rw[hc]at z;cases z;exact hb rfl
end
structure Un(fs ex:List Addr)(H H':Hp)(h h':Heap):Prop where
 keep:∀b o,h.get? b=some o->H b=none->b∉fs->b∉ex->h'.get? b=some o
 slot:∀b o,h.get? b=some o->H b=none->b∈fs->b∉ex->∃sl,h'.get? b=some {o with slots:=sl}
 free:∀b o,h.get? b=some o->H b=none->b∉ex->H' b=none
 there:∀b o,h.get? b=some o->b∉ex->∃o',h'.get? b=some o'
 tups:∀b xs,H b=some (.tup xs)->H' b=some (.tup xs)
 frzs:∀b o u,H b=some (.frz o u)->H' b=some (.frz o u)
 tbls:∀b ps,H b=some (.tbl ps)->∃more,H' b=some (.tbl (ps++more))
section
variable{fs fs' ex ex':List Addr}{H H1 H2:Hp}{h h1 h2 h':Heap}{a x e:Addr}{o:HO}
theorem Un.any(u:Un fs ex H H1 h h1){b:Addr}{ob:Obj}(q:h.get? b=some ob)(n:H b=none)(hx:b∉ex):∃sl,h1.get? b=some {ob with slots:=sl}:=by
 by_cases hb:b∈fs
 ·exact u.slot b ob q n hb hx
 ·exact⟨ob.slots,u.keep b ob q n hb hx⟩
theorem Un.trans(a:Un fs ex H H1 h h1)(b:Un fs ex H1 H2 h1 h2):Un fs ex H H2 h h2 where
 keep:=fun c ob q n hc hx=>b.keep c ob (a.keep c ob q n hc hx) (a.free c ob q n hx) hc hx
 slot:=fun c ob q n hc hx=>by
  obtain⟨sl,e1⟩:=a.slot c ob q n hc hx
  obtain⟨sl',e2⟩:=b.slot c _ e1 (a.free c ob q n hx) hc hx
  exact⟨sl',e2⟩
 free:=fun c ob q n hx=>by
  obtain⟨o',e1⟩:=a.there c ob q hx
  exact b.free c o' e1 (a.free c ob q n hx) hx
 there:=fun c ob q hx=>by
  obtain⟨o',e1⟩:=a.there c ob q hx
  exact b.there c o' e1 hx
 tups:=fun c xs q=>b.tups c xs (a.tups c xs q)
 frzs:=fun c ob xs q=>b.frzs c ob xs (a.frzs c ob xs q)
 tbls:=fun c ps q=>by
  obtain⟨m1,e1⟩:=a.tbls c ps q
  obtain⟨m2,e2⟩:=b.tbls c _ e1
  exact⟨m1++m2,by rw[e2,Array.append_assoc]⟩
theorem Un.kept(k:∀b u,h.get? b=some u->h'.get? b=some u):Un fs ex H H h h':=
 ⟨fun b ob q _ _ _=>k b ob q,fun b ob q _ _ _=>⟨ob.slots,k b ob q⟩,fun _ _ _ n _=>n,fun b ob q _=>⟨ob,k b ob q⟩,fun _ _ q=>q,fun _ _ _ q=>q,fun _ ps q=>⟨#[],by rw[q];simp⟩⟩
theorem Un.refl:Un fs ex H H h h:=Un.kept fun _ _ q=>q
theorem Un.laid(k:∀b u,h.get? b=some u->h'.get? b=some u)(hp:h.objs.size<=a)(hn:H a=none):Un fs ex H (upd H a o) h h' where
 keep:=fun b u q _ _ _=>k b u q
 slot:=fun b u q _ _ _=>⟨u.slots,k b u q⟩
 free:=fun b u q n _=>by rw[zbd (Nat.ne_of_lt (Nat.lt_of_lt_of_le (Heap.lt_size q) hp))];exact n
 there:=fun b u q _=>⟨u,k b u q⟩
 tups:=fun b xs q=>by rw[zbd (zaz q hn)];exact q
 frzs:=fun b u xs q=>by rw[zbd (zaz q hn)];exact q
 tbls:=fun b ps q=>⟨#[],by rw[zbd (zaz q hn),q];simp⟩
theorem Un.write(mu:Mut (H x))(he:e=x\/H e=some (.own x))(k:∀b u,b≠e->h.get? b=some u->h'.get? b=some u)(heo:∃u,h'.get? e=some u):Un fs ex H (upd H x o) h h':=by
 have hx:∀b,H b=none->b≠x:=fun b n z=>by subst z;rw[n]at mu;exact mu
 have hb:∀b,H b=none->b≠e:=fun b n z=>by
  subst z
  rcases he with r|r
  ·exact hx b n r
  ·rw[n]at r;cases r
 have hm:∀b u,H b=some u->¬Mut (some u)->b≠x:=fun b u q nm z=>by subst z;rw[q]at mu;exact nm mu
 refine⟨fun b u q n _ _=>k b u (hb b n) q,fun b u q n _ _=>⟨u.slots,k b u (hb b n) q⟩,fun b u q n _=>by rw[zbd (hx b n)];exact n,fun b u q _=> ?_,
  fun b xs q=>by rw[zbd (hm b _ q fun z=>z)];exact q,fun b u xs q=>by rw[zbd (hm b _ q fun z=>z)];exact q,fun b ps q=>⟨#[],by rw[zbd (hm b _ q fun z=>z),q];simp⟩⟩
 by_cases hbe:b=e
 ·subst hbe;exact heo
 ·exact⟨u,k b u hbe q⟩
theorem Un.mono(u:Un fs ex H H1 h h1)(hs:∀b∈fs,b∈fs')(hx:∀b∈ex,b∈ex'):Un fs' ex' H H1 h h1:=
 ⟨fun b ob q n hb he=>u.keep b ob q n (fun z=>hb (hs b z)) fun z=>he (hx b z),fun _ _ q n _ he=>u.any q n fun z=>he (hx _ z),fun b ob q n he=>u.free b ob q n fun z=>he (hx b z),fun b ob q he=>u.there b ob q fun z=>he (hx b z),u.tups,u.frzs,u.tbls⟩
end
noncomputable def trk(h:Heap)(H:Hp):List Addr:=(List.range h.objs.size).filter fun a=>(H a).isSome
noncomputable def hidT(h:Heap)(H:Hp):Heap:=PySem.W.hideAll h (trk h H)
theorem hidT_size(h:Heap)(H:Hp):(hidT h H).objs.size=h.objs.size:=PySem.W.hideAll_size _ _
theorem hidT_get{h:Heap}{H:Hp}{b:Addr}{o:Obj}(e:h.get? b=some o)(n:H b=none):(hidT h H).get? b=some o:=
 PySem.W.hideAll_get _ e fun hm=>by
  have q:(H b).isSome=true:=(List.mem_filter.mp hm).2
  rw[n]at q;simp at q
theorem of_hidT{h:Heap}{H:Hp}{b:Addr}{o:Obj}(e:(hidT h H).get? b=some o):h.get? b=some o/\H b=none:=by
 have e':h.get? b=some o:=PySem.W.of_hideAll (trk h H) e
 refine⟨e',?_⟩
 cases q:H b with
 |none=>rfl
 |some x=>
  have hm:b∈trk h H:=List.mem_filter.mpr ⟨List.mem_range.mpr (Heap.lt_size e'),by simp[q]⟩
  have z:(hidT h H).get? b=none:=PySem.W.hideAll_none (trk h H) hm
  rw[z]at e;cases e
noncomputable def allNews(g h:Heap)(L:Addr):List (Addr×Obj):=(List.range h.objs.size).filterMap fun a=>if a=L\/(g.get? a).isSome=true then none else(h.get? a).map fun o=>(a,o)
noncomputable def rest(g h:Heap)(L d:Addr):List (Addr×Obj):=(allNews g h L).filter fun p=>decide (p.1≠d)
end L2
namespace L2
open PySem PySem.Spec PyProof.Rows
structure Mod(K:W.Frag)(mg:Str->Option Value)(base:Heap):Prop where
 kin:K.In base
 glob:base.Ns mainGlobals mg
 blt:∃mb,base.Ns builtinsNs mb/\∀x:Str,x≠"__name__"->mb x=bootBuiltins x
 nolimit:base.NoLimit
structure Cx where
 prog:Program
 w:World
 K:W.Frag
 mg:Str->Option Value
 base:Heap
 A:Around
 N:List Str
 s₀:Shared
 H₀:Hp
 env:Env
 outer:List Env
 stack:List Env
 ex:List Addr
 fn:Str->Bool
 calm:Bool
 pn:List (Addr×Obj)
 xe:Value->Shared->Prop
noncomputable def frs(l:List Env):List Addr:=l.filterMap (·.frame)
noncomputable abbrev Cx.fs(X:Cx):List Addr:=frs X.outer
noncomputable def Vis(sc:Scope)(x:Str):Prop:=sc.names.lookup x=some .local\/sc.names.lookup x=some .cell\/sc.names.lookup x=some .free
noncomputable def Loc(sc:Scope)(x:Str):Prop:=sc.names.lookup x=some .local\/sc.names.lookup x=some .cell
noncomputable def Look(env:Env)(h:Heap)(m:Str->Option Value)(x:Str)(u:Value):Prop:=
 (env.kindOf x=some .local/\m x=some u)\/((env.kindOf x=some .cell\/env.kindOf x=some .free)/\∃c,env.cells.lookup x=some c/\h.IsCell c (some u))
structure Cx.Ok(X:Cx):Prop where
 mod:Mod X.K X.mg X.base
 kind:X.env.scope.kind= .function
 glob:X.env.globals=mainGlobals
 blt:X.env.builtins=builtinsNs
 above:X.s₀.heap.objs.size<=X.env.locals
 inj:∀x y c,X.env.cells.lookup x=some c->X.env.cells.lookup y=some c->x=y
 has:∀x,(X.env.kindOf x=some .cell\/X.env.kindOf x=some .free)->∃c,X.env.cells.lookup x=some c
 cab:∀x c,X.fn x=true->X.env.cells.lookup x=some c->X.s₀.heap.objs.size<=c
 hd:X.calm=true->X.A.handled=none
 frames:X.A.frames=some X.stack
 stk:X.stack=X.outer\/(X.stack=X.env::X.outer/\X.env.frame=some X.env.locals)
 exf:∀b∈X.ex,b≠X.env.locals/\∀x c,X.env.cells.lookup x=some c->c≠b
 bs:∀b o,X.base.get? b=some o->X.s₀.heap.get? b=some o/\X.H₀ b=none
 bsz:X.base.objs.size<=X.s₀.heap.objs.size
 noex:∀b o,X.base.get? b=some o->b∉X.ex
 exfs:∀b∈X.ex,b∉X.fs
 funs:X.s₀.heap.FunFrames X.base X.outer
 frf:∀b∈X.fs,X.H₀ b=none
structure Inv(X:Cx)(pins:List (Addr×Obj))(σ:List (Option V))(H:Hp)(s:Shared):Prop where
 ok:X.Ok
 os:s.os=X.s₀.os
 bare:AllBare s.gens
 base:Un X.fs X.ex X.H₀ H X.s₀.heap s.heap
 loc:∃m,s.heap.Ns X.env.locals m/\∀(i:Nat) (x:Str) (v:V),X.N[i]? =some x->σ[i]? =some (some v)->Vis X.env.scope x->∃u,RelV v u/\Look X.env s.heap m x u
 cell:∀x c,X.env.cells.lookup x=some c->∃v,s.heap.IsCell c v
 free:H X.env.locals=none
 freeC:∀x c,X.env.cells.lookup x=some c->H c=none
 pin:∀p∈X.pn++pins,s.heap.get? p.1=some p.2/\H p.1=none/\p.1≠X.env.locals/\p.1∉X.fs/\∀v,p.2.data≠.cell v
 hok:HOk X.prog X.w H s.heap
 len:σ.length=X.N.length
section
variable{X:Cx}{pins:List (Addr×Obj)}{σ:List (Option V)}{H H':Hp}{s:Shared}{h':Heap}
theorem Cx.Ok.nofr(ok:X.Ok){b:Addr}{o:Obj}(e:X.base.get? b=some o):b∉X.fs:=fun hb=>by
 have:=(ok.funs.mem hb).1
 rw[e]at this;cases this
theorem Inv.bs(I:Inv X pins σ H s):∀b o,X.base.get? b=some o->s.heap.get? b=some o/\H b=none:=fun b o e=>
 ⟨I.base.keep b o (I.ok.bs b o e).1 (I.ok.bs b o e).2 (I.ok.nofr e) (I.ok.noex b o e),I.base.free b o (I.ok.bs b o e).1 (I.ok.bs b o e).2 (I.ok.noex b o e)⟩
theorem Inv.bk(I:Inv X pins σ H s):∀b o,X.base.get? b=some o->s.heap.get? b=some o:=fun b o e=>(I.bs b o e).1
theorem Inv.mod(I:Inv X pins σ H s):Mod X.K X.mg X.base:=I.ok.mod
theorem Inv.kIn(I:Inv X pins σ H s):X.K.In s.heap:=I.ok.mod.kin.keeps I.bk
theorem Inv.nolimit(I:Inv X pins σ H s):s.heap.NoLimit:=I.ok.mod.nolimit.keeps I.bk
theorem Inv.lt(I:Inv X pins σ H s):X.env.locals<s.heap.objs.size:=let⟨_,hn,_⟩:=I.loc;hn.lt
theorem Inv.sz(I:Inv X pins σ H s):X.s₀.heap.objs.size<=s.heap.objs.size:=Nat.le_trans I.ok.above (Nat.le_of_lt I.lt)
theorem Inv.nofs(I:Inv X pins σ H s){a:Addr}(h:s.heap.objs.size<=a):a∉X.fs:=fun hb=>by
 obtain⟨_,o,ho,_⟩:=I.ok.funs.mem hb
 exact absurd (Nat.lt_of_lt_of_le (Heap.lt_size ho) (Nat.le_trans I.sz h)) (Nat.lt_irrefl _)
theorem Inv.cne(I:Inv X pins σ H s):∀x c,X.env.cells.lookup x=some c->c≠X.env.locals:=fun x c e z=>by
 obtain⟨v,o,ho,hd⟩:=I.cell x c e
 obtain⟨m,⟨o',es,ep,ho',hd',_⟩,_⟩:=I.loc
 rw[z,ho']at ho;cases ho;rw[hd']at hd;cases hd
theorem Inv.funs(I:Inv X pins σ H s):s.heap.FunFrames X.base X.outer:=by
 have all:∀(l:List Env),(∀b∈frs l,b∈X.fs)->X.s₀.heap.FunFrames X.base l->s.heap.FunFrames X.base l:=by
  intro l
  induction l with
  |nil=>intro _ _;trivial
  |cons env r ih=>
   intro hs hl
   obtain⟨hk,⟨L,o,hf,hn,ho,hd⟩,hr⟩:=hl
   have hL:L∈X.fs:=hs L (by unfold frs;rw[List.filterMap_cons,hf];exact List.mem_cons_self)
   obtain⟨sl,e⟩:=I.base.slot L o ho (I.ok.frf L hL) hL fun z=>I.ok.exfs L z hL
   exact⟨hk,⟨L,_,hf,hn,e,hd⟩,ih (fun b hb=>hs b (by unfold frs;rw[List.filterMap_cons,hf];exact List.mem_cons_of_mem _ hb)) hr⟩
 exact all X.outer (fun _ hb=>hb) I.ok.funs
theorem Inv.stack(I:Inv X pins σ H s):s.heap.FunFrames X.base X.stack:=by
 rcases I.ok.stk with e|⟨e,hf⟩
 ·rw[e];exact I.funs
 ·rw[e]
  obtain⟨m,hn,_⟩:=I.loc
  refine .cons (by rw[I.ok.kind];decide) hf hn ?_ I.funs
  exact Heap.get?_none_of_le (Nat.le_trans I.ok.bsz I.ok.above)
theorem Inv.stkSub(I:Inv X pins σ H s):∀b∈frs X.stack,b∈X.env.locals::X.fs:=fun b hb=>by
 rcases I.ok.stk with e|⟨e,hf⟩
 ·rw[e]at hb;exact List.mem_cons_of_mem _ hb
 ·rw[e]at hb
  unfold frs at hb
  rw[List.filterMap_cons,hf]at hb
  exact hb
theorem Inv.stkFree(I:Inv X pins σ H s):∀b∈frs X.stack,H b=none:=fun b hb=>by
 rcases List.mem_cons.mp (I.stkSub b hb)with e|hb
 ·rw[e];exact I.free
 ·obtain⟨_,o,ho,_⟩:=I.ok.funs.mem hb
  exact I.base.free b o ho (I.ok.frf b hb) fun z=>I.ok.exfs b z hb
theorem Inv.step{g':Array GenState}{t':Nat}{d':Drawn}{ch:List Addr}(I:Inv X pins σ H s)(hch:∀b∈ch,(b∈X.ex\/X.s₀.heap.objs.size<=b)/\b≠X.env.locals/\(∀x c,X.env.cells.lookup x=some c->c≠b)/\∀p∈X.pn++pins,p.1≠b)(keep:∀b o,b≠X.env.locals->b∉X.fs->b∉ch->s.heap.get? b=some o->H b=none->h'.get? b=some o)(slot:∀b o,b≠X.env.locals->b∈X.fs->b∉ch->s.heap.get? b=some o->H b=none->∃sl,h'.get? b=some {o with slots:=sl})(free:∀b o,b∉ch->s.heap.get? b=some o->H b=none->H' b=none)(there:∀b o,b∉ch->s.heap.get? b=some o->∃o',h'.get? b=some o')(tups:∀b xs,H b=some (.tup xs)->H' b=some (.tup xs))(frzs:∀b o u,H b=some (.frz o u)->H' b=some (.frz o u))(tbls:∀b ps,H b=some (.tbl ps)->∃more,H' b=some (.tbl (ps++more)))(ns:∀m,s.heap.Ns X.env.locals m->h'.Ns X.env.locals m)(hok:HOk X.prog X.w H' h')(hg:AllBare g'):
  Inv X pins σ H' {s with heap:=h',gens:=g',drawn:=d',toks:=t'}:=by
 have neL:∀b o,X.s₀.heap.get? b=some o->b≠X.env.locals:=fun b o e=>Nat.ne_of_lt (Nat.lt_of_lt_of_le (Heap.lt_size e) I.ok.above)
 have neC:∀b o,X.s₀.heap.get? b=some o->b∉X.ex->b∉ch:=fun b o e hx hb=>by
  rcases(hch b hb).1 with z|z
  ·exact hx z
  ·exact absurd (Nat.lt_of_lt_of_le (Heap.lt_size e) z) (Nat.lt_irrefl _)
 have cellK:∀x c,X.env.cells.lookup x=some c->∀v,s.heap.IsCell c v->h'.IsCell c v:=fun x c e v ⟨o,ho,hd⟩=>by
  have nch:c∉ch:=fun z=>(hch c z).2.2.1 x c e rfl
  by_cases hc:c∈X.fs
  ·obtain⟨sl,q⟩:=slot c o (I.cne x c e) hc nch ho (I.freeC x c e)
   exact⟨_,q,hd⟩
  ·exact⟨o,keep c o (I.cne x c e) hc nch ho (I.freeC x c e),hd⟩
 refine⟨I.ok,I.os,hg,⟨fun b o e n hb hx=> ?_,fun b o e n hb hx=> ?_,fun b o e n hx=> ?_,fun b o e hx=> ?_,fun b xs e=>tups b xs (I.base.tups b xs e),fun b o xs e=>frzs b o xs (I.base.frzs b o xs e),fun b ps e=> ?_⟩,?_,fun x c e=> ?_,?_,fun x c e=> ?_,fun p hp=> ?_,hok,I.len⟩
 ·exact keep b o (neL b o e) hb (neC b o e hx) (I.base.keep b o e n hb hx) (I.base.free b o e n hx)
 ·obtain⟨sl,e1⟩:=I.base.slot b o e n hb hx
  obtain⟨sl',e2⟩:=slot b _ (neL b o e) hb (neC b o e hx) e1 (I.base.free b o e n hx)
  exact⟨sl',e2⟩
 ·obtain⟨o',e1⟩:=I.base.there b o e hx
  exact free b o' (neC b o e hx) e1 (I.base.free b o e n hx)
 ·obtain⟨o',e1⟩:=I.base.there b o e hx
  exact there b o' (neC b o e hx) e1
 ·obtain⟨m1,e1⟩:=I.base.tbls b ps e
  obtain⟨m2,e2⟩:=tbls b _ e1
  exact⟨m1++m2,by rw[e2,Array.append_assoc]⟩
 ·obtain⟨m,hn,hl⟩:=I.loc
  refine⟨m,ns m hn,fun i x v e1 e2 e3=> ?_⟩
  obtain⟨u,r,l⟩:=hl i x v e1 e2 e3
  refine⟨u,r,?_⟩
  rcases l with l|⟨k,c,e,z⟩
  ·exact .inl l
  ·exact .inr ⟨k,c,e,cellK x c e _ z⟩
 ·obtain⟨v,z⟩:=I.cell x c e
  exact⟨v,cellK x c e v z⟩
 ·obtain⟨m,⟨o,_,_,ho,_⟩,_⟩:=I.loc
  exact free _ o (fun z=>(hch _ z).2.1 rfl) ho I.free
 ·obtain⟨v,o,ho,hd⟩:=I.cell x c e
  exact free c o (fun z=>(hch c z).2.2.1 x c e rfl) ho (I.freeC x c e)
 ·obtain⟨e,n,ne,nf,d⟩:=I.pin p hp
  have nch:p.1∉ch:=fun z=>(hch p.1 z).2.2.2 p hp rfl
  exact⟨keep p.1 p.2 ne nf nch e n,free p.1 p.2 nch e n,ne,nf,d⟩
theorem Inv.un{t':Nat}(I:Inv X pins σ H s)(u:Un X.fs [] H H' s.heap h')(hok:HOk X.prog X.w H' h'):Inv X pins σ H' {s with heap:=h',toks:=t'}:=by
 obtain⟨m,⟨o,es,ep,ho,r⟩,_⟩:=id I.loc
 obtain⟨sl,hL⟩:=u.any ho I.free (by simp)
 exact I.step (g':=s.gens) (d':=s.drawn) (ch:=[]) (fun _ z=>nomatch z) (fun b o _ hb _ e n=>u.keep b o e n hb (by simp)) (fun b o _ hb _ e n=>u.slot b o e n hb (by simp)) (fun b o _ e n=>u.free b o e n (by simp)) (fun b o _ e=>u.there b o e (by simp)) u.tups u.frzs u.tbls (fun m' hm=>by
  obtain⟨o',es',ep',ho',r'⟩:=hm
  rw[ho]at ho';cases ho'
  exact⟨_,es',ep',hL,r'⟩) hok I.bare
theorem Inv.call{g':Array GenState}{t':Nat}{d':Drawn}{ch:List Addr}(I:Inv X pins σ H s)(u:Un (frs X.stack) ch H H' s.heap h')(hok:HOk X.prog X.w H' h')(hg:AllBare g')(hch:∀b∈ch,(b∈X.ex\/X.s₀.heap.objs.size<=b)/\b≠X.env.locals/\(∀x c,X.env.cells.lookup x=some c->c≠b)/\∀p∈X.pn++pins,p.1≠b):
  Inv X pins σ H' {s with heap:=h',gens:=g',drawn:=d',toks:=t'}:=by
 obtain⟨m,⟨o,es,ep,ho,r⟩,_⟩:=id I.loc
 obtain⟨sl,hL⟩:=u.any ho I.free fun z=>(hch _ z).2.1 rfl
 exact I.step (ch:=ch) hch (fun b o hL hb hc e n=>u.keep b o e n (fun z=>(List.mem_cons.mp (I.stkSub b z)).elim hL hb) hc) (fun b o _ _ hc e n=>u.any e n hc) (fun b o hc e n=>u.free b o e n hc) (fun b o hc e=>u.there b o e hc) u.tups u.frzs u.tbls (fun m' hm=>by
  obtain⟨o',es',ep',ho',r'⟩:=hm
  rw[ho]at ho';cases ho'
  exact⟨_,es',ep',hL,r'⟩) hok hg
theorem Inv.turned{t':Nat}{it:Addr}(I:Inv X pins σ H s)(k:∀b o,b≠it->s.heap.get? b=some o->h'.get? b=some o)(hn:H it=none)(hL:it≠X.env.locals)(h1:it∈X.ex\/X.s₀.heap.objs.size<=it)(h2:∀x c,X.env.cells.lookup x=some c->c≠it)(h3:∀p∈X.pn++pins,p.1≠it):Inv X pins σ H {s with heap:=h',toks:=t'}:=by
 have nit:∀b u,H b=some u->b≠it:=fun b u e z=>by rw[z,hn]at e;cases e
 refine I.step (g':=s.gens) (d':=s.drawn) (ch:=[it]) (fun b hb=> ?_) (fun b o _ _ hc e _=>k b o (fun z=>hc (by simp[z])) e) (fun b o _ _ hc e _=>⟨o.slots,k b o (fun z=>hc (by simp[z])) e⟩) (fun _ _ _ _ n=>n)
  (fun b o hc e=>⟨o,k b o (fun z=>hc (by simp[z])) e⟩) (fun _ _ e=>e) (fun _ _ _ e=>e) (fun b ps e=>⟨#[],by rw[e];simp⟩) (fun m hm=> ?_) (fun b u e=> ?_) I.bare
 ·have e:b=it:=by simpa using hb
  subst e
  exact⟨h1,hL,h2,h3⟩
 ·obtain⟨o,es,ep,ho,r⟩:=hm
  exact⟨o,es,ep,k _ o (Ne.symm hL) ho,r⟩
 ·refine(I.hok b u e).stay (fun c v hc q=>k c v ?_ q) (fun _ q=>q) fun _ _ q=>q
  rcases hc with z|z
  ·rw[z];exact nit b u e
  ·exact nit c _ z
theorem Inv.tok(I:Inv X pins σ H s)(t:Nat):Inv X pins σ H {s with toks:=t}:=I.un (h':=s.heap) (t':=t) Un.refl I.hok
theorem Inv.kept{t':Nat}(I:Inv X pins σ H s)(k:∀b u,s.heap.get? b=some u->h'.get? b=some u):Inv X pins σ H {s with heap:=h',toks:=t'}:=I.un (Un.kept k) (I.hok.kept k)
theorem Inv.laid{a:Addr}{o:HO}{t':Nat}(I:Inv X pins σ H s)(k:∀b u,s.heap.get? b=some u->h'.get? b=some u)(hp:s.heap.objs.size<=a)(new:ObjOk X.prog X.w (upd H a o) h' a o):
  Inv X pins σ (upd H a o) {s with heap:=h',toks:=t'}:=I.un (Un.laid k hp (I.hok.fresh hp)) (I.hok.laid k hp new)
theorem Inv.write{x e:Addr}{o:HO}{t':Nat}(I:Inv X pins σ H s)(mu:Mut (H x))(he:e=x\/H e=some (.own x))(k:∀b u,b≠e->s.heap.get? b=some u->h'.get? b=some u)(heo:∃u,h'.get? e=some u)(new:ObjOk X.prog X.w (upd H x o) h' x o):Inv X pins σ (upd H x o) {s with heap:=h',toks:=t'}:=I.un (Un.write mu he k heo) (I.hok.write mu he k heo new)
theorem Inv.pins_of{pins':List (Addr×Obj)}(I:Inv X pins σ H s)(h:∀p∈pins',s.heap.get? p.1=some p.2/\H p.1=none/\p.1≠X.env.locals/\p.1∉X.fs/\∀v,p.2.data≠.cell v):Inv X pins' σ H s:=
 ⟨I.ok,I.os,I.bare,I.base,I.loc,I.cell,I.free,I.freeC,fun p hp=>(List.mem_append.mp hp).elim (fun z=>I.pin p (List.mem_append_left _ z)) (h p),I.hok,I.len⟩
theorem nodup_ix{N:List Str}(hN:N.Nodup){i j:Nat}{x:Str}(a:N[i]? =some x)(b:N[j]? =some x):i=j:=by
 obtain⟨h1,e1⟩:=List.getElem?_eq_some_iff.mp a
 obtain⟨h2,e2⟩:=List.getElem?_eq_some_iff.mp b
 exact(List.getElem_inj hN).mp (e1.trans e2.symm)
theorem store_ok2{M:Model}{A:Around}{E:Value->Shared->Prop}{i:Nat}{x:Str}{v:V}{u:Value}{Q:Unit->Shared->Prop}(I:Inv X pins σ H s)(hN:X.N.Nodup)(hi:X.N[i]? =some x)(hx:Loc X.env.scope x)(r:RelV v u)(h:∀s',Inv X pins (σ.set i (some v)) H s'->(∃a,Heap.SameBut a s.heap s'.heap/\(a=X.env.locals\/X.env.cells.lookup x=some a))->Q () s')(hf:X.fn x=true\/X.env.scope.names.lookup x=some .local:=by first |exact .inl rfl|exact .inr rfl|assumption):wpAny M A (storeName X.env x u) Q E s:=by
 obtain⟨m,hn,hl⟩:=id I.loc
 have hcls:(X.env.scope.kind== .class||(X.env.scope.kind== .module&&X.env.locals !=X.env.globals))=false:=by rw[I.ok.kind];rfl
 have hiσ:i<σ.length:=by rw[I.len];exact(List.getElem?_eq_some_iff.mp hi).1
 have cne:=I.cne
 have tracked:∀{a:Addr} {h':Heap},(∃o,s.heap.get? a=some o/\H a=none)->Heap.SameBut a s.heap h'->HOk X.prog X.w H h':=fun{a h'} ha hs b ob e=>by
  obtain⟨_,_,hfree⟩:=ha
  refine(I.hok b ob e).stay (fun c w' hc q=>(hs.2 c ?_).trans q) (fun _ q=>q) fun _ _ q=>q
  rintro rfl
  rcases hc with rfl|hc
  ·rw[hfree]at e;cases e
  ·rw[hfree]at hc;cases hc
 rcases hx with hk|hk
 ·refine wpAny_storeName_local hk hn (fun h' hn' hs=> ?_) hcls
  obtain⟨oL,_,_,hoL,_⟩:=id hn
  refine h _ ⟨I.ok,I.os,I.bare,⟨fun b o e n hb hx=> ?_,fun b o e n hb hx=> ?_,I.base.free,fun b o e hx=> ?_,I.base.tups,I.base.frzs,I.base.tbls⟩,⟨_,hn',fun j y v' e1 e2 e3=> ?_⟩,fun y c e=> ?_,I.free,I.freeC,fun p hp=> ?_,tracked ⟨oL,hoL,I.free⟩ hs,by simpa using I.len⟩ ⟨_,hs,.inl rfl⟩
  ·exact(hs.2 b (Nat.ne_of_lt (Nat.lt_of_lt_of_le (Heap.lt_size e) I.ok.above))).trans (I.base.keep b o e n hb hx)
  ·obtain⟨sl,e1⟩:=I.base.slot b o e n hb hx
   exact⟨sl,(hs.2 b (Nat.ne_of_lt (Nat.lt_of_lt_of_le (Heap.lt_size e) I.ok.above))).trans e1⟩
  ·obtain⟨o',e1⟩:=I.base.there b o e hx
   exact⟨o',(hs.2 b (Nat.ne_of_lt (Nat.lt_of_lt_of_le (Heap.lt_size e) I.ok.above))).trans e1⟩
  ·by_cases hj:j=i
   ·subst hj
    rw[hi]at e1;cases e1
    rw[List.getElem?_set_self hiσ]at e2
    cases e2
    exact⟨u,r,.inl ⟨hk,by simp⟩⟩
   ·rw[List.getElem?_set_ne (Ne.symm hj)]at e2
    obtain⟨u',r',q⟩:=hl j y v' e1 e2 e3
    refine⟨u',r',?_⟩
    rcases q with⟨k,e⟩|⟨k,c,e,z⟩
    ·refine .inl ⟨k,?_⟩
     have:y≠x:=fun e=>hj (nodup_ix hN e1 (e▸hi))
     simp[this,e]
    ·exact .inr ⟨k,c,e,z.sameBut hs (cne y c e)⟩
  ·obtain⟨w',z⟩:=I.cell y c e
   exact⟨w',z.sameBut hs (cne y c e)⟩
  ·obtain⟨e,n,ne,nf,d⟩:=I.pin p hp
   exact⟨(hs.2 p.1 ne).trans e,n,ne,nf,d⟩
 ·have hfn:X.fn x=true:=by
   rcases hf with z|z
   ·exact z
   ·rw[z]at hk;cases hk
  obtain⟨c,hc⟩:=I.ok.has x (.inl hk)
  obtain⟨w',z⟩:=I.cell x c hc
  refine wpAny_storeName_cell I.ok.kind hk hc z (fun h' hc' hs=> ?_)
  obtain⟨oc,hoc,hocd⟩:=id z
  refine h {s with heap:=h'} ⟨I.ok,I.os,I.bare,⟨fun b o e n hb hx=> ?_,fun b o e n hb hx=> ?_,I.base.free,fun b o e hx=> ?_,I.base.tups,I.base.frzs,I.base.tbls⟩,⟨m,hn.sameBut hs (Ne.symm (cne x c hc)),fun j y v' e1 e2 e3=> ?_⟩,fun y c' e=> ?_,I.free,I.freeC,fun p hp=> ?_,tracked ⟨oc,hoc,I.freeC x c hc⟩ hs,by simpa using I.len⟩ ⟨c,hs,.inr hc⟩
  ·exact(hs.2 b (Nat.ne_of_lt (Nat.lt_of_lt_of_le (Heap.lt_size e) (I.ok.cab x c hfn hc)))).trans (I.base.keep b o e n hb hx)
  ·obtain⟨sl,e1⟩:=I.base.slot b o e n hb hx
   exact⟨sl,(hs.2 b (Nat.ne_of_lt (Nat.lt_of_lt_of_le (Heap.lt_size e) (I.ok.cab x c hfn hc)))).trans e1⟩
  ·obtain⟨o',e1⟩:=I.base.there b o e hx
   exact⟨o',(hs.2 b (Nat.ne_of_lt (Nat.lt_of_lt_of_le (Heap.lt_size e) (I.ok.cab x c hfn hc)))).trans e1⟩
  ·by_cases hj:j=i
   ·subst hj
    rw[hi]at e1;cases e1
    rw[List.getElem?_set_self hiσ]at e2
    cases e2
    exact⟨u,r,.inr ⟨.inl hk,c,hc,hc'⟩⟩
   ·rw[List.getElem?_set_ne (Ne.symm hj)]at e2
    obtain⟨u',r',q⟩:=hl j y v' e1 e2 e3
    refine⟨u',r',?_⟩
    rcases q with q|⟨k,c',e,z'⟩
    ·exact .inl q
    ·refine .inr ⟨k,c',e,z'.sameBut hs ?_⟩
     rintro rfl
     exact hj (nodup_ix hN e1 (I.ok.inj _ _ _ e hc▸hi))
  ·by_cases hcc:c'=c
   ·subst hcc;exact⟨_,hc'⟩
   ·obtain⟨w2,z2⟩:=I.cell y c' e
    exact⟨w2,z2.sameBut hs hcc⟩
  ·obtain⟨e,n,ne,nf,d⟩:=I.pin p hp
   refine⟨(hs.2 p.1 ?_).trans e,n,ne,nf,d⟩
   intro q
   rw[q,hoc]at e
   have q':oc=p.2:=Option.some.inj e
   exact d w' (by rw[<-q'];exact hocd)
theorem store_ok{M:Model}{A:Around}{E:Value->Shared->Prop}{i:Nat}{x:Str}{v:V}{u:Value}{Q:Unit->Shared->Prop}(I:Inv X pins σ H s)(hN:X.N.Nodup)(hi:X.N[i]? =some x)(hx:Loc X.env.scope x)(r:RelV v u)(h:∀s',Inv X pins (σ.set i (some v)) H s'->Q () s')(hf:X.fn x=true\/X.env.scope.names.lookup x=some .local:=by first |exact .inl rfl|exact .inr rfl|assumption):wpAny M A (storeName X.env x u) Q E s:=
 store_ok2 I hN hi hx r (fun s' I' _=>h s' I') hf
theorem Inv.call'{s':Shared}{ch:List Addr}(I:Inv X pins σ H s)(ho:s'.os=s.os)(u:Un (frs X.stack) ch H H' s.heap s'.heap)(hok:HOk X.prog X.w H' s'.heap)(hg:AllBare s'.gens)(hch:∀b∈ch,(b∈X.ex\/X.s₀.heap.objs.size<=b)/\b≠X.env.locals/\(∀x c,X.env.cells.lookup x=some c->c≠b)/\∀p∈X.pn++pins,p.1≠b):Inv X pins σ H' s':=by
 obtain⟨h',g',d',t',o'⟩:=s'
 have e:o'=s.os:=ho
 subst e
 exact I.call (g':=g') (t':=t') (d':=d') u hok hg hch
end
noncomputable abbrev XK:=Value->Option Addr->Hp->Prop
noncomputable abbrev St:=List (Option V)
noncomputable abbrev VK:=V->Hp->Prop
noncomputable abbrev TE:=St->Hp->VK->Prop
noncomputable abbrev TT:=St->Hp->(Bool->Hp->Prop)->Prop
noncomputable abbrev TA:=St->Hp->(List V->Hp->Prop)->Prop
structure Ends where
 nx:St->Hp->Prop
 rt:VK
 bk:St->Hp->Prop:=fun _ _=>False
 ct:St->Hp->Prop:=fun _ _=>False
noncomputable abbrev TS:=Ends->St->Hp->Prop
noncomputable def EP(X:Cx)(pins:List (Addr×Obj))(σ:St)(Q:VK)(u:Value)(s':Shared):Prop:=∃v H',Inv X pins σ H' s'/\RelV v u/\Q v H'
noncomputable def TP(X:Cx)(pins:List (Addr×Obj))(σ:St)(Q:Bool->Hp->Prop)(b:Bool)(s':Shared):Prop:=∃H',Inv X pins σ H' s'/\Q b H'
noncomputable def AP(X:Cx)(pins:List (Addr×Obj))(σ:St)(Q:List V->Hp->Prop)(us:List Value)(s':Shared):Prop:=∃vs H',Inv X pins σ H' s'/\Vals vs us/\Q vs H'
noncomputable def SP(X:Cx)(pins:List (Addr×Obj))(D:Ends)(f:Flow)(s':Shared):Prop:=
 match f with
 | .next=>∃σ' H',Inv X pins σ' H' s'/\D.nx σ' H'
 | .brk=>∃σ' H',Inv X pins σ' H' s'/\D.bk σ' H'
 | .cont=>∃σ' H',Inv X pins σ' H' s'/\D.ct σ' H'
 | .ret u=>∃v σ' H',Inv X pins σ' H' s'/\RelV v u/\D.rt v H'
noncomputable def PE(X:Cx)(e:Expr)(t:TE):Prop:=
 ∀(pins:List (Addr×Obj)) (s:Shared) (σ:St) (H:Hp) (Q:VK),Inv X pins σ H s->t σ H Q->wpAny (model X.prog X.w) X.A (eval e X.env) (EP X pins σ Q) X.xe s
noncomputable def PT(X:Cx)(e:Expr)(t:TT):Prop:=
 ∀(pins:List (Addr×Obj)) (s:Shared) (σ:St) (H:Hp) (Q:Bool->Hp->Prop),Inv X pins σ H s->t σ H Q->wpAny (model X.prog X.w) X.A (isTrue e X.env (eval e X.env)) (TP X pins σ Q) X.xe s
noncomputable def PW(X:Cx)(e:Expr)(t:TT):Prop:=
 ∀(whole:Sem Value) (pins:List (Addr×Obj)) (s:Shared) (σ:St) (H:Hp) (Q:Bool->Hp->Prop),Inv X pins σ H s->t σ H Q->wpAny (model X.prog X.w) X.A (isTrue e X.env whole) (TP X pins σ Q) X.xe s
theorem PW.pt{X:Cx}{e:Expr}{t:TT}(h:PW X e t):PT X e t:=h _
noncomputable def PA(X:Cx)(es:List Expr)(t:TA):Prop:=
 ∀(pos:Pos) (pins:List (Addr×Obj)) (s:Shared) (σ:St) (H:Hp) (Q:List V->Hp->Prop),Inv X pins σ H s->t σ H Q->wpAny (model X.prog X.w) X.A (spliced (backTo pos (starEach es X.env))) (AP X pins σ Q) X.xe s
noncomputable def PS(X:Cx)(st:Stmt)(t:TS):Prop:=
 ∀(pins:List (Addr×Obj)) (s:Shared) (σ:St) (H:Hp) (D:Ends),Inv X pins σ H s->t D σ H->wpAny (model X.prog X.w) X.A (exec st X.env) (SP X pins D) X.xe s
noncomputable def PSs(X:Cx)(st:List Stmt)(t:TS):Prop:=
 ∀(pins:List (Addr×Obj)) (s:Shared) (σ:St) (H:Hp) (D:Ends),Inv X pins σ H s->t D σ H->wpAny (model X.prog X.w) X.A (execs st X.env) (SP X pins D) X.xe s
theorem thn{α:Type}{t:Sem α}{Q Q':α->Shared->Prop}{M:Model}{A:Around}{E:Value->Shared->Prop}{s:Shared}(h:wpAny M A t Q E s)(hQ:∀a s,Q a s->Q' a s):wpAny M A t Q' E s:=wpAny_mono h hQ fun _ _ x=>x
end L2
namespace L2
open PySem PySem.Spec PyProof.Rows
section
variable{X:Cx}
noncomputable def tVar(i:Nat):TE:=fun σ H Q=>∃v,σ[i]? =some (some v)/\Q v H
noncomputable def tC(v:V):TE:=fun _ H Q=>Q v H
theorem pe_var{i:Nat}{x:Str}{pos:Pos}(hN:X.N[i]? =some x)(hv:Vis X.env.scope x)(hd:(x==("__debug__":Str))=false:=by decide)(hcd:(x==("__classdict__":Str))=false:=by decide):PE X (.Name x pos) (tVar i):=by
 intro pins s σ H Q I h
 obtain⟨v,e,h⟩:=h
 obtain⟨m,hn,hl⟩:=I.loc
 obtain⟨u,r,l⟩:=hl i x v hN e hv
 have fin:EP X pins σ Q u s:=⟨v,H,I,r,h⟩
 rcases l with⟨hk,hm⟩|⟨hk,c,hc,hcell⟩
 ·exact wpAny_Name (wpAny_loadName_local I.ok.kind hk hn hm fin) hd
 ·rcases hk with hk|hk
  ·exact wpAny_Name (wpAny_loadName_cell I.ok.kind hk hc hcell fin) hd
  ·exact wpAny_Name (wpAny_loadName_free I.ok.kind hk hc hcell fin hcd) hd
theorem zad{i j pos}:PE X (.Constant (.int i) j pos) (tC (.int i)):=fun _ _ _ H _ I h=>wpAny_Constant_int ⟨.int i,H,I.tok _,⟨_,rfl⟩,h⟩
theorem pe_bl{b j pos}:PE X (.Constant (.bool b) j pos) (tC (.bl b)):=fun _ _ _ H _ I h=>Constant_bool ⟨.bl b,H,I,rfl,h⟩
theorem pe_non{j pos}:PE X (.Constant .none j pos) (tC .non):=fun _ _ _ H _ I h=>Constant_none ⟨.non,H,I,rfl,h⟩
theorem zav{x j pos}:PE X (.Constant (.str x) j pos) (tC (.str x)):=fun _ _ _ H _ I h=>Calls.Constant_str ⟨.str x,H,I.tok _,⟨_,rfl⟩,h⟩
noncomputable def Gl(X:Cx)(x:Str):Prop:=X.env.kindOf x=some .globalImplicit
theorem ld_glob{E:Value->Shared->Prop}{pins:List (Addr×Obj)}{s:Shared}{σ:St}{H:Hp}{x:Str}{u:Value}{pos:Pos}{Q:Value->Shared->Prop}(I:Inv X pins σ H s)(hg:Gl X x)(hm:X.mg x=some u)(h:Q u s)(hd:(x==("__debug__":Str))=false:=by decide):wpAny (model X.prog X.w) X.A (eval (.Name x pos) X.env) Q E s:=
 Calls.Name_function_global I.ok.kind hg (Calls.loadGlobal_global (by rw[I.ok.glob];exact I.mod.glob.keeps I.bk) hm h) hd
theorem ld_blt{E:Value->Shared->Prop}{pins:List (Addr×Obj)}{s:Shared}{σ:St}{H:Hp}{x:Str}{u:Value}{pos:Pos}{Q:Value->Shared->Prop}(I:Inv X pins σ H s)(hg:Gl X x)(hm:X.mg x=none)(hv:bootBuiltins x=some u)(h:Q u s)(hn:x≠"__name__":=by decide)(hd:(x==("__debug__":Str))=false:=by decide):wpAny (model X.prog X.w) X.A (eval (.Name x pos) X.env) Q E s:=by
 obtain⟨mb,h1,h2⟩:=I.mod.blt
 exact Calls.Name_function_global I.ok.kind hg (Calls.loadGlobal_builtin (by rw[I.ok.glob];exact I.mod.glob.keeps I.bk) hm (by rw[I.ok.blt];exact h1.keeps I.bk) ((h2 x hn).trans hv) h) hd
theorem zbw{x:Str}{v:V}{u:Value}{pos:Pos}(hg:Gl X x)(hm:X.mg x=some u)(r:RelV v u)(hd:(x==("__debug__":Str))=false:=by decide):PE X (.Name x pos) (tC v):=
 fun _ _ _ H _ I h=>ld_glob I hg hm ⟨v,H,I,r,h⟩ hd
theorem pe_bltn{x:Str}{v:V}{u:Value}{pos:Pos}(hg:Gl X x)(hm:X.mg x=none)(hv:bootBuiltins x=some u)(r:RelV v u)(hn:x≠"__name__":=by decide)(hd:(x==("__debug__":Str))=false:=by decide):PE X (.Name x pos) (tC v):=
 fun _ _ _ H _ I h=>ld_blt I hg hm hv ⟨v,H,I,r,h⟩ hn hd
variable{a b:Expr}{ta tb:TE}{pos:Pos}
noncomputable def tB(t:TE):TT:=fun σ H Q=>t σ H fun x H1=>∃c,x= .bl c/\Q c H1
theorem pt_val{e:Expr}{t:TE}(h:PE X e t)(he:∀whole,isTrue e X.env whole=(do let v<-whole;standAt e.pos;holding [v] (truthy v)):=by intro _;rfl):PT X e (tB t):=by
 intro pins s σ H Q I hw
 refine isTrue_plain (thn (h pins s σ H _ I hw) fun v s1 ⟨x,H1,I1,r1,q1⟩=> ?_) (he _)
 obtain⟨d,rfl,q⟩:=q1
 cases r1
 exact wpAny_truthy_bool ⟨H1,I1,q⟩
variable{tA tB':TT}{rest:List Expr}
noncomputable def tAnd(t u:TT):TT:=fun σ H Q=>t σ H fun c H1=>if c=true then u σ H1 Q else Q false H1
noncomputable def tOr(t u:TT):TT:=fun σ H Q=>t σ H fun c H1=>if c=true then Q true H1 else u σ H1 Q
noncomputable def tNot(t:TT):TT:=fun σ H Q=>t σ H fun c H1=>Q (!c) H1
theorem pw_and1(ha:PT X a tA):PW X (.BoolOp .And [a] pos) tA:=by
 intro wh pins s σ H Q I h
 refine isTrue_and (thn (ha pins s σ H Q I h) fun c s1 e=> ?_)
 cases c with
 |true=>exact isTrue_and_nil e
 |false=>exact e
theorem pw_or1(ha:PT X a tA):PW X (.BoolOp .Or [a] pos) tA:=by
 intro wh pins s σ H Q I h
 refine isTrue_or (thn (ha pins s σ H Q I h) fun c s1 e=> ?_)
 cases c with
 |false=>exact isTrue_or_nil e
 |true=>exact e
theorem pw_and(ha:PT X a tA)(hb:PW X (.BoolOp .And (b::rest) pos) tB'):PW X (.BoolOp .And (a::b::rest) pos) (tAnd tA tB'):=by
 intro wh pins s σ H Q I h
 refine isTrue_and (thn (ha pins s σ H _ I h) fun c s1 ⟨H1,I1,q1⟩=> ?_)
 cases c with
 |true=>exact hb wh pins s1 σ H1 Q I1 q1
 |false=>exact⟨H1,I1,q1⟩
theorem pw_or(ha:PT X a tA)(hb:PW X (.BoolOp .Or (b::rest) pos) tB'):PW X (.BoolOp .Or (a::b::rest) pos) (tOr tA tB'):=by
 intro wh pins s σ H Q I h
 refine isTrue_or (thn (ha pins s σ H _ I h) fun c s1 ⟨H1,I1,q1⟩=> ?_)
 cases c with
 |true=>exact⟨H1,I1,q1⟩
 |false=>exact hb wh pins s1 σ H1 Q I1 q1
theorem pt_not(ha:PT X a tA):PT X (.UnaryOp .Not a pos) (tNot tA):=by
 intro pins s σ H Q I h
 exact isTrue_not (ha pins s σ H (fun c H1=>Q (!c) H1) I h)
noncomputable def tAndV(ta tb:TE):TE:=fun σ H Q=>ta σ H fun x H1=>∃c,x= .bl c/\if c=true then tb σ H1 Q else Q (.bl false) H1
noncomputable def tNotV(ta:TE):TE:=fun σ H Q=>ta σ H fun x H1=>∃c,x= .bl c/\Q (.bl (!c)) H1
theorem pe_one{op}{t:TE}(h:PE X a t):PE X (.BoolOp op [a] pos) t:=fun pins s σ H Q I hw=>BoolOp_one (h pins s σ H Q I hw)
theorem pe_and(ha:PE X a ta)(hb:PE X (.BoolOp .And (b::rest) pos) tb):PE X (.BoolOp .And (a::b::rest) pos) (tAndV ta tb):=by
 intro pins s σ H Q I h
 refine BoolOp_and (thn (ha pins s σ H _ I h) fun v s1 ⟨x,H1,I1,r1,q1⟩=> ?_)
 obtain⟨c,rfl,q1⟩:=q1
 cases r1
 refine wpAny_truthy_bool ?_
 cases c with
 |true=>exact hb pins s1 σ H1 Q I1 q1
 |false=>exact⟨.bl false,H1,I1,rfl,q1⟩
theorem pe_not(ha:PE X a ta):PE X (.UnaryOp .Not a pos) (tNotV ta):=by
 intro pins s σ H Q I h
 refine UnaryOp_ (thn (ha pins s σ H _ I h) fun v s1 ⟨x,H1,I1,r1,q1⟩=> ?_)
 obtain⟨c,rfl,q1⟩:=q1
 cases r1
 exact not_of (wpAny_truthy_bool ⟨.bl (!c),H1,I1,rfl,q1⟩)
noncomputable def tIf(t:TT)(ta tb:TE):TE:=fun σ H Q=>t σ H fun c H1=>if c=true then ta σ H1 Q else tb σ H1 Q
theorem pe_ifExp{c:Expr}(hc:PT X c tA)(ha:PE X a ta)(hb:PE X b tb):PE X (.IfExp c a b pos) (tIf tA ta tb):=by
 intro pins s σ H Q I h
 refine wpAny_IfExp (thn (hc pins s σ H _ I h) fun d s1 ⟨H1,I1,q1⟩=> ?_)
 cases d with
 |true=>exact ha pins s1 σ H1 Q I1 q1
 |false=>exact hb pins s1 σ H1 Q I1 q1
end
end L2
namespace L2
open PySem PySem.Spec PyProof.Rows
noncomputable def SqL(K:W.Frag)(H:Hp)(a:Addr)(xs:List V):Prop:=
 Rd H a (.lst xs)\/
  ∃(o:Obj) (its:Array Value) (n:Nat),K.lookup a=some o/\o.cls= .type "list"/\o.dict=none/\o.data= .seq its n/\its.size<=sizeLine/\Vals xs its.toList
noncomputable def SqT(K:W.Frag)(H:Hp)(a:Addr)(xs:List V):Prop:=
 Rd H a (.tup xs)\/
  ∃(o:Obj) (its:Array Value) (n:Nat),K.lookup a=some o/\o.cls= .type "tuple"/\o.data= .seq its n/\its.size<=sizeLine/\Vals xs its.toList
noncomputable def absV:Value->Option V
 | .none=>some .non
 | .bool b=>some (.bl b)
 | .int i _=>some (.int i)
 | .str x _=>some (.str x)
 | .bytes b _=>some (.byt b)
 | .float b _=>some (.flt b)
 | .ref a=>some (.ref a)
 | .type n=>some (.ty n)
 |_=>none
theorem RelV.abs{x:V}{u:Value}(r:RelV x u):absV u=some x:=by
 cases x with
 |non=>cases r;rfl
 |bl _=>cases r;rfl
 |int _=>obtain⟨t,rfl⟩:=r;rfl
 |str _=>obtain⟨t,rfl⟩:=r;rfl
 |byt _=>obtain⟨t,rfl⟩:=r;rfl
 |flt _=>obtain⟨t,rfl⟩:=r;rfl
 |ref _=>cases r;rfl
 |ty _=>cases r;rfl
theorem RelV.inj{x y:V}{u:Value}(r:RelV x u)(q:RelV y u):x=y:=Option.some.inj (r.abs.symm.trans q.abs)
theorem Vals.inj{xs ys:List V}{us:List Value}(h:Vals xs us)(h':Vals ys us):xs=ys:=by
 induction h generalizing ys with
 |nil=>cases h';rfl
 |cons r _ ih=>cases h' with |cons r' t'=>rw[r.inj r',ih t']
section
variable{X:Cx}{pins:List (Addr×Obj)}{σ:St}{H:Hp}{s:Shared}{a:Addr}{xs ys:List V}
theorem SqL.of{K:W.Frag}(h:H a=some (.lst xs)):SqL K H a xs:= .inl (.inl h)
theorem SqT.of{K:W.Frag}(h:H a=some (.tup xs)):SqT K H a xs:= .inl (.inl h)
theorem Inv.list(I:Inv X pins σ H s)(h:SqL X.K H a xs):∃its:List Value,Vals xs its/\PlainL s.heap a its.toArray/\xs.length<=sizeLine:=by
 rcases h with h|⟨o,its,n,hk,hc,hd,hs,hz,r⟩
 ·obtain⟨z,its,n,r,e⟩:=h.ok I.hok
  exact⟨its,r,⟨_,n,e,rfl,rfl,rfl⟩,z⟩
 ·refine⟨its.toList,r,⟨o,n,I.kIn a o hk,hc,hd,by simpa using hs⟩,?_⟩
  have e:=r.length
  simp only[Array.length_toList]at e
  omega
theorem Inv.tuple(I:Inv X pins σ H s)(h:SqT X.K H a xs):∃its:List Value,Vals xs its/\IsTup s.heap a its.toArray/\xs.length<=sizeLine:=by
 rcases h with h|⟨o,its,n,hk,hc,hs,hz,r⟩
 ·obtain⟨z,its,r,p⟩:=h.ok I.hok
  exact⟨its,r,p,z⟩
 ·refine⟨its.toList,r,⟨o,I.kIn a o hk,hc,n,by simpa using hs⟩,?_⟩
  have e:=r.length
  simp only[Array.length_toList]at e
  omega
theorem Inv.list_inj(I:Inv X pins σ H s)(h:SqL X.K H a xs)(h':SqL X.K H a ys):xs=ys:=by
 obtain⟨its,r,⟨o,n,e,_,_,d⟩,_⟩:=I.list h
 obtain⟨its',r',⟨o',n',e',_,_,d'⟩,_⟩:=I.list h'
 rw[e]at e';cases e'
 rw[d]at d'
 injection d' with d1 _
 have:its=its':=by simpa using congrArg Array.toList d1
 subst this
 exact r.inj r'
theorem Inv.tuple_inj(I:Inv X pins σ H s)(h:SqT X.K H a xs)(h':SqT X.K H a ys):xs=ys:=by
 obtain⟨its,r,⟨o,e,_,n,d⟩,_⟩:=I.tuple h
 obtain⟨its',r',⟨o',e',_,n',d'⟩,_⟩:=I.tuple h'
 rw[e]at e';cases e'
 rw[d]at d'
 injection d' with d1 _
 have:its=its':=by simpa using congrArg Array.toList d1
 subst this
 exact r.inj r'
end
noncomputable abbrev Cx.wish(X:Cx)(E:Value->Shared->Prop):Cx:={X with xe:=E}
noncomputable abbrev Cx.nox(X:Cx):Cx:=X.wish fun _ _=>False
theorem Cx.Ok.wish{X:Cx}(ok:X.Ok)(E:Value->Shared->Prop):(X.wish E).Ok:=
 ⟨ok.mod,ok.kind,ok.glob,ok.blt,ok.above,ok.inj,ok.has,ok.cab,ok.hd,ok.frames,ok.stk,ok.exf,ok.bs,ok.bsz,ok.noex,ok.exfs,ok.funs,ok.frf⟩
theorem Cx.Ok.unwish{X:Cx}{E:Value->Shared->Prop}(ok:(X.wish E).Ok):X.Ok:=
 ⟨ok.mod,ok.kind,ok.glob,ok.blt,ok.above,ok.inj,ok.has,ok.cab,ok.hd,ok.frames,ok.stk,ok.exf,ok.bs,ok.bsz,ok.noex,ok.exfs,ok.funs,ok.frf⟩
section
variable{X:Cx}{pins:List (Addr×Obj)}{σ:St}{H:Hp}{s:Shared}{E:Value->Shared->Prop}
theorem Inv.wish(I:Inv X pins σ H s)(E:Value->Shared->Prop):Inv (X.wish E) pins σ H s:=⟨I.ok.wish E,I.os,I.bare,I.base,I.loc,I.cell,I.free,I.freeC,I.pin,I.hok,I.len⟩
theorem Inv.unwish(I:Inv (X.wish E) pins σ H s):Inv X pins σ H s:=⟨I.ok.unwish,I.os,I.bare,I.base,I.loc,I.cell,I.free,I.freeC,I.pin,I.hok,I.len⟩
theorem SP.unwish{D:Ends}{f:Flow}{s':Shared}(h:SP (X.wish E) pins D f s'):SP X pins D f s':=by
 cases f with
 |next=>obtain⟨σ',H',I,q⟩:=h;exact⟨σ',H',I.unwish,q⟩
 |brk=>obtain⟨σ',H',I,q⟩:=h;exact⟨σ',H',I.unwish,q⟩
 |cont=>obtain⟨σ',H',I,q⟩:=h;exact⟨σ',H',I.unwish,q⟩
 |ret u=>obtain⟨v,σ',H',I,r,q⟩:=h;exact⟨v,σ',H',I.unwish,r,q⟩
theorem PE.nox{e:Expr}{t:TE}(h:PE X.nox e t):PE X e t:=fun pins s σ H Q I hw=>
 wpAny_mono (h pins s σ H Q (I.wish _) hw) (fun _ _ ⟨v,H',I',r,q⟩=>⟨v,H',I'.unwish,r,q⟩) fun _ _ z=>False.elim z
theorem PT.nox{e:Expr}{t:TT}(h:PT X.nox e t):PT X e t:=fun pins s σ H Q I hw=>
 wpAny_mono (h pins s σ H Q (I.wish _) hw) (fun _ _ ⟨H',I',q⟩=>⟨H',I'.unwish,q⟩) fun _ _ z=>False.elim z
theorem PSs.nox{st:List Stmt}{t:TS}(h:PSs X.nox st t):PSs X st t:=fun pins s σ H D I hw=>
 wpAny_mono (h pins s σ H D (I.wish _) hw) (fun _ _ q=>q.unwish) fun _ _ z=>False.elim z
end
section
variable{X:Cx}{st:Stmt}{rest:List Stmt}{t u:TS}{e:Expr}{te:TE}{pos:Pos}
noncomputable def tNext:TS:=fun D σ H=>D.nx σ H
noncomputable def tSeq(t u:TS):TS:=fun D σ H=>t {D with nx:=u D} σ H
theorem zaw:PSs X [] tNext:=fun _ _ σ H _ I h=>wpAny_execs_nil ⟨σ,H,I,h⟩
theorem zag(h1:PS X st t)(h2:PSs X rest u):PSs X (st::rest) (tSeq t u):=by
 intro pins s σ H D I h
 refine wpAny_execs_cons (thn (h1 pins s σ H {D with nx:=u D} I h) fun f s1 q=> ?_)
 cases f with
 |next=>
  obtain⟨σ',H',I',q⟩:=q
  exact h2 pins s1 σ' H' D I' q
 |ret v=>exact q
 |brk=>exact q
 |cont=>exact q
theorem zae(h1:PS X st t):PSs X [st] t:=by
 intro pins s σ H D I h
 refine wpAny_execs_cons (thn (h1 pins s σ H D I h) fun f s1 q=> ?_)
 cases f with
 |next=>exact wpAny_execs_nil q
 |ret v=>exact q
 |brk=>exact q
 |cont=>exact q
noncomputable def tBreak:TS:=fun D σ H=>D.bk σ H
theorem ps_break:PS X (.Break pos) tBreak:=fun _ _ σ H _ I h=>wpAny_Break ⟨σ,H,I,h⟩
theorem Inv.quiet{pins:List (Addr×Obj)}{σ:St}{H:Hp}{s:Shared}(I:Inv X pins σ H s):interactive X.env=false:=by simp[interactive,I.ok.kind]
noncomputable def tDrop(te:TE):TS:=fun D σ H=>te σ H fun _ H1=>D.nx σ H1
theorem zak(he:PE X e te)(hs:swapsWith e none pos.line X.env=pure false:=by rfl):PS X (.Expr e pos) (tDrop te):=by
 intro pins s σ H D I h
 exact wpAny_Expr_any (thn (he pins s σ H _ I h) fun v s1 ⟨x,H1,I1,r1,q1⟩=>⟨σ,H1,I1,q1⟩) I.quiet hs
noncomputable def tRet(te:TE):TS:=fun D σ H=>te σ H D.rt
theorem zaq(he:PE X e te):PS X (.Return (some e) pos) (tRet te):=by
 intro pins s σ H D I h
 exact wpAny_Return_some (thn (he pins s σ H _ I h) fun v s1 ⟨x,H1,I1,r1,q1⟩=>⟨x,σ,H1,I1,r1,q1⟩)
noncomputable def tIfS(c:TT)(t u:TS):TS:=fun D σ H=>c σ H fun b H1=>if b=true then t D σ H1 else u D σ H1
theorem zam{c:Expr}{a b:List Stmt}{tc:TT}(hc:PT X c tc)(ha:PSs X a t)(hb:PSs X b u):PS X (.If c a b pos) (tIfS tc t u):=by
 intro pins s σ H D I h
 refine wpAny_If (thn (hc pins s σ H _ I h) fun d s1 ⟨H1,I1,q1⟩=> ?_)
 cases d with
 |true=>exact ha pins s1 σ H1 D I1 q1
 |false=>exact hb pins s1 σ H1 D I1 q1
noncomputable def tNever:TS:=fun _ _ _=>False
theorem zah{sts:List Stmt}:PSs X sts tNever:=fun _ _ _ _ _ _ h=>h.elim
end
noncomputable abbrev TG:=V->St->Hp->(St->Hp->Prop)->Prop
noncomputable abbrev TGs:=List V->St->Hp->(St->Hp->Prop)->Prop
noncomputable def PG(X:Cx)(target:Expr)(t:TG):Prop:=
 ∀(pins:List (Addr×Obj)) (s:Shared) (σ:St) (H:Hp) (v:V) (u:Value) (Q:St->Hp->Prop),Inv X pins σ H s->RelV v u->t v σ H Q->
  wpAny (model X.prog X.w) X.A (assign target X.env u) (fun _ s'=>∃σ' H',Inv X pins σ' H' s'/\Q σ' H') X.xe s
noncomputable def PGs(X:Cx)(ts:List Expr)(t:TGs):Prop:=
 ∀(pins:List (Addr×Obj)) (s:Shared) (σ:St) (H:Hp) (vs:List V) (us:List Value) (Q:St->Hp->Prop),Inv X pins σ H s->Vals vs us->t vs σ H Q->
  wpAny (model X.prog X.w) X.A (assignInOrder ((assignEach ts X.env).map (·.2)) us) (fun _ s'=>∃σ' H',Inv X pins σ' H' s'/\Q σ' H') X.xe s
noncomputable abbrev TSet:=V->V->V->Hp->(Hp->Prop)->Prop
noncomputable def PSet(X:Cx)(t:TSet):Prop:=
 ∀(pins:List (Addr×Obj)) (s:Shared) (σ:St) (H:Hp) (o i v:V) (ov iv u:Value) (Q:Hp->Prop),Inv X pins σ H s->RelV o ov->RelV i iv->RelV v u->t o i v H Q->
  wpAny (model X.prog X.w) X.A (setItem ov iv u) (fun _ s'=>∃H',Inv X pins σ H' s'/\Q H') X.xe s
section
variable{X:Cx}{pos:Pos}
noncomputable def gName(i:Nat):TG:=fun v σ H Q=>Q (σ.set i (some v)) H
theorem zan{i:Nat}{x:Str}(hN:X.N.Nodup)(hi:X.N[i]? =some x)(hx:Loc X.env.scope x)(hf:X.fn x=true\/X.env.scope.names.lookup x=some .local:=by first |exact .inl rfl|exact .inr rfl|assumption):PG X (.Name x pos) (gName i):=by
 intro pins s σ H v u Q I r h
 exact wpAny_assign_Name (store_ok I hN hi hx r (fun s' I'=>⟨_,H,I',h⟩) hf)
noncomputable def gNil:TGs:=fun vs σ H Q=>vs=[]/\Q σ H
noncomputable def gCons(t:TG)(u:TGs):TGs:=fun vs σ H Q=>∃v r,vs=v::r/\t v σ H fun σ' H'=>u r σ' H' Q
theorem pgs_nil:PGs X [] gNil:=by
 intro pins s σ H vs us Q I r h
 obtain⟨e,h⟩:=h
 subst e
 cases r
 exact assignInOrder_nil ⟨σ,H,I,h⟩
theorem zcw{e:Expr}{es:List Expr}{t:TG}{u:TGs}(h1:PG X e t)(h2:PGs X es u)(hs:(assignEach (e::es) X.env).map (·.2)=assign e X.env::(assignEach es X.env).map (·.2):=by rfl):PGs X (e::es) (gCons t u):=by
 intro pins s σ H vs us Q I r h
 obtain⟨v,vr,e1,h⟩:=h
 subst e1
 cases r with
 |cons r rr=>
  rw[hs]
  refine assignInOrder_cons (thn (h1 pins s σ H _ _ _ I r h) fun _ s1 ⟨σ1,H1,I1,q1⟩=> ?_)
  exact h2 pins s1 σ1 H1 _ _ Q I1 rr q1
noncomputable def gTup(K:W.Frag)(n:Nat)(t:TGs):TG:=fun v σ H Q=>∃a xs,v= .ref a/\SqT K H a xs/\xs.length=n/\t xs σ H Q
theorem pg_tup{es:List Expr}{k:Nat}{t:TGs}{n:Nat}(hc:X.calm=true)(h:PGs X es t)(hn:(assignEach es X.env).length=n:=by rfl)(hst:(assignEach es X.env).findIdx? (·.1)=none:=by rfl):PG X (.Tuple es k pos) (gTup X.K n t):=by
 intro pins s σ H v u Q I r hw
 obtain⟨a,xs,e1,hq,hl,hw⟩:=hw
 subst e1
 cases r
 obtain⟨its,rv,ht,hz⟩:=I.tuple hq
 refine assign_Tuple_tuple (I.ok.hd hc) ht (by simp[hn,<-hl,rv.length]) hst fun h' hx=> ?_
 have I1:Inv X pins σ H {s with heap:=h'}:=I.kept (t':=s.toks) fun b o e=>hx b o (Nat.ne_of_lt (Heap.lt_size e)) e
 exact h pins _ σ H xs _ Q I1 (by simpa using rv) hw
noncomputable def gSub(to ti:TE)(t:TSet):TG:=fun v σ H Q=>to σ H fun o H1=>ti σ H1 fun i H2=>t o i v H2 fun H3=>Q σ H3
theorem pg_sub{o i:Expr}{to ti:TE}{t:TSet}(ho:PE X o to)(hi:PE X i ti)(hs:PSet X t)(ha:∀v,assign (.Subscript o i pos) X.env v=(do
   let ov<-holding [v] (eval o X.env)
   let iv<-holding [v,ov] (eval i X.env)
   standAt pos
   holding [v,ov,iv] (setItem ov iv v)
   release [v,ov,iv] []):=by intro _;rfl):PG X (.Subscript o i pos) (gSub to ti t):=by
 intro pins s σ H v u Q I r h
 rw[ha]
 refine wpAny_bind (wpAny_holding (thn (ho pins s σ H _ I h) fun ov s1 ⟨x,H1,I1,r1,q1⟩=> ?_))
 refine wpAny_bind (wpAny_holding (thn (hi pins s1 σ H1 _ I1 q1) fun iv s2 ⟨y,H2,I2,r2,q2⟩=> ?_))
 refine wpAny_bind (wpAny_standAt (wpAny_bind (wpAny_holding (thn (hs pins s2 σ H2 x y v ov iv u _ I2 r1 r2 r q2) fun _ s3 ⟨H3,I3,q3⟩=> ?_))))
 exact wpAny_release ⟨σ,H3,I3,q3⟩
noncomputable def tAsg(te:TE)(g:TG):TS:=fun D σ H=>te σ H fun x H1=>g x σ H1 D.nx
theorem ps_asg{tg e:Expr}{te:TE}{g:TG}(he:PE X e te)(hg:PG X tg g)(hs:swapsWithSole [tg] e pos.line X.env=pure false:=by rfl)(hw:swappedStores [tg] e X.env=pure none:=by rfl)(h1:(assignEach [tg] X.env).map (·.2)=[assign tg X.env]:=by rfl):PS X (.Assign [tg] e pos) (tAsg te g):=by
 intro pins s σ H D I h
 refine wpAny_Assign_stores (thn (he pins s σ H _ I h) fun v s1 ⟨x,H1,I1,r1,q1⟩=> ?_) hs hw
 rw[h1]
 exact thn (hg pins s1 σ H1 x v _ I1 r1 q1) fun _ s2 q=>q
theorem zas{i:Nat}{x:Str}{e:Expr}{te:TE}{pos':Pos}(hN:X.N.Nodup)(hi:X.N[i]? =some x)(hx:Loc X.env.scope x)(he:PE X e te)(hs:swapsWith e (some (.Name x pos')) pos.line X.env=pure false:=by rfl)(hf:X.fn x=true\/X.env.scope.names.lookup x=some .local:=by first |exact .inl rfl|exact .inr rfl|assumption):
  PS X (.Assign [.Name x pos'] e pos) (tAsg te (gName i)):=by
 intro pins s σ H D I h
 refine wpAny_Assign_Name (thn (he pins s σ H _ I h) fun v s1 ⟨y,H1,I1,r1,q1⟩=> ?_) hs
 exact store_ok I1 hN hi hx r1 (fun s2 I2=>⟨_,H1,I2,q1⟩) hf
end
section
variable{X:Cx}{pos:Pos}
end
structure It where
 go:Nat->Hp->Prop
 yld:Nat->Hp->V->Hp->Prop
 stop:Nat->Hp->Prop
noncomputable def FpOk(X:Cx)(pins:List (Addr×Obj))(H:Hp)(b:Addr):Prop:=
 H b=none/\b≠X.env.locals/\b∉X.fs/\(b∈X.ex\/X.s₀.heap.objs.size<=b)/\(∀x c,X.env.cells.lookup x=some c->c≠b)/\∀p∈X.pn++pins,p.1≠b
theorem Inv.fpOk{X:Cx}{pins:List (Addr×Obj)}{σ:St}{H H':Hp}{s:Shared}{b:Addr}(I:Inv X pins σ H s)(hb:s.heap.objs.size<=b)(hn:H' b=none):FpOk X pins H' b:=by
 refine⟨hn,Nat.ne_of_gt (Nat.lt_of_lt_of_le I.lt hb),I.nofs hb,.inr (Nat.le_trans I.sz hb),fun x c e z=> ?_,fun p hp z=> ?_⟩
 ·obtain⟨v,q⟩:=I.cell x c e
  exact absurd (Nat.lt_of_lt_of_le q.lt (by rw[z];exact hb)) (Nat.lt_irrefl _)
 ·exact absurd (Nat.lt_of_lt_of_le (Heap.lt_size (I.pin p hp).1) (by rw[z];exact hb)) (Nat.lt_irrefl _)
structure Turn(P:Program)(w:World)(K:W.Frag)(tg:Expr)(J:It)(fp:List Addr)(it:Addr)(tn:Nat->Heap->Prop):Prop where
 mem:it∈fp
 obj:∀i h,tn i h->∀b∈fp,∃o,h.get? b=some o/\∀v,o.data≠.cell v
 keep:∀i h h',tn i h->(∀b∈fp,∀o,h.get? b=some o->h'.get? b=some o)->tn i h'
 item:∀(X:Cx),X.prog=P->X.w=w->X.K=K->X.calm=true->∀(i:Nat) (pins:List (Addr×Obj)) (s:Shared) (σ:St) (H:Hp) (E:Value->Shared->Prop),Inv X pins σ H s->(∀b∈fp,FpOk X pins H b)->tn i s.heap->J.go i H->
  wpAny (model P w) X.A (pyNext (.ref it)) (fun r s1=>∃u,r=some u/\
   wpAny (model P w) X.A (letOwnedTupleGo tg (.ref it) u) (fun _ s2=>∃x H',Inv X pins σ H' s2/\RelV x u/\J.yld i H x H'/\tn (i+1) s2.heap/\∀b∈fp,H' b=none) E s1) E s
 done:∀(X:Cx),X.prog=P->X.w=w->X.K=K->X.calm=true->∀(i:Nat) (pins:List (Addr×Obj)) (s:Shared) (σ:St) (H:Hp) (E:Value->Shared->Prop),Inv X pins σ H s->(∀b∈fp,FpOk X pins H b)->tn i s.heap->J.stop i H->
  wpAny (model P w) X.A (pyNext (.ref it)) (fun r s1=>r=none/\Inv X pins σ H s1) E s
 self:∀(A:Around) (i:Nat) (s:Shared) (Q:Value->Shared->Prop) (E:Value->Shared->Prop),tn i s.heap->Q (.ref it) s->wpAny (model P w) A (pyIter (.ref it)) Q E s
noncomputable abbrev TI:=St->Hp->(It->Hp->Prop)->Prop
noncomputable def PIE(X:Cx)(pins:List (Addr×Obj))(σ:St)(tg:Expr)(R:It->Hp->Prop)(itv:Value)(s2:Shared):Prop:=
 ∃(it:Addr) (fp:List Addr) (tn:Nat->Heap->Prop) (J:It) (H':Hp),itv= .ref it/\Inv X pins σ H' s2/\Turn X.prog X.w X.K tg J fp it tn/\tn 0 s2.heap/\(∀b∈fp,FpOk X pins H' b)/\R J H'
noncomputable def PI(X:Cx)(tg iter:Expr)(wi:TI):Prop:=
 ∀(pins:List (Addr×Obj)) (s:Shared) (σ:St) (H:Hp) (R:It->Hp->Prop),Inv X pins σ H s->wi σ H R->
  wpAny (model X.prog X.w) X.A (eval iter X.env) (fun v s1=>wpAny (model X.prog X.w) X.A (pyIter v) (PIE X pins σ tg R) X.xe s1) X.xe s
theorem go_of{M:Model}{A:Around}{E:Value->Shared->Prop}{s:Shared}{tg:Expr}{it:Addr}{u:Value}{o:Obj}{n:String}{vs:Array Value}{Q:Unit->Shared->Prop}(ho:s.heap.get? it=some o)(hc:o.cls= .type n)(hd:o.data= .fields vs)(hn:["enumerate","zip","dict_itemiterator","dict_reverseitemiterator","odict_iterator","itertools.zip_longest","itertools.pairwise"].contains n=false)(hQ:Q () s):wpAny M A (letOwnedTupleGo tg (.ref it) u) Q E s:=by
 unfold letOwnedTupleGo
 cases tg<;>first
  |exact wpAny_pure hQ
  |(cases u<;>first
    |exact wpAny_pure hQ
    |(refine wpAny_bind (wpAny_load ho ?_)
      rw[hc,hd]
      show wpAny M A (if(["enumerate","zip","dict_itemiterator","dict_reverseitemiterator","odict_iterator","itertools.zip_longest","itertools.pairwise"].contains n&&vs[0]? ==some (rawInt _))=true then _ else _) Q E s
      rw[if_neg (by intro h;rw[hn,Bool.false_and]at h;cases h)]
      exact wpAny_pure hQ))
noncomputable def Itl(K:W.Frag)(a:Addr):It:=
 ⟨fun i H=>∃xs x,SqL K H a xs/\xs[i]? =some x,fun i H x H'=>H'=H/\∀xs,SqL K H a xs->xs[i]? =some x,fun i H=>∃xs,SqL K H a xs/\xs.length<=i⟩
noncomputable def Itt(K:W.Frag)(a:Addr):It:=
 ⟨fun i H=>∃xs x,SqT K H a xs/\xs[i]? =some x,fun i H x H'=>H'=H/\∀xs,SqT K H a xs->xs[i]? =some x,fun i H=>∃xs,SqT K H a xs/\xs.length<=i⟩
noncomputable def Itr(lo:Int)(n:Nat):It:=⟨fun i _=>i<n,fun i H x H'=>H'=H/\x= .int (lo+i),fun i _=>n<=i⟩
theorem turn_list{P:Program}{w:World}{K:W.Frag}{tg:Expr}(a it:Addr):Turn P w K tg (Itl K a) [it] it (fun i h=>h.IsListIter it a i) where
 mem:=by simp
 obj:=fun i h st b hb=>by
  have e:b=it:=by simpa using hb
  subst e
  obtain⟨o,e,c,d⟩:=st
  exact⟨o,e,fun v z=>by rw[d]at z;cases z⟩
 keep:=fun i h h' st k=>st.at fun o e=>k it (by simp) o e
 item:=by
  intro X hP hw hK hc i pins s σ H E I hf st hg
  subst hP hw hK
  obtain⟨xs,x,hq,hx⟩:=hg
  obtain⟨its,rv,p,hz⟩:=I.list hq
  obtain⟨u,hu,ru⟩:=rv.get hx
  obtain⟨f0,f1,f2,f3,f4,f5⟩:=hf it (by simp)
  refine wpAny_pyNext_list_item st p.isList (x:=u) (by simpa using hu) fun h' st' sb=> ?_
  have I1:Inv X pins σ H {s with heap:=h'}:=I.turned (t':=s.toks) (fun b o hb e=>(sb.2 b hb).trans e) f0 f1 f3 f4 f5
  obtain⟨o,e,c,d⟩:=id st'
  exact⟨u,rfl,go_of (s:={s with heap:=h'}) e c d (by decide) ⟨x,H,I1,ru,⟨rfl,fun ys hy=>by rw[I.list_inj hy hq];exact hx⟩,st',fun b hb=>(hf b hb).1⟩⟩
 done:=by
  intro X hP hw hK hc i pins s σ H E I hf st hg
  subst hP hw hK
  obtain⟨xs,hq,hx⟩:=hg
  obtain⟨its,rv,p,hz⟩:=I.list hq
  obtain⟨f0,f1,f2,f3,f4,f5⟩:=hf it (by simp)
  have hl:=rv.length
  exact wpAny_pyNext_list_end (I.ok.hd hc) st p.isList (by simp;omega) fun h' eb=>⟨rfl,I.turned (t':=s.toks) (fun b o hb e=>eb b o hb e) f0 f1 f3 f4 f5⟩
 self:=fun _ _ _ _ _ st h=>wpAny_pyIter_listiter st h
theorem turn_tuple{P:Program}{w:World}{K:W.Frag}{tg:Expr}(a it:Addr):Turn P w K tg (Itt K a) [it] it (fun i h=>h.IsTupleIter it a i) where
 mem:=by simp
 obj:=fun i h st b hb=>by
  have e:b=it:=by simpa using hb
  subst e
  obtain⟨o,e,c,d⟩:=st
  exact⟨o,e,fun v z=>by rw[d]at z;cases z⟩
 keep:=fun i h h' st k=>st.at fun o e=>k it (by simp) o e
 item:=by
  intro X hP hw hK hc i pins s σ H E I hf st hg
  subst hP hw hK
  obtain⟨xs,x,hq,hx⟩:=hg
  obtain⟨its,rv,p,hz⟩:=I.tuple hq
  obtain⟨u,hu,ru⟩:=rv.get hx
  obtain⟨f0,f1,f2,f3,f4,f5⟩:=hf it (by simp)
  refine wpAny_pyNext_tuple_item st (show s.heap.IsTuple a its.toArray from p) (x:=u) (by simpa using hu) fun h' st' sb=> ?_
  have I1:Inv X pins σ H {s with heap:=h'}:=I.turned (t':=s.toks) (fun b o hb e=>(sb.2 b hb).trans e) f0 f1 f3 f4 f5
  obtain⟨o,e,c,d⟩:=id st'
  exact⟨u,rfl,go_of (s:={s with heap:=h'}) e c d (by decide) ⟨x,H,I1,ru,⟨rfl,fun ys hy=>by rw[I.tuple_inj hy hq];exact hx⟩,st',fun b hb=>(hf b hb).1⟩⟩
 done:=by
  intro X hP hw hK hc i pins s σ H E I hf st hg
  subst hP hw hK
  obtain⟨xs,hq,hx⟩:=hg
  obtain⟨its,rv,p,hz⟩:=I.tuple hq
  obtain⟨f0,f1,f2,f3,f4,f5⟩:=hf it (by simp)
  have hl:=rv.length
  exact wpAny_pyNext_tuple_end (I.ok.hd hc) st (show s.heap.IsTuple a its.toArray from p) (by simp;omega) fun h' eb=>⟨rfl,I.turned (t':=s.toks) (fun b o hb e=>eb b o hb e) f0 f1 f3 f4 f5⟩
 self:=fun _ _ _ _ _ st h=>wpAny_pyIter_tupleiter st h
theorem turn_range{P:Program}{w:World}{K:W.Frag}{tg:Expr}(it:Addr)(lo:Int)(n:Nat):Turn P w K tg (Itr lo n) [it] it (fun i h=>IsRangeIter h it (lo+(i:Nat)*1) ((n:Int)-(i:Nat)) 1) where
 mem:=by simp
 obj:=fun i h st b hb=>by
  have e:b=it:=by simpa using hb
  subst e
  exact⟨_,st,fun v z=>by
   have z':Data.fields _=Data.cell v:=z
   cases z'⟩
 keep:=fun i h h' st k=>k it (by simp) _ st
 item:=by
  intro X hP hw hK hc i pins s σ H E I hf st hg
  subst hP hw hK
  obtain⟨f0,f1,f2,f3,f4,f5⟩:=hf it (by simp)
  have W:=Walks.range (prog:=X.prog) (w:=X.w) (I.ok.hd hc) it lo 1 n
  refine W.item i s _ _ hg st fun v h' tk hv st' kk=> ?_
  obtain⟨t,rfl⟩:=hv
  have I1:Inv X pins σ H {s with heap:=h',toks:=tk}:=I.turned (fun b o hb e=>kk b o (by simpa using hb) e) f0 f1 f3 f4 f5
  refine⟨_,rfl,go_of (s:={s with heap:=h',toks:=tk}) (n:="range_iterator") st' rfl rfl (by decide) ⟨.int (lo+i),H,I1,⟨t,?_⟩,⟨rfl,rfl⟩,st',fun b hb=>(hf b hb).1⟩⟩
  rw[Int.mul_one]
 done:=by
  intro X hP hw hK hc i pins s σ H E I hf st hg
  subst hP hw hK
  obtain⟨f0,f1,f2,f3,f4,f5⟩:=hf it (by simp)
  exact wpAny_pyNext_range_end (I.ok.hd hc) st (by have:n<=i:=hg;omega) fun h' eb=>⟨rfl,I.turned (t':=s.toks) (fun b o hb e=>eb b o hb e) f0 f1 f3 f4 f5⟩
 self:=fun _ _ _ _ _ st h=>wpAny_pyIter_rangeiter st h
end L2
namespace L2
open PySem PySem.Spec PyProof.Rows
section
variable{X:Cx}{tg:Expr}
theorem range_it{pins:List (Addr×Obj)}{σ:St}{H:Hp}{s:Shared}{R:It->Hp->Prop}{E:Value->Shared->Prop}{lo hi:Int}{t u v:Tok}{tk:Nat}(I:Inv X pins σ H s)(h1: -(2^62)<=lo)(h2:lo<2^62)(h3: -(2^62)<=hi)(h4:hi<2^62)(q:R (Itr lo (hi-lo).toNat) H):wpAny (model X.prog X.w) X.A (pyIter (.ref s.heap.objs.size)) (PIE X pins σ tg R) E {s with heap:=s.heap.push {cls:= .type "range",data:= .fields #[.int lo t,.int hi u,.int 1 v]},toks:=tk}:=by
 refine wpAny_pyIter_range (IsRange.new ..) (small_one h1 h2 h3 h4) ?_
 have I1:Inv X pins σ H {s with heap:=s.heap.push {cls:= .type "range",data:= .fields #[.int lo t,.int hi u,.int 1 v]},toks:=tk}:=I.kept fun b o e=>Heap.get?_push_of_some _ e
 refine⟨(s.heap.push {cls:= .type "range",data:= .fields #[.int lo t,.int hi u,.int 1 v]}).objs.size,[(s.heap.push {cls:= .type "range",data:= .fields #[.int lo t,.int hi u,.int 1 v]}).objs.size],_,_,H,rfl,
  I1.kept (t':=tk) fun b o e=>Heap.get?_push_of_some _ e,turn_range _ lo (hi-lo).toNat,?_,fun b hb=> ?_,q⟩
 ·have e1:lo+((0:Nat):Int)*1=lo:=by simp
  have e2:(((hi-lo).toNat:Nat):Int)-((0:Nat):Int)=Builtin.Range.rangeSize lo hi 1:=by rw[rangeSize_one];split<;>omega
  show IsRangeIter _ _ (lo+((0:Nat):Int)*1) ((((hi-lo).toNat:Nat):Int)-((0:Nat):Int)) 1
  rw[e1,e2]
  exact Heap.get?_push_size _ rfl
 ·have e:b=(s.heap.push {cls:= .type "range",data:= .fields #[.int lo t,.int hi u,.int 1 v]}).objs.size:=by simpa using hb
  subst e
  exact I1.fpOk (Nat.le_refl _) (I1.hok.fresh (Nat.le_refl _))
noncomputable def iRng1(ta:TA):TI:=fun σ H R=>ta σ H fun vs H1=>∃j:Int,vs=[.int j]/\ -(2^62)<=j/\j<2^62/\R (Itr 0 j.toNat) H1
noncomputable def iRng2(ta:TA):TI:=fun σ H R=>ta σ H fun vs H1=>∃i j:Int,vs=[.int i,.int j]/\(-(2^62)<=i/\i<2^62/\ -(2^62)<=j/\j<2^62)/\R (Itr i (j-i).toNat) H1
theorem zbv{a:Expr}{ta:TA}{p pos:Pos}(hg:Gl X "range")(hm:X.mg "range"=none)(ha:PA X [a] ta)(hs:starEach [a] X.env=[(false,eval a X.env)]:=by rfl):PI X tg (.Call (.Name "range" p) [a] [] pos) (iRng1 ta):=by
 intro pins s σ H R I h
 refine Call_ (ld_blt I hg hm boot_range (PyProof.Rows.callWith_type1 (thn (ha pos pins s σ H _ I h) fun us s1 ⟨vs,H1,I1,r1,q1⟩=> ?_) hs rfl))
 obtain⟨j,e,q1,q2,q⟩:=q1
 subst e
 cases r1 with
 |cons r rr=>
  cases rr
  obtain⟨t,rfl⟩:=r
  exact call_range_1 (range_it I1 (by omega) (by omega) q1 q2 (by simpa using q))
theorem pi_range2{a b:Expr}{ta:TA}{p pos:Pos}(hg:Gl X "range")(hm:X.mg "range"=none)(ha:PA X [a,b] ta)(hs:starEach [a,b] X.env=[(false,eval a X.env),(false,eval b X.env)]:=by rfl)(hs2:starEach [b] X.env=[(false,eval b X.env)]:=by rfl):
  PI X tg (.Call (.Name "range" p) [a,b] [] pos) (iRng2 ta):=by
 intro pins s σ H R I h
 refine Call_ (ld_blt I hg hm boot_range (PyProof.Rows.callWith_type1 (thn (ha pos pins s σ H _ I h) fun us s1 ⟨vs,H1,I1,r1,q1⟩=> ?_) (by rw[hs,hs2]) (by rw[hs2];rfl)))
 obtain⟨i,j,e,⟨q1,q2,q3,q4⟩,q⟩:=q1
 subst e
 cases r1 with
 |cons r rr=>
  cases rr with
  |cons r' rr=>
   cases rr
   obtain⟨t,rfl⟩:=r
   obtain⟨t',rfl⟩:=r'
   exact call_range_2 (range_it I1 q1 q2 q3 q4 q)
noncomputable def tFor(wi:TI)(g:TG)(tb:TS):TS:=fun D σ H=>wi σ H fun J H1=>∃W:Nat->Nat->St->Hp->Prop,(∃m,W 0 m σ H1)/\∀i m σ H,W i m σ H->
 (J.stop i H/\D.nx σ H)\/(J.go i H/\∃N:St->Hp->Prop,(∀σ' H',N σ' H'->∃m',m'<m/\W (i+1) m' σ' H')/\∀x H',J.yld i H x H'->g x σ H' fun σ2 H2=>tb {D with nx:=N,ct:=N,bk:=D.nx} σ2 H2)
noncomputable def pinsAt(fp:List Addr)(h:Heap):List (Addr×Obj):=fp.filterMap fun b=>(h.get? b).map fun o=>(b,o)
theorem mem_pinsAt{fp:List Addr}{h:Heap}{b:Addr}{o:Obj}(hb:b∈fp)(e:h.get? b=some o):(b,o)∈pinsAt fp h:=List.mem_filterMap.mpr ⟨b,hb,by rw[e];rfl⟩
theorem of_pinsAt{fp:List Addr}{h:Heap}{p:Addr×Obj}(hp:p∈pinsAt fp h):p.1∈fp/\h.get? p.1=some p.2:=by
 obtain⟨b,hb,e⟩:=List.mem_filterMap.mp hp
 cases q:h.get? b with
 |none=>rw[q]at e;cases e
 |some o=>
  rw[q]at e
  have e':(b,o)=p:=Option.some.inj e
  subst e'
  exact⟨hb,q⟩
theorem Inv.pinned{pins:List (Addr×Obj)}{σ:St}{H:Hp}{s:Shared}{fp:List Addr}(I:Inv X pins σ H s)(hf:∀b∈fp,FpOk X pins H b)(ho:∀b∈fp,∃o,s.heap.get? b=some o/\∀v,o.data≠.cell v):Inv X (pins++pinsAt fp s.heap) σ H s:=
 I.pins_of fun p hp=>(List.mem_append.mp hp).elim (fun z=>I.pin p (List.mem_append_right _ z)) fun z=>by
  obtain⟨hb,e⟩:=of_pinsAt z
  obtain⟨f0,f1,f2,_⟩:=hf p.1 hb
  obtain⟨o,e',d⟩:=ho p.1 hb
  rw[e]at e';cases e'
  exact⟨e,f0,f1,f2,d⟩
theorem Inv.unpinned{pins pl:List (Addr×Obj)}{σ:St}{H:Hp}{s:Shared}(I:Inv X (pins++pl) σ H s):Inv X pins σ H s:=I.pins_of fun p hp=>I.pin p (List.mem_append_right _ (List.mem_append_left _ hp))
theorem zdj{iter:Expr}{body:List Stmt}{wi:TI}{g:TG}{tb:TS}{pos:Pos}(hp:PassesOwn (model X.prog X.w) X.A X.env X.xe)(hc:X.calm=true)(hi:PI X tg iter wi)(hg:PG X tg g)(hb:PSs X body tb)(hs:∀x,foldedSetIterable iter X.env x=pure x:=by intro _;rfl):PS X (.For tg iter body [] pos) (tFor wi g tb):=by
 intro pins s σ H D I h
 refine wpAny_For (thn (hi pins s σ H _ I h) fun v s1 h1=>thn h1 fun itv s2 h2=> ?_) hs
 obtain⟨it,fp,tn,J,H2,e,I2,T,st2,f2,W,⟨m0,w0⟩,turn⟩:=h2
 subst e
 -- what stays true of the iterator's objects through the loop
 have stat:∀{H':Hp},(∀b∈fp,H' b=none)->∀b∈fp,FpOk X pins H' b:=fun hn b hb=>⟨hn b hb,(f2 b hb).2⟩
 refine codeAny_forLoop_any (fun n s'=>∃i σ' H',Inv X pins σ' H' s'/\tn i s'.heap/\(∀b∈fp,H' b=none)/\W i n σ' H') ?_ m0 ⟨0,σ,H2,I2,st2,fun b hb=>(f2 b hb).1,w0⟩
 rintro n s3 ⟨i,σ3,H3,I3,st3,fr3,w3⟩
 rcases turn i n σ3 H3 w3 with⟨stop,qn⟩|⟨go,N,hN,step⟩
 ·refine wpAny_passesOwn hp (thn (T.done X rfl rfl rfl hc i pins s3 σ3 H3 X.xe I3 (stat fr3) st3 stop) fun r s4 ⟨hr,I4⟩=> ?_)
  subst hr
  exact wpAny_execs_nil ⟨σ3,H3,I4,qn⟩
 ·refine wpAny_passesOwn hp (thn (T.item X rfl rfl rfl hc i pins s3 σ3 H3 X.xe I3 (stat fr3) st3 go) fun r s4 ⟨u,hr,h4⟩=> ?_)
  subst hr
  refine wpAny_passesOwn hp (thn h4 fun _ s5 ⟨x,H5,I5,r5,y5,st5,fr5⟩=> ?_)
  have I5':=I5.pinned (stat fr5) (T.obj _ _ st5)
  refine wpAny_passesOwn hp (thn (hg _ s5 σ3 H5 x u _ I5' r5 (step x H5 y5)) fun _ s6 ⟨σ6,H6,I6,q6⟩=> ?_)
  refine wpAny_passesOwn hp (thn (hb _ s6 σ6 H6 _ I6 q6) fun f s7 q7=> ?_)
  have again:∀{σ7:St} {H7:Hp},Inv X (pins++pinsAt fp s5.heap) σ7 H7 s7->N σ7 H7->∃m,m<n/\∃i σ' H',Inv X pins σ' H' s7/\tn i s7.heap/\(∀b∈fp,H' b=none)/\W i m σ' H':=fun{σ7 H7} I7 n7=>by
   obtain⟨m',hm,w7⟩:=hN σ7 H7 n7
   refine⟨m',hm,i+1,σ7,H7,I7.unpinned,T.keep _ _ _ st5 fun b hb o e=>(I7.pin (b,o) (List.mem_append_right _ (List.mem_append_right _ (mem_pinsAt hb e)))).1,fun b hb=> ?_,w7⟩
   obtain⟨o,e,d⟩:=T.obj _ _ st5 b hb
   exact(I7.pin (b,o) (List.mem_append_right _ (List.mem_append_right _ (mem_pinsAt hb e)))).2.1
  cases f with
  |next=>obtain⟨σ7,H7,I7,n7⟩:=q7;exact again I7 n7
  |cont=>obtain⟨σ7,H7,I7,n7⟩:=q7;exact again I7 n7
  |brk=>obtain⟨σ7,H7,I7,q7⟩:=q7;exact⟨σ7,H7,I7.unpinned,q7⟩
  |ret v=>obtain⟨x7,σ7,H7,I7,r7,q7⟩:=q7;exact⟨x7,σ7,H7,I7.unpinned,r7,q7⟩
end
theorem for_list{K:W.Frag}{a:Addr}{xs:List V}{g:TG}{tb:TS}{D:Ends}{σ:St}{H:Hp}(Pv:Nat->St->Hp->Prop)(h0:Pv 0 σ H)(hl:∀i σ H,i<=xs.length->Pv i σ H->SqL K H a xs)(hs:∀i x σ H,xs[i]? =some x->Pv i σ H->g x σ H fun σ2 H2=>tb {D with nx:=Pv (i+1),ct:=Pv (i+1),bk:=D.nx} σ2 H2)(hd:∀σ H,Pv xs.length σ H->D.nx σ H):
  ∃W:Nat->Nat->St->Hp->Prop,(∃m,W 0 m σ H)/\∀i m σ H,W i m σ H->
   ((Itl K a).stop i H/\D.nx σ H)\/((Itl K a).go i H/\∃N:St->Hp->Prop,(∀σ' H',N σ' H'->∃m',m'<m/\W (i+1) m' σ' H')/\∀x H',(Itl K a).yld i H x H'->g x σ H' fun σ2 H2=>tb {D with nx:=N,ct:=N,bk:=D.nx} σ2 H2):=by
 refine⟨fun i m σ H=>m=xs.length-i/\i<=xs.length/\Pv i σ H,⟨xs.length,by simp,Nat.zero_le _,h0⟩,?_⟩
 rintro i m σ H ⟨rfl,hi,p⟩
 have q:=hl i σ H hi p
 by_cases hlt:i<xs.length
 ·refine .inr ⟨⟨xs,xs[i],q,by simp[hlt]⟩,Pv (i+1),fun σ' H' p'=>⟨xs.length-(i+1),by omega,rfl,hlt,p'⟩,fun x H' y=> ?_⟩
  obtain⟨e,y⟩:=y
  subst e
  exact hs i x σ _ (y xs q) p
 ·have e:i=xs.length:=by omega
  subst e
  exact .inl ⟨⟨xs,q,Nat.le_refl _⟩,hd σ H p⟩
theorem zcz{lo:Int}{n:Nat}{g:TG}{tb:TS}{D:Ends}{σ:St}{H:Hp}(Pv:Nat->St->Hp->Prop)(h0:Pv 0 σ H)(hs:∀i σ H,i<n->Pv i σ H->g (.int (lo+i)) σ H fun σ2 H2=>tb {D with nx:=Pv (i+1),ct:=Pv (i+1),bk:=D.nx} σ2 H2)(hd:∀σ H,Pv n σ H->D.nx σ H):
  ∃W:Nat->Nat->St->Hp->Prop,(∃m,W 0 m σ H)/\∀i m σ H,W i m σ H->
   ((Itr lo n).stop i H/\D.nx σ H)\/((Itr lo n).go i H/\∃N:St->Hp->Prop,(∀σ' H',N σ' H'->∃m',m'<m/\W (i+1) m' σ' H')/\∀x H',(Itr lo n).yld i H x H'->g x σ H' fun σ2 H2=>tb {D with nx:=N,ct:=N,bk:=D.nx} σ2 H2):=by
 refine⟨fun i m σ H=>m=n-i/\i<=n/\Pv i σ H,⟨n,by simp,Nat.zero_le _,h0⟩,?_⟩
 rintro i m σ H ⟨rfl,hi,p⟩
 by_cases hlt:i<n
 ·refine .inr ⟨hlt,Pv (i+1),fun σ' H' p'=>⟨n-(i+1),by omega,rfl,hlt,p'⟩,fun x H' y=> ?_⟩
  obtain⟨e,y⟩:=y
  subst e y
  exact hs i σ _ hlt p
 ·have e:i=n:=by omega
  subst e
  exact .inl ⟨Nat.le_refl _,hd σ H p⟩
end L2
namespace L2
open PySem PySem.Spec PyProof.Rows
noncomputable abbrev R2:=V->V->Hp->VK->Prop
noncomputable def OpR(X:Cx)(f:Value->Value->Sem Value)(r:R2):Prop:=
 ∀(pins:List (Addr×Obj)) (s:Shared) (σ:St) (H:Hp) (x y:V) (v u:Value) (Q:VK),Inv X pins σ H s->RelV x v->RelV y u->r x y H Q->
  wpAny (model X.prog X.w) X.A (f v u) (EP X pins σ Q) X.xe s
noncomputable def UnR(X:Cx)(f:Value->Sem Value)(r:V->Hp->VK->Prop):Prop:=
 ∀(pins:List (Addr×Obj)) (s:Shared) (σ:St) (H:Hp) (x:V) (v:Value) (Q:VK),Inv X pins σ H s->RelV x v->r x H Q->
  wpAny (model X.prog X.w) X.A (f v) (EP X pins σ Q) X.xe s
noncomputable def CallR(X:Cx)(f:Value)(r:List V->Hp->VK->Prop):Prop:=
 ∀(pins:List (Addr×Obj)) (s:Shared) (σ:St) (H:Hp) (xs:List V) (us:List Value) (Q:VK),Inv X pins σ H s->Vals xs us->r xs H Q->
  wpAny (model X.prog X.w) X.A (call f us) (EP X pins σ Q) X.xe s
noncomputable def TruR(X:Cx)(r:V->Hp->(Bool->Hp->Prop)->Prop):Prop:=
 ∀(pins:List (Addr×Obj)) (s:Shared) (σ:St) (H:Hp) (x:V) (v:Value) (Q:Bool->Hp->Prop),Inv X pins σ H s->RelV x v->r x H Q->
  wpAny (model X.prog X.w) X.A (truthy v) (TP X pins σ Q) X.xe s
noncomputable def tOp(r:R2)(ta tb:TE):TE:=fun σ H Q=>ta σ H fun x H1=>tb σ H1 fun y H2=>r x y H2 Q
noncomputable def tUn(r:V->Hp->VK->Prop)(ta:TE):TE:=fun σ H Q=>ta σ H fun x H1=>r x H1 Q
noncomputable def rI(C:Int->Int->Prop)(g:Int->Int->V):R2:=fun x y H Q=>∃i j,x= .int i/\y= .int j/\C i j/\Q (g i j) H
noncomputable def rI0(g:Int->Int->V):R2:=fun x y H Q=>∃i j,x= .int i/\y= .int j/\Q (g i j) H
noncomputable def rU(g:Int->V):V->Hp->VK->Prop:=fun x H Q=>∃i,x= .int i/\Q (g i) H
section
variable{X:Cx}{a b c:Expr}{ta tb tc:TE}{pos:Pos}
theorem binT(ha:PE X a ta)(hb:PE X b tb){pins:List (Addr×Obj)}{s:Shared}{σ:St}{H:Hp}{R:V->V->Hp->Prop}(I:Inv X pins σ H s)(h:ta σ H fun x H1=>tb σ H1 fun y H2=>R x y H2){Q:Value->Shared->Prop}{f:Value->Value->Sem Value}(hf:∀v u s2 x y H2,Inv X pins σ H2 s2->RelV x v->RelV y u->R x y H2->wpAny (model X.prog X.w) X.A (f v u) Q X.xe s2):
  wpAny (model X.prog X.w) X.A (eval a X.env) (fun v s₁=>wpAny (model X.prog X.w) X.A (eval b X.env) (fun u s₂=>wpAny (model X.prog X.w) X.A (f v u) Q X.xe s₂) X.xe s₁) X.xe s:=by
 refine thn (ha pins s σ H _ I h) fun v s1 ⟨x,H1,I1,r1,q1⟩=> ?_
 refine thn (hb pins s1 σ H1 _ I1 q1) fun u s2 ⟨y,H2,I2,r2,q2⟩=> ?_
 exact hf v u s2 x y H2 I2 r1 r2 q2
theorem zap{op:Operator}{r:R2}(ho:OpR X (binaryOp op) r)(ha:PE X a ta)(hb:PE X b tb):PE X (.BinOp a op b pos) (tOp r ta tb):=by
 intro pins s σ H Q I h
 exact wpAny_BinOp (binT ha hb I h fun v u s2 x y H2 I2 rx ry q=>ho pins s2 σ H2 x y v u Q I2 rx ry q)
theorem pe_un{op:UnaryOp}{r:V->Hp->VK->Prop}(ho:UnR X (unaryOp op) r)(ha:PE X a ta):PE X (.UnaryOp op a pos) (tUn r ta):=by
 intro pins s σ H Q I h
 exact UnaryOp_ (thn (ha pins s σ H _ I h) fun v s1 ⟨x,H1,I1,r1,q1⟩=>ho pins s1 σ H1 x v Q I1 r1 q1)
theorem opI{f:Value->Value->Sem Value}{C:Int->Int->Prop}{g:Int->Int->Int}(rule:∀(i j:Int) (t u:Tok) (s:Shared) (Q:Value->Shared->Prop) (E:Value->Shared->Prop),C i j->Q (.int (g i j) s.toks) {s with toks:=s.toks+1}->wpAny (model X.prog X.w) X.A (f (.int i t) (.int j u)) Q E s):
  OpR X f (rI C fun i j=> .int (g i j)):=by
 intro pins s σ H x y v u Q I rx ry h
 obtain⟨i,j,rfl,rfl,hc,q⟩:=h
 obtain⟨t,rfl⟩:=rx
 obtain⟨t',rfl⟩:=ry
 exact rule i j t t' s _ _ hc ⟨.int (g i j),H,I.tok _,⟨_,rfl⟩,q⟩
theorem opI0{f:Value->Value->Sem Value}{g:Int->Int->Int}(rule:∀(i j:Int) (t u:Tok) (s:Shared) (Q:Value->Shared->Prop) (E:Value->Shared->Prop),Q (.int (g i j) s.toks) {s with toks:=s.toks+1}->wpAny (model X.prog X.w) X.A (f (.int i t) (.int j u)) Q E s):
  OpR X f (rI0 fun i j=> .int (g i j)):=by
 intro pins s σ H x y v u Q I rx ry h
 obtain⟨i,j,rfl,rfl,q⟩:=h
 obtain⟨t,rfl⟩:=rx
 obtain⟨t',rfl⟩:=ry
 exact rule i j t t' s _ _ ⟨.int (g i j),H,I.tok _,⟨_,rfl⟩,q⟩
theorem opB0{f:Value->Value->Sem Value}{g:Int->Int->Bool}(rule:∀(i j:Int) (t u:Tok) (s:Shared) (Q:Value->Shared->Prop) (E:Value->Shared->Prop),Q (.bool (g i j)) s->wpAny (model X.prog X.w) X.A (f (.int i t) (.int j u)) Q E s):
  OpR X f (rI0 fun i j=> .bl (g i j)):=by
 intro pins s σ H x y v u Q I rx ry h
 obtain⟨i,j,rfl,rfl,q⟩:=h
 obtain⟨t,rfl⟩:=rx
 obtain⟨t',rfl⟩:=ry
 exact rule i j t t' s _ _ ⟨.bl (g i j),H,I,rfl,q⟩
noncomputable def CPow(i j:Int):Prop:=0<=j/\j<=1000000/\i.natAbs<2^64
noncomputable def CMul(i j:Int):Prop:=(-(2^64)<i/\i<2^64)\/(-(2^64)<j/\j<2^64)
theorem CMul.ok{i j:Int}(h:CMul i j):IntMulOk i j:=by
 rcases h with⟨h1,h2⟩|⟨h1,h2⟩
 ·exact .of_left (intBits_le_64 h1 h2)
 ·exact .of_right (intBits_le_64 h1 h2)
theorem zbx:OpR X (binaryOp .Add) (rI0 fun i j=> .int (i+j)):=opI0 fun _ _ _ _ _ _ _ q=>add_int q
theorem op_sub:OpR X (binaryOp .Sub) (rI0 fun i j=> .int (i-j)):=opI0 fun _ _ _ _ _ _ _ q=>sub_int q
theorem op_mul:OpR X (binaryOp .Mult) (rI CMul fun i j=> .int (i*j)):=opI fun _ _ _ _ _ _ _ hc q=>mul_int q hc.ok
theorem op_mod:OpR X (binaryOp .Mod) (rI (fun _ j=>0<j) fun i j=> .int (i %j)):=opI fun i j _ _ _ _ _ hc q=>by
 have h1:(0:Int)<j:=hc
 exact mod_int' (by omega) (by rw[Int.fmod_eq_emod_of_nonneg i (by omega)];exact q)
theorem op_pow:OpR X (binaryOp .Pow) (rI CPow fun i j=> .int (i^j.toNat)):=opI fun _ _ _ _ _ _ _ hc q=>pow_int_small hc.1 hc.2.1 hc.2.2 q
theorem unI{f:Value->Sem Value}{g:Int->Int}(rule:∀(i:Int) (t:Tok) (s:Shared) (Q:Value->Shared->Prop) (E:Value->Shared->Prop),Q (.int (g i) s.toks) {s with toks:=s.toks+1}->wpAny (model X.prog X.w) X.A (f (.int i t)) Q E s):
  UnR X f (rU fun i=> .int (g i)):=by
 intro pins s σ H x v Q I rx h
 obtain⟨i,rfl,q⟩:=h
 obtain⟨t,rfl⟩:=rx
 exact rule i t s _ _ ⟨.int (g i),H,I.tok _,⟨_,rfl⟩,q⟩
theorem un_neg:UnR X (unaryOp .USub) (rU fun i=> .int (-i)):=unI fun _ _ _ _ _ q=>neg_int q
end
noncomputable def scal:V->V->Bool
 | .non,.non=>true| .non,.int _=>true| .int _,.non=>true| .non,.bl _=>true| .bl _,.non=>true| .non,.str _=>true| .str _,.non=>true
 | .int _,.int _=>true| .bl _,.bl _=>true| .str _,.str _=>true| .byt _,.byt _=>true
 | .int _,.str _=>true| .str _,.int _=>true| .bl _,.str _=>true| .str _,.bl _=>true
 |_,_=>false
noncomputable def rEq:R2:=fun x y H Q=>scal x y=true/\Q (.bl (decide (x=y))) H
noncomputable def rNe:R2:=fun x y H Q=>scal x y=true/\Q (.bl (!decide (x=y))) H
theorem dec_int{i j:Int}:decide (V.int i=V.int j)=(i==j):=by
 rw[Bool.eq_iff_iff]
 simp
theorem dec_bl{i j:Bool}:decide (V.bl i=V.bl j)=(i==j):=by
 rw[Bool.eq_iff_iff]
 simp
theorem dec_str{i j:Str}:decide (V.str i=V.str j)=(i==j):=by
 rw[Bool.eq_iff_iff]
 simp
theorem dec_byt{i j:Array UInt8}:decide (V.byt i=V.byt j)=(i.toList==j.toList):=by
 rw[Bool.eq_iff_iff]
 cases i
 cases j
 simp
section
variable{X:Cx}{a b c:Expr}{ta tb tc:TE}{pos:Pos}
theorem zbn{pins:List (Addr×Obj)}{σ:St}{H:Hp}{s:Shared}{Q:VK}{k k':Bool}(I:Inv X pins σ H s)(q:Q (.bl k) H)(e:k=k'):EP X pins σ Q (.bool k') s:=by
 subst e
 exact⟨.bl k,H,I,rfl,q⟩
theorem zau:OpR X (compareOp .Eq) rEq:=by
 intro pins s σ H x y v u Q I rx ry h
 obtain⟨hs,q⟩:=h
 cases x with
 |non=>
  cases rx
  cases y with
  |non=>cases ry;exact PySem.EqNone.eq_none_none (zbn I q (by simp))
  |bl j=>cases ry;exact PySem.EqNone.eq_none_bool (zbn I q (by simp))
  |int j=>obtain⟨t',rfl⟩:=ry;exact PySem.EqNone.eq_none_int (zbn I q (by simp))
  |str j=>obtain⟨t',rfl⟩:=ry;exact PySem.EqNone.eq_none_str (zbn I q (by simp))
  |_=>exact absurd (show false=true from hs) Bool.false_ne_true
 |bl i=>
  cases rx
  cases y with
  |non=>cases ry;exact PySem.EqNone.eq_bool_none (zbn I q (by simp))
  |bl j=>cases ry;exact eq_bool (zbn I q dec_bl)
  |str j=>obtain⟨t',rfl⟩:=ry;exact PySem.EqMixed.eq_bool_str (zbn I q (by simp))
  |_=>exact absurd (show false=true from hs) Bool.false_ne_true
 |int i=>
  obtain⟨t,rfl⟩:=rx
  cases y with
  |non=>cases ry;exact PySem.EqNone.eq_int_none (zbn I q (by simp))
  |int j=>obtain⟨t',rfl⟩:=ry;exact eq_int (zbn I q dec_int)
  |str j=>obtain⟨t',rfl⟩:=ry;exact PySem.EqMixed.eq_int_str (zbn I q (by simp))
  |_=>exact absurd (show false=true from hs) Bool.false_ne_true
 |str i=>
  obtain⟨t,rfl⟩:=rx
  cases y with
  |non=>cases ry;exact PySem.EqNone.eq_str_none (zbn I q (by simp))
  |bl j=>cases ry;exact PySem.EqMixed.eq_str_bool (zbn I q (by simp))
  |int j=>obtain⟨t',rfl⟩:=ry;exact PySem.EqMixed.eq_str_int (zbn I q (by simp))
  |str j=>obtain⟨t',rfl⟩:=ry;exact eq_str (zbn I q dec_str)
  |_=>exact absurd (show false=true from hs) Bool.false_ne_true
 |byt i=>
  obtain⟨t,rfl⟩:=rx
  cases y with
  |byt j=>obtain⟨t',rfl⟩:=ry;exact PySem.W.eq_bytes (zbn I q dec_byt)
  |_=>exact absurd (show false=true from hs) Bool.false_ne_true
 |_=>cases y<;>exact absurd (show false=true from hs) Bool.false_ne_true
theorem op_ne:OpR X (compareOp .NotEq) rNe:=by
 intro pins s σ H x y v u Q I rx ry h
 obtain⟨hs,q⟩:=h
 cases x with
 |non=>
  cases rx
  cases y with
  |non=>cases ry;exact PySem.EqNone.ne_none_none (zbn I q (by simp))
  |bl j=>cases ry;exact PySem.EqNone.ne_none_bool (zbn I q (by simp))
  |int j=>obtain⟨t',rfl⟩:=ry;exact PySem.EqNone.ne_none_int (zbn I q (by simp))
  |str j=>obtain⟨t',rfl⟩:=ry;exact PySem.EqNone.ne_none_str (zbn I q (by simp))
  |_=>exact absurd (show false=true from hs) Bool.false_ne_true
 |bl i=>
  cases rx
  cases y with
  |non=>cases ry;exact PySem.EqNone.ne_bool_none (zbn I q (by simp))
  |bl j=>cases ry;exact ne_bool (zbn I q (congrArg not dec_bl))
  |str j=>obtain⟨t',rfl⟩:=ry;exact PySem.EqMixed.ne_bool_str (zbn I q (by simp))
  |_=>exact absurd (show false=true from hs) Bool.false_ne_true
 |int i=>
  obtain⟨t,rfl⟩:=rx
  cases y with
  |non=>cases ry;exact PySem.EqNone.ne_int_none (zbn I q (by simp))
  |int j=>obtain⟨t',rfl⟩:=ry;exact ne_int (zbn I q (congrArg not dec_int))
  |str j=>obtain⟨t',rfl⟩:=ry;exact PySem.EqMixed.ne_int_str (zbn I q (by simp))
  |_=>exact absurd (show false=true from hs) Bool.false_ne_true
 |str i=>
  obtain⟨t,rfl⟩:=rx
  cases y with
  |non=>cases ry;exact PySem.EqNone.ne_str_none (zbn I q (by simp))
  |bl j=>cases ry;exact PySem.EqMixed.ne_str_bool (zbn I q (by simp))
  |int j=>obtain⟨t',rfl⟩:=ry;exact PySem.EqMixed.ne_str_int (zbn I q (by simp))
  |str j=>obtain⟨t',rfl⟩:=ry;exact ne_str (zbn I q (congrArg not dec_str))
  |_=>exact absurd (show false=true from hs) Bool.false_ne_true
 |byt i=>
  obtain⟨t,rfl⟩:=rx
  cases y with
  |byt j=>obtain⟨t',rfl⟩:=ry;exact PySem.W.ne_bytes (zbn I q (congrArg not dec_byt))
  |_=>exact absurd (show false=true from hs) Bool.false_ne_true
 |_=>cases y<;>exact absurd (show false=true from hs) Bool.false_ne_true
theorem op_lt:OpR X (compareOp .Lt) (rI0 fun i j=> .bl (decide (i<j))):=opB0 fun _ _ _ _ _ _ _ q=>lt_int q
theorem op_le:OpR X (compareOp .LtE) (rI0 fun i j=> .bl (decide (i<=j))):=opB0 fun _ _ _ _ _ _ _ q=>le_int q
theorem op_gt:OpR X (compareOp .Gt) (rI0 fun i j=> .bl (decide (j<i))):=opB0 fun _ _ _ _ _ _ _ q=>gt_int q
theorem op_ge:OpR X (compareOp .GtE) (rI0 fun i j=> .bl (decide (j<=i))):=opB0 fun _ _ _ _ _ _ _ q=>ge_int q
theorem op_isN:OpR X (compareOp .Is) (fun x y H Q=>y= .non/\Q (.bl (decide (x= .non))) H):=by
 intro pins s σ H x y v u Q I rx ry h
 obtain⟨rfl,q⟩:=h
 cases ry
 refine is_none_gen (zbn I q ?_)
 cases x<;>first
  |(cases rx;rfl)
  |(obtain⟨t,rfl⟩:=rx;rfl)
theorem OpR.or{f:Value->Value->Sem Value}{r r':R2}(h:OpR X f r)(h':OpR X f r'):OpR X f (fun x y H Q=>r x y H Q\/r' x y H Q):=by
 intro pins s σ H x y v u Q I rx ry q
 rcases q with q|q
 ·exact h pins s σ H x y v u Q I rx ry q
 ·exact h' pins s σ H x y v u Q I rx ry q
theorem nomark(b:Expr){op:CmpOp}(h:op≠.In:=by decide)(h2:op≠.NotIn:=by decide):behindInMarks op b=false:=by
 have e1:(op==CmpOp.In)=false:=by cases op<;>first |rfl|exact absurd rfl h
 have e2:(op==CmpOp.NotIn)=false:=by cases op<;>first |rfl|exact absurd rfl h2
 cases b<;>simp[behindInMarks,e1,e2]
theorem pe_cmpR{op:CmpOp}{r:R2}(ho:OpR X (compareOp op) r)(ha:PE X a ta)(hb:PE X b tb)(hm:behindInMarks op b=false):PE X (.Compare a [op] [b] pos) (tOp r ta tb):=by
 intro pins s σ H Q I h
 exact wpAny_Compare1 (binT ha hb I h fun v u s2 x y H2 I2 rx ry q=>ho pins s2 σ H2 x y v u Q I2 rx ry q) hm
noncomputable def tTest(t:TE):TT:=fun σ H Q=>t σ H fun x H'=>∃k,x= .bl k/\Q k H'
theorem zaj{op:CmpOp}{r:R2}(ho:OpR X (compareOp op) r)(ha:PE X a ta)(hb:PE X b tb)(hm:behindInMarks op b=false):PT X (.Compare a [op] [b] pos) (tTest (tOp r ta tb)):=by
 intro pins s σ H Q I h
 refine wpAny_isTrue_Compare1 (thn (ha pins s σ H _ I h) fun v s1 ⟨x,H1,I1,r1,q1⟩=>thn (hb pins s1 σ H1 _ I1 q1) fun u s2 ⟨y,H2,I2,r2,q2⟩=>
  thn (ho pins s2 σ H2 x y v u _ I2 r1 r2 q2) fun c s3 ⟨z,H3,I3,r3,k,e,q3⟩=> ?_) hm
 subst e
 cases r3
 exact wpAny_truthy_bool ⟨H3,I3,q3⟩
noncomputable def tChain(r r':R2)(ta tb tc:TE):TE:=fun σ H Q=>ta σ H fun x H1=>tb σ H1 fun y H2=>r x y H2 fun z H3=>∃k,z= .bl k/\
 (if k=true then tc σ H3 fun w' H4=>r' y w' H4 Q else Q (.bl false) H3)
theorem pe_chain{op op':CmpOp}{r r':R2}(ho:OpR X (compareOp op) r)(ho':OpR X (compareOp op') r')(ha:PE X a ta)(hb:PE X b tb)(hc:PE X c tc)(hm:lastMarks [op,op'] [b,c]=false:=by with_unfolding_all rfl):PE X (.Compare a [op,op'] [b,c] pos) (tChain r r' ta tb tc):=by
 intro pins s σ H Q I h
 refine Compare_chain (thn (ha pins s σ H _ I h) fun v s1 ⟨x,H1,I1,r1,q1⟩=>chain_link (thn (hb pins s1 σ H1 _ I1 q1) fun u s2 ⟨y,H2,I2,r2,q2⟩=>
  thn (ho pins s2 σ H2 x y v u _ I2 r1 r2 q2) fun d s3 ⟨z,H3,I3,r3,k,e,q3⟩=> ?_)) hm
 subst e
 cases r3
 refine wpAny_truthy_bool ?_
 cases k with
 |false=>exact ite_ff ⟨.bl false,H3,I3,rfl,q3⟩
 |true=>exact ite_tt (chain_last (thn (hc pins s3 σ H3 _ I3 q3) fun w' s4 ⟨z',H4,I4,r4,q4⟩=>ho' pins s4 σ H4 y z' u w' Q I4 r2 r4 q4))
theorem pt_chain{op op':CmpOp}{r r':R2}(ho:OpR X (compareOp op) r)(ho':OpR X (compareOp op') r')(ha:PE X a ta)(hb:PE X b tb)(hc:PE X c tc)(hm:lastMarks [op,op'] [b,c]=false:=by with_unfolding_all rfl):PT X (.Compare a [op,op'] [b,c] pos) (tTest (tChain r r' ta tb tc)):=by
 intro pins s σ H Q I h
 refine isTrue_chain (thn (ha pins s σ H _ I h) fun v s1 ⟨x,H1,I1,r1,q1⟩=>test_link (thn (hb pins s1 σ H1 _ I1 q1) fun u s2 ⟨y,H2,I2,r2,q2⟩=>
  thn (ho pins s2 σ H2 x y v u _ I2 r1 r2 q2) fun d s3 ⟨z,H3,I3,r3,k,e,q3⟩=> ?_)) hm
 subst e
 cases r3
 refine wpAny_truthy_bool ?_
 cases k with
 |false=>
  obtain⟨k',e',q'⟩:=q3
  cases e'
  exact ite_ff ⟨H3,I3,q'⟩
 |true=>
  refine ite_tt (test_last (thn (hc pins s3 σ H3 _ I3 q3) fun w' s4 ⟨z',H4,I4,r4,q4⟩=>thn (ho' pins s4 σ H4 y z' u w' _ I4 r2 r4 q4) fun d' s5 ⟨z2,H5,I5,r5,k2,e2,q5⟩=> ?_))
  subst e2
  cases r5
  exact wpAny_truthy_bool ⟨H5,I5,q5⟩
noncomputable def TruV(K:W.Frag)(x:V)(H:Hp)(k:Bool):Prop:=
 match x with
 | .non=>k=false
 | .bl b=>k=b
 | .int i=>k=(i !=0)
 | .str y=>y.length<=sizeLine/\k=((y.length:Int) !=0)
 | .byt y=>y.size<=sizeLine/\k=((y.size:Int) !=0)
 | .ref p=>(∃xs,SqL K H p xs/\k= !xs.isEmpty)\/(∃xs,SqT K H p xs/\k= !xs.isEmpty)\/∃kvs,H p=some (.dK kvs)/\k= !kvs.isEmpty
 |_=>False
theorem isEmpty_kv{κ:Type}{kvs:List (κ×V)}{vs:List (κ×Value)}(r:KV kvs vs):(!vs.isEmpty)= !kvs.isEmpty:=by
 cases r<;>rfl
theorem isEmpty_of{xs:List V}{its:List Value}(r:Vals xs its):(!its.toArray.isEmpty)= !xs.isEmpty:=by
 cases r<;>simp
theorem line63:(sizeLine:Nat)<2^63:=by rw[sizeLine_eq];decide
theorem tru_ok:TruR X (fun x H Q=>∃k,TruV X.K x H k/\Q k H):=by
 intro pins s σ H x v Q I rx h
 obtain⟨k,e,q⟩:=h
 have hl:=line63
 have hs:sizeLine=16777216:=sizeLine_eq
 cases x with
 |non=>
  cases rx
  have e':k=false:=e
  subst e'
  exact truthy_none ⟨H,I,q⟩
 |bl b=>
  cases rx
  have e':k=b:=e
  subst e'
  exact wpAny_truthy_bool ⟨H,I,q⟩
 |int i=>
  obtain⟨t,rfl⟩:=rx
  have e':k=(i !=0):=e
  subst e'
  exact PySem.P.truthy_int ⟨H,I,q⟩
 |str y=>
  obtain⟨t,rfl⟩:=rx
  obtain⟨hy,e'⟩:y.length<=sizeLine/\k=((y.length:Int) !=0):=e
  subst e'
  exact PySem.P.truthy_str (by omega) ⟨H,I.tok _,q⟩
 |byt y=>
  obtain⟨t,rfl⟩:=rx
  obtain⟨hy,e'⟩:y.size<=sizeLine/\k=((y.size:Int) !=0):=e
  subst e'
  exact PySem.W.truthy_bytes (by omega) ⟨H,I.tok _,q⟩
 |ref p=>
  cases rx
  have e':(∃xs,SqL X.K H p xs/\k= !xs.isEmpty)\/(∃xs,SqT X.K H p xs/\k= !xs.isEmpty)\/∃kvs,H p=some (.dK kvs)/\k= !kvs.isEmpty:=e
  rcases e' with⟨xs,hx,e'⟩|⟨xs,hx,e'⟩|⟨kvs,hx,e'⟩
  ·subst e'
   obtain⟨its,r,pl,hz⟩:=I.list hx
   have hlen:=r.length
   exact wpAny_truthy_list pl.isList (by simp only[List.size_toArray];omega) ⟨H,I.tok _,by rw[isEmpty_of r];exact q⟩
  ·subst e'
   obtain⟨its,r,pl,hz⟩:=I.tuple hx
   have hlen:=r.length
   exact truthy_tuple pl (by simp only[List.size_toArray];omega) ⟨H,I.tok _,by rw[isEmpty_of r];exact q⟩
  ·subst e'
   obtain⟨hz,hS,vs,r,m⟩:kvs.length<=sizeLine/\(p==sysModules)=false/\∃vs,KV kvs vs/\s.heap.DictOf (mixKind X.prog X.w) p vs:=I.hok p _ hx
   have hlen:kvs.length=vs.length:=Paired.length r
   exact wpAny_truthy_dict hS m (by omega) ⟨H,I.tok _,by rw[isEmpty_kv r];exact q⟩
 |_=>exact(show False from e).elim
theorem pt_truth(ha:PE X a ta)(he:∀whole,isTrue a X.env whole=(do let v<-whole;standAt a.pos;holding [v] (truthy v))):
  PT X a (fun σ H Q=>ta σ H fun x H'=>∃k,TruV X.K x H' k/\Q k H'):=by
 intro pins s σ H Q I h
 exact isTrue_plain (thn (ha pins s σ H _ I h) fun v s1 ⟨x,H1,I1,r1,q1⟩=>tru_ok pins s1 σ H1 x v Q I1 r1 q1) (he _)
theorem vals1{x:V}{us:List Value}(r:Vals [x] us):∃u,us=[u]/\RelV x u:=by
 cases r with
 |cons r1 r2=>cases r2;exact⟨_,rfl,r1⟩
theorem vals2{x y:V}{us:List Value}(r:Vals [x,y] us):∃u w',us=[u,w']/\RelV x u/\RelV y w':=by
 cases r with
 |cons r1 r2=>
  cases r2 with
  |cons r3 r4=>cases r4;exact⟨_,_,rfl,r1,r3⟩
theorem call_max2(hc:X.calm=true):CallR X (.builtin "max") (fun xs H Q=>∃i j,xs=[.int i,.int j]/\Q (.int (if j>i then j else i)) H):=by
 intro pins s σ H xs us Q I r h
 obtain⟨i,j,rfl,q⟩:=h
 obtain⟨u,w',rfl,⟨t,rfl⟩,⟨t',rfl⟩⟩:=vals2 r
 refine max_two_ints (I.ok.hd hc) fun h' tk k=>⟨_,H,I.kept k,?_,q⟩
 by_cases hj:j>i
 ·rw[if_pos hj,if_pos hj];exact⟨_,rfl⟩
 ·rw[if_neg hj,if_neg hj];exact⟨_,rfl⟩
theorem call_min2(hc:X.calm=true):CallR X (.builtin "min") (fun xs H Q=>∃i j,xs=[.int i,.int j]/\Q (.int (if j<i then j else i)) H):=by
 intro pins s σ H xs us Q I r h
 obtain⟨i,j,rfl,q⟩:=h
 obtain⟨u,w',rfl,⟨t,rfl⟩,⟨t',rfl⟩⟩:=vals2 r
 refine min_two_ints (I.ok.hd hc) fun h' tk k=>⟨_,H,I.kept k,?_,q⟩
 by_cases hj:j<i
 ·rw[if_pos hj,if_pos hj];exact⟨_,rfl⟩
 ·rw[if_neg hj,if_neg hj];exact⟨_,rfl⟩
theorem call_int1:CallR X (.type "int") (fun xs H Q=>(∃i,xs=[.int i]/\Q (.int i) H)\/∃k,xs=[.bl k]/\Q (.int (if k then 1 else 0)) H):=by
 intro pins s σ H xs us Q I r h
 rcases h with⟨i,rfl,q⟩|⟨k,rfl,q⟩
 ·obtain⟨u,rfl,t,rfl⟩:=vals1 r
  exact call_int_int ⟨.int i,H,I,⟨_,rfl⟩,q⟩
 ·obtain⟨u,rfl,r1⟩:=vals1 r
  cases r1
  exact call_int_bool ⟨.int (if k then 1 else 0),H,I.tok _,⟨_,rfl⟩,q⟩
end
end L2
namespace L2
open PySem PySem.Spec PyProof.Rows
section
variable{prog:Program}{w:World}{A:Around}{E:Value->Shared->Prop}{s:Shared}{K:W.Frag}{x dx C f:Addr}{mA:Str->Option Value}{name:Str}{v:Value}
end
section
variable{P:Program}{w:World}{H H':Hp}{h h':Heap}{a C dx:Addr}{fs fs':List (Str×V)}
end
structure Cls(K:W.Frag)(C:Addr):Prop where
 pg:PySem.W.plainGet K C Str.empty=true
 hd:PySem.W.hasDictIn K C=true
 po:PySem.W.plainOver K C=true
 sa:PySem.W.findIn K (.ref C) "__setattr__"=some (some (.builtin "object.__setattr__"))
theorem Cls.get{K:W.Frag}{C:Addr}(c:Cls K C)(f:Str):PySem.W.plainGet K C f=true:=c.pg
section
variable{X:Cx}{pins:List (Addr×Obj)}{σ:St}{H:Hp}{s:Shared}{a C dx:Addr}{fs:List (Str×V)}{f:Str}{v:V}{A:Around}{E:Value->Shared->Prop}
end
section
variable{X:Cx}{o e value:Expr}{f:Str}{pos pos' tpos:Pos}{ta tv:TE}
end
section
variable{X:Cx}{pins:List (Addr×Obj)}{σ:St}{H:Hp}{s:Shared}{A:Around}{E:Value->Shared->Prop}{Q:Value->Shared->Prop}{c:Value}{b:Bool}
end
end L2
namespace L2
open PySem PySem.Spec PyProof.Rows
structure Room(k:Nat)(A:Around):Prop where
 hd:A.handled=none
 dp:A.depth+3*k+5<recursionLimit
 un:A.units+16*k+200<cLine
 gd:A.guards=some []
theorem Room.mono{j k:Nat}{A:Around}(r:Room k A)(h:j<=k):Room j A:=⟨r.hd,by have:=r.dp;omega,by have:=r.un;omega,r.gd⟩
theorem Room.deeper{k:Nat}{A:Around}(r:Room (k+1) A)(env:Env):Room k (A.deeper env):=
 ⟨r.hd,by have:=r.dp;show A.depth+1+3*k+5<_;omega,by have:=r.un;show A.units+3+16*k+200<_;omega,r.gd⟩
theorem Room.in1{k:Nat}{A:Around}(r:Room (k+1) A):Room k A.in1:=
 ⟨r.hd,by have:=r.dp;show A.depth+3*k+5<_;omega,by have:=r.un;show A.units+1+16*k+200<_;omega,r.gd⟩
theorem Room.depth{k:Nat}{A:Around}(r:Room k A):A.depth<recursionLimit:=by have:=r.dp;omega
theorem Room.units{k:Nat}{A:Around}(r:Room k A):A.units+64<cLine:=by have:=r.un;omega
theorem Room.units0{k:Nat}{A:Around}(r:Room k A):A.units<cLine:=by have:=r.un;omega
noncomputable def tNil:TA:=fun _ H Q=>Q [] H
noncomputable def tCons(ta:TE)(tr:TA):TA:=fun σ H Q=>ta σ H fun x H1=>tr σ H1 fun xs H2=>Q (x::xs) H2
section
variable{X:Cx}{e:Expr}{es:List Expr}{te:TE}{t:TA}{pos:Pos}
theorem zab:PA X [] tNil:=fun _ _ _ _ H Q I h=>Calls.spliced_nil ⟨[],H,I,.nil,h⟩
theorem zaa(ha:PE X e te)(hr:PA X es t)(hs:starEach (e::es) X.env=(false,eval e X.env)::starEach es X.env:=by rfl):PA X (e::es) (tCons te t):=by
 intro pos pins s σ H Q I h
 rw[hs]
 show wpAny _ _ (spliced ((false,eval e X.env)::backTo pos (starEach es X.env))) _ _ s
 refine Calls.spliced_cons (thn (ha pins s σ H _ I h) fun u s1 ⟨x,H1,I1,r1,q1⟩=> ?_)
 exact thn (hr pos pins s1 σ H1 _ I1 q1) fun us s2 ⟨xs,H2,I2,r2,q2⟩=>⟨x::xs,H2,I2,.cons r1 r2,q2⟩
noncomputable def tTup(t:TA):TE:=fun σ H Q=>t σ H fun xs H1=>xs.length<=sizeLine/\∀p,H1 p=none->Q (.ref p) (upd H1 p (.tup xs))
noncomputable def tLst(t:TA):TE:=fun σ H Q=>t σ H fun xs H1=>xs.length<=sizeLine/\∀p,H1 p=none->Q (.ref p) (upd H1 p (.lst xs))
theorem zax{x1}(h:PA X es t):PE X (.Tuple es x1 pos) (tTup t):=by
 intro pins s σ H Q I hq
 refine wpAny_Tuple_spliced (thn (h pos pins s σ H _ I hq) fun us s1 ⟨xs,H1,I1,r,z,q⟩=>⟨by rw[<-r.length];exact z,?_⟩)
 have hf:H1 s1.heap.objs.size=none:=I1.hok.fresh (Nat.le_refl _)
 refine⟨.ref s1.heap.objs.size,upd H1 s1.heap.objs.size (.tup xs),I1.laid (t':=s1.toks) (fun b u e=>Heap.get?_push_of_some _ e) (Nat.le_refl _) ?_,rfl,q _ hf⟩
 exact⟨z,us,r,⟨_,Heap.get?_push_size _ rfl,rfl,_,rfl⟩⟩
theorem zbm(h:PA X es t):PE X (.List es pos) (tLst t):=by
 intro pins s σ H Q I hq
 refine wpAny_List_spliced (thn (h pos pins s σ H _ I hq) fun us s1 ⟨xs,H1,I1,r,z,q⟩=>⟨by rw[<-r.length];exact z,?_⟩)
 have hf:H1 s1.heap.objs.size=none:=I1.hok.fresh (Nat.le_refl _)
 refine⟨.ref s1.heap.objs.size,upd H1 s1.heap.objs.size (.lst xs),I1.laid (t':=s1.toks) (fun b u e=>Heap.get?_push_of_some _ e) (Nat.le_refl _) ?_,rfl,q _ hf⟩
 exact⟨z,us,0,r,Heap.get?_push_size _ rfl⟩
end
noncomputable abbrev Sp:=List V->Hp->VK->XK->Prop
noncomputable abbrev CXT:=List Env->Hp->Shared->XK->Value->Shared->Prop
structure Env0(P:Program)(w:World)(K:W.Frag)(mg:Str->Option Value)(base:Heap)(A:Around)(outer:List Env)(s:Shared)(H:Hp):Prop where
 frames:A.frames=some outer
 mod:Mod K mg base
 bs:∀b o,base.get? b=some o->s.heap.get? b=some o/\H b=none
 bsz:base.objs.size<=s.heap.objs.size
 funs:s.heap.FunFrames base outer
 frf:∀b∈frs outer,H b=none
 hok:HOk P w H s.heap
 bare:AllBare s.gens
noncomputable def CE(outer:List Env)(P:Program)(w:World)(H:Hp)(s:Shared)(Q:VK)(u:Value)(s':Shared):Prop:=
 ∃v H',s'.os=s.os/\AllBare s'.gens/\Un (frs outer) [] H H' s.heap s'.heap/\HOk P w H' s'.heap/\RelV v u/\Q v H'
noncomputable def CR(CX:CXT)(outer:List Env)(P:Program)(w:World)(H:Hp)(s:Shared)(Q:VK)(E:XK)(r:Result)(s':Shared):Prop:=
 match r with
 | .ok (.ret u)=>CE outer P w H s Q u s'
 | .ok _=>False
 | .error e=>CX outer H s E e s'
structure FnOk(P:Program)(w:World)(K:W.Frag)(mg:Str->Option Value)(base:Heap)(CX:CXT)(k:Nat)(f:Addr)(fd:FuncData)(ps:List Str)(sp:Sp):Prop where
 len:∀vs H Q E,sp vs H Q E->vs.length=ps.length
 run:∀(A:Around) (outer:List Env) (s:Shared) (H:Hp) (args:Args) (us:List Value) (vs:List V) (Q:VK) (E:XK),Room k A->Env0 P w K mg base A outer s H->BindsTo s fd args (ps.zip us)->Vals vs us->sp vs H Q E->
  codeAny (model P w) A (.call (.ref f) args) (CR CX outer P w H s Q E) s
theorem FnOk.mono{P:Program}{w:World}{K:W.Frag}{mg:Str->Option Value}{base:Heap}{CX:CXT}{j k:Nat}{f:Addr}{fd:FuncData}{ps:List Str}{sp:Sp}(F:FnOk P w K mg base CX j f fd ps sp)(h:j<=k):
  FnOk P w K mg base CX k f fd ps sp:=⟨F.len,fun A outer s H args us vs Q E hr=>F.run A outer s H args us vs Q E (hr.mono h)⟩
theorem FnOk.imp{P:Program}{w:World}{K:W.Frag}{mg:Str->Option Value}{base:Heap}{CX:CXT}{k:Nat}{f:Addr}{fd:FuncData}{ps:List Str}{sp sp':Sp}(F:FnOk P w K mg base CX k f fd ps sp)(h:∀vs H Q E,sp' vs H Q E->sp vs H Q E):FnOk P w K mg base CX k f fd ps sp':=
 ⟨fun vs H Q E q=>F.len vs H Q E (h _ _ _ _ q),fun A outer s H args us vs Q E hr he hb hv hs=>F.run A outer s H args us vs Q E hr he hb hv (h _ _ _ _ hs)⟩
theorem Env0.in1{P:Program}{w:World}{K:W.Frag}{mg:Str->Option Value}{base:Heap}{A:Around}{outer:List Env}{s:Shared}{H:Hp}(e:Env0 P w K mg base A outer s H):
  Env0 P w K mg base A.in1 outer s H:=⟨e.frames,e.mod,e.bs,e.bsz,e.funs,e.frf,e.hok,e.bare⟩
section
variable{X:Cx}{pins:List (Addr×Obj)}{σ:St}{H:Hp}{s s':Shared}
theorem Inv.env0(I:Inv X pins σ H s):Env0 X.prog X.w X.K X.mg X.base X.A X.stack s H:=
 ⟨I.ok.frames,I.ok.mod,I.bs,Nat.le_trans I.ok.bsz I.sz,I.stack,I.stkFree,I.hok,I.bare⟩
theorem Inv.after{Q:VK}{u:Value}(I:Inv X pins σ H s)(h:CE X.stack X.prog X.w H s Q u s'):EP X pins σ Q u s':=by
 obtain⟨v,H',os,bare,un,hok,r,q⟩:=h
 obtain⟨hh,g,d,t,os'⟩:=s'
 obtain rfl:os'=s.os:=os
 exact⟨v,H',I.call (h':=hh) (g':=g) (d':=d) (t':=t) (ch:=[]) un hok bare (fun b z=>absurd z (by simp)),r,q⟩
end
noncomputable def tCall(sp:Sp)(dvs:List V)(E:XK)(t:TA):TE:=fun σ H Q=>t σ H fun vs H1=>sp (vs++dvs) H1 Q E
noncomputable def Binds(K:W.Frag)(fd:FuncData)(ps:List Str)(ds:List Value):Prop:=
 ∀(s:Shared) (us:List Value),K.In s.heap->(us++ds).length=ps.length->BindsTo s fd ⟨us,[]⟩ (ps.zip (us++ds))
theorem Binds.all{K:W.Frag}{fd:FuncData}{ps:List Str}(h:∀us:List Value,us.length=ps.length->bindArgs fd ⟨us,[]⟩=pure (ps.zip us)):Binds K fd ps []:=fun s us _ hl=>by
 rw[List.append_nil]at hl⊢
 exact .of_eq (h us hl)
noncomputable def Passes(CX:CXT)(X:Cx)(E:XK):Prop:=∀(pins:List (Addr×Obj)) (σ:St) (H:Hp) (s:Shared) (e:Value) (s':Shared),Inv X pins σ H s->CX X.stack H s E e s'->X.xe e s'
section
variable{X:Cx}{CX:CXT}{k:Nat}{f C:Addr}{fd:FuncData}{ps:List Str}{sp:Sp}{dvs:List V}{ds:List Value}{E:XK}{x m:Str}{p pos apos:Pos}{e o:Expr}{es:List Expr}{ta:TE}{t:TA}
theorem run_fn{pins:List (Addr×Obj)}{σ:St}{H:Hp}{s:Shared}{Q:VK}{us:List Value}{vs:List V}(F:FnOk X.prog X.w X.K X.mg X.base CX k f fd ps sp)(hr:Room k X.A)(hb:Binds X.K fd ps ds)(hd:Vals dvs ds)(hx:Passes CX X E)
  (I:Inv X pins σ H s)(r:Vals vs us)(h:sp (vs++dvs) H Q E):wpAny (model X.prog X.w) X.A (call (.ref f) us) (EP X pins σ Q) X.xe s:=by
 have r2:Vals (vs++dvs) (us++ds):=r.append hd
 have hl:(us++ds).length=ps.length:=by rw[<-r2.length];exact F.len _ _ _ _ h
 refine wpAny_call (codeAny_mono (F.run X.A X.stack s H ⟨us,[]⟩ (us++ds) (vs++dvs) Q E hr I.env0 (hb s us I.kIn hl) r2 h) fun r s' hq=> ?_)
 cases r with
 |error e=>exact hx pins σ H s e s' I hq
 |ok fl=>
  cases fl with
  |ret u=>exact I.after hq
  |next=>exact False.elim hq
  |brk=>exact False.elim hq
  |cont=>exact False.elim hq
theorem zai(F:FnOk X.prog X.w X.K X.mg X.base CX k f fd ps sp)(hr:Room k X.A)(hg:Gl X x)(hm:X.mg x=some (.ref f))(hk:PySem.W.keepIn X.K (.ref f)=true)(hb:Binds X.K fd ps ds)(hd:Vals dvs ds)(hx:Passes CX X E)(ha:PA X (e::es) t)(hdb:(x==("__debug__":Str))=false:=by decide)(he:starEach (e::es) X.env=(false,eval e X.env)::starEach es X.env:=by rfl)(hpl:(backTo pos (starEach es X.env)).any (·.1)=false:=by rfl):
  PE X (.Call (.Name x p) (e::es) [] pos) (tCall sp dvs E t):=by
 intro pins s σ H Q I h
 refine wpAny_Call_Name_kw (ld_glob I hg hm ?_ hdb)
 refine PySem.W.callWith_K (h₀:=X.base) I.ok.mod.kin hk (thn (ha pos pins s σ H _ I h) fun us s1 ⟨vs,H1,I1,r,q⟩=>⟨I1.kIn,?_⟩) he hpl
 exact run_fn F hr hb hd hx I1 r q
theorem pe_call0(F:FnOk X.prog X.w X.K X.mg X.base CX k f fd ps sp)(hr:Room k X.A)(hg:Gl X x)(hm:X.mg x=some (.ref f))(hk:PySem.W.keepIn X.K (.ref f)=true)(hb:Binds X.K fd ps ds)(hd:Vals dvs ds)(hx:Passes CX X E)(hdb:(x==("__debug__":Str))=false:=by decide):PE X (.Call (.Name x p) [] [] pos) (tCall sp dvs E tNil):=by
 intro pins s σ H Q I h
 refine wpAny_Call_Name_kw (ld_glob I hg hm ?_ hdb)
 exact PySem.W.callWith_K0 I.kIn hk (run_fn (us:=[]) F hr hb hd hx I .nil h)
end
section
variable{X:Cx}{CX:CXT}{k:Nat}{f C:Addr}{fd:FuncData}{ps ks:List Str}{sp:Sp}{E:XK}{x m:Str}{p pos apos kpos:Pos}{e o:Expr}{es:List Expr}{kws:List Keyword}{te ta:TE}{t tk:TA}{nm:Option Str}
variable{g:List Value->List Value->List Value}{gV:List V->List V->List V}
end
structure FnScope(N P:List Str)(sc:Scope):Prop where
 kind:sc.kind= .function
 co:sc.isCoroutine=false
 gen:sc.isGenerator=false
 nd:N.Nodup
 pre:N.take P.length=P
 par:∀x∈P,sc.names.lookup x=some .local\/sc.names.lookup x=some .cell
 nofree:∀y∈sc.names,y.2≠.free
theorem bindL_out{kindOf:Str->Option NameKind}{x:Str}:∀{binds:List (Str×Value)} {m:Str->Option Value},(∀v,(x,v)∉binds)->bindL kindOf binds m x=m x
 |[],_,_=>rfl
 |(n,v)::r,m,h=>by
  unfold bindL
  rw[bindL_out fun w hw=>h w (List.mem_cons_of_mem _ hw)]
  split
  ·have:x≠n:=by rintro rfl;exact h v List.mem_cons_self
   simp[this]
  ·rfl
theorem bindC_out{kindOf:Str->Option NameKind}{x:Str}:∀{binds:List (Str×Value)} {m:Str->Option Value},(∀v,(x,v)∉binds)->bindC kindOf binds m x=m x
 |[],_,_=>rfl
 |(n,v)::r,m,h=>by
  unfold bindC
  rw[bindC_out fun w hw=>h w (List.mem_cons_of_mem _ hw)]
  split
  ·rfl
  ·have:x≠n:=by rintro rfl;exact h v List.mem_cons_self
   simp[this]
theorem bindL_get{kindOf:Str->Option NameKind}{x:Str}{v:Value}:∀{P:List Str} {vs:List Value} {i:Nat} {m:Str->Option Value},P.Nodup->P[i]? =some x->vs[i]? =some v->kindOf x=some .local->
  bindL kindOf (P.zip vs) m x=some v
 |[],_,_,_,_,h,_,_=>by simp at h
 |_::_,[],_,_,_,_,h,_=>by simp at h
 |p::P,w::vs,0,m,nd,h1,h2,hk=>by
  simp at h1 h2;subst h1;subst h2
  show bindL kindOf ((p,w)::P.zip vs) m p=_
  unfold bindL
  rw[bindL_out fun v hv=>(List.nodup_cons.mp nd).1 (List.of_mem_zip hv).1,if_pos hk]
  simp
 |p::P,w::vs,i+1,m,nd,h1,h2,hk=>by
  show bindL kindOf ((p,w)::P.zip vs) m x=_
  unfold bindL
  exact bindL_get (i:=i) (List.nodup_cons.mp nd).2 (by simpa using h1) (by simpa using h2) hk
theorem bindC_get{kindOf:Str->Option NameKind}{x:Str}{v:Value}:∀{P:List Str} {vs:List Value} {i:Nat} {m:Str->Option Value},P.Nodup->P[i]? =some x->vs[i]? =some v->kindOf x≠some .local->
  bindC kindOf (P.zip vs) m x=some v
 |[],_,_,_,_,h,_,_=>by simp at h
 |_::_,[],_,_,_,_,h,_=>by simp at h
 |p::P,w::vs,0,m,nd,h1,h2,hk=>by
  simp at h1 h2;subst h1;subst h2
  show bindC kindOf ((p,w)::P.zip vs) m p=_
  unfold bindC
  rw[bindC_out fun v hv=>(List.nodup_cons.mp nd).1 (List.of_mem_zip hv).1,if_neg hk]
  simp
 |p::P,w::vs,i+1,m,nd,h1,h2,hk=>by
  show bindC kindOf ((p,w)::P.zip vs) m x=_
  unfold bindC
  exact bindC_get (i:=i) (List.nodup_cons.mp nd).2 (by simpa using h1) (by simpa using h2) hk
noncomputable def start(N:List Str)(vs:List V):St:=vs.map some++List.replicate (N.length-vs.length) none
noncomputable def cxOf(CX:CXT)(P:Program)(w:World)(K:W.Frag)(mg:Str->Option Value)(base:Heap)(N:List Str)(qual:Str)(scope:Scope)(f:Addr)(cd:Value)(A:Around)(outer:List Env)(s:Shared)(H:Hp)(E:XK):Cx where
 prog:=P
 w:=w
 K:=K
 mg:=mg
 base:=base
 A:=A.deeper (envOfC qual scope s.heap.objs.size f cd)
 N:=N
 s₀:=s
 H₀:=H
 env:=envOfC qual scope s.heap.objs.size f cd
 outer:=outer
 stack:=envOfC qual scope s.heap.objs.size f cd::outer
 ex:=[]
 calm:=true
 fn:=fun _=>true
 pn:=[]
 xe:=fun e s'=>wpAny (model P w) (A.deeper (envOfC qual scope s.heap.objs.size f cd)) (leaving (envOfC qual scope s.heap.objs.size f cd) e) (fun _ s''=>CX outer H s E e s'') (fun e' s''=>CX outer H s E e' s'') s'
theorem cell_has{sc:Scope}{n:Nat}{x:Str}(h:sc.names.lookup x=some .cell):∃c,(cellsFrom n sc.names []).lookup x=some c:=by
 have q:=PySem.W.cellsFrom_some sc.names n [] (.inl h)
 exact Option.isSome_iff_exists.mp q
theorem inv_start{CX:CXT}{P:Program}{w:World}{K:W.Frag}{mg:Str->Option Value}{base:Heap}{N ps:List Str}{qual:Str}{scope:Scope}{f:Addr}{cd:Value}{A:Around}{outer:List Env}{s s1:Shared}{H:Hp}{E:XK}{us:List Value}{vs:List V}
  (S:FnScope N ps scope)(hd:A.handled=none)(e0:Env0 P w K mg base A outer s H)(hl:vs.length=ps.length)(r:Vals vs us)(x:InCallC s s.heap.objs.size (bindL (envOfC qual scope s.heap.objs.size f cd).kindOf (ps.zip us) fun _=>none) (cellsFrom (s.heap.objs.size+1) scope.names []) (bindC (envOfC qual scope s.heap.objs.size f cd).kindOf (ps.zip us) fun _=>none) s1):
  Inv (cxOf CX P w K mg base N qual scope f cd A outer s H E) [] (start N vs) H s1:=by
 have hpl:ps.length<=N.length:=by have:=congrArg List.length S.pre;rw[List.length_take]at this;omega
 obtain⟨h1,tk,rfl,hk⟩:=x.done
 have noA:∀b:Addr,b∉(cxOf CX P w K mg base N qual scope f cd A outer s H E).ex:=fun b z=>absurd (show b∈([]:List Addr)from z) (by simp)
 refine⟨⟨e0.mod,S.kind,rfl,rfl,Nat.le_refl _,fun y z c h1 h2=> ?_,fun y hy=> ?_,fun y c _ h=> ?_,fun _=>hd,Around.frames_deeper e0.frames,.inr ⟨rfl,rfl⟩,fun b z=>absurd z (noA b),e0.bs,e0.bsz,fun b _ _=>noA b,fun b z=>absurd z (noA b),e0.funs,e0.frf⟩,
  rfl,e0.bare,Un.kept hk,⟨_,x.toInCall.ns,fun i y v h1 h2 h3=> ?_⟩,fun y c h=>⟨_,x.cell y c h⟩,e0.hok.fresh (Nat.le_refl _),fun y c h=> ?_,fun p hp=>absurd (show p∈([]:List (Addr×Obj))from hp) (by simp),e0.hok.kept hk,?_⟩
 ·exact name_of_addr x.apart (PySem.mem_of_lookup h1) (PySem.mem_of_lookup h2)
 ·have hy:scope.names.lookup y=some .cell\/scope.names.lookup y=some .free:=hy
  rcases hy with hy|hy
  ·exact cell_has hy
  ·exact absurd rfl (S.nofree _ (PySem.mem_of_lookup hy))
 ·exact Nat.le_of_lt (x.above y c (PySem.mem_of_lookup h))
 ·have hi:i<vs.length:=by
   unfold start at h2
   by_cases hi:i<vs.length
   ·exact hi
   ·rw[List.getElem?_append_right (by simpa using hi)]at h2
    rw[List.getElem?_replicate]at h2
    split at h2<;>cases h2
  have ha:vs[i]? =some v:=by
   unfold start at h2
   rw[List.getElem?_append_left (by simpa using hi),List.getElem?_map]at h2
   cases e:vs[i]? with
   |none=>rw[e]at h2;cases h2
   |some a=>rw[e]at h2;cases h2;rfl
  obtain⟨u,hu,rv⟩:=r.get ha
  have hp:ps[i]? =some y:=by
   rw[<-S.pre,List.getElem?_take_of_lt (by omega)];exact h1
  have ndP:ps.Nodup:=by rw[<-S.pre];exact S.nd.sublist (List.take_sublist _ _)
  refine⟨u,rv,?_⟩
  rcases S.par y (List.mem_of_getElem? hp)with k|k
  ·exact .inl ⟨k,bindL_get ndP hp hu k⟩
  ·obtain⟨c,e⟩:=cell_has (n:=s.heap.objs.size+1) k
   refine .inr ⟨.inl k,c,e,?_⟩
   have q:=x.cell y c e
   rw[bindC_get ndP hp hu (by show scope.names.lookup y≠_;rw[k];decide)]at q
   exact q
 ·exact e0.hok.fresh (Nat.le_of_lt (x.above y c (PySem.mem_of_lookup h)))
 ·unfold start
  show _=N.length
  rw[List.length_append,List.length_map,List.length_replicate]
  omega
theorem fn_of{CX:CXT}{P:Program}{w:World}{K:W.Frag}{mg:Str->Option Value}{base:Heap}{k:Nat}{f:Addr}{name qual:Str}{params:Arguments}{body:List Stmt}{scope:Scope}{dV kV doc pm cdv ct oc:Value}{an od:Option Addr}{osl:Array (Option Value)}{N ps:List Str}{sp:Sp}(lk:K.lookup f=some ⟨oc,od,.func (PySem.W.fnOf name qual params body scope dV kV doc pm an cdv ct),osl⟩)(hcd:PySem.W.codeIn K cdv qual=true)(S:FnScope N ps scope)(len:∀vs H Q E,sp vs H Q E->vs.length=ps.length)(hbody:∀(A:Around) (outer:List Env) (s:Shared) (H:Hp) (vs:List V) (Q:VK) (E:XK),Room k (A.deeper (envOfC qual scope s.heap.objs.size f cdv))->sp vs H Q E->
   ∃t,PSs (cxOf CX P w K mg base N qual scope f cdv A outer s H E) body t/\t {nx:=fun _ H'=>Q .non H',rt:=Q} (start N vs) H):
  FnOk P w K mg base CX (k+1) f (PySem.W.fnOf name qual params body scope dV kV doc pm an cdv ct) ps sp:=by
 refine⟨len,fun A outer s H args us vs Q E hr e0 hb r hsp=> ?_⟩
 have hl:=len _ _ _ _ hsp
 have KX:K.In s.heap:=e0.mod.kin.keeps fun b o e=>(e0.bs b o e).1
 have lim:s.heap.NoLimit:=e0.mod.nolimit.keeps fun b o e=>(e0.bs b o e).1
 have hkind:∀y∈ps.zip us,scope.names.lookup y.1=some .local\/(scope.names.lookup y.1=some .cell/\((cellsFrom (s.heap.objs.size+1) scope.names []).lookup y.1).isSome=true):=fun⟨n,v⟩ hy=>by
  rcases S.par n (List.of_mem_zip hy).1 with q|q
  ·exact .inl q
  ·exact .inr ⟨q,PySem.W.cellsFrom_some _ _ _ (.inl q)⟩
 refine codeAny_call_function hr.depth (KX _ _ lk) rfl S.co S.gen rfl (PySem.W.codeRec_of KX hcd) (hb _ _ _ _ ?_)
 refine wpAny_newFunctionEnv_cells S.kind hkind fun env he s1 x=> ?_
 subst he
 refine⟨lim.keeps x.toInCall.keep,codeAny_func ?_⟩
 obtain⟨t,ht,hq⟩:=hbody A outer s H vs Q E (hr.deeper _) hsp
 have I:Inv (cxOf CX P w K mg base N qual scope f cdv A outer s H E) [] (start N vs) H s1:=inv_start S hr.hd e0 hl r x
 refine wpAny_mono (ht [] s1 (start N vs) H _ I hq) (fun fl s' hs=> ?_) fun e s' hs=>hs
 have fin:∀{σ':St} {H':Hp} {v:V} {u:Value},Inv (cxOf CX P w K mg base N qual scope f cdv A outer s H E) [] σ' H' s'->RelV v u->Q v H'->CE outer P w H s Q u s':=
  fun{σ' H' v u} J rv q=>⟨v,H',J.os,J.bare,J.base,J.hok,rv,q⟩
 cases fl with
 |ret u=>
  obtain⟨v,σ',H',J,rv,q⟩:=hs
  exact fin J rv q
 |next=>
  obtain⟨σ',H',J,q⟩:=hs
  exact fin (v:=V.non) (u:=Value.none) J rfl q
 |brk=>
  obtain⟨_,_,_,q⟩:=hs
  exact False.elim q
 |cont=>
  obtain⟨_,_,_,q⟩:=hs
  exact False.elim q
end L2
namespace L2
open PySem PySem.Spec PyProof.Rows
section
variable{X:Cx}{x:Str}{p pos:Pos}{e:Expr}{es:List Expr}{t:TA}{id T:String}{r:List V->Hp->VK->Prop}
noncomputable def tCB(r:List V->Hp->VK->Prop)(t:TA):TE:=fun σ H Q=>t σ H fun vs H1=>r vs H1 Q
theorem zal(hc:CallR X (.builtin id) r)(hg:Gl X x)(hm:X.mg x=none)(hv:bootBuiltins x=some (.builtin id))(ha:PA X (e::es) t)(hn:x≠"__name__":=by decide)(hdb:(x==("__debug__":Str))=false:=by decide)(he:starEach (e::es) X.env=(false,eval e X.env)::starEach es X.env:=by rfl)(hpl:(backTo pos (starEach es X.env)).any (·.1)=false:=by rfl):PE X (.Call (.Name x p) (e::es) [] pos) (tCB r t):=by
 intro pins s σ H Q I h
 refine wpAny_Call_Name_kw (ld_blt I hg hm hv ?_ hn hdb)
 exact PyProof.Rows.callWith_builtin1 (thn (ha pos pins s σ H _ I h) fun us s1 ⟨vs,H1,I1,r1,q1⟩=>hc pins s1 σ H1 vs us Q I1 r1 q1) he hpl
theorem zci(hc:CallR X (.type T) r)(hg:Gl X x)(hm:X.mg x=none)(hv:bootBuiltins x=some (.type T))(ha:PA X (e::es) t)(hn:x≠"__name__":=by decide)(hdb:(x==("__debug__":Str))=false:=by decide)(he:starEach (e::es) X.env=(false,eval e X.env)::starEach es X.env:=by rfl)(hpl:(backTo pos (starEach es X.env)).any (·.1)=false:=by rfl):PE X (.Call (.Name x p) (e::es) [] pos) (tCB r t):=by
 intro pins s σ H Q I h
 refine wpAny_Call_Name_kw (ld_blt I hg hm hv ?_ hn hdb)
 exact PyProof.Rows.callWith_type1 (thn (ha pos pins s σ H _ I h) fun us s1 ⟨vs,H1,I1,r1,q1⟩=>hc pins s1 σ H1 vs us Q I1 r1 q1) he hpl
end
end L2
namespace HT
open PySem PyProof.Rows
noncomputable def lexLt:List Int->List Int->Bool
 |[],[]=>false
 |[],_::_=>true
 |_::_,[]=>false
 |x::xs,y::ys=>if x=y then lexLt xs ys else decide (x<y)
theorem lexLt_cons(x y:Int)(xs ys:List Int):lexLt (x::xs) (y::ys)=if x=y then lexLt xs ys else decide (x<y):=rfl
theorem lexLt_nil_nil:lexLt [] []=false:=rfl
theorem lexLt_nil_cons(y:Int)(ys:List Int):lexLt [] (y::ys)=true:=rfl
theorem lexLt_cons_nil(x:Int)(xs:List Int):lexLt (x::xs) []=false:=rfl
theorem eqAt_int(A:Around)(s:Shared)(a:Int)(t:Tok)(c:Int)(u:Tok):∃e,SeqAt.EqAt A s (.int a t) (.int c u) e/\(e=true↔a=c):=
 ⟨(a==c),SeqAt.EqAt.int_int a t c u,by simp⟩
theorem rcLt_int(A:Around)(s:Shared)(a:Int)(t:Tok)(c:Int)(u:Tok)(prog:Program)(w:World)(E:Value->Shared->Prop)(Q:Value->Shared->Prop)(h:Q (.bool (decide (a<c))) s):
  wpAny (model prog w) A (richCompare .Lt (.int a t) (.int c u)) Q E s:=
 (PyProof.Rows.lt_int h:wpAny (model prog w) A (compareOp .Lt (.int a t) (.int c u)) Q E s)
section
open PySem.SeqAt
open PySem.AutoSeq1 (wpAny_loadPart')
open PySem.MeetsSeq PySem.MeetsSeq2 PySem.MeetsSeq3
theorem tuple_lt_ints(l b:Addr)(items items2:Array Value)(n n2:Nat)(dd dd2:Option Addr)(sl sl2:Array (Option Value))(ns ms:List Int)(hi:IntsAre items.toList ns)(hj:IntsAre items2.toList ms):
  Meets (Builtin.«tuple.__lt__» ⟨[.ref l,.ref b],[]⟩)
   (fun _ R s=>s.heap.get? l=some {cls:= .type "tuple",dict:=dd,data:= .seq items n,slots:=sl}/\s.heap.get? b=some {cls:= .type "tuple",dict:=dd2,data:= .seq items2 n2,slots:=sl2}/\
    R (.ok (.ret (.bool (lexLt ns ms)))) s):=
 .of_wp fun prog w A R s h=>by
  obtain⟨hp,g,d,tk,os⟩:=s;obtain⟨hl,hb,h⟩:=h
  have f2:=AutoSeq1.sub_tuple_tuple
  have z1:items.size=ns.length:=by rw[<-hi.length];simp
  have z2:items2.size=ms.length:=by rw[<-hj.length];simp
  wp_walk using wpAny_loadPart' hl,wpAny_loadPart' hb,wpAny_forIn_list _ (fun rest b s'=>b.1=none/\s'=⟨hp,g,d,tk,os⟩/\∃(vs ws:List Value) (ns' ms':List Int),rest=vs.zip ws/\
   IntsAre vs ns'/\IntsAre ws ms'/\ns'.length+items2.size=ms'.length+items.size/\R (.ok (.ret (.bool (lexLt ns' ms')))) ⟨hp,g,d,tk,os⟩) _
  case turn=>
   rintro⟨y,x⟩ rest b s' ⟨hb',rfl,vs,ws,ns',ms',hz,hvi,hwi,hlen,hR⟩
   cases hvi with
   |nil=>rw[List.zip_nil_left]at hz;cases hz
   |cons a t hvi'=>
    cases hwi with
    |nil=>rw[List.zip_nil_right]at hz;cases hz
    |cons c u hwi'=>
     rw[List.zip_cons_cons]at hz
     injection hz with hyx hrest
     injection hyx with hy hx
     subst hy hx
     rw[lexLt_cons]at hR
     simp only[List.length_cons]at hlen
     obtain⟨e,he,hiff⟩:=eqAt_int A.in1 ⟨hp,g,d,tk,os⟩ a t c u
     refine wpAny_bind (he prog w _ _ ?_)
     cases e with
     |true=>
      rw[if_pos (hiff.mp rfl)]at hR
      wp_walk
      exact⟨rfl,rfl,_,_,_,_,hrest,hvi',hwi',by omega,hR⟩
     |false=>
      rw[if_neg (fun q=>absurd (hiff.mpr q) Bool.false_ne_true)]at hR
      have hri:=rcLt_int A.in1 ⟨hp,g,d,tk,os⟩ a t c u prog w
      wp_walk using hri
      exact⟨_,rfl,by simpa using hR⟩
  case fin=>
   rintro⟨b1,b2⟩ s' ⟨hb',rfl,vs,ws,ns',ms',hz,hvi,hwi,hlen,hR⟩
   simp only at hb'
   subst hb'
   have hv:lexLt ns' ms'=decide (items.size<items2.size):=by
    cases hvi with
    |nil=>
     cases hwi with
     |nil=>
      simp only[List.length_nil]at hlen
      rw[lexLt_nil_nil]
      exact(decide_eq_false (by omega)).symm
     |cons c u hw=>
      simp only[List.length_nil,List.length_cons]at hlen
      rw[lexLt_nil_cons]
      exact(decide_eq_true (by omega)).symm
    |cons a t hv=>
     cases hwi with
     |nil=>
      simp only[List.length_nil,List.length_cons]at hlen
      rw[lexLt_cons_nil]
      exact(decide_eq_false (by omega)).symm
     |cons c u hw=>
      rw[List.zip_cons_cons]at hz
      cases hz
   rw[hv]at hR
   wp_walk
   exact⟨_,rfl,by simpa[Builtin.Tuple.tupleCompareSizes]using hR⟩
  case h=>
   exact⟨rfl,rfl,items.toList,items2.toList,ns,ms,rfl,hi,hj,by omega,h⟩
end
section
variable{prog:Program}{w:World}{A:Around}{E:Value->Shared->Prop}{s:Shared}
theorem lt_tupInts{l b:Addr}{items items2:Array Value}{ns ms:List Int}{Q:Value->Shared->Prop}(hl:IsTup s.heap l items)(hb:IsTup s.heap b items2)(hi:IntsAre items.toList ns)(hj:IntsAre items2.toList ms)(hu:A.units<cLine)(h:Q (.bool (lexLt ns ms)) s):wpAny (model prog w) A (compareOp .Lt (.ref l) (.ref b)) Q E s:=by
 obtain⟨⟨cls,dd,data,sl⟩,ho,hc,n,hd⟩:=id hl
 obtain⟨⟨cls2,dd2,data2,sl2⟩,ho2,hc2,n2,hd2⟩:=id hb
 simp only at hc hd hc2 hd2
 subst hc hd hc2 hd2
 exact richCompare_meets_room (op:= .Lt) ⟨_,ho,rfl⟩ ⟨_,ho2,rfl⟩ PySem.F.slot_tuple_lt PySem.F.entry_tuple_lt (PySem.F.args_tuple_lt_2 _ _) (tuple_lt_ints l b items items2 n n2 dd dd2 sl sl2 ns ms hi hj)
  ⟨ho,ho2,show Value.bool (lexLt ns ms)≠Value.notImplemented/\Q (.bool (lexLt ns ms)) s from⟨(fun x=>nomatch x),h⟩⟩ hu
theorem cat_tup{t b:Addr}{vs ws:List Value}{Q:Value->Shared->Prop}(ht:IsTup s.heap t vs.toArray)(hb:IsTup s.heap b ws.toArray)(hv:vs≠[])(h1:ws=[]->Q (.ref t) s)(h2:ws≠[]->Q (.ref s.heap.objs.size) {s with heap:=s.heap.push {cls:= .type "tuple",data:= .seq (vs++ws).toArray}})(hsz:vs.length+ws.length<=sizeLine):wpAny (model prog w) A (binaryOp .Add (.ref t) (.ref b)) Q E s:=by
 obtain⟨⟨cls,dd,data,sl⟩,ho,hc,n,hd⟩:=id ht
 obtain⟨⟨cls2,dd2,data2,sl2⟩,ho2,hc2,n2,hd2⟩:=id hb
 simp only at hc hd hc2 hd2
 subst hc hd hc2 hd2
 have e:vs.toArray++ws.toArray=(vs++ws).toArray:=by simp
 by_cases hw:ws=[]
 ·exact concat_meets ⟨_,ho,rfl⟩ ⟨_,ho2,rfl⟩ noFill_tuple_add seq_tuple_add PySem.F.slot_tuple_add PySem.F.entry_tuple_add (PySem.F.args_tuple_add_2 _ _)
   (tuple_addW1 t b vs.toArray ws.toArray n n2 dd dd2 sl sl2 (by simpa using hv) (by simp[hw])) ⟨ho,ho2,h1 hw⟩
 ·refine concat_meets ⟨_,ho,rfl⟩ ⟨_,ho2,rfl⟩ noFill_tuple_add seq_tuple_add PySem.F.slot_tuple_add PySem.F.entry_tuple_add (PySem.F.args_tuple_add_2 _ _)
   (tuple_addW2 t b vs.toArray ws.toArray n n2 dd dd2 sl sl2 (by simpa using hv) (by simpa using hw) (by rw[List.size_toArray,List.size_toArray];exact hsz)) ⟨ho,ho2,?_⟩
  rw[e]
  exact h2 hw
end
end HT
namespace L2
open PySem PySem.Spec PyProof.Rows
noncomputable abbrev TO:=St->Hp->(Option Int->Hp->Prop)->Prop
theorem intsAre_of{ns:List Int}:∀{us:List Value},Vals (ns.map V.int) us->IntsAre us ns:=by
 induction ns with
 |nil=>intro us r;rw[List.map_nil]at r;cases r;exact .nil
 |cons n ns ih=>
  intro us r
  rw[List.map_cons]at r
  cases r with
  |cons r1 r2=>
   obtain⟨t,e⟩:=r1
   subst e
   exact .cons n t (ih r2)
section
variable{X:Cx}{e:Expr}{te:TE}{lo hi:Option Expr}{tl th:TO}{pos p2:Pos}
noncomputable def SlR(X:Cx)(r:V->Option Int->Option Int->Hp->VK->Prop):Prop:=
 ∀(pins:List (Addr×Obj)) (s:Shared) (σ:St) (H:Hp) (x:V) (v vl vu:Value) (lo hi:Option Int) (sl:Addr) (Q:VK),Inv X pins σ H s->RelV x v->s.heap.IsSliceOf sl vl vu .none->IsPart vl lo->IsPart vu hi->r x lo hi H Q->
  ∃T id,typeLookup (.type T) "__getitem__"=pure (some (.builtin id))/\s.TypeIs v T/\wpAny (model X.prog X.w) X.A (getItem v (.ref sl)) (EP X pins σ Q) X.xe s
theorem SlR.or{r r':V->Option Int->Option Int->Hp->VK->Prop}(h:SlR X r)(h':SlR X r'):SlR X (fun x lo hi H Q=>r x lo hi H Q\/r' x lo hi H Q):=by
 intro pins s σ H x v vl vu lo hi sl Q I rx hs pl pu q
 rcases q with q|q
 ·exact h pins s σ H x v vl vu lo hi sl Q I rx hs pl pu q
 ·exact h' pins s σ H x v vl vu lo hi sl Q I rx hs pl pu q
noncomputable def rLtT(K:W.Frag):R2:=fun x y H Q=>∃a b ns ms,x= .ref a/\y= .ref b/\SqT K H a (ns.map V.int)/\SqT K H b (ms.map V.int)/\Q (.bl (HT.lexLt ns ms)) H
theorem op_ltT(hu:X.A.units<cLine):OpR X (compareOp .Lt) (rLtT X.K):=by
 intro pins s σ H x y v u Q I rx ry h
 obtain⟨a,b,ns,ms,rfl,rfl,ha,hb,q⟩:=h
 cases rx
 cases ry
 obtain⟨its,r1,p1,_⟩:=I.tuple ha
 obtain⟨its2,r2,p2,_⟩:=I.tuple hb
 have i1:IntsAre its.toArray.toList ns:=intsAre_of r1
 have i2:IntsAre its2.toArray.toList ms:=intsAre_of r2
 exact HT.lt_tupInts p1 p2 i1 i2 hu ⟨.bl (HT.lexLt ns ms),H,I,rfl,q⟩
noncomputable def rCatT(K:W.Frag):R2:=fun x y H Q=>∃a b xs ys,x= .ref a/\y= .ref b/\SqT K H a xs/\SqT K H b ys/\xs≠[]/\xs.length+ys.length<=sizeLine/\
 (ys=[]->Q (.ref a) H)/\(ys≠[]->∀p,H p=none->Q (.ref p) (upd H p (.tup (xs++ys))))
theorem Vals.nil_iff{xs:List V}{us:List Value}(r:Vals xs us):us=[]↔xs=[]:=by
 cases r with
 |nil=>simp
 |cons _ _=>simp
theorem op_catT:OpR X (binaryOp .Add) (rCatT X.K):=by
 intro pins s σ H x y v u Q I rx ry h
 obtain⟨a,b,xs,ys,rfl,rfl,ha,hb,hx,hz,q1,q2⟩:=h
 cases rx
 cases ry
 obtain⟨its,r1,p1,_⟩:=I.tuple ha
 obtain⟨its2,r2,p2,_⟩:=I.tuple hb
 refine HT.cat_tup p1 p2 (fun z=>hx (r1.nil_iff.mp z)) (fun z=>⟨.ref a,H,I,rfl,q1 (r2.nil_iff.mp z)⟩) (fun z=> ?_) (by rw[<-r1.length,<-r2.length];exact hz)
 refine⟨.ref s.heap.objs.size,_,I.laid (t':=s.toks) (o:= .tup (xs++ys)) (fun b ob q=>Heap.get?_push_of_some _ q) (Nat.le_refl _) ?_,rfl,q2 (fun w=>z (r2.nil_iff.mpr w)) _ (I.hok.fresh (Nat.le_refl _))⟩
 exact⟨by rw[List.length_append];exact hz,_,r1.append r2,IsTup.new _ _⟩
end
end L2
namespace L2
open PySem PySem.Spec PyProof.Rows
noncomputable def ixN(n:Nat)(i:Int):Option Nat:=if 0<=i then(if i<n then some i.toNat else none)else if -(n:Int)<=i then some (i+n).toNat else none
noncomputable def atI{α:Type}(xs:List α)(i:Int):Option α:=(ixN xs.length i).bind fun j=>xs[j]?
theorem ixN_seq{n:Nat}{i:Int}{j:Nat}(h:ixN n i=some j):seqIndex? i n=some j/\j<n/\ -(n:Int)<=i/\i<n:=by
 unfold ixN at h
 by_cases h0:0<=i
 ·rw[if_pos h0]at h
  by_cases h1:i<n
  ·rw[if_pos h1]at h
   have e:i.toNat=j:=Option.some.inj h
   exact⟨by rw[seqIndex_of h0 h1,e],by omega,by omega,h1⟩
  ·rw[if_neg h1]at h;cases h
 ·rw[if_neg h0]at h
  by_cases h1: -(n:Int)<=i
  ·rw[if_pos h1]at h
   have e:(i+n).toNat=j:=Option.some.inj h
   exact⟨by rw[seqIndex_neg (by omega) h1,e],by omega,h1,by omega⟩
  ·rw[if_neg h1]at h;cases h
theorem atI_get{α:Type}{xs:List α}{i:Int}{v:α}(h:atI xs i=some v):∃j,seqIndex? i xs.length=some j/\xs[j]? =some v/\j<xs.length/\ -(xs.length:Int)<=i/\i<xs.length:=by
 unfold atI at h
 cases e:ixN xs.length i with
 |none=>rw[e]at h;cases h
 |some j=>
  rw[e]at h
  obtain⟨h1,h2,h3,h4⟩:=ixN_seq e
  exact⟨j,h1,h,h2,h3,h4⟩
theorem atI_nat{α:Type}{xs:List α}{j:Nat}{v:α}(h:xs[j]? =some v):atI xs (j:Int)=some v:=by
 have hj:j<xs.length:=(List.getElem?_eq_some_iff.mp h).1
 have e:ixN xs.length (j:Int)=some j:=by
  unfold ixN
  rw[if_pos (by omega),if_pos (by omega)];simp
 unfold atI;rw[e];exact h
noncomputable def PlainIx(b:Expr):Prop:=∀o i,subscripted b false o i=operate [o,i] (getItem o i)
noncomputable def IxR(X:Cx)(r:R2):Prop:=
 ∀(value slice:Expr) (pins:List (Addr×Obj)) (s:Shared) (σ:St) (H:Hp) (x y:V) (v u:Value) (Q:VK),Inv X pins σ H s->RelV x v->RelV y u->r x y H Q->
  subscripted slice false v u=operate [v,u] (getItem v u)->wpAny (model X.prog X.w) X.A (subscriptTail value slice v u) (EP X pins σ Q) X.xe s
noncomputable def MtR(X:Cx)(id:String)(r:V->List V->Hp->VK->Prop):Prop:=
 ∀(pins:List (Addr×Obj)) (s:Shared) (σ:St) (H:Hp) (x:V) (xs:List V) (v:Value) (us:List Value) (Q:VK),Inv X pins σ H s->RelV x v->Vals xs us->r x xs H Q->
  wpAny (model X.prog X.w) X.A (call (.builtin id) (v::us)) (EP X pins σ Q) X.xe s
section
variable{X:Cx}{a b:Expr}{ta tb:TE}{pos:Pos}
theorem IxR.or{r r':R2}(h:IxR X r)(h':IxR X r'):IxR X (fun x y H Q=>r x y H Q\/r' x y H Q):=by
 intro value slice pins s σ H x y v u Q I rx ry q hs
 rcases q with q|q
 ·exact h value slice pins s σ H x y v u Q I rx ry q hs
 ·exact h' value slice pins s σ H x y v u Q I rx ry q hs
theorem MtR.or{id:String}{r r':V->List V->Hp->VK->Prop}(h:MtR X id r)(h':MtR X id r'):MtR X id (fun x xs H Q=>r x xs H Q\/r' x xs H Q):=by
 intro pins s σ H x xs v us Q I rx rs q
 rcases q with q|q
 ·exact h pins s σ H x xs v us Q I rx rs q
 ·exact h' pins s σ H x xs v us Q I rx rs q
theorem zbb{r:R2}(hr:IxR X r)(ha:PE X a ta)(hb:PE X b tb)(hs:PlainIx b):PE X (.Subscript a b pos) (tOp r ta tb):=by
 intro pins s σ H Q I h
 exact Subscript_ (binT ha hb I h fun v u s2 x y H2 I2 rx ry q=>hr a b pins s2 σ H2 x y v u Q I2 rx ry q (hs _ _))
noncomputable def rIxL(K:W.Frag):R2:=fun x y H Q=>∃p xs i v,x= .ref p/\y= .int i/\SqL K H p xs/\atI xs i=some v/\Q v H
noncomputable def rIxT(K:W.Frag):R2:=fun x y H Q=>∃p xs i v,x= .ref p/\y= .int i/\SqT K H p xs/\atI xs i=some v/\Q v H
theorem zcc:IxR X (rIxL X.K):=by
 intro value slice pins s σ H x y v u Q I rx ry h hs
 obtain⟨p,xs,i,z,rfl,rfl,hq,he,q⟩:=h
 cases rx
 obtain⟨t,rfl⟩:=ry
 obtain⟨its,r,pl,hz⟩:=I.list hq
 obtain⟨j,h1,h2,h3,h4,h5⟩:=atI_get he
 obtain⟨w,ew,rw'⟩:=r.get h2
 have hl:=r.length
 have hn:=line63
 have fin:EP X pins σ Q w s:=⟨z,H,I,rw',q⟩
 by_cases h0:0<=i
 ·have hj:i.toNat=j:=by
   rw[seqIndex_of h0 h5]at h1
   exact Option.some.inj h1
  exact item_listR pl.isList h0 (by omega) (by rw[hj];simpa using ew) fin hs
 ·have hj:(i+(its.toArray.size:Int)).toNat=j:=by
   rw[seqIndex_neg (by omega) h4]at h1
   rw[List.size_toArray,<-hl]
   exact Option.some.inj h1
  exact subscriptTail_builtinR (x:=w) pl.isList.typeIs slot_list_getitem.lookup
   (wpAny_getItem_list_neg (Q:=fun r s'=>r=w/\EP X pins σ Q r s') pl.isList (by omega) (by rw[List.size_toArray]<;>omega) (by omega) (by rw[hj];simpa using ew) ⟨rfl,fin⟩) hs
theorem zbh:IxR X (rIxT X.K):=by
 intro value slice pins s σ H x y v u Q I rx ry h hs
 obtain⟨p,xs,i,z,rfl,rfl,hq,he,q⟩:=h
 cases rx
 obtain⟨t,rfl⟩:=ry
 obtain⟨its,r,pl,hz⟩:=I.tuple hq
 obtain⟨j,h1,h2,h3,h4,h5⟩:=atI_get he
 obtain⟨w,ew,rw'⟩:=r.get h2
 have hl:=r.length
 have hn:=line63
 have fin:EP X pins σ Q w s:=⟨z,H,I,rw',q⟩
 exact subscriptTail_builtinR (x:=w) pl.typeIs slot_tuple_getitem.lookup
  (getItem_tuple (j:=j) (Q:=fun r s'=>r=w/\EP X pins σ Q r s') pl (by omega) (by omega) (by rw[List.size_toArray,<-hl];exact h1) (by simpa using ew) ⟨rfl,fin⟩) hs
theorem mapSeq_set(its:List Value)(n j:Nat)(u:Value):Obj.mapSeq (·.setIfInBounds j u) {cls:= .type "list",data:= .seq its.toArray n}={cls:= .type "list",data:= .seq (its.set j u).toArray n}:=by
 simp[Obj.mapSeq]
theorem Inv.lst{pins:List (Addr×Obj)}{σ:St}{H:Hp}{s:Shared}{p:Addr}{xs:List V}(I:Inv X pins σ H s)(h:H p=some (.lst xs)):
  ∃(its:List Value) (n:Nat),Vals xs its/\s.heap.get? p=some {cls:= .type "list",data:= .seq its.toArray n}/\xs.length<=sizeLine:=by
 obtain⟨z,its,n,r,e⟩:=I.hok p _ h
 exact⟨its,n,r,e,z⟩
theorem Inv.lstUpd{pins:List (Addr×Obj)}{σ:St}{H:Hp}{s:Shared}{p:Addr}{xs ys:List V}{its its':List Value}{n n':Nat}{f:Obj->Obj}(I:Inv X pins σ H s)(h:H p=some (.lst xs))(ho:s.heap.get? p=some {cls:= .type "list",data:= .seq its.toArray n})(hf:f {cls:= .type "list",data:= .seq its.toArray n}={cls:= .type "list",data:= .seq its'.toArray n'})(r:Vals ys its')(hz:ys.length<=sizeLine)(t:Nat):
  Inv X pins σ (upd H p (.lst ys)) {s with heap:=s.heap.update p f,toks:=t}:=by
 have e:(s.heap.update p f).get? p=some {cls:= .type "list",data:= .seq its'.toArray n'}:=by
  rw[Heap.get?_update_self f ho (by rw[hf]<;>rfl),hf]
 refine I.write (x:=p) (e:=p) (by rw[h];trivial) (.inl rfl) (fun b u hb q=>(Heap.get?_update_other _ _ (Ne.symm hb)).trans q) ⟨_,e⟩ ?_
 exact⟨hz,its',n',r,e⟩
noncomputable def rSetL:V->V->V->Hp->(Hp->Prop)->Prop:=fun o i v H Q=>∃p xs k j,o= .ref p/\i= .int k/\H p=some (.lst xs)/\ixN xs.length k=some j/\Q (upd H p (.lst (xs.set j v)))
theorem set_list:PSet X rSetL:=by
 intro pins s σ H o i v ov iv u Q I ro ri rv h
 obtain⟨p,xs,k,j,rfl,rfl,hp,hj,q⟩:=h
 cases ro
 obtain⟨t,rfl⟩:=ri
 obtain⟨its,n,r,ho,hz⟩:=I.lst hp
 obtain⟨h1,h2,h3,h4⟩:=ixN_seq hj
 have hl:=r.length
 have hn:=line63
 have I':Inv X pins σ (upd H p (.lst (xs.set j v))) {s with heap:=s.heap.update p (Obj.mapSeq (·.setIfInBounds j u))}:=
  I.lstUpd hp ho (mapSeq_set its n j u) (r.set rv j) (by rw[List.length_set];exact hz) s.toks
 by_cases h0:0<=k
 ·have hk:k.toNat=j:=by
   rw[seqIndex_of h0 h4]at h1
   exact Option.some.inj h1
  exact PySem.W.ki_setAt ho h0 (by omega) (by rw[List.size_toArray,<-hl];exact h4) (by rw[hk];exact⟨_,I',q⟩)
 ·have hk:(k+(its.toArray.size:Int)).toNat=j:=by
   rw[seqIndex_neg (by omega) h3]at h1
   rw[List.size_toArray,<-hl]
   exact Option.some.inj h1
  exact PySem.W.ki_setBack ho (by omega) (by rw[List.size_toArray,<-hl];exact h3) (by omega) (by rw[hk];exact⟨_,I',q⟩)
theorem call_len_seq:CallR X (.builtin "len") (fun xs H Q=>∃p ys,xs=[.ref p]/\(SqL X.K H p ys\/SqT X.K H p ys)/\Q (.int ys.length) H):=by
 intro pins s σ H xs us Q I r h
 obtain⟨p,ys,rfl,hq,q⟩:=h
 obtain⟨u,rfl,rx⟩:=vals1 r
 cases rx
 have hn:=line63
 rcases hq with hq|hq
 ·obtain⟨its,r',pl,hz⟩:=I.list hq
  have hlen:=r'.length
  exact Calls.call_len_list pl.isList (by simp only[List.size_toArray]<;>omega) ⟨.int ys.length,H,I.tok _,⟨s.toks+1,by rw[List.size_toArray,hlen]⟩,q⟩
 ·obtain⟨its,r',pl,hz⟩:=I.tuple hq
  have hlen:=r'.length
  exact len_tuple pl (by simp only[List.size_toArray]<;>omega) ⟨.int ys.length,H,I.tok _,⟨s.toks+1,by rw[List.size_toArray,hlen]⟩,q⟩
theorem CallR.or{f:Value}{r r':List V->Hp->VK->Prop}(h:CallR X f r)(h':CallR X f r'):CallR X f (fun xs H Q=>r xs H Q\/r' xs H Q):=by
 intro pins s σ H xs us Q I rs q
 rcases q with q|q
 ·exact h pins s σ H xs us Q I rs q
 ·exact h' pins s σ H xs us Q I rs q
theorem call_list_of:CallR X (.type "list") (fun xs H Q=>∃p ys,xs=[.ref p]/\(SqL X.K H p ys\/SqT X.K H p ys)/\∀l,H l=none->Q (.ref l) (upd H l (.lst ys))):=by
 intro pins s σ H xs us Q I r h
 obtain⟨p,ys,rfl,hq,q⟩:=h
 obtain⟨u,rfl,rx⟩:=vals1 r
 cases rx
 have fin:∀(its:List Value),Vals ys its->ys.length<=sizeLine->∀(h':Heap) (c':Nat),(∀b o',s.heap.get? b=some o'->h'.get? b=some o')->
   h'.get? s.heap.objs.size=some {cls:= .type "list",dict:=none,data:= .seq its.toArray c',slots:=#[]}->EP X pins σ Q (.ref s.heap.objs.size) {s with heap:=h'}:=fun its r' hz h' c' kp e=>
  ⟨.ref s.heap.objs.size,_,I.laid (t':=s.toks) kp (Nat.le_refl _) (show ObjOk X.prog X.w _ h' _ (.lst ys)from⟨hz,its,c',r',e⟩),rfl,q _ (I.hok.fresh (Nat.le_refl _))⟩
 rcases hq with hq|hq
 ·obtain⟨its,r',pl,hz⟩:=I.list hq
  have hlen:=r'.length
  obtain⟨o,ho,hc,n,hd⟩:=pl.isList
  exact call_list_seq p (.inl rfl) ho hc hd (fun h' c' kp e=>fin its r' hz h' c' kp e) (by simp only[List.size_toArray]<;>omega)
 ·obtain⟨its,r',pl,hz⟩:=I.tuple hq
  have hlen:=r'.length
  obtain⟨o,ho,hc,n,hd⟩:=pl
  exact call_list_seq p (.inr rfl) ho hc hd (fun h' c' kp e=>fin its r' hz h' c' kp e) (by simp only[List.size_toArray]<;>omega)
theorem zbs:CallR X (.type "tuple") (fun xs H Q=>∃p ys,xs=[.ref p]/\((SqL X.K H p ys/\∀l,H l=none->Q (.ref l) (upd H l (.tup ys)))\/(SqT X.K H p ys/\Q (.ref p) H))):=by
 intro pins s σ H xs us Q I r h
 obtain⟨p,ys,rfl,h⟩:=h
 obtain⟨u,rfl,rx⟩:=vals1 r
 cases rx
 rcases h with⟨hq,q⟩|⟨hq,q⟩
 ·obtain⟨its,r',pl,hz⟩:=I.list hq
  have hlen:=r'.length
  refine call_tuple_list pl.isList (fun h' kp=> ?_) (by simp only[List.size_toArray]<;>omega)
  have I1:Inv X pins σ H {s with heap:=h'}:=I.kept (t':=s.toks) kp
  have I2:Inv X pins σ (upd H h'.objs.size (.tup ys)) {s with heap:=h'.push {cls:= .type "tuple",data:= .seq its.toArray}}:=
   I1.laid (t':=s.toks) (fun b o e=>Heap.get?_push_of_some _ e) (Nat.le_refl _) (show ObjOk X.prog X.w _ _ _ (.tup ys)from⟨hz,its,r',IsTup.new _ _⟩)
  exact⟨.ref h'.objs.size,_,I2,rfl,q _ (I1.hok.fresh (Nat.le_refl _))⟩
 ·obtain⟨its,r',pl,hz⟩:=I.tuple hq
  exact call_tuple_same pl ⟨.ref p,H,I,rfl,q⟩
noncomputable def tyV(K:W.Frag)(T:String)(x:V)(H:Hp):Prop:=match x with
 | .str _=>T="str"
 | .int _=>T="int"
 | .ref p=>(T="list"/\∃xs,SqL K H p xs)\/(T="tuple"/\∃o,K.lookup p=some o/\o.cls= .type "tuple"/\o.dict=none)\/
   (T="dict"/\((∃kvs,H p=some (.dK kvs))\/∃kvs,H p=some (.dT kvs)))\/(T="set"/\∃S n,H p=some (.set S n))
 |_=>False
theorem tyV_is{pins:List (Addr×Obj)}{σ:St}{H:Hp}{s:Shared}{T:String}{x:V}{v:Value}(I:Inv X pins σ H s)(r:RelV x v)(ty:tyV X.K T x H):
  s.TypeIs v T/\∀a,v= .ref a->∃ob,s.heap.get? a=some ob/\ob.dict=none:=by
 cases x with
 |str z=>
  obtain⟨t,rfl⟩:=r
  cases(show T="str" from ty)
  exact⟨typeIs_str s z t,fun _ e=>nomatch e⟩
 |int i=>
  obtain⟨t,rfl⟩:=r
  cases(show T="int" from ty)
  exact⟨typeIs_int s i t,fun _ e=>nomatch e⟩
 |ref p=>
  cases r
  rcases ty with⟨rfl,xs,hq⟩|⟨rfl,o,hk,hc,hd⟩|⟨rfl,hk⟩|⟨rfl,S,n,hk⟩
  ·obtain⟨its,_,pl,_⟩:=I.list hq
   refine⟨pl.isList.typeIs,fun a e=> ?_⟩
   cases e
   obtain⟨o,n,e,c,hd,_⟩:=pl
   exact⟨o,e,hd⟩
  ·refine⟨⟨o,I.kIn p o hk,hc⟩,fun a e=> ?_⟩
   cases e
   exact⟨o,I.kIn _ o hk,hd⟩
  ·have z:∃o,s.heap.get? p=some o/\o.ExactDict:=by
    rcases hk with⟨kvs,hk⟩|⟨kvs,hk⟩
    ·obtain⟨_,_,_,_,o,_,_,e,ex,_⟩:=I.hok p _ hk
     exact⟨o,e,ex⟩
    ·obtain⟨_,_,_,_,o,_,_,e,ex,_⟩:=I.hok p _ hk
     exact⟨o,e,ex⟩
   obtain⟨o,e,ex⟩:=z
   refine⟨⟨o,e,ex.1⟩,fun a e2=> ?_⟩
   cases e2
   exact⟨o,e,ex.2.1⟩
  ·obtain⟨o,_,_,_,e,ex,_⟩:=I.hok p _ hk
   refine⟨⟨o,e,ex.1⟩,fun a e2=> ?_⟩
   cases e2
   exact⟨o,e,ex.2.1⟩
 |_=>exact False.elim ty
noncomputable def tBM(K:W.Frag)(T:String)(r:V->List V->Hp->VK->Prop)(to:TE)(t:TA):TE:=fun σ H Q=>to σ H fun x H1=>tyV K T x H1/\t σ H1 fun xs H2=>r x xs H2 Q
variable{o e:Expr}{es:List Expr}{to:TE}{t:TA}{name:Str}{apos cpos:Pos}{T id:String}{r:V->List V->Hp->VK->Prop}
theorem pe_bm(pa:PlainAttrs T)(slot:Slot T name id)(hty:typeOf (.builtin id)=pure (.type "method_descriptor"))(hm:MtR X id r)(ho:PE X o to)(ha:PA X (e::es) t)(hbase:attributeBase o name X.env (eval o X.env)=eval o X.env:=by rfl)(hfew:((backTo cpos (starEach (e::es) X.env)).all (fun x=> !x.1)&&(backToKw cpos (keywordEach [] X.env)).all (fun x=>x.1.isSome)
   &&decide ((e::es).length+([]:List Keyword).length+(if([]:List Keyword).isEmpty then 0 else 1)<30))=true:=by rfl)(hline:(apos.endLine==cpos.line)=true:=by rfl)(hs:starEach (e::es) X.env=(false,eval e X.env)::starEach es X.env:=by rfl)(hplain:(backTo cpos (starEach es X.env)).any (·.1)=false:=by rfl):
  PE X (.Call (.Attribute o name apos) (e::es) [] cpos) (tBM X.K T r to t):=by
 intro pins s σ H Q I h
 refine wpAny_Call_method_late hbase hfew hline rfl (thn (ho pins s σ H _ I h) fun v s1 ⟨x,H1,I1,r1,ty,q1⟩=> ?_)
 obtain⟨h1,h2⟩:=tyV_is I1 r1 ty
 refine⟨T,id,pa,slot,hty,h1,h2,?_⟩
 have hA:=ha cpos pins s1 σ H1 _ I1 q1
 rw[hs]at hA⊢
 refine Calls.callWith_builtin (by show(false||(backTo cpos (starEach es X.env)).any (·.1))=false;rw[hplain]<;>rfl) (Calls.evalArgs_plain ?_)
 exact thn hA fun us s2 ⟨vs,H2,I2,r2,q2⟩=>hm pins s2 σ H2 x vs v us Q I2 r1 r2 q2
end
end L2
namespace L2
open PySem PySem.Spec PyProof.Rows
noncomputable def MtM(X:Cx)(id:String)(r:V->List V->Hp->VK->Prop):Prop:=
 ∀(pins:List (Addr×Obj)) (s:Shared) (σ:St) (H:Hp) (x:V) (xs:List V) (v:Value) (us:List Value) (Q:VK),Inv X pins σ H s->RelV x v->Vals xs us->r x xs H Q->
  wpAny (model X.prog X.w) X.A (call (.builtin id) (v::us)) (EP X pins σ Q) X.xe s
theorem Vals.one{x:V}{us:List Value}(h:Vals [x] us):∃u,us=[u]/\RelV x u:=by
 cases h with
 |cons r h=>cases h;exact⟨_,rfl,r⟩
theorem Vals.two{x y:V}{us:List Value}(h:Vals [x,y] us):∃u v,us=[u,v]/\RelV x u/\RelV y v:=by
 cases h with
 |cons r h=>obtain⟨v,rfl,q⟩:=Vals.one h;exact⟨_,_,rfl,r,q⟩
theorem Vals.zero:∀{us:List Value},Vals [] us->us=[]
 |_,.nil=>rfl
theorem Vals.rep{xs:List V}{us:List Value}(h:Vals xs us):∀k:Nat,Vals (List.replicate k xs).flatten (List.replicate k us).flatten
 |0=> .nil
 |k+1=>by
  rw[List.replicate_succ,List.replicate_succ,List.flatten_cons,List.flatten_cons]
  exact Vals.append h (Vals.rep h k)
theorem foldl_rep(its:List Value):∀(k:Nat) (acc:List Value),
  List.foldl (fun x1 x2=>x1++x2) acc.toArray (List.replicate k its.toArray)=(acc++(List.replicate k its).flatten).toArray
 |0,acc=>by simp
 |k+1,acc=>by
  have e:acc.toArray++its.toArray=(acc++its).toArray:=by simp
  have e2:(acc++its)++(List.replicate k its).flatten=acc++(List.replicate (k+1) its).flatten:=by
   rw[List.replicate_succ,List.flatten_cons,List.append_assoc]
  rw[<-e2,<-foldl_rep its k (acc++its),<-e,List.replicate_succ,List.foldl_cons]
section
variable{X:Cx}{pins:List (Addr×Obj)}{σ:St}{H:Hp}{s:Shared}{l b:Addr}{xs ys zs:List V}
theorem Inv.lset{its its':List Value}{n:Nat}{f:Array Value->Array Value}{t':Nat}(I:Inv X pins σ H s)(hH:H l=some (.lst xs))(e:s.heap.get? l=some {cls:= .type "list",data:= .seq its.toArray n})(hf:f its.toArray=its'.toArray)(hv:Vals ys its')(hz:ys.length<=sizeLine):
  Inv X pins σ (upd H l (.lst ys)) {s with heap:=s.heap.update l (Obj.mapSeq f),toks:=t'}:=by
 have q:=PySem.IsL.update e f
 rw[hf]at q
 refine I.write (x:=l) (e:=l) (by rw[hH];exact trivial) (.inl rfl) (fun b' u hb hu=>(Heap.get?_update_other s.heap (Obj.mapSeq f) (Ne.symm hb)).trans hu) ⟨_,q⟩ ?_
 exact⟨hz,its',_,hv,q⟩
theorem Inv.lnew{its:List Value}{t':Nat}(I:Inv X pins σ H s)(hv:Vals ys its)(hz:ys.length<=sizeLine):
  Inv X pins σ (upd H s.heap.objs.size (.lst ys)) {s with heap:=s.heap.push {cls:= .type "list",data:= .seq its.toArray},toks:=t'}:=
 I.laid (fun _ _ q=>Heap.get?_push_of_some _ q) (Nat.le_refl _) ⟨hz,its,0,hv,Heap.get?_push_size _ rfl⟩
theorem Inv.fresh(I:Inv X pins σ H s):H s.heap.objs.size=none:=I.hok.fresh (Nat.le_refl _)
theorem Inv.lstM(I:Inv X pins σ H s)(hH:H l=some (.lst xs)):xs.length<=sizeLine/\∃(its:List Value) (n:Nat),Vals xs its/\xs.length=its.length/\s.heap.get? l=some {cls:= .type "list",data:= .seq its.toArray n}:=by
 obtain⟨z,its,n,r,e⟩:=I.hok l _ hH
 exact⟨z,its,n,r,r.length,e⟩
theorem notLongL{n:Nat}(h:n<=sizeLine):Builtin.List.listTooLong n=false:=by
 unfold Builtin.List.listTooLong
 exact decide_eq_false (by omega)
end
section
variable{X:Cx}
noncomputable def rAppend:V->List V->Hp->VK->Prop:=fun x vs H Q=>∃l xs y,x= .ref l/\vs=[y]/\H l=some (.lst xs)/\xs.length<sizeLine/\Q .non (upd H l (.lst (xs++[y])))
theorem mt_append:MtM X "list.append" rAppend:=by
 intro pins s σ H x vs v us Q I rx rv h
 obtain⟨l,xs,y,rfl,rfl,hH,hz,q⟩:=h
 cases rx
 obtain⟨u,rfl,ru⟩:=rv.one
 obtain⟨z,its,n,r,hl,e⟩:=I.lstM hH
 refine call_meets F.slot_list_append ⟨_,e,rfl⟩ F.entry_list_append (F.args_list_append_2 _ _) (PySem.list_append l its.toArray n u (by rw[List.size_toArray];omega)) ⟨e,?_⟩
 refine⟨.non,_,I.lset (its':=its++[u]) hH e (by simp) (r.append (.cons ru .nil)) ?_,rfl,q⟩
 rw[List.length_append,List.length_singleton]
 omega
noncomputable def rExtend:V->List V->Hp->VK->Prop:=fun x vs H Q=>∃l b xs zs,x= .ref l/\vs=[.ref b]/\H l=some (.lst xs)/\H b=some (.lst zs)/\xs.length+zs.length<=sizeLine/\Q .non (upd H l (.lst (xs++zs)))
theorem mt_extend:MtM X "list.extend" rExtend:=by
 intro pins s σ H x vs v us Q I rx rv h
 obtain⟨l,b,xs,zs,rfl,rfl,hH,hB,hz,q⟩:=h
 cases rx
 obtain⟨u,rfl,ru⟩:=rv.one
 cases ru
 obtain⟨z,its,n,r,hl,e⟩:=I.lstM hH
 obtain⟨z2,its2,n2,r2,hl2,e2⟩:=I.lstM hB
 have hsz:its.toArray.size+its2.toArray.size<=sizeLine:=by rw[List.size_toArray,List.size_toArray];omega
 have hlong:¬(!its.toArray.isEmpty&&Builtin.List.listTooLong (its.toArray.size+its2.toArray.size))=true:=by
  rw[notLongL hsz,Bool.and_false]
  exact Bool.false_ne_true
 refine call_meets F.slot_list_extend ⟨_,e,rfl⟩ F.entry_list_extend (F.args_list_extend_2 _ _)
  (AutoSeq1.list_extend_list_list_0 l its.toArray n b its2.toArray n2 hlong (by rw[List.size_toArray];omega) (by omega)) ⟨e,e2,?_⟩
 refine⟨.non,_,I.lset (its':=its++its2) hH e (by simp) (r.append r2) ?_,rfl,q⟩
 rw[List.length_append]
 omega
noncomputable def rCat:R2:=fun x y H Q=>∃l b xs zs,x= .ref l/\y= .ref b/\H l=some (.lst xs)/\H b=some (.lst zs)/\xs.length+zs.length<=sizeLine/\∀p,H p=none->Q (.ref p) (upd H p (.lst (xs++zs)))
theorem op_cat:OpR X (binaryOp .Add) rCat:=by
 intro pins s σ H x y v u Q I rx ry h
 obtain⟨l,b,xs,zs,rfl,rfl,hH,hB,hz,q⟩:=h
 cases rx
 cases ry
 obtain⟨z,its,n,r,hl,e⟩:=I.lstM hH
 obtain⟨z2,its2,n2,r2,hl2,e2⟩:=I.lstM hB
 refine PySem.P.add_list e e2 ?_ (by rw[List.size_toArray,List.size_toArray];omega)
 have ea:its.toArray++its2.toArray=(its++its2).toArray:=by simp
 rw[ea]
 exact⟨.ref _,_,I.lnew (t':=s.toks) (r.append r2) (by rw[List.length_append];omega),rfl,q _ I.fresh⟩
noncomputable def rRep:R2:=fun x y H Q=>∃l k xs,x= .ref l/\y= .int k/\H l=some (.lst xs)/\ -(2^63)<=k/\k<2^63/\xs.length*k.toNat<=sizeLine/\
 ∀p,H p=none->Q (.ref p) (upd H p (.lst (List.replicate k.toNat xs).flatten))
theorem len_rep{α:Type}(xs:List α)(k:Nat):(List.replicate k xs).flatten.length=k*xs.length:=by
 induction k with
 |zero=>simp
 |succ k ih=>rw[List.replicate_succ,List.flatten_cons,List.length_append,ih,Nat.succ_mul,Nat.add_comm]
theorem op_rep:OpR X (binaryOp .Mult) rRep:=by
 intro pins s σ H x y v u Q I rx ry h
 obtain⟨l,k,xs,rfl,rfl,hH,h1,h2,hz,q⟩:=h
 cases rx
 obtain⟨t,rfl⟩:=ry
 obtain⟨z,its,n,r,hl,e⟩:=I.lstM hH
 have hlen:its.toArray.size*k.toNat<=sizeLine:=by rw[List.size_toArray,<-hl];exact hz
 have hcap:¬its.toArray.size*k.toNat>(2^63-1)/8:=by
  have:(sizeLine:Nat)<=(2^63-1)/8:=by decide
  omega
 have hfit:¬(!Builtin.List.listFitsIndex k)=true:=by
  rw[fitsIndex_both h1 h2]
  exact Bool.false_ne_true
 have hlong:¬Builtin.List.listTooLong (its.toArray.size*k.toNat)=true:=by
  rw[notLongL hlen]
  exact Bool.false_ne_true
 have hnew:List.foldl (fun x1 x2=>x1++x2) #[] (List.replicate (if its.toArray.isEmpty=true then 0 else k.toNat) its.toArray)=(List.replicate k.toNat its).flatten.toArray:=by
  have f0:∀m:Nat,List.foldl (fun x1 x2=>x1++x2) #[] (List.replicate m its.toArray)=(List.replicate m its).flatten.toArray:=fun m=>by
   have:=foldl_rep its m []
   rw[List.nil_append]at this
   exact this
  rw[f0]
  cases its with
  |nil=>simp
  |cons a r'=>rw[if_neg (by simp)]
 refine wpAny_binaryOp_repeat_ref (T:="list") (U:="int") (by decide) ⟨_,e,rfl⟩ (fun s'=>typeIs_int s' k t) noFill_list_mul F.fills_int_mul F.slot_int_rmul repeat_list F.slot_int_index.lookup
  (call_meets F.slot_int_rmul (typeIs_int s k t) F.entry_int_rmul (F.args_int_rmul_2 _ _) (int___rmul___int_list k t l its.toArray n)
   ⟨e,rfl,⟨_,e,rfl⟩,call_meets F.slot_list_mul ⟨_,e,rfl⟩ F.entry_list_mul (F.args_list_mul_2 _ _) (AutoListH.list___mul___list_int_3 l its.toArray n k t hfit hcap hlong) ⟨e,?_⟩⟩)
 rw[hnew]
 exact⟨.ref _,_,I.lnew (t':=s.toks) (r.rep k.toNat) (by rw[len_rep,Nat.mul_comm];exact hz),rfl,q _ I.fresh⟩
end
section
variable{prog:Program}{w:World}{A:Around}{E:Value->Shared->Prop}{s:Shared}
end
section
variable{X:Cx}
end
end L2
namespace Att
open PySem PySem.W PySem.Calls PyProof.Rows
theorem ints_of_wellAll{P:Params}{h:Heap}:∀(ns:List Int) (vs:List Value),WellAll P h vs (ns.map WData.int)->IntsAre vs ns:=by
 intro ns
 induction ns with
 |nil=>
  intro vs w
  rw[List.map_nil]at w
  cases w
  exact .nil
 |cons n ns ih=>
  intro vs w
  rw[List.map_cons]at w
  cases w with
  |cons a b=>
   cases a
   exact .cons _ _ (ih _ b)
theorem script_of{l:OpenLaw}{n:Nat}(hn:l.most=some n){P:Params}{h:Heap}{args:List WData}{vals:List Value}(hpre:l.row.toRowW.claim.pre args=true)(hwl:WellAll P h vals args):
  ∃a vs ns,vals=[Value.ref a]/\args=[WData.list (ns.map WData.int)]/\h.get? a=some {cls:= .type "list",data:= .seq vs.toArray}/\IntsAre vs ns/\ns.length<=n:=by
 have hsh:WShape.hasAll [] args [.list .int]=true:=(pre_splitW hpre).1
 have hc:l.pre.holds [] {args:=args}=true:=(pre_splitW hpre).2
 obtain⟨d,r,rfl,h1,h2⟩:=hasAllW_cons hsh
 obtain rfl:=hasAllW_nil h2
 obtain⟨xs,rfl,h3⟩:=hasW_list h1
 obtain⟨ns,rfl⟩:=items_int h3
 have hlen:ns.length<=n:=by
  unfold OpenLaw.pre at hc
  have h4:(WTm.not (.lt (.lit (.int (n:Int))) (.len (.arg 0)))).holds [] {args:=[.list (ns.map .int)]}=true:=by
   have h4:=(holds_andW hc).1
   rw[hn]at h4
   exact h4
  have h5:=condW_of h4 (w_not (w_lt w_lit (w_len_list (w_arg rfl))))
  rw[List.length_map]at h5
  refine Nat.le_of_not_lt fun q=> ?_
  have q':(n:Int)<((ns.length:Nat):Int):=by omega
  first
   |(rw[decide_eq_true q']at h5;exact absurd h5 (by decide))
   |(simp at h5;omega)
 cases hwl with
 |cons w1 w2=>
  cases w2
  cases w1 with
  |list ho hall=>exact⟨_,_,ns,rfl,rfl,ho,ints_of_wellAll ns _ hall,hlen⟩
theorem post_true(l:OpenLaw)(args:List WData):l.row.toRowW.claim.post args (.bool true) args=true:=
 postW_of (r:=l.row.toRowW) (X:=(true==true))
  (show WShape.has [] (.bool true) .bool=true by first |rfl|decide|simp[WShape.has,WShape.arms,WShape.armsAll])
  (show(WTm.eq .res (.lit (.bool true))).value [] {args:=args,res:=some (.bool true),after:=args}=some (.bool (true==true))from w_eq_bool (w_res rfl) w_lit) rfl
theorem attach_call{l:OpenLaw}{n:Nat}{q:Program}{loose:List Str}{XP:(Str->Option Value)->Heap->Prop}{YP:World->Heap->Prop}{d:DefRec}(hn:l.most=some n)(hdf:d.params.defaults=[])(call:∀(w:World) (s₀ s₁:Shared) (mg mb:Str->Option Value) (fa:Addr) (o:Obj) (pm cd doc:Value) (a:Addr) (vs:List Value) (ns:List Int),
   Ground q loose [] XP w s₀ mg mb s₁.heap->YP w s₁.heap->
   s₁.heap.get? fa=some o->o.data= .func (docDef d.name d.params d.body d.scope pm cd doc)->s₁.heap.CodeRec cd d.name->mg d.name=some (.ref fa)->
   s₁.heap.get? a=some {cls:= .type "list",data:= .seq vs.toArray}->IntsAre vs ns->ns.length<=n->s₁.gens=#[]->
   codeAny (model l.prog w) callerA (.call (.ref fa) ⟨[.ref a],[]⟩) (fun r s'=>r= .ok (.ret (.bool true))/\OldK s₁.heap s'.heap/\s'.os=s₁.os/\AllBare s'.gens) s₁):
  WalkO q loose XP YP l.row.toRowW d [] (fun f vs=>PySem.call f vs):=by
 intro w s₀ s₁ mg mb G Y fa o pm cd doc dV kV ho hd hcd hD hmg hg args vals as hpre hlay hrd hwl hlo
 obtain rfl:dV= .none:=Dflts.none hD hdf
 obtain rfl:kV= .none:=Dflts.noKw hD
 obtain⟨a,vs,ns,rfl,rfl,hobj,hints,hlen⟩:=script_of hn hpre hwl
 refine enter_call (codeAny_mono (call w s₀ s₁ mg mb fa o pm cd doc a vs ns G Y ho (fd_plain hd) hcd hmg hobj hints hlen hg) fun r s' hq=> ?_)
 obtain⟨rfl,h2,h3,h4⟩:=hq
 exact⟨.inl ⟨.bool true,.bool true,[],rfl,fun _=>rfl,.bool true,post_true l _,fun _=>⟨List.Pairwise.nil,fun _ hm=>(nomatch hm)⟩⟩,h2,h3,h4⟩
section
variable{prog:Program}{w:World}{A:Around}{E:Value->Shared->Prop}{s:Shared}{K:Frag}
end
end Att
namespace L2
open PySem PySem.Spec PyProof.Rows
theorem vals_ints:∀{vs:List Value} {ns:List Int},IntsAre vs ns->Vals (ns.map V.int) vs
 |_,_,.nil=> .nil
 |_,_,.cons n t h=> .cons ⟨t,rfl⟩ (vals_ints h)
noncomputable def Only(H:Hp):Prop:=∀b,H b=none\/∃o xs,H b=some (.frz o (.lst xs))
theorem law_call{P:Program}{w:World}{K:W.Frag}{mg mb:Str->Option Value}{CX:CXT}{k:Nat}{fa a:Addr}{fd:FuncData}{x:Str}{sp:Sp}{s₁:Shared}{vs:List Value}{ns:List Int}
  (KX:K.In s₁.heap)(hns:s₁.heap.Ns mainGlobals mg)(hb:s₁.heap.Ns builtinsNs mb)(hbb:∀x:Str,x≠"__name__"->mb x=bootBuiltins x)(hlim:s₁.heap.NoLimit)(hg:s₁.gens=#[])(ha:s₁.heap.get? a=some {cls:= .type "list",data:= .seq vs.toArray})(hi:IntsAre vs ns)(hl:ns.length<=sizeLine)(hr:Room k callerA)
  (F:∀base:Heap,K.In base->base.Ns mainGlobals mg->FnOk P w K mg base CX k fa fd [x] sp)(hbind:∀(s:Shared) (u:Value),BindsTo s fd ⟨[u],[]⟩ [(x,u)])(hsp:∀H:Hp,Only H->SqL K H a (ns.map V.int)->sp [.ref a] H (fun v _=>v= .bl true) fun _ _ _=>False)(hCX:∀H e s',CX [] H s₁ (fun _ _ _=>False) e s'->False):
  codeAny (model P w) callerA (.call (.ref fa) ⟨[.ref a],[]⟩) (fun r s'=>r= .ok (.ret (.bool true))/\OldK s₁.heap s'.heap/\s'.os=s₁.os/\AllBare s'.gens) s₁:=by
 have rv:=vals_ints hi
 have lenV:=hi.length
 -- from an abstract heap in which nothing but the script may be tracked
 have core:∀H:Hp,Only H->SqL K H a (ns.map V.int)->HOk P w H s₁.heap->(∀b,H b≠none->b=a)->(H a≠none->K.lookup a=none)->
   codeAny (model P w) callerA (.call (.ref fa) ⟨[.ref a],[]⟩) (fun r s'=>r= .ok (.ret (.bool true))/\OldK s₁.heap s'.heap/\s'.os=s₁.os/\AllBare s'.gens) s₁:=by
  intro H hO hS hok hA hK
  have base_of:∀{b:Addr} {o:Obj},s₁.heap.get? b=some o->H b=none->(hidT s₁.heap H).get? b=some o:=fun e n=>hidT_get e n
  have noA:∀{b:Addr} {o:Obj} {es:Array DictEntry} {ep:Nat},s₁.heap.get? b=some o->o.data= .dict es ep->H b=none:=fun{b o es ep} e d=>by
   cases q:H b with
   |none=>rfl
   |some u=>
    have e':b=a:=hA b (by rw[q];simp)
    subst e'
    rw[ha]at e;cases e
    have d':Data.seq vs.toArray _=Data.dict es ep:=d
    cases d'
  have nsK:∀{b:Addr} {m:Str->Option Value},s₁.heap.Ns b m->(hidT s₁.heap H).Ns b m:=fun{b m} ⟨o,es,ep,e,d,r⟩=>⟨o,es,ep,base_of e (noA e d),d,r⟩
  have hKb:K.In (hidT s₁.heap H):=fun b o e=>base_of (KX b o e) (by
   cases q:H b with
   |none=>rfl
   |some u=>
    have e':b=a:=hA b (by rw[q];simp)
    subst e'
    rw[hK (by rw[q];simp)]at e;cases e)
  have hM:Mod K mg (hidT s₁.heap H):=⟨hKb,nsK hns,⟨mb,nsK hb,hbb⟩,let⟨mc,h1,h2⟩:=hlim;⟨mc,nsK h1,h2⟩⟩
  have e0:Env0 P w K mg (hidT s₁.heap H) callerA [] s₁ H:=⟨rfl,hM,fun b o e=>of_hidT e,Nat.le_of_eq (hidT_size _ _),trivial,fun b hb=>absurd (show b∈([]:List Addr)from hb) (by simp),hok,.of_eq hg⟩
  refine codeAny_mono ((F _ hKb (nsK hns)).run callerA [] s₁ H ⟨[.ref a],[]⟩ [.ref a] [.ref a] _ _ hr e0 (hbind s₁ (.ref a)) (.cons rfl .nil) (hsp H hO hS)) fun r s' h=> ?_
  cases r with
  |error e=>exact(hCX H e s' h).elim
  |ok fl=>
   cases fl with
   |next=>exact False.elim h
   |brk=>exact False.elim h
   |cont=>exact False.elim h
   |ret u=>
    obtain⟨v,H',os,bare,un,hok',r',q⟩:=h
    have q':v= .bl true:=q
    subst q'
    obtain rfl:u=Value.bool true:=r'
    refine⟨rfl,OldK.of_keep fun b o e=> ?_,os,bare⟩
    cases q:H b with
    |none=>exact un.keep b o e q (by intro z;exact absurd (show b∈([]:List Addr)from z) (by simp)) (by simp)
    |some u=>
     rcases hO b with z|⟨ob,xs,z⟩
     ·rw[q]at z;cases z
     ·have z2:=un.frzs b ob _ z
      obtain⟨e1,_⟩:=hok b _ z
      obtain⟨e2,_⟩:=hok' b _ z2
      rw[e]at e1;cases e1
      exact e2
 cases hk:K.lookup a with
 |some o=>
  -- the script is one of the module's own objects
  have e:=KX a o hk
  rw[ha]at e
  cases e
  refine core (fun _=>none) (fun _=> .inl rfl) (.inr ⟨_,vs.toArray,_,hk,rfl,rfl,rfl,by rw[List.size_toArray,lenV];exact hl,by simpa using rv⟩) (fun b u z=>by have z':(none:Option HO)=some u:=z;cases z') (fun b z=>absurd rfl z) fun z=>absurd rfl z
 |none=>
  refine core (fun b=>if b=a then some (.frz {cls:= .type "list",data:= .seq vs.toArray} (.lst (ns.map V.int)))else none) (fun b=> ?_) (.inl (.inr ⟨{cls:= .type "list",data:= .seq vs.toArray},if_pos rfl⟩)) (fun b u z=> ?_) (fun b z=> ?_) fun _=>hk
  ·by_cases hb:b=a
   ·exact .inr ⟨_,_,if_pos hb⟩
   ·exact .inl (if_neg hb)
  ·by_cases hb:b=a
   ·have z':=(if_pos hb).symm.trans z
    cases z'
    subst hb
    exact⟨ha,by rw[List.length_map];exact hl,vs,_,rv,ha⟩
   ·have z':=(if_neg hb).symm.trans z
    cases z'
  ·by_cases hb:b=a
   ·exact hb
   ·exact absurd (if_neg hb) z
end L2
namespace L2
open PySem PySem.Spec PyProof.Rows
theorem walk_of{l:PySem.W.OpenLaw}{n k:Nat}{q:Program}{loose:List Str}{XP:(Str->Option Value)->Heap->Prop}{YP:World->Heap->Prop}{d:DefRec}{K:Params->PySem.W.Frag}{CX:World->CXT}{sp:World->Sp}{x:Str}(hn:l.most=some n)(hn2:n<=sizeLine)(hdf:d.params.defaults=[])(hr:Room k callerA)(hY:∀(w:World) (h:Heap),YP w h->(K w.params).In h)
  (F:∀(w:World) (mg:Str->Option Value) (fa:Addr) (h:Heap),(K w.params).In h->h.Ns mainGlobals mg->mg d.name=some (.ref fa)->
   ∃fd:FuncData,(∀(s:Shared) (u:Value),BindsTo s fd ⟨[u],[]⟩ [(x,u)])/\
    ∀base:Heap,(K w.params).In base->base.Ns mainGlobals mg->FnOk l.prog w (K w.params) mg base (CX w) k fa fd [x] (sp w))(hsp:∀(w:World) (H:Hp) (a:Addr) (ns:List Int),ns.length<=n->Only H->SqL (K w.params) H a (ns.map V.int)->sp w [.ref a] H (fun v _=>v= .bl true) fun _ _ _=>False)(hCX:∀(w:World) (H:Hp) (s:Shared) (e:Value) (s':Shared),CX w [] H s (fun _ _ _=>False) e s'->False):
  PySem.W.WalkO q loose XP YP l.row.toRowW d [] (fun f vs=>PySem.call f vs):=by
 refine Att.attach_call hn hdf fun w s₀ s₁ mg mb fa o pm cd doc a vs ns G Y ho hd hcd hmg hobj hints hlen hg=> ?_
 have KX:=hY w _ Y
 obtain⟨fd,hb,hF⟩:=F w mg fa _ KX G.T.g hmg
 exact law_call KX G.T.g G.T.b G.T.builtins G.T.nolimit hg hobj hints (Nat.le_trans hlen hn2) hr hF hb (fun H hO hS=>hsp w H a ns hlen hO hS) fun H e s'=>hCX w H s₁ e s'
end L2
namespace L2
open PySem PySem.Spec PyProof.Rows
noncomputable def defArgs(s:Stmt):Arguments:=match s with
 | .FunctionDef _ a _ _ _ _ _ _ _ _=>a
 |_=>{posonlyargs:=[],args:=[],vararg:=none,kwonlyargs:=[],kw_defaults:=[],kwarg:=none,defaults:=[]}
noncomputable def defBody(s:Stmt):List Stmt:=match s with
 | .FunctionDef _ _ b _ _ _ _ _ _ _=>b
 |_=>[]
noncomputable def defScope(s:Stmt):Scope:=match s with
 | .FunctionDef _ _ _ _ _ _ sc _ _ _=>sc
 |_=>{kind:= .function,names:=[],isGenerator:=false,isCoroutine:=false}
noncomputable abbrev CX0:CXT:=fun _ _ _ _ _ _=>False
noncomputable abbrev E0:XK:=fun _ _ _=>False
theorem pass0{X:Cx}:Passes CX0 X E0:=fun _ _ _ _ _ _ _ h=>h.elim
structure Fun(K:W.Frag)(x qual:Str)(st:Stmt)(f:Addr)(fd:FuncData):Prop where
 ex:∃(oc:Value) (od:Option Addr) (kV doc pm:Value) (an:Option Addr) (cdv ct:Value) (osl:Array (Option Value)),
  fd=PySem.W.fnOf x qual (defArgs st) (defBody st) (defScope st) .none kV doc pm an cdv ct/\K.lookup f=some ⟨oc,od,.func fd,osl⟩/\PySem.W.codeIn K cdv qual=true
 kp:PySem.W.keepIn K (.ref f)=true
section
variable{P:Program}{w:World}{K:W.Frag}{mg:Str->Option Value}{base:Heap}
theorem Fun.ok{x qual:Str}{st:Stmt}{f:Addr}{fd:FuncData}{N ps:List Str}{k:Nat}{sp:Sp}(F:Fun K x qual st f fd)(S:FnScope N ps (defScope st))(len:∀vs H Q E,sp vs H Q E->vs.length=ps.length)(hbody:∀(cdv:Value) (A:Around) (outer:List Env) (s:Shared) (H:Hp) (vs:List V) (Q:VK) (E:XK),Room k (A.deeper (envOfC qual (defScope st) s.heap.objs.size f cdv))->sp vs H Q E->
   ∃t,PSs (cxOf CX0 P w K mg base N qual (defScope st) f cdv A outer s H E).nox (defBody st) t/\t {nx:=fun _ H'=>Q .non H',rt:=Q} (start N vs) H):FnOk P w K mg base CX0 (k+1) f fd ps sp:=by
 obtain⟨oc,od,kV,doc,pm,an,cdv,ct,osl,rfl,lk,hcd⟩:=F.ex
 refine fn_of lk hcd S len fun A outer s H vs Q E hr hsp=> ?_
 obtain⟨t,h,q⟩:=hbody cdv A outer s H vs Q E hr hsp
 exact⟨t,h.nox,q⟩
theorem Fun.binds{x qual:Str}{st:Stmt}{f:Addr}{fd:FuncData}{ps:List Str}(F:Fun K x qual st f fd)(h:∀(kV doc pm:Value) (an:Option Addr) (cdv ct:Value) (us:List Value),us.length=ps.length->bindArgs (PySem.W.fnOf x qual (defArgs st) (defBody st) (defScope st) .none kV doc pm an cdv ct) ⟨us,[]⟩=pure (ps.zip us)):Binds K fd ps []:=by
 obtain⟨oc,od,kV,doc,pm,an,cdv,ct,osl,rfl,lk,hcd⟩:=F.ex
 exact .all (h kV doc pm an cdv ct)
theorem zbc{x qual:Str}{st:Stmt}{f:Addr}{oc:Value}{od an:Option Addr}{osl:Array (Option Value)}{kV doc pm cdv ct:Value}(l:K.lookup f=some ⟨oc,od,.func (PySem.W.fnOf x qual (defArgs st) (defBody st) (defScope st) .none kV doc pm an cdv ct),osl⟩)(c:PySem.W.codeIn K cdv qual=true)(k:PySem.W.keepIn K (.ref f)=true):Fun K x qual st f (PySem.W.fnOf x qual (defArgs st) (defBody st) (defScope st) .none kV doc pm an cdv ct):=⟨⟨oc,od,kV,doc,pm,an,cdv,ct,osl,rfl,l,c⟩,k⟩
end
theorem small1000{n:Nat}(h:n<=1000):n<sizeLine:=Nat.lt_of_le_of_lt h (by decide)
section
variable{X:Cx}
theorem pv(i:Nat){x:Str}{pos:Pos}(hN:X.N[i]? =some x:=by rfl)(hv:Vis X.env.scope x:=by first |exact Or.inl rfl|exact Or.inr (Or.inl rfl)|exact Or.inr (Or.inr rfl))(hd:(x==("__debug__":Str))=false:=by decide)(hcd:(x==("__classdict__":Str))=false:=by decide):PE X (.Name x pos) (tVar i):=pe_var hN hv hd hcd
end
theorem iteF{A B:Prop}(h:B):if false=true then A else B:=by
 rw[if_neg Bool.false_ne_true]
 exact h
theorem iteT{A B:Prop}(h:A):if true=true then A else B:=by
 rw[if_pos rfl]
 exact h
theorem ite2{c A B:Prop} [Decidable c](h1:c->A)(h2:¬c->B):if c then A else B:=by
 by_cases h:c
 ·rw[if_pos h]
  exact h1 h
 ·rw[if_neg h]
  exact h2 h
theorem iteNS{c A B:Prop} [Decidable c](hc:c)(h:B):if(!decide c)=true then A else B:=by
 rw[decide_eq_true hc]
 exact iteF h
noncomputable def Same(H H':Hp):Prop:=∀b o,H b=some o->H' b=some o
theorem Same.refl(H:Hp):Same H H:=fun _ _ h=>h
theorem Same.trans{H H1 H2:Hp}(a:Same H H1)(b:Same H1 H2):Same H H2:=fun c o h=>b c o (a c o h)
theorem Same.free{H H':Hp}(e:Same H H'){l:Addr}(h:H' l=Option.none):H l=Option.none:=by
 cases q:H l with
 |none=>rfl
 |some o=>
  rw[e l o q]at h
  cases h
theorem Same.seq{K:W.Frag}{H H':Hp}{a:Addr}{xs:List V}(e:Same H H')(h:SqL K H a xs):SqL K H' a xs:=by
 rcases h with(h|⟨o,h⟩)|h
 ·exact .inl (.inl (e _ _ h))
 ·exact .inl (.inr ⟨o,e _ _ h⟩)
 ·exact .inr h
end L2
set_option maxHeartbeats 4000000
namespace L2
open PySem PySem.Spec PyProof.Rows
noncomputable def clOf(cells:List (Str×Addr)):List (Str×NameKind)->List (Str×Addr)->List (Str×Addr)
 |[],acc=>acc
 |p::r,acc=>clOf cells r (if(p.2==NameKind.free)=true then(p.1,(cells.lookup p.1).getD 0)::acc else acc)
theorem clOf_mem{cells:List (Str×Addr)}:∀{names:List (Str×NameKind)} {acc:List (Str×Addr)} {x:Str} {c:Addr},(x,c)∈clOf cells names acc->(x,c)∈acc\/c=(cells.lookup x).getD 0/\(x,NameKind.free)∈names
 |[],_,_,_,h=> .inl h
 |(n,k)::r,acc,x,c,h=>by
  rcases clOf_mem (names:=r) h with q|⟨q,m⟩
  ·dsimp only at q
   split at q
   ·rename_i hk
    rcases List.mem_cons.mp q with e|e
    ·cases e
     have:k=NameKind.free:=by simpa using hk
     subst this
     exact .inr ⟨rfl,List.mem_cons_self⟩
    ·exact .inl e
   ·exact .inl q
  ·exact .inr ⟨q,List.mem_cons_of_mem _ m⟩
theorem clOf_acc{cells:List (Str×Addr)}:∀{names:List (Str×NameKind)} {acc:List (Str×Addr)} {p:Str×Addr},p∈acc->p∈clOf cells names acc
 |[],_,_,h=>h
 |(n,k)::r,acc,p,h=>by
  refine clOf_acc (names:=r) ?_
  split
  ·exact List.mem_cons_of_mem _ h
  ·exact h
theorem clOf_has{cells:List (Str×Addr)}:∀{names:List (Str×NameKind)} {acc:List (Str×Addr)} {x:Str},(x,NameKind.free)∈names->∃c,(x,c)∈clOf cells names acc
 |(n,k)::r,acc,x,h=>by
  rcases List.mem_cons.mp h with e|e
  ·cases e
   refine⟨(cells.lookup n).getD 0,clOf_acc (names:=r) ?_⟩
   rw[if_pos (show(NameKind.free==NameKind.free)=true from rfl)]
   exact List.mem_cons_self
  ·exact clOf_has (names:=r) e
theorem zdk{β:Type}:∀{l:List (Str×β)} {x:Str} {c:β},(x,c)∈l->∃d,l.lookup x=some d/\(x,d)∈l
 |(n,k)::r,x,c,h=>by
  cases hx:x==n with
  |true=>
   have e:x=n:=by simpa using hx
   subst e
   exact⟨k,by simp[List.lookup_cons],List.mem_cons_self⟩
  |false=>
   rcases List.mem_cons.mp h with e|e
   ·cases e;simp at hx
   ·obtain⟨d,h1,h2⟩:=zdk e
    exact⟨d,by simp only[List.lookup_cons,hx];exact h1,List.mem_cons_of_mem _ h2⟩
noncomputable def compOk(sc scope:Scope):Bool:=scope.names.all fun p=>(p.2 !=NameKind.cell)&&(p.2 !=NameKind.local||scope.names.lookup p.1==some NameKind.local)&&
 (p.2 !=NameKind.free||sc.names.lookup p.1==some NameKind.cell||sc.names.lookup p.1==some NameKind.free)
section
variable{sc scope:Scope}
theorem compOk.cell(h:compOk sc scope=true):∀y∈scope.names,y.2≠.cell:=fun y hy e=>by
 have q:=List.all_eq_true.mp h y hy
 simp[e]at q
theorem compOk.names(h:compOk sc scope=true):∀y∈scope.names,y.2= .local->scope.names.lookup y.1=some .local:=fun y hy e=>by
 have q:=List.all_eq_true.mp h y hy
 simpa[e]using q
theorem compOk.free(h:compOk sc scope=true){x:Str}(hy:(x,NameKind.free)∈scope.names):sc.names.lookup x=some .cell\/sc.names.lookup x=some .free:=by
 have q:=List.all_eq_true.mp h _ hy
 simpa using q
end
theorem closure_of{scope:Scope}{env:Env}(h:∀x,(x,NameKind.free)∈scope.names->∃c,env.cells.lookup x=some c):closureFor scope env=pure (clOf env.cells scope.names []):=by
 have key:∀(names:List (Str×NameKind)) (acc:List (Str×Addr)),(∀x,(x,NameKind.free)∈names->∃c,env.cells.lookup x=some c)->
   (forIn names acc fun(x:Str×NameKind) (cs:List (Str×Addr))=>if(x.2==NameKind.free)=true then(do let y<-cellOf env x.1;pure (ForInStep.yield ((x.1,y)::cs)))else pure (ForInStep.yield cs):Sem (List (Str×Addr)))=pure (clOf env.cells names acc):=by
  intro names
  induction names with
  |nil=>intro acc _;rfl
  |cons p r ih=>
   intro acc hh
   obtain⟨n,k⟩:=p
   rw[List.forIn_cons]
   dsimp only
   by_cases hk:(k==NameKind.free)=true
   ·have e:k=NameKind.free:=by simpa using hk
    subst e
    obtain⟨c,hc⟩:=hh n List.mem_cons_self
    rw[if_pos hk]
    unfold cellOf
    rw[hc]
    simp only[pure_bind]
    refine Eq.trans (ih _ fun x hx=>hh x (List.mem_cons_of_mem _ hx)) ?_
    show _=pure (clOf env.cells r (if(NameKind.free==NameKind.free)=true then(n,(env.cells.lookup n).getD 0)::acc else acc))
    rw[if_pos hk,hc]
    rfl
   ·rw[if_neg hk]
    simp only[pure_bind]
    refine Eq.trans (ih _ fun x hx=>hh x (List.mem_cons_of_mem _ hx)) ?_
    show _=pure (clOf env.cells r (if(k==NameKind.free)=true then(n,(env.cells.lookup n).getD 0)::acc else acc))
    rw[if_neg hk]
 have q:=key scope.names [] h
 unfold closureFor
 simp only[bind_pure]
 exact q
theorem relab_look{env:Env}:∀{names:List (Str×NameKind)} {x:Str} {k:NameKind},names.lookup x=some k->
  (names.map fun(n,k)=>if(k==NameKind.free&&env.scope.kind== .function&&env.kindOf n==some .cell)then(n,NameKind.cell)else(n,k)).lookup x=some (if(k==NameKind.free&&env.scope.kind== .function&&env.kindOf x==some .cell)=true then .cell else k)
 |[],_,_,h=>by simp at h
 |(n,k)::r,x,k',h=>by
  have ih:= @relab_look env r x k'
  show List.lookup x ((if(k==NameKind.free&&env.scope.kind== .function&&env.kindOf n==some .cell)=true then(n,NameKind.cell)else(n,k))::_)=_
  cases hx:x==n with
  |true=>
   have e:x=n:=by simpa using hx
   subst e
   simp only[List.lookup_cons,hx]at h
   cases h
   by_cases hc:(k==NameKind.free&&env.scope.kind== .function&&env.kindOf x==some .cell)=true
   ·rw[if_pos hc,if_pos hc];simp[List.lookup_cons]
   ·rw[if_neg hc,if_neg hc];simp[List.lookup_cons]
  |false=>
   simp only[List.lookup_cons,hx]at h
   by_cases hc:(k==NameKind.free&&env.scope.kind== .function&&env.kindOf n==some .cell)=true
   ·rw[if_pos hc];simp only[List.lookup_cons,hx];exact ih h
   ·rw[if_neg hc];simp only[List.lookup_cons,hx];exact ih h
theorem relab_none{env:Env}:∀{names:List (Str×NameKind)} {x:Str},names.lookup x=none->
  (names.map fun(n,k)=>if(k==NameKind.free&&env.scope.kind== .function&&env.kindOf n==some .cell)then(n,NameKind.cell)else(n,k)).lookup x=none
 |[],_,_=>rfl
 |(n,k)::r,x,h=>by
  have ih:= @relab_none env r x
  show List.lookup x ((if(k==NameKind.free&&env.scope.kind== .function&&env.kindOf n==some .cell)=true then(n,NameKind.cell)else(n,k))::_)=_
  cases hx:x==n with
  |true=>simp only[List.lookup_cons,hx]at h;cases h
  |false=>
   simp only[List.lookup_cons,hx]at h
   by_cases hc:(k==NameKind.free&&env.scope.kind== .function&&env.kindOf n==some .cell)=true
   ·rw[if_pos hc];simp only[List.lookup_cons,hx];exact ih h
   ·rw[if_neg hc];simp only[List.lookup_cons,hx];exact ih h
theorem relab_cell{scope:Scope}{env:Env}{x:Str}(hc:∀y∈scope.names,y.2≠.cell)(h:(relabel scope env).names.lookup x=some .cell\/(relabel scope env).names.lookup x=some .free):(x,NameKind.free)∈scope.names:=by
 cases e:scope.names.lookup x with
 |none=>
  have q:=relab_none (env:=env) e
  rcases h with h|h
  ·rw[show(relabel scope env).names.lookup x=none from q]at h;cases h
  ·rw[show(relabel scope env).names.lookup x=none from q]at h;cases h
 |some k=>
  have q:=relab_look (env:=env) e
  have m:=PySem.mem_of_lookup e
  by_cases hk:k= .free
  ·subst hk;exact m
  ·have q':(relabel scope env).names.lookup x=some k:=by
    refine Eq.trans q ?_
    have:(k==NameKind.free)=false:=by simpa using hk
    simp[this]
   rw[q']at h
   rcases h with h|h
   ·cases h;exact absurd rfl (hc _ m)
   ·cases h;exact absurd rfl hk
theorem relab_free{scope:Scope}{env:Env}{x:Str}(h:scope.names.lookup x=some .free):(relabel scope env).names.lookup x=some .cell\/(relabel scope env).names.lookup x=some .free:=by
 have q:=relab_look (env:=env) h
 by_cases hc:((NameKind.free==NameKind.free)&&env.scope.kind== .function&&env.kindOf x==some .cell)=true
 ·rw[if_pos hc]at q;exact .inl q
 ·rw[if_neg hc]at q;exact .inr q
noncomputable def compCx(X:Cx)(scope:Scope)(N:List Str)(s:Shared)(H:Hp)(cl:List (Str×Addr))(C:Addr)(ex:List Addr):Cx:=
 {X with N:=N,s₀:=s,H₀:=H,env:=compEnvC scope cl C X.env,outer:=X.stack,ex:=ex,fn:=fun _=>false,pn:=[],xe:=fun _ _=>False}
inductive Caps(X:Cx)(scope:Scope):List Str->List Nat->Prop
 |nil:Caps X scope [] []
 |cons {x:Str} {j:Nat} {xs:List Str} {js:List Nat} (hN:X.N[j]? =some x) (hf:scope.names.lookup x=some .free) (t:Caps X scope xs js):Caps X scope (x::xs) (j::js)
theorem Caps.get{X:Cx}{scope:Scope}:∀{xs:List Str} {js:List Nat} {k:Nat} {x:Str},Caps X scope xs js->xs[k]? =some x->∃j,js[k]? =some j/\X.N[j]? =some x/\scope.names.lookup x=some .free
 |_,_,k,x,.nil,h=>by simp at h
 |_,_,0,x,.cons h1 h2 _,h=>by simp at h;subst h;exact⟨_,rfl,h1,h2⟩
 |_,_,k+1,x,.cons _ _ t,h=>by
  obtain⟨j,a,b⟩:=Caps.get (k:=k) t (by simpa using h)
  exact⟨j,by simpa using a,b⟩
theorem Caps.len{X:Cx}{scope:Scope}:∀{xs:List Str} {js:List Nat},Caps X scope xs js->xs.length=js.length
 |_,_,.nil=>rfl
 |_,_,.cons _ _ t=>by simp[Caps.len t]
noncomputable def iniOf(own:List Str)(ix:List Nat)(σ:St):St:=own.map (fun _=>none)++ix.map fun j=>(σ[j]?).join
noncomputable def PTs(X:Cx)(ifs:List Expr)(t:TT):Prop:=
 ∀(pins:List (Addr×Obj)) (s:Shared) (σ:St) (H:Hp) (Q:Bool->Hp->Prop),Inv X pins σ H s->t σ H Q->
  wpAny (model X.prog X.w) X.A (forIn ifs true fun c r=>if r=true then do let ok<-isTrue c X.env (eval c X.env);pure (ForInStep.yield ok)else pure (ForInStep.yield r)) (TP X pins σ Q) X.xe s
theorem zdc{X:Cx}:PTs X [] (fun _ H Q=>Q true H):=fun _ _ _ H _ I h=>wpAny_tests_nil ⟨H,I,h⟩
theorem zdl{X:Cx}{c:Expr}{t:TT}(h:PT X c t):PTs X [c] t:=fun pins s σ H Q I hq=>wpAny_tests_one (h pins s σ H Q I hq)
theorem HOk.add{P:Program}{w:World}{H:Hp}{h:Heap}{a:Addr}{o:HO}(x:HOk P w H h)(hn:H a=none)(new:ObjOk P w (upd H a o) h a o):HOk P w (upd H a o) h:=fun b u e=>by
 by_cases hb:b=a
 ·subst hb;rw[zac]at e;cases e;exact new
 ·rw[zbd hb]at e
  exact(x b u e).stay (fun c v _ q=>q) (fun c q=>by rw[zbd (zaz q hn)];exact q) fun c xs q=>by rw[zbd (zaz q hn)];exact q
theorem Un.add{fs ex:List Addr}{H H':Hp}{h h':Heap}{a:Addr}{o:HO}(u:Un fs ex H H' h h')(ha:h.objs.size<=a)(hn:H' a=none):Un fs ex H (upd H' a o) h h' where
 keep:=u.keep
 slot:=u.slot
 free:=fun b ob q n hx=>by rw[zbd (Nat.ne_of_lt (Nat.lt_of_lt_of_le (Heap.lt_size q) ha))];exact u.free b ob q n hx
 there:=u.there
 tups:=fun b xs q=>by have:=u.tups b xs q;rw[zbd (zaz this hn)];exact this
 frzs:=fun b ob xs q=>by have:=u.frzs b ob xs q;rw[zbd (zaz this hn)];exact this
 tbls:=fun b ps q=>by obtain⟨m,e⟩:=u.tbls b ps q;exact⟨m,by rw[zbd (zaz e hn)];exact e⟩
end L2
namespace L2
open PySem PySem.Spec PyProof.Rows
section
variable{X:Cx}{tg iter elt:Expr}{ifs:List Expr}{scope:Scope}{pos:Pos}{own caps:List Str}{ix:List Nat}{g:TG}{tc:TT}{te:TE}
theorem comp_entry{pins:List (Addr×Obj)}{s s':Shared}{σ:St}{H:Hp}{fp:List Addr}{C:Addr}{m:Str->Option Value}(ck:compOk X.env.scope scope=true)(hkind:scope.kind= .function)(hcap:Caps X scope caps ix)
  (I:Inv X pins σ H s)(f2:∀b∈fp,FpOk X pins H b)(hlt:∀b∈fp,b<s.heap.objs.size)(hC:s.heap.objs.size<=C)(hos:s'.os=s.os)(hg:AllBare s'.gens)(hk:∀b o,s.heap.get? b=some o->s'.heap.get? b=some o)(hn:s'.heap.Ns C m):
  Inv (compCx X scope (own++caps) s H (clOf X.env.cells scope.names []) C fp) [] (iniOf own ix σ) H s':=by
 have cl1:∀x c,(clOf X.env.cells scope.names []).lookup x=some c->X.env.cells.lookup x=some c:=fun x c e=>by
  rcases clOf_mem (PySem.mem_of_lookup e)with q|⟨q,mm⟩
  ·cases q
  ·obtain⟨d,hd⟩:=I.ok.has x (compOk.free ck mm)
   rw[hd]at q
   rw[hd,q];rfl
 have cl2:∀x,(x,NameKind.free)∈scope.names->∃c,(clOf X.env.cells scope.names []).lookup x=some c:=fun x mm=>by
  obtain⟨c,hc⟩:=clOf_has (cells:=X.env.cells) (acc:=[]) mm
  obtain⟨d,hd,_⟩:=zdk hc
  exact⟨d,hd⟩
 have bsz:X.base.objs.size<=s.heap.objs.size:=Nat.le_trans I.ok.bsz I.sz
 refine⟨⟨I.ok.mod,hkind,I.ok.glob,I.ok.blt,hC,fun x y c h1 h2=>I.ok.inj x y c (cl1 x c h1) (cl1 y c h2),fun x hx=>cl2 x (relab_cell (compOk.cell ck) hx),fun x c h=>(nomatch h),I.ok.hd,I.ok.frames,.inl rfl,fun b hb=>⟨Nat.ne_of_lt (Nat.lt_of_lt_of_le (hlt b hb) hC),fun x c e=>(f2 b hb).2.2.2.2.1 x c (cl1 x c e)⟩,I.bs,bsz,
  fun b o e hb=> ?_,fun b hb hz=> ?_,I.stack,I.stkFree⟩,?_,hg,Un.kept hk,⟨m,hn,fun i x v h1 h2 h3=> ?_⟩,fun x c e=> ?_,I.hok.fresh hC,fun x c e=>I.freeC x c (cl1 x c e),fun p hp=>absurd (show p∈([]:List (Addr×Obj))from hp) (by simp),I.hok.kept hk,?_⟩
 ·rcases(f2 b hb).2.2.2.1 with z|z
  ·exact I.ok.noex b o e z
  ·exact absurd (Nat.lt_of_lt_of_le (Heap.lt_size e) (Nat.le_trans I.ok.bsz z)) (Nat.lt_irrefl _)
 ·rcases List.mem_cons.mp (I.stkSub b hz)with z|z
  ·exact(f2 b hb).2.1 z
  ·exact(f2 b hb).2.2.1 z
 ·exact hos
 ·have h1:(own++caps)[i]? =some x:=h1
  have h2:(own.map (fun _=>(none:Option V))++ix.map fun j=>(σ[j]?).join)[i]? =some (some v):=h2
  by_cases hi:i<own.length
  ·rw[List.getElem?_append_left (by simpa using hi),List.getElem?_map]at h2
   cases e:own[i]? <;>rw[e]at h2<;>simp at h2
  ·rw[List.getElem?_append_right (by simpa using hi)]at h2
   rw[List.getElem?_append_right (by omega)]at h1
   rw[List.length_map]at h2
   obtain⟨j,e1,e2,e3⟩:=hcap.get h1
   rw[List.getElem?_map,e1]at h2
   have h2':(σ[j]?).join=some v:=by simpa using h2
   have h4:σ[j]? =some (some v):=by
    cases q:σ[j]? with
    |none=>rw[q]at h2';cases h2'
    |some w=>rw[q]at h2';exact congrArg some h2'
   obtain⟨m0,hn0,hl0⟩:=I.loc
   have mm:=PySem.mem_of_lookup e3
   have vis:=compOk.free ck mm
   obtain⟨u,r,l⟩:=hl0 j x v e2 h4 (.inr vis)
   refine⟨u,r,.inr ?_⟩
   rcases l with⟨k,_⟩|⟨k,c,e,z⟩
   ·rcases vis with q|q
    ·rw[show X.env.kindOf x=some .cell from q]at k;cases k
    ·rw[show X.env.kindOf x=some .free from q]at k;cases k
   ·obtain⟨d,hd⟩:=cl2 x mm
    have:=cl1 x d hd
    rw[e]at this
    cases this
    exact⟨relab_free e3,c,hd,z.keeps hk⟩
 ·obtain⟨v,z⟩:=I.cell x c (cl1 x c e)
  exact⟨v,z.keeps hk⟩
 ·show(own.map (fun _=>(none:Option V))++ix.map fun j=>(σ[j]?).join).length=(own++caps).length
  simp[hcap.len]
theorem comp_core(ck:compOk X.env.scope scope=true)(hkind:scope.kind= .function)(hcap:Caps X scope caps ix)(hc:X.calm=true)(hg:∀s H cl C ex,PG (compCx X scope (own++caps) s H cl C ex) tg g)(ht:∀s H cl C ex,PTs (compCx X scope (own++caps) s H cl C ex) ifs tc)(he:∀s H cl C ex,PE (compCx X scope (own++caps) s H cl C ex) elt te){pins:List (Addr×Obj)}{s2:Shared}{σ:St}{H2:Hp}{E:Value->Shared->Prop}(I2:Inv X pins σ H2 s2){it:Addr}{fp:List Addr}{tn:Nat->Heap->Prop}{J:It}(T:Turn X.prog X.w X.K tg J fp it tn)(st2:tn 0 s2.heap)(f2:∀b∈fp,FpOk X pins H2 b)
  {W:Nat->Nat->List V->St->Hp->Prop}{m0:Nat}(w0:W 0 m0 [] (iniOf own ix σ) H2){Fin:List V->Hp->Prop}(turn:∀i m acc σ H,W i m acc σ H->(J.stop i H/\acc.length<=sizeLine/\Fin acc H)\/(J.go i H/\acc.length<sizeLine/\∃N:List V->St->Hp->Prop,(∀acc' σ' H',N acc' σ' H'->∃m',m'<m/\W (i+1) m' acc' σ' H')/\∀x H',J.yld i H x H'->g x σ H' fun σ2 H2=>tc σ2 H2 fun b H3=>
   if b=true then te σ2 H3 fun v H4=>N (acc++[v]) σ2 H4 else N acc σ2 H3))
  {RR:Value->Addr->Result->Shared->Prop}(hRR:∀D C s' acc Hf m,Inv X pins σ (upd Hf D (.lst acc)) s'->Hf D=none->s'.heap.Ns C m->FpOk X pins (upd Hf D (.lst acc)) C->Fin acc Hf->RR (.ref D) C (.ok .next) s'):
  wpAny (model X.prog X.w) X.A (newList []) (fun acc s₃=>wpAny (model X.prog X.w) X.A (newFunctionEnv scope X.env.globals (clOf X.env.cells scope.names []) [] X.env.qual none .none (some X.env)) (fun cenv s₄=>
   codeAny (model X.prog X.w) X.A (.compStart (.ListComp elt [⟨tg,iter,ifs,0⟩] scope pos) 0 (.ref it) acc {cenv with scope:=relabel scope X.env}) (RR acc cenv.locals) s₄) E s₃) E s2:=by
 refine wpAny_newObj_type (wpAny_newFunctionEnv (compOk.cell ck) (by intro y hy;simp at hy) (fun h₁ hns₁ hsb₁=> ?_) hkind)
 dsimp only at hns₁ hsb₁⊢
 generalize hP:s2.heap.push {cls:= .type "list",dict:=none,data:= .seq ([]:List Value).toArray}=P1 at hns₁ hsb₁⊢
 have hC:P1.objs.size=s2.heap.objs.size+1:=by rw[<-hP,Heap.size_push]
 have hlt:∀b∈fp,b<s2.heap.objs.size:=fun b hb=>by
  obtain⟨o,e,_⟩:=T.obj _ _ st2 b hb
  exact Heap.lt_size e
 have old:∀b o,s2.heap.get? b=some o->h₁.get? b=some o:=fun b o e=>
  hsb₁.extBut b o (by rw[hC];exact Nat.ne_of_lt (Nat.lt_succ_of_lt (Heap.lt_size e))) (Heap.get?_push_of_some _ (hP▸Heap.get?_push_of_some _ e))
 have hD1:h₁.get? s2.heap.objs.size=some {cls:= .type "list",data:= .seq ([]:List Value).toArray 0}:=
  hsb₁.extBut _ _ (by rw[hC];exact Nat.ne_of_lt (Nat.lt_succ_self _)) (Heap.get?_push_of_some _ (hP▸Heap.get?_push_size _ rfl))
 generalize hDD:s2.heap.objs.size=D at *
 rw[hC]at hns₁⊢
 have entry:Inv (compCx X scope (own++caps) s2 H2 (clOf X.env.cells scope.names []) (D+1) fp) [] (iniOf own ix σ) H2 {s2 with heap:=h₁,toks:=s2.toks+([]:List (Str×Value)).length}:=
  comp_entry ck hkind hcap I2 f2 (by rw[hDD];exact hlt) (by rw[hDD];exact Nat.le_succ _) rfl I2.bare old hns₁
 generalize hX':compCx X scope (own++caps) s2 H2 (clOf X.env.cells scope.names []) (D+1) fp=X' at entry
 have eP:X'.prog=X.prog:=by rw[<-hX'];rfl
 have ew:X'.w=X.w:=by rw[<-hX'];rfl
 have eK:X'.K=X.K:=by rw[<-hX'];rfl
 have eA:X'.A=X.A:=by rw[<-hX'];rfl
 have ecalm:X'.calm=true:=by rw[<-hX'];exact hc
 have efs:X'.fs=frs X.stack:=by rw[<-hX'];rfl
 have eex:X'.ex=fp:=by rw[<-hX'];rfl
 have epn:X'.pn=[]:=by rw[<-hX'];rfl
 have es0:X'.s₀=s2:=by rw[<-hX'];rfl
 have eH0:X'.H₀=H2:=by rw[<-hX'];rfl
 have exe:X'.xe=fun _ _=>False:=by rw[<-hX'];rfl
 have eenv:X'.env=compEnvC scope (clOf X.env.cells scope.names []) (D+1) X.env:=by rw[<-hX'];rfl
 have eloc:X'.env.locals=D+1:=by rw[eenv];rfl
 have hg':PG X' tg g:=by rw[<-hX'];exact hg _ _ _ _ _
 have ht':PTs X' ifs tc:=by rw[<-hX'];exact ht _ _ _ _ _
 have he':PE X' elt te:=by rw[<-hX'];exact he _ _ _ _ _
 have ecl:∀x c,X'.env.cells.lookup x=some c->c<D:=fun x c e=>by
  obtain⟨v,o,ho,_⟩:=entry.cell x c e
  have hcn:=entry.freeC x c e
  -- a cell of the enclosing frame: it lies in s2's heap
  rw[eenv]at e
  rcases clOf_mem (PySem.mem_of_lookup e)with q|⟨q,mm⟩
  ·cases q
  ·obtain⟨d,hd⟩:=I2.ok.has x (compOk.free ck mm)
   rw[hd]at q
   have q:c=d:=q
   subst q
   obtain⟨v',o',ho',_⟩:=I2.cell x c hd
   rw[<-hDD]
   exact Heap.lt_size ho'
 have dfs:D∉frs X.stack:=fun hb=>by
  rcases List.mem_cons.mp (I2.stkSub D hb)with z|z
  ·exact absurd (Nat.lt_of_lt_of_eq I2.lt hDD) (by rw[z];exact Nat.lt_irrefl _)
  ·exact I2.nofs (Nat.le_of_eq hDD) z
 have fpn:∀{H':Hp} {o:Obj},(∀b∈fp,H' b=none)->∀b∈fp,FpOk X' [(D,o)] H' b:=fun{H' o} hn b hb=>by
  have hbl:=hlt b hb
  refine⟨hn b hb,by rw[eloc];exact Nat.ne_of_lt (Nat.lt_succ_of_lt hbl),?_,.inl (by rw[eex];exact hb),fun x c e=> ?_,fun p hp=> ?_⟩
  ·rw[efs]
   intro z
   rcases List.mem_cons.mp (I2.stkSub b z)with z|z
   ·exact(f2 b hb).2.1 z
   ·exact(f2 b hb).2.2.1 z
  ·rw[eenv]at e
   rcases clOf_mem (PySem.mem_of_lookup e)with q|⟨q,mm⟩
   ·cases q
   ·obtain⟨d,hd⟩:=I2.ok.has x (compOk.free ck mm)
    rw[hd]at q
    have q:c=d:=q
    subst q
    exact(f2 b hb).2.2.2.2.1 x c hd
  ·rw[epn]at hp
   have:p=(D,o):=by simpa using hp
   rw[this]
   exact Nat.ne_of_gt hbl
 have pinD:∀{σ':St} {H':Hp} {s':Shared} {o:Obj},Inv X' [] σ' H' s'->s'.heap.get? D=some o->H' D=none->(∀v,o.data≠.cell v)->Inv X' [(D,o)] σ' H' s':=fun{σ' H' s' o} I e n d=>
  I.pins_of fun p hp=>by
   have:p=(D,o):=by simpa using hp
   subst this
   exact⟨e,n,by rw[eloc];exact Nat.ne_of_lt (Nat.lt_succ_self D),by rw[efs];exact dfs,d⟩
 have loop:∀s₃:Shared,s₃={s2 with heap:=h₁,toks:=s2.toks+([]:List (Str×Value)).length}->
   codeAny (model X.prog X.w) X.A (.compLoop (.ListComp elt [⟨tg,iter,ifs,0⟩] scope pos) 0 (.ref it) (.ref D) X'.env) (RR (.ref D) (D+1)) s₃:=by
  intro s₃ hs₃
  refine codeAny_loop rfl (fun n s'=>∃i acc its k σ' H',Inv X' [] σ' H' s'/\tn i s'.heap/\(∀b∈fp,H' b=none)/\s'.heap.get? D=some {cls:= .type "list",data:= .seq (List.toArray its) k}/\Vals acc its/\H' D=none/\W i n acc σ' H') ?_ m0
   ⟨0,[],[],0,iniOf own ix σ,H2,by rw[hs₃];exact entry,by rw[hs₃];exact T.keep _ _ _ st2 fun b _ o e=>old b o e,fun b hb=>(f2 b hb).1,by rw[hs₃];exact hD1,.nil,I2.hok.fresh (Nat.le_of_eq hDD),w0⟩
  rintro n s3 ⟨i,acc,its,k,σ3,H3,I3,st3,fr3,eD,rv,nD,w3⟩
  show wpAny _ X.A ((compTurn (.ListComp elt [⟨tg,iter,ifs,0⟩] scope pos) 0 (.ref it) (.ref D) X'.env).onRaise (fun x=>do noteFrame x X'.env;theTreesLotGoes x)) _ _ s3
  refine wpAny_noted ?_
  rw[compTurn_list]
  have noE:∀{α:Type} {t:Sem α} {Q:α->Shared->Prop} {E':Value->Shared->Prop} {s:Shared},wpAny (model X'.prog X'.w) X'.A t Q X'.xe s->wpAny (model X.prog X.w) X.A t Q E' s:=fun{α t Q E' s} h=>by
   rw[eP,ew,eA,exe]at h
   exact wpAny_mono h (fun _ _ q=>q) fun _ _ z=>z.elim
  have I3':=pinD (o:={cls:= .type "list",data:= .seq (List.toArray its) k}) I3 eD nD (fun v z=>by
   have z':Data.seq (List.toArray its) k=Data.cell v:=z
   cases z')
  refine wpAny_bind (wpAny_standAt (wpAny_bind ?_))
  rcases turn i n acc σ3 H3 w3 with⟨stop,hz,fin⟩|⟨go,hz,Nn,hN,step⟩
  ·have q:=T.done X' eP ew eK ecalm i [(D,_)] s3 σ3 H3 (notedBy (model X.prog X.w) X.A X'.env fun e s'=>RR (.ref D) (D+1) (.error e) s') I3' (fpn fr3) st3 stop
   rw[eA]at q
   refine thn q fun r s4 ⟨hr,I4⟩=> ?_
   subst hr
   refine wpAny_pure ?_
   obtain⟨e4,_⟩:=I4.pin (D,_) (List.mem_append_right _ List.mem_cons_self)
   obtain⟨mC,hnC,_⟩:=I4.loc
   have u4:=I4.base
   rw[efs,eex,eH0,es0]at u4
   have ok4:=I4.hok
   rw[eP,ew]at ok4
   have nC:H3 (D+1)=none:=by have:=I4.free;rw[eloc]at this;exact this
   have hok:HOk X.prog X.w (upd H3 D (.lst acc)) s4.heap:=ok4.add nD ⟨hz,its,k,rv,e4⟩
   refine hRR D (D+1) s4 acc H3 mC ?_ nD (by rw[eloc]at hnC;exact hnC) ?_ fin
   ·refine I2.call' (s':=s4) (ch:=fp) ?_ (u4.add (by rw[hDD];exact Nat.le_refl _) nD) hok I4.bare fun b hb=> ?_
    ·have:=I4.os;rw[es0]at this;exact this
    ·obtain⟨f0,f1,f3,f4,f5,f6⟩:=f2 b hb
     exact⟨f4,f1,f5,f6⟩
   ·refine I2.fpOk (by rw[hDD];exact Nat.le_succ _) ?_
    rw[zbd (Nat.ne_of_gt (Nat.lt_succ_self D))]
    exact nC
  ·have q:=T.item X' eP ew eK ecalm i [(D,_)] s3 σ3 H3 (notedBy (model X.prog X.w) X.A X'.env fun e s'=>RR (.ref D) (D+1) (.error e) s') I3' (fpn fr3) st3 go
   rw[eA]at q
   refine thn q fun r s4 ⟨u,hr,h4⟩=> ?_
   subst hr
   dsimp only
   refine wpAny_bind (thn h4 fun _ s5 ⟨x,H5,I5,r5,y5,st5,fr5⟩=> ?_)
   have I5':=I5.pinned (fpn fr5) (T.obj _ _ st5)
   have again:∀{σ7:St} {H7:Hp} {s7:Shared},Inv X' ([(D,{cls:= .type "list",data:= .seq (List.toArray its) k})]++pinsAt fp s5.heap) σ7 H7 s7->tn (i+1) s7.heap/\(∀b∈fp,H7 b=none)/\s7.heap.get? D=some {cls:= .type "list",data:= .seq (List.toArray its) k}/\H7 D=none:=fun{σ7 H7 s7} I7=>by
    refine⟨T.keep _ _ _ st5 fun b hb o e=>(I7.pin (b,o) (List.mem_append_right _ (List.mem_append_right _ (mem_pinsAt hb e)))).1,fun b hb=> ?_,?_⟩
    ·obtain⟨o,e,d⟩:=T.obj _ _ st5 b hb
     exact(I7.pin (b,o) (List.mem_append_right _ (List.mem_append_right _ (mem_pinsAt hb e)))).2.1
    ·have:=I7.pin (D,_) (List.mem_append_right _ (List.mem_append_left _ List.mem_cons_self))
     exact⟨this.1,this.2.1⟩
   refine wpAny_bind (thn (noE (hg' _ s5 σ3 H5 x u _ I5' r5 (step x H5 y5))) fun _ s6 ⟨σ6,H6,I6,q6⟩=> ?_)
   refine wpAny_bind (thn (noE (ht' _ s6 σ6 H6 _ I6 q6)) fun ok s7 ⟨H7,I7,q7⟩=> ?_)
   cases ok with
   |false=>
    rw[if_neg Bool.false_ne_true]at q7
    obtain⟨m',hm,w7⟩:=hN _ _ _ q7
    obtain⟨a1,a2,a3,a4⟩:=again I7
    exact wpAny_pure ⟨rfl,m',hm,i+1,acc,its,k,σ6,H7,I7.pins_of (fun p hp=>nomatch hp),a1,a2,a3,rv,a4,w7⟩
   |true=>
    rw[if_pos rfl]at q7
    refine wpAny_bind (wpAny_bind (thn (noE (he' _ s7 σ6 H7 _ I7 q7)) fun v s8 ⟨y,H8,I8,r8,q8⟩=> ?_))
    obtain⟨m',hm,w8⟩:=hN _ _ _ q8
    obtain⟨a1,a2,a3,a4⟩:=again I8
    have hl:=rv.length
    refine wpAny_bind (call_meets F.slot_list_append ⟨_,a3,rfl⟩ F.entry_list_append (F.args_list_append_2 _ _) (PySem.list_append D its.toArray k v (by rw[List.size_toArray];omega)) ⟨a3,?_⟩)
    refine wpAny_pure (wpAny_pure ⟨rfl,m',hm,i+1,acc++[y],its++[v],?_⟩)
    have qD:=PySem.IsL.update a3 (fun a:Array Value=>a.push v)
    rw[List.push_toArray]at qD
    have kp:∀b o,b≠D->s8.heap.get? b=some o->(s8.heap.update D (Obj.mapSeq fun a=>a.push v)).get? b=some o:=fun b o hb e=>(Heap.get?_update_other s8.heap _ (Ne.symm hb)).trans e
    have I8':Inv X' [] σ6 H8 {s8 with heap:=s8.heap.update D (Obj.mapSeq fun a=>a.push v)}:=by
     refine(I8.pins_of (pins':=[]) (fun p hp=>nomatch hp)).turned (t':=s8.toks) (it:=D) kp a4 (by rw[eloc];exact Nat.ne_of_lt (Nat.lt_succ_self D)) (.inr (by rw[es0,hDD];exact Nat.le_refl _)) (fun x c e=>Nat.ne_of_lt (ecl x c e)) (fun p hp=> ?_)
     rw[epn]at hp
     exact nomatch hp
    exact⟨_,σ6,H8,I8',T.keep _ _ _ a1 fun b hb o e=>kp b o (Nat.ne_of_lt (hlt b hb)) e,a2,qD,rv.append (.cons r8 .nil),a4,w8⟩
 have eenv':({newEnv scope (D+1) X.env.globals (clOf X.env.cells scope.names []) X.env.qual none Value.none (some X.env) 0 with scope:=relabel scope X.env}:Env)=X'.env:=by rw[eenv];rfl
 have L:=loop _ rfl
 rw[<-eenv']at L
 exact codeAny_compStart_list L (T.self X.A 0 _ _ _ (T.keep _ _ _ st2 fun b _ o e=>old b o e) L)
end
end L2
namespace L2
open PySem PySem.Spec PyProof.Rows
noncomputable def CompW(J:It)(ini:St)(H:Hp)(g:TG)(tc:TT)(te:TE)(Fin:List V->Hp->Prop):Prop:=
 ∃W:Nat->Nat->List V->St->Hp->Prop,(∃m,W 0 m [] ini H)/\∀i m acc σ H,W i m acc σ H->
  (J.stop i H/\acc.length<=sizeLine/\Fin acc H)\/(J.go i H/\acc.length<sizeLine/\∃N:List V->St->Hp->Prop,(∀acc' σ' H',N acc' σ' H'->∃m',m'<m/\W (i+1) m' acc' σ' H')/\∀x H',J.yld i H x H'->g x σ H' fun σ2 H2=>tc σ2 H2 fun b H3=>
   if b=true then te σ2 H3 fun v H4=>N (acc++[v]) σ2 H4 else N acc σ2 H3)
noncomputable def tComp(wi:TI)(own:List Str)(ix:List Nat)(g:TG)(tc:TT)(te:TE):TE:=fun σ H Q=>wi σ H fun J H1=>
 CompW J (iniOf own ix σ) H1 g tc te fun acc H'=>∀p,H' p=none->Q (.ref p) (upd H' p (.lst acc))
section
variable{X:Cx}{tg iter elt:Expr}{ifs:List Expr}{scope:Scope}{pos:Pos}{own caps:List Str}{ix:List Nat}{wi:TI}{g:TG}{tc:TT}{te:TE}
theorem zch(hc:X.calm=true)(hi:PI X tg iter wi)(ck:compOk X.env.scope scope=true)(hkind:scope.kind= .function)(hcap:Caps X scope caps ix)(hg:∀s H cl C ex,PG (compCx X scope (own++caps) s H cl C ex) tg g)(ht:∀s H cl C ex,PTs (compCx X scope (own++caps) s H cl C ex) ifs tc)(he:∀s H cl C ex,PE (compCx X scope (own++caps) s H cl C ex) elt te)(hs:∀x,foldedSetIterable iter X.env x=pure x:=by intro _;rfl):PE X (.ListComp elt [⟨tg,iter,ifs,0⟩] scope pos) (tComp wi own ix g tc te):=by
 intro pins s σ H Q I h
 rw[eval_ListComp]
 refine wpAny_comprehension_free (use:=none) rfl hs (closure_of fun x hx=>I.ok.has x (compOk.free ck hx)) hkind (compOk.names ck) (thn (hi pins s σ H _ I h) fun xv s1 h1=>thn h1 fun itv s2 h2=> ?_)
 obtain⟨it,fp,tn,J,H2,e,I2,T,st2,f2,W,⟨m0,w0⟩,turn⟩:=h2
 subst e
 refine comp_core (RR:=fun acc C=>compPost (model X.prog X.w) X.A X.xe none (EP X pins σ Q) acc C) ck hkind hcap hc hg ht he I2 T st2 f2 w0 turn ?_
 intro D C s' acc Hf m I' nD hn fC fin
 refine⟨m,hn,fun h' sb=> ?_⟩
 obtain⟨f0,f1,f3,f4,f5,f6⟩:=fC
 exact⟨.ref D,_,I'.turned (t':=s'.toks) (it:=C) (fun b o hb e=>(sb.2 b hb).trans e) f0 f1 f4 f5 f6,rfl,fin D nD⟩
theorem ps_setComp{i:Nat}{y:Str}{py spos:Pos}(hN:X.N.Nodup)(hiN:X.N[i]? =some y)(hx:Loc X.env.scope y)(hc:X.calm=true)(hi:PI X tg iter wi)(ck:compOk X.env.scope scope=true)(hkind:scope.kind= .function)(hcap:Caps X scope caps ix)(hg:∀s H cl C ex,PG (compCx X scope (own++caps) s H cl C ex) tg g)(ht:∀s H cl C ex,PTs (compCx X scope (own++caps) s H cl C ex) ifs tc)(he:∀s H cl C ex,PE (compCx X scope (own++caps) s H cl C ex) elt te)(hsw:swapsWith (.ListComp elt [⟨tg,iter,ifs,0⟩] scope pos) (some (.Name y py)) spos.line X.env=pure true:=by rfl)(hf:X.fn y=true\/X.env.scope.names.lookup y=some .local:=by first |exact .inl rfl|exact .inr rfl|assumption)(hs:∀x,foldedSetIterable iter X.env x=pure x:=by intro _;rfl):PS X (.Assign [.Name y py] (.ListComp elt [⟨tg,iter,ifs,0⟩] scope pos) spos) (tAsg (tComp wi own ix g tc te) (gName i)):=by
 intro pins s σ H Dn I h
 rw[exec_Assign_Name_used _ _ _ _ hsw]
 refine wpAny_bind (wpAny_standAt (wpAny_bind ?_))
 show wpAny _ X.A (do let _<-comprehension (.ListComp elt [⟨tg,iter,ifs,0⟩] scope pos) scope X.env _ (newList []) false (eval iter X.env) (some (assign (.Name y py) X.env))) _ _ s
 refine wpAny_bind (wpAny_mono (wpAny_comprehension_free (use:=some (assign (.Name y py) X.env)) (Q:=fun _ s'=>SP X pins Dn .next s') rfl hs (closure_of fun x hx=>I.ok.has x (compOk.free ck hx)) hkind (compOk.names ck)
  (thn (hi pins s σ H _ I h) fun xv s1 h1=>thn h1 fun itv s2 h2=> ?_)) (fun _ s' hq=>wpAny_pure (wpAny_pure hq)) fun _ _ e=>e)
 obtain⟨it,fp,tn,J,H2,e,I2,T,st2,f2,W,⟨m0,w0⟩,turn⟩:=h2
 subst e
 refine comp_core (RR:=fun acc C=>compPost (model X.prog X.w) X.A X.xe (some (assign (.Name y py) X.env)) (fun _ s'=>SP X pins Dn .next s') acc C) ck hkind hcap hc hg ht he I2 T st2 f2 w0 turn ?_
 intro D C s' acc Hf m I' nD hn fC fin
 obtain⟨f0,f1,f3,f4,f5,f6⟩:=fC
 show wpAny _ X.A (assign (.Name y py) X.env (.ref D)) _ _ _
 refine wpAny_assign_Name (store_ok2 I' hN hiN hx (show RelV (.ref D) (.ref D)from rfl) (fun s'' I'' ⟨a,sb,ha⟩=> ?_) hf)
 have hCa:C≠a:=by
  rcases ha with ha|ha
  ·rw[ha];exact f1
  ·exact fun z=>f5 y a ha z.symm
 refine⟨m,hn.sameBut sb hCa,fun h' sb'=> ?_⟩
 exact⟨_,_,I''.turned (t':=s''.toks) (it:=C) (fun b o hb e=>(sb'.2 b hb).trans e) f0 f1 f4 f5 f6,fin D nD⟩
end
section
variable{K:W.Frag}{a:Addr}{xs:List V}{g:TG}{tc:TT}{te:TE}{Fin:List V->Hp->Prop}{ini:St}{H:Hp}
theorem zcj(Pv:Nat->List V->St->Hp->Prop)(h0:Pv 0 [] ini H)(hl:∀(i:Nat) acc σ H,i<=xs.length->Pv i acc σ H->SqL K H a xs)(hz:∀(i:Nat) acc σ H,i<=xs.length->Pv i acc σ H->acc.length<=i)(hx:xs.length<=sizeLine)(hs:∀(i:Nat) x acc σ H,xs[i]? =some x->Pv i acc σ H->g x σ H fun σ2 H2=>tc σ2 H2 fun b H3=>if b=true then te σ2 H3 fun v H4=>Pv (i+1) (acc++[v]) σ2 H4 else Pv (i+1) acc σ2 H3)(hd:∀acc σ H,Pv xs.length acc σ H->Fin acc H):CompW (Itl K a) ini H g tc te Fin:=by
 refine⟨fun i m acc σ H=>m=xs.length-i/\i<=xs.length/\Pv i acc σ H,⟨xs.length,by simp,Nat.zero_le _,h0⟩,?_⟩
 rintro i m acc σ H ⟨rfl,hi,p⟩
 have q:=hl i acc σ H hi p
 have z:=hz i acc σ H hi p
 by_cases hlt:i<xs.length
 ·refine .inr ⟨⟨xs,xs[i],q,by simp[hlt]⟩,by omega,fun acc σ H=>Pv (i+1) acc σ H,fun acc' σ' H' r=>⟨_,by omega,rfl,hlt,r⟩,fun x H' y=> ?_⟩
  obtain⟨e,y⟩:=y
  subst e
  exact hs i x acc σ _ (y xs q) p
 ·have e:i=xs.length:=by omega
  subst e
  exact .inl ⟨⟨xs,q,Nat.le_refl _⟩,by omega,hd acc σ H p⟩
theorem comp_tup(Pv:Nat->List V->St->Hp->Prop)(h0:Pv 0 [] ini H)(hl:∀(i:Nat) acc σ H,i<=xs.length->Pv i acc σ H->SqT K H a xs)(hz:∀(i:Nat) acc σ H,i<=xs.length->Pv i acc σ H->acc.length<=i)(hx:xs.length<=sizeLine)(hs:∀(i:Nat) x acc σ H,xs[i]? =some x->Pv i acc σ H->g x σ H fun σ2 H2=>tc σ2 H2 fun b H3=>if b=true then te σ2 H3 fun v H4=>Pv (i+1) (acc++[v]) σ2 H4 else Pv (i+1) acc σ2 H3)(hd:∀acc σ H,Pv xs.length acc σ H->Fin acc H):CompW (Itt K a) ini H g tc te Fin:=by
 refine⟨fun i m acc σ H=>m=xs.length-i/\i<=xs.length/\Pv i acc σ H,⟨xs.length,by simp,Nat.zero_le _,h0⟩,?_⟩
 rintro i m acc σ H ⟨rfl,hi,p⟩
 have q:=hl i acc σ H hi p
 have z:=hz i acc σ H hi p
 by_cases hlt:i<xs.length
 ·refine .inr ⟨⟨xs,xs[i],q,by simp[hlt]⟩,by omega,fun acc σ H=>Pv (i+1) acc σ H,fun acc' σ' H' r=>⟨_,by omega,rfl,hlt,r⟩,fun x H' y=> ?_⟩
  obtain⟨e,y⟩:=y
  subst e
  exact hs i x acc σ _ (y xs q) p
 ·have e:i=xs.length:=by omega
  subst e
  exact .inl ⟨⟨xs,q,Nat.le_refl _⟩,by omega,hd acc σ H p⟩
theorem zct{lo:Int}{n:Nat}(Pv:Nat->List V->St->Hp->Prop)(h0:Pv 0 [] ini H)(hz:∀(i:Nat) acc σ H,i<=n->Pv i acc σ H->acc.length<=i)(hx:n<=sizeLine)(hs:∀(i:Nat) acc σ H,i<n->Pv i acc σ H->g (.int (lo+i)) σ H fun σ2 H2=>tc σ2 H2 fun b H3=>if b=true then te σ2 H3 fun v H4=>Pv (i+1) (acc++[v]) σ2 H4 else Pv (i+1) acc σ2 H3)(hd:∀acc σ H,Pv n acc σ H->Fin acc H):CompW (Itr lo n) ini H g tc te Fin:=by
 refine⟨fun i m acc σ H=>m=n-i/\i<=n/\Pv i acc σ H,⟨n,by simp,Nat.zero_le _,h0⟩,?_⟩
 rintro i m acc σ H ⟨rfl,hi,p⟩
 have z:=hz i acc σ H hi p
 by_cases hlt:i<n
 ·refine .inr ⟨hlt,by omega,fun acc σ H=>Pv (i+1) acc σ H,fun acc' σ' H' r=>⟨_,by omega,rfl,hlt,r⟩,fun x H' y=> ?_⟩
  obtain⟨e,y⟩:=y
  subst e y
  exact hs i acc σ _ hlt p
 ·have e:i=n:=by omega
  subst e
  exact .inl ⟨Nat.le_refl _,by omega,hd acc σ H p⟩
end
end L2
namespace Srt
open PySem PySem.W PyProof.Rows
section
variable{O:KeyOrd}{key:Nat->O.α}{N:Nat}{cmp:Nat->Nat->(Bool->Shared->Prop)->Shared->Prop}{s:Shared}
noncomputable def AskOk(O:KeyOrd)(key:Nat->O.α)(N:Nat)(cmp:Nat->Nat->(Bool->Shared->Prop)->Shared->Prop)(s:Shared):Prop:=
 ∀i j (C:Bool->Shared->Prop),i<N->j<N->C (O.blt (key i) (key j)) s->cmp i j C s
noncomputable def KN(key:Nat->O.α)(p:Array Nat)(i:Nat):O.α:=key (p.getD i 0)
noncomputable def So(key:Nat->O.α)(p:Array Nat)(k:Nat):Prop:=∀i j,i<=j->j<k->O.kle (KN key p i) (KN key p j)
noncomputable def Ni(key:Nat->O.α)(p:Array Nat)(k:Nat):Prop:=∀i j,i<=j->j<k->O.kle (KN key p j) (KN key p i)
structure Ord(N:Nat)(p:Array Nat):Prop where
 perm:p.Perm (List.toArray (List.range N))
theorem Ord.size{p:Array Nat}(h:Ord N p):p.size=N:=by have:=h.perm.size_eq;simpa using this
theorem Ord.lt{p:Array Nat}(h:Ord N p){i:Nat}(hi:i<N):p.getD i 0<N:=by
 have hi':i<p.size:=by rw[h.size];exact hi
 have e:p.getD i 0=p[i]:=by simp[Array.getD,hi']
 rw[e]
 have m:p[i]∈p.toList:=by simp
 have:=(Array.perm_iff_toList_perm.mp h.perm).mem_iff.mp m
 simpa using this
theorem Ord.rev{p:Array Nat}(h:Ord N p)(i j:Nat):Ord N (kas_rev p i j):=⟨(mirror_perm _ _ _ _).trans h.perm⟩
theorem Ord.bub{p:Array Nat}(h:Ord N p)(i j:Nat):Ord N (bubble p i j):=⟨(bubble_perm _ _ _).trans h.perm⟩
theorem getD_q(p:Array Nat)(i:Nat):p.getD i 0=(p[i]?).getD 0:=by simp
theorem KN_rev{p:Array Nat}{i j:Nat}(hj:j<=p.size)(k:Nat):KN key (kas_rev p i j) k=if i<=k/\k<j then KN key p (i+j-1-k)else KN key p k:=by
 have e:=getElem?_mirror_all (i:=i) hj k
 unfold KN kas_rev
 rw[getD_q,e]
 split
 ·rw[getD_q]
 ·rw[getD_q]
theorem zdb{p:Array Nat}{i j:Nat}(hj:j<=p.size)(heq:∀k,i<=k->k<j->KN key p k=KN key p (j-1))(k:Nat):KN key (kas_rev p i j) k=KN key p k:=by
 rw[KN_rev hj]
 split
 ·rename_i h
  rw[heq k h.1 h.2,heq _ (by omega) (by omega)]
 ·rfl
theorem KN_bub{p:Array Nat}{src d:Nat}(hs:src<p.size)(hd:d<=src)(k:Nat):KN key (bubble p src d) k=if k=src-d then KN key p src else if src-d<k/\k<=src then KN key p (k-1)else KN key p k:=by
 have e:=getElem?_bubble hs d hd k
 have q:KN key (bubble p src d) k=key (((bubble p src d)[k]?).getD 0):=congrArg key (getD_q _ _)
 have q2:∀i,KN key p i=key ((p[i]?).getD 0):=fun i=>congrArg key (getD_q _ _)
 rw[q,e,q2,q2,q2]
 by_cases h1:k=src-d
 ·rw[if_pos h1,if_pos h1]
 ·rw[if_neg h1,if_neg h1]
  by_cases h2:src-d<k/\k<=src
  ·rw[if_pos h2,if_pos h2]
  ·rw[if_neg h2,if_neg h2]
theorem lt_pred{i j:Nat}(h:i<=j)(hn:¬i=j):i<=j-1:=Nat.le_sub_one_of_lt (Nat.lt_of_le_of_ne h hn)
theorem eq_top{j n:Nat}(h:j<n+1)(hn:¬j<n):j=n:=Nat.le_antisymm (Nat.le_of_lt_succ h) (Nat.not_lt.mp hn)
theorem pred_lt'{x k:Nat}(h:1<=x)(hk:x<=k):x-1<k:=Nat.sub_one_lt_of_le h hk
theorem lt_mid{x f N:Nat}(h:x+(f+1)<=N):x<N:=Nat.lt_of_lt_of_le (Nat.lt_add_of_pos_right (Nat.succ_pos f)) h
theorem up_one{x f N:Nat}(h:x+(f+1)<=N):x+1+f<=N:=Nat.le_trans (Nat.le_of_eq (Nat.succ_add_eq_add_succ x f)) h
theorem up_le{x f m:Nat}(h:m<=x+1+f):m<=x+(f+1):=Nat.le_trans h (Nat.le_of_eq (Nat.succ_add_eq_add_succ x f))
theorem rev_le{i j n:Nat}(h:i<=j):0+n-1-j<=0+n-1-i:=Nat.sub_le_sub_left h _
theorem rev_lt{i n:Nat}(h:i<n):0+n-1-i<n:=by
 rw[Nat.zero_add]
 exact Nat.lt_of_le_of_lt (Nat.sub_le _ _) (Nat.sub_one_lt_of_le (Nat.lt_of_le_of_lt (Nat.zero_le _) h) (Nat.le_refl _))
theorem asc(ok:AskOk O key N cmp s){p:Array Nat}(hp:Ord N p){Q:Nat->Shared->Prop}:∀(f n:Nat),1<=n->n+f<=N->So key p n->(∀m,n<=m->m<=n+f->So key p m->(m=n+f\/O.klt (KN key p m) (KN key p (m-1)))->Q m s)->(kas_asc p f n).kasWp cmp Q s
 |0,n,_,_,hs,h=>h n (Nat.le_refl _) (Nat.le_refl _) hs (.inl rfl)
 |f+1,n,h1,hn,hs,h=>by
  have hnN:n<N:=lt_mid hn
  refine ok _ _ _ (hp.lt hnN) (hp.lt (pred_lt' h1 (Nat.le_of_lt hnN))) ?_
  cases hless:O.blt (key (p.getD n 0)) (key (p.getD (n-1) 0))with
  |true=>
   show Q n s
   exact h n (Nat.le_refl _) (Nat.le_add_right _ _) hs (.inr hless)
  |false=>
   show(kas_asc p f (n+1)).kasWp cmp Q s
   refine asc ok hp f (n+1) (Nat.succ_pos _) (up_one hn) (fun i j hij hj=> ?_) fun m a b c d=>h m (Nat.le_of_succ_le a) (up_le b) c (d.imp (fun z=>z.trans (Nat.succ_add_eq_add_succ n f)) id)
   by_cases hjn:j<n
   ·exact hs i j hij hjn
   ·have hj':j=n:=eq_top hj hjn
    subst hj'
    by_cases hi':i=j
    ·subst hi';exact KeyOrd.kle_refl _
    ·exact KeyOrd.kle_trans (hs i (j-1) (lt_pred hij hi') (pred_lt' h1 (Nat.le_refl _))) hless
theorem tail3(ok:AskOk O key N cmp s){p:Array Nat}(hp:Ord N p){n:Nat}{Q:Nat×Array Nat->Shared->Prop}(h1:1<=n)(hn:n<=N)(hs:Ni key p n)(h:∀m p',Ord N p'->1<=m->m<=N->So key p' m->Q (m,p') s):(kas_tail3 n N p).kasWp cmp Q s:=by
 unfold kas_tail3
 rw[KasT.kasWp_bind]
 have hsz:n<=p.size:=by rw[hp.size];exact hn
 have hN:n+(N-n)=N:=Nat.add_sub_cancel' hn
 refine asc ok (hp.rev 0 n) (N-n) n h1 (Nat.le_of_eq hN) (fun i j hij hj=> ?_) fun m a b c _=>h m _ (hp.rev 0 n) (Nat.le_trans h1 a) (Nat.le_trans b (Nat.le_of_eq hN)) c
 rw[KN_rev hsz,KN_rev hsz,if_pos ⟨Nat.zero_le _,Nat.lt_of_le_of_lt hij hj⟩,if_pos ⟨Nat.zero_le _,hj⟩]
 exact hs _ _ (rev_le hij) (rev_lt (Nat.lt_of_le_of_lt hij hj))
theorem desc1{p p':Array Nat}{x:Nat}(h1:1<=x)(hs:Ni key p x)(hless:O.kle (KN key p x) (KN key p (x-1)))(hk:∀k,KN key p' k=KN key p k):Ni key p' (x+1):=by
 intro i j hij hj
 rw[hk,hk]
 by_cases hjx:j<x
 ·exact hs i j hij hjx
 ·have hj':j=x:=eq_top hj hjx
  subst hj'
  by_cases hi':i=j
  ·subst hi';exact KeyOrd.kle_refl _
  ·exact KeyOrd.kle_trans hless (hs i (j-1) (lt_pred hij hi') (pred_lt' h1 (Nat.le_refl _)))
theorem one_eq{p:Array Nat}{x i:Nat}(h1:x+1-(0+1)<=i)(h2:i<x+1):KN key p i=KN key p (x+1-1):=congrArg _ (Nat.le_antisymm (Nat.le_of_lt_succ h2) h1)
theorem desc(ok:AskOk O key N cmp s){Q:Array Nat×Nat×Nat->Shared->Prop}:∀(f:Nat) (p:Array Nat) (x neq:Nat),Ord N p->1<=x->x+f<=N->Ni key p x->neq+1<=x->(∀i,x-(neq+1)<=i->i<x->KN key p i=KN key p (x-1))->
  (∀p' m q,Ord N p'->x<=m->m<=x+f->Ni key p' m->q+1<=m->(∀i,m-(q+1)<=i->i<m->KN key p' i=KN key p' (m-1))->Q (p',m,q) s)->(kas_desc f p x neq).kasWp cmp Q s
 |0,p,x,neq,hp,_,_,hs,hq,he,h=>h p x neq hp (Nat.le_refl _) (Nat.le_refl _) hs hq he
 |f+1,p,x,neq,hp,h1,hn,hs,hq,he,h=>by
  have hxN:x<N:=lt_mid hn
  have hsz:x<=p.size:=by rw[hp.size];exact Nat.le_of_lt hxN
  have hx1:x-1<N:=pred_lt' h1 (Nat.le_of_lt hxN)
  have hh:∀p' m q,Ord N p'->x+1<=m->m<=x+1+f->Ni key p' m->q+1<=m->(∀i,m-(q+1)<=i->i<m->KN key p' i=KN key p' (m-1))->Q (p',m,q) s:=fun p' m q a b c d e g=>h p' m q a (Nat.le_of_succ_le b) (up_le c) d e g
  refine ok _ _ _ (hp.lt hxN) (hp.lt hx1) ?_
  cases hless:O.blt (key (p.getD x 0)) (key (p.getD (x-1) 0))with
  |true=>
   show(if neq>0 then kas_desc f (kas_rev p (x-(neq+1)) x) (x+1) 0 else kas_desc f p (x+1) 0).kasWp cmp Q s
   by_cases hneq:neq>0
   ·rw[if_pos hneq]
    exact desc ok f _ (x+1) 0 (hp.rev _ _) (Nat.succ_pos _) (up_one hn) (desc1 h1 hs (KeyOrd.kle_of_klt hless) (zdb hsz he)) (Nat.succ_pos _) (fun i h1 h2=>one_eq h1 h2) hh
   ·rw[if_neg hneq]
    exact desc ok f _ (x+1) 0 hp (Nat.succ_pos _) (up_one hn) (desc1 h1 hs (KeyOrd.kle_of_klt hless) fun _=>rfl) (Nat.succ_pos _) (fun i h1 h2=>one_eq h1 h2) hh
  |false=>
   show(KasT.ask (p.getD (x-1) 0) (p.getD x 0) fun d=>if d=true then KasT.ret (p,x,neq)else kas_desc f p (x+1) (neq+1)).kasWp cmp Q s
   refine ok _ _ _ (hp.lt hx1) (hp.lt hxN) ?_
   cases hl:O.blt (key (p.getD (x-1) 0)) (key (p.getD x 0))with
   |true=>exact h p x neq hp (Nat.le_refl _) (Nat.le_add_right _ _) hs hq he
   |false=>
    show(kas_desc f p (x+1) (neq+1)).kasWp cmp Q s
    have heqx:KN key p x=KN key p (x-1):=KeyOrd.kle_antisymm hl hless
    refine desc ok f _ (x+1) (neq+1) hp (Nat.succ_pos _) (up_one hn) (desc1 h1 hs (by rw[heqx];exact KeyOrd.kle_refl _) fun _=>rfl) (Nat.succ_le_succ hq) (fun i h1 h2=> ?_) hh
    show KN key p i=KN key p x
    by_cases hix:i=x
    ·subst hix;rfl
    ·rw[heqx];exact he i (Nat.le_trans (Nat.le_of_eq (Nat.succ_sub_succ x (neq+1)).symm) h1) (Nat.lt_of_le_of_ne (Nat.le_of_lt_succ h2) hix)
theorem descPart(ok:AskOk O key N cmp s){p:Array Nat}(hp:Ord N p){n:Nat}{Q:Nat×Array Nat->Shared->Prop}(hn:n+1<=N)(hs:Ni key p (n+1))(h:∀m p',Ord N p'->1<=m->m<=N->So key p' m->Q (m,p') s):(kas_descPart n N p).kasWp cmp Q s:=by
 unfold kas_descPart
 rw[KasT.kasWp_bind]
 have hN:n+1+(N-(n+1))<=N:=Nat.le_of_eq (Nat.add_sub_cancel' hn)
 refine desc ok _ _ _ _ hp (Nat.succ_pos _) hN hs (Nat.succ_pos _) (fun i h1 h2=>one_eq h1 h2) fun p' m q a b c d e g=> ?_
 have hm:m<=N:=Nat.le_trans c hN
 have hm1:1<=m:=Nat.le_trans (Nat.succ_pos _) b
 have hsz:m<=p'.size:=by rw[a.size];exact hm
 dsimp only
 by_cases hq:q>0
 ·rw[if_pos hq]
  refine tail3 ok (a.rev _ _) hm1 hm (fun i j hij hj=> ?_) h
  rw[zdb hsz g,zdb hsz g]
  exact d i j hij hj
 ·rw[if_neg hq]
  exact tail3 ok a hm1 hm d h
theorem count(ok:AskOk O key N cmp s){p:Array Nat}(hp:Ord N p){Q:Nat×Array Nat->Shared->Prop}(h1:1<=N)(h:∀m p',Ord N p'->1<=m->m<=N->So key p' m->Q (m,p') s):(kas_count N p).kasWp cmp Q s:=by
 unfold kas_count
 rw[KasT.kasWp_bind]
 have hN:1+(N-1)=N:=Nat.add_sub_cancel' h1
 refine asc ok hp (N-1) 1 (Nat.le_refl _) (Nat.le_of_eq hN) (fun i j hij hj=>by
  have hj0:j=0:=Nat.lt_one_iff.mp hj
  subst hj0
  have hi0:i=0:=Nat.le_zero.mp hij
  subst hi0;exact KeyOrd.kle_refl _) fun n a b hsn hor=> ?_
 have hnN:n<=N:=Nat.le_trans b (Nat.le_of_eq hN)
 by_cases hnn:n=N
 ·rw[if_pos (by simpa using hnn)]
  exact h n p hp a hnN hsn
 ·rw[if_neg (by simpa using hnn)]
  have hlt:O.klt (KN key p n) (KN key p (n-1)):=hor.resolve_left fun z=>hnn (z.trans hN)
  have hln:n<N:=Nat.lt_of_le_of_ne hnN hnn
  by_cases hgt:n>1
  ·rw[if_pos hgt]
   have hn1:n-1<n:=pred_lt' a (Nat.le_refl _)
   refine ok _ _ _ (hp.lt h1) (hp.lt (Nat.lt_trans hn1 hln)) ?_
   cases hrose:O.blt (key (p.getD 0 0)) (key (p.getD (n-1) 0))with
   |true=>exact h n p hp a hnN hsn
   |false=>
    show(kas_descPart n N (kas_rev p 0 n)).kasWp cmp Q s
    have hsz:n<=p.size:=by rw[hp.size];exact hnN
    have hall:∀k,0<=k->k<n->KN key p k=KN key p (n-1):=fun k _ hk=>
     KeyOrd.kle_antisymm (hsn k (n-1) (Nat.le_sub_one_of_lt hk) hn1) (KeyOrd.kle_trans hrose (hsn 0 k (Nat.zero_le _) hk))
    refine descPart ok (hp.rev 0 n) hln (fun i j hij hj=> ?_) h
    rw[zdb hsz hall,zdb hsz hall]
    by_cases hjn:j<n
    ·rw[hall i (Nat.zero_le _) (Nat.lt_of_le_of_lt hij hjn),hall j (Nat.zero_le _) hjn];exact KeyOrd.kle_refl _
    ·have hj':j=n:=eq_top hj hjn
     subst hj'
     by_cases hi':i=j
     ·subst hi';exact KeyOrd.kle_refl _
     ·rw[hall i (Nat.zero_le _) (Nat.lt_of_le_of_ne hij hi')];exact KeyOrd.kle_of_klt hlt
  ·rw[if_neg hgt]
   have hn1':n=1:=Nat.le_antisymm (Nat.not_lt.mp hgt) a
   subst hn1'
   refine descPart ok hp hln (fun i j hij hj=> ?_) h
   by_cases hi':i=j
   ·subst hi';exact KeyOrd.kle_refl _
   ·have hij':i<j:=Nat.lt_of_le_of_ne hij hi'
    have hj1:j=1:=Nat.le_antisymm (Nat.le_of_lt_succ hj) (Nat.lt_of_le_of_lt (Nat.zero_le i) hij')
    subst hj1
    have hi0:i=0:=Nat.lt_one_iff.mp hij'
    subst hi0
    exact KeyOrd.kle_of_klt hlt
theorem half_lt{l r:Nat}(h:l<r):(l+r)/2<r:=by omega
theorem half_ge{l r:Nat}(h:l<r):l<=(l+r)/2:=by omega
theorem place(ok:AskOk O key N cmp s){p:Array Nat}(hp:Ord N p){k:Nat}{Q:Nat->Shared->Prop}(hk:k<N)(hs:So key p k):∀(f l r:Nat),l<=r->r<=k->r-l<=f->(∀i,i<l->O.kle (KN key p i) (KN key p k))->(∀i,r<=i->i<k->O.klt (KN key p k) (KN key p i))->
  (∀l,l<=k->(∀i,i<l->O.kle (KN key p i) (KN key p k))->(∀i,l<=i->i<k->O.klt (KN key p k) (KN key p i))->Q l s)->(kas_place p k f l r).kasWp cmp Q s
 |0,l,r,hlr,hrk,hm,hlo,hhi,h=>by
  have e:l=r:=Nat.le_antisymm hlr (Nat.sub_eq_zero_iff_le.mp (Nat.le_zero.mp hm))
  subst e
  exact h l hrk hlo hhi
 |f+1,l,r,hlr,hrk,hm,hlo,hhi,h=>by
  show(if l≥r then KasT.ret l else KasT.ask (p.getD k 0) (p.getD ((l+r)/2) 0) fun c=>if c=true then kas_place p k f l ((l+r)/2)else kas_place p k f ((l+r)/2+1) r).kasWp cmp Q s
  by_cases hge:l≥r
  ·rw[if_pos hge]
   have e:l=r:=Nat.le_antisymm hlr hge
   subst e
   exact h l hrk hlo hhi
  ·rw[if_neg hge]
   have hc:(l+r)/2<r:=half_lt (Nat.not_le.mp hge)
   have hd:l<=(l+r)/2:=half_ge (Nat.not_le.mp hge)
   generalize (l+r)/2=c at hc hd⊢
   refine ok _ _ _ (hp.lt hk) (hp.lt (Nat.lt_trans (Nat.lt_of_lt_of_le hc hrk) hk)) ?_
   cases hless:O.blt (key (p.getD k 0)) (key (p.getD c 0))with
   |true=>
    refine place ok hp hk hs f l c hd (Nat.le_of_lt (Nat.lt_of_lt_of_le hc hrk)) (Nat.le_of_lt_succ (Nat.lt_of_lt_of_le (Nat.sub_lt_sub_right hd hc) hm)) hlo (fun i h1 h2=> ?_) h
    by_cases hi:i=c
    ·subst hi;exact hless
    ·exact KeyOrd.klt_of_klt_of_kle hless (hs c i h1 h2)
   |false=>
    refine place ok hp hk hs f (c+1) r hc hrk (Nat.le_of_lt_succ (Nat.lt_of_lt_of_le (Nat.sub_lt_sub_left (Nat.lt_of_le_of_lt hd hc) (Nat.lt_succ_of_le hd)) hm)) (fun i h1=> ?_) hhi h
    by_cases hi:i=c
    ·subst hi;exact hless
    ·exact KeyOrd.kle_trans (hs i c (Nat.le_of_lt_succ h1) (Nat.lt_of_lt_of_le hc hrk)) hless
theorem bins1{p:Array Nat}{k l:Nat}(hs:So key p k)(hl:l<=k)(hsz:k<p.size)(hlo:∀i,i<l->O.kle (KN key p i) (KN key p k))(hhi:∀i,l<=i->i<k->O.klt (KN key p k) (KN key p i)):So key (bubble p k (k-l)) (k+1):=by
 intro i j hij hj
 have e:k-(k-l)=l:=Nat.sub_sub_self hl
 rw[KN_bub hsz (Nat.sub_le _ _),KN_bub hsz (Nat.sub_le _ _),e]
 have hjk:j<=k:=Nat.le_of_lt_succ hj
 by_cases hi1:i=l
 ·rw[if_pos hi1]
  by_cases hj1:j=l
  ·rw[if_pos hj1];exact KeyOrd.kle_refl _
  ·have lj:l<j:=Nat.lt_of_le_of_ne (hi1▸hij) (Ne.symm hj1)
   rw[if_neg hj1,if_pos ⟨lj,hjk⟩]
   exact KeyOrd.kle_of_klt (hhi (j-1) (Nat.le_sub_one_of_lt lj) (Nat.sub_one_lt_of_le (Nat.lt_of_le_of_lt (Nat.zero_le _) lj) hjk))
 ·rw[if_neg hi1]
  by_cases hi2:l<i/\i<=k
  ·have lj:l<j:=Nat.lt_of_lt_of_le hi2.1 hij
   rw[if_pos hi2,if_neg (Ne.symm (Nat.ne_of_lt lj)),if_pos ⟨lj,hjk⟩]
   exact hs _ _ (Nat.sub_le_sub_right hij 1) (Nat.sub_one_lt_of_le (Nat.lt_of_le_of_lt (Nat.zero_le _) lj) hjk)
  ·rw[if_neg hi2]
   have il:i<l:=Nat.lt_of_le_of_ne (Nat.not_lt.mp fun z=>hi2 ⟨z,Nat.le_trans hij hjk⟩) hi1
   by_cases hj1:j=l
   ·rw[if_pos hj1];exact hlo i il
   ·rw[if_neg hj1]
    by_cases hj2:l<j/\j<=k
    ·rw[if_pos hj2];exact hs _ _ (Nat.le_sub_one_of_lt (Nat.lt_trans il hj2.1)) (Nat.sub_one_lt_of_le (Nat.lt_of_le_of_lt (Nat.zero_le _) hj2.1) hjk)
    ·rw[if_neg hj2];exact hs _ _ hij (Nat.lt_of_lt_of_le (Nat.lt_of_le_of_ne (Nat.not_lt.mp fun z=>hj2 ⟨z,hjk⟩) hj1) hl)
theorem bins(ok:AskOk O key N cmp s){Q:Array Nat->Shared->Prop}:∀(f:Nat) (p:Array Nat) (k:Nat),Ord N p->1<=k->k+f=N->So key p k->(∀p',Ord N p'->So key p' N->Q p' s)->(kas_bin f p k).kasWp cmp Q s
 |0,p,k,hp,_,hf,hs,h=>h p hp ((show k=N from hf)▸hs)
 |f+1,p,k,hp,h1,hf,hs,h=>by
  show((kas_place p k k 0 k).bind fun l=>kas_bin f (bubble p k (k-l)) (k+1)).kasWp cmp Q s
  rw[KasT.kasWp_bind]
  have hk:k<N:=lt_mid (Nat.le_of_eq hf)
  have hsz:k<p.size:=by rw[hp.size];exact hk
  refine place ok hp hk hs k 0 k (Nat.zero_le _) (Nat.le_refl _) (Nat.sub_le _ _) (fun i hi=>absurd hi (Nat.not_lt_zero _)) (fun i h1 h2=>absurd h2 (Nat.not_lt.mpr h1)) fun l hl hlo hhi=> ?_
  exact bins ok f _ (k+1) (hp.bub _ _) (Nat.succ_pos _) ((Nat.succ_add_eq_add_succ k f).trans hf) (bins1 hs hl hsz hlo hhi) h
theorem sort(ok:AskOk O key N cmp s){Q:Array Nat->Shared->Prop}(h1:1<=N)(h:∀p',Ord N p'->So key p' N->Q p' s):(kas_sort N).kasWp cmp Q s:=by
 unfold kas_sort
 rw[KasT.kasWp_bind]
 refine count ok ⟨Array.Perm.refl _⟩ h1 fun m p' hp hm1 hm2 hs=> ?_
 dsimp only
 by_cases hlt:m<N
 ·rw[if_pos hlt]
  have e:max m 1=m:=by omega
  rw[e]
  exact bins ok _ _ _ hp hm1 (by omega) hs h
 ·rw[if_neg hlt]
  have e:m=N:=by omega
  subst e
  exact h p' hp hs
end
end Srt
namespace Srt
open PySem PySem.W PyProof.Rows PySem.Calls
noncomputable def Outs{O:KeyOrd}(key:Nat->O.α)(vs out:List Value):Prop:=∃p:Array Nat,Ord vs.length p/\So key p vs.length/\out=p.toList.map fun i=>vs.getD i Value.none
section
variable{prog:Program}{w:World}{A:Around}{E:Value->Shared->Prop}{s:Shared}{O:KeyOrd}{key:Nat->O.α}{κ:SortKind}{vs:List Value}
theorem outs_small(h2:vs.length<2):Outs key vs vs:=by
 refine⟨List.toArray (List.range vs.length),⟨Array.Perm.refl _⟩,fun i j hij hj=> ?_,?_⟩
 ·have e:i=j:=by omega
  subst e;exact KeyOrd.kle_refl _
 ·match vs,h2 with
  |[],_=>rfl
  |[v],_=>rfl
  |_::_::_,h=>simp at h;omega
theorem list_sort_own{a:Addr}{n:Nat}{P:PySem.Fin->Shared->Prop}(ho:s.heap.get? a=some (seqObj "list" vs.toArray n))(h64:vs.length<64)(hkind:2<=vs.length->∀h',(∀b o,b≠a->s.heap.get? b=some o->h'.get? b=some o)->∀Q:SortKind->Shared->Prop,Q κ {s with heap:=h'}->wpAny (model prog w) A (keyKind' vs.toArray) Q E {s with heap:=h'})(hask:2<=vs.length->∀h',(∀b o,b≠a->s.heap.get? b=some o->h'.get? b=some o)->AskOk O key vs.length (kas_ask prog w A κ vs) {s with heap:=h'})(h:∀h' out c,Outs key vs out->(∀b o,b≠a->s.heap.get? b=some o->h'.get? b=some o)->h'.get? a=some (seqObj "list" (List.toArray out) c)->P (.done (.ret .none)) {s with heap:=h'}):
  wpAny (model prog w) A (Builtin.«list.sort» ⟨[.ref a],[]⟩) P E s:=by
 have ha:a<s.heap.objs.size:=Heap.lt_size ho
 have s1:=Heap.SameBut.update s.heap a (Obj.mapSeq fun _=>(#[]:Array Value))
 obtain⟨e1,ho1⟩:∃e1,(s.heap.update a (Obj.mapSeq fun _=>(#[]:Array Value))).get? a=some (seqObj "list" #[] e1):=⟨_,get?_update_seq ho fun _=>#[]⟩
 have keep:∀b o,b≠a->s.heap.get? b=some o->(((s.heap.update a (Obj.mapSeq fun _=>(#[]:Array Value))).push (seqObj "tuple" vs.toArray 0)).push (seqObj "list" #[] 0)).get? b=some o:=fun b o hb e=>
  Heap.get?_push_of_some _ (Heap.get?_push_of_some _ ((s1.2 b hb).trans e))
 have ho6:(((s.heap.update a (Obj.mapSeq fun _=>(#[]:Array Value))).push (seqObj "tuple" vs.toArray 0)).push (seqObj "list" #[] 0)).get? a=some (seqObj "list" #[] e1):=Heap.get?_push_of_some _ (Heap.get?_push_of_some _ ho1)
 rw[list_sort_plain]
 refine wpAny_bind (listItems_at ho rfl ?_)
 refine wpAny_bind (listUpdate_at ho rfl ?_ (by rw[List.size_toArray,sizeLine_eq];omega) (Nat.zero_le _))
 refine wpAny_bind (seqEpoch_at ho1 rfl ?_)
 refine wpAny_bind (wpAny_newTuple ?_ (by show vs.length<=_;rw[sizeLine_eq];omega))
 refine wpAny_bind (wpAny_newList ?_ (Nat.zero_le _))
 refine wpAny_holding ?_
 show wpAny (model prog w) A _ P E {s with heap:=((s.heap.update a (Obj.mapSeq fun _=>(#[]:Array Value))).push (seqObj "tuple" vs.toArray 0)).push (seqObj "list" #[] 0)}
 dsimp only
 by_cases h2:vs.toArray.size<2
 ·have h2':vs.length<2:=by simpa using h2
  rw[if_pos h2,if_pos h2]
  refine wpAny_bind (wpAny_pure ?_)
  rw[StateT.run_pure]
  refine wpAny_bind (wpAny_pure ?_)
  dsimp only
  refine wpAny_bind (seqEpoch_at ho6 rfl ?_)
  refine wpAny_bind (listUpdate_at ho6 rfl ?_ (Nat.zero_le _) (by rw[Array.size_map];show(pairsOf vs).size<=_;rw[pairsOf_size,sizeLine_eq];omega))
  simp only[bne_self_eq_false,Bool.false_eq_true,if_false]
  refine wpAny_pure ?_
  have eo:(vs.toArray.zip vs.toArray).map (·.2)=List.toArray vs:=by
   apply Array.toList_inj.mp
   simp[List.map_snd_zip]
  have s2:=Heap.SameBut.update (((s.heap.update a (Obj.mapSeq fun _=>(#[]:Array Value))).push (seqObj "tuple" vs.toArray 0)).push (seqObj "list" #[] 0)) a (Obj.mapSeq fun _=>List.toArray vs)
  obtain⟨c2,hc2⟩:∃c2,((((s.heap.update a (Obj.mapSeq fun _=>(#[]:Array Value))).push (seqObj "tuple" vs.toArray 0)).push (seqObj "list" #[] 0)).update a (Obj.mapSeq fun _=>List.toArray vs)).get? a=some (seqObj "list" (List.toArray vs) c2):=⟨_,get?_update_seq ho6 fun _=>List.toArray vs⟩
  have fin:=h _ vs c2 (outs_small h2') (fun b o hb e=>(s2.2 b hb).trans (keep b o hb e)) hc2
  first
   |exact fin
   |(rw[<-eo]at fin;exact fin)
   |(show P _ {s with heap:=Heap.update _ a (Obj.mapSeq fun _=>(vs.toArray.zip vs.toArray).map (·.2))};rw[eo];exact fin)
 ·have h2':2<=vs.length:=by rw[List.size_toArray]at h2;omega
  rw[if_neg h2,if_neg h2]
  refine wpAny_bind (hkind h2' _ keep _ ?_)
  refine wpAny_bind (wpAny_mono (kat_run (Q:=fun st' s'=>s'={s with heap:=((s.heap.update a (Obj.mapSeq fun _=>(#[]:Array Value))).push (seqObj "tuple" vs.toArray 0)).push (seqObj "list" #[] 0)}/\∃p:Array Nat,p.size=vs.length/\arrOf st'=p.map (kas_item (vs.toArray.zip vs.toArray))/\failedOf st'=none/\Ord vs.length p/\So key p vs.length)
   (G:=fun p s'=>s'={s with heap:=((s.heap.update a (Obj.mapSeq fun _=>(#[]:Array Value))).push (seqObj "tuple" vs.toArray 0)).push (seqObj "list" #[] 0)}/\Ord vs.length p/\So key p vs.length)
   rfl h2' h64 (fun p' st' s' a1 a2 a3 a4=>⟨a4.1,p',a1,a2,a3,a4.2.1,a4.2.2⟩) (sort (hask h2' _ keep) (by omega) fun p' hp hs=>⟨rfl,hp,hs⟩)) ?_ fun _ _ e=>e)
  rintro⟨⟨⟩,st'⟩ s' ⟨rfl,p,hp,har,hf,hor,hso⟩
  dsimp only
  have hout:=kat_snds rfl har
  have hsz:(List.toArray (p.toList.map fun i=>vs.getD i Value.none)).size=vs.length:=by rw[List.size_toArray,List.length_map,Array.length_toList,hp]
  rw[hout]
  refine wpAny_bind (seqEpoch_at ho6 rfl ?_)
  refine wpAny_bind (listUpdate_at ho6 rfl ?_ (Nat.zero_le _) (Nat.le_trans (Nat.le_of_eq hsz) (by rw[sizeLine_eq];omega)))
  rw[hf]
  simp only[bne_self_eq_false,Bool.false_eq_true,if_false]
  have s2:=Heap.SameBut.update (((s.heap.update a (Obj.mapSeq fun _=>(#[]:Array Value))).push (seqObj "tuple" vs.toArray 0)).push (seqObj "list" #[] 0)) a (Obj.mapSeq fun _=>List.toArray (p.toList.map fun i=>vs.getD i Value.none))
  obtain⟨c2,hc2⟩:∃c2,((((s.heap.update a (Obj.mapSeq fun _=>(#[]:Array Value))).push (seqObj "tuple" vs.toArray 0)).push (seqObj "list" #[] 0)).update a (Obj.mapSeq fun _=>List.toArray (p.toList.map fun i=>vs.getD i Value.none))).get? a=some (seqObj "list" (List.toArray (p.toList.map fun i=>vs.getD i Value.none)) c2):=⟨_,get?_update_seq ho6 fun _=>_⟩
  exact wpAny_pure (h _ _ c2 ⟨p,hor,hso,rfl⟩ (fun b o hb e=>(s2.2 b hb).trans (keep b o hb e)) hc2)
theorem sorted_own{l:Addr}{Q:Value->Shared->Prop}(hl:s.heap.IsList l vs.toArray)(h64:vs.length<64)(hkind:2<=vs.length->∀h',(∀b o,s.heap.get? b=some o->h'.get? b=some o)->∀(E:Value->Shared->Prop) (Q:SortKind->Shared->Prop),Q κ {s with heap:=h'}->wpAny (model prog w) A.in1.in1 (keyKind' vs.toArray) Q E {s with heap:=h'})(hask:2<=vs.length->∀h',(∀b o,s.heap.get? b=some o->h'.get? b=some o)->AskOk O key vs.length (kas_ask prog w A.in1.in1 κ vs) {s with heap:=h'})(h:∀D h' out c,Outs key vs out->s.heap.objs.size<=D->(∀b o,s.heap.get? b=some o->h'.get? b=some o)->h'.get? D=some (seqObj "list" (List.toArray out) c)->Q (.ref D) {s with heap:=h'}):
  wpAny (model prog w) A (call (.builtin "sorted") [.ref l]) Q E s:=by
 refine Calls.call_function_entry kind_sorted plain_sorted entry_sorted (args_sorted1 _) ?_
 unfold Builtin.«sorted»
 refine wpAny_bind (m:=checkCount "sorted" 1 1 _) (wpAny_pure ?_)
 refine wpAny_bind (collect_list hl ?_ (by rw[sizeLine_eq];omega))
 refine wpAny_bind (wpAny_newList ?_ (by rw[sizeLine_eq];omega))
 have hsz:((s.heap.push (seqObj "list" #[] 0)).update s.heap.objs.size (Obj.mapSeq (· ++vs.toArray))).objs.size=s.heap.objs.size+1:=by
  rw[Heap.size_update,size_push']
 have hoL:(((s.heap.push (seqObj "list" #[] 0)).update s.heap.objs.size (Obj.mapSeq (· ++vs.toArray))).push (seqObj "list" vs.toArray 0)).get? (s.heap.objs.size+1)=some (seqObj "list" vs.toArray 0):=by
  rw[<-hsz];exact Heap.get?_push_size _ rfl
 have keep:∀b o,s.heap.get? b=some o->(((s.heap.push (seqObj "list" #[] 0)).update s.heap.objs.size (Obj.mapSeq (· ++vs.toArray))).push (seqObj "list" vs.toArray 0)).get? b=some o:=fun b o q=>by
  have hlt:b<s.heap.objs.size:=Heap.lt_size q
  rw[Heap.get?_push_ne _ _ _ (by rw[hsz];exact Nat.ne_of_lt (Nat.lt_succ_of_lt hlt)),Heap.get?_update_ne _ _ _ _ (Nat.ne_of_lt hlt),Heap.get?_push_ne _ _ _ (Nat.ne_of_lt hlt)]
  exact q
 have ne:∀b o,s.heap.get? b=some o->b≠s.heap.objs.size+1:=fun b o q=>Nat.ne_of_lt (Nat.lt_succ_of_lt (Heap.lt_size q))
 show wpAny _ _ _ _ _ {s with heap:=((s.heap.push (seqObj "list" #[] 0)).update s.heap.objs.size (Obj.mapSeq (· ++vs.toArray))).push (seqObj "list" vs.toArray 0)}
 rw[hsz]
 refine wpAny_bind (wpAny_holding (wpAny_call_entry slot_list_sort ⟨_,hoL,rfl⟩ entry_list_sort ?body (args_list_sort _)))
 case body=>
  refine list_sort_own (key:=key) (κ:=κ) (s:={s with heap:=((s.heap.push (seqObj "list" #[] 0)).update s.heap.objs.size (Obj.mapSeq (· ++vs.toArray))).push (seqObj "list" vs.toArray 0)}) hoL h64
   (fun h2 h' k Q hq=>hkind h2 h' (fun b o q=>k b o (ne b o q) (keep b o q)) _ Q hq) (fun h2 h' k=>hask h2 h' fun b o q=>k b o (ne b o q) (keep b o q)) fun h' out c ho k hc=> ?_
  exact⟨_,rfl,wpAny_pure ⟨_,rfl,h _ h' out c ho (Nat.le_succ _) (fun b o q=>k b o (ne b o q) (keep b o q)) hc⟩⟩
end
end Srt
namespace HT
open PySem PyProof.Rows
theorem lexLt_iff:∀(a b:List Int),lexLt a b=decide (a<b)
 |[],[]=>by simp[lexLt]
 |[],_::_=>by simp[lexLt]
 |_::_,[]=>by simp[lexLt]
 |x::xs,y::ys=>by
  rw[lexLt_cons,lexLt_iff xs ys]
  by_cases e:x=y
  ·subst e;simp
  ·rw[if_neg e]
   by_cases l:x<y
   ·simp[l,List.cons_lt_cons_iff]
   ·have:¬(x::xs<y::ys):=by rw[List.cons_lt_cons_iff];simp[l,e]
    simp[l,this]
end HT
namespace Srt
open PySem PySem.W PyProof.Rows PySem.Calls
noncomputable def lexOrd:KeyOrd where
 α:=List Int
 blt a b:=decide (a<b)
 irrefl a:=by simpa using List.lt_irrefl a
 trans a b c h1 h2:=by simp only[decide_eq_true_eq]at *;exact List.lt_trans h1 h2
 negTrans a b c h:=by
  simp only[decide_eq_true_eq]at *
  by_cases hab:a<b
  ·exact .inl hab
  ·exact .inr (List.lt_of_le_of_lt (List.not_lt.mp hab) h)
 total a b h1 h2:=by simp only[decide_eq_false_iff_not]at *;exact List.le_antisymm (List.not_lt.mp h2) (List.not_lt.mp h1)
section
variable{prog:Program}{w:World}{A:Around}{E:Value->Shared->Prop}{s:Shared}{Q:Bool->Shared->Prop}
theorem lex_ints{na nb:Nat}{xs ys:List Value}{ns ms:List Int}(i:Nat)(hx:IntsAre xs ns)(hy:IntsAre ys ms)(hl:ns.length+nb=ms.length+na)(h:Q (HT.lexLt ns ms) s):KatLex prog w A true (decide (na<nb)) Q (xs.zip ys) i s:=by
 induction hx generalizing ys ms i with
 |nil=>
  rw[List.zip_nil_left]
  refine kat_nil ?_
  cases hy with
  |nil=>
   rw[HT.lexLt_nil_nil]at h
   rw[decide_eq_false (by simp only[List.length_nil]at hl;omega)];exact h
  |cons c u hw=>
   rw[HT.lexLt_nil_cons]at h
   rw[decide_eq_true (by simp only[List.length_nil,List.length_cons]at hl;omega)];exact h
 |cons a t hv ih=>
  cases hy with
  |nil=>
   rw[List.zip_nil_right]
   refine kat_nil ?_
   rw[HT.lexLt_cons_nil]at h
   rw[decide_eq_false (by simp only[List.length_nil,List.length_cons]at hl;omega)];exact h
  |cons c u hw=>
   rw[List.zip_cons_cons]
   rw[HT.lexLt_cons]at h
   refine kat_cons (wpAny_eqBool_int ?_)
   refine kat_go (fun e=> ?_) fun e=> ?_
   ·have e':a=c:=by simpa using e
    rw[if_pos e']at h
    exact kat_yes (ih (i+1) hw (by simp only[List.length_cons]at hl;omega) h)
   ·have e':a≠c:=by simpa using e
    rw[if_neg e']at h
    refine kat_no ?_
    cases i with
    |zero=>exact oneLt_int h
    |succ i=>exact kat_one _ _ (lt_int (show PySem.W.BoolBack Q (.bool (decide (a<c))) s from h))
end
theorem outs_of{O:KeyOrd}{key:Nat->O.α}{α:Type}{vs out:List Value}{its:List α}{d:α}{f:α->O.α}{R:α->Value->Prop}(hR:Paired R its vs)(hk:∀i (hi:i<its.length),key i=f its[i])(h:Outs key vs out):
  ∃its':List α,its'.Perm its/\Paired R its' out/\its'.Pairwise fun x y=>O.kle (f x) (f y):=by
 obtain⟨p,hp,hs,rfl⟩:=h
 have hl:=hR.length
 have get:∀{l₁:List α} {l₂:List Value} {i:Nat},Paired R l₁ l₂->(h:i<l₁.length)->∃v,l₂[i]? =some v/\R l₁[i] v:=by
  intro l₁ l₂ i q
  induction q generalizing i with
  |nil=>intro h;simp at h
  |cons r t ih=>
   intro h
   cases i with
   |zero=>exact⟨_,rfl,r⟩
   |succ i=>
    obtain⟨v,e,rv⟩:=ih (i:=i) (by simpa using h)
    exact⟨v,by simpa using e,by simpa using rv⟩
 have hlt:∀i∈p.toList,i<its.length:=fun i hi=>by
  have:=(Array.perm_iff_toList_perm.mp hp.perm).mem_iff.mp hi
  rw[hl];simpa using this
 refine⟨p.toList.map fun i=>its.getD i d,?_,?_,?_⟩
 ·have q:=(Array.perm_iff_toList_perm.mp hp.perm).map (fun i=>its.getD i d)
  refine q.trans ?_
  have e:(List.toArray (List.range vs.length)).toList.map (fun i=>its.getD i d)=its:=by
   rw[<-hl]
   apply List.ext_getElem?
   intro i
   simp only[List.getElem?_map]
   by_cases hi:i<its.length
   ·simp[hi]
   ·simp[hi]
  rw[e]
 ·have mk:∀l:List Nat,(∀i∈l,i<its.length)->Paired R (l.map fun i=>its.getD i d) (l.map fun i=>vs.getD i Value.none):=by
   intro l
   induction l with
   |nil=>intro _;exact .nil
   |cons i l ih=>
    intro hb
    refine .cons ?_ (ih fun j hj=>hb j (List.mem_cons_of_mem _ hj))
    have hi:=hb i List.mem_cons_self
    obtain⟨v,e,r⟩:=get hR hi
    have e1:its.getD i d=its[i]:=by simp[hi]
    have e2:vs.getD i Value.none=v:=by rw[List.getD_eq_getElem?_getD,e];rfl
    show R (its.getD i d) (vs.getD i Value.none)
    rw[e1,e2];exact r
  exact mk _ hlt
 ·rw[List.pairwise_iff_getElem]
  intro i j hi hj hij
  simp only[List.length_map,Array.length_toList]at hi hj
  simp only[List.getElem_map]
  have hsz:=hp.size
  have q:=hs i j (by omega) (by omega)
  have e:∀k (hk':k<p.size),KN key p k=f (its.getD p.toList[k] d):=fun k hk'=>by
   have e1:p.getD k 0=p.toList[k]:=by simp[Array.getD,hk']
   have hb:=hlt p.toList[k] (List.getElem_mem _)
   have e2:its.getD p.toList[k] d=its[p.toList[k]]:=by simp only[List.getD_eq_getElem?_getD,List.getElem?_eq_getElem hb,Option.getD_some]
   unfold KN
   rw[e1,e2]
   exact hk _ hb
  rw[e i hi,e j hj]at q
  exact q
end Srt
namespace L2
open PySem PySem.Spec PyProof.Rows PySem.W
section
variable{X:Cx}
theorem zda:CallR X (.builtin "sorted") (fun xs H Q=>∃(a:Addr) (its:List (Addr×List Int)),xs=[.ref a]/\SqL X.K H a (its.map fun p=>V.ref p.1)/\(∀p∈its,SqT X.K H p.1 (p.2.map V.int)/\p.2≠[])/\its.length<64/\
  ∀(l:Addr) (its':List (Addr×List Int)),H l=none->its'.Perm its->its'.Pairwise (fun p q=>HT.lexLt q.2 p.2=false)->Q (.ref l) (upd H l (.lst (its'.map fun p=>V.ref p.1)))):=by
 intro pins s σ H xs us Q I r h
 obtain⟨a,its,rfl,hS,hT,h64,q⟩:=h
 obtain⟨u,rfl,ru⟩:=r.one
 cases ru
 obtain⟨vs,rv,pl,hz⟩:=I.list hS
 have hlen:its.length=vs.length:=by have:=rv.length;simpa using this
 -- the values beside the tuples
 have pr:Paired (fun(p:Addr×List Int) (v:Value)=>v= .ref p.1) its vs:=by
  have go:∀(l:List (Addr×List Int)) (us:List Value),Vals (l.map fun p=>V.ref p.1) us->Paired (fun(p:Addr×List Int) (v:Value)=>v= .ref p.1) l us:=by
   intro l
   induction l with
   |nil=>intro us h;cases h;exact .nil
   |cons p l ih=>
    intro us h
    cases h with
    |cons r t=>exact .cons r (ih _ t)
  exact go its vs rv
 have tup:∀p∈its,∃(items:List Value),IntsAre items p.2/\IsTup s.heap p.1 items.toArray:=fun p hp=>by
  obtain⟨its',r',t',_⟩:=I.tuple (hT p hp).1
  exact⟨its',intsAre_of r',t'⟩
 refine Srt.sorted_own (O:=Srt.lexOrd) (key:=fun i=>(its.getD i (0,[])).2) (κ:=tuples' true) (s:=s) pl.isList (by omega) (fun h2 h' k E' Q' hq=> ?_) (fun h2 h' k=> ?_) (fun D h' out c ho hD k hc=> ?_)
 ·have kt:∀(l:List (Addr×List Int)) (us:List Value),Paired (fun(p:Addr×List Int) (v:Value)=>v= .ref p.1) l us->(∀p∈l,p∈its)->∃fs:List Value,KatTups h' us fs/\fs.length=us.length/\∀v∈fs,∃i t,v=Value.int i t:=by
   intro l us h
   induction h with
   |nil=>intro _;exact⟨[],trivial,rfl,fun _ hv=>nomatch hv⟩
   | @cons p v l us r t ih=>
    intro hs
    obtain⟨fs,k1,k2,k3⟩:=ih fun p hp=>hs p (List.mem_cons_of_mem _ hp)
    obtain⟨items,hi,o,e,hc,n,hd⟩:=tup p (hs p List.mem_cons_self)
    have hne:=(hT p (hs p List.mem_cons_self)).2
    obtain⟨pa,pn⟩:=p
    dsimp only at hi hne e r
    cases hi with
    |nil=>exact absurd rfl hne
    |cons i t hi'=>
     rw[r]
     refine⟨Value.int i t::fs,KatTups.cons (k _ _ e) hc hd (by simp) k1,by simp[k2],fun v hv=> ?_⟩
     rcases List.mem_cons.mp hv with e|e
     ·exact⟨i,t,e⟩
     ·exact k3 v e
  obtain⟨fs,k1,k2,k3⟩:=kt its vs pr fun _ hp=>hp
  refine kat_kind (s:={s with heap:=h'}) (T:= .type "int") k1 (by omega) (fun v hv=> ?_) (by rfl) hq
  obtain⟨i,t,rfl⟩:=k3 v hv
  exact fun A Q E s _ q=>wpAny_pure q
 ·intro i j C hi hj hC
  rw[<-hlen]at hi hj
  have get:∀i (hi:i<its.length),vs.getD i Value.none= .ref its[i].1:=by
   have go:∀(l:List (Addr×List Int)) (us:List Value),Paired (fun(p:Addr×List Int) (v:Value)=>v= .ref p.1) l us->∀i (hi:i<l.length),us.getD i Value.none= .ref l[i].1:=by
    intro l us h
    induction h with
    |nil=>intro i hi;simp at hi
    |cons r t ih=>
     intro i hi
     cases i with
     |zero=>exact r
     |succ i=>simpa using ih i (by simpa using hi)
   exact go its vs pr
  unfold kas_ask
  rw[get i hi,get j hj]
  obtain⟨xi,hxi,oi,ei,ci,ni,di⟩:=tup its[i] (List.getElem_mem _)
  obtain⟨xj,hxj,oj,ej,cj,nj,dj⟩:=tup its[j] (List.getElem_mem _)
  refine kat_lt (s:={s with heap:=h'}) (k _ _ ei) di (k _ _ ej) dj ?_
  refine Srt.lex_ints 0 hxi hxj ?_ ?_
  ·have:=hxi.length;have:=hxj.length
   simp only[List.size_toArray]
   omega
  ·rw[HT.lexLt_iff]
   have e1:its.getD i (0,[])=its[i]:=by simp[hi]
   have e2:its.getD j (0,[])=its[j]:=by simp[hj]
   have hC':C (decide ((its.getD i (0,[])).2<(its.getD j (0,[])).2)) {s with heap:=h'}:=hC
   rw[e1,e2]at hC'
   exact hC'
 ·obtain⟨its',hp,hr,hw⟩:=Srt.outs_of (d:=((0,[]):Addr×List Int)) (f:=fun p=>p.2) pr (fun i hi=>by show(its.getD i (0,[])).2=_;simp[hi]) ho
  have hn:H D=none:=I.hok.fresh hD
  have rv':Vals (its'.map fun p=>V.ref p.1) out:=by
   have go:∀(l:List (Addr×List Int)) (us:List Value),Paired (fun(p:Addr×List Int) (v:Value)=>v= .ref p.1) l us->Vals (l.map fun p=>V.ref p.1) us:=by
    intro l us h
    induction h with
    |nil=>exact .nil
    |cons r t ih=>exact .cons r ih
   exact go its' out hr
  have zl:(its'.map fun p=>V.ref p.1).length<=sizeLine:=by
   have:=hp.length_eq
   rw[List.length_map]
   exact Nat.le_of_lt (small1000 (by omega))
  have J:Inv X pins σ (upd H D (.lst (its'.map fun p=>V.ref p.1))) {s with heap:=h',toks:=s.toks}:=I.laid k hD ⟨zl,out,c,rv',hc⟩
  refine⟨.ref D,_,J,rfl,q D its' hn hp (hw.imp fun{x y} hxy=> ?_)⟩
  rw[HT.lexLt_iff];exact hxy
end
end L2
namespace L2
open PySem PySem.Spec PyProof.Rows
section
variable{X:Cx}
theorem bools_of:∀{bs:List Bool} {us:List Value},Vals (bs.map V.bl) us->us=bs.map Value.bool
 |[],_,h=>by cases h;rfl
 |b::bs,_,h=>by
  cases h with
  |cons r t=>rw[List.map_cons,bools_of t];exact congrArg (· ::_) r
theorem call_all(hc:X.calm=true):CallR X (.builtin "all") (fun xs H Q=>∃(a:Addr) (bs:List Bool),xs=[.ref a]/\SqL X.K H a (bs.map V.bl)/\Q (.bl (bs.all id)) H):=by
 intro pins s σ H xs us Q I r h
 obtain⟨a,bs,rfl,hS,q⟩:=h
 obtain⟨u,rfl,ru⟩:=r.one
 cases ru
 obtain⟨vs,rv,pl,hz⟩:=I.list hS
 have hv:=bools_of rv
 have hl:=pl.isList
 have hlt:a<s.heap.objs.size:=by obtain⟨_,e,_⟩:=hl;exact Heap.lt_size e
 refine call_all_walk (wpAny_pyIter_list hl ?_)
 refine⟨s.heap.objs.size,[s.heap.objs.size,a],[s.heap.objs.size],vs.toArray.size,_,_,fun i=>(bs[i]?).getD true,rfl,Walks.list (A:=X.A.in1) (I.ok.hd hc) _ a (Nat.ne_of_lt hlt) vs.toArray,
  ⟨⟨_,Heap.get?_push_size _ rfl,rfl,rfl⟩,hl.push _⟩,fun i v s' Q' E' hP hQ=> ?_,fun h' tk hk=> ?_⟩
 ·have hP':vs[i]? =some v:=by simpa using hP
  rw[hv,List.getElem?_map]at hP'
  cases e:bs[i]? with
  |none=>rw[e]at hP';cases hP'
  |some b=>
   rw[e]at hP'
   cases hP'
   simp only[e,Option.getD_some]at hQ
   exact wpAny_truthy_bool hQ
 ·have e:((List.range vs.toArray.size).all fun i=>(bs[i]?).getD true)=bs.all id:=by
   rw[List.size_toArray,hv,List.length_map];exact LSm.range_all bs
  rw[e]
  exact⟨.bl _,H,I.kept (LSm.kept_iter hk),rfl,q⟩
noncomputable def KindV(K:W.Frag)(H:Hp):V->String->Prop
 | .non,T=>T="NoneType"
 | .bl _,T=>T="bool"
 | .int _,T=>T="int"
 | .str _,T=>T="str"
 | .ref a,T=>(T="tuple"/\∃xs,SqT K H a xs)\/(T="list"/\∃xs,SqL K H a xs)\/(T="dict"/\∃kvs,H a=some (.dK kvs))
 |_,_=>False
noncomputable def isiB(T C:String):Bool:=T==C||(T=="bool"&&C=="int")
theorem call_isi:CallR X (.builtin "isinstance") (fun xs H Q=>∃(x:V) (T C:String),xs=[x,.ty C]/\KindV X.K H x T/\(C="int"\/C="bool"\/C="tuple"\/C="list")/\Q (.bl (isiB T C)) H):=by
 intro pins s σ H xs us Q I r h
 obtain⟨x,T,C,rfl,hk,hC,q⟩:=h
 obtain⟨u,v,rfl,ru,rv⟩:=r.two
 cases rv
 have fin0:∀b,b=isiB T C->EP X pins σ Q (.bool b) s:=fun b e=>⟨.bl b,H,I,rfl,by rw[e];exact q⟩
 have fin1:∀b,b=isiB T C->EP X pins σ Q (.bool b) {s with toks:=s.toks+1}:=fun b e=>⟨.bl b,H,I.tok _,rfl,by rw[e];exact q⟩
 cases x with
 |non=>
  cases ru;cases hk
  rcases hC with rfl|rfl|rfl|rfl
  ·exact IsiPair.NoneType_int (fin1 _ rfl)
  ·exact IsiPair.NoneType_bool (fin1 _ rfl)
  ·exact IsiPair.NoneType_tuple (fin1 _ rfl)
  ·exact IsiPair.NoneType_list (fin1 _ rfl)
 |bl b=>
  cases ru;cases hk
  rcases hC with rfl|rfl|rfl|rfl
  ·exact IsiPair.bool_int (fin0 _ rfl)
  ·exact IsiPair.bool_bool (fin0 _ rfl)
  ·exact IsiPair.bool_tuple (fin1 _ rfl)
  ·exact IsiPair.bool_list (fin1 _ rfl)
 |int i=>
  obtain⟨t,rfl⟩:=ru;cases hk
  rcases hC with rfl|rfl|rfl|rfl
  ·exact IsiPair.int_int (fin0 _ rfl)
  ·exact IsiPair.int_bool (fin1 _ rfl)
  ·exact IsiPair.int_tuple (fin1 _ rfl)
  ·exact IsiPair.int_list (fin1 _ rfl)
 |str z=>
  obtain⟨t,rfl⟩:=ru;cases hk
  rcases hC with rfl|rfl|rfl|rfl
  ·exact IsiPair.str_int (fin1 _ rfl)
  ·exact IsiPair.str_bool (fin1 _ rfl)
  ·exact IsiPair.str_tuple (fin1 _ rfl)
  ·exact IsiPair.str_list (fin1 _ rfl)
 |ref a=>
  cases ru
  rcases hk with⟨rfl,xs,hS⟩|⟨rfl,xs,hS⟩|⟨rfl,kvs,hS⟩
  ·obtain⟨its,_,⟨o,e,c,n,d⟩,_⟩:=I.tuple hS
   rcases hC with rfl|rfl|rfl|rfl
   ·exact IsiPair.tuple_int e c (fin1 _ rfl)
   ·exact IsiPair.tuple_bool e c (fin1 _ rfl)
   ·exact IsiPair.tuple_tuple e c (fin0 _ rfl)
   ·exact IsiPair.tuple_list e c (fin1 _ rfl)
  ·obtain⟨its,_,⟨o,n,e,c,d,_⟩,_⟩:=I.list hS
   rcases hC with rfl|rfl|rfl|rfl
   ·exact IsiPair.list_int e c (fin1 _ rfl)
   ·exact IsiPair.list_bool e c (fin1 _ rfl)
   ·exact IsiPair.list_tuple e c (fin1 _ rfl)
   ·exact IsiPair.list_list e c (fin0 _ rfl)
  ·obtain⟨_,_,vs,_,o,es,ep,e,c,_⟩:=I.hok a _ hS
   have c':o.cls= .type "dict":=c.1
   rcases hC with rfl|rfl|rfl|rfl
   ·exact IsiPair.dict_int e c' (fin1 _ rfl)
   ·exact IsiPair.dict_bool e c' (fin1 _ rfl)
   ·exact IsiPair.dict_tuple e c' (fin1 _ rfl)
   ·exact IsiPair.dict_list e c' (fin1 _ rfl)
 |_=>exact hk.elim
noncomputable def insV(xs:List V)(k:Nat)(y:V):List V:=xs.take k++y::xs.drop k
theorem mt_insert:MtM X "list.insert" (fun x vs H Q=>∃(l:Addr) (xs:List V) (k:Nat) (y:V),x= .ref l/\vs=[.int (k:Int),y]/\H l=some (.lst xs)/\k<=xs.length/\xs.length<1000/\Q .non (upd H l (.lst (insV xs k y)))):=by
 intro pins s σ H x vs v us Q I rx rv h
 obtain⟨l,xs,k,y,rfl,rfl,hH,hk,hz,q⟩:=h
 cases rx
 obtain⟨u,u2,rfl,⟨t,rfl⟩,ru⟩:=rv.two
 obtain⟨z,its,n,r,hl,e⟩:=I.lstM hH
 obtain⟨xi,hxi⟩:∃xi:Int,xi=(k:Int):=⟨_,rfl⟩
 rw[<-hxi]
 have hf:Builtin.List.listFitsIndex xi=true:=by
  unfold Builtin.List.listFitsIndex
  simp
  omega
 have hsz:its.toArray.size<=sizeLine:=by rw[List.size_toArray,<-hl];exact z
 have M:=PySem.AutoSeq1.list_insert_list_int_val_1 l its.toArray n xi t u2 (by simp[hf]) hsz
 refine call_meets F.slot_list_insert ⟨_,e,rfl⟩ F.entry_list_insert (F.args_list_insert_3 _ _ _) M ⟨e,?_⟩
 refine⟨.non,_,I.lset (its':=its.take k++u2::its.drop k) hH e ?_ ((r.take k).append (.cons ru (r.drop k))) ?_,rfl,q⟩
 ·have h0:¬(xi<0):=by omega
  have hm:min xi.toNat its.toArray.size=k:=by rw[List.size_toArray];omega
  show(its.toArray.extract 0 (if xi<0 then(xi+(its.toArray.size:Int)).toNat else min xi.toNat its.toArray.size)).push u2++its.toArray.extract (if xi<0 then(xi+(its.toArray.size:Int)).toNat else min xi.toNat its.toArray.size)=_
  rw[if_neg h0,hm]
  apply Array.toList_inj.mp
  simp only[Array.toList_append,Array.toList_push,Array.toList_extract,List.extract_eq_take_drop,List.size_toArray,Nat.sub_zero,List.drop_zero,List.append_assoc,List.singleton_append]
  rw[List.take_of_length_le (l:=List.drop k its) (by rw[List.length_drop];exact Nat.le_refl _)]
 ·have:(insV xs k y).length=xs.length+1:=by unfold insV;simp;omega
  show(insV xs k y).length<=sizeLine
  rw[this]
  exact Nat.le_of_lt (small1000 (by omega))
end
end L2
namespace L2
open PySem PySem.Spec PyProof.Rows
mutual
inductive DV(K:W.Frag)(H:Hp):V->PyData->Prop
 |non:DV K H .non .none
 |bl (b:Bool):DV K H (.bl b) (.bool b)
 |int (i:Int):DV K H (.int i) (.int i)
 |str (x:Str):DV K H (.str x) (.str x)
 |tup {a:Addr} {xs:List V} {ds:List PyData} (h:SqT K H a xs) (t:DVs K H xs ds):DV K H (.ref a) (.tuple ds)
 |lst {a:Addr} {xs:List V} {ds:List PyData} (h:SqL K H a xs) (t:DVs K H xs ds):DV K H (.ref a) (.list ds)
 |dc0 {a:Addr} (h:H a=some (.dK [])):DV K H (.ref a) (.dict [])
 |dc1 {a b:Addr} {i:Int} (h:H a=some (.dK [(Sum.inl i,.ref b)])) (t:SqT K H b []):DV K H (.ref a) (.dict [(.int i,.tuple [])])
inductive DVs(K:W.Frag)(H:Hp):List V->List PyData->Prop
 |nil:DVs K H [] []
 |cons {x:V} {d:PyData} {xs:List V} {ds:List PyData} (h:DV K H x d) (t:DVs K H xs ds):DVs K H (x::xs) (d::ds)
end
theorem Same.tup{K:W.Frag}{H H':Hp}{a:Addr}{xs:List V}(e:Same H H')(h:SqT K H a xs):SqT K H' a xs:=by
 rcases h with(h|⟨o,h⟩)|h
 ·exact .inl (.inl (e _ _ h))
 ·exact .inl (.inr ⟨o,e _ _ h⟩)
 ·exact .inr h
theorem DV.same{K:W.Frag}{H H':Hp}(e:Same H H'){x:V}{d:PyData}(h:DV K H x d):DV K H' x d:=
 DV.rec (motive_1:=fun x d _=>DV K H' x d) (motive_2:=fun xs ds _=>DVs K H' xs ds) .non (fun b=> .bl b) (fun i=> .int i) (fun x=> .str x) (fun h _ t=> .tup (e.tup h) t) (fun h _ t=> .lst (e.seq h) t) (fun h=> .dc0 (e _ _ h)) (fun h t=> .dc1 (e _ _ h) (e.tup t)) .nil (fun _ _ h t=> .cons h t) h
theorem DVs.same{K:W.Frag}{H H':Hp}(e:Same H H'){xs:List V}{ds:List PyData}(h:DVs K H xs ds):DVs K H' xs ds:=
 DVs.rec (motive_1:=fun x d _=>DV K H' x d) (motive_2:=fun xs ds _=>DVs K H' xs ds) .non (fun b=> .bl b) (fun i=> .int i) (fun x=> .str x) (fun h _ t=> .tup (e.tup h) t) (fun h _ t=> .lst (e.seq h) t) (fun h=> .dc0 (e _ _ h)) (fun h t=> .dc1 (e _ _ h) (e.tup t)) .nil (fun _ _ h t=> .cons h t) h
theorem pairs_nil{P:Program}{w:World}{es:List DictEntry}(h:Pairs (mixKind P w) es []):es=[]:=by
 cases h;rfl
theorem pairs_one{P:Program}{w:World}{es:List DictEntry}{k:Key}{u:Value}(h:Pairs (mixKind P w) es [(k,u)]):∃e,es=[e]/\keyIs k e.key=true/\e.val=u:=by
 cases h with
 |cons h1 h2 h3=>
  cases h3
  exact⟨_,rfl,h1,h2⟩
section
variable{X:Cx}{pins:List (Addr×Obj)}{σ:St}{H:Hp}{s:Shared}
theorem dc0_reads(I:Inv X pins σ H s){a:Addr}(h:H a=some (.dK [])):Reads s.heap (.ref a) (.dict []) (a::[]++[])/\(a==sysModules)=false:=by
 obtain⟨_,hne,vs,r0,o,es,ep,e,c,d,_,pr,_⟩:=I.hok _ _ h
 cases r0
 have hes:es.toList=[]:=pairs_nil pr
 refine⟨.dict (kvs:=[]) (as:=[]) (bs:=[]) e c.1 d ?_ ?_,hne⟩
 ·rw[hes];exact .nil
 ·rw[hes];exact .nil
theorem dc1_reads(I:Inv X pins σ H s){a b:Addr}{i:Int}(h:H a=some (.dK [(Sum.inl i,.ref b)]))(t:SqT X.K H b []):Reads s.heap (.ref a) (.dict [(.int i,.tuple [])]) (a::([]++[])++([]++[]))/\(a==sysModules)=false:=by
 obtain⟨_,hne,vs,r0,o,es,ep,e,c,d,_,pr,_⟩:=I.hok _ _ h
 obtain⟨its,rv,⟨o2,e2,c2,n2,d2⟩,_⟩:=I.tuple t
 cases rv
 cases r0 with
 | @cons p q ps qs hq tl=>
  cases tl
  obtain⟨en,he,hk,hv⟩:=pairs_one pr
  obtain⟨k,u⟩:=q
  dsimp only at hq
  obtain⟨hk1,hu1⟩:=hq
  subst hk1
  cases hu1
  obtain⟨tk,ek⟩:∃tk,en.key=Value.int i tk:=by
   rcases zbt hk with⟨i',t',e3,e4⟩|⟨x,t',e3,e4⟩
   ·cases e3;exact⟨t',e4⟩
   ·cases e3
  refine⟨.dict (kvs:=[(.int i,.tuple [])]) (as:=[]++[]) (bs:=[]++[]) e c.1 d ?_ ?_,hne⟩
  ·rw[he]
   show ReadsAll s.heap [en.key] [PyData.int i] _
   rw[ek]
   exact .cons (.int i tk) .nil
  ·rw[he]
   show ReadsAll s.heap [en.val] [PyData.tuple []] _
   rw[hv]
   exact .cons (.tuple e2 c2 d2 .nil) .nil
end
section
variable{X:Cx}{pins:List (Addr×Obj)}{σ:St}{H:Hp}{s:Shared}
theorem reads_tup(I:Inv X pins σ H s){a:Addr}{xs:List V}{ds:List PyData}(h:SqT X.K H a xs)(t:∀{us:List Value},Vals xs us->∃as,ReadsAll s.heap us ds as){u:Value}(r:RelV (.ref a) u):∃as,Reads s.heap u (.tuple ds) as:=by
 cases r
 obtain⟨its,rv,⟨o,e,c,n,d⟩,_⟩:=I.tuple h
 obtain⟨as,ra⟩:=t rv
 exact⟨_,.tuple e c d (by simpa using ra)⟩
theorem reads_lst(I:Inv X pins σ H s){a:Addr}{xs:List V}{ds:List PyData}(h:SqL X.K H a xs)(t:∀{us:List Value},Vals xs us->∃as,ReadsAll s.heap us ds as){u:Value}(r:RelV (.ref a) u):∃as,Reads s.heap u (.list ds) as:=by
 cases r
 obtain⟨its,rv,⟨o,n,e,c,_,d⟩,_⟩:=I.list h
 obtain⟨as,ra⟩:=t rv
 exact⟨_,.list e c d (by simpa using ra)⟩
theorem DV.reads(I:Inv X pins σ H s){x:V}{d:PyData}{u:Value}(h:DV X.K H x d)(r:RelV x u):∃as,Reads s.heap u d as:=
 DV.rec (motive_1:=fun x d _=>∀{u:Value},RelV x u->∃as,Reads s.heap u d as) (motive_2:=fun xs ds _=>∀{us:List Value},Vals xs us->∃as,ReadsAll s.heap us ds as)
  (fun r=>by cases r;exact⟨_,.none⟩) (fun b _ r=>by cases r;exact⟨_,.bool b⟩) (fun i _ r=>by obtain⟨t,rfl⟩:=r;exact⟨_,.int i t⟩) (fun x _ r=>by obtain⟨t,rfl⟩:=r;exact⟨_,.str x t⟩)
  (fun h _ t _ r=>reads_tup I h t r) (fun h _ t _ r=>reads_lst I h t r) (fun h _ r=>by cases r;exact⟨_,(dc0_reads I h).1⟩) (fun h t _ r=>by cases r;exact⟨_,(dc1_reads I h t).1⟩)
  (fun r=>by cases r;exact⟨_,.nil⟩) (fun _ _ h t _ r=>by
   cases r with
   |cons r rr=>
    obtain⟨as,ra⟩:=h r
    obtain⟨bs,rb⟩:=t rr
    exact⟨_,.cons ra rb⟩) h r
theorem DVs.reads(I:Inv X pins σ H s){xs:List V}{ds:List PyData}{us:List Value}(h:DVs X.K H xs ds)(r:Vals xs us):∃as,ReadsAll s.heap us ds as:=
 DVs.rec (motive_1:=fun _ _ _=>True) (motive_2:=fun xs ds _=>∀{us:List Value},Vals xs us->∃as,ReadsAll s.heap us ds as) trivial (fun _=>trivial) (fun _=>trivial) (fun _=>trivial) (fun _ _ _=>trivial) (fun _ _ _=>trivial) (fun _=>trivial) (fun _ _=>trivial)
  (fun r=>by cases r;exact⟨_,.nil⟩) (fun h _ _ t _ r=>by
   cases r with
   |cons r rr=>
    obtain⟨as,ra⟩:=DV.reads I h r
    obtain⟨bs,rb⟩:=t rr
    exact⟨_,.cons ra rb⟩) h r
end
mutual
noncomputable def noL:PyData->Bool
 | .list _=>false
 | .tuple ds=>noLs ds
 |_=>true
noncomputable def noLs:List PyData->Bool
 |[]=>true
 |d::ds=>noL d&&noLs ds
end
section
variable{X:Cx}{pins:List (Addr×Obj)}{σ:St}{H:Hp}{s:Shared}
end
theorem DVs.ints{K:W.Frag}{H:Hp}:∀(ns:List Int),DVs K H (ns.map V.int) (ns.map PyData.int)
 |[]=> .nil
 |n::ns=> .cons (.int n) (DVs.ints ns)
theorem DVs.len{K:W.Frag}{H:Hp}{xs:List V}{ds:List PyData}(h:DVs K H xs ds):xs.length=ds.length:=
 DVs.rec (motive_1:=fun _ _ _=>True) (motive_2:=fun xs ds _=>xs.length=ds.length) trivial (fun _=>trivial) (fun _=>trivial) (fun _=>trivial) (fun _ _ _=>trivial) (fun _ _ _=>trivial) (fun _=>trivial) (fun _ _=>trivial) rfl (fun _ _ _ t=>congrArg Nat.succ t) h
section
variable{X:Cx}
theorem op_eqD(hu:X.A.units+64<cLine):OpR X (compareOp .Eq) (fun x y H Q=>∃da db,DV X.K H x da/\DV X.K H y db/\da.canLay0=true/\db.canLay0=true/\min da.depth db.depth<=64/\Q (.bl (PyData.eqv da db)) H):=by
 intro pins s σ H x y v u Q I rx ry h
 obtain⟨da,db,hx,hy,ca,cb,hd,q⟩:=h
 obtain⟨as,ra⟩:=DV.reads I hx rx
 obtain⟨bs,rb⟩:=DV.reads I hy ry
 exact SeqAt.rcAt_reads ra rb ca cb (by omega) _ _ _ _ ⟨.bl _,H,I,rfl,q⟩
theorem op_neD(hu:X.A.units+64<cLine):OpR X (compareOp .NotEq) (fun x y H Q=>∃da db,DV X.K H x da/\DV X.K H y db/\da.canLay0=true/\db.canLay0=true/\min da.depth db.depth<=64/\Q (.bl (!PyData.eqv da db)) H):=by
 intro pins s σ H x y v u Q I rx ry h
 obtain⟨da,db,hx,hy,ca,cb,hd,q⟩:=h
 obtain⟨as,ra⟩:=DV.reads I hx rx
 obtain⟨bs,rb⟩:=DV.reads I hy ry
 exact SeqAt.rcNeAt_reads ra rb ca cb (by omega) _ _ _ _ ⟨.bl _,H,I,rfl,q⟩
theorem allLay:∀{ds:List PyData},PyData.canLayAll0 ds=true->∀d∈ds,d.canLay0=true
 |[],_,d,h=>nomatch h
 |e::ds,h,d,hd=>by
  have h':(e.canLay0&&PyData.canLayAll0 ds)=true:=h
  rw[Bool.and_eq_true]at h'
  rcases List.mem_cons.mp hd with rfl|hd
  ·exact h'.1
  ·exact allLay h'.2 d hd
open Classical in
theorem op_inD(hu:X.A.units+64<cLine):OpR X (compareOp .In) (fun x y H Q=>∃(p:Addr) (xs:List V) (ds:List PyData) (dx:PyData),y= .ref p/\(SqL X.K H p xs\/SqT X.K H p xs)/\DVs X.K H xs ds/\DV X.K H x dx/\PyData.canLayAll0 ds=true/\dx.canLay0=true/\dx.depth<=60/\
  Q (.bl (ds.any fun d=>PyData.eqv d dx)) H):=by
 intro pins s σ H x y v u Q I rx ry h
 obtain⟨p,xs,ds,dx,rfl,hq,hds,hx,ca,cb,hd,q⟩:=h
 cases ry
 obtain⟨bs,rb⟩:=DV.reads I hx rx
 have key:∀{its:List Value},Vals xs its->(∀y∈its,SeqAt.EqAt X.A.in1 s y v (decide (∃d as,Reads s.heap y d as/\d∈ds/\PyData.eqv d dx=true)))/\(its.any fun y=>decide (∃d as,Reads s.heap y d as/\d∈ds/\PyData.eqv d dx=true))=ds.any fun d=>PyData.eqv d dx:=by
  intro its rv
  obtain⟨as,ra⟩:=DVs.reads I hds rv
  have each:∀{us:List Value} {es:List PyData} {as:List Addr},ReadsAll s.heap us es as->(∀e∈es,e∈ds)->(∀y∈us,SeqAt.EqAt X.A.in1 s y v (decide (∃d as,Reads s.heap y d as/\d∈ds/\PyData.eqv d dx=true)))/\(us.any fun y=>decide (∃d as,Reads s.heap y d as/\d∈ds/\PyData.eqv d dx=true))=es.any fun d=>PyData.eqv d dx:=by
   intro us
   induction us with
   |nil=>intro es as h _;cases h;exact⟨(fun y hy=>(nomatch hy)),rfl⟩
   |cons y us ih=>
    intro es as h hs
    cases h with
    | @cons _ _ d ds' as' bs' r rr=>
     obtain⟨i1,i2⟩:=ih rr fun e he=>hs e (List.mem_cons_of_mem _ he)
     have cl:=allLay ca d (hs d List.mem_cons_self)
     have e:decide (∃d as,Reads s.heap y d as/\d∈ds/\PyData.eqv d dx=true)=PyData.eqv d dx:=by
      rw[Bool.eq_iff_iff,decide_eq_true_eq]
      constructor
      ·rintro⟨d',as'',r',_,q'⟩
       obtain⟨rfl,_⟩:=(PySem.Reads.unique r _ _ r')
       exact q'
      ·intro q'
       exact⟨d,_,r,hs d List.mem_cons_self,q'⟩
     refine⟨fun z hz=> ?_,?_⟩
     ·rcases List.mem_cons.mp hz with rfl|hz
      ·rw[e]
       exact SeqAt.eqAt_reads d dx _ s _ _ _ _ r rb cl cb (by show X.A.units+1+min d.depth dx.depth<cLine;omega)
      ·exact i1 z hz
     ·rw[List.any_cons,List.any_cons,i2,e]
  exact each ra fun e he=>he
 rcases hq with hq|hq
 ·obtain⟨its,r,pl,hz⟩:=I.list hq
  obtain⟨k1,k2⟩:=key r
  refine SeqAt.in_listAt _ pl.isList (fun w hw=>k1 w (by simpa using hw)) ⟨.bl _,H,I,rfl,?_⟩
  rw[show∀f:Value->Bool,its.toArray.any f=its.any f from fun f=>by simp,k2]
  exact q
 ·obtain⟨its,r,pl,hz⟩:=I.tuple hq
  obtain⟨k1,k2⟩:=key r
  refine SeqAt.in_tupleAt _ pl (fun w hw=>k1 w (by simpa using hw)) ⟨.bl _,H,I,rfl,?_⟩
  rw[show∀f:Value->Bool,its.toArray.any f=its.any f from fun f=>by simp,k2]
  exact q
end
end L2
namespace HT
open PySem PyProof.Rows
section
open PySem.SeqAt
open PySem.AutoSeq1 (wpAny_loadPart')
open PySem.MeetsSeq PySem.MeetsSeq2 PySem.MeetsSeq3
end
section
variable{prog:Program}{w:World}{A:Around}{E:Value->Shared->Prop}{s:Shared}
end
end HT
namespace L2
open PySem PySem.Spec PyProof.Rows
section
variable{X:Cx}
theorem op_fdivL:OpR X (binaryOp .FloorDiv) (rI (fun _ j=>0<j/\j<1000000000000000000000000000000) fun i j=> .int (i/j)):=opI fun i j _ _ _ _ _ hc q=>by
 have h1:(0:Int)<j:=hc.1
 have h2:j<1000000000000000000000000000000:=hc.2
 refine floordiv_int (by omega) ?_ (Or.inl (PyProof.noPylong_of_log2 ?_))
 ·rw[Int.fdiv_eq_ediv_of_nonneg _ (by omega)]
  exact q
 ·have h3:j.natAbs≠0:=by omega
  have h4:j.natAbs<2^100:=by
   have:(2:Nat)^100=1267650600228229401496703205376:=by decide
   omega
  have:=(Nat.log2_lt h3).mpr h4
  omega
noncomputable def rCatE(K:W.Frag):R2:=fun x y H Q=>∃a b xs ys,x= .ref a/\y= .ref b/\SqT K H a xs/\SqT K H b ys/\xs.length+ys.length<=sizeLine/\∀r H',Same H H'->SqT K H' r (xs++ys)->Q (.ref r) H'
theorem op_catE:OpR X (binaryOp .Add) (rCatE X.K):=by
 intro pins s σ H x y v u Q I rx ry h
 obtain⟨a,b,xs,ys,rfl,rfl,ha,hb,hz,q⟩:=h
 by_cases hx:xs=[]
 ·subst hx
  cases rx
  cases ry
  obtain⟨its,r1,p1,_⟩:=I.tuple ha
  obtain⟨its2,r2,p2,_⟩:=I.tuple hb
  cases r1
  obtain⟨⟨cls,dd,data,sl⟩,ho,hc,n,hd⟩:=id p1
  obtain⟨⟨cls2,dd2,data2,sl2⟩,ho2,hc2,n2,hd2⟩:=id p2
  simp only at hc hd hc2 hd2
  subst hc hd hc2 hd2
  exact concat_meets ⟨_,ho,rfl⟩ ⟨_,ho2,rfl⟩ noFill_tuple_add seq_tuple_add PySem.F.slot_tuple_add PySem.F.entry_tuple_add (PySem.F.args_tuple_add_2 _ _)
   (tuple_addW0 a b _ _ n n2 dd dd2 sl sl2 (by simp)) ⟨ho,ho2,⟨.ref b,H,I,rfl,q b H (Same.refl _) hb⟩⟩
 ·refine op_catT pins s σ H _ _ v u Q I rx ry ⟨a,b,xs,ys,rfl,rfl,ha,hb,hx,hz,fun e=> ?_,fun e p hp=> ?_⟩
  ·subst e
   exact q a H (Same.refl _) (by rw[List.append_nil];exact ha)
  ·exact q p _ (fun c o e=>by rw[zbd (zaz e hp)];exact e) (SqT.of zac)
end
end L2
namespace HT
open PySem PySem.Calls PySem.Spec PyProof.Rows PySem.W
section
variable{prog:Program}{w:World}{A:Around}{E:Value->Shared->Prop}{s:Shared}
end
end HT
namespace L2
open PySem PySem.Spec PyProof.Rows
section
variable{X:Cx}{e m:Expr}{te:TE}{tm:TO}{pos p2:Pos}
end
end L2
namespace L2
open PySem PySem.Spec PyProof.Rows
section
variable{X:Cx}{tg:Expr}
noncomputable def iListL(K:W.Frag)(tl:TE):TI:=fun σ H R=>tl σ H fun x H1=>∃a xs,x= .ref a/\SqL K H1 a xs/\(xs.length<=sizeLine->R (Itl K a) H1)
noncomputable def iTupL(K:W.Frag)(tl:TE):TI:=fun σ H R=>tl σ H fun x H1=>∃a xs,x= .ref a/\SqT K H1 a xs/\(xs.length<=sizeLine->R (Itt K a) H1)
theorem zbr{l:Expr}{tl:TE}(hl:PE X l tl):PI X tg l (iListL X.K tl):=by
 intro pins s σ H R I h
 refine thn (hl pins s σ H _ I h) fun v s1 ⟨x,H1,I1,r1,q1⟩=> ?_
 obtain⟨a,xs,e,hq,q⟩:=q1
 subst e
 cases r1
 obtain⟨its,rv,p,hz⟩:=I1.list hq
 refine wpAny_pyIter_list p.isList ?_
 refine⟨s1.heap.objs.size,[s1.heap.objs.size],_,_,H1,rfl,I1.kept (t':=s1.toks) fun b o e=>Heap.get?_push_of_some _ e,turn_list a _,⟨_,Heap.get?_push_size _ rfl,rfl,rfl⟩,fun b hb=> ?_,q hz⟩
 have e:b=s1.heap.objs.size:=by simpa using hb
 subst e
 exact I1.fpOk (Nat.le_refl _) (I1.hok.fresh (Nat.le_refl _))
theorem pi_tupL{l:Expr}{tl:TE}(hl:PE X l tl):PI X tg l (iTupL X.K tl):=by
 intro pins s σ H R I h
 refine thn (hl pins s σ H _ I h) fun v s1 ⟨x,H1,I1,r1,q1⟩=> ?_
 obtain⟨a,xs,e,hq,q⟩:=q1
 subst e
 cases r1
 obtain⟨its,rv,p,hz⟩:=I1.tuple hq
 refine wpAny_pyIter_tuple (show s1.heap.IsTuple a its.toArray from p) ?_
 refine⟨s1.heap.objs.size,[s1.heap.objs.size],_,_,H1,rfl,I1.kept (t':=s1.toks) fun b o e=>Heap.get?_push_of_some _ e,turn_tuple a _,⟨_,Heap.get?_push_size _ rfl,rfl,rfl⟩,fun b hb=> ?_,q hz⟩
 have e:b=s1.heap.objs.size:=by simpa using hb
 subst e
 exact I1.fpOk (Nat.le_refl _) (I1.hok.fresh (Nat.le_refl _))
theorem zck:CallR X (.builtin "len") (fun xs H Q=>∃p ys,xs=[.ref p]/\(SqL X.K H p ys\/SqT X.K H p ys)/\(ys.length<=16777216->Q (.int ys.length) H)):=by
 intro pins s σ H xs us Q I r h
 obtain⟨p,ys,rfl,hq,q⟩:=h
 have hz:ys.length<=16777216:=by
  rw[<-sizeLine_eq]
  rcases hq with hq|hq
  ·exact(I.list hq).choose_spec.2.2
  ·exact(I.tuple hq).choose_spec.2.2
 exact call_len_seq pins s σ H _ us Q I r ⟨p,ys,rfl,hq,q hz⟩
end
mutual
inductive DX(K:W.Frag)(H:Hp):V->PyData->Prop
 |non:DX K H .non .none
 |bl (b:Bool):DX K H (.bl b) (.bool b)
 |int (i:Int):DX K H (.int i) (.int i)
 |str (x:Str):DX K H (.str x) (.str x)
 |tup {a:Addr} {xs:List V} {ds:List PyData} (h:SqT K H a xs) (t:DXs K H xs ds):DX K H (.ref a) (.tuple ds)
 |lst {a:Addr} {xs:List V} {ds:List PyData} (h:SqL K H a xs) (t:DXs K H xs ds):DX K H (.ref a) (.list ds)
 |dct {a:Addr} {kvs:List (Key×V)} (ds:List (PyData×PyData)) (h:H a=some (.dK kvs)):DX K H (.ref a) (.dict ds)
inductive DXs(K:W.Frag)(H:Hp):List V->List PyData->Prop
 |nil:DXs K H [] []
 |cons {x:V} {d:PyData} {xs:List V} {ds:List PyData} (h:DX K H x d) (t:DXs K H xs ds):DXs K H (x::xs) (d::ds)
end
theorem DX.same{K:W.Frag}{H H':Hp}(e:Same H H'){x:V}{d:PyData}(h:DX K H x d):DX K H' x d:=
 DX.rec (motive_1:=fun x d _=>DX K H' x d) (motive_2:=fun xs ds _=>DXs K H' xs ds) .non (fun b=> .bl b) (fun i=> .int i) (fun x=> .str x) (fun h _ t=> .tup (e.tup h) t) (fun h _ t=> .lst (e.seq h) t) (fun ds h=> .dct ds (e _ _ h)) .nil (fun _ _ h t=> .cons h t) h
theorem DXs.same{K:W.Frag}{H H':Hp}(e:Same H H'){xs:List V}{ds:List PyData}(h:DXs K H xs ds):DXs K H' xs ds:=
 DXs.rec (motive_1:=fun x d _=>DX K H' x d) (motive_2:=fun xs ds _=>DXs K H' xs ds) .non (fun b=> .bl b) (fun i=> .int i) (fun x=> .str x) (fun h _ t=> .tup (e.tup h) t) (fun h _ t=> .lst (e.seq h) t) (fun ds h=> .dct ds (e _ _ h)) .nil (fun _ _ h t=> .cons h t) h
theorem DV.dx{K:W.Frag}{H:Hp}{x:V}{d:PyData}(h:DV K H x d):DX K H x d:=
 DV.rec (motive_1:=fun x d _=>DX K H x d) (motive_2:=fun xs ds _=>DXs K H xs ds) .non (fun b=> .bl b) (fun i=> .int i) (fun x=> .str x) (fun h _ t=> .tup h t) (fun h _ t=> .lst h t) (fun h=> .dct [] h) (fun h _=> .dct _ h) .nil (fun _ _ h t=> .cons h t) h
theorem DVs.dx{K:W.Frag}{H:Hp}{xs:List V}{ds:List PyData}(h:DVs K H xs ds):DXs K H xs ds:=
 DVs.rec (motive_1:=fun _ _ _=>True) (motive_2:=fun xs ds _=>DXs K H xs ds) trivial (fun _=>trivial) (fun _=>trivial) (fun _=>trivial) (fun _ _ _=>trivial) (fun _ _ _=>trivial) (fun _=>trivial) (fun _ _=>trivial) .nil (fun h _ _ t=> .cons h.dx t) h
noncomputable def kindD:PyData->String
 | .none=>"NoneType"
 | .bool _=>"bool"
 | .int _=>"int"
 | .str _=>"str"
 | .list _=>"list"
 | .tuple _=>"tuple"
 | .dict _=>"dict"
theorem DX.kind{K:W.Frag}{H:Hp}:∀{x:V} {d:PyData},DX K H x d->KindV K H x (kindD d)
 |_,_,.non=>rfl
 |_,_,.bl _=>rfl
 |_,_,.int _=>rfl
 |_,_,.str _=>rfl
 |_,_,.tup h _=> .inl ⟨rfl,_,h⟩
 |_,_,.lst h _=> .inr (.inl ⟨rfl,_,h⟩)
 |_,_,.dct _ h=> .inr (.inr ⟨rfl,_,h⟩)
theorem DXs.len{K:W.Frag}{H:Hp}{xs:List V}{ds:List PyData}(h:DXs K H xs ds):xs.length=ds.length:=
 DXs.rec (motive_1:=fun _ _ _=>True) (motive_2:=fun xs ds _=>xs.length=ds.length) trivial (fun _=>trivial) (fun _=>trivial) (fun _=>trivial) (fun _ _ _=>trivial) (fun _ _ _=>trivial) (fun _ _=>trivial) rfl (fun _ _ _ t=>congrArg Nat.succ t) h
theorem DXs.get{K:W.Frag}{H:Hp}:∀{xs:List V} {ds:List PyData} {i:Nat} {x:V},DXs K H xs ds->xs[i]? =some x->∃d,ds[i]? =some d/\DX K H x d
 |_,_,_,_,.nil,e=>by simp at e
 |_,_,0,_,.cons h _,e=>by simp at e;subst e;exact⟨_,rfl,h⟩
 |_,_,i+1,x,.cons _ t,e=>by
  obtain⟨d,h1,h2⟩:=DXs.get (i:=i) t (by simpa using e)
  exact⟨d,by simpa using h1,h2⟩
structure Dfn(K:W.Frag)(mg:Str->Option Value)(x:Str)(st:Stmt)(ps:List Str)(f:Addr)(fd:FuncData):Prop where
 F:Fun K x x st f fd
 b:Binds K fd ps []
 m:mg x=some (.ref f)
theorem zaf{H:Hp}{p:Addr}(h:H p=none)(o:HO):Same H (upd H p o):=fun b u q=>by rw[zbd (zaz q h)];exact q
end L2
namespace HsD
open PySem L2
noncomputable def wholeD:PyData->Bool
 | .int _=>true
 |_=>false
noncomputable def placeD(n:Int):PyData->Bool
 | .int i=>decide (0<=i)&&decide (i<n)
 |_=>false
noncomputable def intD:PyData->Int
 | .int i=>i
 |_=>0
noncomputable def kids:PyData->List PyData
 | .tuple ds=>ds
 |_=>[]
noncomputable def risesI(ns:List Int):Bool:=(List.range (ns.length-1)).all fun k=>decide (ns.getD k 0<ns.getD (k+1) 0)
noncomputable def risesT(ts:List (List Int)):Bool:=(List.range (ts.length-1)).all fun k=>HT.lexLt (ts.getD k []) (ts.getD (k+1) [])
noncomputable def setD(n:Int):PyData->Bool
 | .tuple ds=>ds.all (placeD n)&&risesI (ds.map intD)
 |_=>false
noncomputable def tieD(n:Int)(d:PyData):Bool:=setD n d&&decide ((kids d).length=2)
noncomputable def tiesD(n:Int):PyData->Bool
 | .tuple ds=>ds.all (tieD n)&&risesT (ds.map fun t=>(kids t).map intD)
 |_=>false
noncomputable def webD:PyData->Bool
 | .tuple [n,t]=>wholeD n&&(decide (0<=intD n)&&decide (intD n<=10))&&tiesD (intD n) t
 |_=>false
theorem placeD_int{n:Int}:∀{d:PyData},placeD n d=true->∃i,d= .int i/\0<=i/\i<n
 | .int i,h=>⟨i,rfl,by simpa[placeD]using h⟩
end HsD
namespace L2
open PySem PySem.Spec PyProof.Rows
section
variable{X:Cx}
theorem ix_tupK(K:W.Frag)(h:X.K=K:=by rfl):IxR X (rIxT K):=by subst h;exact zbh
theorem ix_listK(K:W.Frag)(h:X.K=K:=by rfl):IxR X (rIxL K):=by subst h;exact zcc
theorem call_lenK(K:W.Frag)(h:X.K=K:=by rfl):CallR X (.builtin "len") (fun xs H Q=>∃p ys,xs=[.ref p]/\(SqL K H p ys\/SqT K H p ys)/\(ys.length<=16777216->Q (.int ys.length) H)):=by subst h;exact zck
theorem op_ltTK(K:W.Frag)(hu:X.A.units<cLine)(h:X.K=K:=by rfl):OpR X (compareOp .Lt) (rLtT K):=by subst h;exact op_ltT hu
theorem op_inDK(K:W.Frag)(hu:X.A.units+64<cLine)(h:X.K=K:=by rfl):OpR X (compareOp .In) (fun x y H Q=>∃(p:Addr) (xs:List V) (ds:List PyData) (dx:PyData),y= .ref p/\(SqL K H p xs\/SqT K H p xs)/\DVs K H xs ds/\DV K H x dx/\PyData.canLayAll0 ds=true/\dx.canLay0=true/\dx.depth<=60/\
  Q (.bl (ds.any fun d=>PyData.eqv d dx)) H):=by subst h;exact op_inD hu
theorem pg_tupK(K:W.Frag){es:List Expr}{k:Nat}{t:TGs}{n:Nat}{pos:Pos}(hc:X.calm=true)(h:PGs X es t)(hn:(assignEach es X.env).length=n:=by rfl)(hst:(assignEach es X.env).findIdx? (·.1)=none:=by rfl)(hK:X.K=K:=by rfl):PG X (.Tuple es k pos) (gTup K n t):=by subst hK;exact pg_tup hc h hn hst
end
end L2
namespace PySem
open Sem (wp)
open AutoSeq1 (wpAny_loadPart')
section
variable{prog:Program}{w:World}{A:Around}{E:Value->Shared->Prop}{s:Shared}
theorem wpAny_collect_range{Q:List Value->Shared->Prop}{r:Addr}{a b c:Int}{t u v:Tok}{n:Nat}(hh:A.handled=none)(hr:IsRange s.heap r a b c t u v)(hsmall:Builtin.Range.small a b c=true)(hn:Builtin.Range.rangeSize a b c=n)(hlen:n<=2^24)(hQ:∀h' tk acc,(∀b o',s.heap.get? b=some o'->h'.get? b=some o')->ItemsOf (fun i v=>∃t,v= .int (a+i*c) t) acc n->Q acc.toList {s with heap:=h',toks:=tk}):
  wpAny (model prog w) A (collect (.ref r)) Q E s:=by
 unfold collect
 refine wpAny_bind (wpAny_runValue (codeAny_builtin F.entry_proto_collect ?_));rw[Around.under_plainId F.plain_proto_collect _];show wpAny _ A.in1 (newList []>>=fun l=>again (.builtin "list.__iadd__" ⟨[l,.ref r],[]⟩)) _ _ s;refine wpAny_bind (wpAny_newObj_type ?_);refine wpAny_pure ⟨plainId_quiet F.plain_list_iadd _,codeAny_builtin F.entry_list_iadd ?_⟩;rw[Around.under_plainId F.plain_list_iadd _]
 show wpAny _ A.in1 (Builtin.List.listExtendWith (.ref s.heap.objs.size) (.ref r) (.ref s.heap.objs.size)) _ _ _;have hS:(s.heap.push {cls:= .type "list",data:= .seq ([]:List Value).toArray}).get? s.heap.objs.size=some {cls:= .type "list",data:= .seq #[] 0}:=Heap.get?_push_size _ rfl;have fin':∀h' tk acc' c',(∀b o,b≠s.heap.objs.size->(s.heap.push {cls:= .type "list",data:= .seq ([]:List Value).toArray}).get? b=some o->h'.get? b=some o)->
   h'.get? s.heap.objs.size=some {cls:= .type "list",dict:=none,data:= .seq acc' c',slots:=#[]}->ItemsOf (fun i v=>∃t,v= .int (a+i*c) t) acc' n->wpAny (model prog w) A (match Value.ref s.heap.objs.size with
   |Value.ref a=>do
    match(<-load a).data with
     |Data.seq xs _=>pure xs.toList
     |_=>unsupported "internal:collect"
   |_=>unsupported "internal:collect") Q E {s with heap:=h',toks:=tk}:=fun h' tk acc' c' hk hS' hacc=>by
  show wpAny _ A (load s.heap.objs.size>>=_) _ _ _
  refine wpAny_bind (wpAny_load hS' ?_)
  refine wpAny_pure ?_
  exact hQ h' tk acc' (fun b o e=>hk b o (Nat.ne_of_lt (Heap.lt_size e)) (Heap.get?_push_of_some _ e)) hacc
 refine wpAny_mono (wpAny_extend_range (A:=A) (R:=fun r s'=>r= .ok (.ret (.ref s.heap.objs.size))/\∃h' tk acc' c',s'={s with heap:=h',toks:=tk}/\(∀b o,b≠s.heap.objs.size->(s.heap.push {cls:= .type "list",data:= .seq ([]:List Value).toArray}).get? b=some o->h'.get? b=some o)/\
   h'.get? s.heap.objs.size=some {cls:= .type "list",dict:=none,data:= .seq acc' c',slots:=#[]}/\ItemsOf (fun i v=>∃t,v= .int (a+i*c) t) acc' n) (s:={s with heap:=s.heap.push {cls:= .type "list",data:= .seq ([]:List Value).toArray}}) hh (Heap.get?_push_of_some _ hr) hsmall hn hlen s.heap.objs.size (.ref s.heap.objs.size) 0 hS (fun h' tk acc' c' hk hS' hacc=>⟨rfl,h',tk,acc',c',rfl,hk,hS',hacc⟩)) (fun fin s' h=> ?_) (fun e s' h=> ?_)
 ·cases fin with
  |done f=>
   obtain⟨e,h',tk,acc',c',rfl,h1,h2,h3⟩:=h
   cases e
   exact fin' h' tk acc' c' h1 h2 h3
  |again c'=>exact⟨h.1,codeAny_mono h.2 fun r s'' hr=>by obtain⟨rfl,h',tk,acc',c',rfl,h1,h2,h3⟩:=hr;exact fin' h' tk acc' c' h1 h2 h3⟩
 ·exact absurd h.1 (by simp)
end
theorem meets_tuple_new_range(r:Addr)(a b c:Int)(t u v:Tok)(n:Nat)(hsmall:Builtin.Range.small a b c=true)(hn:Builtin.Range.rangeSize a b c=n)(hlen:n<=2^24):
  Meets (Builtin.«tuple.__new__» ⟨[.type "tuple",.ref r],[]⟩)
   (fun A R s=>A.handled=none/\IsRange s.heap r a b c t u v/\∀(h':Heap) tk acc,(∀b o',s.heap.get? b=some o'->h'.get? b=some o')->ItemsOf (fun i v=>∃t,v= .int (a+i*c) t) acc n->R (.ok (.ret (.ref h'.objs.size))) {s with heap:=h'.push {cls:= .type "tuple",data:= .seq acc},toks:=tk}):=
 .of_wp fun prog w A R s h=>by
  obtain⟨hp,g,d,tk,os⟩:=s;obtain⟨hh,ht,h⟩:=h
  have hsub:=sub_tuple_self
  have hinit:=init_tuple_lookup
  have hmh:=madeHere_tuple
  have hT:Shared.TypeIs ⟨hp,g,d,tk,os⟩ (.ref r) "range":=⟨_,ht,rfl⟩
  wp_walk using wpAny_loadPart' ht,wpAny_typeOf hT,wpAny_collect_range (A:=A.in1) hh ht hsmall hn hlen
  intro h' tk' acc hk hacc
  show wpAny _ _ (Builtin.Tuple.tupleExact acc.toList.toArray>>=fun v=>ret v) _ _ _
  unfold Builtin.Tuple.tupleExact
  refine wpAny_bind (wpAny_newObj_type ?_ (by show acc.toList.toArray.size<=sizeLine;rw[sizeLine_eq];simp;rw[hacc.1];omega))
  refine wpAny_pure ⟨_,rfl,?_⟩
  have e:acc.toList.toArray=acc:=by simp
  rw[e]
  exact h h' tk' acc hk hacc
section
variable{prog:Program}{w:World}{A:Around}{E:Value->Shared->Prop}{s:Shared}
theorem call_tuple_range{Q:Value->Shared->Prop}{r:Addr}{a b c:Int}{t u v:Tok}{n:Nat}(hh:A.handled=none)(hr:IsRange s.heap r a b c t u v)(hsmall:Builtin.Range.small a b c=true)(hn:Builtin.Range.rangeSize a b c=n)(hlen:n<=2^24)(h:∀(h':Heap) tk acc,(∀b o',s.heap.get? b=some o'->h'.get? b=some o')->ItemsOf (fun i v=>∃t,v= .int (a+i*c) t) acc n->Q (.ref h'.objs.size) {s with heap:=h'.push {cls:= .type "tuple",data:= .seq acc},toks:=tk}):
  wpAny (model prog w) A (call (.type "tuple") [.ref r]) Q E s:=
 callType_new F.called_tuple (by decide) (F.typeCall_tuple_1 _) (F.newCall_tuple_1 _) (fun obj=>F.args_object_init_2 obj _) F.entry_tuple_new
  (meets_tuple_new_range r a b c t u v n hsmall hn hlen) ⟨hh,hr,fun h' tk acc hk hacc=>⟨⟨_,Heap.get?_push_size _ rfl,rfl⟩,h h' tk acc hk hacc⟩⟩
end
end PySem
namespace L2
open PySem PySem.Spec PyProof.Rows
section
variable{X:Cx}{p p' pos pos':Pos}{a:Expr}{ta:TA}
noncomputable def tupR(n:Nat):List V:=(List.range n).map fun(k:Nat)=>V.int (k:Int)
noncomputable def tTupR(ta:TA):TE:=fun σ H Q=>ta σ H fun vs H1=>∃j:Int,vs=[.int j]/\0<=j/\j<=16777216/\∀l,H1 l=none->Q (.ref l) (upd H1 l (.tup (tupR j.toNat)))
theorem vals_items:∀{n:Nat} {us:List Value},us.length=n->(∀(j:Nat) (u:Value),us[j]? =some u->∃t:Tok,u=Value.int (0+((j:Nat):Int)*1) t)->Vals (tupR n) us:=by
 intro n us hl hi
 have go:∀(us:List Value) (k:Nat),(∀(j:Nat) (u:Value),us[j]? =some u->∃t:Tok,u=Value.int (0+((j+k:Nat):Int)*1) t)->Vals ((List.range' k us.length).map fun(k:Nat)=>V.int (k:Int)) us:=by
  intro us
  induction us with
  |nil=>intro k _;exact .nil
  |cons u us ih=>
   intro k h
   obtain⟨t,e⟩:=h 0 u rfl
   refine .cons ⟨t,?_⟩ (ih (k+1) fun j u' hj=> ?_)
   ·rw[e];congr 1;omega
   ·obtain⟨t',e'⟩:=h (j+1) u' (by simpa using hj)
    refine⟨t',?_⟩
    rw[e'];congr 1;omega
 have:=go us 0 (fun j u hj=>by obtain⟨t,e⟩:=hi j u hj;exact⟨t,by rw[e];rfl⟩)
 unfold tupR
 rw[List.range_eq_range',<-hl]
 exact this
theorem pe_tupRange(hc:X.calm=true)(hgT:Gl X "tuple")(hmT:X.mg "tuple"=none)(hg:Gl X "range")(hm:X.mg "range"=none)(ha:PA X [a] ta)(hs:starEach [a] X.env=[(false,eval a X.env)]:=by rfl)(hs2:starEach [Expr.Call (.Name "range" p') [a] [] pos'] X.env=[(false,eval (Expr.Call (.Name "range" p') [a] [] pos') X.env)]:=by rfl):
  PE X (.Call (.Name "tuple" p) [.Call (.Name "range" p') [a] [] pos'] [] pos) (tTupR ta):=by
 intro pins s σ H Q I h
 refine wpAny_Call_Name_kw (ld_blt I hgT hmT (show bootBuiltins "tuple"=some (.type "tuple")from by decide+kernel) ?_ (by decide) (by decide))
 refine PyProof.Rows.callWith_type1 ?_ hs2 rfl
 rw[hs2]
 refine Calls.spliced_cons ?_
 refine Call_ (ld_blt I hg hm boot_range (PyProof.Rows.callWith_type1 (thn (ha pos' pins s σ H _ I h) fun us s1 ⟨vs,H1,I1,r1,q1⟩=> ?_) hs rfl))
 obtain⟨j,e,q1,q2,q⟩:=q1
 subst e
 cases r1 with
 |cons r rr=>
  cases rr
  obtain⟨t,rfl⟩:=r
  refine call_range_1 ?_
  refine Calls.spliced_nil ?_
  have hn:Builtin.Range.rangeSize 0 j 1=((j.toNat:Nat):Int):=by rw[rangeSize_one];split<;>omega
  refine call_tuple_range (I.ok.hd hc) (IsRange.new ..) (small_one (by decide) (by decide) (by omega) (by omega)) hn (by omega) fun h' tk acc hk hacc=> ?_
  have I2:Inv X pins σ H1 {s1 with heap:=h',toks:=tk}:=I1.kept fun b o e=>hk b o (Heap.get?_push_of_some _ e)
  have hv:Vals (tupR j.toNat) acc.toList:=vals_items (by rw[Array.length_toList];exact hacc.1) (fun i u hu=>hacc.2 i u (by simpa using hu))
  have hz:(tupR j.toNat).length<=sizeLine:=by unfold tupR;rw[sizeLine_eq];simp;omega
  have I3:Inv X pins σ (upd H1 h'.objs.size (.tup (tupR j.toNat))) {s1 with heap:=h'.push {cls:= .type "tuple",data:= .seq acc},toks:=tk}:=
   I2.laid (t':=tk) (fun b o e=>Heap.get?_push_of_some _ e) (Nat.le_refl _) (show ObjOk X.prog X.w _ _ _ (.tup (tupR j.toNat))from⟨hz,acc.toList,hv,by rw[show acc=acc.toList.toArray by simp];exact IsTup.new _ _⟩)
  exact⟨.ref h'.objs.size,_,I3,rfl,q _ (I2.hok.fresh (Nat.le_refl _))⟩
open Classical in
theorem op_notInD(hu:X.A.units+64<cLine):OpR X (compareOp .NotIn) (fun x y H Q=>∃(p:Addr) (xs:List V) (ds:List PyData) (dx:PyData),y= .ref p/\(SqL X.K H p xs\/SqT X.K H p xs)/\DVs X.K H xs ds/\DV X.K H x dx/\PyData.canLayAll0 ds=true/\dx.canLay0=true/\dx.depth<=60/\
  Q (.bl (!(ds.any fun d=>PyData.eqv d dx))) H):=by
 intro pins s σ H x y v u Q I rx ry h
 obtain⟨p,xs,ds,dx,rfl,hq,hds,hx,ca,cb,hd,q⟩:=h
 cases ry
 obtain⟨bs,rb⟩:=DV.reads I hx rx
 have key:∀{its:List Value},Vals xs its->(∀y∈its,SeqAt.EqAt X.A.in1 s y v (decide (∃d as,Reads s.heap y d as/\d∈ds/\PyData.eqv d dx=true)))/\(its.any fun y=>decide (∃d as,Reads s.heap y d as/\d∈ds/\PyData.eqv d dx=true))=ds.any fun d=>PyData.eqv d dx:=by
  intro its rv
  obtain⟨as,ra⟩:=DVs.reads I hds rv
  have each:∀{us:List Value} {es:List PyData} {as:List Addr},ReadsAll s.heap us es as->(∀e∈es,e∈ds)->(∀y∈us,SeqAt.EqAt X.A.in1 s y v (decide (∃d as,Reads s.heap y d as/\d∈ds/\PyData.eqv d dx=true)))/\(us.any fun y=>decide (∃d as,Reads s.heap y d as/\d∈ds/\PyData.eqv d dx=true))=es.any fun d=>PyData.eqv d dx:=by
   intro us
   induction us with
   |nil=>intro es as h _;cases h;exact⟨(fun y hy=>(nomatch hy)),rfl⟩
   |cons y us ih=>
    intro es as h hs
    cases h with
    | @cons _ _ d ds' as' bs' r rr=>
     obtain⟨i1,i2⟩:=ih rr fun e he=>hs e (List.mem_cons_of_mem _ he)
     have cl:=allLay ca d (hs d List.mem_cons_self)
     have e:decide (∃d as,Reads s.heap y d as/\d∈ds/\PyData.eqv d dx=true)=PyData.eqv d dx:=by
      rw[Bool.eq_iff_iff,decide_eq_true_eq]
      constructor
      ·rintro⟨d',as'',r',_,q'⟩
       obtain⟨rfl,_⟩:=(PySem.Reads.unique r _ _ r')
       exact q'
      ·intro q'
       exact⟨d,_,r,hs d List.mem_cons_self,q'⟩
     refine⟨fun z hz=> ?_,?_⟩
     ·rcases List.mem_cons.mp hz with rfl|hz
      ·rw[e]
       exact SeqAt.eqAt_reads d dx _ s _ _ _ _ r rb cl cb (by show X.A.units+1+min d.depth dx.depth<cLine;omega)
      ·exact i1 z hz
     ·rw[List.any_cons,List.any_cons,i2,e]
  exact each ra fun e he=>he
 rcases hq with hq|hq
 ·obtain⟨its,r,pl,hz⟩:=I.list hq
  obtain⟨k1,k2⟩:=key r
  refine SeqAt.notIn_listAt _ pl.isList (fun w hw=>k1 w (by simpa using hw)) ⟨.bl _,H,I,rfl,?_⟩
  rw[show∀f:Value->Bool,its.toArray.any f=its.any f from fun f=>by simp,k2]
  exact q
 ·obtain⟨its,r,pl,hz⟩:=I.tuple hq
  obtain⟨k1,k2⟩:=key r
  refine SeqAt.notIn_tupleAt _ pl (fun w hw=>k1 w (by simpa using hw)) ⟨.bl _,H,I,rfl,?_⟩
  rw[show∀f:Value->Bool,its.toArray.any f=its.any f from fun f=>by simp,k2]
  exact q
theorem op_notInDK(K:W.Frag)(hu:X.A.units+64<cLine)(h:X.K=K:=by rfl):OpR X (compareOp .NotIn) (fun x y H Q=>∃(p:Addr) (xs:List V) (ds:List PyData) (dx:PyData),y= .ref p/\(SqL K H p xs\/SqT K H p xs)/\DVs K H xs ds/\DV K H x dx/\PyData.canLayAll0 ds=true/\dx.canLay0=true/\dx.depth<=60/\
  Q (.bl (!(ds.any fun d=>PyData.eqv d dx))) H):=by subst h;exact op_notInD hu
end
end L2
namespace PySem
open Sem (wp)
open Builtin
open AutoSeq1 (wpAny_loadPart')
end PySem
namespace L2
open PySem PySem.Spec PyProof.Rows
section
variable{X:Cx}{p p' pos pos':Pos}{a:Expr}{ta:TA}
end
end L2
namespace PySem
open Sem (wp)
open AutoSeq1 (wpAny_loadPart')
section
variable{prog:Program}{w:World}{A:Around}{E:Value->Shared->Prop}{s:Shared}
theorem nextOf_tup{it t:Addr}{i:Nat}{items:Array Value}{x:Value}{Q:Value->Shared->Prop}(hit:s.heap.IsTupleIter it t i)(ht:s.heap.IsTuple t items)(hx:items[i]? =some x)(hQ:∀h',h'.IsTupleIter it t (i+1)->Heap.SameBut it s.heap h'->Q x {s with heap:=h'}):wpAny (model prog w) A (Builtin.SmallTypes.nextOf (.ref it)) Q E s:=by
 obtain⟨o,ho,hc,hd⟩:=id hit;obtain⟨ol,hol,_,nl,hdl⟩:=ht;unfold Builtin.SmallTypes.nextOf
 refine wpAny_bind (wpAny_callSpecial?_slot (name:=Str.ofString "__next__") hit.typeIs F.slot_tuple_iterator_next (wpAny_call_entry F.slot_tuple_iterator_next hit.typeIs F.entry_tuple_iterator_next ?_ (F.args_tuple_iterator_next_1 _)))
 show wpAny _ _ (field (.ref it) 0>>=_) _ _ s;refine wpAny_bind (wpAny_field ho hd (x:= .ref t) rfl ?_)
 show wpAny _ _ (if(Value.ref t==Value.none)=true then _ else _) _ _ s;rw[if_neg (show¬((Value.ref t==Value.none)=true)from Bool.false_ne_true)]
 show wpAny _ _ (field (.ref it) 1>>=_) _ _ s;refine wpAny_bind (wpAny_field ho hd (x:= .int i 0) rfl ?_)
 show wpAny _ _ (seqItems? (.ref t)>>=_) _ _ s;refine wpAny_bind (wpAny_seqItems hol hdl ?_)
 simp only[Int.toNat_natCast,hx];refine wpAny_bind (wpAny_setField ho hd (by simp) (wpAny_pure ⟨x,rfl,wpAny_pure (hQ _ ?_ (Heap.SameBut.update ..))⟩))
 exact⟨_,Heap.get?_update_self _ ho (Obj.isFreed_of_fields (Obj.data_mapFields hd _)),(Obj.cls_mapFields ..).trans hc,by rw[Obj.data_mapFields hd];simp[rawInt]⟩
theorem nextOf_tup_end{it t:Addr}{i:Nat}{items:Array Value}{Q:Value->Shared->Prop}(hh:A.handled=none)(hit:s.heap.IsTupleIter it t i)(ht:s.heap.IsTuple t items)(hx:items[i]? =none)(hE:∀h' e,Heap.ExtBut it s.heap h'->(∃o,h'.get? e=some o/\o.cls= .type "StopIteration")->E (.ref e) {s with heap:=h'}):wpAny (model prog w) A (Builtin.SmallTypes.nextOf (.ref it)) Q E s:=by
 obtain⟨o,ho,hc,hd⟩:=id hit;obtain⟨ol,hol,_,nl,hdl⟩:=ht;unfold Builtin.SmallTypes.nextOf
 refine wpAny_bind (wpAny_callSpecial?_slot (name:=Str.ofString "__next__") hit.typeIs F.slot_tuple_iterator_next (wpAny_call_entry F.slot_tuple_iterator_next hit.typeIs F.entry_tuple_iterator_next ?_ (F.args_tuple_iterator_next_1 _)))
 show wpAny _ _ (field (.ref it) 0>>=_) _ _ s;refine wpAny_bind (wpAny_field ho hd (x:= .ref t) rfl ?_)
 show wpAny _ _ (if(Value.ref t==Value.none)=true then _ else _) _ _ s;rw[if_neg (show¬((Value.ref t==Value.none)=true)from Bool.false_ne_true)]
 show wpAny _ _ (field (.ref it) 1>>=_) _ _ s;refine wpAny_bind (wpAny_field ho hd (x:= .int i 0) rfl ?_)
 show wpAny _ _ (seqItems? (.ref t)>>=_) _ _ s;refine wpAny_bind (wpAny_seqItems hol hdl ?_)
 simp only[Int.toNat_natCast,hx];refine wpAny_bind (wpAny_rule (wpAny_bind (wpAny_setField ho hd (by simp) ?_)))
 show wpAny _ _ (newExc (.type "StopIteration") []>>=_) _ _ _;refine wpAny_bind ?_;simp only[newExc,newTuple];refine wpAny_bind (wpAny_newObj_type ?_ (by size_fits))
 refine wpAny_bind (m:=firstArgMember _ _) (wpAny_of_eq (a:=Value.none) (by first |rfl|(simp only[firstArgMember];rfl)) ?_);refine wpAny_newObj_type ?_ (by size_fits)
 simp only[raiseNew];refine wpAny_bind (wpAny_handled ?_);first |rw[show A.in1.handled=none from hh]|rw[hh]
 refine wpAny_bind (wpAny_pure (wpAny_throw ?_));exact hE _ _ (((Heap.SameBut.update ..).extBut.push _).push _) ⟨_,Heap.get?_push_size _ rfl,rfl⟩
end
theorem Draws.tup{prog:Program}{w:World}{A:Around}(hh:A.handled=none)(it l:Addr)(hne:l≠it)(items:Array Value):
  Draws prog w A it [it,l] items.size (fun i v=>items[i]? =some v) (fun i h=>h.IsTupleIter it l i/\h.IsTuple l items) where
 live:=fun i h st=>by obtain⟨⟨o,e,_⟩,_⟩:=st;exact⟨o,e⟩
 frame:=fun i h h' st k=>⟨st.1.at fun o e=>k it (by simp) o e,st.2.at fun o e=>k l (by simp) o e⟩
 item:=fun i s Q E hi st hQ=>by
  have hx:items[i]? =some items[i]:=Array.getElem?_eq_getElem hi
  exact nextOf_tup st.1 st.2 hx fun h' hit' hs=>hQ _ h' s.toks hx ⟨hit',st.2.at fun o e=>(hs.2 l hne).trans e⟩ hs
 done:=fun s Q E st hE=>nextOf_tup_end hh st.1 st.2 (Array.getElem?_eq_none (Nat.le_refl _)) hE
section
variable{prog:Program}{w:World}{A:Around}{E:Value->Shared->Prop}{s:Shared}
end
end PySem
namespace L2
open PySem PySem.Spec PyProof.Rows
section
variable{X:Cx}{pins:List (Addr×Obj)}{σ:St}{H:Hp}{s:Shared}{h':Heap}
theorem Inv.turns{t':Nat}{fp:List Addr}(I:Inv X pins σ H s)(k:∀b o,b∉fp->s.heap.get? b=some o->h'.get? b=some o)(hf:∀b∈fp,FpOk X pins H b):Inv X pins σ H {s with heap:=h',toks:=t'}:=by
 have nfp:∀b u,H b=some u->b∉fp:=fun b u e z=>by rw[(hf b z).1]at e;cases e
 refine I.step (g':=s.gens) (d':=s.drawn) (ch:=fp) (fun b hb=> ?_) (fun b o _ _ hc e _=>k b o hc e) (fun b o _ _ hc e _=>⟨o.slots,k b o hc e⟩) (fun b o _ e n=>n)
  (fun b o hc e=>⟨o,k b o hc e⟩) (fun b xs e=>e) (fun b o u e=>e) (fun b ps e=>⟨#[],by rw[e];simp⟩) (fun m hm=> ?_) (fun b u e=> ?_) I.bare
 ·obtain⟨f0,f1,f2,f3,f4,f5⟩:=hf b hb
  exact⟨f3,f1,f4,f5⟩
 ·obtain⟨o,es,ep,ho,r⟩:=hm
  exact⟨o,es,ep,k _ o (fun z=>(hf _ z).2.1 rfl) ho,r⟩
 ·refine(I.hok b u e).stay (fun c v hc q=>k c v ?_ q) (fun c q=>q) fun c xs q=>q
  rcases hc with z|z
  ·rw[z];exact nfp b u e
  ·exact nfp c _ z
end
noncomputable def SqE(K:W.Frag)(b:Bool)(H:Hp)(a:Addr)(xs:List V):Prop:=match b with
 |false=>SqL K H a xs
 |true=>SqT K H a xs
section
variable{X:Cx}{es:List Expr}{k:Nat}{pos0:Pos}
end
section
variable{ini:St}{H:Hp}{g:TG}{tc:TT}{te:TE}{Fin:List V->Hp->Prop}{K:W.Frag}{b:Bool}{a:Addr}{xs:List V}
end
end L2
namespace L2
open PySem PySem.Spec PyProof.Rows
section
variable{X:Cx}{e m a:Expr}{te:TE}{tm:TO}{ta:TA}{p p' pos pos' p2:Pos}
theorem op_catEK(K:W.Frag)(h:X.K=K:=by rfl):OpR X (binaryOp .Add) (rCatE K):=by subst h;exact op_catE
noncomputable def Its(K:W.Frag)(b:Bool)(a:Addr)(xs:List V):It:=⟨fun i H=>SqE K b H a xs/\i<xs.length,fun i H x H'=>H'=H/\xs[i]? =some x,fun i H=>SqE K b H a xs/\i=xs.length⟩
theorem Turn.its{P:Program}{w:World}{K:W.Frag}{tg:Expr}{J:It}{fp:List Addr}{it:Addr}{tn:Nat->Heap->Prop}{b:Bool}{a:Addr}{xs:List V}(T:Turn P w K tg J fp it tn)(hg:∀i H,(Its K b a xs).go i H->J.go i H/\∀x H',J.yld i H x H'->(Its K b a xs).yld i H x H')(hs:∀i H,(Its K b a xs).stop i H->J.stop i H):Turn P w K tg (Its K b a xs) fp it tn where
 mem:=T.mem
 obj:=T.obj
 keep:=T.keep
 item:=fun X h1 h2 h3 h4 i pins s σ H E I hf st g=>by
  obtain⟨g1,g2⟩:=hg i H g
  refine wpAny_mono (T.item X h1 h2 h3 h4 i pins s σ H E I hf st g1) (fun r s1 ⟨u,e,q⟩=>⟨u,e,wpAny_mono q (fun _ s2 ⟨x,H',a1,a2,a3,a4⟩=>⟨x,H',a1,a2,g2 x H' a3,a4⟩) fun _ _ e=>e⟩) fun _ _ e=>e
 done:=fun X h1 h2 h3 h4 i pins s σ H E I hf st g=>T.done X h1 h2 h3 h4 i pins s σ H E I hf st (hs i H g)
 self:=T.self
end
section
variable{ini:St}{H:Hp}{g:TG}{tc:TT}{te:TE}{Fin:List V->Hp->Prop}{K:W.Frag}{b:Bool}{a:Addr}{xs:List V}
end
theorem SqE.same{K:W.Frag}{b:Bool}{H H':Hp}{a:Addr}{xs:List V}(h:SqE K b H a xs)(e:Same H H'):SqE K b H' a xs:=by
 cases b with
 |false=>exact e.seq (show SqL K H a xs from h)
 |true=>exact e.tup (show SqT K H a xs from h)
theorem seq_mid{s u:TS}{D:Ends}{σ:St}{H:Hp}(I:St->Hp->Prop)(h1:∀N:St->Hp->Prop,(∀σ' H',I σ' H'->N σ' H')->s {D with nx:=N} σ H)(h2:∀σ' H',I σ' H'->u D σ' H'):tSeq s u D σ H:=h1 (u D) h2
section
variable{K:W.Frag}{σ:St}{H0:Hp}{tp:Addr}
noncomputable def ListsA(H:Hp)(tp:Addr)(its:List (Addr×List Int)):Prop:=∀p∈its,H p.1=some (.lst (p.2.map V.int))/\p.1≠tp/\p.2.length<=40
theorem ListsA.same{H H':Hp}{its:List (Addr×List Int)}(h:ListsA H tp its)(e:Same H H'):ListsA H' tp its:=fun p hp=>⟨e _ _ (h p hp).1,(h p hp).2⟩
theorem ListsA.step{H H':Hp}{its:List (Addr×List Int)}(h:ListsA H tp its)(e:∀b o,b≠tp->H b=some o->H' b=some o):ListsA H' tp its:=fun p hp=>⟨e _ _ (h p hp).2.1 (h p hp).1,(h p hp).2⟩
end
end L2
namespace L2
open PySem PySem.Spec PyProof.Rows
noncomputable def compOkC(sc scope:Scope):Bool:=scope.names.all fun p=>(p.2 !=NameKind.cell||scope.names.lookup p.1==some NameKind.cell)&&(p.2 !=NameKind.local||scope.names.lookup p.1==some NameKind.local)&&
 (p.2 !=NameKind.free||(scope.names.lookup p.1==some NameKind.free&&(sc.names.lookup p.1==some NameKind.cell||sc.names.lookup p.1==some NameKind.free)))
section
variable{sc scope:Scope}
theorem compOkC.cell(h:compOkC sc scope=true){x:Str}(hy:(x,NameKind.cell)∈scope.names):scope.names.lookup x=some .cell:=by
 have q:=List.all_eq_true.mp h _ hy
 simpa using q
theorem compOkC.names(h:compOkC sc scope=true):∀y∈scope.names,y.2= .local->scope.names.lookup y.1=some .local:=fun y hy e=>by
 have q:=List.all_eq_true.mp h y hy
 simpa[e]using q
theorem compOkC.free(h:compOkC sc scope=true){x:Str}(hy:(x,NameKind.free)∈scope.names):scope.names.lookup x=some .free/\(sc.names.lookup x=some .cell\/sc.names.lookup x=some .free):=by
 have q:=List.all_eq_true.mp h _ hy
 simpa using q
end
section
variable{X:Cx}{tg iter elt:Expr}{ifs:List Expr}{scope:Scope}{pos:Pos}{own caps:List Str}{ix:List Nat}{g:TG}{tc:TT}{te:TE}
end
section
variable{X:Cx}{tg iter elt:Expr}{ifs:List Expr}{scope:Scope}{pos:Pos}{own caps:List Str}{ix:List Nat}{wi:TI}{g:TG}{tc:TT}{te:TE}
end
end L2
namespace L2
open PySem PySem.Spec PyProof.Rows
section
variable{prog:Program}{w:World}{A:Around}{E:Value->Shared->Prop}{s:Shared}
noncomputable def bare(led:Bool):Obj:={cls:= .type "set",dict:=none,data:= .set #[] 0 (.fresh 0 0 led)}
end
section
variable{X:Cx}{a:Expr}{ta:TA}{p p' pos pos':Pos}
end
end L2
namespace Srt
open PySem PySem.W PyProof.Rows PySem.Calls
section
variable{prog:Program}{w:World}{A:Around}{E:Value->Shared->Prop}{s:Shared}{O:KeyOrd}{key:Nat->O.α}{κ:SortKind}{vs:List Value}
end
end Srt
namespace L2
open PySem PySem.Spec PyProof.Rows
section
variable{X:Cx}
end
noncomputable def IB:V->Prop
 | .int _=>True
 | .bl _=>True
 |_=>False
noncomputable def IBs(xs:List V):Prop:=∀x∈xs,IB x
theorem IBs.ints(xs:List Int):IBs (xs.map V.int):=fun x hx=>by
 obtain⟨i,_,rfl⟩:=List.mem_map.mp hx
 trivial
section
variable{K:W.Frag}{σ:St}{H0:Hp}
noncomputable def TupsM(K:W.Frag)(H:Hp)(l:Addr)(k:Nat):Prop:=∃its:List (Addr×List V),H l=some (.lst (its.map fun p=>V.ref p.1))/\(∀p∈its,SqT K H p.1 p.2/\IBs p.2/\p.2.length<=60)/\its.length<=k
theorem TupsM.same{H H':Hp}{l:Addr}{k:Nat}(h:TupsM K H l k)(e:Same H H'):TupsM K H' l k:=by
 obtain⟨its,h1,h2,h3⟩:=h
 exact⟨its,e _ _ h1,fun p hp=>⟨e.tup (h2 p hp).1,(h2 p hp).2⟩,h3⟩
end
end L2
namespace L2
open PySem PySem.W PySem.Spec PyProof.Rows
section
variable{X:Cx}
theorem pt_truthK(K:W.Frag){a:Expr}{ta:TE}(ha:PE X a ta)(he:∀whole,isTrue a X.env whole=(do let v<-whole;standAt a.pos;holding [v] (truthy v)))(h:X.K=K:=by rfl):
  PT X a (fun σ H Q=>ta σ H fun x H'=>∃k,TruV K x H' k/\Q k H'):=by subst h;exact pt_truth ha he
end
end L2
namespace L2
open PySem PySem.Spec PyProof.Rows
section
variable{prog:Program}{w:World}{A:Around}{E:Value->Shared->Prop}{s:Shared}{l:Addr}{kid:String}{vs:List Value}{R:Result->Shared->Prop}{Q:Value->Shared->Prop}
end
end L2
namespace L2
open PySem PySem.Spec PyProof.Rows
section
variable{X:Cx}{a:Expr}{ta:TA}{p p2 kp pos:Pos}
end
end L2
namespace L2
open PySem PySem.Spec PyProof.Rows
noncomputable def ExcO(a C:Addr):HO:= .ext fun h=>∃o vs,h.get? a=some o/\o.cls= .ref C/\o.data= .fields vs
theorem ObjOk.any{P:Program}{w:World}{H:Hp}{h:Heap}{a:Addr}{o:HO}(x:ObjOk P w H h a o):∃u,h.get? a=some u:=by
 cases o with
 |lst xs=>obtain⟨_,_,_,_,e⟩:=x;exact⟨_,e⟩
 |tup xs=>obtain⟨_,_,_,ob,e,_⟩:=x;exact⟨_,e⟩
 |dK kvs=>obtain⟨_,_,_,_,o,_,_,e,_⟩:=x;exact⟨_,e⟩
 |dT kvs=>obtain⟨_,_,_,_,o,_,_,e,_⟩:=x;exact⟨_,e⟩
 |set S n=>obtain⟨o,_,_,_,e,_⟩:=x;exact⟨_,e⟩
 |ins C dx fs=>obtain⟨_,_,_,e,_⟩:=x;exact⟨_,e⟩
 |own y=>exact x
 |xd fs=>obtain⟨_,⟨_,_,_,e,_⟩,_⟩:=x;exact⟨_,e⟩
 |rng lo hi=>obtain⟨_,_,_,e⟩:=x;exact⟨_,e⟩
 |frz ob u=>obtain⟨e,_⟩:=x;exact⟨_,e⟩
 |tbl ps=>exact⟨_,x⟩
 |met f y=>exact⟨_,x⟩
 |ext φ=>exact x.2.1
theorem HOk.none{P:Program}{w:World}{H:Hp}{h:Heap}{a:Addr}(x:HOk P w H h)(e:h.get? a=none):H a=none:=by
 cases q:H a with
 |none=>rfl
 |some u=>
  obtain⟨o,z⟩:=(x a u q).any
  rw[e]at z;cases z
structure UnB(fs:List Addr)(H H':Hp)(h B:Heap):Prop where
 keep:∀b o,h.get? b=some o->H b=none->b∉fs->B.get? b=some o
 free:∀b o,h.get? b=some o->H b=none->H' b=none
 there:∀b o,h.get? b=some o->b∉fs->∃o',B.get? b=some o'
 tups:∀b xs,H b=some (.tup xs)->H' b=some (.tup xs)
 frzs:∀b o u,H b=some (.frz o u)->H' b=some (.frz o u)
 tbls:∀b ps,H b=some (.tbl ps)->∃more,H' b=some (.tbl (ps++more))
structure Flew(P:Program)(w:World)(outer:List Env)(H:Hp)(s:Shared)(e C:Addr)(H':Hp)(B:Heap)(s':Shared):Prop where
 os:s'.os=s.os
 bare:AllBare s'.gens
 fly:∃a0,Heap.FlyingW B outer e (.ref C) a0 s'.heap
 un:UnB (frs outer) H H' s.heap B
 hok:HOk P w H' B
 sl:∀b∈frs outer,∀o,s.heap.get? b=some o->∃sl,s'.heap.get? b=some {o with slots:=sl}
 new:s.heap.get? e=none
 he:H' e=none
noncomputable def CX1(P:Program)(w:World):CXT:=fun outer H s E v s'=>∃e C H' B,v= .ref e/\Flew P w outer H s e C H' B s'/\E v (some C) (upd H' e (ExcO e C))
theorem frs_cons{env:Env}{outer:List Env}{L:Addr}(h:env.frame=some L):frs (env::outer)=L::frs outer:=by
 unfold frs;rw[List.filterMap_cons,h]
section
variable{P:Program}{w:World}{K:W.Frag}{mg:Str->Option Value}{base:Heap}{N:List Str}{qual:Str}{scope:Scope}{f:Addr}{cd:Value}{A:Around}{outer:List Env}{s:Shared}{H:Hp}{E:XK}
theorem pass1:Passes (CX1 P w) (cxOf (CX1 P w) P w K mg base N qual scope f cd A outer s H E) E:=by
 intro pins σ H1 s1 v s' I h
 obtain⟨e,C,H',B,rfl,F,hE⟩:=h
 obtain⟨a0,fl⟩:=F.fly
 have fc:frs ((envOfC qual scope s.heap.objs.size f cd)::outer)=s.heap.objs.size::frs outer:=frs_cons rfl
 have hs:frs (cxOf (CX1 P w) P w K mg base N qual scope f cd A outer s H E).stack=s.heap.objs.size::frs outer:=fc
 have nL:∀b o,s.heap.get? b=some o->b∉frs outer->b∉s.heap.objs.size::frs outer:=fun b o q hb hm=>by
  rcases List.mem_cons.mp hm with z|z
  ·exact absurd (Heap.lt_size q) (by rw[z];exact Nat.lt_irrefl _)
  ·exact hb z
 have un:=F.un
 rw[hs]at un
 refine wpAny_leaves_onW (L:=s.heap.objs.size) I.ok.frames rfl fl fun h' fl' up=> ?_
 refine⟨e,C,H',B,rfl,⟨F.os.trans I.os,F.bare,⟨a0,fl'⟩,⟨fun b o q n hb=> ?_,fun b o q n=> ?_,fun b o q hb=> ?_,fun b xs q=> ?_,fun b o u q=> ?_,fun b ps q=> ?_⟩,F.hok,fun b hb o q=> ?_,?_,F.he⟩,hE⟩
 ·exact un.keep b o (I.base.keep b o q n hb (by intro z;cases z)) (I.base.free b o q n (by intro z;cases z)) (nL b o q hb)
 ·obtain⟨o',e'⟩:=I.base.there b o q (by intro z;cases z)
  exact un.free b o' e' (I.base.free b o q n (by intro z;cases z))
 ·obtain⟨o',e'⟩:=I.base.there b o q (by intro z;cases z)
  exact un.there b o' e' (nL b o q hb)
 ·exact un.tups b xs (I.base.tups b xs q)
 ·exact un.frzs b o u (I.base.frzs b o u q)
 ·obtain⟨m1,e1⟩:=I.base.tbls b ps q
  obtain⟨m2,e2⟩:=un.tbls b _ e1
  exact⟨m1++m2,by rw[e2,Array.append_assoc]⟩
 ·obtain⟨s1',e1⟩:=I.base.slot b o q (I.ok.frf b hb) hb (by intro z;cases z)
  obtain⟨s2',e2⟩:=F.sl b (by rw[hs];exact List.mem_cons_of_mem _ hb) _ e1
  obtain⟨_,o',ho',hd'⟩:=I.ok.funs.mem hb
  have ho'':s.heap.get? b=some o':=ho'
  rw[q]at ho'';cases ho''
  obtain⟨s3',e3⟩:=up b _ e2 hd'
  exact⟨s3',e3⟩
 ·cases q:s.heap.get? e with
  |none=>rfl
  |some o=>
   obtain⟨o',e'⟩:=I.base.there e o q (by intro z;cases z)
   rw[F.new]at e';cases e'
theorem made1{pins:List (Addr×Obj)}{σ:St}{H1:Hp}{s1:Shared}{h':Heap}{e C:Addr}{vs:List Value}
  (I:Inv (cxOf (CX1 P w) P w K mg base N qual scope f cd A outer s H E) pins σ H1 s1)(hx:Heap.MadeExcOf s1.heap h' e (.ref C) vs)(hE:H1 e=none->E (.ref e) (some C) (upd H1 e (ExcO e C))):
  (cxOf (CX1 P w) P w K mg base N qual scope f cd A outer s H E).xe (.ref e) {s1 with heap:=h'}:=by
 have fc:frs ((envOfC qual scope s.heap.objs.size f cd)::outer)=s.heap.objs.size::frs outer:=frs_cons rfl
 have nL:∀b o,s.heap.get? b=some o->b∉frs outer->b∉frs ((envOfC qual scope s.heap.objs.size f cd)::outer):=fun b o q hb hm=>by
  rw[fc]at hm
  rcases List.mem_cons.mp hm with z|z
  ·exact absurd (Heap.lt_size q) (by rw[z];exact Nat.lt_irrefl _)
  ·exact hb z
 have he:H1 e=none:=I.hok.none hx.new
 refine wpAny_leaves_madeW (base:=PySem.W.hideAll s1.heap (frs ((envOfC qual scope s.heap.objs.size f cd)::outer))) (L:=s.heap.objs.size) I.ok.frames rfl (fun b o q=>PySem.W.of_hideAll _ q)
  (PySem.W.funFrames_hide I.stack fun env he a ha=>List.mem_filterMap.mpr ⟨env,he,ha⟩) hx fun h'' t fl _ _ up=> ?_
 refine⟨e,C,H1,_,rfl,⟨I.os,I.bare,⟨_,fl⟩,⟨fun b o q n hb=> ?_,fun b o q n=>I.base.free b o q n (by intro z;cases z),fun b o q hb=> ?_,I.base.tups,I.base.frzs,I.base.tbls⟩,fun a o q=> ?_,fun b hb o q=> ?_,?_,he⟩,hE he⟩
 ·exact PySem.W.hideAll_get _ (I.base.keep b o q n hb (by intro z;cases z)) (nL b o q hb)
 ·obtain⟨o',e'⟩:=I.base.there b o q (by intro z;cases z)
  exact⟨o',PySem.W.hideAll_get _ e' (nL b o q hb)⟩
 ·refine(I.hok a o q).stay (fun b u hb z=>PySem.W.hideAll_get _ z fun hm=> ?_) (fun _ z=>z) fun _ _ z=>z
  have n:=I.stkFree b hm
  rcases hb with rfl|hb
  ·rw[q]at n;cases n
  ·rw[hb]at n;cases n
 ·obtain⟨s1',e1⟩:=I.base.slot b o q (I.ok.frf b hb) hb (by intro z;cases z)
  obtain⟨_,o',ho',hd'⟩:=I.ok.funs.mem hb
  have ho'':s.heap.get? b=some o':=ho'
  rw[q]at ho'';cases ho''
  obtain⟨s3',e3⟩:=up b _ (hx.keeps b _ e1) hd'
  exact⟨s3',e3⟩
 ·cases q:s.heap.get? e with
  |none=>rfl
  |some o=>
   obtain⟨o',e'⟩:=I.base.there e o q (by intro z;cases z)
   rw[hx.new]at e';cases e'
end
theorem exc_of{K:W.Frag}{h:Heap}{C:Addr}{bmB:List Value}{newId:String}(X:K.In h)(q:PySem.W.excIn K C bmB newId=true):
  ∃bm N nm qn bs hd sn sub ab col dd k0 k1 k2 k3 k5 mN,h.get? C=some (excClassObj nm qn C N bs bm hd sn sub ab col dd k0 k1 k2 k3 k5 newId)/\h.Ns N mN/\mN "__init__"=none/\OwnTail h bmB bm:=by
 unfold PySem.W.excIn at q
 split at q
 ·rename_i dd cd sl ho
  split at q
  ·rename_i C' bm k0 k1 k2 k3 n k5 hm hs
   simp only[Bool.and_eq_true,beq_iff_eq,Bool.not_eq_true']at q
   obtain⟨⟨⟨⟨⟨q1,q2⟩,hdel⟩,ht⟩,hok⟩,hni⟩:=q
   cases q1;cases q2
   obtain⟨nm,bs,mro,ns,qn,hd,sn,sub,ab,col,del⟩:=cd
   obtain⟨l⟩:=sl
   dsimp only at hm hdel hok hni hs
   subst hm;subst hdel;subst hs
   exact⟨bm,ns,nm,qn,bs,hd,sn,sub,ab,col,dd,k0,k1,k2,k3,k5,_,X _ _ ho,.of_isNs (PySem.W.isNs_of_in X hok),PySem.W.nsMap_none_of_in X hok hni,PySem.W.tail_of_in X ht⟩
  ·cases q
 ·cases q
noncomputable def tRaise(C:Addr)(E:XK)(t:TA):TS:=fun _ σ H=>t σ H fun vs H1=>vs.length<=16/\∀e,H1 e=none->E (.ref e) (some C) (upd H1 e (ExcO e C))
section
variable{P:Program}{w:World}{K:W.Frag}{mg:Str->Option Value}{base:Heap}{N:List Str}{qual:Str}{scope:Scope}{f:Addr}{cd:Value}{A:Around}{outer:List Env}{s:Shared}{H:Hp}{E:XK}
theorem ps_raise{x:Str}{C:Addr}{B newId initId:String}{bmB:List Value}{e:Expr}{es:List Expr}{t:TA}{np cpos pos:Pos}(FB:ExcBaseFacts B newId initId bmB)(hm:mg x=some (.ref C))(q:PySem.W.excIn K C bmB newId=true)(ha:PA (cxOf (CX1 P w) P w K mg base N qual scope f cd A outer s H E) (e::es) t)(hg:Gl (cxOf (CX1 P w) P w K mg base N qual scope f cd A outer s H E) x)(hdb:(x==("__debug__":Str))=false:=by decide)(he:starEach (e::es) (cxOf (CX1 P w) P w K mg base N qual scope f cd A outer s H E).env=(false,eval e (cxOf (CX1 P w) P w K mg base N qual scope f cd A outer s H E).env)::starEach es (cxOf (CX1 P w) P w K mg base N qual scope f cd A outer s H E).env:=by rfl)(hpl:(backTo cpos (starEach es (cxOf (CX1 P w) P w K mg base N qual scope f cd A outer s H E).env)).any (·.1)=false:=by rfl):
  PS (cxOf (CX1 P w) P w K mg base N qual scope f cd A outer s H E) (.Raise (some (.Call (.Name x np) (e::es) [] cpos)) none pos) (tRaise C E t):=by
 intro pins s1 σ H1 D I h
 have KX:K.In base:=I.ok.mod.kin
 obtain⟨bm,Na,nm,qn,bs,hd,sn,sub,ab,col,dd,k0,k1,k2,k3,k5,mN,hC,hN,hni,T⟩:=exc_of KX q
 refine wpAny_Raise_call_subT (C:=C) (nm:=nm) (q:=qn) (N:=Na) (bs:=bs) (bm:=bm) (hdct:=hd) (sn:=sn) (sub:=sub) (ab:=ab) (col:=col) (dd:=dd) (k0:=k0) (k1:=k1) (k2:=k2) (k3:=k3) (k5:=k5)
  FB (mN:=mN) (T.hasType FB.hasBase) (I.ok.hd rfl) (by rw[he];show(false||(backTo cpos (starEach es (cxOf (CX1 P w) P w K mg base N qual scope f cd A outer s H E).env)).any (·.1))=false;rw[hpl];rfl) hni (ld_glob I hg hm ⟨rfl,?_⟩ hdb)
 have h1:=ha cpos pins s1 σ H1 _ I h
 rw[he]at h1⊢
 refine Calls.evalArgs_plain (wpAny_mono h1 (fun us s2 z=> ?_) fun _ _ y=>y)
 obtain⟨vs,H2,I2,r,hl,hE⟩:=z
 have sz:us.length<=sizeLine:=by rw[<-r.length];exact Nat.le_trans hl (by decide)
 exact⟨rfl,sz,I2.bk _ _ hC,hN.keeps I2.bk,T.keeps I2.bk,fun h' e' hx=>made1 I2 hx (hE e')⟩
theorem Fun.okX{x qual:Str}{st:Stmt}{f:Addr}{fd:FuncData}{N ps:List Str}{k:Nat}{sp:Sp}(F:Fun K x qual st f fd)(S:FnScope N ps (defScope st))(len:∀vs H Q E,sp vs H Q E->vs.length=ps.length)(hbody:∀(cdv:Value) (A:Around) (outer:List Env) (s:Shared) (H:Hp) (vs:List V) (Q:VK) (E:XK),Room k (A.deeper (envOfC qual (defScope st) s.heap.objs.size f cdv))->sp vs H Q E->
   ∃t,PSs (cxOf (CX1 P w) P w K mg base N qual (defScope st) f cdv A outer s H E) (defBody st) t/\t {nx:=fun _ H'=>Q .non H',rt:=Q} (start N vs) H):FnOk P w K mg base (CX1 P w) (k+1) f fd ps sp:=by
 obtain⟨oc,od,kV,doc,pm,an,cdv,ct,osl,rfl,lk,hcd⟩:=F.ex
 exact fn_of lk hcd S len fun A outer s H vs Q E hr hsp=>hbody cdv A outer s H vs Q E hr hsp
end
end L2
namespace L2
open PySem PySem.Spec PySem.Calls PyProof.Rows PySem.W PySem.Builtin.Getset_descriptor
structure ExcCls(K:Frag)(D:Addr):Prop where
 cls:∃cd,clsIn K D=some cd
 ga:findIn K (.ref D) "__getattribute__"=some (some (.builtin "BaseException.__getattribute__"))
 gn:findIn K (.ref D) "__getattr__"=some none
 at_:findIn K (.ref D) "__class__"=some (some (.builtin "object.__class__"))
 get:specialIn K (.builtin "object.__class__") "__get__"=some (some (.builtin "getset_descriptor.__get__"))
 tk:takesIn K (.builtin "object.__class__")=some true
 obj:mroIn K D (.type "object")=some true
 exc:mroIn K D (.type "BaseException")=some true
section
variable{prog:Program}{w:World}{A:Around}{E:Value->Shared->Prop}{s:Shared}{K:Frag}{x D:Addr}
noncomputable def OfCls(x D:Addr)(h:Heap):Prop:=∃o,h.get? x=some o/\o.cls= .ref D
theorem OfCls.ty{M:Model}{h:Heap}(p:OfCls x D h):Looks M h (typeOf (.ref x)) (.ref D):=by
 obtain⟨o,e,c⟩:=p
 exact c▸(Looks.ld e).andThen .now
theorem find_data{M:Model}{h:Heap}{C:Addr}{name:Str}{a g:Value}(X:K.In h)(ha:findIn K (.ref C) name=some (some a))(hg:specialIn K a "__get__"=some (some g))(ht:takesIn K a=some true):
  Looks M h (Builtin.ObjectAttr.find (.ref x) (.ref C) name) (.bind g a):=
 (looks_findIn X ha).andThen ((show Looks M h (Builtin.ObjectAttr.getOf (some a)) (some g)from looks_specialIn X hg).andThen
  ((show Looks M h (Builtin.ObjectAttr.dataDescriptor? (some a) (some g)) (some (g,a))from(looks_takesIn X ht).andThen .now).andThen (Looks.tag .now)))
theorem cls_get{tp:Value}{R:Result->Shared->Prop}(X:K.In s.heap)(I:OfCls x D s.heap)(hm:mroIn K D (.type "object")=some true)(h:R (.ok (.ret (.ref D))) s):
  codeAny (model prog w) A (.call (.builtin "getset_descriptor.__get__") ⟨[.builtin "object.__class__",.ref x,tp],[]⟩) R s:=by
 obtain⟨hh,gg,dr,tt,os⟩:=s
 have A0:=I.ty (M:=model prog w)
 have A1:=looks_mroIn (M:=model prog w) X hm
 have A2:=KF.slot_gs.check (model prog w)
 refine codeAny_call_builtin KF.slot_gs.plain KF.entry_gs (A2 _ _ _ _ _ _ _ KF.type_class
  (KF.args_gs _ _ _) ?_)
 unfold Builtin.«getset_descriptor.__get__» descrGet;rw[dga_obj]
 refine wpAny_bind (wpAny_pure ?_)
 unfold descrGetter descrCheckInstance descrNameAndClass isInstance;simp only[KF.owner_class]
 repeat lk
 refine⟨Code.quiet_builtin _ (by decide+kernel),
  codeAny_builtin KF.entry_class ?_⟩
 unfold Builtin.«object.__class__» shownTypeOf;(repeat lk);exact h
theorem exc_check{nameV:Value}{Q:Unit->Shared->Prop}(X:K.In s.heap)(I:OfCls x D s.heap)(hb:mroIn K D (.type "BaseException")=some true)(hq:Q () s):
  wpAny (model prog w) A (checkBuiltinCall "BaseException.__getattribute__" ⟨[.ref x,nameV],[]⟩) Q E s:=by
 obtain⟨hh,gg,dr,tt,os⟩:=s
 have kd:builtinKind "BaseException.__getattribute__"=some .slot:=by decide+kernel
 have sp:splitId "BaseException.__getattribute__"=some ("BaseException","__getattribute__"):=by decide+kernel
 have A0:=I.ty (M:=model prog w)
 have A1:=looks_mroIn (M:=model prog w) X hb
 have ar:=F.args_bexc_ga (.ref x) nameV
 simp only[checkBuiltinCall,kd,sp]
 refine wpAny_bind ?_
 unfold isInstance
 repeat(any_goals(first |assumption|lk|wp_step))
theorem exc_class{Q:Option Value->Shared->Prop}(X:K.In s.heap)(I:OfCls x D s.heap)(c:ExcCls K D)(h:Q (some (.ref D)) {s with toks:=s.toks+1}):
  wpAny (model prog w) A (getAttr? (.ref x) "__class__") Q E s:=by
 obtain⟨hc,hga,hgn,ha,hn,htk,hm,hb⟩:=c
 obtain⟨hh,gg,dr,tt,os⟩:=s
 have A0:=I.ty (M:=model prog w)
 have A1:=looks_findIn (M:=model prog w) X hga
 have A2:=looks_findIn (M:=model prog w) X hgn
 have A3:=find_data (M:=model prog w) (x:=x) X ha hn htk
 have n2:(Value.builtin "BaseException.__getattribute__"==Value.builtin "object.__getattribute__")=false:=by decide+kernel
 have n1:(onTheHeap (Value.ref D)&&Value.builtin "BaseException.__getattribute__"==Value.builtin "object.__getattribute__")=false:=by rw[n2];rfl
 have hbd:=F.attr_ValueError.ga.bind (.ref x)
 unfold getAttr? getAttrBy? getAttrBy
 refine wpAny_bind (wpAny_mkText (wpAny_bind (wpAny_attempt (wpAny_holding (wpAny_bind (A0.at (wpAny_bind (A1.at ?_))))))))
 dsimp only
 rw[if_neg (by rw[n1];exact Bool.false_ne_true)]
 unfold getAttrByItsOwn hookBefore
 rw[if_pos (by rfl)]
 refine wpAny_bind (A2.at (wpAny_bind (wpAny_attempt (wpAny_holding ?_))))
 unfold callGetattribute
 rw[if_neg (by intro z;cases z)]
 unfold boundAndCalled
 rw[hbd]
 refine wpAny_bind (wpAny_pure ?_)
 refine wpAny_call (codeAny_call_builtin F.attr_ValueError.ga.plain F.entry_bexc_ga (exc_check X I hb ?_))
 unfold Builtin.«object.__getattribute__»
 repeat(any_goals(first |assumption|(with_reducible refine wpAny_call (cls_get X I hm ?_))|lk|wp_step))
theorem kitx_exc(c:ExcCls K D):KitX K (.ref x) (.ref D) (OfCls x D):=by
 obtain⟨cd,hcD⟩:=c.cls
 unfold clsIn at hcD
 split at hcD
 ·rename_i d' sl' cd' c'' ho
  refine⟨fun _ _ _ p=>p.ty,fun _ _ X _ A' Q' E' s' k q=> ?_,fun h tp dd its n sl X htp=>Bool.eq_false_iff.mpr fun q=> ?_,fun X p k=>exc_class X p c k⟩
  ·unfold isType loadHead
   exact wpAny_bind (wpAny_loadPart (k _ _ (X _ _ ho)) (wpAny_pure q))
  ·obtain rfl:D=tp:=Value.ref.inj (beq_iff_eq.mp q)
   cases(X _ _ ho).symm.trans htp
 ·cases hcD
end
theorem exc_is{X:Cx}{pins:List (Addr×Obj)}{σ:St}{H:Hp}{s:Shared}{a C:Addr}(I:Inv X pins σ H s)(h:H a=some (ExcO a C)):OfCls a C s.heap:=by
 obtain⟨⟨o,vs,e,c,_⟩,_⟩:=I.hok a _ h
 exact⟨o,e,c⟩
theorem zcr{X:Cx}:CallR X (.builtin "isinstance") (fun xs H Q=>∃(a C D:Addr) (b:Bool),xs=[.ref a,.ref D]/\H a=some (ExcO a C)/\ExcCls X.K C/\kitOne X.K (.ref C) (.ref D)=some b/\Q (.bl b) H):=by
 intro pins s σ H xs us Q I r h
 obtain⟨a,C,D,b,rfl,he,hc,hk,q⟩:=h
 obtain⟨u,v,rfl,ru,rv⟩:=r.two
 cases ru;cases rv
 exact kia_one (kitx_exc hc) I.kIn (exc_is I he) hk (fun z=>nomatch z) fun tk=>⟨.bl b,H,I.tok _,rfl,q⟩
theorem call_isiT{X:Cx}:CallR X (.builtin "isinstance") (fun xs H Q=>∃(a C:Addr) (T:String) (b:Bool),xs=[.ref a,.ty T]/\H a=some (ExcO a C)/\ExcCls X.K C/\kitOne X.K (.ref C) (.type T)=some b/\Q (.bl b) H):=by
 intro pins s σ H xs us Q I r h
 obtain⟨a,C,T,b,rfl,he,hc,hk,q⟩:=h
 obtain⟨u,v,rfl,ru,rv⟩:=r.two
 cases ru;cases rv
 exact kia_one (kitx_exc hc) I.kIn (exc_is I he) hk (fun z=>nomatch z) fun tk=>⟨.bl b,H,I.tok _,rfl,q⟩
end L2
namespace L2
open PySem PySem.Spec PyProof.Rows
noncomputable abbrev Cx.mkd(X:Cx)(e:Addr):Cx:={X with A:=X.A.mark (some (.ref e)),calm:=false,xe:=fun _ _=>False}
section
variable{X:Cx}{pins:List (Addr×Obj)}{σ:St}{H H':Hp}{s s':Shared}{e C:Addr}{B:Heap}
theorem Cx.Ok.mkd(ok:X.Ok)(e:Addr):(X.mkd e).Ok:=
 ⟨ok.mod,ok.kind,ok.glob,ok.blt,ok.above,ok.inj,ok.has,ok.cab,fun z=>(Bool.false_ne_true z).elim,ok.frames,ok.stk,ok.exf,ok.bs,ok.bsz,ok.noex,ok.exfs,ok.funs,ok.frf⟩
theorem Inv.mkd(I:Inv X pins σ H s)(e:Addr):Inv (X.mkd e) pins σ H s:=⟨I.ok.mkd e,I.os,I.bare,I.base,I.loc,I.cell,I.free,I.freeC,I.pin,I.hok,I.len⟩
theorem Inv.unmkd(ok:X.Ok)(I:Inv (X.mkd e) pins σ H s):Inv X pins σ H s:=⟨ok,I.os,I.bare,I.base,I.loc,I.cell,I.free,I.freeC,I.pin,I.hok,I.len⟩
theorem landed{h':Heap}{a0:Value}(I:Inv X pins σ H s)(F:Flew X.prog X.w X.stack H s e C H' B s')(fl:Heap.FlyingW B X.stack e (.ref C) a0 h')(up:s'.heap.UpToSlots h'):
  Inv X pins σ (upd H' e (ExcO e C)) {s' with heap:=h'}:=by
 have ne:∀b o,s.heap.get? b=some o->b≠e:=fun b o q z=>by rw[z,F.new]at q;cases q
 have slot:∀b o,s.heap.get? b=some o->b∈frs X.stack->∃sl,h'.get? b=some {o with slots:=sl}:=fun b o q hb=>by
  obtain⟨s1,e1⟩:=F.sl b hb o q
  obtain⟨_,o',ho',hd'⟩:=I.stack.mem hb
  rw[q]at ho';cases ho'
  obtain⟨s2,e2⟩:=up b _ e1 hd'
  exact⟨s2,e2⟩
 refine I.call' (ch:=[]) F.os ⟨fun b o q n hb _=>fl.1 b o (F.un.keep b o q n hb),fun b o q n hb _=>slot b o q hb,fun b o q n _=>by rw[zbd (ne b o q)];exact F.un.free b o q n,fun b o q _=> ?_,fun b xs q=> ?_,fun b o u q=> ?_,fun b ps q=> ?_⟩
  (fun b u q=> ?_) F.bare (fun b z=>absurd z (by simp))
 ·by_cases hb:b∈frs X.stack
  ·obtain⟨sl,z⟩:=slot b o q hb
   exact⟨_,z⟩
  ·obtain⟨o',z⟩:=F.un.there b o q hb
   exact⟨o',fl.1 b o' z⟩
 ·have z:=F.un.tups b xs q
  rw[zbd (zaz z F.he)];exact z
 ·have z:=F.un.frzs b o u q
  rw[zbd (zaz z F.he)];exact z
 ·obtain⟨more,z⟩:=F.un.tbls b ps q
  exact⟨more,by rw[zbd (zaz z F.he)];exact z⟩
 ·by_cases hb:b=e
  ·subst hb
   rw[zac]at q;cases q
   obtain⟨oe,vs,he,hc,hd,_⟩:=fl.first
   refine⟨⟨oe,vs,he,hc,hd⟩,⟨_,he⟩,fun h1 h2 p k=> ?_⟩
   obtain⟨o,ws,p1,p2,p3⟩:=p
   exact⟨o,ws,k o p1,p2,p3⟩
  ·rw[zbd hb]at q
   exact(F.hok b u q).stay (fun c v _ z=>fl.1 c v z) (fun c z=>by rw[zbd (zaz z F.he)];exact z) fun c xs z=>by rw[zbd (zaz z F.he)];exact z
theorem Inv.forget{M:Model}{A:Around}{E:Value->Shared->Prop}{i:Nat}{n:Str}{pos:Pos}{Q:Unit->Shared->Prop}(I:Inv X pins σ H s)(hN:X.N.Nodup)(hi:X.N[i]? =some n)(hk:X.env.scope.names.lookup n=some .local)(h:∀s',Inv X pins (σ.set i none) H s'->Q () s'):wpAny M A (do bindName X.env n .none;unbindBehindTheSuite X.env n pos) Q E s:=by
 obtain⟨m,hn,hl⟩:=id I.loc
 have hcls:(X.env.scope.kind== .class||(X.env.scope.kind== .module&&X.env.locals !=X.env.globals))=false:=by rw[I.ok.kind];rfl
 have hiσ:i<σ.length:=by rw[I.len];exact(List.getElem?_eq_some_iff.mp hi).1
 have cne:=I.cne
 refine wpAny_nameGoes_keeps (show X.env.kindOf n=some .local from hk) hn hcls fun h' v hn' hs=> ?_
 obtain⟨oL,_,_,hoL,_⟩:=id hn
 have low:∀b o,X.s₀.heap.get? b=some o->b≠X.env.locals:=fun b o z=>Nat.ne_of_lt (Nat.lt_of_lt_of_le (Heap.lt_size z) I.ok.above)
 refine h _ ⟨I.ok,I.os,I.bare,⟨fun b o z n hb hx=>(hs.2 b (low b o z)).trans (I.base.keep b o z n hb hx),fun b o z n hb hx=> ?_,I.base.free,fun b o z hx=> ?_,I.base.tups,I.base.frzs,I.base.tbls⟩,⟨_,hn',fun j y v' e1 e2 e3=> ?_⟩,fun y c z=> ?_,I.free,I.freeC,fun p hp=> ?_,fun b ob z=> ?_,by simpa using I.len⟩
 ·obtain⟨sl,q⟩:=I.base.slot b o z n hb hx
  exact⟨sl,(hs.2 b (low b o z)).trans q⟩
 ·obtain⟨o',q⟩:=I.base.there b o z hx
  exact⟨o',(hs.2 b (low b o z)).trans q⟩
 ·by_cases hj:j=i
  ·subst hj
   rw[List.getElem?_set_self hiσ]at e2
   cases e2
  ·rw[List.getElem?_set_ne (Ne.symm hj)]at e2
   obtain⟨u',r',q⟩:=hl j y v' e1 e2 e3
   refine⟨u',r',?_⟩
   rcases q with⟨k,z⟩|⟨k,c,z,zc⟩
   ·refine .inl ⟨k,?_⟩
    have:y≠n:=fun z=>hj (nodup_ix hN e1 (z▸hi))
    simp[this,z]
   ·exact .inr ⟨k,c,z,zc.sameBut hs (cne y c z)⟩
 ·obtain⟨w',q⟩:=I.cell y c z
  exact⟨w',q.sameBut hs (cne y c z)⟩
 ·obtain⟨z,n',ne,nf,d⟩:=I.pin p hp
  exact⟨(hs.2 p.1 ne).trans z,n',ne,nf,d⟩
 ·refine(I.hok b ob z).stay (fun c w' hc q=>(hs.2 c ?_).trans q) (fun _ q=>q) fun _ _ q=>q
  rintro rfl
  rcases hc with rfl|hc
  ·rw[I.free]at z;cases z
  ·rw[I.free]at hc;cases hc
end
noncomputable def tTry(K:W.Frag)(D:Addr)(i:Nat)(sp:Sp)(nx:Ends->St->V->Hp->Prop)(t:TA)(ts:TS):TS:=fun Dn σ H=>t σ H fun vs H1=>sp vs H1 (fun v H2=>nx Dn σ v H2)
 (fun v oc H2=>∃e C,v= .ref e/\oc=some C/\PySem.W.exmOne K (.ref C) (.ref D)=some true/\ts {nx:=fun σ3 H3=>Dn.nx (σ3.set i none) H3,bk:=fun _ _=>False,ct:=fun _ _=>False,rt:=fun _ _=>False} (σ.set i (some (.ref e))) H2)
section
variable{X:Cx}{k:Nat}{f D:Addr}{fd:FuncData}{ps:List Str}{sp:Sp}{fn x n:Str}{p cpos epos np hpos pos:Pos}{a:Expr}{as:List Expr}{t:TA}{ts:TS}{b₀:Stmt}{suite:List Stmt}{i:Nat}
theorem caught(hst:X.stack=X.env::X.outer)(hfr:X.env.frame=some X.env.locals)(hgx:Gl X x)(hmx:X.mg x=some (.ref D))(hN:X.N.Nodup)(hi:X.N[i]? =some n)(hln:X.env.scope.names.lookup n=some .local)(hs:∀e,PSs (X.mkd e) (b₀::suite) ts){pins:List (Addr×Obj)}{σ:St}{H:Hp}{s s':Shared}{e C:Addr}{H':Hp}{B:Heap}{Dn:Ends}(I:Inv X pins σ H s)(F:Flew X.prog X.w X.stack H s e C H' B s')(hx:PySem.W.exmOne X.K (.ref C) (.ref D)=some true)(h:ts {nx:=fun σ3 H3=>Dn.nx (σ3.set i none) H3,bk:=fun _ _=>False,ct:=fun _ _=>False,rt:=fun _ _=>False} (σ.set i (some (.ref e))) (upd H' e (ExcO e C)))(hdb:(x==("__debug__":Str))=false):
  wpAny (model X.prog X.w) X.A (noteFrame (.ref e) X.env) (fun _ s₂=>wpAny (model X.prog X.w) X.A (setFlight (.ref e) none) (fun _ s₃=>
   wpAny (model X.prog X.w) X.A (handleBy (.ref e) X.env [.ExceptHandler (some (.Name x np)) (some n) (b₀::suite) hpos]) (SP X pins Dn) X.xe s₃) X.xe s₂) X.xe s':=by
 obtain⟨a0,fl⟩:=F.fly
 have fl0:=fl
 rw[hst]at fl0
 refine wpAny_looks_onW (L:=X.env.locals) (I.ok.frames.trans (congrArg some hst)) hfr fl0 fun h4 held4 up4=> ?_
 refine wpAny_landsW held4 fun h5 fl5 up5=> ?_
 have g5:=fl5
 rw[<-hst]at g5
 have J5:=landed I F g5 (up4.trans up5)
 refine wpAny_handleBy_cons (codeAny_handlers_test (ld_glob (J5.mkd e) hgx hmx ?_ hdb)) (by intro q;cases q)
 have oc:OfCls e C ({s' with heap:=h5}:Shared).heap:=exc_is J5 zac
 refine PySem.W.exm_one (K:=X.K) J5.kIn oc.ty hx _ _ _ _ (fun _ _ z=>z) ?_
 refine codeAny_handlers_suite_as ?_
 refine lands_againW fl5 fun h6 fl6 up6=> ?_
 have g6:=fl6
 rw[<-hst]at g6
 have J6:=landed I F g6 ((up4.trans up5).trans up6)
 refine store_ok (X:=X.mkd e) (J6.mkd e) hN hi (.inl hln) (v:= .ref e) rfl (fun s7 J7=> ?_) (.inr hln)
 refine wpAny_mono (hs e pins s7 _ _ _ J7 h) (fun fl8 s8 q8=> ?_) (fun _ _ z=>z.elim)
 cases fl8 with
 |next=>
  obtain⟨σ3,H3,J8,q⟩:=q8
  exact(Inv.unmkd I.ok J8).forget hN hi hln fun s9 J9=>⟨_,H3,J9,q⟩
 |brk=>obtain⟨_,_,_,q⟩:=q8;exact q.elim
 |cont=>obtain⟨_,_,_,q⟩:=q8;exact q.elim
 |ret u=>obtain⟨_,_,_,_,_,q⟩:=q8;exact q.elim
theorem call_x{pins:List (Addr×Obj)}{σ:St}{H:Hp}{s:Shared}{Q:VK}{E:XK}{XE:Value->Shared->Prop}(F:FnOk X.prog X.w X.K X.mg X.base (CX1 X.prog X.w) k f fd ps sp)(hr:Room k X.A)(hg:Gl X fn)(hm:X.mg fn=some (.ref f))(hk:PySem.W.keepIn X.K (.ref f)=true)(hb:Binds X.K fd ps [])(ha:PA X.nox (a::as) t)(I:Inv X pins σ H s)(h:t σ H fun vs H1=>sp vs H1 Q E)(hx:∀H1 s1 v s',Inv X pins σ H1 s1->CX1 X.prog X.w X.stack H1 s1 E v s'->XE v s')(hdb:(fn==("__debug__":Str))=false)(he:starEach (a::as) X.env=(false,eval a X.env)::starEach as X.env)(hpl:(backTo cpos (starEach as X.env)).any (·.1)=false):
  wpAny (model X.prog X.w) X.A (eval (.Call (.Name fn p) (a::as) [] cpos) X.env) (EP X pins σ Q) XE s:=by
 refine wpAny_Call_Name_kw (ld_glob I hg hm ?_ hdb)
 refine PySem.W.callWith_K (h₀:=X.base) I.ok.mod.kin hk (wpAny_mono (ha cpos pins s σ H _ (I.wish _) h) (fun us s1 z=> ?_) fun _ _ z=>z.elim) he hpl
 obtain⟨vs,H1,I1,r,q⟩:=z
 have J:=I1.unwish
 refine⟨J.kIn,?_⟩
 have hl:us.length=ps.length:=by rw[<-r.length];exact F.len _ _ _ _ q
 have bd:=hb s1 us J.kIn (by simpa using hl)
 rw[List.append_nil]at bd
 refine wpAny_call (codeAny_mono (F.run X.A X.stack s1 H1 ⟨us,[]⟩ us vs Q E hr J.env0 bd r q) fun rr s' hq=> ?_)
 cases rr with
 |error v=>exact hx H1 s1 v s' J hq
 |ok fl=>
  cases fl with
  |ret u=>exact J.after hq
  |next=>exact False.elim hq
  |brk=>exact False.elim hq
  |cont=>exact False.elim hq
theorem ps_tryE(hst:X.stack=X.env::X.outer)(hfr:X.env.frame=some X.env.locals)(F:FnOk X.prog X.w X.K X.mg X.base (CX1 X.prog X.w) k f fd ps sp)(hr:Room k X.A)(hg:Gl X fn)(hm:X.mg fn=some (.ref f))(hk:PySem.W.keepIn X.K (.ref f)=true)(hb:Binds X.K fd ps [])(ha:PA X.nox (a::as) t)(hgx:Gl X x)(hmx:X.mg x=some (.ref D))(hN:X.N.Nodup)(hi:X.N[i]? =some n)(hln:X.env.scope.names.lookup n=some .local)(hs:∀e,PSs (X.mkd e) (b₀::suite) ts)(hsw:swapsWith (.Call (.Name fn p) (a::as) [] cpos) none epos.line X.env=pure false:=by rfl)(hdb:(fn==("__debug__":Str))=false:=by decide)(hdx:(x==("__debug__":Str))=false:=by decide)(he:starEach (a::as) X.env=(false,eval a X.env)::starEach as X.env:=by rfl)(hpl:(backTo cpos (starEach as X.env)).any (·.1)=false:=by rfl):
  PS X (.Try [.Expr (.Call (.Name fn p) (a::as) [] cpos) epos] [.ExceptHandler (some (.Name x np)) (some n) (b₀::suite) hpos] [] [] pos) (tTry X.K D i sp (fun Dn σ _ H2=>Dn.nx σ H2) t ts):=by
 intro pins s σ H Dn I h
 refine wpAny_Try_except (wpAny_execs_cons (wpAny_Expr_any (wpAny_mono (call_x F hr hg hm hk hb ha I h (fun H1 s1 v s' J z=> ?_) hdb he hpl) (fun v s1 z=> ?_) fun _ _ z=>z) I.quiet hsw))
 ·obtain⟨e,C,H',B,rfl,Fl,e',C',q1,q2,q3,q4⟩:=z
  cases q1;cases q2
  exact caught hst hfr hgx hmx hN hi hln hs J Fl q3 q4 hdx
 ·obtain⟨_,H2,I2,_,q⟩:=z
  exact wpAny_execs_nil (wpAny_execs_nil ⟨σ,H2,I2,q⟩)
end
end L2
namespace L2
open PySem PySem.Spec PyProof.Rows
theorem eqGives_bool(a b:Bool):MeetsSeq.EqGives (.bool a) (.bool b) (a==b):=fun prog w A E s Q h=>PySem.SeqAt.EqAt.bool_bool a b prog w E Q h
theorem vals_bl{bs:List Bool}{us:List Value}(r:Vals (bs.map V.bl) us):us=bs.map Value.bool:=by
 induction bs generalizing us with
 |nil=>cases r;rfl
 |cons b bs ih=>
  cases r with
  |cons h t=>rw[show _=Value.bool b from h,ih t];rfl
section
variable{X:Cx}
noncomputable def rCount:V->List V->Hp->VK->Prop:=fun x vs H Q=>∃(l:Addr) (bs:List Bool),x= .ref l/\vs=[.bl true]/\H l=some (.lst (bs.map V.bl))/\Q (.int (bs.countP id:Nat)) H
theorem mt_count:MtM X "list.count" rCount:=by
 intro pins s σ H x vs v us Q I rx rv h
 obtain⟨l,bs,rfl,rfl,hH,q⟩:=h
 cases rx
 obtain⟨u,rfl,ru⟩:=rv.one
 cases ru
 obtain⟨z,its,n,r,hl,e⟩:=I.lstM hH
 have hi:=vals_bl r
 subst hi
 refine call_meets F.slot_list_count ⟨_,e,rfl⟩ F.entry_list_count (F.args_list_count_2 _ _) (MeetsSeq.list_count l _ n (.bool true) (fun y=>y== .bool true) (fun y hy=> ?_)) ⟨e,?_⟩
 ·obtain⟨b,_,rfl⟩:=List.mem_map.mp (List.mem_toArray.mp hy)
  have e1:(Value.bool b==Value.bool true)=(b==true):=by cases b<;>rfl
  rw[e1]
  exact eqGives_bool b true
 ·refine⟨.int (bs.countP id:Nat),H,I.tok _,⟨s.toks,?_⟩,q⟩
  rw[List.toList_toArray,List.countP_map]
  congr 2
  refine List.countP_congr fun b _=> ?_
  cases b<;>simp
noncomputable def rIndex:V->List V->Hp->VK->Prop:=fun x vs H Q=>∃(l:Addr) (bs:List Bool) (j:Nat),x= .ref l/\vs=[.bl true]/\H l=some (.lst (bs.map V.bl))/\bs[j]? =some true/\(∀m,m<j->bs[m]? =some false)/\bs.length<=1000/\Q (.int (j:Nat)) H
theorem mt_index:MtM X "list.index" rIndex:=by
 intro pins s σ H x vs v us Q I rx rv h
 obtain⟨l,bs,j,rfl,rfl,hH,h1,h2,hb,q⟩:=h
 cases rx
 obtain⟨u,rfl,ru⟩:=rv.one
 cases ru
 obtain⟨z,its,n,r,hl,e⟩:=I.lstM hH
 have hi:=vals_bl r
 subst hi
 obtain⟨hj,ej⟩:=List.getElem?_eq_some_iff.mp h1
 have hj':j<(bs.map Value.bool).toArray.size:=by simpa using hj
 refine call_meets F.slot_list_index ⟨_,e,rfl⟩ F.entry_list_index (F.args_list_index_2 _ _) (MeetsSeq.list_index l _ n (.bool true) (fun y=>y== .bool true) (fun y hy=> ?_) j hj' (by omega) ?_ (fun m hm hmj=> ?_)) ⟨e,?_⟩
 ·obtain⟨b,_,rfl⟩:=List.mem_map.mp (List.mem_toArray.mp hy)
  have e1:(Value.bool b==Value.bool true)=(b==true):=by cases b<;>rfl
  rw[e1]
  exact eqGives_bool b true
 ·simp[ej]
 ·have hm':m<bs.length:=by simpa using hm
  have em:bs[m]=false:=by
   have z:=h2 m hmj
   rw[List.getElem?_eq_getElem hm']at z
   exact Option.some.inj z
  simp[em]
 ·exact⟨.int (j:Nat),H,I.tok _,⟨s.toks,rfl⟩,q⟩
end
end L2
namespace L2
open PySem PySem.Spec PyProof.Rows
mutual
noncomputable def litF:Nat->Expr->Option PyData
 |0,_=>none
 |n+1,e=>match e with
  | .Constant (.int i) _ _=>some (.int i)
  | .Constant (.bool b) _ _=>some (.bool b)
  | .Constant .none _ _=>some .none
  | .Constant (.str x) _ _=>some (.str x)
  | .UnaryOp .USub (.Constant (.int i) _ _) _=>some (.int (-i))
  | .Tuple es _ _=>(litsF n es).map .tuple
  | .List es _=>(litsF n es).map .list
  | .Dict [] [] _=>some (.dict [])
  |_=>none
noncomputable def litsF:Nat->List Expr->Option (List PyData)
 |0,_=>none
 |_+1,[]=>some []
 |n+1,e::es=>match litF n e,litsF n es with
  |some d,some ds=>some (d::ds)
  |_,_=>none
end
noncomputable def tLit(K:W.Frag)(d:PyData):TE:=fun _ H Q=>∀x H',Same H H'->DX K H' x d->Q x H'
noncomputable def tLits(K:W.Frag)(ds:List PyData):TA:=fun _ H Q=>∀xs H',Same H H'->DXs K H' xs ds->Q xs H'
theorem starEach_lit{env:Env}{n:Nat}{e:Expr}{es:List Expr}{d:PyData}(h:litF n e=some d):starEach (e::es) env=(false,eval e env)::starEach es env:=by
 cases n with
 |zero=>cases h
 |succ n=>
  unfold litF at h
  split at h<;>first |rfl|cases h
theorem pe_dict0{X:Cx}{pos:Pos}:PE X (.Dict [] [] pos) (fun _ H Q=>∀p,H p=none->Q (.ref p) (upd H p (.dK []))):=fun pins s σ H Q I h=>by
 have big:sysModules<s.heap.objs.size:=Nat.lt_trans (by decide) (I.mod.glob.keeps I.bk).lt
 refine wpAny_Dict_empty ⟨.ref s.heap.objs.size,_,I.laid (a:=s.heap.objs.size) (o:= .dK []) (t':=s.toks) (fun _ _ q=>Heap.get?_push_of_some _ q) (Nat.le_refl _) ?_,rfl,h _ (I.hok.fresh (Nat.le_refl _))⟩
 exact⟨Nat.zero_le _,beq_eq_false_iff_ne.mpr fun z=>Nat.lt_irrefl _ (z▸big),[],.nil,Heap.DictOf.new s.heap⟩
theorem lits_len:∀{n:Nat} {es:List Expr} {ds:List PyData},litsF n es=some ds->ds.length<=n
 |0,_,_,h=>by cases h
 |n+1,[],ds,h=>by cases h;exact Nat.zero_le _
 |n+1,e::es,ds,h=>by
  unfold litsF at h
  split at h
  ·rename_i d ds' _ h2
   cases h
   exact Nat.succ_le_succ (lits_len h2)
  ·cases h
section
variable{X:Cx}
theorem lit_all:∀n:Nat,n<=1000->(∀e d,litF n e=some d->PE X e (tLit X.K d))/\(∀es ds,litsF n es=some ds->PA X es (tLits X.K ds))
 |0,_=>⟨fun e d h=>by simp[litF]at h,fun es ds h=>by simp[litsF]at h⟩
 |n+1,hn=>by
  obtain⟨ih1,ih2⟩:=lit_all n (by omega)
  refine⟨fun e d h=> ?_,fun es ds h=> ?_⟩
  ·unfold litF at h
   split at h
   ·cases h;exact fun pins s σ H Q I q=>zad pins s σ H Q I (q _ _ (Same.refl _) (.int _))
   ·cases h;exact fun pins s σ H Q I q=>pe_bl pins s σ H Q I (q _ _ (Same.refl _) (.bl _))
   ·cases h;exact fun pins s σ H Q I q=>pe_non pins s σ H Q I (q _ _ (Same.refl _) .non)
   ·cases h;exact fun pins s σ H Q I q=>zav pins s σ H Q I (q _ _ (Same.refl _) (.str _))
   ·cases h;exact fun pins s σ H Q I q=>pe_un un_neg zad pins s σ H Q I ⟨_,rfl,q _ _ (Same.refl _) (.int _)⟩
   ·rename_i es k pos
    cases hl:litsF n es with
    |none=>rw[hl]at h;cases h
    |some ds=>
     rw[hl]at h;cases h
     intro pins s σ H Q I q
     refine zax (ih2 es ds hl) pins s σ H Q I fun xs H1 s1 hx=>⟨?_,fun p hp=> ?_⟩
     ·have z:=lits_len hl
      rw[hx.len,sizeLine_eq];omega
     ·exact q _ _ (s1.trans (zaf hp _)) (.tup (SqT.of zac) (hx.same (zaf hp _)))
   ·rename_i es pos
    cases hl:litsF n es with
    |none=>rw[hl]at h;cases h
    |some ds=>
     rw[hl]at h;cases h
     intro pins s σ H Q I q
     refine zbm (ih2 es ds hl) pins s σ H Q I fun xs H1 s1 hx=>⟨?_,fun p hp=> ?_⟩
     ·have z:=lits_len hl
      rw[hx.len,sizeLine_eq];omega
     ·exact q _ _ (s1.trans (zaf hp _)) (.lst (SqL.of zac) (hx.same (zaf hp _)))
   ·cases h
    exact fun pins s σ H Q I q=>pe_dict0 pins s σ H Q I fun p hp=>q _ _ (zaf hp _) (.dct _ zac)
   ·cases h
  ·cases es with
   |nil=>
    simp[litsF]at h
    subst h
    exact fun pos pins s σ H Q I q=>zab pos pins s σ H Q I (q _ _ (Same.refl _) .nil)
   |cons e es=>
    unfold litsF at h
    split at h
    ·rename_i d ds' h1 h2
     cases h
     intro pos pins s σ H Q I q
     refine zaa (ih1 e d h1) (ih2 es ds' h2) (starEach_lit h1) pos pins s σ H Q I fun x H1 s1 hx=> ?_
     exact fun xs H2 s2 hxs=>q _ _ (s1.trans s2) (.cons (hx.same s2) hxs)
    ·cases h
theorem pa_lits{es:List Expr}{ds:List PyData}(h:litsF 60 es=some ds):PA X es (tLits X.K ds):=(lit_all 60 (by decide)).2 es ds h
theorem pa_litsK(K:W.Frag){es:List Expr}{ds:List PyData}(h:litsF 60 es=some ds)(hk:X.K=K:=by rfl):PA X es (tLits K ds):=hk▸pa_lits h
end
theorem FnOk.up{P:Program}{w:World}{K:W.Frag}{mg:Str->Option Value}{base:Heap}{CX:CXT}{k:Nat}{f:Addr}{fd:FuncData}{ps:List Str}{sp:Sp}(F:FnOk P w K mg base CX0 k f fd ps sp):FnOk P w K mg base CX k f fd ps sp:=
 ⟨F.len,fun A outer s H args us vs Q E hr e0 hb hv hs=>codeAny_mono (F.run A outer s H args us vs Q E hr e0 hb hv hs) fun r s' z=>by
  cases r with
  |error e=>exact False.elim z
  |ok fl=>cases fl<;>exact z⟩
end L2
namespace L2
open PySem PySem.Spec PyProof.Rows
section
variable{κ:Type} [DecidableEq κ]
noncomputable def valV(kvs:List (κ×V))(k:κ):Option V:=(kvs.find? fun kv=>decide (kv.1=k)).map (·.2)
noncomputable def putK(kvs:List (κ×V))(k:κ)(v:V):List (κ×V):=
 if(kvs.any fun kv=>decide (kv.1=k))=true then kvs.map (fun kv=>if kv.1=k then(kv.1,v)else kv)else kvs++[(k,v)]
noncomputable def dropK(kvs:List (κ×V))(k:κ):List (κ×V):=kvs.filter fun kv=>decide (kv.1≠k)
theorem valV_pos{p:κ×V}{r:List (κ×V)}{k:κ}(e:p.1=k):valV (p::r) k=some p.2:=by simp[valV,List.find?_cons,e]
theorem valV_neg{p:κ×V}{r:List (κ×V)}{k:κ}(e:¬p.1=k):valV (p::r) k=valV r k:=by simp[valV,List.find?_cons,e]
theorem valV_any(k:κ):∀kvs:List (κ×V),(kvs.any fun kv=>decide (kv.1=k))=(valV kvs k).isSome
 |[]=>rfl
 |p::r=>by
  rw[List.any_cons]
  by_cases e:p.1=k
  ·simp only[valV_pos e,decide_eq_true e,Bool.true_or,Option.isSome_some]
  ·rw[valV_neg e,decide_eq_false e,Bool.false_or];exact valV_any k r
theorem RelO.isSome_eq{o:Option V}{u:Option Value}(r:RelO o u):o.isSome=u.isSome:=by
 cases o with
 |none=>cases u with
  |none=>rfl
  |some _=>exact(show False from r).elim
 |some _=>cases u with
  |none=>exact(show False from r).elim
  |some _=>rfl
theorem RelO.getD{o:Option V}{u:Option Value}{d:V}{d':Value}(r:RelO o u)(rd:RelV d d'):RelV (o.getD d) (u.getD d'):=by
 cases o with
 |none=>cases u with
  |none=>exact rd
  |some _=>exact(show False from r).elim
 |some _=>cases u with
  |none=>exact(show False from r).elim
  |some _=>exact r
theorem KV.val{kvs:List (κ×V)}{vs:List (κ×Value)}(r:KV kvs vs)(k:κ):RelO (valV kvs k) (valueAt vs k):=by
 unfold KV at r
 induction r with
 |nil=>exact True.intro
 | @cons p q ps qs h t ih=>
  obtain⟨h1,h2⟩:=h
  by_cases e:p.1=k
  ·have e':q.1=k:=h1.symm.trans e
   have b:valueAt (q::qs) k=some q.2:=by simp[valueAt,List.find?_cons,e']
   rw[valV_pos e,b];exact h2
  ·have e':¬q.1=k:=fun z=>e (h1.trans z)
   have b:valueAt (q::qs) k=valueAt qs k:=by simp[valueAt,List.find?_cons,e']
   rw[valV_neg e,b];exact ih
theorem KV.any{kvs:List (κ×V)}{vs:List (κ×Value)}(r:KV kvs vs)(k:κ):(kvs.any fun kv=>decide (kv.1=k))=vs.any fun kv=>decide (kv.1=k):=by
 unfold KV at r
 induction r with
 |nil=>rfl
 |cons h t ih=>rw[List.any_cons,List.any_cons,ih,h.1]
theorem KV.repl{kvs:List (κ×V)}{vs:List (κ×Value)}(r:KV kvs vs)(k:κ){y:V}{u:Value}(ry:RelV y u):
  KV (kvs.map fun kv=>if kv.1=k then(kv.1,y)else kv) (vs.map fun kv=>if kv.1=k then(kv.1,u)else kv):=by
 unfold KV at r⊢
 induction r with
 |nil=>exact .nil
 | @cons p q ps qs h t ih=>
  rw[List.map_cons,List.map_cons]
  refine .cons ?_ ih
  obtain⟨h1,h2⟩:=h
  by_cases e:p.1=k
  ·rw[if_pos e,if_pos (h1.symm.trans e)];exact⟨h1,ry⟩
  ·rw[if_neg e,if_neg (fun z=>e (h1.trans z))];exact⟨h1,h2⟩
theorem KV.put{kvs:List (κ×V)}{vs:List (κ×Value)}(r:KV kvs vs)(k:κ){y:V}{u:Value}(ry:RelV y u):KV (putK kvs k y) (stored vs k u):=by
 unfold putK stored
 rw[r.any k]
 by_cases e:(vs.any fun kv=>decide (kv.1=k))=true
 ·rw[if_pos e,if_pos e];exact r.repl k ry
 ·rw[if_neg e,if_neg e];exact Paired.snoc r ⟨rfl,ry⟩
theorem KV.drop{kvs:List (κ×V)}{vs:List (κ×Value)}(r:KV kvs vs)(k:κ):KV (dropK kvs k) (without vs k):=by
 unfold KV at r⊢
 unfold dropK without
 induction r with
 |nil=>exact .nil
 | @cons p q ps qs h t ih=>
  obtain⟨h1,h2⟩:=h
  rw[List.filter_cons,List.filter_cons]
  by_cases e:p.1=k
  ·have a:¬decide (p.1≠k)=true:=by simp[e]
   have b:¬decide (q.1≠k)=true:=by simp[h1.symm.trans e]
   rw[if_neg a,if_neg b];exact ih
  ·have e':¬q.1=k:=fun z=>e (h1.trans z)
   have a:decide (p.1≠k)=true:=by simp[e]
   have b:decide (q.1≠k)=true:=by simp[e']
   rw[if_pos a,if_pos b];exact .cons ⟨h1,h2⟩ ih
theorem KV.keys{kvs:List (κ×V)}{vs:List (κ×Value)}(r:KV kvs vs):kvs.map (·.1)=vs.map (·.1):=by
 unfold KV at r
 induction r with
 |nil=>rfl
 |cons h t ih=>rw[List.map_cons,List.map_cons,ih,h.1]
theorem KV.length{kvs:List (κ×V)}{vs:List (κ×Value)}(r:KV kvs vs):kvs.length=vs.length:=Paired.length r
end
noncomputable abbrev KT(H:Hp):List (List Key×V)->List (List Key×Addr×Value)->Prop:=Paired fun p q=>p.1=q.1/\H q.2.1=some (.tup (p.1.map kV))/\RelV p.2 q.2.2
theorem KT.val{H:Hp}{kvs:List (List Key×V)}{xs:List (List Key×Addr×Value)}(r:KT H kvs xs)(k:List Key):RelO (valV kvs k) ((atKey xs k).map (·.2)):=by
 induction r with
 |nil=>exact True.intro
 | @cons p q ps qs h t ih=>
  obtain⟨h1,_,h2⟩:=h
  by_cases e:p.1=k
  ·have e':q.1=k:=h1.symm.trans e
   have b:atKey (q::qs) k=some q.2:=by simp[atKey,List.find?_cons,e']
   rw[valV_pos e,b];exact h2
  ·have e':¬q.1=k:=fun z=>e (h1.trans z)
   have b:atKey (q::qs) k=atKey qs k:=by simp[atKey,List.find?_cons,e']
   rw[valV_neg e,b];exact ih
theorem KT.repl{H:Hp}{kvs:List (List Key×V)}{xs:List (List Key×Addr×Value)}(r:KT H kvs xs)(k:List Key){y:V}{u:Value}(ry:RelV y u):
  KT H (kvs.map fun kv=>if kv.1=k then(kv.1,y)else kv) (xs.map (putAt k u)):=by
 induction r with
 |nil=>exact .nil
 | @cons p q ps qs h t ih=>
  rw[List.map_cons,List.map_cons]
  refine .cons ?_ ih
  obtain⟨h1,h2,h3⟩:=h
  unfold putAt
  by_cases e:p.1=k
  ·rw[if_pos e,if_pos (h1.symm.trans e)];exact⟨h1,h2,ry⟩
  ·rw[if_neg e,if_neg (fun z=>e (h1.trans z))];exact⟨h1,h2,h3⟩
theorem KT.put{H:Hp}{kvs:List (List Key×V)}{xs:List (List Key×Addr×Value)}(r:KT H kvs xs)(k:List Key){b:Addr}{y:V}{u:Value}(hb:H b=some (.tup (k.map kV)))(ry:RelV y u):
  KT H (putK kvs k y) (storedH xs k b u):=by
 have e:(kvs.any fun kv=>decide (kv.1=k))=(atKey xs k).isSome:=by
  rw[valV_any,(r.val k).isSome_eq,Option.isSome_map]
 unfold putK storedH
 rw[e]
 by_cases q:(atKey xs k).isSome=true
 ·rw[if_pos q,if_pos q];exact r.repl k ry
 ·rw[if_neg q,if_neg q];exact Paired.snoc r ⟨rfl,hb,ry⟩
theorem KT.keeps{H H':Hp}{kvs:List (List Key×V)}{xs:List (List Key×Addr×Value)}(r:KT H kvs xs)(ht:∀b ys,H b=some (.tup ys)->H' b=some (.tup ys)):KT H' kvs xs:=
 Paired.mapP r fun _ _ z=>⟨z.1,ht _ _ z.2.1,z.2.2⟩
section
variable{P:Program}{w:World}{H:Hp}{h:Heap}{a:Addr}
end
noncomputable def DGet(H:Hp)(a:Addr)(y:V)(r:Option V):Prop:=
 (∃kvs k,Rd H a (.dK kvs)/\y=kV k/\r=valV kvs k)\/∃kvs k b,Rd H a (.dT kvs)/\y= .ref b/\H b=some (.tup (k.map kV))/\r=valV kvs k
noncomputable def DPut(H:Hp)(a:Addr)(y v:V)(H':Hp):Prop:=
 (∃kvs k,H a=some (.dK kvs)/\y=kV k/\kvs.length<sizeLine/\H'=upd H a (.dK (putK kvs k v)))\/
 ∃kvs k b,H a=some (.dT kvs)/\y= .ref b/\H b=some (.tup (k.map kV))/\kvs.length<sizeLine/\H'=upd H a (.dT (putK kvs k v))
theorem DGet.k{H:Hp}{a:Addr}{kvs:List (Key×V)}{k:Key}(e:H a=some (.dK kvs)):DGet H a (kV k) (valV kvs k):= .inl ⟨kvs,k,.inl e,rfl,rfl⟩
theorem DGet.t{H:Hp}{a b:Addr}{kvs:List (List Key×V)}{k:List Key}(e:H a=some (.dT kvs))(eb:H b=some (.tup (k.map kV))):DGet H a (.ref b) (valV kvs k):= .inr ⟨kvs,k,b,.inl e,rfl,eb,rfl⟩
theorem DPut.k{H:Hp}{a:Addr}{kvs:List (Key×V)}{k:Key}{v:V}(e:H a=some (.dK kvs))(hl:kvs.length<sizeLine):DPut H a (kV k) v (upd H a (.dK (putK kvs k v))):= .inl ⟨kvs,k,e,rfl,hl,rfl⟩
theorem DPut.t{H:Hp}{a b:Addr}{kvs:List (List Key×V)}{k:List Key}{v:V}(e:H a=some (.dT kvs))(eb:H b=some (.tup (k.map kV)))(hl:kvs.length<sizeLine):
  DPut H a (.ref b) v (upd H a (.dT (putK kvs k v))):= .inr ⟨kvs,k,b,e,rfl,eb,hl,rfl⟩
section
variable{X:Cx}{pins:List (Addr×Obj)}{σ:St}{H:Hp}{s:Shared}{a:Addr}{y v:V}{u r:Value}{o:Option V}{A:Around}{E:Value->Shared->Prop}
theorem Inv.big(I:Inv X pins σ H s):sysModules<s.heap.objs.size:=by
 have h:mainGlobals<s.heap.objs.size:=(I.mod.glob.keeps I.bk).lt
 exact Nat.lt_trans (by decide) h
end
section
variable{X:Cx}{pins:List (Addr×Obj)}{σ:St}{H:Hp}{s:Shared}{a:Addr}{kvs:List (Key×V)}{k:Key}{u:Value}{A:Around}{E:Value->Shared->Prop}
end
section
variable{X:Cx}{o i e value:Expr}{pos pos' tpos:Pos}{td ty tv:TE}
end
section
variable{X:Cx}{pos:Pos}
end
end L2
namespace PySem
namespace F
end F
section
variable{prog:Program}{w:World}{A:Around}{E:Value->Shared->Prop}{s:Shared}
noncomputable def Heap.IsRvd(h:Heap)(a l:Addr)(i:Int):Prop:=∃o,h.get? a=some o/\o.cls= .type "reversed"/\o.data= .fields #[.ref l,rawInt i]
theorem Heap.IsRvd.typeIs{a l:Addr}{i:Int}(x:s.heap.IsRvd a l i):s.TypeIs (.ref a) "reversed":=let⟨o,ho,hc,_⟩:=x;⟨o,ho,hc⟩
theorem Heap.IsRvd.at{h h':Heap}{a l:Addr}{i:Int}(x:h.IsRvd a l i)(e:∀o,h.get? a=some o->h'.get? a=some o):h'.IsRvd a l i:=let⟨o,ho,r⟩:=x;⟨o,e _ ho,r⟩
end
end PySem
namespace L2
open PySem PySem.Spec PyProof.Rows
section
variable{X:Cx}{tg:Expr}
end
section
variable{X:Cx}
end
end L2
namespace PySem
section
variable{prog:Program}{w:World}{Ky:Type} [DecidableEq Ky]{knd:KeyKind prog w Ky}{A:Around}{E:Value->Shared->Prop}{s:Shared}
end
end PySem
namespace L2
open PySem PySem.Spec PyProof.Rows
section
variable{X:Cx}
end
end L2
namespace L2
open PySem
noncomputable def Rise(xs:Array Nat):Prop:=xs.toList.Pairwise (· < ·)
theorem Rise.at{xs:Array Nat}(h:Rise xs){i k:Nat}(hk:k<xs.size)(hik:i<k):xs.toList[i]'(by simp;omega)<xs.toList[k]'(by simpa using hk):=List.pairwise_iff_getElem.mp h i k _ _ hik
theorem getD_at{xs:Array Nat}{i d:Nat}(h:i<xs.size):xs.getD i d=xs.toList[i]'(by simpa using h):=by
 rw[Array.getElem_toList]
 simp[Array.getD,h]
theorem below_go{xs:Array Nat}(hx:Rise xs)(j:Nat):∀(fuel lo hi:Nat),lo<=hi->hi<=xs.size->hi-lo<=fuel->(∀i (h:i<xs.size),i<lo->xs.toList[i]'(by simpa using h)<j)->(∀i (h:i<xs.size),hi<=i->j<=xs.toList[i]'(by simpa using h))->
  SetTable.below.go xs j fuel lo hi<=xs.size/\(∀i (h:i<xs.size),i<SetTable.below.go xs j fuel lo hi->xs.toList[i]'(by simpa using h)<j)/\(∀i (h:i<xs.size),SetTable.below.go xs j fuel lo hi<=i->j<=xs.toList[i]'(by simpa using h))
 |0,lo,hi,h1,h2,h3,a,b=>by
  have e:lo=hi:=by omega
  subst e
  unfold SetTable.below.go
  exact⟨h2,a,b⟩
 |fuel+1,lo,hi,h1,h2,h3,a,b=>by
  unfold SetTable.below.go
  by_cases c:lo<hi
  ·rw[if_pos c]
   have hm:(lo+hi)/2<xs.size:=by omega
   dsimp only
   rw[getD_at hm]
   by_cases q:xs.toList[(lo+hi)/2]'(by simpa using hm)<j
   ·rw[if_pos q]
    refine below_go hx j fuel _ hi (by omega) h2 (by omega) (fun i hi' hlt=> ?_) b
    by_cases e:i=(lo+hi)/2
    ·subst e;exact q
    ·exact Nat.lt_trans (hx.at hm (by omega)) q
   ·rw[if_neg q]
    refine below_go hx j fuel lo _ (by omega) (by omega) (by omega) a (fun i hi' hle=> ?_)
    by_cases e:i=(lo+hi)/2
    ·subst e;omega
    ·have:=hx.at hi' (show(lo+hi)/2<i by omega)
     omega
  ·rw[if_neg c]
   have e:lo=hi:=by omega
   subst e
   exact⟨h2,a,b⟩
theorem below_ok{xs:Array Nat}(hx:Rise xs)(j:Nat):SetTable.below xs j<=xs.size/\(∀i (h:i<xs.size),i<SetTable.below xs j->xs.toList[i]'(by simpa using h)<j)/\(∀i (h:i<xs.size),SetTable.below xs j<=i->j<=xs.toList[i]'(by simpa using h)):=
 below_go hx j xs.size 0 xs.size (Nat.zero_le _) (Nat.le_refl _) (Nat.le_refl _) (fun i _ h=>absurd h (Nat.not_lt_zero _)) (fun i h h'=>absurd h (Nat.not_lt.mpr h'))
theorem insert_list{α:Type}(xs:Array α)(p:Nat)(x:α):(SetTable.insertAt xs p x).toList=xs.toList.take p++x::xs.toList.drop p:=by
 unfold SetTable.insertAt
 simp
 exact List.take_of_length_le (by simp)
theorem insert_rise{xs:Array Nat}(hx:Rise xs){j:Nat}(hn:xs[SetTable.below xs j]? ≠some j):Rise (SetTable.insertAt xs (SetTable.below xs j) j):=by
 obtain⟨b1,b2,b3⟩:=below_ok hx j
 unfold Rise
 rw[insert_list,List.pairwise_append]
 have lt1:∀a∈xs.toList.take (SetTable.below xs j),a<j:=fun a ha=>by
  obtain⟨i,hi,e⟩:=List.mem_take_iff_getElem.mp ha
  rw[<-e]
  exact b2 i (by simp at hi;omega) (by omega)
 have lt2:∀a∈xs.toList.drop (SetTable.below xs j),j<a:=fun a ha=>by
  obtain⟨i,hi,e⟩:=List.mem_drop_iff_getElem.mp ha
  have hs0:i+SetTable.below xs j<xs.size:=by simpa using hi
  have hs:SetTable.below xs j+i<xs.size:=by omega
  have z:=b3 (SetTable.below xs j+i) hs (Nat.le_add_right _ _)
  have e':xs.toList[SetTable.below xs j+i]'(by simpa using hs)=a:=by rw[<-e]
  rw[e']at z
  by_cases c:i=0
  ·subst c
   refine Nat.lt_of_le_of_ne z fun ej=>hn ?_
   rw[<-Array.getElem?_toList,List.getElem?_eq_getElem (by simpa using hs)]
   exact congrArg some (e'.trans ej.symm)
  ·have hs0:SetTable.below xs j<xs.size:=by omega
   have z0:=b3 (SetTable.below xs j) hs0 (Nat.le_refl _)
   have:=hx.at hs (show SetTable.below xs j<SetTable.below xs j+i by omega)
   rw[e']at this
   omega
 refine⟨hx.sublist (List.take_sublist _ _),List.pairwise_cons.mpr ⟨lt2,hx.sublist (List.drop_sublist _ _)⟩,fun a ha b hb=> ?_⟩
 rcases List.mem_cons.mp hb with e|e
 ·rw[e];exact lt1 a ha
 ·exact Nat.lt_trans (lt1 a ha) (lt2 b e)
structure TabOk(b:Bool)(t:SetTable):Prop where
 rise:Rise t.place
 nod:t.dummies=#[]
 led:t.led=b
theorem has_none(j:Nat):SetTable.has #[] j=false:=by
 unfold SetTable.has
 simp
theorem slot_empty{t:SetTable}{j:Nat}(h:t.slot j= .empty):t.place[SetTable.below t.place j]? ≠some j:=fun e=>by
 unfold SetTable.slot at h
 dsimp only at h
 rw[e]at h
 simp at h
theorem probe_go{t:SetTable}(ht:t.dummies=#[])(ha:Nat->Int)(h:Int):∀(fuel:Nat) (p:SetTable.Probe) (j:Nat) (d:Option Nat),p.dummy=none->SetTable.probe.go t ha h fuel p=some (.empty j d)->d=none/\t.slot j= .empty
 |0,p,j,d,_,e=>by unfold SetTable.probe.go at e;cases e
 |fuel+1,p,j,d,hp,e=>by
  unfold SetTable.probe.go at e
  have adv:(t.advance p).dummy=none:=by
   unfold SetTable.advance
   split
   ·exact hp
   ·exact hp
  cases z:t.slot p.j with
  |empty=>
   rw[z]at e
   cases e
   exact⟨hp,z⟩
  |dummy=>
   exfalso
   unfold SetTable.slot at z
   dsimp only at z
   rw[ht,has_none]at z
   split at z
   ·cases z
   ·simp at z
  |live i=>
   rw[z]at e
   dsimp only at e
   split at e
   ·cases e
   ·exact probe_go ht ha h fuel _ j d adv e
theorem range_rise(n:Nat):Rise (Array.range n):=by
 unfold Rise
 rw[Array.toList_range]
 exact List.pairwise_lt_range
theorem standIn_ok{b:Bool}{t:SetTable}(h:TabOk b t)(n:Nat):TabOk b (t.standIn n):=⟨range_rise n,rfl,h.led⟩
theorem lay_ok{b:Bool}{t:SetTable}(h:TabOk b t)(es:Array (Int×Value))(hh:Int)(x:Value):TabOk b (layNew t es hh x).2.1:=by
 unfold layNew
 cases z:t.freeSlot hh with
 |none=>exact standIn_ok h _
 |some q=>
  obtain⟨slot,was⟩:=q
  have emp:t.slot slot= .empty:=by
   unfold SetTable.freeSlot SetTable.probe at z
   cases y:SetTable.probe.go t (fun _=>hh+1) hh (10*SetTable.turns t.mask) (t.probeStart hh)with
   |none=>rw[y]at z;cases z
   |some m=>
    rw[y]at z
    cases m with
    |candidate _ _ _=>cases z
    |empty j d=>
     obtain⟨rfl,e⟩:=probe_go h.nod _ _ _ _ _ _ rfl y
     cases z
     exact e
  have put_ok:TabOk b (t.put slot).1:=by
   refine⟨insert_rise h.rise (slot_empty emp),?_,h.led⟩
   show(if SetTable.has t.dummies slot then _ else t.dummies)=#[]
   rw[h.nod,has_none]
   rfl
  dsimp only
  unfold SetTable.orStandIn
  split
  ·exact put_ok
  ·exact standIn_ok put_ok _
theorem laid_ok{mask finger moves:Nat}{b plain:Bool}{hs:Array Int}{t':SetTable}{order:Array Nat}(e:SetTable.laid mask finger moves b plain hs=some (t',order)):TabOk b t':=by
 unfold SetTable.laid at e
 cases z:SetTable.layClean mask hs with
 |none=>rw[z]at e;cases e
 |some owner=>
  rw[z]at e
  cases e
  refine⟨?_,rfl,rfl⟩
  unfold Rise
  show(((List.range (mask+1)).filterMap fun j=>(owner.getD j none).map (j, ·)).map (·.1)).Pairwise (· < ·)
  rw[List.map_filterMap]
  refine List.Pairwise.filterMap _ (R:=(· < ·)) (fun a a' haa' c hc c' hc'=> ?_) List.pairwise_lt_range
  cases y:owner.getD a none with
  |none=>simp[y]at hc
  |some k=>
   cases y':owner.getD a' none with
   |none=>simp[y']at hc'
   |some k'=>
    simp[y]at hc
    simp[y']at hc'
    omega
theorem relay_ok{b:Bool}{t:SetTable}(h:TabOk b t)(es:Array (Int×Value))(wanted:Nat):TabOk b (relayAll t es wanted).2.1:=by
 unfold relayAll
 cases z:t.relaid (es.map (·.1)) wanted with
 |none=>exact standIn_ok h _
 |some q=>
  obtain⟨t',order⟩:=q
  dsimp only
  split
  ·unfold SetTable.relaid at z
   have:=laid_ok z
   rw[h.led]at this
   exact this
  ·exact standIn_ok h _
theorem unplain_ok{b:Bool}{t:SetTable}(h:TabOk b t):TabOk b {t with plain:=false}:=⟨h.rise,h.nod,h.led⟩
end L2
namespace PySem
namespace F
end F
end PySem
namespace PySem
open L2 (TabOk Rise)
section
variable{prog:Program}{w:World}{A:Around}{E:Value->Shared->Prop}{s:Shared}
structure SetAt(w:World)(h:Heap)(d:Addr)(es:Array (Int×Value))(ep:Nat)(t:SetTable):Prop where
 ob:∃o,h.get? d=some o/\o.ExactSet/\o.data= .set es ep t
 fits:t.fits es.size=true
 tab:TabOk (!w.params.followText "set-order") t
theorem SetAt.at{h h':Heap}{d:Addr}{es:Array (Int×Value)}{ep:Nat}{t:SetTable}(S:SetAt w h d es ep t)(e:∀o,h.get? d=some o->h'.get? d=some o):SetAt w h' d es ep t:=
 let⟨o,ho,r⟩:=S.ob;⟨⟨o,e _ ho,r⟩,S.fits,S.tab⟩
theorem SetAt.typeIs{d:Addr}{es:Array (Int×Value)}{ep:Nat}{t:SetTable}(S:SetAt w s.heap d es ep t):s.TypeIs (.ref d) "set":=let⟨o,ho,hx,_⟩:=S.ob;⟨o,ho,hx.1⟩
noncomputable def IsSetIter(h:Heap)(I d:Addr)(first:Value)(i n ep:Nat):Prop:=∃o,h.get? I=some o/\o.cls= .type "set_iterator"/\o.data= .fields #[first,.int i 0,.ref d,.int n 0,.int ep 0]
theorem IsSetIter.at{h h':Heap}{I d:Addr}{first:Value}{i n ep:Nat}(x:IsSetIter h I d first i n ep)(e:∀o,h.get? I=some o->h'.get? I=some o):IsSetIter h' I d first i n ep:=let⟨o,ho,r⟩:=x;⟨o,e _ ho,r⟩
theorem IsSetIter.typeIs{I d:Addr}{first:Value}{i n ep:Nat}(x:IsSetIter s.heap I d first i n ep):s.TypeIs (.ref I) "set_iterator":=let⟨o,ho,hc,_⟩:=x;⟨o,ho,hc⟩
end
end PySem
namespace PySem
open L2 (TabOk Rise)
section
variable{prog:Program}{w:World}{A:Around}{E:Value->Shared->Prop}{s:Shared}
theorem SetAt.push{h:Heap}{d:Addr}{es:Array (Int×Value)}{ep:Nat}{t:SetTable}(S:SetAt w h d es ep t)(o:Obj):SetAt w (h.push o) d es ep t:=S.at fun _ e=>Heap.get?_push_of_some _ e
end
end PySem
namespace PySem
open L2 (TabOk Rise lay_ok relay_ok unplain_ok)
section
variable{prog:Program}{w:World}{A:Around}{E:Value->Shared->Prop}{s:Shared}
noncomputable def SetG(prog:Program)(w:World)(h:Heap)(d:Addr)(S:Int->Bool)(n:Nat):Prop:=
 ∃o es ep t,h.get? d=some o/\o.ExactSet/\o.data= .set es ep t/\ElemsOf (intKind prog w) es.toList/\(∀k,S k=true↔∃e∈es.toList,(intKind prog w).is k e.2=true)/\es.size<scanBound/\t.fits es.size=true/\es.size=n/\TabOk (!w.params.followText "set-order") t
theorem SetG.at{h h':Heap}{d:Addr}{S:Int->Bool}{n:Nat}(g:SetG prog w h d S n)(e:∀o,h.get? d=some o->h'.get? d=some o):SetG prog w h' d S n:=let⟨o,es,ep,t,ho,r⟩:=g;⟨o,es,ep,t,e _ ho,r⟩
theorem SetG.congr{h:Heap}{d:Addr}{S S':Int->Bool}{n n':Nat}(g:SetG prog w h d S n)(e:∀k,S k=S' k)(en:n=n'):SetG prog w h d S' n':=by
 have:S=S':=funext e
 subst this;subst en;exact g
end
end PySem
namespace L2
open PySem PySem.Spec PyProof.Rows
section
variable{prog:Program}{w:World}{A:Around}{E:Value->Shared->Prop}{s:Shared}
end
section
variable{prog:Program}{w:World}{A:Around}{R:Result->Shared->Prop}{I:Addr}{fp wr:List Addr}{G:Array GenState->Array GenState->Prop}{n:Nat}{P:Nat->Value->Prop}{St:Nat->Shared->Prop}
end
section
variable{prog:Program}{w:World}{A:Around}{E:Value->Shared->Prop}{s:Shared}
end
end L2
namespace Srt
open PySem PySem.W PyProof.Rows PySem.Calls
section
variable{prog:Program}{w:World}{A:Around}{E:Value->Shared->Prop}{s:Shared}
end
end Srt
namespace L2
open PySem PySem.Spec PyProof.Rows
noncomputable def iv:Value->Int
 | .int k _=>k
 |_=>0
section
variable{prog:Program}{w:World}{A:Around}{E:Value->Shared->Prop}{s:Shared}
end
end L2
namespace Srt
open PySem PySem.W PyProof.Rows PySem.Calls
section
variable{prog:Program}{w:World}{A:Around}{E:Value->Shared->Prop}{s:Shared}
end
end Srt
namespace L2
open PySem PySem.Spec PyProof.Rows
section
variable{X:Cx}{a:Expr}{ta:TA}{p p' pos pos':Pos}
end
end L2
namespace L2
open PySem PySem.Spec PyProof.Rows
section
variable{prog:Program}{w:World}{A:Around}{E:Value->Shared->Prop}{s:Shared}
end
section
variable{X:Cx}{o e:Expr}{to:TE}{t:TA}{apos cpos:Pos}
end
end L2
namespace L2
open PySem PySem.Spec PyProof.Rows
section
variable{X:Cx}{e e1 e2:Expr}{es:List Expr}{te:TE}{pos:Pos}
noncomputable def tFmtI(te:TE):TE:=fun σ H Q=>te σ H fun x H1=>∃i:Int,x= .int i/\i.natAbs.log2<1920/\Q (.str (toString i)) H1
theorem pe_fmtI(h:PE X e te):PE X (.FormattedValue e (-1) none pos) (tFmtI te):=by
 intro pins s σ H Q I hw
 refine wpAny_FormattedValue_plain (thn (h pins s σ H _ I hw) fun v s1 ⟨x,H1,I1,r1,i,hx,hi,q⟩=> ?_)
 subst hx
 obtain⟨t,rfl⟩:=r1
 exact wpAny_formatField_int hi ⟨.str (toString i),H1,I1.kept (t':=s1.toks+1+1) (fun _ _ e=>e),⟨_,rfl⟩,q⟩
noncomputable abbrev TJ:=St->Hp->Str->(Str->Hp->Prop)->Prop
noncomputable def PJ(X:Cx)(es:List Expr)(t:TJ):Prop:=∀(pins:List (Addr×Obj)) (s:Shared) (σ:St) (H:Hp) (acc:Str) (Q:Str->Hp->Prop),Inv X pins σ H s->t σ H acc Q->
 Joins (model X.prog X.w) X.A X.xe (evalEach es X.env) acc (fun out s1=>∃H1,Inv X pins σ H1 s1/\Q out H1) s
theorem joins_mono{M:Model}{A:Around}{E:Value->Shared->Prop}:∀(l:List (Sem Value)) (acc:Str) (Q Q':Str->Shared->Prop) (s:Shared),(∀o s,Q o s->Q' o s)->Joins M A E l acc Q s->Joins M A E l acc Q' s
 |[],acc,Q,Q',s,h,j=>h _ _ j
 |x::rest,acc,Q,Q',s,h,j=>thn j fun v s1 ⟨y,t,e1,e2,j'⟩=>⟨y,t,e1,e2,joins_mono rest _ Q Q' s1 h j'⟩
theorem pj_nil:PJ X [] (fun σ H acc Q=>Q acc H):=fun pins s σ H acc Q I h=>⟨H,I,h⟩
theorem pj_cons{t:TJ}(h:PE X e te)(hs:PJ X es t):PJ X (e::es) (fun σ H acc Q=>te σ H fun x H1=>∃y:Str,x= .str y/\(acc++y).length<=sizeLine/\t σ H1 (acc++y) Q):=by
 intro pins s σ H acc Q I hw
 refine thn (h pins s σ H _ I hw) fun v s1 ⟨x,H1,I1,r1,y,hx,hl,q⟩=> ?_
 subst hx
 obtain⟨tk,rfl⟩:=r1
 exact⟨y,tk,rfl,hl,hs pins s1 σ H1 _ Q I1 q⟩
noncomputable def tJoined(t:TJ):TE:=fun σ H Q=>t σ H Str.empty fun out H1=>out.length<=sizeLine/\Q (.str out) H1
theorem pe_joined{t:TJ}(h:PJ X (e1::e2::es) t):PE X (.JoinedStr (e1::e2::es) pos) (tJoined t):=by
 intro pins s σ H Q I hw
 refine wpAny_JoinedStr (joins_mono _ _ _ _ _ (fun o s1=> ?_) (h pins s σ H _ _ I hw))
 rintro⟨H1,I1,hl,q⟩
 exact⟨hl,.str o,H1,I1.kept (t':=s1.toks+1) (fun _ _ e=>e),⟨_,rfl⟩,q⟩
end
end L2
namespace Hs
open PySem L2 HsD
noncomputable def top(i:Nat):Stmt:=PySem.Challenge.pw_hueshare_k12_made_ones_refused.main.body.getD i (.Pass ⟨0,0,0,0⟩)
noncomputable abbrev zbu:Stmt:=top 13
noncomputable abbrev zcn:Stmt:=top 14
noncomputable abbrev zbz:Stmt:=top 15
noncomputable abbrev zcb:Stmt:=top 16
noncomputable abbrev zcv:Stmt:=top 17
noncomputable abbrev zco:Stmt:=top 18
noncomputable abbrev zde:Stmt:=top 19
noncomputable abbrev zay:Stmt:=top 20
noncomputable abbrev zcd:Stmt:=top 21
noncomputable abbrev zat:Stmt:=top 22
noncomputable abbrev zbi:Stmt:=top 23
noncomputable abbrev zdh:Stmt:=top 24
noncomputable abbrev zcm:Stmt:=top 25
noncomputable abbrev zcp:Stmt:=top 26
noncomputable abbrev zby:Stmt:=top 28
noncomputable abbrev zbl:Stmt:=top 29
noncomputable abbrev zcq:Stmt:=top 30
noncomputable abbrev zdf:Stmt:=top 31
noncomputable abbrev zbg:Stmt:=top 32
noncomputable abbrev zdd:Stmt:=top 33
noncomputable abbrev zca:Stmt:=top 34
noncomputable abbrev zcl:Stmt:=top 35
noncomputable abbrev zcx:Stmt:=top 37
noncomputable abbrev s_ring:Stmt:=top 40
noncomputable abbrev s_picks:Stmt:=top 41
noncomputable abbrev s_grown:Stmt:=top 42
noncomputable abbrev zbf:Stmt:=top 44
noncomputable abbrev zbe:Stmt:=top 45
noncomputable abbrev zbp:Stmt:=top 46
noncomputable abbrev zce:Stmt:=top 47
noncomputable abbrev zcf:Stmt:=top 48
noncomputable abbrev zbq:Stmt:=top 49
noncomputable abbrev zbo:Stmt:=top 50
noncomputable abbrev zba:Stmt:=top 51
noncomputable abbrev zcg:Stmt:=top 52
noncomputable abbrev zbj:Stmt:=top 53
noncomputable abbrev zao:Stmt:=top 54
noncomputable abbrev s_law:Stmt:=top 55
end Hs
namespace Hs
open PySem L2 HsD
section
variable{P:Program}{w:World}{K:W.Frag}{mg:Str->Option Value}{base:Heap}
noncomputable def spWhole(K:W.Frag):Sp:=fun vs H Q _=>∃x d,vs=[x]/\DX K H x d/\Q (.bl (wholeD d)) H
theorem sc_whole:FnScope ["thing"] ["thing"] (defScope zbu):=⟨rfl,rfl,rfl,by decide+kernel,rfl,by decide+kernel,by decide+kernel⟩
theorem ok_whole{f:Addr}{fd:FuncData}(F:Fun K "is_whole" "is_whole" zbu f fd)(mi:mg "isinstance"=none)(mI:mg "int"=none)(mB:mg "bool"=none):FnOk P w K mg base CX0 1 f fd ["thing"] (spWhole K):=by
 refine F.ok sc_whole (fun vs H Q E h=> ?_) (fun cdv A outer s H vs Q E hr h=> ?_)
 ·obtain⟨x,d,rfl,_⟩:=h
  rfl
 obtain⟨x,d,rfl,hx,q⟩:=h
 refine⟨_,zae (zaq (pe_and (zal call_isi rfl mi (by decide+kernel) (zaa (pv 0) (zaa (pe_bltn rfl mI (v:= .ty "int") (by decide+kernel) rfl) zab)))
  (pe_one (pe_not (zal call_isi rfl mi (by decide+kernel) (zaa (pv 0) (zaa (pe_bltn rfl mB (v:= .ty "bool") (by decide+kernel) rfl) zab))))))),?_⟩
 refine⟨_,rfl,x,_,_,rfl,hx.kind,.inl rfl,_,rfl,?_⟩
 refine ite2 (fun c=> ?_) (fun c=> ?_)
 ·refine⟨_,rfl,x,_,_,rfl,hx.kind,.inr (.inl rfl),_,rfl,?_⟩
  cases d<;>first |exact q|(simp[isiB,kindD]at c;done)
 ·cases d<;>first |exact q|(exfalso;exact c rfl)
noncomputable def spPlace(K:W.Frag):Sp:=fun vs H Q _=>∃(n:Int) (x:V) (d:PyData),vs=[.int n,x]/\DX K H x d/\Q (.bl (placeD n d)) H
theorem sc_place:FnScope ["n","thing"] ["n","thing"] (defScope zcn):=⟨rfl,rfl,rfl,by decide+kernel,rfl,by decide+kernel,by decide+kernel⟩
theorem ok_place{f g:Addr}{fd gd:FuncData}(F:Fun K "is_place" "is_place" zcn f fd)(D:Dfn K mg "is_whole" zbu ["thing"] g gd)(G:FnOk P w K mg base CX0 1 g gd ["thing"] (spWhole K)):FnOk P w K mg base CX0 2 f fd ["n","thing"] (spPlace K):=by
 refine F.ok sc_place (fun vs H Q E h=> ?_) (fun cdv A outer s H vs Q E hr h=> ?_)
 ·obtain⟨n,x,d,rfl,_⟩:=h
  rfl
 obtain⟨n,x,d,rfl,hx,q⟩:=h
 refine⟨_,zae (zaq (pe_and (zai G hr rfl D.m D.F.kp D.b .nil pass0 (zaa (pv 1) zab)) (pe_one (pe_chain op_le op_lt zad (pv 1) (pv 0))))),?_⟩
 refine⟨_,rfl,x,d,rfl,hx,_,rfl,?_⟩
 refine ite2 (fun c=> ?_) (fun c=> ?_)
 ·cases hx with
  |int i=>
   refine⟨_,rfl,_,_,rfl,rfl,_,rfl,?_⟩
   refine ite2 (fun c2=> ?_) (fun c2=> ?_)
   ·refine⟨_,rfl,_,_,rfl,rfl,?_⟩
    have e:placeD n (.int i)=decide (i<n):=by show(decide (0<=i)&&decide (i<n))=_;rw[c2];rfl
    rw[e]at q;exact q
   ·have e:placeD n (.int i)=false:=by show(decide (0<=i)&&decide (i<n))=_;rw[Bool.eq_false_iff.mpr c2];rfl
    rw[e]at q;exact q
  |_=>simp[wholeD]at c
 ·have e:placeD n d=false:=by
   cases d<;>first |rfl|(exfalso;exact c rfl)
  rw[e]at q;exact q
noncomputable def spPlaces(K:W.Frag):Sp:=fun vs H Q _=>∃(n:Int) (a:Addr) (xs:List V) (ds:List PyData),vs=[.int n,.ref a]/\SqT K H a xs/\DXs K H xs ds/\∀H',Same H H'->Q (.bl (ds.all (placeD n))) H'
theorem sc_places:FnScope ["n","things"] ["n","things"] (defScope zbz):=⟨rfl,rfl,rfl,by decide+kernel,rfl,by decide+kernel,by decide+kernel⟩
theorem all_take{α:Type}(ds:List α)(p:α->Bool):(ds.map p).all id=ds.all p:=by rw[List.all_map];rfl
theorem ok_places{f g:Addr}{fd gd:FuncData}(F:Fun K "are_places" "are_places" zbz f fd)(D:Dfn K mg "is_place" zcn ["n","thing"] g gd)(G:FnOk P w K mg base CX0 2 g gd ["n","thing"] (spPlace K))(mA:mg "all"=none):FnOk P w K mg base CX0 3 f fd ["n","things"] (spPlaces K):=by
 refine F.ok sc_places (fun vs H Q E h=> ?_) (fun cdv A outer s H vs Q E hr h=> ?_)
 ·obtain⟨n,a,xs,ds,rfl,_⟩:=h
  rfl
 obtain⟨n,a,xs,ds,rfl,hS,hd,q⟩:=h
 refine⟨_,zae (zaq (zal (call_all rfl) rfl mA (by decide+kernel) (zaa (zch (own:=["thing"]) (caps:=["n"]) (ix:=[0]) rfl (pi_tupL (pv 1)) rfl rfl (.cons rfl rfl .nil) (fun _ _ _ _ _=>zan (i:=0) (show(["thing","n"]:List Str).Nodup from by decide+kernel) rfl (Or.inl rfl)) (fun _ _ _ _ _=>zdc) (fun _ _ _ _ _=>zai G hr rfl D.m D.F.kp D.b .nil pass0 (zaa (pv 1) (zaa (pv 0) zab)))) zab))),?_⟩
 refine⟨_,rfl,a,xs,rfl,hS,fun hz=> ?_⟩
 have hl:=hd.len
 refine comp_tup (xs:=xs) (fun i acc σ H'=>acc=((ds.take i).map (placeD n)).map V.bl/\Same H H'/\∃o,σ=[o,some (.int n)]) ⟨rfl,Same.refl _,_,rfl⟩ (fun i acc σ H' _ p=>p.2.1.tup hS) (fun i acc σ H' hi p=> ?_) hz (fun i x acc σ H' hx p=> ?_) (fun acc σ H' p=> ?_)
 ·rw[p.1];simp;omega
 ·obtain⟨rfl,sm,o,rfl⟩:=p
  obtain⟨d,e1,e2⟩:=hd.get hx
  refine⟨_,rfl,_,rfl,n,x,d,rfl,DX.same sm e2,?_,sm,_,rfl⟩
  rw[List.take_add_one,e1]
  simp
 ·intro p1 hp1
  obtain⟨rfl,sm,_⟩:=p
  refine⟨p1,(ds.map (placeD n)),rfl,SqL.of (by rw[zac,hl,List.take_length]),?_⟩
  rw[all_take]
  exact q _ (sm.trans (zaf hp1 _))
end
end Hs
namespace Hs
open PySem L2 HsD
section
variable{P:Program}{w:World}{K:W.Frag}{mg:Str->Option Value}{base:Heap}
noncomputable def RisV(K:W.Frag)(H:Hp)(x y:V)(b:Bool):Prop:=(∃i j,x= .int i/\y= .int j/\b=decide (i<j))\/(∃p q ns ms,x= .ref p/\y= .ref q/\SqT K H p (ns.map V.int)/\SqT K H q (ms.map V.int)/\b=HT.lexLt ns ms)
noncomputable def spRising(K:W.Frag):Sp:=fun vs H Q _=>∃(a:Addr) (xs:List V) (bs:Nat->Bool),vs=[.ref a]/\SqT K H a xs/\(∀k,k+1<xs.length->∃x y,xs[k]? =some x/\xs[k+1]? =some y/\RisV K H x y (bs k))/\
 ∀H',Same H H'->Q (.bl ((List.range (xs.length-1)).all bs)) H'
theorem sc_rising:FnScope ["things"] ["things"] (defScope zcb):=⟨rfl,rfl,rfl,by decide+kernel,rfl,by decide+kernel,by decide+kernel⟩
theorem ok_rising{f:Addr}{fd:FuncData}(F:Fun K "is_rising" "is_rising" zcb f fd)(mA:mg "all"=none)(mR:mg "range"=none)(mL:mg "len"=none):FnOk P w K mg base CX0 1 f fd ["things"] (spRising K):=by
 refine F.ok sc_rising (fun vs H Q E h=> ?_) (fun cdv A outer s H vs Q E hr h=> ?_)
 ·obtain⟨a,xs,bs,rfl,_⟩:=h
  rfl
 obtain⟨a,xs,bs,rfl,hS,hb,q⟩:=h
 refine⟨_,zae (zaq (zal (call_all rfl) rfl mA (by decide+kernel) (zaa (zch (own:=["k"]) (caps:=["things"]) (ix:=[0]) rfl
  (pi_range2 rfl mR (zaa zad (zaa (zal zck rfl mL PySem.boot_len (zaa (pv 0) zab)) zab))) rfl rfl (.cons rfl rfl .nil) (fun _ _ _ _ _=>zan (i:=0) (show(["k","things"]:List Str).Nodup from by decide+kernel) rfl (Or.inl rfl)) (fun _ _ _ _ _=>zdc) (fun _ _ _ _ _=>pe_cmpR (op_lt.or (op_ltTK K hr.units0)) (zbb (ix_tupK K) (pv 1) (zap op_sub (pv 0) zad) (fun _ _=>rfl)) (zbb (ix_tupK K) (pv 1) (pv 0) (fun _ _=>rfl)) (nomark _))) zab))),?_⟩
 refine⟨_,rfl,a,xs,rfl,.inr hS,fun hz=>⟨1,_,rfl,⟨by omega,by omega,by omega,by omega⟩,?_⟩⟩
 have en:((xs.length:Int)-1).toNat=xs.length-1:=by omega
 rw[en]
 refine zct (fun i acc σ H'=>acc=((List.range i).map bs).map V.bl/\Same H H'/\∃o,σ=[o,some (.ref a)]) ⟨rfl,Same.refl _,_,rfl⟩ (fun i acc σ H' hi p=>by rw[p.1];simp) (by rw[sizeLine_eq];omega) (fun i acc σ H' hi p=> ?_) (fun acc σ H' p=> ?_)
 ·obtain⟨rfl,sm,o,rfl⟩:=p
  obtain⟨x,y,hx,hy,hxy⟩:=hb i (by omega)
  have e1:(1+(i:Int))-1=((i:Nat):Int):=by omega
  have e2:(1+(i:Int))=((i+1:Nat):Int):=by omega
  have a1:atI xs (1+(i:Int)-1)=some x:=by rw[e1];exact atI_nat hx
  have a2:atI xs (1+(i:Int))=some y:=by rw[e2];exact atI_nat hy
  refine⟨_,rfl,_,rfl,_,_,rfl,rfl,a,xs,_,x,rfl,rfl,sm.tup hS,a1,_,rfl,_,rfl,a,xs,_,y,rfl,rfl,sm.tup hS,a2,?_⟩
  have ea:((List.range i).map bs).map V.bl++[V.bl (bs i)]=((List.range (i+1)).map bs).map V.bl:=by rw[List.range_succ];simp
  rcases hxy with⟨u,v,rfl,rfl,e⟩|⟨p,p',ns,ms,rfl,rfl,h1,h2,e⟩
  ·refine .inl ⟨u,v,rfl,rfl,?_,sm,_,rfl⟩
   show _++[V.bl (decide (u<v))]=_
   rw[<-e];exact ea
  ·refine .inr ⟨p,p',ns,ms,rfl,rfl,sm.tup h1,sm.tup h2,?_,sm,_,rfl⟩
   show _++[V.bl (HT.lexLt ns ms)]=_
   rw[<-e];exact ea
 ·intro p1 hp1
  obtain⟨rfl,sm,_⟩:=p
  refine⟨p1,(List.range (xs.length-1)).map bs,rfl,SqL.of zac,?_⟩
  rw[all_take]
  exact q _ (sm.trans (zaf hp1 _))
theorem ints_of{H:Hp}{n:Int}{xs:List V}{ds:List PyData}(h:DXs K H xs ds)(hp:ds.all (placeD n)=true):xs=(ds.map intD).map V.int:=by
 induction ds generalizing xs with
 |nil=>cases h;rfl
 |cons d ds ih=>
  rw[List.all_cons,Bool.and_eq_true]at hp
  cases h with
  |cons h t=>
   obtain⟨i,rfl,_⟩:=placeD_int hp.1
   cases h
   rw[List.map_cons,List.map_cons,<-ih t hp.2]
   rfl
theorem rises_int{H:Hp}(ns:List Int):∀k,k+1<(ns.map V.int).length->∃x y,(ns.map V.int)[k]? =some x/\(ns.map V.int)[k+1]? =some y/\RisV K H x y (decide (ns.getD k 0<ns.getD (k+1) 0)):=fun k hk=>by
 rw[List.length_map]at hk
 have h1:k<ns.length:=by omega
 refine⟨.int (ns.getD k 0),.int (ns.getD (k+1) 0),by simp[h1],by simp[hk],.inl ⟨_,_,rfl,rfl,rfl⟩⟩
noncomputable def spSet(K:W.Frag):Sp:=fun vs H Q _=>∃(n:Int) (x:V) (d:PyData),vs=[.int n,x]/\DX K H x d/\∀H',Same H H'->Q (.bl (setD n d)) H'
theorem sc_set:FnScope ["n","thing"] ["n","thing"] (defScope zcv):=⟨rfl,rfl,rfl,by decide+kernel,rfl,by decide+kernel,by decide+kernel⟩
theorem ok_set{f f1 f2:Addr}{fd d1 d2:FuncData}(F:Fun K "is_set" "is_set" zcv f fd)(D1:Dfn K mg "are_places" zbz ["n","things"] f1 d1)(G1:FnOk P w K mg base CX0 3 f1 d1 ["n","things"] (spPlaces K))(D2:Dfn K mg "is_rising" zcb ["things"] f2 d2)(G2:FnOk P w K mg base CX0 1 f2 d2 ["things"] (spRising K))(mi:mg "isinstance"=none)(mT:mg "tuple"=none):FnOk P w K mg base CX0 4 f fd ["n","thing"] (spSet K):=by
 refine F.ok sc_set (fun vs H Q E h=> ?_) (fun cdv A outer s H vs Q E hr h=> ?_)
 ·obtain⟨n,x,d,rfl,_⟩:=h
  rfl
 obtain⟨n,x,d,rfl,hx,q⟩:=h
 refine⟨_,zae (zaq (pe_and (zal call_isi rfl mi (by decide+kernel) (zaa (pv 1) (zaa (pe_bltn rfl mT (v:= .ty "tuple") (by decide+kernel) rfl) zab)))
  (pe_and (zai G1 hr rfl D1.m D1.F.kp D1.b .nil pass0 (zaa (pv 0) (zaa (pv 1) zab))) (pe_one (zai (G2.mono (by decide)) hr rfl D2.m D2.F.kp D2.b .nil pass0 (zaa (pv 1) zab)))))),?_⟩
 refine⟨_,rfl,x,_,_,rfl,hx.kind,.inr (.inr (.inl rfl)),_,rfl,?_⟩
 refine ite2 (fun c=> ?_) (fun c=> ?_)
 ·cases hx with
  | @tup a xs ds h t=>
   refine⟨_,rfl,_,rfl,n,a,xs,ds,rfl,h,t,fun H1 sm=>⟨_,rfl,?_⟩⟩
   refine ite2 (fun c2=> ?_) (fun c2=> ?_)
   ·have ex:=ints_of t c2
    refine⟨_,rfl,a,xs,fun k=>decide ((ds.map intD).getD k 0<(ds.map intD).getD (k+1) 0),rfl,sm.tup h,?_,fun H2 sm2=> ?_⟩
    ·rw[ex];exact rises_int _
    ·have e:setD n (.tuple ds)=(List.range (xs.length-1)).all fun k=>decide ((ds.map intD).getD k 0<(ds.map intD).getD (k+1) 0):=by
      show(ds.all (placeD n)&&risesI (ds.map intD))=_
      rw[c2,t.len]
      show risesI (ds.map intD)=_
      unfold risesI
      rw[List.length_map]
     have:=q H2 (sm.trans sm2)
     rw[e]at this;exact this
   ·have e:setD n (.tuple ds)=false:=by
     show(ds.all (placeD n)&&risesI (ds.map intD))=_
     rw[Bool.eq_false_iff.mpr c2];rfl
    have:=q H1 sm
    rw[e]at this;exact this
  |_=>simp[isiB,kindD]at c
 ·have e:setD n d=false:=by
   cases d<;>first |rfl|(exfalso;exact c rfl)
  have:=q H (Same.refl _)
  rw[e]at this;exact this
noncomputable def spTies(K:W.Frag):Sp:=fun vs H Q _=>∃(n:Int) (x:V) (d:PyData),vs=[.int n,x]/\DX K H x d/\∀H',Same H H'->Q (.bl (tiesD n d)) H'
theorem sc_ties:FnScope ["n","thing"] ["n","thing"] (defScope zco):=⟨rfl,rfl,rfl,by decide+kernel,rfl,by decide+kernel,by decide+kernel⟩
theorem tie_tup{H:Hp}{n:Int}{x:V}{d:PyData}(h:DX K H x d)(ht:tieD n d=true):∃p,x= .ref p/\SqT K H p (((kids d).map intD).map V.int):=by
 cases h with
 | @tup a xs ds h t=>
  have q:(ds.all (placeD n)&&risesI (ds.map intD)&&decide (ds.length=2))=true:=ht
  rw[Bool.and_eq_true,Bool.and_eq_true]at q
  exact⟨a,rfl,by rw[ints_of t q.1.1]at h;exact h⟩
 |_=>simp[tieD,setD]at ht
theorem rises_tup{H:Hp}{n:Int}{xs:List V}{ds:List PyData}(t:DXs K H xs ds)(ha:ds.all (tieD n)=true):∀k,k+1<xs.length->∃x y,xs[k]? =some x/\xs[k+1]? =some y/\
  RisV K H x y (HT.lexLt ((ds.map fun t=>(kids t).map intD).getD k []) ((ds.map fun t=>(kids t).map intD).getD (k+1) [])):=fun k hk=>by
 have hl:=t.len
 have h1:k<xs.length:=by omega
 obtain⟨d1,e1,x1⟩:=t.get (i:=k) (x:=xs[k]) (by simp[h1])
 obtain⟨d2,e2,x2⟩:=t.get (i:=k+1) (x:=xs[k+1]) (by simp[hk])
 have m1:=List.all_eq_true.mp ha d1 (List.mem_of_getElem? e1)
 have m2:=List.all_eq_true.mp ha d2 (List.mem_of_getElem? e2)
 obtain⟨p1,q1,s1⟩:=tie_tup x1 m1
 obtain⟨p2,q2,s2⟩:=tie_tup x2 m2
 refine⟨xs[k],xs[k+1],by simp[h1],by simp[hk],.inr ⟨p1,p2,_,_,q1,q2,s1,s2,?_⟩⟩
 have g1:(ds.map fun t=>(kids t).map intD).getD k []=(kids d1).map intD:=by rw[List.getD_eq_getElem?_getD,List.getElem?_map,e1];rfl
 have g2:(ds.map fun t=>(kids t).map intD).getD (k+1) []=(kids d2).map intD:=by rw[List.getD_eq_getElem?_getD,List.getElem?_map,e2];rfl
 rw[g1,g2]
theorem ok_ties{f f1 f2:Addr}{fd d1 d2:FuncData}(F:Fun K "are_ties" "are_ties" zco f fd)(D1:Dfn K mg "is_set" zcv ["n","thing"] f1 d1)(G1:FnOk P w K mg base CX0 4 f1 d1 ["n","thing"] (spSet K))(D2:Dfn K mg "is_rising" zcb ["things"] f2 d2)(G2:FnOk P w K mg base CX0 1 f2 d2 ["things"] (spRising K))(mi:mg "isinstance"=none)(mT:mg "tuple"=none)(mA:mg "all"=none)(mL:mg "len"=none):FnOk P w K mg base CX0 5 f fd ["n","thing"] (spTies K):=by
 refine F.ok sc_ties (fun vs H Q E h=> ?_) (fun cdv A outer s H vs Q E hr h=> ?_)
 ·obtain⟨n,x,d,rfl,_⟩:=h
  rfl
 obtain⟨n,x,d,rfl,hx,q⟩:=h
 refine⟨_,zag (zam (pt_not (pt_val (zal call_isi rfl mi (by decide+kernel) (zaa (pv 1) (zaa (pe_bltn rfl mT (v:= .ty "tuple") (by decide+kernel) rfl) zab))))) (zae (zaq pe_bl)) zaw) (zae (zaq (pe_and (zal (call_all rfl) rfl mA (by decide+kernel) (zaa (zch (own:=["tie"]) (caps:=["n"]) (ix:=[0]) rfl (pi_tupL (pv 1)) rfl rfl (.cons rfl rfl .nil) (fun _ _ _ _ _=>zan (i:=0) (show(["tie","n"]:List Str).Nodup from by decide+kernel) rfl (Or.inl rfl)) (fun _ _ _ _ _=>zdc) (fun _ _ _ _ _=>pe_and (zai G1 hr rfl D1.m D1.F.kp D1.b .nil pass0 (zaa (pv 1) (zaa (pv 0) zab))) (pe_one (pe_cmpR zau (zal (call_lenK K) rfl mL PySem.boot_len (zaa (pv 0) zab)) zad (nomark _))))) zab))
  (pe_one (zai (G2.mono (by decide)) hr rfl D2.m D2.F.kp D2.b .nil pass0 (zaa (pv 1) zab)))))),?_⟩
 refine⟨_,rfl,x,_,_,rfl,hx.kind,.inr (.inr (.inl rfl)),_,rfl,?_⟩
 refine ite2 (fun c=> ?_) (fun c=> ?_)
 ·have e:tiesD n d=false:=by
   cases d<;>first |rfl|(exfalso;simp[isiB,kindD]at c;done)
  have:=q H (Same.refl _)
  rw[e]at this;exact this
 ·cases hx with
  | @tup a xs ds h t=>
   refine⟨_,rfl,a,xs,rfl,h,fun hz=> ?_⟩
   have hl:=t.len
   refine comp_tup (xs:=xs) (fun i acc σ H'=>acc=((ds.take i).map (tieD n)).map V.bl/\Same H H'/\∃o,σ=[o,some (.int n)]) ⟨rfl,Same.refl _,_,rfl⟩ (fun i acc σ H' _ p=>p.2.1.tup h) (fun i acc σ H' hi p=> ?_) hz (fun i x acc σ H' hx p=> ?_) (fun acc σ H' p=> ?_)
   ·rw[p.1];simp;omega
   ·obtain⟨rfl,sm,o,rfl⟩:=p
    obtain⟨d,e1,e2⟩:=t.get hx
    refine⟨_,rfl,_,rfl,n,x,d,rfl,DX.same sm e2,fun H1 sm1=>⟨_,rfl,?_⟩⟩
    have ea:∀b,b=tieD n d->((ds.take i).map (tieD n)).map V.bl++[V.bl b]=((ds.take (i+1)).map (tieD n)).map V.bl:=fun b hb=>by
     rw[List.take_add_one,e1,hb];simp
    refine ite2 (fun c2=> ?_) (fun c2=> ?_)
    ·cases e2 with
     | @tup a2 xs2 ds2 h2 t2=>
      refine⟨_,rfl,a2,xs2,rfl,.inr (sm1.tup (sm.tup h2)),fun hz2=>⟨rfl,ea _ ?_,sm.trans sm1,_,rfl⟩⟩
      show decide (V.int (xs2.length:Int)=V.int 2)=(setD n (.tuple ds2)&&decide (ds2.length=2))
      rw[c2,t2.len]
      by_cases e3:ds2.length=2
      ·rw[e3];rfl
      ·rw[decide_eq_false e3,decide_eq_false (by intro z;injection z with z;exact e3 (by omega))];rfl
     |_=>simp[setD]at c2
    ·refine⟨ea _ ?_,sm.trans sm1,_,rfl⟩
     show false=(setD n d&&decide ((kids d).length=2))
     rw[Bool.eq_false_iff.mpr c2];rfl
   ·intro p1 hp1
    obtain⟨rfl,sm,_⟩:=p
    have sm':Same H (upd H' p1 (.lst (((ds.take xs.length).map (tieD n)).map V.bl))):=sm.trans (zaf hp1 _)
    refine⟨p1,(ds.map (tieD n)),rfl,SqL.of (by rw[zac,hl,List.take_length]),_,rfl,?_⟩
    rw[all_take]
    refine ite2 (fun c2=> ?_) (fun c2=> ?_)
    ·refine⟨_,rfl,a,xs,fun k=>HT.lexLt ((ds.map fun t=>(kids t).map intD).getD k []) ((ds.map fun t=>(kids t).map intD).getD (k+1) []),rfl,sm'.tup h,?_,fun H2 sm2=> ?_⟩
     ·exact rises_tup (DXs.same sm' t) c2
     ·have e:tiesD n (.tuple ds)=(List.range (xs.length-1)).all fun k=>HT.lexLt ((ds.map fun t=>(kids t).map intD).getD k []) ((ds.map fun t=>(kids t).map intD).getD (k+1) []):=by
       show(ds.all (tieD n)&&risesT (ds.map fun t=>(kids t).map intD))=_
       rw[c2,hl]
       show risesT (ds.map fun t=>(kids t).map intD)=_
       unfold risesT
       rw[List.length_map]
      have:=q H2 (sm'.trans sm2)
      rw[e]at this;exact this
    ·have e:tiesD n (.tuple ds)=false:=by
      show(ds.all (tieD n)&&risesT (ds.map fun t=>(kids t).map intD))=_
      rw[Bool.eq_false_iff.mpr c2];rfl
     have:=q _ sm'
     rw[e]at this;exact this
  |_=>exfalso;exact c rfl
end
end Hs
namespace HsD
open PySem L2
noncomputable def pairD(p:Int×Int):PyData:= .tuple [.int p.1,.int p.2]
noncomputable def webDat(n:Int)(ts:List (Int×Int)):PyData:= .tuple [.int n,.tuple (ts.map pairD)]
noncomputable def WebV(K:W.Frag)(H:Hp)(a:Addr)(n:Int)(ts:List (Int×Int)):Prop:=∃t rs,SqT K H a [.int n,.ref t]/\SqT K H t rs/\DVs K H rs (ts.map pairD)
theorem WebV.dv{K:W.Frag}{H:Hp}{a:Addr}{n:Int}{ts:List (Int×Int)}(h:WebV K H a n ts):DV K H (.ref a) (webDat n ts):=by
 obtain⟨t,rs,h1,h2,h3⟩:=h
 exact .tup h1 (.cons (.int n) (.cons (.tup h2 h3) .nil))
theorem WebV.same{K:W.Frag}{H H':Hp}{a:Addr}{n:Int}{ts:List (Int×Int)}(h:WebV K H a n ts)(e:Same H H'):WebV K H' a n ts:=by
 obtain⟨t,rs,h1,h2,h3⟩:=h
 exact⟨t,rs,e.tup h1,e.tup h2,DVs.same e h3⟩
noncomputable def hasTie(ts:List (Int×Int))(i j:Int):Bool:=decide ((if j<i then j else i,if j>i then j else i)∈ts)
theorem eqv_pair(p q:Int×Int):PyData.eqv (pairD p) (pairD q)=decide (p=q):=by
 obtain⟨a,b⟩:=p
 obtain⟨c,d⟩:=q
 show((a==c)&&((b==d)&&true))=_
 rw[Bool.eq_iff_iff]
 simp
theorem lay_pairs:∀ts:List (Int×Int),PyData.canLayAll0 (ts.map pairD)=true
 |[]=>rfl
 |p::ts=>by
  show(PyData.canLay0 (pairD p)&&PyData.canLayAll0 (ts.map pairD))=true
  rw[lay_pairs ts];rfl
theorem any_pair(ts:List (Int×Int))(q:Int×Int):((ts.map pairD).any fun d=>PyData.eqv d (pairD q))=decide (q∈ts):=by
 rw[List.any_map,Bool.eq_iff_iff,List.any_eq_true]
 constructor
 ·rintro⟨p,hp,h⟩
  have h':PyData.eqv (pairD p) (pairD q)=true:=h
  rw[eqv_pair]at h'
  have e:p=q:=of_decide_eq_true h'
  subst e
  exact decide_eq_true hp
 ·intro h
  refine⟨q,of_decide_eq_true h,?_⟩
  show PyData.eqv (pairD q) (pairD q)=true
  rw[eqv_pair]
  exact decide_eq_true rfl
end HsD
namespace Hs
open PySem L2 HsD
section
variable{P:Program}{w:World}{K:W.Frag}{mg:Str->Option Value}{base:Heap}
noncomputable def spWeb(K:W.Frag):Sp:=fun vs H Q _=>∃(x:V) (d:PyData),vs=[x]/\DX K H x d/\∀H',Same H H'->Q (.bl (webD d)) H'
theorem sc_web:FnScope ["thing","n"] ["thing"] (defScope zde):=⟨rfl,rfl,rfl,by decide+kernel,rfl,by decide+kernel,by decide+kernel⟩
theorem ok_web{f f1 f2:Addr}{fd d1 d2:FuncData}{tk:Tok}(F:Fun K "is_web" "is_web" zde f fd)(D1:Dfn K mg "is_whole" zbu ["thing"] f1 d1)(G1:FnOk P w K mg base CX0 1 f1 d1 ["thing"] (spWhole K))(D2:Dfn K mg "are_ties" zco ["n","thing"] f2 d2)(G2:FnOk P w K mg base CX0 5 f2 d2 ["n","thing"] (spTies K))(mi:mg "isinstance"=none)(mT:mg "tuple"=none)(mL:mg "len"=none)(mM:mg "MOST_PLACES"=some (.int 10 tk)):FnOk P w K mg base CX0 6 f fd ["thing"] (spWeb K):=by
 refine F.ok sc_web (fun vs H Q E h=> ?_) (fun cdv A outer s H vs Q E hr h=> ?_)
 ·obtain⟨x,d,rfl,_⟩:=h
  rfl
 obtain⟨x,d,rfl,hx,q⟩:=h
 refine⟨_,zag (zam (PW.pt (pw_or (pt_not (pt_val (zal call_isi rfl mi (by decide+kernel) (zaa (pv 0) (zaa (pe_bltn rfl mT (v:= .ty "tuple") (by decide+kernel) rfl) zab)))))
   (pw_or1 (zaj op_ne (zal zck rfl mL PySem.boot_len (zaa (pv 0) zab)) zad (nomark _))))) (zae (zaq pe_bl)) zaw) (zag (zas (i:=1) sc_web.nd rfl (Or.inl rfl) (zbb zbh (pv 0) zad (fun _ _=>rfl))) (zae (zaq (pe_and (zai (G1.mono (by decide)) hr rfl D1.m D1.F.kp D1.b .nil pass0 (zaa (pv 1) zab)) (pe_and (pe_chain op_le op_le zad (pv 1) (zbw rfl mM (v:= .int 10) ⟨_,rfl⟩))
   (pe_one (zai G2 hr rfl D2.m D2.F.kp D2.b .nil pass0 (zaa (pv 1) (zaa (zbb zbh (pv 0) zad (fun _ _=>rfl)) zab))))))))),?_⟩
 refine⟨_,rfl,x,_,_,rfl,hx.kind,.inr (.inr (.inl rfl)),_,rfl,?_⟩
 refine ite2 (fun c=> ?_) (fun c=> ?_)
 ·have e:webD d=false:=by
   cases d<;>first |rfl|(exfalso;simp[isiB,kindD]at c;done)
  have:=q H (Same.refl _)
  rw[e]at this;exact this
 ·cases hx with
  | @tup a xs ds h t=>
   have hl:=t.len
   refine⟨_,rfl,a,xs,rfl,.inr h,fun hz=>⟨rfl,_,rfl,?_⟩⟩
   refine ite2 (fun c2=> ?_) (fun c2=> ?_)
   ·have e:webD (.tuple ds)=false:=by
     match ds,hl with
     |[],_=>rfl
     |[_],_=>rfl
     |[_,_],hl=>
      exfalso
      have e2:(!decide (V.int (xs.length:Int)=V.int 2))=true:=c2
      rw[hl]at e2
      simp at e2
     |_::_::_::_,_=>rfl
    have:=q H (Same.refl _)
    rw[e]at this;exact this
   ·have e2:xs.length=2:=by
     have e2:¬(!decide (V.int (xs.length:Int)=V.int 2))=true:=c2
     simp at e2
     omega
    cases t with
    |nil=>simp at e2
    |cons h0 t0=>
     cases t0 with
     |nil=>simp at e2
     | @cons x1 dd1 xs1 ds1 h1 t1=>
      cases t1 with
      |cons _ _=>simp at e2
      |nil=>
       rename_i x0 dd0
       refine⟨_,rfl,a,_,_,x0,rfl,rfl,h,by rfl,?_⟩
       refine⟨_,rfl,x0,dd0,rfl,h0,_,rfl,?_⟩
       refine ite2 (fun c3=> ?_) (fun c3=> ?_)
       ·cases h0 with
        |int n=>
         refine⟨_,rfl,_,_,rfl,rfl,_,rfl,?_⟩
         have fin:∀b,b=webD (.tuple [.int n,dd1])->∀H',Same H H'->Q (.bl b) H':=fun b hb H' sm=>by rw[hb];exact q H' sm
         have wd:webD (.tuple [.int n,dd1])=((decide (0<=n)&&decide (n<=10))&&tiesD n dd1):=rfl
         refine ite2 (fun c4=> ?_) (fun c4=> ?_)
         ·refine⟨_,_,rfl,rfl,_,rfl,?_⟩
          refine ite2 (fun c5=> ?_) (fun c5=> ?_)
          ·refine⟨_,rfl,_,rfl,a,_,_,x1,rfl,rfl,h,by rfl,n,x1,dd1,rfl,h1,fun H' sm=>fin _ ?_ H' sm⟩
           rw[wd,c4,c5];rfl
          ·refine fin _ ?_ H (Same.refl _)
           rw[wd,Bool.eq_false_iff.mpr c5,Bool.and_false];rfl
         ·refine⟨_,rfl,?_⟩
          refine iteF (fin _ ?_ H (Same.refl _))
          rw[wd,Bool.eq_false_iff.mpr c4];rfl
        |_=>simp[wholeD]at c3
       ·have e:webD (.tuple [dd0,dd1])=false:=by
         show(wholeD dd0&&(decide (0<=intD dd0)&&decide (intD dd0<=10))&&tiesD (intD dd0) dd1)=false
         rw[Bool.eq_false_iff.mpr c3];rfl
        have:=q H (Same.refl _)
        rw[e]at this;exact this
  |_=>exfalso;exact c rfl
end
end Hs
namespace Hs
open PySem L2 HsD
section
variable{P:Program}{w:World}{K:W.Frag}{mg:Str->Option Value}{base:Heap}
noncomputable def spNeedWeb(K:W.Frag):Sp:=fun vs H Q _=>∃(x:V) (d:PyData),vs=[x]/\DX K H x d/\webD d=true/\∀H',Same H H'->Q .non H'
theorem sc_needWeb:FnScope ["thing"] ["thing"] (defScope zay):=⟨rfl,rfl,rfl,by decide+kernel,rfl,by decide+kernel,by decide+kernel⟩
theorem ok_needWeb{f f1:Addr}{fd d1:FuncData}(F:Fun K "need_web" "need_web" zay f fd)(D1:Dfn K mg "is_web" zde ["thing"] f1 d1)(G1:FnOk P w K mg base CX0 6 f1 d1 ["thing"] (spWeb K)):FnOk P w K mg base CX0 7 f fd ["thing"] (spNeedWeb K):=by
 refine F.ok sc_needWeb (fun vs H Q E h=> ?_) (fun cdv A outer s H vs Q E hr h=> ?_)
 ·obtain⟨x,d,rfl,_⟩:=h
  rfl
 obtain⟨x,d,rfl,hx,hw,q⟩:=h
 refine⟨_,zae (zam (pt_not (pt_val (zai G1 hr rfl D1.m D1.F.kp D1.b .nil pass0 (zaa (pv 0) zab)))) zah zaw),?_⟩
 refine⟨_,rfl,x,d,rfl,hx,fun H' sm=>⟨_,rfl,?_⟩⟩
 rw[hw]
 exact iteF (q H' sm)
noncomputable def spNeedSet(K:W.Frag):Sp:=fun vs H Q _=>∃(a:Addr) (n:Int) (t x:V) (d:PyData),vs=[.ref a,x]/\SqT K H a [.int n,t]/\DX K H x d/\setD n d=true/\∀H',Same H H'->Q .non H'
theorem sc_needSet:FnScope ["web","thing"] ["web","thing"] (defScope zcd):=⟨rfl,rfl,rfl,by decide+kernel,rfl,by decide+kernel,by decide+kernel⟩
theorem ok_needSet{f f1:Addr}{fd d1:FuncData}(F:Fun K "need_set" "need_set" zcd f fd)(D1:Dfn K mg "is_set" zcv ["n","thing"] f1 d1)(G1:FnOk P w K mg base CX0 4 f1 d1 ["n","thing"] (spSet K)):FnOk P w K mg base CX0 5 f fd ["web","thing"] (spNeedSet K):=by
 refine F.ok sc_needSet (fun vs H Q E h=> ?_) (fun cdv A outer s H vs Q E hr h=> ?_)
 ·obtain⟨a,n,t,x,d,rfl,_⟩:=h
  rfl
 obtain⟨a,n,t,x,d,rfl,ha,hx,hd,q⟩:=h
 refine⟨_,zae (zam (pt_not (pt_val (zai G1 hr rfl D1.m D1.F.kp D1.b .nil pass0 (zaa (zbb zbh (pv 0) zad (fun _ _=>rfl)) (zaa (pv 1) zab))))) zah zaw),?_⟩
 refine⟨_,rfl,a,_,_,.int n,rfl,rfl,ha,rfl,_,rfl,n,x,d,rfl,hx,fun H' sm=>⟨_,rfl,?_⟩⟩
 rw[hd]
 exact iteF (q H' sm)
noncomputable def spNeedFew(K:W.Frag):Sp:=fun vs H Q _=>∃(n:Int),vs=[.int n]/\n<=10/\Q .non H
theorem sc_needFew:FnScope ["n"] ["n"] (defScope zbi):=⟨rfl,rfl,rfl,by decide+kernel,rfl,by decide+kernel,by decide+kernel⟩
theorem ok_needFew{f:Addr}{fd:FuncData}{tk:Tok}(F:Fun K "need_few" "need_few" zbi f fd)(mM:mg "MOST_PLACES"=some (.int 10 tk)):FnOk P w K mg base CX0 1 f fd ["n"] (spNeedFew K):=by
 refine F.ok sc_needFew (fun vs H Q E h=> ?_) (fun cdv A outer s H vs Q E hr h=> ?_)
 ·obtain⟨n,rfl,_⟩:=h
  rfl
 obtain⟨n,rfl,hn,q⟩:=h
 refine⟨_,zae (zam (zaj op_gt (pv 0) (zbw rfl mM (v:= .int 10) ⟨_,rfl⟩) (nomark _)) zah zaw),?_⟩
 refine⟨_,rfl,_,_,rfl,rfl,_,rfl,?_⟩
 rw[decide_eq_false (show¬(10:Int)<n by omega)]
 exact iteF q
noncomputable def spHas(K:W.Frag):Sp:=fun vs H Q _=>∃(a:Addr) (n i j:Int) (ts:List (Int×Int)),vs=[.ref a,.int i,.int j]/\WebV K H a n ts/\∀H',Same H H'->Q (.bl (hasTie ts i j)) H'
theorem sc_has:FnScope ["web","one","other"] ["web","one","other"] (defScope zcp):=⟨rfl,rfl,rfl,by decide+kernel,rfl,by decide+kernel,by decide+kernel⟩
theorem ok_has{f:Addr}{fd:FuncData}(F:Fun K "has_tie" "has_tie" zcp f fd)(mi:mg "min"=none)(ma:mg "max"=none):FnOk P w K mg base CX0 1 f fd ["web","one","other"] (spHas K):=by
 refine F.ok sc_has (fun vs H Q E h=> ?_) (fun cdv A outer s H vs Q E hr h=> ?_)
 ·obtain⟨a,n,i,j,ts,rfl,_⟩:=h
  rfl
 obtain⟨a,n,i,j,ts,rfl,hW,q⟩:=h
 refine⟨_,zae (zaq (pe_cmpR (op_inD hr.units) (zax (zaa (zal (call_min2 rfl) rfl mi (by decide+kernel) (zaa (pv 1) (zaa (pv 2) zab))) (zaa (zal (call_max2 rfl) rfl ma (by decide+kernel) (zaa (pv 1) (zaa (pv 2) zab))) zab)))
  (zbb zbh (pv 0) zad (fun _ _=>rfl)) (by with_unfolding_all rfl))),?_⟩
 refine⟨_,rfl,_,rfl,_,_,rfl,_,rfl,_,rfl,_,_,rfl,(by show 2<=sizeLine;decide),fun p hp=> ?_⟩
 have sm:=zaf hp (.tup [.int (if j<i then j else i),.int (if j>i then j else i)])
 obtain⟨t,rs,h1,h2,h3⟩:=hW.same sm
 refine⟨_,rfl,a,_,_,.ref t,rfl,rfl,h1,rfl,t,rs,_,pairD (if j<i then j else i,if j>i then j else i),rfl,.inr h2,h3,.tup (SqT.of zac) (.cons (.int _) (.cons (.int _) .nil)),lay_pairs ts,rfl,(by show max 0 (max 0 0)+1<=60;decide),?_⟩
 rw[any_pair]
 exact q _ sm
end
noncomputable def WebOk(n:Int)(ts:List (Int×Int)):Prop:=webD (webDat n ts)=true
end Hs
namespace L2
open PySem
noncomputable def SameX(t:Addr)(H H':Hp):Prop:=∀b o,b≠t->H b=some o->H' b=some o
theorem SameX.refl(t:Addr)(H:Hp):SameX t H H:=fun _ _ _ h=>h
theorem SameX.trans{t:Addr}{H H1 H2:Hp}(a:SameX t H H1)(b:SameX t H1 H2):SameX t H H2:=fun c o n h=>b c o n (a c o n h)
theorem Same.x{H H':Hp}(h:Same H H')(t:Addr):SameX t H H':=fun b o _ e=>h b o e
theorem SameX.upd{t:Addr}{H H':Hp}{o:HO}(h:SameX t H H'):SameX t H (upd H' t o):=fun b u n e=>by rw[zbd n];exact h b u n e
noncomputable def ScrV(K:W.Frag)(H:Hp)(scr:Addr)(ns:List Int):Prop:=(∃o,H scr=some (.frz o (.lst (ns.map V.int))))\/
 ∃(o:Obj) (its:Array Value) (n:Nat),K.lookup scr=some o/\o.cls= .type "list"/\o.dict=none/\o.data= .seq its n/\its.size<=sizeLine/\Vals (ns.map V.int) its.toList
theorem ScrV.sq{K:W.Frag}{H:Hp}{scr:Addr}{ns:List Int}(h:ScrV K H scr ns):SqL K H scr (ns.map V.int):=by
 rcases h with⟨o,h⟩|h
 ·exact .inl (.inr ⟨o,h⟩)
 ·exact .inr h
theorem ScrV.samex{K:W.Frag}{H H':Hp}{scr t:Addr}{ns:List Int}{zs:List V}(h:ScrV K H scr ns)(e:SameX t H H')(n:H t=some (.lst zs)):ScrV K H' scr ns:=by
 rcases h with⟨o,h⟩|h
 ·exact .inl ⟨o,e _ _ (ne_of h n (by intro z;cases z)) h⟩
 ·exact .inr h
theorem ScrV.same{K:W.Frag}{H H':Hp}{scr:Addr}{ns:List Int}(h:ScrV K H scr ns)(e:Same H H'):ScrV K H' scr ns:=by
 rcases h with⟨o,h⟩|h
 ·exact .inl ⟨o,e _ _ h⟩
 ·exact .inr h
structure TapeV(K:W.Frag)(H:Hp)(tp scr:Addr)(ns:List Int):Prop where
 at_:∃(i r:Int),H tp=some (.lst [.ref scr,.int i,.int r])/\0<=i/\0<=r
 scr_:ScrV K H scr ns
 len:ns.length<=63
theorem SameX.sq{K:W.Frag}{t:Addr}{H H':Hp}{a:Addr}{xs:List V}(e:SameX t H H')(n:a≠t)(h:SqL K H a xs):SqL K H' a xs:=by
 rcases h with(h|⟨o,h⟩)|h
 ·exact .inl (.inl (e _ _ n h))
 ·exact .inl (.inr ⟨o,e _ _ n h⟩)
 ·exact .inr h
theorem TapeV.same{K:W.Frag}{H H':Hp}{tp scr:Addr}{ns:List Int}(h:TapeV K H tp scr ns)(e:Same H H'):TapeV K H' tp scr ns:=by
 obtain⟨⟨i,r,h1,h2,h3⟩,h4,h5⟩:=h
 exact⟨⟨i,r,e _ _ h1,h2,h3⟩,h4.same e,h5⟩
theorem TapeV.other{K:W.Frag}{H H':Hp}{tp scr c:Addr}{ns:List Int}{zs:List V}(h:TapeV K H tp scr ns)(e:SameX c H H')(hc:H c=some (.lst zs))(n:tp≠c):TapeV K H' tp scr ns:=by
 obtain⟨⟨i,r,h1,h2,h3⟩,h4,h5⟩:=h
 exact⟨⟨i,r,e _ _ n h1,h2,h3⟩,h4.samex e hc,h5⟩
theorem lay_ints:∀ns:List Int,PyData.canLayAll0 (ns.map PyData.int)=true
 |[]=>rfl
 |n::ns=>by
  show(true&&PyData.canLayAll0 (ns.map PyData.int))=true
  rw[lay_ints ns];rfl
end L2
namespace Hs
open PySem L2 HsD
section
variable{P:Program}{w:World}{K:W.Frag}{mg:Str->Option Value}{base:Heap}
noncomputable def spStir(K:W.Frag):Sp:=fun vs H Q _=>∃(c i:Int),vs=[.int c,.int i]/\∀r,0<=r->Q (.int r) H
theorem sc_stir:FnScope ["cell","at","first","second","third"] ["cell","at"] (defScope zbf):=⟨rfl,rfl,rfl,by decide+kernel,rfl,by decide+kernel,by decide+kernel⟩
theorem mod_nn(a:Int){b:Int}(h:0<b):0<=a %b:=Int.emod_nonneg _ (by omega)
theorem mod_lt(a:Int){b:Int}(h:0<b):a %b<b:=Int.emod_lt_of_pos _ h
theorem ok_stir{f:Addr}{fd:FuncData}(F:Fun K "_law_b_stirred" "_law_b_stirred" zbf f fd):FnOk P w K mg base CX0 1 f fd ["cell","at"] (spStir K):=by
 refine F.ok sc_stir (fun vs H Q E h=> ?_) (fun cdv A outer s H vs Q E hr h=> ?_)
 ·obtain⟨c,i,rfl,_⟩:=h
  rfl
 obtain⟨c,i,rfl,q⟩:=h
 refine⟨_,zag (zam (zaj op_ge (pv 0) (zap op_pow zad zad) (nomark _)) (zae (zaq (pv 0))) zaw) (zag (zas (i:=2) sc_stir.nd rfl (Or.inl rfl) (zap op_mod (zap zbx (zap zbx (zap op_mul (zap op_mod (pv 0) zad) zad) (zap op_mul (pv 1) zad)) zad) zad)) (zag (zas (i:=3) sc_stir.nd rfl (Or.inl rfl) (zap op_mod (zap zbx (zap zbx (zap op_mul (pv 2) (pv 2)) (zap op_mul zad (pv 1))) zad) zad)) (zag (zas (i:=4) sc_stir.nd rfl (Or.inl rfl) (zap op_mod (zap zbx (zap zbx (zap op_mul (pv 3) (pv 3)) (zap op_mul zad (pv 2))) (pv 1)) zad)) (zae (zaq (zap zbx (zap op_mul (pv 3) zad) (pv 4))))))),?_⟩
 refine⟨_,rfl,_,_,rfl,rfl,⟨by decide,by decide,by decide⟩,_,_,rfl,rfl,_,rfl,?_⟩
 refine ite2 (fun c1=> ?_) (fun c1=> ?_)
 ·have c2:(10:Int)^(18:Int).toNat<=c:=of_decide_eq_true c1
  have c3:(0:Int)<=10^(18:Int).toNat:=by decide
  exact⟨_,rfl,q c (by omega)⟩
 ·refine⟨_,rfl,_,_,rfl,rfl,(by show(0:Int)<2147483629;decide),_,_,rfl,rfl,.inr ⟨by decide,by decide⟩,_,rfl,_,_,rfl,rfl,.inr ⟨by decide,by decide⟩,_,_,rfl,rfl,_,_,rfl,rfl,_,_,rfl,rfl,(by show(0:Int)<2147483587;decide),?_⟩
  generalize hfirst:((fun i j=>V.int (i %j)) _ _:V)=vf
  obtain⟨a1,e1,a2,a3⟩:∃a:Int,vf= .int a/\0<=a/\a<2147483587:=⟨_,hfirst.symm,mod_nn _ (by decide),mod_lt _ (by decide)⟩
  rw[e1]
  refine⟨_,rfl,_,rfl,_,_,rfl,rfl,.inl ⟨by omega,by omega⟩,_,rfl,_,_,rfl,rfl,.inl ⟨by decide,by decide⟩,_,_,rfl,rfl,_,_,rfl,rfl,_,_,rfl,rfl,(by show(0:Int)<2147483579;decide),?_⟩
  generalize hsec:((fun i j=>V.int (i %j)) _ _:V)=vs
  obtain⟨b1,f1,b2,b3⟩:∃a:Int,vs= .int a/\0<=a/\a<2147483579:=⟨_,hsec.symm,mod_nn _ (by decide),mod_lt _ (by decide)⟩
  rw[f1]
  refine⟨_,rfl,_,rfl,_,_,rfl,rfl,.inl ⟨by omega,by omega⟩,_,rfl,_,_,rfl,rfl,.inl ⟨by decide,by decide⟩,_,_,rfl,rfl,_,rfl,_,_,rfl,rfl,_,_,rfl,rfl,(by show(0:Int)<2147483563;decide),?_⟩
  generalize hthd:((fun i j=>V.int (i %j)) _ _:V)=vt
  obtain⟨c1',g1,c2,c3⟩:∃a:Int,vt= .int a/\0<=a/\a<2147483563:=⟨_,hthd.symm,mod_nn _ (by decide),mod_lt _ (by decide)⟩
  rw[g1]
  refine⟨_,rfl,_,_,rfl,rfl,.inr ⟨by decide,by decide⟩,_,rfl,_,_,rfl,rfl,q _ ?_⟩
  have:=Int.mul_nonneg b2 (show(0:Int)<=2147483563 by decide)
  omega
end
end Hs
namespace Hs
open PySem L2 HsD
section
variable{P:Program}{w:World}{K:W.Frag}{mg:Str->Option Value}{base:Heap}
theorem at_ints{ns:List Int}{k:Int}(h0:0<=k)(h1:k<(ns.length:Int)):∃v:Int,atI (ns.map V.int) k=some (.int v)/\ns[k.toNat]? =some v:=by
 have hk:k.toNat<ns.length:=by omega
 have ek:((k.toNat:Nat):Int)=k:=by omega
 have q:atI (ns.map V.int) ((k.toNat:Nat):Int)=some (.int ns[k.toNat]):=atI_nat (by rw[List.getElem?_map,List.getElem?_eq_getElem hk];rfl)
 rw[ek]at q
 exact⟨_,q,List.getElem?_eq_getElem hk⟩
noncomputable def spDigit(K:W.Frag):Sp:=fun vs H Q _=>∃(tp scr:Addr) (ns:List Int) (m:Int),vs=[.ref tp,.int m]/\TapeV K H tp scr ns/\0<m/\m<1000000000000000000000000000000/\
 ∀r H',0<=r->r<m->SameX tp H H'->TapeV K H' tp scr ns->Q (.int r) H'
theorem sc_digit:FnScope ["tape","many","at","cell","found"] ["tape","many"] (defScope zbe):=⟨rfl,rfl,rfl,by decide+kernel,rfl,by decide+kernel,by decide+kernel⟩
theorem ok_digit{f f1:Addr}{fd d1:FuncData}(F:Fun K "_law_b_digit" "_law_b_digit" zbe f fd)(D1:Dfn K mg "_law_b_stirred" zbf ["cell","at"] f1 d1)(G1:FnOk P w K mg base CX0 1 f1 d1 ["cell","at"] (spStir K))(mL:mg "len"=none):
  FnOk P w K mg base CX0 2 f fd ["tape","many"] (spDigit K):=by
 refine F.ok sc_digit (fun vs H Q E h=> ?_) (fun cdv A outer s H vs Q E hr h=> ?_)
 ·obtain⟨tp,scr,ns,m,rfl,_⟩:=h
  rfl
 obtain⟨tp,scr,ns,m,rfl,hT,hm0,hm1,q⟩:=h
 refine⟨_,zag (zam (zaj op_lt (zbb zcc (pv 0) zad (fun _ _=>rfl)) (pv 1) (nomark _)) (zag (zas (i:=2) sc_digit.nd rfl (Or.inl rfl) (zbb zcc (pv 0) zad (fun _ _=>rfl))) (zag (zas (i:=3) sc_digit.nd rfl (Or.inl rfl) (zap zbx (zap op_mul zad (pv 2)) zad)) (zag (zam (zaj op_lt (pv 2) (zal zck rfl mL PySem.boot_len (zaa (zbb zcc (pv 0) zad (fun _ _=>rfl)) zab)) (nomark _)) (zae (zas (i:=3) sc_digit.nd rfl (Or.inl rfl) (zbb zcc (zbb zcc (pv 0) zad (fun _ _=>rfl)) (pv 2) (fun _ _=>rfl)))) (zae (zam (zaj (op_neD hr.units) (zbb zcc (pv 0) zad (fun _ _=>rfl)) (zbm zab) (nomark _)) (zae (zas (i:=3) sc_digit.nd rfl (Or.inl rfl) (zap zbx (zap op_mod (zbb zcc (zbb zcc (pv 0) zad (fun _ _=>rfl)) (zap op_mod (zap op_mul (pv 2) zad) (zal zck rfl mL PySem.boot_len (zaa (zbb zcc (pv 0) zad (fun _ _=>rfl)) zab))) (fun _ _=>rfl)) zad) (zap op_mul (pv 2) zad))))
      zaw))) (zag (ps_asg (zap zbx (pv 2) zad) (pg_sub (pv 0) zad set_list)) (zae (ps_asg (zai G1 hr rfl D1.m D1.F.kp D1.b .nil pass0 (zaa (pv 3) (zaa (pv 2) zab))) (pg_sub (pv 0) zad set_list))))))) zaw) (zag (zas (i:=4) sc_digit.nd rfl (Or.inl rfl) (zap op_mod (zbb zcc (pv 0) zad (fun _ _=>rfl)) (pv 1))) (zag (ps_asg (zap op_fdivL (zbb zcc (pv 0) zad (fun _ _=>rfl)) (pv 1)) (pg_sub (pv 0) zad set_list)) (zae (zaq (pv 4))))),?_⟩
 obtain⟨⟨i,r,hH,hi,hr0⟩,hS0,h63⟩:=hT
 have hS:=hS0.sq
 refine⟨_,rfl,tp,_,_,.int r,rfl,rfl,SqL.of hH,rfl,_,rfl,_,_,rfl,rfl,_,rfl,?_⟩
 refine ite2 (fun c=> ?_) (fun c=> ?_)
 ·refine⟨_,rfl,tp,_,_,.int i,rfl,rfl,SqL.of hH,rfl,?_⟩
  refine⟨_,rfl,_,_,rfl,rfl,.inl ⟨by decide,by decide⟩,_,_,rfl,rfl,?_⟩
  refine⟨_,rfl,_,rfl,tp,_,_,.ref scr,rfl,rfl,SqL.of hH,rfl,scr,_,rfl,.inl hS,fun hz=>⟨_,_,rfl,rfl,_,rfl,?_⟩⟩
  have go:∀(H2:Hp) (tl:V),SameX tp H H2->H2 tp=some (.lst [.ref scr,.int i,.int r])->∀r',0<=r'->∀q',q'=r'/m->
    ((0:Int)<=r' %m/\r' %m<m)/\SameX tp H (upd (upd (upd H2 tp (.lst [.ref scr,.int (i+1),.int r])) tp (.lst [.ref scr,.int (i+1),.int r'])) tp (.lst [.ref scr,.int (i+1),.int q']))/\
    TapeV K (upd (upd (upd H2 tp (.lst [.ref scr,.int (i+1),.int r])) tp (.lst [.ref scr,.int (i+1),.int r'])) tp (.lst [.ref scr,.int (i+1),.int q'])) tp scr ns:=fun H2 _ sm e r' h0 q' hq=>by
   have sx:SameX tp H (upd (upd (upd H2 tp (.lst [.ref scr,.int (i+1),.int r])) tp (.lst [.ref scr,.int (i+1),.int r'])) tp (.lst [.ref scr,.int (i+1),.int q'])):=sm.upd.upd.upd
   refine⟨⟨mod_nn _ hm0,mod_lt _ hm0⟩,sx,⟨i+1,q',zac,by omega,?_⟩,hS0.samex sx hH,h63⟩
   rw[hq]
   exact Int.ediv_nonneg h0 (by omega)
  refine ite2 (fun c2=> ?_) (fun c2=> ?_)
  ·have c3:i<((ns.map V.int).length:Int):=of_decide_eq_true c2
   rw[List.length_map]at c3
   obtain⟨v,hx,_⟩:=at_ints hi c3
   refine⟨_,rfl,tp,_,_,.ref scr,rfl,rfl,SqL.of hH,rfl,_,rfl,scr,_,_,_,rfl,rfl,hS,hx,?_⟩
   refine⟨_,rfl,_,_,rfl,rfl,_,rfl,tp,_,_,1,rfl,rfl,hH,rfl,?_⟩
   refine⟨_,rfl,_,rfl,_,_,rfl,fun r' h0=>⟨_,rfl,tp,_,_,2,rfl,rfl,zac,rfl,?_⟩⟩
   obtain⟨⟨g1,g2⟩,g3,g4⟩:=go H (.non) (SameX.refl _ _) hH r' h0 _ rfl
   refine⟨_,rfl,tp,_,_,.int r',rfl,rfl,SqL.of zac,rfl,_,rfl,_,_,rfl,rfl,hm0,?_⟩
   refine⟨_,rfl,tp,_,_,.int r',rfl,rfl,SqL.of zac,rfl,_,rfl,_,_,rfl,rfl,⟨hm0,hm1⟩,_,rfl,tp,_,_,2,rfl,rfl,zac,rfl,?_⟩
   exact⟨_,rfl,q _ _ g1 g2 g3 g4⟩
  ·refine⟨_,rfl,tp,_,_,.ref scr,rfl,rfl,SqL.of hH,rfl,(by show 0<=sizeLine;decide),fun pe hpe=> ?_⟩
   have sm:=zaf hpe (.lst [])
   have hH2:=sm _ _ hH
   have hS2:=sm.seq hS
   refine⟨.list (ns.map PyData.int),.list [],.lst hS2 (DVs.ints ns),.lst (SqL.of zac) .nil,lay_ints ns,rfl,(by show min _ (0+1)<=64;omega),_,rfl,?_⟩
   refine ite2 (fun c4=> ?_) (fun c4=> ?_)
   ·have hpos:0<ns.length:=by
     cases ns with
     |nil=>simp[PyData.eqv,PyData.eqvAll]at c4
     |cons _ _=>simp
    have e3:(0:Int)<((ns.map V.int).length:Int):=by rw[List.length_map];omega
    have hk1:=mod_nn (i*3) e3
    have hk2:=mod_lt (i*3) e3
    rw[List.length_map]at hk1 hk2
    obtain⟨v,hx,_⟩:=at_ints hk1 hk2
    rw[<-List.length_map (f:=V.int)]at hx
    refine⟨_,rfl,tp,_,_,.ref scr,rfl,rfl,SqL.of hH2,rfl,_,rfl,_,_,rfl,rfl,.inr ⟨by decide,by decide⟩,_,rfl,tp,_,_,.ref scr,rfl,rfl,SqL.of hH2,rfl,scr,_,rfl,.inl hS2,fun hz2=>⟨_,_,rfl,rfl,e3,scr,_,_,_,rfl,rfl,hS2,hx,?_⟩⟩
    refine⟨_,_,rfl,rfl,(by show(0:Int)<999999883;decide),_,rfl,_,_,rfl,rfl,.inr ⟨by decide,by decide⟩,_,_,rfl,rfl,?_⟩
    refine⟨_,rfl,_,_,rfl,rfl,_,rfl,tp,_,_,1,rfl,rfl,hH2,rfl,?_⟩
    refine⟨_,rfl,_,rfl,_,_,rfl,fun r' h0=>⟨_,rfl,tp,_,_,2,rfl,rfl,zac,rfl,?_⟩⟩
    obtain⟨⟨g1,g2⟩,g3,g4⟩:=go _ (.non) (sm.x _) hH2 r' h0 _ rfl
    refine⟨_,rfl,tp,_,_,.int r',rfl,rfl,SqL.of zac,rfl,_,rfl,_,_,rfl,rfl,hm0,?_⟩
    refine⟨_,rfl,tp,_,_,.int r',rfl,rfl,SqL.of zac,rfl,_,rfl,_,_,rfl,rfl,⟨hm0,hm1⟩,_,rfl,tp,_,_,2,rfl,rfl,zac,rfl,?_⟩
    exact⟨_,rfl,q _ _ g1 g2 g3 g4⟩
   ·refine⟨_,rfl,_,_,rfl,rfl,_,rfl,tp,_,_,1,rfl,rfl,hH2,rfl,?_⟩
    refine⟨_,rfl,_,rfl,_,_,rfl,fun r' h0=>⟨_,rfl,tp,_,_,2,rfl,rfl,zac,rfl,?_⟩⟩
    obtain⟨⟨g1,g2⟩,g3,g4⟩:=go _ (.non) (sm.x _) hH2 r' h0 _ rfl
    refine⟨_,rfl,tp,_,_,.int r',rfl,rfl,SqL.of zac,rfl,_,rfl,_,_,rfl,rfl,hm0,?_⟩
    refine⟨_,rfl,tp,_,_,.int r',rfl,rfl,SqL.of zac,rfl,_,rfl,_,_,rfl,rfl,⟨hm0,hm1⟩,_,rfl,tp,_,_,2,rfl,rfl,zac,rfl,?_⟩
    exact⟨_,rfl,q _ _ g1 g2 g3 g4⟩
 ·refine⟨_,rfl,tp,_,_,.int r,rfl,rfl,SqL.of hH,rfl,_,rfl,_,_,rfl,rfl,hm0,?_⟩
  refine⟨_,rfl,tp,_,_,.int r,rfl,rfl,SqL.of hH,rfl,_,rfl,_,_,rfl,rfl,⟨hm0,hm1⟩,_,rfl,tp,_,_,2,rfl,rfl,hH,rfl,?_⟩
  have sx:SameX tp H (upd H tp (.lst [.ref scr,.int i,.int (r/m)])):=(SameX.refl _ _).upd
  exact⟨_,rfl,q _ _ (mod_nn _ hm0) (mod_lt _ hm0) sx ⟨⟨i,r/m,zac,hi,Int.ediv_nonneg hr0 (by omega)⟩,hS0.samex sx hH,h63⟩⟩
end
end Hs
namespace L2
open PySem
theorem DVs.append{K:W.Frag}{H:Hp}{xs ys:List V}{ds es:List PyData}(h:DVs K H xs ds)(h':DVs K H ys es):DVs K H (xs++ys) (ds++es):=
 DVs.rec (motive_1:=fun _ _ _=>True) (motive_2:=fun xs ds _=>DVs K H (xs++ys) (ds++es)) trivial (fun _=>trivial) (fun _=>trivial) (fun _=>trivial) (fun _ _ _=>trivial) (fun _ _ _=>trivial) (fun _=>trivial) (fun _ _=>trivial) h' (fun h _ _ t=> .cons h t) h
theorem DVs.snoc{K:W.Frag}{H:Hp}{xs:List V}{ds:List PyData}{x:V}{d:PyData}(h:DVs K H xs ds)(h':DV K H x d):DVs K H (xs++[x]) (ds++[d]):=h.append (.cons h' .nil)
theorem SameX.tup{K:W.Frag}{t:Addr}{H H':Hp}{a:Addr}{xs zs:List V}(e:SameX t H H')(n:H t=some (.lst zs))(h:SqT K H a xs):SqT K H' a xs:=by
 rcases h with(h|⟨o,h⟩)|h
 ·exact .inl (.inl (e _ _ (ne_of h n (by intro z;cases z)) h))
 ·exact .inl (.inr ⟨o,e _ _ (ne_of h n (by intro z;cases z)) h⟩)
 ·exact .inr h
end L2
namespace HsD
open PySem L2
theorem zcs{K:W.Frag}{t:Addr}{H H':Hp}{zs:List V}(e:SameX t H H')(n:H t=some (.lst zs)){rs:List V}{ps:List (Int×Int)}(h:DVs K H rs (ps.map pairD)):DVs K H' rs (ps.map pairD):=by
 induction ps generalizing rs with
 |nil=>cases h;exact .nil
 |cons p ps ih=>
  cases h with
  |cons h tl=>
   refine .cons ?_ (ih tl)
   cases h with
   |tup h hd=>
    cases hd with
    |cons a1 t1=>
     cases a1
     cases t1 with
     |cons a2 t2=>
      cases a2
      cases t2
      exact .tup (e.tup n h) (.cons (.int _) (.cons (.int _) .nil))
theorem WebV.samex{K:W.Frag}{t:Addr}{H H':Hp}{zs:List V}{a:Addr}{n:Int}{ts:List (Int×Int)}(h:WebV K H a n ts)(e:SameX t H H')(hn:H t=some (.lst zs)):WebV K H' a n ts:=by
 obtain⟨u,rs,h1,h2,h3⟩:=h
 exact⟨u,rs,e.tup hn h1,e.tup hn h2,zcs e hn h3⟩
structure Sub(j:Nat)(l:List Int):Prop where
 nd:l.Nodup
 lt:∀i∈l,0<=i/\i<(j:Int)
theorem Sub.nil(j:Nat):Sub j []:=⟨List.nodup_nil,fun i h=>(nomatch h)⟩
theorem Sub.sub{j:Nat}{l l':List Int}(h:Sub j l)(s:l'.Sublist l):Sub j l':=⟨h.nd.sublist s,fun i hi=>h.lt i (s.subset hi)⟩
theorem Sub.mono{j k:Nat}{l:List Int}(h:Sub j l)(e:j<=k):Sub k l:=⟨h.nd,fun i hi=>⟨(h.lt i hi).1,by have:=(h.lt i hi).2;omega⟩⟩
theorem Sub.snoc{j:Nat}{l:List Int}(h:Sub j l):Sub (j+1) (l++[(j:Int)]):=by
 refine⟨List.nodup_append.mpr ⟨h.nd,by simp,fun a ha b hb e=> ?_⟩,fun i hi=> ?_⟩
 ·have:=(h.lt a ha).2
  simp at hb
  omega
 ·rcases List.mem_append.mp hi with q|q
  ·exact⟨(h.lt i q).1,by have:=(h.lt i q).2;omega⟩
  ·simp at q;omega
theorem Sub.range(j:Nat):Sub j ((List.range j).map fun(k:Nat)=>(0+(k:Nat):Int)):=by
 refine⟨?_,fun i hi=> ?_⟩
 ·rw[List.nodup_iff_pairwise_ne,List.pairwise_map]
  exact(List.nodup_iff_pairwise_ne.mp List.nodup_range).imp fun{a b} h e=>h (by omega)
 ·obtain⟨k,hk,rfl⟩:=List.mem_map.mp hi
  have:=List.mem_range.mp hk
  omega
theorem nodup_len{α:Type} [DecidableEq α]:∀{l m:List α},l.Nodup->(∀a∈l,a∈m)->l.length<=m.length
 |[],m,_,_=>Nat.zero_le _
 |a::l,m,nd,h=>by
  have ha:=h a List.mem_cons_self
  have nd':=List.nodup_cons.mp nd
  have q:∀b∈l,b∈m.erase a:=fun b hb=>by
   have hne:b≠a:=fun e=>nd'.1 (e▸hb)
   exact(List.mem_erase_of_ne hne).mpr (h b (List.mem_cons_of_mem _ hb))
  have:=nodup_len nd'.2 q
  have e:=List.length_erase_of_mem ha
  have:0<m.length:=List.length_pos_of_mem ha
  simp only[List.length_cons]
  omega
theorem Sub.len{j:Nat}{l:List Int}(h:Sub j l):l.length<=j:=by
 have q:=nodup_len (m:=(List.range j).map fun(k:Nat)=>(k:Int)) h.nd fun i hi=>by
  have:=h.lt i hi
  exact List.mem_map.mpr ⟨i.toNat,List.mem_range.mpr (by omega),by omega⟩
 simpa using q
structure PairsOk(n:Int)(ps:List (Int×Int)):Prop where
 nd:ps.Nodup
 lt:∀p∈ps,0<=p.1/\p.1<p.2/\p.2<n
theorem PairsOk.nil(n:Int):PairsOk n []:=⟨List.nodup_nil,fun p h=>(nomatch h)⟩
theorem PairsOk.grow{j:Nat}{ps:List (Int×Int)}{l:List Int}(h:PairsOk j ps)(s:Sub j l):PairsOk (j+1:Nat) (ps++l.map fun i=>(i,(j:Int))):=by
 refine⟨List.nodup_append.mpr ⟨h.nd,?_,fun a ha b hb e=> ?_⟩,fun p hp=> ?_⟩
 ·rw[List.nodup_iff_pairwise_ne,List.pairwise_map]
  exact(List.nodup_iff_pairwise_ne.mp s.nd).imp fun{a b} h e=>h (by injection e)
 ·obtain⟨i,hi,rfl⟩:=List.mem_map.mp hb
  subst e
  have:=(h.lt _ ha).2.2
  simp at this
 ·rcases List.mem_append.mp hp with q|q
  ·have:=h.lt p q
   omega
  ·obtain⟨i,hi,rfl⟩:=List.mem_map.mp q
   have:=s.lt i hi
   refine⟨this.1,this.2,?_⟩
   show(j:Int)<((j+1:Nat):Int)
   omega
noncomputable def ringP(k:Nat):List (Int×Int):=(List.range k).map fun(i:Nat)=>((0+(i:Nat):Int),(0+(i:Nat):Int)+1)
theorem ringP_succ(k:Nat):ringP (k+1)=ringP k++[((0+(k:Nat):Int),(0+(k:Nat):Int)+1)]:=by
 unfold ringP
 rw[List.range_succ,List.map_append]
 rfl
theorem ringP_ok{n:Int}(k:Nat)(h:(k:Int)<n\/k=0):PairsOk n (ringP k):=by
 refine⟨?_,fun p hp=> ?_⟩
 ·unfold ringP
  rw[List.nodup_iff_pairwise_ne,List.pairwise_map]
  exact(List.nodup_iff_pairwise_ne.mp List.nodup_range).imp fun{a b} h e=>h (by injection e with e1 _;omega)
 ·obtain⟨i,hi,rfl⟩:=List.mem_map.mp hp
  have:=List.mem_range.mp hi
  refine⟨by omega,by omega,?_⟩
  show 0+(i:Int)+1<n
  omega
theorem ringP_closed{n:Int}{k:Nat}(hk:(k:Int)=n-1)(h2:2<n):PairsOk n (ringP k++[(0,n-1)]):=by
 have o:=ringP_ok (n:=n) k (.inl (by omega))
 refine⟨List.nodup_append.mpr ⟨o.nd,by simp,fun a ha b hb e=> ?_⟩,fun p hp=> ?_⟩
 ·simp at hb
  subst hb
  obtain⟨i,hi,rfl⟩:=List.mem_map.mp ha
  injection e with e1 e2
  omega
 ·rcases List.mem_append.mp hp with q|q
  ·exact o.lt p q
  ·simp at q
   subst q
   refine⟨Int.le_refl _,?_,?_⟩
   ·show(0:Int)<n-1;omega
   ·show n-1<n;omega
noncomputable def allP(n:Nat):List (Int×Int):=((List.range n).map fun(j:Nat)=>(List.range j).map fun(i:Nat)=>((i:Int),(j:Int))).flatten
theorem zcy{n:Int}{ps:List (Int×Int)}(h:PairsOk n ps)(hn:n<=10):ps.length<=45:=by
 have q:=nodup_len (m:=allP 10) h.nd fun p hp=>by
  obtain⟨h0,h1,h2⟩:=h.lt p hp
  obtain⟨a,b⟩:=p
  dsimp only at h0 h1 h2
  refine List.mem_flatten.mpr ⟨(List.range b.toNat).map fun(i:Nat)=>((i:Int),((b.toNat:Nat):Int)),List.mem_map.mpr ⟨b.toNat,List.mem_range.mpr (by omega),rfl⟩,List.mem_map.mpr ⟨a.toNat,List.mem_range.mpr (by omega),?_⟩⟩
  have e1:((a.toNat:Nat):Int)=a:=by omega
  have e2:((b.toNat:Nat):Int)=b:=by omega
  rw[e1,e2]
 have e:(allP 10).length=45:=by decide
 omega
end HsD
namespace Hs
open PySem L2 HsD
section
variable{P:Program}{w:World}{K:W.Frag}{mg:Str->Option Value}{base:Heap}
noncomputable def spPairs(K:W.Frag):Sp:=fun vs H Q _=>∃(tp scr:Addr) (ns:List Int) (n kind:Int),vs=[.ref tp,.int n,.int kind]/\TapeV K H tp scr ns/\0<=n/\n<=10/\0<=kind/\kind<6/\
 ∀r rs ps H',SameX tp H H'->TapeV K H' tp scr ns->r≠tp->H r=none->H' r=some (.lst rs)->DVs K H' rs (ps.map pairD)->PairsOk n ps->Q (.ref r) H'
theorem zcu:FnScope ["tape","n","kind","found","wide","crowds","j","base","some"] ["tape","n","kind"] (defScope zbp):=⟨rfl,rfl,rfl,by decide+kernel,rfl,by decide+kernel,by decide+kernel⟩
structure PB(K:W.Frag)(H0 H:Hp)(tp scr:Addr)(ns:List Int)(fnd crw:Addr)(j L:Nat)(jc:Nat):Prop where
 sx:SameX tp H0 H
 tv:TapeV K H tp scr ns
 ft:fnd≠tp
 ct:crw≠tp
 fc:fnd≠crw
 f0:H0 fnd=none
 c0:H0 crw=none
 fd:∃rs ps,H fnd=some (.lst rs)/\DVs K H rs (ps.map pairD)/\PairsOk (j:Int) ps
 cr:∃cs,H crw=some (.lst cs)/\cs.length=L/\∀x∈cs,∃a l,x= .ref a/\a≠tp/\a≠crw/\H a=some (.lst (l.map V.int))/\Sub jc l
theorem TapeV.lst{H:Hp}{tp scr:Addr}{ns:List Int}(h:TapeV K H tp scr ns):∃zs,H tp=some (.lst zs):=by
 obtain⟨⟨i,r,h1,_⟩,_⟩:=h
 exact⟨_,h1⟩
theorem PB.step{H0 H H':Hp}{tp scr:Addr}{ns:List Int}{fnd crw:Addr}{j L jc:Nat}(p:PB K H0 H tp scr ns fnd crw j L jc)(sx:SameX tp H H')(tv:TapeV K H' tp scr ns):PB K H0 H' tp scr ns fnd crw j L jc:=by
 obtain⟨zs,hz⟩:=TapeV.lst p.tv
 obtain⟨rs,ps,e1,e2,e3⟩:=p.fd
 obtain⟨cs,c1,c2,c3⟩:=p.cr
 refine⟨p.sx.trans sx,tv,p.ft,p.ct,p.fc,p.f0,p.c0,⟨rs,ps,sx _ _ p.ft e1,zcs sx hz e2,e3⟩,⟨cs,sx _ _ p.ct c1,c2,fun x hx=> ?_⟩⟩
 obtain⟨a,l,f1,f2,f3,f4,f5⟩:=c3 x hx
 exact⟨a,l,f1,f2,f3,sx _ _ f2 f4,f5⟩
theorem PB.same{H0 H H':Hp}{tp scr:Addr}{ns:List Int}{fnd crw:Addr}{j L jc:Nat}(p:PB K H0 H tp scr ns fnd crw j L jc)(s:Same H H'):PB K H0 H' tp scr ns fnd crw j L jc:=p.step (s.x _) (p.tv.same s)
theorem zbk{H:Hp}{a b:Addr}{o:HO}(h:H a=some o)(n:H b=none):b≠a:=fun e=>by rw[e,h]at n;cases n
noncomputable def sg(tp:Addr)(n kind:Int)(fnd:Addr)(wide:Int)(crw:Addr)(a b c:Option V):St:=[some (.ref tp),some (.int n),some (.int kind),some (.ref fnd),some (.int wide),some (.ref crw),a,b,c]
noncomputable def JP(K:W.Frag)(H0:Hp)(tp scr:Addr)(ns:List Int)(n kind wide:Int)(j:Nat)(σ:St)(H:Hp):Prop:=
 ∃fnd crw a b c,σ=sg tp n kind fnd wide crw a b c/\PB K H0 H tp scr ns fnd crw j (j+1) j
noncomputable def rTail(K:W.Frag):TS:=tAsg (tOp rCat (tVar 3) (tComp (iListL K (tVar 8)) ["i"] [6] (gName 0) (fun _ H Q=>Q true H) (tTup (tCons (tVar 0) (tCons (tVar 1) tNil))))) (gName 3)
theorem rd_tail{H0 H:Hp}{tp scr:Addr}{ns:List Int}{n kind wide:Int}{fnd crw sm:Addr}{j:Nat}{b:Option V}{l:List Int}{D:Ends}(hj:j<10)(p:PB K H0 H tp scr ns fnd crw j (j+2) (j+1))(hs:H sm=some (.lst (l.map V.int)))(hst:sm≠tp)(hl:Sub j l)(q:∀σ' H',JP K H0 tp scr ns n kind wide (j+1) σ' H'->D.nx σ' H'):rTail K D (sg tp n kind fnd wide crw (some (.int (j:Int))) b (some (.ref sm))) H:=by
 have hll:=hl.len
 refine⟨_,rfl,_,rfl,sm,_,rfl,SqL.of hs,fun hz=> ?_⟩
 refine zcj (xs:=l.map V.int) (fun i acc σ H'=>DVs K H' acc (((l.take i).map fun i=>(i,(j:Int))).map pairD)/\Same H H'/\acc.length=i/\∃o,σ=[o,some (.int (j:Int))]) ⟨.nil,Same.refl _,rfl,_,rfl⟩ (fun i acc σ H' _ p=>p.2.1.seq (SqL.of hs)) (fun i acc σ H' hi p=>by rw[p.2.2.1];exact Nat.le_refl _) hz (fun i x acc σ H' hx p'=> ?_) (fun acc σ H' p'=> ?_)
 ·obtain⟨dv,s',hlen,o,rfl⟩:=p'
  rw[List.getElem?_map]at hx
  cases e:l[i]? with
  |none=>rw[e]at hx;cases hx
  |some v=>
   rw[e]at hx
   cases hx
   refine⟨_,rfl,_,rfl,(by show 2<=sizeLine;decide),fun pn hpn=> ?_⟩
   have sn:=zaf hpn (.tup [.int v,.int (j:Int)])
   refine⟨?_,s'.trans sn,by simp[hlen],_,rfl⟩
   have ea:((l.take (i+1)).map fun i=>(i,(j:Int))).map pairD=((l.take i).map fun i=>(i,(j:Int))).map pairD++[pairD (v,(j:Int))]:=by
    rw[List.take_add_one,e];simp
   rw[ea]
   exact(DVs.same sn dv).snoc (.tup (SqT.of zac) (.cons (.int _) (.cons (.int _) .nil)))
 ·intro p1 hp1
  obtain⟨dv,s',hlen,_⟩:=p'
  rw[List.length_map,List.take_length]at dv
  rw[List.length_map]at hlen
  have s1:=zaf hp1 (.lst acc)
  have p2:=(p.same s').same s1
  obtain⟨rs,ps,e1,e2,e3⟩:=p2.fd
  have hrl:rs.length<=45:=by
   have:=zcy e3 (by omega)
   have e4:=e2.len
   rw[List.length_map]at e4
   omega
  refine⟨fnd,p1,rs,acc,rfl,rfl,e1,zac,(by rw[sizeLine_eq];omega),fun pr hpr=>q _ _ ?_⟩
  have s2:=zaf hpr (.lst (rs++acc))
  have p3:=p2.same s2
  refine⟨pr,crw,_,_,_,rfl,?_⟩
  obtain⟨zs,hz'⟩:=TapeV.lst p2.tv
  obtain⟨cs,c1,c2,c3⟩:=p3.cr
  refine⟨p3.sx,p3.tv,zbk hz' hpr,p3.ct,?_,?_,p3.c0,⟨rs++acc,ps++l.map fun i=>(i,(j:Int)),zac,?_,e3.grow hl⟩,⟨cs,c1,c2,c3⟩⟩
  ·obtain⟨cs',c1',_⟩:=p2.cr
   exact zbk c1' hpr
  ·cases e:H0 pr with
   |none=>rfl
   |some o=>
    have:=p2.sx pr o (zbk hz' hpr) e
    rw[this]at hpr;cases hpr
  ·rw[List.map_append]
   exact(DVs.same s2 e2).append (DVs.same s2 (DVs.same s1 dv))
noncomputable def rIf5(K:W.Frag):TS:=tIfS (tTest (tOp rEq (tVar 2) (tC (.int 5)))) (tAsg (tComp (iRng1 (tCons (tVar 6) tNil)) ["i"] [6,4] (gName 0) (tTest (tOp (rI0 fun i j=> .bl (decide (i<=j))) (tOp (rI0 fun i j=> .int (i-j)) (tVar 1) (tVar 0)) (tVar 2))) (tVar 0)) (gName 8)) tNext
theorem rd_if5{H0 H:Hp}{tp scr:Addr}{ns:List Int}{n kind wide:Int}{fnd crw sm:Addr}{j:Nat}{b:Option V}{l:List Int}{D:Ends}(hj:j<10)(p:PB K H0 H tp scr ns fnd crw j (j+2) (j+1))(hs:H sm=some (.lst (l.map V.int)))(hst:sm≠tp)(hl:Sub j l)(q:∀σ' H',JP K H0 tp scr ns n kind wide (j+1) σ' H'->D.nx σ' H'):tSeq (rIf5 K) (rTail K) D (sg tp n kind fnd wide crw (some (.int (j:Int))) b (some (.ref sm))) H:=by
 refine⟨_,rfl,rfl,_,rfl,?_⟩
 refine ite2 (fun c=> ?_) (fun c=> ?_)
 ·refine⟨_,rfl,_,rfl,by omega,by omega,?_⟩
  have en:((j:Int)).toNat=j:=by omega
  rw[en]
  refine zct (fun i acc σ H'=>(∃l',acc=l'.map V.int/\l'.Sublist ((List.range i).map fun(k:Nat)=>(0+(k:Nat):Int)))/\Same H H'/\∃o,σ=[o,some (.int (j:Int)),some (.int wide)]) ⟨⟨[],rfl,List.Sublist.refl _⟩,Same.refl _,_,rfl⟩ (fun i acc σ H' hi p'=> ?_) (by rw[sizeLine_eq];omega) (fun i acc σ H' hi p'=> ?_) (fun acc σ H' p'=> ?_)
  ·obtain⟨⟨l',e,sl⟩,_⟩:=p'
   rw[e,List.length_map]
   have:=sl.length_le
   simpa using this
  ·obtain⟨⟨l',rfl,sl⟩,s',o,rfl⟩:=p'
   refine⟨_,rfl,_,rfl,_,_,rfl,rfl,_,rfl,_,_,rfl,rfl,_,rfl,?_⟩
   have er:(List.range (i+1)).map (fun(k:Nat)=>(0+(k:Nat):Int))=(List.range i).map (fun(k:Nat)=>(0+(k:Nat):Int))++[0+(i:Int)]:=by rw[List.range_succ,List.map_append];rfl
   refine ite2 (fun c2=> ?_) (fun c2=> ?_)
   ·refine⟨_,rfl,⟨l'++[0+(i:Int)],by rw[List.map_append];rfl,?_⟩,s',_,rfl⟩
    rw[er];exact sl.append (List.Sublist.refl _)
   ·refine⟨⟨l',rfl,?_⟩,s',_,rfl⟩
    rw[er];exact sl.trans (List.sublist_append_left _ _)
  ·intro p1 hp1
   obtain⟨⟨l',rfl,sl⟩,s',_⟩:=p'
   have p2:=(p.same s').same (zaf hp1 (.lst (l'.map V.int)))
   obtain⟨zs,hz'⟩:=TapeV.lst (p.same s').tv
   exact rd_tail (kind:=kind) hj p2 zac (zbk hz' hp1) ((Sub.range j).sub sl) q
 ·exact rd_tail hj p hs hst hl q
noncomputable def rIf3(K:W.Frag):TS:=tIfS (tTest (tOp (rI0 fun i j=> .bl (decide (i<j))) (tVar 2) (tC (.int 3))))
 (tAsg (tComp (iRng1 (tCons (tVar 6) tNil)) ["i"] [2,0] (gName 0) (tTest (tOp (rI0 fun i j=> .bl (decide (i<j))) (tCall (spDigit K) [] E0 (tCons (tVar 2) (tCons (tC (.int 4)) tNil))) (tOp (rI0 fun i j=> .int (i+j)) (tVar 1) (tC (.int 1))))) (tVar 0)) (gName 8)) tNext
theorem rd_if3{H0 H:Hp}{tp scr:Addr}{ns:List Int}{n kind wide:Int}{fnd crw sm:Addr}{j:Nat}{b:Option V}{l:List Int}{D:Ends}(hj:j<10)(p:PB K H0 H tp scr ns fnd crw j (j+2) (j+1))(hs:H sm=some (.lst (l.map V.int)))(hst:sm≠tp)(hl:Sub j l)(q:∀σ' H',JP K H0 tp scr ns n kind wide (j+1) σ' H'->D.nx σ' H'):tSeq (rIf3 K) (tSeq (rIf5 K) (rTail K)) D (sg tp n kind fnd wide crw (some (.int (j:Int))) b (some (.ref sm))) H:=by
 refine⟨_,rfl,_,_,rfl,rfl,_,rfl,?_⟩
 refine ite2 (fun c=> ?_) (fun c=> ?_)
 ·refine⟨_,rfl,_,rfl,by omega,by omega,?_⟩
  have en:((j:Int)).toNat=j:=by omega
  rw[en]
  refine zct (fun i acc σ H'=>(∃l',acc=l'.map V.int/\l'.Sublist ((List.range i).map fun(k:Nat)=>(0+(k:Nat):Int)))/\SameX tp H H'/\TapeV K H' tp scr ns/\∃o,σ=[o,some (.int kind),some (.ref tp)]) ⟨⟨[],rfl,List.Sublist.refl _⟩,SameX.refl _ _,p.tv,_,rfl⟩ (fun i acc σ H' hi p'=> ?_) (by rw[sizeLine_eq];omega) (fun i acc σ H' hi p'=> ?_) (fun acc σ H' p'=> ?_)
  ·obtain⟨⟨l',e,sl⟩,_⟩:=p'
   rw[e,List.length_map]
   have:=sl.length_le
   simpa using this
  ·obtain⟨⟨l',rfl,sl⟩,s',tv',o,rfl⟩:=p'
   refine⟨_,rfl,tp,scr,ns,4,rfl,tv',by decide,by decide,fun r H2 hr0 hr1 s2 tv2=>⟨_,rfl,_,_,rfl,rfl,_,_,rfl,rfl,_,rfl,?_⟩⟩
   have er:(List.range (i+1)).map (fun(k:Nat)=>(0+(k:Nat):Int))=(List.range i).map (fun(k:Nat)=>(0+(k:Nat):Int))++[0+(i:Int)]:=by rw[List.range_succ,List.map_append];rfl
   refine ite2 (fun c2=> ?_) (fun c2=> ?_)
   ·refine⟨_,rfl,⟨l'++[0+(i:Int)],by rw[List.map_append];rfl,?_⟩,s'.trans s2,tv2,_,rfl⟩
    rw[er];exact sl.append (List.Sublist.refl _)
   ·refine⟨⟨l',rfl,?_⟩,s'.trans s2,tv2,_,rfl⟩
    rw[er];exact sl.trans (List.sublist_append_left _ _)
  ·intro p1 hp1
   obtain⟨⟨l',rfl,sl⟩,s',tv',_⟩:=p'
   have p2:=(p.step s' tv').same (zaf hp1 (.lst (l'.map V.int)))
   obtain⟨zs,hz'⟩:=TapeV.lst tv'
   exact rd_if5 (kind:=kind) hj p2 zac (zbk hz' hp1) ((Sub.range j).sub sl) q
 ·exact rd_if5 hj p hs hst hl q
end
end Hs
namespace Hs
open PySem L2 HsD
section
variable{P:Program}{w:World}{K:W.Frag}{mg:Str->Option Value}{base:Heap}
theorem PB.push{H0 H:Hp}{tp scr:Addr}{ns:List Int}{fnd crw pn:Addr}{j L jc jd:Nat}{cs:List V}{l':List Int}(p:PB K H0 H tp scr ns fnd crw j L jc)(m1:H crw=some (.lst cs))(hpn:H pn=some (.lst (l'.map V.int)))(npt:pn≠tp)(npc:pn≠crw)(hs:Sub jd l')(le:jc<=jd)(hL:0<L):PB K H0 (upd H crw (.lst (cs++[.ref pn]))) tp scr ns fnd crw j (L+1) jd:=by
 have xw:SameX crw H (upd H crw (.lst (cs++[.ref pn]))):=(SameX.refl _ _).upd
 obtain⟨rs,ps,f1,f2,f3⟩:=p.fd
 obtain⟨cs',c1,c2,c3⟩:=p.cr
 have ecs:cs'=cs:=by
  rw[m1]at c1
  injection c1 with c1
  injection c1 with c1
  exact c1.symm
 subst ecs
 refine⟨fun b o hb e=> ?_,p.tv.other xw m1 p.ct.symm,p.ft,p.ct,p.fc,p.f0,p.c0,⟨rs,ps,xw _ _ p.fc f1,zcs xw m1 f2,f3⟩,⟨cs'++[.ref pn],zac,by simp[c2],fun x hx=> ?_⟩⟩
 ·have nb:b≠crw:=fun z=>by rw[z,p.c0]at e;cases e
  exact xw _ _ nb (p.sx b o hb e)
 ·rcases List.mem_append.mp hx with hx|hx
  ·obtain⟨a,l,f1,f2,f3,f4,f5⟩:=c3 x hx
   exact⟨a,l,f1,f2,f3,xw _ _ f3 f4,f5.mono le⟩
  ·have ex:x= .ref pn:=by simpa using hx
   exact⟨pn,l',ex,npt,npc,xw _ _ npc hpn,hs⟩
theorem ok_pairs{f f1:Addr}{fd d1:FuncData}(F:Fun K "_law_b_pairs" "_law_b_pairs" zbp f fd)(D1:Dfn K mg "_law_b_digit" zbe ["tape","many"] f1 d1)(G1:FnOk P w K mg base CX0 2 f1 d1 ["tape","many"] (spDigit K))(mR:mg "range"=none)(mI:mg "int"=none)(mL:mg "len"=none):FnOk P w K mg base CX0 3 f fd ["tape","n","kind"] (spPairs K):=by
 refine F.ok zcu (fun vs H Q E h=> ?_) (fun cdv A outer s H vs Q E hr h=> ?_)
 ·obtain⟨tp,scr,ns,n,kind,rfl,_⟩:=h
  rfl
 obtain⟨tp,scr,ns,n,kind,rfl,hT,hn0,hn1,hk0,hk1,q⟩:=h
 refine⟨_,zag (zam (zaj zau (pv 2) zad (nomark _)) (zae (zaq (zap op_cat
    (zch (own:=["k"]) (caps:=[]) (ix:=[]) rfl (zbv rfl mR (zaa (zap op_sub (pv 1) zad) zab)) rfl rfl .nil (fun _ _ _ _ _=>zan (i:=0) (show(["k"]:List Str).Nodup from by decide+kernel) rfl (Or.inl rfl)) (fun _ _ _ _ _=>zdc) (fun _ _ _ _ _=>zax (zaa (pv 0) (zaa (zap zbx (pv 0) zad) zab))))
    (zap op_rep (zbm (zaa (zax (zaa zad (zaa (zap op_sub (pv 1) zad) zab))) zab)) (zci call_int1 rfl mI (by decide+kernel) (zaa (pe_cmpR op_gt (pv 1) zad (nomark _)) zab)))))) zaw) (zag (zas (i:=3) zcu.nd rfl (Or.inl rfl) (zbm zab)) (zag (zas (i:=4) zcu.nd rfl (Or.inr rfl) (zai G1 hr rfl D1.m D1.F.kp D1.b .nil pass0 (zaa (pv 0) (zaa zad zab)))) (zag (zas (i:=5) zcu.nd rfl (Or.inl rfl) (zbm (zaa (zbm zab) zab))) (zag (zdj PassesOwn.never rfl (zbv rfl mR (zaa (pv 1) zab)) (zan (i:=6) zcu.nd rfl (Or.inr rfl)) (zag (zas (i:=7) zcu.nd rfl (Or.inl rfl) (zbb zcc (pv 5) (zai G1 hr rfl D1.m D1.F.kp D1.b .nil pass0 (zaa (pv 0) (zaa (zal zck rfl mL PySem.boot_len (zaa (pv 5) zab)) zab))) (fun _ _=>rfl))) (zag (ps_setComp (i:=8) (own:=["i"]) (caps:=["tape"]) (ix:=[0]) zcu.nd rfl (Or.inl rfl) rfl (zbr (pv 7)) rfl rfl (.cons rfl rfl .nil) (fun _ _ _ _ _=>zan (i:=0) (show(["i","tape"]:List Str).Nodup from by decide+kernel) rfl (Or.inl rfl)) (fun _ _ _ _ _=>zdl (zaj op_gt (zai G1 hr rfl D1.m D1.F.kp D1.b .nil pass0 (zaa (pv 1) (zaa zad zab))) zad (nomark _))) (fun _ _ _ _ _=>pv 0)) (zag (zak (pe_bm PySem.F.plainAttrs_list PySem.F.slot_list_append PySem.F.type_list_append mt_append (pv 5) (zaa (zap op_cat (pv 8) (zbm (zaa (pv 6) zab))) zab))) (zag (zam (zaj op_lt (pv 2) zad (nomark _)) (zae (ps_setComp (i:=8) (own:=["i"]) (caps:=["kind","tape"]) (ix:=[2,0]) zcu.nd rfl (Or.inl rfl) rfl (zbv rfl mR (zaa (pv 6) zab)) rfl rfl (.cons rfl rfl (.cons rfl rfl .nil)) (fun _ _ _ _ _=>zan (i:=0) (show(["i","kind","tape"]:List Str).Nodup from by decide+kernel) rfl (Or.inl rfl)) (fun _ _ _ _ _=>zdl (zaj op_lt (zai G1 hr rfl D1.m D1.F.kp D1.b .nil pass0 (zaa (pv 2) (zaa zad zab))) (zap zbx (pv 1) zad) (nomark _))) (fun _ _ _ _ _=>pv 0))) zaw) (zag (zam (zaj zau (pv 2) zad (nomark _)) (zae (ps_setComp (i:=8) (own:=["i"]) (caps:=["j","wide"]) (ix:=[6,4]) zcu.nd rfl (Or.inl rfl) rfl (zbv rfl mR (zaa (pv 6) zab)) rfl rfl (.cons rfl rfl (.cons rfl rfl .nil)) (fun _ _ _ _ _=>zan (i:=0) (show(["i","j","wide"]:List Str).Nodup from by decide+kernel) rfl (Or.inl rfl)) (fun _ _ _ _ _=>zdl (zaj op_le (zap op_sub (pv 1) (pv 0)) (pv 2) (nomark _))) (fun _ _ _ _ _=>pv 0))) zaw) (zae (zas (i:=3) zcu.nd rfl (Or.inl rfl) (zap op_cat (pv 3) (zch (own:=["i"]) (caps:=["j"]) (ix:=[6]) rfl (zbr (pv 8)) rfl rfl (.cons rfl rfl .nil) (fun _ _ _ _ _=>zan (i:=0) (show(["i","j"]:List Str).Nodup from by decide+kernel) rfl (Or.inl rfl)) (fun _ _ _ _ _=>zdc) (fun _ _ _ _ _=>zax (zaa (pv 0) (zaa (pv 1) zab))))))))))))) (zae (zaq (pv 3))))))),?_⟩
 obtain⟨z0,hz0⟩:=TapeV.lst hT
 refine⟨_,rfl,rfl,_,rfl,?_⟩
 refine ite2 (fun c=> ?_) (fun c=> ?_)
 ·refine⟨_,rfl,_,_,rfl,rfl,_,rfl,by omega,by omega,?_⟩
  refine zct (fun i acc σ H'=>DVs K H' acc ((ringP i).map pairD)/\Same H H'/\acc.length=i/\∃o,σ=[o]) ⟨.nil,Same.refl _,rfl,_,rfl⟩ (fun i acc σ H' hi p'=>by rw[p'.2.2.1];exact Nat.le_refl _) (by rw[sizeLine_eq];omega) (fun i acc σ H' hi p'=> ?_) (fun acc σ H' p'=> ?_)
  ·obtain⟨dv,s',hlen,o,rfl⟩:=p'
   refine⟨_,rfl,_,rfl,_,_,rfl,rfl,(by show 2<=sizeLine;decide),fun pn hpn=> ?_⟩
   have sn:=zaf hpn (.tup [.int (0+(i:Int)),.int (0+(i:Int)+1)])
   refine⟨?_,s'.trans sn,by simp[hlen],_,rfl⟩
   rw[ringP_succ,List.map_append]
   exact(DVs.same sn dv).snoc (.tup (SqT.of zac) (.cons (.int _) (.cons (.int _) .nil)))
  ·intro p1 hp1
   obtain⟨dv,s',hlen,_⟩:=p'
   have s1:=zaf hp1 (.lst acc)
   refine⟨_,rfl,_,_,rfl,rfl,(by show 2<=sizeLine;decide),fun p2 hp2=>⟨(by show 1<=sizeLine;decide),fun p3 hp3=>⟨_,rfl,_,_,rfl,rfl,.inr ⟨_,rfl,?_⟩⟩⟩⟩
   have s2:=zaf hp2 (.tup [.int 0,.int (n-1)])
   have s3:=zaf hp3 (.lst [.ref p2])
   refine⟨p3,_,_,rfl,rfl,zac,?_,?_,?_,fun p4 hp4=> ?_⟩
   ·split<;>decide
   ·split<;>decide
   ·rw[sizeLine_eq];split<;>simp
   ·generalize hrep:(List.replicate ((if decide (2<n)=true then(1:Int)else 0)).toNat [V.ref p2]).flatten=rep at *
    have s4:=zaf hp4 (.lst rep)
    have hrl:rep.length<=1:=by rw[<-hrep];split<;>simp
    refine⟨p1,p4,acc,rep,rfl,rfl,s4 _ _ (s3 _ _ (s2 _ _ zac)),zac,?_,fun p5 hp5=> ?_⟩
    ·rw[hlen,sizeLine_eq];omega
    ·have s5:=zaf hp5 (.lst (acc++rep))
     have sall:=s'.trans (s1.trans (s2.trans (s3.trans (s4.trans s5))))
     have dv5:=DVs.same (s1.trans (s2.trans (s3.trans (s4.trans s5)))) dv
     have h5:H p5=none:=Same.free (s'.trans (s1.trans (s2.trans (s3.trans s4)))) hp5
     by_cases h2:2<n
     ·have er:rep=[.ref p2]:=by rw[<-hrep,decide_eq_true h2];rfl
      refine q p5 _ (ringP (n-1).toNat++[(0,n-1)]) _ (sall.x _) (hT.same sall) (zbk hz0 h5) h5 zac ?_ (ringP_closed (by omega) h2)
      subst er
      rw[List.map_append]
      exact dv5.append (.cons (.tup (SqT.of ((s3.trans (s4.trans s5)) _ _ zac)) (.cons (.int _) (.cons (.int _) .nil))) .nil)
     ·have er:rep=[]:=by rw[<-hrep,decide_eq_false h2];rfl
      refine q p5 _ (ringP (n-1).toNat++[]) _ (sall.x _) (hT.same sall) (zbk hz0 h5) h5 zac ?_ (by rw[List.append_nil];exact ringP_ok _ (by omega))
      subst er
      rw[List.map_append]
      exact dv5.append .nil
 ·refine⟨(by show 0<=sizeLine;decide),fun fnd hf=> ?_⟩
  have s1:=zaf hf (.lst [])
  have hT1:=hT.same s1
  obtain⟨z1,hz1⟩:=TapeV.lst hT1
  refine⟨_,rfl,tp,scr,ns,4,rfl,hT1,by decide,by decide,fun wide H2 hw0 hw1 sx2 tv2=> ?_⟩
  refine⟨(by show 0<=sizeLine;decide),fun ep hep=>⟨(by show 1<=sizeLine;decide),fun crw hcr=> ?_⟩⟩
  have s3:=zaf hep (.lst [])
  have s4:=zaf hcr (.lst [.ref ep])
  obtain⟨z2,hz2⟩:=TapeV.lst tv2
  have nft:fnd≠tp:=zbk hz0 hf
  have hfn2:H2 fnd=some (.lst []):=sx2 _ _ nft zac
  have net:ep≠tp:=zbk hz2 hep
  have nct:crw≠tp:=zbk (s3 _ _ hz2) hcr
  have nef:ep≠fnd:=zbk hfn2 hep
  have ncf:crw≠fnd:=zbk (s3 _ _ hfn2) hcr
  have nce:crw≠ep:=zbk zac hcr
  have x4:SameX tp H (upd (upd H2 ep (.lst [])) crw (.lst [.ref ep])):=((s1.x _).trans sx2).trans ((s3.trans s4).x _)
  have free:∀b,b≠tp->(upd H2 ep (.lst [])) b=none->H b=none:=fun b hb e=>by
   cases e':H b with
   |none=>rfl
   |some o=>
    have:=((s1.x tp).trans (sx2.trans (s3.x tp))) b o hb e'
    rw[this]at e;cases e
  refine⟨_,rfl,n,rfl,by omega,by omega,?_⟩
  refine zcz (n:=n.toNat) (fun j σ H'=>JP K H tp scr ns n kind wide j σ H') ⟨fnd,crw,_,_,_,rfl,?_⟩ (fun j σ H' hj p=> ?_) (fun σ H' p=> ?_)
  ·refine⟨x4,(tv2.same s3).same s4,nft,nct,fun e=>ncf e.symm,hf,free crw nct hcr,⟨[],[],s4 _ _ (s3 _ _ hfn2),.nil,PairsOk.nil _⟩,⟨[.ref ep],zac,rfl,fun x hx=> ?_⟩⟩
   have ex:x= .ref ep:=by simpa using hx
   exact⟨ep,[],ex,net,fun e=>nce e.symm,s4 _ _ zac,Sub.nil _⟩
  ·obtain⟨fnd,crw,a,b,c',rfl,p⟩:=p
   obtain⟨cs,c1,c2,c3⟩:=p.cr
   have ez:(0:Int)+(j:Int)=(j:Int):=by omega
   rw[ez]
   refine⟨_,rfl,_,rfl,_,rfl,crw,cs,rfl,.inl (SqL.of c1),fun hz=>⟨tp,scr,ns,_,rfl,p.tv,by omega,by omega,fun r H2 hr0 hr1 sx2 tv2=> ?_⟩⟩
   have p2:=p.step sx2 tv2
   obtain⟨cs2,k1,k2,k3⟩:=p2.cr
   have ecs:cs2=cs:=by
    have:=sx2 _ _ p.ct c1
    rw[k1]at this
    injection this with this
    injection this
   subst ecs
   have hrn:r.toNat<cs2.length:=by omega
   have er:((r.toNat:Nat):Int)=r:=by omega
   obtain⟨ba,l,e1,e2,e3,e4,e5⟩:=k3 cs2[r.toNat] (List.getElem_mem _)
   have hat:atI cs2 r=some (.ref ba):=by
    have:=atI_nat (xs:=cs2) (j:=r.toNat) (v:= .ref ba) (by rw[List.getElem?_eq_getElem hrn,e1])
    rw[er]at this;exact this
   refine⟨crw,cs2,_,_,rfl,rfl,SqL.of k1,hat,?_⟩
   refine⟨_,rfl,ba,_,rfl,SqL.of e4,fun hz2=> ?_⟩
   refine zcj (xs:=l.map V.int) (fun i acc σ H'=>(∃l',acc=l'.map V.int/\l'.Sublist (l.take i))/\SameX tp H2 H'/\TapeV K H' tp scr ns/\∃o,σ=[o,some (.ref tp)]) ⟨⟨[],rfl,List.Sublist.refl _⟩,SameX.refl _ _,tv2,_,rfl⟩ (fun i acc σ H' _ p'=>p'.2.1.sq e2 (SqL.of e4)) (fun i acc σ H' hi p'=> ?_) hz2 (fun i x acc σ H' hx p'=> ?_) (fun acc σ H' p'=> ?_)
   ·obtain⟨⟨l',e,sl⟩,_⟩:=p'
    rw[e,List.length_map]
    have:=sl.length_le
    rw[List.length_take]at this
    omega
   ·obtain⟨⟨l',rfl,sl⟩,s',tv',o,rfl⟩:=p'
    rw[List.getElem?_map]at hx
    cases e:l[i]? with
    |none=>rw[e]at hx;cases hx
    |some v=>
     rw[e]at hx
     cases hx
     refine⟨_,rfl,tp,scr,ns,3,rfl,tv',by decide,by decide,fun r H2 hr0 hr1 s2 tv2=>⟨_,_,rfl,rfl,_,rfl,?_⟩⟩
     have er:l.take (i+1)=l.take i++[v]:=by rw[List.take_add_one,e];rfl
     refine ite2 (fun c2=> ?_) (fun c2=> ?_)
     ·refine⟨_,rfl,⟨l'++[v],by rw[List.map_append];rfl,?_⟩,s'.trans s2,tv2,_,rfl⟩
      rw[er];exact sl.append (List.Sublist.refl _)
     ·refine⟨⟨l',rfl,?_⟩,s'.trans s2,tv2,_,rfl⟩
      rw[er];exact sl.trans (List.sublist_append_left _ _)
   ·intro sm hsm
    obtain⟨⟨l',rfl,sl⟩,s',tv',_⟩:=p'
    rw[List.length_map,List.take_length]at sl
    have hsub:=e5.sub sl
    have hsl:=hsub.len
    have p3:=p2.step s' tv'
    have sn:=zaf hsm (.lst (l'.map V.int))
    have p4:=p3.same sn
    obtain⟨z3,hz3⟩:=TapeV.lst tv'
    have nst:sm≠tp:=zbk hz3 hsm
    obtain⟨cs3,k1',k2',k3'⟩:=p4.cr
    obtain⟨cs3',k1'',_⟩:=p3.cr
    have nsc:sm≠crw:=zbk k1'' hsm
    refine⟨_,rfl,.inl ⟨rfl,_,SqL.of k1'⟩,_,rfl,_,rfl,(by show 1<=sizeLine;decide),fun pj hpj=> ?_⟩
    have s5:=zaf hpj (.lst [.int (j:Int)])
    refine⟨sm,pj,_,_,rfl,rfl,s5 _ _ zac,zac,(by rw[List.length_map,sizeLine_eq,List.length_singleton];omega),fun pn hpn=> ?_⟩
    have s6:=zaf hpn (.lst (l'.map V.int++[.int (j:Int)]))
    have p5:=(p4.same s5).same s6
    obtain⟨cs4,m1,m2,m3⟩:=p5.cr
    refine⟨crw,cs4,_,rfl,rfl,m1,(by rw[m2,sizeLine_eq];omega),?_⟩
    have npt:pn≠tp:=zbk (s5 _ _ (sn _ _ hz3)) hpn
    obtain⟨cs5,n1,_⟩:=(p4.same s5).cr
    have npc:pn≠crw:=zbk n1 hpn
    refine rd_if3 (kind:=kind) (n:=n) (wide:=wide) (fnd:=fnd) (crw:=crw) (sm:=sm) (l:=l') (by omega) ?_ ?_ nst hsub (fun σ' H' h=>h)
    ·refine p5.push (l':=l'++[(j:Int)]) m1 (by rw[zac,List.map_append];rfl) npt npc hsub.snoc (by omega) (by omega)
    ·rw[zbd nsc,zbd,zbd,zac]
     ·exact(zbk zac hpj).symm
     ·exact(zbk (s5 _ _ zac) hpn).symm
  ·obtain⟨fnd,crw,a,b,c',rfl,p⟩:=p
   obtain⟨rs,ps,e1,e2,e3⟩:=p.fd
   have en:((n.toNat:Nat):Int)=n:=by omega
   rw[en]at e3
   exact⟨_,rfl,q fnd rs ps H' p.sx p.tv p.ft p.f0 e1 e2 e3⟩
end
end Hs
namespace HsD
open PySem L2
noncomputable def mp(l:List Int)(p:Int×Int):Int×Int:=
 (if l.getD p.2.toNat 0<l.getD p.1.toNat 0 then l.getD p.2.toNat 0 else l.getD p.1.toNat 0,if l.getD p.2.toNat 0>l.getD p.1.toNat 0 then l.getD p.2.toNat 0 else l.getD p.1.toNat 0)
theorem getD_inj{l:List Int}(nd:l.Nodup){i j:Nat}(hi:i<l.length)(hj:j<l.length)(e:l.getD i 0=l.getD j 0):i=j:=by
 have e1:l.getD i 0=l[i]:=by simp[hi]
 have e2:l.getD j 0=l[j]:=by simp[hj]
 rw[e1,e2]at e
 exact(List.getElem_inj nd).mp e
theorem getD_mem{l:List Int}{i:Nat}(hi:i<l.length):l.getD i 0∈l:=by
 have e1:l.getD i 0=l[i]:=by simp[hi]
 rw[e1];exact List.getElem_mem _
theorem mm_of(a b:Int):(a<=b/\(if b<a then b else a)=a/\(if b>a then b else a)=b)\/(b<=a/\(if b<a then b else a)=b/\(if b>a then b else a)=a):=by
 rcases Int.lt_trichotomy a b with h|h|h
 ·exact .inl ⟨Int.le_of_lt h,if_neg (Int.lt_asymm h),if_pos h⟩
 ·subst h;exact .inl ⟨Int.le_refl _,if_neg (Int.lt_irrefl _),if_neg (Int.lt_irrefl _)⟩
 ·exact .inr ⟨Int.le_of_lt h,if_pos h,if_neg (Int.lt_asymm h)⟩
theorem mm_eq{a b c d:Int}(e1:(if b<a then b else a)=if d<c then d else c)(e2:(if b>a then b else a)=if d>c then d else c):(a=c/\b=d)\/(a=d/\b=c):=by
 rcases mm_of a b with⟨_,p,q⟩|⟨_,p,q⟩<;>rcases mm_of c d with⟨_,r,s⟩|⟨_,r,s⟩<;>rw[p,r]at e1<;>rw[q,s]at e2
 ·exact .inl ⟨e1,e2⟩
 ·exact .inr ⟨e1,e2⟩
 ·exact .inr ⟨e2,e1⟩
 ·exact .inl ⟨e2,e1⟩
theorem toNat_in{x:Int}{n:Nat}(h0:0<=x)(h:x<n):x.toNat<n:=(Int.toNat_lt h0).mpr h
theorem toNat_eq{a b:Int}(ha:0<=a)(hb:0<=b)(h:a.toNat=b.toNat):a=b:=by rw[<-Int.toNat_of_nonneg ha,<-Int.toNat_of_nonneg hb,h]
theorem mp_ok{n:Nat}{l:List Int}(hl:Sub n l)(hlen:l.length=n){ps:List (Int×Int)}(h:PairsOk (n:Int) ps):PairsOk (n:Int) (ps.map (mp l)):=by
 have hin:∀p∈ps,p.1.toNat<l.length/\p.2.toNat<l.length/\0<=p.1/\0<=p.2/\p.1<p.2:=fun p hp=>by
  obtain⟨a0,a1,a2⟩:=h.lt p hp
  rw[hlen]
  exact⟨toNat_in a0 (Int.lt_trans a1 a2),toNat_in (Int.le_trans a0 (Int.le_of_lt a1)) a2,a0,Int.le_trans a0 (Int.le_of_lt a1),a1⟩
 refine⟨?_,fun q hq=> ?_⟩
 ·rw[List.nodup_iff_pairwise_ne,List.pairwise_map]
  refine(List.nodup_iff_pairwise_ne.mp h.nd).imp_of_mem fun{a b} ha hb hne e=>hne ?_
  obtain⟨hx1,hx2,n1,n2,hlt⟩:=hin a ha
  obtain⟨hy1,hy2,m1,m2,hlt'⟩:=hin b hb
  rcases mm_eq (Prod.mk.inj e).1 (Prod.mk.inj e).2 with⟨k1,k2⟩|⟨k1,k2⟩
  ·exact Prod.ext (toNat_eq n1 m1 (getD_inj hl.nd hx1 hy1 k1)) (toNat_eq n2 m2 (getD_inj hl.nd hx2 hy2 k2))
  ·rw[toNat_eq n1 m2 (getD_inj hl.nd hx1 hy2 k1),toNat_eq n2 m1 (getD_inj hl.nd hx2 hy1 k2)]at hlt
   exact absurd hlt' (Int.lt_asymm hlt)
 ·obtain⟨p,hp,rfl⟩:=List.mem_map.mp hq
  obtain⟨hx1,hx2,n1,n2,hlt⟩:=hin p hp
  have m1:=hl.lt _ (getD_mem (l:=l) (i:=p.1.toNat) hx1)
  have m2:=hl.lt _ (getD_mem (l:=l) (i:=p.2.toNat) hx2)
  have hne:l.getD p.1.toNat 0≠l.getD p.2.toNat 0:=fun z=>Int.ne_of_lt hlt (toNat_eq n1 n2 (getD_inj hl.nd hx1 hx2 z))
  unfold mp
  dsimp only
  rcases mm_of (l.getD p.1.toNat 0) (l.getD p.2.toNat 0)with⟨o,r,s⟩|⟨o,r,s⟩<;>rw[r,s]
  ·exact⟨m1.1,Int.lt_iff_le_and_ne.mpr ⟨o,hne⟩,m2.2⟩
  ·exact⟨m2.1,Int.lt_iff_le_and_ne.mpr ⟨o,Ne.symm hne⟩,m1.2⟩
theorem PairsOk.perm{n:Int}{ps qs:List (Int×Int)}(h:PairsOk n ps)(e:qs.Perm ps):PairsOk n qs:=⟨e.nodup_iff.mpr h.nd,fun p hp=>h.lt p (e.mem_iff.mp hp)⟩
noncomputable def pl(p:Int×Int):List Int:=[p.1,p.2]
theorem pl_inj{p q:Int×Int}(h:pl p=pl q):p=q:=by
 obtain⟨a,b⟩:=p
 obtain⟨c,d⟩:=q
 unfold pl at h
 simp at h
 rw[h.1,h.2]
theorem lex_of{a b:List Int}(h:HT.lexLt b a=false)(ne:a≠b):HT.lexLt a b=true:=by
 rw[HT.lexLt_iff]at h⊢
 have h1:¬b<a:=of_decide_eq_false h
 have h2:a<=b:=List.not_lt.mp h1
 refine decide_eq_true ?_
 rcases Classical.em (a<b)with h3|h3
 ·exact h3
 ·exact absurd (List.le_antisymm h2 (List.not_lt.mp h3)) ne
theorem tie_pair{n:Int}{p:Int×Int}(h0:0<=p.1)(h1:p.1<p.2)(h2:p.2<n):tieD n (pairD p)=true:=by
 show((placeD n (.int p.1)&&(placeD n (.int p.2)&&true))&&risesI [p.1,p.2]&&decide (([PyData.int p.1,PyData.int p.2]).length=2))=true
 have e1:placeD n (.int p.1)=true:=by
  show(decide (0<=p.1)&&decide (p.1<n))=true
  rw[decide_eq_true h0,decide_eq_true (by omega)];rfl
 have e2:placeD n (.int p.2)=true:=by
  show(decide (0<=p.2)&&decide (p.2<n))=true
  rw[decide_eq_true (by omega),decide_eq_true h2];rfl
 have e3:risesI [p.1,p.2]=true:=by
  show(decide (p.1<p.2)&&true)=true
  rw[decide_eq_true h1];rfl
 rw[e1,e2,e3];rfl
theorem web_ok{n:Int}{ts:List (Int×Int)}(hn0:0<=n)(hn1:n<=10)(h:PairsOk n ts)(hs:ts.Pairwise fun p q=>HT.lexLt (pl q) (pl p)=false):webD (webDat n ts)=true:=by
 show(true&&(decide (0<=n)&&decide (n<=10))&&((ts.map pairD).all (tieD n)&&risesT ((ts.map pairD).map fun t=>(kids t).map intD)))=true
 have e1:(ts.map pairD).all (tieD n)=true:=by
  rw[List.all_map,List.all_eq_true]
  intro p hp
  obtain⟨h0,h1,h2⟩:=h.lt p hp
  exact tie_pair h0 h1 h2
 have e2:(ts.map pairD).map (fun t=>(kids t).map intD)=ts.map pl:=by rw[List.map_map];rfl
 have e3:risesT (ts.map pl)=true:=by
  unfold risesT
  rw[List.all_eq_true]
  intro k hk
  have hk':k<ts.length-1:=by simpa using hk
  have g1:(ts.map pl).getD k []=pl ts[k]:=by rw[List.getD_eq_getElem?_getD,List.getElem?_map,List.getElem?_eq_getElem (by omega)];rfl
  have g2:(ts.map pl).getD (k+1) []=pl ts[k+1]:=by rw[List.getD_eq_getElem?_getD,List.getElem?_map,List.getElem?_eq_getElem (by omega)];rfl
  rw[g1,g2]
  refine lex_of (List.pairwise_iff_getElem.mp hs k (k+1) (by omega) (by omega) (by omega)) fun e=> ?_
  have:=(List.getElem_inj h.nd).mp (pl_inj e)
  omega
 rw[decide_eq_true hn0,decide_eq_true hn1,e1,e2,e3];rfl
theorem items_of{K:W.Frag}{H:Hp}{rs:List V}{ps:List (Int×Int)}(h:DVs K H rs (ps.map pairD)):∃its:List (Addr×(Int×Int)),rs=its.map (fun p=>V.ref p.1)/\its.map (·.2)=ps/\∀p∈its,SqT K H p.1 ((pl p.2).map V.int):=by
 induction ps generalizing rs with
 |nil=>cases h;exact⟨[],rfl,rfl,fun p h=>(nomatch h)⟩
 |cons p ps ih=>
  cases h with
  |cons h tl=>
   obtain⟨its,e1,e2,e3⟩:=ih tl
   cases h with
   | @tup a _ _ h hd=>
    cases hd with
    |cons a1 t1=>
     cases a1
     cases t1 with
     |cons a2 t2=>
      cases a2
      cases t2
      refine⟨(a,p)::its,by rw[e1];rfl,by rw[<-e2];rfl,fun q hq=> ?_⟩
      rcases List.mem_cons.mp hq with e|e
      ·rw[e];exact h
      ·exact e3 q e
theorem of_items{K:W.Frag}{H:Hp}:∀(its:List (Addr×(Int×Int))),(∀p∈its,SqT K H p.1 ((pl p.2).map V.int))->DVs K H (its.map fun p=>V.ref p.1) ((its.map (·.2)).map pairD)
 |[],_=> .nil
 |p::its,h=> .cons (.tup (h p List.mem_cons_self) (.cons (.int _) (.cons (.int _) .nil))) (of_items its fun q hq=>h q (List.mem_cons_of_mem _ hq))
theorem ins_sub{k r:Nat}{l:List Int}(h:Sub k l)(hr:r<=l.length):Sub (k+1) (l.take r++(k:Int)::l.drop r):=by
 have e:(l.take r++(k:Int)::l.drop r).Perm (l++[(k:Int)]):=by
  have h1:(l.take r++(k:Int)::l.drop r).Perm ((k:Int)::(l.take r++l.drop r)):=List.perm_middle
  rw[List.take_append_drop]at h1
  exact h1.trans (List.perm_append_comm (l₁:=[(k:Int)]) (l₂:=l))
 exact⟨e.nodup_iff.mpr h.snoc.nd,fun i hi=>h.snoc.lt i (e.mem_iff.mp hi)⟩
end HsD
namespace Hs
open PySem L2 HsD
section
variable{P:Program}{w:World}{K:W.Frag}{mg:Str->Option Value}{base:Heap}
noncomputable def spLWeb(K:W.Frag):Sp:=fun vs H Q _=>∃(tp scr:Addr) (ns:List Int) (m:Int),vs=[.ref tp,.int m]/\TapeV K H tp scr ns/\0<=m/\m<=10/\
 ∀r n ts H',SameX tp H H'->TapeV K H' tp scr ns->WebV K H' r n ts->0<=n->n<=m->PairsOk n ts->WebOk n ts->Q (.ref r) H'
theorem sc_lweb:FnScope ["tape","most","n","called","k","found","i","j"] ["tape","most"] (defScope zce):=⟨rfl,rfl,rfl,by decide+kernel,rfl,by decide+kernel,by decide+kernel⟩
noncomputable def sw(tp:Addr)(m n:Int)(cl:Addr)(k:Option V)(fd i j:Option V):St:=[some (.ref tp),some (.int m),some (.int n),some (.ref cl),k,fd,i,j]
theorem ok_lweb{f f1 f2:Addr}{fd d1 d2:FuncData}(F:Fun K "_law_b_web" "_law_b_web" zce f fd)(D1:Dfn K mg "_law_b_digit" zbe ["tape","many"] f1 d1)(G1:FnOk P w K mg base CX0 2 f1 d1 ["tape","many"] (spDigit K))(D2:Dfn K mg "_law_b_pairs" zbp ["tape","n","kind"] f2 d2)(G2:FnOk P w K mg base CX0 3 f2 d2 ["tape","n","kind"] (spPairs K))(mR:mg "range"=none)(mi:mg "min"=none)(ma:mg "max"=none)(mT:mg "tuple"=none)(mS:mg "sorted"=none):FnOk P w K mg base CX0 4 f fd ["tape","most"] (spLWeb K):=by
 refine F.ok sc_lweb (fun vs H Q E h=> ?_) (fun cdv A outer s H vs Q E hr h=> ?_)
 ·obtain⟨tp,scr,ns,m,rfl,_⟩:=h
  rfl
 obtain⟨tp,scr,ns,m,rfl,hT,hm0,hm1,q⟩:=h
 refine⟨_,zag (zas (i:=2) sc_lweb.nd rfl (Or.inl rfl) (zai (G1.mono (by decide)) hr rfl D1.m D1.F.kp D1.b .nil pass0 (zaa (pv 0) (zaa (zap zbx (pv 1) zad) zab)))) (zag (zas (i:=3) sc_lweb.nd rfl (Or.inl rfl) (zbm zab)) (zag (zdj PassesOwn.never rfl (zbv rfl mR (zaa (pv 2) zab)) (zan (i:=4) sc_lweb.nd rfl (Or.inl rfl)) (zae (zak (pe_bm PySem.F.plainAttrs_list PySem.F.slot_list_insert PySem.F.type_list_insert mt_insert (pv 3) (zaa (zai (G1.mono (by decide)) hr rfl D1.m D1.F.kp D1.b .nil pass0 (zaa (pv 0) (zaa (zap zbx (pv 4) zad) zab))) (zaa (pv 4) zab)))))) (zag (zas (i:=5) sc_lweb.nd rfl (Or.inl rfl) (zbm zab)) (zag (zdj PassesOwn.never rfl (zbr (zai G2 hr rfl D2.m D2.F.kp D2.b .nil pass0 (zaa (pv 0) (zaa (pv 2) (zaa (zai (G1.mono (by decide)) hr rfl D1.m D1.F.kp D1.b .nil pass0 (zaa (pv 0) (zaa zad zab))) zab)))))
    (pg_tup rfl (zcw (zan (i:=6) sc_lweb.nd rfl (Or.inl rfl)) (zcw (zan (i:=7) sc_lweb.nd rfl (Or.inl rfl)) pgs_nil))) (zae (zak (pe_bm PySem.F.plainAttrs_list PySem.F.slot_list_append PySem.F.type_list_append mt_append (pv 5) (zaa (zax (zaa
    (zal (call_min2 rfl) rfl mi (by decide+kernel) (zaa (zbb zcc (pv 3) (pv 6) (fun _ _=>rfl)) (zaa (zbb zcc (pv 3) (pv 7) (fun _ _=>rfl)) zab))) (zaa
    (zal (call_max2 rfl) rfl ma (by decide+kernel) (zaa (zbb zcc (pv 3) (pv 6) (fun _ _=>rfl)) (zaa (zbb zcc (pv 3) (pv 7) (fun _ _=>rfl)) zab))) zab))) zab))))) (zae (zaq (zax (zaa (pv 2) (zaa (zci zbs rfl mT (by decide+kernel) (zaa (zal zda rfl mS (by decide+kernel) (zaa (pv 5) zab)) zab)) zab))))))))),?_⟩
 refine⟨_,rfl,_,rfl,_,_,rfl,rfl,tp,scr,ns,m+1,rfl,hT,by omega,by omega,fun n H1 hn0 hn1 x1 tv1=> ?_⟩
 refine⟨(by show 0<=sizeLine;decide),fun cl hcl=> ?_⟩
 have s2:=zaf hcl (.lst [])
 obtain⟨z1,hz1⟩:=TapeV.lst tv1
 have nct:cl≠tp:=zbk hz1 hcl
 have c0:H cl=none:=by
  cases e:H cl with
  |none=>rfl
  |some o=>rw[x1 cl o nct e]at hcl;cases hcl
 refine⟨_,rfl,n,rfl,by omega,by omega,?_⟩
 refine zcz (n:=n.toNat) (fun k σ H'=>∃l a,σ=sw tp m n cl a none none none/\SameX tp H H'/\TapeV K H' tp scr ns/\H' cl=some (.lst (l.map V.int))/\Sub k l/\l.length=k) ⟨[],_,rfl,x1.trans (s2.x _),tv1.same s2,zac,Sub.nil _,rfl⟩ (fun k σ H' hk p=> ?_) (fun σ H' p=> ?_)
 ·obtain⟨l,a,rfl,sx,tv,hl,hs,hlen⟩:=p
  refine⟨_,rfl,.inl ⟨rfl,_,SqL.of hl⟩,_,rfl,_,rfl,_,_,rfl,rfl,tp,scr,ns,_,rfl,tv,by omega,by omega,fun r H2 hr0 hr1 x2 tv2=>⟨_,rfl,?_⟩⟩
  have er:r=((r.toNat:Nat):Int):=by omega
  have hl2:=x2 _ _ nct hl
  refine⟨cl,l.map V.int,r.toNat,.int (0+(k:Int)),rfl,?_,hl2,by rw[List.length_map];omega,by rw[List.length_map];omega,?_⟩
  ·rw[<-er]
  ·have ei:insV (l.map V.int) r.toNat (.int (0+(k:Int)))=(l.take r.toNat++(k:Int)::l.drop r.toNat).map V.int:=by
    unfold insV
    rw[List.map_append,List.map_cons,List.map_take,List.map_drop]
    have:(0:Int)+(k:Int)=(k:Int):=by omega
    rw[this]
   have xw:SameX cl H2 (upd H2 cl (.lst (insV (l.map V.int) r.toNat (.int (0+(k:Int)))))):=(SameX.refl _ _).upd
   refine⟨l.take r.toNat++(k:Int)::l.drop r.toNat,_,rfl,?_,tv2.other xw hl2 nct.symm,by rw[zac,ei],ins_sub hs (by omega),by simp;omega⟩
   intro b o hb e
   have nb:b≠cl:=fun z=>by rw[z,c0]at e;cases e
   exact xw _ _ nb (x2 _ _ hb (sx b o hb e))
 ·obtain⟨l,kk,rfl,sx,tv,hl,hs,hlen⟩:=p
  have en:((n.toNat:Nat):Int)=n:=by omega
  refine⟨(by show 0<=sizeLine;decide),fun fd hfd=> ?_⟩
  have s3:=zaf hfd (.lst [])
  have tv3:=tv.same s3
  obtain⟨z,hz⟩:=TapeV.lst tv
  have nft:fd≠tp:=zbk hz hfd
  have nfc:fd≠cl:=zbk hl hfd
  refine⟨_,rfl,_,rfl,_,rfl,tp,scr,ns,6,rfl,tv3,by decide,by decide,fun kind H4 hk0 hk1 x4 tv4=>⟨tp,scr,ns,n,kind,rfl,tv4,hn0,by omega,hk0,hk1,fun r rs ps H5 x5 tv5 nrt hr4 hr5 hdv hps=>⟨r,rs,rfl,SqL.of hr5,fun hz5=> ?_⟩⟩⟩
  have hf4:H4 fd=some (.lst []):=x4 _ _ nft zac
  have hf5:H5 fd=some (.lst []):=x5 _ _ nft hf4
  have nrf:r≠fd:=zbk hf4 hr4
  have hc5:H5 cl=some (.lst (l.map V.int)):=x5 _ _ nct (x4 _ _ nct (s3 _ _ hl))
  have x5':SameX tp H H5:=sx.trans ((s3.x _).trans (x4.trans x5))
  have f0:H fd=none:=by
   cases e:H fd with
   |none=>rfl
   |some o=>rw[sx fd o nft e]at hfd;cases hfd
  have hps':PairsOk ((n.toNat:Nat):Int) ps:=by rw[en];exact hps
  have hlen':rs.length=ps.length:=by have:=hdv.len;simpa using this
  refine for_list (K:=K) (a:=r) (xs:=rs) (fun idx σ H'=>∃fl a b,σ=sw tp m n cl kk (some (.ref fd)) a b/\SameX fd H5 H'/\H' fd=some (.lst fl)/\DVs K H' fl (((ps.take idx).map (mp l)).map pairD)/\fl.length=idx) ⟨[],_,_,rfl,SameX.refl _ _,hf5,.nil,rfl⟩ (fun idx σ H' _ p=> ?_) (fun idx x σ H' hx p=> ?_) (fun σ H' p=> ?_)
  ·obtain⟨fl,a,b,_,x6,_⟩:=p
   exact x6.sq nrf (SqL.of hr5)
  ·obtain⟨fl,a,b,rfl,x6,hf6,dv6,hfl⟩:=p
   have hidx:idx<rs.length:=(List.getElem?_eq_some_iff.mp hx).1
   have hps45:=zcy hps (by omega)
   obtain⟨its,e1,e2,e3⟩:=items_of hdv
   have hil:its.length=rs.length:=by rw[e1,List.length_map]
   have hx2:x= .ref its[idx].1:=by
    rw[e1,List.getElem?_map,List.getElem?_eq_getElem (by omega)]at hx
    exact(Option.some.inj hx).symm
   have hpi:ps[idx]? =some its[idx].2:=by
    have h0:(its.map (·.2))[idx]? =some its[idx].2:=by rw[List.getElem?_map,List.getElem?_eq_getElem (by omega)];rfl
    exact(congrArg (fun z:List (Int×Int)=>z[idx]?) e2).symm.trans h0
   have hmem:its[idx].2∈ps:=List.mem_of_getElem? hpi
   have hT6:SqT K H' its[idx].1 ((pl its[idx].2).map V.int):=x6.tup hf5 (e3 _ (List.getElem_mem _))
   generalize its[idx].2=pr at *
   obtain⟨p0,p1,p2⟩:=hps'.lt pr hmem
   obtain⟨v1,a1,g1⟩:=at_ints (ns:=l) (k:=pr.1) p0 (by omega)
   obtain⟨v2,a2,g2⟩:=at_ints (ns:=l) (k:=pr.2) (by omega) (by omega)
   have hc6:SqL K H' cl (l.map V.int):=x6.sq nfc.symm (SqL.of hc5)
   refine⟨its[idx].1,_,hx2,hT6,rfl,_,_,rfl,_,_,rfl,rfl,?_⟩
   refine⟨_,rfl,.inl ⟨rfl,_,SqL.of hf6⟩,_,rfl,_,rfl,cl,_,_,_,rfl,rfl,hc6,a1,_,rfl,_,rfl,cl,_,_,_,rfl,rfl,hc6,a2,_,_,rfl,_,rfl,_,rfl,cl,_,_,_,rfl,rfl,hc6,a1,_,rfl,_,rfl,cl,_,_,_,rfl,rfl,hc6,a2,_,_,rfl,(by show 2<=sizeLine;decide),fun pn hpn=> ?_⟩
   have sn:=zaf hpn (.tup [.int (if v2<v1 then v2 else v1),.int (if v2>v1 then v2 else v1)])
   refine⟨fd,fl,_,rfl,rfl,sn _ _ hf6,(by rw[hfl,sizeLine_eq];omega),?_⟩
   have hnf:pn≠fd:=zbk hf6 hpn
   have xw:SameX fd (upd H' pn (.tup [.int (if v2<v1 then v2 else v1),.int (if v2>v1 then v2 else v1)])) (upd (upd H' pn (.tup [.int (if v2<v1 then v2 else v1),.int (if v2>v1 then v2 else v1)])) fd (.lst (fl++[.ref pn]))):=(SameX.refl _ _).upd
   refine⟨fl++[.ref pn],_,_,rfl,x6.trans ((sn.x _).trans xw),zac,?_,by simp[hfl]⟩
   have em:mp l pr=(if v2<v1 then v2 else v1,if v2>v1 then v2 else v1):=by
    unfold mp
    rw[List.getD_eq_getElem?_getD,List.getD_eq_getElem?_getD,g1,g2];rfl
   have ea:((ps.take (idx+1)).map (mp l)).map pairD=((ps.take idx).map (mp l)).map pairD++[pairD (if v2<v1 then v2 else v1,if v2>v1 then v2 else v1)]:=by
    rw[List.take_add_one,hpi,<-em];simp
   rw[ea]
   refine(zcs xw (sn _ _ hf6) (DVs.same sn dv6)).snoc (.tup (SqT.of ?_) (.cons (.int _) (.cons (.int _) .nil)))
   rw[zbd hnf,zac]
  ·obtain⟨fl,a,b,rfl,x6,hf6,dv6,hfl⟩:=p
   rw[hlen',List.take_length]at dv6
   have hq:=mp_ok hs hlen hps'
   rw[en]at hq
   have hq45:=zcy hq (by omega)
   obtain⟨its,e1,e2,e3⟩:=items_of dv6
   have hil:its.length=fl.length:=by rw[e1,List.length_map]
   have hil2:its.length<=45:=by rw[<-List.length_map (f:=(·.2)),e2];exact hq45
   refine⟨_,rfl,_,rfl,fd,its.map (fun p=>(p.1,pl p.2)),rfl,?_,?_,by rw[List.length_map];omega,fun l1 its' hl1 hperm hsort=> ?_⟩
   ·rw[List.map_map]
    have:=SqL.of (K:=K) hf6
    rw[e1]at this
    exact this
   ·intro p hp
    obtain⟨p',hp',rfl⟩:=List.mem_map.mp hp
    exact⟨e3 p' hp',by unfold pl;simp⟩
   ·have s7:=zaf hl1 (.lst (its'.map fun p=>V.ref p.1))
    refine⟨l1,_,rfl,.inl ⟨SqL.of zac,fun t1 ht1=>⟨(by show 2<=sizeLine;decide),fun wb hwb=> ?_⟩⟩⟩
    have s8:=zaf ht1 (.tup (its'.map fun p=>V.ref p.1))
    have s9:=zaf hwb (.tup [.int n,.ref t1])
    have s789:=s7.trans (s8.trans s9)
    -- the pairs of the sorted tuples
    let un:List Int->Int×Int:=fun l=>(l.getD 0 0,l.getD 1 0)
    have back:∀p∈its',∃q∈its,p=(q.1,pl q.2):=fun p hp=>by
     obtain⟨q,hq,e⟩:=List.mem_map.mp (hperm.mem_iff.mp hp)
     exact⟨q,hq,e.symm⟩
    have eb:its'.map (fun p=>(p.1,pl (un p.2)))=its':=by
     have:∀p∈its',(p.1,pl (un p.2))=p:=fun p hp=>by
      obtain⟨q,_,rfl⟩:=back p hp
      rfl
     rw[List.map_congr_left (g:=id) this,List.map_id]
    have pts:(its'.map fun p=>un p.2).Perm (ps.map (mp l)):=by
     have h1:=hperm.map (fun p:Addr×List Int=>un p.2)
     rw[List.map_map]at h1
     have h2:its.map ((fun p:Addr×List Int=>un p.2)∘fun p=>(p.1,pl p.2))=ps.map (mp l):=by rw[<-e2];rfl
     rw[h2]at h1
     exact h1
    have pok:=hq.perm pts
    have psort:(its'.map fun p=>un p.2).Pairwise fun p q=>HT.lexLt (pl q) (pl p)=false:=by
     rw[List.pairwise_map]
     refine hsort.imp_of_mem fun{x y} hx hy hxy=> ?_
     obtain⟨qx,_,rfl⟩:=back x hx
     obtain⟨qy,_,rfl⟩:=back y hy
     exact hxy
    refine q wb n (its'.map fun p=>un p.2) _ ?_ ?_ ⟨t1,its'.map (fun p=>V.ref p.1),SqT.of zac,SqT.of (s9 _ _ zac),?_⟩ hn0 (by omega) pok (web_ok hn0 (by omega) pok psort)
    ·intro b o hb e
     have nb:b≠fd:=fun z=>by rw[z,f0]at e;cases e
     exact s789 _ _ (x6 _ _ nb (x5' b o hb e))
    ·exact(tv5.other x6 hf5 nft.symm).same s789
    ·have h1:=of_items (K:=K) (H:=upd (upd (upd H' l1 (.lst (its'.map fun p=>V.ref p.1))) t1 (.tup (its'.map fun p=>V.ref p.1))) wb (.tup [.int n,.ref t1])) (its'.map fun p=>(p.1,un p.2)) (fun p hp=>by
      obtain⟨p',hp',rfl⟩:=List.mem_map.mp hp
      obtain⟨q',hq',rfl⟩:=back p' hp'
      exact s789.tup (e3 q' hq'))
     have h2:(its'.map fun p=>(p.1,un p.2)).map (fun p=>V.ref p.1)=its'.map fun p=>V.ref p.1:=by rw[List.map_map];rfl
     have h3:(its'.map fun p=>(p.1,un p.2)).map (·.2)=its'.map fun p=>un p.2:=by rw[List.map_map];rfl
     rw[h2,h3]at h1
     exact h1
end
end Hs
namespace HsD
open PySem L2
end HsD
namespace Hs
open PySem L2 HsD
section
variable{P:Program}{w:World}{K:W.Frag}{mg:Str->Option Value}{base:Heap}
noncomputable def spLaw(K:W.Frag):Sp:=fun vs H Q _=>∃(a:Addr) (ns:List Int),vs=[.ref a]/\ScrV K H a ns/\ns.length<=63/\∀H',Q (.bl true) H'
theorem spLaw_of{H:Hp}{a:Addr}{ns:List Int}(hl:ns.length<=63)(hO:Only H)(hS:SqL K H a (ns.map V.int)):spLaw K [.ref a] H (fun v _=>v= .bl true) fun _ _ _=>False:=by
 refine⟨a,ns,rfl,?_,hl,fun _=>rfl⟩
 rcases hS with(h|⟨o,h⟩)|h
 ·rcases hO a with q|⟨o,xs,q⟩
  ·rw[q]at h;cases h
  ·rw[q]at h;cases h
 ·exact .inl ⟨o,h⟩
 ·exact .inr h
noncomputable def rLen(K:W.Frag):List V->Hp->VK->Prop:=fun xs H Q=>∃p ys,xs=[.ref p]/\(SqL K H p ys\/SqT K H p ys)/\(ys.length<=16777216->Q (.int ys.length) H)
theorem test_any{H:Hp}{tp scr:Addr}{ns:List Int}{k:Int}{r:St}{Q:Bool->Hp->Prop}(tv:TapeV K H tp scr ns)(hQ:∀b,Q b H):
  tAnd (tTest (tOp (rI0 fun i j=> .bl (decide (j<i))) (tVar 2) (tC (.int 1)))) (tTest (tOp (rI0 fun i j=> .bl (decide (j<=i))) (tOp (rIxL K) (tVar 1) (tC (.int 1))) (tCB (rLen K) (tCons (tVar 0) tNil)))) (some (.ref scr)::some (.ref tp)::some (.int k)::r) H Q:=by
 obtain⟨⟨i,rr,hH,_,_⟩,hS,_⟩:=tv
 refine⟨_,rfl,_,_,rfl,rfl,_,rfl,?_⟩
 refine ite2 (fun c=> ?_) (fun c=>hQ _)
 exact⟨_,rfl,tp,_,_,.int i,rfl,rfl,SqL.of hH,rfl,_,rfl,scr,_,rfl,.inl hS.sq,fun _=>⟨_,_,rfl,rfl,_,rfl,hQ _⟩⟩
theorem tape_new{H:Hp}{a p:Addr}{ns:List Int}(hS:ScrV K H a ns)(h63:ns.length<=63)(hp:H p=none):TapeV K (upd H p (.lst [.ref a,.int 0,.int 0])) p a ns:=
 ⟨⟨0,0,zac,Int.le_refl _,Int.le_refl _⟩,hS.same (zaf hp _),h63⟩
end
end Hs
namespace Hs
open PySem L2 HsD
noncomputable def lt2(p q:Int×Int):Prop:=p.1<q.1\/(p.1=q.1/\p.2<q.2)
theorem lt2.trans{p q r:Int×Int}(a:lt2 p q)(b:lt2 q r):lt2 p r:=by
 unfold lt2 at *;omega
theorem lt2.irr{p:Int×Int}(a:lt2 p p):False:=by
 unfold lt2 at a;omega
theorem eq_of_sorted:∀{l m:List (Int×Int)},l.Pairwise lt2->m.Pairwise lt2->(∀p,p∈l↔p∈m)->l=m
 |[],[],_,_,_=>rfl
 |[],q::m,_,_,h=>absurd ((h q).mpr (List.mem_cons_self ..)) (by simp)
 |p::l,[],_,_,h=>absurd ((h p).mp (List.mem_cons_self ..)) (by simp)
 |p::l,q::m,hl,hm,h=>by
  rw[List.pairwise_cons]at hl hm
  have e:p=q:=by
   rcases List.mem_cons.mp ((h p).mp (List.mem_cons_self ..))with e|e
   ·exact e
   rcases List.mem_cons.mp ((h q).mpr (List.mem_cons_self ..))with e'|e'
   ·exact e'.symm
   exact(lt2.irr ((hl.1 _ e').trans (hm.1 _ e))).elim
  subst e
  have:l=m:=eq_of_sorted hl.2 hm.2 (fun r=>by
   have hr:=h r
   rw[List.mem_cons,List.mem_cons]at hr
   constructor
   ·intro hi
    rcases hr.mp (.inr hi)with e|e
    ·subst e;exact(lt2.irr (hl.1 _ hi)).elim
    ·exact e
   ·intro hi
    rcases hr.mpr (.inr hi)with e|e
    ·subst e;exact(lt2.irr (hm.1 _ hi)).elim
    ·exact e)
  rw[this]
theorem lex_lt2{p q:Int×Int}(h:HT.lexLt (pl p) (pl q)=true):lt2 p q:=by
 rw[HT.lexLt_iff]at h
 have:=of_decide_eq_true h
 unfold pl at this
 rw[List.cons_lt_cons_iff]at this
 rcases this with a|⟨a,b⟩
 ·exact .inl a
 ·rw[List.cons_lt_cons_iff]at b
  rcases b with b|⟨_,b⟩
  ·exact .inr ⟨a,b⟩
  ·exact absurd b (by simp)
theorem lex_ge2{p q:Int×Int}(h:HT.lexLt (pl q) (pl p)=false)(ne:p≠q):lt2 p q:=lex_lt2 (lex_of h (fun e=>ne (pl_inj e)))
theorem sorted_lt2{l:List (Int×Int)}(hs:l.Pairwise fun p q=>HT.lexLt (pl q) (pl p)=false)(nd:l.Nodup):l.Pairwise lt2:=
 (List.Pairwise.and hs nd).imp fun h=>lex_ge2 h.1 h.2
theorem pairwise_of_adj{l:List (Int×Int)}(h:∀k,(hk:k+1<l.length)->lt2 l[k] l[k+1]):l.Pairwise lt2:=by
 rw[List.pairwise_iff_getElem]
 intro i j hi hj hij
 have go:∀d:Nat,(hd:i+1+d<l.length)->lt2 l[i] l[i+1+d]:=by
  intro d
  induction d with
  |zero=>intro hd;exact h i hd
  |succ d ih=>intro hd;exact(ih (by omega)).trans (h (i+1+d) hd)
 have e:j=i+1+(j-i-1):=by omega
 have:=go (j-i-1) (by omega)
 simpa[<-e]using this
theorem web_sorted{n:Int}{ts:List (Int×Int)}(h:WebOk n ts):ts.Pairwise lt2:=by
 have h1:tiesD n (.tuple (ts.map pairD))=true:=by
  unfold WebOk webDat webD at h
  rw[Bool.and_eq_true]at h
  exact h.2
 unfold tiesD at h1
 rw[Bool.and_eq_true]at h1
 have h2:=h1.2
 unfold risesT at h2
 rw[List.all_eq_true]at h2
 refine pairwise_of_adj fun k hk=> ?_
 have e:(List.map (fun t=>(kids t).map intD) (ts.map pairD))=ts.map pl:=by
  rw[List.map_map];rfl
 rw[e,List.length_map]at h2
 have h3:=h2 k (by rw[List.mem_range];omega)
 have g:∀j,(hj:j<ts.length)->(ts.map pl).getD j []=pl ts[j]:=fun j hj=>by
  rw[List.getD_eq_getElem?_getD,List.getElem?_map,List.getElem?_eq_getElem hj];rfl
 rw[g k (by omega),g (k+1) hk]at h3
 exact lex_lt2 h3
noncomputable def row(so:Int->Int->Bool)(i:Int)(k:Nat):List (Int×Int):=((List.range k).map fun(t:Nat)=>(i,i+1+(t:Int))).filter fun p=>so p.1 p.2
noncomputable def rows(so:Int->Int->Bool)(m:Int)(i:Nat):List (Int×Int):=((List.range i).map fun(t:Nat)=>row so (0+(t:Int)) (m-(0+(t:Int)+1)).toNat).flatten
theorem row_succ(so:Int->Int->Bool)(i:Int)(k:Nat):row so i (k+1)=row so i k++(if so i (i+1+(k:Int))=true then[(i,i+1+(k:Int))]else[]):=by
 unfold row
 rw[List.range_succ,List.map_append,List.filter_append]
 congr 1
 show List.filter _ [(i,i+1+(k:Int))]=_
 rw[List.filter_cons]
 rfl
theorem rows_succ(so:Int->Int->Bool)(m:Int)(i:Nat):rows so m (i+1)=rows so m i++row so (0+(i:Int)) (m-(0+(i:Int)+1)).toNat:=by
 unfold rows
 rw[List.range_succ,List.map_append,List.flatten_append]
 simp
theorem mem_row{so:Int->Int->Bool}{i:Int}{k:Nat}{p:Int×Int}:p∈row so i k↔p.1=i/\i<p.2/\p.2<i+1+(k:Int)/\so p.1 p.2=true:=by
 unfold row
 rw[List.mem_filter,List.mem_map]
 constructor
 ·rintro⟨⟨t,ht,rfl⟩,h⟩
  rw[List.mem_range]at ht
  exact⟨rfl,by show i<i+1+(t:Int);omega,by show i+1+(t:Int)<_;omega,h⟩
 ·rintro⟨h1,h2,h3,h4⟩
  refine⟨⟨(p.2-i-1).toNat,by rw[List.mem_range];omega,?_⟩,h4⟩
  apply Prod.ext
  ·exact h1.symm
  ·show i+1+(((p.2-i-1).toNat:Nat):Int)=p.2;omega
theorem zdg{so:Int->Int->Bool}{m:Int}:∀{i:Nat} {p:Int×Int},p∈rows so m i↔0<=p.1/\p.1<(i:Int)/\p.1<p.2/\p.2<m/\so p.1 p.2=true
 |0,p=>by
  constructor
  ·intro h;simp[rows]at h
  ·intro h;omega
 |i+1,p=>by
  rw[rows_succ,List.mem_append,zdg (i:=i),mem_row]
  constructor
  ·rintro(h|h)
   ·exact⟨h.1,by omega,h.2.2⟩
   ·exact⟨by omega,by omega,by omega,by omega,h.2.2.2⟩
  ·rintro⟨h1,h2,h3,h4,h5⟩
   by_cases e:p.1<(i:Int)
   ·exact .inl ⟨h1,e,h3,h4,h5⟩
   ·exact .inr ⟨by omega,by omega,by omega,h5⟩
theorem row_sorted(so:Int->Int->Bool)(i:Int)(k:Nat):(row so i k).Pairwise lt2:=by
 unfold row
 refine List.Pairwise.filter _ ?_
 rw[List.pairwise_map]
 exact List.pairwise_lt_range.imp fun h=> .inr ⟨rfl,by show i+1+_<i+1+_;omega⟩
theorem zdi(so:Int->Int->Bool)(m:Int):∀i:Nat,(rows so m i).Pairwise lt2
 |0=>by unfold rows;exact List.Pairwise.nil
 |i+1=>by
  rw[rows_succ,List.pairwise_append]
  refine⟨zdi so m i,row_sorted so _ _,fun p hp q hq=> ?_⟩
  rw[zdg]at hp
  rw[mem_row]at hq
  exact .inl (by omega)
theorem rows_eq{so:Int->Int->Bool}{m:Int}{l:List (Int×Int)}(hm:0<=m)(hs:l.Pairwise lt2)(h:∀p:Int×Int,p∈l↔0<=p.1/\p.1<p.2/\p.2<m/\so p.1 p.2=true):l=rows so m m.toNat:=by
 refine eq_of_sorted hs (zdi so m _) fun p=> ?_
 rw[h,zdg]
 constructor
 ·rintro⟨a,b,c,d⟩;exact⟨a,by omega,b,c,d⟩
 ·rintro⟨a,b,c,d,e⟩;exact⟨a,c,d,e⟩
theorem rows_ok{so:Int->Int->Bool}{m:Int}{i:Nat}:PairsOk m (rows so m i):=
 ⟨(zdi so m i).imp fun h e=>by subst e;exact lt2.irr h,fun p hp=>by rw[zdg]at hp;exact⟨hp.1,hp.2.2.1,hp.2.2.2.1⟩⟩
theorem nodup_lt2{l:List (Int×Int)}(h:l.Pairwise lt2):l.Nodup:=h.imp fun h e=>by subst e;exact lt2.irr h
end Hs
namespace L2
open PySem
theorem DVs.get'{K:W.Frag}{H:Hp}:∀{xs:List V} {ds:List PyData} {i:Nat},DVs K H xs ds->i<ds.length->∃x d,xs[i]? =some x/\ds[i]? =some d/\DV K H x d
 |_,_,i,.nil,h=>by simp at h
 |_,_,0,.cons h _,_=>⟨_,_,rfl,rfl,h⟩
 |_,_,i+1,.cons _ t,h=>by
  obtain⟨x,d,h1,h2,h3⟩:=DVs.get' (i:=i) t (by simpa using h)
  exact⟨x,d,by simpa using h1,by simpa using h2,h3⟩
end L2
namespace Hs
open PySem L2 HsD
theorem at_xs{xs:List Int}{i:Int}(h0:0<=i)(h1:i<(xs.length:Int)):atI (xs.map V.int) i=some (.int (xs.getD i.toNat 0)):=by
 have hk:i.toNat<xs.length:=by omega
 have ek:((i.toNat:Nat):Int)=i:=by omega
 have q:atI (xs.map V.int) ((i.toNat:Nat):Int)=some (.int (xs.getD i.toNat 0)):=atI_nat (by rw[List.getElem?_map,List.getElem?_eq_getElem hk,List.getD_eq_getElem?_getD,List.getElem?_eq_getElem hk];rfl)
 rw[ek]at q
 exact q
structure WebIs(K:W.Frag)(H:Hp)(a:Addr)(n:Int)(ts:List (Int×Int)):Prop where
 web:WebV K H a n ts
 h0:0<=n
 h1:n<=10
 pk:PairsOk n ts
 ok:WebOk n ts
theorem WebIs.same{K:W.Frag}{H H':Hp}{a:Addr}{n:Int}{ts:List (Int×Int)}(h:WebIs K H a n ts)(e:Same H H'):WebIs K H' a n ts:=⟨h.web.same e,h.h0,h.h1,h.pk,h.ok⟩
theorem WebIs.len{K:W.Frag}{H:Hp}{a:Addr}{n:Int}{ts:List (Int×Int)}(h:WebIs K H a n ts):ts.length<=45:=zcy h.pk h.h1
theorem WebIs.srt{K:W.Frag}{H:Hp}{a:Addr}{n:Int}{ts:List (Int×Int)}(h:WebIs K H a n ts):ts.Pairwise lt2:=web_sorted h.ok
section
variable{K:W.Frag}{H:Hp}{a b:Addr}{n1 n2:Int}{t1 t2:List (Int×Int)}
end
end Hs
namespace Hs
open PySem L2 HsD
noncomputable def tt(_ _:Int):Bool:=true
theorem rows_filter{so:Int->Int->Bool}{m:Int}{i:Nat}:(rows tt m i).filter (fun p=>so p.1 p.2)=rows so m i:=by
 refine eq_of_sorted ((zdi _ _ _).filter _) (zdi _ _ _) fun p=> ?_
 rw[List.mem_filter,zdg,zdg]
 constructor
 ·rintro⟨⟨a,b,c,d,_⟩,e⟩;exact⟨a,b,c,d,e⟩
 ·rintro⟨a,b,c,d,e⟩;exact⟨⟨a,b,c,d,rfl⟩,e⟩
section
variable{P:Program}{w:World}{K:W.Frag}{mg:Str->Option Value}{base:Heap}
structure LstP(K:W.Frag)(H:Hp)(l:Addr)(ps:List (Int×Int)):Prop where
 ex:∃rs,H l=some (.lst rs)/\DVs K H rs (ps.map pairD)
theorem LstP.same{H H':Hp}{l:Addr}{ps:List (Int×Int)}(h:LstP K H l ps)(e:Same H H'):LstP K H' l ps:=by
 obtain⟨rs,h1,h2⟩:=h.ex
 exact⟨rs,e _ _ h1,h2.same e⟩
noncomputable def spAllP(K:W.Frag):Sp:=fun vs H Q _=>∃(n:Int),vs=[.int n]/\0<=n/\n<=10/\∀l H',Same H H'->LstP K H' l (rows tt n n.toNat)->Q (.ref l) H'
theorem sc_allp:FnScope ["n","found","one"] ["n"] (defScope zdh):=⟨rfl,rfl,rfl,by decide+kernel,rfl,by decide+kernel,by decide+kernel⟩
theorem ok_allp{f:Addr}{fd:FuncData}(F:Fun K "pairs" "pairs" zdh f fd)(mR:mg "range"=none):FnOk P w K mg base CX0 1 f fd ["n"] (spAllP K):=by
 refine F.ok sc_allp (fun vs H Q E h=> ?_) (fun cdv A outer s H vs Q E hr h=> ?_)
 ·obtain⟨n,rfl,_⟩:=h
  rfl
 obtain⟨n,rfl,hn0,hn1,q⟩:=h
 refine⟨_,zag (zas (i:=1) sc_allp.nd rfl (Or.inl rfl) (zbm zab)) (zag (zdj PassesOwn.never rfl (zbv rfl mR (zaa (pv 0) zab)) (zan (i:=2) sc_allp.nd rfl (Or.inr rfl)) (zae (zak (pe_bm PySem.F.plainAttrs_list PySem.F.slot_list_extend PySem.F.type_list_extend mt_extend (pv 1) (zaa
    (zch (own:=["other"]) (caps:=["one"]) (ix:=[2]) rfl (pi_range2 rfl mR (zaa (zap zbx (pv 2) zad) (zaa (pv 0) zab))) rfl rfl (.cons rfl rfl .nil) (fun _ _ _ _ _=>zan (i:=0) (show(["other","one"]:List Str).Nodup from by decide+kernel) rfl (Or.inl rfl)) (fun _ _ _ _ _=>zdc) (fun _ _ _ _ _=>zax (zaa (pv 1) (zaa (pv 0) zab)))) zab))))) (zae (zaq (pv 1)))),?_⟩
 refine⟨(by show 0<=sizeLine;decide),fun l hl=> ?_⟩
 refine⟨_,rfl,n,rfl,by omega,by omega,?_⟩
 refine zcz (n:=n.toNat) (fun i σ H'=>Same H H'/\(∃rs,H' l=some (.lst rs)/\DVs K H' rs ((rows tt n i).map pairD))/\∃o,σ=[some (.int n),some (.ref l),o]) ⟨zaf hl _,⟨[],zac,.nil⟩,_,rfl⟩ (fun i σ H' hi p=> ?_) (fun σ H' p=> ?_)
 ·obtain⟨sm,⟨rs,hr1,hr2⟩,o,rfl⟩:=p
  have hlen:=hr2.len
  rw[List.length_map]at hlen
  have h45:=zcy (rows_ok (so:=tt) (m:=n) (i:=i)) hn1
  refine⟨_,rfl,.inl ⟨rfl,_,SqL.of hr1⟩,_,rfl,_,_,rfl,rfl,_,rfl,_,_,rfl,⟨by omega,by omega,by omega,by omega⟩,?_⟩
  refine zct (n:=(n-(0+(i:Int)+1)).toNat) (fun k acc σ H2=>Same H' H2/\acc.length=k/\DVs K H2 acc ((row tt (0+(i:Int)) k).map pairD)/\∃o1,σ=[o1,some (.int (0+(i:Int)))]) ⟨Same.refl _,rfl,.nil,_,rfl⟩ (fun k acc σ H2 hk p=>by rw[p.2.1];exact Nat.le_refl _) (by rw[sizeLine_eq];omega) (fun k acc σ H2 hk p=> ?_) (fun acc σ H2 p=> ?_)
  ·obtain⟨s2,hl2,hd,o1,rfl⟩:=p
   refine⟨_,rfl,_,rfl,(by show 2<=sizeLine;decide),fun p hp=> ?_⟩
   have s3:=zaf hp (.tup [.int (0+(i:Int)),.int (0+(i:Int)+1+(k:Int))])
   refine⟨s2.trans s3,by rw[List.length_append,hl2];rfl,?_,_,rfl⟩
   rw[row_succ,List.map_append,if_pos (show tt (0+(i:Int)) (0+(i:Int)+1+(k:Int))=true from rfl)]
   exact(hd.same s3).append (.cons (.tup (SqT.of zac) (.cons (.int _) (.cons (.int _) .nil))) .nil)
  ·intro p1 hp1
   obtain⟨s2,hl2,hd,_⟩:=p
   have s3:=zaf hp1 (.lst acc)
   have hr3:=s3 _ _ (s2 _ _ hr1)
   refine⟨l,p1,rs,acc,rfl,rfl,hr3,zac,?_,?_⟩
   ·rw[sizeLine_eq];omega
   ·have x4:SameX l (upd H2 p1 (.lst acc)) (upd (upd H2 p1 (.lst acc)) l (.lst (rs++acc))):=(SameX.refl _ _).upd
    refine⟨?_,⟨_,zac,?_⟩,_,rfl⟩
    ·intro b o hb
     have nb:b≠l:=fun e=>by rw[e,hl]at hb;cases hb
     exact x4 _ _ nb (s3 _ _ (s2 _ _ (sm _ _ hb)))
    ·rw[rows_succ]
     exact zcs x4 hr3 (by rw[List.map_append];exact((hr2.same s2).same s3).append (hd.same s3))
 ·obtain⟨sm,⟨rs,hr1,hr2⟩,o,rfl⟩:=p
  exact⟨_,rfl,q l _ sm ⟨rs,hr1,hr2⟩⟩
theorem pair_at{H:Hp}{rs:List V}{ps:List (Int×Int)}{i:Nat}{x:V}(h:DVs K H rs (ps.map pairD))(hx:rs[i]? =some x):∃(t:Addr) (hi:i<ps.length),x= .ref t/\SqT K H t [.int (ps[i]).1,.int (ps[i]).2]:=by
 have hlen:=h.len
 rw[List.length_map]at hlen
 have hi:i<ps.length:=by rw[<-hlen];exact(List.getElem?_eq_some_iff.mp hx).1
 obtain⟨x',d,e1,e2,e3⟩:=DVs.get' (i:=i) h (by rw[List.length_map];exact hi)
 rw[hx]at e1;cases e1
 rw[List.getElem?_map,List.getElem?_eq_getElem hi]at e2
 cases e2
 cases e3 with
 |tup hp tp=>
  cases tp with
  |cons ta tb=>
   cases tb with
   |cons tc td=>
    cases td
    cases ta
    cases tc
    exact⟨_,hi,rfl,hp⟩
theorem filter_take{so:Int×Int->Bool}{ps:List (Int×Int)}{i:Nat}(hi:i<ps.length):(ps.take (i+1)).filter so=(ps.take i).filter so++(if so ps[i]=true then[ps[i]]else[]):=by
 rw[List.take_add_one,List.getElem?_eq_getElem hi,List.filter_append]
 congr 1
 show List.filter so [ps[i]]=_
 rw[List.filter_cons]
 rfl
end
end Hs
namespace Hs
open PySem L2 HsD
noncomputable def sh(b:Int)(p:Int×Int):Int×Int:=(p.1+b,p.2+b)
noncomputable def btw(n m:Int)(i:Nat):List (Int×Int):=((List.range i).map fun(t:Nat)=>(List.range m.toNat).map fun(k:Nat)=>((0+(t:Int)),n+(0+(k:Int)))).flatten
theorem btw_succ(n m:Int)(i:Nat):btw n m (i+1)=btw n m i++(List.range m.toNat).map fun(k:Nat)=>((0+(i:Int)),n+(0+(k:Int))):=by
 unfold btw
 rw[List.range_succ,List.map_append,List.flatten_append]
 simp
theorem btw_len(n m:Int):∀i:Nat,(btw n m i).length=i*m.toNat
 |0=>by simp[btw]
 |i+1=>by rw[btw_succ,List.length_append,btw_len n m i,List.length_map,List.length_range,Nat.succ_mul]
theorem mem_btw{n m:Int}{i:Nat}{p:Int×Int}:p∈btw n m i↔0<=p.1/\p.1<(i:Int)/\n<=p.2/\p.2<n+(m.toNat:Int):=by
 induction i with
 |zero=>
  constructor
  ·intro h;simp[btw]at h
  ·intro h;omega
 |succ i ih=>
  rw[btw_succ,List.mem_append,ih,List.mem_map]
  constructor
  ·rintro(h|⟨k,hk,rfl⟩)
   ·exact⟨h.1,by omega,h.2.2⟩
   ·rw[List.mem_range]at hk
    exact⟨by show(0:Int)<=0+_;omega,by show(0:Int)+_<_;omega,by show n<=n+(0+_);omega,by show n+(0+_)<_;omega⟩
  ·rintro⟨h1,h2,h3,h4⟩
   by_cases e:p.1<(i:Int)
   ·exact .inl ⟨h1,e,h3,h4⟩
   ·refine .inr ⟨(p.2-n).toNat,by rw[List.mem_range];omega,?_⟩
    apply Prod.ext
    ·show(0:Int)+(i:Int)=p.1;omega
    ·show n+(0+(((p.2-n).toNat:Nat):Int))=p.2;omega
theorem btw_sorted(n m:Int):∀i:Nat,(btw n m i).Pairwise lt2
 |0=>by unfold btw;exact List.Pairwise.nil
 |i+1=>by
  rw[btw_succ,List.pairwise_append]
  refine⟨btw_sorted n m i,?_,fun p hp q hq=> ?_⟩
  ·rw[List.pairwise_map]
   exact List.pairwise_lt_range.imp fun h=> .inr ⟨rfl,by show n+(0+_)<n+(0+_);omega⟩
  ·rw[mem_btw]at hp
   rw[List.mem_map]at hq
   obtain⟨k,_,rfl⟩:=hq
   exact .inl (by show p.1<0+(i:Int);omega)
theorem sh_sorted{b:Int}{ts:List (Int×Int)}(h:ts.Pairwise lt2):(ts.map (sh b)).Pairwise lt2:=by
 rw[List.pairwise_map]
 refine h.imp fun h=> ?_
 unfold lt2 sh at *
 omega
theorem mem_sh{b:Int}{ts:List (Int×Int)}{p:Int×Int}:p∈ts.map (sh b)↔(p.1-b,p.2-b)∈ts:=by
 rw[List.mem_map]
 constructor
 ·rintro⟨q,hq,rfl⟩
  have e:(q.1+b-b,q.2+b-b)=q:=Prod.ext (by show q.1+b-b=q.1;omega) (by show q.2+b-b=q.2;omega)
  show(q.1+b-b,q.2+b-b)∈ts
  rw[e];exact hq
 ·intro h
  exact⟨_,h,Prod.ext (by show p.1-b+b=p.1;omega) (by show p.2-b+b=p.2;omega)⟩
section
variable{P:Program}{w:World}{K:W.Frag}{mg:Str->Option Value}{base:Heap}
noncomputable def spMoved(K:W.Frag):Sp:=fun vs H Q _=>∃(a:Addr) (n b:Int) (ts:List (Int×Int)),vs=[.ref a,.int b]/\WebV K H a n ts/\∀l H',Same H H'->LstP K H' l (ts.map (sh b))->H l=none->Q (.ref l) H'
theorem sc_moved:FnScope ["web","by"] ["web","by"] (defScope zby):=⟨rfl,rfl,rfl,by decide+kernel,rfl,by decide+kernel,by decide+kernel⟩
theorem ok_moved{f:Addr}{fd:FuncData}(F:Fun K "moved_ties" "moved_ties" zby f fd):FnOk P w K mg base CX0 1 f fd ["web","by"] (spMoved K):=by
 refine F.ok sc_moved (fun vs H Q E h=> ?_) (fun cdv A outer s H vs Q E hr h=> ?_)
 ·obtain⟨a,n,b,ts,rfl,_⟩:=h
  rfl
 obtain⟨a,n,b,ts,rfl,hW,q⟩:=h
 refine⟨_,zae (zaq (zch (own:=["one","other"]) (caps:=["by"]) (ix:=[1]) rfl (pi_tupL (zbb zbh (pv 0) zad (fun _ _=>rfl))) rfl rfl (.cons rfl rfl .nil) (fun _ _ _ _ _=>pg_tupK K (n:=2) rfl (zcw (zan (i:=0) (show(["one","other","by"]:List Str).Nodup from by decide+kernel) rfl (Or.inl rfl)) (zcw (zan (i:=1) (show(["one","other","by"]:List Str).Nodup from by decide+kernel) rfl (Or.inl rfl)) pgs_nil))) (fun _ _ _ _ _=>zdc) (fun _ _ _ _ _=>zax (zaa (zap zbx (pv 0) (pv 2)) (zaa (zap zbx (pv 1) (pv 2)) zab))))),?_⟩
 obtain⟨t,rs,h1,h2,h3⟩:=hW
 refine⟨_,rfl,a,_,_,.ref t,rfl,rfl,h1,rfl,t,rs,rfl,h2,fun hz=> ?_⟩
 have hlen:=h3.len
 rw[List.length_map]at hlen
 refine comp_tup (xs:=rs) (fun i acc σ H'=>Same H H'/\acc.length=i/\DVs K H' acc (((ts.take i).map (sh b)).map pairD)/\∃o1 o2,σ=[o1,o2,some (.int b)]) ⟨Same.refl _,rfl,.nil,_,_,rfl⟩ (fun i acc σ H' _ p=>p.1.tup h2) (fun i acc σ H' hi p=>by rw[p.2.1];exact Nat.le_refl _) hz (fun i x acc σ H' hx p=> ?_) (fun acc σ H' p=> ?_)
 ·obtain⟨sm,hl,hd,o1,o2,rfl⟩:=p
  have hi:i<ts.length:=by rw[<-hlen];exact(List.getElem?_eq_some_iff.mp hx).1
  obtain⟨x',d,e1,e2,e3⟩:=DVs.get' (i:=i) h3 (by rw[List.length_map];exact hi)
  rw[hx]at e1;cases e1
  rw[List.getElem?_map,List.getElem?_eq_getElem hi]at e2
  cases e2
  cases e3 with
  |tup hp tp=>
   cases tp with
   |cons ta tb=>
    cases tb with
    |cons tc td=>
     cases td
     cases ta
     cases tc
     refine⟨_,_,rfl,sm.tup hp,rfl,_,_,rfl,_,_,rfl,rfl,?_⟩
     refine⟨_,rfl,_,rfl,_,_,rfl,rfl,_,rfl,_,rfl,_,_,rfl,rfl,(by show 2<=sizeLine;decide),fun p hp'=> ?_⟩
     have s2:=zaf hp' (.tup [.int (ts[i].1+b),.int (ts[i].2+b)])
     refine⟨sm.trans s2,by rw[List.length_append,hl];rfl,?_,_,_,rfl⟩
     rw[List.take_add_one,List.getElem?_eq_getElem hi]
     simp only[Option.toList_some,List.map_append]
     refine(hd.same s2).append (.cons (.tup (SqT.of zac) (.cons (.int _) (.cons (.int _) .nil))) .nil)
 ·intro p1 hp1
  obtain⟨sm,hl,hd,_⟩:=p
  rw[hlen,List.take_length]at hd
  have s2:=zaf hp1 (.lst acc)
  exact q p1 _ (sm.trans s2) ⟨acc,zac,hd.same s2⟩ (sm.free hp1)
noncomputable def spBetween(K:W.Frag):Sp:=fun vs H Q _=>∃(n m:Int),vs=[.int n,.int m]/\0<=n/\n<=10/\0<=m/\m<=10/\∀l H',Same H H'->LstP K H' l (btw n m n.toNat)->Q (.ref l) H'
theorem sc_between:FnScope ["n","m","ties","place"] ["n","m"] (defScope zbl):=⟨rfl,rfl,rfl,by decide+kernel,rfl,by decide+kernel,by decide+kernel⟩
theorem ok_between{f:Addr}{fd:FuncData}(F:Fun K "ties_between" "ties_between" zbl f fd)(mR:mg "range"=none):FnOk P w K mg base CX0 1 f fd ["n","m"] (spBetween K):=by
 refine F.ok sc_between (fun vs H Q E h=> ?_) (fun cdv A outer s H vs Q E hr h=> ?_)
 ·obtain⟨n,m,rfl,_⟩:=h
  rfl
 obtain⟨n,m,rfl,hn0,hn1,hm0,hm1,q⟩:=h
 refine⟨_,zag (zas (i:=2) sc_between.nd rfl (Or.inl rfl) (zbm zab)) (zag (zdj PassesOwn.never rfl (zbv rfl mR (zaa (pv 0) zab)) (zan (i:=3) sc_between.nd rfl (Or.inr rfl)) (zae (zak (pe_bm PySem.F.plainAttrs_list PySem.F.slot_list_extend PySem.F.type_list_extend mt_extend (pv 2) (zaa
    (zch (own:=["k"]) (caps:=["place","n"]) (ix:=[3,0]) rfl (zbv rfl mR (zaa (pv 1) zab)) rfl rfl (.cons rfl rfl (.cons rfl rfl .nil)) (fun _ _ _ _ _=>zan (i:=0) (show(["k","place","n"]:List Str).Nodup from by decide+kernel) rfl (Or.inl rfl)) (fun _ _ _ _ _=>zdc) (fun _ _ _ _ _=>zax (zaa (pv 1) (zaa (zap zbx (pv 2) (pv 0)) zab)))) zab))))) (zae (zaq (pv 2)))),?_⟩
 refine⟨(by show 0<=sizeLine;decide),fun l hl=> ?_⟩
 refine⟨_,rfl,n,rfl,by omega,by omega,?_⟩
 refine zcz (n:=n.toNat) (fun i σ H'=>Same H H'/\(∃rs,H' l=some (.lst rs)/\DVs K H' rs ((btw n m i).map pairD))/\∃o,σ=[some (.int n),some (.int m),some (.ref l),o]) ⟨zaf hl _,⟨[],zac,.nil⟩,_,rfl⟩ (fun i σ H' hi p=> ?_) (fun σ H' p=> ?_)
 ·obtain⟨sm,⟨rs,hr1,hr2⟩,o,rfl⟩:=p
  have hlen:=hr2.len
  rw[List.length_map,btw_len]at hlen
  refine⟨_,rfl,.inl ⟨rfl,_,SqL.of hr1⟩,_,rfl,m,rfl,by omega,by omega,?_⟩
  refine zct (n:=m.toNat) (fun k acc σ H2=>Same H' H2/\acc.length=k/\DVs K H2 acc (((List.range k).map fun(k:Nat)=>((0+(i:Int)),n+(0+(k:Int)))).map pairD)/\∃o1,σ=[o1,some (.int (0+(i:Int))),some (.int n)]) ⟨Same.refl _,rfl,.nil,_,rfl⟩ (fun k acc σ H2 hk p=>by rw[p.2.1];exact Nat.le_refl _) (by rw[sizeLine_eq];omega) (fun k acc σ H2 hk p=> ?_) (fun acc σ H2 p=> ?_)
  ·obtain⟨s2,hl2,hd,o1,rfl⟩:=p
   refine⟨_,rfl,_,rfl,_,rfl,_,_,rfl,rfl,(by show 2<=sizeLine;decide),fun p hp=> ?_⟩
   have s3:=zaf hp (.tup [.int (0+(i:Int)),.int (n+(0+(k:Int)))])
   refine⟨s2.trans s3,by rw[List.length_append,hl2];rfl,?_,_,rfl⟩
   rw[List.range_succ,List.map_append,List.map_append]
   exact(hd.same s3).append (.cons (.tup (SqT.of zac) (.cons (.int _) (.cons (.int _) .nil))) .nil)
  ·intro p1 hp1
   obtain⟨s2,hl2,hd,_⟩:=p
   have s3:=zaf hp1 (.lst acc)
   have hr3:=s3 _ _ (s2 _ _ hr1)
   refine⟨l,p1,rs,acc,rfl,rfl,hr3,zac,?_,?_⟩
   ·have h1:i*m.toNat<=10*10:=Nat.mul_le_mul (by omega) (by omega)
    rw[sizeLine_eq];omega
   ·-- the list itself changes
    have hne:p1≠l:=fun e=>by rw[e]at hp1;rw[s2 _ _ hr1]at hp1;cases hp1
    have x4:SameX l (upd H2 p1 (.lst acc)) (upd (upd H2 p1 (.lst acc)) l (.lst (rs++acc))):=(SameX.refl _ _).upd
    refine⟨?_,⟨_,zac,?_⟩,_,rfl⟩
    ·intro b o hb
     have nb:b≠l:=fun e=>by rw[e,hl]at hb;cases hb
     exact x4 _ _ nb (s3 _ _ (s2 _ _ (sm _ _ hb)))
    ·rw[btw_succ]
     exact zcs x4 hr3 (by rw[List.map_append];exact((hr2.same s2).same s3).append (hd.same s3))
 ·obtain⟨sm,⟨rs,hr1,hr2⟩,o,rfl⟩:=p
  exact⟨_,rfl,q l _ sm ⟨rs,hr1,hr2⟩⟩
end
end Hs
namespace Hs
open PySem L2 HsD
section
variable{P:Program}{w:World}{K:W.Frag}{mg:Str->Option Value}{base:Heap}
noncomputable def bes(n1:Int)(t1 t2:List (Int×Int)):List (Int×Int):=t1.map (sh 0)++t2.map (sh n1)
noncomputable def acr(n1 n2:Int)(t1 t2:List (Int×Int)):List (Int×Int):=bes n1 t1 t2++btw n1 n2 n1.toNat
noncomputable def so7(n1:Int)(t1 t2:List (Int×Int))(tied:Bool)(i j:Int):Bool:=if j<n1 then decide ((i,j)∈t1)else if n1<=i then decide ((i-n1,j-n1)∈t2)else tied
theorem mem_bes{n1:Int}{t1 t2:List (Int×Int)}{p:Int×Int}:p∈bes n1 t1 t2↔p∈t1\/(p.1-n1,p.2-n1)∈t2:=by
 unfold bes
 rw[List.mem_append,mem_sh,mem_sh]
 have e:(p.1-0,p.2-0)=p:=Prod.ext (by show p.1-0=p.1;omega) (by show p.2-0=p.2;omega)
 rw[e]
theorem bes_sorted{n1 n2:Int}{t1 t2:List (Int×Int)}(h1:PairsOk n1 t1)(h2:PairsOk n2 t2)(s1:t1.Pairwise lt2)(s2:t2.Pairwise lt2):(bes n1 t1 t2).Pairwise lt2:=by
 unfold bes
 rw[List.pairwise_append]
 refine⟨sh_sorted s1,sh_sorted s2,fun p hp q hq=> ?_⟩
 rw[mem_sh]at hp hq
 have a:=h1.lt _ hp
 have b:=h2.lt _ hq
 exact .inl (by have a1:p.1-0<p.2-0:=a.2.1;have a2:p.2-0<n1:=a.2.2;have b1:0<=q.1-n1:=b.1;omega)
theorem bes_lt{n1 n2:Int}{t1 t2:List (Int×Int)}(h1:PairsOk n1 t1)(h2:PairsOk n2 t2)(hn1:0<=n1)(hn2:0<=n2):∀p∈bes n1 t1 t2,0<=p.1/\p.1<p.2/\p.2<n1+n2/\(p.2<n1\/n1<=p.1):=by
 intro p hp
 rw[mem_bes]at hp
 rcases hp with hp|hp
 ·have a:=h1.lt _ hp
  omega
 ·obtain⟨b1,b2,b3⟩:=h2.lt _ hp
  have b1':0<=p.1-n1:=b1
  have b2':p.1-n1<p.2-n1:=b2
  have b3':p.2-n1<n2:=b3
  omega
theorem acr_ok{n1 n2:Int}{t1 t2:List (Int×Int)}(h1:PairsOk n1 t1)(h2:PairsOk n2 t2)(hn1:0<=n1)(hn2:0<=n2)(s1:t1.Pairwise lt2)(s2:t2.Pairwise lt2):PairsOk (n1+n2) (acr n1 n2 t1 t2):=by
 unfold acr
 refine⟨List.nodup_append.mpr ⟨nodup_lt2 (bes_sorted h1 h2 s1 s2),nodup_lt2 (btw_sorted _ _ _),fun p hp q hq e=> ?_⟩,fun p hp=> ?_⟩
 ·subst e
  have a:=bes_lt h1 h2 hn1 hn2 p hp
  rw[mem_btw]at hq
  omega
 ·rw[List.mem_append]at hp
  rcases hp with hp|hp
  ·have a:=bes_lt h1 h2 hn1 hn2 p hp
   exact⟨a.1,a.2.1,a.2.2.1⟩
  ·rw[mem_btw]at hp
   omega
theorem acr_eq{n1 n2:Int}{t1 t2 ts:List (Int×Int)}(h1:PairsOk n1 t1)(h2:PairsOk n2 t2)(hn1:0<=n1)(hn2:0<=n2)(s1:t1.Pairwise lt2)(s2:t2.Pairwise lt2)(hp:ts.Perm (acr n1 n2 t1 t2))(hs:ts.Pairwise fun p q=>HT.lexLt (pl q) (pl p)=false):
  ts=rows (so7 n1 t1 t2 true) (n1+n2) (n1+n2).toNat:=by
 have hok:=acr_ok h1 h2 hn1 hn2 s1 s2
 refine rows_eq (by omega) (sorted_lt2 hs (hp.nodup_iff.mpr hok.nd)) fun p=> ?_
 rw[hp.mem_iff]
 unfold acr
 rw[List.mem_append,mem_bes,mem_btw]
 unfold so7
 constructor
 ·rintro((h|h)|h)
  ·have a:=h1.lt _ h
   refine⟨a.1,a.2.1,by omega,?_⟩
   rw[if_pos a.2.2]
   exact decide_eq_true h
  ·obtain⟨b1,b2,b3⟩:=h2.lt _ h
   have b1':0<=p.1-n1:=b1
   have b2':p.1-n1<p.2-n1:=b2
   have b3':p.2-n1<n2:=b3
   refine⟨by omega,by omega,by omega,?_⟩
   rw[if_neg (by omega),if_pos (by omega)]
   exact decide_eq_true h
  ·refine⟨by omega,by omega,by omega,?_⟩
   rw[if_neg (by omega),if_neg (by omega)]
 ·rintro⟨a1,a2,a3,a4⟩
  split at a4
  ·exact .inl (.inl (of_decide_eq_true a4))
  ·split at a4
   ·exact .inl (.inr (of_decide_eq_true a4))
   ·exact .inr (by omega)
noncomputable def spBeside(K:W.Frag):Sp:=fun vs H Q _=>∃(a b:Addr) (n1 n2:Int) (t1 t2:List (Int×Int)),vs=[.ref a,.ref b]/\WebV K H a n1 t1/\WebV K H b n2 t2/\WebOk n1 t1/\WebOk n2 t2/\t1.length<=45/\t2.length<=45/\n1+n2<=10/\∀r H',Same H H'->WebV K H' r (n1+n2) (bes n1 t1 t2)->Q (.ref r) H'
theorem sc_beside:FnScope ["one","other","n"] ["one","other"] (defScope zcq):=⟨rfl,rfl,rfl,by decide+kernel,rfl,by decide+kernel,by decide+kernel⟩
theorem ok_beside{f f1 f2 f3:Addr}{fd d1 d2 d3:FuncData}(F:Fun K "beside" "beside" zcq f fd)(D1:Dfn K mg "need_web" zay ["thing"] f1 d1)(G1:FnOk P w K mg base CX0 7 f1 d1 ["thing"] (spNeedWeb K))(D2:Dfn K mg "need_few" zbi ["n"] f2 d2)(G2:FnOk P w K mg base CX0 1 f2 d2 ["n"] (spNeedFew K))(D3:Dfn K mg "moved_ties" zby ["web","by"] f3 d3)(G3:FnOk P w K mg base CX0 1 f3 d3 ["web","by"] (spMoved K))(mT:mg "tuple"=none):
  FnOk P w K mg base CX0 8 f fd ["one","other"] (spBeside K):=by
 refine F.ok sc_beside (fun vs H Q E h=> ?_) (fun cdv A outer s H vs Q E hr h=> ?_)
 ·obtain⟨a,b,n1,n2,t1,t2,rfl,_⟩:=h
  rfl
 obtain⟨a,b,n1,n2,t1,t2,rfl,hA,hB,oA,oB,lA,lB,hn,q⟩:=h
 refine⟨_,zag (zak (zai G1 hr rfl D1.m D1.F.kp D1.b .nil pass0 (zaa (pv 0) zab))) (zag (zak (zai G1 hr rfl D1.m D1.F.kp D1.b .nil pass0 (zaa (pv 1) zab))) (zag (zas (i:=2) sc_beside.nd rfl (Or.inl rfl) (zap zbx (zbb zbh (pv 0) zad (fun _ _=>rfl)) (zbb zbh (pv 1) zad (fun _ _=>rfl)))) (zag (zak (zai (G2.mono (by decide)) hr rfl D2.m D2.F.kp D2.b .nil pass0 (zaa (pv 2) zab))) (zae (zaq (zax (zaa (pv 2) (zaa (zci zbs rfl mT (by decide+kernel) (zaa (zap op_cat
   (zai (G3.mono (by decide)) hr rfl D3.m D3.F.kp D3.b .nil pass0 (zaa (pv 0) (zaa zad zab)))
   (zai (G3.mono (by decide)) hr rfl D3.m D3.F.kp D3.b .nil pass0 (zaa (pv 1) (zaa (zbb zbh (pv 0) zad (fun _ _=>rfl)) zab)))) zab)) zab)))))))),?_⟩
 refine⟨_,rfl,_,_,rfl,hA.dv.dx,oA,fun H1 s1=> ?_⟩
 refine⟨_,rfl,_,_,rfl,(hB.same s1).dv.dx,oB,fun H2 s2=> ?_⟩
 have s12:=s1.trans s2
 obtain⟨ta,ra,a1,a2,a3⟩:=id (hA.same s12)
 obtain⟨tb,rb,b1,b2,b3⟩:=id (hB.same s12)
 refine⟨_,rfl,a,_,_,.int n1,rfl,rfl,a1,rfl,_,rfl,b,_,_,.int n2,rfl,rfl,b1,rfl,_,_,rfl,rfl,?_⟩
 refine⟨_,rfl,n1+n2,rfl,hn,?_⟩
 refine⟨_,rfl,_,rfl,a,n1,0,t1,rfl,hA.same s12,fun l1 H3 s3 p1 _=> ?_⟩
 refine⟨_,rfl,_,rfl,a,_,_,.int n1,rfl,rfl,s3.tup a1,rfl,b,n2,n1,t2,rfl,(hB.same s12).same s3,fun l2 H4 s4 p2 _=> ?_⟩
 obtain⟨r1,e1,v1⟩:=(p1.same s4).ex
 obtain⟨r2,e2,v2⟩:=p2.ex
 have hl1:=v1.len
 have hl2:=v2.len
 simp only[List.length_map]at hl1 hl2
 refine⟨l1,l2,r1,r2,rfl,rfl,e1,e2,by rw[sizeLine_eq];omega,fun p hp=> ?_⟩
 have s5:=zaf hp (.lst (r1++r2))
 refine⟨p,_,rfl,.inl ⟨SqL.of zac,fun t ht=> ?_⟩⟩
 have s6:=zaf ht (.tup (r1++r2))
 refine⟨(by show 2<=sizeLine;decide),fun r hr'=> ?_⟩
 have s7:=zaf hr' (.tup [.int (n1+n2),.ref t])
 refine q r _ (s12.trans (s3.trans (s4.trans (s5.trans (s6.trans s7))))) ⟨t,r1++r2,SqT.of zac,SqT.of (s7 _ _ zac),?_⟩
 unfold bes
 rw[List.map_append]
 exact((v1.append v2).same s5).same (s6.trans s7)
noncomputable def spAcross(K:W.Frag):Sp:=fun vs H Q _=>∃(a b:Addr) (n1 n2:Int) (t1 t2:List (Int×Int)),vs=[.ref a,.ref b]/\WebV K H a n1 t1/\WebV K H b n2 t2/\WebOk n1 t1/\WebOk n2 t2/\PairsOk n1 t1/\PairsOk n2 t2/\0<=n1/\0<=n2/\n1+n2<=10/\∀r H',Same H H'->WebV K H' r (n1+n2) (rows (so7 n1 t1 t2 true) (n1+n2) (n1+n2).toNat)->Q (.ref r) H'
theorem sc_across:FnScope ["one","other","web"] ["one","other"] (defScope zdf):=⟨rfl,rfl,rfl,by decide+kernel,rfl,by decide+kernel,by decide+kernel⟩
theorem ok_across{f f1 f2:Addr}{fd d1 d2:FuncData}(F:Fun K "across" "across" zdf f fd)(D1:Dfn K mg "beside" zcq ["one","other"] f1 d1)(G1:FnOk P w K mg base CX0 8 f1 d1 ["one","other"] (spBeside K))(D2:Dfn K mg "ties_between" zbl ["n","m"] f2 d2)(G2:FnOk P w K mg base CX0 1 f2 d2 ["n","m"] (spBetween K))(mT:mg "tuple"=none)(mS:mg "sorted"=none)(mLi:mg "list"=none):
  FnOk P w K mg base CX0 9 f fd ["one","other"] (spAcross K):=by
 refine F.ok sc_across (fun vs H Q E h=> ?_) (fun cdv A outer s H vs Q E hr h=> ?_)
 ·obtain⟨a,b,n1,n2,t1,t2,rfl,_⟩:=h
  rfl
 obtain⟨a,b,n1,n2,t1,t2,rfl,hA,hB,oA,oB,kA,kB,hn1,hn2,hn,q⟩:=h
 refine⟨_,zag (zas (i:=2) sc_across.nd rfl (Or.inl rfl) (zai G1 hr rfl D1.m D1.F.kp D1.b .nil pass0 (zaa (pv 0) (zaa (pv 1) zab)))) (zae (zaq (zax (zaa (zbb zbh (pv 2) zad (fun _ _=>rfl)) (zaa (zci zbs rfl mT (by decide+kernel) (zaa (zal zda rfl mS (by decide+kernel) (zaa (zap op_cat
   (zci call_list_of rfl mLi (by decide+kernel) (zaa (zbb zbh (pv 2) zad (fun _ _=>rfl)) zab))
   (zai (G2.mono (by decide)) hr rfl D2.m D2.F.kp D2.b .nil pass0 (zaa (zbb zbh (pv 0) zad (fun _ _=>rfl)) (zaa (zbb zbh (pv 1) zad (fun _ _=>rfl)) zab)))) zab)) zab)) zab))))),?_⟩
 refine⟨_,rfl,_,rfl,a,b,n1,n2,t1,t2,rfl,hA,hB,oA,oB,zcy kA (by omega),zcy kB (by omega),hn,fun wb H1 s1 hW=> ?_⟩
 obtain⟨t,rs,w1,w2,w3⟩:=hW
 obtain⟨ta,ra,a1,a2,a3⟩:=id (hA.same s1)
 obtain⟨tb,rb,b1,b2,b3⟩:=id (hB.same s1)
 refine⟨_,rfl,wb,_,_,.int (n1+n2),rfl,rfl,w1,rfl,?_⟩
 refine⟨_,rfl,wb,_,_,.ref t,rfl,rfl,w1,rfl,t,rs,rfl,.inr w2,fun l1 hl1=> ?_⟩
 have s2:=zaf hl1 (.lst rs)
 refine⟨_,rfl,a,_,_,.int n1,rfl,rfl,s2.tup a1,rfl,_,rfl,b,_,_,.int n2,rfl,rfl,s2.tup b1,rfl,n1,n2,rfl,hn1,by omega,hn2,by omega,fun l2 H3 s3 p2=> ?_⟩
 obtain⟨r2,e2,v2⟩:=p2.ex
 have g1:=w3.len
 have g2:=v2.len
 have v1:=(w3.same s2).same s3
 have v12:DVs K H3 (rs++r2) ((acr n1 n2 t1 t2).map pairD):=by
  unfold acr
  rw[List.map_append]
  exact v1.append v2
 have hok:=acr_ok kA kB hn1 hn2 (web_sorted oA) (web_sorted oB)
 have h45:=zcy hok hn
 have g3:=v12.len
 rw[List.length_append,List.length_map]at g3
 refine⟨l1,l2,rs,r2,rfl,rfl,s3 _ _ zac,e2,by rw[sizeLine_eq];omega,fun p hp=> ?_⟩
 have s4:=zaf hp (.lst (rs++r2))
 obtain⟨its,i1,i2,i3⟩:=items_of (v12.same s4)
 refine⟨p,its.map (fun p=>(p.1,pl p.2)),rfl,?_,?_,?_,fun l its' hl hperm hsort=> ?_⟩
 ·rw[List.map_map]
  have:(its.map ((fun(p:Addr×List Int)=>V.ref p.1)∘fun p=>(p.1,pl p.2)))=rs++r2:=i1.symm
  rw[this]
  exact SqL.of zac
 ·intro p hp
  rw[List.mem_map]at hp
  obtain⟨q',hq',rfl⟩:=hp
  exact⟨i3 _ hq',by simp[pl]⟩
 ·have:its.length=(acr n1 n2 t1 t2).length:=by rw[<-i2,List.length_map]
  rw[List.length_map];omega
 ·-- back to pairs
  have s5:=zaf hl (.lst (its'.map fun p=>V.ref p.1))
  obtain⟨jts,j1,j2⟩:∃jts:List (Addr×(Int×Int)),its'=jts.map (fun p=>(p.1,pl p.2))/\jts.Perm its:=by
   have hh:∀x∈its',∃y∈its,x=(y.1,pl y.2):=fun x hx=>by
    obtain⟨y,hy,e⟩:=List.mem_map.mp (hperm.mem_iff.mp hx)
    exact⟨y,hy,e.symm⟩
   let back:Addr×List Int->Addr×(Int×Int):=fun x=>(x.1,(x.2.getD 0 0,x.2.getD 1 0))
   have hb:∀y:Addr×(Int×Int),back (y.1,pl y.2)=y:=fun y=>rfl
   refine⟨its'.map back,?_,?_⟩
   ·rw[List.map_map]
    refine(List.map_id its').symm.trans (List.map_congr_left fun x hx=> ?_)
    obtain⟨y,_,rfl⟩:=hh x hx
    rfl
   ·have:=hperm.map back
    rw[List.map_map]at this
    have e:its.map (back∘fun p=>(p.1,pl p.2))=its:=by
     refine(List.map_congr_left fun x _=> ?_).trans (List.map_id its)
     rfl
    rw[e]at this
    exact this
  have hp2:(jts.map (·.2)).Perm (acr n1 n2 t1 t2):=by rw[<-i2];exact j2.map _
  have hs2:(jts.map (·.2)).Pairwise fun p q=>HT.lexLt (pl q) (pl p)=false:=by
   rw[j1,List.pairwise_map]at hsort
   rw[List.pairwise_map]
   exact hsort
  have e:=acr_eq kA kB hn1 hn2 (web_sorted oA) (web_sorted oB) hp2 hs2
  have items:∀y∈jts,SqT K (upd H3 p (.lst (rs++r2))) y.1 ((pl y.2).map V.int):=fun y hy=>i3 _ (j2.mem_iff.mp hy)
  have ev:its'.map (fun p=>V.ref p.1)=jts.map fun p=>V.ref p.1:=by rw[j1,List.map_map];rfl
  refine⟨l,_,rfl,.inl ⟨SqL.of zac,fun t' ht'=> ?_⟩⟩
  have s6:=zaf ht' (.tup (its'.map fun p=>V.ref p.1))
  refine⟨(by show 2<=sizeLine;decide),fun r hr'=> ?_⟩
  have s7:=zaf hr' (.tup [.int (n1+n2),.ref t'])
  refine q r _ (s1.trans (s2.trans (s3.trans (s4.trans (s5.trans (s6.trans s7)))))) ⟨t',its'.map (fun p=>V.ref p.1),SqT.of zac,SqT.of (s7 _ _ zac),?_⟩
  rw[<-e]
  have z:=((of_items jts items).same s5).same (s6.trans s7)
  rw[<-ev]at z
  exact z
end
end Hs
namespace Hs
open PySem L2 HsD
structure SetOk(n:Int)(xs:List Int):Prop where
 srt:xs.Pairwise (· < ·)
 lt:∀x∈xs,0<=x/\x<n
theorem SetOk.nil(n:Int):SetOk n []:=⟨.nil,fun _ h=>nomatch h⟩
theorem SetOk.len{n:Int}{xs:List Int}(h:SetOk n xs)(hn:n<=10):xs.length<=10:=by
 have h1:Sub n.toNat xs:=⟨h.srt.imp fun h e=>by omega,fun i hi=>by have:=h.lt i hi;omega⟩
 have:=h1.len
 omega
theorem SetOk.setD{n:Int}{xs:List Int}(h:SetOk n xs):HsD.setD n (.tuple (xs.map PyData.int))=true:=by
 unfold HsD.setD
 rw[Bool.and_eq_true]
 refine⟨?_,?_⟩
 ·rw[List.all_map,List.all_eq_true]
  intro x hx
  have:=h.lt x hx
  show(decide (0<=x)&&decide (x<n))=true
  rw[decide_eq_true this.1,decide_eq_true this.2];rfl
 ·rw[List.map_map]
  have e:xs.map (intD∘PyData.int)=xs:=(List.map_congr_left fun x _=>rfl).trans (List.map_id xs)
  rw[e]
  unfold risesI
  rw[List.all_eq_true]
  intro k hk
  rw[List.mem_range]at hk
  have h2:=List.pairwise_iff_getElem.mp h.srt k (k+1) (by omega) (by omega) (by omega)
  have g:∀j,(hj:j<xs.length)->xs.getD j 0=xs[j]:=fun j hj=>by rw[List.getD_eq_getElem?_getD,List.getElem?_eq_getElem hj];rfl
  rw[g k (by omega),g (k+1) (by omega)]
  exact decide_eq_true h2
noncomputable def so9(xs:List Int)(ts:List (Int×Int))(i j:Int):Bool:=hasTie ts (xs.getD i.toNat 0) (xs.getD j.toNat 0)
noncomputable def so9o(ts:List (Int×Int))(i j:Int):Bool:= !decide ((i,j)∈ts)
noncomputable def upto(n:Nat):List Int:=(List.range n).map fun(k:Nat)=>(k:Int)
theorem upto_ok(n:Int):SetOk n (upto n.toNat):=by
 unfold upto
 refine⟨?_,fun x hx=> ?_⟩
 ·rw[List.pairwise_map]
  exact List.pairwise_lt_range.imp fun h=>by omega
 ·obtain⟨k,hk,rfl⟩:=List.mem_map.mp hx
  rw[List.mem_range]at hk
  omega
section
variable{P:Program}{w:World}{K:W.Frag}{mg:Str->Option Value}{base:Heap}
noncomputable def spOther(K:W.Frag):Sp:=fun vs H Q _=>∃(a:Addr) (n:Int) (ts:List (Int×Int)),vs=[.ref a]/\WebIs K H a n ts/\∀r H',Same H H'->WebV K H' r n (rows (so9o ts) n n.toNat)->Q (.ref r) H'
theorem sc_other:FnScope ["web"] ["web"] (defScope zca):=⟨rfl,rfl,rfl,by decide+kernel,rfl,by decide+kernel,by decide+kernel⟩
theorem ok_other{f f1 f3:Addr}{fd d1 d3:FuncData}(F:Fun K "other_web" "other_web" zca f fd)(D1:Dfn K mg "need_web" zay ["thing"] f1 d1)(G1:FnOk P w K mg base CX0 7 f1 d1 ["thing"] (spNeedWeb K))(D3:Dfn K mg "pairs" zdh ["n"] f3 d3)(G3':FnOk P w K mg base CX0 1 f3 d3 ["n"] (spAllP K))(mT:mg "tuple"=none):
  FnOk P w K mg base CX0 8 f fd ["web"] (spOther K):=by
 have G3:FnOk P w K mg base CX0 7 f3 d3 ["n"] (spAllP K):=G3'.mono (by decide)
 refine F.ok sc_other (fun vs H Q E h=> ?_) (fun cdv A outer s H vs Q E hr h=> ?_)
 ·obtain⟨a,n,ts,rfl,_⟩:=h
  rfl
 obtain⟨a,n,ts,rfl,hA,q⟩:=h
 refine⟨_,zag (zak (zai G1 hr rfl D1.m D1.F.kp D1.b .nil pass0 (zaa (pv 0) zab))) (zae (zaq (zax (zaa (zbb zbh (pv 0) zad (fun _ _=>rfl)) (zaa (zci zbs rfl mT (by decide+kernel) (zaa
   (zch (own:=["tie"]) (caps:=["web"]) (ix:=[0]) rfl (zbr (zai G3 hr rfl D3.m D3.F.kp D3.b .nil pass0 (zaa (zbb zbh (pv 0) zad (fun _ _=>rfl)) zab))) rfl rfl (.cons rfl rfl .nil) (fun _ _ _ _ _=>zan (i:=0) (show(["tie","web"]:List Str).Nodup from by decide+kernel) rfl (Or.inl rfl)) (fun _ _ _ _ _=>zdl (zaj (op_notInDK K hr.units) (pv 0) (zbb (ix_tupK K) (pv 1) zad (fun _ _=>rfl)) (by with_unfolding_all rfl))) (fun _ _ _ _ _=>pv 0)) zab)) zab))))),?_⟩
 refine⟨_,rfl,_,_,rfl,hA.web.dv.dx,hA.ok,fun H1 s1=> ?_⟩
 obtain⟨ta,ra,a1,a2,a3⟩:=id (hA.same s1).web
 have hA0:=hA.h0
 have hA1:=hA.h1
 refine⟨_,rfl,a,_,_,.int n,rfl,rfl,a1,rfl,?_⟩
 refine⟨_,rfl,a,_,_,.int n,rfl,rfl,a1,rfl,n,rfl,hA0,hA1,fun l H3 s3 p1=> ?_⟩
 obtain⟨rs,e1,v1⟩:=p1.ex
 refine⟨l,rs,rfl,SqL.of e1,fun hz=> ?_⟩
 have hlen:=v1.len
 rw[List.length_map]at hlen
 have s13:=s1.trans s3
 refine zcj (xs:=rs) (fun i acc σ H'=>Same H3 H'/\acc.length<=i/\DVs K H' acc (((rows tt n n.toNat).take i).filter (fun p=>so9o ts p.1 p.2)|>.map pairD)/\∃o,σ=[o,some (.ref a)]) ⟨Same.refl _,Nat.le_refl _,.nil,_,rfl⟩ (fun i acc σ H' _ p=>p.1.seq (SqL.of e1)) (fun i acc σ H' hi p=>p.2.1) hz (fun i x acc σ H' hx p=> ?_) (fun acc σ H' p=> ?_)
 ·obtain⟨sm,hl,hd,o,rfl⟩:=p
  obtain⟨t,hi,rfl,ht⟩:=pair_at v1 hx
  have sA:=s3.trans sm
  have hp:DV K H' (.ref t) (pairD (rows tt n n.toNat)[i]):= .tup (sm.tup ht) (.cons (.int _) (.cons (.int _) .nil))
  refine⟨_,rfl,_,rfl,a,_,_,.ref ta,rfl,rfl,sA.tup a1,rfl,ta,ra,_,_,rfl,.inr (sA.tup a2),a3.same sA,hp,lay_pairs ts,rfl,(by show max 0 (max 0 0)+1<=60;decide),_,rfl,?_⟩
  rw[any_pair,filter_take hi]
  refine ite2 (fun c=> ?_) (fun c=> ?_)
  ·refine⟨_,rfl,sm,by rw[List.length_append];show acc.length+1<=i+1;omega,?_,_,rfl⟩
   rw[if_pos (show so9o ts (rows tt n n.toNat)[i].fst (rows tt n n.toNat)[i].snd=true from c),List.map_append]
   exact hd.append (.cons hp .nil)
  ·refine⟨sm,by omega,?_,_,rfl⟩
   rw[if_neg (show¬so9o ts (rows tt n n.toNat)[i].fst (rows tt n n.toNat)[i].snd=true from c),List.append_nil]
   exact hd
 ·intro p1 hp1
  obtain⟨sm,hl,hd,_⟩:=p
  rw[hlen,List.take_length,rows_filter]at hd
  have s5:=zaf hp1 (.lst acc)
  refine⟨p1,_,rfl,.inl ⟨SqL.of zac,fun t ht=> ?_⟩⟩
  have s6:=zaf ht (.tup acc)
  refine⟨(by show 2<=sizeLine;decide),fun r hr'=> ?_⟩
  have s7:=zaf hr' (.tup [.int n,.ref t])
  exact q r _ (s13.trans (sm.trans (s5.trans (s6.trans s7)))) ⟨t,acc,SqT.of zac,SqT.of (s7 _ _ zac),hd.same (s5.trans (s6.trans s7))⟩
noncomputable def spCut(K:W.Frag):Sp:=fun vs H Q _=>∃(a sm:Addr) (n:Int) (ts:List (Int×Int)) (xs:List Int),vs=[.ref a,.ref sm]/\WebIs K H a n ts/\SqT K H sm (xs.map V.int)/\SetOk n xs/\
 ∀r H',Same H H'->WebV K H' r (xs.length:Int) (rows (so9 xs ts) (xs.length:Int) (xs.length:Int).toNat)->Q (.ref r) H'
theorem sc_cut:FnScope ["web","some","kept"] ["web","some"] (defScope zcl):=⟨rfl,rfl,rfl,by decide+kernel,rfl,by decide+kernel,by decide+kernel⟩
theorem ok_cut{f f1 f2 f3 f4:Addr}{fd d1 d2 d3 d4:FuncData}(F:Fun K "cut_down" "cut_down" zcl f fd)(D1:Dfn K mg "need_web" zay ["thing"] f1 d1)(G1:FnOk P w K mg base CX0 7 f1 d1 ["thing"] (spNeedWeb K))(D2:Dfn K mg "need_set" zcd ["web","thing"] f2 d2)(G2':FnOk P w K mg base CX0 5 f2 d2 ["web","thing"] (spNeedSet K))(D3:Dfn K mg "pairs" zdh ["n"] f3 d3)(G3':FnOk P w K mg base CX0 1 f3 d3 ["n"] (spAllP K))(D4:Dfn K mg "has_tie" zcp ["web","one","other"] f4 d4)(G4':FnOk P w K mg base CX0 1 f4 d4 ["web","one","other"] (spHas K))(mT:mg "tuple"=none)(mL:mg "len"=none):
  FnOk P w K mg base CX0 8 f fd ["web","some"] (spCut K):=by
 have G2:FnOk P w K mg base CX0 7 f2 d2 ["web","thing"] (spNeedSet K):=G2'.mono (by decide)
 have G3:FnOk P w K mg base CX0 7 f3 d3 ["n"] (spAllP K):=G3'.mono (by decide)
 have G4:FnOk P w K mg base CX0 7 f4 d4 ["web","one","other"] (spHas K):=G4'.mono (by decide)
 refine F.ok sc_cut (fun vs H Q E h=> ?_) (fun cdv A outer s H vs Q E hr h=> ?_)
 ·obtain⟨a,sm,n,ts,xs,rfl,_⟩:=h
  rfl
 obtain⟨a,sm,n,ts,xs,rfl,hA,hX,hok,q⟩:=h
 refine⟨_,zag (zak (zai G1 hr rfl D1.m D1.F.kp D1.b .nil pass0 (zaa (pv 0) zab))) (zag (zak (zai G2 hr rfl D2.m D2.F.kp D2.b .nil pass0 (zaa (pv 0) (zaa (pv 1) zab)))) (zag (ps_setComp (i:=2) (own:=["i","j"]) (caps:=["web","some"]) (ix:=[0,1]) sc_cut.nd rfl (Or.inl rfl) rfl (zbr (zai G3 hr rfl D3.m D3.F.kp D3.b .nil pass0 (zaa (zal zck rfl mL PySem.boot_len (zaa (pv 1) zab)) zab))) rfl rfl (.cons rfl rfl (.cons rfl rfl .nil)) (fun _ _ _ _ _=>pg_tupK K (n:=2) rfl (zcw (zan (i:=0) (show(["i","j","web","some"]:List Str).Nodup from by decide+kernel) rfl (Or.inl rfl)) (zcw (zan (i:=1) (show(["i","j","web","some"]:List Str).Nodup from by decide+kernel) rfl (Or.inl rfl)) pgs_nil))) (fun _ _ _ _ _=>zdl (pt_val (zai G4 hr rfl D4.m D4.F.kp D4.b .nil pass0 (zaa (pv 2) (zaa (zbb (ix_tupK K) (pv 3) (pv 0) (fun _ _=>rfl)) (zaa (zbb (ix_tupK K) (pv 3) (pv 1) (fun _ _=>rfl)) zab)))))) (fun _ _ _ _ _=>zax (zaa (pv 0) (zaa (pv 1) zab)))) (zae (zaq (zax (zaa (zal zck rfl mL PySem.boot_len (zaa (pv 1) zab)) (zaa (zci zbs rfl mT (by decide+kernel) (zaa (pv 2) zab)) zab))))))),?_⟩
 have hA1:=hA.h1
 have h10:=hok.len hA1
 refine⟨_,rfl,_,_,rfl,hA.web.dv.dx,hA.ok,fun H1 s1=> ?_⟩
 obtain⟨ta,ra,a1,a2,a3⟩:=id (hA.same s1).web
 have hDX:DX K H1 (.ref sm) (.tuple (xs.map PyData.int)):=(DV.tup (s1.tup hX) (DVs.ints xs)).dx
 refine⟨_,rfl,_,rfl,a,n,_,_,_,rfl,a1,hDX,hok.setD,fun H2 s2=> ?_⟩
 have s12:=s1.trans s2
 refine⟨_,rfl,sm,_,rfl,.inr (s12.tup hX),fun _=>⟨_,rfl,by omega,by rw[List.length_map];omega,fun l H3 s3 p1=> ?_⟩⟩
 rw[List.length_map]at p1
 obtain⟨rs,e1,v1⟩:=p1.ex
 refine⟨l,rs,rfl,SqL.of e1,fun hz=> ?_⟩
 have hlen:=v1.len
 rw[List.length_map]at hlen
 have s13:=s12.trans s3
 generalize hR:rows tt (xs.length:Int) (xs.length:Int).toNat=R at *
 have hR':∀p∈R,0<=p.1/\p.1<p.2/\p.2<(xs.length:Int):=fun p hp=>by rw[<-hR,zdg]at hp;exact⟨hp.1,hp.2.2.1,hp.2.2.2.1⟩
 refine zcj (xs:=rs) (fun i acc σ H'=>Same H3 H'/\acc.length<=i/\DVs K H' acc ((R.take i).filter (fun p=>so9 xs ts p.1 p.2)|>.map pairD)/\∃o1 o2,σ=[o1,o2,some (.ref a),some (.ref sm)]) ⟨Same.refl _,Nat.le_refl _,.nil,_,_,rfl⟩ (fun i acc σ H' _ p=>p.1.seq (SqL.of e1)) (fun i acc σ H' hi p=>p.2.1) hz (fun i x acc σ H' hx p=> ?_) (fun acc σ H' p=> ?_)
 ·obtain⟨sm',hl,hd,o1,o2,rfl⟩:=p
  obtain⟨t,hi,rfl,ht⟩:=pair_at v1 hx
  have sA:=s13.trans sm'
  have hb:=hR' _ (List.getElem_mem hi)
  refine⟨t,_,rfl,sm'.tup ht,rfl,_,_,rfl,_,_,rfl,rfl,?_⟩
  refine⟨_,rfl,_,rfl,_,rfl,sm,_,_,_,rfl,rfl,sA.tup hX,at_xs hb.1 (by omega),_,rfl,_,rfl,sm,_,_,_,rfl,rfl,sA.tup hX,at_xs (by omega) hb.2.2,?_⟩
  refine⟨a,n,_,_,ts,rfl,(hA.same sA).web,fun H5 s5=>⟨_,rfl,?_⟩⟩
  rw[filter_take hi]
  refine ite2 (fun c=> ?_) (fun c=> ?_)
  ·refine⟨_,rfl,_,rfl,(by show 2<=sizeLine;decide),fun p hp=> ?_⟩
   have s6:=zaf hp (.tup [.int (R[i]).1,.int (R[i]).2])
   refine⟨sm'.trans (s5.trans s6),by rw[List.length_append];show acc.length+1<=i+1;omega,?_,_,_,rfl⟩
   rw[if_pos (show so9 xs ts _ _=true from c),List.map_append]
   exact(hd.same (s5.trans s6)).append (.cons (.tup (SqT.of zac) (.cons (.int _) (.cons (.int _) .nil))) .nil)
  ·refine⟨sm'.trans s5,by omega,?_,_,_,rfl⟩
   rw[if_neg (show¬so9 xs ts _ _=true from c),List.append_nil]
   exact hd.same s5
 ·intro p1 hp1
  obtain⟨sm',hl,hd,_⟩:=p
  rw[hlen,List.take_length,<-hR,rows_filter]at hd
  have s5:=zaf hp1 (.lst acc)
  have sA:=s13.trans (sm'.trans s5)
  refine⟨_,rfl,sm,_,rfl,.inr (sA.tup hX),fun _=>⟨_,rfl,p1,_,rfl,.inl ⟨SqL.of zac,fun t ht=> ?_⟩⟩⟩
  have s6:=zaf ht (.tup acc)
  refine⟨(by show 2<=sizeLine;decide),fun r hr'=> ?_⟩
  rw[List.length_map]
  have s7:=zaf hr' (.tup [.int (xs.length:Int),.ref t])
  exact q r _ (sA.trans (s6.trans s7)) ⟨t,acc,SqT.of zac,SqT.of (s7 _ _ zac),hd.same (s5.trans (s6.trans s7))⟩
end
end Hs
namespace Hs
open PySem L2 HsD
noncomputable def so8(m:Int)(t1 t2:List (Int×Int))(i j:Int):Bool:=if i/m=j/m then hasTie t2 (i %m) (j %m)else hasTie t1 (i/m) (j/m)
section
variable{P:Program}{w:World}{K:W.Frag}{mg:Str->Option Value}{base:Heap}
noncomputable def spTieIn(K:W.Frag):Sp:=fun vs H Q _=>∃(a b t:Addr) (n1 n2 i j:Int) (t1 t2:List (Int×Int)),vs=[.ref a,.ref b,.ref t]/\WebV K H a n1 t1/\WebV K H b n2 t2/\0<n2/\n2<=10/\SqT K H t [.int i,.int j]/\∀H',Same H H'->Q (.bl (so8 n2 t1 t2 i j)) H'
theorem sc_tieIn:FnScope ["one","other","tie","m","i","j"] ["one","other","tie"] (defScope zbg):=⟨rfl,rfl,rfl,by decide+kernel,rfl,by decide+kernel,by decide+kernel⟩
theorem ok_tieIn{f f1:Addr}{fd d1:FuncData}(F:Fun K "is_tie_within" "is_tie_within" zbg f fd)(D1:Dfn K mg "has_tie" zcp ["web","one","other"] f1 d1)(G1:FnOk P w K mg base CX0 1 f1 d1 ["web","one","other"] (spHas K)):
  FnOk P w K mg base CX0 2 f fd ["one","other","tie"] (spTieIn K):=by
 refine F.ok sc_tieIn (fun vs H Q E h=> ?_) (fun cdv A outer s H vs Q E hr h=> ?_)
 ·obtain⟨a,b,t,n1,n2,i,j,t1,t2,rfl,_⟩:=h
  rfl
 obtain⟨a,b,t,n1,n2,i,j,t1,t2,rfl,hA,hB,hn,hn',ht,q⟩:=h
 refine⟨_,zag (zas (i:=3) sc_tieIn.nd rfl (Or.inl rfl) (zbb zbh (pv 1) zad (fun _ _=>rfl))) (zag (zas (i:=4) sc_tieIn.nd rfl (Or.inl rfl) (zap op_fdivL (zbb zbh (pv 2) zad (fun _ _=>rfl)) (pv 3))) (zag (zas (i:=5) sc_tieIn.nd rfl (Or.inl rfl) (zap op_fdivL (zbb zbh (pv 2) zad (fun _ _=>rfl)) (pv 3))) (zag (zam (zaj zau (pv 4) (pv 5) (nomark _)) (zae (zaq (zai G1 hr rfl D1.m D1.F.kp D1.b .nil pass0 (zaa (pv 1) (zaa (zap op_mod (zbb zbh (pv 2) zad (fun _ _=>rfl)) (pv 3)) (zaa (zap op_mod (zbb zbh (pv 2) zad (fun _ _=>rfl)) (pv 3)) zab)))))) zaw) (zae (zaq (zai G1 hr rfl D1.m D1.F.kp D1.b .nil pass0 (zaa (pv 0) (zaa (pv 4) (zaa (pv 5) zab))))))))),?_⟩
 obtain⟨tb,rb,b1,b2,b3⟩:=id hB
 refine⟨_,rfl,b,_,_,.int n2,rfl,rfl,b1,rfl,?_⟩
 refine⟨_,rfl,t,_,_,.int i,rfl,rfl,ht,rfl,_,rfl,_,_,rfl,rfl,⟨hn,by omega⟩,?_⟩
 refine⟨_,rfl,t,_,_,.int j,rfl,rfl,ht,rfl,_,rfl,_,_,rfl,rfl,⟨hn,by omega⟩,?_⟩
 refine⟨_,rfl,_,rfl,rfl,_,rfl,?_⟩
 refine ite2 (fun c=> ?_) (fun c=> ?_)
 ·have e:i/n2=j/n2:=by have:=of_decide_eq_true c;injection this
  refine⟨_,rfl,_,rfl,t,_,_,.int i,rfl,rfl,ht,rfl,_,rfl,_,_,rfl,rfl,hn,_,rfl,t,_,_,.int j,rfl,rfl,ht,rfl,_,rfl,_,_,rfl,rfl,hn,?_⟩
  refine⟨b,n2,_,_,t2,rfl,hB,fun H' sm=> ?_⟩
  have:=q H' sm
  unfold so8 at this
  rw[if_pos e]at this
  exact this
 ·have e:¬(i/n2=j/n2):=fun z=>c (decide_eq_true (congrArg V.int z))
  refine⟨_,rfl,_,rfl,_,rfl,a,n1,_,_,t1,rfl,hA,fun H' sm=> ?_⟩
  have:=q H' sm
  unfold so8 at this
  rw[if_neg e]at this
  exact this
noncomputable def spWithin(K:W.Frag):Sp:=fun vs H Q _=>∃(a b:Addr) (n1 n2:Int) (t1 t2:List (Int×Int)),vs=[.ref a,.ref b]/\WebIs K H a n1 t1/\WebIs K H b n2 t2/\n1*n2<=10/\∀r H',Same H H'->WebV K H' r (n1*n2) (rows (so8 n2 t1 t2) (n1*n2) (n1*n2).toNat)->Q (.ref r) H'
theorem sc_within:FnScope ["one","other","n"] ["one","other"] (defScope zdd):=⟨rfl,rfl,rfl,by decide+kernel,rfl,by decide+kernel,by decide+kernel⟩
theorem ok_within{f f1 f2 f3 f4:Addr}{fd d1 d2 d3 d4:FuncData}(F:Fun K "within" "within" zdd f fd)(D1:Dfn K mg "need_web" zay ["thing"] f1 d1)(G1:FnOk P w K mg base CX0 7 f1 d1 ["thing"] (spNeedWeb K))(D2:Dfn K mg "need_few" zbi ["n"] f2 d2)(G2':FnOk P w K mg base CX0 1 f2 d2 ["n"] (spNeedFew K))(D3:Dfn K mg "pairs" zdh ["n"] f3 d3)(G3':FnOk P w K mg base CX0 1 f3 d3 ["n"] (spAllP K))(D4:Dfn K mg "is_tie_within" zbg ["one","other","tie"] f4 d4)(G4':FnOk P w K mg base CX0 2 f4 d4 ["one","other","tie"] (spTieIn K))(mT:mg "tuple"=none):
  FnOk P w K mg base CX0 8 f fd ["one","other"] (spWithin K):=by
 have G2:FnOk P w K mg base CX0 7 f2 d2 ["n"] (spNeedFew K):=G2'.mono (by decide)
 have G3:FnOk P w K mg base CX0 7 f3 d3 ["n"] (spAllP K):=G3'.mono (by decide)
 have G4:FnOk P w K mg base CX0 7 f4 d4 ["one","other","tie"] (spTieIn K):=G4'.mono (by decide)
 refine F.ok sc_within (fun vs H Q E h=> ?_) (fun cdv A outer s H vs Q E hr h=> ?_)
 ·obtain⟨a,b,n1,n2,t1,t2,rfl,_⟩:=h
  rfl
 obtain⟨a,b,n1,n2,t1,t2,rfl,hA,hB,hn,q⟩:=h
 refine⟨_,zag (zak (zai G1 hr rfl D1.m D1.F.kp D1.b .nil pass0 (zaa (pv 0) zab))) (zag (zak (zai G1 hr rfl D1.m D1.F.kp D1.b .nil pass0 (zaa (pv 1) zab))) (zag (zas (i:=2) sc_within.nd rfl (Or.inl rfl) (zap op_mul (zbb zbh (pv 0) zad (fun _ _=>rfl)) (zbb zbh (pv 1) zad (fun _ _=>rfl)))) (zag (zak (zai G2 hr rfl D2.m D2.F.kp D2.b .nil pass0 (zaa (pv 2) zab))) (zae (zaq (zax (zaa (pv 2) (zaa (zci zbs rfl mT (by decide+kernel) (zaa
   (zch (own:=["tie"]) (caps:=["one","other"]) (ix:=[0,1]) rfl (zbr (zai G3 hr rfl D3.m D3.F.kp D3.b .nil pass0 (zaa (pv 2) zab))) rfl rfl (.cons rfl rfl (.cons rfl rfl .nil)) (fun _ _ _ _ _=>zan (i:=0) (show(["tie","one","other"]:List Str).Nodup from by decide+kernel) rfl (Or.inl rfl)) (fun _ _ _ _ _=>zdl (pt_val (zai G4 hr rfl D4.m D4.F.kp D4.b .nil pass0 (zaa (pv 1) (zaa (pv 2) (zaa (pv 0) zab)))))) (fun _ _ _ _ _=>pv 0)) zab)) zab)))))))),?_⟩
 refine⟨_,rfl,_,_,rfl,hA.web.dv.dx,hA.ok,fun H1 s1=> ?_⟩
 refine⟨_,rfl,_,_,rfl,(hB.same s1).web.dv.dx,hB.ok,fun H2 s2=> ?_⟩
 have s12:=s1.trans s2
 obtain⟨ta,ra,a1,a2,a3⟩:=id (hA.same s12).web
 obtain⟨tb,rb,b1,b2,b3⟩:=id (hB.same s12).web
 have hA0:=hA.h0
 have hA1:=hA.h1
 have hB0:=hB.h0
 have hB1:=hB.h1
 have hm0:0<=n1*n2:=Int.mul_nonneg hA0 hB0
 refine⟨_,rfl,a,_,_,.int n1,rfl,rfl,a1,rfl,_,rfl,b,_,_,.int n2,rfl,rfl,b1,rfl,_,_,rfl,rfl,.inl ⟨by omega,by omega⟩,?_⟩
 generalize hmm:((fun i j=>V.int (i*j)) _ _:V)=vm
 obtain⟨m,em,hm⟩:∃m:Int,vm= .int m/\n1*n2=m:=⟨_,hmm.symm,rfl⟩
 subst em
 simp only[hm]at hn q hm0
 refine⟨_,rfl,m,rfl,hn,?_⟩
 refine⟨_,rfl,_,rfl,m,rfl,hm0,hn,fun l H3 s3 p1=> ?_⟩
 obtain⟨rs,e1,v1⟩:=p1.ex
 refine⟨l,rs,rfl,SqL.of e1,fun hz=> ?_⟩
 have hlen:=v1.len
 rw[List.length_map]at hlen
 have hpos:∀i:Nat,(h:i<(rows tt m m.toNat).length)->0<n2:=fun i h=>by
  have hmem:=List.getElem_mem h
  rw[zdg]at hmem
  have hmp:0<m:=by omega
  rcases Int.lt_or_le 0 n2 with c|c
  ·exact c
  ·have:n2=0:=by omega
   rw[this,Int.mul_zero]at hm
   omega
 have s123:=s12.trans s3
 refine zcj (xs:=rs) (fun i acc σ H'=>Same H3 H'/\acc.length<=i/\DVs K H' acc (((rows tt m m.toNat).take i).filter (fun p=>so8 n2 t1 t2 p.1 p.2)|>.map pairD)/\∃o,σ=[o,some (.ref a),some (.ref b)]) ⟨Same.refl _,Nat.le_refl _,.nil,_,rfl⟩ (fun i acc σ H' _ p=>p.1.seq (SqL.of e1)) (fun i acc σ H' hi p=>p.2.1) hz (fun i x acc σ H' hx p=> ?_) (fun acc σ H' p=> ?_)
 ·obtain⟨sm,hl,hd,o,rfl⟩:=p
  obtain⟨t,hi,rfl,ht⟩:=pair_at v1 hx
  refine⟨_,rfl,_,rfl,_,rfl,a,b,t,n1,n2,_,_,t1,t2,rfl,(hA.same (s123.trans sm)).web,(hB.same (s123.trans sm)).web,hpos i hi,hB1,sm.tup ht,fun H5 s5=>⟨_,rfl,?_⟩⟩
  rw[filter_take hi]
  refine ite2 (fun c=> ?_) (fun c=> ?_)
  ·refine⟨_,rfl,sm.trans s5,by rw[List.length_append];show acc.length+1<=i+1;omega,?_,_,rfl⟩
   rw[if_pos c,List.map_append]
   exact(hd.same s5).append (.cons (.tup ((sm.trans s5).tup ht) (.cons (.int _) (.cons (.int _) .nil))) .nil)
  ·refine⟨sm.trans s5,by omega,?_,_,rfl⟩
   rw[if_neg c,List.append_nil]
   exact hd.same s5
 ·intro p1 hp1
  obtain⟨sm,hl,hd,_⟩:=p
  rw[hlen,List.take_length,rows_filter]at hd
  have s5:=zaf hp1 (.lst acc)
  refine⟨p1,_,rfl,.inl ⟨SqL.of zac,fun t ht=> ?_⟩⟩
  have s6:=zaf ht (.tup acc)
  refine⟨(by show 2<=sizeLine;decide),fun r hr'=> ?_⟩
  have s7:=zaf hr' (.tup [.int m,.ref t])
  exact q r _ (s123.trans (sm.trans (s5.trans (s6.trans s7)))) ⟨t,acc,SqT.of zac,SqT.of (s7 _ _ zac),hd.same (s5.trans (s6.trans s7))⟩
end
end Hs
namespace Hs
open PySem L2 HsD
section
variable{P:Program}{w:World}{K:W.Frag}{mg:Str->Option Value}{base:Heap}
structure Kinds(K:W.Frag)(cs:List Addr)(C:Addr)(bs:List Bool):Prop where
 ok:ExcCls K C
 one:PySem.W.kitOne K (.ref C) (.type "ValueError")=some true
 len:cs.length=9
 get:∀(i:Nat) (c:Addr),cs[i]? =some c->∃b,bs[i]? =some b/\PySem.W.kitOne K (.ref C) (.ref c)=some b
 lenB:bs.length=9
theorem kinds_mk{c0 c1 c2 c3 c4 c5 c6 c7 c8 C:Addr}{b0 b1 b2 b3 b4 b5 b6 b7 b8:Bool}(ok:ExcCls K C)(one:PySem.W.kitOne K (.ref C) (.type "ValueError")=some true)(k0:PySem.W.kitOne K (.ref C) (.ref c0)=some b0)(k1:PySem.W.kitOne K (.ref C) (.ref c1)=some b1)(k2:PySem.W.kitOne K (.ref C) (.ref c2)=some b2)(k3:PySem.W.kitOne K (.ref C) (.ref c3)=some b3)(k4:PySem.W.kitOne K (.ref C) (.ref c4)=some b4)(k5:PySem.W.kitOne K (.ref C) (.ref c5)=some b5)(k6:PySem.W.kitOne K (.ref C) (.ref c6)=some b6)(k7:PySem.W.kitOne K (.ref C) (.ref c7)=some b7)(k8:PySem.W.kitOne K (.ref C) (.ref c8)=some b8):
  Kinds K [c0,c1,c2,c3,c4,c5,c6,c7,c8] C [b0,b1,b2,b3,b4,b5,b6,b7,b8]:=
 ⟨ok,one,rfl,(fun i c e=>by
  match i,e with
  |0,e=>cases e;exact⟨_,rfl,k0⟩
  |1,e=>cases e;exact⟨_,rfl,k1⟩
  |2,e=>cases e;exact⟨_,rfl,k2⟩
  |3,e=>cases e;exact⟨_,rfl,k3⟩
  |4,e=>cases e;exact⟨_,rfl,k4⟩
  |5,e=>cases e;exact⟨_,rfl,k5⟩
  |6,e=>cases e;exact⟨_,rfl,k6⟩
  |7,e=>cases e;exact⟨_,rfl,k7⟩
  |8,e=>cases e;exact⟨_,rfl,k8⟩
  |_+9,e=>cases e),rfl⟩
noncomputable def spKinds(K:W.Frag)(cs:List Addr):Sp:=fun vs H Q _=>∃(a C:Addr) (bs:List Bool),vs=[.ref a]/\H a=some (ExcO a C)/\Kinds K cs C bs/\∀r H',Same H H'->H' r=some (.lst (bs.map V.bl))->Q (.ref r) H'
theorem sc_kinds:FnScope ["e","kinds"] ["e"] (defScope zbq):=⟨rfl,rfl,rfl,by decide+kernel,rfl,by decide+kernel,by decide+kernel⟩
theorem ok_kinds{f c0 c1 c2 c3 c4 c5 c6 c7 c8:Addr}{fd:FuncData}(F:Fun K "_law_b_kinds" "_law_b_kinds" zbq f fd)(mi:mg "isinstance"=none)(m0:mg "NoFold"=some (.ref c0))(m1:mg "NoNumber"=some (.ref c1))(m2:mg "NoPlace"=some (.ref c2))(m3:mg "NoRow"=some (.ref c3))(m4:mg "NoText"=some (.ref c4))(m5:mg "NoTie"=some (.ref c5))(m6:mg "NoWants"=some (.ref c6))(m7:mg "NoWeb"=some (.ref c7))(m8:mg "TooMany"=some (.ref c8)):
  FnOk P w K mg base CX0 1 f fd ["e"] (spKinds K [c0,c1,c2,c3,c4,c5,c6,c7,c8]):=by
 refine F.ok sc_kinds (fun vs H Q E h=> ?_) (fun cdv A outer s H vs Q E hr h=> ?_)
 ·obtain⟨a,C,bs,rfl,_⟩:=h
  rfl
 obtain⟨a,C,bs,rfl,hA,hK,q⟩:=h
 refine⟨_,zag (zas (i:=1) sc_kinds.nd rfl (Or.inl rfl) (zbm (zaa (zal zcr rfl mi (by decide+kernel) (zaa (pv 0) (zaa (zbw rfl m0 (v:= .ref c0) rfl) zab))) (zaa (zal zcr rfl mi (by decide+kernel) (zaa (pv 0) (zaa (zbw rfl m1 (v:= .ref c1) rfl) zab)))
   (zaa (zal zcr rfl mi (by decide+kernel) (zaa (pv 0) (zaa (zbw rfl m2 (v:= .ref c2) rfl) zab))) (zaa (zal zcr rfl mi (by decide+kernel) (zaa (pv 0) (zaa (zbw rfl m3 (v:= .ref c3) rfl) zab))) zab)))))) (zag (zas (i:=1) sc_kinds.nd rfl (Or.inl rfl) (zap op_cat (pv 1) (zbm (zaa (zal zcr rfl mi (by decide+kernel) (zaa (pv 0) (zaa (zbw rfl m4 (v:= .ref c4) rfl) zab))) (zaa (zal zcr rfl mi (by decide+kernel) (zaa (pv 0) (zaa (zbw rfl m5 (v:= .ref c5) rfl) zab)))
   (zaa (zal zcr rfl mi (by decide+kernel) (zaa (pv 0) (zaa (zbw rfl m6 (v:= .ref c6) rfl) zab))) (zaa (zal zcr rfl mi (by decide+kernel) (zaa (pv 0) (zaa (zbw rfl m7 (v:= .ref c7) rfl) zab))) zab))))))) (zae (zaq (zap op_cat (pv 1) (zbm (zaa (zal zcr rfl mi (by decide+kernel) (zaa (pv 0) (zaa (zbw rfl m8 (v:= .ref c8) rfl) zab))) zab)))))),?_⟩
 obtain⟨b0,e0,k0⟩:=hK.get 0 _ rfl
 obtain⟨b1,e1,k1⟩:=hK.get 1 _ rfl
 obtain⟨b2,e2,k2⟩:=hK.get 2 _ rfl
 obtain⟨b3,e3,k3⟩:=hK.get 3 _ rfl
 obtain⟨b4,e4,k4⟩:=hK.get 4 _ rfl
 obtain⟨b5,e5,k5⟩:=hK.get 5 _ rfl
 obtain⟨b6,e6,k6⟩:=hK.get 6 _ rfl
 obtain⟨b7,e7,k7⟩:=hK.get 7 _ rfl
 obtain⟨b8,e8,k8⟩:=hK.get 8 _ rfl
 have hbs:bs=[b0,b1,b2,b3,b4,b5,b6,b7,b8]:=by
  refine List.ext_getElem? fun i=> ?_
  by_cases hi:i<9
  ·match i,hi with
   |0,_=>exact e0
   |1,_=>exact e1
   |2,_=>exact e2
   |3,_=>exact e3
   |4,_=>exact e4
   |5,_=>exact e5
   |6,_=>exact e6
   |7,_=>exact e7
   |8,_=>exact e8
  ·rw[List.getElem?_eq_none (by have:=hK.lenB;omega),List.getElem?_eq_none (by show 9<=i;omega)]
 have ok:=hK.ok
 refine⟨_,rfl,a,C,c0,b0,rfl,hA,ok,k0,_,rfl,a,C,c1,b1,rfl,hA,ok,k1,_,rfl,a,C,c2,b2,rfl,hA,ok,k2,_,rfl,a,C,c3,b3,rfl,hA,ok,k3,(by show 4<=sizeLine;decide),fun l hl=> ?_⟩
 have s1:=zaf hl (.lst [.bl b0,.bl b1,.bl b2,.bl b3])
 have hA1:=s1 _ _ hA
 refine⟨_,rfl,_,rfl,a,C,c4,b4,rfl,hA1,ok,k4,_,rfl,a,C,c5,b5,rfl,hA1,ok,k5,_,rfl,a,C,c6,b6,rfl,hA1,ok,k6,_,rfl,a,C,c7,b7,rfl,hA1,ok,k7,(by show 4<=sizeLine;decide),fun l2 hl2=> ?_⟩
 have s2:=zaf hl2 (.lst [.bl b4,.bl b5,.bl b6,.bl b7])
 refine⟨l,l2,_,_,rfl,rfl,s2 _ _ zac,zac,(by show 8<=sizeLine;decide),fun l3 hl3=> ?_⟩
 have s3:=zaf hl3 (.lst ([.bl b0,.bl b1,.bl b2,.bl b3]++[.bl b4,.bl b5,.bl b6,.bl b7]))
 have hA3:=s3 _ _ (s2 _ _ hA1)
 refine⟨_,rfl,_,rfl,a,C,c8,b8,rfl,hA3,ok,k8,(by show 1<=sizeLine;decide),fun l4 hl4=> ?_⟩
 have s4:=zaf hl4 (.lst [.bl b8])
 refine⟨l3,l4,_,_,rfl,rfl,s4 _ _ zac,zac,(by show 9<=sizeLine;decide),fun l5 hl5=> ?_⟩
 have s5:=zaf hl5 (.lst (([.bl b0,.bl b1,.bl b2,.bl b3]++[.bl b4,.bl b5,.bl b6,.bl b7])++[.bl b8]))
 refine q l5 _ (s1.trans (s2.trans (s3.trans (s4.trans s5)))) ?_
 rw[hbs]
 exact zac
noncomputable def words:List Str:=["fold","number","place","row","text","tie","wants","web","many"]
noncomputable def spWord(K:W.Frag)(cs:List Addr):Sp:=fun vs H Q _=>∃(a C:Addr) (bs:List Bool) (j:Nat) (x:Str),vs=[.ref a]/\H a=some (ExcO a C)/\Kinds K cs C bs/\bs.countP id=1/\bs[j]? =some true/\(∀m,m<j->bs[m]? =some false)/\words[j]? =some x/\∀H',Same H H'->Q (.str x) H'
theorem sc_word:FnScope ["e","kinds"] ["e"] (defScope zbo):=⟨rfl,rfl,rfl,by decide+kernel,rfl,by decide+kernel,by decide+kernel⟩
theorem ok_word{f f1:Addr}{fd d1:FuncData}{cs:List Addr}(F:Fun K "_law_b_word" "_law_b_word" zbo f fd)(D1:Dfn K mg "_law_b_kinds" zbq ["e"] f1 d1)(G1:FnOk P w K mg base CX0 1 f1 d1 ["e"] (spKinds K cs))(mi:mg "isinstance"=none)(mV:mg "ValueError"=none):
  FnOk P w K mg base CX0 2 f fd ["e"] (spWord K cs):=by
 refine F.ok sc_word (fun vs H Q E h=> ?_) (fun cdv A outer s H vs Q E hr h=> ?_)
 ·obtain⟨a,C,bs,j,x,rfl,_⟩:=h
  rfl
 obtain⟨a,C,bs,j,x,rfl,hA,hK,h1,h2,h3,h4,q⟩:=h
 refine⟨_,zag (zam (zaj op_isN (pv 0) pe_non (nomark _)) (zae (zaq zav)) zaw) (zag (zas (i:=1) sc_word.nd rfl (Or.inl rfl) (zai G1 hr rfl D1.m D1.F.kp D1.b .nil pass0 (zaa (pv 0) zab))) (zag (zam (PW.pt (pw_or (zaj op_ne (pe_bm PySem.F.plainAttrs_list PySem.F.slot_list_count PySem.F.type_list_count mt_count (pv 1) (zaa pe_bl zab)) zad (nomark _)) (pw_or1 (pt_not (pt_val (zal call_isiT rfl mi (by decide+kernel) (zaa (pv 0) (zaa (pe_bltn rfl mV (v:= .ty "ValueError") (by decide+kernel) rfl) zab)))))))) (zae (zaq zav)) zaw) (zae (zaq (zbb zcc (zbm (zaa zav (zaa zav (zaa zav (zaa zav (zaa zav (zaa zav (zaa zav (zaa zav (zaa zav zab))))))))))
   (pe_bm PySem.F.plainAttrs_list PySem.F.slot_list_index PySem.F.type_list_index mt_index (pv 1) (zaa pe_bl zab)) (fun _ _=>rfl)))))),?_⟩
 refine⟨_,rfl,rfl,_,rfl,?_⟩
 refine iteF ?_
 refine⟨_,rfl,a,C,bs,rfl,hA,hK,fun l H1 s1 e1=> ?_⟩
 refine⟨_,rfl,.inl ⟨rfl,_,SqL.of e1⟩,l,bs,rfl,rfl,e1,rfl,_,rfl,?_⟩
 rw[h1]
 refine iteF ?_
 refine⟨_,rfl,a,C,"ValueError",true,rfl,s1 _ _ hA,hK.ok,hK.one,_,rfl,?_⟩
 refine iteF ?_
 refine⟨(by show 9<=sizeLine;decide),fun l2 hl2=> ?_⟩
 have s2:=zaf hl2 (.lst [.str "fold",.str "number",.str "place",.str "row",.str "text",.str "tie",.str "wants",.str "web",.str "many"])
 have e2:=s2 _ _ e1
 refine⟨_,rfl,.inl ⟨rfl,_,SqL.of e2⟩,l,bs,j,rfl,rfl,e2,h2,h3,by rw[hK.lenB];decide,?_⟩
 refine⟨l2,_,_,.str x,rfl,rfl,SqL.of zac,?_,q _ (s1.trans s2)⟩
 refine atI_nat ?_
 have z:([.str "fold",.str "number",.str "place",.str "row",.str "text",.str "tie",.str "wants",.str "web",.str "many"]:List V)=words.map V.str:=rfl
 rw[z,List.getElem?_map,h4]
 rfl
end
end Hs
namespace Hs
open PySem L2 HsD
noncomputable abbrev ER(C:Addr)(H:Hp)(E:XK):Prop:=∀e H',Same H H'->H' e=none->E (.ref e) (some C) (upd H' e (ExcO e C))
theorem bl_ite{b:Bool}{A B:Prop}(h:b=true)(hA:A):if b=true then A else B:=by rw[h];exact iteT hA
theorem bl_itf{b:Bool}{A B:Prop}(h:b=false)(hB:B):if b=true then A else B:=by rw[h];exact iteF hB
inductive Rf
 |web|place|number|many
structure Cls where
 wb:Addr
 pl:Addr
 nm:Addr
 mn:Addr
noncomputable def Cls.of(c:Cls):Rf->Addr
 | .web=>c.wb
 | .place=>c.pl
 | .number=>c.nm
 | .many=>c.mn
noncomputable def Rf.word:Rf->Str
 | .web=>"web"
 | .place=>"place"
 | .number=>"number"
 | .many=>"many"
noncomputable def numD(a b:Int):PyData->Bool
 | .int i=>decide (a<=i)&&decide (i<=b)
 |_=>false
section
variable{P:Program}{w:World}{K:W.Frag}{mg:Str->Option Value}{base:Heap}
noncomputable def spNeedWebX(K:W.Frag)(C:Addr):Sp:=fun vs H Q E=>∃(x:V) (d:PyData),vs=[x]/\DX K H x d/\webD d=false/\ER C H E
theorem ok_needWebX{f f1 C:Addr}{fd d1:FuncData}{bmB:List Value}{B newId initId:String}(F:Fun K "need_web" "need_web" zay f fd)(D1:Dfn K mg "is_web" zde ["thing"] f1 d1)(G1:FnOk P w K mg base CX0 6 f1 d1 ["thing"] (spWeb K))
  (FB:ExcBaseFacts B newId initId bmB)(mC:mg "NoWeb"=some (.ref C))(qC:PySem.W.excIn K C bmB newId=true):FnOk P w K mg base (CX1 P w) 7 f fd ["thing"] (spNeedWebX K C):=by
 refine F.okX sc_needWeb (fun vs H Q E h=> ?_) (fun cdv A outer s H vs Q E hr h=> ?_)
 ·obtain⟨x,d,rfl,_⟩:=h
  rfl
 obtain⟨x,d,rfl,hx,hw,q⟩:=h
 refine⟨_,zae (zam (pt_not (pt_val (zai G1 hr rfl D1.m D1.F.kp D1.b .nil pass0 (zaa (pv 0) zab)))) (zae (ps_raise FB mC qC (zaa zav zab) rfl)) zaw),?_⟩
 refine⟨_,rfl,x,d,rfl,hx,fun H' sm=>⟨_,rfl,?_⟩⟩
 rw[hw]
 exact iteT ⟨by decide,fun e he=>q e H' sm he⟩
noncomputable def spNeedSetX(K:W.Frag)(C:Addr):Sp:=fun vs H Q E=>∃(a:Addr) (n:Int) (t x:V) (d:PyData),vs=[.ref a,x]/\SqT K H a [.int n,t]/\DX K H x d/\setD n d=false/\ER C H E
theorem ok_needSetX{f f1 C:Addr}{fd d1:FuncData}{bmB:List Value}{B newId initId:String}(F:Fun K "need_set" "need_set" zcd f fd)(D1:Dfn K mg "is_set" zcv ["n","thing"] f1 d1)(G1:FnOk P w K mg base CX0 4 f1 d1 ["n","thing"] (spSet K))
  (FB:ExcBaseFacts B newId initId bmB)(mC:mg "NoPlace"=some (.ref C))(qC:PySem.W.excIn K C bmB newId=true):FnOk P w K mg base (CX1 P w) 5 f fd ["web","thing"] (spNeedSetX K C):=by
 refine F.okX sc_needSet (fun vs H Q E h=> ?_) (fun cdv A outer s H vs Q E hr h=> ?_)
 ·obtain⟨a,n,t,x,d,rfl,_⟩:=h
  rfl
 obtain⟨a,n,t,x,d,rfl,hS,hx,hw,q⟩:=h
 refine⟨_,zae (zam (pt_not (pt_val (zai G1 hr rfl D1.m D1.F.kp D1.b .nil pass0 (zaa (zbb zbh (pv 0) zad (fun _ _=>rfl)) (zaa (pv 1) zab))))) (zae (ps_raise FB mC qC (zaa zav zab) rfl)) zaw),?_⟩
 refine⟨_,rfl,a,_,_,.int n,rfl,rfl,hS,rfl,_,rfl,n,x,d,rfl,hx,fun H' sm=>⟨_,rfl,?_⟩⟩
 rw[hw]
 exact iteT ⟨by decide,fun e he=>q e H' sm he⟩
noncomputable def NoWebV(K:W.Frag)(H:Hp)(x:V):Prop:=∃d,DX K H x d/\webD d=false
theorem NoWebV.same{H H':Hp}{x:V}(h:NoWebV K H x)(e:Same H H'):NoWebV K H' x:=by
 obtain⟨d,h1,h2⟩:=h
 exact⟨d,h1.same e,h2⟩
noncomputable def spNeedFewX(K:W.Frag)(C:Addr):Sp:=fun vs H Q E=>∃n:Int,vs=[.int n]/\10<n/\ER C H E
theorem ok_needFewX{f C:Addr}{fd:FuncData}{tk:Tok}{bmB:List Value}{B newId initId:String}(F:Fun K "need_few" "need_few" zbi f fd)(mM:mg "MOST_PLACES"=some (.int 10 tk))
  (FB:ExcBaseFacts B newId initId bmB)(mC:mg "TooMany"=some (.ref C))(qC:PySem.W.excIn K C bmB newId=true):FnOk P w K mg base (CX1 P w) 1 f fd ["n"] (spNeedFewX K C):=by
 refine F.okX sc_needFew (fun vs H Q E h=> ?_) (fun cdv A outer s H vs Q E hr h=> ?_)
 ·obtain⟨n,rfl,_⟩:=h
  rfl
 obtain⟨n,rfl,hn,q⟩:=h
 refine⟨_,zae (zam (zaj op_gt (pv 0) (zbw rfl mM (v:= .int 10) ⟨_,rfl⟩) (nomark _)) (zae (ps_raise FB mC qC (zaa zav zab) rfl)) zaw),?_⟩
 refine⟨_,rfl,_,_,rfl,rfl,_,rfl,?_⟩
 rw[decide_eq_true (show(10:Int)<n by omega)]
 exact iteT ⟨by decide,fun e he=>q e H (Same.refl _) he⟩
noncomputable def spFromTo(K:W.Frag):Sp:=fun vs H Q _=>∃a b i:Int,vs=[.int a,.int b,.int i]/\a<=i/\i<=b/\Q .non H
theorem sc_fromTo:FnScope ["least","most","thing"] ["least","most","thing"] (defScope zat):=⟨rfl,rfl,rfl,by decide+kernel,rfl,by decide+kernel,by decide+kernel⟩
theorem ok_fromTo{f f1:Addr}{fd d1:FuncData}(F:Fun K "need_from_to" "need_from_to" zat f fd)(D1:Dfn K mg "is_whole" zbu ["thing"] f1 d1)(G1:FnOk P w K mg base CX0 1 f1 d1 ["thing"] (spWhole K)):
  FnOk P w K mg base CX0 2 f fd ["least","most","thing"] (spFromTo K):=by
 refine F.ok sc_fromTo (fun vs H Q E h=> ?_) (fun cdv A outer s H vs Q E hr h=> ?_)
 ·obtain⟨_,_,_,rfl,_⟩:=h
  rfl
 obtain⟨a,b,i,rfl,h0,h1,q⟩:=h
 refine⟨_,zae (zam (PW.pt (pw_or (pt_not (pt_val (zai G1 hr rfl D1.m D1.F.kp D1.b .nil pass0 (zaa (pv 2) zab)))) (pw_or1 (pt_not (pt_chain op_le op_le (pv 0) (pv 2) (pv 1)))))) zah zaw),?_⟩
 refine⟨_,rfl,.int i,.int i,rfl,.int i,_,rfl,?_⟩
 refine iteF ?_
 refine⟨_,rfl,_,rfl,_,_,rfl,rfl,_,rfl,?_⟩
 refine bl_ite (decide_eq_true h0) ?_
 refine⟨_,rfl,_,_,rfl,rfl,_,rfl,?_⟩
 refine bl_itf (by rw[decide_eq_true h1];rfl) q
noncomputable def spFromToX(K:W.Frag)(C:Addr):Sp:=fun vs H Q E=>∃(a b:Int) (x:V) (d:PyData),vs=[.int a,.int b,x]/\0<=a/\a<=10/\0<=b/\b<=10/\DX K H x d/\numD a b d=false/\ER C H E
theorem small_log{a:Int}(h0:0<=a)(h1:a<=10):a.natAbs.log2<1920:=by
 have h:a.natAbs<=10:=by omega
 refine Nat.lt_of_le_of_lt (Nat.log2_le_self _) ?_
 omega
theorem small_len{a:Int}(h0:0<=a)(h1:a<=10):(toString a:String).length<=2:=by
 have:a=0\/a=1\/a=2\/a=3\/a=4\/a=5\/a=6\/a=7\/a=8\/a=9\/a=10:=by omega
 rcases this with rfl|rfl|rfl|rfl|rfl|rfl|rfl|rfl|rfl|rfl|rfl<;>decide+kernel
theorem cat_le{x y:Str}{m n:Nat}(h:x.length<=m)(h':y.length<=n):(x++y).length<=m+n:=by rw[strLen_append];omega
theorem ok_fromToX{f f1 C:Addr}{fd d1:FuncData}{bmB:List Value}{B newId initId:String}(F:Fun K "need_from_to" "need_from_to" zat f fd)(D1:Dfn K mg "is_whole" zbu ["thing"] f1 d1)(G1:FnOk P w K mg base CX0 1 f1 d1 ["thing"] (spWhole K))
  (FB:ExcBaseFacts B newId initId bmB)(mC:mg "NoNumber"=some (.ref C))(qC:PySem.W.excIn K C bmB newId=true):FnOk P w K mg base (CX1 P w) 2 f fd ["least","most","thing"] (spFromToX K C):=by
 refine F.okX sc_fromTo (fun vs H Q E h=> ?_) (fun cdv A outer s H vs Q E hr h=> ?_)
 ·obtain⟨_,_,_,_,rfl,_⟩:=h
  rfl
 obtain⟨a,b,x,d,rfl,a0,a1,b0,b1,hx,hn,q⟩:=h
 refine⟨_,zae (zam (PW.pt (pw_or (pt_not (pt_val (zai G1 hr rfl D1.m D1.F.kp D1.b .nil pass0 (zaa (pv 2) zab)))) (pw_or1 (pt_not (pt_chain op_le op_le (pv 0) (pv 2) (pv 1)))))) (zae (ps_raise FB mC qC (zaa (pe_joined (pj_cons zav (pj_cons (pe_fmtI (pv 0)) (pj_cons zav (pj_cons (pe_fmtI (pv 1)) pj_nil))))) zab) rfl)) zaw),?_⟩
 have ea:(Str.ofString (toString a)).length<=2:=by rw[ofString_length];exact small_len a0 a1
 have eb:(Str.ofString (toString b)).length<=2:=by rw[ofString_length];exact small_len b0 b1
 have t1:(Str.empty++Str.ofString "this is no number from ").length<=0+30:=cat_le (by decide) (by decide+kernel)
 have t2:=cat_le t1 ea
 have t3:((Str.empty++Str.ofString "this is no number from ")++Str.ofString (toString a)++Str.ofString " to ").length<=0+30+2+4:=cat_le t2 (by decide+kernel)
 have t4:=cat_le t3 eb
 have f1:=Nat.le_trans t1 (show 0+30<=sizeLine by rw[sizeLine_eq];decide)
 have f2:=Nat.le_trans t2 (show 0+30+2<=sizeLine by rw[sizeLine_eq];decide)
 have f3:=Nat.le_trans t3 (show 0+30+2+4<=sizeLine by rw[sizeLine_eq];decide)
 have f4:=Nat.le_trans t4 (show 0+30+2+4+2<=sizeLine by rw[sizeLine_eq];decide)
 refine⟨_,rfl,x,d,rfl,hx,_,rfl,?_⟩
 cases hx with
 |int i=>
  refine iteF ?_
  refine⟨_,rfl,_,rfl,_,_,rfl,rfl,_,rfl,?_⟩
  refine ite2 (fun c=> ?_) (fun c=> ?_)
  ·refine⟨_,rfl,_,_,rfl,rfl,_,rfl,?_⟩
   have e:decide (i<=b)=false:=by
    have h:(decide (a<=i)&&decide (i<=b))=false:=hn
    rw[c]at h;exact h
   refine bl_ite (by rw[e];rfl) ?_
   exact⟨_,rfl,f1,_,rfl,a,rfl,small_log a0 a1,_,rfl,f2,_,rfl,f3,_,rfl,b,rfl,small_log b0 b1,_,rfl,f4,f4,(by show 1<=16;decide),fun e he=>q e H (Same.refl _) he⟩
  ·refine⟨_,rfl,iteT ?_⟩
   exact⟨_,rfl,f1,_,rfl,a,rfl,small_log a0 a1,_,rfl,f2,_,rfl,f3,_,rfl,b,rfl,small_log b0 b1,_,rfl,f4,f4,(by show 1<=16;decide),fun e he=>q e H (Same.refl _) he⟩
 |_=>
  refine iteT ?_
  refine iteT ?_
  exact⟨_,rfl,f1,_,rfl,a,rfl,small_log a0 a1,_,rfl,f2,_,rfl,f3,_,rfl,b,rfl,small_log b0 b1,_,rfl,f4,f4,(by show 1<=16;decide),fun e he=>q e H (Same.refl _) he⟩
end
end Hs
namespace Hs
open PySem L2 HsD
section
variable{P:Program}{w:World}{K:W.Frag}{mg:Str->Option Value}{base:Heap}
noncomputable def TwoX(K:W.Frag)(H:Hp)(f:Int->Int->Int)(x y:V)(r:Rf):Prop:=
 (r= .web/\NoWebV K H x)\/(r= .web/\(∃(a:Addr) (n:Int) (ts:List (Int×Int)),x= .ref a/\WebIs K H a n ts)/\NoWebV K H y)\/
 (r= .many/\∃(a b:Addr) (n m:Int) (ts us:List (Int×Int)),x= .ref a/\y= .ref b/\WebIs K H a n ts/\WebIs K H b m us/\10<f n m)
noncomputable def spTwoX(K:W.Frag)(c:Cls)(f:Int->Int->Int):Sp:=fun vs H Q E=>∃x y r,vs=[x,y]/\TwoX K H f x y r/\ER (c.of r) H E
theorem ok_besideX{f f1 f2:Addr}{fd d1 d2:FuncData}{c:Cls}(F:Fun K "beside" "beside" zcq f fd)(D1:Dfn K mg "need_web" zay ["thing"] f1 d1)(G1:FnOk P w K mg base CX0 7 f1 d1 ["thing"] (spNeedWeb K))(X1:FnOk P w K mg base (CX1 P w) 7 f1 d1 ["thing"] (spNeedWebX K c.wb))(D2:Dfn K mg "need_few" zbi ["n"] f2 d2)(X2:FnOk P w K mg base (CX1 P w) 1 f2 d2 ["n"] (spNeedFewX K c.mn)):
  FnOk P w K mg base (CX1 P w) 8 f fd ["one","other"] (spTwoX K c fun n m=>n+m):=by
 refine F.okX sc_beside (fun vs H Q E h=> ?_) (fun cdv A outer s H vs Q E hr h=> ?_)
 ·obtain⟨_,_,_,rfl,_⟩:=h
  rfl
 obtain⟨x,y,r,rfl,h,q⟩:=h
 rcases h with⟨rfl,d,hx,hw⟩|⟨rfl,⟨a,n,ts,rfl,hA⟩,d,hx,hw⟩|⟨rfl,a,b,n,m,ts,us,rfl,rfl,hA,hB,hgt⟩
 ·refine⟨_,zag (zak (zai (E:=E) X1 hr rfl D1.m D1.F.kp D1.b .nil pass1 (zaa (pv 0) zab))) zah,?_⟩
  exact⟨_,rfl,x,d,rfl,hx,hw,q⟩
 ·refine⟨_,zag (zak (zai G1 hr rfl D1.m D1.F.kp D1.b .nil pass0 (zaa (pv 0) zab))) (zag (zak (zai (E:=E) X1 hr rfl D1.m D1.F.kp D1.b .nil pass1 (zaa (pv 1) zab))) zah),?_⟩
  refine⟨_,rfl,_,_,rfl,hA.web.dv.dx,hA.ok,fun H1 s1=> ?_⟩
  exact⟨_,rfl,y,d,rfl,hx.same s1,hw,fun e H' s2 he=>q e H' (s1.trans s2) he⟩
 ·refine⟨_,zag (zak (zai G1 hr rfl D1.m D1.F.kp D1.b .nil pass0 (zaa (pv 0) zab))) (zag (zak (zai G1 hr rfl D1.m D1.F.kp D1.b .nil pass0 (zaa (pv 1) zab))) (zag (zas (i:=2) sc_beside.nd rfl (Or.inl rfl) (zap zbx (zbb zbh (pv 0) zad (fun _ _=>rfl)) (zbb zbh (pv 1) zad (fun _ _=>rfl)))) (zag (zak (zai (E:=E) (X2.mono (by decide)) hr rfl D2.m D2.F.kp D2.b .nil pass1 (zaa (pv 2) zab))) zah))),?_⟩
  refine⟨_,rfl,_,_,rfl,hA.web.dv.dx,hA.ok,fun H1 s1=> ?_⟩
  refine⟨_,rfl,_,_,rfl,(hB.same s1).web.dv.dx,hB.ok,fun H2 s2=> ?_⟩
  have s12:=s1.trans s2
  obtain⟨ta,ra,a1,a2,a3⟩:=id (hA.same s12).web
  obtain⟨tb,rb,b1,b2,b3⟩:=id (hB.same s12).web
  refine⟨_,rfl,a,_,_,.int n,rfl,rfl,a1,rfl,_,rfl,b,_,_,.int m,rfl,rfl,b1,rfl,_,_,rfl,rfl,?_⟩
  exact⟨_,rfl,n+m,rfl,hgt,fun e H' s3 he=>q e H' (s12.trans s3) he⟩
theorem ok_acrossX{f f1:Addr}{fd d1:FuncData}{c:Cls}(F:Fun K "across" "across" zdf f fd)(D1:Dfn K mg "beside" zcq ["one","other"] f1 d1)(X1:FnOk P w K mg base (CX1 P w) 8 f1 d1 ["one","other"] (spTwoX K c fun n m=>n+m)):
  FnOk P w K mg base (CX1 P w) 9 f fd ["one","other"] (spTwoX K c fun n m=>n+m):=by
 refine F.okX sc_across (fun vs H Q E h=> ?_) (fun cdv A outer s H vs Q E hr h=> ?_)
 ·obtain⟨_,_,_,rfl,_⟩:=h
  rfl
 obtain⟨x,y,r,rfl,h,q⟩:=h
 refine⟨_,zag (zas (i:=2) sc_across.nd rfl (Or.inl rfl) (zai (E:=E) X1 hr rfl D1.m D1.F.kp D1.b .nil pass1 (zaa (pv 0) (zaa (pv 1) zab)))) zah,?_⟩
 exact⟨_,rfl,_,rfl,x,y,r,rfl,h,q⟩
theorem ok_withinX{f f1 f2:Addr}{fd d1 d2:FuncData}{c:Cls}(F:Fun K "within" "within" zdd f fd)(D1:Dfn K mg "need_web" zay ["thing"] f1 d1)(G1:FnOk P w K mg base CX0 7 f1 d1 ["thing"] (spNeedWeb K))(X1:FnOk P w K mg base (CX1 P w) 7 f1 d1 ["thing"] (spNeedWebX K c.wb))(D2:Dfn K mg "need_few" zbi ["n"] f2 d2)(X2:FnOk P w K mg base (CX1 P w) 1 f2 d2 ["n"] (spNeedFewX K c.mn)):
  FnOk P w K mg base (CX1 P w) 8 f fd ["one","other"] (spTwoX K c fun n m=>n*m):=by
 refine F.okX sc_within (fun vs H Q E h=> ?_) (fun cdv A outer s H vs Q E hr h=> ?_)
 ·obtain⟨_,_,_,rfl,_⟩:=h
  rfl
 obtain⟨x,y,r,rfl,h,q⟩:=h
 rcases h with⟨rfl,d,hx,hw⟩|⟨rfl,⟨a,n,ts,rfl,hA⟩,d,hx,hw⟩|⟨rfl,a,b,n,m,ts,us,rfl,rfl,hA,hB,hgt⟩
 ·refine⟨_,zag (zak (zai (E:=E) X1 hr rfl D1.m D1.F.kp D1.b .nil pass1 (zaa (pv 0) zab))) zah,?_⟩
  exact⟨_,rfl,x,d,rfl,hx,hw,q⟩
 ·refine⟨_,zag (zak (zai G1 hr rfl D1.m D1.F.kp D1.b .nil pass0 (zaa (pv 0) zab))) (zag (zak (zai (E:=E) X1 hr rfl D1.m D1.F.kp D1.b .nil pass1 (zaa (pv 1) zab))) zah),?_⟩
  refine⟨_,rfl,_,_,rfl,hA.web.dv.dx,hA.ok,fun H1 s1=> ?_⟩
  exact⟨_,rfl,y,d,rfl,hx.same s1,hw,fun e H' s2 he=>q e H' (s1.trans s2) he⟩
 ·refine⟨_,zag (zak (zai G1 hr rfl D1.m D1.F.kp D1.b .nil pass0 (zaa (pv 0) zab))) (zag (zak (zai G1 hr rfl D1.m D1.F.kp D1.b .nil pass0 (zaa (pv 1) zab))) (zag (zas (i:=2) sc_within.nd rfl (Or.inl rfl) (zap op_mul (zbb zbh (pv 0) zad (fun _ _=>rfl)) (zbb zbh (pv 1) zad (fun _ _=>rfl)))) (zag (zak (zai (E:=E) (X2.mono (by decide)) hr rfl D2.m D2.F.kp D2.b .nil pass1 (zaa (pv 2) zab))) zah))),?_⟩
  refine⟨_,rfl,_,_,rfl,hA.web.dv.dx,hA.ok,fun H1 s1=> ?_⟩
  refine⟨_,rfl,_,_,rfl,(hB.same s1).web.dv.dx,hB.ok,fun H2 s2=> ?_⟩
  have s12:=s1.trans s2
  obtain⟨ta,ra,a1,a2,a3⟩:=id (hA.same s12).web
  obtain⟨tb,rb,b1,b2,b3⟩:=id (hB.same s12).web
  have hA0:=hA.h0
  have hA1:=hA.h1
  have hB0:=hB.h0
  have hB1:=hB.h1
  refine⟨_,rfl,a,_,_,.int n,rfl,rfl,a1,rfl,_,rfl,b,_,_,.int m,rfl,rfl,b1,rfl,_,_,rfl,rfl,.inl ⟨by omega,by omega⟩,?_⟩
  exact⟨_,rfl,n*m,rfl,hgt,fun e H' s3 he=>q e H' (s12.trans s3) he⟩
noncomputable def spOneX(K:W.Frag)(c:Cls):Sp:=fun vs H Q E=>∃x,vs=[x]/\NoWebV K H x/\ER c.wb H E
theorem ok_otherX{f f1:Addr}{fd d1:FuncData}{c:Cls}(F:Fun K "other_web" "other_web" zca f fd)(D1:Dfn K mg "need_web" zay ["thing"] f1 d1)(X1:FnOk P w K mg base (CX1 P w) 7 f1 d1 ["thing"] (spNeedWebX K c.wb)):
  FnOk P w K mg base (CX1 P w) 8 f fd ["web"] (spOneX K c):=by
 refine F.okX sc_other (fun vs H Q E h=> ?_) (fun cdv A outer s H vs Q E hr h=> ?_)
 ·obtain⟨_,rfl,_⟩:=h
  rfl
 obtain⟨x,rfl,⟨d,hx,hw⟩,q⟩:=h
 refine⟨_,zag (zak (zai (E:=E) X1 hr rfl D1.m D1.F.kp D1.b .nil pass1 (zaa (pv 0) zab))) zah,?_⟩
 exact⟨_,rfl,x,d,rfl,hx,hw,q⟩
theorem sc_grownX:FnScope ["web","n","ties"] ["web"] (defScope s_grown):=⟨rfl,rfl,rfl,by decide+kernel,rfl,by decide+kernel,by decide+kernel⟩
theorem ok_grownX{f f1:Addr}{fd d1:FuncData}{c:Cls}(F:Fun K "grown" "grown" s_grown f fd)(D1:Dfn K mg "need_web" zay ["thing"] f1 d1)(X1:FnOk P w K mg base (CX1 P w) 7 f1 d1 ["thing"] (spNeedWebX K c.wb)):
  FnOk P w K mg base (CX1 P w) 8 f fd ["web"] (spOneX K c):=by
 refine F.okX sc_grownX (fun vs H Q E h=> ?_) (fun cdv A outer s H vs Q E hr h=> ?_)
 ·obtain⟨_,rfl,_⟩:=h
  rfl
 obtain⟨x,rfl,⟨d,hx,hw⟩,q⟩:=h
 refine⟨_,zag (zak (zai (E:=E) X1 hr rfl D1.m D1.F.kp D1.b .nil pass1 (zaa (pv 0) zab))) zah,?_⟩
 exact⟨_,rfl,x,d,rfl,hx,hw,q⟩
noncomputable def CutX(K:W.Frag)(H:Hp)(x y:V)(r:Rf):Prop:=(r= .web/\NoWebV K H x)\/(r= .place/\∃(a:Addr) (n:Int) (ts:List (Int×Int)) (d:PyData),x= .ref a/\WebIs K H a n ts/\DX K H y d/\setD n d=false)
noncomputable def spCutX(K:W.Frag)(c:Cls):Sp:=fun vs H Q E=>∃x y r,vs=[x,y]/\CutX K H x y r/\ER (c.of r) H E
theorem ok_cutX{f f1 f2:Addr}{fd d1 d2:FuncData}{c:Cls}(F:Fun K "cut_down" "cut_down" zcl f fd)(D1:Dfn K mg "need_web" zay ["thing"] f1 d1)(G1:FnOk P w K mg base CX0 7 f1 d1 ["thing"] (spNeedWeb K))(X1:FnOk P w K mg base (CX1 P w) 7 f1 d1 ["thing"] (spNeedWebX K c.wb))(D2:Dfn K mg "need_set" zcd ["web","thing"] f2 d2)(X2:FnOk P w K mg base (CX1 P w) 5 f2 d2 ["web","thing"] (spNeedSetX K c.pl)):
  FnOk P w K mg base (CX1 P w) 8 f fd ["web","some"] (spCutX K c):=by
 refine F.okX sc_cut (fun vs H Q E h=> ?_) (fun cdv A outer s H vs Q E hr h=> ?_)
 ·obtain⟨_,_,_,rfl,_⟩:=h
  rfl
 obtain⟨x,y,r,rfl,h,q⟩:=h
 rcases h with⟨rfl,d,hx,hw⟩|⟨rfl,a,n,ts,d,rfl,hA,hx,hw⟩
 ·refine⟨_,zag (zak (zai (E:=E) X1 hr rfl D1.m D1.F.kp D1.b .nil pass1 (zaa (pv 0) zab))) zah,?_⟩
  exact⟨_,rfl,x,d,rfl,hx,hw,q⟩
 ·refine⟨_,zag (zak (zai G1 hr rfl D1.m D1.F.kp D1.b .nil pass0 (zaa (pv 0) zab))) (zag (zak (zai (E:=E) (X2.mono (by decide)) hr rfl D2.m D2.F.kp D2.b .nil pass1 (zaa (pv 0) (zaa (pv 1) zab)))) zah),?_⟩
  refine⟨_,rfl,_,_,rfl,hA.web.dv.dx,hA.ok,fun H1 s1=> ?_⟩
  obtain⟨t,rs,h1,h2,h3⟩:=hA.web.same s1
  exact⟨_,rfl,_,rfl,a,n,_,y,d,rfl,h1,hx.same s1,hw,fun e H' s2 he=>q e H' (s1.trans s2) he⟩
end
end Hs
namespace Hs
open PySem L2 HsD
section
variable{P:Program}{w:World}{K:W.Frag}{mg:Str->Option Value}{base:Heap}
noncomputable def allS:Nat->List (List Int)
 |0=>[[]]
 |k+1=>allS k++(allS k).map fun s=>s++[(k:Int)]
theorem allS_len:∀k,(allS k).length=2^k
 |0=>rfl
 |k+1=>by
  show(allS k++(allS k).map fun s=>s++[(k:Int)]).length=_
  rw[List.length_append,List.length_map,allS_len k,Nat.pow_succ];omega
theorem allS_mem:∀k,∀s∈allS k,s.length<=k
 |0,s,h=>by rw[List.mem_singleton.mp h];exact Nat.le_refl _
 |k+1,s,h=>by
  rcases List.mem_append.mp h with z|z
  ·exact Nat.le_succ_of_le (allS_mem k s z)
  ·obtain⟨t,ht,rfl⟩:=List.mem_map.mp z
   have:=allS_mem k t ht
   rw[List.length_append]
   show t.length+1<=k+1
   omega
noncomputable abbrev SetsV(K:W.Frag)(H:Hp)(its:List (Addr×List Int)):Prop:=∀p∈its,SqT K H p.1 (p.2.map V.int)
theorem SetsV.same{H H':Hp}{its:List (Addr×List Int)}(h:SetsV K H its)(e:Same H H'):SetsV K H' its:=fun p hp=>e.tup (h p hp)
noncomputable def spAllSets(K:W.Frag):Sp:=fun vs H Q _=>∃n:Int,vs=[.int n]/\0<=n/\n<=10/\∀(r:Addr) (its:List (Addr×List Int)) H',Same H H'->H' r=some (.lst (its.map fun p=>V.ref p.1))->SetsV K H' its->its.map (·.2)=allS n.toNat->Q (.ref r) H'
theorem sc_allSets:FnScope ["n","found","place"] ["n"] (defScope zcm):=⟨rfl,rfl,rfl,by decide+kernel,rfl,by decide+kernel,by decide+kernel⟩
theorem ok_allSets{f:Addr}{fd:FuncData}(F:Fun K "all_sets" "all_sets" zcm f fd)(m_range:mg "range"=none):
  FnOk P w K mg base CX0 1 f fd ["n"] (spAllSets K):=by
 refine F.ok sc_allSets (fun vs H Q E h=> ?_) (fun cdv A outer s H vs Q E hr h=> ?_)
 ·obtain⟨n,rfl,_⟩:=h
  rfl
 obtain⟨n,rfl,h0,h1,q⟩:=h
 refine⟨_,(zag (zas (i:=1) sc_allSets.nd rfl (Or.inl rfl) (zbm (zaa (zax zab) zab))) (zag (zdj PassesOwn.never rfl (zbv rfl m_range (zaa (pv 0) zab)) (zan (i:=2) sc_allSets.nd rfl (Or.inr rfl)) (zae (zas (i:=1) sc_allSets.nd rfl (Or.inl rfl) (zap op_cat (pv 1) (zch (own:=["some"]) (caps:=["place"]) (ix:=[2]) rfl (zbr (pv 1)) rfl rfl (.cons rfl rfl .nil) (fun _ _ _ _ _=>(zan (i:=0) (show(["some","place"]:List Str).Nodup from by decide+kernel) rfl (Or.inl rfl))) (fun _ _ _ _ _=>zdc) (fun _ _ _ _ _=>(zap (op_catEK K) (pv 0) (zax (zaa (pv 1) zab))))))))) (zae (zaq (pv 1))))),?_⟩
 refine⟨(by show 0<=sizeLine;decide),fun p0 hp0=> ?_⟩
 have s0:=zaf hp0 (.tup [])
 refine⟨(by show 1<=sizeLine;decide),fun l0 hl0=> ?_⟩
 have s1:=zaf hl0 (.lst [.ref p0])
 refine⟨_,rfl,n,rfl,by omega,by omega,?_⟩
 refine zcz (n:=n.toNat) (fun k σ H'=>∃(l:Addr) (its:List (Addr×List Int)) (b2:Option V),σ=[some (.int n),some (.ref l),b2]/\Same H H'/\H' l=some (.lst (its.map fun p=>V.ref p.1))/\SetsV K H' its/\its.map (·.2)=allS k) ⟨l0,[(p0,[])],_,rfl,s0.trans s1,zac,fun p hp=>by rw[List.mem_singleton.mp hp];exact s1.tup (SqT.of zac),rfl⟩ (fun k σ H1 hk p=> ?_) (fun σ H1 p=> ?_)
 ·obtain⟨l,its,b2,rfl,sm,hl,hT,hm⟩:=p
  have hlen:its.length=2^k:=by rw[<-allS_len k,<-hm,List.length_map]
  have h512:2^k<=512:=Nat.pow_le_pow_right (n:=2) (by decide) (show k<=9 by omega)
  refine⟨_,rfl,_,rfl,l,_,rfl,SqL.of hl,fun hz=> ?_⟩
  refine zcj (xs:=its.map fun p=>V.ref p.1) (fun i acc σ H2=>∃jts:List (Addr×List Int),acc=jts.map (fun p=>V.ref p.1)/\jts.map (·.2)=((its.take i).map (·.2)).map (fun s=>s++[(k:Int)])/\SetsV K H2 jts/\Same H1 H2/\∃o,σ=[o,some (.int (0+(k:Int)))]) ⟨[],rfl,rfl,fun p hp=>(nomatch hp),Same.refl _,_,rfl⟩ (fun i acc σ H2 _ p=> ?_) (fun i acc σ H2 hi p=> ?_) hz (fun i x acc σ H2 hx p=> ?_) (fun acc σ H2 p=> ?_)
  ·obtain⟨_,_,_,_,s2,_⟩:=p
   exact s2.seq (SqL.of hl)
  ·obtain⟨jts,rfl,hj,_⟩:=p
   have:=congrArg List.length hj
   simp only[List.length_map,List.length_take]at this
   rw[List.length_map,this];exact Nat.min_le_left _ _
  ·obtain⟨jts,rfl,hj,hJ,s2,o,rfl⟩:=p
   rw[List.getElem?_map]at hx
   cases ex:its[i]? with
   |none=>rw[ex]at hx;cases hx
   |some v=>
    rw[ex]at hx
    cases hx
    have mv:=List.mem_of_getElem? ex
    have lv:v.2.length<=10:=by
     have:=allS_mem k v.2 (by rw[<-hm];exact List.mem_map_of_mem mv)
     omega
    refine⟨_,rfl,_,rfl,(by show 1<=sizeLine;decide),fun p1 hp1=> ?_⟩
    have s3:=zaf hp1 (.tup [.int (0+(k:Int))])
    refine⟨v.1,p1,_,_,rfl,rfl,(s2.trans s3).tup (hT v mv),SqT.of zac,(by rw[List.length_map,sizeLine_eq];show _+1<=_;omega),fun r H4 s4 h4=> ?_⟩
    have ek:(0+(k:Int))=(k:Int):=by omega
    have s34:=s3.trans s4
    refine⟨jts++[(r,v.2++[(k:Int)])],by rw[List.map_append];rfl,?_,fun p hp=> ?_,s2.trans s34,_,rfl⟩
    ·rw[List.map_append,hj,List.take_add_one,ex,List.map_append,List.map_append];rfl
    ·rcases List.mem_append.mp hp with z|z
     ·exact s34.tup (hJ p z)
     ·rw[List.mem_singleton.mp z]
      show SqT K H4 r ((v.2++[(k:Int)]).map V.int)
      rw[List.map_append,<-ek]
      exact h4
  ·intro p1 hp1
   obtain⟨jts,rfl,hj,hJ,s2,o,rfl⟩:=p
   rw[List.length_map,List.take_length,hm]at hj
   have hjl:jts.length=2^k:=by
    have:=congrArg List.length hj
    rw[List.length_map,List.length_map,allS_len]at this
    exact this
   have s3:=zaf hp1 (.lst (jts.map fun p=>V.ref p.1))
   refine⟨l,p1,_,_,rfl,rfl,s3 _ _ (s2 _ _ hl),zac,(by rw[List.length_map,List.length_map,hjl,hlen,sizeLine_eq];omega),fun l2 hl2=> ?_⟩
   have s4:=zaf hl2 (.lst (its.map (fun p=>V.ref p.1)++jts.map fun p=>V.ref p.1))
   have s34:=s3.trans s4
   refine⟨l2,its++jts,_,rfl,sm.trans (s2.trans s34),by rw[zac,List.map_append],fun p hp=> ?_,?_⟩
   ·rcases List.mem_append.mp hp with z|z
    ·exact(s2.trans s34).tup (hT p z)
    ·exact s34.tup (hJ p z)
   ·rw[List.map_append,hm,hj];rfl
 ·obtain⟨l,its,b2,rfl,sm,hl,hT,hm⟩:=p
  exact⟨_,rfl,q l its H1 sm hl hT hm⟩
noncomputable def spInBothT(K:W.Frag):Sp:=fun vs H Q _=>∃(a b:Addr) (xs ys:List Int),vs=[.ref a,.ref b]/\SqT K H a (xs.map V.int)/\SqT K H b (ys.map V.int)/\∀(r:Addr) (zs:List V) H',Same H H'->H' r=some (.lst zs)->Q (.ref r) H'
theorem sc_inBothT:FnScope ["ones","others"] ["ones","others"] (defScope zcx):=⟨rfl,rfl,rfl,by decide+kernel,rfl,by decide+kernel,by decide+kernel⟩
theorem ok_inBothT{f:Addr}{fd:FuncData}(F:Fun K "in_both" "in_both" zcx f fd):
  FnOk P w K mg base CX0 1 f fd ["ones","others"] (spInBothT K):=by
 refine F.ok sc_inBothT (fun vs H Q E h=> ?_) (fun cdv A outer s H vs Q E hr h=> ?_)
 ·obtain⟨a,b,xs,ys,rfl,_⟩:=h
  rfl
 obtain⟨a,b,xs,ys,rfl,hX,hY,q⟩:=h
 refine⟨_,(zae (zaq (zch (own:=["place"]) (caps:=["others"]) (ix:=[1]) rfl (pi_tupL (pv 0)) rfl rfl (.cons rfl rfl .nil) (fun _ _ _ _ _=>(zan (i:=0) (show(["place","others"]:List Str).Nodup from by decide+kernel) rfl (Or.inl rfl))) (fun _ _ _ _ _=>zdl (zaj (op_inDK K hr.units) (pv 0) (pv 1) (by with_unfolding_all rfl))) (fun _ _ _ _ _=>(pv 0))))),?_⟩
 refine⟨_,rfl,a,_,rfl,hX,fun hz=> ?_⟩
 refine comp_tup (xs:=xs.map V.int) (fun i acc σ H'=>acc.length<=i/\Same H H'/\∃o,σ=[o,some (.ref b)]) ⟨Nat.le_refl _,Same.refl _,_,rfl⟩ (fun i acc σ H' _ p=>p.2.1.tup hX) (fun i acc σ H' _ p=>p.1) hz (fun i x acc σ H' hx p=> ?_) (fun acc σ H' p=> ?_)
 ·obtain⟨hl,sm,o,rfl⟩:=p
  rw[List.getElem?_map]at hx
  cases ex:xs[i]? with
  |none=>rw[ex]at hx;cases hx
  |some y=>
   rw[ex]at hx
   cases hx
   refine⟨_,rfl,_,rfl,b,_,_,.int y,rfl,.inr (sm.tup hY),DVs.ints ys,.int _,lay_ints ys,rfl,(by show 0<=60;decide),_,rfl,?_⟩
   refine ite2 (fun c=> ?_) (fun c=> ?_)
   ·exact⟨_,rfl,by rw[List.length_append];show _+1<=_;omega,sm,_,rfl⟩
   ·exact⟨by omega,sm,_,rfl⟩
 ·intro p1 hp1
  obtain⟨_,sm,_⟩:=p
  exact q p1 acc _ (sm.trans (zaf hp1 _)) zac
noncomputable def spRingN(K:W.Frag):Sp:=fun vs H Q _=>∃n:Int,vs=[.int n]/\3<=n/\n<=10/\∀v H',Same H H'->Q v H'
theorem sc_ringN:FnScope ["n","around"] ["n"] (defScope s_ring):=⟨rfl,rfl,rfl,by decide+kernel,rfl,by decide+kernel,by decide+kernel⟩
theorem ok_ringN{f f1:Addr}{fd d1:FuncData}{tk0:Tok}{tk1:Tok}(F:Fun K "ring" "ring" s_ring f fd)(D1:Dfn K mg "need_from_to" zat ["least","most","thing"] f1 d1)(G1:FnOk P w K mg base CX0 2 f1 d1 ["least","most","thing"] (spFromTo K))(m_range:mg "range"=none)(m_tuple:mg "tuple"=none)(m_sorted:mg "sorted"=none)(m_LEAST_RING:mg "LEAST_RING"=some (.int 3 tk0))(m_MOST_PLACES:mg "MOST_PLACES"=some (.int 10 tk1)):
  FnOk P w K mg base CX0 3 f fd ["n"] (spRingN K):=by
 refine F.ok sc_ringN (fun vs H Q E h=> ?_) (fun cdv A outer s H vs Q E hr h=> ?_)
 ·obtain⟨n,rfl,_⟩:=h
  rfl
 obtain⟨n,rfl,h0,h1,q⟩:=h
 refine⟨_,(zag (zak (zai G1 hr rfl D1.m D1.F.kp D1.b .nil pass0 (zaa (zbw rfl m_LEAST_RING (v:= .int 3) ⟨_,rfl⟩) (zaa (zbw rfl m_MOST_PLACES (v:= .int 10) ⟨_,rfl⟩) (zaa (pv 0) zab))))) (zag (zas (i:=1) sc_ringN.nd rfl (Or.inl rfl) (zap op_cat (zch (own:=["place"]) (caps:=[]) (ix:=[]) rfl (zbv rfl m_range (zaa (zap op_sub (pv 0) zad) zab)) rfl rfl .nil (fun _ _ _ _ _=>(zan (i:=0) (show(["place"]:List Str).Nodup from by decide+kernel) rfl (Or.inl rfl))) (fun _ _ _ _ _=>zdc) (fun _ _ _ _ _=>(zax (zaa (pv 0) (zaa (zap zbx (pv 0) zad) zab))))) (zbm (zaa (zax (zaa zad (zaa (zap op_sub (pv 0) zad) zab))) zab)))) (zae (zaq (zax (zaa (pv 0) (zaa (zci zbs rfl m_tuple (by decide+kernel) (zaa (zal zda rfl m_sorted (by decide+kernel) (zaa (pv 1) zab)) zab)) zab))))))),?_⟩
 refine⟨_,rfl,3,10,n,rfl,h0,h1,?_⟩
 refine⟨_,rfl,_,_,rfl,rfl,_,rfl,by omega,by omega,?_⟩
 refine zct (n:=(n-1).toNat) (fun i acc σ H'=>∃its:List (Addr×List Int),acc=its.map (fun p=>V.ref p.1)/\its.length=i/\(∀p∈its,SqT K H' p.1 (p.2.map V.int)/\p.2≠[])/\Same H H'/\∃o,σ=[o]) ⟨[],rfl,rfl,fun p hp=>(nomatch hp),Same.refl _,_,rfl⟩ (fun i acc σ H' hi p=> ?_) (by rw[sizeLine_eq];omega) (fun i acc σ H' hi p=> ?_) (fun acc σ H' p=> ?_)
 ·obtain⟨its,rfl,hl,_⟩:=p
  rw[List.length_map,hl];exact Nat.le_refl _
 ·obtain⟨its,rfl,hl,hok,sm,o,rfl⟩:=p
  refine⟨_,rfl,_,rfl,_,_,rfl,rfl,(by show 2<=sizeLine;decide),fun pn hpn=> ?_⟩
  have sn:=zaf hpn (.tup [.int (0+(i:Int)),.int (0+(i:Int)+1)])
  refine⟨its++[(pn,[0+(i:Int),0+(i:Int)+1])],by rw[List.map_append];rfl,by rw[List.length_append,hl];rfl,fun p hp=> ?_,sm.trans sn,_,rfl⟩
  rcases List.mem_append.mp hp with z|z
  ·exact⟨sn.tup (hok p z).1,(hok p z).2⟩
  ·rw[List.mem_singleton.mp z]
   exact⟨SqT.of zac,fun e=>nomatch e⟩
 ·intro p1 hp1
  obtain⟨its,rfl,hl,hok,sm,_⟩:=p
  have s2:=zaf hp1 (.lst (its.map fun p=>V.ref p.1))
  refine⟨_,rfl,_,_,rfl,rfl,(by show 2<=sizeLine;decide),fun p2 hp2=> ?_⟩
  have s3:=zaf hp2 (.tup [.int 0,.int (n-1)])
  have k3:SqT K (upd (upd H' p1 (.lst (its.map fun p=>V.ref p.1))) p2 (.tup [.int 0,.int (n-1)])) p2 (([0,n-1]:List Int).map V.int):=SqT.of zac
  refine⟨(by show 1<=sizeLine;decide),fun p3 hp3=> ?_⟩
  have s4:=zaf hp3 (.lst [.ref p2])
  refine⟨p1,p3,_,_,rfl,rfl,s4 _ _ (s3 _ _ zac),zac,(by rw[List.length_map,hl,sizeLine_eq];show _+1<=_;omega),fun p4 hp4=> ?_⟩
  have s5:=zaf hp4 (.lst (its.map (fun p=>V.ref p.1)++[.ref p2]))
  have s25:=s2.trans (s3.trans (s4.trans s5))
  have k5:=(s4.trans s5).tup k3
  have e5:(upd (upd (upd (upd H' p1 (.lst (its.map fun p=>V.ref p.1))) p2 (.tup [.int 0,.int (n-1)])) p3 (.lst [.ref p2])) p4 (.lst (its.map (fun p=>V.ref p.1)++[.ref p2]))) p4=some (.lst ((its++[(p2,[0,n-1])]).map fun p=>V.ref p.1)):=by rw[zac,List.map_append];rfl
  generalize (upd (upd (upd (upd H' p1 (.lst (its.map fun p=>V.ref p.1))) p2 (.tup [.int 0,.int (n-1)])) p3 (.lst [.ref p2])) p4 (.lst (its.map (fun p=>V.ref p.1)++[.ref p2])))=H5 at *
  refine⟨_,rfl,_,rfl,p4,its++[(p2,[0,n-1])],rfl,SqL.of e5,fun p hp=> ?_,by rw[List.length_append,hl];show _+1<64;omega,fun l its' hl' hperm hsort=> ?_⟩
  ·rcases List.mem_append.mp hp with z|z
   ·exact⟨s25.tup (hok p z).1,(hok p z).2⟩
   ·rw[List.mem_singleton.mp z]
    exact⟨k5,fun e=>nomatch e⟩
  ·have s6:=zaf hl' (.lst (its'.map fun p=>V.ref p.1))
   refine⟨l,_,rfl,.inl ⟨SqL.of zac,fun t ht=>⟨(by show 2<=sizeLine;decide),fun r hr'=> ?_⟩⟩⟩
   exact q _ _ (sm.trans (s25.trans (s6.trans ((zaf ht _).trans (zaf hr' _)))))
end
end Hs
namespace Hs
open PySem L2 HsD
section
variable{P:Program}{w:World}{K:W.Frag}{mg:Str->Option Value}{base:Heap}
noncomputable def cntS(m k:Int):Nat:=((allS m.toNat).filter fun s=>decide (s.length=k.toNat)).length
theorem cnt_its{its:List (Addr×List Int)}{m k:Int}(h:its.map (·.2)=allS m.toNat):(its.filter fun p=>decide (p.2.length=k.toNat)).length=cntS m k:=by
 unfold cntS
 rw[<-h,List.filter_map,List.length_map]
 rfl
noncomputable def spPicks(K:W.Frag):Sp:=fun vs H Q _=>∃m k:Int,vs=[.int m,.int k]/\1<=m/\m<=10/\1<=k/\k<=m/\cntS m k<=10/\∀v H',Same H H'->Q v H'
theorem picked_go{H:Hp}{its:List (Addr×List Int)}{k:Int}{i:Nat}{v:Addr×List Int}(h:its[i]? =some v):((its.take (i+1)).filter fun p=>decide (p.2.length=k.toNat))=((its.take i).filter fun p=>decide (p.2.length=k.toNat))++(if decide (v.2.length=k.toNat)=true then[v]else[]):=by
 rw[List.take_add_one,h,List.filter_append]
 show _++([v].filter _)=_
 rw[List.filter_cons]
 rfl
theorem sc_picks:FnScope ["m","k","picked","n"] ["m","k"] (defScope s_picks):=⟨rfl,rfl,rfl,by decide+kernel,rfl,by decide+kernel,by decide+kernel⟩
theorem ok_picks{f f1 f2 f3 f4 f5:Addr}{fd d1 d2 d3 d4 d5:FuncData}{tk0:Tok}(F:Fun K "picks" "picks" s_picks f fd)(D1:Dfn K mg "need_from_to" zat ["least","most","thing"] f1 d1)(G1:FnOk P w K mg base CX0 2 f1 d1 ["least","most","thing"] (spFromTo K))(D2:Dfn K mg "all_sets" zcm ["n"] f2 d2)(G2':FnOk P w K mg base CX0 1 f2 d2 ["n"] (spAllSets K))(D3:Dfn K mg "need_few" zbi ["n"] f3 d3)(G3':FnOk P w K mg base CX0 1 f3 d3 ["n"] (spNeedFew K))(D4:Dfn K mg "in_both" zcx ["ones","others"] f4 d4)(G4':FnOk P w K mg base CX0 1 f4 d4 ["ones","others"] (spInBothT K))(D5:Dfn K mg "pairs" zdh ["n"] f5 d5)(G5':FnOk P w K mg base CX0 1 f5 d5 ["n"] (spAllP K))(m_sorted:mg "sorted"=none)(m_len:mg "len"=none)(m_tuple:mg "tuple"=none)(m_MOST_PLACES:mg "MOST_PLACES"=some (.int 10 tk0)):
  FnOk P w K mg base CX0 3 f fd ["m","k"] (spPicks K):=by
 have G2:FnOk P w K mg base CX0 2 f2 d2 ["n"] (spAllSets K):=G2'.mono (by decide)
 have G3:FnOk P w K mg base CX0 2 f3 d3 ["n"] (spNeedFew K):=G3'.mono (by decide)
 have G4:FnOk P w K mg base CX0 2 f4 d4 ["ones","others"] (spInBothT K):=G4'.mono (by decide)
 have G5:FnOk P w K mg base CX0 2 f5 d5 ["n"] (spAllP K):=G5'.mono (by decide)
 refine F.ok sc_picks (fun vs H Q E h=> ?_) (fun cdv A outer s H vs Q E hr h=> ?_)
 ·obtain⟨m,k,rfl,_⟩:=h
  rfl
 obtain⟨m,k,rfl,m0,m1,k0,k1,hc,q⟩:=h
 refine⟨_,(zag (zak (zai G1 hr rfl D1.m D1.F.kp D1.b .nil pass0 (zaa zad (zaa (zbw rfl m_MOST_PLACES (v:= .int 10) ⟨_,rfl⟩) (zaa (pv 0) zab))))) (zag (zak (zai G1 hr rfl D1.m D1.F.kp D1.b .nil pass0 (zaa zad (zaa (pv 0) (zaa (pv 1) zab))))) (zag (zas (i:=2) sc_picks.nd rfl (Or.inr rfl) (zal zda rfl m_sorted (by decide+kernel) (zaa (zch (own:=["some"]) (caps:=["k"]) (ix:=[1]) rfl (zbr (zai G2 hr rfl D2.m D2.F.kp D2.b .nil pass0 (zaa (pv 0) zab))) rfl rfl (.cons rfl rfl .nil) (fun _ _ _ _ _=>(zan (i:=0) (show(["some","k"]:List Str).Nodup from by decide+kernel) rfl (Or.inl rfl))) (fun _ _ _ _ _=>zdl (zaj zau (zal (call_lenK K) rfl m_len PySem.boot_len (zaa (pv 0) zab)) (pv 1) (nomark _))) (fun _ _ _ _ _=>(pv 0))) zab))) (zag (zas (i:=3) sc_picks.nd rfl (Or.inl rfl) (zal zck rfl m_len PySem.boot_len (zaa (pv 2) zab))) (zag (zak (zai G3 hr rfl D3.m D3.F.kp D3.b .nil pass0 (zaa (pv 3) zab))) (zae (zaq (zax (zaa (pv 3) (zaa (zci zbs rfl m_tuple (by decide+kernel) (zaa (zch (own:=["i","j"]) (caps:=["picked"]) (ix:=[2]) rfl (zbr (zai G5 hr rfl D5.m D5.F.kp D5.b .nil pass0 (zaa (pv 3) zab))) rfl rfl (.cons rfl rfl .nil) (fun _ _ _ _ _=>(pg_tupK K (n:=2) rfl (zcw (zan (i:=0) (show(["i","j","picked"]:List Str).Nodup from by decide+kernel) rfl (Or.inl rfl)) (zcw (zan (i:=1) (show(["i","j","picked"]:List Str).Nodup from by decide+kernel) rfl (Or.inl rfl)) pgs_nil)))) (fun _ _ _ _ _=>zdl (pt_not (pt_truthK K (zai G4 hr rfl D4.m D4.F.kp D4.b .nil pass0 (zaa (zbb (ix_listK K) (pv 2) (pv 0) (fun _ _=>rfl)) (zaa (zbb (ix_listK K) (pv 2) (pv 1) (fun _ _=>rfl)) zab))) (fun _=>rfl)))) (fun _ _ _ _ _=>(zax (zaa (pv 0) (zaa (pv 1) zab))))) zab)) zab)))))))))),?_⟩
 refine⟨_,rfl,1,10,m,rfl,m0,m1,?_⟩
 refine⟨_,rfl,_,rfl,1,m,k,rfl,k0,k1,?_⟩
 refine⟨_,rfl,m,rfl,by omega,m1,fun r its H1 s1 hr1 hT hm=> ?_⟩
 refine⟨r,_,rfl,SqL.of hr1,fun hz=> ?_⟩
 refine zcj (xs:=its.map fun p=>V.ref p.1) (fun i acc σ H'=>acc=((its.take i).filter fun p=>decide (p.2.length=k.toNat)).map (fun p=>V.ref p.1)/\Same H1 H'/\∃o,σ=[o,some (.int k)]) ⟨rfl,Same.refl _,_,rfl⟩ (fun i acc σ H' _ p=>p.2.1.seq (SqL.of hr1)) (fun i acc σ H' hi p=> ?_) hz (fun i x acc σ H' hx p=> ?_) (fun acc σ H' p=> ?_)
 ·rw[p.1,List.length_map]
  exact Nat.le_trans (List.length_filter_le _ _) (by rw[List.length_take];exact Nat.min_le_left _ _)
 ·obtain⟨rfl,sm,o,rfl⟩:=p
  rw[List.getElem?_map]at hx
  cases ex:its[i]? with
  |none=>rw[ex]at hx;cases hx
  |some v=>
   rw[ex]at hx
   cases hx
   have mv:=List.mem_of_getElem? ex
   refine⟨_,rfl,v.1,_,rfl,.inr (sm.tup (hT v mv)),fun _=>⟨_,rfl,rfl,_,rfl,?_⟩⟩
   have e:decide (V.int (((v.2.map V.int).length:Nat):Int)=V.int k)=decide (v.2.length=k.toNat):=by
    refine decide_eq_decide.mpr ⟨fun z=> ?_,fun z=> ?_⟩
    ·have:=V.int.inj z
     rw[List.length_map]at this
     omega
    ·rw[List.length_map,z]
     congr 1
     omega
   rw[e]
   have go:=picked_go (H:=H) (k:=k) ex
   refine ite2 (fun c=> ?_) (fun c=> ?_)
   ·exact⟨_,rfl,by rw[go,if_pos c,List.map_append];rfl,sm,_,rfl⟩
   ·exact⟨by rw[go,if_neg c,List.append_nil],sm,_,rfl⟩
 intro p1 hp1
 obtain⟨rfl,sm,_⟩:=p
 rw[List.length_map,List.take_length]
 have hcnt:=cnt_its (k:=k) hm
 have s2:=zaf hp1 (.lst ((its.filter fun p=>decide (p.2.length=k.toNat)).map fun p=>V.ref p.1))
 have s02:=s1.trans (sm.trans s2)
 have hJ:∀p∈(its.filter fun p=>decide (p.2.length=k.toNat)),SqT K (upd H' p1 (.lst ((its.filter fun p=>decide (p.2.length=k.toNat)).map fun p=>V.ref p.1))) p.1 (p.2.map V.int)/\p.2≠[]:=fun p hp=>by
  obtain⟨z1,z2⟩:=List.mem_filter.mp hp
  refine⟨(sm.trans s2).tup (hT p z1),fun e=> ?_⟩
  have:=of_decide_eq_true z2
  rw[e,List.length_nil]at this
  omega
 refine⟨p1,_,rfl,SqL.of zac,hJ,by rw[hcnt];omega,fun l its' hl hperm hsort=> ?_⟩
 have s3:=zaf hl (.lst (its'.map fun p=>V.ref p.1))
 have hlen:its'.length=cntS m k:=by rw[hperm.length_eq,hcnt]
 have e3:(upd (upd H' p1 (.lst ((its.filter fun p=>decide (p.2.length=k.toNat)).map fun p=>V.ref p.1))) l (.lst (its'.map fun p=>V.ref p.1))) l=some (.lst (its'.map fun p=>V.ref p.1)):=zac
 have hJ3:SetsV K (upd (upd H' p1 (.lst ((its.filter fun p=>decide (p.2.length=k.toNat)).map fun p=>V.ref p.1))) l (.lst (its'.map fun p=>V.ref p.1))) its':=fun p hp=>s3.tup (hJ p (hperm.mem_iff.mp hp)).1
 have s03:=s02.trans s3
 generalize (upd (upd H' p1 (.lst ((its.filter fun p=>decide (p.2.length=k.toNat)).map fun p=>V.ref p.1))) l (.lst (its'.map fun p=>V.ref p.1)))=H3 at *
 refine⟨_,rfl,l,_,rfl,.inl (SqL.of e3),fun _=> ?_⟩
 rw[List.length_map,hlen]
 refine⟨_,rfl,(cntS m k:Int),rfl,by omega,?_⟩
 refine⟨_,rfl,_,rfl,(cntS m k:Int),rfl,by omega,by omega,fun l2 H4 s4 hP=> ?_⟩
 obtain⟨rs,e1,v1⟩:=hP.ex
 refine⟨l2,rs,rfl,SqL.of e1,fun hz2=> ?_⟩
 refine zcj (xs:=rs) (fun i acc σ H'=>acc.length<=i/\Same H4 H'/\∃o1 o2,σ=[o1,o2,some (.ref l)]) ⟨Nat.le_refl _,Same.refl _,_,_,rfl⟩ (fun i acc σ H' _ p=>p.2.1.seq (SqL.of e1)) (fun i acc σ H' _ p=>p.1) hz2 (fun i x acc σ H5 hx p=> ?_) (fun acc σ H5 p=> ?_)
 ·obtain⟨hla,s5,o1,o2,rfl⟩:=p
  obtain⟨t,hi,rfl,ht⟩:=pair_at v1 hx
  have hmem:=List.getElem_mem hi
  generalize (rows tt (cntS m k:Int) (cntS m k:Int).toNat)[i]=pr at *
  obtain⟨q0,q1,q2,q3,_⟩:=zdg.mp hmem
  have s45:=s4.trans s5
  have hL:SqL K H5 l (its'.map fun p=>V.ref p.1):=SqL.of (s45 _ _ e3)
  have at_:∀j:Int,0<=j->j<(cntS m k:Int)->∃v∈its',atI (its'.map fun p=>V.ref p.1) j=some (.ref v.1):=fun j j0 j1=>by
   have hj:j.toNat<its'.length:=by omega
   refine⟨its'[j.toNat],List.getElem_mem hj,?_⟩
   have z:atI (its'.map fun p=>V.ref p.1) ((j.toNat:Nat):Int)=some (.ref its'[j.toNat].1):=atI_nat (by rw[List.getElem?_map,List.getElem?_eq_getElem hj];rfl)
   rwa [show((j.toNat:Nat):Int)=j by omega]at z
  obtain⟨v,mv,av⟩:=at_ pr.1 q0 (by omega)
  obtain⟨u,mu,au⟩:=at_ pr.2 (by omega) q3
  refine⟨t,_,rfl,s5.tup ht,rfl,_,_,rfl,_,_,rfl,rfl,?_⟩
  refine⟨_,rfl,_,rfl,l,_,_,_,rfl,rfl,hL,av,_,rfl,_,rfl,l,_,_,_,rfl,rfl,hL,au,v.1,u.1,v.2,u.2,rfl,s45.tup (hJ3 v mv),s45.tup (hJ3 u mu),fun r6 zs H6 s6 h6=>⟨!zs.isEmpty,.inl ⟨zs,SqL.of h6,rfl⟩,?_⟩⟩
  refine ite2 (fun c=> ?_) (fun c=> ?_)
  ·refine⟨_,rfl,_,rfl,(by show 2<=sizeLine;decide),fun pn hpn=> ?_⟩
   exact⟨by rw[List.length_append];show _+1<=_;omega,s5.trans (s6.trans (zaf hpn _)),_,_,rfl⟩
  ·exact⟨by omega,s5.trans s6,_,_,rfl⟩
 ·intro p2 hp2
  obtain⟨_,s5,_⟩:=p
  refine⟨p2,_,rfl,.inl ⟨SqL.of zac,fun t ht=>⟨(by show 2<=sizeLine;decide),fun r' hr'=> ?_⟩⟩⟩
  exact q _ _ (s03.trans (s4.trans (s5.trans ((zaf hp2 _).trans ((zaf ht _).trans (zaf hr' _))))))
noncomputable def RingX(K:W.Frag)(H:Hp)(x:V):Prop:=∃d,DX K H x d/\numD 3 10 d=false
noncomputable def spRingX(K:W.Frag)(c:Cls):Sp:=fun vs H Q E=>∃x,vs=[x]/\RingX K H x/\ER c.nm H E
theorem ok_ringX{f f1:Addr}{fd d1:FuncData}{tk0 tk1:Tok}{c:Cls}(F:Fun K "ring" "ring" s_ring f fd)(D1:Dfn K mg "need_from_to" zat ["least","most","thing"] f1 d1)(X1:FnOk P w K mg base (CX1 P w) 2 f1 d1 ["least","most","thing"] (spFromToX K c.nm))(m_LEAST_RING:mg "LEAST_RING"=some (.int 3 tk0))(m_MOST_PLACES:mg "MOST_PLACES"=some (.int 10 tk1)):
  FnOk P w K mg base (CX1 P w) 3 f fd ["n"] (spRingX K c):=by
 refine F.okX sc_ringN (fun vs H Q E h=> ?_) (fun cdv A outer s H vs Q E hr h=> ?_)
 ·obtain⟨_,rfl,_⟩:=h
  rfl
 obtain⟨x,rfl,⟨d,hx,hn⟩,q⟩:=h
 refine⟨_,zag (zak (zai (E:=E) X1 hr rfl D1.m D1.F.kp D1.b .nil pass1 (zaa (zbw rfl m_LEAST_RING (v:= .int 3) ⟨_,rfl⟩) (zaa (zbw rfl m_MOST_PLACES (v:= .int 10) ⟨_,rfl⟩) (zaa (pv 0) zab))))) zah,?_⟩
 exact⟨_,rfl,3,10,x,d,rfl,by decide,by decide,by decide,by decide,hx,hn,q⟩
noncomputable def PickX(K:W.Frag)(H:Hp)(x y:V)(r:Rf):Prop:=(r= .number/\∃d,DX K H x d/\numD 1 10 d=false)\/(r= .number/\∃(m:Int) (d:PyData),x= .int m/\1<=m/\m<=10/\DX K H y d/\numD 1 m d=false)\/
 (r= .many/\∃m k:Int,x= .int m/\y= .int k/\1<=m/\m<=10/\1<=k/\k<=m/\10<cntS m k/\cntS m k<64)
noncomputable def spPickX(K:W.Frag)(c:Cls):Sp:=fun vs H Q E=>∃x y r,vs=[x,y]/\PickX K H x y r/\ER (c.of r) H E
theorem ok_picksX{f f1 f2 f3:Addr}{fd d1 d2 d3:FuncData}{tk0:Tok}{c:Cls}(F:Fun K "picks" "picks" s_picks f fd)(D1:Dfn K mg "need_from_to" zat ["least","most","thing"] f1 d1)(G1:FnOk P w K mg base CX0 2 f1 d1 ["least","most","thing"] (spFromTo K))(X1:FnOk P w K mg base (CX1 P w) 2 f1 d1 ["least","most","thing"] (spFromToX K c.nm))(D2:Dfn K mg "all_sets" zcm ["n"] f2 d2)(G2':FnOk P w K mg base CX0 1 f2 d2 ["n"] (spAllSets K))(D3:Dfn K mg "need_few" zbi ["n"] f3 d3)(X3:FnOk P w K mg base (CX1 P w) 1 f3 d3 ["n"] (spNeedFewX K c.mn))(m_sorted:mg "sorted"=none)(m_len:mg "len"=none)(m_MOST_PLACES:mg "MOST_PLACES"=some (.int 10 tk0)):
  FnOk P w K mg base (CX1 P w) 3 f fd ["m","k"] (spPickX K c):=by
 have G2:FnOk P w K mg base CX0 2 f2 d2 ["n"] (spAllSets K):=G2'.mono (by decide)
 refine F.okX sc_picks (fun vs H Q E h=> ?_) (fun cdv A outer s H vs Q E hr h=> ?_)
 ·obtain⟨_,_,_,rfl,_⟩:=h
  rfl
 obtain⟨x,y,r,rfl,h,q⟩:=h
 rcases h with⟨rfl,d,hx,hn⟩|⟨rfl,m,d,rfl,m0,m1,hx,hn⟩|⟨rfl,m,k,rfl,rfl,m0,m1,k0,k1,hc,hc2⟩
 ·refine⟨_,zag (zak (zai (E:=E) X1 hr rfl D1.m D1.F.kp D1.b .nil pass1 (zaa zad (zaa (zbw rfl m_MOST_PLACES (v:= .int 10) ⟨_,rfl⟩) (zaa (pv 0) zab))))) zah,?_⟩
  exact⟨_,rfl,1,10,x,d,rfl,by decide,by decide,by decide,by decide,hx,hn,q⟩
 ·refine⟨_,zag (zak (zai G1 hr rfl D1.m D1.F.kp D1.b .nil pass0 (zaa zad (zaa (zbw rfl m_MOST_PLACES (v:= .int 10) ⟨_,rfl⟩) (zaa (pv 0) zab))))) (zag (zak (zai (E:=E) X1 hr rfl D1.m D1.F.kp D1.b .nil pass1 (zaa zad (zaa (pv 0) (zaa (pv 1) zab))))) zah),?_⟩
  refine⟨_,rfl,1,10,m,rfl,m0,m1,?_⟩
  exact⟨_,rfl,_,rfl,1,m,y,d,rfl,by decide,by decide,by omega,m1,hx,hn,q⟩
 refine⟨_,(zag (zak (zai G1 hr rfl D1.m D1.F.kp D1.b .nil pass0 (zaa zad (zaa (zbw rfl m_MOST_PLACES (v:= .int 10) ⟨_,rfl⟩) (zaa (pv 0) zab))))) (zag (zak (zai G1 hr rfl D1.m D1.F.kp D1.b .nil pass0 (zaa zad (zaa (pv 0) (zaa (pv 1) zab))))) (zag (zas (i:=2) sc_picks.nd rfl (Or.inr rfl) (zal zda rfl m_sorted (by decide+kernel) (zaa (zch (own:=["some"]) (caps:=["k"]) (ix:=[1]) rfl (zbr (zai G2 hr rfl D2.m D2.F.kp D2.b .nil pass0 (zaa (pv 0) zab))) rfl rfl (.cons rfl rfl .nil) (fun _ _ _ _ _=>(zan (i:=0) (show(["some","k"]:List Str).Nodup from by decide+kernel) rfl (Or.inl rfl))) (fun _ _ _ _ _=>zdl (zaj zau (zal (call_lenK K) rfl m_len PySem.boot_len (zaa (pv 0) zab)) (pv 1) (nomark _))) (fun _ _ _ _ _=>(pv 0))) zab))) (zag (zas (i:=3) sc_picks.nd rfl (Or.inl rfl) (zal zck rfl m_len PySem.boot_len (zaa (pv 2) zab))) (zag (zak (zai (E:=E) (X3.mono (by decide)) hr rfl D3.m D3.F.kp D3.b .nil pass1 (zaa (pv 3) zab))) zah))))),?_⟩
 refine⟨_,rfl,1,10,m,rfl,m0,m1,?_⟩
 refine⟨_,rfl,_,rfl,1,m,k,rfl,k0,k1,?_⟩
 refine⟨_,rfl,m,rfl,by omega,m1,fun r its H1 s1 hr1 hT hm=> ?_⟩
 refine⟨r,_,rfl,SqL.of hr1,fun hz=> ?_⟩
 refine zcj (xs:=its.map fun p=>V.ref p.1) (fun i acc σ H'=>acc=((its.take i).filter fun p=>decide (p.2.length=k.toNat)).map (fun p=>V.ref p.1)/\Same H1 H'/\∃o,σ=[o,some (.int k)]) ⟨rfl,Same.refl _,_,rfl⟩ (fun i acc σ H' _ p=>p.2.1.seq (SqL.of hr1)) (fun i acc σ H' hi p=> ?_) hz (fun i x acc σ H' hx p=> ?_) (fun acc σ H' p=> ?_)
 ·rw[p.1,List.length_map]
  exact Nat.le_trans (List.length_filter_le _ _) (by rw[List.length_take];exact Nat.min_le_left _ _)
 ·obtain⟨rfl,sm,o,rfl⟩:=p
  rw[List.getElem?_map]at hx
  cases ex:its[i]? with
  |none=>rw[ex]at hx;cases hx
  |some v=>
   rw[ex]at hx
   cases hx
   have mv:=List.mem_of_getElem? ex
   refine⟨_,rfl,v.1,_,rfl,.inr (sm.tup (hT v mv)),fun _=>⟨_,rfl,rfl,_,rfl,?_⟩⟩
   have e:decide (V.int (((v.2.map V.int).length:Nat):Int)=V.int k)=decide (v.2.length=k.toNat):=by
    refine decide_eq_decide.mpr ⟨fun z=> ?_,fun z=> ?_⟩
    ·have:=V.int.inj z
     rw[List.length_map]at this
     omega
    ·rw[List.length_map,z]
     congr 1
     omega
   rw[e]
   have go:=picked_go (H:=H) (k:=k) ex
   refine ite2 (fun c=> ?_) (fun c=> ?_)
   ·exact⟨_,rfl,by rw[go,if_pos c,List.map_append];rfl,sm,_,rfl⟩
   ·exact⟨by rw[go,if_neg c,List.append_nil],sm,_,rfl⟩
 intro p1 hp1
 obtain⟨rfl,sm,_⟩:=p
 rw[List.length_map,List.take_length]
 have hcnt:=cnt_its (k:=k) hm
 have s2:=zaf hp1 (.lst ((its.filter fun p=>decide (p.2.length=k.toNat)).map fun p=>V.ref p.1))
 have s02:=s1.trans (sm.trans s2)
 have hJ:∀p∈(its.filter fun p=>decide (p.2.length=k.toNat)),SqT K (upd H' p1 (.lst ((its.filter fun p=>decide (p.2.length=k.toNat)).map fun p=>V.ref p.1))) p.1 (p.2.map V.int)/\p.2≠[]:=fun p hp=>by
  obtain⟨z1,z2⟩:=List.mem_filter.mp hp
  refine⟨(sm.trans s2).tup (hT p z1),fun e=> ?_⟩
  have:=of_decide_eq_true z2
  rw[e,List.length_nil]at this
  omega
 refine⟨p1,_,rfl,SqL.of zac,hJ,by rw[hcnt];omega,fun l its' hl hperm hsort=> ?_⟩
 have s3:=zaf hl (.lst (its'.map fun p=>V.ref p.1))
 have hlen:its'.length=cntS m k:=by rw[hperm.length_eq,hcnt]
 have e3:(upd (upd H' p1 (.lst ((its.filter fun p=>decide (p.2.length=k.toNat)).map fun p=>V.ref p.1))) l (.lst (its'.map fun p=>V.ref p.1))) l=some (.lst (its'.map fun p=>V.ref p.1)):=zac
 have hJ3:SetsV K (upd (upd H' p1 (.lst ((its.filter fun p=>decide (p.2.length=k.toNat)).map fun p=>V.ref p.1))) l (.lst (its'.map fun p=>V.ref p.1))) its':=fun p hp=>s3.tup (hJ p (hperm.mem_iff.mp hp)).1
 have s03:=s02.trans s3
 generalize (upd (upd H' p1 (.lst ((its.filter fun p=>decide (p.2.length=k.toNat)).map fun p=>V.ref p.1))) l (.lst (its'.map fun p=>V.ref p.1)))=H3 at *
 refine⟨_,rfl,l,_,rfl,.inl (SqL.of e3),fun _=> ?_⟩
 rw[List.length_map,hlen]
 exact⟨_,rfl,(cntS m k:Int),rfl,by omega,fun e H' s5 he=>q e H' (s03.trans s5) he⟩
end
end Hs
namespace Hs
open PySem L2 HsD
theorem zar{i j:Int}{A B:Prop}(h:¬i=j)(hB:B):if decide (V.int i=V.int j)=true then A else B:=by
 rw[decide_eq_false fun z=>h (V.int.inj z)]
 exact iteF hB
theorem int_eq{i:Int}{A B:Prop}(hA:A):if decide (V.int i=V.int i)=true then A else B:=by
 rw[decide_eq_true rfl]
 exact iteT hA
section
variable{P:Program}{w:World}{K:W.Frag}{mg:Str->Option Value}{base:Heap}
noncomputable def Told2(K:W.Frag)(H:Hp)(f:Int->Int->Int)(x y:V):Prop:=∃(a b:Addr) (n m:Int) (ts us:List (Int×Int)),x= .ref a/\y= .ref b/\WebIs K H a n ts/\WebIs K H b m us/\f n m<=10
noncomputable def AskOk(K:W.Frag)(H:Hp)(way:Int)(x y:V):Option Rf->Prop
 |some r=>(way=0/\TwoX K H (fun n m=>n+m) x y r)\/(way=1/\TwoX K H (fun n m=>n+m) x y r)\/(way=2/\TwoX K H (fun n m=>n*m) x y r)\/(way=3/\CutX K H x y r)\/(way=4/\r= .web/\NoWebV K H x)\/(way=5/\r= .web/\NoWebV K H x)\/(way=6/\PickX K H x y r)\/(way=7/\r= .number/\RingX K H x)
 |none=>(way=0/\Told2 K H (fun n m=>n+m) x y)\/(way=1/\Told2 K H (fun n m=>n+m) x y)\/(way=2/\Told2 K H (fun n m=>n*m) x y)\/(way=3/\∃(a l:Addr) (n:Int) (ts:List (Int×Int)) (xs:List Int),x= .ref a/\y= .ref l/\WebIs K H a n ts/\SqT K H l (xs.map V.int)/\SetOk n xs)\/
   (way=4/\∃(a:Addr) (n:Int) (ts:List (Int×Int)),x= .ref a/\WebIs K H a n ts)\/(way=6/\∃m k:Int,x= .int m/\y= .int k/\1<=m/\m<=10/\1<=k/\k<=m/\cntS m k<=10)\/(way=7/\∃n:Int,x= .int n/\3<=n/\n<=10)
noncomputable def spAsk(K:W.Frag)(c:Cls):Sp:=fun vs H Q E=>∃(way:Int) (x y:V) (o:Option Rf),vs=[.int way,x,y]/\AskOk K H way x y o/\(match o with |none=>∀H',Same H H'->Q .non H'|some r=>ER (c.of r) H E)
theorem sc_ask:FnScope ["way","one","other"] ["way","one","other"] (defScope zcg):=⟨rfl,rfl,rfl,by decide+kernel,rfl,by decide+kernel,by decide+kernel⟩
theorem ok_ask{f f0 f1 f2 f3 f4 f5 f6 f7:Addr}{fd d0 d1 d2 d3 d4 d5 d6 d7:FuncData}{c:Cls}(F:Fun K "_law_b_ask" "_law_b_ask" zcg f fd)(D0:Dfn K mg "beside" zcq ["one","other"] f0 d0)(G0':FnOk P w K mg base CX0 8 f0 d0 ["one","other"] (spBeside K))(X0':FnOk P w K mg base (CX1 P w) 8 f0 d0 ["one","other"] (spTwoX K c fun n m=>n+m))(D1:Dfn K mg "across" zdf ["one","other"] f1 d1)(G1':FnOk P w K mg base CX0 9 f1 d1 ["one","other"] (spAcross K))(X1':FnOk P w K mg base (CX1 P w) 9 f1 d1 ["one","other"] (spTwoX K c fun n m=>n+m))(D2:Dfn K mg "within" zdd ["one","other"] f2 d2)(G2':FnOk P w K mg base CX0 8 f2 d2 ["one","other"] (spWithin K))(X2':FnOk P w K mg base (CX1 P w) 8 f2 d2 ["one","other"] (spTwoX K c fun n m=>n*m))(D3:Dfn K mg "cut_down" zcl ["web","some"] f3 d3)(G3':FnOk P w K mg base CX0 8 f3 d3 ["web","some"] (spCut K))(X3':FnOk P w K mg base (CX1 P w) 8 f3 d3 ["web","some"] (spCutX K c))(D4:Dfn K mg "other_web" zca ["web"] f4 d4)(G4':FnOk P w K mg base CX0 8 f4 d4 ["web"] (spOther K))(X4':FnOk P w K mg base (CX1 P w) 8 f4 d4 ["web"] (spOneX K c))(D5:Dfn K mg "grown" s_grown ["web"] f5 d5)(X5':FnOk P w K mg base (CX1 P w) 8 f5 d5 ["web"] (spOneX K c))(D6:Dfn K mg "picks" s_picks ["m","k"] f6 d6)(G6':FnOk P w K mg base CX0 3 f6 d6 ["m","k"] (spPicks K))(X6':FnOk P w K mg base (CX1 P w) 3 f6 d6 ["m","k"] (spPickX K c))(D7:Dfn K mg "ring" s_ring ["n"] f7 d7)(G7':FnOk P w K mg base CX0 3 f7 d7 ["n"] (spRingN K))(X7':FnOk P w K mg base (CX1 P w) 3 f7 d7 ["n"] (spRingX K c))
  :FnOk P w K mg base (CX1 P w) 10 f fd ["way","one","other"] (spAsk K c):=by
 have G0:FnOk P w K mg base CX0 9 f0 d0 ["one","other"] (spBeside K):=G0'.mono (by decide)
 have X0:FnOk P w K mg base (CX1 P w) 9 f0 d0 ["one","other"] (spTwoX K c fun n m=>n+m):=X0'.mono (by decide)
 have G1:FnOk P w K mg base CX0 9 f1 d1 ["one","other"] (spAcross K):=G1'.mono (by decide)
 have X1:FnOk P w K mg base (CX1 P w) 9 f1 d1 ["one","other"] (spTwoX K c fun n m=>n+m):=X1'.mono (by decide)
 have G2:FnOk P w K mg base CX0 9 f2 d2 ["one","other"] (spWithin K):=G2'.mono (by decide)
 have X2:FnOk P w K mg base (CX1 P w) 9 f2 d2 ["one","other"] (spTwoX K c fun n m=>n*m):=X2'.mono (by decide)
 have G3:FnOk P w K mg base CX0 9 f3 d3 ["web","some"] (spCut K):=G3'.mono (by decide)
 have X3:FnOk P w K mg base (CX1 P w) 9 f3 d3 ["web","some"] (spCutX K c):=X3'.mono (by decide)
 have G4:FnOk P w K mg base CX0 9 f4 d4 ["web"] (spOther K):=G4'.mono (by decide)
 have X4:FnOk P w K mg base (CX1 P w) 9 f4 d4 ["web"] (spOneX K c):=X4'.mono (by decide)
 have X5:FnOk P w K mg base (CX1 P w) 9 f5 d5 ["web"] (spOneX K c):=X5'.mono (by decide)
 have G6:FnOk P w K mg base CX0 9 f6 d6 ["m","k"] (spPicks K):=G6'.mono (by decide)
 have X6:FnOk P w K mg base (CX1 P w) 9 f6 d6 ["m","k"] (spPickX K c):=X6'.mono (by decide)
 have G7:FnOk P w K mg base CX0 9 f7 d7 ["n"] (spRingN K):=G7'.mono (by decide)
 have X7:FnOk P w K mg base (CX1 P w) 9 f7 d7 ["n"] (spRingX K c):=X7'.mono (by decide)
 refine F.okX sc_ask (fun vs H Q E h=> ?_) (fun cdv A outer s H vs Q E hr h=> ?_)
 ·obtain⟨_,_,_,_,rfl,_⟩:=h
  rfl
 obtain⟨way,x,y,o,rfl,h,q⟩:=h
 cases o with
 |some r=>
  have q:ER (c.of r) H E:=q
  rcases h with⟨rfl,h⟩|⟨rfl,h⟩|⟨rfl,h⟩|⟨rfl,h⟩|⟨rfl,rfl,h⟩|⟨rfl,rfl,h⟩|⟨rfl,h⟩|⟨rfl,rfl,h⟩
  ·refine⟨_,(zae (zam (zaj zau (pv 0) zad (nomark _)) (zae (zak (zai (E:=E) X0 hr rfl D0.m D0.F.kp D0.b .nil pass1 (zaa (pv 1) (zaa (pv 2) zab))))) zah)),?_⟩
   refine⟨_,rfl,rfl,_,rfl,int_eq ?_⟩
   exact⟨_,rfl,_,rfl,x,y,r,rfl,h,q⟩
  ·refine⟨_,(zae (zam (zaj zau (pv 0) zad (nomark _)) zah (zae (zam (zaj zau (pv 0) zad (nomark _)) (zae (zak (zai (E:=E) X1 hr rfl D1.m D1.F.kp D1.b .nil pass1 (zaa (pv 1) (zaa (pv 2) zab))))) zah)))),?_⟩
   refine⟨_,rfl,rfl,_,rfl,zar (by decide) ?_⟩
   refine⟨_,rfl,rfl,_,rfl,int_eq ?_⟩
   exact⟨_,rfl,_,rfl,x,y,r,rfl,h,q⟩
  ·refine⟨_,(zae (zam (zaj zau (pv 0) zad (nomark _)) zah (zae (zam (zaj zau (pv 0) zad (nomark _)) zah (zae (zam (zaj zau (pv 0) zad (nomark _)) (zae (zak (zai (E:=E) X2 hr rfl D2.m D2.F.kp D2.b .nil pass1 (zaa (pv 1) (zaa (pv 2) zab))))) zah)))))),?_⟩
   refine⟨_,rfl,rfl,_,rfl,zar (by decide) ?_⟩
   refine⟨_,rfl,rfl,_,rfl,zar (by decide) ?_⟩
   refine⟨_,rfl,rfl,_,rfl,int_eq ?_⟩
   exact⟨_,rfl,_,rfl,x,y,r,rfl,h,q⟩
  ·refine⟨_,(zae (zam (zaj zau (pv 0) zad (nomark _)) zah (zae (zam (zaj zau (pv 0) zad (nomark _)) zah (zae (zam (zaj zau (pv 0) zad (nomark _)) zah (zae (zam (zaj zau (pv 0) zad (nomark _)) (zae (zak (zai (E:=E) X3 hr rfl D3.m D3.F.kp D3.b .nil pass1 (zaa (pv 1) (zaa (pv 2) zab))))) zah)))))))),?_⟩
   refine⟨_,rfl,rfl,_,rfl,zar (by decide) ?_⟩
   refine⟨_,rfl,rfl,_,rfl,zar (by decide) ?_⟩
   refine⟨_,rfl,rfl,_,rfl,zar (by decide) ?_⟩
   refine⟨_,rfl,rfl,_,rfl,int_eq ?_⟩
   exact⟨_,rfl,_,rfl,x,y,r,rfl,h,q⟩
  ·refine⟨_,(zae (zam (zaj zau (pv 0) zad (nomark _)) zah (zae (zam (zaj zau (pv 0) zad (nomark _)) zah (zae (zam (zaj zau (pv 0) zad (nomark _)) zah (zae (zam (zaj zau (pv 0) zad (nomark _)) zah (zae (zam (zaj zau (pv 0) zad (nomark _)) (zae (zak (zai (E:=E) X4 hr rfl D4.m D4.F.kp D4.b .nil pass1 (zaa (pv 1) zab)))) zah)))))))))),?_⟩
   refine⟨_,rfl,rfl,_,rfl,zar (by decide) ?_⟩
   refine⟨_,rfl,rfl,_,rfl,zar (by decide) ?_⟩
   refine⟨_,rfl,rfl,_,rfl,zar (by decide) ?_⟩
   refine⟨_,rfl,rfl,_,rfl,zar (by decide) ?_⟩
   refine⟨_,rfl,rfl,_,rfl,int_eq ?_⟩
   exact⟨_,rfl,x,rfl,h,q⟩
  ·refine⟨_,(zae (zam (zaj zau (pv 0) zad (nomark _)) zah (zae (zam (zaj zau (pv 0) zad (nomark _)) zah (zae (zam (zaj zau (pv 0) zad (nomark _)) zah (zae (zam (zaj zau (pv 0) zad (nomark _)) zah (zae (zam (zaj zau (pv 0) zad (nomark _)) zah (zae (zam (zaj zau (pv 0) zad (nomark _)) (zae (zak (zai (E:=E) X5 hr rfl D5.m D5.F.kp D5.b .nil pass1 (zaa (pv 1) zab)))) zah)))))))))))),?_⟩
   refine⟨_,rfl,rfl,_,rfl,zar (by decide) ?_⟩
   refine⟨_,rfl,rfl,_,rfl,zar (by decide) ?_⟩
   refine⟨_,rfl,rfl,_,rfl,zar (by decide) ?_⟩
   refine⟨_,rfl,rfl,_,rfl,zar (by decide) ?_⟩
   refine⟨_,rfl,rfl,_,rfl,zar (by decide) ?_⟩
   refine⟨_,rfl,rfl,_,rfl,int_eq ?_⟩
   exact⟨_,rfl,x,rfl,h,q⟩
  ·refine⟨_,(zae (zam (zaj zau (pv 0) zad (nomark _)) zah (zae (zam (zaj zau (pv 0) zad (nomark _)) zah (zae (zam (zaj zau (pv 0) zad (nomark _)) zah (zae (zam (zaj zau (pv 0) zad (nomark _)) zah (zae (zam (zaj zau (pv 0) zad (nomark _)) zah (zae (zam (zaj zau (pv 0) zad (nomark _)) zah (zae (zam (zaj zau (pv 0) zad (nomark _)) (zae (zak (zai (E:=E) X6 hr rfl D6.m D6.F.kp D6.b .nil pass1 (zaa (pv 1) (zaa (pv 2) zab))))) zah)))))))))))))),?_⟩
   refine⟨_,rfl,rfl,_,rfl,zar (by decide) ?_⟩
   refine⟨_,rfl,rfl,_,rfl,zar (by decide) ?_⟩
   refine⟨_,rfl,rfl,_,rfl,zar (by decide) ?_⟩
   refine⟨_,rfl,rfl,_,rfl,zar (by decide) ?_⟩
   refine⟨_,rfl,rfl,_,rfl,zar (by decide) ?_⟩
   refine⟨_,rfl,rfl,_,rfl,zar (by decide) ?_⟩
   refine⟨_,rfl,rfl,_,rfl,int_eq ?_⟩
   exact⟨_,rfl,_,rfl,x,y,r,rfl,h,q⟩
  ·refine⟨_,(zae (zam (zaj zau (pv 0) zad (nomark _)) zah (zae (zam (zaj zau (pv 0) zad (nomark _)) zah (zae (zam (zaj zau (pv 0) zad (nomark _)) zah (zae (zam (zaj zau (pv 0) zad (nomark _)) zah (zae (zam (zaj zau (pv 0) zad (nomark _)) zah (zae (zam (zaj zau (pv 0) zad (nomark _)) zah (zae (zam (zaj zau (pv 0) zad (nomark _)) zah (zae (zak (zai (E:=E) X7 hr rfl D7.m D7.F.kp D7.b .nil pass1 (zaa (pv 1) zab)))))))))))))))))),?_⟩
   refine⟨_,rfl,rfl,_,rfl,zar (by decide) ?_⟩
   refine⟨_,rfl,rfl,_,rfl,zar (by decide) ?_⟩
   refine⟨_,rfl,rfl,_,rfl,zar (by decide) ?_⟩
   refine⟨_,rfl,rfl,_,rfl,zar (by decide) ?_⟩
   refine⟨_,rfl,rfl,_,rfl,zar (by decide) ?_⟩
   refine⟨_,rfl,rfl,_,rfl,zar (by decide) ?_⟩
   refine⟨_,rfl,rfl,_,rfl,zar (by decide) ?_⟩
   exact⟨_,rfl,x,rfl,h,q⟩
 |none=>
  have q:∀H',Same H H'->Q .non H':=q
  rcases h with⟨rfl,a,b,n,m,ts,us,rfl,rfl,hA,hB,hn⟩|⟨rfl,a,b,n,m,ts,us,rfl,rfl,hA,hB,hn⟩|⟨rfl,a,b,n,m,ts,us,rfl,rfl,hA,hB,hn⟩|⟨rfl,a,l,n,ts,xs,rfl,rfl,hA,hL,hS⟩|⟨rfl,a,n,ts,rfl,hA⟩|⟨rfl,m,k,rfl,rfl,m0,m1,k0,k1,hc⟩|⟨rfl,n,rfl,n0,n1⟩
  ·refine⟨_,(zae (zam (zaj zau (pv 0) zad (nomark _)) (zae (zak (zai G0 hr rfl D0.m D0.F.kp D0.b .nil pass0 (zaa (pv 1) (zaa (pv 2) zab))))) zah)),?_⟩
   refine⟨_,rfl,rfl,_,rfl,int_eq ?_⟩
   exact⟨_,rfl,_,rfl,a,b,n,m,ts,us,rfl,hA.web,hB.web,hA.ok,hB.ok,hA.len,hB.len,hn,fun r H1 s1 _=>q H1 s1⟩
  ·refine⟨_,(zae (zam (zaj zau (pv 0) zad (nomark _)) zah (zae (zam (zaj zau (pv 0) zad (nomark _)) (zae (zak (zai G1 hr rfl D1.m D1.F.kp D1.b .nil pass0 (zaa (pv 1) (zaa (pv 2) zab))))) zah)))),?_⟩
   refine⟨_,rfl,rfl,_,rfl,zar (by decide) ?_⟩
   refine⟨_,rfl,rfl,_,rfl,int_eq ?_⟩
   exact⟨_,rfl,_,rfl,a,b,n,m,ts,us,rfl,hA.web,hB.web,hA.ok,hB.ok,hA.pk,hB.pk,hA.h0,hB.h0,hn,fun r H1 s1 _=>q H1 s1⟩
  ·refine⟨_,(zae (zam (zaj zau (pv 0) zad (nomark _)) zah (zae (zam (zaj zau (pv 0) zad (nomark _)) zah (zae (zam (zaj zau (pv 0) zad (nomark _)) (zae (zak (zai G2 hr rfl D2.m D2.F.kp D2.b .nil pass0 (zaa (pv 1) (zaa (pv 2) zab))))) zah)))))),?_⟩
   refine⟨_,rfl,rfl,_,rfl,zar (by decide) ?_⟩
   refine⟨_,rfl,rfl,_,rfl,zar (by decide) ?_⟩
   refine⟨_,rfl,rfl,_,rfl,int_eq ?_⟩
   exact⟨_,rfl,_,rfl,a,b,n,m,ts,us,rfl,hA,hB,hn,fun r H1 s1 _=>q H1 s1⟩
  ·refine⟨_,(zae (zam (zaj zau (pv 0) zad (nomark _)) zah (zae (zam (zaj zau (pv 0) zad (nomark _)) zah (zae (zam (zaj zau (pv 0) zad (nomark _)) zah (zae (zam (zaj zau (pv 0) zad (nomark _)) (zae (zak (zai G3 hr rfl D3.m D3.F.kp D3.b .nil pass0 (zaa (pv 1) (zaa (pv 2) zab))))) zah)))))))),?_⟩
   refine⟨_,rfl,rfl,_,rfl,zar (by decide) ?_⟩
   refine⟨_,rfl,rfl,_,rfl,zar (by decide) ?_⟩
   refine⟨_,rfl,rfl,_,rfl,zar (by decide) ?_⟩
   refine⟨_,rfl,rfl,_,rfl,int_eq ?_⟩
   exact⟨_,rfl,_,rfl,a,l,n,ts,xs,rfl,hA,hL,hS,fun r H1 s1 _=>q H1 s1⟩
  ·refine⟨_,(zae (zam (zaj zau (pv 0) zad (nomark _)) zah (zae (zam (zaj zau (pv 0) zad (nomark _)) zah (zae (zam (zaj zau (pv 0) zad (nomark _)) zah (zae (zam (zaj zau (pv 0) zad (nomark _)) zah (zae (zam (zaj zau (pv 0) zad (nomark _)) (zae (zak (zai G4 hr rfl D4.m D4.F.kp D4.b .nil pass0 (zaa (pv 1) zab)))) zah)))))))))),?_⟩
   refine⟨_,rfl,rfl,_,rfl,zar (by decide) ?_⟩
   refine⟨_,rfl,rfl,_,rfl,zar (by decide) ?_⟩
   refine⟨_,rfl,rfl,_,rfl,zar (by decide) ?_⟩
   refine⟨_,rfl,rfl,_,rfl,zar (by decide) ?_⟩
   refine⟨_,rfl,rfl,_,rfl,int_eq ?_⟩
   exact⟨_,rfl,a,n,ts,rfl,hA,fun r H1 s1 _=>q H1 s1⟩
  ·refine⟨_,(zae (zam (zaj zau (pv 0) zad (nomark _)) zah (zae (zam (zaj zau (pv 0) zad (nomark _)) zah (zae (zam (zaj zau (pv 0) zad (nomark _)) zah (zae (zam (zaj zau (pv 0) zad (nomark _)) zah (zae (zam (zaj zau (pv 0) zad (nomark _)) zah (zae (zam (zaj zau (pv 0) zad (nomark _)) zah (zae (zam (zaj zau (pv 0) zad (nomark _)) (zae (zak (zai G6 hr rfl D6.m D6.F.kp D6.b .nil pass0 (zaa (pv 1) (zaa (pv 2) zab))))) zah)))))))))))))),?_⟩
   refine⟨_,rfl,rfl,_,rfl,zar (by decide) ?_⟩
   refine⟨_,rfl,rfl,_,rfl,zar (by decide) ?_⟩
   refine⟨_,rfl,rfl,_,rfl,zar (by decide) ?_⟩
   refine⟨_,rfl,rfl,_,rfl,zar (by decide) ?_⟩
   refine⟨_,rfl,rfl,_,rfl,zar (by decide) ?_⟩
   refine⟨_,rfl,rfl,_,rfl,zar (by decide) ?_⟩
   refine⟨_,rfl,rfl,_,rfl,int_eq ?_⟩
   exact⟨_,rfl,_,rfl,m,k,rfl,m0,m1,k0,k1,hc,fun v H1 s1=>q H1 s1⟩
  ·refine⟨_,(zae (zam (zaj zau (pv 0) zad (nomark _)) zah (zae (zam (zaj zau (pv 0) zad (nomark _)) zah (zae (zam (zaj zau (pv 0) zad (nomark _)) zah (zae (zam (zaj zau (pv 0) zad (nomark _)) zah (zae (zam (zaj zau (pv 0) zad (nomark _)) zah (zae (zam (zaj zau (pv 0) zad (nomark _)) zah (zae (zam (zaj zau (pv 0) zad (nomark _)) zah (zae (zak (zai G7 hr rfl D7.m D7.F.kp D7.b .nil pass0 (zaa (pv 1) zab)))))))))))))))))),?_⟩
   refine⟨_,rfl,rfl,_,rfl,zar (by decide) ?_⟩
   refine⟨_,rfl,rfl,_,rfl,zar (by decide) ?_⟩
   refine⟨_,rfl,rfl,_,rfl,zar (by decide) ?_⟩
   refine⟨_,rfl,rfl,_,rfl,zar (by decide) ?_⟩
   refine⟨_,rfl,rfl,_,rfl,zar (by decide) ?_⟩
   refine⟨_,rfl,rfl,_,rfl,zar (by decide) ?_⟩
   refine⟨_,rfl,rfl,_,rfl,zar (by decide) ?_⟩
   exact⟨_,rfl,n,rfl,n0,n1,fun v H1 s1=>q H1 s1⟩
noncomputable def WordOf(K:W.Frag)(cs:List Addr)(C:Addr)(x:Str):Prop:=∃(bs:List Bool) (j:Nat),Kinds K cs C bs/\bs.countP id=1/\bs[j]? =some true/\(∀m,m<j->bs[m]? =some false)/\words[j]? =some x
noncomputable def spWordN(K:W.Frag):Sp:=fun vs H Q _=>vs=[.non]/\Q (.str "told") H
theorem ok_wordN{f:Addr}{fd:FuncData}(F:Fun K "_law_b_word" "_law_b_word" zbo f fd):FnOk P w K mg base CX0 2 f fd ["e"] (spWordN K):=by
 refine F.ok sc_word (fun vs H Q E h=> ?_) (fun cdv A outer s H vs Q E hr h=> ?_)
 ·obtain⟨rfl,_⟩:=h
  rfl
 obtain⟨rfl,q⟩:=h
 refine⟨_,zag (zam (zaj op_isN (pv 0) pe_non (nomark _)) (zae (zaq zav)) zaw) zah,?_⟩
 exact⟨_,rfl,rfl,_,rfl,iteT q⟩
noncomputable def wordO:Option Rf->Str
 |none=>"told"
 |some r=>r.word
noncomputable def spAsked(K:W.Frag):Sp:=fun vs H Q _=>∃(way:Int) (x y:V) (o:Option Rf),vs=[.int way,x,y]/\AskOk K H way x y o/\∀H',Same H H'->Q (.str (wordO o)) H'
theorem sc_asked:FnScope ["way","one","other","caught","e"] ["way","one","other"] (defScope zbj):=⟨rfl,rfl,rfl,by decide+kernel,rfl,by decide+kernel,by decide+kernel⟩
theorem ok_asked{f f1 f2 D:Addr}{fd d1 d2:FuncData}{cs:List Addr}{c:Cls}(F:Fun K "_law_b_asked" "_law_b_asked" zbj f fd)(D1:Dfn K mg "_law_b_ask" zcg ["way","one","other"] f1 d1)(X1:FnOk P w K mg base (CX1 P w) 10 f1 d1 ["way","one","other"] (spAsk K c))(D2:Dfn K mg "_law_b_word" zbo ["e"] f2 d2)(G2':FnOk P w K mg base CX0 2 f2 d2 ["e"] (spWord K cs))(N2':FnOk P w K mg base CX0 2 f2 d2 ["e"] (spWordN K))(mD:mg "HueError"=some (.ref D))(hD:∀r,PySem.W.exmOne K (.ref (c.of r)) (.ref D)=some true)(kW:∀r,WordOf K cs (c.of r) r.word):
  FnOk P w K mg base CX0 11 f fd ["way","one","other"] (spAsked K):=by
 have G2:FnOk P w K mg base CX0 10 f2 d2 ["e"] (spWord K cs):=G2'.mono (by decide)
 have N2:FnOk P w K mg base CX0 10 f2 d2 ["e"] (spWordN K):=N2'.mono (by decide)
 refine F.ok sc_asked (fun vs H Q E h=> ?_) (fun cdv A outer s H vs Q E hr h=> ?_)
 ·obtain⟨_,_,_,_,rfl,_⟩:=h
  rfl
 obtain⟨way,x,y,o,rfl,hb,q⟩:=h
 cases o with
 |some r=>
  refine⟨_,zag (zas (i:=3) sc_asked.nd rfl (Or.inl rfl) pe_non) (zag (ps_tryE (i:=4) rfl rfl X1 hr rfl D1.m D1.F.kp D1.b (zaa (pv 0) (zaa (pv 1) (zaa (pv 2) zab))) rfl mD sc_asked.nd rfl rfl (fun e=>zae (zas (i:=3) sc_asked.nd rfl (Or.inl rfl) (pv 4)))) (zae (zaq (zai G2 hr rfl D2.m D2.F.kp D2.b .nil pass0 (zaa (pv 3) zab))))),?_⟩
  refine⟨_,rfl,_,rfl,_,rfl,way,x,y,some r,rfl,hb,fun e H1 s1 he=>⟨e,_,rfl,rfl,hD r,?_⟩⟩
  have s2:=zaf he (ExcO e (c.of r))
  refine⟨_,rfl,?_⟩
  obtain⟨bs,j,k1,k2,k3,k4,k5⟩:=kW r
  refine⟨_,rfl,?_⟩
  exact⟨e,c.of r,bs,j,r.word,rfl,zac,k1,k2,k3,k4,k5,fun H' s3=>q H' (s1.trans (s2.trans s3))⟩
 |none=>
  refine⟨_,zag (zas (i:=3) sc_asked.nd rfl (Or.inl rfl) pe_non) (zag (ps_tryE (i:=4) rfl rfl X1 hr rfl D1.m D1.F.kp D1.b (zaa (pv 0) (zaa (pv 1) (zaa (pv 2) zab))) rfl mD sc_asked.nd rfl rfl (fun e=>zae (zas (i:=3) sc_asked.nd rfl (Or.inl rfl) (pv 4)))) (zae (zaq (zai N2 hr rfl D2.m D2.F.kp D2.b .nil pass0 (zaa (pv 3) zab))))),?_⟩
  exact⟨_,rfl,_,rfl,_,rfl,way,x,y,none,rfl,hb,fun H1 s1=>⟨_,rfl,rfl,q H1 s1⟩⟩
end
end Hs
namespace L2
open PySem PySem.Spec PyProof.Rows
mutual
noncomputable def eqD:Nat->PyData->PyData->Bool
 |0,_,_=>false
 |n+1,a,b=>match a,b with
  | .none,.none=>true
  | .bool x,.bool y=>x==y
  | .int x,.int y=>x==y
  | .str x,.str y=>x==y
  | .list xs,.list ys=>eqDs n xs ys
  | .tuple xs,.tuple ys=>eqDs n xs ys
  | .dict [],.dict []=>true
  |_,_=>false
noncomputable def eqDs:Nat->List PyData->List PyData->Bool
 |0,_,_=>false
 |n+1,xs,ys=>match xs,ys with
  |[],[]=>true
  |x::xs,y::ys=>eqD n x y&&eqDs n xs ys
  |_,_=>false
end
theorem eqD_all:∀n:Nat,(∀a b,eqD n a b=true->a=b)/\(∀xs ys,eqDs n xs ys=true->xs=ys)
 |0=>⟨fun a b h=>by simp[eqD]at h,fun a b h=>by simp[eqDs]at h⟩
 |n+1=>by
  obtain⟨i1,i2⟩:=eqD_all n
  refine⟨fun a b h=> ?_,fun xs ys h=> ?_⟩
  ·unfold eqD at h
   split at h
   ·rfl
   ·rw[beq_iff_eq.mp h]
   ·rw[beq_iff_eq.mp h]
   ·rw[beq_iff_eq.mp h]
   ·rw[i2 _ _ h]
   ·rw[i2 _ _ h]
   ·rfl
   ·cases h
  ·unfold eqDs at h
   split at h
   ·rfl
   ·rw[Bool.and_eq_true]at h
    rw[i1 _ _ h.1,i2 _ _ h.2]
   ·cases h
noncomputable def litIs(es:List Expr)(ds:List PyData):Bool:=match litsF 60 es with
 |some ds'=>eqDs 60 ds' ds
 |none=>false
theorem litIs_of{es:List Expr}{ds:List PyData}(h:litIs es ds=true):litsF 60 es=some ds:=by
 unfold litIs at h
 split at h
 ·rename_i ds' e
  rw[e,(eqD_all 60).2 _ _ h]
 ·cases h
theorem pa_litsB{X:Cx}(K:W.Frag){es:List Expr}{ds:List PyData}(h:litIs es ds=true)(hk:X.K=K:=by rfl):PA X es (tLits K ds):=pa_litsK K (litIs_of h) hk
end L2
namespace L2
open PySem PySem.Spec PyProof.Rows
mutual
inductive DA(K:W.Frag)(av:Addr)(H:Hp):V->PyData->Prop
 |non:DA K av H .non .none
 |bl (b:Bool):DA K av H (.bl b) (.bool b)
 |int (i:Int):DA K av H (.int i) (.int i)
 |str (x:Str):DA K av H (.str x) (.str x)
 |tup {a:Addr} {xs:List V} {ds:List PyData} (h:SqT K H a xs) (t:DAs K av H xs ds):DA K av H (.ref a) (.tuple ds)
 |lst {a:Addr} {xs:List V} {ds:List PyData} (h:H a=some (.lst xs)) (n:a≠av) (t:DAs K av H xs ds):DA K av H (.ref a) (.list ds)
 |dct {a:Addr} {kvs:List (Key×V)} (ds:List (PyData×PyData)) (h:H a=some (.dK kvs)) (n:a≠av):DA K av H (.ref a) (.dict ds)
inductive DAs(K:W.Frag)(av:Addr)(H:Hp):List V->List PyData->Prop
 |nil:DAs K av H [] []
 |cons {x:V} {d:PyData} {xs:List V} {ds:List PyData} (h:DA K av H x d) (t:DAs K av H xs ds):DAs K av H (x::xs) (d::ds)
end
section
variable{K:W.Frag}{av:Addr}{H H':Hp}
theorem DA.dx{x:V}{d:PyData}(h:DA K av H x d):DX K H x d:=
 DA.rec (motive_1:=fun x d _=>DX K H x d) (motive_2:=fun xs ds _=>DXs K H xs ds) .non (fun b=> .bl b) (fun i=> .int i) (fun x=> .str x) (fun h _ t=> .tup h t) (fun h _ _ t=> .lst (SqL.of h) t) (fun ds h _=> .dct ds h) .nil (fun _ _ h t=> .cons h t) h
theorem DAs.dx{xs:List V}{ds:List PyData}(h:DAs K av H xs ds):DXs K H xs ds:=
 DAs.rec (motive_1:=fun _ _ _=>True) (motive_2:=fun xs ds _=>DXs K H xs ds) trivial (fun _=>trivial) (fun _=>trivial) (fun _=>trivial) (fun _ _ _=>trivial) (fun _ _ _ _=>trivial) (fun _ _ _=>trivial) .nil (fun h _ _ t=> .cons h.dx t) h
theorem DA.keep(ht:∀a xs,SqT K H a xs->SqT K H' a xs)(hl:∀a xs,a≠av->H a=some (.lst xs)->H' a=some (.lst xs))(hd:∀a kvs,a≠av->H a=some (.dK kvs)->H' a=some (.dK kvs)){x:V}{d:PyData}(h:DA K av H x d):DA K av H' x d:=
 DA.rec (motive_1:=fun x d _=>DA K av H' x d) (motive_2:=fun xs ds _=>DAs K av H' xs ds) .non (fun b=> .bl b) (fun i=> .int i) (fun x=> .str x) (fun h _ t=> .tup (ht _ _ h) t) (fun h n _ t=> .lst (hl _ _ n h) n t) (fun ds h n=> .dct ds (hd _ _ n h) n) .nil (fun _ _ h t=> .cons h t) h
theorem DAs.keep(ht:∀a xs,SqT K H a xs->SqT K H' a xs)(hl:∀a xs,a≠av->H a=some (.lst xs)->H' a=some (.lst xs))(hd:∀a kvs,a≠av->H a=some (.dK kvs)->H' a=some (.dK kvs)){xs:List V}{ds:List PyData}(h:DAs K av H xs ds):DAs K av H' xs ds:=
 DAs.rec (motive_1:=fun _ _ _=>True) (motive_2:=fun xs ds _=>DAs K av H' xs ds) trivial (fun _=>trivial) (fun _=>trivial) (fun _=>trivial) (fun _ _ _=>trivial) (fun _ _ _ _=>trivial) (fun _ _ _=>trivial) .nil (fun h _ _ t=> .cons (h.keep ht hl hd) t) h
theorem DA.same{x:V}{d:PyData}(h:DA K av H x d)(e:Same H H'):DA K av H' x d:=h.keep (fun _ _ z=>e.tup z) (fun _ _ _ z=>e _ _ z) fun _ _ _ z=>e _ _ z
theorem DAs.same{xs:List V}{ds:List PyData}(h:DAs K av H xs ds)(e:Same H H'):DAs K av H' xs ds:=h.keep (fun _ _ z=>e.tup z) (fun _ _ _ z=>e _ _ z) fun _ _ _ z=>e _ _ z
theorem DAs.samex{zs:List V}{xs:List V}{ds:List PyData}(h:DAs K av H xs ds)(e:SameX av H H')(n:H av=some (.lst zs)):DAs K av H' xs ds:=h.keep (fun _ _ z=>e.tup n z) (fun _ _ n z=>e _ _ n z) fun _ _ n z=>e _ _ n z
theorem DAs.append{xs ys:List V}{ds es:List PyData}(h:DAs K av H xs ds)(h':DAs K av H ys es):DAs K av H (xs++ys) (ds++es):=
 DAs.rec (motive_1:=fun _ _ _=>True) (motive_2:=fun xs ds _=>DAs K av H (xs++ys) (ds++es)) trivial (fun _=>trivial) (fun _=>trivial) (fun _=>trivial) (fun _ _ _=>trivial) (fun _ _ _ _=>trivial) (fun _ _ _=>trivial) h' (fun h _ _ t=> .cons h t) h
theorem DAs.at{xs:List V}{ds:List PyData}(h:DAs K av H xs ds):∀{i:Nat} {x:V},xs[i]? =some x->∃d∈ds,DA K av H x d:=
 DAs.rec (motive_1:=fun _ _ _=>True) (motive_2:=fun xs ds _=>∀{i:Nat} {x:V},xs[i]? =some x->∃d∈ds,DA K av H x d) trivial (fun _=>trivial) (fun _=>trivial) (fun _=>trivial) (fun _ _ _=>trivial) (fun _ _ _ _=>trivial) (fun _ _ _=>trivial)
  (fun e=>by simp at e) (fun h _ _ t i x e=>by
   cases i with
   |zero=>simp at e;subst e;exact⟨_,List.mem_cons_self,h⟩
   |succ i=>
    obtain⟨d,hd,z⟩:=t (i:=i) (by simpa using e)
    exact⟨d,List.mem_cons_of_mem _ hd,z⟩) h
theorem DAs.ints:∀(ns:List Int),DAs K av H (ns.map V.int) (ns.map PyData.int)
 |[]=> .nil
 |n::ns=> .cons (.int n) (DAs.ints ns)
end
section
variable{X:Cx}
end
end L2
namespace L2
open PySem
theorem DXs.append{K:W.Frag}{H:Hp}{xs ys:List V}{ds es:List PyData}(h:DXs K H xs ds)(h':DXs K H ys es):DXs K H (xs++ys) (ds++es):=
 DXs.rec (motive_1:=fun _ _ _=>True) (motive_2:=fun xs ds _=>DXs K H (xs++ys) (ds++es)) trivial (fun _=>trivial) (fun _=>trivial) (fun _=>trivial) (fun _ _ _=>trivial) (fun _ _ _=>trivial) (fun _ _=>trivial) h' (fun h _ _ t=> .cons h t) h
theorem DXs.at{K:W.Frag}{H:Hp}{xs:List V}{ds:List PyData}(h:DXs K H xs ds):∀{i:Nat} {x:V},xs[i]? =some x->∃d∈ds,DX K H x d:=
 DXs.rec (motive_1:=fun _ _ _=>True) (motive_2:=fun xs ds _=>∀{i:Nat} {x:V},xs[i]? =some x->∃d∈ds,DX K H x d) trivial (fun _=>trivial) (fun _=>trivial) (fun _=>trivial) (fun _ _ _=>trivial) (fun _ _ _=>trivial) (fun _ _=>trivial)
  (fun e=>by simp at e) (fun h _ _ t i x e=>by
   cases i with
   |zero=>simp at e;subst e;exact⟨_,List.mem_cons_self,h⟩
   |succ i=>
    obtain⟨d,hd,z⟩:=t (i:=i) (by simpa using e)
    exact⟨d,List.mem_cons_of_mem _ hd,z⟩) h
end L2
namespace Hs
open PySem L2 HsD
noncomputable def nw1:List PyData:=[.none,.tuple [],.int 3,.tuple [.int 0],.tuple [.int 11,.tuple []],.tuple [.int (-1),.tuple []],.tuple [.bool true,.tuple []],.tuple [.str "2",.tuple []],.tuple [.int 2,.list []],.list [.int 2,.tuple []],.tuple [.int 2,.tuple [.tuple [.int 0,.int 2]]]]
noncomputable def nw2:List PyData:=[.tuple [.int 2,.tuple [.tuple [.int 1,.int 0]]],.tuple [.int 2,.tuple [.tuple [.int 0,.int 0]]],.tuple [.int 2,.tuple [.tuple [.int 0,.int 1],.tuple [.int 0,.int 1]]],.tuple [.int 3,.tuple [.tuple [.int 1,.int 2],.tuple [.int 0,.int 1]]],.tuple [.int 2,.tuple [.list [.int 0,.int 1]]]]
noncomputable def nw3:List PyData:=[.tuple [.int 2,.tuple [.tuple [.int 0,.int 1,.int 1]]],.tuple [.int 2,.tuple [.tuple [.int 0,.bool true]]],.tuple [.int 2,.tuple [.tuple [.int 0,.none]]],.tuple [.int 2,.tuple [.tuple [.int (-1),.int 1]]],.tuple [.int 2,.tuple [],.tuple []],.tuple [.int 2,.none]]
noncomputable def nw4:List PyData:=[.tuple [.int 2,.tuple [.tuple [.int 0]]],.dict [],.str "web"]
theorem nw_no:∀d∈((nw1++nw2)++nw3)++nw4,webD d=false:=by
 have h:(((nw1++nw2)++nw3)++nw4).all (fun d=> !webD d)=true:=by decide+kernel
 intro d hd
 have z:=List.all_eq_true.mp h d hd
 simpa using z
section
variable{P:Program}{w:World}{K:W.Frag}{mg:Str->Option Value}{base:Heap}
noncomputable def spNoWebs(K:W.Frag):Sp:=fun vs H Q _=>vs=[]/\∀l xs H',Same H H'->H' l=some (.lst xs)->xs.length<=30->DXs K H' xs (((nw1++nw2)++nw3)++nw4)->Q (.ref l) H'
theorem sc_noWebs:FnScope ["found"] [] (defScope zba):=⟨rfl,rfl,rfl,by decide+kernel,rfl,by decide+kernel,by decide+kernel⟩
theorem sh_noWebs:∃(es1 es2 es3 es4:List Expr) (p1 p2 p3 q1 q2 q3 q4 q5 r1 r2 r3 r4 r5 u2 u3 u4 u5:Pos),defBody zba=[.Assign [.Name "found" p1] (.List es1 p2) p3,
   .Assign [.Name "found" q1] (.BinOp (.Name "found" q2) .Add (.List es2 q3) q4) q5,.Assign [.Name "found" r1] (.BinOp (.Name "found" r2) .Add (.List es3 r3) r4) r5,.Return (some (.BinOp (.Name "found" u2) .Add (.List es4 u3) u4)) u5]/\
  litIs es1 nw1=true/\litIs es2 nw2=true/\litIs es3 nw3=true/\litIs es4 nw4=true:=
 ⟨_,_,_,_,_,_,_,_,_,_,_,_,_,_,_,_,_,_,_,_,_,rfl,by decide+kernel,by decide+kernel,by decide+kernel,by decide+kernel⟩
theorem ok_noWebs{f:Addr}{fd:FuncData}(F:Fun K "_law_b_no_webs" "_law_b_no_webs" zba f fd):FnOk P w K mg base CX0 1 f fd [] (spNoWebs K):=by
 refine F.ok sc_noWebs (fun vs H Q E h=> ?_) (fun cdv A outer s H vs Q E hr h=> ?_)
 ·obtain⟨rfl,_⟩:=h
  rfl
 obtain⟨rfl,q⟩:=h
 obtain⟨es1,es2,es3,es4,p1,p2,p3,q1,q2,q3,q4,q5,r1,r2,r3,r4,r5,u2,u3,u4,u5,eb,k1,k2,k3,k4⟩:=sh_noWebs
 rw[eb]
 refine⟨_,zag (zas (i:=0) sc_noWebs.nd rfl (Or.inl rfl) (zbm (pa_litsB K k1))) (zag (zas (i:=0) sc_noWebs.nd rfl (Or.inl rfl) (zap op_cat (pv 0) (zbm (pa_litsB K k2)))) (zag (zas (i:=0) sc_noWebs.nd rfl (Or.inl rfl) (zap op_cat (pv 0) (zbm (pa_litsB K k3)))) (zae (zaq (zap op_cat (pv 0) (zbm (pa_litsB K k4))))))),?_⟩
 intro xs1 H1 s1 v1
 have e1:xs1.length=11:=v1.len
 refine⟨by rw[e1,sizeLine_eq];decide,fun l1 hl1=> ?_⟩
 have t1:=zaf hl1 (.lst xs1)
 refine⟨_,rfl,fun xs2 H2 s2 v2=> ?_⟩
 have e2:xs2.length=5:=v2.len
 refine⟨by rw[e2,sizeLine_eq];decide,fun l2 hl2=> ?_⟩
 have t2:=zaf hl2 (.lst xs2)
 refine⟨l1,l2,xs1,xs2,rfl,rfl,t2 _ _ (s2 _ _ zac),zac,by rw[e1,e2,sizeLine_eq];decide,fun l3 hl3=> ?_⟩
 have t3:=zaf hl3 (.lst (xs1++xs2))
 have v12:=((((v1.same t1).same s2).same t2).same t3).append ((v2.same t2).same t3)
 refine⟨_,rfl,fun xs3 H3 s3 v3=> ?_⟩
 have e3:xs3.length=6:=v3.len
 refine⟨by rw[e3,sizeLine_eq];decide,fun l4 hl4=> ?_⟩
 have t4:=zaf hl4 (.lst xs3)
 refine⟨l3,l4,xs1++xs2,xs3,rfl,rfl,t4 _ _ (s3 _ _ zac),zac,by rw[List.length_append,e1,e2,e3,sizeLine_eq];decide,fun l5 hl5=> ?_⟩
 have t5:=zaf hl5 (.lst ((xs1++xs2)++xs3))
 have v123:=(((v12.same s3).same t4).same t5).append ((v3.same t4).same t5)
 refine⟨_,rfl,fun xs4 H4 s4 v4=> ?_⟩
 have e4:xs4.length=3:=v4.len
 refine⟨by rw[e4,sizeLine_eq];decide,fun l6 hl6=> ?_⟩
 have t6:=zaf hl6 (.lst xs4)
 refine⟨l5,l6,(xs1++xs2)++xs3,xs4,rfl,rfl,t6 _ _ (s4 _ _ zac),zac,by rw[List.length_append,List.length_append,e1,e2,e3,e4,sizeLine_eq];decide,fun l7 hl7=> ?_⟩
 have t7:=zaf hl7 (.lst (((xs1++xs2)++xs3)++xs4))
 have v:=(((v123.same s4).same t6).same t7).append ((v4.same t6).same t7)
 exact q l7 _ _ (s1.trans (t1.trans (s2.trans (t2.trans (t3.trans (s3.trans (t4.trans (t5.trans (s4.trans (t6.trans t7)))))))))) zac (by rw[List.length_append,List.length_append,List.length_append,e1,e2,e3,e4];decide) v
end
end Hs
namespace Hs
open PySem L2 HsD
section
variable{P:Program}{w:World}{K:W.Frag}{mg:Str->Option Value}{base:Heap}
theorem ask_pick{H:Hp}{x y:V}{r:Rf}(h:PickX K H x y r):AskOk K H 6 x y (some r):= .inr (.inr (.inr (.inr (.inr (.inr (.inl ⟨rfl,h⟩))))))
theorem ask_ring{H:Hp}{x y:V}(h:RingX K H x):AskOk K H 7 x y (some .number):= .inr (.inr (.inr (.inr (.inr (.inr (.inr ⟨rfl,rfl,h⟩))))))
theorem ask_pickT{H:Hp}{m k:Int}(m0:1<=m)(m1:m<=10)(k0:1<=k)(k1:k<=m)(hc:cntS m k<=10):AskOk K H 6 (.int m) (.int k) none:= .inr (.inr (.inr (.inr (.inr (.inl ⟨rfl,m,k,rfl,rfl,m0,m1,k0,k1,hc⟩)))))
theorem ask_ringT{H:Hp}{n:Int}{y:V}(h0:3<=n)(h1:n<=10):AskOk K H 7 (.int n) y none:= .inr (.inr (.inr (.inr (.inr (.inr ⟨rfl,n,rfl,h0,h1⟩)))))
noncomputable def rn12:List (Int×Option Rf):=[(1,some .number),(2,some .number),(3,none),(10,none)]
theorem rn_ok{H:Hp}{y:V}:∀v∈rn12,AskOk K H 7 (.int v.1) y v.2:=by
 intro v hv
 unfold rn12 at hv
 simp only[List.mem_cons,List.not_mem_nil,or_false]at hv
 rcases hv with rfl|rfl|rfl|rfl
 ·exact ask_ring ⟨_,.int _,by decide⟩
 ·exact ask_ring ⟨_,.int _,by decide⟩
 ·exact ask_ringT (by decide) (by decide)
 ·exact ask_ringT (by decide) (by decide)
noncomputable def pk12:List (Int×Option Rf):=[(0,some .number),(1,none),(2,some .many),(9,none),(10,none),(11,some .number)]
theorem pk_ok{H:Hp}:∀v∈pk12,AskOk K H 6 (.int 10) (.int v.1) v.2:=by
 intro v hv
 unfold pk12 at hv
 simp only[List.mem_cons,List.not_mem_nil,or_false]at hv
 rcases hv with rfl|rfl|rfl|rfl|rfl|rfl
 ·exact ask_pick (.inr (.inl ⟨rfl,10,_,rfl,by decide,by decide,.int _,by decide⟩))
 ·exact ask_pickT (by decide) (by decide) (by decide) (by decide) (by decide+kernel)
 ·exact ask_pick (.inr (.inr ⟨rfl,10,2,rfl,rfl,by decide,by decide,by decide,by decide,by decide+kernel,by decide+kernel⟩))
 ·exact ask_pickT (by decide) (by decide) (by decide) (by decide) (by decide+kernel)
 ·exact ask_pickT (by decide) (by decide) (by decide) (by decide) (by decide+kernel)
 ·exact ask_pick (.inr (.inl ⟨rfl,10,_,rfl,by decide,by decide,.int _,by decide⟩))
theorem DVs.strs{H:Hp}:∀l:List Str,DVs K H (l.map V.str) (l.map PyData.str)
 |[]=> .nil
 |x::l=> .cons (.str x) (DVs.strs l)
theorem n_far{m far:Int}(h0:0<=far):numD 1 m (.int (m+1+far))=false/\numD 1 m (.int (-1-far))=false/\numD 1 m (.int (m+1))=false:=by
 refine⟨?_,?_,?_⟩
 ·show(decide (1<=m+1+far)&&decide (m+1+far<=m))=false
  rw[decide_eq_false (show¬m+1+far<=m by omega),Bool.and_false]
 ·show(decide (1<= -1-far)&&decide (-1-far<=m))=false
  rw[decide_eq_false (show¬1<= -1-far by omega)];rfl
 ·show(decide (1<=m+1)&&decide (m+1<=m))=false
  rw[decide_eq_false (show¬m+1<=m by omega),Bool.and_false]
theorem n_zero{m:Int}:numD 1 m (.int 0)=false:=rfl
noncomputable def spNumR(K:W.Frag):Sp:=fun vs H Q _=>∃(tp scr:Addr) (ns:List Int),vs=[.ref tp]/\TapeV K H tp scr ns/\∀H',SameX tp H H'->TapeV K H' tp scr ns->Q (.bl true) H'
theorem sc_numR:FnScope ["tape","far","odd","m","told"] ["tape"] (defScope zao):=⟨rfl,rfl,rfl,by decide+kernel,rfl,by decide+kernel,by decide+kernel⟩
theorem ok_numR{f f1 f2:Addr}{fd d1 d2:FuncData}(F:Fun K "_law_b_numbers_right" "_law_b_numbers_right" zao f fd)(D1:Dfn K mg "_law_b_digit" zbe ["tape","many"] f1 d1)(G1':FnOk P w K mg base CX0 2 f1 d1 ["tape","many"] (spDigit K))(D2:Dfn K mg "_law_b_asked" zbj ["way","one","other"] f2 d2)(G2:FnOk P w K mg base CX0 11 f2 d2 ["way","one","other"] (spAsked K)):
  FnOk P w K mg base CX0 12 f fd ["tape"] (spNumR K):=by
 have G1:FnOk P w K mg base CX0 11 f1 d1 ["tape","many"] (spDigit K):=G1'.mono (by decide)
 refine F.ok sc_numR (fun vs H Q E h=> ?_) (fun cdv A outer s H vs Q E hr h=> ?_)
 ·obtain⟨tp,scr,ns,rfl,_⟩:=h
  rfl
 obtain⟨tp,scr,ns,rfl,tv,q⟩:=h
 refine⟨_,(zag (zas (i:=1) sc_numR.nd rfl (Or.inl rfl) (zai G1 hr rfl D1.m D1.F.kp D1.b .nil pass0 (zaa (pv 0) (zaa (zap op_pow zad zad) zab)))) (zag (zdj PassesOwn.never rfl (zbr (zbm (zaa zad (zaa zad (zaa (zap zbx zad (pv 1)) (zaa (pe_un un_neg zad) (zaa (zap op_sub (pe_un un_neg zad) (pv 1)) (zaa pe_bl (zaa pe_non (zaa zav (zaa (zax (zaa zad zab)) zab))))))))))) (zan (i:=2) sc_numR.nd rfl (Or.inl rfl)) (zag (zam (PW.pt (pw_or (zaj op_ne (zai G2 hr rfl D2.m D2.F.kp D2.b .nil pass0 (zaa zad (zaa (pv 2) (zaa zad zab)))) zav (nomark _)) (pw_or1 (zaj op_ne (zai G2 hr rfl D2.m D2.F.kp D2.b .nil pass0 (zaa zad (zaa (pv 2) (zaa pe_non zab)))) zav (nomark _))))) (zae (zaq pe_bl)) zaw) (zae (zam (zaj op_ne (zai G2 hr rfl D2.m D2.F.kp D2.b .nil pass0 (zaa zad (zaa (pv 2) (zaa zad zab)))) zav (nomark _)) (zae (zaq pe_bl)) zaw)))) (zag (zas (i:=3) sc_numR.nd rfl (Or.inl rfl) (zap zbx zad (zai G1 hr rfl D1.m D1.F.kp D1.b .nil pass0 (zaa (pv 0) (zaa zad zab))))) (zag (zdj PassesOwn.never rfl (zbr (zbm (zaa zad (zaa (zap zbx (pv 3) zad) (zaa (zap zbx (zap zbx (pv 3) zad) (pv 1)) (zaa (zap op_sub (pe_un un_neg zad) (pv 1)) (zaa pe_bl (zaa pe_non (zaa zav (zaa (zbm (zaa zad zab)) zab)))))))))) (zan (i:=2) sc_numR.nd rfl (Or.inl rfl)) (zae (zam (zaj op_ne (zai G2 hr rfl D2.m D2.F.kp D2.b .nil pass0 (zaa zad (zaa (pv 3) (zaa (pv 2) zab)))) zav (nomark _)) (zae (zaq pe_bl)) zaw))) (zag (zam (zaj (op_neD hr.units) (zch (own:=["n"]) (caps:=[]) (ix:=[]) rfl (zbr (zbm (zaa zad (zaa zad (zaa zad (zaa zad zab)))))) rfl rfl .nil (fun _ _ _ _ _=>(zan (i:=0) (show(["n"]:List Str).Nodup from by decide+kernel) rfl (Or.inl rfl))) (fun _ _ _ _ _=>zdc) (fun _ _ _ _ _=>(zai G2 hr rfl D2.m D2.F.kp D2.b .nil pass0 (zaa zad (zaa (pv 0) (zaa zad zab)))))) (zbm (zaa zav (zaa zav (zaa zav (zaa zav zab))))) (nomark _)) (zae (zaq pe_bl)) zaw) (zag (ps_setComp (i:=4) (own:=["k"]) (caps:=[]) (ix:=[]) sc_numR.nd rfl (Or.inl rfl) rfl (zbr (zbm (zaa zad (zaa zad (zaa zad (zaa zad (zaa zad (zaa zad zab)))))))) rfl rfl .nil (fun _ _ _ _ _=>(zan (i:=0) (show(["k"]:List Str).Nodup from by decide+kernel) rfl (Or.inl rfl))) (fun _ _ _ _ _=>zdc) (fun _ _ _ _ _=>(zai G2 hr rfl D2.m D2.F.kp D2.b .nil pass0 (zaa zad (zaa zad (zaa (pv 0) zab)))))) (zae (zaq (pe_cmpR (op_eqD hr.units) (pv 4) (zbm (zaa zav (zaa zav (zaa zav (zaa zav (zaa zav (zaa zav zab))))))) (nomark _)))))))))),?_⟩
 refine⟨_,rfl,_,_,rfl,rfl,⟨by decide,by decide,by decide⟩,tp,scr,ns,_,rfl,tv,by decide,by decide,fun far H1 f0 f1 x1 tv1=> ?_⟩
 refine⟨_,rfl,_,_,rfl,rfl,_,rfl,_,rfl,_,rfl,_,_,rfl,rfl,(by show 1<=sizeLine;decide),fun p1 hp1=>⟨(by show 9<=sizeLine;decide),fun l1 hl1=> ?_⟩⟩
 have s2:=zaf hp1 (.tup [.int 3])
 have s3:=zaf hl1 (.lst [.int 0,.int 11,.int (11+far),.int (-1),.int (-1-far),.bl true,.non,.str "3",.ref p1])
 have s23:=s2.trans s3
 have key:∀y∈[V.int 0,.int 11,.int (11+far),.int (-1),.int (-1-far),.bl true,.non,.str "3",.ref p1],∃d,DX K (upd (upd H1 p1 (.tup [.int 3])) l1 (.lst [.int 0,.int 11,.int (11+far),.int (-1),.int (-1-far),.bl true,.non,.str "3",.ref p1])) y d/\numD 1 10 d=false/\numD 3 10 d=false:=fun y hy=>by
  simp only[List.mem_cons,List.not_mem_nil,or_false]at hy
  rcases hy with rfl|rfl|rfl|rfl|rfl|rfl|rfl|rfl|rfl
  ·exact⟨_,.int _,rfl,rfl⟩
  ·exact⟨_,.int _,rfl,rfl⟩
  ·refine⟨_,.int _,?_,?_⟩
   ·show(decide (1<=11+far)&&decide (11+far<=10))=false
    rw[decide_eq_false (show¬11+far<=10 by omega),Bool.and_false]
   ·show(decide (3<=11+far)&&decide (11+far<=10))=false
    rw[decide_eq_false (show¬11+far<=10 by omega),Bool.and_false]
  ·exact⟨_,.int _,rfl,rfl⟩
  ·refine⟨_,.int _,?_,?_⟩
   ·show(decide (1<= -1-far)&&decide (-1-far<=10))=false
    rw[decide_eq_false (show¬1<= -1-far by omega)];rfl
   ·show(decide (3<= -1-far)&&decide (-1-far<=10))=false
    rw[decide_eq_false (show¬3<= -1-far by omega)];rfl
  ·exact⟨_,.bl _,rfl,rfl⟩
  ·exact⟨_,.non,rfl,rfl⟩
  ·exact⟨_,.str _,rfl,rfl⟩
  ·exact⟨_,.tup (s3.tup (SqT.of zac)) (.cons (.int _) .nil),rfl,rfl⟩
 have k3:SqL K (upd (upd H1 p1 (.tup [.int 3])) l1 (.lst [.int 0,.int 11,.int (11+far),.int (-1),.int (-1-far),.bl true,.non,.str "3",.ref p1])) l1 [.int 0,.int 11,.int (11+far),.int (-1),.int (-1-far),.bl true,.non,.str "3",.ref p1]:=SqL.of zac
 generalize (upd (upd H1 p1 (.tup [.int 3])) l1 (.lst [.int 0,.int 11,.int (11+far),.int (-1),.int (-1-far),.bl true,.non,.str "3",.ref p1]))=H3 at *
 refine⟨l1,_,rfl,k3,fun _=> ?_⟩
 refine for_list (K:=K) (a:=l1) (xs:=[.int 0,.int 11,.int (11+far),.int (-1),.int (-1-far),.bl true,.non,.str "3",.ref p1]) (fun j σ H'=>Same H3 H'/\∃b2,σ=[some (.ref tp),some (.int far),b2,none,none]) ⟨Same.refl _,_,rfl⟩ (fun j σ H' _ p=>p.1.seq k3) (fun j y σ H4 hy p=> ?_) (fun σ H4 p=> ?_)
 ·obtain⟨s4,b2,rfl⟩:=p
  obtain⟨d,hd,n1,n3⟩:=key y (List.mem_of_getElem? hy)
  refine⟨_,rfl,6,y,.int 1,some .number,rfl,ask_pick (.inl ⟨rfl,d,hd.same s4,n1⟩),fun H5 s5=>⟨rfl,_,rfl,iteNS rfl ?_⟩⟩
  refine⟨_,rfl,6,y,.non,some .number,rfl,ask_pick (.inl ⟨rfl,d,hd.same (s4.trans s5),n1⟩),fun H6 s6=>⟨rfl,_,rfl,iteNS rfl ?_⟩⟩
  refine⟨_,rfl,7,y,.int 0,some .number,rfl,ask_ring ⟨d,hd.same (s4.trans (s5.trans s6)),n3⟩,fun H7 s7=>⟨rfl,_,rfl,iteNS rfl ?_⟩⟩
  exact⟨s4.trans (s5.trans (s6.trans s7)),_,rfl⟩
 obtain⟨s4,b2,rfl⟩:=p
 have s24:=s23.trans s4
 have tv4:=tv1.same s24
 have x4:SameX tp H H4:=x1.trans (s24.x _)
 clear key k3 s2 s3 s23 s4 s24
 refine⟨_,rfl,tp,scr,ns,10,rfl,tv4,by decide,by decide,fun g H5 g0 g1 x5 tv5=>⟨_,_,rfl,rfl,?_⟩⟩
 have em:∃m:Int,1+g=m/\1<=m/\m<=10:=⟨_,rfl,by omega,by omega⟩
 obtain⟨m,hm,m0,m1⟩:=em
 try dsimp only
 rw[hm]
 obtain⟨nf1,nf2,nf3⟩:=n_far (m:=m) f0
 refine⟨_,rfl,_,_,rfl,rfl,_,rfl,_,_,rfl,rfl,_,rfl,_,_,rfl,rfl,_,rfl,_,rfl,_,_,rfl,rfl,(by show 1<=sizeLine;decide),fun p2 hp2=>⟨(by show 8<=sizeLine;decide),fun l2 hl2=> ?_⟩⟩
 have s6:=zaf hp2 (.lst [.int 1])
 have s7:=zaf hl2 (.lst [.int 0,.int (m+1),.int (m+1+far),.int (-1-far),.bl true,.non,.str "1",.ref p2])
 have s67:=s6.trans s7
 have key:∀y∈[V.int 0,.int (m+1),.int (m+1+far),.int (-1-far),.bl true,.non,.str "1",.ref p2],∃d,DX K (upd (upd H5 p2 (.lst [.int 1])) l2 (.lst [.int 0,.int (m+1),.int (m+1+far),.int (-1-far),.bl true,.non,.str "1",.ref p2])) y d/\numD 1 m d=false:=fun y hy=>by
  simp only[List.mem_cons,List.not_mem_nil,or_false]at hy
  rcases hy with rfl|rfl|rfl|rfl|rfl|rfl|rfl|rfl
  ·exact⟨_,.int _,n_zero⟩
  ·exact⟨_,.int _,nf3⟩
  ·exact⟨_,.int _,nf1⟩
  ·exact⟨_,.int _,nf2⟩
  ·exact⟨_,.bl _,rfl⟩
  ·exact⟨_,.non,rfl⟩
  ·exact⟨_,.str _,rfl⟩
  ·exact⟨_,.lst (SqL.of (s7 _ _ zac)) (.cons (.int _) .nil),rfl⟩
 have k7:SqL K (upd (upd H5 p2 (.lst [.int 1])) l2 (.lst [.int 0,.int (m+1),.int (m+1+far),.int (-1-far),.bl true,.non,.str "1",.ref p2])) l2 [.int 0,.int (m+1),.int (m+1+far),.int (-1-far),.bl true,.non,.str "1",.ref p2]:=SqL.of zac
 generalize (upd (upd H5 p2 (.lst [.int 1])) l2 (.lst [.int 0,.int (m+1),.int (m+1+far),.int (-1-far),.bl true,.non,.str "1",.ref p2]))=H7 at *
 refine⟨l2,_,rfl,k7,fun _=> ?_⟩
 refine for_list (K:=K) (a:=l2) (xs:=[.int 0,.int (m+1),.int (m+1+far),.int (-1-far),.bl true,.non,.str "1",.ref p2]) (fun j σ H'=>Same H7 H'/\∃b2,σ=[some (.ref tp),some (.int far),b2,some (.int m),none]) ⟨Same.refl _,_,rfl⟩ (fun j σ H' _ p=>p.1.seq k7) (fun j y σ H8 hy p=> ?_) (fun σ H8 p=> ?_)
 ·obtain⟨s8,b2',rfl⟩:=p
  obtain⟨d,hd,n1⟩:=key y (List.mem_of_getElem? hy)
  refine⟨_,rfl,_,rfl,6,.int m,y,some .number,rfl,ask_pick (.inr (.inl ⟨rfl,m,d,rfl,m0,m1,hd.same s8,n1⟩)),fun H9 s9=>⟨rfl,_,rfl,iteNS rfl ?_⟩⟩
  exact⟨s8.trans s9,_,rfl⟩
 obtain⟨s8,b2',rfl⟩:=p
 have s68:=s67.trans s8
 have tv8:=tv5.same s68
 have x8:SameX tp H H8:=x4.trans (x5.trans (s68.x _))
 clear key k7 s6 s7 s67 s8 s68
 refine⟨(by show 4<=sizeLine;decide),fun l3 hl3=> ?_⟩
 have s9:=zaf hl3 (.lst [.int 1,.int 2,.int 3,.int 10])
 have k9:SqL K (upd H8 l3 (.lst [.int 1,.int 2,.int 3,.int 10])) l3 (rn12.map fun p=>V.int p.1):=SqL.of zac
 generalize (upd H8 l3 (.lst [.int 1,.int 2,.int 3,.int 10]))=H9 at *
 refine⟨l3,_,rfl,k9,fun hz=> ?_⟩
 refine zcj (K:=K) (a:=l3) (xs:=rn12.map fun p:Int×Option Rf=>V.int p.1) (fun i acc σ H'=>acc=(rn12.take i).map (fun p=>V.str (wordO p.2))/\Same H9 H'/\∃o,σ=[o]) ⟨rfl,Same.refl _,_,rfl⟩ (fun i acc σ H' _ p=>p.2.1.seq k9) (fun i acc σ H' hi p=> ?_) hz (fun i x acc σ H' hx p=> ?_) (fun acc σ H' p=> ?_)
 ·rw[p.1,List.length_map,List.length_take];exact Nat.min_le_left _ _
 ·obtain⟨rfl,sm,o,rfl⟩:=p
  rw[List.getElem?_map]at hx
  cases ex:rn12[i]? with
  |none=>rw[ex]at hx;cases hx
  |some v=>
   rw[ex]at hx
   cases hx
   refine⟨_,rfl,7,.int v.1,.int 0,v.2,rfl,rn_ok v (List.mem_of_getElem? ex),fun H10 s10=> ?_⟩
   exact⟨by rw[List.take_add_one,ex,List.map_append];rfl,sm.trans s10,_,rfl⟩
 intro p3 hp3
 obtain⟨rfl,sm,_⟩:=p
 have s10:=zaf hp3 (.lst ((rn12.take (rn12.map fun p=>V.int p.1).length).map fun p=>V.str (wordO p.2)))
 have k10:SqL K (upd H' p3 (.lst ((rn12.take (rn12.map fun p=>V.int p.1).length).map fun p=>V.str (wordO p.2)))) p3 ((["number","number","told","told"]:List Str).map V.str):=SqL.of zac
 have s910:=s9.trans (sm.trans s10)
 generalize (upd H' p3 (.lst ((rn12.take (rn12.map fun p=>V.int p.1).length).map fun p=>V.str (wordO p.2))))=H10 at *
 refine⟨(by show 4<=sizeLine;decide),fun p4 hp4=> ?_⟩
 have s11:=zaf hp4 (.lst [.str "number",.str "number",.str "told",.str "told"])
 have k11:SqL K (upd H10 p4 (.lst [.str "number",.str "number",.str "told",.str "told"])) p4 ((["number","number","told","told"]:List Str).map V.str):=SqL.of zac
 refine⟨_,_,.lst (s11.seq k10) (DVs.strs _),.lst k11 (DVs.strs _),(by decide+kernel),(by decide+kernel),(by decide+kernel),_,rfl,?_⟩
 refine bl_itf (by decide+kernel) ?_
 have s811:=s910.trans s11
 have tv11:=tv8.same s811
 have x11:SameX tp H (upd H10 p4 (.lst [.str "number",.str "number",.str "told",.str "told"])):=x8.trans (s811.x _)
 generalize (upd H10 p4 (.lst [.str "number",.str "number",.str "told",.str "told"]))=H11 at *
 refine⟨(by show 6<=sizeLine;decide),fun l4 hl4=> ?_⟩
 have s12:=zaf hl4 (.lst [.int 0,.int 1,.int 2,.int 9,.int 10,.int 11])
 have k12:SqL K (upd H11 l4 (.lst [.int 0,.int 1,.int 2,.int 9,.int 10,.int 11])) l4 (pk12.map fun p=>V.int p.1):=SqL.of zac
 generalize (upd H11 l4 (.lst [.int 0,.int 1,.int 2,.int 9,.int 10,.int 11]))=H12 at *
 refine⟨l4,_,rfl,k12,fun hz2=> ?_⟩
 refine zcj (K:=K) (a:=l4) (xs:=pk12.map fun p:Int×Option Rf=>V.int p.1) (fun i acc σ H'=>acc=(pk12.take i).map (fun p=>V.str (wordO p.2))/\Same H12 H'/\∃o,σ=[o]) ⟨rfl,Same.refl _,_,rfl⟩ (fun i acc σ H' _ p=>p.2.1.seq k12) (fun i acc σ H' hi p=> ?_) hz2 (fun i x acc σ H' hx p=> ?_) (fun acc σ H' p=> ?_)
 ·rw[p.1,List.length_map,List.length_take];exact Nat.min_le_left _ _
 ·obtain⟨rfl,sm2,o,rfl⟩:=p
  rw[List.getElem?_map]at hx
  cases ex:pk12[i]? with
  |none=>rw[ex]at hx;cases hx
  |some v=>
   rw[ex]at hx
   cases hx
   refine⟨_,rfl,6,.int 10,.int v.1,v.2,rfl,pk_ok v (List.mem_of_getElem? ex),fun H13 s13=> ?_⟩
   exact⟨by rw[List.take_add_one,ex,List.map_append];rfl,sm2.trans s13,_,rfl⟩
 intro p5 hp5
 obtain⟨rfl,sm2,_⟩:=p
 have s13:=zaf hp5 (.lst ((pk12.take (pk12.map fun p=>V.int p.1).length).map fun p=>V.str (wordO p.2)))
 have k13:SqL K (upd H' p5 (.lst ((pk12.take (pk12.map fun p=>V.int p.1).length).map fun p=>V.str (wordO p.2)))) p5 ((["number","told","many","told","told","number"]:List Str).map V.str):=SqL.of zac
 have s1113:=s12.trans (sm2.trans s13)
 generalize (upd H' p5 (.lst ((pk12.take (pk12.map fun p=>V.int p.1).length).map fun p=>V.str (wordO p.2))))=H13 at *
 refine⟨_,rfl,(by show 6<=sizeLine;decide),fun p6 hp6=> ?_⟩
 have s14:=zaf hp6 (.lst [.str "number",.str "told",.str "many",.str "told",.str "told",.str "number"])
 have k14:SqL K (upd H13 p6 (.lst [.str "number",.str "told",.str "many",.str "told",.str "told",.str "number"])) p6 ((["number","told","many","told","told","number"]:List Str).map V.str):=SqL.of zac
 refine⟨_,_,.lst (s14.seq k13) (DVs.strs _),.lst k14 (DVs.strs _),(by decide+kernel),(by decide+kernel),(by decide+kernel),?_⟩
 have fin:=q _ (x11.trans ((s1113.trans s14).x _)) (tv11.same (s1113.trans s14))
 have e:PyData.eqv (.list ((["number","told","many","told","told","number"]:List Str).map PyData.str)) (.list ((["number","told","many","told","told","number"]:List Str).map PyData.str))=true:=by decide+kernel
 rw[e]
 exact fin
end
end Hs
namespace Hs
open PySem L2 HsD
section
variable{P:Program}{w:World}{K:W.Frag}{mg:Str->Option Value}{base:Heap}
noncomputable def spTwo(K:W.Frag):Sp:=fun vs H Q _=>∃(tp scr:Addr) (ns:List Int) (m:Int),vs=[.ref tp,.int m]/\TapeV K H tp scr ns/\0<=m/\m<=10/\
 ∀r a b n1 n2 t1 t2 H',SameX tp H H'->TapeV K H' tp scr ns->H' r=some (.tup [.ref a,.ref b])->WebIs K H' a n1 t1->WebIs K H' b n2 t2->n1+n2<=m->Q (.ref r) H'
theorem sc_two:FnScope ["tape","most","one"] ["tape","most"] (defScope zcf):=⟨rfl,rfl,rfl,by decide+kernel,rfl,by decide+kernel,by decide+kernel⟩
theorem ok_two{f f1:Addr}{fd d1:FuncData}(F:Fun K "_law_b_two" "_law_b_two" zcf f fd)(D1:Dfn K mg "_law_b_web" zce ["tape","most"] f1 d1)(G1:FnOk P w K mg base CX0 4 f1 d1 ["tape","most"] (spLWeb K)):
  FnOk P w K mg base CX0 5 f fd ["tape","most"] (spTwo K):=by
 refine F.ok sc_two (fun vs H Q E h=> ?_) (fun cdv A outer s H vs Q E hr h=> ?_)
 ·obtain⟨tp,scr,ns,m,rfl,_⟩:=h
  rfl
 obtain⟨tp,scr,ns,m,rfl,tv,hm0,hm1,q⟩:=h
 refine⟨_,zag (zas (i:=2) sc_two.nd rfl (Or.inl rfl) (zai G1 hr rfl D1.m D1.F.kp D1.b .nil pass0 (zaa (pv 0) (zaa (pv 1) zab)))) (zae (zaq (zax (zaa (pv 2) (zaa (zai G1 hr rfl D1.m D1.F.kp D1.b .nil pass0 (zaa (pv 0) (zaa (zap op_sub (pv 1) (zbb zbh (pv 2) zad (fun _ _=>rfl))) zab))) zab))))),?_⟩
 refine⟨_,rfl,_,rfl,tp,scr,ns,m,rfl,tv,hm0,hm1,fun a n1 t1 H1 x1 tv1 hW h0 h1 hP hok=> ?_⟩
 obtain⟨t,rs,w1,w2,w3⟩:=id hW
 refine⟨_,rfl,_,rfl,_,rfl,_,rfl,a,_,_,.int n1,rfl,rfl,w1,rfl,_,_,rfl,rfl,tp,scr,ns,m-n1,rfl,tv1,by omega,by omega,fun b n2 t2 H2 x2 tv2 hW2 g0 g1 gP gok=> ?_⟩
 obtain⟨zs,hz⟩:=TapeV.lst tv1
 refine⟨(by show 2<=sizeLine;decide),fun r hr'=> ?_⟩
 have s3:=zaf hr' (.tup [.ref a,.ref b])
 exact q r a b n1 n2 t1 t2 _ ((x1.trans x2).trans (s3.x _)) (tv2.same s3) zac ⟨(hW.samex x2 hz).same s3,h0,by omega,hP,hok⟩ ⟨hW2.same s3,g0,by omega,gP,gok⟩ (by omega)
theorem WebIs.samex{H H':Hp}{t a:Addr}{zs:List V}{n:Int}{ts:List (Int×Int)}(h:WebIs K H a n ts)(e:SameX t H H')(hn:H t=some (.lst zs)):WebIs K H' a n ts:=⟨h.web.samex e hn,h.h0,h.h1,h.pk,h.ok⟩
theorem ask_noweb{H:Hp}{j:Int}{x y:V}(h0:0<=j)(h6:j<6)(h:NoWebV K H x):AskOk K H j x y (some .web):=by
 have hj:j=0\/j=1\/j=2\/j=3\/j=4\/j=5:=by omega
 rcases hj with rfl|rfl|rfl|rfl|rfl|rfl
 ·exact .inl ⟨rfl,.inl ⟨rfl,h⟩⟩
 ·exact .inr (.inl ⟨rfl,.inl ⟨rfl,h⟩⟩)
 ·exact .inr (.inr (.inl ⟨rfl,.inl ⟨rfl,h⟩⟩))
 ·exact .inr (.inr (.inr (.inl ⟨rfl,.inl ⟨rfl,h⟩⟩)))
 ·exact .inr (.inr (.inr (.inr (.inl ⟨rfl,rfl,h⟩))))
 ·exact .inr (.inr (.inr (.inr (.inr (.inl ⟨rfl,rfl,h⟩)))))
theorem ask_noweb2{H:Hp}{j n:Int}{a:Addr}{ts:List (Int×Int)}{y:V}(h0:0<=j)(h3:j<3)(hA:WebIs K H a n ts)(h:NoWebV K H y):AskOk K H j (.ref a) y (some .web):=by
 have hj:j=0\/j=1\/j=2:=by omega
 rcases hj with rfl|rfl|rfl
 ·exact .inl ⟨rfl,.inr (.inl ⟨rfl,⟨a,n,ts,rfl,hA⟩,h⟩)⟩
 ·exact .inr (.inl ⟨rfl,.inr (.inl ⟨rfl,⟨a,n,ts,rfl,hA⟩,h⟩)⟩)
 ·exact .inr (.inr (.inl ⟨rfl,.inr (.inl ⟨rfl,⟨a,n,ts,rfl,hA⟩,h⟩)⟩))
theorem ask_place{H:Hp}{n:Int}{a:Addr}{ts:List (Int×Int)}{y:V}{d:PyData}(hA:WebIs K H a n ts)(hd:DX K H y d)(h:setD n d=false):AskOk K H 3 (.ref a) y (some .place):=
 .inr (.inr (.inr (.inl ⟨rfl,.inr ⟨rfl,a,n,ts,d,rfl,hA,hd,h⟩⟩)))
theorem ask_many{H:Hp}{j n m:Int}{a b:Addr}{ts us:List (Int×Int)}(h0:0<=j)(h2:j<2)(hA:WebIs K H a n ts)(hB:WebIs K H b m us)(h:10<n+m):AskOk K H j (.ref a) (.ref b) (some .many):=by
 have hj:j=0\/j=1:=by omega
 rcases hj with rfl|rfl
 ·exact .inl ⟨rfl,.inr (.inr ⟨rfl,a,b,n,m,ts,us,rfl,rfl,hA,hB,h⟩)⟩
 ·exact .inr (.inl ⟨rfl,.inr (.inr ⟨rfl,a,b,n,m,ts,us,rfl,rfl,hA,hB,h⟩)⟩)
theorem ask_many2{H:Hp}{n m:Int}{a b:Addr}{ts us:List (Int×Int)}(hA:WebIs K H a n ts)(hB:WebIs K H b m us)(h:10<n*m):AskOk K H 2 (.ref a) (.ref b) (some .many):=
 .inr (.inr (.inl ⟨rfl,.inr (.inr ⟨rfl,a,b,n,m,ts,us,rfl,rfl,hA,hB,h⟩)⟩))
theorem web_bare{H:Hp}{g e:Addr}{n:Int}(h0:0<=n)(h1:n<=10)(he:SqT K H e [])(hg:SqT K H g [.int n,.ref e]):WebIs K H g n []:=⟨⟨e,[],hg,he,.nil⟩,h0,h1,PairsOk.nil n,web_ok h0 h1 (PairsOk.nil n) .nil⟩
theorem set_no{n:Int}{ds:List PyData}(h:risesI (ds.map intD)=false):setD n (.tuple ds)=false:=by show(_&&_)=false;rw[h,Bool.and_false]
theorem set_no1{n:Int}{d:PyData}{ds:List PyData}(h:placeD n d=false):setD n (.tuple (d::ds))=false:=by show((placeD n d&&_)&&_)=false;rw[h];rfl
theorem div_many{n:Int}(h0:1<n)(h1:n<=10):0<=1+10/n/\1+10/n<=10/\10<n*(1+10/n):=by
 have hn:n=2\/n=3\/n=4\/n=5\/n=6\/n=7\/n=8\/n=9\/n=10:=by omega
 rcases hn with rfl|rfl|rfl|rfl|rfl|rfl|rfl|rfl|rfl<;>decide
theorem sc_law:FnScope ["script","tape","k","one","other","great","odd","way"] ["script"] (defScope s_law):=⟨rfl,rfl,rfl,by decide+kernel,rfl,by decide+kernel,by decide+kernel⟩
theorem ok_law{f f1 f2 f3 f4:Addr}{fd d1 d2 d3 d4:FuncData}(F:Fun K "law" "law" s_law f fd)(D1:Dfn K mg "_law_b_two" zcf ["tape","most"] f1 d1)(G1':FnOk P w K mg base CX0 5 f1 d1 ["tape","most"] (spTwo K))(D2:Dfn K mg "_law_b_no_webs" zba [] f2 d2)(G2':FnOk P w K mg base CX0 1 f2 d2 [] (spNoWebs K))(D3:Dfn K mg "_law_b_asked" zbj ["way","one","other"] f3 d3)(G3':FnOk P w K mg base CX0 11 f3 d3 ["way","one","other"] (spAsked K))(D4:Dfn K mg "_law_b_numbers_right" zao ["tape"] f4 d4)(G4:FnOk P w K mg base CX0 12 f4 d4 ["tape"] (spNumR K))(m_range:mg "range"=none)(m_len:mg "len"=none)(m_int:mg "int"=none)(m_tuple:mg "tuple"=none):
  FnOk P w K mg base CX0 13 f fd ["script"] (spLaw K):=by
 have G1:FnOk P w K mg base CX0 12 f1 d1 ["tape","most"] (spTwo K):=G1'.mono (by decide)
 have G2:FnOk P w K mg base CX0 12 f2 d2 [] (spNoWebs K):=G2'.mono (by decide)
 have G3:FnOk P w K mg base CX0 12 f3 d3 ["way","one","other"] (spAsked K):=G3'.mono (by decide)
 refine F.ok sc_law (fun vs H Q E h=> ?_) (fun cdv A outer s H vs Q E hr h=> ?_)
 ·obtain⟨a,ns,rfl,_⟩:=h
  rfl
 obtain⟨a,ns,rfl,hS,h63,q⟩:=h
 refine⟨_,(zag (zas (i:=1) sc_law.nd rfl (Or.inl rfl) (zbm (zaa (pv 0) (zaa zad (zaa zad zab))))) (zag (zdj PassesOwn.never rfl (zbv rfl m_range (zaa zad zab)) (zan (i:=2) sc_law.nd rfl (Or.inl rfl)) (zag (zam (PW.pt (pw_and (zaj op_gt (pv 2) zad (nomark _)) (pw_and1 (zaj op_ge (zbb zcc (pv 1) zad (fun _ _=>rfl)) (zal zck rfl m_len PySem.boot_len (zaa (pv 0) zab)) (nomark _))))) (zae ps_break) zaw) (zag (ps_asg (zai G1 hr rfl D1.m D1.F.kp D1.b .nil pass0 (zaa (pv 1) (zaa zad zab))) (pg_tup rfl (zcw (zan (i:=3) sc_law.nd rfl (Or.inl rfl)) (zcw (zan (i:=4) sc_law.nd rfl (Or.inl rfl)) pgs_nil)))) (zag (zas (i:=5) sc_law.nd rfl (Or.inl rfl) (pe_ifExp (zaj op_gt (zbb zbh (pv 3) zad (fun _ _=>rfl)) zad (nomark _)) (zax (zaa (zap op_sub zad (zbb zbh (pv 3) zad (fun _ _=>rfl))) (zaa (zax zab) zab))) (zax (zaa zad (zaa (zax zab) zab))))) (zag (zdj PassesOwn.never rfl (zbr (pe_call0 G2 hr rfl D2.m D2.F.kp D2.b .nil pass0)) (zan (i:=6) sc_law.nd rfl (Or.inl rfl)) (zae (zdj PassesOwn.never rfl (zbv rfl m_range (zaa zad zab)) (zan (i:=7) sc_law.nd rfl (Or.inl rfl)) (zae (zam (PW.pt (pw_or (zaj op_ne (zai G3 hr rfl D3.m D3.F.kp D3.b .nil pass0 (zaa (pv 7) (zaa (pv 6) (zaa (zax (zaa zad (zaa zad zab))) zab)))) zav (nomark _)) (pw_or1 (PW.pt (pw_and (zaj op_lt (pv 7) zad (nomark _)) (pw_and1 (zaj op_ne (zai G3 hr rfl D3.m D3.F.kp D3.b .nil pass0 (zaa (pv 7) (zaa (pv 5) (zaa (pv 6) zab)))) zav (nomark _)))))))) (zae (zaq pe_bl)) zaw))))) (zag (zdj PassesOwn.never rfl (zbr (zbm (zaa (zax (zaa (zbb zbh (pv 3) zad (fun _ _=>rfl)) zab)) (zaa (zax (zaa zad (zaa zad zab))) (zaa (zax (zaa zad (zaa zad zab))) (zaa (zbm zab) (zaa pe_non (zaa (zax (zaa (pe_un un_neg zad) zab)) (zaa (zax (zaa pe_bl zab)) (zaa zav (zaa (zax (zaa zav zab)) (zaa (zax (zaa pe_non zab)) (zaa zad (zaa (zax (zaa zad (zaa zad zab))) zab)))))))))))))) (zan (i:=6) sc_law.nd rfl (Or.inl rfl)) (zae (zam (zaj op_ne (zai G3 hr rfl D3.m D3.F.kp D3.b .nil pass0 (zaa zad (zaa (pv 3) (zaa (pv 6) zab)))) zav (nomark _)) (zae (zaq pe_bl)) zaw))) (zag (zdj PassesOwn.never rfl (zbv rfl m_range (zaa (zap op_mul zad (zci call_int1 rfl m_int (by decide+kernel) (zaa (pe_cmpR op_gt (zbb zbh (pv 3) zad (fun _ _=>rfl)) zad (nomark _)) zab))) zab)) (zan (i:=7) sc_law.nd rfl (Or.inl rfl)) (zae (zam (PW.pt (pw_or (zaj op_ne (zai G3 hr rfl D3.m D3.F.kp D3.b .nil pass0 (zaa (pv 7) (zaa (pv 3) (zaa (pv 5) zab)))) zav (nomark _)) (pw_or1 (zaj op_ne (zai G3 hr rfl D3.m D3.F.kp D3.b .nil pass0 (zaa (pv 7) (zaa (pv 5) (zaa (pv 3) zab)))) zav (nomark _))))) (zae (zaq pe_bl)) zaw))) (zag (zam (PW.pt (pw_and (zaj op_gt (zbb zbh (pv 3) zad (fun _ _=>rfl)) zad (nomark _)) (pw_and1 (zaj op_ne (zai G3 hr rfl D3.m D3.F.kp D3.b .nil pass0 (zaa zad (zaa (pv 3) (zaa (zax (zaa (zap zbx zad (zap op_fdivL zad (zbb zbh (pv 3) zad (fun _ _=>rfl)))) (zaa (zax zab) zab))) zab)))) zav (nomark _))))) (zae (zaq pe_bl)) zaw) (zag (zam (pt_not (pt_val (zai G4 hr rfl D4.m D4.F.kp D4.b .nil pass0 (zaa (pv 1) zab)))) (zae (zaq pe_bl)) zaw) (zag (zdj PassesOwn.never rfl (zbr (zbm (zaa zad (zaa zad (zaa zad zab))))) (zan (i:=7) sc_law.nd rfl (Or.inl rfl)) (zae (zam (zaj op_ne (zai G3 hr rfl D3.m D3.F.kp D3.b .nil pass0 (zaa (pv 7) (zaa (pv 3) (zaa (pv 4) zab)))) zav (nomark _)) (zae (zaq pe_bl)) zaw))) (zae (zam (PW.pt (pw_or (zaj op_ne (zai G3 hr rfl D3.m D3.F.kp D3.b .nil pass0 (zaa zad (zaa (pv 3) (zaa (pe_tupRange rfl rfl m_tuple rfl m_range (zaa (zbb zbh (pv 3) zad (fun _ _=>rfl)) zab)) zab)))) zav (nomark _)) (pw_or1 (zaj op_ne (zai G3 hr rfl D3.m D3.F.kp D3.b .nil pass0 (zaa zad (zaa (pv 3) (zaa (zax (zaa zad (zaa (zax zab) zab))) zab)))) zav (nomark _))))) (zae (zaq pe_bl)) zaw)))))))))))) (zae (zaq pe_bl)))),?_⟩
 refine⟨_,rfl,(by show 3<=sizeLine;decide),fun tp htp=> ?_⟩
 have tv0:=tape_new hS h63 htp
 refine⟨3,rfl,by decide,by decide,?_⟩
 refine zcz (n:=3) (fun k σ H'=>TapeV K H' tp a ns/\∃b2 b3 b4 b5 b6 b7,σ=[some (.ref a),some (.ref tp),b2,b3,b4,b5,b6,b7]) ⟨tv0,_,_,_,_,_,_,rfl⟩ (fun k σ H' hk p=> ?_) (fun σ H' p=>q H')
 obtain⟨tv,b2,b3,b4,b5,b6,b7,rfl⟩:=p
 refine test_any (K:=K) (r:=[b3,b4,b5,b6,b7]) tv (fun b=> ?_)
 cases b with
 |true=>exact q H'
 |false=>
  refine⟨_,rfl,tp,a,ns,10,rfl,tv,by decide,by decide,fun r wa wb n1 n2 ts us H2 x2 tv2 hr2 hA hB hn=> ?_⟩
  refine⟨r,_,rfl,SqT.of hr2,rfl,_,_,rfl,_,_,rfl,rfl,?_⟩
  have h10:=hA.h1
  have h0:=hA.h0
  obtain⟨ta,ra,a1,a2,a3⟩:=id hA.web
  try dsimp only
  refine seq_mid (fun σ' H'=>Same H2 H'/\∃(g:Addr) (gn:Int),WebIs K H' g gn []/\(0<n1->gn=11-n1)/\σ'=[some (.ref a),some (.ref tp),some (.int (0+(k:Int))),some (.ref wa),some (.ref wb),some (.ref g),b6,b7]) (fun N hN=> ?_) (fun σ' H3 p=> ?_)
  ·refine⟨_,rfl,wa,_,_,.int n1,rfl,rfl,a1,rfl,_,_,rfl,rfl,_,rfl,?_⟩
   refine ite2 (fun c=> ?_) (fun c=> ?_)
   ·have hp:0<n1:=of_decide_eq_true c
    refine⟨_,rfl,wa,_,_,.int n1,rfl,rfl,a1,rfl,_,_,rfl,rfl,(by show 0<=sizeLine;decide),fun e0 he0=>⟨(by show 2<=sizeLine;decide),fun g hg=> ?_⟩⟩
    have s3:=zaf he0 (.tup [])
    have s4:=zaf hg (.tup [.int (11-n1),.ref e0])
    exact hN _ _ ⟨s3.trans s4,g,11-n1,web_bare (by omega) (by omega) (s4.tup (SqT.of zac)) (SqT.of zac),fun _=>rfl,rfl⟩
   ·refine⟨(by show 0<=sizeLine;decide),fun e0 he0=>⟨(by show 2<=sizeLine;decide),fun g hg=> ?_⟩⟩
    have s3:=zaf he0 (.tup [])
    have s4:=zaf hg (.tup [.int 10,.ref e0])
    exact hN _ _ ⟨s3.trans s4,g,10,web_bare (by decide) (by decide) (s4.tup (SqT.of zac)) (SqT.of zac),fun z=>absurd (decide_eq_true z) c,rfl⟩
  obtain⟨s3,g,gn,hG,hgn,rfl⟩:=p
  have tv3:=tv2.same s3
  have hA3:=hA.same s3
  have hB3:=hB.same s3
  try dsimp only
  refine⟨rfl,fun l xs H4 s4 e4 hl v4=>⟨l,xs,rfl,SqL.of e4,fun _=> ?_⟩⟩
  have hG4:=hG.same s4
  refine for_list (K:=K) (a:=l) (xs:=xs) (fun i σ H'=>Same H4 H'/\∃b6 b7,σ=[some (.ref a),some (.ref tp),some (.int (0+(k:Int))),some (.ref wa),some (.ref wb),some (.ref g),b6,b7]) ⟨Same.refl _,_,_,rfl⟩ (fun i σ H' _ p=>SqL.of (p.1 _ _ e4)) (fun i odd σ H5 hy p=> ?_) (fun σ H5 p=> ?_)
  ·obtain⟨s5,b6',b7',rfl⟩:=p
   obtain⟨d,hd1,hd2⟩:=v4.at hy
   have nw:NoWebV K H4 odd:=⟨d,hd2,nw_no d hd1⟩
   refine⟨6,rfl,by decide,by decide,?_⟩
   refine zcz (n:=6) (fun j σ H'=>Same H4 H'/\∃b7,σ=[some (.ref a),some (.ref tp),some (.int (0+(k:Int))),some (.ref wa),some (.ref wb),some (.ref g),some odd,b7]) ⟨s5,_,rfl⟩ (fun j σ H6 hj p=> ?_) (fun σ H6 p=> ?_)
   ·obtain⟨s6,b7'',rfl⟩:=p
    refine⟨_,rfl,_,rfl,(by show 2<=sizeLine;decide),fun p1 hp1=> ?_⟩
    have s7:=s6.trans (zaf hp1 (.tup [.int 1,.int 0]))
    refine⟨0+(j:Int),odd,.ref p1,some .web,rfl,ask_noweb (by omega) (by omega) (nw.same s7),fun H8 s8=>⟨rfl,_,rfl,iteNS rfl ?_⟩⟩
    have s78:=s7.trans s8
    refine⟨_,rfl,_,_,rfl,rfl,_,rfl,?_⟩
    refine ite2 (fun c=> ?_) (fun c=> ?_)
    ·have h3:0+(j:Int)<3:=of_decide_eq_true c
     refine⟨_,rfl,_,rfl,_,rfl,0+(j:Int),.ref g,odd,some .web,rfl,ask_noweb2 (by omega) h3 (hG4.same s78) (nw.same s78),fun H9 s9=>⟨rfl,_,rfl,iteNS rfl ?_⟩⟩
     exact⟨s78.trans s9,_,rfl⟩
    ·refine iteF ?_
     exact⟨s78,_,rfl⟩
   ·obtain⟨s6,b7'',rfl⟩:=p
    exact⟨s6,_,_,rfl⟩
  obtain⟨s5,b6',b7',rfl⟩:=p
  have s35:=s4.trans s5
  have tv8:=tv3.same s35
  have hA8:=hA3.same s35
  have hB8:=hB3.same s35
  have hG8:=hG.same s35
  generalize H5=H8 at *
  clear s5 s35 v4 e4 hl s4 hG4
  obtain⟨tc,rc,c8,c82,c83⟩:=id hA8.web
  refine⟨_,rfl,wa,_,_,.int n1,rfl,rfl,c8,rfl,(by show 1<=sizeLine;decide),fun q1 hq1=> ?_⟩
  have t1:=zaf hq1 (.tup [.int n1])
  have u1:DX K (upd H8 q1 (.tup [.int n1])) (.ref q1) (.tuple [.int n1]):= .tup (SqT.of zac) (.cons (.int _) .nil)
  have tt1:=t1
  generalize (upd H8 q1 (.tup [.int n1]))=J1 at *
  refine⟨(by show 2<=sizeLine;decide),fun q2 hq2=> ?_⟩
  have t2:=zaf hq2 (.tup [.int 0,.int 0])
  have u2:DX K (upd J1 q2 (.tup [.int 0,.int 0])) (.ref q2) (.tuple [.int 0,.int 0]):= .tup (SqT.of zac) (.cons (.int _) (.cons (.int _) .nil))
  have tt2:=tt1.trans t2
  generalize (upd J1 q2 (.tup [.int 0,.int 0]))=J2 at *
  refine⟨(by show 2<=sizeLine;decide),fun q3 hq3=> ?_⟩
  have t3:=zaf hq3 (.tup [.int 1,.int 0])
  have u3:DX K (upd J2 q3 (.tup [.int 1,.int 0])) (.ref q3) (.tuple [.int 1,.int 0]):= .tup (SqT.of zac) (.cons (.int _) (.cons (.int _) .nil))
  have tt3:=tt2.trans t3
  generalize (upd J2 q3 (.tup [.int 1,.int 0]))=J3 at *
  refine⟨(by show 0<=sizeLine;decide),fun q4 hq4=> ?_⟩
  have t4:=zaf hq4 (.lst [])
  have u4:DX K (upd J3 q4 (.lst [])) (.ref q4) (.list []):= .lst (SqL.of zac) .nil
  have tt4:=tt3.trans t4
  generalize (upd J3 q4 (.lst []))=J4 at *
  refine⟨_,rfl,(by show 1<=sizeLine;decide),fun q5 hq5=> ?_⟩
  have t5:=zaf hq5 (.tup [.int (-1)])
  have u5:DX K (upd J4 q5 (.tup [.int (-1)])) (.ref q5) (.tuple [.int (-1)]):= .tup (SqT.of zac) (.cons (.int _) .nil)
  have tt5:=tt4.trans t5
  generalize (upd J4 q5 (.tup [.int (-1)]))=J5 at *
  refine⟨(by show 1<=sizeLine;decide),fun q6 hq6=> ?_⟩
  have t6:=zaf hq6 (.tup [.bl true])
  have u6:DX K (upd J5 q6 (.tup [.bl true])) (.ref q6) (.tuple [.bool true]):= .tup (SqT.of zac) (.cons (.bl _) .nil)
  have tt6:=tt5.trans t6
  generalize (upd J5 q6 (.tup [.bl true]))=J6 at *
  refine⟨(by show 1<=sizeLine;decide),fun q7 hq7=> ?_⟩
  have t7:=zaf hq7 (.tup [.str "0"])
  have u7:DX K (upd J6 q7 (.tup [.str "0"])) (.ref q7) (.tuple [.str "0"]):= .tup (SqT.of zac) (.cons (.str _) .nil)
  have tt7:=tt6.trans t7
  generalize (upd J6 q7 (.tup [.str "0"]))=J7 at *
  refine⟨(by show 1<=sizeLine;decide),fun q8 hq8=> ?_⟩
  have t8:=zaf hq8 (.tup [.non])
  have u8:DX K (upd J7 q8 (.tup [.non])) (.ref q8) (.tuple [.none]):= .tup (SqT.of zac) (.cons .non .nil)
  have tt8:=tt7.trans t8
  generalize (upd J7 q8 (.tup [.non]))=J8 at *
  refine⟨(by show 2<=sizeLine;decide),fun q9 hq9=> ?_⟩
  have t9:=zaf hq9 (.tup [.int 0,.int 11])
  have u9:DX K (upd J8 q9 (.tup [.int 0,.int 11])) (.ref q9) (.tuple [.int 0,.int 11]):= .tup (SqT.of zac) (.cons (.int _) (.cons (.int _) .nil))
  have tt9:=tt8.trans t9
  generalize (upd J8 q9 (.tup [.int 0,.int 11]))=J9 at *
  refine⟨(by show 12<=sizeLine;decide),fun l9 hl9=> ?_⟩
  have t10:=zaf hl9 (.lst [.ref q1,.ref q2,.ref q3,.ref q4,.non,.ref q5,.ref q6,.str "0",.ref q7,.ref q8,.int 0,.ref q9])
  have keyp:∀y∈([.ref q1,.ref q2,.ref q3,.ref q4,.non,.ref q5,.ref q6,.str "0",.ref q7,.ref q8,.int 0,.ref q9]:List V),∃d,DX K (upd J9 l9 (.lst [.ref q1,.ref q2,.ref q3,.ref q4,.non,.ref q5,.ref q6,.str "0",.ref q7,.ref q8,.int 0,.ref q9])) y d/\setD n1 d=false:=fun y hy=>by
   simp only[List.mem_cons,List.not_mem_nil,or_false]at hy
   rcases hy with rfl|rfl|rfl|rfl|rfl|rfl|rfl|rfl|rfl|rfl|rfl|rfl
   ·exact⟨_,(((((((((u1).same t2).same t3).same t4).same t5).same t6).same t7).same t8).same t9).same t10,set_no1 (by show(decide (0<=n1)&&decide (n1<n1))=false;rw[decide_eq_false (Int.lt_irrefl n1),Bool.and_false])⟩
   ·exact⟨_,((((((((u2).same t3).same t4).same t5).same t6).same t7).same t8).same t9).same t10,set_no (by decide)⟩
   ·exact⟨_,(((((((u3).same t4).same t5).same t6).same t7).same t8).same t9).same t10,set_no (by decide)⟩
   ·exact⟨_,((((((u4).same t5).same t6).same t7).same t8).same t9).same t10,rfl⟩
   ·exact⟨_,.non,rfl⟩
   ·exact⟨_,(((((u5).same t6).same t7).same t8).same t9).same t10,set_no1 rfl⟩
   ·exact⟨_,((((u6).same t7).same t8).same t9).same t10,set_no1 rfl⟩
   ·exact⟨_,.str _,rfl⟩
   ·exact⟨_,(((u7).same t8).same t9).same t10,set_no1 rfl⟩
   ·exact⟨_,((u8).same t9).same t10,set_no1 rfl⟩
   ·exact⟨_,.int _,rfl⟩
   ·exact⟨_,(u9).same t10,(by show((placeD n1 (.int 0)&&((decide (0<=(11:Int))&&decide ((11:Int)<n1))&&true))&&_)=false;rw[decide_eq_false (show¬(11:Int)<n1 by omega)];simp)⟩
  have k10:SqL K (upd J9 l9 (.lst [.ref q1,.ref q2,.ref q3,.ref q4,.non,.ref q5,.ref q6,.str "0",.ref q7,.ref q8,.int 0,.ref q9])) l9 [.ref q1,.ref q2,.ref q3,.ref q4,.non,.ref q5,.ref q6,.str "0",.ref q7,.ref q8,.int 0,.ref q9]:=SqL.of zac
  have tt10:=tt9.trans t10
  generalize (upd J9 l9 (.lst [.ref q1,.ref q2,.ref q3,.ref q4,.non,.ref q5,.ref q6,.str "0",.ref q7,.ref q8,.int 0,.ref q9]))=J10 at *
  refine⟨l9,_,rfl,k10,fun _=> ?_⟩
  refine for_list (K:=K) (a:=l9) (xs:=[.ref q1,.ref q2,.ref q3,.ref q4,.non,.ref q5,.ref q6,.str "0",.ref q7,.ref q8,.int 0,.ref q9]) (fun i σ H'=>Same J10 H'/\∃b6,σ=[some (.ref a),some (.ref tp),some (.int (0+(k:Int))),some (.ref wa),some (.ref wb),some (.ref g),b6,b7']) ⟨Same.refl _,_,rfl⟩ (fun i σ H' _ p=>p.1.seq k10) (fun i y σ M1 hy p=> ?_) (fun σ M1 p=> ?_)
  ·obtain⟨m1,b6'',rfl⟩:=p
   obtain⟨d,hd,hn'⟩:=keyp y (List.mem_of_getElem? hy)
   refine⟨_,rfl,_,rfl,3,.ref wa,y,some .place,rfl,ask_place (hA8.same (tt10.trans m1)) (hd.same m1) hn',fun M2 m2=>⟨rfl,_,rfl,iteNS rfl ?_⟩⟩
   exact⟨m1.trans m2,_,rfl⟩
  obtain⟨m1,b6'',rfl⟩:=p
  have tm:=tt10.trans m1
  have tv9:=tv8.same tm
  have hA9:=hA8.same tm
  have hB9:=hB8.same tm
  have hG9:=hG8.same tm
  clear keyp k10
  obtain⟨td,rd,d1',d2',d3'⟩:=id hA9.web
  refine⟨_,rfl,wa,_,_,.int n1,rfl,rfl,d1',rfl,_,_,rfl,rfl,.inr ⟨_,rfl,_,_,rfl,rfl,.inl ⟨by decide,by decide⟩,?_⟩⟩
  refine⟨_,rfl,?_,?_,?_⟩
  ·split<;>decide
  ·split<;>decide
  refine zcz (n:=(2*(if decide (0<n1)=true then(1:Int)else 0)).toNat) (fun i σ H'=>Same M1 H'/\∃b7,σ=[some (.ref a),some (.ref tp),some (.int (0+(k:Int))),some (.ref wa),some (.ref wb),some (.ref g),b6'',b7]) ⟨Same.refl _,_,rfl⟩ (fun i σ M2 hi p=> ?_) (fun σ M2 p=> ?_)
  ·obtain⟨m2,b7'',rfl⟩:=p
   have hpos:0<n1:=by
    by_cases z:0<n1
    ·exact z
    ·rw[if_neg (by rw[decide_eq_true_eq];exact z)]at hi
     exact absurd hi (Nat.not_lt_zero _)
   have hi2:i<2:=by rw[if_pos (decide_eq_true hpos)]at hi;exact hi
   have e11:=hgn hpos
   refine⟨_,rfl,_,rfl,_,rfl,0+(i:Int),.ref wa,.ref g,some .many,rfl,ask_many (by omega) (by omega) (hA9.same m2) (hG9.same m2) (by omega),fun M3 m3=>⟨rfl,_,rfl,iteNS rfl ?_⟩⟩
   have m23:=m2.trans m3
   refine⟨_,rfl,_,rfl,_,rfl,0+(i:Int),.ref g,.ref wa,some .many,rfl,ask_many (by omega) (by omega) (hG9.same m23) (hA9.same m23) (by omega),fun M4 m4=>⟨rfl,_,rfl,iteNS rfl ?_⟩⟩
   exact⟨m23.trans m4,_,rfl⟩
  obtain⟨m2,b7'',rfl⟩:=p
  have tv10:=tv9.same m2
  have hA10:=hA9.same m2
  have hB10:=hB9.same m2
  generalize M2=N1 at *
  obtain⟨te,re,f1,f2,f3⟩:=id hA10.web
  try dsimp only
  refine seq_mid (fun σ' H'=>Same N1 H'/\σ'=[some (.ref a),some (.ref tp),some (.int (0+(k:Int))),some (.ref wa),some (.ref wb),some (.ref g),b6'',b7'']) (fun N hN=> ?_) (fun σ' N2 p=> ?_)
  ·refine⟨_,rfl,wa,_,_,.int n1,rfl,rfl,f1,rfl,_,_,rfl,rfl,_,rfl,?_⟩
   refine ite2 (fun c=> ?_) (fun c=> ?_)
   ·have h2:1<n1:=of_decide_eq_true c
    obtain⟨g0,g1,g2⟩:=div_many h2 h10
    refine⟨_,rfl,_,rfl,wa,_,_,.int n1,rfl,rfl,f1,rfl,_,_,rfl,rfl,⟨by omega,by omega⟩,_,_,rfl,rfl,(by show 0<=sizeLine;decide),fun e0 he0=>⟨(by show 2<=sizeLine;decide),fun g' hg'=> ?_⟩⟩
    have s3':=zaf he0 (.tup [])
    have s4':=zaf hg' (.tup [.int (1+10/n1),.ref e0])
    have s34':=s3'.trans s4'
    have hW:=web_bare (K:=K) (n:=1+10/n1) g0 g1 (s4'.tup (SqT.of zac)) (SqT.of zac)
    refine⟨2,.ref wa,.ref g',some .many,rfl,ask_many2 (hA10.same s34') hW g2,fun N3 n3=>⟨rfl,_,rfl,iteNS rfl ?_⟩⟩
    exact hN _ _ ⟨s34'.trans n3,rfl⟩
   ·refine iteF ?_
    exact hN _ _ ⟨Same.refl _,rfl⟩
  obtain⟨n2',rfl⟩:=p
  have tv11:=tv10.same n2'
  have hA11:=hA10.same n2'
  have hB11:=hB10.same n2'
  refine⟨_,rfl,tp,a,ns,rfl,tv11,fun N3 x12 tv12=>⟨_,rfl,?_⟩⟩
  refine iteF ?_
  obtain⟨z11,hz11⟩:=TapeV.lst tv11
  have hA12:=hA11.samex x12 hz11
  have hB12:=hB11.samex x12 hz11
  refine⟨(by show 3<=sizeLine;decide),fun l3 hl3=> ?_⟩
  have r1:=zaf hl3 (.lst [.int 0,.int 1,.int 4])
  have kr:SqL K (upd N3 l3 (.lst [.int 0,.int 1,.int 4])) l3 [.int 0,.int 1,.int 4]:=SqL.of zac
  have tv13:=tv12.same r1
  have hA13:=hA12.same r1
  have hB13:=hB12.same r1
  generalize (upd N3 l3 (.lst [.int 0,.int 1,.int 4]))=R1 at *
  refine⟨l3,_,rfl,kr,fun _=> ?_⟩
  refine for_list (K:=K) (a:=l3) (xs:=[.int 0,.int 1,.int 4]) (fun i σ H'=>Same R1 H'/\∃b7,σ=[some (.ref a),some (.ref tp),some (.int (0+(k:Int))),some (.ref wa),some (.ref wb),some (.ref g),b6'',b7]) ⟨Same.refl _,_,rfl⟩ (fun i σ H' _ p=>p.1.seq kr) (fun i y σ R2 hy p=> ?_) (fun σ R2 p=> ?_)
  ·obtain⟨r2,b7',rfl⟩:=p
   have hy':=List.mem_of_getElem? hy
   simp only[List.mem_cons,List.not_mem_nil,or_false]at hy'
   have ok:∃j:Int,y= .int j/\AskOk K R2 j (.ref wa) (.ref wb) none:=by
    rcases hy' with rfl|rfl|rfl
    ·exact⟨0,rfl,.inl ⟨rfl,wa,wb,n1,n2,ts,us,rfl,rfl,hA13.same r2,hB13.same r2,hn⟩⟩
    ·exact⟨1,rfl,.inr (.inl ⟨rfl,wa,wb,n1,n2,ts,us,rfl,rfl,hA13.same r2,hB13.same r2,hn⟩)⟩
    ·exact⟨4,rfl,.inr (.inr (.inr (.inr (.inl ⟨rfl,wa,n1,ts,rfl,hA13.same r2⟩))))⟩
   obtain⟨j,rfl,hok⟩:=ok
   refine⟨_,rfl,_,rfl,_,rfl,j,.ref wa,.ref wb,none,rfl,hok,fun R3 r3=>⟨rfl,_,rfl,iteNS rfl ?_⟩⟩
   exact⟨r2.trans r3,_,rfl⟩
  obtain⟨r2,b7',rfl⟩:=p
  have tv14:=tv13.same r2
  have hA14:=hA13.same r2
  obtain⟨tf,rf,y1,y2,y3⟩:=id hA14.web
  refine⟨_,rfl,_,rfl,wa,_,_,.int n1,rfl,rfl,y1,rfl,n1,rfl,h0,by omega,fun t ht=> ?_⟩
  have r3:=zaf ht (.tup (tupR n1.toNat))
  have kt:SqT K (upd R2 t (.tup (tupR n1.toNat))) t ((upto n1.toNat).map V.int):=by
   have e:tupR n1.toNat=(upto n1.toNat).map V.int:=by unfold tupR upto;rw[List.map_map];rfl
   rw[<-e];exact SqT.of zac
  refine⟨3,.ref wa,.ref t,none,rfl,.inr (.inr (.inr (.inl ⟨rfl,wa,t,n1,ts,upto n1.toNat,rfl,rfl,hA14.same r3,kt,upto_ok n1⟩))),fun R4 r4=>⟨rfl,_,rfl,iteNS rfl ?_⟩⟩
  have r34:=r3.trans r4
  refine⟨_,rfl,(by show 0<=sizeLine;decide),fun e0 he0=>⟨(by show 2<=sizeLine;decide),fun g' hg'=> ?_⟩⟩
  have s3':=zaf he0 (.tup [])
  have s4':=zaf hg' (.tup [.int 1,.ref e0])
  have r5:=r34.trans (s3'.trans s4')
  have hW:=web_bare (K:=K) (n:=1) (by decide) (by decide) (s4'.tup (SqT.of zac)) (SqT.of zac)
  refine⟨2,.ref wa,.ref g',none,rfl,.inr (.inr (.inl ⟨rfl,wa,g',n1,1,ts,[],rfl,rfl,hA14.same r5,hW,(by show n1*1<=10;omega)⟩)),fun R6 r6=>⟨rfl,_,rfl,iteNS rfl ?_⟩⟩
  exact⟨tv14.same (r5.trans r6),_,_,_,_,_,_,rfl⟩
end
end Hs
namespace Hs
open PySem L2 HsD
theorem len_0{α:Type}:∀{us:List α},us.length=0->us=[]
 |[],_=>rfl
theorem len_1{α:Type}:∀{us:List α},us.length=1->∃a,us=[a]
 |[a],_=>⟨a,rfl⟩
theorem len_2{α:Type}:∀{us:List α},us.length=2->∃a b,us=[a,b]
 |[a,b],_=>⟨a,b,rfl⟩
theorem len_3{α:Type}:∀{us:List α},us.length=3->∃a b c,us=[a,b,c]
 |[a,b,c],_=>⟨a,b,c,rfl⟩
theorem all_mk{l:W.OpenLaw}{w:World}{K:W.Frag}{h:Heap}{mg:Str->Option Value}{fa:Addr}(X:K.In h)(G:h.Ns mainGlobals mg)(hfa:mg "law"=some (.ref fa)){f0 f1 f2 f3 f4 f5 f6 f7 f8 f9 f10 f11 f12 f13 f14 f15 f16 f17 f18 f19 f20 f21 f22 f23 f24 f25 f26 f27 f28 f29 f30 f31 f32 f33 f34 f35 f36 f37:Addr}{od0 an0 od1 an1 od2 an2 od3 an3 od4 an4 od5 an5 od6 an6 od7 an7 od8 an8 od9 an9 od10 an10 od11 an11 od12 an12 od13 an13 od14 an14 od15 an15 od16 an16 od17 an17 od18 an18 od19 an19 od20 an20 od21 an21 od22 an22 od23 an23 od24 an24 od25 an25 od26 an26 od27 an27 od28 an28 od29 an29 od30 an30 od31 an31 od32 an32 od33 an33 od34 an34 od35 an35 od36 an36 od37 an37:Option Addr}{sl0 sl1 sl2 sl3 sl4 sl5 sl6 sl7 sl8 sl9 sl10 sl11 sl12 sl13 sl14 sl15 sl16 sl17 sl18 sl19 sl20 sl21 sl22 sl23 sl24 sl25 sl26 sl27 sl28 sl29 sl30 sl31 sl32 sl33 sl34 sl35 sl36 sl37:Array (Option Value)}{oc0 kV0 dc0 pm0 cd0 ct0 oc1 kV1 dc1 pm1 cd1 ct1 oc2 kV2 dc2 pm2 cd2 ct2 oc3 kV3 dc3 pm3 cd3 ct3 oc4 kV4 dc4 pm4 cd4 ct4 oc5 kV5 dc5 pm5 cd5 ct5 oc6 kV6 dc6 pm6 cd6 ct6 oc7 kV7 dc7 pm7 cd7 ct7 oc8 kV8 dc8 pm8 cd8 ct8 oc9 kV9 dc9 pm9 cd9 ct9 oc10 kV10 dc10 pm10 cd10 ct10 oc11 kV11 dc11 pm11 cd11 ct11 oc12 kV12 dc12 pm12 cd12 ct12 oc13 kV13 dc13 pm13 cd13 ct13 oc14 kV14 dc14 pm14 cd14 ct14 oc15 kV15 dc15 pm15 cd15 ct15 oc16 kV16 dc16 pm16 cd16 ct16 oc17 kV17 dc17 pm17 cd17 ct17 oc18 kV18 dc18 pm18 cd18 ct18 oc19 kV19 dc19 pm19 cd19 ct19 oc20 kV20 dc20 pm20 cd20 ct20 oc21 kV21 dc21 pm21 cd21 ct21 oc22 kV22 dc22 pm22 cd22 ct22 oc23 kV23 dc23 pm23 cd23 ct23 oc24 kV24 dc24 pm24 cd24 ct24 oc25 kV25 dc25 pm25 cd25 ct25 oc26 kV26 dc26 pm26 cd26 ct26 oc27 kV27 dc27 pm27 cd27 ct27 oc28 kV28 dc28 pm28 cd28 ct28 oc29 kV29 dc29 pm29 cd29 ct29 oc30 kV30 dc30 pm30 cd30 ct30 oc31 kV31 dc31 pm31 cd31 ct31 oc32 kV32 dc32 pm32 cd32 ct32 oc33 kV33 dc33 pm33 cd33 ct33 oc34 kV34 dc34 pm34 cd34 ct34 oc35 kV35 dc35 pm35 cd35 ct35 oc36 kV36 dc36 pm36 cd36 ct36 oc37 kV37 dc37 pm37 cd37 ct37:Value}{tk0:Tok}{tk1:Tok}{c_NoFold:Addr}{c_NoNumber:Addr}{c_NoPlace:Addr}{c_NoRow:Addr}{c_NoText:Addr}{c_NoTie:Addr}{c_NoWants:Addr}{c_NoWeb:Addr}{c_TooMany:Addr}{c_HueError:Addr}{cd_NoWeb:ClassData}{cd_NoPlace:ClassData}{cd_NoNumber:ClassData}{cd_TooMany:ClassData}(a0:W.nsIn K mainGlobals "is_whole"=some (some (.ref f0)))(l0:K.lookup f0=some ⟨oc0,od0,.func (W.fnOf "is_whole" "is_whole" (defArgs zbu) (defBody zbu) (defScope zbu) .none kV0 dc0 pm0 an0 cd0 ct0),sl0⟩)(c0:W.codeIn K cd0 "is_whole"=true)(k0:W.keepIn K (.ref f0)=true)(a1:W.nsIn K mainGlobals "is_place"=some (some (.ref f1)))(l1:K.lookup f1=some ⟨oc1,od1,.func (W.fnOf "is_place" "is_place" (defArgs zcn) (defBody zcn) (defScope zcn) .none kV1 dc1 pm1 an1 cd1 ct1),sl1⟩)(c1:W.codeIn K cd1 "is_place"=true)(k1:W.keepIn K (.ref f1)=true)(a2:W.nsIn K mainGlobals "are_places"=some (some (.ref f2)))(l2:K.lookup f2=some ⟨oc2,od2,.func (W.fnOf "are_places" "are_places" (defArgs zbz) (defBody zbz) (defScope zbz) .none kV2 dc2 pm2 an2 cd2 ct2),sl2⟩)(c2:W.codeIn K cd2 "are_places"=true)(k2:W.keepIn K (.ref f2)=true)(a3:W.nsIn K mainGlobals "is_rising"=some (some (.ref f3)))(l3:K.lookup f3=some ⟨oc3,od3,.func (W.fnOf "is_rising" "is_rising" (defArgs zcb) (defBody zcb) (defScope zcb) .none kV3 dc3 pm3 an3 cd3 ct3),sl3⟩)(c3:W.codeIn K cd3 "is_rising"=true)(k3:W.keepIn K (.ref f3)=true)(a4:W.nsIn K mainGlobals "is_set"=some (some (.ref f4)))(l4:K.lookup f4=some ⟨oc4,od4,.func (W.fnOf "is_set" "is_set" (defArgs zcv) (defBody zcv) (defScope zcv) .none kV4 dc4 pm4 an4 cd4 ct4),sl4⟩)(c4:W.codeIn K cd4 "is_set"=true)(k4:W.keepIn K (.ref f4)=true)(a5:W.nsIn K mainGlobals "are_ties"=some (some (.ref f5)))(l5:K.lookup f5=some ⟨oc5,od5,.func (W.fnOf "are_ties" "are_ties" (defArgs zco) (defBody zco) (defScope zco) .none kV5 dc5 pm5 an5 cd5 ct5),sl5⟩)(c5:W.codeIn K cd5 "are_ties"=true)(k5:W.keepIn K (.ref f5)=true)(a6:W.nsIn K mainGlobals "is_web"=some (some (.ref f6)))(l6:K.lookup f6=some ⟨oc6,od6,.func (W.fnOf "is_web" "is_web" (defArgs zde) (defBody zde) (defScope zde) .none kV6 dc6 pm6 an6 cd6 ct6),sl6⟩)(c6:W.codeIn K cd6 "is_web"=true)(k6:W.keepIn K (.ref f6)=true)(a7:W.nsIn K mainGlobals "need_web"=some (some (.ref f7)))(l7:K.lookup f7=some ⟨oc7,od7,.func (W.fnOf "need_web" "need_web" (defArgs zay) (defBody zay) (defScope zay) .none kV7 dc7 pm7 an7 cd7 ct7),sl7⟩)(c7:W.codeIn K cd7 "need_web"=true)(k7:W.keepIn K (.ref f7)=true)(a8:W.nsIn K mainGlobals "need_set"=some (some (.ref f8)))(l8:K.lookup f8=some ⟨oc8,od8,.func (W.fnOf "need_set" "need_set" (defArgs zcd) (defBody zcd) (defScope zcd) .none kV8 dc8 pm8 an8 cd8 ct8),sl8⟩)(c8:W.codeIn K cd8 "need_set"=true)(k8:W.keepIn K (.ref f8)=true)(a9:W.nsIn K mainGlobals "need_from_to"=some (some (.ref f9)))(l9:K.lookup f9=some ⟨oc9,od9,.func (W.fnOf "need_from_to" "need_from_to" (defArgs zat) (defBody zat) (defScope zat) .none kV9 dc9 pm9 an9 cd9 ct9),sl9⟩)(c9:W.codeIn K cd9 "need_from_to"=true)(k9:W.keepIn K (.ref f9)=true)(a10:W.nsIn K mainGlobals "need_few"=some (some (.ref f10)))(l10:K.lookup f10=some ⟨oc10,od10,.func (W.fnOf "need_few" "need_few" (defArgs zbi) (defBody zbi) (defScope zbi) .none kV10 dc10 pm10 an10 cd10 ct10),sl10⟩)(c10:W.codeIn K cd10 "need_few"=true)(k10:W.keepIn K (.ref f10)=true)(a11:W.nsIn K mainGlobals "pairs"=some (some (.ref f11)))(l11:K.lookup f11=some ⟨oc11,od11,.func (W.fnOf "pairs" "pairs" (defArgs zdh) (defBody zdh) (defScope zdh) .none kV11 dc11 pm11 an11 cd11 ct11),sl11⟩)(c11:W.codeIn K cd11 "pairs"=true)(k11:W.keepIn K (.ref f11)=true)(a12:W.nsIn K mainGlobals "all_sets"=some (some (.ref f12)))(l12:K.lookup f12=some ⟨oc12,od12,.func (W.fnOf "all_sets" "all_sets" (defArgs zcm) (defBody zcm) (defScope zcm) .none kV12 dc12 pm12 an12 cd12 ct12),sl12⟩)(c12:W.codeIn K cd12 "all_sets"=true)(k12:W.keepIn K (.ref f12)=true)(a13:W.nsIn K mainGlobals "has_tie"=some (some (.ref f13)))(l13:K.lookup f13=some ⟨oc13,od13,.func (W.fnOf "has_tie" "has_tie" (defArgs zcp) (defBody zcp) (defScope zcp) .none kV13 dc13 pm13 an13 cd13 ct13),sl13⟩)(c13:W.codeIn K cd13 "has_tie"=true)(k13:W.keepIn K (.ref f13)=true)(a14:W.nsIn K mainGlobals "moved_ties"=some (some (.ref f14)))(l14:K.lookup f14=some ⟨oc14,od14,.func (W.fnOf "moved_ties" "moved_ties" (defArgs zby) (defBody zby) (defScope zby) .none kV14 dc14 pm14 an14 cd14 ct14),sl14⟩)(c14:W.codeIn K cd14 "moved_ties"=true)(k14:W.keepIn K (.ref f14)=true)(a15:W.nsIn K mainGlobals "ties_between"=some (some (.ref f15)))(l15:K.lookup f15=some ⟨oc15,od15,.func (W.fnOf "ties_between" "ties_between" (defArgs zbl) (defBody zbl) (defScope zbl) .none kV15 dc15 pm15 an15 cd15 ct15),sl15⟩)(c15:W.codeIn K cd15 "ties_between"=true)(k15:W.keepIn K (.ref f15)=true)(a16:W.nsIn K mainGlobals "beside"=some (some (.ref f16)))(l16:K.lookup f16=some ⟨oc16,od16,.func (W.fnOf "beside" "beside" (defArgs zcq) (defBody zcq) (defScope zcq) .none kV16 dc16 pm16 an16 cd16 ct16),sl16⟩)(c16:W.codeIn K cd16 "beside"=true)(k16:W.keepIn K (.ref f16)=true)(a17:W.nsIn K mainGlobals "across"=some (some (.ref f17)))(l17:K.lookup f17=some ⟨oc17,od17,.func (W.fnOf "across" "across" (defArgs zdf) (defBody zdf) (defScope zdf) .none kV17 dc17 pm17 an17 cd17 ct17),sl17⟩)(c17:W.codeIn K cd17 "across"=true)(k17:W.keepIn K (.ref f17)=true)(a18:W.nsIn K mainGlobals "is_tie_within"=some (some (.ref f18)))(l18:K.lookup f18=some ⟨oc18,od18,.func (W.fnOf "is_tie_within" "is_tie_within" (defArgs zbg) (defBody zbg) (defScope zbg) .none kV18 dc18 pm18 an18 cd18 ct18),sl18⟩)(c18:W.codeIn K cd18 "is_tie_within"=true)(k18:W.keepIn K (.ref f18)=true)(a19:W.nsIn K mainGlobals "within"=some (some (.ref f19)))(l19:K.lookup f19=some ⟨oc19,od19,.func (W.fnOf "within" "within" (defArgs zdd) (defBody zdd) (defScope zdd) .none kV19 dc19 pm19 an19 cd19 ct19),sl19⟩)(c19:W.codeIn K cd19 "within"=true)(k19:W.keepIn K (.ref f19)=true)(a20:W.nsIn K mainGlobals "other_web"=some (some (.ref f20)))(l20:K.lookup f20=some ⟨oc20,od20,.func (W.fnOf "other_web" "other_web" (defArgs zca) (defBody zca) (defScope zca) .none kV20 dc20 pm20 an20 cd20 ct20),sl20⟩)(c20:W.codeIn K cd20 "other_web"=true)(k20:W.keepIn K (.ref f20)=true)(a21:W.nsIn K mainGlobals "cut_down"=some (some (.ref f21)))(l21:K.lookup f21=some ⟨oc21,od21,.func (W.fnOf "cut_down" "cut_down" (defArgs zcl) (defBody zcl) (defScope zcl) .none kV21 dc21 pm21 an21 cd21 ct21),sl21⟩)(c21:W.codeIn K cd21 "cut_down"=true)(k21:W.keepIn K (.ref f21)=true)(a22:W.nsIn K mainGlobals "in_both"=some (some (.ref f22)))(l22:K.lookup f22=some ⟨oc22,od22,.func (W.fnOf "in_both" "in_both" (defArgs zcx) (defBody zcx) (defScope zcx) .none kV22 dc22 pm22 an22 cd22 ct22),sl22⟩)(c22:W.codeIn K cd22 "in_both"=true)(k22:W.keepIn K (.ref f22)=true)(a23:W.nsIn K mainGlobals "ring"=some (some (.ref f23)))(l23:K.lookup f23=some ⟨oc23,od23,.func (W.fnOf "ring" "ring" (defArgs s_ring) (defBody s_ring) (defScope s_ring) .none kV23 dc23 pm23 an23 cd23 ct23),sl23⟩)(c23:W.codeIn K cd23 "ring"=true)(k23:W.keepIn K (.ref f23)=true)(a24:W.nsIn K mainGlobals "picks"=some (some (.ref f24)))(l24:K.lookup f24=some ⟨oc24,od24,.func (W.fnOf "picks" "picks" (defArgs s_picks) (defBody s_picks) (defScope s_picks) .none kV24 dc24 pm24 an24 cd24 ct24),sl24⟩)(c24:W.codeIn K cd24 "picks"=true)(k24:W.keepIn K (.ref f24)=true)(a25:W.nsIn K mainGlobals "grown"=some (some (.ref f25)))(l25:K.lookup f25=some ⟨oc25,od25,.func (W.fnOf "grown" "grown" (defArgs s_grown) (defBody s_grown) (defScope s_grown) .none kV25 dc25 pm25 an25 cd25 ct25),sl25⟩)(c25:W.codeIn K cd25 "grown"=true)(k25:W.keepIn K (.ref f25)=true)(a26:W.nsIn K mainGlobals "_law_b_stirred"=some (some (.ref f26)))(l26:K.lookup f26=some ⟨oc26,od26,.func (W.fnOf "_law_b_stirred" "_law_b_stirred" (defArgs zbf) (defBody zbf) (defScope zbf) .none kV26 dc26 pm26 an26 cd26 ct26),sl26⟩)(c26:W.codeIn K cd26 "_law_b_stirred"=true)(k26:W.keepIn K (.ref f26)=true)(a27:W.nsIn K mainGlobals "_law_b_digit"=some (some (.ref f27)))(l27:K.lookup f27=some ⟨oc27,od27,.func (W.fnOf "_law_b_digit" "_law_b_digit" (defArgs zbe) (defBody zbe) (defScope zbe) .none kV27 dc27 pm27 an27 cd27 ct27),sl27⟩)(c27:W.codeIn K cd27 "_law_b_digit"=true)(k27:W.keepIn K (.ref f27)=true)(a28:W.nsIn K mainGlobals "_law_b_pairs"=some (some (.ref f28)))(l28:K.lookup f28=some ⟨oc28,od28,.func (W.fnOf "_law_b_pairs" "_law_b_pairs" (defArgs zbp) (defBody zbp) (defScope zbp) .none kV28 dc28 pm28 an28 cd28 ct28),sl28⟩)(c28:W.codeIn K cd28 "_law_b_pairs"=true)(k28:W.keepIn K (.ref f28)=true)(a29:W.nsIn K mainGlobals "_law_b_web"=some (some (.ref f29)))(l29:K.lookup f29=some ⟨oc29,od29,.func (W.fnOf "_law_b_web" "_law_b_web" (defArgs zce) (defBody zce) (defScope zce) .none kV29 dc29 pm29 an29 cd29 ct29),sl29⟩)(c29:W.codeIn K cd29 "_law_b_web"=true)(k29:W.keepIn K (.ref f29)=true)(a30:W.nsIn K mainGlobals "_law_b_two"=some (some (.ref f30)))(l30:K.lookup f30=some ⟨oc30,od30,.func (W.fnOf "_law_b_two" "_law_b_two" (defArgs zcf) (defBody zcf) (defScope zcf) .none kV30 dc30 pm30 an30 cd30 ct30),sl30⟩)(c30:W.codeIn K cd30 "_law_b_two"=true)(k30:W.keepIn K (.ref f30)=true)(a31:W.nsIn K mainGlobals "_law_b_kinds"=some (some (.ref f31)))(l31:K.lookup f31=some ⟨oc31,od31,.func (W.fnOf "_law_b_kinds" "_law_b_kinds" (defArgs zbq) (defBody zbq) (defScope zbq) .none kV31 dc31 pm31 an31 cd31 ct31),sl31⟩)(c31:W.codeIn K cd31 "_law_b_kinds"=true)(k31:W.keepIn K (.ref f31)=true)(a32:W.nsIn K mainGlobals "_law_b_word"=some (some (.ref f32)))(l32:K.lookup f32=some ⟨oc32,od32,.func (W.fnOf "_law_b_word" "_law_b_word" (defArgs zbo) (defBody zbo) (defScope zbo) .none kV32 dc32 pm32 an32 cd32 ct32),sl32⟩)(c32:W.codeIn K cd32 "_law_b_word"=true)(k32:W.keepIn K (.ref f32)=true)(a33:W.nsIn K mainGlobals "_law_b_no_webs"=some (some (.ref f33)))(l33:K.lookup f33=some ⟨oc33,od33,.func (W.fnOf "_law_b_no_webs" "_law_b_no_webs" (defArgs zba) (defBody zba) (defScope zba) .none kV33 dc33 pm33 an33 cd33 ct33),sl33⟩)(c33:W.codeIn K cd33 "_law_b_no_webs"=true)(k33:W.keepIn K (.ref f33)=true)(a34:W.nsIn K mainGlobals "_law_b_ask"=some (some (.ref f34)))(l34:K.lookup f34=some ⟨oc34,od34,.func (W.fnOf "_law_b_ask" "_law_b_ask" (defArgs zcg) (defBody zcg) (defScope zcg) .none kV34 dc34 pm34 an34 cd34 ct34),sl34⟩)(c34:W.codeIn K cd34 "_law_b_ask"=true)(k34:W.keepIn K (.ref f34)=true)(a35:W.nsIn K mainGlobals "_law_b_asked"=some (some (.ref f35)))(l35:K.lookup f35=some ⟨oc35,od35,.func (W.fnOf "_law_b_asked" "_law_b_asked" (defArgs zbj) (defBody zbj) (defScope zbj) .none kV35 dc35 pm35 an35 cd35 ct35),sl35⟩)(c35:W.codeIn K cd35 "_law_b_asked"=true)(k35:W.keepIn K (.ref f35)=true)(a36:W.nsIn K mainGlobals "_law_b_numbers_right"=some (some (.ref f36)))(l36:K.lookup f36=some ⟨oc36,od36,.func (W.fnOf "_law_b_numbers_right" "_law_b_numbers_right" (defArgs zao) (defBody zao) (defScope zao) .none kV36 dc36 pm36 an36 cd36 ct36),sl36⟩)(c36:W.codeIn K cd36 "_law_b_numbers_right"=true)(k36:W.keepIn K (.ref f36)=true)(a37:W.nsIn K mainGlobals "law"=some (some (.ref f37)))(l37:K.lookup f37=some ⟨oc37,od37,.func (W.fnOf "law" "law" (defArgs s_law) (defBody s_law) (defScope s_law) .none kV37 dc37 pm37 an37 cd37 ct37),sl37⟩)(c37:W.codeIn K cd37 "law"=true)(k37:W.keepIn K (.ref f37)=true)(x0:W.nsIn K mainGlobals "MOST_PLACES"=some (some (.int 10 tk0)))(x1:W.nsIn K mainGlobals "LEAST_RING"=some (some (.int 3 tk1)))(z0:W.nsIn K mainGlobals "ValueError"=some none)(z1:W.nsIn K mainGlobals "all"=some none)(z2:W.nsIn K mainGlobals "bool"=some none)(z3:W.nsIn K mainGlobals "int"=some none)(z4:W.nsIn K mainGlobals "isinstance"=some none)(z5:W.nsIn K mainGlobals "len"=some none)(z6:W.nsIn K mainGlobals "list"=some none)(z7:W.nsIn K mainGlobals "max"=some none)(z8:W.nsIn K mainGlobals "min"=some none)(z9:W.nsIn K mainGlobals "range"=some none)(z10:W.nsIn K mainGlobals "sorted"=some none)(z11:W.nsIn K mainGlobals "tuple"=some none)(y0:W.nsIn K mainGlobals "NoFold"=some (some (.ref c_NoFold)))(y1:W.nsIn K mainGlobals "NoNumber"=some (some (.ref c_NoNumber)))(y2:W.nsIn K mainGlobals "NoPlace"=some (some (.ref c_NoPlace)))(y3:W.nsIn K mainGlobals "NoRow"=some (some (.ref c_NoRow)))(y4:W.nsIn K mainGlobals "NoText"=some (some (.ref c_NoText)))(y5:W.nsIn K mainGlobals "NoTie"=some (some (.ref c_NoTie)))(y6:W.nsIn K mainGlobals "NoWants"=some (some (.ref c_NoWants)))(y7:W.nsIn K mainGlobals "NoWeb"=some (some (.ref c_NoWeb)))(y8:W.nsIn K mainGlobals "TooMany"=some (some (.ref c_TooMany)))(y9:W.nsIn K mainGlobals "HueError"=some (some (.ref c_HueError)))(r_get:W.specialIn K (.builtin "object.__class__") "__get__"=some (some (.builtin "getset_descriptor.__get__")))(r_tk:W.takesIn K (.builtin "object.__class__")=some true)(i_NoWeb:W.excIn K c_NoWeb [.type "ValueError",.type "Exception",.type "BaseException",.type "object"] "ValueError.__new__"=true)(s_NoWeb:W.clsIn K c_NoWeb=some cd_NoWeb)(ga_NoWeb:W.findIn K (.ref c_NoWeb) "__getattribute__"=some (some (.builtin "BaseException.__getattribute__")))(gn_NoWeb:W.findIn K (.ref c_NoWeb) "__getattr__"=some none)(gc_NoWeb:W.findIn K (.ref c_NoWeb) "__class__"=some (some (.builtin "object.__class__")))(mo_NoWeb:W.mroIn K c_NoWeb (.type "object")=some true)(mb_NoWeb:W.mroIn K c_NoWeb (.type "BaseException")=some true)(v_NoWeb:W.kitOne K (.ref c_NoWeb) (.type "ValueError")=some true)(k0_NoWeb:W.kitOne K (.ref c_NoWeb) (.ref c_NoFold)=some false)(k1_NoWeb:W.kitOne K (.ref c_NoWeb) (.ref c_NoNumber)=some false)(k2_NoWeb:W.kitOne K (.ref c_NoWeb) (.ref c_NoPlace)=some false)(k3_NoWeb:W.kitOne K (.ref c_NoWeb) (.ref c_NoRow)=some false)(k4_NoWeb:W.kitOne K (.ref c_NoWeb) (.ref c_NoText)=some false)(k5_NoWeb:W.kitOne K (.ref c_NoWeb) (.ref c_NoTie)=some false)(k6_NoWeb:W.kitOne K (.ref c_NoWeb) (.ref c_NoWants)=some false)(k7_NoWeb:W.kitOne K (.ref c_NoWeb) (.ref c_NoWeb)=some true)(k8_NoWeb:W.kitOne K (.ref c_NoWeb) (.ref c_TooMany)=some false)(h_NoWeb:W.exmOne K (.ref c_NoWeb) (.ref c_HueError)=some true)(i_NoPlace:W.excIn K c_NoPlace [.type "ValueError",.type "Exception",.type "BaseException",.type "object"] "ValueError.__new__"=true)(s_NoPlace:W.clsIn K c_NoPlace=some cd_NoPlace)(ga_NoPlace:W.findIn K (.ref c_NoPlace) "__getattribute__"=some (some (.builtin "BaseException.__getattribute__")))(gn_NoPlace:W.findIn K (.ref c_NoPlace) "__getattr__"=some none)(gc_NoPlace:W.findIn K (.ref c_NoPlace) "__class__"=some (some (.builtin "object.__class__")))(mo_NoPlace:W.mroIn K c_NoPlace (.type "object")=some true)(mb_NoPlace:W.mroIn K c_NoPlace (.type "BaseException")=some true)(v_NoPlace:W.kitOne K (.ref c_NoPlace) (.type "ValueError")=some true)(k0_NoPlace:W.kitOne K (.ref c_NoPlace) (.ref c_NoFold)=some false)(k1_NoPlace:W.kitOne K (.ref c_NoPlace) (.ref c_NoNumber)=some false)(k2_NoPlace:W.kitOne K (.ref c_NoPlace) (.ref c_NoPlace)=some true)(k3_NoPlace:W.kitOne K (.ref c_NoPlace) (.ref c_NoRow)=some false)(k4_NoPlace:W.kitOne K (.ref c_NoPlace) (.ref c_NoText)=some false)(k5_NoPlace:W.kitOne K (.ref c_NoPlace) (.ref c_NoTie)=some false)(k6_NoPlace:W.kitOne K (.ref c_NoPlace) (.ref c_NoWants)=some false)(k7_NoPlace:W.kitOne K (.ref c_NoPlace) (.ref c_NoWeb)=some false)(k8_NoPlace:W.kitOne K (.ref c_NoPlace) (.ref c_TooMany)=some false)(h_NoPlace:W.exmOne K (.ref c_NoPlace) (.ref c_HueError)=some true)(i_NoNumber:W.excIn K c_NoNumber [.type "ValueError",.type "Exception",.type "BaseException",.type "object"] "ValueError.__new__"=true)(s_NoNumber:W.clsIn K c_NoNumber=some cd_NoNumber)(ga_NoNumber:W.findIn K (.ref c_NoNumber) "__getattribute__"=some (some (.builtin "BaseException.__getattribute__")))(gn_NoNumber:W.findIn K (.ref c_NoNumber) "__getattr__"=some none)(gc_NoNumber:W.findIn K (.ref c_NoNumber) "__class__"=some (some (.builtin "object.__class__")))(mo_NoNumber:W.mroIn K c_NoNumber (.type "object")=some true)(mb_NoNumber:W.mroIn K c_NoNumber (.type "BaseException")=some true)(v_NoNumber:W.kitOne K (.ref c_NoNumber) (.type "ValueError")=some true)(k0_NoNumber:W.kitOne K (.ref c_NoNumber) (.ref c_NoFold)=some false)(k1_NoNumber:W.kitOne K (.ref c_NoNumber) (.ref c_NoNumber)=some true)(k2_NoNumber:W.kitOne K (.ref c_NoNumber) (.ref c_NoPlace)=some false)(k3_NoNumber:W.kitOne K (.ref c_NoNumber) (.ref c_NoRow)=some false)(k4_NoNumber:W.kitOne K (.ref c_NoNumber) (.ref c_NoText)=some false)(k5_NoNumber:W.kitOne K (.ref c_NoNumber) (.ref c_NoTie)=some false)(k6_NoNumber:W.kitOne K (.ref c_NoNumber) (.ref c_NoWants)=some false)(k7_NoNumber:W.kitOne K (.ref c_NoNumber) (.ref c_NoWeb)=some false)(k8_NoNumber:W.kitOne K (.ref c_NoNumber) (.ref c_TooMany)=some false)(h_NoNumber:W.exmOne K (.ref c_NoNumber) (.ref c_HueError)=some true)(i_TooMany:W.excIn K c_TooMany [.type "ValueError",.type "Exception",.type "BaseException",.type "object"] "ValueError.__new__"=true)(s_TooMany:W.clsIn K c_TooMany=some cd_TooMany)(ga_TooMany:W.findIn K (.ref c_TooMany) "__getattribute__"=some (some (.builtin "BaseException.__getattribute__")))(gn_TooMany:W.findIn K (.ref c_TooMany) "__getattr__"=some none)(gc_TooMany:W.findIn K (.ref c_TooMany) "__class__"=some (some (.builtin "object.__class__")))(mo_TooMany:W.mroIn K c_TooMany (.type "object")=some true)(mb_TooMany:W.mroIn K c_TooMany (.type "BaseException")=some true)(v_TooMany:W.kitOne K (.ref c_TooMany) (.type "ValueError")=some true)(k0_TooMany:W.kitOne K (.ref c_TooMany) (.ref c_NoFold)=some false)(k1_TooMany:W.kitOne K (.ref c_TooMany) (.ref c_NoNumber)=some false)(k2_TooMany:W.kitOne K (.ref c_TooMany) (.ref c_NoPlace)=some false)(k3_TooMany:W.kitOne K (.ref c_TooMany) (.ref c_NoRow)=some false)(k4_TooMany:W.kitOne K (.ref c_TooMany) (.ref c_NoText)=some false)(k5_TooMany:W.kitOne K (.ref c_TooMany) (.ref c_NoTie)=some false)(k6_TooMany:W.kitOne K (.ref c_TooMany) (.ref c_NoWants)=some false)(k7_TooMany:W.kitOne K (.ref c_TooMany) (.ref c_NoWeb)=some false)(k8_TooMany:W.kitOne K (.ref c_TooMany) (.ref c_TooMany)=some true)(h_TooMany:W.exmOne K (.ref c_TooMany) (.ref c_HueError)=some true):
  ∃fd:FuncData,(∀(s:Shared) (v:Value),BindsTo s fd ⟨[v],[]⟩ [("script",v)])/\∀base:Heap,K.In base->base.Ns mainGlobals mg->FnOk l.prog w K mg base CX0 13 fa fd ["script"] (spLaw K):=by
 have e:=hfa.symm.trans (W.mg_of X G a37)
 cases e
 have F0:=zbc (st:=zbu) l0 c0 k0
 have E_is_whole:Dfn K mg "is_whole" zbu ["thing"] f0 _:=⟨F0,F0.binds (fun _ _ _ _ _ _ us hl=>by obtain⟨u0,rfl⟩:=Hs.len_1 hl;rfl),W.mg_of X G a0⟩
 have F1:=zbc (st:=zcn) l1 c1 k1
 have E_is_place:Dfn K mg "is_place" zcn ["n","thing"] f1 _:=⟨F1,F1.binds (fun _ _ _ _ _ _ us hl=>by obtain⟨u0,u1,rfl⟩:=Hs.len_2 hl;rfl),W.mg_of X G a1⟩
 have F2:=zbc (st:=zbz) l2 c2 k2
 have E_are_places:Dfn K mg "are_places" zbz ["n","things"] f2 _:=⟨F2,F2.binds (fun _ _ _ _ _ _ us hl=>by obtain⟨u0,u1,rfl⟩:=Hs.len_2 hl;rfl),W.mg_of X G a2⟩
 have F3:=zbc (st:=zcb) l3 c3 k3
 have E_is_rising:Dfn K mg "is_rising" zcb ["things"] f3 _:=⟨F3,F3.binds (fun _ _ _ _ _ _ us hl=>by obtain⟨u0,rfl⟩:=Hs.len_1 hl;rfl),W.mg_of X G a3⟩
 have F4:=zbc (st:=zcv) l4 c4 k4
 have E_is_set:Dfn K mg "is_set" zcv ["n","thing"] f4 _:=⟨F4,F4.binds (fun _ _ _ _ _ _ us hl=>by obtain⟨u0,u1,rfl⟩:=Hs.len_2 hl;rfl),W.mg_of X G a4⟩
 have F5:=zbc (st:=zco) l5 c5 k5
 have E_are_ties:Dfn K mg "are_ties" zco ["n","thing"] f5 _:=⟨F5,F5.binds (fun _ _ _ _ _ _ us hl=>by obtain⟨u0,u1,rfl⟩:=Hs.len_2 hl;rfl),W.mg_of X G a5⟩
 have F6:=zbc (st:=zde) l6 c6 k6
 have E_is_web:Dfn K mg "is_web" zde ["thing"] f6 _:=⟨F6,F6.binds (fun _ _ _ _ _ _ us hl=>by obtain⟨u0,rfl⟩:=Hs.len_1 hl;rfl),W.mg_of X G a6⟩
 have F7:=zbc (st:=zay) l7 c7 k7
 have E_need_web:Dfn K mg "need_web" zay ["thing"] f7 _:=⟨F7,F7.binds (fun _ _ _ _ _ _ us hl=>by obtain⟨u0,rfl⟩:=Hs.len_1 hl;rfl),W.mg_of X G a7⟩
 have F8:=zbc (st:=zcd) l8 c8 k8
 have E_need_set:Dfn K mg "need_set" zcd ["web","thing"] f8 _:=⟨F8,F8.binds (fun _ _ _ _ _ _ us hl=>by obtain⟨u0,u1,rfl⟩:=Hs.len_2 hl;rfl),W.mg_of X G a8⟩
 have F9:=zbc (st:=zat) l9 c9 k9
 have E_need_from_to:Dfn K mg "need_from_to" zat ["least","most","thing"] f9 _:=⟨F9,F9.binds (fun _ _ _ _ _ _ us hl=>by obtain⟨u0,u1,u2,rfl⟩:=Hs.len_3 hl;rfl),W.mg_of X G a9⟩
 have F10:=zbc (st:=zbi) l10 c10 k10
 have E_need_few:Dfn K mg "need_few" zbi ["n"] f10 _:=⟨F10,F10.binds (fun _ _ _ _ _ _ us hl=>by obtain⟨u0,rfl⟩:=Hs.len_1 hl;rfl),W.mg_of X G a10⟩
 have F11:=zbc (st:=zdh) l11 c11 k11
 have E_pairs:Dfn K mg "pairs" zdh ["n"] f11 _:=⟨F11,F11.binds (fun _ _ _ _ _ _ us hl=>by obtain⟨u0,rfl⟩:=Hs.len_1 hl;rfl),W.mg_of X G a11⟩
 have F12:=zbc (st:=zcm) l12 c12 k12
 have E_all_sets:Dfn K mg "all_sets" zcm ["n"] f12 _:=⟨F12,F12.binds (fun _ _ _ _ _ _ us hl=>by obtain⟨u0,rfl⟩:=Hs.len_1 hl;rfl),W.mg_of X G a12⟩
 have F13:=zbc (st:=zcp) l13 c13 k13
 have E_has_tie:Dfn K mg "has_tie" zcp ["web","one","other"] f13 _:=⟨F13,F13.binds (fun _ _ _ _ _ _ us hl=>by obtain⟨u0,u1,u2,rfl⟩:=Hs.len_3 hl;rfl),W.mg_of X G a13⟩
 have F14:=zbc (st:=zby) l14 c14 k14
 have E_moved_ties:Dfn K mg "moved_ties" zby ["web","by"] f14 _:=⟨F14,F14.binds (fun _ _ _ _ _ _ us hl=>by obtain⟨u0,u1,rfl⟩:=Hs.len_2 hl;rfl),W.mg_of X G a14⟩
 have F15:=zbc (st:=zbl) l15 c15 k15
 have E_ties_between:Dfn K mg "ties_between" zbl ["n","m"] f15 _:=⟨F15,F15.binds (fun _ _ _ _ _ _ us hl=>by obtain⟨u0,u1,rfl⟩:=Hs.len_2 hl;rfl),W.mg_of X G a15⟩
 have F16:=zbc (st:=zcq) l16 c16 k16
 have E_beside:Dfn K mg "beside" zcq ["one","other"] f16 _:=⟨F16,F16.binds (fun _ _ _ _ _ _ us hl=>by obtain⟨u0,u1,rfl⟩:=Hs.len_2 hl;rfl),W.mg_of X G a16⟩
 have F17:=zbc (st:=zdf) l17 c17 k17
 have E_across:Dfn K mg "across" zdf ["one","other"] f17 _:=⟨F17,F17.binds (fun _ _ _ _ _ _ us hl=>by obtain⟨u0,u1,rfl⟩:=Hs.len_2 hl;rfl),W.mg_of X G a17⟩
 have F18:=zbc (st:=zbg) l18 c18 k18
 have E_is_tie_within:Dfn K mg "is_tie_within" zbg ["one","other","tie"] f18 _:=⟨F18,F18.binds (fun _ _ _ _ _ _ us hl=>by obtain⟨u0,u1,u2,rfl⟩:=Hs.len_3 hl;rfl),W.mg_of X G a18⟩
 have F19:=zbc (st:=zdd) l19 c19 k19
 have E_within:Dfn K mg "within" zdd ["one","other"] f19 _:=⟨F19,F19.binds (fun _ _ _ _ _ _ us hl=>by obtain⟨u0,u1,rfl⟩:=Hs.len_2 hl;rfl),W.mg_of X G a19⟩
 have F20:=zbc (st:=zca) l20 c20 k20
 have E_other_web:Dfn K mg "other_web" zca ["web"] f20 _:=⟨F20,F20.binds (fun _ _ _ _ _ _ us hl=>by obtain⟨u0,rfl⟩:=Hs.len_1 hl;rfl),W.mg_of X G a20⟩
 have F21:=zbc (st:=zcl) l21 c21 k21
 have E_cut_down:Dfn K mg "cut_down" zcl ["web","some"] f21 _:=⟨F21,F21.binds (fun _ _ _ _ _ _ us hl=>by obtain⟨u0,u1,rfl⟩:=Hs.len_2 hl;rfl),W.mg_of X G a21⟩
 have F22:=zbc (st:=zcx) l22 c22 k22
 have E_in_both:Dfn K mg "in_both" zcx ["ones","others"] f22 _:=⟨F22,F22.binds (fun _ _ _ _ _ _ us hl=>by obtain⟨u0,u1,rfl⟩:=Hs.len_2 hl;rfl),W.mg_of X G a22⟩
 have F23:=zbc (st:=s_ring) l23 c23 k23
 have E_ring:Dfn K mg "ring" s_ring ["n"] f23 _:=⟨F23,F23.binds (fun _ _ _ _ _ _ us hl=>by obtain⟨u0,rfl⟩:=Hs.len_1 hl;rfl),W.mg_of X G a23⟩
 have F24:=zbc (st:=s_picks) l24 c24 k24
 have E_picks:Dfn K mg "picks" s_picks ["m","k"] f24 _:=⟨F24,F24.binds (fun _ _ _ _ _ _ us hl=>by obtain⟨u0,u1,rfl⟩:=Hs.len_2 hl;rfl),W.mg_of X G a24⟩
 have F25:=zbc (st:=s_grown) l25 c25 k25
 have E_grown:Dfn K mg "grown" s_grown ["web"] f25 _:=⟨F25,F25.binds (fun _ _ _ _ _ _ us hl=>by obtain⟨u0,rfl⟩:=Hs.len_1 hl;rfl),W.mg_of X G a25⟩
 have F26:=zbc (st:=zbf) l26 c26 k26
 have E_law_b_stirred:Dfn K mg "_law_b_stirred" zbf ["cell","at"] f26 _:=⟨F26,F26.binds (fun _ _ _ _ _ _ us hl=>by obtain⟨u0,u1,rfl⟩:=Hs.len_2 hl;rfl),W.mg_of X G a26⟩
 have F27:=zbc (st:=zbe) l27 c27 k27
 have E_law_b_digit:Dfn K mg "_law_b_digit" zbe ["tape","many"] f27 _:=⟨F27,F27.binds (fun _ _ _ _ _ _ us hl=>by obtain⟨u0,u1,rfl⟩:=Hs.len_2 hl;rfl),W.mg_of X G a27⟩
 have F28:=zbc (st:=zbp) l28 c28 k28
 have E_law_b_pairs:Dfn K mg "_law_b_pairs" zbp ["tape","n","kind"] f28 _:=⟨F28,F28.binds (fun _ _ _ _ _ _ us hl=>by obtain⟨u0,u1,u2,rfl⟩:=Hs.len_3 hl;rfl),W.mg_of X G a28⟩
 have F29:=zbc (st:=zce) l29 c29 k29
 have E_law_b_web:Dfn K mg "_law_b_web" zce ["tape","most"] f29 _:=⟨F29,F29.binds (fun _ _ _ _ _ _ us hl=>by obtain⟨u0,u1,rfl⟩:=Hs.len_2 hl;rfl),W.mg_of X G a29⟩
 have F30:=zbc (st:=zcf) l30 c30 k30
 have E_law_b_two:Dfn K mg "_law_b_two" zcf ["tape","most"] f30 _:=⟨F30,F30.binds (fun _ _ _ _ _ _ us hl=>by obtain⟨u0,u1,rfl⟩:=Hs.len_2 hl;rfl),W.mg_of X G a30⟩
 have F31:=zbc (st:=zbq) l31 c31 k31
 have E_law_b_kinds:Dfn K mg "_law_b_kinds" zbq ["e"] f31 _:=⟨F31,F31.binds (fun _ _ _ _ _ _ us hl=>by obtain⟨u0,rfl⟩:=Hs.len_1 hl;rfl),W.mg_of X G a31⟩
 have F32:=zbc (st:=zbo) l32 c32 k32
 have E_law_b_word:Dfn K mg "_law_b_word" zbo ["e"] f32 _:=⟨F32,F32.binds (fun _ _ _ _ _ _ us hl=>by obtain⟨u0,rfl⟩:=Hs.len_1 hl;rfl),W.mg_of X G a32⟩
 have F33:=zbc (st:=zba) l33 c33 k33
 have E_law_b_no_webs:Dfn K mg "_law_b_no_webs" zba [] f33 _:=⟨F33,F33.binds (fun _ _ _ _ _ _ us hl=>by obtain⟨rfl⟩:=Hs.len_0 hl;rfl),W.mg_of X G a33⟩
 have F34:=zbc (st:=zcg) l34 c34 k34
 have E_law_b_ask:Dfn K mg "_law_b_ask" zcg ["way","one","other"] f34 _:=⟨F34,F34.binds (fun _ _ _ _ _ _ us hl=>by obtain⟨u0,u1,u2,rfl⟩:=Hs.len_3 hl;rfl),W.mg_of X G a34⟩
 have F35:=zbc (st:=zbj) l35 c35 k35
 have E_law_b_asked:Dfn K mg "_law_b_asked" zbj ["way","one","other"] f35 _:=⟨F35,F35.binds (fun _ _ _ _ _ _ us hl=>by obtain⟨u0,u1,u2,rfl⟩:=Hs.len_3 hl;rfl),W.mg_of X G a35⟩
 have F36:=zbc (st:=zao) l36 c36 k36
 have E_law_b_numbers_right:Dfn K mg "_law_b_numbers_right" zao ["tape"] f36 _:=⟨F36,F36.binds (fun _ _ _ _ _ _ us hl=>by obtain⟨u0,rfl⟩:=Hs.len_1 hl;rfl),W.mg_of X G a36⟩
 have F37:=zbc (st:=s_law) l37 c37 k37
 have v_MOST_PLACES:=W.mg_of X G x0
 have v_LEAST_RING:=W.mg_of X G x1
 have n_ValueError:=W.mg_none_of X G z0
 have n_all:=W.mg_none_of X G z1
 have n_bool:=W.mg_none_of X G z2
 have n_int:=W.mg_none_of X G z3
 have n_isinstance:=W.mg_none_of X G z4
 have n_len:=W.mg_none_of X G z5
 have n_list:=W.mg_none_of X G z6
 have n_max:=W.mg_none_of X G z7
 have n_min:=W.mg_none_of X G z8
 have n_range:=W.mg_none_of X G z9
 have n_sorted:=W.mg_none_of X G z10
 have n_tuple:=W.mg_none_of X G z11
 have m_NoFold:=W.mg_of X G y0
 have m_NoNumber:=W.mg_of X G y1
 have m_NoPlace:=W.mg_of X G y2
 have m_NoRow:=W.mg_of X G y3
 have m_NoText:=W.mg_of X G y4
 have m_NoTie:=W.mg_of X G y5
 have m_NoWants:=W.mg_of X G y6
 have m_NoWeb:=W.mg_of X G y7
 have m_TooMany:=W.mg_of X G y8
 have m_HueError:=W.mg_of X G y9
 refine⟨W.fnOf "law" "law" (defArgs s_law) (defBody s_law) (defScope s_law) .none kV37 dc37 pm37 an37 cd37 ct37,fun s v=> .of_eq rfl,fun base _ _=> ?_⟩
 have g_whole:=ok_whole (P:=l.prog) (w:=w) (base:=base) F0 n_isinstance n_int n_bool
 have g_place:=ok_place (P:=l.prog) (w:=w) (base:=base) F1 E_is_whole g_whole
 have g_places:=ok_places (P:=l.prog) (w:=w) (base:=base) F2 E_is_place g_place n_all
 have g_rising:=ok_rising (P:=l.prog) (w:=w) (mg:=mg) (base:=base) F3 n_all n_range n_len
 have g_set:=ok_set (P:=l.prog) (w:=w) (base:=base) F4 E_are_places g_places E_is_rising g_rising n_isinstance n_tuple
 have g_ties:=ok_ties (P:=l.prog) (w:=w) (base:=base) F5 E_is_set g_set E_is_rising g_rising n_isinstance n_tuple n_all n_len
 have g_web:=ok_web (P:=l.prog) (w:=w) (base:=base) F6 E_is_whole g_whole E_are_ties g_ties n_isinstance n_tuple n_len v_MOST_PLACES
 have g_needWeb:=ok_needWeb (P:=l.prog) (w:=w) (base:=base) F7 E_is_web g_web
 have g_needSet:=ok_needSet (P:=l.prog) (w:=w) (base:=base) F8 E_is_set g_set
 have g_needFew:=ok_needFew (P:=l.prog) (w:=w) (base:=base) F10 v_MOST_PLACES
 have g_has:=ok_has (P:=l.prog) (w:=w) (mg:=mg) (base:=base) F13 n_min n_max
 have g_stir:=ok_stir (P:=l.prog) (w:=w) (mg:=mg) (base:=base) F26
 have g_digit:=ok_digit (P:=l.prog) (w:=w) (base:=base) F27 E_law_b_stirred g_stir n_len
 have g_pairs:=ok_pairs (P:=l.prog) (w:=w) (base:=base) F28 E_law_b_digit g_digit n_range n_int n_len
 have g_lweb:=ok_lweb (P:=l.prog) (w:=w) (base:=base) F29 E_law_b_digit g_digit E_law_b_pairs g_pairs n_range n_min n_max n_tuple n_sorted
 have g_two:=ok_two (P:=l.prog) (w:=w) (base:=base) F30 E_law_b_web g_lweb
 have g_allp:=ok_allp (P:=l.prog) (w:=w) (base:=base) F11 n_range
 have g_moved:=ok_moved (P:=l.prog) (w:=w) (mg:=mg) (base:=base) F14
 have g_between:=ok_between (P:=l.prog) (w:=w) (base:=base) F15 n_range
 have g_beside:=ok_beside (P:=l.prog) (w:=w) (base:=base) F16 E_need_web g_needWeb E_need_few g_needFew E_moved_ties g_moved n_tuple
 have g_across:=ok_across (P:=l.prog) (w:=w) (base:=base) F17 E_beside g_beside E_ties_between g_between n_tuple n_sorted n_list
 have g_tieIn:=ok_tieIn (P:=l.prog) (w:=w) (base:=base) F18 E_has_tie g_has
 have g_within:=ok_within (P:=l.prog) (w:=w) (base:=base) F19 E_need_web g_needWeb E_need_few g_needFew E_pairs g_allp E_is_tie_within g_tieIn n_tuple
 have g_other:=ok_other (P:=l.prog) (w:=w) (base:=base) F20 E_need_web g_needWeb E_pairs g_allp n_tuple
 have g_cut:=ok_cut (P:=l.prog) (w:=w) (base:=base) F21 E_need_web g_needWeb E_need_set g_needSet E_pairs g_allp E_has_tie g_has n_tuple n_len
 have g_fromTo:=ok_fromTo (P:=l.prog) (w:=w) (mg:=mg) (base:=base) F9 E_is_whole g_whole
 have x_needWeb:=ok_needWebX (P:=l.prog) (w:=w) (mg:=mg) (base:=base) F7 E_is_web g_web PySem.F.excBase_ValueError m_NoWeb i_NoWeb
 have x_needSet:=ok_needSetX (P:=l.prog) (w:=w) (mg:=mg) (base:=base) F8 E_is_set g_set PySem.F.excBase_ValueError m_NoPlace i_NoPlace
 have x_needFew:=ok_needFewX (P:=l.prog) (w:=w) (mg:=mg) (base:=base) F10 v_MOST_PLACES PySem.F.excBase_ValueError m_TooMany i_TooMany
 have x_fromTo:=ok_fromToX (P:=l.prog) (w:=w) (mg:=mg) (base:=base) F9 E_is_whole g_whole PySem.F.excBase_ValueError m_NoNumber i_NoNumber
 have g_allSets:=ok_allSets (P:=l.prog) (w:=w) (mg:=mg) (base:=base) F12 n_range
 have g_inBothT:=ok_inBothT (P:=l.prog) (w:=w) (mg:=mg) (base:=base) F22
 have g_ringN:=ok_ringN (P:=l.prog) (w:=w) (mg:=mg) (base:=base) F23 E_need_from_to g_fromTo n_range n_tuple n_sorted v_LEAST_RING v_MOST_PLACES
 have g_picks:=ok_picks (P:=l.prog) (w:=w) (mg:=mg) (base:=base) F24 E_need_from_to g_fromTo E_all_sets g_allSets E_need_few g_needFew E_in_both g_inBothT E_pairs g_allp n_sorted n_len n_tuple v_MOST_PLACES
 have x_beside:=ok_besideX (P:=l.prog) (w:=w) (mg:=mg) (base:=base) (c:=⟨c_NoWeb,c_NoPlace,c_NoNumber,c_TooMany⟩) F16 E_need_web g_needWeb x_needWeb E_need_few x_needFew
 have x_across:=ok_acrossX (P:=l.prog) (w:=w) (mg:=mg) (base:=base) F17 E_beside x_beside
 have x_within:=ok_withinX (P:=l.prog) (w:=w) (mg:=mg) (base:=base) (c:=⟨c_NoWeb,c_NoPlace,c_NoNumber,c_TooMany⟩) F19 E_need_web g_needWeb x_needWeb E_need_few x_needFew
 have x_other:=ok_otherX (P:=l.prog) (w:=w) (mg:=mg) (base:=base) (c:=⟨c_NoWeb,c_NoPlace,c_NoNumber,c_TooMany⟩) F20 E_need_web x_needWeb
 have x_grown:=ok_grownX (P:=l.prog) (w:=w) (mg:=mg) (base:=base) (c:=⟨c_NoWeb,c_NoPlace,c_NoNumber,c_TooMany⟩) F25 E_need_web x_needWeb
 have x_cut:=ok_cutX (P:=l.prog) (w:=w) (mg:=mg) (base:=base) (c:=⟨c_NoWeb,c_NoPlace,c_NoNumber,c_TooMany⟩) F21 E_need_web g_needWeb x_needWeb E_need_set x_needSet
 have x_ring:=ok_ringX (P:=l.prog) (w:=w) (mg:=mg) (base:=base) (c:=⟨c_NoWeb,c_NoPlace,c_NoNumber,c_TooMany⟩) F23 E_need_from_to x_fromTo v_LEAST_RING v_MOST_PLACES
 have x_picks:=ok_picksX (P:=l.prog) (w:=w) (mg:=mg) (base:=base) (c:=⟨c_NoWeb,c_NoPlace,c_NoNumber,c_TooMany⟩) F24 E_need_from_to g_fromTo x_fromTo E_all_sets g_allSets E_need_few x_needFew n_sorted n_len v_MOST_PLACES
 have x_ask:=ok_ask (P:=l.prog) (w:=w) (mg:=mg) (base:=base) (c:=⟨c_NoWeb,c_NoPlace,c_NoNumber,c_TooMany⟩) F34 E_beside g_beside x_beside E_across g_across x_across E_within g_within x_within E_cut_down g_cut x_cut E_other_web g_other x_other E_grown x_grown E_picks g_picks x_picks E_ring g_ringN x_ring
 have g_kinds:=ok_kinds (P:=l.prog) (w:=w) (mg:=mg) (base:=base) F31 n_isinstance m_NoFold m_NoNumber m_NoPlace m_NoRow m_NoText m_NoTie m_NoWants m_NoWeb m_TooMany
 have g_word:=ok_word (P:=l.prog) (w:=w) (mg:=mg) (base:=base) F32 E_law_b_kinds g_kinds n_isinstance n_ValueError
 have g_wordN:=ok_wordN (P:=l.prog) (w:=w) (mg:=mg) (base:=base) F32
 have g_asked:=ok_asked (P:=l.prog) (w:=w) (mg:=mg) (base:=base) (c:=⟨c_NoWeb,c_NoPlace,c_NoNumber,c_TooMany⟩) F35 E_law_b_ask x_ask E_law_b_word g_word g_wordN m_HueError (fun r=>match r with | .web=>h_NoWeb| .place=>h_NoPlace| .number=>h_NoNumber| .many=>h_TooMany) (fun r=>match r with | .web=>⟨_,7,(kinds_mk ⟨⟨_,s_NoWeb⟩,ga_NoWeb,gn_NoWeb,gc_NoWeb,r_get,r_tk,mo_NoWeb,mb_NoWeb⟩ v_NoWeb k0_NoWeb k1_NoWeb k2_NoWeb k3_NoWeb k4_NoWeb k5_NoWeb k6_NoWeb k7_NoWeb k8_NoWeb),rfl,rfl,(by decide),rfl⟩| .place=>⟨_,2,(kinds_mk ⟨⟨_,s_NoPlace⟩,ga_NoPlace,gn_NoPlace,gc_NoPlace,r_get,r_tk,mo_NoPlace,mb_NoPlace⟩ v_NoPlace k0_NoPlace k1_NoPlace k2_NoPlace k3_NoPlace k4_NoPlace k5_NoPlace k6_NoPlace k7_NoPlace k8_NoPlace),rfl,rfl,(by decide),rfl⟩| .number=>⟨_,1,(kinds_mk ⟨⟨_,s_NoNumber⟩,ga_NoNumber,gn_NoNumber,gc_NoNumber,r_get,r_tk,mo_NoNumber,mb_NoNumber⟩ v_NoNumber k0_NoNumber k1_NoNumber k2_NoNumber k3_NoNumber k4_NoNumber k5_NoNumber k6_NoNumber k7_NoNumber k8_NoNumber),rfl,rfl,(by decide),rfl⟩| .many=>⟨_,8,(kinds_mk ⟨⟨_,s_TooMany⟩,ga_TooMany,gn_TooMany,gc_TooMany,r_get,r_tk,mo_TooMany,mb_TooMany⟩ v_TooMany k0_TooMany k1_TooMany k2_TooMany k3_TooMany k4_TooMany k5_TooMany k6_TooMany k7_TooMany k8_TooMany),rfl,rfl,(by decide),rfl⟩)
 have g_noWebs:=ok_noWebs (P:=l.prog) (w:=w) (mg:=mg) (base:=base) F33
 have g_numR:=ok_numR (P:=l.prog) (w:=w) (mg:=mg) (base:=base) F36 E_law_b_digit g_digit E_law_b_asked g_asked
 exact ok_law F37 E_law_b_two g_two E_law_b_no_webs g_noWebs E_law_b_asked g_asked E_law_b_numbers_right g_numR n_range n_len n_int n_tuple
theorem walk{l:PySem.W.OpenLaw}{q:Program}{loose:List Str}{XP:(Str->Option Value)->Heap->Prop}{YP:World->Heap->Prop}{d:DefRec}{K:Params->PySem.W.Frag}(hn:l.most=some 63)(hdf:d.params.defaults=[])(hY:∀(w:World) (h:Heap),YP w h->(K w.params).In h)
  (F:∀(w:World) (mg:Str->Option Value) (fa:Addr) (h:Heap),(K w.params).In h->h.Ns mainGlobals mg->mg d.name=some (.ref fa)->
   ∃fd:FuncData,(∀(s:Shared) (u:Value),BindsTo s fd ⟨[u],[]⟩ [("script",u)])/\∀base:Heap,(K w.params).In base->base.Ns mainGlobals mg->FnOk l.prog w (K w.params) mg base CX0 13 fa fd ["script"] (spLaw (K w.params))):
  PySem.W.WalkO q loose XP YP l.row.toRowW d [] (fun f vs=>PySem.call f vs):=
 L2.walk_of (n:=63) (k:=13) (x:="script") (CX:=fun _=>CX0) (sp:=fun w=>spLaw (K w.params)) hn (by decide) hdf ⟨rfl,by decide,by decide,rfl⟩ hY F (fun _ _ a ns hl hO hS=>spLaw_of hl hO hS) fun _ _ _ _ _ z=>z
end Hs
open PySem PySem.W PyProof.Rows
set_option maxRecDepth 100000 in
set_option maxHeartbeats 0 in
theorem PySem.Challenge.cw_hueshare_k12_made_ones_refused_holds : PySem.Challenge.rw_hueshare_k12_made_ones_refused.Holds := by
 refine Hd.early.2 ?_
 unfold Hd.early
 dsimp only
 k_fill
 refine Hs.walk (l:=PySem.Challenge.rw_hueshare_k12_made_ones_refused) rfl rfl (fun w h Y=>PySem.W.kIn_of Y) ?F
 case F=>
  intro w mg fa h KX G hmg
  refine' Hs.all_mk KX G hmg ?a0 ?l0 ?c0 ?k0 ?a1 ?l1 ?c1 ?k1 ?a2 ?l2 ?c2 ?k2 ?a3 ?l3 ?c3 ?k3 ?a4 ?l4 ?c4 ?k4 ?a5 ?l5 ?c5 ?k5 ?a6 ?l6 ?c6 ?k6 ?a7 ?l7 ?c7 ?k7 ?a8 ?l8 ?c8 ?k8 ?a9 ?l9 ?c9 ?k9 ?a10 ?l10 ?c10 ?k10 ?a11 ?l11 ?c11 ?k11 ?a12 ?l12 ?c12 ?k12 ?a13 ?l13 ?c13 ?k13 ?a14 ?l14 ?c14 ?k14 ?a15 ?l15 ?c15 ?k15 ?a16 ?l16 ?c16 ?k16 ?a17 ?l17 ?c17 ?k17 ?a18 ?l18 ?c18 ?k18 ?a19 ?l19 ?c19 ?k19 ?a20 ?l20 ?c20 ?k20 ?a21 ?l21 ?c21 ?k21 ?a22 ?l22 ?c22 ?k22 ?a23 ?l23 ?c23 ?k23 ?a24 ?l24 ?c24 ?k24 ?a25 ?l25 ?c25 ?k25 ?a26 ?l26 ?c26 ?k26 ?a27 ?l27 ?c27 ?k27 ?a28 ?l28 ?c28 ?k28 ?a29 ?l29 ?c29 ?k29 ?a30 ?l30 ?c30 ?k30 ?a31 ?l31 ?c31 ?k31 ?a32 ?l32 ?c32 ?k32 ?a33 ?l33 ?c33 ?k33 ?a34 ?l34 ?c34 ?k34 ?a35 ?l35 ?c35 ?k35 ?a36 ?l36 ?c36 ?k36 ?a37 ?l37 ?c37 ?k37 ?x0 ?x1 ?z0 ?z1 ?z2 ?z3 ?z4 ?z5 ?z6 ?z7 ?z8 ?z9 ?z10 ?z11 ?y0 ?y1 ?y2 ?y3 ?y4 ?y5 ?y6 ?y7 ?y8 ?y9 ?r_get ?r_tk ?i_NoWeb ?s_NoWeb ?ga_NoWeb ?gn_NoWeb ?gc_NoWeb ?mo_NoWeb ?mb_NoWeb ?v_NoWeb ?k0_NoWeb ?k1_NoWeb ?k2_NoWeb ?k3_NoWeb ?k4_NoWeb ?k5_NoWeb ?k6_NoWeb ?k7_NoWeb ?k8_NoWeb ?h_NoWeb ?i_NoPlace ?s_NoPlace ?ga_NoPlace ?gn_NoPlace ?gc_NoPlace ?mo_NoPlace ?mb_NoPlace ?v_NoPlace ?k0_NoPlace ?k1_NoPlace ?k2_NoPlace ?k3_NoPlace ?k4_NoPlace ?k5_NoPlace ?k6_NoPlace ?k7_NoPlace ?k8_NoPlace ?h_NoPlace ?i_NoNumber ?s_NoNumber ?ga_NoNumber ?gn_NoNumber ?gc_NoNumber ?mo_NoNumber ?mb_NoNumber ?v_NoNumber ?k0_NoNumber ?k1_NoNumber ?k2_NoNumber ?k3_NoNumber ?k4_NoNumber ?k5_NoNumber ?k6_NoNumber ?k7_NoNumber ?k8_NoNumber ?h_NoNumber ?i_TooMany ?s_TooMany ?ga_TooMany ?gn_TooMany ?gc_TooMany ?mo_TooMany ?mb_TooMany ?v_TooMany ?k0_TooMany ?k1_TooMany ?k2_TooMany ?k3_TooMany ?k4_TooMany ?k5_TooMany ?k6_TooMany ?k7_TooMany ?k8_TooMany ?h_TooMany
  (case a0=>k_is)
  (case l0=>k_is)
  (case c0=>k_is)
  (case k0=>k_is)
  (case a1=>k_is)
  (case l1=>k_is)
  (case c1=>k_is)
  (case k1=>k_is)
  (case a2=>k_is)
  (case l2=>k_is)
  (case c2=>k_is)
  (case k2=>k_is)
  (case a3=>k_is)
  (case l3=>k_is)
  (case c3=>k_is)
  (case k3=>k_is)
  (case a4=>k_is)
  (case l4=>k_is)
  (case c4=>k_is)
  (case k4=>k_is)
  (case a5=>k_is)
  (case l5=>k_is)
  (case c5=>k_is)
  (case k5=>k_is)
  (case a6=>k_is)
  (case l6=>k_is)
  (case c6=>k_is)
  (case k6=>k_is)
  (case a7=>k_is)
  (case l7=>k_is)
  (case c7=>k_is)
  (case k7=>k_is)
  (case a8=>k_is)
  (case l8=>k_is)
  (case c8=>k_is)
  (case k8=>k_is)
  (case a9=>k_is)
  (case l9=>k_is)
  (case c9=>k_is)
  (case k9=>k_is)
  (case a10=>k_is)
  (case l10=>k_is)
  (case c10=>k_is)
  (case k10=>k_is)
  (case a11=>k_is)
  (case l11=>k_is)
  (case c11=>k_is)
  (case k11=>k_is)
  (case a12=>k_is)
  (case l12=>k_is)
  (case c12=>k_is)
  (case k12=>k_is)
  (case a13=>k_is)
  (case l13=>k_is)
  (case c13=>k_is)
  (case k13=>k_is)
  (case a14=>k_is)
  (case l14=>k_is)
  (case c14=>k_is)
  (case k14=>k_is)
  (case a15=>k_is)
  (case l15=>k_is)
  (case c15=>k_is)
  (case k15=>k_is)
  (case a16=>k_is)
  (case l16=>k_is)
  (case c16=>k_is)
  (case k16=>k_is)
  (case a17=>k_is)
  (case l17=>k_is)
  (case c17=>k_is)
  (case k17=>k_is)
  (case a18=>k_is)
  (case l18=>k_is)
  (case c18=>k_is)
  (case k18=>k_is)
  (case a19=>k_is)
  (case l19=>k_is)
  (case c19=>k_is)
  (case k19=>k_is)
  (case a20=>k_is)
  (case l20=>k_is)
  (case c20=>k_is)
  (case k20=>k_is)
  (case a21=>k_is)
  (case l21=>k_is)
  (case c21=>k_is)
  (case k21=>k_is)
  (case a22=>k_is)
  (case l22=>k_is)
  (case c22=>k_is)
  (case k22=>k_is)
  (case a23=>k_is)
  (case l23=>k_is)
  (case c23=>k_is)
  (case k23=>k_is)
  (case a24=>k_is)
  (case l24=>k_is)
  (case c24=>k_is)
  (case k24=>k_is)
  (case a25=>k_is)
  (case l25=>k_is)
  (case c25=>k_is)
  (case k25=>k_is)
  (case a26=>k_is)
  (case l26=>k_is)
  (case c26=>k_is)
  (case k26=>k_is)
  (case a27=>k_is)
  (case l27=>k_is)
  (case c27=>k_is)
  (case k27=>k_is)
  (case a28=>k_is)
  (case l28=>k_is)
  (case c28=>k_is)
  (case k28=>k_is)
  (case a29=>k_is)
  (case l29=>k_is)
  (case c29=>k_is)
  (case k29=>k_is)
  (case a30=>k_is)
  (case l30=>k_is)
  (case c30=>k_is)
  (case k30=>k_is)
  (case a31=>k_is)
  (case l31=>k_is)
  (case c31=>k_is)
  (case k31=>k_is)
  (case a32=>k_is)
  (case l32=>k_is)
  (case c32=>k_is)
  (case k32=>k_is)
  (case a33=>k_is)
  (case l33=>k_is)
  (case c33=>k_is)
  (case k33=>k_is)
  (case a34=>k_is)
  (case l34=>k_is)
  (case c34=>k_is)
  (case k34=>k_is)
  (case a35=>k_is)
  (case l35=>k_is)
  (case c35=>k_is)
  (case k35=>k_is)
  (case a36=>k_is)
  (case l36=>k_is)
  (case c36=>k_is)
  (case k36=>k_is)
  (case a37=>k_is)
  (case l37=>k_is)
  (case c37=>k_is)
  (case k37=>k_is)
  (case x0=>k_is)
  (case x1=>k_is)
  (case z0=>k_is)
  (case z1=>k_is)
  (case z2=>k_is)
  (case z3=>k_is)
  (case z4=>k_is)
  (case z5=>k_is)
  (case z6=>k_is)
  (case z7=>k_is)
  (case z8=>k_is)
  (case z9=>k_is)
  (case z10=>k_is)
  (case z11=>k_is)
  (case y0=>k_is)
  (case y1=>k_is)
  (case y2=>k_is)
  (case y3=>k_is)
  (case y4=>k_is)
  (case y5=>k_is)
  (case y6=>k_is)
  (case y7=>k_is)
  (case y8=>k_is)
  (case y9=>k_is)
  (case r_get=>k_is)
  (case r_tk=>k_is)
  (case i_NoWeb=>k_exc)
  (case s_NoWeb=>k_is)
  (case ga_NoWeb=>k_is)
  (case gn_NoWeb=>k_is)
  (case gc_NoWeb=>k_is)
  (case mo_NoWeb=>k_is)
  (case mb_NoWeb=>k_is)
  (case v_NoWeb=>kit_is)
  (case k0_NoWeb=>kit_is)
  (case k1_NoWeb=>kit_is)
  (case k2_NoWeb=>kit_is)
  (case k3_NoWeb=>kit_is)
  (case k4_NoWeb=>kit_is)
  (case k5_NoWeb=>kit_is)
  (case k6_NoWeb=>kit_is)
  (case k7_NoWeb=>kit_is)
  (case k8_NoWeb=>kit_is)
  (case h_NoWeb=>kts_exm)
  (case i_NoPlace=>k_exc)
  (case s_NoPlace=>k_is)
  (case ga_NoPlace=>k_is)
  (case gn_NoPlace=>k_is)
  (case gc_NoPlace=>k_is)
  (case mo_NoPlace=>k_is)
  (case mb_NoPlace=>k_is)
  (case v_NoPlace=>kit_is)
  (case k0_NoPlace=>kit_is)
  (case k1_NoPlace=>kit_is)
  (case k2_NoPlace=>kit_is)
  (case k3_NoPlace=>kit_is)
  (case k4_NoPlace=>kit_is)
  (case k5_NoPlace=>kit_is)
  (case k6_NoPlace=>kit_is)
  (case k7_NoPlace=>kit_is)
  (case k8_NoPlace=>kit_is)
  (case h_NoPlace=>kts_exm)
  (case i_NoNumber=>k_exc)
  (case s_NoNumber=>k_is)
  (case ga_NoNumber=>k_is)
  (case gn_NoNumber=>k_is)
  (case gc_NoNumber=>k_is)
  (case mo_NoNumber=>k_is)
  (case mb_NoNumber=>k_is)
  (case v_NoNumber=>kit_is)
  (case k0_NoNumber=>kit_is)
  (case k1_NoNumber=>kit_is)
  (case k2_NoNumber=>kit_is)
  (case k3_NoNumber=>kit_is)
  (case k4_NoNumber=>kit_is)
  (case k5_NoNumber=>kit_is)
  (case k6_NoNumber=>kit_is)
  (case k7_NoNumber=>kit_is)
  (case k8_NoNumber=>kit_is)
  (case h_NoNumber=>kts_exm)
  (case i_TooMany=>k_exc)
  (case s_TooMany=>k_is)
  (case ga_TooMany=>k_is)
  (case gn_TooMany=>k_is)
  (case gc_TooMany=>k_is)
  (case mo_TooMany=>k_is)
  (case mb_TooMany=>k_is)
  (case v_TooMany=>kit_is)
  (case k0_TooMany=>kit_is)
  (case k1_TooMany=>kit_is)
  (case k2_TooMany=>kit_is)
  (case k3_TooMany=>kit_is)
  (case k4_TooMany=>kit_is)
  (case k5_TooMany=>kit_is)
  (case k6_TooMany=>kit_is)
  (case k7_TooMany=>kit_is)
  (case k8_TooMany=>kit_is)
  (case h_TooMany=>kts_exm)
