import PyProof.Rows.All
import Wide.All
import OpenK.AllK
import Wide.FinOn
import Lean
import PyProof.EqAt
import PyProof.EqKinds
import PyProof.TupleCall
import PyProof.ListRange
import PyProof.TupleOfSeq
import PyProof.Draws
import PyProof.EnumMake
import PyProof.TupleIter
import PyProof.Rows.SetFrom
import PyProof.SetRoads
import PyProof.WalksMore
import PyProof.Rows.SortShell
import KE.KMinBuiltin
import PyProof.Rows.CallKwBuiltin
import KE.KRevIter
import PyProof.Rows.Tup
import PyProof.Rows.Range3
import PyProof.DictWalks
import PyProof.DictTruth
import PyProof.TupleKey
import PyProof.Rows.SeqMore2
import PyProof.FString
import PyProof.MinMaxWalk
import PyProof.MeetsSeq
import PySem.Challenge.RW_hueshare_k10_rings_and_picks
set_option Elab.async false
set_option linter.all false
set_option maxRecDepth 100000
namespace Hd
open PySem PySem.W PySem.Calls PyProof.Rows
-- a run of the text's top over the heap as a tree, as one fold
noncomputable def runT(tb:String->Option Builtin)(p:Program)(w:World)(m:Nat)(ann:Option Value)(n:Nat):SharedT->Thread->Option SharedT:=
 @Nat.rec (fun _=>SharedT->Thread->Option SharedT) (fun _ _=>none)
  (fun _ ih s t=> @Bool.rec (fun _=>Option SharedT)
   (@Bool.rec (fun _=>Option SharedT) none
    (@Option.rec (SharedT×Thread) (fun _=>Option SharedT) none (fun r=>ih r.1 r.2) (stepT (denote tb) p w s t)) (stepOk m ann t))
   (some s) (through t)) n
theorem run_abs{tb:String->Option Builtin}{p:Program}{w:World}{m:Nat}{ann:Option Value}:∀(n:Nat) (s s':SharedT) (t:Thread),
  runT tb p w m ann n s t=some s'->topRun tb p w m ann n s.abs t=some s'.abs:=by
 intro n
 induction n with
 |zero=>intro s s' t h;exact absurd h (by intro h;cases h)
 |succ n ih=>
  intro s s' t h
  have h1: @Bool.rec (fun _=>Option SharedT) (@Bool.rec (fun _=>Option SharedT) none
    (@Option.rec (SharedT×Thread) (fun _=>Option SharedT) none (fun r=>runT tb p w m ann n r.1 r.2) (stepT (denote tb) p w s t)) (stepOk m ann t))
    (some s) (through t)=some s':=h
  unfold topRun
  cases e1:through t with
  |true=>rw[e1]at h1;injection h1 with h1;rw[h1]
  |false=>
   rw[e1]at h1
   cases e2:stepOk m ann t with
   |false=>rw[e2]at h1;cases h1
   |true=>
    rw[e2]at h1
    cases e3:stepT (denote tb) p w s t with
    |none=>rw[e3]at h1;cases h1
    |some r=>
     rw[e3]at h1
     have e4:=stepT_spec (s':=r.1) (t':=r.2) e3
     show(match step (denote tb) p w s.abs t with | .go a b=>topRun tb p w m ann n a b| .halt _ _=>none)=_
     rw[e4]
     exact ih _ _ _ h1
noncomputable def treeOf(l:List Obj):BT:=(l.foldl (fun x o=>(x.1.ins x.2 o,x.2+1)) ((BT.nil,0):BT×Nat)).1
-- the run from the start that the kit has laid
noncomputable def ran(p:Program)(N:Nat)(w:World)(os:OsState):Option SharedT:=
 runT treeTable p w 11 (some (.ref 6)) N ⟨treeOf (boot_heap w.params).objs.toList,11,{},Array.mk [],boot_drawn,boot_toks,os⟩ (topStub p)
-- what is looked at behind the run
noncomputable def looked(p q:Program)(loose:List Str)(Xt:Shared->Bool)(g0:Bool)(h:Heap)(s:Shared):=
 ((staticsOk (importedModules p.main.body) h s.heap&&namesBound p s.heap&&gensDone s&&laidKept h s.heap),openSeen q loose (importedModules p.main.body) Xt g0 s)
noncomputable def LooksWell(p q:Program)(loose:List Str)(Xt:Shared->Bool)(g0:Bool)(N:Nat):Prop:=
 ∀(w:World) (os:OsState),(ran p N w os).map (fun s=>looked p q loose Xt g0 (boot_heap w.params) s.abs)=some (true,openGood q loose)
theorem left_of{p q:Program}{loose:List Str}{Xt:Shared->Bool}{α:Type}{Yf:Shared->α}{Ya:World->α}{N:Nat}{g0:Bool}(r:LooksWell p q loose Xt g0 N)(e:opening p=plainProg p.main.scope.names)(hN:Nat.ble 600 N=true)(f:∀s,fenceModules? p s=some s)(y:∀(w:World) (os:OsState),(ran p N w os).map (fun s=>Yf s.abs)=some (Ya w)):
  LeftO p q loose Xt Yf Ya N g0:=fun w=>by
 have b:((boot_heap w.params).isNs mainGlobals&&(Array.mk []:Array GenState).size==0,(boot_heap w.params).objs.size,(boot_heap w.params).nsMap mainGlobals "__annotations__")=(true,11,some (.ref 6)):=by kernel_rfl
 have c:absHeap (treeOf (boot_heap w.params).objs.toList) 11 {}=boot_heap w.params:=by kernel_rfl
 obtain⟨⟨h,gs',d',k',os⟩,e1,e'⟩:=Option.map_eq_some_iff.mp (boot_open e hN f w)
 obtain⟨rfl,rfl,rfl,rfl⟩:h=boot_heap w.params/\gs'=Array.mk []/\d'=boot_drawn/\k'=boot_toks:=by simpa using e'
 obtain⟨b1,b2,b3⟩:_/\_/\_:=by simpa only[Prod.mk.injEq]using b
 obtain⟨s,r1,r2⟩:=Option.map_eq_some_iff.mp (r w os)
 obtain⟨s',y1,y2⟩:=Option.map_eq_some_iff.mp (y w os)
 have es:s'=s:=by rw[r1]at y1;injection y1 with y1;exact y1.symm
 subst es
 obtain⟨l1,l2⟩:_/\_:=by simpa only[looked,Prod.mk.injEq]using r2
 have t1:=run_abs N _ _ _ r1
 have ab:SharedT.abs ⟨treeOf (boot_heap w.params).objs.toList,11,{},Array.mk [],boot_drawn,boot_toks,os⟩=⟨boot_heap w.params,Array.mk [],boot_drawn,boot_toks,os⟩:=by unfold SharedT.abs;rw[c]
 rw[ab]at t1
 have t:topFrom treeTable p w N ⟨boot_heap w.params,Array.mk [],boot_drawn,boot_toks,os⟩=some s'.abs:=by
  unfold topFrom
  dsimp only
  rw[b1,b2,b3,t1]
  show(match staticsOk (importedModules p.main.body) (boot_heap w.params) s'.abs.heap&&namesBound p s'.abs.heap&&gensDone s'.abs&&laidKept (boot_heap w.params) s'.abs.heap with |true=>_|false=>_)=_
  rw[l1]
 unfold openEnds
 rw[e1]
 show(topFrom treeTable p w N _).map _=_
 rw[t]
 show some (_,_)=_
 rw[l2,y2]
end Hd
section
open PySem PySem.W PyProof.Rows
namespace Hd
noncomputable abbrev L:=PySem.Challenge.rw_hueshare_k10_rings_and_picks
noncomputable def Q:Program:=view L.row.toRowW.prog [1,2,3,4,5,6,7,8,9,10,12,13,14,15,16,17,19,21,22,23,25,26,27,28,29,30,31,32,33,34]
noncomputable abbrev X:Shared->Bool:=fun s=>xlAt Q [] s&&recOk (RowW.records L.row.toRowW) s
set_option maxRecDepth 100000 in
theorem looks:LooksWell L.row.toRowW.prog Q [] X true 5490:=fun w os=>by kernel_rfl
end Hd
local macro_rules
 |`(tactic|o_head $H)=>`(tactic|
  refine holds_open (q:=Hd.Q) (loose:=[]) (N:=5490) (Xt:=Hd.X) (XP:=XL Hd.Q [])
   (Yf:=Hook.obs $H) (Ya:=Hook.val $H) (YP:=Hook.says $H)
   (Hd.left_of Hd.looks (by kernel_rfl) rfl (fun _=>by kernel_rfl) (fun _ _=>by kernel_rfl))
   (Hook.of $H) (Hook.keeps $H) (fun s e=>xl_of s (Bool.and_eq_true_iff.mp e).1) XL.keeps
   (by rfl) (by rfl) (by rfl) (fun s e=>recFacts_of (Bool.and_eq_true_iff.mp e).2) (by rfl)
   (by first |assumption|decide+kernel) (by decide+kernel) ⟨rfl,rfl,rfl,rfl,rfl,by decide+kernel⟩ ?hw ?hc)
set_option maxRecDepth 100000 in
set_option maxHeartbeats 0 in
noncomputable def Hd.early:PSigma fun P:Prop=>P->PySem.Challenge.rw_hueshare_k10_rings_and_picks.Holds:=by
 refine⟨?P,fun W=> ?_⟩
 rotate_left
 w_on;o_law;k_head;(case hw=>w_witness2)
 exact W
end
namespace L2
open PySem PySem.Spec PyProof.Rows
noncomputable abbrev Key:=Sum Int Str
noncomputable def keyIs:Key->Value->Bool
 | .inl k,v=>Value.isInt k v
 | .inr x,v=>Value.isStrOf x v
noncomputable def keyH(w:World):Key->Int
 | .inl k=>hashInt k
 | .inr x=>hashStr w x
theorem zax:∀{k:Key} {v:Value},keyIs k v=true->(∃i t,k=Sum.inl i/\v=Value.int i t)\/(∃x t,k=Sum.inr x/\v=Value.str x t)
 | .inl i,v,h=>by
  obtain⟨t,e⟩:=Value.isInt_shape (k:=i) (v:=v) h
  exact .inl ⟨i,t,rfl,e⟩
 | .inr x,v,h=>by
  obtain⟨t,e⟩:=Value.isStrOf_shape (x:=x) (v:=v) h
  exact .inr ⟨x,t,rfl,e⟩
theorem key_ll(a b:Int):decide ((Sum.inl a:Key)=Sum.inl b)=(a==b):=by
 by_cases e:a=b
 ·subst e;simp
 ·have h:¬(Sum.inl a:Key)=Sum.inl b:=fun q=>e (Sum.inl.inj q)
  rw[decide_eq_false h]
  exact(beq_eq_false_iff_ne.mpr e).symm
theorem key_rr(a b:Str):decide ((Sum.inr a:Key)=Sum.inr b)=decide (a=b):=by
 by_cases e:a=b
 ·subst e;simp
 ·have h:¬(Sum.inr a:Key)=Sum.inr b:=fun q=>e (Sum.inr.inj q)
  rw[decide_eq_false h,decide_eq_false e]
theorem key_lr(a:Int)(b:Str):decide ((Sum.inl a:Key)=Sum.inr b)=false:=decide_eq_false (fun q=>nomatch q)
theorem key_rl(a:Str)(b:Int):decide ((Sum.inr a:Key)=Sum.inl b)=false:=decide_eq_false (fun q=>nomatch q)
noncomputable def mixKind(prog:Program)(w:World):PySem.KeyKind prog w Key where
 is:=keyIs
 hash:=keyH w
 inj:=fun v a b ha hb=>by
  rcases zax ha with⟨i,t,rfl,rfl⟩|⟨x,t,rfl,rfl⟩
  ·rcases zax hb with⟨j,u,rfl,e⟩|⟨y,u,rfl,e⟩
   ·injection e with e1 _;rw[e1]
   ·exact nomatch e
  ·rcases zax hb with⟨j,u,rfl,e⟩|⟨y,u,rfl,e⟩
   ·exact nomatch e
   ·injection e with e1 _;rw[e1]
 byValue:=fun k v h=>by
  rcases zax h with⟨i,t,rfl,rfl⟩|⟨x,t,rfl,rfl⟩<;>rfl
 pyHash:=fun hv h=>by
  rcases zax hv with⟨i,t,rfl,rfl⟩|⟨x,t,rfl,rfl⟩
  ·exact wpAny_pyHash_int h
  ·exact wpAny_pyHash_str h
 eqBool:=fun hu hv h=>by
  rcases zax hu with⟨i,t,rfl,rfl⟩|⟨x,t,rfl,rfl⟩
  ·rcases zax hv with⟨j,u,rfl,rfl⟩|⟨y,u,rfl,rfl⟩
   ·rw[key_ll]at h;exact wpAny_eqBool_int h
   ·rw[key_lr]at h;exact SeqAt.EqAt.int_str i t y u _ _ _ _ h
  ·rcases zax hv with⟨j,u,rfl,rfl⟩|⟨y,u,rfl,rfl⟩
   ·rw[key_rl]at h;exact SeqAt.EqAt.str_int x t j u _ _ _ _ h
   ·rw[key_rr]at h;exact wpAny_eqBool_str h
 «strs»:=fun k x t v h=>by
  rcases zax h with⟨i,u,rfl,e⟩|⟨y,u,rfl,e⟩
  ·exact nomatch e
  ·injection e with e1 _
   subst e1
   cases v<;>rfl
end L2
namespace L2
open PySem PySem.Spec PyProof.Rows
inductive V where
 |non|bl (b:Bool)|int (i:Int)|str (x:Str)|byt (b:Array UInt8)|flt (b:UInt64)|ref (a:Addr)|ty (n:String)
 deriving DecidableEq
noncomputable def RelV:V->Value->Prop
 | .non,u=>u=Value.none
 | .bl b,u=>u=Value.bool b
 | .int i,u=>∃t,u=Value.int i t
 | .str x,u=>∃t,u=Value.str x t
 | .byt b,u=>∃t,u=Value.bytes b t
 | .flt b,u=>∃t,u=Value.float b t
 | .ref a,u=>u=Value.ref a
 | .ty n,u=>u=Value.type n
noncomputable abbrev Vals:List V->List Value->Prop:=Paired RelV
theorem Vals.length{xs:List V}{us:List Value}(r:Vals xs us):xs.length=us.length:=Paired.length r
theorem Vals.get:∀{xs:List V} {us:List Value} {i:Nat} {x:V},Vals xs us->xs[i]? =some x->∃u,us[i]? =some u/\RelV x u
 |_,_,_,_,.nil,e=>by simp at e
 |_,_,0,_,.cons r _,e=>by simp at e;subst e;exact⟨_,rfl,r⟩
 |_,_,i+1,x,.cons _ t,e=>by
  obtain⟨u,h1,h2⟩:=Vals.get (i:=i) (x:=x) t (by simpa using e)
  exact⟨u,by simpa using h1,h2⟩
theorem Vals.set{x:V}{u:Value}(r:RelV x u):∀{xs:List V} {us:List Value} (i:Nat),Vals xs us->Vals (xs.set i x) (us.set i u)
 |_,_,_,.nil=> .nil
 |_,_,0,.cons _ t=> .cons r t
 |_,_,i+1,.cons q t=> .cons q (Vals.set r i t)
theorem Vals.append:∀{xs ys:List V} {us ws:List Value},Vals xs us->Vals ys ws->Vals (xs++ys) (us++ws)
 |_,_,_,_,.nil,s=>s
 |_,_,_,_,.cons r t,s=> .cons r (Vals.append t s)
theorem Vals.take:∀{xs:List V} {us:List Value} (n:Nat),Vals xs us->Vals (xs.take n) (us.take n)
 |_,_,0,_=> .nil
 |_,_,_+1,.nil=> .nil
 |_,_,n+1,.cons r t=> .cons r (Vals.take n t)
theorem Vals.drop:∀{xs:List V} {us:List Value} (n:Nat),Vals xs us->Vals (xs.drop n) (us.drop n)
 |_,_,0,r=>r
 |_,_,_+1,.nil=> .nil
 |_,_,n+1,.cons _ t=>Vals.drop n t
noncomputable def RelO:Option V->Option Value->Prop
 |some v,some u=>RelV v u
 |none,none=>True
 |_,_=>False
noncomputable def KV{κ:Type}:List (κ×V)->List (κ×Value)->Prop:=Paired fun(p:κ×V) (q:κ×Value)=>p.1=q.1/\RelV p.2 q.2
noncomputable def kV:Key->V
 | .inl i=> .int i
 | .inr x=> .str x
inductive HO where
 /-- a list -/
 |lst (xs:List V)
 /-- a tuple (never changes) -/
 |tup (xs:List V)
 /-- a dict whose keys are ints and texts; one whose keys are tuples of ints and texts (the empty one is both) -/
 |dK (kvs:List (Key×V))|dT (kvs:List (List Key×V))
 /-- a set of ints: its members, its size -/
 |set (S:Int->Bool) (n:Nat)
 /-- an instance of the class at C, its dict at dx, its attributes -/
 |ins (C dx:Addr) (fs:List (Str×V))
 /-- the dict of the instance at x -/
 |own (x:Addr)
 /-- the dict of an exception -/
 |xd (fs:List (Str×V))
 /-- a bound method, f of x -/
 |met (f x:Addr)
 /-- a range object lo, lo + 1, .. below hi -/
 |rng (lo hi:Int)
 /-- a thing that is known to the object (the script; a dict while a loop walks it): read, never written while it is so -/
 |frz (o:Obj) (u:HO)
 /-- a code object's table -/
 |tbl (ps:Array Value)
 /-- any other thing, by what is true of its one object (a def of one's own: SetO a S n := HO.ext fun h => ..) -/
 |ext (φ:Heap->Prop)
noncomputable abbrev Hp:=Addr->Option HO
noncomputable def upd(H:Hp)(a:Addr)(o:HO):Hp:=fun b=>if b=a then some o else H b
theorem zab{H:Hp}{a:Addr}{o:HO}:upd H a o a=some o:=by unfold upd;rw[if_pos rfl]
theorem zaq{H:Hp}{a b:Addr}{o:HO}(h:b≠a):upd H a o b=H b:=by unfold upd;rw[if_neg h]
theorem ne_of{H:Hp}{a b:Addr}{o u:HO}(h:H a=some o)(h':H b=some u)(d:o≠u):a≠b:=by
 intro e;subst e;rw[h]at h';exact d (Option.some.inj h')
theorem zaj{H:Hp}{a b:Addr}{o:HO}(h:H a=some o)(h':H b=none):a≠b:=by
 intro e;subst e;rw[h]at h';cases h'
section
variable(P:Program)(w:World)
noncomputable def ObjOk(H:Hp)(h:Heap)(a:Addr):HO->Prop
 | .lst xs=>xs.length<=sizeLine/\∃(its:List Value) (n:Nat),Vals xs its/\h.get? a=some {cls:= .type "list",data:= .seq its.toArray n}
 | .tup xs=>xs.length<=sizeLine/\∃its:List Value,Vals xs its/\IsTup h a its.toArray
 | .dK kvs=>kvs.length<=sizeLine/\(a==sysModules)=false/\∃vs,KV kvs vs/\h.DictOf (mixKind P w) a vs
 | .dT kvs=>kvs.length<=sizeLine/\(a==sysModules)=false/\∃xs:List (List Key×Addr×Value),
   Paired (fun(p:List Key×V) (q:List Key×Addr×Value)=>p.1=q.1/\H q.2.1=some (.tup (p.1.map kV))/\RelV p.2 q.2.2) kvs xs/\
   ∃o es ep,h.get? a=some o/\o.ExactDict/\o.data= .dict es ep/\es.toList=xs.map (entryOfKey (tupleKind (mixKind P w)))/\(xs.map (·.1)).Nodup
 | .set S n=>h.SetOf (intKind P w) a S n
 | .ins C dx fs=>H dx=some (.own a)/\fs.length<=1000/\dx≠a/\h.get? a=some (PySem.W.instObj C dx)/\
   ∃mA,h.Ns1 dx mA/\(∀f,RelO (fs.lookup f) (mA f))/\PySem.Within mA (fs.map (·.1))
 | .own _=>∃o,h.get? a=some o
 | .xd fs=>∃mA,h.Ns1 a mA/\∀f,RelO (fs.lookup f) (mA f)
 | .rng lo hi=>∃t u v,h.get? a=some {cls:= .type "range",data:= .fields #[.int lo t,.int hi u,.int 1 v]}
 | .frz o u=>h.get? a=some o/\ObjOk H h a u
 | .tbl ps=>h.get? a=some {cls:= .none,data:= .fields ps}
 | .met f x=>h.get? a=some (PySem.W.methodObj (.ref f) (.ref x))
 | .ext φ=>φ h/\(∃o,h.get? a=some o)/\∀h1 h2:Heap,φ h1->(∀o,h1.get? a=some o->h2.get? a=some o)->φ h2
noncomputable def HOk(H:Hp)(h:Heap):Prop:=∀a o,H a=some o->ObjOk P w H h a o
end
section
variable{P:Program}{w:World}{H H':Hp}{h h':Heap}{a:Addr}{o:HO}
theorem ObjOk.lt(x:ObjOk P w H h a o):a<h.objs.size:=by
 cases o with
 |lst xs=>obtain⟨_,_,_,_,e⟩:=x;exact Heap.lt_size e
 |tup xs=>obtain⟨_,_,_,p⟩:=x;exact p.lt
 |dK kvs=>obtain⟨_,_,_,_,o,_,_,e,_⟩:=x;exact Heap.lt_size e
 |dT kvs=>obtain⟨_,_,_,_,o,_,_,e,_⟩:=x;exact Heap.lt_size e
 |set S n=>obtain⟨o,_,_,_,e,_⟩:=x;exact Heap.lt_size e
 |ins C dx fs=>obtain⟨_,_,_,e,_⟩:=x;exact Heap.lt_size e
 |own y=>obtain⟨_,e⟩:=x;exact Heap.lt_size e
 |xd fs=>obtain⟨_,⟨_,_,_,e,_⟩,_⟩:=x;exact Heap.lt_size e
 |rng lo hi=>obtain⟨_,_,_,e⟩:=x;exact Heap.lt_size e
 |frz ob u=>obtain⟨e,_⟩:=x;exact Heap.lt_size e
 |tbl ps=>exact Heap.lt_size (show h.get? a=some _ from x)
 |met f y=>exact Heap.lt_size (show h.get? a=some _ from x)
 |ext φ=>obtain⟨_,⟨_,e⟩,_⟩:=x;exact Heap.lt_size e
theorem Paired.mapP{α β:Type}{F G:α->β->Prop}:∀{l₁:List α} {l₂:List β},Paired F l₁ l₂->(∀a b,F a b->G a b)->Paired G l₁ l₂
 |_,_,.nil,_=> .nil
 |_,_,.cons r t,f=> .cons (f _ _ r) (Paired.mapP t f)
theorem ObjOk.stay(x:ObjOk P w H h a o)(k:∀b u,(b=a\/H b=some (.own a))->h.get? b=some u->h'.get? b=some u)(ho:∀b,H b=some (.own a)->H' b=some (.own a))(ht:∀b xs,H b=some (.tup xs)->H' b=some (.tup xs)):ObjOk P w H' h' a o:=by
 induction o with
 |lst xs=>obtain⟨z,its,n,r,e⟩:=x;exact⟨z,its,n,r,k _ _ (.inl rfl) e⟩
 |tup xs=>obtain⟨z,its,r,ob,e,c⟩:=x;exact⟨z,its,r,ob,k _ _ (.inl rfl) e,c⟩
 |dK kvs=>obtain⟨z,y,vs,r,ob,es,ep,e,c⟩:=x;exact⟨z,y,vs,r,ob,es,ep,k _ _ (.inl rfl) e,c⟩
 |dT kvs=>
  obtain⟨z,y,xs,r,ob,es,ep,e,c⟩:=x
  exact⟨z,y,xs,Paired.mapP r fun p q z=>⟨z.1,ht _ _ z.2.1,z.2.2⟩,ob,es,ep,k _ _ (.inl rfl) e,c⟩
 |set S n=>obtain⟨ob,es,ep,t,e,c⟩:=x;exact⟨ob,es,ep,t,k _ _ (.inl rfl) e,c⟩
 |ins C dx fs=>
  obtain⟨d,z,ne,e,mA,⟨od,es,ep,e2,c⟩,r⟩:=x
  exact⟨ho _ d,z,ne,k _ _ (.inl rfl) e,mA,⟨od,es,ep,k _ _ (.inr d) e2,c⟩,r⟩
 |own y=>obtain⟨ob,e⟩:=x;exact⟨ob,k _ _ (.inl rfl) e⟩
 |xd fs=>obtain⟨mA,⟨od,es,ep,e,c⟩,r⟩:=x;exact⟨mA,⟨od,es,ep,k _ _ (.inl rfl) e,c⟩,r⟩
 |rng lo hi=>obtain⟨t,u,v,e⟩:=x;exact⟨t,u,v,k _ _ (.inl rfl) e⟩
 |frz ob u ih=>obtain⟨e,q⟩:=x;exact⟨k _ _ (.inl rfl) e,ih q⟩
 |tbl ps=>
  have e:h.get? a=some {cls:= .none,data:= .fields ps}:=x
  show h'.get? a=some {cls:= .none,data:= .fields ps}
  exact k a _ (.inl rfl) e
 |met f y=>
  have e:h.get? a=some (PySem.W.methodObj (.ref f) (.ref y)):=x
  show h'.get? a=some (PySem.W.methodObj (.ref f) (.ref y))
  exact k a _ (.inl rfl) e
 |ext φ=>obtain⟨p,⟨o,e⟩,st⟩:=x;exact⟨st _ _ p fun o q=>k _ _ (.inl rfl) q,⟨o,k _ _ (.inl rfl) e⟩,st⟩
theorem HOk.lt(x:HOk P w H h)(e:H a=some o):a<h.objs.size:=(x a o e).lt
theorem HOk.fresh(x:HOk P w H h)(e:h.objs.size<=a):H a=none:=by
 cases q:H a with
 |none=>rfl
 |some u=>exact absurd (Nat.lt_of_lt_of_le (x.lt q) e) (Nat.lt_irrefl _)
theorem HOk.kept(x:HOk P w H h)(k:∀b u,h.get? b=some u->h'.get? b=some u):HOk P w H h':=fun a o e=>
 (x a o e).stay (fun b u _ q=>k b u q) (fun _ q=>q) fun _ _ q=>q
theorem HOk.laid(x:HOk P w H h)(k:∀b u,h.get? b=some u->h'.get? b=some u)(hp:h.objs.size<=a)(new:ObjOk P w (upd H a o) h' a o):HOk P w (upd H a o) h':=fun b u e=>by
 have hn:=x.fresh hp
 by_cases hb:b=a
 ·subst hb;rw[zab]at e;cases e;exact new
 ·rw[zaq hb]at e
  exact(x b u e).stay (fun c v _ q=>k c v q) (fun c q=>by rw[zaq (zaj q hn)];exact q) fun c xs q=>by rw[zaq (zaj q hn)];exact q
end
noncomputable def Rd(H:Hp)(a:Addr)(u:HO):Prop:=H a=some u\/∃o,H a=some (.frz o u)
theorem Rd.of{H:Hp}{a:Addr}{u:HO}(h:H a=some u):Rd H a u:= .inl h
theorem Rd.ok{P:Program}{w:World}{H:Hp}{h:Heap}{a:Addr}{u:HO}(r:Rd H a u)(x:HOk P w H h):ObjOk P w H h a u:=by
 rcases r with r|⟨o,r⟩
 ·exact x a u r
 ·obtain⟨_,q⟩:=x a _ r
  exact q
noncomputable def Mut:Option HO->Prop
 |some (.lst _)=>True
 |some (.dK _)=>True
 |some (.dT _)=>True
 |some (.set _ _)=>True
 |some (.ins _ _ _)=>True
 |some (.ext _)=>True
 |_=>False
section
variable{P:Program}{w:World}{H:Hp}{h h':Heap}{x e:Addr}{o':HO}
theorem HOk.write(ok:HOk P w H h)(mu:Mut (H x))(he:e=x\/H e=some (.own x))(k:∀b u,b≠e->h.get? b=some u->h'.get? b=some u)(heo:∃u,h'.get? e=some u)(new:ObjOk P w (upd H x o') h' x o'):HOk P w (upd H x o') h':=fun b u q=>by
 have nown:∀c y,H c=some (.own y)->c≠x:=fun c y r z=>by subst z;rw[r]at mu;exact mu
 have ntup:∀c xs,H c=some (.tup xs)->c≠x:=fun c xs r z=>by subst z;rw[r]at mu;exact mu
 by_cases hb:b=x
 ·subst hb;rw[zab]at q;cases q;exact new
 ·rw[zaq hb]at q
  by_cases hbe:b=e
  ·have q':H b=some (.own x):=by
    rcases he with z|z
    ·exact absurd (hbe.trans z) hb
    ·rw[hbe];exact z
   rw[q]at q';cases q'
   obtain⟨v,hv⟩:=heo
   exact⟨v,by rw[hbe];exact hv⟩
  ·refine(ok b u q).stay (fun c v hc r=>k c v ?_ r) (fun c r=>by rw[zaq (nown c b r)];exact r) fun c xs r=>by rw[zaq (ntup c xs r)];exact r
   rcases hc with rfl|hc
   ·exact hbe
   ·rintro rfl
    rcases he with z|z
    ·exact nown c b hc z
    ·rw[hc]at z;cases z;exact hb rfl
end
structure Un(fs ex:List Addr)(H H':Hp)(h h':Heap):Prop where
 keep:∀b o,h.get? b=some o->H b=none->b∉fs->b∉ex->h'.get? b=some o
 slot:∀b o,h.get? b=some o->H b=none->b∈fs->b∉ex->∃sl,h'.get? b=some {o with slots:=sl}
 free:∀b o,h.get? b=some o->H b=none->b∉ex->H' b=none
 there:∀b o,h.get? b=some o->b∉ex->∃o',h'.get? b=some o'
 tups:∀b xs,H b=some (.tup xs)->H' b=some (.tup xs)
 frzs:∀b o u,H b=some (.frz o u)->H' b=some (.frz o u)
 tbls:∀b ps,H b=some (.tbl ps)->∃more,H' b=some (.tbl (ps++more))
section
variable{fs fs' ex ex':List Addr}{H H1 H2:Hp}{h h1 h2 h':Heap}{a x e:Addr}{o:HO}
theorem Un.any(u:Un fs ex H H1 h h1){b:Addr}{ob:Obj}(q:h.get? b=some ob)(n:H b=none)(hx:b∉ex):∃sl,h1.get? b=some {ob with slots:=sl}:=by
 by_cases hb:b∈fs
 ·exact u.slot b ob q n hb hx
 ·exact⟨ob.slots,u.keep b ob q n hb hx⟩
theorem Un.trans(a:Un fs ex H H1 h h1)(b:Un fs ex H1 H2 h1 h2):Un fs ex H H2 h h2 where
 keep:=fun c ob q n hc hx=>b.keep c ob (a.keep c ob q n hc hx) (a.free c ob q n hx) hc hx
 slot:=fun c ob q n hc hx=>by
  obtain⟨sl,e1⟩:=a.slot c ob q n hc hx
  obtain⟨sl',e2⟩:=b.slot c _ e1 (a.free c ob q n hx) hc hx
  exact⟨sl',e2⟩
 free:=fun c ob q n hx=>by
  obtain⟨o',e1⟩:=a.there c ob q hx
  exact b.free c o' e1 (a.free c ob q n hx) hx
 there:=fun c ob q hx=>by
  obtain⟨o',e1⟩:=a.there c ob q hx
  exact b.there c o' e1 hx
 tups:=fun c xs q=>b.tups c xs (a.tups c xs q)
 frzs:=fun c ob xs q=>b.frzs c ob xs (a.frzs c ob xs q)
 tbls:=fun c ps q=>by
  obtain⟨m1,e1⟩:=a.tbls c ps q
  obtain⟨m2,e2⟩:=b.tbls c _ e1
  exact⟨m1++m2,by rw[e2,Array.append_assoc]⟩
theorem Un.kept(k:∀b u,h.get? b=some u->h'.get? b=some u):Un fs ex H H h h':=
 ⟨fun b ob q _ _ _=>k b ob q,fun b ob q _ _ _=>⟨ob.slots,k b ob q⟩,fun _ _ _ n _=>n,fun b ob q _=>⟨ob,k b ob q⟩,fun _ _ q=>q,fun _ _ _ q=>q,fun _ ps q=>⟨#[],by rw[q];simp⟩⟩
theorem Un.refl:Un fs ex H H h h:=Un.kept fun _ _ q=>q
theorem Un.laid(k:∀b u,h.get? b=some u->h'.get? b=some u)(hp:h.objs.size<=a)(hn:H a=none):Un fs ex H (upd H a o) h h' where
 keep:=fun b u q _ _ _=>k b u q
 slot:=fun b u q _ _ _=>⟨u.slots,k b u q⟩
 free:=fun b u q n _=>by rw[zaq (Nat.ne_of_lt (Nat.lt_of_lt_of_le (Heap.lt_size q) hp))];exact n
 there:=fun b u q _=>⟨u,k b u q⟩
 tups:=fun b xs q=>by rw[zaq (zaj q hn)];exact q
 frzs:=fun b u xs q=>by rw[zaq (zaj q hn)];exact q
 tbls:=fun b ps q=>⟨#[],by rw[zaq (zaj q hn),q];simp⟩
theorem Un.write(mu:Mut (H x))(he:e=x\/H e=some (.own x))(k:∀b u,b≠e->h.get? b=some u->h'.get? b=some u)(heo:∃u,h'.get? e=some u):Un fs ex H (upd H x o) h h':=by
 have hx:∀b,H b=none->b≠x:=fun b n z=>by subst z;rw[n]at mu;exact mu
 have hb:∀b,H b=none->b≠e:=fun b n z=>by
  subst z
  rcases he with r|r
  ·exact hx b n r
  ·rw[n]at r;cases r
 have hm:∀b u,H b=some u->¬Mut (some u)->b≠x:=fun b u q nm z=>by subst z;rw[q]at mu;exact nm mu
 refine⟨fun b u q n _ _=>k b u (hb b n) q,fun b u q n _ _=>⟨u.slots,k b u (hb b n) q⟩,fun b u q n _=>by rw[zaq (hx b n)];exact n,fun b u q _=> ?_,
  fun b xs q=>by rw[zaq (hm b _ q fun z=>z)];exact q,fun b u xs q=>by rw[zaq (hm b _ q fun z=>z)];exact q,fun b ps q=>⟨#[],by rw[zaq (hm b _ q fun z=>z),q];simp⟩⟩
 by_cases hbe:b=e
 ·subst hbe;exact heo
 ·exact⟨u,k b u hbe q⟩
theorem Un.mono(u:Un fs ex H H1 h h1)(hs:∀b∈fs,b∈fs')(hx:∀b∈ex,b∈ex'):Un fs' ex' H H1 h h1:=
 ⟨fun b ob q n hb he=>u.keep b ob q n (fun z=>hb (hs b z)) fun z=>he (hx b z),fun _ _ q n _ he=>u.any q n fun z=>he (hx _ z),fun b ob q n he=>u.free b ob q n fun z=>he (hx b z),fun b ob q he=>u.there b ob q fun z=>he (hx b z),u.tups,u.frzs,u.tbls⟩
end
noncomputable def trk(h:Heap)(H:Hp):List Addr:=(List.range h.objs.size).filter fun a=>(H a).isSome
noncomputable def hidT(h:Heap)(H:Hp):Heap:=PySem.W.hideAll h (trk h H)
theorem hidT_size(h:Heap)(H:Hp):(hidT h H).objs.size=h.objs.size:=PySem.W.hideAll_size _ _
theorem hidT_get{h:Heap}{H:Hp}{b:Addr}{o:Obj}(e:h.get? b=some o)(n:H b=none):(hidT h H).get? b=some o:=
 PySem.W.hideAll_get _ e fun hm=>by
  have q:(H b).isSome=true:=(List.mem_filter.mp hm).2
  rw[n]at q;simp at q
theorem of_hidT{h:Heap}{H:Hp}{b:Addr}{o:Obj}(e:(hidT h H).get? b=some o):h.get? b=some o/\H b=none:=by
 have e':h.get? b=some o:=PySem.W.of_hideAll (trk h H) e
 refine⟨e',?_⟩
 cases q:H b with
 |none=>rfl
 |some x=>
  have hm:b∈trk h H:=List.mem_filter.mpr ⟨List.mem_range.mpr (Heap.lt_size e'),by simp[q]⟩
  have z:(hidT h H).get? b=none:=PySem.W.hideAll_none (trk h H) hm
  rw[z]at e;cases e
noncomputable def allNews(g h:Heap)(L:Addr):List (Addr×Obj):=(List.range h.objs.size).filterMap fun a=>if a=L\/(g.get? a).isSome=true then none else(h.get? a).map fun o=>(a,o)
noncomputable def rest(g h:Heap)(L d:Addr):List (Addr×Obj):=(allNews g h L).filter fun p=>decide (p.1≠d)
end L2
namespace L2
open PySem PySem.Spec PyProof.Rows
structure Mod(K:W.Frag)(mg:Str->Option Value)(base:Heap):Prop where
 kin:K.In base
 glob:base.Ns mainGlobals mg
 blt:∃mb,base.Ns builtinsNs mb/\∀x:Str,x≠"__name__"->mb x=bootBuiltins x
 nolimit:base.NoLimit
structure Cx where
 prog:Program
 w:World
 K:W.Frag
 mg:Str->Option Value
 base:Heap
 A:Around
 N:List Str
 s₀:Shared
 H₀:Hp
 env:Env
 outer:List Env
 stack:List Env
 ex:List Addr
 fn:Str->Bool
 calm:Bool
 pn:List (Addr×Obj)
 xe:Value->Shared->Prop
noncomputable def frs(l:List Env):List Addr:=l.filterMap (·.frame)
noncomputable abbrev Cx.fs(X:Cx):List Addr:=frs X.outer
noncomputable def Vis(sc:Scope)(x:Str):Prop:=sc.names.lookup x=some .local\/sc.names.lookup x=some .cell\/sc.names.lookup x=some .free
noncomputable def Loc(sc:Scope)(x:Str):Prop:=sc.names.lookup x=some .local\/sc.names.lookup x=some .cell
noncomputable def Look(env:Env)(h:Heap)(m:Str->Option Value)(x:Str)(u:Value):Prop:=
 (env.kindOf x=some .local/\m x=some u)\/((env.kindOf x=some .cell\/env.kindOf x=some .free)/\∃c,env.cells.lookup x=some c/\h.IsCell c (some u))
structure Cx.Ok(X:Cx):Prop where
 mod:Mod X.K X.mg X.base
 kind:X.env.scope.kind= .function
 glob:X.env.globals=mainGlobals
 blt:X.env.builtins=builtinsNs
 above:X.s₀.heap.objs.size<=X.env.locals
 inj:∀x y c,X.env.cells.lookup x=some c->X.env.cells.lookup y=some c->x=y
 has:∀x,(X.env.kindOf x=some .cell\/X.env.kindOf x=some .free)->∃c,X.env.cells.lookup x=some c
 cab:∀x c,X.fn x=true->X.env.cells.lookup x=some c->X.s₀.heap.objs.size<=c
 hd:X.calm=true->X.A.handled=none
 frames:X.A.frames=some X.stack
 stk:X.stack=X.outer\/(X.stack=X.env::X.outer/\X.env.frame=some X.env.locals)
 exf:∀b∈X.ex,b≠X.env.locals/\∀x c,X.env.cells.lookup x=some c->c≠b
 bs:∀b o,X.base.get? b=some o->X.s₀.heap.get? b=some o/\X.H₀ b=none
 bsz:X.base.objs.size<=X.s₀.heap.objs.size
 noex:∀b o,X.base.get? b=some o->b∉X.ex
 exfs:∀b∈X.ex,b∉X.fs
 funs:X.s₀.heap.FunFrames X.base X.outer
 frf:∀b∈X.fs,X.H₀ b=none
structure Inv(X:Cx)(pins:List (Addr×Obj))(σ:List (Option V))(H:Hp)(s:Shared):Prop where
 ok:X.Ok
 os:s.os=X.s₀.os
 bare:AllBare s.gens
 base:Un X.fs X.ex X.H₀ H X.s₀.heap s.heap
 loc:∃m,s.heap.Ns X.env.locals m/\∀(i:Nat) (x:Str) (v:V),X.N[i]? =some x->σ[i]? =some (some v)->Vis X.env.scope x->∃u,RelV v u/\Look X.env s.heap m x u
 cell:∀x c,X.env.cells.lookup x=some c->∃v,s.heap.IsCell c v
 free:H X.env.locals=none
 freeC:∀x c,X.env.cells.lookup x=some c->H c=none
 pin:∀p∈X.pn++pins,s.heap.get? p.1=some p.2/\H p.1=none/\p.1≠X.env.locals/\p.1∉X.fs/\∀v,p.2.data≠.cell v
 hok:HOk X.prog X.w H s.heap
 len:σ.length=X.N.length
section
variable{X:Cx}{pins:List (Addr×Obj)}{σ:List (Option V)}{H H':Hp}{s:Shared}{h':Heap}
theorem Cx.Ok.nofr(ok:X.Ok){b:Addr}{o:Obj}(e:X.base.get? b=some o):b∉X.fs:=fun hb=>by
 have:=(ok.funs.mem hb).1
 rw[e]at this;cases this
theorem Inv.bs(I:Inv X pins σ H s):∀b o,X.base.get? b=some o->s.heap.get? b=some o/\H b=none:=fun b o e=>
 ⟨I.base.keep b o (I.ok.bs b o e).1 (I.ok.bs b o e).2 (I.ok.nofr e) (I.ok.noex b o e),I.base.free b o (I.ok.bs b o e).1 (I.ok.bs b o e).2 (I.ok.noex b o e)⟩
theorem Inv.bk(I:Inv X pins σ H s):∀b o,X.base.get? b=some o->s.heap.get? b=some o:=fun b o e=>(I.bs b o e).1
theorem Inv.mod(I:Inv X pins σ H s):Mod X.K X.mg X.base:=I.ok.mod
theorem Inv.kIn(I:Inv X pins σ H s):X.K.In s.heap:=I.ok.mod.kin.keeps I.bk
theorem Inv.nolimit(I:Inv X pins σ H s):s.heap.NoLimit:=I.ok.mod.nolimit.keeps I.bk
theorem Inv.lt(I:Inv X pins σ H s):X.env.locals<s.heap.objs.size:=let⟨_,hn,_⟩:=I.loc;hn.lt
theorem Inv.sz(I:Inv X pins σ H s):X.s₀.heap.objs.size<=s.heap.objs.size:=Nat.le_trans I.ok.above (Nat.le_of_lt I.lt)
theorem Inv.nofs(I:Inv X pins σ H s){a:Addr}(h:s.heap.objs.size<=a):a∉X.fs:=fun hb=>by
 obtain⟨_,o,ho,_⟩:=I.ok.funs.mem hb
 exact absurd (Nat.lt_of_lt_of_le (Heap.lt_size ho) (Nat.le_trans I.sz h)) (Nat.lt_irrefl _)
theorem Inv.cne(I:Inv X pins σ H s):∀x c,X.env.cells.lookup x=some c->c≠X.env.locals:=fun x c e z=>by
 obtain⟨v,o,ho,hd⟩:=I.cell x c e
 obtain⟨m,⟨o',es,ep,ho',hd',_⟩,_⟩:=I.loc
 rw[z,ho']at ho;cases ho;rw[hd']at hd;cases hd
theorem Inv.funs(I:Inv X pins σ H s):s.heap.FunFrames X.base X.outer:=by
 have all:∀(l:List Env),(∀b∈frs l,b∈X.fs)->X.s₀.heap.FunFrames X.base l->s.heap.FunFrames X.base l:=by
  intro l
  induction l with
  |nil=>intro _ _;trivial
  |cons env r ih=>
   intro hs hl
   obtain⟨hk,⟨L,o,hf,hn,ho,hd⟩,hr⟩:=hl
   have hL:L∈X.fs:=hs L (by unfold frs;rw[List.filterMap_cons,hf];exact List.mem_cons_self)
   obtain⟨sl,e⟩:=I.base.slot L o ho (I.ok.frf L hL) hL fun z=>I.ok.exfs L z hL
   exact⟨hk,⟨L,_,hf,hn,e,hd⟩,ih (fun b hb=>hs b (by unfold frs;rw[List.filterMap_cons,hf];exact List.mem_cons_of_mem _ hb)) hr⟩
 exact all X.outer (fun _ hb=>hb) I.ok.funs
theorem Inv.stack(I:Inv X pins σ H s):s.heap.FunFrames X.base X.stack:=by
 rcases I.ok.stk with e|⟨e,hf⟩
 ·rw[e];exact I.funs
 ·rw[e]
  obtain⟨m,hn,_⟩:=I.loc
  refine .cons (by rw[I.ok.kind];decide) hf hn ?_ I.funs
  exact Heap.get?_none_of_le (Nat.le_trans I.ok.bsz I.ok.above)
theorem Inv.stkSub(I:Inv X pins σ H s):∀b∈frs X.stack,b∈X.env.locals::X.fs:=fun b hb=>by
 rcases I.ok.stk with e|⟨e,hf⟩
 ·rw[e]at hb;exact List.mem_cons_of_mem _ hb
 ·rw[e]at hb
  unfold frs at hb
  rw[List.filterMap_cons,hf]at hb
  exact hb
theorem Inv.stkFree(I:Inv X pins σ H s):∀b∈frs X.stack,H b=none:=fun b hb=>by
 rcases List.mem_cons.mp (I.stkSub b hb)with e|hb
 ·rw[e];exact I.free
 ·obtain⟨_,o,ho,_⟩:=I.ok.funs.mem hb
  exact I.base.free b o ho (I.ok.frf b hb) fun z=>I.ok.exfs b z hb
theorem Inv.step{g':Array GenState}{t':Nat}{d':Drawn}{ch:List Addr}(I:Inv X pins σ H s)(hch:∀b∈ch,(b∈X.ex\/X.s₀.heap.objs.size<=b)/\b≠X.env.locals/\(∀x c,X.env.cells.lookup x=some c->c≠b)/\∀p∈X.pn++pins,p.1≠b)(keep:∀b o,b≠X.env.locals->b∉X.fs->b∉ch->s.heap.get? b=some o->H b=none->h'.get? b=some o)(slot:∀b o,b≠X.env.locals->b∈X.fs->b∉ch->s.heap.get? b=some o->H b=none->∃sl,h'.get? b=some {o with slots:=sl})(free:∀b o,b∉ch->s.heap.get? b=some o->H b=none->H' b=none)(there:∀b o,b∉ch->s.heap.get? b=some o->∃o',h'.get? b=some o')(tups:∀b xs,H b=some (.tup xs)->H' b=some (.tup xs))(frzs:∀b o u,H b=some (.frz o u)->H' b=some (.frz o u))(tbls:∀b ps,H b=some (.tbl ps)->∃more,H' b=some (.tbl (ps++more)))(ns:∀m,s.heap.Ns X.env.locals m->h'.Ns X.env.locals m)(hok:HOk X.prog X.w H' h')(hg:AllBare g'):
  Inv X pins σ H' {s with heap:=h',gens:=g',drawn:=d',toks:=t'}:=by
 have neL:∀b o,X.s₀.heap.get? b=some o->b≠X.env.locals:=fun b o e=>Nat.ne_of_lt (Nat.lt_of_lt_of_le (Heap.lt_size e) I.ok.above)
 have neC:∀b o,X.s₀.heap.get? b=some o->b∉X.ex->b∉ch:=fun b o e hx hb=>by
  rcases(hch b hb).1 with z|z
  ·exact hx z
  ·exact absurd (Nat.lt_of_lt_of_le (Heap.lt_size e) z) (Nat.lt_irrefl _)
 have cellK:∀x c,X.env.cells.lookup x=some c->∀v,s.heap.IsCell c v->h'.IsCell c v:=fun x c e v ⟨o,ho,hd⟩=>by
  have nch:c∉ch:=fun z=>(hch c z).2.2.1 x c e rfl
  by_cases hc:c∈X.fs
  ·obtain⟨sl,q⟩:=slot c o (I.cne x c e) hc nch ho (I.freeC x c e)
   exact⟨_,q,hd⟩
  ·exact⟨o,keep c o (I.cne x c e) hc nch ho (I.freeC x c e),hd⟩
 refine⟨I.ok,I.os,hg,⟨fun b o e n hb hx=> ?_,fun b o e n hb hx=> ?_,fun b o e n hx=> ?_,fun b o e hx=> ?_,fun b xs e=>tups b xs (I.base.tups b xs e),fun b o xs e=>frzs b o xs (I.base.frzs b o xs e),fun b ps e=> ?_⟩,?_,fun x c e=> ?_,?_,fun x c e=> ?_,fun p hp=> ?_,hok,I.len⟩
 ·exact keep b o (neL b o e) hb (neC b o e hx) (I.base.keep b o e n hb hx) (I.base.free b o e n hx)
 ·obtain⟨sl,e1⟩:=I.base.slot b o e n hb hx
  obtain⟨sl',e2⟩:=slot b _ (neL b o e) hb (neC b o e hx) e1 (I.base.free b o e n hx)
  exact⟨sl',e2⟩
 ·obtain⟨o',e1⟩:=I.base.there b o e hx
  exact free b o' (neC b o e hx) e1 (I.base.free b o e n hx)
 ·obtain⟨o',e1⟩:=I.base.there b o e hx
  exact there b o' (neC b o e hx) e1
 ·obtain⟨m1,e1⟩:=I.base.tbls b ps e
  obtain⟨m2,e2⟩:=tbls b _ e1
  exact⟨m1++m2,by rw[e2,Array.append_assoc]⟩
 ·obtain⟨m,hn,hl⟩:=I.loc
  refine⟨m,ns m hn,fun i x v e1 e2 e3=> ?_⟩
  obtain⟨u,r,l⟩:=hl i x v e1 e2 e3
  refine⟨u,r,?_⟩
  rcases l with l|⟨k,c,e,z⟩
  ·exact .inl l
  ·exact .inr ⟨k,c,e,cellK x c e _ z⟩
 ·obtain⟨v,z⟩:=I.cell x c e
  exact⟨v,cellK x c e v z⟩
 ·obtain⟨m,⟨o,_,_,ho,_⟩,_⟩:=I.loc
  exact free _ o (fun z=>(hch _ z).2.1 rfl) ho I.free
 ·obtain⟨v,o,ho,hd⟩:=I.cell x c e
  exact free c o (fun z=>(hch c z).2.2.1 x c e rfl) ho (I.freeC x c e)
 ·obtain⟨e,n,ne,nf,d⟩:=I.pin p hp
  have nch:p.1∉ch:=fun z=>(hch p.1 z).2.2.2 p hp rfl
  exact⟨keep p.1 p.2 ne nf nch e n,free p.1 p.2 nch e n,ne,nf,d⟩
theorem Inv.un{t':Nat}(I:Inv X pins σ H s)(u:Un X.fs [] H H' s.heap h')(hok:HOk X.prog X.w H' h'):Inv X pins σ H' {s with heap:=h',toks:=t'}:=by
 obtain⟨m,⟨o,es,ep,ho,r⟩,_⟩:=id I.loc
 obtain⟨sl,hL⟩:=u.any ho I.free (by simp)
 exact I.step (g':=s.gens) (d':=s.drawn) (ch:=[]) (fun _ z=>nomatch z) (fun b o _ hb _ e n=>u.keep b o e n hb (by simp)) (fun b o _ hb _ e n=>u.slot b o e n hb (by simp)) (fun b o _ e n=>u.free b o e n (by simp)) (fun b o _ e=>u.there b o e (by simp)) u.tups u.frzs u.tbls (fun m' hm=>by
  obtain⟨o',es',ep',ho',r'⟩:=hm
  rw[ho]at ho';cases ho'
  exact⟨_,es',ep',hL,r'⟩) hok I.bare
theorem Inv.call{g':Array GenState}{t':Nat}{d':Drawn}{ch:List Addr}(I:Inv X pins σ H s)(u:Un (frs X.stack) ch H H' s.heap h')(hok:HOk X.prog X.w H' h')(hg:AllBare g')(hch:∀b∈ch,(b∈X.ex\/X.s₀.heap.objs.size<=b)/\b≠X.env.locals/\(∀x c,X.env.cells.lookup x=some c->c≠b)/\∀p∈X.pn++pins,p.1≠b):
  Inv X pins σ H' {s with heap:=h',gens:=g',drawn:=d',toks:=t'}:=by
 obtain⟨m,⟨o,es,ep,ho,r⟩,_⟩:=id I.loc
 obtain⟨sl,hL⟩:=u.any ho I.free fun z=>(hch _ z).2.1 rfl
 exact I.step (ch:=ch) hch (fun b o hL hb hc e n=>u.keep b o e n (fun z=>(List.mem_cons.mp (I.stkSub b z)).elim hL hb) hc) (fun b o _ _ hc e n=>u.any e n hc) (fun b o hc e n=>u.free b o e n hc) (fun b o hc e=>u.there b o e hc) u.tups u.frzs u.tbls (fun m' hm=>by
  obtain⟨o',es',ep',ho',r'⟩:=hm
  rw[ho]at ho';cases ho'
  exact⟨_,es',ep',hL,r'⟩) hok hg
theorem Inv.turned{t':Nat}{it:Addr}(I:Inv X pins σ H s)(k:∀b o,b≠it->s.heap.get? b=some o->h'.get? b=some o)(hn:H it=none)(hL:it≠X.env.locals)(h1:it∈X.ex\/X.s₀.heap.objs.size<=it)(h2:∀x c,X.env.cells.lookup x=some c->c≠it)(h3:∀p∈X.pn++pins,p.1≠it):Inv X pins σ H {s with heap:=h',toks:=t'}:=by
 have nit:∀b u,H b=some u->b≠it:=fun b u e z=>by rw[z,hn]at e;cases e
 refine I.step (g':=s.gens) (d':=s.drawn) (ch:=[it]) (fun b hb=> ?_) (fun b o _ _ hc e _=>k b o (fun z=>hc (by simp[z])) e) (fun b o _ _ hc e _=>⟨o.slots,k b o (fun z=>hc (by simp[z])) e⟩) (fun _ _ _ _ n=>n)
  (fun b o hc e=>⟨o,k b o (fun z=>hc (by simp[z])) e⟩) (fun _ _ e=>e) (fun _ _ _ e=>e) (fun b ps e=>⟨#[],by rw[e];simp⟩) (fun m hm=> ?_) (fun b u e=> ?_) I.bare
 ·have e:b=it:=by simpa using hb
  subst e
  exact⟨h1,hL,h2,h3⟩
 ·obtain⟨o,es,ep,ho,r⟩:=hm
  exact⟨o,es,ep,k _ o (Ne.symm hL) ho,r⟩
 ·refine(I.hok b u e).stay (fun c v hc q=>k c v ?_ q) (fun _ q=>q) fun _ _ q=>q
  rcases hc with z|z
  ·rw[z];exact nit b u e
  ·exact nit c _ z
theorem Inv.tok(I:Inv X pins σ H s)(t:Nat):Inv X pins σ H {s with toks:=t}:=I.un (h':=s.heap) (t':=t) Un.refl I.hok
theorem Inv.kept{t':Nat}(I:Inv X pins σ H s)(k:∀b u,s.heap.get? b=some u->h'.get? b=some u):Inv X pins σ H {s with heap:=h',toks:=t'}:=I.un (Un.kept k) (I.hok.kept k)
theorem Inv.laid{a:Addr}{o:HO}{t':Nat}(I:Inv X pins σ H s)(k:∀b u,s.heap.get? b=some u->h'.get? b=some u)(hp:s.heap.objs.size<=a)(new:ObjOk X.prog X.w (upd H a o) h' a o):
  Inv X pins σ (upd H a o) {s with heap:=h',toks:=t'}:=I.un (Un.laid k hp (I.hok.fresh hp)) (I.hok.laid k hp new)
theorem Inv.write{x e:Addr}{o:HO}{t':Nat}(I:Inv X pins σ H s)(mu:Mut (H x))(he:e=x\/H e=some (.own x))(k:∀b u,b≠e->s.heap.get? b=some u->h'.get? b=some u)(heo:∃u,h'.get? e=some u)(new:ObjOk X.prog X.w (upd H x o) h' x o):Inv X pins σ (upd H x o) {s with heap:=h',toks:=t'}:=I.un (Un.write mu he k heo) (I.hok.write mu he k heo new)
theorem Inv.pins_of{pins':List (Addr×Obj)}(I:Inv X pins σ H s)(h:∀p∈pins',s.heap.get? p.1=some p.2/\H p.1=none/\p.1≠X.env.locals/\p.1∉X.fs/\∀v,p.2.data≠.cell v):Inv X pins' σ H s:=
 ⟨I.ok,I.os,I.bare,I.base,I.loc,I.cell,I.free,I.freeC,fun p hp=>(List.mem_append.mp hp).elim (fun z=>I.pin p (List.mem_append_left _ z)) (h p),I.hok,I.len⟩
theorem nodup_ix{N:List Str}(hN:N.Nodup){i j:Nat}{x:Str}(a:N[i]? =some x)(b:N[j]? =some x):i=j:=by
 obtain⟨h1,e1⟩:=List.getElem?_eq_some_iff.mp a
 obtain⟨h2,e2⟩:=List.getElem?_eq_some_iff.mp b
 exact(List.getElem_inj hN).mp (e1.trans e2.symm)
theorem store_ok2{M:Model}{A:Around}{E:Value->Shared->Prop}{i:Nat}{x:Str}{v:V}{u:Value}{Q:Unit->Shared->Prop}(I:Inv X pins σ H s)(hN:X.N.Nodup)(hi:X.N[i]? =some x)(hx:Loc X.env.scope x)(r:RelV v u)(h:∀s',Inv X pins (σ.set i (some v)) H s'->(∃a,Heap.SameBut a s.heap s'.heap/\(a=X.env.locals\/X.env.cells.lookup x=some a))->Q () s')(hf:X.fn x=true\/X.env.scope.names.lookup x=some .local:=by first |exact .inl rfl|exact .inr rfl|assumption):wpAny M A (storeName X.env x u) Q E s:=by
 obtain⟨m,hn,hl⟩:=id I.loc
 have hcls:(X.env.scope.kind== .class||(X.env.scope.kind== .module&&X.env.locals !=X.env.globals))=false:=by rw[I.ok.kind];rfl
 have hiσ:i<σ.length:=by rw[I.len];exact(List.getElem?_eq_some_iff.mp hi).1
 have cne:=I.cne
 have tracked:∀{a:Addr} {h':Heap},(∃o,s.heap.get? a=some o/\H a=none)->Heap.SameBut a s.heap h'->HOk X.prog X.w H h':=fun{a h'} ha hs b ob e=>by
  obtain⟨_,_,hfree⟩:=ha
  refine(I.hok b ob e).stay (fun c w' hc q=>(hs.2 c ?_).trans q) (fun _ q=>q) fun _ _ q=>q
  rintro rfl
  rcases hc with rfl|hc
  ·rw[hfree]at e;cases e
  ·rw[hfree]at hc;cases hc
 rcases hx with hk|hk
 ·refine wpAny_storeName_local hk hn (fun h' hn' hs=> ?_) hcls
  obtain⟨oL,_,_,hoL,_⟩:=id hn
  refine h _ ⟨I.ok,I.os,I.bare,⟨fun b o e n hb hx=> ?_,fun b o e n hb hx=> ?_,I.base.free,fun b o e hx=> ?_,I.base.tups,I.base.frzs,I.base.tbls⟩,⟨_,hn',fun j y v' e1 e2 e3=> ?_⟩,fun y c e=> ?_,I.free,I.freeC,fun p hp=> ?_,tracked ⟨oL,hoL,I.free⟩ hs,by simpa using I.len⟩ ⟨_,hs,.inl rfl⟩
  ·exact(hs.2 b (Nat.ne_of_lt (Nat.lt_of_lt_of_le (Heap.lt_size e) I.ok.above))).trans (I.base.keep b o e n hb hx)
  ·obtain⟨sl,e1⟩:=I.base.slot b o e n hb hx
   exact⟨sl,(hs.2 b (Nat.ne_of_lt (Nat.lt_of_lt_of_le (Heap.lt_size e) I.ok.above))).trans e1⟩
  ·obtain⟨o',e1⟩:=I.base.there b o e hx
   exact⟨o',(hs.2 b (Nat.ne_of_lt (Nat.lt_of_lt_of_le (Heap.lt_size e) I.ok.above))).trans e1⟩
  ·by_cases hj:j=i
   ·subst hj
    rw[hi]at e1;cases e1
    rw[List.getElem?_set_self hiσ]at e2
    cases e2
    exact⟨u,r,.inl ⟨hk,by simp⟩⟩
   ·rw[List.getElem?_set_ne (Ne.symm hj)]at e2
    obtain⟨u',r',q⟩:=hl j y v' e1 e2 e3
    refine⟨u',r',?_⟩
    rcases q with⟨k,e⟩|⟨k,c,e,z⟩
    ·refine .inl ⟨k,?_⟩
     have:y≠x:=fun e=>hj (nodup_ix hN e1 (e▸hi))
     simp[this,e]
    ·exact .inr ⟨k,c,e,z.sameBut hs (cne y c e)⟩
  ·obtain⟨w',z⟩:=I.cell y c e
   exact⟨w',z.sameBut hs (cne y c e)⟩
  ·obtain⟨e,n,ne,nf,d⟩:=I.pin p hp
   exact⟨(hs.2 p.1 ne).trans e,n,ne,nf,d⟩
 ·have hfn:X.fn x=true:=by
   rcases hf with z|z
   ·exact z
   ·rw[z]at hk;cases hk
  obtain⟨c,hc⟩:=I.ok.has x (.inl hk)
  obtain⟨w',z⟩:=I.cell x c hc
  refine wpAny_storeName_cell I.ok.kind hk hc z (fun h' hc' hs=> ?_)
  obtain⟨oc,hoc,hocd⟩:=id z
  refine h {s with heap:=h'} ⟨I.ok,I.os,I.bare,⟨fun b o e n hb hx=> ?_,fun b o e n hb hx=> ?_,I.base.free,fun b o e hx=> ?_,I.base.tups,I.base.frzs,I.base.tbls⟩,⟨m,hn.sameBut hs (Ne.symm (cne x c hc)),fun j y v' e1 e2 e3=> ?_⟩,fun y c' e=> ?_,I.free,I.freeC,fun p hp=> ?_,tracked ⟨oc,hoc,I.freeC x c hc⟩ hs,by simpa using I.len⟩ ⟨c,hs,.inr hc⟩
  ·exact(hs.2 b (Nat.ne_of_lt (Nat.lt_of_lt_of_le (Heap.lt_size e) (I.ok.cab x c hfn hc)))).trans (I.base.keep b o e n hb hx)
  ·obtain⟨sl,e1⟩:=I.base.slot b o e n hb hx
   exact⟨sl,(hs.2 b (Nat.ne_of_lt (Nat.lt_of_lt_of_le (Heap.lt_size e) (I.ok.cab x c hfn hc)))).trans e1⟩
  ·obtain⟨o',e1⟩:=I.base.there b o e hx
   exact⟨o',(hs.2 b (Nat.ne_of_lt (Nat.lt_of_lt_of_le (Heap.lt_size e) (I.ok.cab x c hfn hc)))).trans e1⟩
  ·by_cases hj:j=i
   ·subst hj
    rw[hi]at e1;cases e1
    rw[List.getElem?_set_self hiσ]at e2
    cases e2
    exact⟨u,r,.inr ⟨.inl hk,c,hc,hc'⟩⟩
   ·rw[List.getElem?_set_ne (Ne.symm hj)]at e2
    obtain⟨u',r',q⟩:=hl j y v' e1 e2 e3
    refine⟨u',r',?_⟩
    rcases q with q|⟨k,c',e,z'⟩
    ·exact .inl q
    ·refine .inr ⟨k,c',e,z'.sameBut hs ?_⟩
     rintro rfl
     exact hj (nodup_ix hN e1 (I.ok.inj _ _ _ e hc▸hi))
  ·by_cases hcc:c'=c
   ·subst hcc;exact⟨_,hc'⟩
   ·obtain⟨w2,z2⟩:=I.cell y c' e
    exact⟨w2,z2.sameBut hs hcc⟩
  ·obtain⟨e,n,ne,nf,d⟩:=I.pin p hp
   refine⟨(hs.2 p.1 ?_).trans e,n,ne,nf,d⟩
   intro q
   rw[q,hoc]at e
   have q':oc=p.2:=Option.some.inj e
   exact d w' (by rw[<-q'];exact hocd)
theorem zdk{M:Model}{A:Around}{E:Value->Shared->Prop}{i:Nat}{x:Str}{v:V}{u:Value}{Q:Unit->Shared->Prop}(I:Inv X pins σ H s)(hN:X.N.Nodup)(hi:X.N[i]? =some x)(hx:Loc X.env.scope x)(r:RelV v u)(h:∀s',Inv X pins (σ.set i (some v)) H s'->Q () s')(hf:X.fn x=true\/X.env.scope.names.lookup x=some .local:=by first |exact .inl rfl|exact .inr rfl|assumption):wpAny M A (storeName X.env x u) Q E s:=
 store_ok2 I hN hi hx r (fun s' I' _=>h s' I') hf
theorem Inv.call'{s':Shared}{ch:List Addr}(I:Inv X pins σ H s)(ho:s'.os=s.os)(u:Un (frs X.stack) ch H H' s.heap s'.heap)(hok:HOk X.prog X.w H' s'.heap)(hg:AllBare s'.gens)(hch:∀b∈ch,(b∈X.ex\/X.s₀.heap.objs.size<=b)/\b≠X.env.locals/\(∀x c,X.env.cells.lookup x=some c->c≠b)/\∀p∈X.pn++pins,p.1≠b):Inv X pins σ H' s':=by
 obtain⟨h',g',d',t',o'⟩:=s'
 have e:o'=s.os:=ho
 subst e
 exact I.call (g':=g') (t':=t') (d':=d') u hok hg hch
end
noncomputable abbrev XK:=Value->Option Addr->Hp->Prop
noncomputable abbrev St:=List (Option V)
noncomputable abbrev VK:=V->Hp->Prop
noncomputable abbrev TE:=St->Hp->VK->Prop
noncomputable abbrev TT:=St->Hp->(Bool->Hp->Prop)->Prop
noncomputable abbrev TA:=St->Hp->(List V->Hp->Prop)->Prop
structure Ends where
 nx:St->Hp->Prop
 rt:VK
 bk:St->Hp->Prop:=fun _ _=>False
 ct:St->Hp->Prop:=fun _ _=>False
noncomputable abbrev TS:=Ends->St->Hp->Prop
noncomputable def EP(X:Cx)(pins:List (Addr×Obj))(σ:St)(Q:VK)(u:Value)(s':Shared):Prop:=∃v H',Inv X pins σ H' s'/\RelV v u/\Q v H'
noncomputable def TP(X:Cx)(pins:List (Addr×Obj))(σ:St)(Q:Bool->Hp->Prop)(b:Bool)(s':Shared):Prop:=∃H',Inv X pins σ H' s'/\Q b H'
noncomputable def AP(X:Cx)(pins:List (Addr×Obj))(σ:St)(Q:List V->Hp->Prop)(us:List Value)(s':Shared):Prop:=∃vs H',Inv X pins σ H' s'/\Vals vs us/\Q vs H'
noncomputable def SP(X:Cx)(pins:List (Addr×Obj))(D:Ends)(f:Flow)(s':Shared):Prop:=
 match f with
 | .next=>∃σ' H',Inv X pins σ' H' s'/\D.nx σ' H'
 | .brk=>∃σ' H',Inv X pins σ' H' s'/\D.bk σ' H'
 | .cont=>∃σ' H',Inv X pins σ' H' s'/\D.ct σ' H'
 | .ret u=>∃v σ' H',Inv X pins σ' H' s'/\RelV v u/\D.rt v H'
noncomputable def PE(X:Cx)(e:Expr)(t:TE):Prop:=
 ∀(pins:List (Addr×Obj)) (s:Shared) (σ:St) (H:Hp) (Q:VK),Inv X pins σ H s->t σ H Q->wpAny (model X.prog X.w) X.A (eval e X.env) (EP X pins σ Q) X.xe s
noncomputable def PT(X:Cx)(e:Expr)(t:TT):Prop:=
 ∀(pins:List (Addr×Obj)) (s:Shared) (σ:St) (H:Hp) (Q:Bool->Hp->Prop),Inv X pins σ H s->t σ H Q->wpAny (model X.prog X.w) X.A (isTrue e X.env (eval e X.env)) (TP X pins σ Q) X.xe s
noncomputable def PW(X:Cx)(e:Expr)(t:TT):Prop:=
 ∀(whole:Sem Value) (pins:List (Addr×Obj)) (s:Shared) (σ:St) (H:Hp) (Q:Bool->Hp->Prop),Inv X pins σ H s->t σ H Q->wpAny (model X.prog X.w) X.A (isTrue e X.env whole) (TP X pins σ Q) X.xe s
theorem PW.pt{X:Cx}{e:Expr}{t:TT}(h:PW X e t):PT X e t:=h _
noncomputable def PA(X:Cx)(es:List Expr)(t:TA):Prop:=
 ∀(pos:Pos) (pins:List (Addr×Obj)) (s:Shared) (σ:St) (H:Hp) (Q:List V->Hp->Prop),Inv X pins σ H s->t σ H Q->wpAny (model X.prog X.w) X.A (spliced (backTo pos (starEach es X.env))) (AP X pins σ Q) X.xe s
noncomputable def PS(X:Cx)(st:Stmt)(t:TS):Prop:=
 ∀(pins:List (Addr×Obj)) (s:Shared) (σ:St) (H:Hp) (D:Ends),Inv X pins σ H s->t D σ H->wpAny (model X.prog X.w) X.A (exec st X.env) (SP X pins D) X.xe s
noncomputable def PSs(X:Cx)(st:List Stmt)(t:TS):Prop:=
 ∀(pins:List (Addr×Obj)) (s:Shared) (σ:St) (H:Hp) (D:Ends),Inv X pins σ H s->t D σ H->wpAny (model X.prog X.w) X.A (execs st X.env) (SP X pins D) X.xe s
theorem thn{α:Type}{t:Sem α}{Q Q':α->Shared->Prop}{M:Model}{A:Around}{E:Value->Shared->Prop}{s:Shared}(h:wpAny M A t Q E s)(hQ:∀a s,Q a s->Q' a s):wpAny M A t Q' E s:=wpAny_mono h hQ fun _ _ x=>x
end L2
namespace L2
open PySem PySem.Spec PyProof.Rows
section
variable{X:Cx}
noncomputable def tVar(i:Nat):TE:=fun σ H Q=>∃v,σ[i]? =some (some v)/\Q v H
noncomputable def tC(v:V):TE:=fun _ H Q=>Q v H
theorem pe_var{i:Nat}{x:Str}{pos:Pos}(hN:X.N[i]? =some x)(hv:Vis X.env.scope x)(hd:(x==("__debug__":Str))=false:=by decide)(hcd:(x==("__classdict__":Str))=false:=by decide):PE X (.Name x pos) (tVar i):=by
 intro pins s σ H Q I h
 obtain⟨v,e,h⟩:=h
 obtain⟨m,hn,hl⟩:=I.loc
 obtain⟨u,r,l⟩:=hl i x v hN e hv
 have fin:EP X pins σ Q u s:=⟨v,H,I,r,h⟩
 rcases l with⟨hk,hm⟩|⟨hk,c,hc,hcell⟩
 ·exact wpAny_Name (wpAny_loadName_local I.ok.kind hk hn hm fin) hd
 ·rcases hk with hk|hk
  ·exact wpAny_Name (wpAny_loadName_cell I.ok.kind hk hc hcell fin) hd
  ·exact wpAny_Name (wpAny_loadName_free I.ok.kind hk hc hcell fin hcd) hd
theorem zag{i j pos}:PE X (.Constant (.int i) j pos) (tC (.int i)):=fun _ _ _ H _ I h=>wpAny_Constant_int ⟨.int i,H,I.tok _,⟨_,rfl⟩,h⟩
theorem pe_bl{b j pos}:PE X (.Constant (.bool b) j pos) (tC (.bl b)):=fun _ _ _ H _ I h=>Constant_bool ⟨.bl b,H,I,rfl,h⟩
theorem pe_non{j pos}:PE X (.Constant .none j pos) (tC .non):=fun _ _ _ H _ I h=>Constant_none ⟨.non,H,I,rfl,h⟩
theorem zcb{x j pos}:PE X (.Constant (.str x) j pos) (tC (.str x)):=fun _ _ _ H _ I h=>Calls.Constant_str ⟨.str x,H,I.tok _,⟨_,rfl⟩,h⟩
noncomputable def Gl(X:Cx)(x:Str):Prop:=X.env.kindOf x=some .globalImplicit
theorem ld_glob{E:Value->Shared->Prop}{pins:List (Addr×Obj)}{s:Shared}{σ:St}{H:Hp}{x:Str}{u:Value}{pos:Pos}{Q:Value->Shared->Prop}(I:Inv X pins σ H s)(hg:Gl X x)(hm:X.mg x=some u)(h:Q u s)(hd:(x==("__debug__":Str))=false:=by decide):wpAny (model X.prog X.w) X.A (eval (.Name x pos) X.env) Q E s:=
 Calls.Name_function_global I.ok.kind hg (Calls.loadGlobal_global (by rw[I.ok.glob];exact I.mod.glob.keeps I.bk) hm h) hd
theorem ld_blt{E:Value->Shared->Prop}{pins:List (Addr×Obj)}{s:Shared}{σ:St}{H:Hp}{x:Str}{u:Value}{pos:Pos}{Q:Value->Shared->Prop}(I:Inv X pins σ H s)(hg:Gl X x)(hm:X.mg x=none)(hv:bootBuiltins x=some u)(h:Q u s)(hn:x≠"__name__":=by decide)(hd:(x==("__debug__":Str))=false:=by decide):wpAny (model X.prog X.w) X.A (eval (.Name x pos) X.env) Q E s:=by
 obtain⟨mb,h1,h2⟩:=I.mod.blt
 exact Calls.Name_function_global I.ok.kind hg (Calls.loadGlobal_builtin (by rw[I.ok.glob];exact I.mod.glob.keeps I.bk) hm (by rw[I.ok.blt];exact h1.keeps I.bk) ((h2 x hn).trans hv) h) hd
theorem zbj{x:Str}{v:V}{u:Value}{pos:Pos}(hg:Gl X x)(hm:X.mg x=some u)(r:RelV v u)(hd:(x==("__debug__":Str))=false:=by decide):PE X (.Name x pos) (tC v):=
 fun _ _ _ H _ I h=>ld_glob I hg hm ⟨v,H,I,r,h⟩ hd
theorem zbk{x:Str}{v:V}{u:Value}{pos:Pos}(hg:Gl X x)(hm:X.mg x=none)(hv:bootBuiltins x=some u)(r:RelV v u)(hn:x≠"__name__":=by decide)(hd:(x==("__debug__":Str))=false:=by decide):PE X (.Name x pos) (tC v):=
 fun _ _ _ H _ I h=>ld_blt I hg hm hv ⟨v,H,I,r,h⟩ hn hd
variable{a b:Expr}{ta tb:TE}{pos:Pos}
noncomputable def tB(t:TE):TT:=fun σ H Q=>t σ H fun x H1=>∃c,x= .bl c/\Q c H1
theorem pt_val{e:Expr}{t:TE}(h:PE X e t)(he:∀whole,isTrue e X.env whole=(do let v<-whole;standAt e.pos;holding [v] (truthy v)):=by intro _;rfl):PT X e (tB t):=by
 intro pins s σ H Q I hw
 refine isTrue_plain (thn (h pins s σ H _ I hw) fun v s1 ⟨x,H1,I1,r1,q1⟩=> ?_) (he _)
 obtain⟨d,rfl,q⟩:=q1
 cases r1
 exact wpAny_truthy_bool ⟨H1,I1,q⟩
variable{tA tB':TT}{rest:List Expr}
noncomputable def tOr(t u:TT):TT:=fun σ H Q=>t σ H fun c H1=>if c=true then Q true H1 else u σ H1 Q
noncomputable def tNot(t:TT):TT:=fun σ H Q=>t σ H fun c H1=>Q (!c) H1
theorem pw_or1(ha:PT X a tA):PW X (.BoolOp .Or [a] pos) tA:=by
 intro wh pins s σ H Q I h
 refine isTrue_or (thn (ha pins s σ H Q I h) fun c s1 e=> ?_)
 cases c with
 |false=>exact isTrue_or_nil e
 |true=>exact e
theorem pw_or(ha:PT X a tA)(hb:PW X (.BoolOp .Or (b::rest) pos) tB'):PW X (.BoolOp .Or (a::b::rest) pos) (tOr tA tB'):=by
 intro wh pins s σ H Q I h
 refine isTrue_or (thn (ha pins s σ H _ I h) fun c s1 ⟨H1,I1,q1⟩=> ?_)
 cases c with
 |true=>exact⟨H1,I1,q1⟩
 |false=>exact hb wh pins s1 σ H1 Q I1 q1
theorem pt_not(ha:PT X a tA):PT X (.UnaryOp .Not a pos) (tNot tA):=by
 intro pins s σ H Q I h
 exact isTrue_not (ha pins s σ H (fun c H1=>Q (!c) H1) I h)
noncomputable def tAndV(ta tb:TE):TE:=fun σ H Q=>ta σ H fun x H1=>∃c,x= .bl c/\if c=true then tb σ H1 Q else Q (.bl false) H1
noncomputable def tNotV(ta:TE):TE:=fun σ H Q=>ta σ H fun x H1=>∃c,x= .bl c/\Q (.bl (!c)) H1
theorem pe_one{op}{t:TE}(h:PE X a t):PE X (.BoolOp op [a] pos) t:=fun pins s σ H Q I hw=>BoolOp_one (h pins s σ H Q I hw)
theorem zcy(ha:PE X a ta)(hb:PE X (.BoolOp .And (b::rest) pos) tb):PE X (.BoolOp .And (a::b::rest) pos) (tAndV ta tb):=by
 intro pins s σ H Q I h
 refine BoolOp_and (thn (ha pins s σ H _ I h) fun v s1 ⟨x,H1,I1,r1,q1⟩=> ?_)
 obtain⟨c,rfl,q1⟩:=q1
 cases r1
 refine wpAny_truthy_bool ?_
 cases c with
 |true=>exact hb pins s1 σ H1 Q I1 q1
 |false=>exact⟨.bl false,H1,I1,rfl,q1⟩
theorem pe_not(ha:PE X a ta):PE X (.UnaryOp .Not a pos) (tNotV ta):=by
 intro pins s σ H Q I h
 refine UnaryOp_ (thn (ha pins s σ H _ I h) fun v s1 ⟨x,H1,I1,r1,q1⟩=> ?_)
 obtain⟨c,rfl,q1⟩:=q1
 cases r1
 exact not_of (wpAny_truthy_bool ⟨.bl (!c),H1,I1,rfl,q1⟩)
end
end L2
namespace L2
open PySem PySem.Spec PyProof.Rows
noncomputable def SqL(K:W.Frag)(H:Hp)(a:Addr)(xs:List V):Prop:=
 Rd H a (.lst xs)\/
  ∃(o:Obj) (its:Array Value) (n:Nat),K.lookup a=some o/\o.cls= .type "list"/\o.dict=none/\o.data= .seq its n/\its.size<=sizeLine/\Vals xs its.toList
noncomputable def SqT(K:W.Frag)(H:Hp)(a:Addr)(xs:List V):Prop:=
 Rd H a (.tup xs)\/
  ∃(o:Obj) (its:Array Value) (n:Nat),K.lookup a=some o/\o.cls= .type "tuple"/\o.data= .seq its n/\its.size<=sizeLine/\Vals xs its.toList
noncomputable def absV:Value->Option V
 | .none=>some .non
 | .bool b=>some (.bl b)
 | .int i _=>some (.int i)
 | .str x _=>some (.str x)
 | .bytes b _=>some (.byt b)
 | .float b _=>some (.flt b)
 | .ref a=>some (.ref a)
 | .type n=>some (.ty n)
 |_=>none
theorem RelV.abs{x:V}{u:Value}(r:RelV x u):absV u=some x:=by
 cases x with
 |non=>cases r;rfl
 |bl _=>cases r;rfl
 |int _=>obtain⟨t,rfl⟩:=r;rfl
 |str _=>obtain⟨t,rfl⟩:=r;rfl
 |byt _=>obtain⟨t,rfl⟩:=r;rfl
 |flt _=>obtain⟨t,rfl⟩:=r;rfl
 |ref _=>cases r;rfl
 |ty _=>cases r;rfl
theorem RelV.inj{x y:V}{u:Value}(r:RelV x u)(q:RelV y u):x=y:=Option.some.inj (r.abs.symm.trans q.abs)
theorem Vals.inj{xs ys:List V}{us:List Value}(h:Vals xs us)(h':Vals ys us):xs=ys:=by
 induction h generalizing ys with
 |nil=>cases h';rfl
 |cons r _ ih=>cases h' with |cons r' t'=>rw[r.inj r',ih t']
section
variable{X:Cx}{pins:List (Addr×Obj)}{σ:St}{H:Hp}{s:Shared}{a:Addr}{xs ys:List V}
theorem SqL.of{K:W.Frag}(h:H a=some (.lst xs)):SqL K H a xs:= .inl (.inl h)
theorem SqT.of{K:W.Frag}(h:H a=some (.tup xs)):SqT K H a xs:= .inl (.inl h)
theorem Inv.list(I:Inv X pins σ H s)(h:SqL X.K H a xs):∃its:List Value,Vals xs its/\PlainL s.heap a its.toArray/\xs.length<=sizeLine:=by
 rcases h with h|⟨o,its,n,hk,hc,hd,hs,hz,r⟩
 ·obtain⟨z,its,n,r,e⟩:=h.ok I.hok
  exact⟨its,r,⟨_,n,e,rfl,rfl,rfl⟩,z⟩
 ·refine⟨its.toList,r,⟨o,n,I.kIn a o hk,hc,hd,by simpa using hs⟩,?_⟩
  have e:=r.length
  simp only[Array.length_toList]at e
  omega
theorem Inv.tuple(I:Inv X pins σ H s)(h:SqT X.K H a xs):∃its:List Value,Vals xs its/\IsTup s.heap a its.toArray/\xs.length<=sizeLine:=by
 rcases h with h|⟨o,its,n,hk,hc,hs,hz,r⟩
 ·obtain⟨z,its,r,p⟩:=h.ok I.hok
  exact⟨its,r,p,z⟩
 ·refine⟨its.toList,r,⟨o,I.kIn a o hk,hc,n,by simpa using hs⟩,?_⟩
  have e:=r.length
  simp only[Array.length_toList]at e
  omega
theorem Inv.list_inj(I:Inv X pins σ H s)(h:SqL X.K H a xs)(h':SqL X.K H a ys):xs=ys:=by
 obtain⟨its,r,⟨o,n,e,_,_,d⟩,_⟩:=I.list h
 obtain⟨its',r',⟨o',n',e',_,_,d'⟩,_⟩:=I.list h'
 rw[e]at e';cases e'
 rw[d]at d'
 injection d' with d1 _
 have:its=its':=by simpa using congrArg Array.toList d1
 subst this
 exact r.inj r'
theorem Inv.tuple_inj(I:Inv X pins σ H s)(h:SqT X.K H a xs)(h':SqT X.K H a ys):xs=ys:=by
 obtain⟨its,r,⟨o,e,_,n,d⟩,_⟩:=I.tuple h
 obtain⟨its',r',⟨o',e',_,n',d'⟩,_⟩:=I.tuple h'
 rw[e]at e';cases e'
 rw[d]at d'
 injection d' with d1 _
 have:its=its':=by simpa using congrArg Array.toList d1
 subst this
 exact r.inj r'
end
noncomputable abbrev Cx.wish(X:Cx)(E:Value->Shared->Prop):Cx:={X with xe:=E}
noncomputable abbrev Cx.nox(X:Cx):Cx:=X.wish fun _ _=>False
theorem Cx.Ok.wish{X:Cx}(ok:X.Ok)(E:Value->Shared->Prop):(X.wish E).Ok:=
 ⟨ok.mod,ok.kind,ok.glob,ok.blt,ok.above,ok.inj,ok.has,ok.cab,ok.hd,ok.frames,ok.stk,ok.exf,ok.bs,ok.bsz,ok.noex,ok.exfs,ok.funs,ok.frf⟩
theorem Cx.Ok.unwish{X:Cx}{E:Value->Shared->Prop}(ok:(X.wish E).Ok):X.Ok:=
 ⟨ok.mod,ok.kind,ok.glob,ok.blt,ok.above,ok.inj,ok.has,ok.cab,ok.hd,ok.frames,ok.stk,ok.exf,ok.bs,ok.bsz,ok.noex,ok.exfs,ok.funs,ok.frf⟩
section
variable{X:Cx}{pins:List (Addr×Obj)}{σ:St}{H:Hp}{s:Shared}{E:Value->Shared->Prop}
theorem Inv.wish(I:Inv X pins σ H s)(E:Value->Shared->Prop):Inv (X.wish E) pins σ H s:=⟨I.ok.wish E,I.os,I.bare,I.base,I.loc,I.cell,I.free,I.freeC,I.pin,I.hok,I.len⟩
theorem Inv.unwish(I:Inv (X.wish E) pins σ H s):Inv X pins σ H s:=⟨I.ok.unwish,I.os,I.bare,I.base,I.loc,I.cell,I.free,I.freeC,I.pin,I.hok,I.len⟩
theorem SP.unwish{D:Ends}{f:Flow}{s':Shared}(h:SP (X.wish E) pins D f s'):SP X pins D f s':=by
 cases f with
 |next=>obtain⟨σ',H',I,q⟩:=h;exact⟨σ',H',I.unwish,q⟩
 |brk=>obtain⟨σ',H',I,q⟩:=h;exact⟨σ',H',I.unwish,q⟩
 |cont=>obtain⟨σ',H',I,q⟩:=h;exact⟨σ',H',I.unwish,q⟩
 |ret u=>obtain⟨v,σ',H',I,r,q⟩:=h;exact⟨v,σ',H',I.unwish,r,q⟩
theorem PE.nox{e:Expr}{t:TE}(h:PE X.nox e t):PE X e t:=fun pins s σ H Q I hw=>
 wpAny_mono (h pins s σ H Q (I.wish _) hw) (fun _ _ ⟨v,H',I',r,q⟩=>⟨v,H',I'.unwish,r,q⟩) fun _ _ z=>False.elim z
theorem PT.nox{e:Expr}{t:TT}(h:PT X.nox e t):PT X e t:=fun pins s σ H Q I hw=>
 wpAny_mono (h pins s σ H Q (I.wish _) hw) (fun _ _ ⟨H',I',q⟩=>⟨H',I'.unwish,q⟩) fun _ _ z=>False.elim z
theorem PSs.nox{st:List Stmt}{t:TS}(h:PSs X.nox st t):PSs X st t:=fun pins s σ H D I hw=>
 wpAny_mono (h pins s σ H D (I.wish _) hw) (fun _ _ q=>q.unwish) fun _ _ z=>False.elim z
end
section
variable{X:Cx}{st:Stmt}{rest:List Stmt}{t u:TS}{e:Expr}{te:TE}{pos:Pos}
noncomputable def tNext:TS:=fun D σ H=>D.nx σ H
noncomputable def tSeq(t u:TS):TS:=fun D σ H=>t {D with nx:=u D} σ H
theorem zbi:PSs X [] tNext:=fun _ _ σ H _ I h=>wpAny_execs_nil ⟨σ,H,I,h⟩
theorem zae(h1:PS X st t)(h2:PSs X rest u):PSs X (st::rest) (tSeq t u):=by
 intro pins s σ H D I h
 refine wpAny_execs_cons (thn (h1 pins s σ H {D with nx:=u D} I h) fun f s1 q=> ?_)
 cases f with
 |next=>
  obtain⟨σ',H',I',q⟩:=q
  exact h2 pins s1 σ' H' D I' q
 |ret v=>exact q
 |brk=>exact q
 |cont=>exact q
theorem zah(h1:PS X st t):PSs X [st] t:=by
 intro pins s σ H D I h
 refine wpAny_execs_cons (thn (h1 pins s σ H D I h) fun f s1 q=> ?_)
 cases f with
 |next=>exact wpAny_execs_nil q
 |ret v=>exact q
 |brk=>exact q
 |cont=>exact q
theorem Inv.quiet{pins:List (Addr×Obj)}{σ:St}{H:Hp}{s:Shared}(I:Inv X pins σ H s):interactive X.env=false:=by simp[interactive,I.ok.kind]
noncomputable def tDrop(te:TE):TS:=fun D σ H=>te σ H fun _ H1=>D.nx σ H1
theorem zcg(he:PE X e te)(hs:swapsWith e none pos.line X.env=pure false:=by rfl):PS X (.Expr e pos) (tDrop te):=by
 intro pins s σ H D I h
 exact wpAny_Expr_any (thn (he pins s σ H _ I h) fun v s1 ⟨x,H1,I1,r1,q1⟩=>⟨σ,H1,I1,q1⟩) I.quiet hs
noncomputable def tRet(te:TE):TS:=fun D σ H=>te σ H D.rt
theorem zbb(he:PE X e te):PS X (.Return (some e) pos) (tRet te):=by
 intro pins s σ H D I h
 exact wpAny_Return_some (thn (he pins s σ H _ I h) fun v s1 ⟨x,H1,I1,r1,q1⟩=>⟨x,σ,H1,I1,r1,q1⟩)
noncomputable def tIfS(c:TT)(t u:TS):TS:=fun D σ H=>c σ H fun b H1=>if b=true then t D σ H1 else u D σ H1
theorem zcp{c:Expr}{a b:List Stmt}{tc:TT}(hc:PT X c tc)(ha:PSs X a t)(hb:PSs X b u):PS X (.If c a b pos) (tIfS tc t u):=by
 intro pins s σ H D I h
 refine wpAny_If (thn (hc pins s σ H _ I h) fun d s1 ⟨H1,I1,q1⟩=> ?_)
 cases d with
 |true=>exact ha pins s1 σ H1 D I1 q1
 |false=>exact hb pins s1 σ H1 D I1 q1
noncomputable def tNever:TS:=fun _ _ _=>False
theorem ps_never:PS X st tNever:=fun _ _ _ _ _ _ h=>h.elim
theorem pss_never{sts:List Stmt}:PSs X sts tNever:=fun _ _ _ _ _ _ h=>h.elim
end
noncomputable abbrev TG:=V->St->Hp->(St->Hp->Prop)->Prop
noncomputable abbrev TGs:=List V->St->Hp->(St->Hp->Prop)->Prop
noncomputable def PG(X:Cx)(target:Expr)(t:TG):Prop:=
 ∀(pins:List (Addr×Obj)) (s:Shared) (σ:St) (H:Hp) (v:V) (u:Value) (Q:St->Hp->Prop),Inv X pins σ H s->RelV v u->t v σ H Q->
  wpAny (model X.prog X.w) X.A (assign target X.env u) (fun _ s'=>∃σ' H',Inv X pins σ' H' s'/\Q σ' H') X.xe s
noncomputable def PGs(X:Cx)(ts:List Expr)(t:TGs):Prop:=
 ∀(pins:List (Addr×Obj)) (s:Shared) (σ:St) (H:Hp) (vs:List V) (us:List Value) (Q:St->Hp->Prop),Inv X pins σ H s->Vals vs us->t vs σ H Q->
  wpAny (model X.prog X.w) X.A (assignInOrder ((assignEach ts X.env).map (·.2)) us) (fun _ s'=>∃σ' H',Inv X pins σ' H' s'/\Q σ' H') X.xe s
noncomputable abbrev TSet:=V->V->V->Hp->(Hp->Prop)->Prop
noncomputable def PSet(X:Cx)(t:TSet):Prop:=
 ∀(pins:List (Addr×Obj)) (s:Shared) (σ:St) (H:Hp) (o i v:V) (ov iv u:Value) (Q:Hp->Prop),Inv X pins σ H s->RelV o ov->RelV i iv->RelV v u->t o i v H Q->
  wpAny (model X.prog X.w) X.A (setItem ov iv u) (fun _ s'=>∃H',Inv X pins σ H' s'/\Q H') X.xe s
section
variable{X:Cx}{pos:Pos}
noncomputable def gName(i:Nat):TG:=fun v σ H Q=>Q (σ.set i (some v)) H
theorem zay{i:Nat}{x:Str}(hN:X.N.Nodup)(hi:X.N[i]? =some x)(hx:Loc X.env.scope x)(hf:X.fn x=true\/X.env.scope.names.lookup x=some .local:=by first |exact .inl rfl|exact .inr rfl|assumption):PG X (.Name x pos) (gName i):=by
 intro pins s σ H v u Q I r h
 exact wpAny_assign_Name (zdk I hN hi hx r (fun s' I'=>⟨_,H,I',h⟩) hf)
noncomputable def gNil:TGs:=fun vs σ H Q=>vs=[]/\Q σ H
noncomputable def gCons(t:TG)(u:TGs):TGs:=fun vs σ H Q=>∃v r,vs=v::r/\t v σ H fun σ' H'=>u r σ' H' Q
theorem pgs_nil:PGs X [] gNil:=by
 intro pins s σ H vs us Q I r h
 obtain⟨e,h⟩:=h
 subst e
 cases r
 exact assignInOrder_nil ⟨σ,H,I,h⟩
theorem pgs_cons{e:Expr}{es:List Expr}{t:TG}{u:TGs}(h1:PG X e t)(h2:PGs X es u)(hs:(assignEach (e::es) X.env).map (·.2)=assign e X.env::(assignEach es X.env).map (·.2):=by rfl):PGs X (e::es) (gCons t u):=by
 intro pins s σ H vs us Q I r h
 obtain⟨v,vr,e1,h⟩:=h
 subst e1
 cases r with
 |cons r rr=>
  rw[hs]
  refine assignInOrder_cons (thn (h1 pins s σ H _ _ _ I r h) fun _ s1 ⟨σ1,H1,I1,q1⟩=> ?_)
  exact h2 pins s1 σ1 H1 _ _ Q I1 rr q1
noncomputable def gTup(K:W.Frag)(n:Nat)(t:TGs):TG:=fun v σ H Q=>∃a xs,v= .ref a/\SqT K H a xs/\xs.length=n/\t xs σ H Q
theorem pg_tup{es:List Expr}{k:Nat}{t:TGs}{n:Nat}(hc:X.calm=true)(h:PGs X es t)(hn:(assignEach es X.env).length=n:=by rfl)(hst:(assignEach es X.env).findIdx? (·.1)=none:=by rfl):PG X (.Tuple es k pos) (gTup X.K n t):=by
 intro pins s σ H v u Q I r hw
 obtain⟨a,xs,e1,hq,hl,hw⟩:=hw
 subst e1
 cases r
 obtain⟨its,rv,ht,hz⟩:=I.tuple hq
 refine assign_Tuple_tuple (I.ok.hd hc) ht (by simp[hn,<-hl,rv.length]) hst fun h' hx=> ?_
 have I1:Inv X pins σ H {s with heap:=h'}:=I.kept (t':=s.toks) fun b o e=>hx b o (Nat.ne_of_lt (Heap.lt_size e)) e
 exact h pins _ σ H xs _ Q I1 (by simpa using rv) hw
noncomputable def gSub(to ti:TE)(t:TSet):TG:=fun v σ H Q=>to σ H fun o H1=>ti σ H1 fun i H2=>t o i v H2 fun H3=>Q σ H3
theorem pg_sub{o i:Expr}{to ti:TE}{t:TSet}(ho:PE X o to)(hi:PE X i ti)(hs:PSet X t)(ha:∀v,assign (.Subscript o i pos) X.env v=(do
   let ov<-holding [v] (eval o X.env)
   let iv<-holding [v,ov] (eval i X.env)
   standAt pos
   holding [v,ov,iv] (setItem ov iv v)
   release [v,ov,iv] []):=by intro _;rfl):PG X (.Subscript o i pos) (gSub to ti t):=by
 intro pins s σ H v u Q I r h
 rw[ha]
 refine wpAny_bind (wpAny_holding (thn (ho pins s σ H _ I h) fun ov s1 ⟨x,H1,I1,r1,q1⟩=> ?_))
 refine wpAny_bind (wpAny_holding (thn (hi pins s1 σ H1 _ I1 q1) fun iv s2 ⟨y,H2,I2,r2,q2⟩=> ?_))
 refine wpAny_bind (wpAny_standAt (wpAny_bind (wpAny_holding (thn (hs pins s2 σ H2 x y v ov iv u _ I2 r1 r2 r q2) fun _ s3 ⟨H3,I3,q3⟩=> ?_))))
 exact wpAny_release ⟨σ,H3,I3,q3⟩
noncomputable def tAsg(te:TE)(g:TG):TS:=fun D σ H=>te σ H fun x H1=>g x σ H1 D.nx
theorem ps_asg{tg e:Expr}{te:TE}{g:TG}(he:PE X e te)(hg:PG X tg g)(hs:swapsWithSole [tg] e pos.line X.env=pure false:=by rfl)(hw:swappedStores [tg] e X.env=pure none:=by rfl)(h1:(assignEach [tg] X.env).map (·.2)=[assign tg X.env]:=by rfl):PS X (.Assign [tg] e pos) (tAsg te g):=by
 intro pins s σ H D I h
 refine wpAny_Assign_stores (thn (he pins s σ H _ I h) fun v s1 ⟨x,H1,I1,r1,q1⟩=> ?_) hs hw
 rw[h1]
 exact thn (hg pins s1 σ H1 x v _ I1 r1 q1) fun _ s2 q=>q
theorem zar{i:Nat}{x:Str}{e:Expr}{te:TE}{pos':Pos}(hN:X.N.Nodup)(hi:X.N[i]? =some x)(hx:Loc X.env.scope x)(he:PE X e te)(hs:swapsWith e (some (.Name x pos')) pos.line X.env=pure false:=by rfl)(hf:X.fn x=true\/X.env.scope.names.lookup x=some .local:=by first |exact .inl rfl|exact .inr rfl|assumption):
  PS X (.Assign [.Name x pos'] e pos) (tAsg te (gName i)):=by
 intro pins s σ H D I h
 refine wpAny_Assign_Name (thn (he pins s σ H _ I h) fun v s1 ⟨y,H1,I1,r1,q1⟩=> ?_) hs
 exact zdk I1 hN hi hx r1 (fun s2 I2=>⟨_,H1,I2,q1⟩) hf
end
section
variable{X:Cx}{pos:Pos}
end
structure It where
 go:Nat->Hp->Prop
 yld:Nat->Hp->V->Hp->Prop
 stop:Nat->Hp->Prop
noncomputable def FpOk(X:Cx)(pins:List (Addr×Obj))(H:Hp)(b:Addr):Prop:=
 H b=none/\b≠X.env.locals/\b∉X.fs/\(b∈X.ex\/X.s₀.heap.objs.size<=b)/\(∀x c,X.env.cells.lookup x=some c->c≠b)/\∀p∈X.pn++pins,p.1≠b
theorem Inv.fpOk{X:Cx}{pins:List (Addr×Obj)}{σ:St}{H H':Hp}{s:Shared}{b:Addr}(I:Inv X pins σ H s)(hb:s.heap.objs.size<=b)(hn:H' b=none):FpOk X pins H' b:=by
 refine⟨hn,Nat.ne_of_gt (Nat.lt_of_lt_of_le I.lt hb),I.nofs hb,.inr (Nat.le_trans I.sz hb),fun x c e z=> ?_,fun p hp z=> ?_⟩
 ·obtain⟨v,q⟩:=I.cell x c e
  exact absurd (Nat.lt_of_lt_of_le q.lt (by rw[z];exact hb)) (Nat.lt_irrefl _)
 ·exact absurd (Nat.lt_of_lt_of_le (Heap.lt_size (I.pin p hp).1) (by rw[z];exact hb)) (Nat.lt_irrefl _)
structure Turn(P:Program)(w:World)(K:W.Frag)(tg:Expr)(J:It)(fp:List Addr)(it:Addr)(tn:Nat->Heap->Prop):Prop where
 mem:it∈fp
 obj:∀i h,tn i h->∀b∈fp,∃o,h.get? b=some o/\∀v,o.data≠.cell v
 keep:∀i h h',tn i h->(∀b∈fp,∀o,h.get? b=some o->h'.get? b=some o)->tn i h'
 item:∀(X:Cx),X.prog=P->X.w=w->X.K=K->X.calm=true->∀(i:Nat) (pins:List (Addr×Obj)) (s:Shared) (σ:St) (H:Hp) (E:Value->Shared->Prop),Inv X pins σ H s->(∀b∈fp,FpOk X pins H b)->tn i s.heap->J.go i H->
  wpAny (model P w) X.A (pyNext (.ref it)) (fun r s1=>∃u,r=some u/\
   wpAny (model P w) X.A (letOwnedTupleGo tg (.ref it) u) (fun _ s2=>∃x H',Inv X pins σ H' s2/\RelV x u/\J.yld i H x H'/\tn (i+1) s2.heap/\∀b∈fp,H' b=none) E s1) E s
 done:∀(X:Cx),X.prog=P->X.w=w->X.K=K->X.calm=true->∀(i:Nat) (pins:List (Addr×Obj)) (s:Shared) (σ:St) (H:Hp) (E:Value->Shared->Prop),Inv X pins σ H s->(∀b∈fp,FpOk X pins H b)->tn i s.heap->J.stop i H->
  wpAny (model P w) X.A (pyNext (.ref it)) (fun r s1=>r=none/\Inv X pins σ H s1) E s
 self:∀(A:Around) (i:Nat) (s:Shared) (Q:Value->Shared->Prop) (E:Value->Shared->Prop),tn i s.heap->Q (.ref it) s->wpAny (model P w) A (pyIter (.ref it)) Q E s
noncomputable abbrev TI:=St->Hp->(It->Hp->Prop)->Prop
noncomputable def PIE(X:Cx)(pins:List (Addr×Obj))(σ:St)(tg:Expr)(R:It->Hp->Prop)(itv:Value)(s2:Shared):Prop:=
 ∃(it:Addr) (fp:List Addr) (tn:Nat->Heap->Prop) (J:It) (H':Hp),itv= .ref it/\Inv X pins σ H' s2/\Turn X.prog X.w X.K tg J fp it tn/\tn 0 s2.heap/\(∀b∈fp,FpOk X pins H' b)/\R J H'
noncomputable def PI(X:Cx)(tg iter:Expr)(wi:TI):Prop:=
 ∀(pins:List (Addr×Obj)) (s:Shared) (σ:St) (H:Hp) (R:It->Hp->Prop),Inv X pins σ H s->wi σ H R->
  wpAny (model X.prog X.w) X.A (eval iter X.env) (fun v s1=>wpAny (model X.prog X.w) X.A (pyIter v) (PIE X pins σ tg R) X.xe s1) X.xe s
theorem go_of{M:Model}{A:Around}{E:Value->Shared->Prop}{s:Shared}{tg:Expr}{it:Addr}{u:Value}{o:Obj}{n:String}{vs:Array Value}{Q:Unit->Shared->Prop}(ho:s.heap.get? it=some o)(hc:o.cls= .type n)(hd:o.data= .fields vs)(hn:["enumerate","zip","dict_itemiterator","dict_reverseitemiterator","odict_iterator","itertools.zip_longest","itertools.pairwise"].contains n=false)(hQ:Q () s):wpAny M A (letOwnedTupleGo tg (.ref it) u) Q E s:=by
 unfold letOwnedTupleGo
 cases tg<;>first
  |exact wpAny_pure hQ
  |(cases u<;>first
    |exact wpAny_pure hQ
    |(refine wpAny_bind (wpAny_load ho ?_)
      rw[hc,hd]
      show wpAny M A (if(["enumerate","zip","dict_itemiterator","dict_reverseitemiterator","odict_iterator","itertools.zip_longest","itertools.pairwise"].contains n&&vs[0]? ==some (rawInt _))=true then _ else _) Q E s
      rw[if_neg (by intro h;rw[hn,Bool.false_and]at h;cases h)]
      exact wpAny_pure hQ))
noncomputable def Itl(K:W.Frag)(a:Addr):It:=
 ⟨fun i H=>∃xs x,SqL K H a xs/\xs[i]? =some x,fun i H x H'=>H'=H/\∀xs,SqL K H a xs->xs[i]? =some x,fun i H=>∃xs,SqL K H a xs/\xs.length<=i⟩
noncomputable def Itt(K:W.Frag)(a:Addr):It:=
 ⟨fun i H=>∃xs x,SqT K H a xs/\xs[i]? =some x,fun i H x H'=>H'=H/\∀xs,SqT K H a xs->xs[i]? =some x,fun i H=>∃xs,SqT K H a xs/\xs.length<=i⟩
noncomputable def Itr(lo:Int)(n:Nat):It:=⟨fun i _=>i<n,fun i H x H'=>H'=H/\x= .int (lo+i),fun i _=>n<=i⟩
theorem turn_list{P:Program}{w:World}{K:W.Frag}{tg:Expr}(a it:Addr):Turn P w K tg (Itl K a) [it] it (fun i h=>h.IsListIter it a i) where
 mem:=by simp
 obj:=fun i h st b hb=>by
  have e:b=it:=by simpa using hb
  subst e
  obtain⟨o,e,c,d⟩:=st
  exact⟨o,e,fun v z=>by rw[d]at z;cases z⟩
 keep:=fun i h h' st k=>st.at fun o e=>k it (by simp) o e
 item:=by
  intro X hP hw hK hc i pins s σ H E I hf st hg
  subst hP hw hK
  obtain⟨xs,x,hq,hx⟩:=hg
  obtain⟨its,rv,p,hz⟩:=I.list hq
  obtain⟨u,hu,ru⟩:=rv.get hx
  obtain⟨f0,f1,f2,f3,f4,f5⟩:=hf it (by simp)
  refine wpAny_pyNext_list_item st p.isList (x:=u) (by simpa using hu) fun h' st' sb=> ?_
  have I1:Inv X pins σ H {s with heap:=h'}:=I.turned (t':=s.toks) (fun b o hb e=>(sb.2 b hb).trans e) f0 f1 f3 f4 f5
  obtain⟨o,e,c,d⟩:=id st'
  exact⟨u,rfl,go_of (s:={s with heap:=h'}) e c d (by decide) ⟨x,H,I1,ru,⟨rfl,fun ys hy=>by rw[I.list_inj hy hq];exact hx⟩,st',fun b hb=>(hf b hb).1⟩⟩
 done:=by
  intro X hP hw hK hc i pins s σ H E I hf st hg
  subst hP hw hK
  obtain⟨xs,hq,hx⟩:=hg
  obtain⟨its,rv,p,hz⟩:=I.list hq
  obtain⟨f0,f1,f2,f3,f4,f5⟩:=hf it (by simp)
  have hl:=rv.length
  exact wpAny_pyNext_list_end (I.ok.hd hc) st p.isList (by simp;omega) fun h' eb=>⟨rfl,I.turned (t':=s.toks) (fun b o hb e=>eb b o hb e) f0 f1 f3 f4 f5⟩
 self:=fun _ _ _ _ _ st h=>wpAny_pyIter_listiter st h
theorem turn_tuple{P:Program}{w:World}{K:W.Frag}{tg:Expr}(a it:Addr):Turn P w K tg (Itt K a) [it] it (fun i h=>h.IsTupleIter it a i) where
 mem:=by simp
 obj:=fun i h st b hb=>by
  have e:b=it:=by simpa using hb
  subst e
  obtain⟨o,e,c,d⟩:=st
  exact⟨o,e,fun v z=>by rw[d]at z;cases z⟩
 keep:=fun i h h' st k=>st.at fun o e=>k it (by simp) o e
 item:=by
  intro X hP hw hK hc i pins s σ H E I hf st hg
  subst hP hw hK
  obtain⟨xs,x,hq,hx⟩:=hg
  obtain⟨its,rv,p,hz⟩:=I.tuple hq
  obtain⟨u,hu,ru⟩:=rv.get hx
  obtain⟨f0,f1,f2,f3,f4,f5⟩:=hf it (by simp)
  refine wpAny_pyNext_tuple_item st (show s.heap.IsTuple a its.toArray from p) (x:=u) (by simpa using hu) fun h' st' sb=> ?_
  have I1:Inv X pins σ H {s with heap:=h'}:=I.turned (t':=s.toks) (fun b o hb e=>(sb.2 b hb).trans e) f0 f1 f3 f4 f5
  obtain⟨o,e,c,d⟩:=id st'
  exact⟨u,rfl,go_of (s:={s with heap:=h'}) e c d (by decide) ⟨x,H,I1,ru,⟨rfl,fun ys hy=>by rw[I.tuple_inj hy hq];exact hx⟩,st',fun b hb=>(hf b hb).1⟩⟩
 done:=by
  intro X hP hw hK hc i pins s σ H E I hf st hg
  subst hP hw hK
  obtain⟨xs,hq,hx⟩:=hg
  obtain⟨its,rv,p,hz⟩:=I.tuple hq
  obtain⟨f0,f1,f2,f3,f4,f5⟩:=hf it (by simp)
  have hl:=rv.length
  exact wpAny_pyNext_tuple_end (I.ok.hd hc) st (show s.heap.IsTuple a its.toArray from p) (by simp;omega) fun h' eb=>⟨rfl,I.turned (t':=s.toks) (fun b o hb e=>eb b o hb e) f0 f1 f3 f4 f5⟩
 self:=fun _ _ _ _ _ st h=>wpAny_pyIter_tupleiter st h
theorem turn_range{P:Program}{w:World}{K:W.Frag}{tg:Expr}(it:Addr)(lo:Int)(n:Nat):Turn P w K tg (Itr lo n) [it] it (fun i h=>IsRangeIter h it (lo+(i:Nat)*1) ((n:Int)-(i:Nat)) 1) where
 mem:=by simp
 obj:=fun i h st b hb=>by
  have e:b=it:=by simpa using hb
  subst e
  exact⟨_,st,fun v z=>by
   have z':Data.fields _=Data.cell v:=z
   cases z'⟩
 keep:=fun i h h' st k=>k it (by simp) _ st
 item:=by
  intro X hP hw hK hc i pins s σ H E I hf st hg
  subst hP hw hK
  obtain⟨f0,f1,f2,f3,f4,f5⟩:=hf it (by simp)
  have W:=Walks.range (prog:=X.prog) (w:=X.w) (I.ok.hd hc) it lo 1 n
  refine W.item i s _ _ hg st fun v h' tk hv st' kk=> ?_
  obtain⟨t,rfl⟩:=hv
  have I1:Inv X pins σ H {s with heap:=h',toks:=tk}:=I.turned (fun b o hb e=>kk b o (by simpa using hb) e) f0 f1 f3 f4 f5
  refine⟨_,rfl,go_of (s:={s with heap:=h',toks:=tk}) (n:="range_iterator") st' rfl rfl (by decide) ⟨.int (lo+i),H,I1,⟨t,?_⟩,⟨rfl,rfl⟩,st',fun b hb=>(hf b hb).1⟩⟩
  rw[Int.mul_one]
 done:=by
  intro X hP hw hK hc i pins s σ H E I hf st hg
  subst hP hw hK
  obtain⟨f0,f1,f2,f3,f4,f5⟩:=hf it (by simp)
  exact wpAny_pyNext_range_end (I.ok.hd hc) st (by have:n<=i:=hg;omega) fun h' eb=>⟨rfl,I.turned (t':=s.toks) (fun b o hb e=>eb b o hb e) f0 f1 f3 f4 f5⟩
 self:=fun _ _ _ _ _ st h=>wpAny_pyIter_rangeiter st h
end L2
namespace L2
open PySem PySem.Spec PyProof.Rows
section
variable{X:Cx}{tg:Expr}
theorem range_it{pins:List (Addr×Obj)}{σ:St}{H:Hp}{s:Shared}{R:It->Hp->Prop}{E:Value->Shared->Prop}{lo hi:Int}{t u v:Tok}{tk:Nat}(I:Inv X pins σ H s)(h1: -(2^62)<=lo)(h2:lo<2^62)(h3: -(2^62)<=hi)(h4:hi<2^62)(q:R (Itr lo (hi-lo).toNat) H):wpAny (model X.prog X.w) X.A (pyIter (.ref s.heap.objs.size)) (PIE X pins σ tg R) E {s with heap:=s.heap.push {cls:= .type "range",data:= .fields #[.int lo t,.int hi u,.int 1 v]},toks:=tk}:=by
 refine wpAny_pyIter_range (IsRange.new ..) (small_one h1 h2 h3 h4) ?_
 have I1:Inv X pins σ H {s with heap:=s.heap.push {cls:= .type "range",data:= .fields #[.int lo t,.int hi u,.int 1 v]},toks:=tk}:=I.kept fun b o e=>Heap.get?_push_of_some _ e
 refine⟨(s.heap.push {cls:= .type "range",data:= .fields #[.int lo t,.int hi u,.int 1 v]}).objs.size,[(s.heap.push {cls:= .type "range",data:= .fields #[.int lo t,.int hi u,.int 1 v]}).objs.size],_,_,H,rfl,
  I1.kept (t':=tk) fun b o e=>Heap.get?_push_of_some _ e,turn_range _ lo (hi-lo).toNat,?_,fun b hb=> ?_,q⟩
 ·have e1:lo+((0:Nat):Int)*1=lo:=by simp
  have e2:(((hi-lo).toNat:Nat):Int)-((0:Nat):Int)=Builtin.Range.rangeSize lo hi 1:=by rw[rangeSize_one];split<;>omega
  show IsRangeIter _ _ (lo+((0:Nat):Int)*1) ((((hi-lo).toNat:Nat):Int)-((0:Nat):Int)) 1
  rw[e1,e2]
  exact Heap.get?_push_size _ rfl
 ·have e:b=(s.heap.push {cls:= .type "range",data:= .fields #[.int lo t,.int hi u,.int 1 v]}).objs.size:=by simpa using hb
  subst e
  exact I1.fpOk (Nat.le_refl _) (I1.hok.fresh (Nat.le_refl _))
noncomputable def iRng1(ta:TA):TI:=fun σ H R=>ta σ H fun vs H1=>∃j:Int,vs=[.int j]/\ -(2^62)<=j/\j<2^62/\R (Itr 0 j.toNat) H1
noncomputable def iRng2(ta:TA):TI:=fun σ H R=>ta σ H fun vs H1=>∃i j:Int,vs=[.int i,.int j]/\(-(2^62)<=i/\i<2^62/\ -(2^62)<=j/\j<2^62)/\R (Itr i (j-i).toNat) H1
theorem zbn{a:Expr}{ta:TA}{p pos:Pos}(hg:Gl X "range")(hm:X.mg "range"=none)(ha:PA X [a] ta)(hs:starEach [a] X.env=[(false,eval a X.env)]:=by rfl):PI X tg (.Call (.Name "range" p) [a] [] pos) (iRng1 ta):=by
 intro pins s σ H R I h
 refine Call_ (ld_blt I hg hm boot_range (PyProof.Rows.callWith_type1 (thn (ha pos pins s σ H _ I h) fun us s1 ⟨vs,H1,I1,r1,q1⟩=> ?_) hs rfl))
 obtain⟨j,e,q1,q2,q⟩:=q1
 subst e
 cases r1 with
 |cons r rr=>
  cases rr
  obtain⟨t,rfl⟩:=r
  exact call_range_1 (range_it I1 (by omega) (by omega) q1 q2 (by simpa using q))
theorem pi_range2{a b:Expr}{ta:TA}{p pos:Pos}(hg:Gl X "range")(hm:X.mg "range"=none)(ha:PA X [a,b] ta)(hs:starEach [a,b] X.env=[(false,eval a X.env),(false,eval b X.env)]:=by rfl)(hs2:starEach [b] X.env=[(false,eval b X.env)]:=by rfl):
  PI X tg (.Call (.Name "range" p) [a,b] [] pos) (iRng2 ta):=by
 intro pins s σ H R I h
 refine Call_ (ld_blt I hg hm boot_range (PyProof.Rows.callWith_type1 (thn (ha pos pins s σ H _ I h) fun us s1 ⟨vs,H1,I1,r1,q1⟩=> ?_) (by rw[hs,hs2]) (by rw[hs2];rfl)))
 obtain⟨i,j,e,⟨q1,q2,q3,q4⟩,q⟩:=q1
 subst e
 cases r1 with
 |cons r rr=>
  cases rr with
  |cons r' rr=>
   cases rr
   obtain⟨t,rfl⟩:=r
   obtain⟨t',rfl⟩:=r'
   exact call_range_2 (range_it I1 q1 q2 q3 q4 q)
noncomputable def tFor(wi:TI)(g:TG)(tb:TS):TS:=fun D σ H=>wi σ H fun J H1=>∃W:Nat->Nat->St->Hp->Prop,(∃m,W 0 m σ H1)/\∀i m σ H,W i m σ H->
 (J.stop i H/\D.nx σ H)\/(J.go i H/\∃N:St->Hp->Prop,(∀σ' H',N σ' H'->∃m',m'<m/\W (i+1) m' σ' H')/\∀x H',J.yld i H x H'->g x σ H' fun σ2 H2=>tb {D with nx:=N,ct:=N,bk:=D.nx} σ2 H2)
noncomputable def pinsAt(fp:List Addr)(h:Heap):List (Addr×Obj):=fp.filterMap fun b=>(h.get? b).map fun o=>(b,o)
theorem zco{fp:List Addr}{h:Heap}{b:Addr}{o:Obj}(hb:b∈fp)(e:h.get? b=some o):(b,o)∈pinsAt fp h:=List.mem_filterMap.mpr ⟨b,hb,by rw[e];rfl⟩
theorem of_pinsAt{fp:List Addr}{h:Heap}{p:Addr×Obj}(hp:p∈pinsAt fp h):p.1∈fp/\h.get? p.1=some p.2:=by
 obtain⟨b,hb,e⟩:=List.mem_filterMap.mp hp
 cases q:h.get? b with
 |none=>rw[q]at e;cases e
 |some o=>
  rw[q]at e
  have e':(b,o)=p:=Option.some.inj e
  subst e'
  exact⟨hb,q⟩
theorem Inv.pinned{pins:List (Addr×Obj)}{σ:St}{H:Hp}{s:Shared}{fp:List Addr}(I:Inv X pins σ H s)(hf:∀b∈fp,FpOk X pins H b)(ho:∀b∈fp,∃o,s.heap.get? b=some o/\∀v,o.data≠.cell v):Inv X (pins++pinsAt fp s.heap) σ H s:=
 I.pins_of fun p hp=>(List.mem_append.mp hp).elim (fun z=>I.pin p (List.mem_append_right _ z)) fun z=>by
  obtain⟨hb,e⟩:=of_pinsAt z
  obtain⟨f0,f1,f2,_⟩:=hf p.1 hb
  obtain⟨o,e',d⟩:=ho p.1 hb
  rw[e]at e';cases e'
  exact⟨e,f0,f1,f2,d⟩
theorem Inv.unpinned{pins pl:List (Addr×Obj)}{σ:St}{H:Hp}{s:Shared}(I:Inv X (pins++pl) σ H s):Inv X pins σ H s:=I.pins_of fun p hp=>I.pin p (List.mem_append_right _ (List.mem_append_left _ hp))
theorem zdg{iter:Expr}{body:List Stmt}{wi:TI}{g:TG}{tb:TS}{pos:Pos}(hp:PassesOwn (model X.prog X.w) X.A X.env X.xe)(hc:X.calm=true)(hi:PI X tg iter wi)(hg:PG X tg g)(hb:PSs X body tb)(hs:∀x,foldedSetIterable iter X.env x=pure x:=by intro _;rfl):PS X (.For tg iter body [] pos) (tFor wi g tb):=by
 intro pins s σ H D I h
 refine wpAny_For (thn (hi pins s σ H _ I h) fun v s1 h1=>thn h1 fun itv s2 h2=> ?_) hs
 obtain⟨it,fp,tn,J,H2,e,I2,T,st2,f2,W,⟨m0,w0⟩,turn⟩:=h2
 subst e
 -- what stays true of the iterator's objects through the loop
 have stat:∀{H':Hp},(∀b∈fp,H' b=none)->∀b∈fp,FpOk X pins H' b:=fun hn b hb=>⟨hn b hb,(f2 b hb).2⟩
 refine codeAny_forLoop_any (fun n s'=>∃i σ' H',Inv X pins σ' H' s'/\tn i s'.heap/\(∀b∈fp,H' b=none)/\W i n σ' H') ?_ m0 ⟨0,σ,H2,I2,st2,fun b hb=>(f2 b hb).1,w0⟩
 rintro n s3 ⟨i,σ3,H3,I3,st3,fr3,w3⟩
 rcases turn i n σ3 H3 w3 with⟨stop,qn⟩|⟨go,N,hN,step⟩
 ·refine wpAny_passesOwn hp (thn (T.done X rfl rfl rfl hc i pins s3 σ3 H3 X.xe I3 (stat fr3) st3 stop) fun r s4 ⟨hr,I4⟩=> ?_)
  subst hr
  exact wpAny_execs_nil ⟨σ3,H3,I4,qn⟩
 ·refine wpAny_passesOwn hp (thn (T.item X rfl rfl rfl hc i pins s3 σ3 H3 X.xe I3 (stat fr3) st3 go) fun r s4 ⟨u,hr,h4⟩=> ?_)
  subst hr
  refine wpAny_passesOwn hp (thn h4 fun _ s5 ⟨x,H5,I5,r5,y5,st5,fr5⟩=> ?_)
  have I5':=I5.pinned (stat fr5) (T.obj _ _ st5)
  refine wpAny_passesOwn hp (thn (hg _ s5 σ3 H5 x u _ I5' r5 (step x H5 y5)) fun _ s6 ⟨σ6,H6,I6,q6⟩=> ?_)
  refine wpAny_passesOwn hp (thn (hb _ s6 σ6 H6 _ I6 q6) fun f s7 q7=> ?_)
  have again:∀{σ7:St} {H7:Hp},Inv X (pins++pinsAt fp s5.heap) σ7 H7 s7->N σ7 H7->∃m,m<n/\∃i σ' H',Inv X pins σ' H' s7/\tn i s7.heap/\(∀b∈fp,H' b=none)/\W i m σ' H':=fun{σ7 H7} I7 n7=>by
   obtain⟨m',hm,w7⟩:=hN σ7 H7 n7
   refine⟨m',hm,i+1,σ7,H7,I7.unpinned,T.keep _ _ _ st5 fun b hb o e=>(I7.pin (b,o) (List.mem_append_right _ (List.mem_append_right _ (zco hb e)))).1,fun b hb=> ?_,w7⟩
   obtain⟨o,e,d⟩:=T.obj _ _ st5 b hb
   exact(I7.pin (b,o) (List.mem_append_right _ (List.mem_append_right _ (zco hb e)))).2.1
  cases f with
  |next=>obtain⟨σ7,H7,I7,n7⟩:=q7;exact again I7 n7
  |cont=>obtain⟨σ7,H7,I7,n7⟩:=q7;exact again I7 n7
  |brk=>obtain⟨σ7,H7,I7,q7⟩:=q7;exact⟨σ7,H7,I7.unpinned,q7⟩
  |ret v=>obtain⟨x7,σ7,H7,I7,r7,q7⟩:=q7;exact⟨x7,σ7,H7,I7.unpinned,r7,q7⟩
end
theorem for_list{K:W.Frag}{a:Addr}{xs:List V}{g:TG}{tb:TS}{D:Ends}{σ:St}{H:Hp}(Pv:Nat->St->Hp->Prop)(h0:Pv 0 σ H)(hl:∀i σ H,i<=xs.length->Pv i σ H->SqL K H a xs)(hs:∀i x σ H,xs[i]? =some x->Pv i σ H->g x σ H fun σ2 H2=>tb {D with nx:=Pv (i+1),ct:=Pv (i+1),bk:=D.nx} σ2 H2)(hd:∀σ H,Pv xs.length σ H->D.nx σ H):
  ∃W:Nat->Nat->St->Hp->Prop,(∃m,W 0 m σ H)/\∀i m σ H,W i m σ H->
   ((Itl K a).stop i H/\D.nx σ H)\/((Itl K a).go i H/\∃N:St->Hp->Prop,(∀σ' H',N σ' H'->∃m',m'<m/\W (i+1) m' σ' H')/\∀x H',(Itl K a).yld i H x H'->g x σ H' fun σ2 H2=>tb {D with nx:=N,ct:=N,bk:=D.nx} σ2 H2):=by
 refine⟨fun i m σ H=>m=xs.length-i/\i<=xs.length/\Pv i σ H,⟨xs.length,by simp,Nat.zero_le _,h0⟩,?_⟩
 rintro i m σ H ⟨rfl,hi,p⟩
 have q:=hl i σ H hi p
 by_cases hlt:i<xs.length
 ·refine .inr ⟨⟨xs,xs[i],q,by simp[hlt]⟩,Pv (i+1),fun σ' H' p'=>⟨xs.length-(i+1),by omega,rfl,hlt,p'⟩,fun x H' y=> ?_⟩
  obtain⟨e,y⟩:=y
  subst e
  exact hs i x σ _ (y xs q) p
 ·have e:i=xs.length:=by omega
  subst e
  exact .inl ⟨⟨xs,q,Nat.le_refl _⟩,hd σ H p⟩
theorem zbw{lo:Int}{n:Nat}{g:TG}{tb:TS}{D:Ends}{σ:St}{H:Hp}(Pv:Nat->St->Hp->Prop)(h0:Pv 0 σ H)(hs:∀i σ H,i<n->Pv i σ H->g (.int (lo+i)) σ H fun σ2 H2=>tb {D with nx:=Pv (i+1),ct:=Pv (i+1),bk:=D.nx} σ2 H2)(hd:∀σ H,Pv n σ H->D.nx σ H):
  ∃W:Nat->Nat->St->Hp->Prop,(∃m,W 0 m σ H)/\∀i m σ H,W i m σ H->
   ((Itr lo n).stop i H/\D.nx σ H)\/((Itr lo n).go i H/\∃N:St->Hp->Prop,(∀σ' H',N σ' H'->∃m',m'<m/\W (i+1) m' σ' H')/\∀x H',(Itr lo n).yld i H x H'->g x σ H' fun σ2 H2=>tb {D with nx:=N,ct:=N,bk:=D.nx} σ2 H2):=by
 refine⟨fun i m σ H=>m=n-i/\i<=n/\Pv i σ H,⟨n,by simp,Nat.zero_le _,h0⟩,?_⟩
 rintro i m σ H ⟨rfl,hi,p⟩
 by_cases hlt:i<n
 ·refine .inr ⟨hlt,Pv (i+1),fun σ' H' p'=>⟨n-(i+1),by omega,rfl,hlt,p'⟩,fun x H' y=> ?_⟩
  obtain⟨e,y⟩:=y
  subst e y
  exact hs i σ _ hlt p
 ·have e:i=n:=by omega
  subst e
  exact .inl ⟨Nat.le_refl _,hd σ H p⟩
end L2
namespace L2
open PySem PySem.Spec PyProof.Rows
noncomputable abbrev R2:=V->V->Hp->VK->Prop
noncomputable def OpR(X:Cx)(f:Value->Value->Sem Value)(r:R2):Prop:=
 ∀(pins:List (Addr×Obj)) (s:Shared) (σ:St) (H:Hp) (x y:V) (v u:Value) (Q:VK),Inv X pins σ H s->RelV x v->RelV y u->r x y H Q->
  wpAny (model X.prog X.w) X.A (f v u) (EP X pins σ Q) X.xe s
noncomputable def UnR(X:Cx)(f:Value->Sem Value)(r:V->Hp->VK->Prop):Prop:=
 ∀(pins:List (Addr×Obj)) (s:Shared) (σ:St) (H:Hp) (x:V) (v:Value) (Q:VK),Inv X pins σ H s->RelV x v->r x H Q->
  wpAny (model X.prog X.w) X.A (f v) (EP X pins σ Q) X.xe s
noncomputable def CallR(X:Cx)(f:Value)(r:List V->Hp->VK->Prop):Prop:=
 ∀(pins:List (Addr×Obj)) (s:Shared) (σ:St) (H:Hp) (xs:List V) (us:List Value) (Q:VK),Inv X pins σ H s->Vals xs us->r xs H Q->
  wpAny (model X.prog X.w) X.A (call f us) (EP X pins σ Q) X.xe s
noncomputable def TruR(X:Cx)(r:V->Hp->(Bool->Hp->Prop)->Prop):Prop:=
 ∀(pins:List (Addr×Obj)) (s:Shared) (σ:St) (H:Hp) (x:V) (v:Value) (Q:Bool->Hp->Prop),Inv X pins σ H s->RelV x v->r x H Q->
  wpAny (model X.prog X.w) X.A (truthy v) (TP X pins σ Q) X.xe s
noncomputable def tOp(r:R2)(ta tb:TE):TE:=fun σ H Q=>ta σ H fun x H1=>tb σ H1 fun y H2=>r x y H2 Q
noncomputable def tUn(r:V->Hp->VK->Prop)(ta:TE):TE:=fun σ H Q=>ta σ H fun x H1=>r x H1 Q
noncomputable def rI(C:Int->Int->Prop)(g:Int->Int->V):R2:=fun x y H Q=>∃i j,x= .int i/\y= .int j/\C i j/\Q (g i j) H
noncomputable def rI0(g:Int->Int->V):R2:=fun x y H Q=>∃i j,x= .int i/\y= .int j/\Q (g i j) H
noncomputable def rU(g:Int->V):V->Hp->VK->Prop:=fun x H Q=>∃i,x= .int i/\Q (g i) H
section
variable{X:Cx}{a b c:Expr}{ta tb tc:TE}{pos:Pos}
theorem binT(ha:PE X a ta)(hb:PE X b tb){pins:List (Addr×Obj)}{s:Shared}{σ:St}{H:Hp}{R:V->V->Hp->Prop}(I:Inv X pins σ H s)(h:ta σ H fun x H1=>tb σ H1 fun y H2=>R x y H2){Q:Value->Shared->Prop}{f:Value->Value->Sem Value}(hf:∀v u s2 x y H2,Inv X pins σ H2 s2->RelV x v->RelV y u->R x y H2->wpAny (model X.prog X.w) X.A (f v u) Q X.xe s2):
  wpAny (model X.prog X.w) X.A (eval a X.env) (fun v s₁=>wpAny (model X.prog X.w) X.A (eval b X.env) (fun u s₂=>wpAny (model X.prog X.w) X.A (f v u) Q X.xe s₂) X.xe s₁) X.xe s:=by
 refine thn (ha pins s σ H _ I h) fun v s1 ⟨x,H1,I1,r1,q1⟩=> ?_
 refine thn (hb pins s1 σ H1 _ I1 q1) fun u s2 ⟨y,H2,I2,r2,q2⟩=> ?_
 exact hf v u s2 x y H2 I2 r1 r2 q2
theorem zao{op:Operator}{r:R2}(ho:OpR X (binaryOp op) r)(ha:PE X a ta)(hb:PE X b tb):PE X (.BinOp a op b pos) (tOp r ta tb):=by
 intro pins s σ H Q I h
 exact wpAny_BinOp (binT ha hb I h fun v u s2 x y H2 I2 rx ry q=>ho pins s2 σ H2 x y v u Q I2 rx ry q)
theorem pe_un{op:UnaryOp}{r:V->Hp->VK->Prop}(ho:UnR X (unaryOp op) r)(ha:PE X a ta):PE X (.UnaryOp op a pos) (tUn r ta):=by
 intro pins s σ H Q I h
 exact UnaryOp_ (thn (ha pins s σ H _ I h) fun v s1 ⟨x,H1,I1,r1,q1⟩=>ho pins s1 σ H1 x v Q I1 r1 q1)
theorem opI{f:Value->Value->Sem Value}{C:Int->Int->Prop}{g:Int->Int->Int}(rule:∀(i j:Int) (t u:Tok) (s:Shared) (Q:Value->Shared->Prop) (E:Value->Shared->Prop),C i j->Q (.int (g i j) s.toks) {s with toks:=s.toks+1}->wpAny (model X.prog X.w) X.A (f (.int i t) (.int j u)) Q E s):
  OpR X f (rI C fun i j=> .int (g i j)):=by
 intro pins s σ H x y v u Q I rx ry h
 obtain⟨i,j,rfl,rfl,hc,q⟩:=h
 obtain⟨t,rfl⟩:=rx
 obtain⟨t',rfl⟩:=ry
 exact rule i j t t' s _ _ hc ⟨.int (g i j),H,I.tok _,⟨_,rfl⟩,q⟩
theorem opI0{f:Value->Value->Sem Value}{g:Int->Int->Int}(rule:∀(i j:Int) (t u:Tok) (s:Shared) (Q:Value->Shared->Prop) (E:Value->Shared->Prop),Q (.int (g i j) s.toks) {s with toks:=s.toks+1}->wpAny (model X.prog X.w) X.A (f (.int i t) (.int j u)) Q E s):
  OpR X f (rI0 fun i j=> .int (g i j)):=by
 intro pins s σ H x y v u Q I rx ry h
 obtain⟨i,j,rfl,rfl,q⟩:=h
 obtain⟨t,rfl⟩:=rx
 obtain⟨t',rfl⟩:=ry
 exact rule i j t t' s _ _ ⟨.int (g i j),H,I.tok _,⟨_,rfl⟩,q⟩
theorem opB0{f:Value->Value->Sem Value}{g:Int->Int->Bool}(rule:∀(i j:Int) (t u:Tok) (s:Shared) (Q:Value->Shared->Prop) (E:Value->Shared->Prop),Q (.bool (g i j)) s->wpAny (model X.prog X.w) X.A (f (.int i t) (.int j u)) Q E s):
  OpR X f (rI0 fun i j=> .bl (g i j)):=by
 intro pins s σ H x y v u Q I rx ry h
 obtain⟨i,j,rfl,rfl,q⟩:=h
 obtain⟨t,rfl⟩:=rx
 obtain⟨t',rfl⟩:=ry
 exact rule i j t t' s _ _ ⟨.bl (g i j),H,I,rfl,q⟩
noncomputable def CPow(i j:Int):Prop:=0<=j/\j<=1000000/\i.natAbs<2^64
noncomputable def CMul(i j:Int):Prop:=(-(2^64)<i/\i<2^64)\/(-(2^64)<j/\j<2^64)
theorem CMul.ok{i j:Int}(h:CMul i j):IntMulOk i j:=by
 rcases h with⟨h1,h2⟩|⟨h1,h2⟩
 ·exact .of_left (intBits_le_64 h1 h2)
 ·exact .of_right (intBits_le_64 h1 h2)
theorem zbp:OpR X (binaryOp .Add) (rI0 fun i j=> .int (i+j)):=opI0 fun _ _ _ _ _ _ _ q=>add_int q
theorem op_sub:OpR X (binaryOp .Sub) (rI0 fun i j=> .int (i-j)):=opI0 fun _ _ _ _ _ _ _ q=>sub_int q
theorem zcq:OpR X (binaryOp .Mult) (rI CMul fun i j=> .int (i*j)):=opI fun _ _ _ _ _ _ _ hc q=>mul_int q hc.ok
theorem op_mod:OpR X (binaryOp .Mod) (rI (fun _ j=>0<j) fun i j=> .int (i %j)):=opI fun i j _ _ _ _ _ hc q=>by
 have h1:(0:Int)<j:=hc
 exact mod_int' (by omega) (by rw[Int.fmod_eq_emod_of_nonneg i (by omega)];exact q)
theorem op_pow:OpR X (binaryOp .Pow) (rI CPow fun i j=> .int (i^j.toNat)):=opI fun _ _ _ _ _ _ _ hc q=>pow_int_small hc.1 hc.2.1 hc.2.2 q
theorem unI{f:Value->Sem Value}{g:Int->Int}(rule:∀(i:Int) (t:Tok) (s:Shared) (Q:Value->Shared->Prop) (E:Value->Shared->Prop),Q (.int (g i) s.toks) {s with toks:=s.toks+1}->wpAny (model X.prog X.w) X.A (f (.int i t)) Q E s):
  UnR X f (rU fun i=> .int (g i)):=by
 intro pins s σ H x v Q I rx h
 obtain⟨i,rfl,q⟩:=h
 obtain⟨t,rfl⟩:=rx
 exact rule i t s _ _ ⟨.int (g i),H,I.tok _,⟨_,rfl⟩,q⟩
theorem un_neg:UnR X (unaryOp .USub) (rU fun i=> .int (-i)):=unI fun _ _ _ _ _ q=>neg_int q
end
noncomputable def scal:V->V->Bool
 | .non,.non=>true| .non,.int _=>true| .int _,.non=>true| .non,.bl _=>true| .bl _,.non=>true| .non,.str _=>true| .str _,.non=>true
 | .int _,.int _=>true| .bl _,.bl _=>true| .str _,.str _=>true| .byt _,.byt _=>true
 | .int _,.str _=>true| .str _,.int _=>true| .bl _,.str _=>true| .str _,.bl _=>true
 |_,_=>false
noncomputable def rEq:R2:=fun x y H Q=>scal x y=true/\Q (.bl (decide (x=y))) H
noncomputable def rNe:R2:=fun x y H Q=>scal x y=true/\Q (.bl (!decide (x=y))) H
theorem dec_int{i j:Int}:decide (V.int i=V.int j)=(i==j):=by
 rw[Bool.eq_iff_iff]
 simp
theorem dec_bl{i j:Bool}:decide (V.bl i=V.bl j)=(i==j):=by
 rw[Bool.eq_iff_iff]
 simp
theorem dec_str{i j:Str}:decide (V.str i=V.str j)=(i==j):=by
 rw[Bool.eq_iff_iff]
 simp
theorem dec_byt{i j:Array UInt8}:decide (V.byt i=V.byt j)=(i.toList==j.toList):=by
 rw[Bool.eq_iff_iff]
 cases i
 cases j
 simp
section
variable{X:Cx}{a b c:Expr}{ta tb tc:TE}{pos:Pos}
theorem zas{pins:List (Addr×Obj)}{σ:St}{H:Hp}{s:Shared}{Q:VK}{k k':Bool}(I:Inv X pins σ H s)(q:Q (.bl k) H)(e:k=k'):EP X pins σ Q (.bool k') s:=by
 subst e
 exact⟨.bl k,H,I,rfl,q⟩
theorem op_eq:OpR X (compareOp .Eq) rEq:=by
 intro pins s σ H x y v u Q I rx ry h
 obtain⟨hs,q⟩:=h
 cases x with
 |non=>
  cases rx
  cases y with
  |non=>cases ry;exact PySem.EqNone.eq_none_none (zas I q (by simp))
  |bl j=>cases ry;exact PySem.EqNone.eq_none_bool (zas I q (by simp))
  |int j=>obtain⟨t',rfl⟩:=ry;exact PySem.EqNone.eq_none_int (zas I q (by simp))
  |str j=>obtain⟨t',rfl⟩:=ry;exact PySem.EqNone.eq_none_str (zas I q (by simp))
  |_=>exact absurd (show false=true from hs) Bool.false_ne_true
 |bl i=>
  cases rx
  cases y with
  |non=>cases ry;exact PySem.EqNone.eq_bool_none (zas I q (by simp))
  |bl j=>cases ry;exact eq_bool (zas I q dec_bl)
  |str j=>obtain⟨t',rfl⟩:=ry;exact PySem.EqMixed.eq_bool_str (zas I q (by simp))
  |_=>exact absurd (show false=true from hs) Bool.false_ne_true
 |int i=>
  obtain⟨t,rfl⟩:=rx
  cases y with
  |non=>cases ry;exact PySem.EqNone.eq_int_none (zas I q (by simp))
  |int j=>obtain⟨t',rfl⟩:=ry;exact eq_int (zas I q dec_int)
  |str j=>obtain⟨t',rfl⟩:=ry;exact PySem.EqMixed.eq_int_str (zas I q (by simp))
  |_=>exact absurd (show false=true from hs) Bool.false_ne_true
 |str i=>
  obtain⟨t,rfl⟩:=rx
  cases y with
  |non=>cases ry;exact PySem.EqNone.eq_str_none (zas I q (by simp))
  |bl j=>cases ry;exact PySem.EqMixed.eq_str_bool (zas I q (by simp))
  |int j=>obtain⟨t',rfl⟩:=ry;exact PySem.EqMixed.eq_str_int (zas I q (by simp))
  |str j=>obtain⟨t',rfl⟩:=ry;exact eq_str (zas I q dec_str)
  |_=>exact absurd (show false=true from hs) Bool.false_ne_true
 |byt i=>
  obtain⟨t,rfl⟩:=rx
  cases y with
  |byt j=>obtain⟨t',rfl⟩:=ry;exact PySem.W.eq_bytes (zas I q dec_byt)
  |_=>exact absurd (show false=true from hs) Bool.false_ne_true
 |_=>cases y<;>exact absurd (show false=true from hs) Bool.false_ne_true
theorem op_ne:OpR X (compareOp .NotEq) rNe:=by
 intro pins s σ H x y v u Q I rx ry h
 obtain⟨hs,q⟩:=h
 cases x with
 |non=>
  cases rx
  cases y with
  |non=>cases ry;exact PySem.EqNone.ne_none_none (zas I q (by simp))
  |bl j=>cases ry;exact PySem.EqNone.ne_none_bool (zas I q (by simp))
  |int j=>obtain⟨t',rfl⟩:=ry;exact PySem.EqNone.ne_none_int (zas I q (by simp))
  |str j=>obtain⟨t',rfl⟩:=ry;exact PySem.EqNone.ne_none_str (zas I q (by simp))
  |_=>exact absurd (show false=true from hs) Bool.false_ne_true
 |bl i=>
  cases rx
  cases y with
  |non=>cases ry;exact PySem.EqNone.ne_bool_none (zas I q (by simp))
  |bl j=>cases ry;exact ne_bool (zas I q (congrArg not dec_bl))
  |str j=>obtain⟨t',rfl⟩:=ry;exact PySem.EqMixed.ne_bool_str (zas I q (by simp))
  |_=>exact absurd (show false=true from hs) Bool.false_ne_true
 |int i=>
  obtain⟨t,rfl⟩:=rx
  cases y with
  |non=>cases ry;exact PySem.EqNone.ne_int_none (zas I q (by simp))
  |int j=>obtain⟨t',rfl⟩:=ry;exact ne_int (zas I q (congrArg not dec_int))
  |str j=>obtain⟨t',rfl⟩:=ry;exact PySem.EqMixed.ne_int_str (zas I q (by simp))
  |_=>exact absurd (show false=true from hs) Bool.false_ne_true
 |str i=>
  obtain⟨t,rfl⟩:=rx
  cases y with
  |non=>cases ry;exact PySem.EqNone.ne_str_none (zas I q (by simp))
  |bl j=>cases ry;exact PySem.EqMixed.ne_str_bool (zas I q (by simp))
  |int j=>obtain⟨t',rfl⟩:=ry;exact PySem.EqMixed.ne_str_int (zas I q (by simp))
  |str j=>obtain⟨t',rfl⟩:=ry;exact ne_str (zas I q (congrArg not dec_str))
  |_=>exact absurd (show false=true from hs) Bool.false_ne_true
 |byt i=>
  obtain⟨t,rfl⟩:=rx
  cases y with
  |byt j=>obtain⟨t',rfl⟩:=ry;exact PySem.W.ne_bytes (zas I q (congrArg not dec_byt))
  |_=>exact absurd (show false=true from hs) Bool.false_ne_true
 |_=>cases y<;>exact absurd (show false=true from hs) Bool.false_ne_true
theorem op_lt:OpR X (compareOp .Lt) (rI0 fun i j=> .bl (decide (i<j))):=opB0 fun _ _ _ _ _ _ _ q=>lt_int q
theorem op_le:OpR X (compareOp .LtE) (rI0 fun i j=> .bl (decide (i<=j))):=opB0 fun _ _ _ _ _ _ _ q=>le_int q
theorem op_gt:OpR X (compareOp .Gt) (rI0 fun i j=> .bl (decide (j<i))):=opB0 fun _ _ _ _ _ _ _ q=>gt_int q
theorem op_ge:OpR X (compareOp .GtE) (rI0 fun i j=> .bl (decide (j<=i))):=opB0 fun _ _ _ _ _ _ _ q=>ge_int q
theorem op_isN:OpR X (compareOp .Is) (fun x y H Q=>y= .non/\Q (.bl (decide (x= .non))) H):=by
 intro pins s σ H x y v u Q I rx ry h
 obtain⟨rfl,q⟩:=h
 cases ry
 refine is_none_gen (zas I q ?_)
 cases x<;>first
  |(cases rx;rfl)
  |(obtain⟨t,rfl⟩:=rx;rfl)
theorem OpR.or{f:Value->Value->Sem Value}{r r':R2}(h:OpR X f r)(h':OpR X f r'):OpR X f (fun x y H Q=>r x y H Q\/r' x y H Q):=by
 intro pins s σ H x y v u Q I rx ry q
 rcases q with q|q
 ·exact h pins s σ H x y v u Q I rx ry q
 ·exact h' pins s σ H x y v u Q I rx ry q
theorem nomark(b:Expr){op:CmpOp}(h:op≠.In:=by decide)(h2:op≠.NotIn:=by decide):behindInMarks op b=false:=by
 have e1:(op==CmpOp.In)=false:=by cases op<;>first |rfl|exact absurd rfl h
 have e2:(op==CmpOp.NotIn)=false:=by cases op<;>first |rfl|exact absurd rfl h2
 cases b<;>simp[behindInMarks,e1,e2]
theorem zcs{op:CmpOp}{r:R2}(ho:OpR X (compareOp op) r)(ha:PE X a ta)(hb:PE X b tb)(hm:behindInMarks op b=false):PE X (.Compare a [op] [b] pos) (tOp r ta tb):=by
 intro pins s σ H Q I h
 exact wpAny_Compare1 (binT ha hb I h fun v u s2 x y H2 I2 rx ry q=>ho pins s2 σ H2 x y v u Q I2 rx ry q) hm
noncomputable def tTest(t:TE):TT:=fun σ H Q=>t σ H fun x H'=>∃k,x= .bl k/\Q k H'
theorem zbh{op:CmpOp}{r:R2}(ho:OpR X (compareOp op) r)(ha:PE X a ta)(hb:PE X b tb)(hm:behindInMarks op b=false):PT X (.Compare a [op] [b] pos) (tTest (tOp r ta tb)):=by
 intro pins s σ H Q I h
 refine wpAny_isTrue_Compare1 (thn (ha pins s σ H _ I h) fun v s1 ⟨x,H1,I1,r1,q1⟩=>thn (hb pins s1 σ H1 _ I1 q1) fun u s2 ⟨y,H2,I2,r2,q2⟩=>
  thn (ho pins s2 σ H2 x y v u _ I2 r1 r2 q2) fun c s3 ⟨z,H3,I3,r3,k,e,q3⟩=> ?_) hm
 subst e
 cases r3
 exact wpAny_truthy_bool ⟨H3,I3,q3⟩
noncomputable def tChain(r r':R2)(ta tb tc:TE):TE:=fun σ H Q=>ta σ H fun x H1=>tb σ H1 fun y H2=>r x y H2 fun z H3=>∃k,z= .bl k/\
 (if k=true then tc σ H3 fun w' H4=>r' y w' H4 Q else Q (.bl false) H3)
theorem pt_chain{op op':CmpOp}{r r':R2}(ho:OpR X (compareOp op) r)(ho':OpR X (compareOp op') r')(ha:PE X a ta)(hb:PE X b tb)(hc:PE X c tc)(hm:lastMarks [op,op'] [b,c]=false:=by with_unfolding_all rfl):PT X (.Compare a [op,op'] [b,c] pos) (tTest (tChain r r' ta tb tc)):=by
 intro pins s σ H Q I h
 refine isTrue_chain (thn (ha pins s σ H _ I h) fun v s1 ⟨x,H1,I1,r1,q1⟩=>test_link (thn (hb pins s1 σ H1 _ I1 q1) fun u s2 ⟨y,H2,I2,r2,q2⟩=>
  thn (ho pins s2 σ H2 x y v u _ I2 r1 r2 q2) fun d s3 ⟨z,H3,I3,r3,k,e,q3⟩=> ?_)) hm
 subst e
 cases r3
 refine wpAny_truthy_bool ?_
 cases k with
 |false=>
  obtain⟨k',e',q'⟩:=q3
  cases e'
  exact ite_ff ⟨H3,I3,q'⟩
 |true=>
  refine ite_tt (test_last (thn (hc pins s3 σ H3 _ I3 q3) fun w' s4 ⟨z',H4,I4,r4,q4⟩=>thn (ho' pins s4 σ H4 y z' u w' _ I4 r2 r4 q4) fun d' s5 ⟨z2,H5,I5,r5,k2,e2,q5⟩=> ?_))
  subst e2
  cases r5
  exact wpAny_truthy_bool ⟨H5,I5,q5⟩
noncomputable def TruV(K:W.Frag)(x:V)(H:Hp)(k:Bool):Prop:=
 match x with
 | .non=>k=false
 | .bl b=>k=b
 | .int i=>k=(i !=0)
 | .str y=>y.length<=sizeLine/\k=((y.length:Int) !=0)
 | .byt y=>y.size<=sizeLine/\k=((y.size:Int) !=0)
 | .ref p=>(∃xs,SqL K H p xs/\k= !xs.isEmpty)\/(∃xs,SqT K H p xs/\k= !xs.isEmpty)\/∃kvs,H p=some (.dK kvs)/\k= !kvs.isEmpty
 |_=>False
theorem isEmpty_kv{κ:Type}{kvs:List (κ×V)}{vs:List (κ×Value)}(r:KV kvs vs):(!vs.isEmpty)= !kvs.isEmpty:=by
 cases r<;>rfl
theorem isEmpty_of{xs:List V}{its:List Value}(r:Vals xs its):(!its.toArray.isEmpty)= !xs.isEmpty:=by
 cases r<;>simp
theorem line63:(sizeLine:Nat)<2^63:=by rw[sizeLine_eq];decide
theorem tru_ok:TruR X (fun x H Q=>∃k,TruV X.K x H k/\Q k H):=by
 intro pins s σ H x v Q I rx h
 obtain⟨k,e,q⟩:=h
 have hl:=line63
 have hs:sizeLine=16777216:=sizeLine_eq
 cases x with
 |non=>
  cases rx
  have e':k=false:=e
  subst e'
  exact truthy_none ⟨H,I,q⟩
 |bl b=>
  cases rx
  have e':k=b:=e
  subst e'
  exact wpAny_truthy_bool ⟨H,I,q⟩
 |int i=>
  obtain⟨t,rfl⟩:=rx
  have e':k=(i !=0):=e
  subst e'
  exact PySem.P.truthy_int ⟨H,I,q⟩
 |str y=>
  obtain⟨t,rfl⟩:=rx
  obtain⟨hy,e'⟩:y.length<=sizeLine/\k=((y.length:Int) !=0):=e
  subst e'
  exact PySem.P.truthy_str (by omega) ⟨H,I.tok _,q⟩
 |byt y=>
  obtain⟨t,rfl⟩:=rx
  obtain⟨hy,e'⟩:y.size<=sizeLine/\k=((y.size:Int) !=0):=e
  subst e'
  exact PySem.W.truthy_bytes (by omega) ⟨H,I.tok _,q⟩
 |ref p=>
  cases rx
  have e':(∃xs,SqL X.K H p xs/\k= !xs.isEmpty)\/(∃xs,SqT X.K H p xs/\k= !xs.isEmpty)\/∃kvs,H p=some (.dK kvs)/\k= !kvs.isEmpty:=e
  rcases e' with⟨xs,hx,e'⟩|⟨xs,hx,e'⟩|⟨kvs,hx,e'⟩
  ·subst e'
   obtain⟨its,r,pl,hz⟩:=I.list hx
   have hlen:=r.length
   exact wpAny_truthy_list pl.isList (by simp only[List.size_toArray];omega) ⟨H,I.tok _,by rw[isEmpty_of r];exact q⟩
  ·subst e'
   obtain⟨its,r,pl,hz⟩:=I.tuple hx
   have hlen:=r.length
   exact truthy_tuple pl (by simp only[List.size_toArray];omega) ⟨H,I.tok _,by rw[isEmpty_of r];exact q⟩
  ·subst e'
   obtain⟨hz,hS,vs,r,m⟩:kvs.length<=sizeLine/\(p==sysModules)=false/\∃vs,KV kvs vs/\s.heap.DictOf (mixKind X.prog X.w) p vs:=I.hok p _ hx
   have hlen:kvs.length=vs.length:=Paired.length r
   exact wpAny_truthy_dict hS m (by omega) ⟨H,I.tok _,by rw[isEmpty_kv r];exact q⟩
 |_=>exact(show False from e).elim
theorem pt_truth(ha:PE X a ta)(he:∀whole,isTrue a X.env whole=(do let v<-whole;standAt a.pos;holding [v] (truthy v))):
  PT X a (fun σ H Q=>ta σ H fun x H'=>∃k,TruV X.K x H' k/\Q k H'):=by
 intro pins s σ H Q I h
 exact isTrue_plain (thn (ha pins s σ H _ I h) fun v s1 ⟨x,H1,I1,r1,q1⟩=>tru_ok pins s1 σ H1 x v Q I1 r1 q1) (he _)
theorem vals1{x:V}{us:List Value}(r:Vals [x] us):∃u,us=[u]/\RelV x u:=by
 cases r with
 |cons r1 r2=>cases r2;exact⟨_,rfl,r1⟩
end
end L2
namespace L2
open PySem PySem.Spec PyProof.Rows
section
variable{prog:Program}{w:World}{A:Around}{E:Value->Shared->Prop}{s:Shared}{K:W.Frag}{x dx C f:Addr}{mA:Str->Option Value}{name:Str}{v:Value}
end
section
variable{P:Program}{w:World}{H H':Hp}{h h':Heap}{a C dx:Addr}{fs fs':List (Str×V)}
end
structure Cls(K:W.Frag)(C:Addr):Prop where
 pg:PySem.W.plainGet K C Str.empty=true
 hd:PySem.W.hasDictIn K C=true
 po:PySem.W.plainOver K C=true
 sa:PySem.W.findIn K (.ref C) "__setattr__"=some (some (.builtin "object.__setattr__"))
theorem Cls.get{K:W.Frag}{C:Addr}(c:Cls K C)(f:Str):PySem.W.plainGet K C f=true:=c.pg
section
variable{X:Cx}{pins:List (Addr×Obj)}{σ:St}{H:Hp}{s:Shared}{a C dx:Addr}{fs:List (Str×V)}{f:Str}{v:V}{A:Around}{E:Value->Shared->Prop}
end
section
variable{X:Cx}{o e value:Expr}{f:Str}{pos pos' tpos:Pos}{ta tv:TE}
end
section
variable{X:Cx}{pins:List (Addr×Obj)}{σ:St}{H:Hp}{s:Shared}{A:Around}{E:Value->Shared->Prop}{Q:Value->Shared->Prop}{c:Value}{b:Bool}
end
end L2
namespace L2
open PySem PySem.Spec PyProof.Rows
structure Room(k:Nat)(A:Around):Prop where
 hd:A.handled=none
 dp:A.depth+3*k+5<recursionLimit
 un:A.units+16*k+200<cLine
 gd:A.guards=some []
theorem Room.mono{j k:Nat}{A:Around}(r:Room k A)(h:j<=k):Room j A:=⟨r.hd,by have:=r.dp;omega,by have:=r.un;omega,r.gd⟩
theorem Room.deeper{k:Nat}{A:Around}(r:Room (k+1) A)(env:Env):Room k (A.deeper env):=
 ⟨r.hd,by have:=r.dp;show A.depth+1+3*k+5<_;omega,by have:=r.un;show A.units+3+16*k+200<_;omega,r.gd⟩
theorem Room.in1{k:Nat}{A:Around}(r:Room (k+1) A):Room k A.in1:=
 ⟨r.hd,by have:=r.dp;show A.depth+3*k+5<_;omega,by have:=r.un;show A.units+1+16*k+200<_;omega,r.gd⟩
theorem Room.depth{k:Nat}{A:Around}(r:Room k A):A.depth<recursionLimit:=by have:=r.dp;omega
theorem Room.units{k:Nat}{A:Around}(r:Room k A):A.units+64<cLine:=by have:=r.un;omega
noncomputable def tNil:TA:=fun _ H Q=>Q [] H
noncomputable def tCons(ta:TE)(tr:TA):TA:=fun σ H Q=>ta σ H fun x H1=>tr σ H1 fun xs H2=>Q (x::xs) H2
section
variable{X:Cx}{e:Expr}{es:List Expr}{te:TE}{t:TA}{pos:Pos}
theorem zac:PA X [] tNil:=fun _ _ _ _ H Q I h=>Calls.spliced_nil ⟨[],H,I,.nil,h⟩
theorem zaa(ha:PE X e te)(hr:PA X es t)(hs:starEach (e::es) X.env=(false,eval e X.env)::starEach es X.env:=by rfl):PA X (e::es) (tCons te t):=by
 intro pos pins s σ H Q I h
 rw[hs]
 show wpAny _ _ (spliced ((false,eval e X.env)::backTo pos (starEach es X.env))) _ _ s
 refine Calls.spliced_cons (thn (ha pins s σ H _ I h) fun u s1 ⟨x,H1,I1,r1,q1⟩=> ?_)
 exact thn (hr pos pins s1 σ H1 _ I1 q1) fun us s2 ⟨xs,H2,I2,r2,q2⟩=>⟨x::xs,H2,I2,.cons r1 r2,q2⟩
noncomputable def tTup(t:TA):TE:=fun σ H Q=>t σ H fun xs H1=>xs.length<=sizeLine/\∀p,H1 p=none->Q (.ref p) (upd H1 p (.tup xs))
noncomputable def tLst(t:TA):TE:=fun σ H Q=>t σ H fun xs H1=>xs.length<=sizeLine/\∀p,H1 p=none->Q (.ref p) (upd H1 p (.lst xs))
theorem zbt{x1}(h:PA X es t):PE X (.Tuple es x1 pos) (tTup t):=by
 intro pins s σ H Q I hq
 refine wpAny_Tuple_spliced (thn (h pos pins s σ H _ I hq) fun us s1 ⟨xs,H1,I1,r,z,q⟩=>⟨by rw[<-r.length];exact z,?_⟩)
 have hf:H1 s1.heap.objs.size=none:=I1.hok.fresh (Nat.le_refl _)
 refine⟨.ref s1.heap.objs.size,upd H1 s1.heap.objs.size (.tup xs),I1.laid (t':=s1.toks) (fun b u e=>Heap.get?_push_of_some _ e) (Nat.le_refl _) ?_,rfl,q _ hf⟩
 exact⟨z,us,r,⟨_,Heap.get?_push_size _ rfl,rfl,_,rfl⟩⟩
theorem zbx(h:PA X es t):PE X (.List es pos) (tLst t):=by
 intro pins s σ H Q I hq
 refine wpAny_List_spliced (thn (h pos pins s σ H _ I hq) fun us s1 ⟨xs,H1,I1,r,z,q⟩=>⟨by rw[<-r.length];exact z,?_⟩)
 have hf:H1 s1.heap.objs.size=none:=I1.hok.fresh (Nat.le_refl _)
 refine⟨.ref s1.heap.objs.size,upd H1 s1.heap.objs.size (.lst xs),I1.laid (t':=s1.toks) (fun b u e=>Heap.get?_push_of_some _ e) (Nat.le_refl _) ?_,rfl,q _ hf⟩
 exact⟨z,us,0,r,Heap.get?_push_size _ rfl⟩
end
noncomputable abbrev Sp:=List V->Hp->VK->XK->Prop
noncomputable abbrev CXT:=List Env->Hp->Shared->XK->Value->Shared->Prop
structure Env0(P:Program)(w:World)(K:W.Frag)(mg:Str->Option Value)(base:Heap)(A:Around)(outer:List Env)(s:Shared)(H:Hp):Prop where
 frames:A.frames=some outer
 mod:Mod K mg base
 bs:∀b o,base.get? b=some o->s.heap.get? b=some o/\H b=none
 bsz:base.objs.size<=s.heap.objs.size
 funs:s.heap.FunFrames base outer
 frf:∀b∈frs outer,H b=none
 hok:HOk P w H s.heap
 bare:AllBare s.gens
noncomputable def CE(outer:List Env)(P:Program)(w:World)(H:Hp)(s:Shared)(Q:VK)(u:Value)(s':Shared):Prop:=
 ∃v H',s'.os=s.os/\AllBare s'.gens/\Un (frs outer) [] H H' s.heap s'.heap/\HOk P w H' s'.heap/\RelV v u/\Q v H'
noncomputable def CR(CX:CXT)(outer:List Env)(P:Program)(w:World)(H:Hp)(s:Shared)(Q:VK)(E:XK)(r:Result)(s':Shared):Prop:=
 match r with
 | .ok (.ret u)=>CE outer P w H s Q u s'
 | .ok _=>False
 | .error e=>CX outer H s E e s'
structure FnOk(P:Program)(w:World)(K:W.Frag)(mg:Str->Option Value)(base:Heap)(CX:CXT)(k:Nat)(f:Addr)(fd:FuncData)(ps:List Str)(sp:Sp):Prop where
 len:∀vs H Q E,sp vs H Q E->vs.length=ps.length
 run:∀(A:Around) (outer:List Env) (s:Shared) (H:Hp) (args:Args) (us:List Value) (vs:List V) (Q:VK) (E:XK),Room k A->Env0 P w K mg base A outer s H->BindsTo s fd args (ps.zip us)->Vals vs us->sp vs H Q E->
  codeAny (model P w) A (.call (.ref f) args) (CR CX outer P w H s Q E) s
theorem FnOk.mono{P:Program}{w:World}{K:W.Frag}{mg:Str->Option Value}{base:Heap}{CX:CXT}{j k:Nat}{f:Addr}{fd:FuncData}{ps:List Str}{sp:Sp}(F:FnOk P w K mg base CX j f fd ps sp)(h:j<=k):
  FnOk P w K mg base CX k f fd ps sp:=⟨F.len,fun A outer s H args us vs Q E hr=>F.run A outer s H args us vs Q E (hr.mono h)⟩
theorem FnOk.imp{P:Program}{w:World}{K:W.Frag}{mg:Str->Option Value}{base:Heap}{CX:CXT}{k:Nat}{f:Addr}{fd:FuncData}{ps:List Str}{sp sp':Sp}(F:FnOk P w K mg base CX k f fd ps sp)(h:∀vs H Q E,sp' vs H Q E->sp vs H Q E):FnOk P w K mg base CX k f fd ps sp':=
 ⟨fun vs H Q E q=>F.len vs H Q E (h _ _ _ _ q),fun A outer s H args us vs Q E hr he hb hv hs=>F.run A outer s H args us vs Q E hr he hb hv (h _ _ _ _ hs)⟩
theorem Env0.in1{P:Program}{w:World}{K:W.Frag}{mg:Str->Option Value}{base:Heap}{A:Around}{outer:List Env}{s:Shared}{H:Hp}(e:Env0 P w K mg base A outer s H):
  Env0 P w K mg base A.in1 outer s H:=⟨e.frames,e.mod,e.bs,e.bsz,e.funs,e.frf,e.hok,e.bare⟩
section
variable{X:Cx}{pins:List (Addr×Obj)}{σ:St}{H:Hp}{s s':Shared}
theorem Inv.env0(I:Inv X pins σ H s):Env0 X.prog X.w X.K X.mg X.base X.A X.stack s H:=
 ⟨I.ok.frames,I.ok.mod,I.bs,Nat.le_trans I.ok.bsz I.sz,I.stack,I.stkFree,I.hok,I.bare⟩
theorem Inv.after{Q:VK}{u:Value}(I:Inv X pins σ H s)(h:CE X.stack X.prog X.w H s Q u s'):EP X pins σ Q u s':=by
 obtain⟨v,H',os,bare,un,hok,r,q⟩:=h
 obtain⟨hh,g,d,t,os'⟩:=s'
 obtain rfl:os'=s.os:=os
 exact⟨v,H',I.call (h':=hh) (g':=g) (d':=d) (t':=t) (ch:=[]) un hok bare (fun b z=>absurd z (by simp)),r,q⟩
end
noncomputable def tCall(sp:Sp)(dvs:List V)(E:XK)(t:TA):TE:=fun σ H Q=>t σ H fun vs H1=>sp (vs++dvs) H1 Q E
noncomputable def Binds(K:W.Frag)(fd:FuncData)(ps:List Str)(ds:List Value):Prop:=
 ∀(s:Shared) (us:List Value),K.In s.heap->(us++ds).length=ps.length->BindsTo s fd ⟨us,[]⟩ (ps.zip (us++ds))
theorem Binds.all{K:W.Frag}{fd:FuncData}{ps:List Str}(h:∀us:List Value,us.length=ps.length->bindArgs fd ⟨us,[]⟩=pure (ps.zip us)):Binds K fd ps []:=fun s us _ hl=>by
 rw[List.append_nil]at hl⊢
 exact .of_eq (h us hl)
noncomputable def Passes(CX:CXT)(X:Cx)(E:XK):Prop:=∀(pins:List (Addr×Obj)) (σ:St) (H:Hp) (s:Shared) (e:Value) (s':Shared),Inv X pins σ H s->CX X.stack H s E e s'->X.xe e s'
section
variable{X:Cx}{CX:CXT}{k:Nat}{f C:Addr}{fd:FuncData}{ps:List Str}{sp:Sp}{dvs:List V}{ds:List Value}{E:XK}{x m:Str}{p pos apos:Pos}{e o:Expr}{es:List Expr}{ta:TE}{t:TA}
theorem run_fn{pins:List (Addr×Obj)}{σ:St}{H:Hp}{s:Shared}{Q:VK}{us:List Value}{vs:List V}(F:FnOk X.prog X.w X.K X.mg X.base CX k f fd ps sp)(hr:Room k X.A)(hb:Binds X.K fd ps ds)(hd:Vals dvs ds)(hx:Passes CX X E)
  (I:Inv X pins σ H s)(r:Vals vs us)(h:sp (vs++dvs) H Q E):wpAny (model X.prog X.w) X.A (call (.ref f) us) (EP X pins σ Q) X.xe s:=by
 have r2:Vals (vs++dvs) (us++ds):=r.append hd
 have hl:(us++ds).length=ps.length:=by rw[<-r2.length];exact F.len _ _ _ _ h
 refine wpAny_call (codeAny_mono (F.run X.A X.stack s H ⟨us,[]⟩ (us++ds) (vs++dvs) Q E hr I.env0 (hb s us I.kIn hl) r2 h) fun r s' hq=> ?_)
 cases r with
 |error e=>exact hx pins σ H s e s' I hq
 |ok fl=>
  cases fl with
  |ret u=>exact I.after hq
  |next=>exact False.elim hq
  |brk=>exact False.elim hq
  |cont=>exact False.elim hq
theorem zal(F:FnOk X.prog X.w X.K X.mg X.base CX k f fd ps sp)(hr:Room k X.A)(hg:Gl X x)(hm:X.mg x=some (.ref f))(hk:PySem.W.keepIn X.K (.ref f)=true)(hb:Binds X.K fd ps ds)(hd:Vals dvs ds)(hx:Passes CX X E)(ha:PA X (e::es) t)(hdb:(x==("__debug__":Str))=false:=by decide)(he:starEach (e::es) X.env=(false,eval e X.env)::starEach es X.env:=by rfl)(hpl:(backTo pos (starEach es X.env)).any (·.1)=false:=by rfl):
  PE X (.Call (.Name x p) (e::es) [] pos) (tCall sp dvs E t):=by
 intro pins s σ H Q I h
 refine wpAny_Call_Name_kw (ld_glob I hg hm ?_ hdb)
 refine PySem.W.callWith_K (h₀:=X.base) I.ok.mod.kin hk (thn (ha pos pins s σ H _ I h) fun us s1 ⟨vs,H1,I1,r,q⟩=>⟨I1.kIn,?_⟩) he hpl
 exact run_fn F hr hb hd hx I1 r q
end
section
variable{X:Cx}{CX:CXT}{k:Nat}{f C:Addr}{fd:FuncData}{ps ks:List Str}{sp:Sp}{E:XK}{x m:Str}{p pos apos kpos:Pos}{e o:Expr}{es:List Expr}{kws:List Keyword}{te ta:TE}{t tk:TA}{nm:Option Str}
variable{g:List Value->List Value->List Value}{gV:List V->List V->List V}
end
structure FnScope(N P:List Str)(sc:Scope):Prop where
 kind:sc.kind= .function
 co:sc.isCoroutine=false
 gen:sc.isGenerator=false
 nd:N.Nodup
 pre:N.take P.length=P
 par:∀x∈P,sc.names.lookup x=some .local\/sc.names.lookup x=some .cell
 nofree:∀y∈sc.names,y.2≠.free
theorem bindL_out{kindOf:Str->Option NameKind}{x:Str}:∀{binds:List (Str×Value)} {m:Str->Option Value},(∀v,(x,v)∉binds)->bindL kindOf binds m x=m x
 |[],_,_=>rfl
 |(n,v)::r,m,h=>by
  unfold bindL
  rw[bindL_out fun w hw=>h w (List.mem_cons_of_mem _ hw)]
  split
  ·have:x≠n:=by rintro rfl;exact h v List.mem_cons_self
   simp[this]
  ·rfl
theorem bindC_out{kindOf:Str->Option NameKind}{x:Str}:∀{binds:List (Str×Value)} {m:Str->Option Value},(∀v,(x,v)∉binds)->bindC kindOf binds m x=m x
 |[],_,_=>rfl
 |(n,v)::r,m,h=>by
  unfold bindC
  rw[bindC_out fun w hw=>h w (List.mem_cons_of_mem _ hw)]
  split
  ·rfl
  ·have:x≠n:=by rintro rfl;exact h v List.mem_cons_self
   simp[this]
theorem bindL_get{kindOf:Str->Option NameKind}{x:Str}{v:Value}:∀{P:List Str} {vs:List Value} {i:Nat} {m:Str->Option Value},P.Nodup->P[i]? =some x->vs[i]? =some v->kindOf x=some .local->
  bindL kindOf (P.zip vs) m x=some v
 |[],_,_,_,_,h,_,_=>by simp at h
 |_::_,[],_,_,_,_,h,_=>by simp at h
 |p::P,w::vs,0,m,nd,h1,h2,hk=>by
  simp at h1 h2;subst h1;subst h2
  show bindL kindOf ((p,w)::P.zip vs) m p=_
  unfold bindL
  rw[bindL_out fun v hv=>(List.nodup_cons.mp nd).1 (List.of_mem_zip hv).1,if_pos hk]
  simp
 |p::P,w::vs,i+1,m,nd,h1,h2,hk=>by
  show bindL kindOf ((p,w)::P.zip vs) m x=_
  unfold bindL
  exact bindL_get (i:=i) (List.nodup_cons.mp nd).2 (by simpa using h1) (by simpa using h2) hk
theorem bindC_get{kindOf:Str->Option NameKind}{x:Str}{v:Value}:∀{P:List Str} {vs:List Value} {i:Nat} {m:Str->Option Value},P.Nodup->P[i]? =some x->vs[i]? =some v->kindOf x≠some .local->
  bindC kindOf (P.zip vs) m x=some v
 |[],_,_,_,_,h,_,_=>by simp at h
 |_::_,[],_,_,_,_,h,_=>by simp at h
 |p::P,w::vs,0,m,nd,h1,h2,hk=>by
  simp at h1 h2;subst h1;subst h2
  show bindC kindOf ((p,w)::P.zip vs) m p=_
  unfold bindC
  rw[bindC_out fun v hv=>(List.nodup_cons.mp nd).1 (List.of_mem_zip hv).1,if_neg hk]
  simp
 |p::P,w::vs,i+1,m,nd,h1,h2,hk=>by
  show bindC kindOf ((p,w)::P.zip vs) m x=_
  unfold bindC
  exact bindC_get (i:=i) (List.nodup_cons.mp nd).2 (by simpa using h1) (by simpa using h2) hk
noncomputable def start(N:List Str)(vs:List V):St:=vs.map some++List.replicate (N.length-vs.length) none
noncomputable def cxOf(CX:CXT)(P:Program)(w:World)(K:W.Frag)(mg:Str->Option Value)(base:Heap)(N:List Str)(qual:Str)(scope:Scope)(f:Addr)(cd:Value)(A:Around)(outer:List Env)(s:Shared)(H:Hp)(E:XK):Cx where
 prog:=P
 w:=w
 K:=K
 mg:=mg
 base:=base
 A:=A.deeper (envOfC qual scope s.heap.objs.size f cd)
 N:=N
 s₀:=s
 H₀:=H
 env:=envOfC qual scope s.heap.objs.size f cd
 outer:=outer
 stack:=envOfC qual scope s.heap.objs.size f cd::outer
 ex:=[]
 calm:=true
 fn:=fun _=>true
 pn:=[]
 xe:=fun e s'=>wpAny (model P w) (A.deeper (envOfC qual scope s.heap.objs.size f cd)) (leaving (envOfC qual scope s.heap.objs.size f cd) e) (fun _ s''=>CX outer H s E e s'') (fun e' s''=>CX outer H s E e' s'') s'
theorem cell_has{sc:Scope}{n:Nat}{x:Str}(h:sc.names.lookup x=some .cell):∃c,(cellsFrom n sc.names []).lookup x=some c:=by
 have q:=PySem.W.cellsFrom_some sc.names n [] (.inl h)
 exact Option.isSome_iff_exists.mp q
theorem inv_start{CX:CXT}{P:Program}{w:World}{K:W.Frag}{mg:Str->Option Value}{base:Heap}{N ps:List Str}{qual:Str}{scope:Scope}{f:Addr}{cd:Value}{A:Around}{outer:List Env}{s s1:Shared}{H:Hp}{E:XK}{us:List Value}{vs:List V}
  (S:FnScope N ps scope)(hd:A.handled=none)(e0:Env0 P w K mg base A outer s H)(hl:vs.length=ps.length)(r:Vals vs us)(x:InCallC s s.heap.objs.size (bindL (envOfC qual scope s.heap.objs.size f cd).kindOf (ps.zip us) fun _=>none) (cellsFrom (s.heap.objs.size+1) scope.names []) (bindC (envOfC qual scope s.heap.objs.size f cd).kindOf (ps.zip us) fun _=>none) s1):
  Inv (cxOf CX P w K mg base N qual scope f cd A outer s H E) [] (start N vs) H s1:=by
 have hpl:ps.length<=N.length:=by have:=congrArg List.length S.pre;rw[List.length_take]at this;omega
 obtain⟨h1,tk,rfl,hk⟩:=x.done
 have noA:∀b:Addr,b∉(cxOf CX P w K mg base N qual scope f cd A outer s H E).ex:=fun b z=>absurd (show b∈([]:List Addr)from z) (by simp)
 refine⟨⟨e0.mod,S.kind,rfl,rfl,Nat.le_refl _,fun y z c h1 h2=> ?_,fun y hy=> ?_,fun y c _ h=> ?_,fun _=>hd,Around.frames_deeper e0.frames,.inr ⟨rfl,rfl⟩,fun b z=>absurd z (noA b),e0.bs,e0.bsz,fun b _ _=>noA b,fun b z=>absurd z (noA b),e0.funs,e0.frf⟩,
  rfl,e0.bare,Un.kept hk,⟨_,x.toInCall.ns,fun i y v h1 h2 h3=> ?_⟩,fun y c h=>⟨_,x.cell y c h⟩,e0.hok.fresh (Nat.le_refl _),fun y c h=> ?_,fun p hp=>absurd (show p∈([]:List (Addr×Obj))from hp) (by simp),e0.hok.kept hk,?_⟩
 ·exact name_of_addr x.apart (PySem.mem_of_lookup h1) (PySem.mem_of_lookup h2)
 ·have hy:scope.names.lookup y=some .cell\/scope.names.lookup y=some .free:=hy
  rcases hy with hy|hy
  ·exact cell_has hy
  ·exact absurd rfl (S.nofree _ (PySem.mem_of_lookup hy))
 ·exact Nat.le_of_lt (x.above y c (PySem.mem_of_lookup h))
 ·have hi:i<vs.length:=by
   unfold start at h2
   by_cases hi:i<vs.length
   ·exact hi
   ·rw[List.getElem?_append_right (by simpa using hi)]at h2
    rw[List.getElem?_replicate]at h2
    split at h2<;>cases h2
  have ha:vs[i]? =some v:=by
   unfold start at h2
   rw[List.getElem?_append_left (by simpa using hi),List.getElem?_map]at h2
   cases e:vs[i]? with
   |none=>rw[e]at h2;cases h2
   |some a=>rw[e]at h2;cases h2;rfl
  obtain⟨u,hu,rv⟩:=r.get ha
  have hp:ps[i]? =some y:=by
   rw[<-S.pre,List.getElem?_take_of_lt (by omega)];exact h1
  have ndP:ps.Nodup:=by rw[<-S.pre];exact S.nd.sublist (List.take_sublist _ _)
  refine⟨u,rv,?_⟩
  rcases S.par y (List.mem_of_getElem? hp)with k|k
  ·exact .inl ⟨k,bindL_get ndP hp hu k⟩
  ·obtain⟨c,e⟩:=cell_has (n:=s.heap.objs.size+1) k
   refine .inr ⟨.inl k,c,e,?_⟩
   have q:=x.cell y c e
   rw[bindC_get ndP hp hu (by show scope.names.lookup y≠_;rw[k];decide)]at q
   exact q
 ·exact e0.hok.fresh (Nat.le_of_lt (x.above y c (PySem.mem_of_lookup h)))
 ·unfold start
  show _=N.length
  rw[List.length_append,List.length_map,List.length_replicate]
  omega
theorem fn_of{CX:CXT}{P:Program}{w:World}{K:W.Frag}{mg:Str->Option Value}{base:Heap}{k:Nat}{f:Addr}{name qual:Str}{params:Arguments}{body:List Stmt}{scope:Scope}{dV kV doc pm cdv ct oc:Value}{an od:Option Addr}{osl:Array (Option Value)}{N ps:List Str}{sp:Sp}(lk:K.lookup f=some ⟨oc,od,.func (PySem.W.fnOf name qual params body scope dV kV doc pm an cdv ct),osl⟩)(hcd:PySem.W.codeIn K cdv qual=true)(S:FnScope N ps scope)(len:∀vs H Q E,sp vs H Q E->vs.length=ps.length)(hbody:∀(A:Around) (outer:List Env) (s:Shared) (H:Hp) (vs:List V) (Q:VK) (E:XK),Room k (A.deeper (envOfC qual scope s.heap.objs.size f cdv))->sp vs H Q E->
   ∃t,PSs (cxOf CX P w K mg base N qual scope f cdv A outer s H E) body t/\t {nx:=fun _ H'=>Q .non H',rt:=Q} (start N vs) H):
  FnOk P w K mg base CX (k+1) f (PySem.W.fnOf name qual params body scope dV kV doc pm an cdv ct) ps sp:=by
 refine⟨len,fun A outer s H args us vs Q E hr e0 hb r hsp=> ?_⟩
 have hl:=len _ _ _ _ hsp
 have KX:K.In s.heap:=e0.mod.kin.keeps fun b o e=>(e0.bs b o e).1
 have lim:s.heap.NoLimit:=e0.mod.nolimit.keeps fun b o e=>(e0.bs b o e).1
 have hkind:∀y∈ps.zip us,scope.names.lookup y.1=some .local\/(scope.names.lookup y.1=some .cell/\((cellsFrom (s.heap.objs.size+1) scope.names []).lookup y.1).isSome=true):=fun⟨n,v⟩ hy=>by
  rcases S.par n (List.of_mem_zip hy).1 with q|q
  ·exact .inl q
  ·exact .inr ⟨q,PySem.W.cellsFrom_some _ _ _ (.inl q)⟩
 refine codeAny_call_function hr.depth (KX _ _ lk) rfl S.co S.gen rfl (PySem.W.codeRec_of KX hcd) (hb _ _ _ _ ?_)
 refine wpAny_newFunctionEnv_cells S.kind hkind fun env he s1 x=> ?_
 subst he
 refine⟨lim.keeps x.toInCall.keep,codeAny_func ?_⟩
 obtain⟨t,ht,hq⟩:=hbody A outer s H vs Q E (hr.deeper _) hsp
 have I:Inv (cxOf CX P w K mg base N qual scope f cdv A outer s H E) [] (start N vs) H s1:=inv_start S hr.hd e0 hl r x
 refine wpAny_mono (ht [] s1 (start N vs) H _ I hq) (fun fl s' hs=> ?_) fun e s' hs=>hs
 have fin:∀{σ':St} {H':Hp} {v:V} {u:Value},Inv (cxOf CX P w K mg base N qual scope f cdv A outer s H E) [] σ' H' s'->RelV v u->Q v H'->CE outer P w H s Q u s':=
  fun{σ' H' v u} J rv q=>⟨v,H',J.os,J.bare,J.base,J.hok,rv,q⟩
 cases fl with
 |ret u=>
  obtain⟨v,σ',H',J,rv,q⟩:=hs
  exact fin J rv q
 |next=>
  obtain⟨σ',H',J,q⟩:=hs
  exact fin (v:=V.non) (u:=Value.none) J rfl q
 |brk=>
  obtain⟨_,_,_,q⟩:=hs
  exact False.elim q
 |cont=>
  obtain⟨_,_,_,q⟩:=hs
  exact False.elim q
end L2
namespace L2
open PySem PySem.Spec PyProof.Rows
section
variable{X:Cx}{x:Str}{p pos:Pos}{e:Expr}{es:List Expr}{t:TA}{id T:String}{r:List V->Hp->VK->Prop}
noncomputable def tCB(r:List V->Hp->VK->Prop)(t:TA):TE:=fun σ H Q=>t σ H fun vs H1=>r vs H1 Q
theorem zaf(hc:CallR X (.builtin id) r)(hg:Gl X x)(hm:X.mg x=none)(hv:bootBuiltins x=some (.builtin id))(ha:PA X (e::es) t)(hn:x≠"__name__":=by decide)(hdb:(x==("__debug__":Str))=false:=by decide)(he:starEach (e::es) X.env=(false,eval e X.env)::starEach es X.env:=by rfl)(hpl:(backTo pos (starEach es X.env)).any (·.1)=false:=by rfl):PE X (.Call (.Name x p) (e::es) [] pos) (tCB r t):=by
 intro pins s σ H Q I h
 refine wpAny_Call_Name_kw (ld_blt I hg hm hv ?_ hn hdb)
 exact PyProof.Rows.callWith_builtin1 (thn (ha pos pins s σ H _ I h) fun us s1 ⟨vs,H1,I1,r1,q1⟩=>hc pins s1 σ H1 vs us Q I1 r1 q1) he hpl
theorem zcx(hc:CallR X (.type T) r)(hg:Gl X x)(hm:X.mg x=none)(hv:bootBuiltins x=some (.type T))(ha:PA X (e::es) t)(hn:x≠"__name__":=by decide)(hdb:(x==("__debug__":Str))=false:=by decide)(he:starEach (e::es) X.env=(false,eval e X.env)::starEach es X.env:=by rfl)(hpl:(backTo pos (starEach es X.env)).any (·.1)=false:=by rfl):PE X (.Call (.Name x p) (e::es) [] pos) (tCB r t):=by
 intro pins s σ H Q I h
 refine wpAny_Call_Name_kw (ld_blt I hg hm hv ?_ hn hdb)
 exact PyProof.Rows.callWith_type1 (thn (ha pos pins s σ H _ I h) fun us s1 ⟨vs,H1,I1,r1,q1⟩=>hc pins s1 σ H1 vs us Q I1 r1 q1) he hpl
end
end L2
namespace HT
open PySem PyProof.Rows
noncomputable def lexLt:List Int->List Int->Bool
 |[],[]=>false
 |[],_::_=>true
 |_::_,[]=>false
 |x::xs,y::ys=>if x=y then lexLt xs ys else decide (x<y)
theorem lexLt_cons(x y:Int)(xs ys:List Int):lexLt (x::xs) (y::ys)=if x=y then lexLt xs ys else decide (x<y):=rfl
theorem lexLt_nil_nil:lexLt [] []=false:=rfl
theorem lexLt_nil_cons(y:Int)(ys:List Int):lexLt [] (y::ys)=true:=rfl
theorem lexLt_cons_nil(x:Int)(xs:List Int):lexLt (x::xs) []=false:=rfl
section
open PySem.SeqAt
open PySem.AutoSeq1 (wpAny_loadPart')
open PySem.MeetsSeq PySem.MeetsSeq2 PySem.MeetsSeq3
end
section
variable{prog:Program}{w:World}{A:Around}{E:Value->Shared->Prop}{s:Shared}
theorem cat_tup{t b:Addr}{vs ws:List Value}{Q:Value->Shared->Prop}(ht:IsTup s.heap t vs.toArray)(hb:IsTup s.heap b ws.toArray)(hv:vs≠[])(h1:ws=[]->Q (.ref t) s)(h2:ws≠[]->Q (.ref s.heap.objs.size) {s with heap:=s.heap.push {cls:= .type "tuple",data:= .seq (vs++ws).toArray}})(hsz:vs.length+ws.length<=sizeLine):wpAny (model prog w) A (binaryOp .Add (.ref t) (.ref b)) Q E s:=by
 obtain⟨⟨cls,dd,data,sl⟩,ho,hc,n,hd⟩:=id ht
 obtain⟨⟨cls2,dd2,data2,sl2⟩,ho2,hc2,n2,hd2⟩:=id hb
 simp only at hc hd hc2 hd2
 subst hc hd hc2 hd2
 have e:vs.toArray++ws.toArray=(vs++ws).toArray:=by simp
 by_cases hw:ws=[]
 ·exact concat_meets ⟨_,ho,rfl⟩ ⟨_,ho2,rfl⟩ noFill_tuple_add seq_tuple_add PySem.F.slot_tuple_add PySem.F.entry_tuple_add (PySem.F.args_tuple_add_2 _ _)
   (tuple_addW1 t b vs.toArray ws.toArray n n2 dd dd2 sl sl2 (by simpa using hv) (by simp[hw])) ⟨ho,ho2,h1 hw⟩
 ·refine concat_meets ⟨_,ho,rfl⟩ ⟨_,ho2,rfl⟩ noFill_tuple_add seq_tuple_add PySem.F.slot_tuple_add PySem.F.entry_tuple_add (PySem.F.args_tuple_add_2 _ _)
   (tuple_addW2 t b vs.toArray ws.toArray n n2 dd dd2 sl sl2 (by simpa using hv) (by simpa using hw) (by rw[List.size_toArray,List.size_toArray];exact hsz)) ⟨ho,ho2,?_⟩
  rw[e]
  exact h2 hw
end
end HT
namespace L2
open PySem PySem.Spec PyProof.Rows
noncomputable abbrev TO:=St->Hp->(Option Int->Hp->Prop)->Prop
theorem intsAre_of{ns:List Int}:∀{us:List Value},Vals (ns.map V.int) us->IntsAre us ns:=by
 induction ns with
 |nil=>intro us r;rw[List.map_nil]at r;cases r;exact .nil
 |cons n ns ih=>
  intro us r
  rw[List.map_cons]at r
  cases r with
  |cons r1 r2=>
   obtain⟨t,e⟩:=r1
   subst e
   exact .cons n t (ih r2)
section
variable{X:Cx}{e:Expr}{te:TE}{lo hi:Option Expr}{tl th:TO}{pos p2:Pos}
noncomputable def SlR(X:Cx)(r:V->Option Int->Option Int->Hp->VK->Prop):Prop:=
 ∀(pins:List (Addr×Obj)) (s:Shared) (σ:St) (H:Hp) (x:V) (v vl vu:Value) (lo hi:Option Int) (sl:Addr) (Q:VK),Inv X pins σ H s->RelV x v->s.heap.IsSliceOf sl vl vu .none->IsPart vl lo->IsPart vu hi->r x lo hi H Q->
  ∃T id,typeLookup (.type T) "__getitem__"=pure (some (.builtin id))/\s.TypeIs v T/\wpAny (model X.prog X.w) X.A (getItem v (.ref sl)) (EP X pins σ Q) X.xe s
theorem SlR.or{r r':V->Option Int->Option Int->Hp->VK->Prop}(h:SlR X r)(h':SlR X r'):SlR X (fun x lo hi H Q=>r x lo hi H Q\/r' x lo hi H Q):=by
 intro pins s σ H x v vl vu lo hi sl Q I rx hs pl pu q
 rcases q with q|q
 ·exact h pins s σ H x v vl vu lo hi sl Q I rx hs pl pu q
 ·exact h' pins s σ H x v vl vu lo hi sl Q I rx hs pl pu q
noncomputable def rCatT(K:W.Frag):R2:=fun x y H Q=>∃a b xs ys,x= .ref a/\y= .ref b/\SqT K H a xs/\SqT K H b ys/\xs≠[]/\xs.length+ys.length<=sizeLine/\
 (ys=[]->Q (.ref a) H)/\(ys≠[]->∀p,H p=none->Q (.ref p) (upd H p (.tup (xs++ys))))
theorem Vals.nil_iff{xs:List V}{us:List Value}(r:Vals xs us):us=[]↔xs=[]:=by
 cases r with
 |nil=>simp
 |cons _ _=>simp
theorem op_catT:OpR X (binaryOp .Add) (rCatT X.K):=by
 intro pins s σ H x y v u Q I rx ry h
 obtain⟨a,b,xs,ys,rfl,rfl,ha,hb,hx,hz,q1,q2⟩:=h
 cases rx
 cases ry
 obtain⟨its,r1,p1,_⟩:=I.tuple ha
 obtain⟨its2,r2,p2,_⟩:=I.tuple hb
 refine HT.cat_tup p1 p2 (fun z=>hx (r1.nil_iff.mp z)) (fun z=>⟨.ref a,H,I,rfl,q1 (r2.nil_iff.mp z)⟩) (fun z=> ?_) (by rw[<-r1.length,<-r2.length];exact hz)
 refine⟨.ref s.heap.objs.size,_,I.laid (t':=s.toks) (o:= .tup (xs++ys)) (fun b ob q=>Heap.get?_push_of_some _ q) (Nat.le_refl _) ?_,rfl,q2 (fun w=>z (r2.nil_iff.mpr w)) _ (I.hok.fresh (Nat.le_refl _))⟩
 exact⟨by rw[List.length_append];exact hz,_,r1.append r2,IsTup.new _ _⟩
end
end L2
namespace L2
open PySem PySem.Spec PyProof.Rows
noncomputable def ixN(n:Nat)(i:Int):Option Nat:=if 0<=i then(if i<n then some i.toNat else none)else if -(n:Int)<=i then some (i+n).toNat else none
noncomputable def atI{α:Type}(xs:List α)(i:Int):Option α:=(ixN xs.length i).bind fun j=>xs[j]?
theorem ixN_seq{n:Nat}{i:Int}{j:Nat}(h:ixN n i=some j):seqIndex? i n=some j/\j<n/\ -(n:Int)<=i/\i<n:=by
 unfold ixN at h
 by_cases h0:0<=i
 ·rw[if_pos h0]at h
  by_cases h1:i<n
  ·rw[if_pos h1]at h
   have e:i.toNat=j:=Option.some.inj h
   exact⟨by rw[seqIndex_of h0 h1,e],by omega,by omega,h1⟩
  ·rw[if_neg h1]at h;cases h
 ·rw[if_neg h0]at h
  by_cases h1: -(n:Int)<=i
  ·rw[if_pos h1]at h
   have e:(i+n).toNat=j:=Option.some.inj h
   exact⟨by rw[seqIndex_neg (by omega) h1,e],by omega,h1,by omega⟩
  ·rw[if_neg h1]at h;cases h
theorem atI_get{α:Type}{xs:List α}{i:Int}{v:α}(h:atI xs i=some v):∃j,seqIndex? i xs.length=some j/\xs[j]? =some v/\j<xs.length/\ -(xs.length:Int)<=i/\i<xs.length:=by
 unfold atI at h
 cases e:ixN xs.length i with
 |none=>rw[e]at h;cases h
 |some j=>
  rw[e]at h
  obtain⟨h1,h2,h3,h4⟩:=ixN_seq e
  exact⟨j,h1,h,h2,h3,h4⟩
theorem atI_nat{α:Type}{xs:List α}{j:Nat}{v:α}(h:xs[j]? =some v):atI xs (j:Int)=some v:=by
 have hj:j<xs.length:=(List.getElem?_eq_some_iff.mp h).1
 have e:ixN xs.length (j:Int)=some j:=by
  unfold ixN
  rw[if_pos (by omega),if_pos (by omega)];simp
 unfold atI;rw[e];exact h
noncomputable def PlainIx(b:Expr):Prop:=∀o i,subscripted b false o i=operate [o,i] (getItem o i)
noncomputable def IxR(X:Cx)(r:R2):Prop:=
 ∀(value slice:Expr) (pins:List (Addr×Obj)) (s:Shared) (σ:St) (H:Hp) (x y:V) (v u:Value) (Q:VK),Inv X pins σ H s->RelV x v->RelV y u->r x y H Q->
  subscripted slice false v u=operate [v,u] (getItem v u)->wpAny (model X.prog X.w) X.A (subscriptTail value slice v u) (EP X pins σ Q) X.xe s
noncomputable def MtR(X:Cx)(id:String)(r:V->List V->Hp->VK->Prop):Prop:=
 ∀(pins:List (Addr×Obj)) (s:Shared) (σ:St) (H:Hp) (x:V) (xs:List V) (v:Value) (us:List Value) (Q:VK),Inv X pins σ H s->RelV x v->Vals xs us->r x xs H Q->
  wpAny (model X.prog X.w) X.A (call (.builtin id) (v::us)) (EP X pins σ Q) X.xe s
section
variable{X:Cx}{a b:Expr}{ta tb:TE}{pos:Pos}
theorem IxR.or{r r':R2}(h:IxR X r)(h':IxR X r'):IxR X (fun x y H Q=>r x y H Q\/r' x y H Q):=by
 intro value slice pins s σ H x y v u Q I rx ry q hs
 rcases q with q|q
 ·exact h value slice pins s σ H x y v u Q I rx ry q hs
 ·exact h' value slice pins s σ H x y v u Q I rx ry q hs
theorem MtR.or{id:String}{r r':V->List V->Hp->VK->Prop}(h:MtR X id r)(h':MtR X id r'):MtR X id (fun x xs H Q=>r x xs H Q\/r' x xs H Q):=by
 intro pins s σ H x xs v us Q I rx rs q
 rcases q with q|q
 ·exact h pins s σ H x xs v us Q I rx rs q
 ·exact h' pins s σ H x xs v us Q I rx rs q
theorem zch{r:R2}(hr:IxR X r)(ha:PE X a ta)(hb:PE X b tb)(hs:PlainIx b):PE X (.Subscript a b pos) (tOp r ta tb):=by
 intro pins s σ H Q I h
 exact Subscript_ (binT ha hb I h fun v u s2 x y H2 I2 rx ry q=>hr a b pins s2 σ H2 x y v u Q I2 rx ry q (hs _ _))
noncomputable def rIxL(K:W.Frag):R2:=fun x y H Q=>∃p xs i v,x= .ref p/\y= .int i/\SqL K H p xs/\atI xs i=some v/\Q v H
noncomputable def rIxT(K:W.Frag):R2:=fun x y H Q=>∃p xs i v,x= .ref p/\y= .int i/\SqT K H p xs/\atI xs i=some v/\Q v H
noncomputable def rIxS:R2:=fun x y H Q=>∃z i c,x= .str z/\y= .int i/\z.length<=sizeLine/\atI z.cps.toList i=some c/\Q (.str ⟨#[c]⟩) H
theorem zbl:IxR X (rIxL X.K):=by
 intro value slice pins s σ H x y v u Q I rx ry h hs
 obtain⟨p,xs,i,z,rfl,rfl,hq,he,q⟩:=h
 cases rx
 obtain⟨t,rfl⟩:=ry
 obtain⟨its,r,pl,hz⟩:=I.list hq
 obtain⟨j,h1,h2,h3,h4,h5⟩:=atI_get he
 obtain⟨w,ew,rw'⟩:=r.get h2
 have hl:=r.length
 have hn:=line63
 have fin:EP X pins σ Q w s:=⟨z,H,I,rw',q⟩
 by_cases h0:0<=i
 ·have hj:i.toNat=j:=by
   rw[seqIndex_of h0 h5]at h1
   exact Option.some.inj h1
  exact item_listR pl.isList h0 (by omega) (by rw[hj];simpa using ew) fin hs
 ·have hj:(i+(its.toArray.size:Int)).toNat=j:=by
   rw[seqIndex_neg (by omega) h4]at h1
   rw[List.size_toArray,<-hl]
   exact Option.some.inj h1
  exact subscriptTail_builtinR (x:=w) pl.isList.typeIs slot_list_getitem.lookup
   (wpAny_getItem_list_neg (Q:=fun r s'=>r=w/\EP X pins σ Q r s') pl.isList (by omega) (by rw[List.size_toArray]<;>omega) (by omega) (by rw[hj];simpa using ew) ⟨rfl,fin⟩) hs
theorem ix_tup:IxR X (rIxT X.K):=by
 intro value slice pins s σ H x y v u Q I rx ry h hs
 obtain⟨p,xs,i,z,rfl,rfl,hq,he,q⟩:=h
 cases rx
 obtain⟨t,rfl⟩:=ry
 obtain⟨its,r,pl,hz⟩:=I.tuple hq
 obtain⟨j,h1,h2,h3,h4,h5⟩:=atI_get he
 obtain⟨w,ew,rw'⟩:=r.get h2
 have hl:=r.length
 have hn:=line63
 have fin:EP X pins σ Q w s:=⟨z,H,I,rw',q⟩
 exact subscriptTail_builtinR (x:=w) pl.typeIs slot_tuple_getitem.lookup
  (getItem_tuple (j:=j) (Q:=fun r s'=>r=w/\EP X pins σ Q r s') pl (by omega) (by omega) (by rw[List.size_toArray,<-hl];exact h1) (by simpa using ew) ⟨rfl,fin⟩) hs
theorem ix_str:IxR X rIxS:=by
 intro value slice pins s σ H x y v u Q I rx ry h hs
 obtain⟨z,i,c,rfl,rfl,hz,he,q⟩:=h
 obtain⟨t,rfl⟩:=rx
 obtain⟨t',rfl⟩:=ry
 obtain⟨j,h1,h2,h3,h4,h5⟩:=atI_get he
 have hl:z.cps.toList.length=z.length:=by simp[Str.length]
 rw[hl]at h1 h4 h5
 have hn:=line63
 exact tail_any (typeIs_str s z t) slot_str_getitem.lookup (getItem_str (c:=c) (by
  have e1:decide (i< -(2^63:Int))=false:=decide_eq_false (by omega)
  have e2:decide (i≥2^63)=false:=decide_eq_false (by omega)
  rw[e1,e2,Bool.or_false]) (by rw[h1];simpa using h2) ⟨.str ⟨#[c]⟩,H,I.tok _,⟨_,rfl⟩,q⟩) hs
noncomputable def rIx(K:W.Frag):R2:=fun x y H Q=>rIxL K x y H Q\/rIxT K x y H Q\/rIxS x y H Q
theorem ix_seq:IxR X (rIx X.K):=zbl.or (ix_tup.or ix_str)
theorem mapSeq_set(its:List Value)(n j:Nat)(u:Value):Obj.mapSeq (·.setIfInBounds j u) {cls:= .type "list",data:= .seq its.toArray n}={cls:= .type "list",data:= .seq (its.set j u).toArray n}:=by
 simp[Obj.mapSeq]
theorem Inv.lst{pins:List (Addr×Obj)}{σ:St}{H:Hp}{s:Shared}{p:Addr}{xs:List V}(I:Inv X pins σ H s)(h:H p=some (.lst xs)):
  ∃(its:List Value) (n:Nat),Vals xs its/\s.heap.get? p=some {cls:= .type "list",data:= .seq its.toArray n}/\xs.length<=sizeLine:=by
 obtain⟨z,its,n,r,e⟩:=I.hok p _ h
 exact⟨its,n,r,e,z⟩
theorem Inv.lstUpd{pins:List (Addr×Obj)}{σ:St}{H:Hp}{s:Shared}{p:Addr}{xs ys:List V}{its its':List Value}{n n':Nat}{f:Obj->Obj}(I:Inv X pins σ H s)(h:H p=some (.lst xs))(ho:s.heap.get? p=some {cls:= .type "list",data:= .seq its.toArray n})(hf:f {cls:= .type "list",data:= .seq its.toArray n}={cls:= .type "list",data:= .seq its'.toArray n'})(r:Vals ys its')(hz:ys.length<=sizeLine)(t:Nat):
  Inv X pins σ (upd H p (.lst ys)) {s with heap:=s.heap.update p f,toks:=t}:=by
 have e:(s.heap.update p f).get? p=some {cls:= .type "list",data:= .seq its'.toArray n'}:=by
  rw[Heap.get?_update_self f ho (by rw[hf]<;>rfl),hf]
 refine I.write (x:=p) (e:=p) (by rw[h];trivial) (.inl rfl) (fun b u hb q=>(Heap.get?_update_other _ _ (Ne.symm hb)).trans q) ⟨_,e⟩ ?_
 exact⟨hz,its',n',r,e⟩
noncomputable def rSetL:V->V->V->Hp->(Hp->Prop)->Prop:=fun o i v H Q=>∃p xs k j,o= .ref p/\i= .int k/\H p=some (.lst xs)/\ixN xs.length k=some j/\Q (upd H p (.lst (xs.set j v)))
theorem set_list:PSet X rSetL:=by
 intro pins s σ H o i v ov iv u Q I ro ri rv h
 obtain⟨p,xs,k,j,rfl,rfl,hp,hj,q⟩:=h
 cases ro
 obtain⟨t,rfl⟩:=ri
 obtain⟨its,n,r,ho,hz⟩:=I.lst hp
 obtain⟨h1,h2,h3,h4⟩:=ixN_seq hj
 have hl:=r.length
 have hn:=line63
 have I':Inv X pins σ (upd H p (.lst (xs.set j v))) {s with heap:=s.heap.update p (Obj.mapSeq (·.setIfInBounds j u))}:=
  I.lstUpd hp ho (mapSeq_set its n j u) (r.set rv j) (by rw[List.length_set];exact hz) s.toks
 by_cases h0:0<=k
 ·have hk:k.toNat=j:=by
   rw[seqIndex_of h0 h4]at h1
   exact Option.some.inj h1
  exact PySem.W.ki_setAt ho h0 (by omega) (by rw[List.size_toArray,<-hl];exact h4) (by rw[hk];exact⟨_,I',q⟩)
 ·have hk:(k+(its.toArray.size:Int)).toNat=j:=by
   rw[seqIndex_neg (by omega) h3]at h1
   rw[List.size_toArray,<-hl]
   exact Option.some.inj h1
  exact PySem.W.ki_setBack ho (by omega) (by rw[List.size_toArray,<-hl];exact h3) (by omega) (by rw[hk];exact⟨_,I',q⟩)
theorem call_len_seq:CallR X (.builtin "len") (fun xs H Q=>∃p ys,xs=[.ref p]/\(SqL X.K H p ys\/SqT X.K H p ys)/\Q (.int ys.length) H):=by
 intro pins s σ H xs us Q I r h
 obtain⟨p,ys,rfl,hq,q⟩:=h
 obtain⟨u,rfl,rx⟩:=vals1 r
 cases rx
 have hn:=line63
 rcases hq with hq|hq
 ·obtain⟨its,r',pl,hz⟩:=I.list hq
  have hlen:=r'.length
  exact Calls.call_len_list pl.isList (by simp only[List.size_toArray]<;>omega) ⟨.int ys.length,H,I.tok _,⟨s.toks+1,by rw[List.size_toArray,hlen]⟩,q⟩
 ·obtain⟨its,r',pl,hz⟩:=I.tuple hq
  have hlen:=r'.length
  exact len_tuple pl (by simp only[List.size_toArray]<;>omega) ⟨.int ys.length,H,I.tok _,⟨s.toks+1,by rw[List.size_toArray,hlen]⟩,q⟩
theorem CallR.or{f:Value}{r r':List V->Hp->VK->Prop}(h:CallR X f r)(h':CallR X f r'):CallR X f (fun xs H Q=>r xs H Q\/r' xs H Q):=by
 intro pins s σ H xs us Q I rs q
 rcases q with q|q
 ·exact h pins s σ H xs us Q I rs q
 ·exact h' pins s σ H xs us Q I rs q
theorem zbu:CallR X (.type "tuple") (fun xs H Q=>∃p ys,xs=[.ref p]/\((SqL X.K H p ys/\∀l,H l=none->Q (.ref l) (upd H l (.tup ys)))\/(SqT X.K H p ys/\Q (.ref p) H))):=by
 intro pins s σ H xs us Q I r h
 obtain⟨p,ys,rfl,h⟩:=h
 obtain⟨u,rfl,rx⟩:=vals1 r
 cases rx
 rcases h with⟨hq,q⟩|⟨hq,q⟩
 ·obtain⟨its,r',pl,hz⟩:=I.list hq
  have hlen:=r'.length
  refine call_tuple_list pl.isList (fun h' kp=> ?_) (by simp only[List.size_toArray]<;>omega)
  have I1:Inv X pins σ H {s with heap:=h'}:=I.kept (t':=s.toks) kp
  have I2:Inv X pins σ (upd H h'.objs.size (.tup ys)) {s with heap:=h'.push {cls:= .type "tuple",data:= .seq its.toArray}}:=
   I1.laid (t':=s.toks) (fun b o e=>Heap.get?_push_of_some _ e) (Nat.le_refl _) (show ObjOk X.prog X.w _ _ _ (.tup ys)from⟨hz,its,r',IsTup.new _ _⟩)
  exact⟨.ref h'.objs.size,_,I2,rfl,q _ (I1.hok.fresh (Nat.le_refl _))⟩
 ·obtain⟨its,r',pl,hz⟩:=I.tuple hq
  exact call_tuple_same pl ⟨.ref p,H,I,rfl,q⟩
noncomputable def tyV(K:W.Frag)(T:String)(x:V)(H:Hp):Prop:=match x with
 | .str _=>T="str"
 | .int _=>T="int"
 | .ref p=>(T="list"/\∃xs,SqL K H p xs)\/(T="tuple"/\∃o,K.lookup p=some o/\o.cls= .type "tuple"/\o.dict=none)\/
   (T="dict"/\((∃kvs,H p=some (.dK kvs))\/∃kvs,H p=some (.dT kvs)))\/(T="set"/\∃S n,H p=some (.set S n))
 |_=>False
theorem tyV_is{pins:List (Addr×Obj)}{σ:St}{H:Hp}{s:Shared}{T:String}{x:V}{v:Value}(I:Inv X pins σ H s)(r:RelV x v)(ty:tyV X.K T x H):
  s.TypeIs v T/\∀a,v= .ref a->∃ob,s.heap.get? a=some ob/\ob.dict=none:=by
 cases x with
 |str z=>
  obtain⟨t,rfl⟩:=r
  cases(show T="str" from ty)
  exact⟨typeIs_str s z t,fun _ e=>nomatch e⟩
 |int i=>
  obtain⟨t,rfl⟩:=r
  cases(show T="int" from ty)
  exact⟨typeIs_int s i t,fun _ e=>nomatch e⟩
 |ref p=>
  cases r
  rcases ty with⟨rfl,xs,hq⟩|⟨rfl,o,hk,hc,hd⟩|⟨rfl,hk⟩|⟨rfl,S,n,hk⟩
  ·obtain⟨its,_,pl,_⟩:=I.list hq
   refine⟨pl.isList.typeIs,fun a e=> ?_⟩
   cases e
   obtain⟨o,n,e,c,hd,_⟩:=pl
   exact⟨o,e,hd⟩
  ·refine⟨⟨o,I.kIn p o hk,hc⟩,fun a e=> ?_⟩
   cases e
   exact⟨o,I.kIn _ o hk,hd⟩
  ·have z:∃o,s.heap.get? p=some o/\o.ExactDict:=by
    rcases hk with⟨kvs,hk⟩|⟨kvs,hk⟩
    ·obtain⟨_,_,_,_,o,_,_,e,ex,_⟩:=I.hok p _ hk
     exact⟨o,e,ex⟩
    ·obtain⟨_,_,_,_,o,_,_,e,ex,_⟩:=I.hok p _ hk
     exact⟨o,e,ex⟩
   obtain⟨o,e,ex⟩:=z
   refine⟨⟨o,e,ex.1⟩,fun a e2=> ?_⟩
   cases e2
   exact⟨o,e,ex.2.1⟩
  ·obtain⟨o,_,_,_,e,ex,_⟩:=I.hok p _ hk
   refine⟨⟨o,e,ex.1⟩,fun a e2=> ?_⟩
   cases e2
   exact⟨o,e,ex.2.1⟩
 |_=>exact False.elim ty
noncomputable def tBM(K:W.Frag)(T:String)(r:V->List V->Hp->VK->Prop)(to:TE)(t:TA):TE:=fun σ H Q=>to σ H fun x H1=>tyV K T x H1/\t σ H1 fun xs H2=>r x xs H2 Q
variable{o e:Expr}{es:List Expr}{to:TE}{t:TA}{name:Str}{apos cpos:Pos}{T id:String}{r:V->List V->Hp->VK->Prop}
theorem pe_bm(pa:PlainAttrs T)(slot:Slot T name id)(hty:typeOf (.builtin id)=pure (.type "method_descriptor"))(hm:MtR X id r)(ho:PE X o to)(ha:PA X (e::es) t)(hbase:attributeBase o name X.env (eval o X.env)=eval o X.env:=by rfl)(hfew:((backTo cpos (starEach (e::es) X.env)).all (fun x=> !x.1)&&(backToKw cpos (keywordEach [] X.env)).all (fun x=>x.1.isSome)
   &&decide ((e::es).length+([]:List Keyword).length+(if([]:List Keyword).isEmpty then 0 else 1)<30))=true:=by rfl)(hline:(apos.endLine==cpos.line)=true:=by rfl)(hs:starEach (e::es) X.env=(false,eval e X.env)::starEach es X.env:=by rfl)(hplain:(backTo cpos (starEach es X.env)).any (·.1)=false:=by rfl):
  PE X (.Call (.Attribute o name apos) (e::es) [] cpos) (tBM X.K T r to t):=by
 intro pins s σ H Q I h
 refine wpAny_Call_method_late hbase hfew hline rfl (thn (ho pins s σ H _ I h) fun v s1 ⟨x,H1,I1,r1,ty,q1⟩=> ?_)
 obtain⟨h1,h2⟩:=tyV_is I1 r1 ty
 refine⟨T,id,pa,slot,hty,h1,h2,?_⟩
 have hA:=ha cpos pins s1 σ H1 _ I1 q1
 rw[hs]at hA⊢
 refine Calls.callWith_builtin (by show(false||(backTo cpos (starEach es X.env)).any (·.1))=false;rw[hplain]<;>rfl) (Calls.evalArgs_plain ?_)
 exact thn hA fun us s2 ⟨vs,H2,I2,r2,q2⟩=>hm pins s2 σ H2 x vs v us Q I2 r1 r2 q2
end
end L2
namespace L2
open PySem PySem.Spec PyProof.Rows
noncomputable def MtM(X:Cx)(id:String)(r:V->List V->Hp->VK->Prop):Prop:=
 ∀(pins:List (Addr×Obj)) (s:Shared) (σ:St) (H:Hp) (x:V) (xs:List V) (v:Value) (us:List Value) (Q:VK),Inv X pins σ H s->RelV x v->Vals xs us->r x xs H Q->
  wpAny (model X.prog X.w) X.A (call (.builtin id) (v::us)) (EP X pins σ Q) X.xe s
theorem Vals.one{x:V}{us:List Value}(h:Vals [x] us):∃u,us=[u]/\RelV x u:=by
 cases h with
 |cons r h=>cases h;exact⟨_,rfl,r⟩
theorem Vals.two{x y:V}{us:List Value}(h:Vals [x,y] us):∃u v,us=[u,v]/\RelV x u/\RelV y v:=by
 cases h with
 |cons r h=>obtain⟨v,rfl,q⟩:=Vals.one h;exact⟨_,_,rfl,r,q⟩
theorem Vals.zero:∀{us:List Value},Vals [] us->us=[]
 |_,.nil=>rfl
theorem Vals.eraseIdx:∀{xs:List V} {us:List Value} (i:Nat),Vals xs us->Vals (xs.eraseIdx i) (us.eraseIdx i)
 |_,_,_,.nil=> .nil
 |_,_,0,.cons _ t=>t
 |_,_,i+1,.cons r t=> .cons r (Vals.eraseIdx i t)
theorem Vals.reverse{xs:List V}{us:List Value}(h:Vals xs us):Vals xs.reverse us.reverse:=by
 induction h with
 |nil=>exact .nil
 |cons r t ih=>rw[List.reverse_cons,List.reverse_cons];exact Vals.append ih (.cons r .nil)
section
variable{X:Cx}{pins:List (Addr×Obj)}{σ:St}{H:Hp}{s:Shared}{l b:Addr}{xs ys zs:List V}
theorem Inv.lset{its its':List Value}{n:Nat}{f:Array Value->Array Value}{t':Nat}(I:Inv X pins σ H s)(hH:H l=some (.lst xs))(e:s.heap.get? l=some {cls:= .type "list",data:= .seq its.toArray n})(hf:f its.toArray=its'.toArray)(hv:Vals ys its')(hz:ys.length<=sizeLine):
  Inv X pins σ (upd H l (.lst ys)) {s with heap:=s.heap.update l (Obj.mapSeq f),toks:=t'}:=by
 have q:=PySem.IsL.update e f
 rw[hf]at q
 refine I.write (x:=l) (e:=l) (by rw[hH];exact trivial) (.inl rfl) (fun b' u hb hu=>(Heap.get?_update_other s.heap (Obj.mapSeq f) (Ne.symm hb)).trans hu) ⟨_,q⟩ ?_
 exact⟨hz,its',_,hv,q⟩
theorem Inv.lnew{its:List Value}{t':Nat}(I:Inv X pins σ H s)(hv:Vals ys its)(hz:ys.length<=sizeLine):
  Inv X pins σ (upd H s.heap.objs.size (.lst ys)) {s with heap:=s.heap.push {cls:= .type "list",data:= .seq its.toArray},toks:=t'}:=
 I.laid (fun _ _ q=>Heap.get?_push_of_some _ q) (Nat.le_refl _) ⟨hz,its,0,hv,Heap.get?_push_size _ rfl⟩
theorem Inv.fresh(I:Inv X pins σ H s):H s.heap.objs.size=none:=I.hok.fresh (Nat.le_refl _)
theorem Inv.lstM(I:Inv X pins σ H s)(hH:H l=some (.lst xs)):xs.length<=sizeLine/\∃(its:List Value) (n:Nat),Vals xs its/\xs.length=its.length/\s.heap.get? l=some {cls:= .type "list",data:= .seq its.toArray n}:=by
 obtain⟨z,its,n,r,e⟩:=I.hok l _ hH
 exact⟨z,its,n,r,r.length,e⟩
theorem notLongL{n:Nat}(h:n<=sizeLine):Builtin.List.listTooLong n=false:=by
 unfold Builtin.List.listTooLong
 exact decide_eq_false (by omega)
end
section
variable{X:Cx}
noncomputable def rAppend:V->List V->Hp->VK->Prop:=fun x vs H Q=>∃l xs y,x= .ref l/\vs=[y]/\H l=some (.lst xs)/\xs.length<sizeLine/\Q .non (upd H l (.lst (xs++[y])))
theorem mt_append:MtM X "list.append" rAppend:=by
 intro pins s σ H x vs v us Q I rx rv h
 obtain⟨l,xs,y,rfl,rfl,hH,hz,q⟩:=h
 cases rx
 obtain⟨u,rfl,ru⟩:=rv.one
 obtain⟨z,its,n,r,hl,e⟩:=I.lstM hH
 refine call_meets F.slot_list_append ⟨_,e,rfl⟩ F.entry_list_append (F.args_list_append_2 _ _) (PySem.list_append l its.toArray n u (by rw[List.size_toArray];omega)) ⟨e,?_⟩
 refine⟨.non,_,I.lset (its':=its++[u]) hH e (by simp) (r.append (.cons ru .nil)) ?_,rfl,q⟩
 rw[List.length_append,List.length_singleton]
 omega
noncomputable def rExtend:V->List V->Hp->VK->Prop:=fun x vs H Q=>∃l b xs zs,x= .ref l/\vs=[.ref b]/\H l=some (.lst xs)/\H b=some (.lst zs)/\xs.length+zs.length<=sizeLine/\Q .non (upd H l (.lst (xs++zs)))
theorem mt_extend:MtM X "list.extend" rExtend:=by
 intro pins s σ H x vs v us Q I rx rv h
 obtain⟨l,b,xs,zs,rfl,rfl,hH,hB,hz,q⟩:=h
 cases rx
 obtain⟨u,rfl,ru⟩:=rv.one
 cases ru
 obtain⟨z,its,n,r,hl,e⟩:=I.lstM hH
 obtain⟨z2,its2,n2,r2,hl2,e2⟩:=I.lstM hB
 have hsz:its.toArray.size+its2.toArray.size<=sizeLine:=by rw[List.size_toArray,List.size_toArray];omega
 have hlong:¬(!its.toArray.isEmpty&&Builtin.List.listTooLong (its.toArray.size+its2.toArray.size))=true:=by
  rw[notLongL hsz,Bool.and_false]
  exact Bool.false_ne_true
 refine call_meets F.slot_list_extend ⟨_,e,rfl⟩ F.entry_list_extend (F.args_list_extend_2 _ _)
  (AutoSeq1.list_extend_list_list_0 l its.toArray n b its2.toArray n2 hlong (by rw[List.size_toArray];omega) (by omega)) ⟨e,e2,?_⟩
 refine⟨.non,_,I.lset (its':=its++its2) hH e (by simp) (r.append r2) ?_,rfl,q⟩
 rw[List.length_append]
 omega
noncomputable def rCat:R2:=fun x y H Q=>∃l b xs zs,x= .ref l/\y= .ref b/\H l=some (.lst xs)/\H b=some (.lst zs)/\xs.length+zs.length<=sizeLine/\∀p,H p=none->Q (.ref p) (upd H p (.lst (xs++zs)))
theorem op_cat:OpR X (binaryOp .Add) rCat:=by
 intro pins s σ H x y v u Q I rx ry h
 obtain⟨l,b,xs,zs,rfl,rfl,hH,hB,hz,q⟩:=h
 cases rx
 cases ry
 obtain⟨z,its,n,r,hl,e⟩:=I.lstM hH
 obtain⟨z2,its2,n2,r2,hl2,e2⟩:=I.lstM hB
 refine PySem.P.add_list e e2 ?_ (by rw[List.size_toArray,List.size_toArray];omega)
 have ea:its.toArray++its2.toArray=(its++its2).toArray:=by simp
 rw[ea]
 exact⟨.ref _,_,I.lnew (t':=s.toks) (r.append r2) (by rw[List.length_append];omega),rfl,q _ I.fresh⟩
end
section
variable{prog:Program}{w:World}{A:Around}{E:Value->Shared->Prop}{s:Shared}
end
section
variable{X:Cx}
end
end L2
namespace Att
open PySem PySem.W PySem.Calls PyProof.Rows
theorem ints_of_wellAll{P:Params}{h:Heap}:∀(ns:List Int) (vs:List Value),WellAll P h vs (ns.map WData.int)->IntsAre vs ns:=by
 intro ns
 induction ns with
 |nil=>
  intro vs w
  rw[List.map_nil]at w
  cases w
  exact .nil
 |cons n ns ih=>
  intro vs w
  rw[List.map_cons]at w
  cases w with
  |cons a b=>
   cases a
   exact .cons _ _ (ih _ b)
theorem script_of{l:OpenLaw}{n:Nat}(hn:l.most=some n){P:Params}{h:Heap}{args:List WData}{vals:List Value}(hpre:l.row.toRowW.claim.pre args=true)(hwl:WellAll P h vals args):
  ∃a vs ns,vals=[Value.ref a]/\args=[WData.list (ns.map WData.int)]/\h.get? a=some {cls:= .type "list",data:= .seq vs.toArray}/\IntsAre vs ns/\ns.length<=n:=by
 have hsh:WShape.hasAll [] args [.list .int]=true:=(pre_splitW hpre).1
 have hc:l.pre.holds [] {args:=args}=true:=(pre_splitW hpre).2
 obtain⟨d,r,rfl,h1,h2⟩:=hasAllW_cons hsh
 obtain rfl:=hasAllW_nil h2
 obtain⟨xs,rfl,h3⟩:=hasW_list h1
 obtain⟨ns,rfl⟩:=items_int h3
 have hlen:ns.length<=n:=by
  unfold OpenLaw.pre at hc
  have h4:(WTm.not (.lt (.lit (.int (n:Int))) (.len (.arg 0)))).holds [] {args:=[.list (ns.map .int)]}=true:=by
   have h4:=(holds_andW hc).1
   rw[hn]at h4
   exact h4
  have h5:=condW_of h4 (w_not (w_lt w_lit (w_len_list (w_arg rfl))))
  rw[List.length_map]at h5
  refine Nat.le_of_not_lt fun q=> ?_
  have q':(n:Int)<((ns.length:Nat):Int):=by omega
  first
   |(rw[decide_eq_true q']at h5;exact absurd h5 (by decide))
   |(simp at h5;omega)
 cases hwl with
 |cons w1 w2=>
  cases w2
  cases w1 with
  |list ho hall=>exact⟨_,_,ns,rfl,rfl,ho,ints_of_wellAll ns _ hall,hlen⟩
theorem post_true(l:OpenLaw)(args:List WData):l.row.toRowW.claim.post args (.bool true) args=true:=
 postW_of (r:=l.row.toRowW) (X:=(true==true))
  (show WShape.has [] (.bool true) .bool=true by first |rfl|decide|simp[WShape.has,WShape.arms,WShape.armsAll])
  (show(WTm.eq .res (.lit (.bool true))).value [] {args:=args,res:=some (.bool true),after:=args}=some (.bool (true==true))from w_eq_bool (w_res rfl) w_lit) rfl
theorem attach_call{l:OpenLaw}{n:Nat}{q:Program}{loose:List Str}{XP:(Str->Option Value)->Heap->Prop}{YP:World->Heap->Prop}{d:DefRec}(hn:l.most=some n)(hdf:d.params.defaults=[])(call:∀(w:World) (s₀ s₁:Shared) (mg mb:Str->Option Value) (fa:Addr) (o:Obj) (pm cd doc:Value) (a:Addr) (vs:List Value) (ns:List Int),
   Ground q loose [] XP w s₀ mg mb s₁.heap->YP w s₁.heap->
   s₁.heap.get? fa=some o->o.data= .func (docDef d.name d.params d.body d.scope pm cd doc)->s₁.heap.CodeRec cd d.name->mg d.name=some (.ref fa)->
   s₁.heap.get? a=some {cls:= .type "list",data:= .seq vs.toArray}->IntsAre vs ns->ns.length<=n->s₁.gens=#[]->
   codeAny (model l.prog w) callerA (.call (.ref fa) ⟨[.ref a],[]⟩) (fun r s'=>r= .ok (.ret (.bool true))/\OldK s₁.heap s'.heap/\s'.os=s₁.os/\AllBare s'.gens) s₁):
  WalkO q loose XP YP l.row.toRowW d [] (fun f vs=>PySem.call f vs):=by
 intro w s₀ s₁ mg mb G Y fa o pm cd doc dV kV ho hd hcd hD hmg hg args vals as hpre hlay hrd hwl hlo
 obtain rfl:dV= .none:=Dflts.none hD hdf
 obtain rfl:kV= .none:=Dflts.noKw hD
 obtain⟨a,vs,ns,rfl,rfl,hobj,hints,hlen⟩:=script_of hn hpre hwl
 refine enter_call (codeAny_mono (call w s₀ s₁ mg mb fa o pm cd doc a vs ns G Y ho (fd_plain hd) hcd hmg hobj hints hlen hg) fun r s' hq=> ?_)
 obtain⟨rfl,h2,h3,h4⟩:=hq
 exact⟨.inl ⟨.bool true,.bool true,[],rfl,fun _=>rfl,.bool true,post_true l _,fun _=>⟨List.Pairwise.nil,fun _ hm=>(nomatch hm)⟩⟩,h2,h3,h4⟩
section
variable{prog:Program}{w:World}{A:Around}{E:Value->Shared->Prop}{s:Shared}{K:Frag}
end
end Att
namespace L2
open PySem PySem.Spec PyProof.Rows
theorem vals_ints:∀{vs:List Value} {ns:List Int},IntsAre vs ns->Vals (ns.map V.int) vs
 |_,_,.nil=> .nil
 |_,_,.cons n t h=> .cons ⟨t,rfl⟩ (vals_ints h)
noncomputable def Only(H:Hp):Prop:=∀b,H b=none\/∃o xs,H b=some (.frz o (.lst xs))
theorem law_call{P:Program}{w:World}{K:W.Frag}{mg mb:Str->Option Value}{CX:CXT}{k:Nat}{fa a:Addr}{fd:FuncData}{x:Str}{sp:Sp}{s₁:Shared}{vs:List Value}{ns:List Int}
  (KX:K.In s₁.heap)(hns:s₁.heap.Ns mainGlobals mg)(hb:s₁.heap.Ns builtinsNs mb)(hbb:∀x:Str,x≠"__name__"->mb x=bootBuiltins x)(hlim:s₁.heap.NoLimit)(hg:s₁.gens=#[])(ha:s₁.heap.get? a=some {cls:= .type "list",data:= .seq vs.toArray})(hi:IntsAre vs ns)(hl:ns.length<=sizeLine)(hr:Room k callerA)
  (F:∀base:Heap,K.In base->base.Ns mainGlobals mg->FnOk P w K mg base CX k fa fd [x] sp)(hbind:∀(s:Shared) (u:Value),BindsTo s fd ⟨[u],[]⟩ [(x,u)])(hsp:∀H:Hp,Only H->SqL K H a (ns.map V.int)->sp [.ref a] H (fun v _=>v= .bl true) fun _ _ _=>False)(hCX:∀H e s',CX [] H s₁ (fun _ _ _=>False) e s'->False):
  codeAny (model P w) callerA (.call (.ref fa) ⟨[.ref a],[]⟩) (fun r s'=>r= .ok (.ret (.bool true))/\OldK s₁.heap s'.heap/\s'.os=s₁.os/\AllBare s'.gens) s₁:=by
 have rv:=vals_ints hi
 have lenV:=hi.length
 -- from an abstract heap in which nothing but the script may be tracked
 have core:∀H:Hp,Only H->SqL K H a (ns.map V.int)->HOk P w H s₁.heap->(∀b,H b≠none->b=a)->(H a≠none->K.lookup a=none)->
   codeAny (model P w) callerA (.call (.ref fa) ⟨[.ref a],[]⟩) (fun r s'=>r= .ok (.ret (.bool true))/\OldK s₁.heap s'.heap/\s'.os=s₁.os/\AllBare s'.gens) s₁:=by
  intro H hO hS hok hA hK
  have base_of:∀{b:Addr} {o:Obj},s₁.heap.get? b=some o->H b=none->(hidT s₁.heap H).get? b=some o:=fun e n=>hidT_get e n
  have noA:∀{b:Addr} {o:Obj} {es:Array DictEntry} {ep:Nat},s₁.heap.get? b=some o->o.data= .dict es ep->H b=none:=fun{b o es ep} e d=>by
   cases q:H b with
   |none=>rfl
   |some u=>
    have e':b=a:=hA b (by rw[q];simp)
    subst e'
    rw[ha]at e;cases e
    have d':Data.seq vs.toArray _=Data.dict es ep:=d
    cases d'
  have nsK:∀{b:Addr} {m:Str->Option Value},s₁.heap.Ns b m->(hidT s₁.heap H).Ns b m:=fun{b m} ⟨o,es,ep,e,d,r⟩=>⟨o,es,ep,base_of e (noA e d),d,r⟩
  have hKb:K.In (hidT s₁.heap H):=fun b o e=>base_of (KX b o e) (by
   cases q:H b with
   |none=>rfl
   |some u=>
    have e':b=a:=hA b (by rw[q];simp)
    subst e'
    rw[hK (by rw[q];simp)]at e;cases e)
  have hM:Mod K mg (hidT s₁.heap H):=⟨hKb,nsK hns,⟨mb,nsK hb,hbb⟩,let⟨mc,h1,h2⟩:=hlim;⟨mc,nsK h1,h2⟩⟩
  have e0:Env0 P w K mg (hidT s₁.heap H) callerA [] s₁ H:=⟨rfl,hM,fun b o e=>of_hidT e,Nat.le_of_eq (hidT_size _ _),trivial,fun b hb=>absurd (show b∈([]:List Addr)from hb) (by simp),hok,.of_eq hg⟩
  refine codeAny_mono ((F _ hKb (nsK hns)).run callerA [] s₁ H ⟨[.ref a],[]⟩ [.ref a] [.ref a] _ _ hr e0 (hbind s₁ (.ref a)) (.cons rfl .nil) (hsp H hO hS)) fun r s' h=> ?_
  cases r with
  |error e=>exact(hCX H e s' h).elim
  |ok fl=>
   cases fl with
   |next=>exact False.elim h
   |brk=>exact False.elim h
   |cont=>exact False.elim h
   |ret u=>
    obtain⟨v,H',os,bare,un,hok',r',q⟩:=h
    have q':v= .bl true:=q
    subst q'
    obtain rfl:u=Value.bool true:=r'
    refine⟨rfl,OldK.of_keep fun b o e=> ?_,os,bare⟩
    cases q:H b with
    |none=>exact un.keep b o e q (by intro z;exact absurd (show b∈([]:List Addr)from z) (by simp)) (by simp)
    |some u=>
     rcases hO b with z|⟨ob,xs,z⟩
     ·rw[q]at z;cases z
     ·have z2:=un.frzs b ob _ z
      obtain⟨e1,_⟩:=hok b _ z
      obtain⟨e2,_⟩:=hok' b _ z2
      rw[e]at e1;cases e1
      exact e2
 cases hk:K.lookup a with
 |some o=>
  -- the script is one of the module's own objects
  have e:=KX a o hk
  rw[ha]at e
  cases e
  refine core (fun _=>none) (fun _=> .inl rfl) (.inr ⟨_,vs.toArray,_,hk,rfl,rfl,rfl,by rw[List.size_toArray,lenV];exact hl,by simpa using rv⟩) (fun b u z=>by have z':(none:Option HO)=some u:=z;cases z') (fun b z=>absurd rfl z) fun z=>absurd rfl z
 |none=>
  refine core (fun b=>if b=a then some (.frz {cls:= .type "list",data:= .seq vs.toArray} (.lst (ns.map V.int)))else none) (fun b=> ?_) (.inl (.inr ⟨{cls:= .type "list",data:= .seq vs.toArray},if_pos rfl⟩)) (fun b u z=> ?_) (fun b z=> ?_) fun _=>hk
  ·by_cases hb:b=a
   ·exact .inr ⟨_,_,if_pos hb⟩
   ·exact .inl (if_neg hb)
  ·by_cases hb:b=a
   ·have z':=(if_pos hb).symm.trans z
    cases z'
    subst hb
    exact⟨ha,by rw[List.length_map];exact hl,vs,_,rv,ha⟩
   ·have z':=(if_neg hb).symm.trans z
    cases z'
  ·by_cases hb:b=a
   ·exact hb
   ·exact absurd (if_neg hb) z
end L2
namespace L2
open PySem PySem.Spec PyProof.Rows
theorem walk_of{l:PySem.W.OpenLaw}{n k:Nat}{q:Program}{loose:List Str}{XP:(Str->Option Value)->Heap->Prop}{YP:World->Heap->Prop}{d:DefRec}{K:Params->PySem.W.Frag}{CX:World->CXT}{sp:World->Sp}{x:Str}(hn:l.most=some n)(hn2:n<=sizeLine)(hdf:d.params.defaults=[])(hr:Room k callerA)(hY:∀(w:World) (h:Heap),YP w h->(K w.params).In h)
  (F:∀(w:World) (mg:Str->Option Value) (fa:Addr) (h:Heap),(K w.params).In h->h.Ns mainGlobals mg->mg d.name=some (.ref fa)->
   ∃fd:FuncData,(∀(s:Shared) (u:Value),BindsTo s fd ⟨[u],[]⟩ [(x,u)])/\
    ∀base:Heap,(K w.params).In base->base.Ns mainGlobals mg->FnOk l.prog w (K w.params) mg base (CX w) k fa fd [x] (sp w))(hsp:∀(w:World) (H:Hp) (a:Addr) (ns:List Int),ns.length<=n->Only H->SqL (K w.params) H a (ns.map V.int)->sp w [.ref a] H (fun v _=>v= .bl true) fun _ _ _=>False)(hCX:∀(w:World) (H:Hp) (s:Shared) (e:Value) (s':Shared),CX w [] H s (fun _ _ _=>False) e s'->False):
  PySem.W.WalkO q loose XP YP l.row.toRowW d [] (fun f vs=>PySem.call f vs):=by
 refine Att.attach_call hn hdf fun w s₀ s₁ mg mb fa o pm cd doc a vs ns G Y ho hd hcd hmg hobj hints hlen hg=> ?_
 have KX:=hY w _ Y
 obtain⟨fd,hb,hF⟩:=F w mg fa _ KX G.T.g hmg
 exact law_call KX G.T.g G.T.b G.T.builtins G.T.nolimit hg hobj hints (Nat.le_trans hlen hn2) hr hF hb (fun H hO hS=>hsp w H a ns hlen hO hS) fun H e s'=>hCX w H s₁ e s'
end L2
namespace L2
open PySem PySem.Spec PyProof.Rows
noncomputable def defArgs(s:Stmt):Arguments:=match s with
 | .FunctionDef _ a _ _ _ _ _ _ _ _=>a
 |_=>{posonlyargs:=[],args:=[],vararg:=none,kwonlyargs:=[],kw_defaults:=[],kwarg:=none,defaults:=[]}
noncomputable def defBody(s:Stmt):List Stmt:=match s with
 | .FunctionDef _ _ b _ _ _ _ _ _ _=>b
 |_=>[]
noncomputable def defScope(s:Stmt):Scope:=match s with
 | .FunctionDef _ _ _ _ _ _ sc _ _ _=>sc
 |_=>{kind:= .function,names:=[],isGenerator:=false,isCoroutine:=false}
noncomputable abbrev CX0:CXT:=fun _ _ _ _ _ _=>False
noncomputable abbrev E0:XK:=fun _ _ _=>False
theorem pass0{X:Cx}:Passes CX0 X E0:=fun _ _ _ _ _ _ _ h=>h.elim
structure Fun(K:W.Frag)(x qual:Str)(st:Stmt)(f:Addr)(fd:FuncData):Prop where
 ex:∃(oc:Value) (od:Option Addr) (kV doc pm:Value) (an:Option Addr) (cdv ct:Value) (osl:Array (Option Value)),
  fd=PySem.W.fnOf x qual (defArgs st) (defBody st) (defScope st) .none kV doc pm an cdv ct/\K.lookup f=some ⟨oc,od,.func fd,osl⟩/\PySem.W.codeIn K cdv qual=true
 kp:PySem.W.keepIn K (.ref f)=true
section
variable{P:Program}{w:World}{K:W.Frag}{mg:Str->Option Value}{base:Heap}
theorem Fun.ok{x qual:Str}{st:Stmt}{f:Addr}{fd:FuncData}{N ps:List Str}{k:Nat}{sp:Sp}(F:Fun K x qual st f fd)(S:FnScope N ps (defScope st))(len:∀vs H Q E,sp vs H Q E->vs.length=ps.length)(hbody:∀(cdv:Value) (A:Around) (outer:List Env) (s:Shared) (H:Hp) (vs:List V) (Q:VK) (E:XK),Room k (A.deeper (envOfC qual (defScope st) s.heap.objs.size f cdv))->sp vs H Q E->
   ∃t,PSs (cxOf CX0 P w K mg base N qual (defScope st) f cdv A outer s H E).nox (defBody st) t/\t {nx:=fun _ H'=>Q .non H',rt:=Q} (start N vs) H):FnOk P w K mg base CX0 (k+1) f fd ps sp:=by
 obtain⟨oc,od,kV,doc,pm,an,cdv,ct,osl,rfl,lk,hcd⟩:=F.ex
 refine fn_of lk hcd S len fun A outer s H vs Q E hr hsp=> ?_
 obtain⟨t,h,q⟩:=hbody cdv A outer s H vs Q E hr hsp
 exact⟨t,h.nox,q⟩
theorem Fun.binds{x qual:Str}{st:Stmt}{f:Addr}{fd:FuncData}{ps:List Str}(F:Fun K x qual st f fd)(h:∀(kV doc pm:Value) (an:Option Addr) (cdv ct:Value) (us:List Value),us.length=ps.length->bindArgs (PySem.W.fnOf x qual (defArgs st) (defBody st) (defScope st) .none kV doc pm an cdv ct) ⟨us,[]⟩=pure (ps.zip us)):Binds K fd ps []:=by
 obtain⟨oc,od,kV,doc,pm,an,cdv,ct,osl,rfl,lk,hcd⟩:=F.ex
 exact .all (h kV doc pm an cdv ct)
theorem zbq{x qual:Str}{st:Stmt}{f:Addr}{oc:Value}{od an:Option Addr}{osl:Array (Option Value)}{kV doc pm cdv ct:Value}(l:K.lookup f=some ⟨oc,od,.func (PySem.W.fnOf x qual (defArgs st) (defBody st) (defScope st) .none kV doc pm an cdv ct),osl⟩)(c:PySem.W.codeIn K cdv qual=true)(k:PySem.W.keepIn K (.ref f)=true):Fun K x qual st f (PySem.W.fnOf x qual (defArgs st) (defBody st) (defScope st) .none kV doc pm an cdv ct):=⟨⟨oc,od,kV,doc,pm,an,cdv,ct,osl,rfl,l,c⟩,k⟩
end
theorem small1000{n:Nat}(h:n<=1000):n<sizeLine:=Nat.lt_of_le_of_lt h (by decide)
section
variable{X:Cx}
theorem pv(i:Nat){x:Str}{pos:Pos}(hN:X.N[i]? =some x:=by rfl)(hv:Vis X.env.scope x:=by first |exact Or.inl rfl|exact Or.inr (Or.inl rfl)|exact Or.inr (Or.inr rfl))(hd:(x==("__debug__":Str))=false:=by decide)(hcd:(x==("__classdict__":Str))=false:=by decide):PE X (.Name x pos) (tVar i):=pe_var hN hv hd hcd
end
theorem iteF{A B:Prop}(h:B):if false=true then A else B:=by
 rw[if_neg Bool.false_ne_true]
 exact h
theorem iteT{A B:Prop}(h:A):if true=true then A else B:=by
 rw[if_pos rfl]
 exact h
theorem ite2{c A B:Prop} [Decidable c](h1:c->A)(h2:¬c->B):if c then A else B:=by
 by_cases h:c
 ·rw[if_pos h]
  exact h1 h
 ·rw[if_neg h]
  exact h2 h
theorem iteNS{c A B:Prop} [Decidable c](hc:c)(h:B):if(!decide c)=true then A else B:=by
 rw[decide_eq_true hc]
 exact iteF h
noncomputable def Same(H H':Hp):Prop:=∀b o,H b=some o->H' b=some o
theorem Same.refl(H:Hp):Same H H:=fun _ _ h=>h
theorem Same.trans{H H1 H2:Hp}(a:Same H H1)(b:Same H1 H2):Same H H2:=fun c o h=>b c o (a c o h)
theorem Same.free{H H':Hp}(e:Same H H'){l:Addr}(h:H' l=Option.none):H l=Option.none:=by
 cases q:H l with
 |none=>rfl
 |some o=>
  rw[e l o q]at h
  cases h
theorem Same.seq{K:W.Frag}{H H':Hp}{a:Addr}{xs:List V}(e:Same H H')(h:SqL K H a xs):SqL K H' a xs:=by
 rcases h with(h|⟨o,h⟩)|h
 ·exact .inl (.inl (e _ _ h))
 ·exact .inl (.inr ⟨o,e _ _ h⟩)
 ·exact .inr h
end L2
set_option maxHeartbeats 4000000
namespace L2
open PySem PySem.Spec PyProof.Rows
noncomputable def clOf(cells:List (Str×Addr)):List (Str×NameKind)->List (Str×Addr)->List (Str×Addr)
 |[],acc=>acc
 |p::r,acc=>clOf cells r (if(p.2==NameKind.free)=true then(p.1,(cells.lookup p.1).getD 0)::acc else acc)
theorem clOf_mem{cells:List (Str×Addr)}:∀{names:List (Str×NameKind)} {acc:List (Str×Addr)} {x:Str} {c:Addr},(x,c)∈clOf cells names acc->(x,c)∈acc\/c=(cells.lookup x).getD 0/\(x,NameKind.free)∈names
 |[],_,_,_,h=> .inl h
 |(n,k)::r,acc,x,c,h=>by
  rcases clOf_mem (names:=r) h with q|⟨q,m⟩
  ·dsimp only at q
   split at q
   ·rename_i hk
    rcases List.mem_cons.mp q with e|e
    ·cases e
     have:k=NameKind.free:=by simpa using hk
     subst this
     exact .inr ⟨rfl,List.mem_cons_self⟩
    ·exact .inl e
   ·exact .inl q
  ·exact .inr ⟨q,List.mem_cons_of_mem _ m⟩
theorem clOf_acc{cells:List (Str×Addr)}:∀{names:List (Str×NameKind)} {acc:List (Str×Addr)} {p:Str×Addr},p∈acc->p∈clOf cells names acc
 |[],_,_,h=>h
 |(n,k)::r,acc,p,h=>by
  refine clOf_acc (names:=r) ?_
  split
  ·exact List.mem_cons_of_mem _ h
  ·exact h
theorem clOf_has{cells:List (Str×Addr)}:∀{names:List (Str×NameKind)} {acc:List (Str×Addr)} {x:Str},(x,NameKind.free)∈names->∃c,(x,c)∈clOf cells names acc
 |(n,k)::r,acc,x,h=>by
  rcases List.mem_cons.mp h with e|e
  ·cases e
   refine⟨(cells.lookup n).getD 0,clOf_acc (names:=r) ?_⟩
   rw[if_pos (show(NameKind.free==NameKind.free)=true from rfl)]
   exact List.mem_cons_self
  ·exact clOf_has (names:=r) e
theorem zby{β:Type}:∀{l:List (Str×β)} {x:Str} {c:β},(x,c)∈l->∃d,l.lookup x=some d/\(x,d)∈l
 |(n,k)::r,x,c,h=>by
  cases hx:x==n with
  |true=>
   have e:x=n:=by simpa using hx
   subst e
   exact⟨k,by simp[List.lookup_cons],List.mem_cons_self⟩
  |false=>
   rcases List.mem_cons.mp h with e|e
   ·cases e;simp at hx
   ·obtain⟨d,h1,h2⟩:=zby e
    exact⟨d,by simp only[List.lookup_cons,hx];exact h1,List.mem_cons_of_mem _ h2⟩
noncomputable def compOk(sc scope:Scope):Bool:=scope.names.all fun p=>(p.2 !=NameKind.cell)&&(p.2 !=NameKind.local||scope.names.lookup p.1==some NameKind.local)&&
 (p.2 !=NameKind.free||sc.names.lookup p.1==some NameKind.cell||sc.names.lookup p.1==some NameKind.free)
section
variable{sc scope:Scope}
theorem compOk.cell(h:compOk sc scope=true):∀y∈scope.names,y.2≠.cell:=fun y hy e=>by
 have q:=List.all_eq_true.mp h y hy
 simp[e]at q
theorem compOk.names(h:compOk sc scope=true):∀y∈scope.names,y.2= .local->scope.names.lookup y.1=some .local:=fun y hy e=>by
 have q:=List.all_eq_true.mp h y hy
 simpa[e]using q
theorem compOk.free(h:compOk sc scope=true){x:Str}(hy:(x,NameKind.free)∈scope.names):sc.names.lookup x=some .cell\/sc.names.lookup x=some .free:=by
 have q:=List.all_eq_true.mp h _ hy
 simpa using q
end
theorem closure_of{scope:Scope}{env:Env}(h:∀x,(x,NameKind.free)∈scope.names->∃c,env.cells.lookup x=some c):closureFor scope env=pure (clOf env.cells scope.names []):=by
 have key:∀(names:List (Str×NameKind)) (acc:List (Str×Addr)),(∀x,(x,NameKind.free)∈names->∃c,env.cells.lookup x=some c)->
   (forIn names acc fun(x:Str×NameKind) (cs:List (Str×Addr))=>if(x.2==NameKind.free)=true then(do let y<-cellOf env x.1;pure (ForInStep.yield ((x.1,y)::cs)))else pure (ForInStep.yield cs):Sem (List (Str×Addr)))=pure (clOf env.cells names acc):=by
  intro names
  induction names with
  |nil=>intro acc _;rfl
  |cons p r ih=>
   intro acc hh
   obtain⟨n,k⟩:=p
   rw[List.forIn_cons]
   dsimp only
   by_cases hk:(k==NameKind.free)=true
   ·have e:k=NameKind.free:=by simpa using hk
    subst e
    obtain⟨c,hc⟩:=hh n List.mem_cons_self
    rw[if_pos hk]
    unfold cellOf
    rw[hc]
    simp only[pure_bind]
    refine Eq.trans (ih _ fun x hx=>hh x (List.mem_cons_of_mem _ hx)) ?_
    show _=pure (clOf env.cells r (if(NameKind.free==NameKind.free)=true then(n,(env.cells.lookup n).getD 0)::acc else acc))
    rw[if_pos hk,hc]
    rfl
   ·rw[if_neg hk]
    simp only[pure_bind]
    refine Eq.trans (ih _ fun x hx=>hh x (List.mem_cons_of_mem _ hx)) ?_
    show _=pure (clOf env.cells r (if(k==NameKind.free)=true then(n,(env.cells.lookup n).getD 0)::acc else acc))
    rw[if_neg hk]
 have q:=key scope.names [] h
 unfold closureFor
 simp only[bind_pure]
 exact q
theorem zdb{env:Env}:∀{names:List (Str×NameKind)} {x:Str} {k:NameKind},names.lookup x=some k->
  (names.map fun(n,k)=>if(k==NameKind.free&&env.scope.kind== .function&&env.kindOf n==some .cell)then(n,NameKind.cell)else(n,k)).lookup x=some (if(k==NameKind.free&&env.scope.kind== .function&&env.kindOf x==some .cell)=true then .cell else k)
 |[],_,_,h=>by simp at h
 |(n,k)::r,x,k',h=>by
  have ih:= @zdb env r x k'
  show List.lookup x ((if(k==NameKind.free&&env.scope.kind== .function&&env.kindOf n==some .cell)=true then(n,NameKind.cell)else(n,k))::_)=_
  cases hx:x==n with
  |true=>
   have e:x=n:=by simpa using hx
   subst e
   simp only[List.lookup_cons,hx]at h
   cases h
   by_cases hc:(k==NameKind.free&&env.scope.kind== .function&&env.kindOf x==some .cell)=true
   ·rw[if_pos hc,if_pos hc];simp[List.lookup_cons]
   ·rw[if_neg hc,if_neg hc];simp[List.lookup_cons]
  |false=>
   simp only[List.lookup_cons,hx]at h
   by_cases hc:(k==NameKind.free&&env.scope.kind== .function&&env.kindOf n==some .cell)=true
   ·rw[if_pos hc];simp only[List.lookup_cons,hx];exact ih h
   ·rw[if_neg hc];simp only[List.lookup_cons,hx];exact ih h
theorem relab_none{env:Env}:∀{names:List (Str×NameKind)} {x:Str},names.lookup x=none->
  (names.map fun(n,k)=>if(k==NameKind.free&&env.scope.kind== .function&&env.kindOf n==some .cell)then(n,NameKind.cell)else(n,k)).lookup x=none
 |[],_,_=>rfl
 |(n,k)::r,x,h=>by
  have ih:= @relab_none env r x
  show List.lookup x ((if(k==NameKind.free&&env.scope.kind== .function&&env.kindOf n==some .cell)=true then(n,NameKind.cell)else(n,k))::_)=_
  cases hx:x==n with
  |true=>simp only[List.lookup_cons,hx]at h;cases h
  |false=>
   simp only[List.lookup_cons,hx]at h
   by_cases hc:(k==NameKind.free&&env.scope.kind== .function&&env.kindOf n==some .cell)=true
   ·rw[if_pos hc];simp only[List.lookup_cons,hx];exact ih h
   ·rw[if_neg hc];simp only[List.lookup_cons,hx];exact ih h
theorem relab_cell{scope:Scope}{env:Env}{x:Str}(hc:∀y∈scope.names,y.2≠.cell)(h:(relabel scope env).names.lookup x=some .cell\/(relabel scope env).names.lookup x=some .free):(x,NameKind.free)∈scope.names:=by
 cases e:scope.names.lookup x with
 |none=>
  have q:=relab_none (env:=env) e
  rcases h with h|h
  ·rw[show(relabel scope env).names.lookup x=none from q]at h;cases h
  ·rw[show(relabel scope env).names.lookup x=none from q]at h;cases h
 |some k=>
  have q:=zdb (env:=env) e
  have m:=PySem.mem_of_lookup e
  by_cases hk:k= .free
  ·subst hk;exact m
  ·have q':(relabel scope env).names.lookup x=some k:=by
    refine Eq.trans q ?_
    have:(k==NameKind.free)=false:=by simpa using hk
    simp[this]
   rw[q']at h
   rcases h with h|h
   ·cases h;exact absurd rfl (hc _ m)
   ·cases h;exact absurd rfl hk
theorem relab_free{scope:Scope}{env:Env}{x:Str}(h:scope.names.lookup x=some .free):(relabel scope env).names.lookup x=some .cell\/(relabel scope env).names.lookup x=some .free:=by
 have q:=zdb (env:=env) h
 by_cases hc:((NameKind.free==NameKind.free)&&env.scope.kind== .function&&env.kindOf x==some .cell)=true
 ·rw[if_pos hc]at q;exact .inl q
 ·rw[if_neg hc]at q;exact .inr q
noncomputable def compCx(X:Cx)(scope:Scope)(N:List Str)(s:Shared)(H:Hp)(cl:List (Str×Addr))(C:Addr)(ex:List Addr):Cx:=
 {X with N:=N,s₀:=s,H₀:=H,env:=compEnvC scope cl C X.env,outer:=X.stack,ex:=ex,fn:=fun _=>false,pn:=[],xe:=fun _ _=>False}
inductive Caps(X:Cx)(scope:Scope):List Str->List Nat->Prop
 |nil:Caps X scope [] []
 |cons {x:Str} {j:Nat} {xs:List Str} {js:List Nat} (hN:X.N[j]? =some x) (hf:scope.names.lookup x=some .free) (t:Caps X scope xs js):Caps X scope (x::xs) (j::js)
theorem Caps.get{X:Cx}{scope:Scope}:∀{xs:List Str} {js:List Nat} {k:Nat} {x:Str},Caps X scope xs js->xs[k]? =some x->∃j,js[k]? =some j/\X.N[j]? =some x/\scope.names.lookup x=some .free
 |_,_,k,x,.nil,h=>by simp at h
 |_,_,0,x,.cons h1 h2 _,h=>by simp at h;subst h;exact⟨_,rfl,h1,h2⟩
 |_,_,k+1,x,.cons _ _ t,h=>by
  obtain⟨j,a,b⟩:=Caps.get (k:=k) t (by simpa using h)
  exact⟨j,by simpa using a,b⟩
theorem Caps.len{X:Cx}{scope:Scope}:∀{xs:List Str} {js:List Nat},Caps X scope xs js->xs.length=js.length
 |_,_,.nil=>rfl
 |_,_,.cons _ _ t=>by simp[Caps.len t]
noncomputable def iniOf(own:List Str)(ix:List Nat)(σ:St):St:=own.map (fun _=>none)++ix.map fun j=>(σ[j]?).join
noncomputable def PTs(X:Cx)(ifs:List Expr)(t:TT):Prop:=
 ∀(pins:List (Addr×Obj)) (s:Shared) (σ:St) (H:Hp) (Q:Bool->Hp->Prop),Inv X pins σ H s->t σ H Q->
  wpAny (model X.prog X.w) X.A (forIn ifs true fun c r=>if r=true then do let ok<-isTrue c X.env (eval c X.env);pure (ForInStep.yield ok)else pure (ForInStep.yield r)) (TP X pins σ Q) X.xe s
theorem zdc{X:Cx}:PTs X [] (fun _ H Q=>Q true H):=fun _ _ _ H _ I h=>wpAny_tests_nil ⟨H,I,h⟩
theorem pts_one{X:Cx}{c:Expr}{t:TT}(h:PT X c t):PTs X [c] t:=fun pins s σ H Q I hq=>wpAny_tests_one (h pins s σ H Q I hq)
theorem HOk.add{P:Program}{w:World}{H:Hp}{h:Heap}{a:Addr}{o:HO}(x:HOk P w H h)(hn:H a=none)(new:ObjOk P w (upd H a o) h a o):HOk P w (upd H a o) h:=fun b u e=>by
 by_cases hb:b=a
 ·subst hb;rw[zab]at e;cases e;exact new
 ·rw[zaq hb]at e
  exact(x b u e).stay (fun c v _ q=>q) (fun c q=>by rw[zaq (zaj q hn)];exact q) fun c xs q=>by rw[zaq (zaj q hn)];exact q
theorem Un.add{fs ex:List Addr}{H H':Hp}{h h':Heap}{a:Addr}{o:HO}(u:Un fs ex H H' h h')(ha:h.objs.size<=a)(hn:H' a=none):Un fs ex H (upd H' a o) h h' where
 keep:=u.keep
 slot:=u.slot
 free:=fun b ob q n hx=>by rw[zaq (Nat.ne_of_lt (Nat.lt_of_lt_of_le (Heap.lt_size q) ha))];exact u.free b ob q n hx
 there:=u.there
 tups:=fun b xs q=>by have:=u.tups b xs q;rw[zaq (zaj this hn)];exact this
 frzs:=fun b ob xs q=>by have:=u.frzs b ob xs q;rw[zaq (zaj this hn)];exact this
 tbls:=fun b ps q=>by obtain⟨m,e⟩:=u.tbls b ps q;exact⟨m,by rw[zaq (zaj e hn)];exact e⟩
end L2
namespace L2
open PySem PySem.Spec PyProof.Rows
section
variable{X:Cx}{tg iter elt:Expr}{ifs:List Expr}{scope:Scope}{pos:Pos}{own caps:List Str}{ix:List Nat}{g:TG}{tc:TT}{te:TE}
theorem comp_entry{pins:List (Addr×Obj)}{s s':Shared}{σ:St}{H:Hp}{fp:List Addr}{C:Addr}{m:Str->Option Value}(ck:compOk X.env.scope scope=true)(hkind:scope.kind= .function)(hcap:Caps X scope caps ix)
  (I:Inv X pins σ H s)(f2:∀b∈fp,FpOk X pins H b)(hlt:∀b∈fp,b<s.heap.objs.size)(hC:s.heap.objs.size<=C)(hos:s'.os=s.os)(hg:AllBare s'.gens)(hk:∀b o,s.heap.get? b=some o->s'.heap.get? b=some o)(hn:s'.heap.Ns C m):
  Inv (compCx X scope (own++caps) s H (clOf X.env.cells scope.names []) C fp) [] (iniOf own ix σ) H s':=by
 have cl1:∀x c,(clOf X.env.cells scope.names []).lookup x=some c->X.env.cells.lookup x=some c:=fun x c e=>by
  rcases clOf_mem (PySem.mem_of_lookup e)with q|⟨q,mm⟩
  ·cases q
  ·obtain⟨d,hd⟩:=I.ok.has x (compOk.free ck mm)
   rw[hd]at q
   rw[hd,q];rfl
 have cl2:∀x,(x,NameKind.free)∈scope.names->∃c,(clOf X.env.cells scope.names []).lookup x=some c:=fun x mm=>by
  obtain⟨c,hc⟩:=clOf_has (cells:=X.env.cells) (acc:=[]) mm
  obtain⟨d,hd,_⟩:=zby hc
  exact⟨d,hd⟩
 have bsz:X.base.objs.size<=s.heap.objs.size:=Nat.le_trans I.ok.bsz I.sz
 refine⟨⟨I.ok.mod,hkind,I.ok.glob,I.ok.blt,hC,fun x y c h1 h2=>I.ok.inj x y c (cl1 x c h1) (cl1 y c h2),fun x hx=>cl2 x (relab_cell (compOk.cell ck) hx),fun x c h=>(nomatch h),I.ok.hd,I.ok.frames,.inl rfl,fun b hb=>⟨Nat.ne_of_lt (Nat.lt_of_lt_of_le (hlt b hb) hC),fun x c e=>(f2 b hb).2.2.2.2.1 x c (cl1 x c e)⟩,I.bs,bsz,
  fun b o e hb=> ?_,fun b hb hz=> ?_,I.stack,I.stkFree⟩,?_,hg,Un.kept hk,⟨m,hn,fun i x v h1 h2 h3=> ?_⟩,fun x c e=> ?_,I.hok.fresh hC,fun x c e=>I.freeC x c (cl1 x c e),fun p hp=>absurd (show p∈([]:List (Addr×Obj))from hp) (by simp),I.hok.kept hk,?_⟩
 ·rcases(f2 b hb).2.2.2.1 with z|z
  ·exact I.ok.noex b o e z
  ·exact absurd (Nat.lt_of_lt_of_le (Heap.lt_size e) (Nat.le_trans I.ok.bsz z)) (Nat.lt_irrefl _)
 ·rcases List.mem_cons.mp (I.stkSub b hz)with z|z
  ·exact(f2 b hb).2.1 z
  ·exact(f2 b hb).2.2.1 z
 ·exact hos
 ·have h1:(own++caps)[i]? =some x:=h1
  have h2:(own.map (fun _=>(none:Option V))++ix.map fun j=>(σ[j]?).join)[i]? =some (some v):=h2
  by_cases hi:i<own.length
  ·rw[List.getElem?_append_left (by simpa using hi),List.getElem?_map]at h2
   cases e:own[i]? <;>rw[e]at h2<;>simp at h2
  ·rw[List.getElem?_append_right (by simpa using hi)]at h2
   rw[List.getElem?_append_right (by omega)]at h1
   rw[List.length_map]at h2
   obtain⟨j,e1,e2,e3⟩:=hcap.get h1
   rw[List.getElem?_map,e1]at h2
   have h2':(σ[j]?).join=some v:=by simpa using h2
   have h4:σ[j]? =some (some v):=by
    cases q:σ[j]? with
    |none=>rw[q]at h2';cases h2'
    |some w=>rw[q]at h2';exact congrArg some h2'
   obtain⟨m0,hn0,hl0⟩:=I.loc
   have mm:=PySem.mem_of_lookup e3
   have vis:=compOk.free ck mm
   obtain⟨u,r,l⟩:=hl0 j x v e2 h4 (.inr vis)
   refine⟨u,r,.inr ?_⟩
   rcases l with⟨k,_⟩|⟨k,c,e,z⟩
   ·rcases vis with q|q
    ·rw[show X.env.kindOf x=some .cell from q]at k;cases k
    ·rw[show X.env.kindOf x=some .free from q]at k;cases k
   ·obtain⟨d,hd⟩:=cl2 x mm
    have:=cl1 x d hd
    rw[e]at this
    cases this
    exact⟨relab_free e3,c,hd,z.keeps hk⟩
 ·obtain⟨v,z⟩:=I.cell x c (cl1 x c e)
  exact⟨v,z.keeps hk⟩
 ·show(own.map (fun _=>(none:Option V))++ix.map fun j=>(σ[j]?).join).length=(own++caps).length
  simp[hcap.len]
theorem comp_core(ck:compOk X.env.scope scope=true)(hkind:scope.kind= .function)(hcap:Caps X scope caps ix)(hc:X.calm=true)(hg:∀s H cl C ex,PG (compCx X scope (own++caps) s H cl C ex) tg g)(ht:∀s H cl C ex,PTs (compCx X scope (own++caps) s H cl C ex) ifs tc)(he:∀s H cl C ex,PE (compCx X scope (own++caps) s H cl C ex) elt te){pins:List (Addr×Obj)}{s2:Shared}{σ:St}{H2:Hp}{E:Value->Shared->Prop}(I2:Inv X pins σ H2 s2){it:Addr}{fp:List Addr}{tn:Nat->Heap->Prop}{J:It}(T:Turn X.prog X.w X.K tg J fp it tn)(st2:tn 0 s2.heap)(f2:∀b∈fp,FpOk X pins H2 b)
  {W:Nat->Nat->List V->St->Hp->Prop}{m0:Nat}(w0:W 0 m0 [] (iniOf own ix σ) H2){Fin:List V->Hp->Prop}(turn:∀i m acc σ H,W i m acc σ H->(J.stop i H/\acc.length<=sizeLine/\Fin acc H)\/(J.go i H/\acc.length<sizeLine/\∃N:List V->St->Hp->Prop,(∀acc' σ' H',N acc' σ' H'->∃m',m'<m/\W (i+1) m' acc' σ' H')/\∀x H',J.yld i H x H'->g x σ H' fun σ2 H2=>tc σ2 H2 fun b H3=>
   if b=true then te σ2 H3 fun v H4=>N (acc++[v]) σ2 H4 else N acc σ2 H3))
  {RR:Value->Addr->Result->Shared->Prop}(hRR:∀D C s' acc Hf m,Inv X pins σ (upd Hf D (.lst acc)) s'->Hf D=none->s'.heap.Ns C m->FpOk X pins (upd Hf D (.lst acc)) C->Fin acc Hf->RR (.ref D) C (.ok .next) s'):
  wpAny (model X.prog X.w) X.A (newList []) (fun acc s₃=>wpAny (model X.prog X.w) X.A (newFunctionEnv scope X.env.globals (clOf X.env.cells scope.names []) [] X.env.qual none .none (some X.env)) (fun cenv s₄=>
   codeAny (model X.prog X.w) X.A (.compStart (.ListComp elt [⟨tg,iter,ifs,0⟩] scope pos) 0 (.ref it) acc {cenv with scope:=relabel scope X.env}) (RR acc cenv.locals) s₄) E s₃) E s2:=by
 refine wpAny_newObj_type (wpAny_newFunctionEnv (compOk.cell ck) (by intro y hy;simp at hy) (fun h₁ hns₁ hsb₁=> ?_) hkind)
 dsimp only at hns₁ hsb₁⊢
 generalize hP:s2.heap.push {cls:= .type "list",dict:=none,data:= .seq ([]:List Value).toArray}=P1 at hns₁ hsb₁⊢
 have hC:P1.objs.size=s2.heap.objs.size+1:=by rw[<-hP,Heap.size_push]
 have hlt:∀b∈fp,b<s2.heap.objs.size:=fun b hb=>by
  obtain⟨o,e,_⟩:=T.obj _ _ st2 b hb
  exact Heap.lt_size e
 have old:∀b o,s2.heap.get? b=some o->h₁.get? b=some o:=fun b o e=>
  hsb₁.extBut b o (by rw[hC];exact Nat.ne_of_lt (Nat.lt_succ_of_lt (Heap.lt_size e))) (Heap.get?_push_of_some _ (hP▸Heap.get?_push_of_some _ e))
 have hD1:h₁.get? s2.heap.objs.size=some {cls:= .type "list",data:= .seq ([]:List Value).toArray 0}:=
  hsb₁.extBut _ _ (by rw[hC];exact Nat.ne_of_lt (Nat.lt_succ_self _)) (Heap.get?_push_of_some _ (hP▸Heap.get?_push_size _ rfl))
 generalize hDD:s2.heap.objs.size=D at *
 rw[hC]at hns₁⊢
 have entry:Inv (compCx X scope (own++caps) s2 H2 (clOf X.env.cells scope.names []) (D+1) fp) [] (iniOf own ix σ) H2 {s2 with heap:=h₁,toks:=s2.toks+([]:List (Str×Value)).length}:=
  comp_entry ck hkind hcap I2 f2 (by rw[hDD];exact hlt) (by rw[hDD];exact Nat.le_succ _) rfl I2.bare old hns₁
 generalize hX':compCx X scope (own++caps) s2 H2 (clOf X.env.cells scope.names []) (D+1) fp=X' at entry
 have eP:X'.prog=X.prog:=by rw[<-hX'];rfl
 have ew:X'.w=X.w:=by rw[<-hX'];rfl
 have eK:X'.K=X.K:=by rw[<-hX'];rfl
 have eA:X'.A=X.A:=by rw[<-hX'];rfl
 have ecalm:X'.calm=true:=by rw[<-hX'];exact hc
 have efs:X'.fs=frs X.stack:=by rw[<-hX'];rfl
 have eex:X'.ex=fp:=by rw[<-hX'];rfl
 have epn:X'.pn=[]:=by rw[<-hX'];rfl
 have es0:X'.s₀=s2:=by rw[<-hX'];rfl
 have eH0:X'.H₀=H2:=by rw[<-hX'];rfl
 have exe:X'.xe=fun _ _=>False:=by rw[<-hX'];rfl
 have eenv:X'.env=compEnvC scope (clOf X.env.cells scope.names []) (D+1) X.env:=by rw[<-hX'];rfl
 have eloc:X'.env.locals=D+1:=by rw[eenv];rfl
 have hg':PG X' tg g:=by rw[<-hX'];exact hg _ _ _ _ _
 have ht':PTs X' ifs tc:=by rw[<-hX'];exact ht _ _ _ _ _
 have he':PE X' elt te:=by rw[<-hX'];exact he _ _ _ _ _
 have ecl:∀x c,X'.env.cells.lookup x=some c->c<D:=fun x c e=>by
  obtain⟨v,o,ho,_⟩:=entry.cell x c e
  have hcn:=entry.freeC x c e
  -- a cell of the enclosing frame: it lies in s2's heap
  rw[eenv]at e
  rcases clOf_mem (PySem.mem_of_lookup e)with q|⟨q,mm⟩
  ·cases q
  ·obtain⟨d,hd⟩:=I2.ok.has x (compOk.free ck mm)
   rw[hd]at q
   have q:c=d:=q
   subst q
   obtain⟨v',o',ho',_⟩:=I2.cell x c hd
   rw[<-hDD]
   exact Heap.lt_size ho'
 have dfs:D∉frs X.stack:=fun hb=>by
  rcases List.mem_cons.mp (I2.stkSub D hb)with z|z
  ·exact absurd (Nat.lt_of_lt_of_eq I2.lt hDD) (by rw[z];exact Nat.lt_irrefl _)
  ·exact I2.nofs (Nat.le_of_eq hDD) z
 have fpn:∀{H':Hp} {o:Obj},(∀b∈fp,H' b=none)->∀b∈fp,FpOk X' [(D,o)] H' b:=fun{H' o} hn b hb=>by
  have hbl:=hlt b hb
  refine⟨hn b hb,by rw[eloc];exact Nat.ne_of_lt (Nat.lt_succ_of_lt hbl),?_,.inl (by rw[eex];exact hb),fun x c e=> ?_,fun p hp=> ?_⟩
  ·rw[efs]
   intro z
   rcases List.mem_cons.mp (I2.stkSub b z)with z|z
   ·exact(f2 b hb).2.1 z
   ·exact(f2 b hb).2.2.1 z
  ·rw[eenv]at e
   rcases clOf_mem (PySem.mem_of_lookup e)with q|⟨q,mm⟩
   ·cases q
   ·obtain⟨d,hd⟩:=I2.ok.has x (compOk.free ck mm)
    rw[hd]at q
    have q:c=d:=q
    subst q
    exact(f2 b hb).2.2.2.2.1 x c hd
  ·rw[epn]at hp
   have:p=(D,o):=by simpa using hp
   rw[this]
   exact Nat.ne_of_gt hbl
 have pinD:∀{σ':St} {H':Hp} {s':Shared} {o:Obj},Inv X' [] σ' H' s'->s'.heap.get? D=some o->H' D=none->(∀v,o.data≠.cell v)->Inv X' [(D,o)] σ' H' s':=fun{σ' H' s' o} I e n d=>
  I.pins_of fun p hp=>by
   have:p=(D,o):=by simpa using hp
   subst this
   exact⟨e,n,by rw[eloc];exact Nat.ne_of_lt (Nat.lt_succ_self D),by rw[efs];exact dfs,d⟩
 have loop:∀s₃:Shared,s₃={s2 with heap:=h₁,toks:=s2.toks+([]:List (Str×Value)).length}->
   codeAny (model X.prog X.w) X.A (.compLoop (.ListComp elt [⟨tg,iter,ifs,0⟩] scope pos) 0 (.ref it) (.ref D) X'.env) (RR (.ref D) (D+1)) s₃:=by
  intro s₃ hs₃
  refine codeAny_loop rfl (fun n s'=>∃i acc its k σ' H',Inv X' [] σ' H' s'/\tn i s'.heap/\(∀b∈fp,H' b=none)/\s'.heap.get? D=some {cls:= .type "list",data:= .seq (List.toArray its) k}/\Vals acc its/\H' D=none/\W i n acc σ' H') ?_ m0
   ⟨0,[],[],0,iniOf own ix σ,H2,by rw[hs₃];exact entry,by rw[hs₃];exact T.keep _ _ _ st2 fun b _ o e=>old b o e,fun b hb=>(f2 b hb).1,by rw[hs₃];exact hD1,.nil,I2.hok.fresh (Nat.le_of_eq hDD),w0⟩
  rintro n s3 ⟨i,acc,its,k,σ3,H3,I3,st3,fr3,eD,rv,nD,w3⟩
  show wpAny _ X.A ((compTurn (.ListComp elt [⟨tg,iter,ifs,0⟩] scope pos) 0 (.ref it) (.ref D) X'.env).onRaise (fun x=>do noteFrame x X'.env;theTreesLotGoes x)) _ _ s3
  refine wpAny_noted ?_
  rw[compTurn_list]
  have noE:∀{α:Type} {t:Sem α} {Q:α->Shared->Prop} {E':Value->Shared->Prop} {s:Shared},wpAny (model X'.prog X'.w) X'.A t Q X'.xe s->wpAny (model X.prog X.w) X.A t Q E' s:=fun{α t Q E' s} h=>by
   rw[eP,ew,eA,exe]at h
   exact wpAny_mono h (fun _ _ q=>q) fun _ _ z=>z.elim
  have I3':=pinD (o:={cls:= .type "list",data:= .seq (List.toArray its) k}) I3 eD nD (fun v z=>by
   have z':Data.seq (List.toArray its) k=Data.cell v:=z
   cases z')
  refine wpAny_bind (wpAny_standAt (wpAny_bind ?_))
  rcases turn i n acc σ3 H3 w3 with⟨stop,hz,fin⟩|⟨go,hz,Nn,hN,step⟩
  ·have q:=T.done X' eP ew eK ecalm i [(D,_)] s3 σ3 H3 (notedBy (model X.prog X.w) X.A X'.env fun e s'=>RR (.ref D) (D+1) (.error e) s') I3' (fpn fr3) st3 stop
   rw[eA]at q
   refine thn q fun r s4 ⟨hr,I4⟩=> ?_
   subst hr
   refine wpAny_pure ?_
   obtain⟨e4,_⟩:=I4.pin (D,_) (List.mem_append_right _ List.mem_cons_self)
   obtain⟨mC,hnC,_⟩:=I4.loc
   have u4:=I4.base
   rw[efs,eex,eH0,es0]at u4
   have ok4:=I4.hok
   rw[eP,ew]at ok4
   have nC:H3 (D+1)=none:=by have:=I4.free;rw[eloc]at this;exact this
   have hok:HOk X.prog X.w (upd H3 D (.lst acc)) s4.heap:=ok4.add nD ⟨hz,its,k,rv,e4⟩
   refine hRR D (D+1) s4 acc H3 mC ?_ nD (by rw[eloc]at hnC;exact hnC) ?_ fin
   ·refine I2.call' (s':=s4) (ch:=fp) ?_ (u4.add (by rw[hDD];exact Nat.le_refl _) nD) hok I4.bare fun b hb=> ?_
    ·have:=I4.os;rw[es0]at this;exact this
    ·obtain⟨f0,f1,f3,f4,f5,f6⟩:=f2 b hb
     exact⟨f4,f1,f5,f6⟩
   ·refine I2.fpOk (by rw[hDD];exact Nat.le_succ _) ?_
    rw[zaq (Nat.ne_of_gt (Nat.lt_succ_self D))]
    exact nC
  ·have q:=T.item X' eP ew eK ecalm i [(D,_)] s3 σ3 H3 (notedBy (model X.prog X.w) X.A X'.env fun e s'=>RR (.ref D) (D+1) (.error e) s') I3' (fpn fr3) st3 go
   rw[eA]at q
   refine thn q fun r s4 ⟨u,hr,h4⟩=> ?_
   subst hr
   dsimp only
   refine wpAny_bind (thn h4 fun _ s5 ⟨x,H5,I5,r5,y5,st5,fr5⟩=> ?_)
   have I5':=I5.pinned (fpn fr5) (T.obj _ _ st5)
   have again:∀{σ7:St} {H7:Hp} {s7:Shared},Inv X' ([(D,{cls:= .type "list",data:= .seq (List.toArray its) k})]++pinsAt fp s5.heap) σ7 H7 s7->tn (i+1) s7.heap/\(∀b∈fp,H7 b=none)/\s7.heap.get? D=some {cls:= .type "list",data:= .seq (List.toArray its) k}/\H7 D=none:=fun{σ7 H7 s7} I7=>by
    refine⟨T.keep _ _ _ st5 fun b hb o e=>(I7.pin (b,o) (List.mem_append_right _ (List.mem_append_right _ (zco hb e)))).1,fun b hb=> ?_,?_⟩
    ·obtain⟨o,e,d⟩:=T.obj _ _ st5 b hb
     exact(I7.pin (b,o) (List.mem_append_right _ (List.mem_append_right _ (zco hb e)))).2.1
    ·have:=I7.pin (D,_) (List.mem_append_right _ (List.mem_append_left _ List.mem_cons_self))
     exact⟨this.1,this.2.1⟩
   refine wpAny_bind (thn (noE (hg' _ s5 σ3 H5 x u _ I5' r5 (step x H5 y5))) fun _ s6 ⟨σ6,H6,I6,q6⟩=> ?_)
   refine wpAny_bind (thn (noE (ht' _ s6 σ6 H6 _ I6 q6)) fun ok s7 ⟨H7,I7,q7⟩=> ?_)
   cases ok with
   |false=>
    rw[if_neg Bool.false_ne_true]at q7
    obtain⟨m',hm,w7⟩:=hN _ _ _ q7
    obtain⟨a1,a2,a3,a4⟩:=again I7
    exact wpAny_pure ⟨rfl,m',hm,i+1,acc,its,k,σ6,H7,I7.pins_of (fun p hp=>nomatch hp),a1,a2,a3,rv,a4,w7⟩
   |true=>
    rw[if_pos rfl]at q7
    refine wpAny_bind (wpAny_bind (thn (noE (he' _ s7 σ6 H7 _ I7 q7)) fun v s8 ⟨y,H8,I8,r8,q8⟩=> ?_))
    obtain⟨m',hm,w8⟩:=hN _ _ _ q8
    obtain⟨a1,a2,a3,a4⟩:=again I8
    have hl:=rv.length
    refine wpAny_bind (call_meets F.slot_list_append ⟨_,a3,rfl⟩ F.entry_list_append (F.args_list_append_2 _ _) (PySem.list_append D its.toArray k v (by rw[List.size_toArray];omega)) ⟨a3,?_⟩)
    refine wpAny_pure (wpAny_pure ⟨rfl,m',hm,i+1,acc++[y],its++[v],?_⟩)
    have qD:=PySem.IsL.update a3 (fun a:Array Value=>a.push v)
    rw[List.push_toArray]at qD
    have kp:∀b o,b≠D->s8.heap.get? b=some o->(s8.heap.update D (Obj.mapSeq fun a=>a.push v)).get? b=some o:=fun b o hb e=>(Heap.get?_update_other s8.heap _ (Ne.symm hb)).trans e
    have I8':Inv X' [] σ6 H8 {s8 with heap:=s8.heap.update D (Obj.mapSeq fun a=>a.push v)}:=by
     refine(I8.pins_of (pins':=[]) (fun p hp=>nomatch hp)).turned (t':=s8.toks) (it:=D) kp a4 (by rw[eloc];exact Nat.ne_of_lt (Nat.lt_succ_self D)) (.inr (by rw[es0,hDD];exact Nat.le_refl _)) (fun x c e=>Nat.ne_of_lt (ecl x c e)) (fun p hp=> ?_)
     rw[epn]at hp
     exact nomatch hp
    exact⟨_,σ6,H8,I8',T.keep _ _ _ a1 fun b hb o e=>kp b o (Nat.ne_of_lt (hlt b hb)) e,a2,qD,rv.append (.cons r8 .nil),a4,w8⟩
 have eenv':({newEnv scope (D+1) X.env.globals (clOf X.env.cells scope.names []) X.env.qual none Value.none (some X.env) 0 with scope:=relabel scope X.env}:Env)=X'.env:=by rw[eenv];rfl
 have L:=loop _ rfl
 rw[<-eenv']at L
 exact codeAny_compStart_list L (T.self X.A 0 _ _ _ (T.keep _ _ _ st2 fun b _ o e=>old b o e) L)
end
end L2
namespace L2
open PySem PySem.Spec PyProof.Rows
noncomputable def CompW(J:It)(ini:St)(H:Hp)(g:TG)(tc:TT)(te:TE)(Fin:List V->Hp->Prop):Prop:=
 ∃W:Nat->Nat->List V->St->Hp->Prop,(∃m,W 0 m [] ini H)/\∀i m acc σ H,W i m acc σ H->
  (J.stop i H/\acc.length<=sizeLine/\Fin acc H)\/(J.go i H/\acc.length<sizeLine/\∃N:List V->St->Hp->Prop,(∀acc' σ' H',N acc' σ' H'->∃m',m'<m/\W (i+1) m' acc' σ' H')/\∀x H',J.yld i H x H'->g x σ H' fun σ2 H2=>tc σ2 H2 fun b H3=>
   if b=true then te σ2 H3 fun v H4=>N (acc++[v]) σ2 H4 else N acc σ2 H3)
noncomputable def tComp(wi:TI)(own:List Str)(ix:List Nat)(g:TG)(tc:TT)(te:TE):TE:=fun σ H Q=>wi σ H fun J H1=>
 CompW J (iniOf own ix σ) H1 g tc te fun acc H'=>∀p,H' p=none->Q (.ref p) (upd H' p (.lst acc))
section
variable{X:Cx}{tg iter elt:Expr}{ifs:List Expr}{scope:Scope}{pos:Pos}{own caps:List Str}{ix:List Nat}{wi:TI}{g:TG}{tc:TT}{te:TE}
theorem zbv(hc:X.calm=true)(hi:PI X tg iter wi)(ck:compOk X.env.scope scope=true)(hkind:scope.kind= .function)(hcap:Caps X scope caps ix)(hg:∀s H cl C ex,PG (compCx X scope (own++caps) s H cl C ex) tg g)(ht:∀s H cl C ex,PTs (compCx X scope (own++caps) s H cl C ex) ifs tc)(he:∀s H cl C ex,PE (compCx X scope (own++caps) s H cl C ex) elt te)(hs:∀x,foldedSetIterable iter X.env x=pure x:=by intro _;rfl):PE X (.ListComp elt [⟨tg,iter,ifs,0⟩] scope pos) (tComp wi own ix g tc te):=by
 intro pins s σ H Q I h
 rw[eval_ListComp]
 refine wpAny_comprehension_free (use:=none) rfl hs (closure_of fun x hx=>I.ok.has x (compOk.free ck hx)) hkind (compOk.names ck) (thn (hi pins s σ H _ I h) fun xv s1 h1=>thn h1 fun itv s2 h2=> ?_)
 obtain⟨it,fp,tn,J,H2,e,I2,T,st2,f2,W,⟨m0,w0⟩,turn⟩:=h2
 subst e
 refine comp_core (RR:=fun acc C=>compPost (model X.prog X.w) X.A X.xe none (EP X pins σ Q) acc C) ck hkind hcap hc hg ht he I2 T st2 f2 w0 turn ?_
 intro D C s' acc Hf m I' nD hn fC fin
 refine⟨m,hn,fun h' sb=> ?_⟩
 obtain⟨f0,f1,f3,f4,f5,f6⟩:=fC
 exact⟨.ref D,_,I'.turned (t':=s'.toks) (it:=C) (fun b o hb e=>(sb.2 b hb).trans e) f0 f1 f4 f5 f6,rfl,fin D nD⟩
end
section
variable{K:W.Frag}{a:Addr}{xs:List V}{g:TG}{tc:TT}{te:TE}{Fin:List V->Hp->Prop}{ini:St}{H:Hp}
theorem zda(Pv:Nat->List V->St->Hp->Prop)(h0:Pv 0 [] ini H)(hl:∀(i:Nat) acc σ H,i<=xs.length->Pv i acc σ H->SqL K H a xs)(hz:∀(i:Nat) acc σ H,i<=xs.length->Pv i acc σ H->acc.length<=i)(hx:xs.length<=sizeLine)(hs:∀(i:Nat) x acc σ H,xs[i]? =some x->Pv i acc σ H->g x σ H fun σ2 H2=>tc σ2 H2 fun b H3=>if b=true then te σ2 H3 fun v H4=>Pv (i+1) (acc++[v]) σ2 H4 else Pv (i+1) acc σ2 H3)(hd:∀acc σ H,Pv xs.length acc σ H->Fin acc H):CompW (Itl K a) ini H g tc te Fin:=by
 refine⟨fun i m acc σ H=>m=xs.length-i/\i<=xs.length/\Pv i acc σ H,⟨xs.length,by simp,Nat.zero_le _,h0⟩,?_⟩
 rintro i m acc σ H ⟨rfl,hi,p⟩
 have q:=hl i acc σ H hi p
 have z:=hz i acc σ H hi p
 by_cases hlt:i<xs.length
 ·refine .inr ⟨⟨xs,xs[i],q,by simp[hlt]⟩,by omega,fun acc σ H=>Pv (i+1) acc σ H,fun acc' σ' H' r=>⟨_,by omega,rfl,hlt,r⟩,fun x H' y=> ?_⟩
  obtain⟨e,y⟩:=y
  subst e
  exact hs i x acc σ _ (y xs q) p
 ·have e:i=xs.length:=by omega
  subst e
  exact .inl ⟨⟨xs,q,Nat.le_refl _⟩,by omega,hd acc σ H p⟩
theorem comp_tup(Pv:Nat->List V->St->Hp->Prop)(h0:Pv 0 [] ini H)(hl:∀(i:Nat) acc σ H,i<=xs.length->Pv i acc σ H->SqT K H a xs)(hz:∀(i:Nat) acc σ H,i<=xs.length->Pv i acc σ H->acc.length<=i)(hx:xs.length<=sizeLine)(hs:∀(i:Nat) x acc σ H,xs[i]? =some x->Pv i acc σ H->g x σ H fun σ2 H2=>tc σ2 H2 fun b H3=>if b=true then te σ2 H3 fun v H4=>Pv (i+1) (acc++[v]) σ2 H4 else Pv (i+1) acc σ2 H3)(hd:∀acc σ H,Pv xs.length acc σ H->Fin acc H):CompW (Itt K a) ini H g tc te Fin:=by
 refine⟨fun i m acc σ H=>m=xs.length-i/\i<=xs.length/\Pv i acc σ H,⟨xs.length,by simp,Nat.zero_le _,h0⟩,?_⟩
 rintro i m acc σ H ⟨rfl,hi,p⟩
 have q:=hl i acc σ H hi p
 have z:=hz i acc σ H hi p
 by_cases hlt:i<xs.length
 ·refine .inr ⟨⟨xs,xs[i],q,by simp[hlt]⟩,by omega,fun acc σ H=>Pv (i+1) acc σ H,fun acc' σ' H' r=>⟨_,by omega,rfl,hlt,r⟩,fun x H' y=> ?_⟩
  obtain⟨e,y⟩:=y
  subst e
  exact hs i x acc σ _ (y xs q) p
 ·have e:i=xs.length:=by omega
  subst e
  exact .inl ⟨⟨xs,q,Nat.le_refl _⟩,by omega,hd acc σ H p⟩
theorem zcd{lo:Int}{n:Nat}(Pv:Nat->List V->St->Hp->Prop)(h0:Pv 0 [] ini H)(hz:∀(i:Nat) acc σ H,i<=n->Pv i acc σ H->acc.length<=i)(hx:n<=sizeLine)(hs:∀(i:Nat) acc σ H,i<n->Pv i acc σ H->g (.int (lo+i)) σ H fun σ2 H2=>tc σ2 H2 fun b H3=>if b=true then te σ2 H3 fun v H4=>Pv (i+1) (acc++[v]) σ2 H4 else Pv (i+1) acc σ2 H3)(hd:∀acc σ H,Pv n acc σ H->Fin acc H):CompW (Itr lo n) ini H g tc te Fin:=by
 refine⟨fun i m acc σ H=>m=n-i/\i<=n/\Pv i acc σ H,⟨n,by simp,Nat.zero_le _,h0⟩,?_⟩
 rintro i m acc σ H ⟨rfl,hi,p⟩
 have z:=hz i acc σ H hi p
 by_cases hlt:i<n
 ·refine .inr ⟨hlt,by omega,fun acc σ H=>Pv (i+1) acc σ H,fun acc' σ' H' r=>⟨_,by omega,rfl,hlt,r⟩,fun x H' y=> ?_⟩
  obtain⟨e,y⟩:=y
  subst e y
  exact hs i acc σ _ hlt p
 ·have e:i=n:=by omega
  subst e
  exact .inl ⟨Nat.le_refl _,by omega,hd acc σ H p⟩
end
end L2
namespace Srt
open PySem PySem.W PyProof.Rows
section
variable{O:KeyOrd}{key:Nat->O.α}{N:Nat}{cmp:Nat->Nat->(Bool->Shared->Prop)->Shared->Prop}{s:Shared}
noncomputable def AskOk(O:KeyOrd)(key:Nat->O.α)(N:Nat)(cmp:Nat->Nat->(Bool->Shared->Prop)->Shared->Prop)(s:Shared):Prop:=
 ∀i j (C:Bool->Shared->Prop),i<N->j<N->C (O.blt (key i) (key j)) s->cmp i j C s
noncomputable def KN(key:Nat->O.α)(p:Array Nat)(i:Nat):O.α:=key (p.getD i 0)
noncomputable def So(key:Nat->O.α)(p:Array Nat)(k:Nat):Prop:=∀i j,i<=j->j<k->O.kle (KN key p i) (KN key p j)
noncomputable def Ni(key:Nat->O.α)(p:Array Nat)(k:Nat):Prop:=∀i j,i<=j->j<k->O.kle (KN key p j) (KN key p i)
structure Ord(N:Nat)(p:Array Nat):Prop where
 perm:p.Perm (List.toArray (List.range N))
theorem Ord.size{p:Array Nat}(h:Ord N p):p.size=N:=by have:=h.perm.size_eq;simpa using this
theorem Ord.lt{p:Array Nat}(h:Ord N p){i:Nat}(hi:i<N):p.getD i 0<N:=by
 have hi':i<p.size:=by rw[h.size];exact hi
 have e:p.getD i 0=p[i]:=by simp[Array.getD,hi']
 rw[e]
 have m:p[i]∈p.toList:=by simp
 have:=(Array.perm_iff_toList_perm.mp h.perm).mem_iff.mp m
 simpa using this
theorem Ord.rev{p:Array Nat}(h:Ord N p)(i j:Nat):Ord N (kas_rev p i j):=⟨(mirror_perm _ _ _ _).trans h.perm⟩
theorem Ord.bub{p:Array Nat}(h:Ord N p)(i j:Nat):Ord N (bubble p i j):=⟨(bubble_perm _ _ _).trans h.perm⟩
theorem getD_q(p:Array Nat)(i:Nat):p.getD i 0=(p[i]?).getD 0:=by simp
theorem KN_rev{p:Array Nat}{i j:Nat}(hj:j<=p.size)(k:Nat):KN key (kas_rev p i j) k=if i<=k/\k<j then KN key p (i+j-1-k)else KN key p k:=by
 have e:=getElem?_mirror_all (i:=i) hj k
 unfold KN kas_rev
 rw[getD_q,e]
 split
 ·rw[getD_q]
 ·rw[getD_q]
theorem zbs{p:Array Nat}{i j:Nat}(hj:j<=p.size)(heq:∀k,i<=k->k<j->KN key p k=KN key p (j-1))(k:Nat):KN key (kas_rev p i j) k=KN key p k:=by
 rw[KN_rev hj]
 split
 ·rename_i h
  rw[heq k h.1 h.2,heq _ (by omega) (by omega)]
 ·rfl
theorem KN_bub{p:Array Nat}{src d:Nat}(hs:src<p.size)(hd:d<=src)(k:Nat):KN key (bubble p src d) k=if k=src-d then KN key p src else if src-d<k/\k<=src then KN key p (k-1)else KN key p k:=by
 have e:=getElem?_bubble hs d hd k
 have q:KN key (bubble p src d) k=key (((bubble p src d)[k]?).getD 0):=congrArg key (getD_q _ _)
 have q2:∀i,KN key p i=key ((p[i]?).getD 0):=fun i=>congrArg key (getD_q _ _)
 rw[q,e,q2,q2,q2]
 by_cases h1:k=src-d
 ·rw[if_pos h1,if_pos h1]
 ·rw[if_neg h1,if_neg h1]
  by_cases h2:src-d<k/\k<=src
  ·rw[if_pos h2,if_pos h2]
  ·rw[if_neg h2,if_neg h2]
theorem lt_pred{i j:Nat}(h:i<=j)(hn:¬i=j):i<=j-1:=Nat.le_sub_one_of_lt (Nat.lt_of_le_of_ne h hn)
theorem eq_top{j n:Nat}(h:j<n+1)(hn:¬j<n):j=n:=Nat.le_antisymm (Nat.le_of_lt_succ h) (Nat.not_lt.mp hn)
theorem pred_lt'{x k:Nat}(h:1<=x)(hk:x<=k):x-1<k:=Nat.sub_one_lt_of_le h hk
theorem lt_mid{x f N:Nat}(h:x+(f+1)<=N):x<N:=Nat.lt_of_lt_of_le (Nat.lt_add_of_pos_right (Nat.succ_pos f)) h
theorem up_one{x f N:Nat}(h:x+(f+1)<=N):x+1+f<=N:=Nat.le_trans (Nat.le_of_eq (Nat.succ_add_eq_add_succ x f)) h
theorem up_le{x f m:Nat}(h:m<=x+1+f):m<=x+(f+1):=Nat.le_trans h (Nat.le_of_eq (Nat.succ_add_eq_add_succ x f))
theorem rev_le{i j n:Nat}(h:i<=j):0+n-1-j<=0+n-1-i:=Nat.sub_le_sub_left h _
theorem rev_lt{i n:Nat}(h:i<n):0+n-1-i<n:=by
 rw[Nat.zero_add]
 exact Nat.lt_of_le_of_lt (Nat.sub_le _ _) (Nat.sub_one_lt_of_le (Nat.lt_of_le_of_lt (Nat.zero_le _) h) (Nat.le_refl _))
theorem asc(ok:AskOk O key N cmp s){p:Array Nat}(hp:Ord N p){Q:Nat->Shared->Prop}:∀(f n:Nat),1<=n->n+f<=N->So key p n->(∀m,n<=m->m<=n+f->So key p m->(m=n+f\/O.klt (KN key p m) (KN key p (m-1)))->Q m s)->(kas_asc p f n).kasWp cmp Q s
 |0,n,_,_,hs,h=>h n (Nat.le_refl _) (Nat.le_refl _) hs (.inl rfl)
 |f+1,n,h1,hn,hs,h=>by
  have hnN:n<N:=lt_mid hn
  refine ok _ _ _ (hp.lt hnN) (hp.lt (pred_lt' h1 (Nat.le_of_lt hnN))) ?_
  cases hless:O.blt (key (p.getD n 0)) (key (p.getD (n-1) 0))with
  |true=>
   show Q n s
   exact h n (Nat.le_refl _) (Nat.le_add_right _ _) hs (.inr hless)
  |false=>
   show(kas_asc p f (n+1)).kasWp cmp Q s
   refine asc ok hp f (n+1) (Nat.succ_pos _) (up_one hn) (fun i j hij hj=> ?_) fun m a b c d=>h m (Nat.le_of_succ_le a) (up_le b) c (d.imp (fun z=>z.trans (Nat.succ_add_eq_add_succ n f)) id)
   by_cases hjn:j<n
   ·exact hs i j hij hjn
   ·have hj':j=n:=eq_top hj hjn
    subst hj'
    by_cases hi':i=j
    ·subst hi';exact KeyOrd.kle_refl _
    ·exact KeyOrd.kle_trans (hs i (j-1) (lt_pred hij hi') (pred_lt' h1 (Nat.le_refl _))) hless
theorem tail3(ok:AskOk O key N cmp s){p:Array Nat}(hp:Ord N p){n:Nat}{Q:Nat×Array Nat->Shared->Prop}(h1:1<=n)(hn:n<=N)(hs:Ni key p n)(h:∀m p',Ord N p'->1<=m->m<=N->So key p' m->Q (m,p') s):(kas_tail3 n N p).kasWp cmp Q s:=by
 unfold kas_tail3
 rw[KasT.kasWp_bind]
 have hsz:n<=p.size:=by rw[hp.size];exact hn
 have hN:n+(N-n)=N:=Nat.add_sub_cancel' hn
 refine asc ok (hp.rev 0 n) (N-n) n h1 (Nat.le_of_eq hN) (fun i j hij hj=> ?_) fun m a b c _=>h m _ (hp.rev 0 n) (Nat.le_trans h1 a) (Nat.le_trans b (Nat.le_of_eq hN)) c
 rw[KN_rev hsz,KN_rev hsz,if_pos ⟨Nat.zero_le _,Nat.lt_of_le_of_lt hij hj⟩,if_pos ⟨Nat.zero_le _,hj⟩]
 exact hs _ _ (rev_le hij) (rev_lt (Nat.lt_of_le_of_lt hij hj))
theorem desc1{p p':Array Nat}{x:Nat}(h1:1<=x)(hs:Ni key p x)(hless:O.kle (KN key p x) (KN key p (x-1)))(hk:∀k,KN key p' k=KN key p k):Ni key p' (x+1):=by
 intro i j hij hj
 rw[hk,hk]
 by_cases hjx:j<x
 ·exact hs i j hij hjx
 ·have hj':j=x:=eq_top hj hjx
  subst hj'
  by_cases hi':i=j
  ·subst hi';exact KeyOrd.kle_refl _
  ·exact KeyOrd.kle_trans hless (hs i (j-1) (lt_pred hij hi') (pred_lt' h1 (Nat.le_refl _)))
theorem one_eq{p:Array Nat}{x i:Nat}(h1:x+1-(0+1)<=i)(h2:i<x+1):KN key p i=KN key p (x+1-1):=congrArg _ (Nat.le_antisymm (Nat.le_of_lt_succ h2) h1)
theorem desc(ok:AskOk O key N cmp s){Q:Array Nat×Nat×Nat->Shared->Prop}:∀(f:Nat) (p:Array Nat) (x neq:Nat),Ord N p->1<=x->x+f<=N->Ni key p x->neq+1<=x->(∀i,x-(neq+1)<=i->i<x->KN key p i=KN key p (x-1))->
  (∀p' m q,Ord N p'->x<=m->m<=x+f->Ni key p' m->q+1<=m->(∀i,m-(q+1)<=i->i<m->KN key p' i=KN key p' (m-1))->Q (p',m,q) s)->(kas_desc f p x neq).kasWp cmp Q s
 |0,p,x,neq,hp,_,_,hs,hq,he,h=>h p x neq hp (Nat.le_refl _) (Nat.le_refl _) hs hq he
 |f+1,p,x,neq,hp,h1,hn,hs,hq,he,h=>by
  have hxN:x<N:=lt_mid hn
  have hsz:x<=p.size:=by rw[hp.size];exact Nat.le_of_lt hxN
  have hx1:x-1<N:=pred_lt' h1 (Nat.le_of_lt hxN)
  have hh:∀p' m q,Ord N p'->x+1<=m->m<=x+1+f->Ni key p' m->q+1<=m->(∀i,m-(q+1)<=i->i<m->KN key p' i=KN key p' (m-1))->Q (p',m,q) s:=fun p' m q a b c d e g=>h p' m q a (Nat.le_of_succ_le b) (up_le c) d e g
  refine ok _ _ _ (hp.lt hxN) (hp.lt hx1) ?_
  cases hless:O.blt (key (p.getD x 0)) (key (p.getD (x-1) 0))with
  |true=>
   show(if neq>0 then kas_desc f (kas_rev p (x-(neq+1)) x) (x+1) 0 else kas_desc f p (x+1) 0).kasWp cmp Q s
   by_cases hneq:neq>0
   ·rw[if_pos hneq]
    exact desc ok f _ (x+1) 0 (hp.rev _ _) (Nat.succ_pos _) (up_one hn) (desc1 h1 hs (KeyOrd.kle_of_klt hless) (zbs hsz he)) (Nat.succ_pos _) (fun i h1 h2=>one_eq h1 h2) hh
   ·rw[if_neg hneq]
    exact desc ok f _ (x+1) 0 hp (Nat.succ_pos _) (up_one hn) (desc1 h1 hs (KeyOrd.kle_of_klt hless) fun _=>rfl) (Nat.succ_pos _) (fun i h1 h2=>one_eq h1 h2) hh
  |false=>
   show(KasT.ask (p.getD (x-1) 0) (p.getD x 0) fun d=>if d=true then KasT.ret (p,x,neq)else kas_desc f p (x+1) (neq+1)).kasWp cmp Q s
   refine ok _ _ _ (hp.lt hx1) (hp.lt hxN) ?_
   cases hl:O.blt (key (p.getD (x-1) 0)) (key (p.getD x 0))with
   |true=>exact h p x neq hp (Nat.le_refl _) (Nat.le_add_right _ _) hs hq he
   |false=>
    show(kas_desc f p (x+1) (neq+1)).kasWp cmp Q s
    have heqx:KN key p x=KN key p (x-1):=KeyOrd.kle_antisymm hl hless
    refine desc ok f _ (x+1) (neq+1) hp (Nat.succ_pos _) (up_one hn) (desc1 h1 hs (by rw[heqx];exact KeyOrd.kle_refl _) fun _=>rfl) (Nat.succ_le_succ hq) (fun i h1 h2=> ?_) hh
    show KN key p i=KN key p x
    by_cases hix:i=x
    ·subst hix;rfl
    ·rw[heqx];exact he i (Nat.le_trans (Nat.le_of_eq (Nat.succ_sub_succ x (neq+1)).symm) h1) (Nat.lt_of_le_of_ne (Nat.le_of_lt_succ h2) hix)
theorem descPart(ok:AskOk O key N cmp s){p:Array Nat}(hp:Ord N p){n:Nat}{Q:Nat×Array Nat->Shared->Prop}(hn:n+1<=N)(hs:Ni key p (n+1))(h:∀m p',Ord N p'->1<=m->m<=N->So key p' m->Q (m,p') s):(kas_descPart n N p).kasWp cmp Q s:=by
 unfold kas_descPart
 rw[KasT.kasWp_bind]
 have hN:n+1+(N-(n+1))<=N:=Nat.le_of_eq (Nat.add_sub_cancel' hn)
 refine desc ok _ _ _ _ hp (Nat.succ_pos _) hN hs (Nat.succ_pos _) (fun i h1 h2=>one_eq h1 h2) fun p' m q a b c d e g=> ?_
 have hm:m<=N:=Nat.le_trans c hN
 have hm1:1<=m:=Nat.le_trans (Nat.succ_pos _) b
 have hsz:m<=p'.size:=by rw[a.size];exact hm
 dsimp only
 by_cases hq:q>0
 ·rw[if_pos hq]
  refine tail3 ok (a.rev _ _) hm1 hm (fun i j hij hj=> ?_) h
  rw[zbs hsz g,zbs hsz g]
  exact d i j hij hj
 ·rw[if_neg hq]
  exact tail3 ok a hm1 hm d h
theorem count(ok:AskOk O key N cmp s){p:Array Nat}(hp:Ord N p){Q:Nat×Array Nat->Shared->Prop}(h1:1<=N)(h:∀m p',Ord N p'->1<=m->m<=N->So key p' m->Q (m,p') s):(kas_count N p).kasWp cmp Q s:=by
 unfold kas_count
 rw[KasT.kasWp_bind]
 have hN:1+(N-1)=N:=Nat.add_sub_cancel' h1
 refine asc ok hp (N-1) 1 (Nat.le_refl _) (Nat.le_of_eq hN) (fun i j hij hj=>by
  have hj0:j=0:=Nat.lt_one_iff.mp hj
  subst hj0
  have hi0:i=0:=Nat.le_zero.mp hij
  subst hi0;exact KeyOrd.kle_refl _) fun n a b hsn hor=> ?_
 have hnN:n<=N:=Nat.le_trans b (Nat.le_of_eq hN)
 by_cases hnn:n=N
 ·rw[if_pos (by simpa using hnn)]
  exact h n p hp a hnN hsn
 ·rw[if_neg (by simpa using hnn)]
  have hlt:O.klt (KN key p n) (KN key p (n-1)):=hor.resolve_left fun z=>hnn (z.trans hN)
  have hln:n<N:=Nat.lt_of_le_of_ne hnN hnn
  by_cases hgt:n>1
  ·rw[if_pos hgt]
   have hn1:n-1<n:=pred_lt' a (Nat.le_refl _)
   refine ok _ _ _ (hp.lt h1) (hp.lt (Nat.lt_trans hn1 hln)) ?_
   cases hrose:O.blt (key (p.getD 0 0)) (key (p.getD (n-1) 0))with
   |true=>exact h n p hp a hnN hsn
   |false=>
    show(kas_descPart n N (kas_rev p 0 n)).kasWp cmp Q s
    have hsz:n<=p.size:=by rw[hp.size];exact hnN
    have hall:∀k,0<=k->k<n->KN key p k=KN key p (n-1):=fun k _ hk=>
     KeyOrd.kle_antisymm (hsn k (n-1) (Nat.le_sub_one_of_lt hk) hn1) (KeyOrd.kle_trans hrose (hsn 0 k (Nat.zero_le _) hk))
    refine descPart ok (hp.rev 0 n) hln (fun i j hij hj=> ?_) h
    rw[zbs hsz hall,zbs hsz hall]
    by_cases hjn:j<n
    ·rw[hall i (Nat.zero_le _) (Nat.lt_of_le_of_lt hij hjn),hall j (Nat.zero_le _) hjn];exact KeyOrd.kle_refl _
    ·have hj':j=n:=eq_top hj hjn
     subst hj'
     by_cases hi':i=j
     ·subst hi';exact KeyOrd.kle_refl _
     ·rw[hall i (Nat.zero_le _) (Nat.lt_of_le_of_ne hij hi')];exact KeyOrd.kle_of_klt hlt
  ·rw[if_neg hgt]
   have hn1':n=1:=Nat.le_antisymm (Nat.not_lt.mp hgt) a
   subst hn1'
   refine descPart ok hp hln (fun i j hij hj=> ?_) h
   by_cases hi':i=j
   ·subst hi';exact KeyOrd.kle_refl _
   ·have hij':i<j:=Nat.lt_of_le_of_ne hij hi'
    have hj1:j=1:=Nat.le_antisymm (Nat.le_of_lt_succ hj) (Nat.lt_of_le_of_lt (Nat.zero_le i) hij')
    subst hj1
    have hi0:i=0:=Nat.lt_one_iff.mp hij'
    subst hi0
    exact KeyOrd.kle_of_klt hlt
theorem half_lt{l r:Nat}(h:l<r):(l+r)/2<r:=by omega
theorem half_ge{l r:Nat}(h:l<r):l<=(l+r)/2:=by omega
theorem place(ok:AskOk O key N cmp s){p:Array Nat}(hp:Ord N p){k:Nat}{Q:Nat->Shared->Prop}(hk:k<N)(hs:So key p k):∀(f l r:Nat),l<=r->r<=k->r-l<=f->(∀i,i<l->O.kle (KN key p i) (KN key p k))->(∀i,r<=i->i<k->O.klt (KN key p k) (KN key p i))->
  (∀l,l<=k->(∀i,i<l->O.kle (KN key p i) (KN key p k))->(∀i,l<=i->i<k->O.klt (KN key p k) (KN key p i))->Q l s)->(kas_place p k f l r).kasWp cmp Q s
 |0,l,r,hlr,hrk,hm,hlo,hhi,h=>by
  have e:l=r:=Nat.le_antisymm hlr (Nat.sub_eq_zero_iff_le.mp (Nat.le_zero.mp hm))
  subst e
  exact h l hrk hlo hhi
 |f+1,l,r,hlr,hrk,hm,hlo,hhi,h=>by
  show(if l≥r then KasT.ret l else KasT.ask (p.getD k 0) (p.getD ((l+r)/2) 0) fun c=>if c=true then kas_place p k f l ((l+r)/2)else kas_place p k f ((l+r)/2+1) r).kasWp cmp Q s
  by_cases hge:l≥r
  ·rw[if_pos hge]
   have e:l=r:=Nat.le_antisymm hlr hge
   subst e
   exact h l hrk hlo hhi
  ·rw[if_neg hge]
   have hc:(l+r)/2<r:=half_lt (Nat.not_le.mp hge)
   have hd:l<=(l+r)/2:=half_ge (Nat.not_le.mp hge)
   generalize (l+r)/2=c at hc hd⊢
   refine ok _ _ _ (hp.lt hk) (hp.lt (Nat.lt_trans (Nat.lt_of_lt_of_le hc hrk) hk)) ?_
   cases hless:O.blt (key (p.getD k 0)) (key (p.getD c 0))with
   |true=>
    refine place ok hp hk hs f l c hd (Nat.le_of_lt (Nat.lt_of_lt_of_le hc hrk)) (Nat.le_of_lt_succ (Nat.lt_of_lt_of_le (Nat.sub_lt_sub_right hd hc) hm)) hlo (fun i h1 h2=> ?_) h
    by_cases hi:i=c
    ·subst hi;exact hless
    ·exact KeyOrd.klt_of_klt_of_kle hless (hs c i h1 h2)
   |false=>
    refine place ok hp hk hs f (c+1) r hc hrk (Nat.le_of_lt_succ (Nat.lt_of_lt_of_le (Nat.sub_lt_sub_left (Nat.lt_of_le_of_lt hd hc) (Nat.lt_succ_of_le hd)) hm)) (fun i h1=> ?_) hhi h
    by_cases hi:i=c
    ·subst hi;exact hless
    ·exact KeyOrd.kle_trans (hs i c (Nat.le_of_lt_succ h1) (Nat.lt_of_lt_of_le hc hrk)) hless
theorem bins1{p:Array Nat}{k l:Nat}(hs:So key p k)(hl:l<=k)(hsz:k<p.size)(hlo:∀i,i<l->O.kle (KN key p i) (KN key p k))(hhi:∀i,l<=i->i<k->O.klt (KN key p k) (KN key p i)):So key (bubble p k (k-l)) (k+1):=by
 intro i j hij hj
 have e:k-(k-l)=l:=Nat.sub_sub_self hl
 rw[KN_bub hsz (Nat.sub_le _ _),KN_bub hsz (Nat.sub_le _ _),e]
 have hjk:j<=k:=Nat.le_of_lt_succ hj
 by_cases hi1:i=l
 ·rw[if_pos hi1]
  by_cases hj1:j=l
  ·rw[if_pos hj1];exact KeyOrd.kle_refl _
  ·have lj:l<j:=Nat.lt_of_le_of_ne (hi1▸hij) (Ne.symm hj1)
   rw[if_neg hj1,if_pos ⟨lj,hjk⟩]
   exact KeyOrd.kle_of_klt (hhi (j-1) (Nat.le_sub_one_of_lt lj) (Nat.sub_one_lt_of_le (Nat.lt_of_le_of_lt (Nat.zero_le _) lj) hjk))
 ·rw[if_neg hi1]
  by_cases hi2:l<i/\i<=k
  ·have lj:l<j:=Nat.lt_of_lt_of_le hi2.1 hij
   rw[if_pos hi2,if_neg (Ne.symm (Nat.ne_of_lt lj)),if_pos ⟨lj,hjk⟩]
   exact hs _ _ (Nat.sub_le_sub_right hij 1) (Nat.sub_one_lt_of_le (Nat.lt_of_le_of_lt (Nat.zero_le _) lj) hjk)
  ·rw[if_neg hi2]
   have il:i<l:=Nat.lt_of_le_of_ne (Nat.not_lt.mp fun z=>hi2 ⟨z,Nat.le_trans hij hjk⟩) hi1
   by_cases hj1:j=l
   ·rw[if_pos hj1];exact hlo i il
   ·rw[if_neg hj1]
    by_cases hj2:l<j/\j<=k
    ·rw[if_pos hj2];exact hs _ _ (Nat.le_sub_one_of_lt (Nat.lt_trans il hj2.1)) (Nat.sub_one_lt_of_le (Nat.lt_of_le_of_lt (Nat.zero_le _) hj2.1) hjk)
    ·rw[if_neg hj2];exact hs _ _ hij (Nat.lt_of_lt_of_le (Nat.lt_of_le_of_ne (Nat.not_lt.mp fun z=>hj2 ⟨z,hjk⟩) hj1) hl)
theorem bins(ok:AskOk O key N cmp s){Q:Array Nat->Shared->Prop}:∀(f:Nat) (p:Array Nat) (k:Nat),Ord N p->1<=k->k+f=N->So key p k->(∀p',Ord N p'->So key p' N->Q p' s)->(kas_bin f p k).kasWp cmp Q s
 |0,p,k,hp,_,hf,hs,h=>h p hp ((show k=N from hf)▸hs)
 |f+1,p,k,hp,h1,hf,hs,h=>by
  show((kas_place p k k 0 k).bind fun l=>kas_bin f (bubble p k (k-l)) (k+1)).kasWp cmp Q s
  rw[KasT.kasWp_bind]
  have hk:k<N:=lt_mid (Nat.le_of_eq hf)
  have hsz:k<p.size:=by rw[hp.size];exact hk
  refine place ok hp hk hs k 0 k (Nat.zero_le _) (Nat.le_refl _) (Nat.sub_le _ _) (fun i hi=>absurd hi (Nat.not_lt_zero _)) (fun i h1 h2=>absurd h2 (Nat.not_lt.mpr h1)) fun l hl hlo hhi=> ?_
  exact bins ok f _ (k+1) (hp.bub _ _) (Nat.succ_pos _) ((Nat.succ_add_eq_add_succ k f).trans hf) (bins1 hs hl hsz hlo hhi) h
theorem sort(ok:AskOk O key N cmp s){Q:Array Nat->Shared->Prop}(h1:1<=N)(h:∀p',Ord N p'->So key p' N->Q p' s):(kas_sort N).kasWp cmp Q s:=by
 unfold kas_sort
 rw[KasT.kasWp_bind]
 refine count ok ⟨Array.Perm.refl _⟩ h1 fun m p' hp hm1 hm2 hs=> ?_
 dsimp only
 by_cases hlt:m<N
 ·rw[if_pos hlt]
  have e:max m 1=m:=by omega
  rw[e]
  exact bins ok _ _ _ hp hm1 (by omega) hs h
 ·rw[if_neg hlt]
  have e:m=N:=by omega
  subst e
  exact h p' hp hs
end
end Srt
namespace Srt
open PySem PySem.W PyProof.Rows PySem.Calls
noncomputable def Outs{O:KeyOrd}(key:Nat->O.α)(vs out:List Value):Prop:=∃p:Array Nat,Ord vs.length p/\So key p vs.length/\out=p.toList.map fun i=>vs.getD i Value.none
section
variable{prog:Program}{w:World}{A:Around}{E:Value->Shared->Prop}{s:Shared}{O:KeyOrd}{key:Nat->O.α}{κ:SortKind}{vs:List Value}
theorem outs_small(h2:vs.length<2):Outs key vs vs:=by
 refine⟨List.toArray (List.range vs.length),⟨Array.Perm.refl _⟩,fun i j hij hj=> ?_,?_⟩
 ·have e:i=j:=by omega
  subst e;exact KeyOrd.kle_refl _
 ·match vs,h2 with
  |[],_=>rfl
  |[v],_=>rfl
  |_::_::_,h=>simp at h;omega
theorem list_sort_own{a:Addr}{n:Nat}{P:PySem.Fin->Shared->Prop}(ho:s.heap.get? a=some (seqObj "list" vs.toArray n))(h64:vs.length<64)(hkind:2<=vs.length->∀h',(∀b o,b≠a->s.heap.get? b=some o->h'.get? b=some o)->∀Q:SortKind->Shared->Prop,Q κ {s with heap:=h'}->wpAny (model prog w) A (keyKind' vs.toArray) Q E {s with heap:=h'})(hask:2<=vs.length->∀h',(∀b o,b≠a->s.heap.get? b=some o->h'.get? b=some o)->AskOk O key vs.length (kas_ask prog w A κ vs) {s with heap:=h'})(h:∀h' out c,Outs key vs out->(∀b o,b≠a->s.heap.get? b=some o->h'.get? b=some o)->h'.get? a=some (seqObj "list" (List.toArray out) c)->P (.done (.ret .none)) {s with heap:=h'}):
  wpAny (model prog w) A (Builtin.«list.sort» ⟨[.ref a],[]⟩) P E s:=by
 have ha:a<s.heap.objs.size:=Heap.lt_size ho
 have s1:=Heap.SameBut.update s.heap a (Obj.mapSeq fun _=>(#[]:Array Value))
 obtain⟨e1,ho1⟩:∃e1,(s.heap.update a (Obj.mapSeq fun _=>(#[]:Array Value))).get? a=some (seqObj "list" #[] e1):=⟨_,get?_update_seq ho fun _=>#[]⟩
 have keep:∀b o,b≠a->s.heap.get? b=some o->(((s.heap.update a (Obj.mapSeq fun _=>(#[]:Array Value))).push (seqObj "tuple" vs.toArray 0)).push (seqObj "list" #[] 0)).get? b=some o:=fun b o hb e=>
  Heap.get?_push_of_some _ (Heap.get?_push_of_some _ ((s1.2 b hb).trans e))
 have ho6:(((s.heap.update a (Obj.mapSeq fun _=>(#[]:Array Value))).push (seqObj "tuple" vs.toArray 0)).push (seqObj "list" #[] 0)).get? a=some (seqObj "list" #[] e1):=Heap.get?_push_of_some _ (Heap.get?_push_of_some _ ho1)
 rw[list_sort_plain]
 refine wpAny_bind (listItems_at ho rfl ?_)
 refine wpAny_bind (listUpdate_at ho rfl ?_ (by rw[List.size_toArray,sizeLine_eq];omega) (Nat.zero_le _))
 refine wpAny_bind (seqEpoch_at ho1 rfl ?_)
 refine wpAny_bind (wpAny_newTuple ?_ (by show vs.length<=_;rw[sizeLine_eq];omega))
 refine wpAny_bind (wpAny_newList ?_ (Nat.zero_le _))
 refine wpAny_holding ?_
 show wpAny (model prog w) A _ P E {s with heap:=((s.heap.update a (Obj.mapSeq fun _=>(#[]:Array Value))).push (seqObj "tuple" vs.toArray 0)).push (seqObj "list" #[] 0)}
 dsimp only
 by_cases h2:vs.toArray.size<2
 ·have h2':vs.length<2:=by simpa using h2
  rw[if_pos h2,if_pos h2]
  refine wpAny_bind (wpAny_pure ?_)
  rw[StateT.run_pure]
  refine wpAny_bind (wpAny_pure ?_)
  dsimp only
  refine wpAny_bind (seqEpoch_at ho6 rfl ?_)
  refine wpAny_bind (listUpdate_at ho6 rfl ?_ (Nat.zero_le _) (by rw[Array.size_map];show(pairsOf vs).size<=_;rw[pairsOf_size,sizeLine_eq];omega))
  simp only[bne_self_eq_false,Bool.false_eq_true,if_false]
  refine wpAny_pure ?_
  have eo:(vs.toArray.zip vs.toArray).map (·.2)=List.toArray vs:=by
   apply Array.toList_inj.mp
   simp[List.map_snd_zip]
  have s2:=Heap.SameBut.update (((s.heap.update a (Obj.mapSeq fun _=>(#[]:Array Value))).push (seqObj "tuple" vs.toArray 0)).push (seqObj "list" #[] 0)) a (Obj.mapSeq fun _=>List.toArray vs)
  obtain⟨c2,hc2⟩:∃c2,((((s.heap.update a (Obj.mapSeq fun _=>(#[]:Array Value))).push (seqObj "tuple" vs.toArray 0)).push (seqObj "list" #[] 0)).update a (Obj.mapSeq fun _=>List.toArray vs)).get? a=some (seqObj "list" (List.toArray vs) c2):=⟨_,get?_update_seq ho6 fun _=>List.toArray vs⟩
  have fin:=h _ vs c2 (outs_small h2') (fun b o hb e=>(s2.2 b hb).trans (keep b o hb e)) hc2
  first
   |exact fin
   |(rw[<-eo]at fin;exact fin)
   |(show P _ {s with heap:=Heap.update _ a (Obj.mapSeq fun _=>(vs.toArray.zip vs.toArray).map (·.2))};rw[eo];exact fin)
 ·have h2':2<=vs.length:=by rw[List.size_toArray]at h2;omega
  rw[if_neg h2,if_neg h2]
  refine wpAny_bind (hkind h2' _ keep _ ?_)
  refine wpAny_bind (wpAny_mono (kat_run (Q:=fun st' s'=>s'={s with heap:=((s.heap.update a (Obj.mapSeq fun _=>(#[]:Array Value))).push (seqObj "tuple" vs.toArray 0)).push (seqObj "list" #[] 0)}/\∃p:Array Nat,p.size=vs.length/\arrOf st'=p.map (kas_item (vs.toArray.zip vs.toArray))/\failedOf st'=none/\Ord vs.length p/\So key p vs.length)
   (G:=fun p s'=>s'={s with heap:=((s.heap.update a (Obj.mapSeq fun _=>(#[]:Array Value))).push (seqObj "tuple" vs.toArray 0)).push (seqObj "list" #[] 0)}/\Ord vs.length p/\So key p vs.length)
   rfl h2' h64 (fun p' st' s' a1 a2 a3 a4=>⟨a4.1,p',a1,a2,a3,a4.2.1,a4.2.2⟩) (sort (hask h2' _ keep) (by omega) fun p' hp hs=>⟨rfl,hp,hs⟩)) ?_ fun _ _ e=>e)
  rintro⟨⟨⟩,st'⟩ s' ⟨rfl,p,hp,har,hf,hor,hso⟩
  dsimp only
  have hout:=kat_snds rfl har
  have hsz:(List.toArray (p.toList.map fun i=>vs.getD i Value.none)).size=vs.length:=by rw[List.size_toArray,List.length_map,Array.length_toList,hp]
  rw[hout]
  refine wpAny_bind (seqEpoch_at ho6 rfl ?_)
  refine wpAny_bind (listUpdate_at ho6 rfl ?_ (Nat.zero_le _) (Nat.le_trans (Nat.le_of_eq hsz) (by rw[sizeLine_eq];omega)))
  rw[hf]
  simp only[bne_self_eq_false,Bool.false_eq_true,if_false]
  have s2:=Heap.SameBut.update (((s.heap.update a (Obj.mapSeq fun _=>(#[]:Array Value))).push (seqObj "tuple" vs.toArray 0)).push (seqObj "list" #[] 0)) a (Obj.mapSeq fun _=>List.toArray (p.toList.map fun i=>vs.getD i Value.none))
  obtain⟨c2,hc2⟩:∃c2,((((s.heap.update a (Obj.mapSeq fun _=>(#[]:Array Value))).push (seqObj "tuple" vs.toArray 0)).push (seqObj "list" #[] 0)).update a (Obj.mapSeq fun _=>List.toArray (p.toList.map fun i=>vs.getD i Value.none))).get? a=some (seqObj "list" (List.toArray (p.toList.map fun i=>vs.getD i Value.none)) c2):=⟨_,get?_update_seq ho6 fun _=>_⟩
  exact wpAny_pure (h _ _ c2 ⟨p,hor,hso,rfl⟩ (fun b o hb e=>(s2.2 b hb).trans (keep b o hb e)) hc2)
theorem sorted_own{l:Addr}{Q:Value->Shared->Prop}(hl:s.heap.IsList l vs.toArray)(h64:vs.length<64)(hkind:2<=vs.length->∀h',(∀b o,s.heap.get? b=some o->h'.get? b=some o)->∀(E:Value->Shared->Prop) (Q:SortKind->Shared->Prop),Q κ {s with heap:=h'}->wpAny (model prog w) A.in1.in1 (keyKind' vs.toArray) Q E {s with heap:=h'})(hask:2<=vs.length->∀h',(∀b o,s.heap.get? b=some o->h'.get? b=some o)->AskOk O key vs.length (kas_ask prog w A.in1.in1 κ vs) {s with heap:=h'})(h:∀D h' out c,Outs key vs out->s.heap.objs.size<=D->(∀b o,s.heap.get? b=some o->h'.get? b=some o)->h'.get? D=some (seqObj "list" (List.toArray out) c)->Q (.ref D) {s with heap:=h'}):
  wpAny (model prog w) A (call (.builtin "sorted") [.ref l]) Q E s:=by
 refine Calls.call_function_entry kind_sorted plain_sorted entry_sorted (args_sorted1 _) ?_
 unfold Builtin.«sorted»
 refine wpAny_bind (m:=checkCount "sorted" 1 1 _) (wpAny_pure ?_)
 refine wpAny_bind (collect_list hl ?_ (by rw[sizeLine_eq];omega))
 refine wpAny_bind (wpAny_newList ?_ (by rw[sizeLine_eq];omega))
 have hsz:((s.heap.push (seqObj "list" #[] 0)).update s.heap.objs.size (Obj.mapSeq (· ++vs.toArray))).objs.size=s.heap.objs.size+1:=by
  rw[Heap.size_update,size_push']
 have hoL:(((s.heap.push (seqObj "list" #[] 0)).update s.heap.objs.size (Obj.mapSeq (· ++vs.toArray))).push (seqObj "list" vs.toArray 0)).get? (s.heap.objs.size+1)=some (seqObj "list" vs.toArray 0):=by
  rw[<-hsz];exact Heap.get?_push_size _ rfl
 have keep:∀b o,s.heap.get? b=some o->(((s.heap.push (seqObj "list" #[] 0)).update s.heap.objs.size (Obj.mapSeq (· ++vs.toArray))).push (seqObj "list" vs.toArray 0)).get? b=some o:=fun b o q=>by
  have hlt:b<s.heap.objs.size:=Heap.lt_size q
  rw[Heap.get?_push_ne _ _ _ (by rw[hsz];exact Nat.ne_of_lt (Nat.lt_succ_of_lt hlt)),Heap.get?_update_ne _ _ _ _ (Nat.ne_of_lt hlt),Heap.get?_push_ne _ _ _ (Nat.ne_of_lt hlt)]
  exact q
 have ne:∀b o,s.heap.get? b=some o->b≠s.heap.objs.size+1:=fun b o q=>Nat.ne_of_lt (Nat.lt_succ_of_lt (Heap.lt_size q))
 show wpAny _ _ _ _ _ {s with heap:=((s.heap.push (seqObj "list" #[] 0)).update s.heap.objs.size (Obj.mapSeq (· ++vs.toArray))).push (seqObj "list" vs.toArray 0)}
 rw[hsz]
 refine wpAny_bind (wpAny_holding (wpAny_call_entry slot_list_sort ⟨_,hoL,rfl⟩ entry_list_sort ?body (args_list_sort _)))
 case body=>
  refine list_sort_own (key:=key) (κ:=κ) (s:={s with heap:=((s.heap.push (seqObj "list" #[] 0)).update s.heap.objs.size (Obj.mapSeq (· ++vs.toArray))).push (seqObj "list" vs.toArray 0)}) hoL h64
   (fun h2 h' k Q hq=>hkind h2 h' (fun b o q=>k b o (ne b o q) (keep b o q)) _ Q hq) (fun h2 h' k=>hask h2 h' fun b o q=>k b o (ne b o q) (keep b o q)) fun h' out c ho k hc=> ?_
  exact⟨_,rfl,wpAny_pure ⟨_,rfl,h _ h' out c ho (Nat.le_succ _) (fun b o q=>k b o (ne b o q) (keep b o q)) hc⟩⟩
end
end Srt
namespace HT
open PySem PyProof.Rows
theorem lexLt_iff:∀(a b:List Int),lexLt a b=decide (a<b)
 |[],[]=>by simp[lexLt]
 |[],_::_=>by simp[lexLt]
 |_::_,[]=>by simp[lexLt]
 |x::xs,y::ys=>by
  rw[lexLt_cons,lexLt_iff xs ys]
  by_cases e:x=y
  ·subst e;simp
  ·rw[if_neg e]
   by_cases l:x<y
   ·simp[l,List.cons_lt_cons_iff]
   ·have:¬(x::xs<y::ys):=by rw[List.cons_lt_cons_iff];simp[l,e]
    simp[l,this]
end HT
namespace Srt
open PySem PySem.W PyProof.Rows PySem.Calls
noncomputable def lexOrd:KeyOrd where
 α:=List Int
 blt a b:=decide (a<b)
 irrefl a:=by simpa using List.lt_irrefl a
 trans a b c h1 h2:=by simp only[decide_eq_true_eq]at *;exact List.lt_trans h1 h2
 negTrans a b c h:=by
  simp only[decide_eq_true_eq]at *
  by_cases hab:a<b
  ·exact .inl hab
  ·exact .inr (List.lt_of_le_of_lt (List.not_lt.mp hab) h)
 total a b h1 h2:=by simp only[decide_eq_false_iff_not]at *;exact List.le_antisymm (List.not_lt.mp h2) (List.not_lt.mp h1)
section
variable{prog:Program}{w:World}{A:Around}{E:Value->Shared->Prop}{s:Shared}{Q:Bool->Shared->Prop}
theorem lex_ints{na nb:Nat}{xs ys:List Value}{ns ms:List Int}(i:Nat)(hx:IntsAre xs ns)(hy:IntsAre ys ms)(hl:ns.length+nb=ms.length+na)(h:Q (HT.lexLt ns ms) s):KatLex prog w A true (decide (na<nb)) Q (xs.zip ys) i s:=by
 induction hx generalizing ys ms i with
 |nil=>
  rw[List.zip_nil_left]
  refine kat_nil ?_
  cases hy with
  |nil=>
   rw[HT.lexLt_nil_nil]at h
   rw[decide_eq_false (by simp only[List.length_nil]at hl;omega)];exact h
  |cons c u hw=>
   rw[HT.lexLt_nil_cons]at h
   rw[decide_eq_true (by simp only[List.length_nil,List.length_cons]at hl;omega)];exact h
 |cons a t hv ih=>
  cases hy with
  |nil=>
   rw[List.zip_nil_right]
   refine kat_nil ?_
   rw[HT.lexLt_cons_nil]at h
   rw[decide_eq_false (by simp only[List.length_nil,List.length_cons]at hl;omega)];exact h
  |cons c u hw=>
   rw[List.zip_cons_cons]
   rw[HT.lexLt_cons]at h
   refine kat_cons (wpAny_eqBool_int ?_)
   refine kat_go (fun e=> ?_) fun e=> ?_
   ·have e':a=c:=by simpa using e
    rw[if_pos e']at h
    exact kat_yes (ih (i+1) hw (by simp only[List.length_cons]at hl;omega) h)
   ·have e':a≠c:=by simpa using e
    rw[if_neg e']at h
    refine kat_no ?_
    cases i with
    |zero=>exact oneLt_int h
    |succ i=>exact kat_one _ _ (lt_int (show PySem.W.BoolBack Q (.bool (decide (a<c))) s from h))
end
theorem outs_of{O:KeyOrd}{key:Nat->O.α}{α:Type}{vs out:List Value}{its:List α}{d:α}{f:α->O.α}{R:α->Value->Prop}(hR:Paired R its vs)(hk:∀i (hi:i<its.length),key i=f its[i])(h:Outs key vs out):
  ∃its':List α,its'.Perm its/\Paired R its' out/\its'.Pairwise fun x y=>O.kle (f x) (f y):=by
 obtain⟨p,hp,hs,rfl⟩:=h
 have hl:=hR.length
 have get:∀{l₁:List α} {l₂:List Value} {i:Nat},Paired R l₁ l₂->(h:i<l₁.length)->∃v,l₂[i]? =some v/\R l₁[i] v:=by
  intro l₁ l₂ i q
  induction q generalizing i with
  |nil=>intro h;simp at h
  |cons r t ih=>
   intro h
   cases i with
   |zero=>exact⟨_,rfl,r⟩
   |succ i=>
    obtain⟨v,e,rv⟩:=ih (i:=i) (by simpa using h)
    exact⟨v,by simpa using e,by simpa using rv⟩
 have hlt:∀i∈p.toList,i<its.length:=fun i hi=>by
  have:=(Array.perm_iff_toList_perm.mp hp.perm).mem_iff.mp hi
  rw[hl];simpa using this
 refine⟨p.toList.map fun i=>its.getD i d,?_,?_,?_⟩
 ·have q:=(Array.perm_iff_toList_perm.mp hp.perm).map (fun i=>its.getD i d)
  refine q.trans ?_
  have e:(List.toArray (List.range vs.length)).toList.map (fun i=>its.getD i d)=its:=by
   rw[<-hl]
   apply List.ext_getElem?
   intro i
   simp only[List.getElem?_map]
   by_cases hi:i<its.length
   ·simp[hi]
   ·simp[hi]
  rw[e]
 ·have mk:∀l:List Nat,(∀i∈l,i<its.length)->Paired R (l.map fun i=>its.getD i d) (l.map fun i=>vs.getD i Value.none):=by
   intro l
   induction l with
   |nil=>intro _;exact .nil
   |cons i l ih=>
    intro hb
    refine .cons ?_ (ih fun j hj=>hb j (List.mem_cons_of_mem _ hj))
    have hi:=hb i List.mem_cons_self
    obtain⟨v,e,r⟩:=get hR hi
    have e1:its.getD i d=its[i]:=by simp[hi]
    have e2:vs.getD i Value.none=v:=by rw[List.getD_eq_getElem?_getD,e];rfl
    show R (its.getD i d) (vs.getD i Value.none)
    rw[e1,e2];exact r
  exact mk _ hlt
 ·rw[List.pairwise_iff_getElem]
  intro i j hi hj hij
  simp only[List.length_map,Array.length_toList]at hi hj
  simp only[List.getElem_map]
  have hsz:=hp.size
  have q:=hs i j (by omega) (by omega)
  have e:∀k (hk':k<p.size),KN key p k=f (its.getD p.toList[k] d):=fun k hk'=>by
   have e1:p.getD k 0=p.toList[k]:=by simp[Array.getD,hk']
   have hb:=hlt p.toList[k] (List.getElem_mem _)
   have e2:its.getD p.toList[k] d=its[p.toList[k]]:=by simp only[List.getD_eq_getElem?_getD,List.getElem?_eq_getElem hb,Option.getD_some]
   unfold KN
   rw[e1,e2]
   exact hk _ hb
  rw[e i hi,e j hj]at q
  exact q
end Srt
namespace L2
open PySem PySem.Spec PyProof.Rows PySem.W
section
variable{X:Cx}
theorem zbz:CallR X (.builtin "sorted") (fun xs H Q=>∃(a:Addr) (its:List (Addr×List Int)),xs=[.ref a]/\SqL X.K H a (its.map fun p=>V.ref p.1)/\(∀p∈its,SqT X.K H p.1 (p.2.map V.int)/\p.2≠[])/\its.length<64/\
  ∀(l:Addr) (its':List (Addr×List Int)),H l=none->its'.Perm its->its'.Pairwise (fun p q=>HT.lexLt q.2 p.2=false)->Q (.ref l) (upd H l (.lst (its'.map fun p=>V.ref p.1)))):=by
 intro pins s σ H xs us Q I r h
 obtain⟨a,its,rfl,hS,hT,h64,q⟩:=h
 obtain⟨u,rfl,ru⟩:=r.one
 cases ru
 obtain⟨vs,rv,pl,hz⟩:=I.list hS
 have hlen:its.length=vs.length:=by have:=rv.length;simpa using this
 -- the values beside the tuples
 have pr:Paired (fun(p:Addr×List Int) (v:Value)=>v= .ref p.1) its vs:=by
  have go:∀(l:List (Addr×List Int)) (us:List Value),Vals (l.map fun p=>V.ref p.1) us->Paired (fun(p:Addr×List Int) (v:Value)=>v= .ref p.1) l us:=by
   intro l
   induction l with
   |nil=>intro us h;cases h;exact .nil
   |cons p l ih=>
    intro us h
    cases h with
    |cons r t=>exact .cons r (ih _ t)
  exact go its vs rv
 have tup:∀p∈its,∃(items:List Value),IntsAre items p.2/\IsTup s.heap p.1 items.toArray:=fun p hp=>by
  obtain⟨its',r',t',_⟩:=I.tuple (hT p hp).1
  exact⟨its',intsAre_of r',t'⟩
 refine Srt.sorted_own (O:=Srt.lexOrd) (key:=fun i=>(its.getD i (0,[])).2) (κ:=tuples' true) (s:=s) pl.isList (by omega) (fun h2 h' k E' Q' hq=> ?_) (fun h2 h' k=> ?_) (fun D h' out c ho hD k hc=> ?_)
 ·have kt:∀(l:List (Addr×List Int)) (us:List Value),Paired (fun(p:Addr×List Int) (v:Value)=>v= .ref p.1) l us->(∀p∈l,p∈its)->∃fs:List Value,KatTups h' us fs/\fs.length=us.length/\∀v∈fs,∃i t,v=Value.int i t:=by
   intro l us h
   induction h with
   |nil=>intro _;exact⟨[],trivial,rfl,fun _ hv=>nomatch hv⟩
   | @cons p v l us r t ih=>
    intro hs
    obtain⟨fs,k1,k2,k3⟩:=ih fun p hp=>hs p (List.mem_cons_of_mem _ hp)
    obtain⟨items,hi,o,e,hc,n,hd⟩:=tup p (hs p List.mem_cons_self)
    have hne:=(hT p (hs p List.mem_cons_self)).2
    obtain⟨pa,pn⟩:=p
    dsimp only at hi hne e r
    cases hi with
    |nil=>exact absurd rfl hne
    |cons i t hi'=>
     rw[r]
     refine⟨Value.int i t::fs,KatTups.cons (k _ _ e) hc hd (by simp) k1,by simp[k2],fun v hv=> ?_⟩
     rcases List.mem_cons.mp hv with e|e
     ·exact⟨i,t,e⟩
     ·exact k3 v e
  obtain⟨fs,k1,k2,k3⟩:=kt its vs pr fun _ hp=>hp
  refine kat_kind (s:={s with heap:=h'}) (T:= .type "int") k1 (by omega) (fun v hv=> ?_) (by rfl) hq
  obtain⟨i,t,rfl⟩:=k3 v hv
  exact fun A Q E s _ q=>wpAny_pure q
 ·intro i j C hi hj hC
  rw[<-hlen]at hi hj
  have get:∀i (hi:i<its.length),vs.getD i Value.none= .ref its[i].1:=by
   have go:∀(l:List (Addr×List Int)) (us:List Value),Paired (fun(p:Addr×List Int) (v:Value)=>v= .ref p.1) l us->∀i (hi:i<l.length),us.getD i Value.none= .ref l[i].1:=by
    intro l us h
    induction h with
    |nil=>intro i hi;simp at hi
    |cons r t ih=>
     intro i hi
     cases i with
     |zero=>exact r
     |succ i=>simpa using ih i (by simpa using hi)
   exact go its vs pr
  unfold kas_ask
  rw[get i hi,get j hj]
  obtain⟨xi,hxi,oi,ei,ci,ni,di⟩:=tup its[i] (List.getElem_mem _)
  obtain⟨xj,hxj,oj,ej,cj,nj,dj⟩:=tup its[j] (List.getElem_mem _)
  refine kat_lt (s:={s with heap:=h'}) (k _ _ ei) di (k _ _ ej) dj ?_
  refine Srt.lex_ints 0 hxi hxj ?_ ?_
  ·have:=hxi.length;have:=hxj.length
   simp only[List.size_toArray]
   omega
  ·rw[HT.lexLt_iff]
   have e1:its.getD i (0,[])=its[i]:=by simp[hi]
   have e2:its.getD j (0,[])=its[j]:=by simp[hj]
   have hC':C (decide ((its.getD i (0,[])).2<(its.getD j (0,[])).2)) {s with heap:=h'}:=hC
   rw[e1,e2]at hC'
   exact hC'
 ·obtain⟨its',hp,hr,hw⟩:=Srt.outs_of (d:=((0,[]):Addr×List Int)) (f:=fun p=>p.2) pr (fun i hi=>by show(its.getD i (0,[])).2=_;simp[hi]) ho
  have hn:H D=none:=I.hok.fresh hD
  have rv':Vals (its'.map fun p=>V.ref p.1) out:=by
   have go:∀(l:List (Addr×List Int)) (us:List Value),Paired (fun(p:Addr×List Int) (v:Value)=>v= .ref p.1) l us->Vals (l.map fun p=>V.ref p.1) us:=by
    intro l us h
    induction h with
    |nil=>exact .nil
    |cons r t ih=>exact .cons r ih
   exact go its' out hr
  have zl:(its'.map fun p=>V.ref p.1).length<=sizeLine:=by
   have:=hp.length_eq
   rw[List.length_map]
   exact Nat.le_of_lt (small1000 (by omega))
  have J:Inv X pins σ (upd H D (.lst (its'.map fun p=>V.ref p.1))) {s with heap:=h',toks:=s.toks}:=I.laid k hD ⟨zl,out,c,rv',hc⟩
  refine⟨.ref D,_,J,rfl,q D its' hn hp (hw.imp fun{x y} hxy=> ?_)⟩
  rw[HT.lexLt_iff];exact hxy
end
end L2
namespace L2
open PySem PySem.Spec PyProof.Rows
section
variable{X:Cx}
theorem bools_of:∀{bs:List Bool} {us:List Value},Vals (bs.map V.bl) us->us=bs.map Value.bool
 |[],_,h=>by cases h;rfl
 |b::bs,_,h=>by
  cases h with
  |cons r t=>rw[List.map_cons,bools_of t];exact congrArg (· ::_) r
theorem call_all(hc:X.calm=true):CallR X (.builtin "all") (fun xs H Q=>∃(a:Addr) (bs:List Bool),xs=[.ref a]/\SqL X.K H a (bs.map V.bl)/\Q (.bl (bs.all id)) H):=by
 intro pins s σ H xs us Q I r h
 obtain⟨a,bs,rfl,hS,q⟩:=h
 obtain⟨u,rfl,ru⟩:=r.one
 cases ru
 obtain⟨vs,rv,pl,hz⟩:=I.list hS
 have hv:=bools_of rv
 have hl:=pl.isList
 have hlt:a<s.heap.objs.size:=by obtain⟨_,e,_⟩:=hl;exact Heap.lt_size e
 refine call_all_walk (wpAny_pyIter_list hl ?_)
 refine⟨s.heap.objs.size,[s.heap.objs.size,a],[s.heap.objs.size],vs.toArray.size,_,_,fun i=>(bs[i]?).getD true,rfl,Walks.list (A:=X.A.in1) (I.ok.hd hc) _ a (Nat.ne_of_lt hlt) vs.toArray,
  ⟨⟨_,Heap.get?_push_size _ rfl,rfl,rfl⟩,hl.push _⟩,fun i v s' Q' E' hP hQ=> ?_,fun h' tk hk=> ?_⟩
 ·have hP':vs[i]? =some v:=by simpa using hP
  rw[hv,List.getElem?_map]at hP'
  cases e:bs[i]? with
  |none=>rw[e]at hP';cases hP'
  |some b=>
   rw[e]at hP'
   cases hP'
   simp only[e,Option.getD_some]at hQ
   exact wpAny_truthy_bool hQ
 ·have e:((List.range vs.toArray.size).all fun i=>(bs[i]?).getD true)=bs.all id:=by
   rw[List.size_toArray,hv,List.length_map];exact LSm.range_all bs
  rw[e]
  exact⟨.bl _,H,I.kept (LSm.kept_iter hk),rfl,q⟩
noncomputable def KindV(K:W.Frag)(H:Hp):V->String->Prop
 | .non,T=>T="NoneType"
 | .bl _,T=>T="bool"
 | .int _,T=>T="int"
 | .str _,T=>T="str"
 | .ref a,T=>(T="tuple"/\∃xs,SqT K H a xs)\/(T="list"/\∃xs,SqL K H a xs)\/(T="dict"/\∃kvs,H a=some (.dK kvs))
 |_,_=>False
noncomputable def isiB(T C:String):Bool:=T==C||(T=="bool"&&C=="int")
theorem zbf:CallR X (.builtin "isinstance") (fun xs H Q=>∃(x:V) (T C:String),xs=[x,.ty C]/\KindV X.K H x T/\(C="int"\/C="bool"\/C="tuple"\/C="list")/\Q (.bl (isiB T C)) H):=by
 intro pins s σ H xs us Q I r h
 obtain⟨x,T,C,rfl,hk,hC,q⟩:=h
 obtain⟨u,v,rfl,ru,rv⟩:=r.two
 cases rv
 have fin0:∀b,b=isiB T C->EP X pins σ Q (.bool b) s:=fun b e=>⟨.bl b,H,I,rfl,by rw[e];exact q⟩
 have fin1:∀b,b=isiB T C->EP X pins σ Q (.bool b) {s with toks:=s.toks+1}:=fun b e=>⟨.bl b,H,I.tok _,rfl,by rw[e];exact q⟩
 cases x with
 |non=>
  cases ru;cases hk
  rcases hC with rfl|rfl|rfl|rfl
  ·exact IsiPair.NoneType_int (fin1 _ rfl)
  ·exact IsiPair.NoneType_bool (fin1 _ rfl)
  ·exact IsiPair.NoneType_tuple (fin1 _ rfl)
  ·exact IsiPair.NoneType_list (fin1 _ rfl)
 |bl b=>
  cases ru;cases hk
  rcases hC with rfl|rfl|rfl|rfl
  ·exact IsiPair.bool_int (fin0 _ rfl)
  ·exact IsiPair.bool_bool (fin0 _ rfl)
  ·exact IsiPair.bool_tuple (fin1 _ rfl)
  ·exact IsiPair.bool_list (fin1 _ rfl)
 |int i=>
  obtain⟨t,rfl⟩:=ru;cases hk
  rcases hC with rfl|rfl|rfl|rfl
  ·exact IsiPair.int_int (fin0 _ rfl)
  ·exact IsiPair.int_bool (fin1 _ rfl)
  ·exact IsiPair.int_tuple (fin1 _ rfl)
  ·exact IsiPair.int_list (fin1 _ rfl)
 |str z=>
  obtain⟨t,rfl⟩:=ru;cases hk
  rcases hC with rfl|rfl|rfl|rfl
  ·exact IsiPair.str_int (fin1 _ rfl)
  ·exact IsiPair.str_bool (fin1 _ rfl)
  ·exact IsiPair.str_tuple (fin1 _ rfl)
  ·exact IsiPair.str_list (fin1 _ rfl)
 |ref a=>
  cases ru
  rcases hk with⟨rfl,xs,hS⟩|⟨rfl,xs,hS⟩|⟨rfl,kvs,hS⟩
  ·obtain⟨its,_,⟨o,e,c,n,d⟩,_⟩:=I.tuple hS
   rcases hC with rfl|rfl|rfl|rfl
   ·exact IsiPair.tuple_int e c (fin1 _ rfl)
   ·exact IsiPair.tuple_bool e c (fin1 _ rfl)
   ·exact IsiPair.tuple_tuple e c (fin0 _ rfl)
   ·exact IsiPair.tuple_list e c (fin1 _ rfl)
  ·obtain⟨its,_,⟨o,n,e,c,d,_⟩,_⟩:=I.list hS
   rcases hC with rfl|rfl|rfl|rfl
   ·exact IsiPair.list_int e c (fin1 _ rfl)
   ·exact IsiPair.list_bool e c (fin1 _ rfl)
   ·exact IsiPair.list_tuple e c (fin1 _ rfl)
   ·exact IsiPair.list_list e c (fin0 _ rfl)
  ·obtain⟨_,_,vs,_,o,es,ep,e,c,_⟩:=I.hok a _ hS
   have c':o.cls= .type "dict":=c.1
   rcases hC with rfl|rfl|rfl|rfl
   ·exact IsiPair.dict_int e c' (fin1 _ rfl)
   ·exact IsiPair.dict_bool e c' (fin1 _ rfl)
   ·exact IsiPair.dict_tuple e c' (fin1 _ rfl)
   ·exact IsiPair.dict_list e c' (fin1 _ rfl)
 |_=>exact hk.elim
end
end L2
namespace L2
open PySem PySem.Spec PyProof.Rows
mutual
inductive DV(K:W.Frag)(H:Hp):V->PyData->Prop
 |non:DV K H .non .none
 |bl (b:Bool):DV K H (.bl b) (.bool b)
 |int (i:Int):DV K H (.int i) (.int i)
 |str (x:Str):DV K H (.str x) (.str x)
 |tup {a:Addr} {xs:List V} {ds:List PyData} (h:SqT K H a xs) (t:DVs K H xs ds):DV K H (.ref a) (.tuple ds)
 |lst {a:Addr} {xs:List V} {ds:List PyData} (h:SqL K H a xs) (t:DVs K H xs ds):DV K H (.ref a) (.list ds)
 |dc0 {a:Addr} (h:H a=some (.dK [])):DV K H (.ref a) (.dict [])
 |dc1 {a b:Addr} {i:Int} (h:H a=some (.dK [(Sum.inl i,.ref b)])) (t:SqT K H b []):DV K H (.ref a) (.dict [(.int i,.tuple [])])
inductive DVs(K:W.Frag)(H:Hp):List V->List PyData->Prop
 |nil:DVs K H [] []
 |cons {x:V} {d:PyData} {xs:List V} {ds:List PyData} (h:DV K H x d) (t:DVs K H xs ds):DVs K H (x::xs) (d::ds)
end
theorem Same.tup{K:W.Frag}{H H':Hp}{a:Addr}{xs:List V}(e:Same H H')(h:SqT K H a xs):SqT K H' a xs:=by
 rcases h with(h|⟨o,h⟩)|h
 ·exact .inl (.inl (e _ _ h))
 ·exact .inl (.inr ⟨o,e _ _ h⟩)
 ·exact .inr h
theorem DV.same{K:W.Frag}{H H':Hp}(e:Same H H'){x:V}{d:PyData}(h:DV K H x d):DV K H' x d:=
 DV.rec (motive_1:=fun x d _=>DV K H' x d) (motive_2:=fun xs ds _=>DVs K H' xs ds) .non (fun b=> .bl b) (fun i=> .int i) (fun x=> .str x) (fun h _ t=> .tup (e.tup h) t) (fun h _ t=> .lst (e.seq h) t) (fun h=> .dc0 (e _ _ h)) (fun h t=> .dc1 (e _ _ h) (e.tup t)) .nil (fun _ _ h t=> .cons h t) h
theorem DVs.same{K:W.Frag}{H H':Hp}(e:Same H H'){xs:List V}{ds:List PyData}(h:DVs K H xs ds):DVs K H' xs ds:=
 DVs.rec (motive_1:=fun x d _=>DV K H' x d) (motive_2:=fun xs ds _=>DVs K H' xs ds) .non (fun b=> .bl b) (fun i=> .int i) (fun x=> .str x) (fun h _ t=> .tup (e.tup h) t) (fun h _ t=> .lst (e.seq h) t) (fun h=> .dc0 (e _ _ h)) (fun h t=> .dc1 (e _ _ h) (e.tup t)) .nil (fun _ _ h t=> .cons h t) h
theorem pairs_nil{P:Program}{w:World}{es:List DictEntry}(h:Pairs (mixKind P w) es []):es=[]:=by
 cases h;rfl
theorem pairs_one{P:Program}{w:World}{es:List DictEntry}{k:Key}{u:Value}(h:Pairs (mixKind P w) es [(k,u)]):∃e,es=[e]/\keyIs k e.key=true/\e.val=u:=by
 cases h with
 |cons h1 h2 h3=>
  cases h3
  exact⟨_,rfl,h1,h2⟩
section
variable{X:Cx}{pins:List (Addr×Obj)}{σ:St}{H:Hp}{s:Shared}
theorem dc0_reads(I:Inv X pins σ H s){a:Addr}(h:H a=some (.dK [])):Reads s.heap (.ref a) (.dict []) (a::[]++[])/\(a==sysModules)=false:=by
 obtain⟨_,hne,vs,r0,o,es,ep,e,c,d,_,pr,_⟩:=I.hok _ _ h
 cases r0
 have hes:es.toList=[]:=pairs_nil pr
 refine⟨.dict (kvs:=[]) (as:=[]) (bs:=[]) e c.1 d ?_ ?_,hne⟩
 ·rw[hes];exact .nil
 ·rw[hes];exact .nil
theorem dc1_reads(I:Inv X pins σ H s){a b:Addr}{i:Int}(h:H a=some (.dK [(Sum.inl i,.ref b)]))(t:SqT X.K H b []):Reads s.heap (.ref a) (.dict [(.int i,.tuple [])]) (a::([]++[])++([]++[]))/\(a==sysModules)=false:=by
 obtain⟨_,hne,vs,r0,o,es,ep,e,c,d,_,pr,_⟩:=I.hok _ _ h
 obtain⟨its,rv,⟨o2,e2,c2,n2,d2⟩,_⟩:=I.tuple t
 cases rv
 cases r0 with
 | @cons p q ps qs hq tl=>
  cases tl
  obtain⟨en,he,hk,hv⟩:=pairs_one pr
  obtain⟨k,u⟩:=q
  dsimp only at hq
  obtain⟨hk1,hu1⟩:=hq
  subst hk1
  cases hu1
  obtain⟨tk,ek⟩:∃tk,en.key=Value.int i tk:=by
   rcases zax hk with⟨i',t',e3,e4⟩|⟨x,t',e3,e4⟩
   ·cases e3;exact⟨t',e4⟩
   ·cases e3
  refine⟨.dict (kvs:=[(.int i,.tuple [])]) (as:=[]++[]) (bs:=[]++[]) e c.1 d ?_ ?_,hne⟩
  ·rw[he]
   show ReadsAll s.heap [en.key] [PyData.int i] _
   rw[ek]
   exact .cons (.int i tk) .nil
  ·rw[he]
   show ReadsAll s.heap [en.val] [PyData.tuple []] _
   rw[hv]
   exact .cons (.tuple e2 c2 d2 .nil) .nil
end
section
variable{X:Cx}{pins:List (Addr×Obj)}{σ:St}{H:Hp}{s:Shared}
theorem reads_tup(I:Inv X pins σ H s){a:Addr}{xs:List V}{ds:List PyData}(h:SqT X.K H a xs)(t:∀{us:List Value},Vals xs us->∃as,ReadsAll s.heap us ds as){u:Value}(r:RelV (.ref a) u):∃as,Reads s.heap u (.tuple ds) as:=by
 cases r
 obtain⟨its,rv,⟨o,e,c,n,d⟩,_⟩:=I.tuple h
 obtain⟨as,ra⟩:=t rv
 exact⟨_,.tuple e c d (by simpa using ra)⟩
theorem reads_lst(I:Inv X pins σ H s){a:Addr}{xs:List V}{ds:List PyData}(h:SqL X.K H a xs)(t:∀{us:List Value},Vals xs us->∃as,ReadsAll s.heap us ds as){u:Value}(r:RelV (.ref a) u):∃as,Reads s.heap u (.list ds) as:=by
 cases r
 obtain⟨its,rv,⟨o,n,e,c,_,d⟩,_⟩:=I.list h
 obtain⟨as,ra⟩:=t rv
 exact⟨_,.list e c d (by simpa using ra)⟩
theorem DV.reads(I:Inv X pins σ H s){x:V}{d:PyData}{u:Value}(h:DV X.K H x d)(r:RelV x u):∃as,Reads s.heap u d as:=
 DV.rec (motive_1:=fun x d _=>∀{u:Value},RelV x u->∃as,Reads s.heap u d as) (motive_2:=fun xs ds _=>∀{us:List Value},Vals xs us->∃as,ReadsAll s.heap us ds as)
  (fun r=>by cases r;exact⟨_,.none⟩) (fun b _ r=>by cases r;exact⟨_,.bool b⟩) (fun i _ r=>by obtain⟨t,rfl⟩:=r;exact⟨_,.int i t⟩) (fun x _ r=>by obtain⟨t,rfl⟩:=r;exact⟨_,.str x t⟩)
  (fun h _ t _ r=>reads_tup I h t r) (fun h _ t _ r=>reads_lst I h t r) (fun h _ r=>by cases r;exact⟨_,(dc0_reads I h).1⟩) (fun h t _ r=>by cases r;exact⟨_,(dc1_reads I h t).1⟩)
  (fun r=>by cases r;exact⟨_,.nil⟩) (fun _ _ h t _ r=>by
   cases r with
   |cons r rr=>
    obtain⟨as,ra⟩:=h r
    obtain⟨bs,rb⟩:=t rr
    exact⟨_,.cons ra rb⟩) h r
theorem DVs.reads(I:Inv X pins σ H s){xs:List V}{ds:List PyData}{us:List Value}(h:DVs X.K H xs ds)(r:Vals xs us):∃as,ReadsAll s.heap us ds as:=
 DVs.rec (motive_1:=fun _ _ _=>True) (motive_2:=fun xs ds _=>∀{us:List Value},Vals xs us->∃as,ReadsAll s.heap us ds as) trivial (fun _=>trivial) (fun _=>trivial) (fun _=>trivial) (fun _ _ _=>trivial) (fun _ _ _=>trivial) (fun _=>trivial) (fun _ _=>trivial)
  (fun r=>by cases r;exact⟨_,.nil⟩) (fun h _ _ t _ r=>by
   cases r with
   |cons r rr=>
    obtain⟨as,ra⟩:=DV.reads I h r
    obtain⟨bs,rb⟩:=t rr
    exact⟨_,.cons ra rb⟩) h r
end
mutual
noncomputable def noL:PyData->Bool
 | .list _=>false
 | .tuple ds=>noLs ds
 |_=>true
noncomputable def noLs:List PyData->Bool
 |[]=>true
 |d::ds=>noL d&&noLs ds
end
section
variable{X:Cx}{pins:List (Addr×Obj)}{σ:St}{H:Hp}{s:Shared}
end
theorem DVs.ints{K:W.Frag}{H:Hp}:∀(ns:List Int),DVs K H (ns.map V.int) (ns.map PyData.int)
 |[]=> .nil
 |n::ns=> .cons (.int n) (DVs.ints ns)
theorem DVs.len{K:W.Frag}{H:Hp}{xs:List V}{ds:List PyData}(h:DVs K H xs ds):xs.length=ds.length:=
 DVs.rec (motive_1:=fun _ _ _=>True) (motive_2:=fun xs ds _=>xs.length=ds.length) trivial (fun _=>trivial) (fun _=>trivial) (fun _=>trivial) (fun _ _ _=>trivial) (fun _ _ _=>trivial) (fun _=>trivial) (fun _ _=>trivial) rfl (fun _ _ _ t=>congrArg Nat.succ t) h
section
variable{X:Cx}
theorem op_eqD(hu:X.A.units+64<cLine):OpR X (compareOp .Eq) (fun x y H Q=>∃da db,DV X.K H x da/\DV X.K H y db/\da.canLay0=true/\db.canLay0=true/\min da.depth db.depth<=64/\Q (.bl (PyData.eqv da db)) H):=by
 intro pins s σ H x y v u Q I rx ry h
 obtain⟨da,db,hx,hy,ca,cb,hd,q⟩:=h
 obtain⟨as,ra⟩:=DV.reads I hx rx
 obtain⟨bs,rb⟩:=DV.reads I hy ry
 exact SeqAt.rcAt_reads ra rb ca cb (by omega) _ _ _ _ ⟨.bl _,H,I,rfl,q⟩
theorem op_neD(hu:X.A.units+64<cLine):OpR X (compareOp .NotEq) (fun x y H Q=>∃da db,DV X.K H x da/\DV X.K H y db/\da.canLay0=true/\db.canLay0=true/\min da.depth db.depth<=64/\Q (.bl (!PyData.eqv da db)) H):=by
 intro pins s σ H x y v u Q I rx ry h
 obtain⟨da,db,hx,hy,ca,cb,hd,q⟩:=h
 obtain⟨as,ra⟩:=DV.reads I hx rx
 obtain⟨bs,rb⟩:=DV.reads I hy ry
 exact SeqAt.rcNeAt_reads ra rb ca cb (by omega) _ _ _ _ ⟨.bl _,H,I,rfl,q⟩
theorem allLay:∀{ds:List PyData},PyData.canLayAll0 ds=true->∀d∈ds,d.canLay0=true
 |[],_,d,h=>nomatch h
 |e::ds,h,d,hd=>by
  have h':(e.canLay0&&PyData.canLayAll0 ds)=true:=h
  rw[Bool.and_eq_true]at h'
  rcases List.mem_cons.mp hd with rfl|hd
  ·exact h'.1
  ·exact allLay h'.2 d hd
open Classical in
theorem op_inD(hu:X.A.units+64<cLine):OpR X (compareOp .In) (fun x y H Q=>∃(p:Addr) (xs:List V) (ds:List PyData) (dx:PyData),y= .ref p/\(SqL X.K H p xs\/SqT X.K H p xs)/\DVs X.K H xs ds/\DV X.K H x dx/\PyData.canLayAll0 ds=true/\dx.canLay0=true/\dx.depth<=60/\
  Q (.bl (ds.any fun d=>PyData.eqv d dx)) H):=by
 intro pins s σ H x y v u Q I rx ry h
 obtain⟨p,xs,ds,dx,rfl,hq,hds,hx,ca,cb,hd,q⟩:=h
 cases ry
 obtain⟨bs,rb⟩:=DV.reads I hx rx
 have key:∀{its:List Value},Vals xs its->(∀y∈its,SeqAt.EqAt X.A.in1 s y v (decide (∃d as,Reads s.heap y d as/\d∈ds/\PyData.eqv d dx=true)))/\(its.any fun y=>decide (∃d as,Reads s.heap y d as/\d∈ds/\PyData.eqv d dx=true))=ds.any fun d=>PyData.eqv d dx:=by
  intro its rv
  obtain⟨as,ra⟩:=DVs.reads I hds rv
  have each:∀{us:List Value} {es:List PyData} {as:List Addr},ReadsAll s.heap us es as->(∀e∈es,e∈ds)->(∀y∈us,SeqAt.EqAt X.A.in1 s y v (decide (∃d as,Reads s.heap y d as/\d∈ds/\PyData.eqv d dx=true)))/\(us.any fun y=>decide (∃d as,Reads s.heap y d as/\d∈ds/\PyData.eqv d dx=true))=es.any fun d=>PyData.eqv d dx:=by
   intro us
   induction us with
   |nil=>intro es as h _;cases h;exact⟨(fun y hy=>(nomatch hy)),rfl⟩
   |cons y us ih=>
    intro es as h hs
    cases h with
    | @cons _ _ d ds' as' bs' r rr=>
     obtain⟨i1,i2⟩:=ih rr fun e he=>hs e (List.mem_cons_of_mem _ he)
     have cl:=allLay ca d (hs d List.mem_cons_self)
     have e:decide (∃d as,Reads s.heap y d as/\d∈ds/\PyData.eqv d dx=true)=PyData.eqv d dx:=by
      rw[Bool.eq_iff_iff,decide_eq_true_eq]
      constructor
      ·rintro⟨d',as'',r',_,q'⟩
       obtain⟨rfl,_⟩:=(PySem.Reads.unique r _ _ r')
       exact q'
      ·intro q'
       exact⟨d,_,r,hs d List.mem_cons_self,q'⟩
     refine⟨fun z hz=> ?_,?_⟩
     ·rcases List.mem_cons.mp hz with rfl|hz
      ·rw[e]
       exact SeqAt.eqAt_reads d dx _ s _ _ _ _ r rb cl cb (by show X.A.units+1+min d.depth dx.depth<cLine;omega)
      ·exact i1 z hz
     ·rw[List.any_cons,List.any_cons,i2,e]
  exact each ra fun e he=>he
 rcases hq with hq|hq
 ·obtain⟨its,r,pl,hz⟩:=I.list hq
  obtain⟨k1,k2⟩:=key r
  refine SeqAt.in_listAt _ pl.isList (fun w hw=>k1 w (by simpa using hw)) ⟨.bl _,H,I,rfl,?_⟩
  rw[show∀f:Value->Bool,its.toArray.any f=its.any f from fun f=>by simp,k2]
  exact q
 ·obtain⟨its,r,pl,hz⟩:=I.tuple hq
  obtain⟨k1,k2⟩:=key r
  refine SeqAt.in_tupleAt _ pl (fun w hw=>k1 w (by simpa using hw)) ⟨.bl _,H,I,rfl,?_⟩
  rw[show∀f:Value->Bool,its.toArray.any f=its.any f from fun f=>by simp,k2]
  exact q
end
end L2
namespace HT
open PySem PyProof.Rows
section
open PySem.SeqAt
open PySem.AutoSeq1 (wpAny_loadPart')
open PySem.MeetsSeq PySem.MeetsSeq2 PySem.MeetsSeq3
end
section
variable{prog:Program}{w:World}{A:Around}{E:Value->Shared->Prop}{s:Shared}
end
end HT
namespace L2
open PySem PySem.Spec PyProof.Rows
section
variable{X:Cx}
theorem op_fdivL:OpR X (binaryOp .FloorDiv) (rI (fun _ j=>0<j/\j<1000000000000000000000000000000) fun i j=> .int (i/j)):=opI fun i j _ _ _ _ _ hc q=>by
 have h1:(0:Int)<j:=hc.1
 have h2:j<1000000000000000000000000000000:=hc.2
 refine floordiv_int (by omega) ?_ (Or.inl (PyProof.noPylong_of_log2 ?_))
 ·rw[Int.fdiv_eq_ediv_of_nonneg _ (by omega)]
  exact q
 ·have h3:j.natAbs≠0:=by omega
  have h4:j.natAbs<2^100:=by
   have:(2:Nat)^100=1267650600228229401496703205376:=by decide
   omega
  have:=(Nat.log2_lt h3).mpr h4
  omega
noncomputable def rCatE(K:W.Frag):R2:=fun x y H Q=>∃a b xs ys,x= .ref a/\y= .ref b/\SqT K H a xs/\SqT K H b ys/\xs.length+ys.length<=sizeLine/\∀r H',Same H H'->SqT K H' r (xs++ys)->Q (.ref r) H'
theorem op_catE:OpR X (binaryOp .Add) (rCatE X.K):=by
 intro pins s σ H x y v u Q I rx ry h
 obtain⟨a,b,xs,ys,rfl,rfl,ha,hb,hz,q⟩:=h
 by_cases hx:xs=[]
 ·subst hx
  cases rx
  cases ry
  obtain⟨its,r1,p1,_⟩:=I.tuple ha
  obtain⟨its2,r2,p2,_⟩:=I.tuple hb
  cases r1
  obtain⟨⟨cls,dd,data,sl⟩,ho,hc,n,hd⟩:=id p1
  obtain⟨⟨cls2,dd2,data2,sl2⟩,ho2,hc2,n2,hd2⟩:=id p2
  simp only at hc hd hc2 hd2
  subst hc hd hc2 hd2
  exact concat_meets ⟨_,ho,rfl⟩ ⟨_,ho2,rfl⟩ noFill_tuple_add seq_tuple_add PySem.F.slot_tuple_add PySem.F.entry_tuple_add (PySem.F.args_tuple_add_2 _ _)
   (tuple_addW0 a b _ _ n n2 dd dd2 sl sl2 (by simp)) ⟨ho,ho2,⟨.ref b,H,I,rfl,q b H (Same.refl _) hb⟩⟩
 ·refine op_catT pins s σ H _ _ v u Q I rx ry ⟨a,b,xs,ys,rfl,rfl,ha,hb,hx,hz,fun e=> ?_,fun e p hp=> ?_⟩
  ·subst e
   exact q a H (Same.refl _) (by rw[List.append_nil];exact ha)
  ·exact q p _ (fun c o e=>by rw[zaq (zaj e hp)];exact e) (SqT.of zab)
end
end L2
namespace HT
open PySem PySem.Calls PySem.Spec PyProof.Rows PySem.W
section
variable{prog:Program}{w:World}{A:Around}{E:Value->Shared->Prop}{s:Shared}
end
end HT
namespace L2
open PySem PySem.Spec PyProof.Rows
section
variable{X:Cx}{e m:Expr}{te:TE}{tm:TO}{pos p2:Pos}
end
end L2
namespace L2
open PySem PySem.Spec PyProof.Rows
section
variable{X:Cx}{tg:Expr}
noncomputable def iListL(K:W.Frag)(tl:TE):TI:=fun σ H R=>tl σ H fun x H1=>∃a xs,x= .ref a/\SqL K H1 a xs/\(xs.length<=sizeLine->R (Itl K a) H1)
noncomputable def iTupL(K:W.Frag)(tl:TE):TI:=fun σ H R=>tl σ H fun x H1=>∃a xs,x= .ref a/\SqT K H1 a xs/\(xs.length<=sizeLine->R (Itt K a) H1)
theorem zcw{l:Expr}{tl:TE}(hl:PE X l tl):PI X tg l (iListL X.K tl):=by
 intro pins s σ H R I h
 refine thn (hl pins s σ H _ I h) fun v s1 ⟨x,H1,I1,r1,q1⟩=> ?_
 obtain⟨a,xs,e,hq,q⟩:=q1
 subst e
 cases r1
 obtain⟨its,rv,p,hz⟩:=I1.list hq
 refine wpAny_pyIter_list p.isList ?_
 refine⟨s1.heap.objs.size,[s1.heap.objs.size],_,_,H1,rfl,I1.kept (t':=s1.toks) fun b o e=>Heap.get?_push_of_some _ e,turn_list a _,⟨_,Heap.get?_push_size _ rfl,rfl,rfl⟩,fun b hb=> ?_,q hz⟩
 have e:b=s1.heap.objs.size:=by simpa using hb
 subst e
 exact I1.fpOk (Nat.le_refl _) (I1.hok.fresh (Nat.le_refl _))
theorem pi_tupL{l:Expr}{tl:TE}(hl:PE X l tl):PI X tg l (iTupL X.K tl):=by
 intro pins s σ H R I h
 refine thn (hl pins s σ H _ I h) fun v s1 ⟨x,H1,I1,r1,q1⟩=> ?_
 obtain⟨a,xs,e,hq,q⟩:=q1
 subst e
 cases r1
 obtain⟨its,rv,p,hz⟩:=I1.tuple hq
 refine wpAny_pyIter_tuple (show s1.heap.IsTuple a its.toArray from p) ?_
 refine⟨s1.heap.objs.size,[s1.heap.objs.size],_,_,H1,rfl,I1.kept (t':=s1.toks) fun b o e=>Heap.get?_push_of_some _ e,turn_tuple a _,⟨_,Heap.get?_push_size _ rfl,rfl,rfl⟩,fun b hb=> ?_,q hz⟩
 have e:b=s1.heap.objs.size:=by simpa using hb
 subst e
 exact I1.fpOk (Nat.le_refl _) (I1.hok.fresh (Nat.le_refl _))
theorem zbc:CallR X (.builtin "len") (fun xs H Q=>∃p ys,xs=[.ref p]/\(SqL X.K H p ys\/SqT X.K H p ys)/\(ys.length<=16777216->Q (.int ys.length) H)):=by
 intro pins s σ H xs us Q I r h
 obtain⟨p,ys,rfl,hq,q⟩:=h
 have hz:ys.length<=16777216:=by
  rw[<-sizeLine_eq]
  rcases hq with hq|hq
  ·exact(I.list hq).choose_spec.2.2
  ·exact(I.tuple hq).choose_spec.2.2
 exact call_len_seq pins s σ H _ us Q I r ⟨p,ys,rfl,hq,q hz⟩
end
mutual
inductive DX(K:W.Frag)(H:Hp):V->PyData->Prop
 |non:DX K H .non .none
 |bl (b:Bool):DX K H (.bl b) (.bool b)
 |int (i:Int):DX K H (.int i) (.int i)
 |str (x:Str):DX K H (.str x) (.str x)
 |tup {a:Addr} {xs:List V} {ds:List PyData} (h:SqT K H a xs) (t:DXs K H xs ds):DX K H (.ref a) (.tuple ds)
 |lst {a:Addr} {xs:List V} {ds:List PyData} (h:SqL K H a xs) (t:DXs K H xs ds):DX K H (.ref a) (.list ds)
 |dct {a:Addr} {kvs:List (Key×V)} (ds:List (PyData×PyData)) (h:H a=some (.dK kvs)):DX K H (.ref a) (.dict ds)
inductive DXs(K:W.Frag)(H:Hp):List V->List PyData->Prop
 |nil:DXs K H [] []
 |cons {x:V} {d:PyData} {xs:List V} {ds:List PyData} (h:DX K H x d) (t:DXs K H xs ds):DXs K H (x::xs) (d::ds)
end
theorem DX.same{K:W.Frag}{H H':Hp}(e:Same H H'){x:V}{d:PyData}(h:DX K H x d):DX K H' x d:=
 DX.rec (motive_1:=fun x d _=>DX K H' x d) (motive_2:=fun xs ds _=>DXs K H' xs ds) .non (fun b=> .bl b) (fun i=> .int i) (fun x=> .str x) (fun h _ t=> .tup (e.tup h) t) (fun h _ t=> .lst (e.seq h) t) (fun ds h=> .dct ds (e _ _ h)) .nil (fun _ _ h t=> .cons h t) h
theorem DXs.same{K:W.Frag}{H H':Hp}(e:Same H H'){xs:List V}{ds:List PyData}(h:DXs K H xs ds):DXs K H' xs ds:=
 DXs.rec (motive_1:=fun x d _=>DX K H' x d) (motive_2:=fun xs ds _=>DXs K H' xs ds) .non (fun b=> .bl b) (fun i=> .int i) (fun x=> .str x) (fun h _ t=> .tup (e.tup h) t) (fun h _ t=> .lst (e.seq h) t) (fun ds h=> .dct ds (e _ _ h)) .nil (fun _ _ h t=> .cons h t) h
theorem DV.dx{K:W.Frag}{H:Hp}{x:V}{d:PyData}(h:DV K H x d):DX K H x d:=
 DV.rec (motive_1:=fun x d _=>DX K H x d) (motive_2:=fun xs ds _=>DXs K H xs ds) .non (fun b=> .bl b) (fun i=> .int i) (fun x=> .str x) (fun h _ t=> .tup h t) (fun h _ t=> .lst h t) (fun h=> .dct [] h) (fun h _=> .dct _ h) .nil (fun _ _ h t=> .cons h t) h
theorem DVs.dx{K:W.Frag}{H:Hp}{xs:List V}{ds:List PyData}(h:DVs K H xs ds):DXs K H xs ds:=
 DVs.rec (motive_1:=fun _ _ _=>True) (motive_2:=fun xs ds _=>DXs K H xs ds) trivial (fun _=>trivial) (fun _=>trivial) (fun _=>trivial) (fun _ _ _=>trivial) (fun _ _ _=>trivial) (fun _=>trivial) (fun _ _=>trivial) .nil (fun h _ _ t=> .cons h.dx t) h
noncomputable def kindD:PyData->String
 | .none=>"NoneType"
 | .bool _=>"bool"
 | .int _=>"int"
 | .str _=>"str"
 | .list _=>"list"
 | .tuple _=>"tuple"
 | .dict _=>"dict"
theorem DX.kind{K:W.Frag}{H:Hp}:∀{x:V} {d:PyData},DX K H x d->KindV K H x (kindD d)
 |_,_,.non=>rfl
 |_,_,.bl _=>rfl
 |_,_,.int _=>rfl
 |_,_,.str _=>rfl
 |_,_,.tup h _=> .inl ⟨rfl,_,h⟩
 |_,_,.lst h _=> .inr (.inl ⟨rfl,_,h⟩)
 |_,_,.dct _ h=> .inr (.inr ⟨rfl,_,h⟩)
theorem DXs.len{K:W.Frag}{H:Hp}{xs:List V}{ds:List PyData}(h:DXs K H xs ds):xs.length=ds.length:=
 DXs.rec (motive_1:=fun _ _ _=>True) (motive_2:=fun xs ds _=>xs.length=ds.length) trivial (fun _=>trivial) (fun _=>trivial) (fun _=>trivial) (fun _ _ _=>trivial) (fun _ _ _=>trivial) (fun _ _=>trivial) rfl (fun _ _ _ t=>congrArg Nat.succ t) h
theorem DXs.get{K:W.Frag}{H:Hp}:∀{xs:List V} {ds:List PyData} {i:Nat} {x:V},DXs K H xs ds->xs[i]? =some x->∃d,ds[i]? =some d/\DX K H x d
 |_,_,_,_,.nil,e=>by simp at e
 |_,_,0,_,.cons h _,e=>by simp at e;subst e;exact⟨_,rfl,h⟩
 |_,_,i+1,x,.cons _ t,e=>by
  obtain⟨d,h1,h2⟩:=DXs.get (i:=i) t (by simpa using e)
  exact⟨d,by simpa using h1,h2⟩
structure Dfn(K:W.Frag)(mg:Str->Option Value)(x:Str)(st:Stmt)(ps:List Str)(f:Addr)(fd:FuncData):Prop where
 F:Fun K x x st f fd
 b:Binds K fd ps []
 m:mg x=some (.ref f)
theorem zad{H:Hp}{p:Addr}(h:H p=none)(o:HO):Same H (upd H p o):=fun b u q=>by rw[zaq (zaj q h)];exact q
end L2
namespace HsD
open PySem L2
noncomputable def wholeD:PyData->Bool
 | .int _=>true
 |_=>false
noncomputable def placeD(n:Int):PyData->Bool
 | .int i=>decide (0<=i)&&decide (i<n)
 |_=>false
noncomputable def intD:PyData->Int
 | .int i=>i
 |_=>0
noncomputable def kids:PyData->List PyData
 | .tuple ds=>ds
 |_=>[]
noncomputable def risesI(ns:List Int):Bool:=(List.range (ns.length-1)).all fun k=>decide (ns.getD k 0<ns.getD (k+1) 0)
noncomputable def risesT(ts:List (List Int)):Bool:=(List.range (ts.length-1)).all fun k=>HT.lexLt (ts.getD k []) (ts.getD (k+1) [])
noncomputable def setD(n:Int):PyData->Bool
 | .tuple ds=>ds.all (placeD n)&&risesI (ds.map intD)
 |_=>false
noncomputable def tieD(n:Int)(d:PyData):Bool:=setD n d&&decide ((kids d).length=2)
noncomputable def tiesD(n:Int):PyData->Bool
 | .tuple ds=>ds.all (tieD n)&&risesT (ds.map fun t=>(kids t).map intD)
 |_=>false
noncomputable def webD:PyData->Bool
 | .tuple [n,t]=>wholeD n&&(decide (0<=intD n)&&decide (intD n<=10))&&tiesD (intD n) t
 |_=>false
end HsD
namespace L2
open PySem PySem.Spec PyProof.Rows
section
variable{X:Cx}
theorem ix_listK(K:W.Frag)(h:X.K=K:=by rfl):IxR X (rIxL K):=by subst h;exact zbl
theorem call_lenK(K:W.Frag)(h:X.K=K:=by rfl):CallR X (.builtin "len") (fun xs H Q=>∃p ys,xs=[.ref p]/\(SqL K H p ys\/SqT K H p ys)/\(ys.length<=16777216->Q (.int ys.length) H)):=by subst h;exact zbc
theorem op_inDK(K:W.Frag)(hu:X.A.units+64<cLine)(h:X.K=K:=by rfl):OpR X (compareOp .In) (fun x y H Q=>∃(p:Addr) (xs:List V) (ds:List PyData) (dx:PyData),y= .ref p/\(SqL K H p xs\/SqT K H p xs)/\DVs K H xs ds/\DV K H x dx/\PyData.canLayAll0 ds=true/\dx.canLay0=true/\dx.depth<=60/\
  Q (.bl (ds.any fun d=>PyData.eqv d dx)) H):=by subst h;exact op_inD hu
theorem pg_tupK(K:W.Frag){es:List Expr}{k:Nat}{t:TGs}{n:Nat}{pos:Pos}(hc:X.calm=true)(h:PGs X es t)(hn:(assignEach es X.env).length=n:=by rfl)(hst:(assignEach es X.env).findIdx? (·.1)=none:=by rfl)(hK:X.K=K:=by rfl):PG X (.Tuple es k pos) (gTup K n t):=by subst hK;exact pg_tup hc h hn hst
end
end L2
namespace PySem
open Sem (wp)
open AutoSeq1 (wpAny_loadPart')
section
variable{prog:Program}{w:World}{A:Around}{E:Value->Shared->Prop}{s:Shared}
end
section
variable{prog:Program}{w:World}{A:Around}{E:Value->Shared->Prop}{s:Shared}
end
end PySem
namespace L2
open PySem PySem.Spec PyProof.Rows
section
variable{X:Cx}{p p' pos pos':Pos}{a:Expr}{ta:TA}
end
end L2
namespace PySem
open Sem (wp)
open Builtin
open AutoSeq1 (wpAny_loadPart')
end PySem
namespace L2
open PySem PySem.Spec PyProof.Rows
section
variable{X:Cx}{p p' pos pos':Pos}{a:Expr}{ta:TA}
end
end L2
namespace PySem
open Sem (wp)
open AutoSeq1 (wpAny_loadPart')
section
variable{prog:Program}{w:World}{A:Around}{E:Value->Shared->Prop}{s:Shared}
theorem nextOf_tup{it t:Addr}{i:Nat}{items:Array Value}{x:Value}{Q:Value->Shared->Prop}(hit:s.heap.IsTupleIter it t i)(ht:s.heap.IsTuple t items)(hx:items[i]? =some x)(hQ:∀h',h'.IsTupleIter it t (i+1)->Heap.SameBut it s.heap h'->Q x {s with heap:=h'}):wpAny (model prog w) A (Builtin.SmallTypes.nextOf (.ref it)) Q E s:=by
 obtain⟨o,ho,hc,hd⟩:=id hit;obtain⟨ol,hol,_,nl,hdl⟩:=ht;unfold Builtin.SmallTypes.nextOf
 refine wpAny_bind (wpAny_callSpecial?_slot (name:=Str.ofString "__next__") hit.typeIs F.slot_tuple_iterator_next (wpAny_call_entry F.slot_tuple_iterator_next hit.typeIs F.entry_tuple_iterator_next ?_ (F.args_tuple_iterator_next_1 _)))
 show wpAny _ _ (field (.ref it) 0>>=_) _ _ s;refine wpAny_bind (wpAny_field ho hd (x:= .ref t) rfl ?_)
 show wpAny _ _ (if(Value.ref t==Value.none)=true then _ else _) _ _ s;rw[if_neg (show¬((Value.ref t==Value.none)=true)from Bool.false_ne_true)]
 show wpAny _ _ (field (.ref it) 1>>=_) _ _ s;refine wpAny_bind (wpAny_field ho hd (x:= .int i 0) rfl ?_)
 show wpAny _ _ (seqItems? (.ref t)>>=_) _ _ s;refine wpAny_bind (wpAny_seqItems hol hdl ?_)
 simp only[Int.toNat_natCast,hx];refine wpAny_bind (wpAny_setField ho hd (by simp) (wpAny_pure ⟨x,rfl,wpAny_pure (hQ _ ?_ (Heap.SameBut.update ..))⟩))
 exact⟨_,Heap.get?_update_self _ ho (Obj.isFreed_of_fields (Obj.data_mapFields hd _)),(Obj.cls_mapFields ..).trans hc,by rw[Obj.data_mapFields hd];simp[rawInt]⟩
theorem nextOf_tup_end{it t:Addr}{i:Nat}{items:Array Value}{Q:Value->Shared->Prop}(hh:A.handled=none)(hit:s.heap.IsTupleIter it t i)(ht:s.heap.IsTuple t items)(hx:items[i]? =none)(hE:∀h' e,Heap.ExtBut it s.heap h'->(∃o,h'.get? e=some o/\o.cls= .type "StopIteration")->E (.ref e) {s with heap:=h'}):wpAny (model prog w) A (Builtin.SmallTypes.nextOf (.ref it)) Q E s:=by
 obtain⟨o,ho,hc,hd⟩:=id hit;obtain⟨ol,hol,_,nl,hdl⟩:=ht;unfold Builtin.SmallTypes.nextOf
 refine wpAny_bind (wpAny_callSpecial?_slot (name:=Str.ofString "__next__") hit.typeIs F.slot_tuple_iterator_next (wpAny_call_entry F.slot_tuple_iterator_next hit.typeIs F.entry_tuple_iterator_next ?_ (F.args_tuple_iterator_next_1 _)))
 show wpAny _ _ (field (.ref it) 0>>=_) _ _ s;refine wpAny_bind (wpAny_field ho hd (x:= .ref t) rfl ?_)
 show wpAny _ _ (if(Value.ref t==Value.none)=true then _ else _) _ _ s;rw[if_neg (show¬((Value.ref t==Value.none)=true)from Bool.false_ne_true)]
 show wpAny _ _ (field (.ref it) 1>>=_) _ _ s;refine wpAny_bind (wpAny_field ho hd (x:= .int i 0) rfl ?_)
 show wpAny _ _ (seqItems? (.ref t)>>=_) _ _ s;refine wpAny_bind (wpAny_seqItems hol hdl ?_)
 simp only[Int.toNat_natCast,hx];refine wpAny_bind (wpAny_rule (wpAny_bind (wpAny_setField ho hd (by simp) ?_)))
 show wpAny _ _ (newExc (.type "StopIteration") []>>=_) _ _ _;refine wpAny_bind ?_;simp only[newExc,newTuple];refine wpAny_bind (wpAny_newObj_type ?_ (by size_fits))
 refine wpAny_bind (m:=firstArgMember _ _) (wpAny_of_eq (a:=Value.none) (by first |rfl|(simp only[firstArgMember];rfl)) ?_);refine wpAny_newObj_type ?_ (by size_fits)
 simp only[raiseNew];refine wpAny_bind (wpAny_handled ?_);first |rw[show A.in1.handled=none from hh]|rw[hh]
 refine wpAny_bind (wpAny_pure (wpAny_throw ?_));exact hE _ _ (((Heap.SameBut.update ..).extBut.push _).push _) ⟨_,Heap.get?_push_size _ rfl,rfl⟩
end
theorem Draws.tup{prog:Program}{w:World}{A:Around}(hh:A.handled=none)(it l:Addr)(hne:l≠it)(items:Array Value):
  Draws prog w A it [it,l] items.size (fun i v=>items[i]? =some v) (fun i h=>h.IsTupleIter it l i/\h.IsTuple l items) where
 live:=fun i h st=>by obtain⟨⟨o,e,_⟩,_⟩:=st;exact⟨o,e⟩
 frame:=fun i h h' st k=>⟨st.1.at fun o e=>k it (by simp) o e,st.2.at fun o e=>k l (by simp) o e⟩
 item:=fun i s Q E hi st hQ=>by
  have hx:items[i]? =some items[i]:=Array.getElem?_eq_getElem hi
  exact nextOf_tup st.1 st.2 hx fun h' hit' hs=>hQ _ h' s.toks hx ⟨hit',st.2.at fun o e=>(hs.2 l hne).trans e⟩ hs
 done:=fun s Q E st hE=>nextOf_tup_end hh st.1 st.2 (Array.getElem?_eq_none (Nat.le_refl _)) hE
section
variable{prog:Program}{w:World}{A:Around}{E:Value->Shared->Prop}{s:Shared}
end
end PySem
namespace L2
open PySem PySem.Spec PyProof.Rows
section
variable{X:Cx}{pins:List (Addr×Obj)}{σ:St}{H:Hp}{s:Shared}{h':Heap}
theorem Inv.turns{t':Nat}{fp:List Addr}(I:Inv X pins σ H s)(k:∀b o,b∉fp->s.heap.get? b=some o->h'.get? b=some o)(hf:∀b∈fp,FpOk X pins H b):Inv X pins σ H {s with heap:=h',toks:=t'}:=by
 have nfp:∀b u,H b=some u->b∉fp:=fun b u e z=>by rw[(hf b z).1]at e;cases e
 refine I.step (g':=s.gens) (d':=s.drawn) (ch:=fp) (fun b hb=> ?_) (fun b o _ _ hc e _=>k b o hc e) (fun b o _ _ hc e _=>⟨o.slots,k b o hc e⟩) (fun b o _ e n=>n)
  (fun b o hc e=>⟨o,k b o hc e⟩) (fun b xs e=>e) (fun b o u e=>e) (fun b ps e=>⟨#[],by rw[e];simp⟩) (fun m hm=> ?_) (fun b u e=> ?_) I.bare
 ·obtain⟨f0,f1,f2,f3,f4,f5⟩:=hf b hb
  exact⟨f3,f1,f4,f5⟩
 ·obtain⟨o,es,ep,ho,r⟩:=hm
  exact⟨o,es,ep,k _ o (fun z=>(hf _ z).2.1 rfl) ho,r⟩
 ·refine(I.hok b u e).stay (fun c v hc q=>k c v ?_ q) (fun c q=>q) fun c xs q=>q
  rcases hc with z|z
  ·rw[z];exact nfp b u e
  ·exact nfp c _ z
end
noncomputable def SqE(K:W.Frag)(b:Bool)(H:Hp)(a:Addr)(xs:List V):Prop:=match b with
 |false=>SqL K H a xs
 |true=>SqT K H a xs
section
variable{X:Cx}{es:List Expr}{k:Nat}{pos0:Pos}
end
section
variable{ini:St}{H:Hp}{g:TG}{tc:TT}{te:TE}{Fin:List V->Hp->Prop}{K:W.Frag}{b:Bool}{a:Addr}{xs:List V}
end
end L2
namespace L2
open PySem PySem.Spec PyProof.Rows
section
variable{X:Cx}{e m a:Expr}{te:TE}{tm:TO}{ta:TA}{p p' pos pos' p2:Pos}
theorem op_catEK(K:W.Frag)(h:X.K=K:=by rfl):OpR X (binaryOp .Add) (rCatE K):=by subst h;exact op_catE
noncomputable def Its(K:W.Frag)(b:Bool)(a:Addr)(xs:List V):It:=⟨fun i H=>SqE K b H a xs/\i<xs.length,fun i H x H'=>H'=H/\xs[i]? =some x,fun i H=>SqE K b H a xs/\i=xs.length⟩
theorem Turn.its{P:Program}{w:World}{K:W.Frag}{tg:Expr}{J:It}{fp:List Addr}{it:Addr}{tn:Nat->Heap->Prop}{b:Bool}{a:Addr}{xs:List V}(T:Turn P w K tg J fp it tn)(hg:∀i H,(Its K b a xs).go i H->J.go i H/\∀x H',J.yld i H x H'->(Its K b a xs).yld i H x H')(hs:∀i H,(Its K b a xs).stop i H->J.stop i H):Turn P w K tg (Its K b a xs) fp it tn where
 mem:=T.mem
 obj:=T.obj
 keep:=T.keep
 item:=fun X h1 h2 h3 h4 i pins s σ H E I hf st g=>by
  obtain⟨g1,g2⟩:=hg i H g
  refine wpAny_mono (T.item X h1 h2 h3 h4 i pins s σ H E I hf st g1) (fun r s1 ⟨u,e,q⟩=>⟨u,e,wpAny_mono q (fun _ s2 ⟨x,H',a1,a2,a3,a4⟩=>⟨x,H',a1,a2,g2 x H' a3,a4⟩) fun _ _ e=>e⟩) fun _ _ e=>e
 done:=fun X h1 h2 h3 h4 i pins s σ H E I hf st g=>T.done X h1 h2 h3 h4 i pins s σ H E I hf st (hs i H g)
 self:=T.self
end
section
variable{ini:St}{H:Hp}{g:TG}{tc:TT}{te:TE}{Fin:List V->Hp->Prop}{K:W.Frag}{b:Bool}{a:Addr}{xs:List V}
end
theorem SqE.same{K:W.Frag}{b:Bool}{H H':Hp}{a:Addr}{xs:List V}(h:SqE K b H a xs)(e:Same H H'):SqE K b H' a xs:=by
 cases b with
 |false=>exact e.seq (show SqL K H a xs from h)
 |true=>exact e.tup (show SqT K H a xs from h)
section
variable{K:W.Frag}{σ:St}{H0:Hp}{tp:Addr}
noncomputable def ListsA(H:Hp)(tp:Addr)(its:List (Addr×List Int)):Prop:=∀p∈its,H p.1=some (.lst (p.2.map V.int))/\p.1≠tp/\p.2.length<=40
theorem ListsA.same{H H':Hp}{its:List (Addr×List Int)}(h:ListsA H tp its)(e:Same H H'):ListsA H' tp its:=fun p hp=>⟨e _ _ (h p hp).1,(h p hp).2⟩
theorem ListsA.step{H H':Hp}{its:List (Addr×List Int)}(h:ListsA H tp its)(e:∀b o,b≠tp->H b=some o->H' b=some o):ListsA H' tp its:=fun p hp=>⟨e _ _ (h p hp).2.1 (h p hp).1,(h p hp).2⟩
theorem ListsA.app{H:Hp}{its its':List (Addr×List Int)}(h:ListsA H tp its)(h':ListsA H tp its'):ListsA H tp (its++its'):=fun p hp=>by
 rcases List.mem_append.mp hp with q|q
 ·exact h p q
 ·exact h' p q
end
end L2
namespace L2
open PySem PySem.Spec PyProof.Rows
noncomputable def compOkC(sc scope:Scope):Bool:=scope.names.all fun p=>(p.2 !=NameKind.cell||scope.names.lookup p.1==some NameKind.cell)&&(p.2 !=NameKind.local||scope.names.lookup p.1==some NameKind.local)&&
 (p.2 !=NameKind.free||(scope.names.lookup p.1==some NameKind.free&&(sc.names.lookup p.1==some NameKind.cell||sc.names.lookup p.1==some NameKind.free)))
section
variable{sc scope:Scope}
theorem compOkC.cell(h:compOkC sc scope=true){x:Str}(hy:(x,NameKind.cell)∈scope.names):scope.names.lookup x=some .cell:=by
 have q:=List.all_eq_true.mp h _ hy
 simpa using q
theorem compOkC.names(h:compOkC sc scope=true):∀y∈scope.names,y.2= .local->scope.names.lookup y.1=some .local:=fun y hy e=>by
 have q:=List.all_eq_true.mp h y hy
 simpa[e]using q
theorem compOkC.free(h:compOkC sc scope=true){x:Str}(hy:(x,NameKind.free)∈scope.names):scope.names.lookup x=some .free/\(sc.names.lookup x=some .cell\/sc.names.lookup x=some .free):=by
 have q:=List.all_eq_true.mp h _ hy
 simpa using q
end
section
variable{X:Cx}{tg iter elt:Expr}{ifs:List Expr}{scope:Scope}{pos:Pos}{own caps:List Str}{ix:List Nat}{g:TG}{tc:TT}{te:TE}
end
section
variable{X:Cx}{tg iter elt:Expr}{ifs:List Expr}{scope:Scope}{pos:Pos}{own caps:List Str}{ix:List Nat}{wi:TI}{g:TG}{tc:TT}{te:TE}
end
end L2
namespace L2
open PySem PySem.Spec PyProof.Rows
section
variable{prog:Program}{w:World}{A:Around}{E:Value->Shared->Prop}{s:Shared}
noncomputable def bare(led:Bool):Obj:={cls:= .type "set",dict:=none,data:= .set #[] 0 (.fresh 0 0 led)}
end
section
variable{X:Cx}{a:Expr}{ta:TA}{p p' pos pos':Pos}
end
end L2
namespace Srt
open PySem PySem.W PyProof.Rows PySem.Calls
section
variable{prog:Program}{w:World}{A:Around}{E:Value->Shared->Prop}{s:Shared}{O:KeyOrd}{key:Nat->O.α}{κ:SortKind}{vs:List Value}
end
end Srt
namespace L2
open PySem PySem.Spec PyProof.Rows
section
variable{X:Cx}
end
noncomputable def IB:V->Prop
 | .int _=>True
 | .bl _=>True
 |_=>False
noncomputable def IBs(xs:List V):Prop:=∀x∈xs,IB x
theorem IBs.ints(xs:List Int):IBs (xs.map V.int):=fun x hx=>by
 obtain⟨i,_,rfl⟩:=List.mem_map.mp hx
 trivial
theorem IBs.app{xs ys:List V}(h:IBs xs)(h':IBs ys):IBs (xs++ys):=fun x hx=>by
 rcases List.mem_append.mp hx with q|q
 ·exact h x q
 ·exact h' x q
section
variable{K:W.Frag}{σ:St}{H0:Hp}
noncomputable def TupsM(K:W.Frag)(H:Hp)(l:Addr)(k:Nat):Prop:=∃its:List (Addr×List V),H l=some (.lst (its.map fun p=>V.ref p.1))/\(∀p∈its,SqT K H p.1 p.2/\IBs p.2/\p.2.length<=60)/\its.length<=k
theorem TupsM.same{H H':Hp}{l:Addr}{k:Nat}(h:TupsM K H l k)(e:Same H H'):TupsM K H' l k:=by
 obtain⟨its,h1,h2,h3⟩:=h
 exact⟨its,e _ _ h1,fun p hp=>⟨e.tup (h2 p hp).1,(h2 p hp).2⟩,h3⟩
end
end L2
namespace L2
open PySem PySem.W PySem.Spec PyProof.Rows
section
variable{X:Cx}
theorem pt_truthK(K:W.Frag){a:Expr}{ta:TE}(ha:PE X a ta)(he:∀whole,isTrue a X.env whole=(do let v<-whole;standAt a.pos;holding [v] (truthy v)))(h:X.K=K:=by rfl):
  PT X a (fun σ H Q=>ta σ H fun x H'=>∃k,TruV K x H' k/\Q k H'):=by subst h;exact pt_truth ha he
end
end L2
namespace L2
open PySem PySem.Spec PyProof.Rows
section
variable{prog:Program}{w:World}{A:Around}{E:Value->Shared->Prop}{s:Shared}{l:Addr}{kid:String}{vs:List Value}{R:Result->Shared->Prop}{Q:Value->Shared->Prop}
end
end L2
namespace L2
open PySem PySem.Spec PyProof.Rows
section
variable{X:Cx}{a:Expr}{ta:TA}{p p2 kp pos:Pos}
end
end L2
namespace L2
open PySem PySem.Spec PyProof.Rows
noncomputable def ExcO(a C:Addr):HO:= .ext fun h=>∃o vs,h.get? a=some o/\o.cls= .ref C/\o.data= .fields vs
theorem ObjOk.any{P:Program}{w:World}{H:Hp}{h:Heap}{a:Addr}{o:HO}(x:ObjOk P w H h a o):∃u,h.get? a=some u:=by
 cases o with
 |lst xs=>obtain⟨_,_,_,_,e⟩:=x;exact⟨_,e⟩
 |tup xs=>obtain⟨_,_,_,ob,e,_⟩:=x;exact⟨_,e⟩
 |dK kvs=>obtain⟨_,_,_,_,o,_,_,e,_⟩:=x;exact⟨_,e⟩
 |dT kvs=>obtain⟨_,_,_,_,o,_,_,e,_⟩:=x;exact⟨_,e⟩
 |set S n=>obtain⟨o,_,_,_,e,_⟩:=x;exact⟨_,e⟩
 |ins C dx fs=>obtain⟨_,_,_,e,_⟩:=x;exact⟨_,e⟩
 |own y=>exact x
 |xd fs=>obtain⟨_,⟨_,_,_,e,_⟩,_⟩:=x;exact⟨_,e⟩
 |rng lo hi=>obtain⟨_,_,_,e⟩:=x;exact⟨_,e⟩
 |frz ob u=>obtain⟨e,_⟩:=x;exact⟨_,e⟩
 |tbl ps=>exact⟨_,x⟩
 |met f y=>exact⟨_,x⟩
 |ext φ=>exact x.2.1
theorem HOk.none{P:Program}{w:World}{H:Hp}{h:Heap}{a:Addr}(x:HOk P w H h)(e:h.get? a=none):H a=none:=by
 cases q:H a with
 |none=>rfl
 |some u=>
  obtain⟨o,z⟩:=(x a u q).any
  rw[e]at z;cases z
structure UnB(fs:List Addr)(H H':Hp)(h B:Heap):Prop where
 keep:∀b o,h.get? b=some o->H b=none->b∉fs->B.get? b=some o
 free:∀b o,h.get? b=some o->H b=none->H' b=none
 there:∀b o,h.get? b=some o->b∉fs->∃o',B.get? b=some o'
 tups:∀b xs,H b=some (.tup xs)->H' b=some (.tup xs)
 frzs:∀b o u,H b=some (.frz o u)->H' b=some (.frz o u)
 tbls:∀b ps,H b=some (.tbl ps)->∃more,H' b=some (.tbl (ps++more))
structure Flew(P:Program)(w:World)(outer:List Env)(H:Hp)(s:Shared)(e C:Addr)(H':Hp)(B:Heap)(s':Shared):Prop where
 os:s'.os=s.os
 bare:AllBare s'.gens
 fly:∃a0,Heap.FlyingW B outer e (.ref C) a0 s'.heap
 un:UnB (frs outer) H H' s.heap B
 hok:HOk P w H' B
 sl:∀b∈frs outer,∀o,s.heap.get? b=some o->∃sl,s'.heap.get? b=some {o with slots:=sl}
 new:s.heap.get? e=none
 he:H' e=none
noncomputable def CX1(P:Program)(w:World):CXT:=fun outer H s E v s'=>∃e C H' B,v= .ref e/\Flew P w outer H s e C H' B s'/\E v (some C) (upd H' e (ExcO e C))
theorem frs_cons{env:Env}{outer:List Env}{L:Addr}(h:env.frame=some L):frs (env::outer)=L::frs outer:=by
 unfold frs;rw[List.filterMap_cons,h]
section
variable{P:Program}{w:World}{K:W.Frag}{mg:Str->Option Value}{base:Heap}{N:List Str}{qual:Str}{scope:Scope}{f:Addr}{cd:Value}{A:Around}{outer:List Env}{s:Shared}{H:Hp}{E:XK}
theorem pass1:Passes (CX1 P w) (cxOf (CX1 P w) P w K mg base N qual scope f cd A outer s H E) E:=by
 intro pins σ H1 s1 v s' I h
 obtain⟨e,C,H',B,rfl,F,hE⟩:=h
 obtain⟨a0,fl⟩:=F.fly
 have fc:frs ((envOfC qual scope s.heap.objs.size f cd)::outer)=s.heap.objs.size::frs outer:=frs_cons rfl
 have hs:frs (cxOf (CX1 P w) P w K mg base N qual scope f cd A outer s H E).stack=s.heap.objs.size::frs outer:=fc
 have nL:∀b o,s.heap.get? b=some o->b∉frs outer->b∉s.heap.objs.size::frs outer:=fun b o q hb hm=>by
  rcases List.mem_cons.mp hm with z|z
  ·exact absurd (Heap.lt_size q) (by rw[z];exact Nat.lt_irrefl _)
  ·exact hb z
 have un:=F.un
 rw[hs]at un
 refine wpAny_leaves_onW (L:=s.heap.objs.size) I.ok.frames rfl fl fun h' fl' up=> ?_
 refine⟨e,C,H',B,rfl,⟨F.os.trans I.os,F.bare,⟨a0,fl'⟩,⟨fun b o q n hb=> ?_,fun b o q n=> ?_,fun b o q hb=> ?_,fun b xs q=> ?_,fun b o u q=> ?_,fun b ps q=> ?_⟩,F.hok,fun b hb o q=> ?_,?_,F.he⟩,hE⟩
 ·exact un.keep b o (I.base.keep b o q n hb (by intro z;cases z)) (I.base.free b o q n (by intro z;cases z)) (nL b o q hb)
 ·obtain⟨o',e'⟩:=I.base.there b o q (by intro z;cases z)
  exact un.free b o' e' (I.base.free b o q n (by intro z;cases z))
 ·obtain⟨o',e'⟩:=I.base.there b o q (by intro z;cases z)
  exact un.there b o' e' (nL b o q hb)
 ·exact un.tups b xs (I.base.tups b xs q)
 ·exact un.frzs b o u (I.base.frzs b o u q)
 ·obtain⟨m1,e1⟩:=I.base.tbls b ps q
  obtain⟨m2,e2⟩:=un.tbls b _ e1
  exact⟨m1++m2,by rw[e2,Array.append_assoc]⟩
 ·obtain⟨s1',e1⟩:=I.base.slot b o q (I.ok.frf b hb) hb (by intro z;cases z)
  obtain⟨s2',e2⟩:=F.sl b (by rw[hs];exact List.mem_cons_of_mem _ hb) _ e1
  obtain⟨_,o',ho',hd'⟩:=I.ok.funs.mem hb
  have ho'':s.heap.get? b=some o':=ho'
  rw[q]at ho'';cases ho''
  obtain⟨s3',e3⟩:=up b _ e2 hd'
  exact⟨s3',e3⟩
 ·cases q:s.heap.get? e with
  |none=>rfl
  |some o=>
   obtain⟨o',e'⟩:=I.base.there e o q (by intro z;cases z)
   rw[F.new]at e';cases e'
theorem made1{pins:List (Addr×Obj)}{σ:St}{H1:Hp}{s1:Shared}{h':Heap}{e C:Addr}{vs:List Value}
  (I:Inv (cxOf (CX1 P w) P w K mg base N qual scope f cd A outer s H E) pins σ H1 s1)(hx:Heap.MadeExcOf s1.heap h' e (.ref C) vs)(hE:H1 e=none->E (.ref e) (some C) (upd H1 e (ExcO e C))):
  (cxOf (CX1 P w) P w K mg base N qual scope f cd A outer s H E).xe (.ref e) {s1 with heap:=h'}:=by
 have fc:frs ((envOfC qual scope s.heap.objs.size f cd)::outer)=s.heap.objs.size::frs outer:=frs_cons rfl
 have nL:∀b o,s.heap.get? b=some o->b∉frs outer->b∉frs ((envOfC qual scope s.heap.objs.size f cd)::outer):=fun b o q hb hm=>by
  rw[fc]at hm
  rcases List.mem_cons.mp hm with z|z
  ·exact absurd (Heap.lt_size q) (by rw[z];exact Nat.lt_irrefl _)
  ·exact hb z
 have he:H1 e=none:=I.hok.none hx.new
 refine wpAny_leaves_madeW (base:=PySem.W.hideAll s1.heap (frs ((envOfC qual scope s.heap.objs.size f cd)::outer))) (L:=s.heap.objs.size) I.ok.frames rfl (fun b o q=>PySem.W.of_hideAll _ q)
  (PySem.W.funFrames_hide I.stack fun env he a ha=>List.mem_filterMap.mpr ⟨env,he,ha⟩) hx fun h'' t fl _ _ up=> ?_
 refine⟨e,C,H1,_,rfl,⟨I.os,I.bare,⟨_,fl⟩,⟨fun b o q n hb=> ?_,fun b o q n=>I.base.free b o q n (by intro z;cases z),fun b o q hb=> ?_,I.base.tups,I.base.frzs,I.base.tbls⟩,fun a o q=> ?_,fun b hb o q=> ?_,?_,he⟩,hE he⟩
 ·exact PySem.W.hideAll_get _ (I.base.keep b o q n hb (by intro z;cases z)) (nL b o q hb)
 ·obtain⟨o',e'⟩:=I.base.there b o q (by intro z;cases z)
  exact⟨o',PySem.W.hideAll_get _ e' (nL b o q hb)⟩
 ·refine(I.hok a o q).stay (fun b u hb z=>PySem.W.hideAll_get _ z fun hm=> ?_) (fun _ z=>z) fun _ _ z=>z
  have n:=I.stkFree b hm
  rcases hb with rfl|hb
  ·rw[q]at n;cases n
  ·rw[hb]at n;cases n
 ·obtain⟨s1',e1⟩:=I.base.slot b o q (I.ok.frf b hb) hb (by intro z;cases z)
  obtain⟨_,o',ho',hd'⟩:=I.ok.funs.mem hb
  have ho'':s.heap.get? b=some o':=ho'
  rw[q]at ho'';cases ho''
  obtain⟨s3',e3⟩:=up b _ (hx.keeps b _ e1) hd'
  exact⟨s3',e3⟩
 ·cases q:s.heap.get? e with
  |none=>rfl
  |some o=>
   obtain⟨o',e'⟩:=I.base.there e o q (by intro z;cases z)
   rw[hx.new]at e';cases e'
end
theorem exc_of{K:W.Frag}{h:Heap}{C:Addr}{bmB:List Value}{newId:String}(X:K.In h)(q:PySem.W.excIn K C bmB newId=true):
  ∃bm N nm qn bs hd sn sub ab col dd k0 k1 k2 k3 k5 mN,h.get? C=some (excClassObj nm qn C N bs bm hd sn sub ab col dd k0 k1 k2 k3 k5 newId)/\h.Ns N mN/\mN "__init__"=none/\OwnTail h bmB bm:=by
 unfold PySem.W.excIn at q
 split at q
 ·rename_i dd cd sl ho
  split at q
  ·rename_i C' bm k0 k1 k2 k3 n k5 hm hs
   simp only[Bool.and_eq_true,beq_iff_eq,Bool.not_eq_true']at q
   obtain⟨⟨⟨⟨⟨q1,q2⟩,hdel⟩,ht⟩,hok⟩,hni⟩:=q
   cases q1;cases q2
   obtain⟨nm,bs,mro,ns,qn,hd,sn,sub,ab,col,del⟩:=cd
   obtain⟨l⟩:=sl
   dsimp only at hm hdel hok hni hs
   subst hm;subst hdel;subst hs
   exact⟨bm,ns,nm,qn,bs,hd,sn,sub,ab,col,dd,k0,k1,k2,k3,k5,_,X _ _ ho,.of_isNs (PySem.W.isNs_of_in X hok),PySem.W.nsMap_none_of_in X hok hni,PySem.W.tail_of_in X ht⟩
  ·cases q
 ·cases q
noncomputable def tRaise(C:Addr)(E:XK)(t:TA):TS:=fun _ σ H=>t σ H fun vs H1=>vs.length<=16/\∀e,H1 e=none->E (.ref e) (some C) (upd H1 e (ExcO e C))
section
variable{P:Program}{w:World}{K:W.Frag}{mg:Str->Option Value}{base:Heap}{N:List Str}{qual:Str}{scope:Scope}{f:Addr}{cd:Value}{A:Around}{outer:List Env}{s:Shared}{H:Hp}{E:XK}
theorem ps_raise{x:Str}{C:Addr}{B newId initId:String}{bmB:List Value}{e:Expr}{es:List Expr}{t:TA}{np cpos pos:Pos}(FB:ExcBaseFacts B newId initId bmB)(hm:mg x=some (.ref C))(q:PySem.W.excIn K C bmB newId=true)(ha:PA (cxOf (CX1 P w) P w K mg base N qual scope f cd A outer s H E) (e::es) t)(hg:Gl (cxOf (CX1 P w) P w K mg base N qual scope f cd A outer s H E) x)(hdb:(x==("__debug__":Str))=false:=by decide)(he:starEach (e::es) (cxOf (CX1 P w) P w K mg base N qual scope f cd A outer s H E).env=(false,eval e (cxOf (CX1 P w) P w K mg base N qual scope f cd A outer s H E).env)::starEach es (cxOf (CX1 P w) P w K mg base N qual scope f cd A outer s H E).env:=by rfl)(hpl:(backTo cpos (starEach es (cxOf (CX1 P w) P w K mg base N qual scope f cd A outer s H E).env)).any (·.1)=false:=by rfl):
  PS (cxOf (CX1 P w) P w K mg base N qual scope f cd A outer s H E) (.Raise (some (.Call (.Name x np) (e::es) [] cpos)) none pos) (tRaise C E t):=by
 intro pins s1 σ H1 D I h
 have KX:K.In base:=I.ok.mod.kin
 obtain⟨bm,Na,nm,qn,bs,hd,sn,sub,ab,col,dd,k0,k1,k2,k3,k5,mN,hC,hN,hni,T⟩:=exc_of KX q
 refine wpAny_Raise_call_subT (C:=C) (nm:=nm) (q:=qn) (N:=Na) (bs:=bs) (bm:=bm) (hdct:=hd) (sn:=sn) (sub:=sub) (ab:=ab) (col:=col) (dd:=dd) (k0:=k0) (k1:=k1) (k2:=k2) (k3:=k3) (k5:=k5)
  FB (mN:=mN) (T.hasType FB.hasBase) (I.ok.hd rfl) (by rw[he];show(false||(backTo cpos (starEach es (cxOf (CX1 P w) P w K mg base N qual scope f cd A outer s H E).env)).any (·.1))=false;rw[hpl];rfl) hni (ld_glob I hg hm ⟨rfl,?_⟩ hdb)
 have h1:=ha cpos pins s1 σ H1 _ I h
 rw[he]at h1⊢
 refine Calls.evalArgs_plain (wpAny_mono h1 (fun us s2 z=> ?_) fun _ _ y=>y)
 obtain⟨vs,H2,I2,r,hl,hE⟩:=z
 have sz:us.length<=sizeLine:=by rw[<-r.length];exact Nat.le_trans hl (by decide)
 exact⟨rfl,sz,I2.bk _ _ hC,hN.keeps I2.bk,T.keeps I2.bk,fun h' e' hx=>made1 I2 hx (hE e')⟩
theorem Fun.okX{x qual:Str}{st:Stmt}{f:Addr}{fd:FuncData}{N ps:List Str}{k:Nat}{sp:Sp}(F:Fun K x qual st f fd)(S:FnScope N ps (defScope st))(len:∀vs H Q E,sp vs H Q E->vs.length=ps.length)(hbody:∀(cdv:Value) (A:Around) (outer:List Env) (s:Shared) (H:Hp) (vs:List V) (Q:VK) (E:XK),Room k (A.deeper (envOfC qual (defScope st) s.heap.objs.size f cdv))->sp vs H Q E->
   ∃t,PSs (cxOf (CX1 P w) P w K mg base N qual (defScope st) f cdv A outer s H E) (defBody st) t/\t {nx:=fun _ H'=>Q .non H',rt:=Q} (start N vs) H):FnOk P w K mg base (CX1 P w) (k+1) f fd ps sp:=by
 obtain⟨oc,od,kV,doc,pm,an,cdv,ct,osl,rfl,lk,hcd⟩:=F.ex
 exact fn_of lk hcd S len fun A outer s H vs Q E hr hsp=>hbody cdv A outer s H vs Q E hr hsp
end
end L2
namespace L2
open PySem PySem.Spec PySem.Calls PyProof.Rows PySem.W PySem.Builtin.Getset_descriptor
structure ExcCls(K:Frag)(D:Addr):Prop where
 cls:∃cd,clsIn K D=some cd
 ga:findIn K (.ref D) "__getattribute__"=some (some (.builtin "BaseException.__getattribute__"))
 gn:findIn K (.ref D) "__getattr__"=some none
 at_:findIn K (.ref D) "__class__"=some (some (.builtin "object.__class__"))
 get:specialIn K (.builtin "object.__class__") "__get__"=some (some (.builtin "getset_descriptor.__get__"))
 tk:takesIn K (.builtin "object.__class__")=some true
 obj:mroIn K D (.type "object")=some true
 exc:mroIn K D (.type "BaseException")=some true
section
variable{prog:Program}{w:World}{A:Around}{E:Value->Shared->Prop}{s:Shared}{K:Frag}{x D:Addr}
noncomputable def OfCls(x D:Addr)(h:Heap):Prop:=∃o,h.get? x=some o/\o.cls= .ref D
theorem OfCls.ty{M:Model}{h:Heap}(p:OfCls x D h):Looks M h (typeOf (.ref x)) (.ref D):=by
 obtain⟨o,e,c⟩:=p
 exact c▸(Looks.ld e).andThen .now
theorem find_data{M:Model}{h:Heap}{C:Addr}{name:Str}{a g:Value}(X:K.In h)(ha:findIn K (.ref C) name=some (some a))(hg:specialIn K a "__get__"=some (some g))(ht:takesIn K a=some true):
  Looks M h (Builtin.ObjectAttr.find (.ref x) (.ref C) name) (.bind g a):=
 (looks_findIn X ha).andThen ((show Looks M h (Builtin.ObjectAttr.getOf (some a)) (some g)from looks_specialIn X hg).andThen
  ((show Looks M h (Builtin.ObjectAttr.dataDescriptor? (some a) (some g)) (some (g,a))from(looks_takesIn X ht).andThen .now).andThen (Looks.tag .now)))
theorem cls_get{tp:Value}{R:Result->Shared->Prop}(X:K.In s.heap)(I:OfCls x D s.heap)(hm:mroIn K D (.type "object")=some true)(h:R (.ok (.ret (.ref D))) s):
  codeAny (model prog w) A (.call (.builtin "getset_descriptor.__get__") ⟨[.builtin "object.__class__",.ref x,tp],[]⟩) R s:=by
 obtain⟨hh,gg,dr,tt,os⟩:=s
 have A0:=I.ty (M:=model prog w)
 have A1:=looks_mroIn (M:=model prog w) X hm
 have A2:=KF.slot_gs.check (model prog w)
 refine codeAny_call_builtin KF.slot_gs.plain KF.entry_gs (A2 _ _ _ _ _ _ _ KF.type_class
  (KF.args_gs _ _ _) ?_)
 unfold Builtin.«getset_descriptor.__get__» descrGet;rw[dga_obj]
 refine wpAny_bind (wpAny_pure ?_)
 unfold descrGetter descrCheckInstance descrNameAndClass isInstance;simp only[KF.owner_class]
 repeat lk
 refine⟨Code.quiet_builtin _ (by decide+kernel),
  codeAny_builtin KF.entry_class ?_⟩
 unfold Builtin.«object.__class__» shownTypeOf;(repeat lk);exact h
theorem exc_check{nameV:Value}{Q:Unit->Shared->Prop}(X:K.In s.heap)(I:OfCls x D s.heap)(hb:mroIn K D (.type "BaseException")=some true)(hq:Q () s):
  wpAny (model prog w) A (checkBuiltinCall "BaseException.__getattribute__" ⟨[.ref x,nameV],[]⟩) Q E s:=by
 obtain⟨hh,gg,dr,tt,os⟩:=s
 have kd:builtinKind "BaseException.__getattribute__"=some .slot:=by decide+kernel
 have sp:splitId "BaseException.__getattribute__"=some ("BaseException","__getattribute__"):=by decide+kernel
 have A0:=I.ty (M:=model prog w)
 have A1:=looks_mroIn (M:=model prog w) X hb
 have ar:=F.args_bexc_ga (.ref x) nameV
 simp only[checkBuiltinCall,kd,sp]
 refine wpAny_bind ?_
 unfold isInstance
 repeat(any_goals(first |assumption|lk|wp_step))
theorem exc_class{Q:Option Value->Shared->Prop}(X:K.In s.heap)(I:OfCls x D s.heap)(c:ExcCls K D)(h:Q (some (.ref D)) {s with toks:=s.toks+1}):
  wpAny (model prog w) A (getAttr? (.ref x) "__class__") Q E s:=by
 obtain⟨hc,hga,hgn,ha,hn,htk,hm,hb⟩:=c
 obtain⟨hh,gg,dr,tt,os⟩:=s
 have A0:=I.ty (M:=model prog w)
 have A1:=looks_findIn (M:=model prog w) X hga
 have A2:=looks_findIn (M:=model prog w) X hgn
 have A3:=find_data (M:=model prog w) (x:=x) X ha hn htk
 have n2:(Value.builtin "BaseException.__getattribute__"==Value.builtin "object.__getattribute__")=false:=by decide+kernel
 have n1:(onTheHeap (Value.ref D)&&Value.builtin "BaseException.__getattribute__"==Value.builtin "object.__getattribute__")=false:=by rw[n2];rfl
 have hbd:=F.attr_ValueError.ga.bind (.ref x)
 unfold getAttr? getAttrBy? getAttrBy
 refine wpAny_bind (wpAny_mkText (wpAny_bind (wpAny_attempt (wpAny_holding (wpAny_bind (A0.at (wpAny_bind (A1.at ?_))))))))
 dsimp only
 rw[if_neg (by rw[n1];exact Bool.false_ne_true)]
 unfold getAttrByItsOwn hookBefore
 rw[if_pos (by rfl)]
 refine wpAny_bind (A2.at (wpAny_bind (wpAny_attempt (wpAny_holding ?_))))
 unfold callGetattribute
 rw[if_neg (by intro z;cases z)]
 unfold boundAndCalled
 rw[hbd]
 refine wpAny_bind (wpAny_pure ?_)
 refine wpAny_call (codeAny_call_builtin F.attr_ValueError.ga.plain F.entry_bexc_ga (exc_check X I hb ?_))
 unfold Builtin.«object.__getattribute__»
 repeat(any_goals(first |assumption|(with_reducible refine wpAny_call (cls_get X I hm ?_))|lk|wp_step))
theorem kitx_exc(c:ExcCls K D):KitX K (.ref x) (.ref D) (OfCls x D):=by
 obtain⟨cd,hcD⟩:=c.cls
 unfold clsIn at hcD
 split at hcD
 ·rename_i d' sl' cd' c'' ho
  refine⟨fun _ _ _ p=>p.ty,fun _ _ X _ A' Q' E' s' k q=> ?_,fun h tp dd its n sl X htp=>Bool.eq_false_iff.mpr fun q=> ?_,fun X p k=>exc_class X p c k⟩
  ·unfold isType loadHead
   exact wpAny_bind (wpAny_loadPart (k _ _ (X _ _ ho)) (wpAny_pure q))
  ·obtain rfl:D=tp:=Value.ref.inj (beq_iff_eq.mp q)
   cases(X _ _ ho).symm.trans htp
 ·cases hcD
end
theorem exc_is{X:Cx}{pins:List (Addr×Obj)}{σ:St}{H:Hp}{s:Shared}{a C:Addr}(I:Inv X pins σ H s)(h:H a=some (ExcO a C)):OfCls a C s.heap:=by
 obtain⟨⟨o,vs,e,c,_⟩,_⟩:=I.hok a _ h
 exact⟨o,e,c⟩
theorem zbo{X:Cx}:CallR X (.builtin "isinstance") (fun xs H Q=>∃(a C D:Addr) (b:Bool),xs=[.ref a,.ref D]/\H a=some (ExcO a C)/\ExcCls X.K C/\kitOne X.K (.ref C) (.ref D)=some b/\Q (.bl b) H):=by
 intro pins s σ H xs us Q I r h
 obtain⟨a,C,D,b,rfl,he,hc,hk,q⟩:=h
 obtain⟨u,v,rfl,ru,rv⟩:=r.two
 cases ru;cases rv
 exact kia_one (kitx_exc hc) I.kIn (exc_is I he) hk (fun z=>nomatch z) fun tk=>⟨.bl b,H,I.tok _,rfl,q⟩
theorem call_isiT{X:Cx}:CallR X (.builtin "isinstance") (fun xs H Q=>∃(a C:Addr) (T:String) (b:Bool),xs=[.ref a,.ty T]/\H a=some (ExcO a C)/\ExcCls X.K C/\kitOne X.K (.ref C) (.type T)=some b/\Q (.bl b) H):=by
 intro pins s σ H xs us Q I r h
 obtain⟨a,C,T,b,rfl,he,hc,hk,q⟩:=h
 obtain⟨u,v,rfl,ru,rv⟩:=r.two
 cases ru;cases rv
 exact kia_one (kitx_exc hc) I.kIn (exc_is I he) hk (fun z=>nomatch z) fun tk=>⟨.bl b,H,I.tok _,rfl,q⟩
end L2
namespace L2
open PySem PySem.Spec PyProof.Rows
noncomputable abbrev Cx.mkd(X:Cx)(e:Addr):Cx:={X with A:=X.A.mark (some (.ref e)),calm:=false,xe:=fun _ _=>False}
section
variable{X:Cx}{pins:List (Addr×Obj)}{σ:St}{H H':Hp}{s s':Shared}{e C:Addr}{B:Heap}
theorem Cx.Ok.mkd(ok:X.Ok)(e:Addr):(X.mkd e).Ok:=
 ⟨ok.mod,ok.kind,ok.glob,ok.blt,ok.above,ok.inj,ok.has,ok.cab,fun z=>(Bool.false_ne_true z).elim,ok.frames,ok.stk,ok.exf,ok.bs,ok.bsz,ok.noex,ok.exfs,ok.funs,ok.frf⟩
theorem Inv.mkd(I:Inv X pins σ H s)(e:Addr):Inv (X.mkd e) pins σ H s:=⟨I.ok.mkd e,I.os,I.bare,I.base,I.loc,I.cell,I.free,I.freeC,I.pin,I.hok,I.len⟩
theorem Inv.unmkd(ok:X.Ok)(I:Inv (X.mkd e) pins σ H s):Inv X pins σ H s:=⟨ok,I.os,I.bare,I.base,I.loc,I.cell,I.free,I.freeC,I.pin,I.hok,I.len⟩
theorem landed{h':Heap}{a0:Value}(I:Inv X pins σ H s)(F:Flew X.prog X.w X.stack H s e C H' B s')(fl:Heap.FlyingW B X.stack e (.ref C) a0 h')(up:s'.heap.UpToSlots h'):
  Inv X pins σ (upd H' e (ExcO e C)) {s' with heap:=h'}:=by
 have ne:∀b o,s.heap.get? b=some o->b≠e:=fun b o q z=>by rw[z,F.new]at q;cases q
 have slot:∀b o,s.heap.get? b=some o->b∈frs X.stack->∃sl,h'.get? b=some {o with slots:=sl}:=fun b o q hb=>by
  obtain⟨s1,e1⟩:=F.sl b hb o q
  obtain⟨_,o',ho',hd'⟩:=I.stack.mem hb
  rw[q]at ho';cases ho'
  obtain⟨s2,e2⟩:=up b _ e1 hd'
  exact⟨s2,e2⟩
 refine I.call' (ch:=[]) F.os ⟨fun b o q n hb _=>fl.1 b o (F.un.keep b o q n hb),fun b o q n hb _=>slot b o q hb,fun b o q n _=>by rw[zaq (ne b o q)];exact F.un.free b o q n,fun b o q _=> ?_,fun b xs q=> ?_,fun b o u q=> ?_,fun b ps q=> ?_⟩
  (fun b u q=> ?_) F.bare (fun b z=>absurd z (by simp))
 ·by_cases hb:b∈frs X.stack
  ·obtain⟨sl,z⟩:=slot b o q hb
   exact⟨_,z⟩
  ·obtain⟨o',z⟩:=F.un.there b o q hb
   exact⟨o',fl.1 b o' z⟩
 ·have z:=F.un.tups b xs q
  rw[zaq (zaj z F.he)];exact z
 ·have z:=F.un.frzs b o u q
  rw[zaq (zaj z F.he)];exact z
 ·obtain⟨more,z⟩:=F.un.tbls b ps q
  exact⟨more,by rw[zaq (zaj z F.he)];exact z⟩
 ·by_cases hb:b=e
  ·subst hb
   rw[zab]at q;cases q
   obtain⟨oe,vs,he,hc,hd,_⟩:=fl.first
   refine⟨⟨oe,vs,he,hc,hd⟩,⟨_,he⟩,fun h1 h2 p k=> ?_⟩
   obtain⟨o,ws,p1,p2,p3⟩:=p
   exact⟨o,ws,k o p1,p2,p3⟩
  ·rw[zaq hb]at q
   exact(F.hok b u q).stay (fun c v _ z=>fl.1 c v z) (fun c z=>by rw[zaq (zaj z F.he)];exact z) fun c xs z=>by rw[zaq (zaj z F.he)];exact z
theorem Inv.forget{M:Model}{A:Around}{E:Value->Shared->Prop}{i:Nat}{n:Str}{pos:Pos}{Q:Unit->Shared->Prop}(I:Inv X pins σ H s)(hN:X.N.Nodup)(hi:X.N[i]? =some n)(hk:X.env.scope.names.lookup n=some .local)(h:∀s',Inv X pins (σ.set i none) H s'->Q () s'):wpAny M A (do bindName X.env n .none;unbindBehindTheSuite X.env n pos) Q E s:=by
 obtain⟨m,hn,hl⟩:=id I.loc
 have hcls:(X.env.scope.kind== .class||(X.env.scope.kind== .module&&X.env.locals !=X.env.globals))=false:=by rw[I.ok.kind];rfl
 have hiσ:i<σ.length:=by rw[I.len];exact(List.getElem?_eq_some_iff.mp hi).1
 have cne:=I.cne
 refine wpAny_nameGoes_keeps (show X.env.kindOf n=some .local from hk) hn hcls fun h' v hn' hs=> ?_
 obtain⟨oL,_,_,hoL,_⟩:=id hn
 have low:∀b o,X.s₀.heap.get? b=some o->b≠X.env.locals:=fun b o z=>Nat.ne_of_lt (Nat.lt_of_lt_of_le (Heap.lt_size z) I.ok.above)
 refine h _ ⟨I.ok,I.os,I.bare,⟨fun b o z n hb hx=>(hs.2 b (low b o z)).trans (I.base.keep b o z n hb hx),fun b o z n hb hx=> ?_,I.base.free,fun b o z hx=> ?_,I.base.tups,I.base.frzs,I.base.tbls⟩,⟨_,hn',fun j y v' e1 e2 e3=> ?_⟩,fun y c z=> ?_,I.free,I.freeC,fun p hp=> ?_,fun b ob z=> ?_,by simpa using I.len⟩
 ·obtain⟨sl,q⟩:=I.base.slot b o z n hb hx
  exact⟨sl,(hs.2 b (low b o z)).trans q⟩
 ·obtain⟨o',q⟩:=I.base.there b o z hx
  exact⟨o',(hs.2 b (low b o z)).trans q⟩
 ·by_cases hj:j=i
  ·subst hj
   rw[List.getElem?_set_self hiσ]at e2
   cases e2
  ·rw[List.getElem?_set_ne (Ne.symm hj)]at e2
   obtain⟨u',r',q⟩:=hl j y v' e1 e2 e3
   refine⟨u',r',?_⟩
   rcases q with⟨k,z⟩|⟨k,c,z,zc⟩
   ·refine .inl ⟨k,?_⟩
    have:y≠n:=fun z=>hj (nodup_ix hN e1 (z▸hi))
    simp[this,z]
   ·exact .inr ⟨k,c,z,zc.sameBut hs (cne y c z)⟩
 ·obtain⟨w',q⟩:=I.cell y c z
  exact⟨w',q.sameBut hs (cne y c z)⟩
 ·obtain⟨z,n',ne,nf,d⟩:=I.pin p hp
  exact⟨(hs.2 p.1 ne).trans z,n',ne,nf,d⟩
 ·refine(I.hok b ob z).stay (fun c w' hc q=>(hs.2 c ?_).trans q) (fun _ q=>q) fun _ _ q=>q
  rintro rfl
  rcases hc with rfl|hc
  ·rw[I.free]at z;cases z
  ·rw[I.free]at hc;cases hc
end
noncomputable def tTry(K:W.Frag)(D:Addr)(i:Nat)(sp:Sp)(nx:Ends->St->V->Hp->Prop)(t:TA)(ts:TS):TS:=fun Dn σ H=>t σ H fun vs H1=>sp vs H1 (fun v H2=>nx Dn σ v H2)
 (fun v oc H2=>∃e C,v= .ref e/\oc=some C/\PySem.W.exmOne K (.ref C) (.ref D)=some true/\ts {nx:=fun σ3 H3=>Dn.nx (σ3.set i none) H3,bk:=fun _ _=>False,ct:=fun _ _=>False,rt:=fun _ _=>False} (σ.set i (some (.ref e))) H2)
section
variable{X:Cx}{k:Nat}{f D:Addr}{fd:FuncData}{ps:List Str}{sp:Sp}{fn x n:Str}{p cpos epos np hpos pos:Pos}{a:Expr}{as:List Expr}{t:TA}{ts:TS}{b₀:Stmt}{suite:List Stmt}{i:Nat}
theorem caught(hst:X.stack=X.env::X.outer)(hfr:X.env.frame=some X.env.locals)(hgx:Gl X x)(hmx:X.mg x=some (.ref D))(hN:X.N.Nodup)(hi:X.N[i]? =some n)(hln:X.env.scope.names.lookup n=some .local)(hs:∀e,PSs (X.mkd e) (b₀::suite) ts){pins:List (Addr×Obj)}{σ:St}{H:Hp}{s s':Shared}{e C:Addr}{H':Hp}{B:Heap}{Dn:Ends}(I:Inv X pins σ H s)(F:Flew X.prog X.w X.stack H s e C H' B s')(hx:PySem.W.exmOne X.K (.ref C) (.ref D)=some true)(h:ts {nx:=fun σ3 H3=>Dn.nx (σ3.set i none) H3,bk:=fun _ _=>False,ct:=fun _ _=>False,rt:=fun _ _=>False} (σ.set i (some (.ref e))) (upd H' e (ExcO e C)))(hdb:(x==("__debug__":Str))=false):
  wpAny (model X.prog X.w) X.A (noteFrame (.ref e) X.env) (fun _ s₂=>wpAny (model X.prog X.w) X.A (setFlight (.ref e) none) (fun _ s₃=>
   wpAny (model X.prog X.w) X.A (handleBy (.ref e) X.env [.ExceptHandler (some (.Name x np)) (some n) (b₀::suite) hpos]) (SP X pins Dn) X.xe s₃) X.xe s₂) X.xe s':=by
 obtain⟨a0,fl⟩:=F.fly
 have fl0:=fl
 rw[hst]at fl0
 refine wpAny_looks_onW (L:=X.env.locals) (I.ok.frames.trans (congrArg some hst)) hfr fl0 fun h4 held4 up4=> ?_
 refine wpAny_landsW held4 fun h5 fl5 up5=> ?_
 have g5:=fl5
 rw[<-hst]at g5
 have J5:=landed I F g5 (up4.trans up5)
 refine wpAny_handleBy_cons (codeAny_handlers_test (ld_glob (J5.mkd e) hgx hmx ?_ hdb)) (by intro q;cases q)
 have oc:OfCls e C ({s' with heap:=h5}:Shared).heap:=exc_is J5 zab
 refine PySem.W.exm_one (K:=X.K) J5.kIn oc.ty hx _ _ _ _ (fun _ _ z=>z) ?_
 refine codeAny_handlers_suite_as ?_
 refine lands_againW fl5 fun h6 fl6 up6=> ?_
 have g6:=fl6
 rw[<-hst]at g6
 have J6:=landed I F g6 ((up4.trans up5).trans up6)
 refine zdk (X:=X.mkd e) (J6.mkd e) hN hi (.inl hln) (v:= .ref e) rfl (fun s7 J7=> ?_) (.inr hln)
 refine wpAny_mono (hs e pins s7 _ _ _ J7 h) (fun fl8 s8 q8=> ?_) (fun _ _ z=>z.elim)
 cases fl8 with
 |next=>
  obtain⟨σ3,H3,J8,q⟩:=q8
  exact(Inv.unmkd I.ok J8).forget hN hi hln fun s9 J9=>⟨_,H3,J9,q⟩
 |brk=>obtain⟨_,_,_,q⟩:=q8;exact q.elim
 |cont=>obtain⟨_,_,_,q⟩:=q8;exact q.elim
 |ret u=>obtain⟨_,_,_,_,_,q⟩:=q8;exact q.elim
theorem call_x{pins:List (Addr×Obj)}{σ:St}{H:Hp}{s:Shared}{Q:VK}{E:XK}{XE:Value->Shared->Prop}(F:FnOk X.prog X.w X.K X.mg X.base (CX1 X.prog X.w) k f fd ps sp)(hr:Room k X.A)(hg:Gl X fn)(hm:X.mg fn=some (.ref f))(hk:PySem.W.keepIn X.K (.ref f)=true)(hb:Binds X.K fd ps [])(ha:PA X.nox (a::as) t)(I:Inv X pins σ H s)(h:t σ H fun vs H1=>sp vs H1 Q E)(hx:∀H1 s1 v s',Inv X pins σ H1 s1->CX1 X.prog X.w X.stack H1 s1 E v s'->XE v s')(hdb:(fn==("__debug__":Str))=false)(he:starEach (a::as) X.env=(false,eval a X.env)::starEach as X.env)(hpl:(backTo cpos (starEach as X.env)).any (·.1)=false):
  wpAny (model X.prog X.w) X.A (eval (.Call (.Name fn p) (a::as) [] cpos) X.env) (EP X pins σ Q) XE s:=by
 refine wpAny_Call_Name_kw (ld_glob I hg hm ?_ hdb)
 refine PySem.W.callWith_K (h₀:=X.base) I.ok.mod.kin hk (wpAny_mono (ha cpos pins s σ H _ (I.wish _) h) (fun us s1 z=> ?_) fun _ _ z=>z.elim) he hpl
 obtain⟨vs,H1,I1,r,q⟩:=z
 have J:=I1.unwish
 refine⟨J.kIn,?_⟩
 have hl:us.length=ps.length:=by rw[<-r.length];exact F.len _ _ _ _ q
 have bd:=hb s1 us J.kIn (by simpa using hl)
 rw[List.append_nil]at bd
 refine wpAny_call (codeAny_mono (F.run X.A X.stack s1 H1 ⟨us,[]⟩ us vs Q E hr J.env0 bd r q) fun rr s' hq=> ?_)
 cases rr with
 |error v=>exact hx H1 s1 v s' J hq
 |ok fl=>
  cases fl with
  |ret u=>exact J.after hq
  |next=>exact False.elim hq
  |brk=>exact False.elim hq
  |cont=>exact False.elim hq
theorem ps_tryA{y:Str}{j:Nat}{ypos:Pos}(hst:X.stack=X.env::X.outer)(hfr:X.env.frame=some X.env.locals)(F:FnOk X.prog X.w X.K X.mg X.base (CX1 X.prog X.w) k f fd ps sp)(hr:Room k X.A)(hg:Gl X fn)(hm:X.mg fn=some (.ref f))(hk:PySem.W.keepIn X.K (.ref f)=true)(hb:Binds X.K fd ps [])(ha:PA X.nox (a::as) t)(hj:X.N[j]? =some y)(hy:X.env.scope.names.lookup y=some .local)(hgx:Gl X x)(hmx:X.mg x=some (.ref D))(hN:X.N.Nodup)(hi:X.N[i]? =some n)(hln:X.env.scope.names.lookup n=some .local)(hs:∀e,PSs (X.mkd e) (b₀::suite) ts)(hsw:swapsWith (.Call (.Name fn p) (a::as) [] cpos) (some (.Name y ypos)) epos.line X.env=pure false:=by rfl)(hdb:(fn==("__debug__":Str))=false:=by decide)(hdx:(x==("__debug__":Str))=false:=by decide)(he:starEach (a::as) X.env=(false,eval a X.env)::starEach as X.env:=by rfl)(hpl:(backTo cpos (starEach as X.env)).any (·.1)=false:=by rfl):
  PS X (.Try [.Assign [.Name y ypos] (.Call (.Name fn p) (a::as) [] cpos) epos] [.ExceptHandler (some (.Name x np)) (some n) (b₀::suite) hpos] [] [] pos) (tTry X.K D i sp (fun Dn σ v H2=>Dn.nx (σ.set j (some v)) H2) t ts):=by
 intro pins s σ H Dn I h
 refine wpAny_Try_except (wpAny_execs_cons (wpAny_Assign_Name (wpAny_mono (call_x F hr hg hm hk hb ha I h (fun H1 s1 v s' J z=> ?_) hdb he hpl) (fun v s1 z=> ?_) fun _ _ z=>z) hsw))
 ·obtain⟨e,C,H',B,rfl,Fl,e',C',q1,q2,q3,q4⟩:=z
  cases q1;cases q2
  exact caught hst hfr hgx hmx hN hi hln hs J Fl q3 q4 hdx
 ·obtain⟨v',H2,I2,r,q⟩:=z
  exact zdk I2 hN hj (.inl hy) r (fun s2 I3=>wpAny_execs_nil (wpAny_execs_nil ⟨_,H2,I3,q⟩)) (.inr hy)
end
end L2
namespace L2
open PySem PySem.Spec PyProof.Rows
theorem zdi(a b:Bool):MeetsSeq.EqGives (.bool a) (.bool b) (a==b):=fun prog w A E s Q h=>PySem.SeqAt.EqAt.bool_bool a b prog w E Q h
theorem vals_bl{bs:List Bool}{us:List Value}(r:Vals (bs.map V.bl) us):us=bs.map Value.bool:=by
 induction bs generalizing us with
 |nil=>cases r;rfl
 |cons b bs ih=>
  cases r with
  |cons h t=>rw[show _=Value.bool b from h,ih t];rfl
section
variable{X:Cx}
noncomputable def rCount:V->List V->Hp->VK->Prop:=fun x vs H Q=>∃(l:Addr) (bs:List Bool),x= .ref l/\vs=[.bl true]/\H l=some (.lst (bs.map V.bl))/\Q (.int (bs.countP id:Nat)) H
theorem mt_count:MtM X "list.count" rCount:=by
 intro pins s σ H x vs v us Q I rx rv h
 obtain⟨l,bs,rfl,rfl,hH,q⟩:=h
 cases rx
 obtain⟨u,rfl,ru⟩:=rv.one
 cases ru
 obtain⟨z,its,n,r,hl,e⟩:=I.lstM hH
 have hi:=vals_bl r
 subst hi
 refine call_meets F.slot_list_count ⟨_,e,rfl⟩ F.entry_list_count (F.args_list_count_2 _ _) (MeetsSeq.list_count l _ n (.bool true) (fun y=>y== .bool true) (fun y hy=> ?_)) ⟨e,?_⟩
 ·obtain⟨b,_,rfl⟩:=List.mem_map.mp (List.mem_toArray.mp hy)
  have e1:(Value.bool b==Value.bool true)=(b==true):=by cases b<;>rfl
  rw[e1]
  exact zdi b true
 ·refine⟨.int (bs.countP id:Nat),H,I.tok _,⟨s.toks,?_⟩,q⟩
  rw[List.toList_toArray,List.countP_map]
  congr 2
  refine List.countP_congr fun b _=> ?_
  cases b<;>simp
noncomputable def rIndex:V->List V->Hp->VK->Prop:=fun x vs H Q=>∃(l:Addr) (bs:List Bool) (j:Nat),x= .ref l/\vs=[.bl true]/\H l=some (.lst (bs.map V.bl))/\bs[j]? =some true/\(∀m,m<j->bs[m]? =some false)/\bs.length<=1000/\Q (.int (j:Nat)) H
theorem mt_index:MtM X "list.index" rIndex:=by
 intro pins s σ H x vs v us Q I rx rv h
 obtain⟨l,bs,j,rfl,rfl,hH,h1,h2,hb,q⟩:=h
 cases rx
 obtain⟨u,rfl,ru⟩:=rv.one
 cases ru
 obtain⟨z,its,n,r,hl,e⟩:=I.lstM hH
 have hi:=vals_bl r
 subst hi
 obtain⟨hj,ej⟩:=List.getElem?_eq_some_iff.mp h1
 have hj':j<(bs.map Value.bool).toArray.size:=by simpa using hj
 refine call_meets F.slot_list_index ⟨_,e,rfl⟩ F.entry_list_index (F.args_list_index_2 _ _) (MeetsSeq.list_index l _ n (.bool true) (fun y=>y== .bool true) (fun y hy=> ?_) j hj' (by omega) ?_ (fun m hm hmj=> ?_)) ⟨e,?_⟩
 ·obtain⟨b,_,rfl⟩:=List.mem_map.mp (List.mem_toArray.mp hy)
  have e1:(Value.bool b==Value.bool true)=(b==true):=by cases b<;>rfl
  rw[e1]
  exact zdi b true
 ·simp[ej]
 ·have hm':m<bs.length:=by simpa using hm
  have em:bs[m]=false:=by
   have z:=h2 m hmj
   rw[List.getElem?_eq_getElem hm']at z
   exact Option.some.inj z
  simp[em]
 ·exact⟨.int (j:Nat),H,I.tok _,⟨s.toks,rfl⟩,q⟩
end
end L2
namespace L2
open PySem PySem.Spec PyProof.Rows
mutual
noncomputable def litF:Nat->Expr->Option PyData
 |0,_=>none
 |n+1,e=>match e with
  | .Constant (.int i) _ _=>some (.int i)
  | .Constant (.bool b) _ _=>some (.bool b)
  | .Constant .none _ _=>some .none
  | .Constant (.str x) _ _=>some (.str x)
  | .UnaryOp .USub (.Constant (.int i) _ _) _=>some (.int (-i))
  | .Tuple es _ _=>(litsF n es).map .tuple
  | .List es _=>(litsF n es).map .list
  | .Dict [] [] _=>some (.dict [])
  |_=>none
noncomputable def litsF:Nat->List Expr->Option (List PyData)
 |0,_=>none
 |_+1,[]=>some []
 |n+1,e::es=>match litF n e,litsF n es with
  |some d,some ds=>some (d::ds)
  |_,_=>none
end
section
variable{X:Cx}
end
theorem FnOk.up{P:Program}{w:World}{K:W.Frag}{mg:Str->Option Value}{base:Heap}{CX:CXT}{k:Nat}{f:Addr}{fd:FuncData}{ps:List Str}{sp:Sp}(F:FnOk P w K mg base CX0 k f fd ps sp):FnOk P w K mg base CX k f fd ps sp:=
 ⟨F.len,fun A outer s H args us vs Q E hr e0 hb hv hs=>codeAny_mono (F.run A outer s H args us vs Q E hr e0 hb hv hs) fun r s' z=>by
  cases r with
  |error e=>exact False.elim z
  |ok fl=>cases fl<;>exact z⟩
end L2
namespace L2
open PySem PySem.Spec PyProof.Rows
section
variable{κ:Type} [DecidableEq κ]
noncomputable def valV(kvs:List (κ×V))(k:κ):Option V:=(kvs.find? fun kv=>decide (kv.1=k)).map (·.2)
noncomputable def putK(kvs:List (κ×V))(k:κ)(v:V):List (κ×V):=
 if(kvs.any fun kv=>decide (kv.1=k))=true then kvs.map (fun kv=>if kv.1=k then(kv.1,v)else kv)else kvs++[(k,v)]
noncomputable def dropK(kvs:List (κ×V))(k:κ):List (κ×V):=kvs.filter fun kv=>decide (kv.1≠k)
theorem valV_pos{p:κ×V}{r:List (κ×V)}{k:κ}(e:p.1=k):valV (p::r) k=some p.2:=by simp[valV,List.find?_cons,e]
theorem valV_neg{p:κ×V}{r:List (κ×V)}{k:κ}(e:¬p.1=k):valV (p::r) k=valV r k:=by simp[valV,List.find?_cons,e]
theorem valV_any(k:κ):∀kvs:List (κ×V),(kvs.any fun kv=>decide (kv.1=k))=(valV kvs k).isSome
 |[]=>rfl
 |p::r=>by
  rw[List.any_cons]
  by_cases e:p.1=k
  ·simp only[valV_pos e,decide_eq_true e,Bool.true_or,Option.isSome_some]
  ·rw[valV_neg e,decide_eq_false e,Bool.false_or];exact valV_any k r
theorem RelO.isSome_eq{o:Option V}{u:Option Value}(r:RelO o u):o.isSome=u.isSome:=by
 cases o with
 |none=>cases u with
  |none=>rfl
  |some _=>exact(show False from r).elim
 |some _=>cases u with
  |none=>exact(show False from r).elim
  |some _=>rfl
theorem RelO.getD{o:Option V}{u:Option Value}{d:V}{d':Value}(r:RelO o u)(rd:RelV d d'):RelV (o.getD d) (u.getD d'):=by
 cases o with
 |none=>cases u with
  |none=>exact rd
  |some _=>exact(show False from r).elim
 |some _=>cases u with
  |none=>exact(show False from r).elim
  |some _=>exact r
theorem KV.val{kvs:List (κ×V)}{vs:List (κ×Value)}(r:KV kvs vs)(k:κ):RelO (valV kvs k) (valueAt vs k):=by
 unfold KV at r
 induction r with
 |nil=>exact True.intro
 | @cons p q ps qs h t ih=>
  obtain⟨h1,h2⟩:=h
  by_cases e:p.1=k
  ·have e':q.1=k:=h1.symm.trans e
   have b:valueAt (q::qs) k=some q.2:=by simp[valueAt,List.find?_cons,e']
   rw[valV_pos e,b];exact h2
  ·have e':¬q.1=k:=fun z=>e (h1.trans z)
   have b:valueAt (q::qs) k=valueAt qs k:=by simp[valueAt,List.find?_cons,e']
   rw[valV_neg e,b];exact ih
theorem KV.any{kvs:List (κ×V)}{vs:List (κ×Value)}(r:KV kvs vs)(k:κ):(kvs.any fun kv=>decide (kv.1=k))=vs.any fun kv=>decide (kv.1=k):=by
 unfold KV at r
 induction r with
 |nil=>rfl
 |cons h t ih=>rw[List.any_cons,List.any_cons,ih,h.1]
theorem KV.repl{kvs:List (κ×V)}{vs:List (κ×Value)}(r:KV kvs vs)(k:κ){y:V}{u:Value}(ry:RelV y u):
  KV (kvs.map fun kv=>if kv.1=k then(kv.1,y)else kv) (vs.map fun kv=>if kv.1=k then(kv.1,u)else kv):=by
 unfold KV at r⊢
 induction r with
 |nil=>exact .nil
 | @cons p q ps qs h t ih=>
  rw[List.map_cons,List.map_cons]
  refine .cons ?_ ih
  obtain⟨h1,h2⟩:=h
  by_cases e:p.1=k
  ·rw[if_pos e,if_pos (h1.symm.trans e)];exact⟨h1,ry⟩
  ·rw[if_neg e,if_neg (fun z=>e (h1.trans z))];exact⟨h1,h2⟩
theorem KV.put{kvs:List (κ×V)}{vs:List (κ×Value)}(r:KV kvs vs)(k:κ){y:V}{u:Value}(ry:RelV y u):KV (putK kvs k y) (stored vs k u):=by
 unfold putK stored
 rw[r.any k]
 by_cases e:(vs.any fun kv=>decide (kv.1=k))=true
 ·rw[if_pos e,if_pos e];exact r.repl k ry
 ·rw[if_neg e,if_neg e];exact Paired.snoc r ⟨rfl,ry⟩
theorem KV.drop{kvs:List (κ×V)}{vs:List (κ×Value)}(r:KV kvs vs)(k:κ):KV (dropK kvs k) (without vs k):=by
 unfold KV at r⊢
 unfold dropK without
 induction r with
 |nil=>exact .nil
 | @cons p q ps qs h t ih=>
  obtain⟨h1,h2⟩:=h
  rw[List.filter_cons,List.filter_cons]
  by_cases e:p.1=k
  ·have a:¬decide (p.1≠k)=true:=by simp[e]
   have b:¬decide (q.1≠k)=true:=by simp[h1.symm.trans e]
   rw[if_neg a,if_neg b];exact ih
  ·have e':¬q.1=k:=fun z=>e (h1.trans z)
   have a:decide (p.1≠k)=true:=by simp[e]
   have b:decide (q.1≠k)=true:=by simp[e']
   rw[if_pos a,if_pos b];exact .cons ⟨h1,h2⟩ ih
theorem KV.keys{kvs:List (κ×V)}{vs:List (κ×Value)}(r:KV kvs vs):kvs.map (·.1)=vs.map (·.1):=by
 unfold KV at r
 induction r with
 |nil=>rfl
 |cons h t ih=>rw[List.map_cons,List.map_cons,ih,h.1]
theorem KV.length{kvs:List (κ×V)}{vs:List (κ×Value)}(r:KV kvs vs):kvs.length=vs.length:=Paired.length r
end
noncomputable abbrev KT(H:Hp):List (List Key×V)->List (List Key×Addr×Value)->Prop:=Paired fun p q=>p.1=q.1/\H q.2.1=some (.tup (p.1.map kV))/\RelV p.2 q.2.2
theorem KT.val{H:Hp}{kvs:List (List Key×V)}{xs:List (List Key×Addr×Value)}(r:KT H kvs xs)(k:List Key):RelO (valV kvs k) ((atKey xs k).map (·.2)):=by
 induction r with
 |nil=>exact True.intro
 | @cons p q ps qs h t ih=>
  obtain⟨h1,_,h2⟩:=h
  by_cases e:p.1=k
  ·have e':q.1=k:=h1.symm.trans e
   have b:atKey (q::qs) k=some q.2:=by simp[atKey,List.find?_cons,e']
   rw[valV_pos e,b];exact h2
  ·have e':¬q.1=k:=fun z=>e (h1.trans z)
   have b:atKey (q::qs) k=atKey qs k:=by simp[atKey,List.find?_cons,e']
   rw[valV_neg e,b];exact ih
theorem KT.repl{H:Hp}{kvs:List (List Key×V)}{xs:List (List Key×Addr×Value)}(r:KT H kvs xs)(k:List Key){y:V}{u:Value}(ry:RelV y u):
  KT H (kvs.map fun kv=>if kv.1=k then(kv.1,y)else kv) (xs.map (putAt k u)):=by
 induction r with
 |nil=>exact .nil
 | @cons p q ps qs h t ih=>
  rw[List.map_cons,List.map_cons]
  refine .cons ?_ ih
  obtain⟨h1,h2,h3⟩:=h
  unfold putAt
  by_cases e:p.1=k
  ·rw[if_pos e,if_pos (h1.symm.trans e)];exact⟨h1,h2,ry⟩
  ·rw[if_neg e,if_neg (fun z=>e (h1.trans z))];exact⟨h1,h2,h3⟩
theorem KT.put{H:Hp}{kvs:List (List Key×V)}{xs:List (List Key×Addr×Value)}(r:KT H kvs xs)(k:List Key){b:Addr}{y:V}{u:Value}(hb:H b=some (.tup (k.map kV)))(ry:RelV y u):
  KT H (putK kvs k y) (storedH xs k b u):=by
 have e:(kvs.any fun kv=>decide (kv.1=k))=(atKey xs k).isSome:=by
  rw[valV_any,(r.val k).isSome_eq,Option.isSome_map]
 unfold putK storedH
 rw[e]
 by_cases q:(atKey xs k).isSome=true
 ·rw[if_pos q,if_pos q];exact r.repl k ry
 ·rw[if_neg q,if_neg q];exact Paired.snoc r ⟨rfl,hb,ry⟩
theorem KT.keeps{H H':Hp}{kvs:List (List Key×V)}{xs:List (List Key×Addr×Value)}(r:KT H kvs xs)(ht:∀b ys,H b=some (.tup ys)->H' b=some (.tup ys)):KT H' kvs xs:=
 Paired.mapP r fun _ _ z=>⟨z.1,ht _ _ z.2.1,z.2.2⟩
section
variable{P:Program}{w:World}{H:Hp}{h:Heap}{a:Addr}
end
noncomputable def DGet(H:Hp)(a:Addr)(y:V)(r:Option V):Prop:=
 (∃kvs k,Rd H a (.dK kvs)/\y=kV k/\r=valV kvs k)\/∃kvs k b,Rd H a (.dT kvs)/\y= .ref b/\H b=some (.tup (k.map kV))/\r=valV kvs k
noncomputable def DPut(H:Hp)(a:Addr)(y v:V)(H':Hp):Prop:=
 (∃kvs k,H a=some (.dK kvs)/\y=kV k/\kvs.length<sizeLine/\H'=upd H a (.dK (putK kvs k v)))\/
 ∃kvs k b,H a=some (.dT kvs)/\y= .ref b/\H b=some (.tup (k.map kV))/\kvs.length<sizeLine/\H'=upd H a (.dT (putK kvs k v))
theorem DGet.k{H:Hp}{a:Addr}{kvs:List (Key×V)}{k:Key}(e:H a=some (.dK kvs)):DGet H a (kV k) (valV kvs k):= .inl ⟨kvs,k,.inl e,rfl,rfl⟩
theorem DGet.t{H:Hp}{a b:Addr}{kvs:List (List Key×V)}{k:List Key}(e:H a=some (.dT kvs))(eb:H b=some (.tup (k.map kV))):DGet H a (.ref b) (valV kvs k):= .inr ⟨kvs,k,b,.inl e,rfl,eb,rfl⟩
theorem DPut.k{H:Hp}{a:Addr}{kvs:List (Key×V)}{k:Key}{v:V}(e:H a=some (.dK kvs))(hl:kvs.length<sizeLine):DPut H a (kV k) v (upd H a (.dK (putK kvs k v))):= .inl ⟨kvs,k,e,rfl,hl,rfl⟩
theorem DPut.t{H:Hp}{a b:Addr}{kvs:List (List Key×V)}{k:List Key}{v:V}(e:H a=some (.dT kvs))(eb:H b=some (.tup (k.map kV)))(hl:kvs.length<sizeLine):
  DPut H a (.ref b) v (upd H a (.dT (putK kvs k v))):= .inr ⟨kvs,k,b,e,rfl,eb,hl,rfl⟩
section
variable{X:Cx}{pins:List (Addr×Obj)}{σ:St}{H:Hp}{s:Shared}{a:Addr}{y v:V}{u r:Value}{o:Option V}{A:Around}{E:Value->Shared->Prop}
end
section
variable{X:Cx}{pins:List (Addr×Obj)}{σ:St}{H:Hp}{s:Shared}{a:Addr}{kvs:List (Key×V)}{k:Key}{u:Value}{A:Around}{E:Value->Shared->Prop}
end
section
variable{X:Cx}{o i e value:Expr}{pos pos' tpos:Pos}{td ty tv:TE}
end
section
variable{X:Cx}{pos:Pos}
end
end L2
namespace PySem
namespace F
end F
section
variable{prog:Program}{w:World}{A:Around}{E:Value->Shared->Prop}{s:Shared}
noncomputable def Heap.IsRvd(h:Heap)(a l:Addr)(i:Int):Prop:=∃o,h.get? a=some o/\o.cls= .type "reversed"/\o.data= .fields #[.ref l,rawInt i]
theorem Heap.IsRvd.typeIs{a l:Addr}{i:Int}(x:s.heap.IsRvd a l i):s.TypeIs (.ref a) "reversed":=let⟨o,ho,hc,_⟩:=x;⟨o,ho,hc⟩
theorem Heap.IsRvd.at{h h':Heap}{a l:Addr}{i:Int}(x:h.IsRvd a l i)(e:∀o,h.get? a=some o->h'.get? a=some o):h'.IsRvd a l i:=let⟨o,ho,r⟩:=x;⟨o,e _ ho,r⟩
end
end PySem
namespace L2
open PySem PySem.Spec PyProof.Rows
section
variable{X:Cx}{tg:Expr}
end
section
variable{X:Cx}
end
end L2
namespace PySem
section
variable{prog:Program}{w:World}{Ky:Type} [DecidableEq Ky]{knd:KeyKind prog w Ky}{A:Around}{E:Value->Shared->Prop}{s:Shared}
end
end PySem
namespace L2
open PySem PySem.Spec PyProof.Rows
section
variable{X:Cx}
end
end L2
namespace L2
open PySem
noncomputable def Rise(xs:Array Nat):Prop:=xs.toList.Pairwise (· < ·)
theorem Rise.at{xs:Array Nat}(h:Rise xs){i k:Nat}(hk:k<xs.size)(hik:i<k):xs.toList[i]'(by simp;omega)<xs.toList[k]'(by simpa using hk):=List.pairwise_iff_getElem.mp h i k _ _ hik
theorem getD_at{xs:Array Nat}{i d:Nat}(h:i<xs.size):xs.getD i d=xs.toList[i]'(by simpa using h):=by
 rw[Array.getElem_toList]
 simp[Array.getD,h]
theorem below_go{xs:Array Nat}(hx:Rise xs)(j:Nat):∀(fuel lo hi:Nat),lo<=hi->hi<=xs.size->hi-lo<=fuel->(∀i (h:i<xs.size),i<lo->xs.toList[i]'(by simpa using h)<j)->(∀i (h:i<xs.size),hi<=i->j<=xs.toList[i]'(by simpa using h))->
  SetTable.below.go xs j fuel lo hi<=xs.size/\(∀i (h:i<xs.size),i<SetTable.below.go xs j fuel lo hi->xs.toList[i]'(by simpa using h)<j)/\(∀i (h:i<xs.size),SetTable.below.go xs j fuel lo hi<=i->j<=xs.toList[i]'(by simpa using h))
 |0,lo,hi,h1,h2,h3,a,b=>by
  have e:lo=hi:=by omega
  subst e
  unfold SetTable.below.go
  exact⟨h2,a,b⟩
 |fuel+1,lo,hi,h1,h2,h3,a,b=>by
  unfold SetTable.below.go
  by_cases c:lo<hi
  ·rw[if_pos c]
   have hm:(lo+hi)/2<xs.size:=by omega
   dsimp only
   rw[getD_at hm]
   by_cases q:xs.toList[(lo+hi)/2]'(by simpa using hm)<j
   ·rw[if_pos q]
    refine below_go hx j fuel _ hi (by omega) h2 (by omega) (fun i hi' hlt=> ?_) b
    by_cases e:i=(lo+hi)/2
    ·subst e;exact q
    ·exact Nat.lt_trans (hx.at hm (by omega)) q
   ·rw[if_neg q]
    refine below_go hx j fuel lo _ (by omega) (by omega) (by omega) a (fun i hi' hle=> ?_)
    by_cases e:i=(lo+hi)/2
    ·subst e;omega
    ·have:=hx.at hi' (show(lo+hi)/2<i by omega)
     omega
  ·rw[if_neg c]
   have e:lo=hi:=by omega
   subst e
   exact⟨h2,a,b⟩
theorem below_ok{xs:Array Nat}(hx:Rise xs)(j:Nat):SetTable.below xs j<=xs.size/\(∀i (h:i<xs.size),i<SetTable.below xs j->xs.toList[i]'(by simpa using h)<j)/\(∀i (h:i<xs.size),SetTable.below xs j<=i->j<=xs.toList[i]'(by simpa using h)):=
 below_go hx j xs.size 0 xs.size (Nat.zero_le _) (Nat.le_refl _) (Nat.le_refl _) (fun i _ h=>absurd h (Nat.not_lt_zero _)) (fun i h h'=>absurd h (Nat.not_lt.mpr h'))
theorem insert_list{α:Type}(xs:Array α)(p:Nat)(x:α):(SetTable.insertAt xs p x).toList=xs.toList.take p++x::xs.toList.drop p:=by
 unfold SetTable.insertAt
 simp
 exact List.take_of_length_le (by simp)
theorem insert_rise{xs:Array Nat}(hx:Rise xs){j:Nat}(hn:xs[SetTable.below xs j]? ≠some j):Rise (SetTable.insertAt xs (SetTable.below xs j) j):=by
 obtain⟨b1,b2,b3⟩:=below_ok hx j
 unfold Rise
 rw[insert_list,List.pairwise_append]
 have lt1:∀a∈xs.toList.take (SetTable.below xs j),a<j:=fun a ha=>by
  obtain⟨i,hi,e⟩:=List.mem_take_iff_getElem.mp ha
  rw[<-e]
  exact b2 i (by simp at hi;omega) (by omega)
 have lt2:∀a∈xs.toList.drop (SetTable.below xs j),j<a:=fun a ha=>by
  obtain⟨i,hi,e⟩:=List.mem_drop_iff_getElem.mp ha
  have hs0:i+SetTable.below xs j<xs.size:=by simpa using hi
  have hs:SetTable.below xs j+i<xs.size:=by omega
  have z:=b3 (SetTable.below xs j+i) hs (Nat.le_add_right _ _)
  have e':xs.toList[SetTable.below xs j+i]'(by simpa using hs)=a:=by rw[<-e]
  rw[e']at z
  by_cases c:i=0
  ·subst c
   refine Nat.lt_of_le_of_ne z fun ej=>hn ?_
   rw[<-Array.getElem?_toList,List.getElem?_eq_getElem (by simpa using hs)]
   exact congrArg some (e'.trans ej.symm)
  ·have hs0:SetTable.below xs j<xs.size:=by omega
   have z0:=b3 (SetTable.below xs j) hs0 (Nat.le_refl _)
   have:=hx.at hs (show SetTable.below xs j<SetTable.below xs j+i by omega)
   rw[e']at this
   omega
 refine⟨hx.sublist (List.take_sublist _ _),List.pairwise_cons.mpr ⟨lt2,hx.sublist (List.drop_sublist _ _)⟩,fun a ha b hb=> ?_⟩
 rcases List.mem_cons.mp hb with e|e
 ·rw[e];exact lt1 a ha
 ·exact Nat.lt_trans (lt1 a ha) (lt2 b e)
structure TabOk(b:Bool)(t:SetTable):Prop where
 rise:Rise t.place
 nod:t.dummies=#[]
 led:t.led=b
theorem has_none(j:Nat):SetTable.has #[] j=false:=by
 unfold SetTable.has
 simp
theorem slot_empty{t:SetTable}{j:Nat}(h:t.slot j= .empty):t.place[SetTable.below t.place j]? ≠some j:=fun e=>by
 unfold SetTable.slot at h
 dsimp only at h
 rw[e]at h
 simp at h
theorem probe_go{t:SetTable}(ht:t.dummies=#[])(ha:Nat->Int)(h:Int):∀(fuel:Nat) (p:SetTable.Probe) (j:Nat) (d:Option Nat),p.dummy=none->SetTable.probe.go t ha h fuel p=some (.empty j d)->d=none/\t.slot j= .empty
 |0,p,j,d,_,e=>by unfold SetTable.probe.go at e;cases e
 |fuel+1,p,j,d,hp,e=>by
  unfold SetTable.probe.go at e
  have adv:(t.advance p).dummy=none:=by
   unfold SetTable.advance
   split
   ·exact hp
   ·exact hp
  cases z:t.slot p.j with
  |empty=>
   rw[z]at e
   cases e
   exact⟨hp,z⟩
  |dummy=>
   exfalso
   unfold SetTable.slot at z
   dsimp only at z
   rw[ht,has_none]at z
   split at z
   ·cases z
   ·simp at z
  |live i=>
   rw[z]at e
   dsimp only at e
   split at e
   ·cases e
   ·exact probe_go ht ha h fuel _ j d adv e
theorem range_rise(n:Nat):Rise (Array.range n):=by
 unfold Rise
 rw[Array.toList_range]
 exact List.pairwise_lt_range
theorem zcj{b:Bool}{t:SetTable}(h:TabOk b t)(n:Nat):TabOk b (t.standIn n):=⟨range_rise n,rfl,h.led⟩
theorem lay_ok{b:Bool}{t:SetTable}(h:TabOk b t)(es:Array (Int×Value))(hh:Int)(x:Value):TabOk b (layNew t es hh x).2.1:=by
 unfold layNew
 cases z:t.freeSlot hh with
 |none=>exact zcj h _
 |some q=>
  obtain⟨slot,was⟩:=q
  have emp:t.slot slot= .empty:=by
   unfold SetTable.freeSlot SetTable.probe at z
   cases y:SetTable.probe.go t (fun _=>hh+1) hh (10*SetTable.turns t.mask) (t.probeStart hh)with
   |none=>rw[y]at z;cases z
   |some m=>
    rw[y]at z
    cases m with
    |candidate _ _ _=>cases z
    |empty j d=>
     obtain⟨rfl,e⟩:=probe_go h.nod _ _ _ _ _ _ rfl y
     cases z
     exact e
  have put_ok:TabOk b (t.put slot).1:=by
   refine⟨insert_rise h.rise (slot_empty emp),?_,h.led⟩
   show(if SetTable.has t.dummies slot then _ else t.dummies)=#[]
   rw[h.nod,has_none]
   rfl
  dsimp only
  unfold SetTable.orStandIn
  split
  ·exact put_ok
  ·exact zcj put_ok _
theorem laid_ok{mask finger moves:Nat}{b plain:Bool}{hs:Array Int}{t':SetTable}{order:Array Nat}(e:SetTable.laid mask finger moves b plain hs=some (t',order)):TabOk b t':=by
 unfold SetTable.laid at e
 cases z:SetTable.layClean mask hs with
 |none=>rw[z]at e;cases e
 |some owner=>
  rw[z]at e
  cases e
  refine⟨?_,rfl,rfl⟩
  unfold Rise
  show(((List.range (mask+1)).filterMap fun j=>(owner.getD j none).map (j, ·)).map (·.1)).Pairwise (· < ·)
  rw[List.map_filterMap]
  refine List.Pairwise.filterMap _ (R:=(· < ·)) (fun a a' haa' c hc c' hc'=> ?_) List.pairwise_lt_range
  cases y:owner.getD a none with
  |none=>simp[y]at hc
  |some k=>
   cases y':owner.getD a' none with
   |none=>simp[y']at hc'
   |some k'=>
    simp[y]at hc
    simp[y']at hc'
    omega
theorem relay_ok{b:Bool}{t:SetTable}(h:TabOk b t)(es:Array (Int×Value))(wanted:Nat):TabOk b (relayAll t es wanted).2.1:=by
 unfold relayAll
 cases z:t.relaid (es.map (·.1)) wanted with
 |none=>exact zcj h _
 |some q=>
  obtain⟨t',order⟩:=q
  dsimp only
  split
  ·unfold SetTable.relaid at z
   have:=laid_ok z
   rw[h.led]at this
   exact this
  ·exact zcj h _
theorem unplain_ok{b:Bool}{t:SetTable}(h:TabOk b t):TabOk b {t with plain:=false}:=⟨h.rise,h.nod,h.led⟩
end L2
namespace PySem
namespace F
end F
end PySem
namespace PySem
open L2 (TabOk Rise)
section
variable{prog:Program}{w:World}{A:Around}{E:Value->Shared->Prop}{s:Shared}
structure SetAt(w:World)(h:Heap)(d:Addr)(es:Array (Int×Value))(ep:Nat)(t:SetTable):Prop where
 ob:∃o,h.get? d=some o/\o.ExactSet/\o.data= .set es ep t
 fits:t.fits es.size=true
 tab:TabOk (!w.params.followText "set-order") t
theorem SetAt.at{h h':Heap}{d:Addr}{es:Array (Int×Value)}{ep:Nat}{t:SetTable}(S:SetAt w h d es ep t)(e:∀o,h.get? d=some o->h'.get? d=some o):SetAt w h' d es ep t:=
 let⟨o,ho,r⟩:=S.ob;⟨⟨o,e _ ho,r⟩,S.fits,S.tab⟩
theorem SetAt.typeIs{d:Addr}{es:Array (Int×Value)}{ep:Nat}{t:SetTable}(S:SetAt w s.heap d es ep t):s.TypeIs (.ref d) "set":=let⟨o,ho,hx,_⟩:=S.ob;⟨o,ho,hx.1⟩
noncomputable def IsSetIter(h:Heap)(I d:Addr)(first:Value)(i n ep:Nat):Prop:=∃o,h.get? I=some o/\o.cls= .type "set_iterator"/\o.data= .fields #[first,.int i 0,.ref d,.int n 0,.int ep 0]
theorem IsSetIter.at{h h':Heap}{I d:Addr}{first:Value}{i n ep:Nat}(x:IsSetIter h I d first i n ep)(e:∀o,h.get? I=some o->h'.get? I=some o):IsSetIter h' I d first i n ep:=let⟨o,ho,r⟩:=x;⟨o,e _ ho,r⟩
theorem IsSetIter.typeIs{I d:Addr}{first:Value}{i n ep:Nat}(x:IsSetIter s.heap I d first i n ep):s.TypeIs (.ref I) "set_iterator":=let⟨o,ho,hc,_⟩:=x;⟨o,ho,hc⟩
end
end PySem
namespace PySem
open L2 (TabOk Rise)
section
variable{prog:Program}{w:World}{A:Around}{E:Value->Shared->Prop}{s:Shared}
theorem SetAt.push{h:Heap}{d:Addr}{es:Array (Int×Value)}{ep:Nat}{t:SetTable}(S:SetAt w h d es ep t)(o:Obj):SetAt w (h.push o) d es ep t:=S.at fun _ e=>Heap.get?_push_of_some _ e
end
end PySem
namespace PySem
open L2 (TabOk Rise lay_ok relay_ok unplain_ok)
section
variable{prog:Program}{w:World}{A:Around}{E:Value->Shared->Prop}{s:Shared}
noncomputable def SetG(prog:Program)(w:World)(h:Heap)(d:Addr)(S:Int->Bool)(n:Nat):Prop:=
 ∃o es ep t,h.get? d=some o/\o.ExactSet/\o.data= .set es ep t/\ElemsOf (intKind prog w) es.toList/\(∀k,S k=true↔∃e∈es.toList,(intKind prog w).is k e.2=true)/\es.size<scanBound/\t.fits es.size=true/\es.size=n/\TabOk (!w.params.followText "set-order") t
theorem SetG.at{h h':Heap}{d:Addr}{S:Int->Bool}{n:Nat}(g:SetG prog w h d S n)(e:∀o,h.get? d=some o->h'.get? d=some o):SetG prog w h' d S n:=let⟨o,es,ep,t,ho,r⟩:=g;⟨o,es,ep,t,e _ ho,r⟩
theorem SetG.congr{h:Heap}{d:Addr}{S S':Int->Bool}{n n':Nat}(g:SetG prog w h d S n)(e:∀k,S k=S' k)(en:n=n'):SetG prog w h d S' n':=by
 have:S=S':=funext e
 subst this;subst en;exact g
end
end PySem
namespace L2
open PySem PySem.Spec PyProof.Rows
section
variable{prog:Program}{w:World}{A:Around}{E:Value->Shared->Prop}{s:Shared}
end
section
variable{prog:Program}{w:World}{A:Around}{R:Result->Shared->Prop}{I:Addr}{fp wr:List Addr}{G:Array GenState->Array GenState->Prop}{n:Nat}{P:Nat->Value->Prop}{St:Nat->Shared->Prop}
end
section
variable{prog:Program}{w:World}{A:Around}{E:Value->Shared->Prop}{s:Shared}
end
end L2
namespace Srt
open PySem PySem.W PyProof.Rows PySem.Calls
section
variable{prog:Program}{w:World}{A:Around}{E:Value->Shared->Prop}{s:Shared}
end
end Srt
namespace L2
open PySem PySem.Spec PyProof.Rows
noncomputable def iv:Value->Int
 | .int k _=>k
 |_=>0
section
variable{prog:Program}{w:World}{A:Around}{E:Value->Shared->Prop}{s:Shared}
end
end L2
namespace Srt
open PySem PySem.W PyProof.Rows PySem.Calls
section
variable{prog:Program}{w:World}{A:Around}{E:Value->Shared->Prop}{s:Shared}
end
end Srt
namespace L2
open PySem PySem.Spec PyProof.Rows
section
variable{X:Cx}{a:Expr}{ta:TA}{p p' pos pos':Pos}
end
end L2
namespace L2
open PySem PySem.Spec PyProof.Rows
section
variable{prog:Program}{w:World}{A:Around}{E:Value->Shared->Prop}{s:Shared}
end
section
variable{X:Cx}{o e:Expr}{to:TE}{t:TA}{apos cpos:Pos}
end
end L2
namespace L2
open PySem PySem.Spec PyProof.Rows
section
variable{X:Cx}{e e1 e2:Expr}{es:List Expr}{te:TE}{pos:Pos}
end
end L2
namespace Bs
open PySem PySem.W PyProof.Rows PySem.Calls
noncomputable def gallopB:Bool->Keyed->Array Keyed->Nat->Nat->Nat->StateT SortSt Sem (Option Nat):=sortPriv%PySem.Builtin.gallop
noncomputable def mergeLoB:Array Keyed->Array Keyed->StateT SortSt Sem (Array Keyed):=sortPriv%PySem.Builtin.mergeLo
noncomputable def mergeHiB:Array Keyed->Array Keyed->StateT SortSt Sem (Array Keyed):=sortPriv%PySem.Builtin.mergeHi
noncomputable def setG:Nat->StateT SortSt Sem Unit:=sortPriv%PySem.Builtin.setMinGallop
section
variable{prog:Program}{w:World}{A:Around}{E:Value->Shared->Prop}{s:Shared}{κ:SortKind}{Gd:Keyed->Prop}
noncomputable def Ans(prog:Program)(w:World)(A:Around)(E:Value->Shared->Prop)(s:Shared)(κ:SortKind)(Gd:Keyed->Prop):Prop:=
 ∀x y,Gd x->Gd y->∀(st:SortSt) (Q:Option Bool->SortSt->Prop),kindOf st=κ->(∀b,Q (some b) st)->wpS (model prog w) A E s (lt' x y) Q st
theorem zap{arr:Array Keyed}{i:Nat}{st:SortSt}{Q:Keyed->SortSt->Prop}(hi:i<arr.size)(h:Q arr[i] st):wpS (model prog w) A E s (elem' arr i) Q st:=by
 rw[elem'_eq,Array.getElem?_eq_getElem hi]
 exact wpS_pure h
theorem zcc(ans:Ans prog w A E s κ Gd){left:Bool}{key:Keyed}{arr:Array Keyed}{base n hint:Nat}{st:SortSt}{Q:Option Nat->SortSt->Prop}(hk:kindOf st=κ)(gk:Gd key)(ga:∀i (h:i<arr.size),Gd arr[i])(hb:base+n<=arr.size)(hh:hint<n)(h:∀k,k<=n->Q (some k) st):wpS (model prog w) A E s (gallopB left key arr base n hint) Q st:=by
 have bey:∀i,i<n->∀Q:Option Bool->SortSt->Prop,(∀b,Q (some b) st)->
   wpS (model prog w) A E s (do
    let x<-elem' arr (base+i)
    if left=true then lt' x key else do
     let r<-lt' key x
     pure (Option.map (fun z=> !z) r)) Q st:=fun i hi Q hq=>by
  have hi':base+i<arr.size:=by omega
  refine wpS_bind (zap hi' ?_)
  by_cases hl:left=true
  ·rw[if_pos hl];exact ans _ _ (ga _ hi') gk st _ hk hq
  ·rw[if_neg hl];exact wpS_bind (ans _ _ gk (ga _ hi') st _ hk fun b=>wpS_pure (hq _))
 refine wpS_bind (bey _ hh _ fun b=> ?_)
 cases b with
 |true=>
  refine wpS_bind (wpS_mono (wpS_forRange (I:=fun _ c st'=>st=st'/\∃l r,c=(none,l,r)) (Q:=fun c st'=>st=st'/\∃l r,c=(none,l,r)) ?_ (fun _ _ q=>q) ⟨rfl,0,1,rfl⟩) ?_)
  ·rintro x c st' _ _ ⟨rfl,l,r,rfl⟩
   dsimp only
   by_cases hlr:r≥n-hint
   ·rw[if_pos hlr];exact wpS_pure ⟨rfl,l,r,rfl⟩
   ·rw[if_neg hlr]
    refine wpS_bind (bey _ (by omega) _ fun b=> ?_)
    cases b with
    |true=>exact wpS_pure ⟨rfl,_,_,rfl⟩
    |false=>exact wpS_pure ⟨rfl,_,_,rfl⟩
  ·rintro c st' ⟨rfl,l,r,rfl⟩
   dsimp only
   refine wpS_bind (wpS_mono (wpS_forRange (I:=fun _ c st'=>st=st'/\∃l r,c=(none,l,r)/\r<=n) (Q:=fun c st'=>st=st'/\∃l r,c=(none,l,r)/\r<=n) ?_ (fun _ _ q=>q) ⟨rfl,_,_,rfl,?_⟩) ?_)
   ·rintro x c st' _ _ ⟨rfl,l,r,rfl,hr⟩
    dsimp only
    by_cases hlr:l≥r
    ·rw[if_pos hlr];exact wpS_pure ⟨rfl,l,r,rfl,hr⟩
    ·rw[if_neg hlr]
     refine wpS_bind (bey _ (by omega) _ fun b=> ?_)
     cases b with
     |true=>exact wpS_pure ⟨rfl,_,_,rfl,hr⟩
     |false=>exact wpS_pure ⟨rfl,_,_,rfl,by omega⟩
   ·omega
   ·rintro c st' ⟨rfl,l,r,rfl,hr⟩
    exact wpS_pure (h r hr)
 |false=>
  refine wpS_bind (wpS_mono (wpS_forRange (I:=fun _ c st'=>st=st'/\∃l r,c=(none,l,r)) (Q:=fun c st'=>st=st'/\∃l r,c=(none,l,r)) ?_ (fun _ _ q=>q) ⟨rfl,0,1,rfl⟩) ?_)
  ·rintro x c st' _ _ ⟨rfl,l,r,rfl⟩
   dsimp only
   by_cases hlr:r≥hint+1
   ·rw[if_pos hlr];exact wpS_pure ⟨rfl,l,r,rfl⟩
   ·rw[if_neg hlr]
    refine wpS_bind (bey _ (by omega) _ fun b=> ?_)
    cases b with
    |true=>exact wpS_pure ⟨rfl,_,_,rfl⟩
    |false=>exact wpS_pure ⟨rfl,_,_,rfl⟩
  ·rintro c st' ⟨rfl,l,r,rfl⟩
   dsimp only
   refine wpS_bind (wpS_mono (wpS_forRange (I:=fun _ c st'=>st=st'/\∃l r,c=(none,l,r)/\r<=n) (Q:=fun c st'=>st=st'/\∃l r,c=(none,l,r)/\r<=n) ?_ (fun _ _ q=>q) ⟨rfl,_,_,rfl,?_⟩) ?_)
   ·rintro x c st' _ _ ⟨rfl,l,r,rfl,hr⟩
    dsimp only
    by_cases hlr:l≥r
    ·rw[if_pos hlr];exact wpS_pure ⟨rfl,l,r,rfl,hr⟩
    ·rw[if_neg hlr]
     refine wpS_bind (bey _ (by omega) _ fun b=> ?_)
     cases b with
     |true=>exact wpS_pure ⟨rfl,_,_,rfl,hr⟩
     |false=>exact wpS_pure ⟨rfl,_,_,rfl,by omega⟩
   ·omega
   ·rintro c st' ⟨rfl,l,r,rfl,hr⟩
    exact wpS_pure (h r hr)
noncomputable def Al(Gd:Keyed->Prop)(xs:Array Keyed):Prop:=∀i (h:i<xs.size),Gd xs[i]
theorem Al.push{xs:Array Keyed}{x:Keyed}(h:Al Gd xs)(hx:Gd x):Al Gd (xs.push x):=fun i hi=>by
 rw[Array.getElem_push]
 split
 ·exact h _ _
 ·exact hx
theorem Al.app{xs ys:Array Keyed}(h:Al Gd xs)(h':Al Gd ys):Al Gd (xs++ys):=fun i hi=>by
 rw[Array.getElem_append]
 split
 ·exact h _ _
 ·exact h' _ _
theorem Al.ext{xs:Array Keyed}(h:Al Gd xs)(i j:Nat):Al Gd (xs.extract i j):=fun k hk=>by
 rw[Array.getElem_extract]
 exact h _ _
theorem Al.rev{xs:Array Keyed}(h:Al Gd xs):Al Gd xs.reverse:=fun k hk=>by
 rw[Array.getElem_reverse]
 exact h _ _
theorem Al.one{x:Keyed}(hx:Gd x):Al Gd #[x]:=fun i hi=>by
 have e:i=0:=by simpa using hi
 subst e;exact hx
theorem zbe(xs:Array Keyed)(i j:Nat)(h:j<=xs.size):(xs.extract i j).size=j-i:=by rw[Array.size_extract];omega
structure Sv(st st':SortSt):Prop where
 arr:arrOf st'=arrOf st
 pend:pendingOf st'=pendingOf st
 fail:failedOf st'=failedOf st
 kind:kindOf st'=kindOf st
theorem Sv.refl(st:SortSt):Sv st st:=⟨rfl,rfl,rfl,rfl⟩
theorem setG_in{g:Nat}{st0 st:SortSt}{Q:Unit->SortSt->Prop}(sv:Sv st0 st)(h:∀st',Sv st0 st'->Q () st'):wpS (model prog w) A E s (setG g) Q st:=
 wpS_modify (h _ ⟨sv.arr,sv.pend,sv.fail,sv.kind⟩)
theorem mergeLo_in(ans:Ans prog w A E s κ Gd){a b:Array Keyed}{st:SortSt}{Q:Array Keyed->SortSt->Prop}(hk:kindOf st=κ)(ga:Al Gd a)(gb:Al Gd b)(ha:0<a.size)(hb:0<b.size)(h:∀r st',Sv st st'->r.size=a.size+b.size->Al Gd r->Q r st'):wpS (model prog w) A E s (mergeLoB a b) Q st:=by
 have dn:∀out ia ib,ia<=a.size->ib<=b.size->out.size=ia+ib->Al Gd out->(out++a.extract ia a.size++b.extract ib b.size).size=a.size+b.size/\Al Gd (out++a.extract ia a.size++b.extract ib b.size):=fun out ia ib h1 h2 h3 h4=>
  ⟨by rw[Array.size_append,Array.size_append,zbe _ _ _ (Nat.le_refl _),zbe _ _ _ (Nat.le_refl _)];omega,(h4.app (ga.ext _ _)).app (gb.ext _ _)⟩
 have la:∀out ia ib,ia<=a.size->ib<=b.size->out.size=ia+ib->Al Gd out->(out++b.extract ib b.size++a.extract ia a.size).size=a.size+b.size/\Al Gd (out++b.extract ib b.size++a.extract ia a.size):=fun out ia ib h1 h2 h3 h4=>
  ⟨by rw[Array.size_append,Array.size_append,zbe _ _ _ (Nat.le_refl _),zbe _ _ _ (Nat.le_refl _)];omega,(h4.app (gb.ext _ _)).app (ga.ext _ _)⟩
 refine wpS_bind (wpS_lift (wpAny_rule ⟨rfl,?_⟩))
 dsimp only
 refine wpS_bind (zap hb ?_)
 by_cases e1:(1==b.size)=true
 ·rw[if_pos e1]
  have z:=dn #[b[0]] 0 1 (by omega) (by omega) rfl (.one (gb _ _))
  exact wpS_pure (h _ _ (Sv.refl _) z.1 z.2)
 rw[if_neg e1]
 by_cases e2:(0+1==a.size)=true
 ·rw[if_pos e2]
  have z:=la #[b[0]] 0 1 (by omega) (by omega) rfl (.one (gb _ _))
  exact wpS_pure (h _ _ (Sv.refl _) z.1 z.2)
 rw[if_neg e2]
 have e1':1<b.size:=by have:1≠b.size:=fun q=>e1 (by rw[<-q];rfl);omega
 have e2':1<a.size:=by have:1≠a.size:=fun q=>e2 (by rw[<-q];rfl);omega
 refine wpS_bind (wpS_get ?_)
 refine wpS_bind (wpS_mono (wpS_forRange (I:=fun i c st'=>Sv st st'/\∃out ia ib mg,c=(none,out,ia,ib,mg)/\ia+1<a.size/\ib<b.size/\out.size=ia+ib/\Al Gd out/\i<=ia+ib)
  (Q:=fun c st'=>Sv st st'/\∃r rest,c=(some r,rest)/\r.size=a.size+b.size/\Al Gd r) ?step ?fin ⟨Sv.refl _,_,0,1,_,rfl,e2',e1',rfl,.one (gb _ _),by omega⟩) ?post)
 case fin=>
  rintro c st' ⟨_,out,ia,ib,mg,rfl,j1,j2,j3,j4,j5⟩
  omega
 case post=>
  rintro c st' ⟨sv,r,rest,rfl,z1,z2⟩
  exact wpS_pure (h _ _ sv z1 z2)
 case step=>
  rintro i c st1 _ _ ⟨sv1,out,ia,ib,mg,rfl,j1,j2,j3,j4,j5⟩
  dsimp only
  refine wpS_bind (wpS_mono (wpS_forRange (I:=fun x c st'=>Sv st st'/\∃out ia ib ac bc,c=(none,out,ia,ib,ac,bc)/\ia+1<a.size/\ib<b.size/\out.size=ia+ib/\Al Gd out/\i+x<=ia+ib)
   (Q:=fun c st'=>Sv st st'/\((∃r rest,c=(some r,rest)/\r.size=a.size+b.size/\Al Gd r)\/∃out ia ib ac bc,c=(none,out,ia,ib,ac,bc)/\ia+1<a.size/\ib<b.size/\out.size=ia+ib/\Al Gd out/\i+1<=ia+ib))
   ?step1 ?fin1 ⟨sv1,out,ia,ib,0,0,rfl,j1,j2,j3,j4,j5⟩) ?post1)
  case fin1=>
   rintro c st' ⟨_,out,ia,ib,ac,bc,rfl,j1,j2,j3,j4,j5⟩
   omega
  case step1=>
   rintro x c st2 _ _ ⟨sv2,out,ia,ib,ac,bc,rfl,j1,j2,j3,j4,j5⟩
   dsimp only
   have hia:ia<a.size:=by omega
   refine wpS_bind (zap j2 (wpS_bind (zap hia (wpS_bind (ans _ _ (gb _ _) (ga _ _) _ _ (sv2.kind.trans hk) fun bw=> ?_)))))
   cases bw with
   |true=>
    simp only[if_true]
    refine wpS_bind (zap j2 ?_)
    have s1:(out.push b[ib]).size=ia+(ib+1):=by rw[Array.size_push];omega
    have g1:=j4.push (gb ib j2)
    by_cases q1:(ib+1==b.size)=true
    ·rw[if_pos q1]
     have z:=dn _ ia (ib+1) (by omega) (by omega) s1 g1
     exact wpS_pure ⟨sv2,.inl ⟨_,_,rfl,z.1,z.2⟩⟩
    rw[if_neg q1]
    have q1':ib+1<b.size:=by have:ib+1≠b.size:=fun q=>q1 (by rw[<-q];exact beq_self_eq_true _);omega
    by_cases q2:bc+1≥mg
    ·rw[if_pos q2];exact wpS_pure ⟨sv2,.inr ⟨_,_,_,_,_,rfl,j1,q1',s1,g1,by omega⟩⟩
    ·rw[if_neg q2];exact wpS_pure ⟨sv2,_,_,_,_,_,rfl,j1,q1',s1,g1,by omega⟩
   |false=>
    simp only[Bool.false_eq_true,if_false]
    refine wpS_bind (zap hia ?_)
    have s1:(out.push a[ia]).size=ia+1+ib:=by rw[Array.size_push];omega
    have g1:=j4.push (ga ia hia)
    by_cases q1:(ia+1+1==a.size)=true
    ·rw[if_pos q1]
     have z:=la _ (ia+1) ib (by omega) (by omega) s1 g1
     exact wpS_pure ⟨sv2,.inl ⟨_,_,rfl,z.1,z.2⟩⟩
    rw[if_neg q1]
    have q1':ia+1+1<a.size:=by have:ia+1+1≠a.size:=fun q=>q1 (by rw[<-q];exact beq_self_eq_true _);omega
    by_cases q2:ac+1≥mg
    ·rw[if_pos q2];exact wpS_pure ⟨sv2,.inr ⟨_,_,_,_,_,rfl,q1',j2,s1,g1,by omega⟩⟩
    ·rw[if_neg q2];exact wpS_pure ⟨sv2,_,_,_,_,_,rfl,q1',j2,s1,g1,by omega⟩
  case post1=>
   rintro c st2 ⟨sv2,⟨r,rest,rfl,z1,z2⟩|⟨out,ia,ib,ac,bc,rfl,j1,j2,j3,j4,j5⟩⟩
   ·exact wpS_pure ⟨sv2,r,_,rfl,z1,z2⟩
   dsimp only
   refine wpS_bind (wpS_lift (wpAny_rule ⟨rfl,?_⟩))
   refine wpS_bind (wpS_mono (wpS_forRange (I:=fun x c st'=>Sv st st'/\∃out ia ib mg ac bc,c=(none,out,ia,ib,mg,ac,bc)/\ia+1<a.size/\ib<b.size/\out.size=ia+ib/\Al Gd out/\i+1<=ia+ib)
    (Q:=fun c st'=>Sv st st'/\((∃r rest,c=(some r,rest)/\r.size=a.size+b.size/\Al Gd r)\/∃out ia ib mg ac bc,c=(none,out,ia,ib,mg,ac,bc)/\ia+1<a.size/\ib<b.size/\out.size=ia+ib/\Al Gd out/\i+1<=ia+ib))
    ?step2 (fun _ _ q=>⟨q.1,.inr q.2⟩) ⟨sv2,out,ia,ib,_,_,_,rfl,j1,j2,j3,j4,j5⟩) ?post2)
   case post2=>
    rintro c st3 ⟨sv3,⟨r,rest,rfl,z1,z2⟩|⟨out,ia,ib,mg,ac,bc,rfl,j1,j2,j3,j4,j5⟩⟩
    ·exact wpS_pure ⟨sv3,r,_,rfl,z1,z2⟩
    ·dsimp only
     exact wpS_bind (setG_in sv3 fun st4 sv4=>wpS_pure ⟨sv4,out,ia,ib,_,rfl,j1,j2,j3,j4,j5⟩)
   case step2=>
    clear j1 j2 j3 j4 j5 sv2 sv1
    rintro x c st3 _ _ ⟨sv3,out,ia,ib,mg,ac,bc,rfl,j1,j2,j3,j4,j5⟩
    dsimp only
    by_cases hmg:mg>1
    case' pos=>rw[if_pos hmg]
    case' neg=>rw[if_neg hmg]
    all_goals
     refine wpS_bind (setG_in sv3 fun st4 sv4=> ?_)
     refine wpS_bind (zap j2 ?_)
     refine wpS_bind (zcc ans (sv4.kind.trans hk) (gb _ _) ga (by omega) (by omega) fun k hkk=> ?_)
     dsimp only
     by_cases hk0:k>0
     case' pos=>
      rw[if_pos hk0]
      have s1:(out++a.extract ia (ia+k)).size=ia+k+ib:=by rw[Array.size_append,zbe _ _ _ (by omega)];omega
      have g1:Al Gd (out++a.extract ia (ia+k)):=j4.app (ga.ext _ _)
      by_cases q1:(ia+k+1==a.size)=true
      ·rw[if_pos q1]
       have z:=la _ (ia+k) ib (by omega) (by omega) s1 g1
       exact wpS_pure ⟨sv4,.inl ⟨_,_,rfl,z.1,z.2⟩⟩
      rw[if_neg q1]
      by_cases q2:(ia+k==a.size)=true
      ·rw[if_pos q2]
       have z:=dn _ (ia+k) ib (by omega) (by omega) s1 g1
       exact wpS_pure ⟨sv4,.inl ⟨_,_,rfl,z.1,z.2⟩⟩
      rw[if_neg q2]
      have q1':ia+k+1<a.size:=by
       have u1:ia+k+1≠a.size:=fun q=>q1 (by rw[<-q];exact beq_self_eq_true _)
       have u2:ia+k≠a.size:=fun q=>q2 (by rw[<-q];exact beq_self_eq_true _)
       omega
      have j5:i+1<=ia+k+ib:=by omega
      generalize out++a.extract ia (ia+k)=out1 at *
      generalize ia+k=ia1 at *
      clear j1 j3 j4
      have j1:=q1'
      have j3:=s1
      have j4:=g1
      clear q1' s1 g1
     case' neg=>rw[if_neg hk0]
     all_goals
      refine wpS_bind (zap j2 ?_)
      first
       |have s1:(out1.push b[ib]).size=ia1+(ib+1):=by rw[Array.size_push];omega
       |have s1:(out.push b[ib]).size=ia+(ib+1):=by rw[Array.size_push];omega
      have g1:=j4.push (gb ib j2)
      by_cases q1:(ib+1==b.size)=true
      ·rw[if_pos q1]
       have z:=dn _ _ (ib+1) (by omega) (by omega) s1 g1
       exact wpS_pure ⟨sv4,.inl ⟨_,_,rfl,z.1,z.2⟩⟩
      rw[if_neg q1]
      have q1':ib+1<b.size:=by have:ib+1≠b.size:=fun q=>q1 (by rw[<-q];exact beq_self_eq_true _);omega
      have hia:=Nat.lt_of_succ_lt j1
      refine wpS_bind (zap hia ?_)
      refine wpS_bind (zcc ans (sv4.kind.trans hk) (ga _ _) gb (by omega) (by omega) fun k2 hkk2=> ?_)
      dsimp only
      by_cases hk2:k2>0
      case' pos=>
       rw[if_pos hk2]
       have s2:=s1
       have g2:=g1.app (gb.ext (ib+1) (ib+1+k2))
       generalize hO:Array.push _ b[ib]=O at *
       have s3:(O++b.extract (ib+1) (ib+1+k2)).size=O.size+k2:=by rw[Array.size_append,zbe _ _ _ (by omega)];omega
       by_cases q2:(ib+1+k2==b.size)=true
       ·rw[if_pos q2]
        have z:=dn _ _ (ib+1+k2) (Nat.le_of_lt hia) (by omega) (s3.trans (by omega)) g2
        exact wpS_pure ⟨sv4,.inl ⟨_,_,rfl,z.1,z.2⟩⟩
       rw[if_neg q2]
       have q2':ib+1+k2<b.size:=by have:ib+1+k2≠b.size:=fun q=>q2 (by rw[<-q];exact beq_self_eq_true _);omega
       refine wpS_bind (zap hia ?_)
       have g3:=g2.push (ga _ hia)
       generalize hO2:O++b.extract (ib+1) (ib+1+k2)=O2 at *
       have s4:=fun v:Keyed=>Array.size_push (xs:=O2) v
      case' neg=>
       rw[if_neg hk2]
       refine wpS_bind (zap hia ?_)
       have g3:=g1.push (ga _ hia)
       generalize hO2:Array.push _ b[ib]=O2 at *
       have s4:=fun v:Keyed=>Array.size_push (xs:=O2) v
      all_goals
       split
       ·next q3=>
        have q3':=eq_of_beq q3
        refine wpS_pure ⟨sv4,.inl ⟨_,_,rfl,?_⟩⟩
        refine la _ _ _ ?_ ?_ ((s4 _).trans ?_) g3<;>omega
       ·next q3=>
        have q3':=mt beq_iff_eq.mpr q3
        split
        ·refine wpS_pure ⟨sv4,.inr ⟨_,_,_,_,_,_,rfl,?_,?_,(s4 _).trans ?_,g3,?_⟩⟩<;>omega
        ·refine wpS_pure ⟨sv4,_,_,_,_,_,_,rfl,?_,?_,(s4 _).trans ?_,g3,?_⟩<;>omega
theorem mergeHi_in(ans:Ans prog w A E s κ Gd){a b:Array Keyed}{st:SortSt}{Q:Array Keyed->SortSt->Prop}(hk:kindOf st=κ)(ga:Al Gd a)(gb:Al Gd b)(ha:0<a.size)(hb:0<b.size)(h:∀r st',Sv st st'->r.size=a.size+b.size->Al Gd r->Q r st'):wpS (model prog w) A E s (mergeHiB a b) Q st:=by
 have dn:∀out na nb,na<=a.size->nb<=b.size->out.size+na+nb=a.size+b.size->Al Gd out->(a.extract 0 na++b.extract 0 nb++out.reverse).size=a.size+b.size/\Al Gd (a.extract 0 na++b.extract 0 nb++out.reverse):=fun out na nb h1 h2 h3 h4=>
  ⟨by rw[Array.size_append,Array.size_append,zbe _ _ _ h1,zbe _ _ _ h2,Array.size_reverse];omega,((ga.ext _ _).app (gb.ext _ _)).app h4.rev⟩
 have fb:∀out na nb,na<=a.size->nb<=b.size->out.size+na+nb=a.size+b.size->Al Gd out->(b.extract 0 nb++a.extract 0 na++out.reverse).size=a.size+b.size/\Al Gd (b.extract 0 nb++a.extract 0 na++out.reverse):=fun out na nb h1 h2 h3 h4=>
  ⟨by rw[Array.size_append,Array.size_append,zbe _ _ _ h1,zbe _ _ _ h2,Array.size_reverse];omega,((gb.ext _ _).app (ga.ext _ _)).app h4.rev⟩
 refine wpS_bind (wpS_lift (wpAny_rule ⟨rfl,?_⟩))
 dsimp only
 have hla:a.size-1<a.size:=by omega
 refine wpS_bind (zap hla ?_)
 have s0:(#[a[a.size-1]]:Array Keyed).size=1:=rfl
 have g0:Al Gd #[a[a.size-1]]:= .one (ga _ _)
 by_cases e1:(a.size-1==0)=true
 ·rw[if_pos e1]
  refine wpS_pure ?_
  have z:=dn #[a[a.size-1]] (a.size-1) b.size (by omega) (by omega) (by omega) g0
  exact h _ _ (Sv.refl _) z.1 z.2
 rw[if_neg e1]
 by_cases e2:(b.size==1)=true
 ·rw[if_pos e2]
  have z:=fb #[a[a.size-1]] (a.size-1) b.size (by omega) (by omega) (by omega) g0
  exact wpS_pure (h _ _ (Sv.refl _) z.1 z.2)
 rw[if_neg e2]
 have e1':=mt beq_iff_eq.mpr e1
 have e2':=mt beq_iff_eq.mpr e2
 refine wpS_bind (wpS_get ?_)
 refine wpS_bind (wpS_mono (wpS_forRange (I:=fun i c st'=>Sv st st'/\∃na nb out mg,c=(none,na,nb,out,mg)/\0<na/\na<=a.size/\1<nb/\nb<=b.size/\out.size+na+nb=a.size+b.size/\Al Gd out/\i<=out.size)
  (Q:=fun c st'=>Sv st st'/\∃r rest,c=(some r,rest)/\r.size=a.size+b.size/\Al Gd r) ?step ?fin ⟨Sv.refl _,_,_,_,_,rfl,by omega,by omega,by omega,by omega,by omega,g0,by omega⟩) ?post)
 case fin=>
  rintro c st' ⟨_,na,nb,out,mg,rfl,n1,n2,n3,n4,n5,n6,n7⟩
  omega
 case post=>
  rintro c st' ⟨sv,r,rest,rfl,z1,z2⟩
  exact wpS_pure (h _ _ sv z1 z2)
 case step=>
  rintro i c st1 _ _ ⟨sv1,na,nb,out,mg,rfl,n1,n2,n3,n4,n5,n6,n7⟩
  dsimp only
  refine wpS_bind (wpS_mono (wpS_forRange (I:=fun x c st'=>Sv st st'/\∃na nb out ac bc,c=(none,na,nb,out,ac,bc)/\0<na/\na<=a.size/\1<nb/\nb<=b.size/\out.size+na+nb=a.size+b.size/\Al Gd out/\i+x<=out.size)
   (Q:=fun c st'=>Sv st st'/\((∃r rest,c=(some r,rest)/\r.size=a.size+b.size/\Al Gd r)\/∃na nb out ac bc,c=(none,na,nb,out,ac,bc)/\0<na/\na<=a.size/\1<nb/\nb<=b.size/\out.size+na+nb=a.size+b.size/\Al Gd out/\i+1<=out.size))
   ?step1 ?fin1 ⟨sv1,na,nb,out,0,0,rfl,n1,n2,n3,n4,n5,n6,n7⟩) ?post1)
  case fin1=>
   rintro c st' ⟨_,na,nb,out,ac,bc,rfl,n1,n2,n3,n4,n5,n6,n7⟩
   omega
  case step1=>
   rintro x c st2 _ _ ⟨sv2,na,nb,out,ac,bc,rfl,n1,n2,n3,n4,n5,n6,n7⟩
   dsimp only
   have hna:na-1<a.size:=by omega
   have hnb:nb-1<b.size:=by omega
   refine wpS_bind (zap hnb (wpS_bind (zap hna (wpS_bind (ans _ _ (gb _ _) (ga _ _) _ _ (sv2.kind.trans hk) fun bw=> ?_)))))
   cases bw with
   |true=>
    simp only[if_true]
    refine wpS_bind (zap hna ?_)
    have s1:(out.push a[na-1]).size=out.size+1:=Array.size_push _
    have g1:=n6.push (ga (na-1) hna)
    by_cases q1:(na-1==0)=true
    ·rw[if_pos q1]
     refine wpS_pure ⟨sv2,.inl ⟨_,_,rfl,?_⟩⟩
     refine dn _ _ _ ?_ ?_ ?_ g1<;>omega
    rw[if_neg q1]
    have q1':=mt beq_iff_eq.mpr q1
    by_cases q2:ac+1≥mg
    ·rw[if_pos q2];exact wpS_pure ⟨sv2,.inr ⟨_,_,_,_,_,rfl,by omega,by omega,n3,n4,by omega,g1,by omega⟩⟩
    ·rw[if_neg q2];exact wpS_pure ⟨sv2,_,_,_,_,_,rfl,by omega,by omega,n3,n4,by omega,g1,by omega⟩
   |false=>
    simp only[Bool.false_eq_true,if_false]
    refine wpS_bind (zap hnb ?_)
    have s1:(out.push b[nb-1]).size=out.size+1:=Array.size_push _
    have g1:=n6.push (gb (nb-1) hnb)
    by_cases q1:(nb-1==1)=true
    ·rw[if_pos q1]
     refine wpS_pure ⟨sv2,.inl ⟨_,_,rfl,?_⟩⟩
     refine fb _ _ _ ?_ ?_ ?_ g1<;>omega
    rw[if_neg q1]
    have q1':=mt beq_iff_eq.mpr q1
    by_cases q2:bc+1≥mg
    ·rw[if_pos q2];exact wpS_pure ⟨sv2,.inr ⟨_,_,_,_,_,rfl,n1,n2,by omega,by omega,by omega,g1,by omega⟩⟩
    ·rw[if_neg q2];exact wpS_pure ⟨sv2,_,_,_,_,_,rfl,n1,n2,by omega,by omega,by omega,g1,by omega⟩
  case post1=>
   rintro c st2 ⟨sv2,⟨r,rest,rfl,z1,z2⟩|⟨na,nb,out,ac,bc,rfl,n1,n2,n3,n4,n5,n6,n7⟩⟩
   ·exact wpS_pure ⟨sv2,r,_,rfl,z1,z2⟩
   dsimp only
   refine wpS_bind (wpS_lift (wpAny_rule ⟨rfl,?_⟩))
   refine wpS_bind (wpS_mono (wpS_forRange (I:=fun x c st'=>Sv st st'/\∃na nb out mg ac bc,c=(none,na,nb,out,mg,ac,bc)/\0<na/\na<=a.size/\1<nb/\nb<=b.size/\out.size+na+nb=a.size+b.size/\Al Gd out/\i+1<=out.size)
    (Q:=fun c st'=>Sv st st'/\((∃r rest,c=(some r,rest)/\r.size=a.size+b.size/\Al Gd r)\/∃na nb out mg ac bc,c=(none,na,nb,out,mg,ac,bc)/\0<na/\na<=a.size/\1<nb/\nb<=b.size/\out.size+na+nb=a.size+b.size/\Al Gd out/\i+1<=out.size))
    ?step2 (fun _ _ q=>⟨q.1,.inr q.2⟩) ⟨sv2,na,nb,out,_,_,_,rfl,n1,n2,n3,n4,n5,n6,n7⟩) ?post2)
   case post2=>
    rintro c st3 ⟨sv3,⟨r,rest,rfl,z1,z2⟩|⟨na,nb,out,mg,ac,bc,rfl,n1,n2,n3,n4,n5,n6,n7⟩⟩
    ·exact wpS_pure ⟨sv3,r,_,rfl,z1,z2⟩
    ·dsimp only
     exact wpS_bind (setG_in sv3 fun st4 sv4=>wpS_pure ⟨sv4,na,nb,out,_,rfl,n1,n2,n3,n4,n5,n6,by omega⟩)
   case step2=>
    clear n1 n2 n3 n4 n5 n6 n7 sv2 sv1
    rintro x c st3 _ _ ⟨sv3,na,nb,out,mg,ac,bc,rfl,n1,n2,n3,n4,n5,n6,n7⟩
    dsimp only
    have hna:na-1<a.size:=by omega
    have hnb:nb-1<b.size:=by omega
    by_cases hmg:mg>1
    case' pos=>rw[if_pos hmg]
    case' neg=>rw[if_neg hmg]
    all_goals
     refine wpS_bind (setG_in sv3 fun st4 sv4=> ?_)
     refine wpS_bind (zap hnb ?_)
     refine wpS_bind (zcc ans (sv4.kind.trans hk) (gb _ _) ga (by omega) (by omega) fun k hkk=> ?_)
     dsimp only
     by_cases hk0:na-k>0
     case' pos=>
      rw[if_pos hk0]
      have s1:(out++(a.extract k na).reverse).size=out.size+(na-k):=by rw[Array.size_append,Array.size_reverse,zbe _ _ _ n2]
      have g1:Al Gd (out++(a.extract k na).reverse):=n6.app (ga.ext _ _).rev
      by_cases q1:(k==0)=true
      ·rw[if_pos q1]
       refine wpS_pure ⟨sv4,.inl ⟨_,_,rfl,?_⟩⟩
       refine dn _ _ _ ?_ ?_ ?_ g1<;>omega
      rw[if_neg q1]
      have q1':=mt beq_iff_eq.mpr q1
      generalize out++(a.extract k na).reverse=O at *
      have m1:0<k/\k<=a.size/\O.size+k+nb=a.size+b.size/\i+1<=O.size:=by omega
     case' neg=>
      rw[if_neg hk0]
      have m1:0<na/\na<=a.size/\out.size+na+nb=a.size+b.size/\i+1<=out.size:=by omega
      have g1:=n6
     all_goals
      obtain⟨m1,m2,m3,m4⟩:=m1
      refine wpS_bind (zap hnb ?_)
      have g2:=g1.push (gb (nb-1) hnb)
      generalize hO2:Array.push _ b[nb-1]=O2 at *
      have s2:=congrArg Array.size hO2
      rw[Array.size_push]at s2
      by_cases q2:(nb-1==1)=true
      ·rw[if_pos q2]
       refine wpS_pure ⟨sv4,.inl ⟨_,_,rfl,?_⟩⟩
       refine fb _ _ _ ?_ ?_ ?_ g2<;>omega
      rw[if_neg q2]
      have q2':=mt beq_iff_eq.mpr q2
      have hna2:=Nat.lt_of_lt_of_le (Nat.sub_lt m1 Nat.one_pos) m2
      refine wpS_bind (zap hna2 ?_)
      refine wpS_bind (zcc ans (sv4.kind.trans hk) (ga _ _) gb (by omega) (by omega) fun k2 hkk2=> ?_)
      dsimp only
      by_cases hk2:nb-1-k2>0
      case' pos=>
       rw[if_pos hk2]
       have s3:(O2++(b.extract k2 (nb-1)).reverse).size=O2.size+(nb-1-k2):=by rw[Array.size_append,Array.size_reverse,zbe _ _ _ (by omega)]
       have g3:Al Gd (O2++(b.extract k2 (nb-1)).reverse):=g2.app (gb.ext _ _).rev
       by_cases q3:(k2==1)=true
       ·rw[if_pos q3]
        refine wpS_pure ⟨sv4,.inl ⟨_,_,rfl,?_⟩⟩
        refine fb _ _ _ ?_ ?_ ?_ g3<;>omega
       rw[if_neg q3]
       by_cases q4:(k2==0)=true
       ·rw[if_pos q4]
        refine wpS_pure ⟨sv4,.inl ⟨_,_,rfl,?_⟩⟩
        refine dn _ _ _ ?_ ?_ ?_ g3<;>omega
       rw[if_neg q4]
       have q3':=mt beq_iff_eq.mpr q3
       have q4':=mt beq_iff_eq.mpr q4
       generalize O2++(b.extract k2 (nb-1)).reverse=O3 at *
      case' neg=>
       rw[if_neg hk2]
       have g3:=g2
      all_goals
       refine wpS_bind (zap hna2 ?_)
       have g4:=g3.push (ga _ hna2)
       split
       ·next q5=>
        have q5':=eq_of_beq q5
        refine wpS_pure ⟨sv4,.inl ⟨_,_,rfl,?_⟩⟩
        refine dn _ _ _ ?_ ?_ ?_ g4<;>(try rw[Array.size_push])<;>omega
       ·next q5=>
        have q5':=mt beq_iff_eq.mpr q5
        split
        ·refine wpS_pure ⟨sv4,.inr ⟨_,_,_,_,_,_,rfl,?_,?_,?_,?_,?_,g4,?_⟩⟩<;>(try rw[Array.size_push])<;>omega
        ·refine wpS_pure ⟨sv4,_,_,_,_,_,_,rfl,?_,?_,?_,?_,?_,g4,?_⟩<;>(try rw[Array.size_push])<;>omega
end
end Bs
namespace Bs
open PySem PySem.W PyProof.Rows PySem.Calls
section
variable{prog:Program}{w:World}{A:Around}{E:Value->Shared->Prop}{s:Shared}{κ:SortKind}{Gd:Keyed->Prop}{N:Nat}{pp:Array (Nat×Nat×Nat)}{st:SortSt}
structure Iv(N:Nat)(κ:SortKind)(Gd:Keyed->Prop)(pp:Array (Nat×Nat×Nat))(st:SortSt):Prop where
 size:(arrOf st).size=N
 al:Al Gd (arrOf st)
 fail:failedOf st=none
 kind:kindOf st=κ
 pend:pendingOf st=pp
theorem Al.perm{xs ys:Array Keyed}(h:Al Gd xs)(p:ys.Perm xs):Al Gd ys:=fun i hi=>by
 have m:ys[i]∈ys.toList:=by simp
 have m2:=(Array.perm_iff_toList_perm.mp p).mem_iff.mp m
 obtain⟨j,hj,e⟩:=List.getElem_of_mem m2
 rw[<-e]
 exact h j (by simpa using hj)
theorem zde(ans:Ans prog w A E s κ Gd){i j:Nat}{Q:Option Bool->SortSt->Prop}(I:Iv N κ Gd pp st)(hi:i<N)(hj:j<N)(h:∀b,Q (some b) st):wpS (model prog w) A E s (ltAt' i j) Q st:=by
 rw[ltAt'_eq]
 refine wpS_bind (wpS_get ?_)
 have hi':i<(arrOf st).size:=by rw[I.size];exact hi
 have hj':j<(arrOf st).size:=by rw[I.size];exact hj
 exact wpS_bind (zap hi' (wpS_bind (zap hj' (ans _ _ (I.al _ _) (I.al _ _) _ _ I.kind h))))
theorem rev_in{i j:Nat}{Q:Unit->SortSt->Prop}(I:Iv N κ Gd pp st)(h:∀st',Iv N κ Gd pp st'->Q () st'):wpS (model prog w) A E s (reverseSlice' i j) Q st:=by
 rw[reverseSlice'_eq]
 exact wpS_modify (h _ ⟨(mirror_size _ _ _ _).trans I.size,I.al.perm (mirror_perm _ _ _ _),I.fail,I.kind,I.pend⟩)
theorem move_in{i j:Nat}{Q:Unit->SortSt->Prop}(I:Iv N κ Gd pp st)(h:∀st',Iv N κ Gd pp st'->Q () st'):wpS (model prog w) A E s (moveDown' i j) Q st:=by
 rw[moveDown'_eq]
 exact wpS_modify (h _ ⟨(bubble_size _ _ _).trans I.size,I.al.perm (bubble_perm _ _ _),I.fail,I.kind,I.pend⟩)
theorem bin_in(ans:Ans prog w A E s κ Gd){lo n ok:Nat}{Q:Bool->SortSt->Prop}(I:Iv N κ Gd pp st)(hn:lo+n<=N)(h:∀st',Iv N κ Gd pp st'->Q true st'):wpS (model prog w) A E s (binarySort' lo n ok) Q st:=by
 rw[binarySort'_eq]
 refine wpS_bind (wpS_mono (wpS_forRange (I:=fun _ c st'=>Iv N κ Gd pp st'/\c=(none,())) (Q:=fun c st'=>Iv N κ Gd pp st'/\c=(none,())) ?_ (fun _ _ q=>q) ⟨I,rfl⟩) ?_)
 ·rintro k c st1 _ hk ⟨I1,rfl⟩
  dsimp only
  refine wpS_bind (wpS_mono (wpS_forRange (I:=fun _ c st'=>Iv N κ Gd pp st'/\∃l r,c=(none,l,r)/\r<=k) (Q:=fun c st'=>Iv N κ Gd pp st'/\∃l r,c=(none,l,r)/\r<=k) ?_ (fun _ _ q=>q) ⟨I1,_,_,rfl,Nat.le_refl _⟩) ?_)
  ·rintro x c st2 _ _ ⟨I2,l,r,rfl,hr⟩
   dsimp only
   by_cases hl:l≥r
   ·rw[if_pos hl];exact wpS_pure ⟨I2,l,r,rfl,hr⟩
   rw[if_neg hl]
   refine wpS_bind (zde ans I2 (by omega) (by omega) fun b=> ?_)
   cases b with
   |true=>exact wpS_pure ⟨I2,_,_,rfl,by omega⟩
   |false=>exact wpS_pure ⟨I2,_,_,rfl,hr⟩
  ·rintro c st2 ⟨I2,l,r,rfl,hr⟩
   exact wpS_bind (move_in I2 fun st3 I3=>wpS_pure ⟨I3,rfl⟩)
 ·rintro c st1 ⟨I1,rfl⟩
  exact wpS_pure (h _ I1)
theorem count_in(ans:Ans prog w A E s κ Gd){lo nrem:Nat}{Q:Option Nat->SortSt->Prop}(I:Iv N κ Gd pp st)(h1:1<=nrem)(hn:lo+nrem<=N)(h:∀m st',1<=m->m<=nrem->Iv N κ Gd pp st'->Q (some m) st'):wpS (model prog w) A E s (countRun' lo nrem) Q st:=by
 rw[countRun'_eq]
 refine wpS_bind (wpS_mono (wpS_forRange (I:=fun x c st'=>Iv N κ Gd pp st'/\c=(none,x)) (Q:=fun c st'=>Iv N κ Gd pp st'/\∃n,c=(none,n)/\1<=n/\n<=nrem) ?_ ?_ ⟨I,rfl⟩) ?_)
 ·rintro x c st1 h1x hx ⟨I1,rfl⟩
  dsimp only
  refine wpS_bind (zde ans I1 (by omega) (by omega) fun b=> ?_)
  cases b with
  |true=>exact wpS_pure ⟨I1,_,rfl,h1x,by omega⟩
  |false=>exact wpS_pure ⟨I1,rfl⟩
 ·rintro c st1 ⟨I1,rfl⟩
  exact⟨I1,_,rfl,by omega,by omega⟩
 rintro c st1 ⟨I1,n,rfl,hn1,hn2⟩
 dsimp only
 by_cases e1:(n==nrem)=true
 ·rw[if_pos e1];exact wpS_pure (h _ _ hn1 hn2 I1)
 rw[if_neg e1]
 have e1':=mt beq_iff_eq.mpr e1
 by_cases e2:n>1
 case' pos=>
  rw[if_pos e2]
  refine wpS_bind (zde ans I1 (by omega) (by omega) fun b=> ?_)
  cases b
  case true=>exact wpS_pure (h _ _ hn1 hn2 I1)
  case' false=>
   simp only[Bool.false_eq_true,if_false]
   refine wpS_bind (rev_in I1 fun st1 I1=> ?_)
 case' neg=>rw[if_neg e2]
 all_goals
  refine wpS_bind (wpS_lift (wpAny_rule ⟨rfl,?_⟩))
  refine wpS_bind (wpS_mono (wpS_forRange (I:=fun x c st'=>Iv N κ Gd pp st'/\∃q,c=(none,x,q)) (Q:=fun c st'=>Iv N κ Gd pp st'/\∃n q,c=(none,n,q)/\1<=n/\n<=nrem) ?_ ?_ ⟨I1,_,rfl⟩) ?_)
  ·rintro x c st1 h1x hx ⟨I1,q,rfl⟩
   dsimp only
   refine wpS_bind (zde ans I1 (by omega) (by omega) fun b=> ?_)
   cases b with
   |true=>
    dsimp only
    simp only[if_true]
    by_cases hq:q>0
    ·rw[if_pos hq];exact wpS_bind (rev_in I1 fun st1 I1=>wpS_pure ⟨I1,_,rfl⟩)
    ·rw[if_neg hq];exact wpS_pure ⟨I1,_,rfl⟩
   |false=>
    dsimp only
    simp only[Bool.false_eq_true,if_false]
    refine wpS_bind (zde ans I1 (by omega) (by omega) fun b=> ?_)
    cases b with
    |true=>exact wpS_pure ⟨I1,_,_,rfl,by omega,by omega⟩
    |false=>exact wpS_pure ⟨I1,_,rfl⟩
  ·rintro c st1 ⟨I1,q,rfl⟩
   exact⟨I1,_,_,rfl,by omega,by omega⟩
  rintro c st1 ⟨I1,n,q,rfl,hn1,hn2⟩
  dsimp only
  by_cases hq:q>0
  case' pos=>
   rw[if_pos hq]
   refine wpS_bind (rev_in I1 fun st1 I1=> ?_)
  case' neg=>rw[if_neg hq]
  all_goals
   refine wpS_bind (rev_in I1 fun st1 I1=> ?_)
   refine wpS_bind (wpS_mono (wpS_forRange (I:=fun x c st'=>Iv N κ Gd pp st'/\c=(none,x)) (Q:=fun c st'=>Iv N κ Gd pp st'/\∃n,c=(none,n)/\1<=n/\n<=nrem) ?_ ?_ ⟨I1,rfl⟩) ?_)
   ·rintro x c st1 h1x hx ⟨I1,rfl⟩
    dsimp only
    refine wpS_bind (zde ans I1 (by omega) (by omega) fun b=> ?_)
    cases b with
    |true=>exact wpS_pure ⟨I1,_,rfl,by omega,by omega⟩
    |false=>exact wpS_pure ⟨I1,rfl⟩
   ·rintro c st1 ⟨I1,rfl⟩
    exact⟨I1,_,rfl,by omega,by omega⟩
   rintro c st1 ⟨I1,n,rfl,hn1,hn2⟩
   exact wpS_pure (h _ _ hn1 hn2 I1)
end
end Bs
namespace Bs
open PySem PySem.W PyProof.Rows PySem.Calls
noncomputable def Cont:Nat->List (Nat×Nat×Nat)->Nat->Prop
 |s,[],e=>s=e
 |s,(a,n,_)::r,e=>a=s/\1<=n/\Cont (s+n) r e
theorem Cont.le:∀{l:List (Nat×Nat×Nat)} {s e:Nat},Cont s l e->s<=e
 |[],_,_,h=>Nat.le_of_eq h
 |(_,n,_)::r,s,e,h=>Nat.le_trans (Nat.le_add_right s n) (Cont.le (l:=r) h.2.2)
theorem Cont.two:∀{l:List (Nat×Nat×Nat)} {s e i sa na p sb nb q:Nat},Cont s l e->l[i]? =some (sa,na,p)->l[i+1]? =some (sb,nb,q)->sb=sa+na/\1<=na/\1<=nb/\sb+nb<=e/\Cont s ((l.set i (sa,na+nb,p)).eraseIdx (i+1)) e
 |[],_,_,_,_,_,_,_,_,_,_,h1,_=>by simp at h1
 |[_],_,_,0,_,_,_,_,_,_,_,_,h2=>by simp at h2
 |(a,n,x)::(b,m,y)::r,s,e,0,sa,na,p,sb,nb,q,h,h1,h2=>by
  simp at h1 h2
  obtain⟨rfl,rfl,rfl⟩:=h1
  obtain⟨rfl,rfl,rfl⟩:=h2
  obtain⟨rfl,hn,rfl,hm,hr⟩:=h
  exact⟨rfl,hn,hm,Cont.le hr,rfl,by omega,by rw[<-Nat.add_assoc];exact hr⟩
 |(a,n,x)::r,s,e,i+1,sa,na,p,sb,nb,q,h,h1,h2=>by
  obtain⟨rfl,hn,hr⟩:=h
  obtain⟨z1,z2,z3,z4,z5⟩:=Cont.two (l:=r) (i:=i) hr (by simpa using h1) (by simpa using h2)
  exact⟨z1,z2,z3,z4,rfl,hn,z5⟩
theorem Cont.snoc{x:Nat}:∀{l:List (Nat×Nat×Nat)} {s e n:Nat},Cont s l e->1<=n->Cont s (l++[(e,n,x)]) (e+n)
 |[],_,_,_,h,hn=>⟨h.symm,hn,by rw[show _=_ from h];rfl⟩
 |(_,_,_)::r,_,_,_,h,hn=>⟨h.1,h.2.1,Cont.snoc (l:=r) h.2.2 hn⟩
theorem Cont.pw{f:Nat×Nat×Nat->Nat×Nat×Nat}(hf:∀a n x,∃y,f (a,n,x)=(a,n,y)):∀{l:List (Nat×Nat×Nat)} {s e i:Nat},Cont s l e->Cont s (l.modify i f) e
 |[],_,_,_,h=>by simpa using h
 |(a,n,x)::r,s,e,0,h=>by
  obtain⟨y,hy⟩:=hf a n x
  show Cont s (f (a,n,x)::r) e
  rw[hy];exact h
 |(a,n,x)::r,s,e,i+1,h=>⟨h.1,h.2.1,Cont.pw hf (l:=r) (i:=i) h.2.2⟩
section
variable{prog:Program}{w:World}{A:Around}{E:Value->Shared->Prop}{s:Shared}{κ:SortKind}{Gd:Keyed->Prop}{N:Nat}{pp:Array (Nat×Nat×Nat)}{st:SortSt}
theorem wpS_set{σ:Type}{M:Model}{x:σ}{Q:PUnit->σ->Prop}{st:σ}(h:Q ⟨⟩ x):wpS M A E s (set x:StateT σ Sem PUnit) Q st:=by
 unfold wpS;rw[StateT.run_set];exact wpAny_pure ⟨rfl,h⟩
theorem fold_in(sa:Nat):∀(l:List (Keyed×Nat)) (xs:Array Keyed),Al Gd xs->(∀p∈l,Gd p.1)->Al Gd (l.foldl (fun a x=>a.setIfInBounds (sa+x.2) x.1) xs)/\(l.foldl (fun a x=>a.setIfInBounds (sa+x.2) x.1) xs).size=xs.size
 |[],xs,h,_=>⟨h,rfl⟩
 |(p,j)::l,xs,h,hl=>by
  have z:=fold_in sa l (xs.setIfInBounds (sa+j) p) (fun i hi=>by
   rw[Array.getElem_setIfInBounds]
   ·split
    ·exact hl _ List.mem_cons_self
    ·exact h _ _
   ·simpa using hi) fun q hq=>hl q (List.mem_cons_of_mem _ hq)
  exact⟨z.1,z.2.trans (by simp)⟩
theorem zdd(ans:Ans prog w A E s κ Gd){i lo:Nat}{Q:Bool->SortSt->Prop}(I:Iv N κ Gd pp st)(hc:Cont 0 pp.toList lo)(hlo:lo<=N)(hi:i+1<pp.size)(h:∀pp' st',Iv N κ Gd pp' st'->Cont 0 pp'.toList lo->Q true st'):wpS (model prog w) A E s (mergeAt' i) Q st:=by
 obtain⟨⟨sa,na,pa⟩,e1⟩:∃x,pp[i]? =some x:=⟨_,Array.getElem?_eq_getElem (by omega)⟩
 obtain⟨⟨sb,nb,pb⟩,e2⟩:∃x,pp[i+1]? =some x:=⟨_,Array.getElem?_eq_getElem hi⟩
 obtain⟨rfl,z2,z3,z4,z5⟩:=hc.two (by rw[Array.getElem?_toList];exact e1) (by rw[Array.getElem?_toList];exact e2)
 have z5':Cont 0 ((pp.setIfInBounds i (sa,na+nb,pa)).eraseIdxIfInBounds (i+1)).toList lo:=by
  rw[Array.toList_eraseIdxIfInBounds,Array.toList_setIfInBounds];exact z5
 refine wpS_bind (wpS_get ?_)
 have e1':(pendingOf st)[i]? =some (sa,na,pa):=by rw[I.pend];exact e1
 have e2':(pendingOf st)[i+1]? =some (sa+na,nb,pb):=by rw[I.pend];exact e2
 rw[e1',e2']
 dsimp only
 refine wpS_bind (wpS_set ?_)
 have J:Iv N κ Gd ((pp.setIfInBounds i (sa,na+nb,pa)).eraseIdxIfInBounds (i+1)) (setPending st (((pendingOf st).setIfInBounds i (sa,na+nb,pa)).eraseIdxIfInBounds (i+1))):=
  ⟨I.size,I.al,I.fail,I.kind,by rw[<-I.pend]⟩
 have hsz:=I.size
 have hsb:sa+na<(arrOf st).size:=by omega
 refine wpS_bind (zap hsb ?_)
 refine wpS_bind (zcc ans J.kind (I.al _ _) I.al (show sa+na<=(arrOf st).size by omega) (by omega) fun k hk=> ?_)
 dsimp only
 by_cases q1:(na-k==0)=true
 ·rw[if_pos q1];exact wpS_pure (h _ _ J z5')
 rw[if_neg q1]
 have q1':=mt beq_iff_eq.mpr q1
 have hx:sa+k+(na-k)-1<(arrOf st).size:=by omega
 refine wpS_bind (zap hx ?_)
 refine wpS_bind (zcc ans J.kind (I.al _ _) I.al (show sa+na+nb<=(arrOf st).size by omega) (by omega) fun k2 hk2=> ?_)
 dsimp only
 by_cases q2:(k2==0)=true
 ·rw[if_pos q2];exact wpS_pure (h _ _ J z5')
 rw[if_neg q2]
 have q2':=mt beq_iff_eq.mpr q2
 have sx:((arrOf st).extract (sa+k) (sa+na)).size=na-k:=by rw[zbe _ _ _ (by omega)];omega
 have sy:((arrOf st).extract (sa+na) (sa+na+k2)).size=k2:=by rw[zbe _ _ _ (by omega)];omega
 have fin:∀(r:Array Keyed) (st':SortSt),Sv (setPending st (((pendingOf st).setIfInBounds i (sa,na+nb,pa)).eraseIdxIfInBounds (i+1))) st'->Al Gd r->
   Iv N κ Gd ((pp.setIfInBounds i (sa,na+nb,pa)).eraseIdxIfInBounds (i+1)) (setArr st' (r.toList.zipIdx.foldl (fun a x=>a.setIfInBounds (sa+k+x.2) x.1) (arrOf st'))):=fun r st' sv gr=>by
  have z:=fold_in (Gd:=Gd) (sa+k) r.toList.zipIdx (arrOf st') (by rw[sv.arr];exact I.al) fun p hp=>by
   obtain⟨x,j⟩:=p
   have m:=List.fst_mem_of_mem_zipIdx hp
   obtain⟨t,ht,e⟩:=List.getElem_of_mem m
   rw[<-e]
   exact gr t (by simpa using ht)
  exact⟨z.2.trans ((congrArg Array.size sv.arr).trans J.size),z.1,sv.fail.trans J.fail,sv.kind.trans J.kind,sv.pend.trans J.pend⟩
 by_cases q3:na-k<=k2
 ·rw[if_pos q3]
  refine wpS_bind (mergeLo_in ans J.kind (I.al.ext _ _) (I.al.ext _ _) (show 0<((arrOf st).extract (sa+k) (sa+na)).size by rw[sx];omega) (show 0<((arrOf st).extract (sa+na) (sa+na+k2)).size by rw[sy];omega) fun r st' sv _ gr=> ?_)
  refine wpS_bind (wpS_modify (wpS_bind (wpS_get ?_)))
  have F:=fin r st' sv gr
  refine wpS_pure ?_
  have ff:(failedOf (setArr st' (r.toList.zipIdx.foldl (fun a x=>a.setIfInBounds (sa+k+x.2) x.1) (arrOf st')))).isNone=true:=by rw[F.fail];rfl
  have:=h _ _ F z5'
  rw[<-ff]at this
  exact this
 ·rw[if_neg q3]
  refine wpS_bind (mergeHi_in ans J.kind (I.al.ext _ _) (I.al.ext _ _) (show 0<((arrOf st).extract (sa+k) (sa+na)).size by rw[sx];omega) (show 0<((arrOf st).extract (sa+na) (sa+na+k2)).size by rw[sy];omega) fun r st' sv _ gr=> ?_)
  refine wpS_bind (wpS_modify (wpS_bind (wpS_get ?_)))
  have F:=fin r st' sv gr
  refine wpS_pure ?_
  have ff:(failedOf (setArr st' (r.toList.zipIdx.foldl (fun a x=>a.setIfInBounds (sa+k+x.2) x.1) (arrOf st')))).isNone=true:=by rw[F.fail];rfl
  have:=h _ _ F z5'
  rw[<-ff]at this
  exact this
theorem runs_in(ans:Ans prog w A E s κ Gd){Q:Unit->SortSt->Prop}(I:Iv N κ Gd #[] st)(h:∀st',(arrOf st').size=N->Al Gd (arrOf st')->failedOf st'=none->Q () st'):wpS (model prog w) A E s sortRuns' Q st:=by
 rw[sortRuns'_eq]
 refine wpS_bind (wpS_get ?_)
 dsimp only
 simp only[I.size]
 generalize minRun' N N 0=mr
 have K:∀{pp:Array (Nat×Nat×Nat)} {st':SortSt} {lo n:Nat},Iv N κ Gd pp st'->Cont 0 pp.toList lo->1<=n->Iv N κ Gd (pp.push (lo,n,0)) (setPending st' ((pendingOf st').push (lo,n,0)))/\Cont 0 (pp.push (lo,n,0)).toList (lo+n):=fun I hc hn=>
  ⟨⟨I.size,I.al,I.fail,I.kind,by rw[<-I.pend]⟩,by rw[Array.toList_push];exact hc.snoc hn⟩
 refine wpS_bind (wpS_mono (wpS_forRange
  (I:=fun x c st'=>∃(lo:Nat) (pp:Array (Nat×Nat×Nat)),c=(none,lo)/\lo<=N/\Cont 0 pp.toList lo/\Iv N κ Gd pp st')
  (Q:=fun c st'=>∃(lo:Nat) (pp:Array (Nat×Nat×Nat)),c=(none,lo)/\lo<=N/\Cont 0 pp.toList lo/\Iv N κ Gd pp st') ?step (fun _ _ q=>q) ⟨0,#[],rfl,Nat.zero_le _,(rfl:Cont 0 [] 0),I⟩) ?post)
 case step=>
  rintro x c st1 _ hx ⟨lo,pp,rfl,hlo,hc,I1⟩
  dsimp only
  by_cases q0:lo≥N
  ·rw[if_pos q0];exact wpS_pure ⟨lo,pp,rfl,hlo,hc,I1⟩
  rw[if_neg q0]
  refine wpS_bind (count_in ans I1 (by omega) (by omega) fun m st2 hm1 hm2 I2=> ?_)
  dsimp only
  by_cases q1:m<mr
  case' pos=>
   rw[if_pos q1]
   refine wpS_bind (wpS_lift (wpAny_rule ⟨rfl,?_⟩))
   refine wpS_bind (bin_in ans I2 (by omega) fun st2 I2=> ?_)
   simp only[Bool.not_true,Bool.false_eq_true,if_false]
   have hn:1<=min (N-lo) mr/\lo+min (N-lo) mr<=N:=by omega
   generalize min (N-lo) mr=n at *
  case' neg=>
   rw[if_neg q1]
   have hn:1<=m/\lo+m<=N:=by omega
   generalize m=n at *
  all_goals
   refine wpS_bind (wpS_get ?_)
   cases hb:(pendingOf st2).back? with
   |none=>
    dsimp only
    refine wpS_bind (wpS_modify (wpS_pure ?_))
    have z:=K I2 hc hn.1
    exact⟨_,_,rfl,hn.2,z.2,z.1⟩
   |some b=>
    obtain⟨s1,n1,p1⟩:=b
    dsimp only
    generalize power' N _ _ N=pw
    refine wpS_bind (wpS_mono (wpS_forRange
     (I:=fun x c st'=>∃pp,c=(none,())/\Cont 0 pp.toList lo/\Iv N κ Gd pp st')
     (Q:=fun c st'=>∃pp,c=(none,())/\Cont 0 pp.toList lo/\Iv N κ Gd pp st') ?_ (fun _ _ q=>q) ⟨pp,rfl,hc,I2⟩) ?_)
    ·rintro x c st3 _ _ ⟨pp3,rfl,hc3,I3⟩
     refine wpS_bind (wpS_get ?_)
     split
     ·next a b old e=>
      split
      ·exact wpS_pure ⟨pp3,rfl,hc3,I3⟩
      ·have hs:1<(pendingOf st3).size:=by
        by_cases q:(pendingOf st3).size>1
        ·exact q
        ·rw[if_neg q]at e;cases e
       have hs':(pendingOf st3).size-2+1<pp3.size:=by rw[<-I3.pend];omega
       refine wpS_bind (zdd ans I3 hc3 hlo hs' fun pp4 st4 I4 hc4=> ?_)
       simp only[Bool.not_true,Bool.false_eq_true,if_false]
       exact wpS_pure ⟨pp4,rfl,hc4,I4⟩
     ·exact wpS_pure ⟨pp3,rfl,hc3,I3⟩
    ·rintro c st3 ⟨pp3,rfl,hc3,I3⟩
     dsimp only
     refine wpS_bind (wpS_modify ?_)
     refine wpS_bind (wpS_modify (wpS_pure ?_))
     have I4:Iv N κ Gd (pp3.modify (pp3.size-1) fun x=>(x.1,x.2.1,pw)) (setPending st3 ((pendingOf st3).modify ((pendingOf st3).size-1) fun x=>(x.1,x.2.1,pw))):=
      ⟨I3.size,I3.al,I3.fail,I3.kind,by rw[<-I3.pend]⟩
     have hc4:Cont 0 (pp3.modify (pp3.size-1) fun x=>(x.1,x.2.1,pw)).toList lo:=by
      rw[Array.toList_modify];exact hc3.pw fun a n x=>⟨pw,rfl⟩
     have z:=K I4 hc4 hn.1
     exact⟨_,_,rfl,hn.2,z.2,z.1⟩
 case post=>
  rintro c st1 ⟨lo,pp,rfl,hlo,hc,I1⟩
  dsimp only
  refine wpS_bind (wpS_mono (wpS_forRange (I:=fun _ c st'=>∃pp,c=(none,())/\Cont 0 pp.toList lo/\Iv N κ Gd pp st') (Q:=fun c st'=>∃pp,c=(none,())/\Cont 0 pp.toList lo/\Iv N κ Gd pp st') ?_ (fun _ _ hh=>hh) ⟨pp,rfl,hc,I1⟩) ?_)
  ·rintro x c st2 _ _ ⟨pp2,rfl,hc2,I2⟩
   refine wpS_bind (wpS_get ?_)
   by_cases q:(pendingOf st2).size<=1
   ·rw[if_pos q];exact wpS_pure ⟨pp2,rfl,hc2,I2⟩
   rw[if_neg q]
   have hz:=congrArg Array.size I2.pend
   split
   ·refine wpS_bind (zdd ans I2 hc2 hlo (by rw[<-hz];split<;>omega) fun pp4 st4 I4 hc4=> ?_)
    simp only[Bool.not_true,Bool.false_eq_true,if_false]
    exact wpS_pure ⟨pp4,rfl,hc4,I4⟩
   ·refine wpS_bind (zdd ans I2 hc2 hlo (by rw[<-hz];split<;>omega) fun pp4 st4 I4 hc4=> ?_)
    simp only[Bool.not_true,Bool.false_eq_true,if_false]
    exact wpS_pure ⟨pp4,rfl,hc4,I4⟩
  ·rintro c st2 ⟨pp2,rfl,hc2,I2⟩
   exact wpS_pure (h _ I2.size I2.al I2.fail)
end
end Bs
namespace Bs
open PySem PySem.W PyProof.Rows PySem.Calls
noncomputable def OutsB(vs out:List Value):Prop:=out.length=vs.length/\∀v∈out,v∈vs
theorem outsB_small{vs:List Value}:OutsB vs vs:=⟨rfl,fun _ h=>h⟩
section
variable{prog:Program}{w:World}{A:Around}{E:Value->Shared->Prop}{s:Shared}{O:KeyOrd}{key:Nat->O.α}{κ:SortKind}{vs:List Value}
theorem list_sort_big{a:Addr}{n:Nat}{P:PySem.Fin->Shared->Prop}(ho:s.heap.get? a=some (seqObj "list" vs.toArray n))(h64:vs.length<=5000)(hkind:2<=vs.length->∀h',(∀b o,b≠a->s.heap.get? b=some o->h'.get? b=some o)->∀Q:SortKind->Shared->Prop,Q κ {s with heap:=h'}->wpAny (model prog w) A (keyKind' vs.toArray) Q E {s with heap:=h'})(hask:2<=vs.length->∀h',(∀b o,b≠a->s.heap.get? b=some o->h'.get? b=some o)->Srt.AskOk O key vs.length (kas_ask prog w A κ vs) {s with heap:=h'})(h:∀h' out c,OutsB vs out->(∀b o,b≠a->s.heap.get? b=some o->h'.get? b=some o)->h'.get? a=some (seqObj "list" (List.toArray out) c)->P (.done (.ret .none)) {s with heap:=h'}):
  wpAny (model prog w) A (Builtin.«list.sort» ⟨[.ref a],[]⟩) P E s:=by
 have ha:a<s.heap.objs.size:=Heap.lt_size ho
 have s1:=Heap.SameBut.update s.heap a (Obj.mapSeq fun _=>(#[]:Array Value))
 obtain⟨e1,ho1⟩:∃e1,(s.heap.update a (Obj.mapSeq fun _=>(#[]:Array Value))).get? a=some (seqObj "list" #[] e1):=⟨_,get?_update_seq ho fun _=>#[]⟩
 have keep:∀b o,b≠a->s.heap.get? b=some o->(((s.heap.update a (Obj.mapSeq fun _=>(#[]:Array Value))).push (seqObj "tuple" vs.toArray 0)).push (seqObj "list" #[] 0)).get? b=some o:=fun b o hb e=>
  Heap.get?_push_of_some _ (Heap.get?_push_of_some _ ((s1.2 b hb).trans e))
 have ho6:(((s.heap.update a (Obj.mapSeq fun _=>(#[]:Array Value))).push (seqObj "tuple" vs.toArray 0)).push (seqObj "list" #[] 0)).get? a=some (seqObj "list" #[] e1):=Heap.get?_push_of_some _ (Heap.get?_push_of_some _ ho1)
 rw[list_sort_plain]
 refine wpAny_bind (listItems_at ho rfl ?_)
 refine wpAny_bind (listUpdate_at ho rfl ?_ (by rw[List.size_toArray,sizeLine_eq];omega) (Nat.zero_le _))
 refine wpAny_bind (seqEpoch_at ho1 rfl ?_)
 refine wpAny_bind (wpAny_newTuple ?_ (by show vs.length<=_;rw[sizeLine_eq];omega))
 refine wpAny_bind (wpAny_newList ?_ (Nat.zero_le _))
 refine wpAny_holding ?_
 show wpAny (model prog w) A _ P E {s with heap:=((s.heap.update a (Obj.mapSeq fun _=>(#[]:Array Value))).push (seqObj "tuple" vs.toArray 0)).push (seqObj "list" #[] 0)}
 dsimp only
 by_cases h2:vs.toArray.size<2
 ·have h2':vs.length<2:=by simpa using h2
  rw[if_pos h2,if_pos h2]
  refine wpAny_bind (wpAny_pure ?_)
  rw[StateT.run_pure]
  refine wpAny_bind (wpAny_pure ?_)
  dsimp only
  refine wpAny_bind (seqEpoch_at ho6 rfl ?_)
  refine wpAny_bind (listUpdate_at ho6 rfl ?_ (Nat.zero_le _) (by rw[Array.size_map];show(pairsOf vs).size<=_;rw[pairsOf_size,sizeLine_eq];omega))
  simp only[bne_self_eq_false,Bool.false_eq_true,if_false]
  refine wpAny_pure ?_
  have eo:(vs.toArray.zip vs.toArray).map (·.2)=List.toArray vs:=by
   apply Array.toList_inj.mp
   simp[List.map_snd_zip]
  have s2:=Heap.SameBut.update (((s.heap.update a (Obj.mapSeq fun _=>(#[]:Array Value))).push (seqObj "tuple" vs.toArray 0)).push (seqObj "list" #[] 0)) a (Obj.mapSeq fun _=>List.toArray vs)
  obtain⟨c2,hc2⟩:∃c2,((((s.heap.update a (Obj.mapSeq fun _=>(#[]:Array Value))).push (seqObj "tuple" vs.toArray 0)).push (seqObj "list" #[] 0)).update a (Obj.mapSeq fun _=>List.toArray vs)).get? a=some (seqObj "list" (List.toArray vs) c2):=⟨_,get?_update_seq ho6 fun _=>List.toArray vs⟩
  have fin:=h _ vs c2 (outsB_small) (fun b o hb e=>(s2.2 b hb).trans (keep b o hb e)) hc2
  first
   |exact fin
   |(rw[<-eo]at fin;exact fin)
   |(show P _ {s with heap:=Heap.update _ a (Obj.mapSeq fun _=>(vs.toArray.zip vs.toArray).map (·.2))};rw[eo];exact fin)
 ·have h2':2<=vs.length:=by rw[List.size_toArray]at h2;omega
  rw[if_neg h2,if_neg h2]
  refine wpAny_bind (hkind h2' _ keep _ ?_)
  have ha:=hask h2' _ keep
  generalize hS:({s with heap:=((s.heap.update a (Obj.mapSeq fun _=>(#[]:Array Value))).push (seqObj "tuple" vs.toArray 0)).push (seqObj "list" #[] 0)}:Shared)=S at *
  have an:Ans prog w A E S κ (fun x=>∃i,i<vs.length/\x=(vs.getD i Value.none,vs.getD i Value.none)):=by
   rintro x y ⟨i,hi,rfl⟩ ⟨j,hj,rfl⟩ st Q hk hq
   rw[lt'_eq]
   refine wpS_bind (wpS_get ?_)
   rw[hk]
   refine wpS_bind (wpS_lift (wpAny_attempt (wpAny_mono (ha i j (fun _ s'=>s'=S) hi hj rfl) (fun b s' e=> ?_) fun _ _ hF=>hF.elim)))
   exact⟨e,wpS_pure (hq b)⟩
  refine wpAny_bind (wpAny_mono (runs_in (N:=vs.length) (st:=SortSt.mk' κ (vs.toArray.zip vs.toArray) #[] 7 none) (Q:=fun _ st'=>(arrOf st').size=vs.length/\Al (fun x=>∃i,i<vs.length/\x=(vs.getD i Value.none,vs.getD i Value.none)) (arrOf st')/\failedOf st'=none) an
   ⟨by simp[arrOf],fun i hi=> ?_,rfl,rfl,rfl⟩ fun st' a1 a2 a3=>⟨a1,a2,a3⟩) ?_ fun _ _ e=>e)
  ·have hi':i<vs.length:=by simpa[arrOf]using hi
   exact⟨i,hi',by show(vs.toArray.zip vs.toArray)[i]'hi=_;simp[hi']⟩
  rintro⟨⟨⟩,st'⟩ s' ⟨rfl,z1,z2,hf⟩
  dsimp only at z1 z2 hf⊢
  subst hS
  obtain⟨out,hout,hol,hom⟩:∃out:List Value,(arrOf st').map (·.2)=List.toArray out/\out.length=vs.length/\∀v∈out,v∈vs:=by
   refine⟨((arrOf st').map (·.2)).toList,Array.toArray_toList.symm,by simp[z1],fun v hv=> ?_⟩
   obtain⟨t,ht,e⟩:=List.getElem_of_mem hv
   have ht':t<(arrOf st').size:=by simpa using ht
   obtain⟨i,hi,hx⟩:=z2 t ht'
   have e2:v=(arrOf st')[t].2:=by rw[<-e];simp
   rw[e2,hx]
   show vs.getD i Value.none∈vs
   rw[List.getD_eq_getElem?_getD,List.getElem?_eq_getElem hi]
   exact List.getElem_mem _
  have hsz:(List.toArray out).size=vs.length:=by rw[List.size_toArray,hol]
  rw[hout]
  refine wpAny_bind (seqEpoch_at ho6 rfl ?_)
  refine wpAny_bind (listUpdate_at ho6 rfl ?_ (Nat.zero_le _) (Nat.le_trans (Nat.le_of_eq hsz) (by rw[sizeLine_eq];omega)))
  rw[hf]
  simp only[bne_self_eq_false,Bool.false_eq_true,if_false]
  have s2:=Heap.SameBut.update (((s.heap.update a (Obj.mapSeq fun _=>(#[]:Array Value))).push (seqObj "tuple" vs.toArray 0)).push (seqObj "list" #[] 0)) a (Obj.mapSeq fun _=>List.toArray out)
  obtain⟨c2,hc2⟩:∃c2,((((s.heap.update a (Obj.mapSeq fun _=>(#[]:Array Value))).push (seqObj "tuple" vs.toArray 0)).push (seqObj "list" #[] 0)).update a (Obj.mapSeq fun _=>List.toArray out)).get? a=some (seqObj "list" (List.toArray out) c2):=⟨_,get?_update_seq ho6 fun _=>_⟩
  exact wpAny_pure (h _ _ c2 ⟨hol,hom⟩ (fun b o hb e=>(s2.2 b hb).trans (keep b o hb e)) hc2)
theorem sorted_big{l:Addr}{Q:Value->Shared->Prop}(hl:s.heap.IsList l vs.toArray)(h64:vs.length<=5000)(hkind:2<=vs.length->∀h',(∀b o,s.heap.get? b=some o->h'.get? b=some o)->∀(E:Value->Shared->Prop) (Q:SortKind->Shared->Prop),Q κ {s with heap:=h'}->wpAny (model prog w) A.in1.in1 (keyKind' vs.toArray) Q E {s with heap:=h'})(hask:2<=vs.length->∀h',(∀b o,s.heap.get? b=some o->h'.get? b=some o)->Srt.AskOk O key vs.length (kas_ask prog w A.in1.in1 κ vs) {s with heap:=h'})(h:∀D h' out c,OutsB vs out->s.heap.objs.size<=D->(∀b o,s.heap.get? b=some o->h'.get? b=some o)->h'.get? D=some (seqObj "list" (List.toArray out) c)->Q (.ref D) {s with heap:=h'}):
  wpAny (model prog w) A (call (.builtin "sorted") [.ref l]) Q E s:=by
 refine Calls.call_function_entry kind_sorted plain_sorted entry_sorted (args_sorted1 _) ?_
 unfold Builtin.«sorted»
 refine wpAny_bind (m:=checkCount "sorted" 1 1 _) (wpAny_pure ?_)
 refine wpAny_bind (collect_list hl ?_ (by rw[sizeLine_eq];omega))
 refine wpAny_bind (wpAny_newList ?_ (by rw[sizeLine_eq];omega))
 have hsz:((s.heap.push (seqObj "list" #[] 0)).update s.heap.objs.size (Obj.mapSeq (· ++vs.toArray))).objs.size=s.heap.objs.size+1:=by
  rw[Heap.size_update,size_push']
 have hoL:(((s.heap.push (seqObj "list" #[] 0)).update s.heap.objs.size (Obj.mapSeq (· ++vs.toArray))).push (seqObj "list" vs.toArray 0)).get? (s.heap.objs.size+1)=some (seqObj "list" vs.toArray 0):=by
  rw[<-hsz];exact Heap.get?_push_size _ rfl
 have keep:∀b o,s.heap.get? b=some o->(((s.heap.push (seqObj "list" #[] 0)).update s.heap.objs.size (Obj.mapSeq (· ++vs.toArray))).push (seqObj "list" vs.toArray 0)).get? b=some o:=fun b o q=>by
  have hlt:b<s.heap.objs.size:=Heap.lt_size q
  rw[Heap.get?_push_ne _ _ _ (by rw[hsz];exact Nat.ne_of_lt (Nat.lt_succ_of_lt hlt)),Heap.get?_update_ne _ _ _ _ (Nat.ne_of_lt hlt),Heap.get?_push_ne _ _ _ (Nat.ne_of_lt hlt)]
  exact q
 have ne:∀b o,s.heap.get? b=some o->b≠s.heap.objs.size+1:=fun b o q=>Nat.ne_of_lt (Nat.lt_succ_of_lt (Heap.lt_size q))
 show wpAny _ _ _ _ _ {s with heap:=((s.heap.push (seqObj "list" #[] 0)).update s.heap.objs.size (Obj.mapSeq (· ++vs.toArray))).push (seqObj "list" vs.toArray 0)}
 rw[hsz]
 refine wpAny_bind (wpAny_holding (wpAny_call_entry slot_list_sort ⟨_,hoL,rfl⟩ entry_list_sort ?body (args_list_sort _)))
 case body=>
  refine list_sort_big (key:=key) (κ:=κ) (s:={s with heap:=((s.heap.push (seqObj "list" #[] 0)).update s.heap.objs.size (Obj.mapSeq (· ++vs.toArray))).push (seqObj "list" vs.toArray 0)}) hoL h64
   (fun h2 h' k Q hq=>hkind h2 h' (fun b o q=>k b o (ne b o q) (keep b o q)) _ Q hq) (fun h2 h' k=>hask h2 h' fun b o q=>k b o (ne b o q) (keep b o q)) fun h' out c ho k hc=> ?_
  exact⟨_,rfl,wpAny_pure ⟨_,rfl,h _ h' out c ho (Nat.le_succ _) (fun b o q=>k b o (ne b o q) (keep b o q)) hc⟩⟩
end
end Bs
namespace L2
open PySem PySem.Spec PyProof.Rows PySem.W
section
variable{X:Cx}
theorem zdj:CallR X (.builtin "sorted") (fun xs H Q=>∃(a:Addr) (its:List (Addr×List Int)),xs=[.ref a]/\SqL X.K H a (its.map fun p=>V.ref p.1)/\(∀p∈its,SqT X.K H p.1 (p.2.map V.int)/\p.2≠[])/\its.length<=1000/\
  ∀(l:Addr) (its':List (Addr×List Int)),H l=none->its'.length=its.length->(∀p∈its',p∈its)->Q (.ref l) (upd H l (.lst (its'.map fun p=>V.ref p.1)))):=by
 intro pins s σ H xs us Q I r h
 obtain⟨a,its,rfl,hS,hT,h64,q⟩:=h
 obtain⟨u,rfl,ru⟩:=r.one
 cases ru
 obtain⟨vs,rv,pl,hz⟩:=I.list hS
 have hlen:its.length=vs.length:=by have:=rv.length;simpa using this
 -- the values beside the tuples
 have pr:Paired (fun(p:Addr×List Int) (v:Value)=>v= .ref p.1) its vs:=by
  have go:∀(l:List (Addr×List Int)) (us:List Value),Vals (l.map fun p=>V.ref p.1) us->Paired (fun(p:Addr×List Int) (v:Value)=>v= .ref p.1) l us:=by
   intro l
   induction l with
   |nil=>intro us h;cases h;exact .nil
   |cons p l ih=>
    intro us h
    cases h with
    |cons r t=>exact .cons r (ih _ t)
  exact go its vs rv
 have tup:∀p∈its,∃(items:List Value),IntsAre items p.2/\IsTup s.heap p.1 items.toArray:=fun p hp=>by
  obtain⟨its',r',t',_⟩:=I.tuple (hT p hp).1
  exact⟨its',intsAre_of r',t'⟩
 refine Bs.sorted_big (O:=Srt.lexOrd) (key:=fun i=>(its.getD i (0,[])).2) (κ:=tuples' true) (s:=s) pl.isList (by omega) (fun h2 h' k E' Q' hq=> ?_) (fun h2 h' k=> ?_) (fun D h' out c ho hD k hc=> ?_)
 ·have kt:∀(l:List (Addr×List Int)) (us:List Value),Paired (fun(p:Addr×List Int) (v:Value)=>v= .ref p.1) l us->(∀p∈l,p∈its)->∃fs:List Value,KatTups h' us fs/\fs.length=us.length/\∀v∈fs,∃i t,v=Value.int i t:=by
   intro l us h
   induction h with
   |nil=>intro _;exact⟨[],trivial,rfl,fun _ hv=>nomatch hv⟩
   | @cons p v l us r t ih=>
    intro hs
    obtain⟨fs,k1,k2,k3⟩:=ih fun p hp=>hs p (List.mem_cons_of_mem _ hp)
    obtain⟨items,hi,o,e,hc,n,hd⟩:=tup p (hs p List.mem_cons_self)
    have hne:=(hT p (hs p List.mem_cons_self)).2
    obtain⟨pa,pn⟩:=p
    dsimp only at hi hne e r
    cases hi with
    |nil=>exact absurd rfl hne
    |cons i t hi'=>
     rw[r]
     refine⟨Value.int i t::fs,KatTups.cons (k _ _ e) hc hd (by simp) k1,by simp[k2],fun v hv=> ?_⟩
     rcases List.mem_cons.mp hv with e|e
     ·exact⟨i,t,e⟩
     ·exact k3 v e
  obtain⟨fs,k1,k2,k3⟩:=kt its vs pr fun _ hp=>hp
  refine kat_kind (s:={s with heap:=h'}) (T:= .type "int") k1 (by omega) (fun v hv=> ?_) (by rfl) hq
  obtain⟨i,t,rfl⟩:=k3 v hv
  exact fun A Q E s _ q=>wpAny_pure q
 ·intro i j C hi hj hC
  rw[<-hlen]at hi hj
  have get:∀i (hi:i<its.length),vs.getD i Value.none= .ref its[i].1:=by
   have go:∀(l:List (Addr×List Int)) (us:List Value),Paired (fun(p:Addr×List Int) (v:Value)=>v= .ref p.1) l us->∀i (hi:i<l.length),us.getD i Value.none= .ref l[i].1:=by
    intro l us h
    induction h with
    |nil=>intro i hi;simp at hi
    |cons r t ih=>
     intro i hi
     cases i with
     |zero=>exact r
     |succ i=>simpa using ih i (by simpa using hi)
   exact go its vs pr
  unfold kas_ask
  rw[get i hi,get j hj]
  obtain⟨xi,hxi,oi,ei,ci,ni,di⟩:=tup its[i] (List.getElem_mem _)
  obtain⟨xj,hxj,oj,ej,cj,nj,dj⟩:=tup its[j] (List.getElem_mem _)
  refine kat_lt (s:={s with heap:=h'}) (k _ _ ei) di (k _ _ ej) dj ?_
  refine Srt.lex_ints 0 hxi hxj ?_ ?_
  ·have:=hxi.length;have:=hxj.length
   simp only[List.size_toArray]
   omega
  ·rw[HT.lexLt_iff]
   have e1:its.getD i (0,[])=its[i]:=by simp[hi]
   have e2:its.getD j (0,[])=its[j]:=by simp[hj]
   have hC':C (decide ((its.getD i (0,[])).2<(its.getD j (0,[])).2)) {s with heap:=h'}:=hC
   rw[e1,e2]at hC'
   exact hC'
 ·obtain⟨its',hp,hr,hw⟩:∃its':List (Addr×List Int),its'.length=its.length/\Paired (fun(p:Addr×List Int) (v:Value)=>v= .ref p.1) its' out/\∀p∈its',p∈its:=by
   have back:∀v∈vs,∃p∈its,v= .ref p.1:=by
    have go:∀(l:List (Addr×List Int)) (us:List Value),Paired (fun(p:Addr×List Int) (v:Value)=>v= .ref p.1) l us->∀v∈us,∃p∈l,v= .ref p.1:=by
     intro l us h
     induction h with
     |nil=>intro v hv;cases hv
     |cons r t ih=>
      intro v hv
      rcases List.mem_cons.mp hv with rfl|hv
      ·exact⟨_,List.mem_cons_self,r⟩
      ·obtain⟨p,hp,e⟩:=ih v hv
       exact⟨p,List.mem_cons_of_mem _ hp,e⟩
    exact go its vs pr
   have all:∀us:List Value,(∀v∈us,v∈vs)->∃its':List (Addr×List Int),its'.length=us.length/\Paired (fun(p:Addr×List Int) (v:Value)=>v= .ref p.1) its' us/\∀p∈its',p∈its:=by
    intro us
    induction us with
    |nil=>intro _;exact⟨[],rfl,.nil,fun _ h=>nomatch h⟩
    |cons v us ih=>
     intro hv
     obtain⟨l,h1,h2,h3⟩:=ih fun v h=>hv v (List.mem_cons_of_mem _ h)
     obtain⟨p,hp,e⟩:=back v (hv v List.mem_cons_self)
     exact⟨p::l,by simp[h1],.cons e h2,fun q hq=>by rcases List.mem_cons.mp hq with rfl|hq;exact hp;exact h3 q hq⟩
   obtain⟨l,h1,h2,h3⟩:=all out ho.2
   exact⟨l,h1.trans (ho.1.trans hlen.symm),h2,h3⟩
  have hn:H D=none:=I.hok.fresh hD
  have rv':Vals (its'.map fun p=>V.ref p.1) out:=by
   have go:∀(l:List (Addr×List Int)) (us:List Value),Paired (fun(p:Addr×List Int) (v:Value)=>v= .ref p.1) l us->Vals (l.map fun p=>V.ref p.1) us:=by
    intro l us h
    induction h with
    |nil=>exact .nil
    |cons r t ih=>exact .cons r ih
   exact go its' out hr
  have zl:(its'.map fun p=>V.ref p.1).length<=sizeLine:=by
   rw[List.length_map]
   exact Nat.le_of_lt (small1000 (by omega))
  have J:Inv X pins σ (upd H D (.lst (its'.map fun p=>V.ref p.1))) {s with heap:=h',toks:=s.toks}:=I.laid k hD ⟨zl,out,c,rv',hc⟩
  exact⟨.ref D,_,J,rfl,q D its' hn hp hw⟩
end
end L2
namespace L2
open PySem PySem.Spec PyProof.Rows
section
variable{X:Cx}
theorem call_maxT(hc:X.calm=true):CallR X (.builtin "max") (fun xs H Q=>∃(a:Addr) (ns:List Int),xs=[.ref a]/\SqT X.K H a (ns.map V.int)/\ns≠[]/\∀m∈ns,(∀n∈ns,n<=m)->Q (.int m) H):=by
 intro pins s σ H xs us Q I r h
 obtain⟨a,ns,rfl,hS,hne,q⟩:=h
 obtain⟨u,rfl,ru⟩:=r.one
 cases ru
 obtain⟨vs,rv,pl,hz⟩:=I.tuple hS
 have hl:s.heap.IsTuple a vs.toArray:=pl
 have hlt:a<s.heap.objs.size:=by obtain⟨_,e,_⟩:=hl;exact Heap.lt_size e
 have hlen:=rv.length
 rw[List.length_map]at hlen
 have hI:∀(i:Nat) (v:Value),vs.toArray[i]? =some v->∃t,v= .int (ns.getD i 0) t:=fun i v hv=>by
  have hv':vs[i]? =some v:=by simpa using hv
  have hi:i<ns.length:=by have:=(List.getElem?_eq_some_iff.mp hv').1;omega
  have hn:(ns.map V.int)[i]? =some (.int (ns.getD i 0)):=by rw[List.getElem?_map,List.getElem?_eq_getElem hi,List.getD_eq_getElem?_getD,List.getElem?_eq_getElem hi];rfl
  obtain⟨u,hu,ru⟩:=rv.get hn
  rw[hv']at hu
  cases hu
  obtain⟨t,rfl⟩:=ru
  exact⟨t,rfl⟩
 refine call_max_walk (wpAny_pyIter_tuple hl ?_)
 refine⟨s.heap.objs.size,[s.heap.objs.size,a],[s.heap.objs.size],vs.toArray.size,_,_,_,rfl,Walks.tuple (A:=X.A.in1) (I.ok.hd hc) _ a (Nat.ne_of_lt hlt) vs.toArray,
  ⟨⟨_,Heap.get?_push_size _ rfl,rfl,rfl⟩,hl.at fun o e=>Heap.get?_push_of_some _ e⟩,?_,?_,CmpOf.ints_gt (fun i=>ns.getD i 0) hI,fun v h' tk hP hk=> ?_⟩
 ·intro b hb
  show b<(s.heap.push _).objs.size
  rw[Heap.size_push]
  rcases List.mem_cons.mp hb with rfl|hb
  ·exact Nat.lt_succ_self _
  ·rw[List.mem_singleton.mp hb];exact Nat.lt_succ_of_lt hlt
 ·rw[List.size_toArray,<-hlen];exact List.length_pos_iff.mpr hne
 ·obtain⟨t,rfl⟩:=hI _ v hP
  obtain⟨h1,h2⟩:=argBest_gt (fun i=>ns.getD i 0) (vs.toArray.size-1)
  have hn0:0<ns.length:=List.length_pos_iff.mpr hne
  have hb:argBest (fun i j=>decide (ns.getD i 0>ns.getD j 0)) (vs.toArray.size-1)<ns.length:=by
   have:vs.toArray.size=ns.length:=by rw[List.size_toArray];omega
   omega
  refine⟨.int _,H,I.kept (LSm.kept_iter hk),⟨t,rfl⟩,q _ ?_ fun n hn=> ?_⟩
  ·rw[List.getD_eq_getElem?_getD,List.getElem?_eq_getElem hb];exact List.getElem_mem hb
  ·obtain⟨j,hj,rfl⟩:=List.getElem_of_mem hn
   have:=h2 j (by rw[List.size_toArray];omega)
   rw[List.getD_eq_getElem?_getD (i:=j),List.getElem?_eq_getElem hj]at this
   exact this
end
end L2
namespace Hs
open PySem L2 HsD
noncomputable def top(i:Nat):Stmt:=PySem.Challenge.pw_hueshare_k10_rings_and_picks.main.body.getD i (.Pass ⟨0,0,0,0⟩)
noncomputable abbrev zbm:Stmt:=top 13
noncomputable abbrev zak:Stmt:=top 14
noncomputable abbrev zbd:Stmt:=top 15
noncomputable abbrev zci:Stmt:=top 16
noncomputable abbrev zbg:Stmt:=top 17
noncomputable abbrev zbr:Stmt:=top 19
noncomputable abbrev zdf:Stmt:=top 22
noncomputable abbrev zce:Stmt:=top 23
noncomputable abbrev zam:Stmt:=top 25
noncomputable abbrev zaw:Stmt:=top 26
noncomputable abbrev zat:Stmt:=top 27
noncomputable abbrev zav:Stmt:=top 28
noncomputable abbrev zaz:Stmt:=top 29
noncomputable abbrev zba:Stmt:=top 30
noncomputable abbrev zan:Stmt:=top 31
noncomputable abbrev zau:Stmt:=top 32
noncomputable abbrev zai:Stmt:=top 33
noncomputable abbrev s_law:Stmt:=top 34
end Hs
namespace Hs
open PySem L2 HsD
section
variable{P:Program}{w:World}{K:W.Frag}{mg:Str->Option Value}{base:Heap}
noncomputable def spWhole(K:W.Frag):Sp:=fun vs H Q _=>∃x d,vs=[x]/\DX K H x d/\Q (.bl (wholeD d)) H
theorem sc_whole:FnScope ["thing"] ["thing"] (defScope zbm):=⟨rfl,rfl,rfl,by decide+kernel,rfl,by decide+kernel,by decide+kernel⟩
theorem ok_whole{f:Addr}{fd:FuncData}(F:Fun K "is_whole" "is_whole" zbm f fd)(mi:mg "isinstance"=none)(mI:mg "int"=none)(mB:mg "bool"=none):FnOk P w K mg base CX0 1 f fd ["thing"] (spWhole K):=by
 refine F.ok sc_whole (fun vs H Q E h=> ?_) (fun cdv A outer s H vs Q E hr h=> ?_)
 ·obtain⟨x,d,rfl,_⟩:=h
  rfl
 obtain⟨x,d,rfl,hx,q⟩:=h
 refine⟨_,zah (zbb (zcy (zaf zbf rfl mi (by decide+kernel) (zaa (pv 0) (zaa (zbk rfl mI (v:= .ty "int") (by decide+kernel) rfl) zac)))
  (pe_one (pe_not (zaf zbf rfl mi (by decide+kernel) (zaa (pv 0) (zaa (zbk rfl mB (v:= .ty "bool") (by decide+kernel) rfl) zac))))))),?_⟩
 refine⟨_,rfl,x,_,_,rfl,hx.kind,.inl rfl,_,rfl,?_⟩
 refine ite2 (fun c=> ?_) (fun c=> ?_)
 ·refine⟨_,rfl,x,_,_,rfl,hx.kind,.inr (.inl rfl),_,rfl,?_⟩
  cases d<;>first |exact q|(simp[isiB,kindD]at c;done)
 ·cases d<;>first |exact q|(exfalso;exact c rfl)
end
end Hs
namespace HsD
open PySem L2
noncomputable def pairD(p:Int×Int):PyData:= .tuple [.int p.1,.int p.2]
noncomputable def webDat(n:Int)(ts:List (Int×Int)):PyData:= .tuple [.int n,.tuple (ts.map pairD)]
noncomputable def WebV(K:W.Frag)(H:Hp)(a:Addr)(n:Int)(ts:List (Int×Int)):Prop:=∃t rs,SqT K H a [.int n,.ref t]/\SqT K H t rs/\DVs K H rs (ts.map pairD)
theorem WebV.dv{K:W.Frag}{H:Hp}{a:Addr}{n:Int}{ts:List (Int×Int)}(h:WebV K H a n ts):DV K H (.ref a) (webDat n ts):=by
 obtain⟨t,rs,h1,h2,h3⟩:=h
 exact .tup h1 (.cons (.int n) (.cons (.tup h2 h3) .nil))
theorem WebV.same{K:W.Frag}{H H':Hp}{a:Addr}{n:Int}{ts:List (Int×Int)}(h:WebV K H a n ts)(e:Same H H'):WebV K H' a n ts:=by
 obtain⟨t,rs,h1,h2,h3⟩:=h
 exact⟨t,rs,e.tup h1,e.tup h2,DVs.same e h3⟩
end HsD
namespace Hs
open PySem L2 HsD
section
variable{P:Program}{w:World}{K:W.Frag}{mg:Str->Option Value}{base:Heap}
noncomputable def spNeedFew(K:W.Frag):Sp:=fun vs H Q _=>∃(n:Int),vs=[.int n]/\n<=10/\Q .non H
theorem sc_needFew:FnScope ["n"] ["n"] (defScope zbd):=⟨rfl,rfl,rfl,by decide+kernel,rfl,by decide+kernel,by decide+kernel⟩
theorem ok_needFew{f:Addr}{fd:FuncData}{tk:Tok}(F:Fun K "need_few" "need_few" zbd f fd)(mM:mg "MOST_PLACES"=some (.int 10 tk)):FnOk P w K mg base CX0 1 f fd ["n"] (spNeedFew K):=by
 refine F.ok sc_needFew (fun vs H Q E h=> ?_) (fun cdv A outer s H vs Q E hr h=> ?_)
 ·obtain⟨n,rfl,_⟩:=h
  rfl
 obtain⟨n,rfl,hn,q⟩:=h
 refine⟨_,zah (zcp (zbh op_gt (pv 0) (zbj rfl mM (v:= .int 10) ⟨_,rfl⟩) (nomark _)) pss_never zbi),?_⟩
 refine⟨_,rfl,_,_,rfl,rfl,_,rfl,?_⟩
 rw[decide_eq_false (show¬(10:Int)<n by omega)]
 exact iteF q
noncomputable def WebOk(n:Int)(ts:List (Int×Int)):Prop:=webD (webDat n ts)=true
end
end Hs
namespace L2
open PySem
noncomputable def SameX(t:Addr)(H H':Hp):Prop:=∀b o,b≠t->H b=some o->H' b=some o
theorem SameX.refl(t:Addr)(H:Hp):SameX t H H:=fun _ _ _ h=>h
theorem SameX.trans{t:Addr}{H H1 H2:Hp}(a:SameX t H H1)(b:SameX t H1 H2):SameX t H H2:=fun c o n h=>b c o n (a c o n h)
theorem Same.x{H H':Hp}(h:Same H H')(t:Addr):SameX t H H':=fun b o _ e=>h b o e
theorem SameX.upd{t:Addr}{H H':Hp}{o:HO}(h:SameX t H H'):SameX t H (upd H' t o):=fun b u n e=>by rw[zaq n];exact h b u n e
noncomputable def ScrV(K:W.Frag)(H:Hp)(scr:Addr)(ns:List Int):Prop:=(∃o,H scr=some (.frz o (.lst (ns.map V.int))))\/
 ∃(o:Obj) (its:Array Value) (n:Nat),K.lookup scr=some o/\o.cls= .type "list"/\o.dict=none/\o.data= .seq its n/\its.size<=sizeLine/\Vals (ns.map V.int) its.toList
theorem ScrV.sq{K:W.Frag}{H:Hp}{scr:Addr}{ns:List Int}(h:ScrV K H scr ns):SqL K H scr (ns.map V.int):=by
 rcases h with⟨o,h⟩|h
 ·exact .inl (.inr ⟨o,h⟩)
 ·exact .inr h
theorem ScrV.samex{K:W.Frag}{H H':Hp}{scr t:Addr}{ns:List Int}{zs:List V}(h:ScrV K H scr ns)(e:SameX t H H')(n:H t=some (.lst zs)):ScrV K H' scr ns:=by
 rcases h with⟨o,h⟩|h
 ·exact .inl ⟨o,e _ _ (ne_of h n (by intro z;cases z)) h⟩
 ·exact .inr h
theorem ScrV.same{K:W.Frag}{H H':Hp}{scr:Addr}{ns:List Int}(h:ScrV K H scr ns)(e:Same H H'):ScrV K H' scr ns:=by
 rcases h with⟨o,h⟩|h
 ·exact .inl ⟨o,e _ _ h⟩
 ·exact .inr h
structure TapeV(K:W.Frag)(H:Hp)(tp scr:Addr)(ns:List Int):Prop where
 at_:∃(i r:Int),H tp=some (.lst [.ref scr,.int i,.int r])/\0<=i/\0<=r
 scr_:ScrV K H scr ns
 len:ns.length<=63
theorem SameX.sq{K:W.Frag}{t:Addr}{H H':Hp}{a:Addr}{xs:List V}(e:SameX t H H')(n:a≠t)(h:SqL K H a xs):SqL K H' a xs:=by
 rcases h with(h|⟨o,h⟩)|h
 ·exact .inl (.inl (e _ _ n h))
 ·exact .inl (.inr ⟨o,e _ _ n h⟩)
 ·exact .inr h
theorem TapeV.same{K:W.Frag}{H H':Hp}{tp scr:Addr}{ns:List Int}(h:TapeV K H tp scr ns)(e:Same H H'):TapeV K H' tp scr ns:=by
 obtain⟨⟨i,r,h1,h2,h3⟩,h4,h5⟩:=h
 exact⟨⟨i,r,e _ _ h1,h2,h3⟩,h4.same e,h5⟩
theorem TapeV.other{K:W.Frag}{H H':Hp}{tp scr c:Addr}{ns:List Int}{zs:List V}(h:TapeV K H tp scr ns)(e:SameX c H H')(hc:H c=some (.lst zs))(n:tp≠c):TapeV K H' tp scr ns:=by
 obtain⟨⟨i,r,h1,h2,h3⟩,h4,h5⟩:=h
 exact⟨⟨i,r,e _ _ n h1,h2,h3⟩,h4.samex e hc,h5⟩
theorem zcz:∀ns:List Int,PyData.canLayAll0 (ns.map PyData.int)=true
 |[]=>rfl
 |n::ns=>by
  show(true&&PyData.canLayAll0 (ns.map PyData.int))=true
  rw[zcz ns];rfl
end L2
namespace Hs
open PySem L2 HsD
section
variable{P:Program}{w:World}{K:W.Frag}{mg:Str->Option Value}{base:Heap}
noncomputable def spStir(K:W.Frag):Sp:=fun vs H Q _=>∃(c i:Int),vs=[.int c,.int i]/\∀r,0<=r->Q (.int r) H
theorem sc_stir:FnScope ["cell","at","first","second","third"] ["cell","at"] (defScope zam):=⟨rfl,rfl,rfl,by decide+kernel,rfl,by decide+kernel,by decide+kernel⟩
theorem mod_nn(a:Int){b:Int}(h:0<b):0<=a %b:=Int.emod_nonneg _ (by omega)
theorem mod_lt(a:Int){b:Int}(h:0<b):a %b<b:=Int.emod_lt_of_pos _ h
theorem ok_stir{f:Addr}{fd:FuncData}(F:Fun K "_law_b_stirred" "_law_b_stirred" zam f fd):FnOk P w K mg base CX0 1 f fd ["cell","at"] (spStir K):=by
 refine F.ok sc_stir (fun vs H Q E h=> ?_) (fun cdv A outer s H vs Q E hr h=> ?_)
 ·obtain⟨c,i,rfl,_⟩:=h
  rfl
 obtain⟨c,i,rfl,q⟩:=h
 refine⟨_,zae (zcp (zbh op_ge (pv 0) (zao op_pow zag zag) (nomark _)) (zah (zbb (pv 0))) zbi) (zae (zar (i:=2) sc_stir.nd rfl (Or.inl rfl) (zao op_mod (zao zbp (zao zbp (zao zcq (zao op_mod (pv 0) zag) zag) (zao zcq (pv 1) zag)) zag) zag)) (zae (zar (i:=3) sc_stir.nd rfl (Or.inl rfl) (zao op_mod (zao zbp (zao zbp (zao zcq (pv 2) (pv 2)) (zao zcq zag (pv 1))) zag) zag)) (zae (zar (i:=4) sc_stir.nd rfl (Or.inl rfl) (zao op_mod (zao zbp (zao zbp (zao zcq (pv 3) (pv 3)) (zao zcq zag (pv 2))) (pv 1)) zag)) (zah (zbb (zao zbp (zao zcq (pv 3) zag) (pv 4))))))),?_⟩
 refine⟨_,rfl,_,_,rfl,rfl,⟨by decide,by decide,by decide⟩,_,_,rfl,rfl,_,rfl,?_⟩
 refine ite2 (fun c1=> ?_) (fun c1=> ?_)
 ·have c2:(10:Int)^(18:Int).toNat<=c:=of_decide_eq_true c1
  have c3:(0:Int)<=10^(18:Int).toNat:=by decide
  exact⟨_,rfl,q c (by omega)⟩
 ·refine⟨_,rfl,_,_,rfl,rfl,(by show(0:Int)<2147483629;decide),_,_,rfl,rfl,.inr ⟨by decide,by decide⟩,_,rfl,_,_,rfl,rfl,.inr ⟨by decide,by decide⟩,_,_,rfl,rfl,_,_,rfl,rfl,_,_,rfl,rfl,(by show(0:Int)<2147483587;decide),?_⟩
  generalize hfirst:((fun i j=>V.int (i %j)) _ _:V)=vf
  obtain⟨a1,e1,a2,a3⟩:∃a:Int,vf= .int a/\0<=a/\a<2147483587:=⟨_,hfirst.symm,mod_nn _ (by decide),mod_lt _ (by decide)⟩
  rw[e1]
  refine⟨_,rfl,_,rfl,_,_,rfl,rfl,.inl ⟨by omega,by omega⟩,_,rfl,_,_,rfl,rfl,.inl ⟨by decide,by decide⟩,_,_,rfl,rfl,_,_,rfl,rfl,_,_,rfl,rfl,(by show(0:Int)<2147483579;decide),?_⟩
  generalize hsec:((fun i j=>V.int (i %j)) _ _:V)=vs
  obtain⟨b1,f1,b2,b3⟩:∃a:Int,vs= .int a/\0<=a/\a<2147483579:=⟨_,hsec.symm,mod_nn _ (by decide),mod_lt _ (by decide)⟩
  rw[f1]
  refine⟨_,rfl,_,rfl,_,_,rfl,rfl,.inl ⟨by omega,by omega⟩,_,rfl,_,_,rfl,rfl,.inl ⟨by decide,by decide⟩,_,_,rfl,rfl,_,rfl,_,_,rfl,rfl,_,_,rfl,rfl,(by show(0:Int)<2147483563;decide),?_⟩
  generalize hthd:((fun i j=>V.int (i %j)) _ _:V)=vt
  obtain⟨c1',g1,c2,c3⟩:∃a:Int,vt= .int a/\0<=a/\a<2147483563:=⟨_,hthd.symm,mod_nn _ (by decide),mod_lt _ (by decide)⟩
  rw[g1]
  refine⟨_,rfl,_,_,rfl,rfl,.inr ⟨by decide,by decide⟩,_,rfl,_,_,rfl,rfl,q _ ?_⟩
  have:=Int.mul_nonneg b2 (show(0:Int)<=2147483563 by decide)
  omega
end
end Hs
namespace Hs
open PySem L2 HsD
section
variable{P:Program}{w:World}{K:W.Frag}{mg:Str->Option Value}{base:Heap}
theorem at_ints{ns:List Int}{k:Int}(h0:0<=k)(h1:k<(ns.length:Int)):∃v:Int,atI (ns.map V.int) k=some (.int v)/\ns[k.toNat]? =some v:=by
 have hk:k.toNat<ns.length:=by omega
 have ek:((k.toNat:Nat):Int)=k:=by omega
 have q:atI (ns.map V.int) ((k.toNat:Nat):Int)=some (.int ns[k.toNat]):=atI_nat (by rw[List.getElem?_map,List.getElem?_eq_getElem hk];rfl)
 rw[ek]at q
 exact⟨_,q,List.getElem?_eq_getElem hk⟩
noncomputable def spDigit(K:W.Frag):Sp:=fun vs H Q _=>∃(tp scr:Addr) (ns:List Int) (m:Int),vs=[.ref tp,.int m]/\TapeV K H tp scr ns/\0<m/\m<1000000000000000000000000000000/\
 ∀r H',0<=r->r<m->SameX tp H H'->TapeV K H' tp scr ns->Q (.int r) H'
theorem zcl:FnScope ["tape","many","at","cell","found"] ["tape","many"] (defScope zaw):=⟨rfl,rfl,rfl,by decide+kernel,rfl,by decide+kernel,by decide+kernel⟩
theorem ok_digit{f f1:Addr}{fd d1:FuncData}(F:Fun K "_law_b_digit" "_law_b_digit" zaw f fd)(D1:Dfn K mg "_law_b_stirred" zam ["cell","at"] f1 d1)(G1:FnOk P w K mg base CX0 1 f1 d1 ["cell","at"] (spStir K))(mL:mg "len"=none):
  FnOk P w K mg base CX0 2 f fd ["tape","many"] (spDigit K):=by
 refine F.ok zcl (fun vs H Q E h=> ?_) (fun cdv A outer s H vs Q E hr h=> ?_)
 ·obtain⟨tp,scr,ns,m,rfl,_⟩:=h
  rfl
 obtain⟨tp,scr,ns,m,rfl,hT,hm0,hm1,q⟩:=h
 refine⟨_,zae (zcp (zbh op_lt (zch zbl (pv 0) zag (fun _ _=>rfl)) (pv 1) (nomark _)) (zae (zar (i:=2) zcl.nd rfl (Or.inl rfl) (zch zbl (pv 0) zag (fun _ _=>rfl))) (zae (zar (i:=3) zcl.nd rfl (Or.inl rfl) (zao zbp (zao zcq zag (pv 2)) zag)) (zae (zcp (zbh op_lt (pv 2) (zaf zbc rfl mL PySem.boot_len (zaa (zch zbl (pv 0) zag (fun _ _=>rfl)) zac)) (nomark _)) (zah (zar (i:=3) zcl.nd rfl (Or.inl rfl) (zch zbl (zch zbl (pv 0) zag (fun _ _=>rfl)) (pv 2) (fun _ _=>rfl)))) (zah (zcp (zbh (op_neD hr.units) (zch zbl (pv 0) zag (fun _ _=>rfl)) (zbx zac) (nomark _)) (zah (zar (i:=3) zcl.nd rfl (Or.inl rfl) (zao zbp (zao op_mod (zch zbl (zch zbl (pv 0) zag (fun _ _=>rfl)) (zao op_mod (zao zcq (pv 2) zag) (zaf zbc rfl mL PySem.boot_len (zaa (zch zbl (pv 0) zag (fun _ _=>rfl)) zac))) (fun _ _=>rfl)) zag) (zao zcq (pv 2) zag))))
      zbi))) (zae (ps_asg (zao zbp (pv 2) zag) (pg_sub (pv 0) zag set_list)) (zah (ps_asg (zal G1 hr rfl D1.m D1.F.kp D1.b .nil pass0 (zaa (pv 3) (zaa (pv 2) zac))) (pg_sub (pv 0) zag set_list))))))) zbi) (zae (zar (i:=4) zcl.nd rfl (Or.inl rfl) (zao op_mod (zch zbl (pv 0) zag (fun _ _=>rfl)) (pv 1))) (zae (ps_asg (zao op_fdivL (zch zbl (pv 0) zag (fun _ _=>rfl)) (pv 1)) (pg_sub (pv 0) zag set_list)) (zah (zbb (pv 4))))),?_⟩
 obtain⟨⟨i,r,hH,hi,hr0⟩,hS0,h63⟩:=hT
 have hS:=hS0.sq
 refine⟨_,rfl,tp,_,_,.int r,rfl,rfl,SqL.of hH,rfl,_,rfl,_,_,rfl,rfl,_,rfl,?_⟩
 refine ite2 (fun c=> ?_) (fun c=> ?_)
 ·refine⟨_,rfl,tp,_,_,.int i,rfl,rfl,SqL.of hH,rfl,?_⟩
  refine⟨_,rfl,_,_,rfl,rfl,.inl ⟨by decide,by decide⟩,_,_,rfl,rfl,?_⟩
  refine⟨_,rfl,_,rfl,tp,_,_,.ref scr,rfl,rfl,SqL.of hH,rfl,scr,_,rfl,.inl hS,fun hz=>⟨_,_,rfl,rfl,_,rfl,?_⟩⟩
  have go:∀(H2:Hp) (tl:V),SameX tp H H2->H2 tp=some (.lst [.ref scr,.int i,.int r])->∀r',0<=r'->∀q',q'=r'/m->
    ((0:Int)<=r' %m/\r' %m<m)/\SameX tp H (upd (upd (upd H2 tp (.lst [.ref scr,.int (i+1),.int r])) tp (.lst [.ref scr,.int (i+1),.int r'])) tp (.lst [.ref scr,.int (i+1),.int q']))/\
    TapeV K (upd (upd (upd H2 tp (.lst [.ref scr,.int (i+1),.int r])) tp (.lst [.ref scr,.int (i+1),.int r'])) tp (.lst [.ref scr,.int (i+1),.int q'])) tp scr ns:=fun H2 _ sm e r' h0 q' hq=>by
   have sx:SameX tp H (upd (upd (upd H2 tp (.lst [.ref scr,.int (i+1),.int r])) tp (.lst [.ref scr,.int (i+1),.int r'])) tp (.lst [.ref scr,.int (i+1),.int q'])):=sm.upd.upd.upd
   refine⟨⟨mod_nn _ hm0,mod_lt _ hm0⟩,sx,⟨i+1,q',zab,by omega,?_⟩,hS0.samex sx hH,h63⟩
   rw[hq]
   exact Int.ediv_nonneg h0 (by omega)
  refine ite2 (fun c2=> ?_) (fun c2=> ?_)
  ·have c3:i<((ns.map V.int).length:Int):=of_decide_eq_true c2
   rw[List.length_map]at c3
   obtain⟨v,hx,_⟩:=at_ints hi c3
   refine⟨_,rfl,tp,_,_,.ref scr,rfl,rfl,SqL.of hH,rfl,_,rfl,scr,_,_,_,rfl,rfl,hS,hx,?_⟩
   refine⟨_,rfl,_,_,rfl,rfl,_,rfl,tp,_,_,1,rfl,rfl,hH,rfl,?_⟩
   refine⟨_,rfl,_,rfl,_,_,rfl,fun r' h0=>⟨_,rfl,tp,_,_,2,rfl,rfl,zab,rfl,?_⟩⟩
   obtain⟨⟨g1,g2⟩,g3,g4⟩:=go H (.non) (SameX.refl _ _) hH r' h0 _ rfl
   refine⟨_,rfl,tp,_,_,.int r',rfl,rfl,SqL.of zab,rfl,_,rfl,_,_,rfl,rfl,hm0,?_⟩
   refine⟨_,rfl,tp,_,_,.int r',rfl,rfl,SqL.of zab,rfl,_,rfl,_,_,rfl,rfl,⟨hm0,hm1⟩,_,rfl,tp,_,_,2,rfl,rfl,zab,rfl,?_⟩
   exact⟨_,rfl,q _ _ g1 g2 g3 g4⟩
  ·refine⟨_,rfl,tp,_,_,.ref scr,rfl,rfl,SqL.of hH,rfl,(by show 0<=sizeLine;decide),fun pe hpe=> ?_⟩
   have sm:=zad hpe (.lst [])
   have hH2:=sm _ _ hH
   have hS2:=sm.seq hS
   refine⟨.list (ns.map PyData.int),.list [],.lst hS2 (DVs.ints ns),.lst (SqL.of zab) .nil,zcz ns,rfl,(by show min _ (0+1)<=64;omega),_,rfl,?_⟩
   refine ite2 (fun c4=> ?_) (fun c4=> ?_)
   ·have hpos:0<ns.length:=by
     cases ns with
     |nil=>simp[PyData.eqv,PyData.eqvAll]at c4
     |cons _ _=>simp
    have e3:(0:Int)<((ns.map V.int).length:Int):=by rw[List.length_map];omega
    have hk1:=mod_nn (i*3) e3
    have hk2:=mod_lt (i*3) e3
    rw[List.length_map]at hk1 hk2
    obtain⟨v,hx,_⟩:=at_ints hk1 hk2
    rw[<-List.length_map (f:=V.int)]at hx
    refine⟨_,rfl,tp,_,_,.ref scr,rfl,rfl,SqL.of hH2,rfl,_,rfl,_,_,rfl,rfl,.inr ⟨by decide,by decide⟩,_,rfl,tp,_,_,.ref scr,rfl,rfl,SqL.of hH2,rfl,scr,_,rfl,.inl hS2,fun hz2=>⟨_,_,rfl,rfl,e3,scr,_,_,_,rfl,rfl,hS2,hx,?_⟩⟩
    refine⟨_,_,rfl,rfl,(by show(0:Int)<999999883;decide),_,rfl,_,_,rfl,rfl,.inr ⟨by decide,by decide⟩,_,_,rfl,rfl,?_⟩
    refine⟨_,rfl,_,_,rfl,rfl,_,rfl,tp,_,_,1,rfl,rfl,hH2,rfl,?_⟩
    refine⟨_,rfl,_,rfl,_,_,rfl,fun r' h0=>⟨_,rfl,tp,_,_,2,rfl,rfl,zab,rfl,?_⟩⟩
    obtain⟨⟨g1,g2⟩,g3,g4⟩:=go _ (.non) (sm.x _) hH2 r' h0 _ rfl
    refine⟨_,rfl,tp,_,_,.int r',rfl,rfl,SqL.of zab,rfl,_,rfl,_,_,rfl,rfl,hm0,?_⟩
    refine⟨_,rfl,tp,_,_,.int r',rfl,rfl,SqL.of zab,rfl,_,rfl,_,_,rfl,rfl,⟨hm0,hm1⟩,_,rfl,tp,_,_,2,rfl,rfl,zab,rfl,?_⟩
    exact⟨_,rfl,q _ _ g1 g2 g3 g4⟩
   ·refine⟨_,rfl,_,_,rfl,rfl,_,rfl,tp,_,_,1,rfl,rfl,hH2,rfl,?_⟩
    refine⟨_,rfl,_,rfl,_,_,rfl,fun r' h0=>⟨_,rfl,tp,_,_,2,rfl,rfl,zab,rfl,?_⟩⟩
    obtain⟨⟨g1,g2⟩,g3,g4⟩:=go _ (.non) (sm.x _) hH2 r' h0 _ rfl
    refine⟨_,rfl,tp,_,_,.int r',rfl,rfl,SqL.of zab,rfl,_,rfl,_,_,rfl,rfl,hm0,?_⟩
    refine⟨_,rfl,tp,_,_,.int r',rfl,rfl,SqL.of zab,rfl,_,rfl,_,_,rfl,rfl,⟨hm0,hm1⟩,_,rfl,tp,_,_,2,rfl,rfl,zab,rfl,?_⟩
    exact⟨_,rfl,q _ _ g1 g2 g3 g4⟩
 ·refine⟨_,rfl,tp,_,_,.int r,rfl,rfl,SqL.of hH,rfl,_,rfl,_,_,rfl,rfl,hm0,?_⟩
  refine⟨_,rfl,tp,_,_,.int r,rfl,rfl,SqL.of hH,rfl,_,rfl,_,_,rfl,rfl,⟨hm0,hm1⟩,_,rfl,tp,_,_,2,rfl,rfl,hH,rfl,?_⟩
  have sx:SameX tp H (upd H tp (.lst [.ref scr,.int i,.int (r/m)])):=(SameX.refl _ _).upd
  exact⟨_,rfl,q _ _ (mod_nn _ hm0) (mod_lt _ hm0) sx ⟨⟨i,r/m,zab,hi,Int.ediv_nonneg hr0 (by omega)⟩,hS0.samex sx hH,h63⟩⟩
end
end Hs
namespace L2
open PySem
theorem DVs.append{K:W.Frag}{H:Hp}{xs ys:List V}{ds es:List PyData}(h:DVs K H xs ds)(h':DVs K H ys es):DVs K H (xs++ys) (ds++es):=
 DVs.rec (motive_1:=fun _ _ _=>True) (motive_2:=fun xs ds _=>DVs K H (xs++ys) (ds++es)) trivial (fun _=>trivial) (fun _=>trivial) (fun _=>trivial) (fun _ _ _=>trivial) (fun _ _ _=>trivial) (fun _=>trivial) (fun _ _=>trivial) h' (fun h _ _ t=> .cons h t) h
theorem DVs.snoc{K:W.Frag}{H:Hp}{xs:List V}{ds:List PyData}{x:V}{d:PyData}(h:DVs K H xs ds)(h':DV K H x d):DVs K H (xs++[x]) (ds++[d]):=h.append (.cons h' .nil)
theorem SameX.tup{K:W.Frag}{t:Addr}{H H':Hp}{a:Addr}{xs zs:List V}(e:SameX t H H')(n:H t=some (.lst zs))(h:SqT K H a xs):SqT K H' a xs:=by
 rcases h with(h|⟨o,h⟩)|h
 ·exact .inl (.inl (e _ _ (ne_of h n (by intro z;cases z)) h))
 ·exact .inl (.inr ⟨o,e _ _ (ne_of h n (by intro z;cases z)) h⟩)
 ·exact .inr h
end L2
namespace HsD
open PySem L2
theorem zct{K:W.Frag}{t:Addr}{H H':Hp}{zs:List V}(e:SameX t H H')(n:H t=some (.lst zs)){rs:List V}{ps:List (Int×Int)}(h:DVs K H rs (ps.map pairD)):DVs K H' rs (ps.map pairD):=by
 induction ps generalizing rs with
 |nil=>cases h;exact .nil
 |cons p ps ih=>
  cases h with
  |cons h tl=>
   refine .cons ?_ (ih tl)
   cases h with
   |tup h hd=>
    cases hd with
    |cons a1 t1=>
     cases a1
     cases t1 with
     |cons a2 t2=>
      cases a2
      cases t2
      exact .tup (e.tup n h) (.cons (.int _) (.cons (.int _) .nil))
theorem WebV.samex{K:W.Frag}{t:Addr}{H H':Hp}{zs:List V}{a:Addr}{n:Int}{ts:List (Int×Int)}(h:WebV K H a n ts)(e:SameX t H H')(hn:H t=some (.lst zs)):WebV K H' a n ts:=by
 obtain⟨u,rs,h1,h2,h3⟩:=h
 exact⟨u,rs,e.tup hn h1,e.tup hn h2,zct e hn h3⟩
structure Sub(j:Nat)(l:List Int):Prop where
 nd:l.Nodup
 lt:∀i∈l,0<=i/\i<(j:Int)
theorem Sub.nil(j:Nat):Sub j []:=⟨List.nodup_nil,fun i h=>(nomatch h)⟩
theorem Sub.sub{j:Nat}{l l':List Int}(h:Sub j l)(s:l'.Sublist l):Sub j l':=⟨h.nd.sublist s,fun i hi=>h.lt i (s.subset hi)⟩
theorem Sub.mono{j k:Nat}{l:List Int}(h:Sub j l)(e:j<=k):Sub k l:=⟨h.nd,fun i hi=>⟨(h.lt i hi).1,by have:=(h.lt i hi).2;omega⟩⟩
theorem Sub.snoc{j:Nat}{l:List Int}(h:Sub j l):Sub (j+1) (l++[(j:Int)]):=by
 refine⟨List.nodup_append.mpr ⟨h.nd,by simp,fun a ha b hb e=> ?_⟩,fun i hi=> ?_⟩
 ·have:=(h.lt a ha).2
  simp at hb
  omega
 ·rcases List.mem_append.mp hi with q|q
  ·exact⟨(h.lt i q).1,by have:=(h.lt i q).2;omega⟩
  ·simp at q;omega
theorem Sub.range(j:Nat):Sub j ((List.range j).map fun(k:Nat)=>(0+(k:Nat):Int)):=by
 refine⟨?_,fun i hi=> ?_⟩
 ·rw[List.nodup_iff_pairwise_ne,List.pairwise_map]
  exact(List.nodup_iff_pairwise_ne.mp List.nodup_range).imp fun{a b} h e=>h (by omega)
 ·obtain⟨k,hk,rfl⟩:=List.mem_map.mp hi
  have:=List.mem_range.mp hk
  omega
theorem nodup_len{α:Type} [DecidableEq α]:∀{l m:List α},l.Nodup->(∀a∈l,a∈m)->l.length<=m.length
 |[],m,_,_=>Nat.zero_le _
 |a::l,m,nd,h=>by
  have ha:=h a List.mem_cons_self
  have nd':=List.nodup_cons.mp nd
  have q:∀b∈l,b∈m.erase a:=fun b hb=>by
   have hne:b≠a:=fun e=>nd'.1 (e▸hb)
   exact(List.mem_erase_of_ne hne).mpr (h b (List.mem_cons_of_mem _ hb))
  have:=nodup_len nd'.2 q
  have e:=List.length_erase_of_mem ha
  have:0<m.length:=List.length_pos_of_mem ha
  simp only[List.length_cons]
  omega
theorem Sub.len{j:Nat}{l:List Int}(h:Sub j l):l.length<=j:=by
 have q:=nodup_len (m:=(List.range j).map fun(k:Nat)=>(k:Int)) h.nd fun i hi=>by
  have:=h.lt i hi
  exact List.mem_map.mpr ⟨i.toNat,List.mem_range.mpr (by omega),by omega⟩
 simpa using q
structure PairsOk(n:Int)(ps:List (Int×Int)):Prop where
 nd:ps.Nodup
 lt:∀p∈ps,0<=p.1/\p.1<p.2/\p.2<n
theorem PairsOk.nil(n:Int):PairsOk n []:=⟨List.nodup_nil,fun p h=>(nomatch h)⟩
noncomputable def allP(n:Nat):List (Int×Int):=((List.range n).map fun(j:Nat)=>(List.range j).map fun(i:Nat)=>((i:Int),(j:Int))).flatten
theorem pairs_len{n:Int}{ps:List (Int×Int)}(h:PairsOk n ps)(hn:n<=10):ps.length<=45:=by
 have q:=nodup_len (m:=allP 10) h.nd fun p hp=>by
  obtain⟨h0,h1,h2⟩:=h.lt p hp
  obtain⟨a,b⟩:=p
  dsimp only at h0 h1 h2
  refine List.mem_flatten.mpr ⟨(List.range b.toNat).map fun(i:Nat)=>((i:Int),((b.toNat:Nat):Int)),List.mem_map.mpr ⟨b.toNat,List.mem_range.mpr (by omega),rfl⟩,List.mem_map.mpr ⟨a.toNat,List.mem_range.mpr (by omega),?_⟩⟩
  have e1:((a.toNat:Nat):Int)=a:=by omega
  have e2:((b.toNat:Nat):Int)=b:=by omega
  rw[e1,e2]
 have e:(allP 10).length=45:=by decide
 omega
end HsD
namespace HsD
open PySem L2
noncomputable def mp(l:List Int)(p:Int×Int):Int×Int:=
 (if l.getD p.2.toNat 0<l.getD p.1.toNat 0 then l.getD p.2.toNat 0 else l.getD p.1.toNat 0,if l.getD p.2.toNat 0>l.getD p.1.toNat 0 then l.getD p.2.toNat 0 else l.getD p.1.toNat 0)
theorem PairsOk.perm{n:Int}{ps qs:List (Int×Int)}(h:PairsOk n ps)(e:qs.Perm ps):PairsOk n qs:=⟨e.nodup_iff.mpr h.nd,fun p hp=>h.lt p (e.mem_iff.mp hp)⟩
noncomputable def pl(p:Int×Int):List Int:=[p.1,p.2]
end HsD
namespace Hs
open PySem L2 HsD
section
variable{P:Program}{w:World}{K:W.Frag}{mg:Str->Option Value}{base:Heap}
theorem TapeV.lst{H:Hp}{tp scr:Addr}{ns:List Int}(h:TapeV K H tp scr ns):∃zs,H tp=some (.lst zs):=by
 obtain⟨⟨i,r,h1,_⟩,_⟩:=h
 exact⟨_,h1⟩
end
end Hs
namespace HsD
open PySem L2
theorem pairs_depth:∀ts:List (Int×Int),PyData.depthAll (ts.map pairD)<=1
 |[]=>Nat.zero_le _
 |p::ts=>by
  show max (max 0 (max 0 0)+1) (PyData.depthAll (ts.map pairD))<=1
  have:=pairs_depth ts
  omega
end HsD
namespace Hs
open PySem L2 HsD
section
variable{P:Program}{w:World}{K:W.Frag}{mg:Str->Option Value}{base:Heap}
noncomputable def spLaw(K:W.Frag):Sp:=fun vs H Q _=>∃(a:Addr) (ns:List Int),vs=[.ref a]/\ScrV K H a ns/\ns.length<=63/\∀H',Q (.bl true) H'
theorem spLaw_of{H:Hp}{a:Addr}{ns:List Int}(hl:ns.length<=63)(hO:Only H)(hS:SqL K H a (ns.map V.int)):spLaw K [.ref a] H (fun v _=>v= .bl true) fun _ _ _=>False:=by
 refine⟨a,ns,rfl,?_,hl,fun _=>rfl⟩
 rcases hS with(h|⟨o,h⟩)|h
 ·rcases hO a with q|⟨o,xs,q⟩
  ·rw[q]at h;cases h
  ·rw[q]at h;cases h
 ·exact .inl ⟨o,h⟩
 ·exact .inr h
theorem tape_new{H:Hp}{a p:Addr}{ns:List Int}(hS:ScrV K H a ns)(h63:ns.length<=63)(hp:H p=none):TapeV K (upd H p (.lst [.ref a,.int 0,.int 0])) p a ns:=
 ⟨⟨0,0,zab,Int.le_refl _,Int.le_refl _⟩,hS.same (zad hp _),h63⟩
end
end Hs
namespace L2
open PySem PySem.Spec PyProof.Rows
section
variable{X:Cx}
theorem ix_seqK(K:W.Frag)(h:X.K=K:=by rfl):IxR X (rIx K):=by subst h;exact ix_seq
end
end L2
namespace Hs
open PySem L2 HsD
mutual
noncomputable def plainD:PyData->Bool
 | .int _=>true
 | .tuple ds=>plainDs ds
 | .list ds=>plainDs ds
 |_=>false
noncomputable def plainDs:List PyData->Bool
 |[]=>true
 |d::ds=>plainD d&&plainDs ds
end
theorem plain_get:∀{ds:List PyData} {i:Nat} {d:PyData},plainDs ds=true->ds[i]? =some d->plainD d=true
 |d::ds,0,e,h,q=>by
  simp at q;subst q
  rw[plainDs,Bool.and_eq_true]at h
  exact h.1
 |d::ds,i+1,e,h,q=>by
  rw[plainDs,Bool.and_eq_true]at h
  exact plain_get (i:=i) h.2 (by simpa using q)
theorem depth_get:∀{ds:List PyData} {i:Nat} {d:PyData},ds[i]? =some d->d.depth<=PyData.depthAll ds
 |d::ds,0,e,q=>by
  simp at q;subst q
  exact Nat.le_max_left _ _
 |d::ds,i+1,e,q=>Nat.le_trans (depth_get (i:=i) (by simpa using q)) (Nat.le_max_right _ _)
theorem DVs.get'{K:W.Frag}{H:Hp}:∀{xs:List V} {ds:List PyData} {i:Nat},DVs K H xs ds->i<ds.length->∃x d,xs[i]? =some x/\ds[i]? =some d/\DV K H x d
 |_,_,i,.nil,h=>by simp at h
 |_,_,0,.cons h _,_=>⟨_,_,rfl,rfl,h⟩
 |_,_,i+1,.cons _ t,h=>by
  obtain⟨x,d,h1,h2,h3⟩:=DVs.get' (i:=i) t (by simpa using h)
  exact⟨x,d,by simpa using h1,by simpa using h2,h3⟩
section
variable{P:Program}{w:World}{K:W.Frag}{mg:Str->Option Value}{base:Heap}
noncomputable def spSame(K:W.Frag)(k:Nat):Sp:=fun vs H Q _=>∃(x y:V) (d:PyData),vs=[x,y]/\DV K H x d/\DV K H y d/\plainD d=true/\d.depth<=k/\∀H',Same H H'->Q (.bl true) H'
theorem sc_same:FnScope ["found","due"] ["found","due"] (defScope zat):=⟨rfl,rfl,rfl,by decide+kernel,rfl,by decide+kernel,by decide+kernel⟩
noncomputable def SqA(K:W.Frag)(H:Hp)(a:Addr)(T:String)(xs:List V):Prop:=(T="tuple"/\SqT K H a xs)\/(T="list"/\SqL K H a xs)
theorem SqA.ix{H:Hp}{a:Addr}{T:String}{xs:List V}{i:Nat}{x:V}{Q:VK}(h:SqA K H a T xs)(e:xs[i]? =some x)(q:Q x H):rIx K (.ref a) (.int (0+(i:Int))) H Q:=by
 have ez:(0:Int)+(i:Int)=(i:Int):=by omega
 rw[ez]
 rcases h with⟨_,h⟩|⟨_,h⟩
 ·exact .inr (.inl ⟨a,xs,_,x,rfl,rfl,h,atI_nat e,q⟩)
 ·exact .inl ⟨a,xs,_,x,rfl,rfl,h,atI_nat e,q⟩
theorem SqA.same{H H':Hp}{a:Addr}{T:String}{xs:List V}(h:SqA K H a T xs)(e:Same H H'):SqA K H' a T xs:=by
 rcases h with⟨r,h⟩|⟨r,h⟩
 ·exact .inl ⟨r,e.tup h⟩
 ·exact .inr ⟨r,e.seq h⟩
theorem SqA.kind{H:Hp}{a:Addr}{T:String}{xs:List V}(h:SqA K H a T xs):KindV K H (.ref a) T:=by
 rcases h with⟨r,h⟩|⟨r,h⟩
 ·exact .inl ⟨r,_,h⟩
 ·exact .inr (.inl ⟨r,_,h⟩)
theorem SqA.any{H:Hp}{a:Addr}{T:String}{xs:List V}(h:SqA K H a T xs):SqL K H a xs\/SqT K H a xs:=by
 rcases h with⟨r,h⟩|⟨r,h⟩
 ·exact .inr h
 ·exact .inl h
theorem SqA.noint{H:Hp}{a:Addr}{T:String}{xs:List V}(h:SqA K H a T xs):isiB T "int"=false:=by
 rcases h with⟨rfl,h⟩|⟨rfl,h⟩<;>decide
theorem seq_of{H:Hp}{x y:V}{d:PyData}(hx:DV K H x d)(hy:DV K H y d)(hp:plainD d=true)(h:∀i,d≠.int i):
  ∃(a b:Addr) (T:String) (xs ys:List V) (ds:List PyData),x= .ref a/\y= .ref b/\SqA K H a T xs/\SqA K H b T ys/\DVs K H xs ds/\DVs K H ys ds/\plainDs ds=true/\d.depth=PyData.depthAll ds+1:=by
 cases hx with
 |int i=>exact absurd rfl (h i)
 |non=>simp[plainD]at hp
 |bl b=>simp[plainD]at hp
 |str b=>simp[plainD]at hp
 |dc0 h=>simp[plainD]at hp
 |dc1 h t=>simp[plainD]at hp
 |tup h1 t1=>
  cases hy with
  |tup h2 t2=>exact⟨_,_,"tuple",_,_,_,rfl,rfl,.inl ⟨rfl,h1⟩,.inl ⟨rfl,h2⟩,t1,t2,by rw[plainD]at hp;exact hp,rfl⟩
 |lst h1 t1=>
  cases hy with
  |lst h2 t2=>exact⟨_,_,"list",_,_,_,rfl,rfl,.inr ⟨rfl,h1⟩,.inr ⟨rfl,h2⟩,t1,t2,by rw[plainD]at hp;exact hp,rfl⟩
theorem ok_same{f:Addr}{fd:FuncData}(D:Dfn K mg "_law_b_same" zat ["found","due"] f fd)(mi:mg "isinstance"=none)(mI:mg "int"=none)(mB:mg "bool"=none)(mT:mg "tuple"=none)(mLi:mg "list"=none)(mL:mg "len"=none)(mA:mg "all"=none)(mR:mg "range"=none):
  ∀k:Nat,FnOk P w K mg base CX0 (k+1) f fd ["found","due"] (spSame K k):=by
 intro k
 induction k with
 |zero=>
  refine D.F.ok sc_same (fun vs H Q E h=> ?_) (fun cdv A outer s H vs Q E hr h=> ?_)
  ·obtain⟨x,y,d,rfl,_⟩:=h
   rfl
  obtain⟨x,y,d,rfl,hx,hy,hp,hd,q⟩:=h
  refine⟨_,zae (zcp (pt_val (zaf zbf rfl mi (by decide+kernel) (zaa (pv 1) (zaa (zbk rfl mI (v:= .ty "int") (by decide+kernel) rfl) zac)))) (zah (zbb (zcy (zaf zbf rfl mi (by decide+kernel) (zaa (pv 0) (zaa (zbk rfl mI (v:= .ty "int") (by decide+kernel) rfl) zac)))
     (zcy (zcs op_eq (zaf zbf rfl mi (by decide+kernel) (zaa (pv 0) (zaa (zbk rfl mB (v:= .ty "bool") (by decide+kernel) rfl) zac))) (zaf zbf rfl mi (by decide+kernel) (zaa (pv 1) (zaa (zbk rfl mB (v:= .ty "bool") (by decide+kernel) rfl) zac))) (nomark _))
     (pe_one (zcs op_eq (pv 0) (pv 1) (nomark _))))))) zbi) (zae ps_never (zah ps_never)),?_⟩
  cases hx with
  |int i=>
   cases hy
   refine⟨_,rfl,.int i,"int",_,rfl,rfl,.inl rfl,_,rfl,?_⟩
   refine iteT ?_
   refine⟨_,rfl,.int i,"int",_,rfl,rfl,.inl rfl,_,rfl,?_⟩
   refine iteT ?_
   refine⟨_,rfl,.int i,"int",_,rfl,rfl,.inr (.inl rfl),_,rfl,.int i,"int",_,rfl,rfl,.inr (.inl rfl),rfl,_,rfl,?_⟩
   rw[decide_eq_true rfl]
   refine iteT ?_
   refine⟨_,rfl,_,rfl,rfl,?_⟩
   rw[decide_eq_true rfl]
   exact q _ (Same.refl _)
  |_=>first |(simp[plainD]at hp;done)|(simp[PyData.depth]at hd;done)
 |succ k ih=>
  refine D.F.ok sc_same (fun vs H Q E h=> ?_) (fun cdv A outer s H vs Q E hr h=> ?_)
  ·obtain⟨x,y,d,rfl,_⟩:=h
   rfl
  obtain⟨x,y,d,rfl,hx,hy,hp,hd,q⟩:=h
  refine⟨_,zae (zcp (pt_val (zaf zbf rfl mi (by decide+kernel) (zaa (pv 1) (zaa (zbk rfl mI (v:= .ty "int") (by decide+kernel) rfl) zac)))) (zah (zbb (zcy (zaf zbf rfl mi (by decide+kernel) (zaa (pv 0) (zaa (zbk rfl mI (v:= .ty "int") (by decide+kernel) rfl) zac)))
     (zcy (zcs op_eq (zaf zbf rfl mi (by decide+kernel) (zaa (pv 0) (zaa (zbk rfl mB (v:= .ty "bool") (by decide+kernel) rfl) zac))) (zaf zbf rfl mi (by decide+kernel) (zaa (pv 1) (zaa (zbk rfl mB (v:= .ty "bool") (by decide+kernel) rfl) zac))) (nomark _))
     (pe_one (zcs op_eq (pv 0) (pv 1) (nomark _))))))) zbi) (zae (zcp (PW.pt (pw_or (zbh op_ne (zaf zbf rfl mi (by decide+kernel) (zaa (pv 1) (zaa (zbk rfl mT (v:= .ty "tuple") (by decide+kernel) rfl) zac))) (zaf zbf rfl mi (by decide+kernel) (zaa (pv 0) (zaa (zbk rfl mT (v:= .ty "tuple") (by decide+kernel) rfl) zac))) (nomark _))
     (pw_or1 (zbh op_ne (zaf zbf rfl mi (by decide+kernel) (zaa (pv 1) (zaa (zbk rfl mLi (v:= .ty "list") (by decide+kernel) rfl) zac))) (zaf zbf rfl mi (by decide+kernel) (zaa (pv 0) (zaa (zbk rfl mLi (v:= .ty "list") (by decide+kernel) rfl) zac))) (nomark _))))) (zah (zbb pe_bl)) zbi) (zah (zbb (zcy (zcs op_eq (zaf zbc rfl mL PySem.boot_len (zaa (pv 0) zac)) (zaf zbc rfl mL PySem.boot_len (zaa (pv 1) zac)) (nomark _))
    (pe_one (zaf (call_all rfl) rfl mA (by decide+kernel) (zaa (zbv (own:=["k"]) (caps:=["found","due"]) (ix:=[0,1]) rfl (zbn rfl mR (zaa (zaf zbc rfl mL PySem.boot_len (zaa (pv 1) zac)) zac)) rfl rfl (.cons rfl rfl (.cons rfl rfl .nil)) (fun _ _ _ _ _=>zay (i:=0) (show(["k","found","due"]:List Str).Nodup from by decide+kernel) rfl (Or.inl rfl)) (fun _ _ _ _ _=>zdc) (fun _ _ _ _ _=>zal ih hr rfl D.m D.F.kp D.b .nil pass0 (zaa (zch (ix_seqK K) (pv 1) (pv 0) (fun _ _=>rfl)) (zaa (zch (ix_seqK K) (pv 2) (pv 0) (fun _ _=>rfl)) zac)))) zac))))))),?_⟩
  by_cases hi:∃i,d= .int i
  ·obtain⟨i,rfl⟩:=hi
   cases hx
   cases hy
   refine⟨_,rfl,.int i,"int",_,rfl,rfl,.inl rfl,_,rfl,?_⟩
   refine iteT ?_
   refine⟨_,rfl,.int i,"int",_,rfl,rfl,.inl rfl,_,rfl,?_⟩
   refine iteT ?_
   refine⟨_,rfl,.int i,"int",_,rfl,rfl,.inr (.inl rfl),_,rfl,.int i,"int",_,rfl,rfl,.inr (.inl rfl),rfl,_,rfl,?_⟩
   rw[decide_eq_true rfl]
   refine iteT ?_
   refine⟨_,rfl,_,rfl,rfl,?_⟩
   rw[decide_eq_true rfl]
   exact q _ (Same.refl _)
  ·obtain⟨a,b,T,xs,ys,ds,rfl,rfl,ha,hb,t1,t2,hps,hdp⟩:=seq_of hx hy hp (fun i e=>hi ⟨i,e⟩)
   refine⟨_,rfl,.ref b,T,_,rfl,hb.kind,.inl rfl,_,rfl,?_⟩
   rw[hb.noint]
   refine iteF ?_
   refine⟨_,rfl,.ref b,T,_,rfl,hb.kind,.inr (.inr (.inl rfl)),_,rfl,.ref a,T,_,rfl,ha.kind,.inr (.inr (.inl rfl)),rfl,_,rfl,?_⟩
   refine iteNS rfl ?_
   refine⟨_,rfl,.ref b,T,_,rfl,hb.kind,.inr (.inr (.inr rfl)),_,rfl,.ref a,T,_,rfl,ha.kind,.inr (.inr (.inr rfl)),rfl,_,rfl,?_⟩
   refine iteNS rfl ?_
   refine⟨_,rfl,a,xs,rfl,ha.any,fun hz1=>⟨_,rfl,b,ys,rfl,hb.any,fun hz2=>⟨rfl,_,rfl,?_⟩⟩⟩
   have hl1:=t1.len
   have hl2:=t2.len
   rw[decide_eq_true (show V.int (xs.length:Int)=V.int (ys.length:Int) by rw[hl1,hl2])]
   refine iteT ?_
   refine⟨_,rfl,b,ys,rfl,hb.any,fun _=>⟨_,rfl,by omega,by omega,?_⟩⟩
   refine zcd (n:=((ys.length:Nat):Int).toNat) (fun i acc σ H'=>acc=(List.replicate i true).map V.bl/\Same H H'/\∃o,σ=[o,some (.ref a),some (.ref b)]) ⟨rfl,Same.refl _,_,rfl⟩ (fun i acc σ H' _ p=>by rw[p.1];simp) (by rw[sizeLine_eq];omega) (fun i acc σ H' hi2 p=> ?_) (fun acc σ H' p=> ?_)
   ·obtain⟨rfl,sm,o,rfl⟩:=p
    have hid:i<ds.length:=by omega
    obtain⟨x1,d1,e1,e2,e3⟩:=DVs.get' t1 hid
    obtain⟨x2,d2,e4,e5,e6⟩:=DVs.get' t2 hid
    have ed:d1=d2:=by rw[e2]at e5;cases e5;rfl
    subst ed
    refine⟨_,rfl,_,rfl,(ha.same sm).ix e1 ⟨_,rfl,_,rfl,(hb.same sm).ix e4 ?_⟩⟩
    have dd:=depth_get e2
    refine⟨x1,x2,d1,rfl,e3.same sm,e6.same sm,plain_get hps e2,by omega,fun H2 s2=>⟨?_,sm.trans s2,_,rfl⟩⟩
    rw[List.replicate_succ']
    simp
   ·intro p1 hp1
    obtain⟨rfl,sm,_⟩:=p
    refine⟨p1,_,rfl,SqL.of zab,?_⟩
    have e2:∀n:Nat,(List.replicate n true).all id=true:=by
     intro n
     rw[List.all_eq_true]
     intro x hx
     rw[List.eq_of_mem_replicate hx]
     rfl
    rw[e2]
    exact q _ (sm.trans (zad hp1 _))
end
end Hs
namespace Hs
open PySem L2 HsD
noncomputable def lt2(p q:Int×Int):Prop:=p.1<q.1\/(p.1=q.1/\p.2<q.2)
theorem lt2.trans{p q r:Int×Int}(a:lt2 p q)(b:lt2 q r):lt2 p r:=by
 unfold lt2 at *;omega
theorem lt2.irr{p:Int×Int}(a:lt2 p p):False:=by
 unfold lt2 at a;omega
theorem zdh:∀{l m:List (Int×Int)},l.Pairwise lt2->m.Pairwise lt2->(∀p,p∈l↔p∈m)->l=m
 |[],[],_,_,_=>rfl
 |[],q::m,_,_,h=>absurd ((h q).mpr (List.mem_cons_self ..)) (by simp)
 |p::l,[],_,_,h=>absurd ((h p).mp (List.mem_cons_self ..)) (by simp)
 |p::l,q::m,hl,hm,h=>by
  rw[List.pairwise_cons]at hl hm
  have e:p=q:=by
   rcases List.mem_cons.mp ((h p).mp (List.mem_cons_self ..))with e|e
   ·exact e
   rcases List.mem_cons.mp ((h q).mpr (List.mem_cons_self ..))with e'|e'
   ·exact e'.symm
   exact(lt2.irr ((hl.1 _ e').trans (hm.1 _ e))).elim
  subst e
  have:l=m:=zdh hl.2 hm.2 (fun r=>by
   have hr:=h r
   rw[List.mem_cons,List.mem_cons]at hr
   constructor
   ·intro hi
    rcases hr.mp (.inr hi)with e|e
    ·subst e;exact(lt2.irr (hl.1 _ hi)).elim
    ·exact e
   ·intro hi
    rcases hr.mpr (.inr hi)with e|e
    ·subst e;exact(lt2.irr (hm.1 _ hi)).elim
    ·exact e)
  rw[this]
noncomputable def row(so:Int->Int->Bool)(i:Int)(k:Nat):List (Int×Int):=((List.range k).map fun(t:Nat)=>(i,i+1+(t:Int))).filter fun p=>so p.1 p.2
noncomputable def rows(so:Int->Int->Bool)(m:Int)(i:Nat):List (Int×Int):=((List.range i).map fun(t:Nat)=>row so (0+(t:Int)) (m-(0+(t:Int)+1)).toNat).flatten
theorem row_succ(so:Int->Int->Bool)(i:Int)(k:Nat):row so i (k+1)=row so i k++(if so i (i+1+(k:Int))=true then[(i,i+1+(k:Int))]else[]):=by
 unfold row
 rw[List.range_succ,List.map_append,List.filter_append]
 congr 1
 show List.filter _ [(i,i+1+(k:Int))]=_
 rw[List.filter_cons]
 rfl
theorem zcv(so:Int->Int->Bool)(m:Int)(i:Nat):rows so m (i+1)=rows so m i++row so (0+(i:Int)) (m-(0+(i:Int)+1)).toNat:=by
 unfold rows
 rw[List.range_succ,List.map_append,List.flatten_append]
 simp
theorem mem_row{so:Int->Int->Bool}{i:Int}{k:Nat}{p:Int×Int}:p∈row so i k↔p.1=i/\i<p.2/\p.2<i+1+(k:Int)/\so p.1 p.2=true:=by
 unfold row
 rw[List.mem_filter,List.mem_map]
 constructor
 ·rintro⟨⟨t,ht,rfl⟩,h⟩
  rw[List.mem_range]at ht
  exact⟨rfl,by show i<i+1+(t:Int);omega,by show i+1+(t:Int)<_;omega,h⟩
 ·rintro⟨h1,h2,h3,h4⟩
  refine⟨⟨(p.2-i-1).toNat,by rw[List.mem_range];omega,?_⟩,h4⟩
  apply Prod.ext
  ·exact h1.symm
  ·show i+1+(((p.2-i-1).toNat:Nat):Int)=p.2;omega
theorem zcn{so:Int->Int->Bool}{m:Int}:∀{i:Nat} {p:Int×Int},p∈rows so m i↔0<=p.1/\p.1<(i:Int)/\p.1<p.2/\p.2<m/\so p.1 p.2=true
 |0,p=>by
  constructor
  ·intro h;simp[rows]at h
  ·intro h;omega
 |i+1,p=>by
  rw[zcv,List.mem_append,zcn (i:=i),mem_row]
  constructor
  ·rintro(h|h)
   ·exact⟨h.1,by omega,h.2.2⟩
   ·exact⟨by omega,by omega,by omega,by omega,h.2.2.2⟩
  ·rintro⟨h1,h2,h3,h4,h5⟩
   by_cases e:p.1<(i:Int)
   ·exact .inl ⟨h1,e,h3,h4,h5⟩
   ·exact .inr ⟨by omega,by omega,by omega,h5⟩
theorem row_sorted(so:Int->Int->Bool)(i:Int)(k:Nat):(row so i k).Pairwise lt2:=by
 unfold row
 refine List.Pairwise.filter _ ?_
 rw[List.pairwise_map]
 exact List.pairwise_lt_range.imp fun h=> .inr ⟨rfl,by show i+1+_<i+1+_;omega⟩
theorem zcf(so:Int->Int->Bool)(m:Int):∀i:Nat,(rows so m i).Pairwise lt2
 |0=>by unfold rows;exact List.Pairwise.nil
 |i+1=>by
  rw[zcv,List.pairwise_append]
  refine⟨zcf so m i,row_sorted so _ _,fun p hp q hq=> ?_⟩
  rw[zcn]at hp
  rw[mem_row]at hq
  exact .inl (by omega)
theorem rows_ok{so:Int->Int->Bool}{m:Int}{i:Nat}:PairsOk m (rows so m i):=
 ⟨(zcf so m i).imp fun h e=>by subst e;exact lt2.irr h,fun p hp=>by rw[zcn]at hp;exact⟨hp.1,hp.2.2.1,hp.2.2.2.1⟩⟩
end Hs
namespace L2
open PySem
theorem DVs.get'{K:W.Frag}{H:Hp}:∀{xs:List V} {ds:List PyData} {i:Nat},DVs K H xs ds->i<ds.length->∃x d,xs[i]? =some x/\ds[i]? =some d/\DV K H x d
 |_,_,i,.nil,h=>by simp at h
 |_,_,0,.cons h _,_=>⟨_,_,rfl,rfl,h⟩
 |_,_,i+1,.cons _ t,h=>by
  obtain⟨x,d,h1,h2,h3⟩:=DVs.get' (i:=i) t (by simpa using h)
  exact⟨x,d,by simpa using h1,by simpa using h2,h3⟩
end L2
namespace Hs
open PySem L2 HsD
theorem web_depth4(n:Int)(ts:List (Int×Int)):(webDat n ts).depth<=3:=by
 have h:=pairs_depth ts
 show max 0 (max (PyData.depthAll (ts.map pairD)+1) 0)+1<=3
 omega
structure WebIs(K:W.Frag)(H:Hp)(a:Addr)(n:Int)(ts:List (Int×Int)):Prop where
 web:WebV K H a n ts
 h0:0<=n
 h1:n<=10
 pk:PairsOk n ts
 ok:WebOk n ts
theorem WebIs.same{K:W.Frag}{H H':Hp}{a:Addr}{n:Int}{ts:List (Int×Int)}(h:WebIs K H a n ts)(e:Same H H'):WebIs K H' a n ts:=⟨h.web.same e,h.h0,h.h1,h.pk,h.ok⟩
theorem WebIs.len{K:W.Frag}{H:Hp}{a:Addr}{n:Int}{ts:List (Int×Int)}(h:WebIs K H a n ts):ts.length<=45:=pairs_len h.pk h.h1
section
variable{K:W.Frag}{H:Hp}{a b:Addr}{n1 n2:Int}{t1 t2:List (Int×Int)}
end
end Hs
namespace Hs
open PySem L2 HsD
noncomputable def tt(_ _:Int):Bool:=true
theorem rows_filter{so:Int->Int->Bool}{m:Int}{i:Nat}:(rows tt m i).filter (fun p=>so p.1 p.2)=rows so m i:=by
 refine zdh ((zcf _ _ _).filter _) (zcf _ _ _) fun p=> ?_
 rw[List.mem_filter,zcn,zcn]
 constructor
 ·rintro⟨⟨a,b,c,d,_⟩,e⟩;exact⟨a,b,c,d,e⟩
 ·rintro⟨a,b,c,d,e⟩;exact⟨⟨a,b,c,d,rfl⟩,e⟩
section
variable{P:Program}{w:World}{K:W.Frag}{mg:Str->Option Value}{base:Heap}
structure LstP(K:W.Frag)(H:Hp)(l:Addr)(ps:List (Int×Int)):Prop where
 ex:∃rs,H l=some (.lst rs)/\DVs K H rs (ps.map pairD)
theorem LstP.same{H H':Hp}{l:Addr}{ps:List (Int×Int)}(h:LstP K H l ps)(e:Same H H'):LstP K H' l ps:=by
 obtain⟨rs,h1,h2⟩:=h.ex
 exact⟨rs,e _ _ h1,h2.same e⟩
noncomputable def spAllP(K:W.Frag):Sp:=fun vs H Q _=>∃(n:Int),vs=[.int n]/\0<=n/\n<=10/\∀l H',Same H H'->LstP K H' l (rows tt n n.toNat)->Q (.ref l) H'
theorem sc_allp:FnScope ["n","found","one"] ["n"] (defScope zci):=⟨rfl,rfl,rfl,by decide+kernel,rfl,by decide+kernel,by decide+kernel⟩
theorem ok_allp{f:Addr}{fd:FuncData}(F:Fun K "pairs" "pairs" zci f fd)(mR:mg "range"=none):FnOk P w K mg base CX0 1 f fd ["n"] (spAllP K):=by
 refine F.ok sc_allp (fun vs H Q E h=> ?_) (fun cdv A outer s H vs Q E hr h=> ?_)
 ·obtain⟨n,rfl,_⟩:=h
  rfl
 obtain⟨n,rfl,hn0,hn1,q⟩:=h
 refine⟨_,zae (zar (i:=1) sc_allp.nd rfl (Or.inl rfl) (zbx zac)) (zae (zdg PassesOwn.never rfl (zbn rfl mR (zaa (pv 0) zac)) (zay (i:=2) sc_allp.nd rfl (Or.inr rfl)) (zah (zcg (pe_bm PySem.F.plainAttrs_list PySem.F.slot_list_extend PySem.F.type_list_extend mt_extend (pv 1) (zaa
    (zbv (own:=["other"]) (caps:=["one"]) (ix:=[2]) rfl (pi_range2 rfl mR (zaa (zao zbp (pv 2) zag) (zaa (pv 0) zac))) rfl rfl (.cons rfl rfl .nil) (fun _ _ _ _ _=>zay (i:=0) (show(["other","one"]:List Str).Nodup from by decide+kernel) rfl (Or.inl rfl)) (fun _ _ _ _ _=>zdc) (fun _ _ _ _ _=>zbt (zaa (pv 1) (zaa (pv 0) zac)))) zac))))) (zah (zbb (pv 1)))),?_⟩
 refine⟨(by show 0<=sizeLine;decide),fun l hl=> ?_⟩
 refine⟨_,rfl,n,rfl,by omega,by omega,?_⟩
 refine zbw (n:=n.toNat) (fun i σ H'=>Same H H'/\(∃rs,H' l=some (.lst rs)/\DVs K H' rs ((rows tt n i).map pairD))/\∃o,σ=[some (.int n),some (.ref l),o]) ⟨zad hl _,⟨[],zab,.nil⟩,_,rfl⟩ (fun i σ H' hi p=> ?_) (fun σ H' p=> ?_)
 ·obtain⟨sm,⟨rs,hr1,hr2⟩,o,rfl⟩:=p
  have hlen:=hr2.len
  rw[List.length_map]at hlen
  have h45:=pairs_len (rows_ok (so:=tt) (m:=n) (i:=i)) hn1
  refine⟨_,rfl,.inl ⟨rfl,_,SqL.of hr1⟩,_,rfl,_,_,rfl,rfl,_,rfl,_,_,rfl,⟨by omega,by omega,by omega,by omega⟩,?_⟩
  refine zcd (n:=(n-(0+(i:Int)+1)).toNat) (fun k acc σ H2=>Same H' H2/\acc.length=k/\DVs K H2 acc ((row tt (0+(i:Int)) k).map pairD)/\∃o1,σ=[o1,some (.int (0+(i:Int)))]) ⟨Same.refl _,rfl,.nil,_,rfl⟩ (fun k acc σ H2 hk p=>by rw[p.2.1];exact Nat.le_refl _) (by rw[sizeLine_eq];omega) (fun k acc σ H2 hk p=> ?_) (fun acc σ H2 p=> ?_)
  ·obtain⟨s2,hl2,hd,o1,rfl⟩:=p
   refine⟨_,rfl,_,rfl,(by show 2<=sizeLine;decide),fun p hp=> ?_⟩
   have s3:=zad hp (.tup [.int (0+(i:Int)),.int (0+(i:Int)+1+(k:Int))])
   refine⟨s2.trans s3,by rw[List.length_append,hl2];rfl,?_,_,rfl⟩
   rw[row_succ,List.map_append,if_pos (show tt (0+(i:Int)) (0+(i:Int)+1+(k:Int))=true from rfl)]
   exact(hd.same s3).append (.cons (.tup (SqT.of zab) (.cons (.int _) (.cons (.int _) .nil))) .nil)
  ·intro p1 hp1
   obtain⟨s2,hl2,hd,_⟩:=p
   have s3:=zad hp1 (.lst acc)
   have hr3:=s3 _ _ (s2 _ _ hr1)
   refine⟨l,p1,rs,acc,rfl,rfl,hr3,zab,?_,?_⟩
   ·rw[sizeLine_eq];omega
   ·have x4:SameX l (upd H2 p1 (.lst acc)) (upd (upd H2 p1 (.lst acc)) l (.lst (rs++acc))):=(SameX.refl _ _).upd
    refine⟨?_,⟨_,zab,?_⟩,_,rfl⟩
    ·intro b o hb
     have nb:b≠l:=fun e=>by rw[e,hl]at hb;cases hb
     exact x4 _ _ nb (s3 _ _ (s2 _ _ (sm _ _ hb)))
    ·rw[zcv]
     exact zct x4 hr3 (by rw[List.map_append];exact((hr2.same s2).same s3).append (hd.same s3))
 ·obtain⟨sm,⟨rs,hr1,hr2⟩,o,rfl⟩:=p
  exact⟨_,rfl,q l _ sm ⟨rs,hr1,hr2⟩⟩
theorem pair_at{H:Hp}{rs:List V}{ps:List (Int×Int)}{i:Nat}{x:V}(h:DVs K H rs (ps.map pairD))(hx:rs[i]? =some x):∃(t:Addr) (hi:i<ps.length),x= .ref t/\SqT K H t [.int (ps[i]).1,.int (ps[i]).2]:=by
 have hlen:=h.len
 rw[List.length_map]at hlen
 have hi:i<ps.length:=by rw[<-hlen];exact(List.getElem?_eq_some_iff.mp hx).1
 obtain⟨x',d,e1,e2,e3⟩:=DVs.get' (i:=i) h (by rw[List.length_map];exact hi)
 rw[hx]at e1;cases e1
 rw[List.getElem?_map,List.getElem?_eq_getElem hi]at e2
 cases e2
 cases e3 with
 |tup hp tp=>
  cases tp with
  |cons ta tb=>
   cases tb with
   |cons tc td=>
    cases td
    cases ta
    cases tc
    exact⟨_,hi,rfl,hp⟩
end
end Hs
namespace Hs
open PySem L2 HsD
section
variable{P:Program}{w:World}{K:W.Frag}{mg:Str->Option Value}{base:Heap}
structure Kinds(K:W.Frag)(cs:List Addr)(C:Addr)(bs:List Bool):Prop where
 ok:ExcCls K C
 one:PySem.W.kitOne K (.ref C) (.type "ValueError")=some true
 len:cs.length=9
 get:∀(i:Nat) (c:Addr),cs[i]? =some c->∃b,bs[i]? =some b/\PySem.W.kitOne K (.ref C) (.ref c)=some b
 lenB:bs.length=9
theorem kinds_mk{c0 c1 c2 c3 c4 c5 c6 c7 c8 C:Addr}{b0 b1 b2 b3 b4 b5 b6 b7 b8:Bool}(ok:ExcCls K C)(one:PySem.W.kitOne K (.ref C) (.type "ValueError")=some true)(k0:PySem.W.kitOne K (.ref C) (.ref c0)=some b0)(k1:PySem.W.kitOne K (.ref C) (.ref c1)=some b1)(k2:PySem.W.kitOne K (.ref C) (.ref c2)=some b2)(k3:PySem.W.kitOne K (.ref C) (.ref c3)=some b3)(k4:PySem.W.kitOne K (.ref C) (.ref c4)=some b4)(k5:PySem.W.kitOne K (.ref C) (.ref c5)=some b5)(k6:PySem.W.kitOne K (.ref C) (.ref c6)=some b6)(k7:PySem.W.kitOne K (.ref C) (.ref c7)=some b7)(k8:PySem.W.kitOne K (.ref C) (.ref c8)=some b8):
  Kinds K [c0,c1,c2,c3,c4,c5,c6,c7,c8] C [b0,b1,b2,b3,b4,b5,b6,b7,b8]:=
 ⟨ok,one,rfl,(fun i c e=>by
  match i,e with
  |0,e=>cases e;exact⟨_,rfl,k0⟩
  |1,e=>cases e;exact⟨_,rfl,k1⟩
  |2,e=>cases e;exact⟨_,rfl,k2⟩
  |3,e=>cases e;exact⟨_,rfl,k3⟩
  |4,e=>cases e;exact⟨_,rfl,k4⟩
  |5,e=>cases e;exact⟨_,rfl,k5⟩
  |6,e=>cases e;exact⟨_,rfl,k6⟩
  |7,e=>cases e;exact⟨_,rfl,k7⟩
  |8,e=>cases e;exact⟨_,rfl,k8⟩
  |_+9,e=>cases e),rfl⟩
noncomputable def spKinds(K:W.Frag)(cs:List Addr):Sp:=fun vs H Q _=>∃(a C:Addr) (bs:List Bool),vs=[.ref a]/\H a=some (ExcO a C)/\Kinds K cs C bs/\∀r H',Same H H'->H' r=some (.lst (bs.map V.bl))->Q (.ref r) H'
theorem sc_kinds:FnScope ["e","kinds"] ["e"] (defScope zav):=⟨rfl,rfl,rfl,by decide+kernel,rfl,by decide+kernel,by decide+kernel⟩
theorem ok_kinds{f c0 c1 c2 c3 c4 c5 c6 c7 c8:Addr}{fd:FuncData}(F:Fun K "_law_b_kinds" "_law_b_kinds" zav f fd)(mi:mg "isinstance"=none)(m0:mg "NoFold"=some (.ref c0))(m1:mg "NoNumber"=some (.ref c1))(m2:mg "NoPlace"=some (.ref c2))(m3:mg "NoRow"=some (.ref c3))(m4:mg "NoText"=some (.ref c4))(m5:mg "NoTie"=some (.ref c5))(m6:mg "NoWants"=some (.ref c6))(m7:mg "NoWeb"=some (.ref c7))(m8:mg "TooMany"=some (.ref c8)):
  FnOk P w K mg base CX0 1 f fd ["e"] (spKinds K [c0,c1,c2,c3,c4,c5,c6,c7,c8]):=by
 refine F.ok sc_kinds (fun vs H Q E h=> ?_) (fun cdv A outer s H vs Q E hr h=> ?_)
 ·obtain⟨a,C,bs,rfl,_⟩:=h
  rfl
 obtain⟨a,C,bs,rfl,hA,hK,q⟩:=h
 refine⟨_,zae (zar (i:=1) sc_kinds.nd rfl (Or.inl rfl) (zbx (zaa (zaf zbo rfl mi (by decide+kernel) (zaa (pv 0) (zaa (zbj rfl m0 (v:= .ref c0) rfl) zac))) (zaa (zaf zbo rfl mi (by decide+kernel) (zaa (pv 0) (zaa (zbj rfl m1 (v:= .ref c1) rfl) zac)))
   (zaa (zaf zbo rfl mi (by decide+kernel) (zaa (pv 0) (zaa (zbj rfl m2 (v:= .ref c2) rfl) zac))) (zaa (zaf zbo rfl mi (by decide+kernel) (zaa (pv 0) (zaa (zbj rfl m3 (v:= .ref c3) rfl) zac))) zac)))))) (zae (zar (i:=1) sc_kinds.nd rfl (Or.inl rfl) (zao op_cat (pv 1) (zbx (zaa (zaf zbo rfl mi (by decide+kernel) (zaa (pv 0) (zaa (zbj rfl m4 (v:= .ref c4) rfl) zac))) (zaa (zaf zbo rfl mi (by decide+kernel) (zaa (pv 0) (zaa (zbj rfl m5 (v:= .ref c5) rfl) zac)))
   (zaa (zaf zbo rfl mi (by decide+kernel) (zaa (pv 0) (zaa (zbj rfl m6 (v:= .ref c6) rfl) zac))) (zaa (zaf zbo rfl mi (by decide+kernel) (zaa (pv 0) (zaa (zbj rfl m7 (v:= .ref c7) rfl) zac))) zac))))))) (zah (zbb (zao op_cat (pv 1) (zbx (zaa (zaf zbo rfl mi (by decide+kernel) (zaa (pv 0) (zaa (zbj rfl m8 (v:= .ref c8) rfl) zac))) zac)))))),?_⟩
 obtain⟨b0,e0,k0⟩:=hK.get 0 _ rfl
 obtain⟨b1,e1,k1⟩:=hK.get 1 _ rfl
 obtain⟨b2,e2,k2⟩:=hK.get 2 _ rfl
 obtain⟨b3,e3,k3⟩:=hK.get 3 _ rfl
 obtain⟨b4,e4,k4⟩:=hK.get 4 _ rfl
 obtain⟨b5,e5,k5⟩:=hK.get 5 _ rfl
 obtain⟨b6,e6,k6⟩:=hK.get 6 _ rfl
 obtain⟨b7,e7,k7⟩:=hK.get 7 _ rfl
 obtain⟨b8,e8,k8⟩:=hK.get 8 _ rfl
 have hbs:bs=[b0,b1,b2,b3,b4,b5,b6,b7,b8]:=by
  refine List.ext_getElem? fun i=> ?_
  by_cases hi:i<9
  ·match i,hi with
   |0,_=>exact e0
   |1,_=>exact e1
   |2,_=>exact e2
   |3,_=>exact e3
   |4,_=>exact e4
   |5,_=>exact e5
   |6,_=>exact e6
   |7,_=>exact e7
   |8,_=>exact e8
  ·rw[List.getElem?_eq_none (by have:=hK.lenB;omega),List.getElem?_eq_none (by show 9<=i;omega)]
 have ok:=hK.ok
 refine⟨_,rfl,a,C,c0,b0,rfl,hA,ok,k0,_,rfl,a,C,c1,b1,rfl,hA,ok,k1,_,rfl,a,C,c2,b2,rfl,hA,ok,k2,_,rfl,a,C,c3,b3,rfl,hA,ok,k3,(by show 4<=sizeLine;decide),fun l hl=> ?_⟩
 have s1:=zad hl (.lst [.bl b0,.bl b1,.bl b2,.bl b3])
 have hA1:=s1 _ _ hA
 refine⟨_,rfl,_,rfl,a,C,c4,b4,rfl,hA1,ok,k4,_,rfl,a,C,c5,b5,rfl,hA1,ok,k5,_,rfl,a,C,c6,b6,rfl,hA1,ok,k6,_,rfl,a,C,c7,b7,rfl,hA1,ok,k7,(by show 4<=sizeLine;decide),fun l2 hl2=> ?_⟩
 have s2:=zad hl2 (.lst [.bl b4,.bl b5,.bl b6,.bl b7])
 refine⟨l,l2,_,_,rfl,rfl,s2 _ _ zab,zab,(by show 8<=sizeLine;decide),fun l3 hl3=> ?_⟩
 have s3:=zad hl3 (.lst ([.bl b0,.bl b1,.bl b2,.bl b3]++[.bl b4,.bl b5,.bl b6,.bl b7]))
 have hA3:=s3 _ _ (s2 _ _ hA1)
 refine⟨_,rfl,_,rfl,a,C,c8,b8,rfl,hA3,ok,k8,(by show 1<=sizeLine;decide),fun l4 hl4=> ?_⟩
 have s4:=zad hl4 (.lst [.bl b8])
 refine⟨l3,l4,_,_,rfl,rfl,s4 _ _ zab,zab,(by show 9<=sizeLine;decide),fun l5 hl5=> ?_⟩
 have s5:=zad hl5 (.lst (([.bl b0,.bl b1,.bl b2,.bl b3]++[.bl b4,.bl b5,.bl b6,.bl b7])++[.bl b8]))
 refine q l5 _ (s1.trans (s2.trans (s3.trans (s4.trans s5)))) ?_
 rw[hbs]
 exact zab
noncomputable def words:List Str:=["fold","number","place","row","text","tie","wants","web","many"]
noncomputable def spWord(K:W.Frag)(cs:List Addr):Sp:=fun vs H Q _=>∃(a C:Addr) (bs:List Bool) (j:Nat) (x:Str),vs=[.ref a]/\H a=some (ExcO a C)/\Kinds K cs C bs/\bs.countP id=1/\bs[j]? =some true/\(∀m,m<j->bs[m]? =some false)/\words[j]? =some x/\∀H',Same H H'->Q (.str x) H'
theorem sc_word:FnScope ["e","kinds"] ["e"] (defScope zaz):=⟨rfl,rfl,rfl,by decide+kernel,rfl,by decide+kernel,by decide+kernel⟩
theorem ok_word{f f1:Addr}{fd d1:FuncData}{cs:List Addr}(F:Fun K "_law_b_word" "_law_b_word" zaz f fd)(D1:Dfn K mg "_law_b_kinds" zav ["e"] f1 d1)(G1:FnOk P w K mg base CX0 1 f1 d1 ["e"] (spKinds K cs))(mi:mg "isinstance"=none)(mV:mg "ValueError"=none):
  FnOk P w K mg base CX0 2 f fd ["e"] (spWord K cs):=by
 refine F.ok sc_word (fun vs H Q E h=> ?_) (fun cdv A outer s H vs Q E hr h=> ?_)
 ·obtain⟨a,C,bs,j,x,rfl,_⟩:=h
  rfl
 obtain⟨a,C,bs,j,x,rfl,hA,hK,h1,h2,h3,h4,q⟩:=h
 refine⟨_,zae (zcp (zbh op_isN (pv 0) pe_non (nomark _)) (zah (zbb zcb)) zbi) (zae (zar (i:=1) sc_word.nd rfl (Or.inl rfl) (zal G1 hr rfl D1.m D1.F.kp D1.b .nil pass0 (zaa (pv 0) zac))) (zae (zcp (PW.pt (pw_or (zbh op_ne (pe_bm PySem.F.plainAttrs_list PySem.F.slot_list_count PySem.F.type_list_count mt_count (pv 1) (zaa pe_bl zac)) zag (nomark _)) (pw_or1 (pt_not (pt_val (zaf call_isiT rfl mi (by decide+kernel) (zaa (pv 0) (zaa (zbk rfl mV (v:= .ty "ValueError") (by decide+kernel) rfl) zac)))))))) (zah (zbb zcb)) zbi) (zah (zbb (zch zbl (zbx (zaa zcb (zaa zcb (zaa zcb (zaa zcb (zaa zcb (zaa zcb (zaa zcb (zaa zcb (zaa zcb zac))))))))))
   (pe_bm PySem.F.plainAttrs_list PySem.F.slot_list_index PySem.F.type_list_index mt_index (pv 1) (zaa pe_bl zac)) (fun _ _=>rfl)))))),?_⟩
 refine⟨_,rfl,rfl,_,rfl,?_⟩
 refine iteF ?_
 refine⟨_,rfl,a,C,bs,rfl,hA,hK,fun l H1 s1 e1=> ?_⟩
 refine⟨_,rfl,.inl ⟨rfl,_,SqL.of e1⟩,l,bs,rfl,rfl,e1,rfl,_,rfl,?_⟩
 rw[h1]
 refine iteF ?_
 refine⟨_,rfl,a,C,"ValueError",true,rfl,s1 _ _ hA,hK.ok,hK.one,_,rfl,?_⟩
 refine iteF ?_
 refine⟨(by show 9<=sizeLine;decide),fun l2 hl2=> ?_⟩
 have s2:=zad hl2 (.lst [.str "fold",.str "number",.str "place",.str "row",.str "text",.str "tie",.str "wants",.str "web",.str "many"])
 have e2:=s2 _ _ e1
 refine⟨_,rfl,.inl ⟨rfl,_,SqL.of e2⟩,l,bs,j,rfl,rfl,e2,h2,h3,by rw[hK.lenB];decide,?_⟩
 refine⟨l2,_,_,.str x,rfl,rfl,SqL.of zab,?_,q _ (s1.trans s2)⟩
 refine atI_nat ?_
 have z:([.str "fold",.str "number",.str "place",.str "row",.str "text",.str "tie",.str "wants",.str "web",.str "many"]:List V)=words.map V.str:=rfl
 rw[z,List.getElem?_map,h4]
 rfl
end
end Hs
namespace Hs
open PySem L2 HsD
section
variable{P:Program}{w:World}{K:W.Frag}{mg:Str->Option Value}{base:Heap}
noncomputable abbrev ER(C:Addr)(H:Hp)(E:XK):Prop:=∀e H',Same H H'->H' e=none->E (.ref e) (some C) (upd H' e (ExcO e C))
theorem bl_ite{b:Bool}{A B:Prop}(h:b=true)(hA:A):if b=true then A else B:=by rw[h];exact iteT hA
theorem bl_itf{b:Bool}{A B:Prop}(h:b=false)(hB:B):if b=true then A else B:=by rw[h];exact iteF hB
noncomputable def spNeedFewX(K:W.Frag)(C:Addr):Sp:=fun vs H Q E=>∃n:Int,vs=[.int n]/\10<n/\ER C H E
theorem ok_needFewX{f C:Addr}{fd:FuncData}{tk:Tok}{bmB:List Value}{B newId initId:String}(F:Fun K "need_few" "need_few" zbd f fd)(mM:mg "MOST_PLACES"=some (.int 10 tk))
  (FB:ExcBaseFacts B newId initId bmB)(mC:mg "TooMany"=some (.ref C))(qC:PySem.W.excIn K C bmB newId=true):FnOk P w K mg base (CX1 P w) 1 f fd ["n"] (spNeedFewX K C):=by
 refine F.okX sc_needFew (fun vs H Q E h=> ?_) (fun cdv A outer s H vs Q E hr h=> ?_)
 ·obtain⟨n,rfl,_⟩:=h
  rfl
 obtain⟨n,rfl,hn,q⟩:=h
 refine⟨_,zah (zcp (zbh op_gt (pv 0) (zbj rfl mM (v:= .int 10) ⟨_,rfl⟩) (nomark _)) (zah (ps_raise FB mC qC (zaa zcb zac) rfl)) zbi),?_⟩
 refine⟨_,rfl,_,_,rfl,rfl,_,rfl,?_⟩
 rw[decide_eq_true (show(10:Int)<n by omega)]
 exact iteT ⟨by decide,fun e he=>q e H (Same.refl _) he⟩
noncomputable def spFromTo(K:W.Frag):Sp:=fun vs H Q _=>∃a b i:Int,vs=[.int a,.int b,.int i]/\a<=i/\i<=b/\Q .non H
theorem sc_fromTo:FnScope ["least","most","thing"] ["least","most","thing"] (defScope zak):=⟨rfl,rfl,rfl,by decide+kernel,rfl,by decide+kernel,by decide+kernel⟩
theorem ok_fromTo{f f1:Addr}{fd d1:FuncData}(F:Fun K "need_from_to" "need_from_to" zak f fd)(D1:Dfn K mg "is_whole" zbm ["thing"] f1 d1)(G1:FnOk P w K mg base CX0 1 f1 d1 ["thing"] (spWhole K)):
  FnOk P w K mg base CX0 2 f fd ["least","most","thing"] (spFromTo K):=by
 refine F.ok sc_fromTo (fun vs H Q E h=> ?_) (fun cdv A outer s H vs Q E hr h=> ?_)
 ·obtain⟨_,_,_,rfl,_⟩:=h
  rfl
 obtain⟨a,b,i,rfl,h0,h1,q⟩:=h
 refine⟨_,zah (zcp (PW.pt (pw_or (pt_not (pt_val (zal G1 hr rfl D1.m D1.F.kp D1.b .nil pass0 (zaa (pv 2) zac)))) (pw_or1 (pt_not (pt_chain op_le op_le (pv 0) (pv 2) (pv 1)))))) pss_never zbi),?_⟩
 refine⟨_,rfl,.int i,.int i,rfl,.int i,_,rfl,?_⟩
 refine iteF ?_
 refine⟨_,rfl,_,rfl,_,_,rfl,rfl,_,rfl,?_⟩
 refine bl_ite (decide_eq_true h0) ?_
 refine⟨_,rfl,_,_,rfl,rfl,_,rfl,?_⟩
 refine bl_itf (by rw[decide_eq_true h1];rfl) q
noncomputable def allS:Nat->List (List Int)
 |0=>[[]]
 |k+1=>allS k++(allS k).map fun s=>s++[(k:Int)]
theorem allS_len:∀k,(allS k).length=2^k
 |0=>rfl
 |k+1=>by
  show(allS k++(allS k).map fun s=>s++[(k:Int)]).length=_
  rw[List.length_append,List.length_map,allS_len k,Nat.pow_succ];omega
theorem allS_mem:∀k,∀s∈allS k,s.length<=k
 |0,s,h=>by rw[List.mem_singleton.mp h];exact Nat.le_refl _
 |k+1,s,h=>by
  rcases List.mem_append.mp h with z|z
  ·exact Nat.le_succ_of_le (allS_mem k s z)
  ·obtain⟨t,ht,rfl⟩:=List.mem_map.mp z
   have:=allS_mem k t ht
   rw[List.length_append]
   show t.length+1<=k+1
   omega
noncomputable abbrev SetsV(K:W.Frag)(H:Hp)(its:List (Addr×List Int)):Prop:=∀p∈its,SqT K H p.1 (p.2.map V.int)
theorem SetsV.same{H H':Hp}{its:List (Addr×List Int)}(h:SetsV K H its)(e:Same H H'):SetsV K H' its:=fun p hp=>e.tup (h p hp)
noncomputable def spAllSets(K:W.Frag):Sp:=fun vs H Q _=>∃n:Int,vs=[.int n]/\0<=n/\n<=10/\∀(r:Addr) (its:List (Addr×List Int)) H',Same H H'->H' r=some (.lst (its.map fun p=>V.ref p.1))->SetsV K H' its->its.map (·.2)=allS n.toNat->Q (.ref r) H'
theorem zcm:FnScope ["n","found","place"] ["n"] (defScope zbg):=⟨rfl,rfl,rfl,by decide+kernel,rfl,by decide+kernel,by decide+kernel⟩
theorem ok_allSets{f:Addr}{fd:FuncData}(F:Fun K "all_sets" "all_sets" zbg f fd)(m_range:mg "range"=none):
  FnOk P w K mg base CX0 1 f fd ["n"] (spAllSets K):=by
 refine F.ok zcm (fun vs H Q E h=> ?_) (fun cdv A outer s H vs Q E hr h=> ?_)
 ·obtain⟨n,rfl,_⟩:=h
  rfl
 obtain⟨n,rfl,h0,h1,q⟩:=h
 refine⟨_,(zae (zar (i:=1) zcm.nd rfl (Or.inl rfl) (zbx (zaa (zbt zac) zac))) (zae (zdg PassesOwn.never rfl (zbn rfl m_range (zaa (pv 0) zac)) (zay (i:=2) zcm.nd rfl (Or.inr rfl)) (zah (zar (i:=1) zcm.nd rfl (Or.inl rfl) (zao op_cat (pv 1) (zbv (own:=["some"]) (caps:=["place"]) (ix:=[2]) rfl (zcw (pv 1)) rfl rfl (.cons rfl rfl .nil) (fun _ _ _ _ _=>(zay (i:=0) (show(["some","place"]:List Str).Nodup from by decide+kernel) rfl (Or.inl rfl))) (fun _ _ _ _ _=>zdc) (fun _ _ _ _ _=>(zao (op_catEK K) (pv 0) (zbt (zaa (pv 1) zac))))))))) (zah (zbb (pv 1))))),?_⟩
 refine⟨(by show 0<=sizeLine;decide),fun p0 hp0=> ?_⟩
 have s0:=zad hp0 (.tup [])
 refine⟨(by show 1<=sizeLine;decide),fun l0 hl0=> ?_⟩
 have s1:=zad hl0 (.lst [.ref p0])
 refine⟨_,rfl,n,rfl,by omega,by omega,?_⟩
 refine zbw (n:=n.toNat) (fun k σ H'=>∃(l:Addr) (its:List (Addr×List Int)) (b2:Option V),σ=[some (.int n),some (.ref l),b2]/\Same H H'/\H' l=some (.lst (its.map fun p=>V.ref p.1))/\SetsV K H' its/\its.map (·.2)=allS k) ⟨l0,[(p0,[])],_,rfl,s0.trans s1,zab,fun p hp=>by rw[List.mem_singleton.mp hp];exact s1.tup (SqT.of zab),rfl⟩ (fun k σ H1 hk p=> ?_) (fun σ H1 p=> ?_)
 ·obtain⟨l,its,b2,rfl,sm,hl,hT,hm⟩:=p
  have hlen:its.length=2^k:=by rw[<-allS_len k,<-hm,List.length_map]
  have h512:2^k<=512:=Nat.pow_le_pow_right (n:=2) (by decide) (show k<=9 by omega)
  refine⟨_,rfl,_,rfl,l,_,rfl,SqL.of hl,fun hz=> ?_⟩
  refine zda (xs:=its.map fun p=>V.ref p.1) (fun i acc σ H2=>∃jts:List (Addr×List Int),acc=jts.map (fun p=>V.ref p.1)/\jts.map (·.2)=((its.take i).map (·.2)).map (fun s=>s++[(k:Int)])/\SetsV K H2 jts/\Same H1 H2/\∃o,σ=[o,some (.int (0+(k:Int)))]) ⟨[],rfl,rfl,fun p hp=>(nomatch hp),Same.refl _,_,rfl⟩ (fun i acc σ H2 _ p=> ?_) (fun i acc σ H2 hi p=> ?_) hz (fun i x acc σ H2 hx p=> ?_) (fun acc σ H2 p=> ?_)
  ·obtain⟨_,_,_,_,s2,_⟩:=p
   exact s2.seq (SqL.of hl)
  ·obtain⟨jts,rfl,hj,_⟩:=p
   have:=congrArg List.length hj
   simp only[List.length_map,List.length_take]at this
   rw[List.length_map,this];exact Nat.min_le_left _ _
  ·obtain⟨jts,rfl,hj,hJ,s2,o,rfl⟩:=p
   rw[List.getElem?_map]at hx
   cases ex:its[i]? with
   |none=>rw[ex]at hx;cases hx
   |some v=>
    rw[ex]at hx
    cases hx
    have mv:=List.mem_of_getElem? ex
    have lv:v.2.length<=10:=by
     have:=allS_mem k v.2 (by rw[<-hm];exact List.mem_map_of_mem mv)
     omega
    refine⟨_,rfl,_,rfl,(by show 1<=sizeLine;decide),fun p1 hp1=> ?_⟩
    have s3:=zad hp1 (.tup [.int (0+(k:Int))])
    refine⟨v.1,p1,_,_,rfl,rfl,(s2.trans s3).tup (hT v mv),SqT.of zab,(by rw[List.length_map,sizeLine_eq];show _+1<=_;omega),fun r H4 s4 h4=> ?_⟩
    have ek:(0+(k:Int))=(k:Int):=by omega
    have s34:=s3.trans s4
    refine⟨jts++[(r,v.2++[(k:Int)])],by rw[List.map_append];rfl,?_,fun p hp=> ?_,s2.trans s34,_,rfl⟩
    ·rw[List.map_append,hj,List.take_add_one,ex,List.map_append,List.map_append];rfl
    ·rcases List.mem_append.mp hp with z|z
     ·exact s34.tup (hJ p z)
     ·rw[List.mem_singleton.mp z]
      show SqT K H4 r ((v.2++[(k:Int)]).map V.int)
      rw[List.map_append,<-ek]
      exact h4
  ·intro p1 hp1
   obtain⟨jts,rfl,hj,hJ,s2,o,rfl⟩:=p
   rw[List.length_map,List.take_length,hm]at hj
   have hjl:jts.length=2^k:=by
    have:=congrArg List.length hj
    rw[List.length_map,List.length_map,allS_len]at this
    exact this
   have s3:=zad hp1 (.lst (jts.map fun p=>V.ref p.1))
   refine⟨l,p1,_,_,rfl,rfl,s3 _ _ (s2 _ _ hl),zab,(by rw[List.length_map,List.length_map,hjl,hlen,sizeLine_eq];omega),fun l2 hl2=> ?_⟩
   have s4:=zad hl2 (.lst (its.map (fun p=>V.ref p.1)++jts.map fun p=>V.ref p.1))
   have s34:=s3.trans s4
   refine⟨l2,its++jts,_,rfl,sm.trans (s2.trans s34),by rw[zab,List.map_append],fun p hp=> ?_,?_⟩
   ·rcases List.mem_append.mp hp with z|z
    ·exact(s2.trans s34).tup (hT p z)
    ·exact s34.tup (hJ p z)
   ·rw[List.map_append,hm,hj];rfl
 ·obtain⟨l,its,b2,rfl,sm,hl,hT,hm⟩:=p
  exact⟨_,rfl,q l its H1 sm hl hT hm⟩
noncomputable def cntS(m k:Int):Nat:=((allS m.toNat).filter fun s=>decide (s.length=k.toNat)).length
theorem cnt_its{its:List (Addr×List Int)}{m k:Int}(h:its.map (·.2)=allS m.toNat):(its.filter fun p=>decide (p.2.length=k.toNat)).length=cntS m k:=by
 unfold cntS
 rw[<-h,List.filter_map,List.length_map]
 rfl
theorem picked_go{H:Hp}{its:List (Addr×List Int)}{k:Int}{i:Nat}{v:Addr×List Int}(h:its[i]? =some v):((its.take (i+1)).filter fun p=>decide (p.2.length=k.toNat))=((its.take i).filter fun p=>decide (p.2.length=k.toNat))++(if decide (v.2.length=k.toNat)=true then[v]else[]):=by
 rw[List.take_add_one,h,List.filter_append]
 show _++([v].filter _)=_
 rw[List.filter_cons]
 rfl
end
end Hs
namespace Hs
open PySem L2 HsD
noncomputable def pickS(m k:Nat):List (List Int):=(allS m).filter fun s=>decide (s.length=k)
noncomputable def topI(s:List Int):Int:=s.foldl (fun a b=>if a<b then b else a) (-1)
theorem top_le:∀(s:List Int) (a:Int),a<=s.foldl (fun a b=>if a<b then b else a) a/\(∀x∈s,x<=s.foldl (fun a b=>if a<b then b else a) a)/\(s.foldl (fun a b=>if a<b then b else a) a=a\/s.foldl (fun a b=>if a<b then b else a) a∈s)
 |[],a=>⟨Int.le_refl _,fun _ h=>(nomatch h),.inl rfl⟩
 |x::s,a=>by
  obtain⟨h1,h2,h3⟩:=top_le s (if a<x then x else a)
  show a<=s.foldl _ (if a<x then x else a)/\(∀y∈x::s,y<=s.foldl _ (if a<x then x else a))/\(s.foldl _ (if a<x then x else a)=a\/s.foldl _ (if a<x then x else a)∈x::s)
  generalize s.foldl (fun a b=>if a<b then b else a) (if a<x then x else a)=r at *
  by_cases c:a<x
  ·rw[if_pos c]at h1 h3
   refine⟨by omega,fun y hy=> ?_,?_⟩
   ·rcases List.mem_cons.mp hy with rfl|hy
    ·exact h1
    ·exact h2 y hy
   ·rcases h3 with z|z
    ·exact .inr (by rw[z];exact List.mem_cons_self)
    ·exact .inr (List.mem_cons_of_mem _ z)
  ·rw[if_neg c]at h1 h3
   refine⟨h1,fun y hy=> ?_,?_⟩
   ·rcases List.mem_cons.mp hy with rfl|hy
    ·omega
    ·exact h2 y hy
   ·rcases h3 with z|z
    ·exact .inl z
    ·exact .inr (List.mem_cons_of_mem _ z)
theorem top_is{s:List Int}{m:Int}(h:m∈(-1::s:List Int))(hm:∀n∈(-1::s:List Int),n<=m):m=topI s:=by
 obtain⟨h1,h2,h3⟩:=top_le s (-1)
 show m=s.foldl _ (-1)
 have a:m<=s.foldl (fun a b=>if a<b then b else a) (-1):=by
  rcases List.mem_cons.mp h with rfl|h
  ·exact h1
  ·exact h2 m h
 have b:s.foldl (fun a b=>if a<b then b else a) (-1)<=m:=by
  rcases h3 with z|z
  ·rw[z];exact hm _ List.mem_cons_self
  ·exact hm _ (List.mem_cons_of_mem _ z)
 omega
noncomputable def exts(m:Int)(s:List Int)(k:Nat):List (List Int):=(List.range k).map fun(t:Nat)=>s++[topI s+1+(t:Int)]
theorem exts_succ(m:Int)(s:List Int)(k:Nat):exts m s (k+1)=exts m s k++[s++[topI s+1+(k:Int)]]:=by
 unfold exts;rw[List.range_succ,List.map_append];rfl
noncomputable def extAll(m:Int)(l:List (List Int)):List (List Int):=(l.map fun s=>exts m s (m-(topI s+1)).toNat).flatten
noncomputable def choF(m:Int):Nat->List (List Int)
 |0=>[[]]
 |k+1=>extAll m (choF m k)
noncomputable def look10(m k:Nat):Bool:=
 decide ((pickS m k).length=(choF m k).length)&&((List.range (k+1)).all fun j=>decide ((choF m j).length<=252)&&(choF m j).all fun s=>decide (s.length=j)&&s.all fun x=>decide (0<=x)&&decide (x<(m:Int)))&&
  (if(pickS m k).length<=10 then(pickS m k).isPerm (choF m k)else true)
set_option maxRecDepth 100000 in
theorem look_all:((List.range 11).all fun m=>(List.range (m+1)).all fun k=>look10 m k)=true:=by decide+kernel
theorem look_at{m k:Nat}(hm:m<=10)(hk:k<=m):(pickS m k).length=(choF m k).length/\(∀j,j<=k->(choF m j).length<=252/\∀s∈choF m j,s.length=j/\∀x∈s,0<=x/\x<(m:Int))/\((pickS m k).length<=10->(pickS m k).Perm (choF m k)):=by
 have h:=List.all_eq_true.mp (List.all_eq_true.mp look_all m (List.mem_range.mpr (by omega))) k (List.mem_range.mpr (by omega))
 unfold look10 at h
 rw[Bool.and_eq_true,Bool.and_eq_true]at h
 obtain⟨⟨h1,h2⟩,h3⟩:=h
 refine⟨of_decide_eq_true h1,fun j hj=> ?_,fun hl=> ?_⟩
 ·have z:=List.all_eq_true.mp h2 j (List.mem_range.mpr (by omega))
  rw[Bool.and_eq_true]at z
  refine⟨of_decide_eq_true z.1,fun s hs=> ?_⟩
  have y:=List.all_eq_true.mp z.2 s hs
  rw[Bool.and_eq_true]at y
  refine⟨of_decide_eq_true y.1,fun x hx=> ?_⟩
  have v:=List.all_eq_true.mp y.2 x hx
  rw[Bool.and_eq_true]at v
  exact⟨of_decide_eq_true v.1,of_decide_eq_true v.2⟩
 ·rw[if_pos hl]at h3
  exact List.isPerm_iff.mp h3
theorem lex_one{xs ys:List (List Int)}(h:xs.Perm ys)(hx:xs.Pairwise fun a b=>HT.lexLt b a=false)(hy:ys.Pairwise fun a b=>HT.lexLt b a=false):xs=ys:=by
 refine List.Perm.eq_of_pairwise (le:=fun a b=>HT.lexLt b a=false) (fun a b _ _ h1 h2=> ?_) hx hy h
 rw[HT.lexLt_iff,decide_eq_false_iff_not]at h1 h2
 exact List.le_antisymm (List.not_lt.mp h1) (List.not_lt.mp h2)
noncomputable def srtL(l:List (List Int)):List (List Int):=l.mergeSort fun a b=> !HT.lexLt b a
theorem srtL_perm(l:List (List Int)):(srtL l).Perm l:=List.mergeSort_perm _ _
theorem srtL_sorted(l:List (List Int)):(srtL l).Pairwise fun a b=>HT.lexLt b a=false:=by
 have h:=List.pairwise_mergeSort (le:=fun a b:List Int=> !HT.lexLt b a) (fun a b c h1 h2=> ?_) (fun a b=> ?_) l
 ·exact h.imp fun{a b} z=>by simpa using z
 ·simp only[Bool.not_eq_true',HT.lexLt_iff,decide_eq_false_iff_not]at h1 h2⊢
  exact List.not_lt.mpr (List.le_trans (List.not_lt.mp h1) (List.not_lt.mp h2))
 ·simp only[Bool.or_eq_true,Bool.not_eq_true',HT.lexLt_iff,decide_eq_false_iff_not]
  rcases List.le_total a b with z|z
  ·exact .inl (List.not_lt.mpr z)
  ·exact .inr (List.not_lt.mpr z)
theorem srtL_is{xs l:List (List Int)}(h:xs.Perm l)(hx:xs.Pairwise fun a b=>HT.lexLt b a=false):xs=srtL l:=lex_one (h.trans (srtL_perm l).symm) hx (srtL_sorted l)
noncomputable def pkL(m k:Nat):List (List Int):=srtL (pickS m k)
noncomputable def notBoth(L:List (List Int))(i j:Int):Bool:=((L.getD i.toNat []).filter fun o=>decide (o∈L.getD j.toNat [])).isEmpty
noncomputable def ringB(n:Int):List (List Int):=((List.range (n-1).toNat).map fun(t:Nat)=>[0+(t:Int),0+(t:Int)+1])++[[0,n-1]]
noncomputable def unP(l:List Int):Int×Int:=(l.getD 0 0,l.getD 1 0)
noncomputable def ringT(n:Int):List (Int×Int):=(srtL (ringB n)).map unP
end Hs
namespace Hs
open PySem L2 HsD
section
variable{P:Program}{w:World}{K:W.Frag}{mg:Str->Option Value}{base:Heap}
theorem any_ints(xs:List Int)(k:Int):((xs.map PyData.int).any fun d=>PyData.eqv d (.int k))=decide (k∈xs):=by
 induction xs with
 |nil=>simp
 |cons x xs ih=>
  rw[List.map_cons,List.any_cons,ih]
  have e:PyData.eqv (.int x) (.int k)=decide (k=x):=by
   show(x==k)=_
   rw[Bool.eq_iff_iff];simp;exact⟨fun h=>h.symm,fun h=>h.symm⟩
  rw[e,Bool.eq_iff_iff]
  simp
theorem filt_go{p:Int->Bool}{xs:List Int}{i:Nat}{y:Int}(ex:xs[i]? =some y):(xs.take (i+1)).filter p=(xs.take i).filter p++(if p y=true then[y]else[]):=by
 rw[List.take_add_one,ex,List.filter_append]
 show _++List.filter p [y]=_
 rw[List.filter_cons]
 split<;>rfl
noncomputable def spInBoth(K:W.Frag):Sp:=fun vs H Q _=>∃(a b:Addr) (xs ys:List Int),vs=[.ref a,.ref b]/\SqT K H a (xs.map V.int)/\SqT K H b (ys.map V.int)/\∀(r:Addr) H',Same H H'->H' r=some (.lst ((xs.filter fun o=>decide (o∈ys)).map V.int))->Q (.ref r) H'
theorem sc_inBoth:FnScope ["ones","others"] ["ones","others"] (defScope zbr):=⟨rfl,rfl,rfl,by decide+kernel,rfl,by decide+kernel,by decide+kernel⟩
theorem ok_inBoth{f:Addr}{fd:FuncData}(F:Fun K "in_both" "in_both" zbr f fd):
  FnOk P w K mg base CX0 1 f fd ["ones","others"] (spInBoth K):=by
 refine F.ok sc_inBoth (fun vs H Q E h=> ?_) (fun cdv A outer s H vs Q E hr h=> ?_)
 ·obtain⟨a,b,xs,ys,rfl,_⟩:=h
  rfl
 obtain⟨a,b,xs,ys,rfl,hX,hY,q⟩:=h
 refine⟨_,(zah (zbb (zbv (own:=["place"]) (caps:=["others"]) (ix:=[1]) rfl (pi_tupL (pv 0)) rfl rfl (.cons rfl rfl .nil) (fun _ _ _ _ _=>(zay (i:=0) (show(["place","others"]:List Str).Nodup from by decide+kernel) rfl (Or.inl rfl))) (fun _ _ _ _ _=>pts_one (zbh (op_inDK K hr.units) (pv 0) (pv 1) (by with_unfolding_all rfl))) (fun _ _ _ _ _=>(pv 0))))),?_⟩
 refine⟨_,rfl,a,_,rfl,hX,fun hz=> ?_⟩
 refine comp_tup (xs:=xs.map V.int) (fun i acc σ H'=>acc=((xs.take i).filter fun o=>decide (o∈ys)).map V.int/\Same H H'/\∃o,σ=[o,some (.ref b)]) ⟨rfl,Same.refl _,_,rfl⟩ (fun i acc σ H' _ p=>p.2.1.tup hX) (fun i acc σ H' _ p=> ?_) hz (fun i x acc σ H' hx p=> ?_) (fun acc σ H' p=> ?_)
 ·rw[p.1,List.length_map]
  exact Nat.le_trans (List.length_filter_le _ _) (by rw[List.length_take];exact Nat.min_le_left _ _)
 ·obtain⟨rfl,sm,o,rfl⟩:=p
  rw[List.getElem?_map]at hx
  cases ex:xs[i]? with
  |none=>rw[ex]at hx;cases hx
  |some y=>
   rw[ex]at hx
   cases hx
   refine⟨_,rfl,_,rfl,b,_,_,.int y,rfl,.inr (sm.tup hY),DVs.ints ys,.int _,zcz ys,rfl,(by show 0<=60;decide),_,rfl,?_⟩
   rw[any_ints]
   have go:=filt_go (p:=fun o=>decide (o∈ys)) ex
   refine ite2 (fun c=> ?_) (fun c=> ?_)
   ·exact⟨_,rfl,by rw[go,if_pos c,List.map_append];rfl,sm,_,rfl⟩
   ·exact⟨by rw[go,if_neg c,List.append_nil],sm,_,rfl⟩
 ·intro p1 hp1
  obtain⟨rfl,sm,_⟩:=p
  rw[List.length_map,List.take_length]
  exact q p1 _ (sm.trans (zad hp1 _)) zab
theorem dvs_un{H:Hp}:∀its:List (Addr×List Int),(∀p∈its,SqT K H p.1 (p.2.map V.int)/\p.2.length=2)->DVs K H (its.map fun p=>V.ref p.1) ((its.map fun p=>unP p.2).map pairD)
 |[],_=> .nil
 |(a,l)::its,h=>by
  obtain⟨h1,h2⟩:=h _ List.mem_cons_self
  have ih:=dvs_un its fun p hp=>h p (List.mem_cons_of_mem _ hp)
  match l,h2 with
  |[x,y],_=>exact .cons (.tup h1 (.cons (.int _) (.cons (.int _) .nil))) ih
theorem ring_two{n:Int}:∀l∈ringB n,l.length=2:=fun l hl=>by
 rcases List.mem_append.mp hl with z|z
 ·obtain⟨t,_,rfl⟩:=List.mem_map.mp z;rfl
 ·rw[List.mem_singleton.mp z];rfl
theorem ring_web{H:Hp}{n:Int}{its its':List (Addr×List Int)}{t1 wb:Addr}(hm:(its.map (·.2)).Perm (ringB n))(hperm:its'.Perm its)(hsort:its'.Pairwise fun p q=>HT.lexLt q.2 p.2=false)(hT:∀p∈its,SqT K H p.1 (p.2.map V.int))(hwb:SqT K H wb [.int n,.ref t1])(ht1:SqT K H t1 (its'.map fun p=>V.ref p.1)):WebV K H wb n (ringT n):=by
 have e:its'.map (·.2)=srtL (ringB n):=srtL_is ((hperm.map _).trans hm) (by rw[List.pairwise_map];exact hsort)
 refine⟨t1,_,hwb,ht1,?_⟩
 rw[show ringT n=its'.map fun p=>unP p.2 from by unfold ringT;rw[<-e,List.map_map];rfl]
 exact dvs_un its' fun p hp=>⟨hT p (hperm.mem_iff.mp hp),ring_two p.2 ((hm.mem_iff).mp (List.mem_map_of_mem (hperm.mem_iff.mp hp)))⟩
noncomputable def spRingW(K:W.Frag):Sp:=fun vs H Q _=>∃n:Int,vs=[.int n]/\3<=n/\n<=10/\∀r H',Same H H'->WebV K H' r n (ringT n)->Q (.ref r) H'
theorem sc_ringW:FnScope ["n","around"] ["n"] (defScope zdf):=⟨rfl,rfl,rfl,by decide+kernel,rfl,by decide+kernel,by decide+kernel⟩
theorem ok_ringW{f f1:Addr}{fd d1:FuncData}{tk0:Tok}{tk1:Tok}(F:Fun K "ring" "ring" zdf f fd)(D1:Dfn K mg "need_from_to" zak ["least","most","thing"] f1 d1)(G1:FnOk P w K mg base CX0 2 f1 d1 ["least","most","thing"] (spFromTo K))(m_range:mg "range"=none)(m_tuple:mg "tuple"=none)(m_sorted:mg "sorted"=none)(m_LEAST_RING:mg "LEAST_RING"=some (.int 3 tk0))(m_MOST_PLACES:mg "MOST_PLACES"=some (.int 10 tk1)):
  FnOk P w K mg base CX0 3 f fd ["n"] (spRingW K):=by
 refine F.ok sc_ringW (fun vs H Q E h=> ?_) (fun cdv A outer s H vs Q E hr h=> ?_)
 ·obtain⟨n,rfl,_⟩:=h
  rfl
 obtain⟨n,rfl,h0,h1,q⟩:=h
 refine⟨_,(zae (zcg (zal G1 hr rfl D1.m D1.F.kp D1.b .nil pass0 (zaa (zbj rfl m_LEAST_RING (v:= .int 3) ⟨_,rfl⟩) (zaa (zbj rfl m_MOST_PLACES (v:= .int 10) ⟨_,rfl⟩) (zaa (pv 0) zac))))) (zae (zar (i:=1) sc_ringW.nd rfl (Or.inl rfl) (zao op_cat (zbv (own:=["place"]) (caps:=[]) (ix:=[]) rfl (zbn rfl m_range (zaa (zao op_sub (pv 0) zag) zac)) rfl rfl .nil (fun _ _ _ _ _=>(zay (i:=0) (show(["place"]:List Str).Nodup from by decide+kernel) rfl (Or.inl rfl))) (fun _ _ _ _ _=>zdc) (fun _ _ _ _ _=>(zbt (zaa (pv 0) (zaa (zao zbp (pv 0) zag) zac))))) (zbx (zaa (zbt (zaa zag (zaa (zao op_sub (pv 0) zag) zac))) zac)))) (zah (zbb (zbt (zaa (pv 0) (zaa (zcx zbu rfl m_tuple (by decide+kernel) (zaa (zaf zbz rfl m_sorted (by decide+kernel) (zaa (pv 1) zac)) zac)) zac))))))),?_⟩
 refine⟨_,rfl,3,10,n,rfl,h0,h1,?_⟩
 refine⟨_,rfl,_,_,rfl,rfl,_,rfl,by omega,by omega,?_⟩
 refine zcd (n:=(n-1).toNat) (fun i acc σ H'=>∃its:List (Addr×List Int),acc=its.map (fun p=>V.ref p.1)/\its.map (·.2)=((List.range i).map fun(t:Nat)=>[0+(t:Int),0+(t:Int)+1])/\(∀p∈its,SqT K H' p.1 (p.2.map V.int))/\Same H H'/\∃o,σ=[o]) ⟨[],rfl,rfl,fun p hp=>(nomatch hp),Same.refl _,_,rfl⟩ (fun i acc σ H' hi p=> ?_) (by rw[sizeLine_eq];omega) (fun i acc σ H' hi p=> ?_) (fun acc σ H' p=> ?_)
 ·obtain⟨its,rfl,hl,_⟩:=p
  have:=congrArg List.length hl
  rw[List.length_map,List.length_map,List.length_range]at this
  rw[List.length_map,this];exact Nat.le_refl _
 ·obtain⟨its,rfl,hl,hok,sm,o,rfl⟩:=p
  refine⟨_,rfl,_,rfl,_,_,rfl,rfl,(by show 2<=sizeLine;decide),fun pn hpn=> ?_⟩
  have sn:=zad hpn (.tup [.int (0+(i:Int)),.int (0+(i:Int)+1)])
  refine⟨its++[(pn,[0+(i:Int),0+(i:Int)+1])],by rw[List.map_append];rfl,by rw[List.map_append,hl,List.range_succ,List.map_append];rfl,fun p hp=> ?_,sm.trans sn,_,rfl⟩
  rcases List.mem_append.mp hp with z|z
  ·exact sn.tup (hok p z)
  ·rw[List.mem_singleton.mp z]
   exact SqT.of zab
 ·intro p1 hp1
  obtain⟨its,rfl,hl,hok,sm,_⟩:=p
  have hlen:its.length=(n-1).toNat:=by
   have:=congrArg List.length hl
   rwa [List.length_map,List.length_map,List.length_range]at this
  have s2:=zad hp1 (.lst (its.map fun p=>V.ref p.1))
  refine⟨_,rfl,_,_,rfl,rfl,(by show 2<=sizeLine;decide),fun p2 hp2=> ?_⟩
  have s3:=zad hp2 (.tup [.int 0,.int (n-1)])
  have k3:SqT K (upd (upd H' p1 (.lst (its.map fun p=>V.ref p.1))) p2 (.tup [.int 0,.int (n-1)])) p2 (([0,n-1]:List Int).map V.int):=SqT.of zab
  refine⟨(by show 1<=sizeLine;decide),fun p3 hp3=> ?_⟩
  have s4:=zad hp3 (.lst [.ref p2])
  refine⟨p1,p3,_,_,rfl,rfl,s4 _ _ (s3 _ _ zab),zab,(by rw[List.length_map,hlen,sizeLine_eq];show _+1<=_;omega),fun p4 hp4=> ?_⟩
  have s5:=zad hp4 (.lst (its.map (fun p=>V.ref p.1)++[.ref p2]))
  have s25:=s2.trans (s3.trans (s4.trans s5))
  have k5:=(s4.trans s5).tup k3
  have e5:(upd (upd (upd (upd H' p1 (.lst (its.map fun p=>V.ref p.1))) p2 (.tup [.int 0,.int (n-1)])) p3 (.lst [.ref p2])) p4 (.lst (its.map (fun p=>V.ref p.1)++[.ref p2]))) p4=some (.lst ((its++[(p2,[0,n-1])]).map fun p=>V.ref p.1)):=by rw[zab,List.map_append];rfl
  generalize (upd (upd (upd (upd H' p1 (.lst (its.map fun p=>V.ref p.1))) p2 (.tup [.int 0,.int (n-1)])) p3 (.lst [.ref p2])) p4 (.lst (its.map (fun p=>V.ref p.1)++[.ref p2])))=H5 at *
  have hT:∀p∈its++[(p2,[0,n-1])],SqT K H5 p.1 (p.2.map V.int):=fun p hp=>by
   rcases List.mem_append.mp hp with z|z
   ·exact s25.tup (hok p z)
   ·rw[List.mem_singleton.mp z];exact k5
  have hm:((its++[(p2,[0,n-1])]).map (·.2)).Perm (ringB n):=by rw[List.map_append,hl];exact List.Perm.refl _
  refine⟨_,rfl,_,rfl,p4,its++[(p2,[0,n-1])],rfl,SqL.of e5,fun p hp=>⟨hT p hp,fun e=> ?_⟩,by rw[List.length_append,hlen];show _+1<64;omega,fun l its' hl' hperm hsort=> ?_⟩
  ·have:=ring_two p.2 ((hm.mem_iff).mp (List.mem_map_of_mem hp))
   rw[e]at this;cases this
  ·have s6:=zad hl' (.lst (its'.map fun p=>V.ref p.1))
   refine⟨l,_,rfl,.inl ⟨SqL.of zab,fun t ht=>⟨(by show 2<=sizeLine;decide),fun r hr'=> ?_⟩⟩⟩
   have s7:=zad ht (.tup (its'.map fun p=>V.ref p.1))
   have s8:=zad hr' (.tup [.int n,.ref t])
   refine q r _ (sm.trans (s25.trans (s6.trans (s7.trans s8)))) ?_
   exact ring_web hm hperm hsort (fun p hp=>(s6.trans (s7.trans s8)).tup (hT p hp)) (SqT.of zab) (s8.tup (SqT.of zab))
theorem sc_lring:FnScope ["n","found"] ["n"] (defScope zba):=⟨rfl,rfl,rfl,by decide+kernel,rfl,by decide+kernel,by decide+kernel⟩
theorem ok_lring{f:Addr}{fd:FuncData}(F:Fun K "_law_b_ring" "_law_b_ring" zba f fd)(m_range:mg "range"=none)(m_tuple:mg "tuple"=none)(m_sorted:mg "sorted"=none):
  FnOk P w K mg base CX0 1 f fd ["n"] (spRingW K):=by
 refine F.ok sc_lring (fun vs H Q E h=> ?_) (fun cdv A outer s H vs Q E hr h=> ?_)
 ·obtain⟨n,rfl,_⟩:=h
  rfl
 obtain⟨n,rfl,h0,h1,q⟩:=h
 refine⟨_,(zae (zar (i:=1) sc_lring.nd rfl (Or.inl rfl) (zao op_cat (zbx (zaa (zbt (zaa zag (zaa (zao op_sub (pv 0) zag) zac))) zac)) (zbv (own:=["k"]) (caps:=[]) (ix:=[]) rfl (zbn rfl m_range (zaa (zao op_sub (pv 0) zag) zac)) rfl rfl .nil (fun _ _ _ _ _=>(zay (i:=0) (show(["k"]:List Str).Nodup from by decide+kernel) rfl (Or.inl rfl))) (fun _ _ _ _ _=>zdc) (fun _ _ _ _ _=>(zbt (zaa (pv 0) (zaa (zao zbp (pv 0) zag) zac))))))) (zah (zbb (zbt (zaa (pv 0) (zaa (zcx zbu rfl m_tuple (by decide+kernel) (zaa (zaf zbz rfl m_sorted (by decide+kernel) (zaa (pv 1) zac)) zac)) zac)))))),?_⟩
 refine⟨_,rfl,_,_,rfl,rfl,(by show 2<=sizeLine;decide),fun p2 hp2=> ?_⟩
 have s3:=zad hp2 (.tup [.int 0,.int (n-1)])
 have k3:SqT K (upd H p2 (.tup [.int 0,.int (n-1)])) p2 (([0,n-1]:List Int).map V.int):=SqT.of zab
 generalize (upd H p2 (.tup [.int 0,.int (n-1)]))=H2 at *
 refine⟨(by show 1<=sizeLine;decide),fun p3 hp3=> ?_⟩
 have s4:=zad hp3 (.lst [.ref p2])
 have e4:(upd H2 p3 (.lst [.ref p2])) p3=some (.lst [.ref p2]):=zab
 have k4:=s4.tup k3
 generalize (upd H2 p3 (.lst [.ref p2]))=H3 at *
 refine⟨_,rfl,_,_,rfl,rfl,_,rfl,by omega,by omega,?_⟩
 refine zcd (n:=(n-1).toNat) (fun i acc σ H'=>∃its:List (Addr×List Int),acc=its.map (fun p=>V.ref p.1)/\its.map (·.2)=((List.range i).map fun(t:Nat)=>[0+(t:Int),0+(t:Int)+1])/\(∀p∈its,SqT K H' p.1 (p.2.map V.int))/\Same H3 H'/\∃o,σ=[o]) ⟨[],rfl,rfl,fun p hp=>(nomatch hp),Same.refl _,_,rfl⟩ (fun i acc σ H' hi p=> ?_) (by rw[sizeLine_eq];omega) (fun i acc σ H' hi p=> ?_) (fun acc σ H' p=> ?_)
 ·obtain⟨its,rfl,hl,_⟩:=p
  have:=congrArg List.length hl
  rw[List.length_map,List.length_map,List.length_range]at this
  rw[List.length_map,this];exact Nat.le_refl _
 ·obtain⟨its,rfl,hl,hok,sm,o,rfl⟩:=p
  refine⟨_,rfl,_,rfl,_,_,rfl,rfl,(by show 2<=sizeLine;decide),fun pn hpn=> ?_⟩
  have sn:=zad hpn (.tup [.int (0+(i:Int)),.int (0+(i:Int)+1)])
  refine⟨its++[(pn,[0+(i:Int),0+(i:Int)+1])],by rw[List.map_append];rfl,by rw[List.map_append,hl,List.range_succ,List.map_append];rfl,fun p hp=> ?_,sm.trans sn,_,rfl⟩
  rcases List.mem_append.mp hp with z|z
  ·exact sn.tup (hok p z)
  ·rw[List.mem_singleton.mp z]
   exact SqT.of zab
 ·intro p1 hp1
  obtain⟨its,rfl,hl,hok,sm,_⟩:=p
  have hlen:its.length=(n-1).toNat:=by
   have:=congrArg List.length hl
   rwa [List.length_map,List.length_map,List.length_range]at this
  have s2:=zad hp1 (.lst (its.map fun p=>V.ref p.1))
  refine⟨p3,p1,_,_,rfl,rfl,s2 _ _ (sm _ _ e4),zab,(by rw[List.length_map,hlen,sizeLine_eq];show 1+_<=_;omega),fun p5 hp5=> ?_⟩
  have s5:=zad hp5 (.lst ([.ref p2]++its.map fun p=>V.ref p.1))
  have s25:=s2.trans s5
  have k5:=(sm.trans s25).tup k4
  have e5:(upd (upd H' p1 (.lst (its.map fun p=>V.ref p.1))) p5 (.lst ([.ref p2]++its.map fun p=>V.ref p.1))) p5=some (.lst (((p2,[0,n-1])::its).map fun p=>V.ref p.1)):=by rw[zab];rfl
  generalize (upd (upd H' p1 (.lst (its.map fun p=>V.ref p.1))) p5 (.lst ([.ref p2]++its.map fun p=>V.ref p.1)))=H5 at *
  have hT:∀p∈(p2,[0,n-1])::its,SqT K H5 p.1 (p.2.map V.int):=fun p hp=>by
   rcases List.mem_cons.mp hp with z|z
   ·rw[z];exact k5
   ·exact s25.tup (hok p z)
  have hm:(((p2,[0,n-1])::its).map (·.2)).Perm (ringB n):=by
   show([[0,n-1]]++its.map (·.2)).Perm _
   rw[hl];exact List.perm_append_comm
  refine⟨_,rfl,_,rfl,p5,(p2,[0,n-1])::its,rfl,SqL.of e5,fun p hp=>⟨hT p hp,fun e=> ?_⟩,by show _+1<64;rw[hlen];omega,fun l its' hl' hperm hsort=> ?_⟩
  ·have:=ring_two p.2 ((hm.mem_iff).mp (List.mem_map_of_mem hp))
   rw[e]at this;cases this
  ·have s6:=zad hl' (.lst (its'.map fun p=>V.ref p.1))
   refine⟨l,_,rfl,.inl ⟨SqL.of zab,fun t ht=>⟨(by show 2<=sizeLine;decide),fun r hr'=> ?_⟩⟩⟩
   have s7:=zad ht (.tup (its'.map fun p=>V.ref p.1))
   have s8:=zad hr' (.tup [.int n,.ref t])
   refine q r _ (s3.trans (s4.trans (sm.trans (s25.trans (s6.trans (s7.trans s8)))))) ?_
   exact ring_web hm hperm hsort (fun p hp=>(s6.trans (s7.trans s8)).tup (hT p hp)) (SqT.of zab) (s8.tup (SqT.of zab))
end
end Hs
namespace Hs
open PySem L2 HsD
section
variable{P:Program}{w:World}{K:W.Frag}{mg:Str->Option Value}{base:Heap}
noncomputable def nbT(m k:Int):List (Int×Int):=rows (notBoth (pkL m.toNat k.toNat)) (cntS m k) (cntS m k:Int).toNat
theorem zdl(m k:Int):cntS m k=(pickS m.toNat k.toNat).length:=rfl
theorem rows_take_go{so:Int->Int->Bool}{l:List (Int×Int)}{i:Nat}{p:Int×Int}(ex:l[i]? =some p):(l.take (i+1)).filter (fun q=>so q.1 q.2)=(l.take i).filter (fun q=>so q.1 q.2)++(if so p.1 p.2=true then[p]else[]):=by
 rw[List.take_add_one,ex,List.filter_append]
 show _++List.filter _ [p]=_
 rw[List.filter_cons]
 split<;>rfl
theorem at_its{its:List (Addr×List Int)}{L:List (List Int)}(h:its.map (·.2)=L){j:Int}(j0:0<=j)(j1:j<its.length):∃v∈its,atI (its.map fun p=>V.ref p.1) j=some (.ref v.1)/\v.2=L.getD j.toNat []:=by
 have hj:j.toNat<its.length:=by omega
 refine⟨its[j.toNat],List.getElem_mem hj,?_,?_⟩
 ·have z:atI (its.map fun p=>V.ref p.1) ((j.toNat:Nat):Int)=some (.ref its[j.toNat].1):=atI_nat (by rw[List.getElem?_map,List.getElem?_eq_getElem hj];rfl)
  rwa [show((j.toNat:Nat):Int)=j by omega]at z
 ·rw[<-h,List.getD_eq_getElem?_getD,List.getElem?_map,List.getElem?_eq_getElem hj];rfl
noncomputable def spPicks(K:W.Frag):Sp:=fun vs H Q _=>∃m k:Int,vs=[.int m,.int k]/\1<=m/\m<=10/\1<=k/\k<=m/\cntS m k<=10/\∀r H',Same H H'->WebV K H' r (cntS m k) (nbT m k)->Q (.ref r) H'
theorem zck:FnScope ["m","k","picked","n"] ["m","k"] (defScope zce):=⟨rfl,rfl,rfl,by decide+kernel,rfl,by decide+kernel,by decide+kernel⟩
theorem ok_picks{f f1 f2 f3 f4 f5:Addr}{fd d1 d2 d3 d4 d5:FuncData}{tk0:Tok}(F:Fun K "picks" "picks" zce f fd)(D1:Dfn K mg "need_from_to" zak ["least","most","thing"] f1 d1)(G1:FnOk P w K mg base CX0 2 f1 d1 ["least","most","thing"] (spFromTo K))(D2:Dfn K mg "all_sets" zbg ["n"] f2 d2)(G2':FnOk P w K mg base CX0 1 f2 d2 ["n"] (spAllSets K))(D3:Dfn K mg "need_few" zbd ["n"] f3 d3)(G3':FnOk P w K mg base CX0 1 f3 d3 ["n"] (spNeedFew K))(D4:Dfn K mg "in_both" zbr ["ones","others"] f4 d4)(G4':FnOk P w K mg base CX0 1 f4 d4 ["ones","others"] (spInBoth K))(D5:Dfn K mg "pairs" zci ["n"] f5 d5)(G5':FnOk P w K mg base CX0 1 f5 d5 ["n"] (spAllP K))(m_sorted:mg "sorted"=none)(m_len:mg "len"=none)(m_tuple:mg "tuple"=none)(m_MOST_PLACES:mg "MOST_PLACES"=some (.int 10 tk0)):
  FnOk P w K mg base CX0 3 f fd ["m","k"] (spPicks K):=by
 have G2:FnOk P w K mg base CX0 2 f2 d2 ["n"] (spAllSets K):=G2'.mono (by decide)
 have G3:FnOk P w K mg base CX0 2 f3 d3 ["n"] (spNeedFew K):=G3'.mono (by decide)
 have G4:FnOk P w K mg base CX0 2 f4 d4 ["ones","others"] (spInBoth K):=G4'.mono (by decide)
 have G5:FnOk P w K mg base CX0 2 f5 d5 ["n"] (spAllP K):=G5'.mono (by decide)
 refine F.ok zck (fun vs H Q E h=> ?_) (fun cdv A outer s H vs Q E hr h=> ?_)
 ·obtain⟨m,k,rfl,_⟩:=h
  rfl
 obtain⟨m,k,rfl,m0,m1,k0,k1,hc,q⟩:=h
 refine⟨_,(zae (zcg (zal G1 hr rfl D1.m D1.F.kp D1.b .nil pass0 (zaa zag (zaa (zbj rfl m_MOST_PLACES (v:= .int 10) ⟨_,rfl⟩) (zaa (pv 0) zac))))) (zae (zcg (zal G1 hr rfl D1.m D1.F.kp D1.b .nil pass0 (zaa zag (zaa (pv 0) (zaa (pv 1) zac))))) (zae (zar (i:=2) zck.nd rfl (Or.inr rfl) (zaf zbz rfl m_sorted (by decide+kernel) (zaa (zbv (own:=["some"]) (caps:=["k"]) (ix:=[1]) rfl (zcw (zal G2 hr rfl D2.m D2.F.kp D2.b .nil pass0 (zaa (pv 0) zac))) rfl rfl (.cons rfl rfl .nil) (fun _ _ _ _ _=>(zay (i:=0) (show(["some","k"]:List Str).Nodup from by decide+kernel) rfl (Or.inl rfl))) (fun _ _ _ _ _=>pts_one (zbh op_eq (zaf (call_lenK K) rfl m_len PySem.boot_len (zaa (pv 0) zac)) (pv 1) (nomark _))) (fun _ _ _ _ _=>(pv 0))) zac))) (zae (zar (i:=3) zck.nd rfl (Or.inl rfl) (zaf zbc rfl m_len PySem.boot_len (zaa (pv 2) zac))) (zae (zcg (zal G3 hr rfl D3.m D3.F.kp D3.b .nil pass0 (zaa (pv 3) zac))) (zah (zbb (zbt (zaa (pv 3) (zaa (zcx zbu rfl m_tuple (by decide+kernel) (zaa (zbv (own:=["i","j"]) (caps:=["picked"]) (ix:=[2]) rfl (zcw (zal G5 hr rfl D5.m D5.F.kp D5.b .nil pass0 (zaa (pv 3) zac))) rfl rfl (.cons rfl rfl .nil) (fun _ _ _ _ _=>(pg_tupK K (n:=2) rfl (pgs_cons (zay (i:=0) (show(["i","j","picked"]:List Str).Nodup from by decide+kernel) rfl (Or.inl rfl)) (pgs_cons (zay (i:=1) (show(["i","j","picked"]:List Str).Nodup from by decide+kernel) rfl (Or.inl rfl)) pgs_nil)))) (fun _ _ _ _ _=>pts_one (pt_not (pt_truthK K (zal G4 hr rfl D4.m D4.F.kp D4.b .nil pass0 (zaa (zch (ix_listK K) (pv 2) (pv 0) (fun _ _=>rfl)) (zaa (zch (ix_listK K) (pv 2) (pv 1) (fun _ _=>rfl)) zac))) (fun _=>rfl)))) (fun _ _ _ _ _=>(zbt (zaa (pv 0) (zaa (pv 1) zac))))) zac)) zac)))))))))),?_⟩
 refine⟨_,rfl,1,10,m,rfl,m0,m1,?_⟩
 refine⟨_,rfl,_,rfl,1,m,k,rfl,k0,k1,?_⟩
 refine⟨_,rfl,m,rfl,by omega,m1,fun r its H1 s1 hr1 hT hm=> ?_⟩
 refine⟨r,_,rfl,SqL.of hr1,fun hz=> ?_⟩
 refine zda (xs:=its.map fun p=>V.ref p.1) (fun i acc σ H'=>acc=((its.take i).filter fun p=>decide (p.2.length=k.toNat)).map (fun p=>V.ref p.1)/\Same H1 H'/\∃o,σ=[o,some (.int k)]) ⟨rfl,Same.refl _,_,rfl⟩ (fun i acc σ H' _ p=>p.2.1.seq (SqL.of hr1)) (fun i acc σ H' hi p=> ?_) hz (fun i x acc σ H' hx p=> ?_) (fun acc σ H' p=> ?_)
 ·rw[p.1,List.length_map]
  exact Nat.le_trans (List.length_filter_le _ _) (by rw[List.length_take];exact Nat.min_le_left _ _)
 ·obtain⟨rfl,sm,o,rfl⟩:=p
  rw[List.getElem?_map]at hx
  cases ex:its[i]? with
  |none=>rw[ex]at hx;cases hx
  |some v=>
   rw[ex]at hx
   cases hx
   have mv:=List.mem_of_getElem? ex
   refine⟨_,rfl,v.1,_,rfl,.inr (sm.tup (hT v mv)),fun _=>⟨_,rfl,rfl,_,rfl,?_⟩⟩
   have e:decide (V.int (((v.2.map V.int).length:Nat):Int)=V.int k)=decide (v.2.length=k.toNat):=by
    refine decide_eq_decide.mpr ⟨fun z=> ?_,fun z=> ?_⟩
    ·have:=V.int.inj z
     rw[List.length_map]at this
     omega
    ·rw[List.length_map,z]
     congr 1
     omega
   rw[e]
   have go:=picked_go (H:=H) (k:=k) ex
   refine ite2 (fun c=> ?_) (fun c=> ?_)
   ·exact⟨_,rfl,by rw[go,if_pos c,List.map_append];rfl,sm,_,rfl⟩
   ·exact⟨by rw[go,if_neg c,List.append_nil],sm,_,rfl⟩
 intro p1 hp1
 obtain⟨rfl,sm,_⟩:=p
 rw[List.length_map,List.take_length]
 have hcnt:=cnt_its (k:=k) hm
 have s2:=zad hp1 (.lst ((its.filter fun p=>decide (p.2.length=k.toNat)).map fun p=>V.ref p.1))
 have s02:=s1.trans (sm.trans s2)
 have hJ:∀p∈(its.filter fun p=>decide (p.2.length=k.toNat)),SqT K (upd H' p1 (.lst ((its.filter fun p=>decide (p.2.length=k.toNat)).map fun p=>V.ref p.1))) p.1 (p.2.map V.int)/\p.2≠[]:=fun p hp=>by
  obtain⟨z1,z2⟩:=List.mem_filter.mp hp
  refine⟨(sm.trans s2).tup (hT p z1),fun e=> ?_⟩
  have:=of_decide_eq_true z2
  rw[e,List.length_nil]at this
  omega
 refine⟨p1,_,rfl,SqL.of zab,hJ,by rw[hcnt];omega,fun l its' hl hperm hsort=> ?_⟩
 have s3:=zad hl (.lst (its'.map fun p=>V.ref p.1))
 have hlen:its'.length=cntS m k:=by rw[hperm.length_eq,hcnt]
 have e3:(upd (upd H' p1 (.lst ((its.filter fun p=>decide (p.2.length=k.toNat)).map fun p=>V.ref p.1))) l (.lst (its'.map fun p=>V.ref p.1))) l=some (.lst (its'.map fun p=>V.ref p.1)):=zab
 have hJ3:SetsV K (upd (upd H' p1 (.lst ((its.filter fun p=>decide (p.2.length=k.toNat)).map fun p=>V.ref p.1))) l (.lst (its'.map fun p=>V.ref p.1))) its':=fun p hp=>s3.tup (hJ p (hperm.mem_iff.mp hp)).1
 have s03:=s02.trans s3
 generalize (upd (upd H' p1 (.lst ((its.filter fun p=>decide (p.2.length=k.toNat)).map fun p=>V.ref p.1))) l (.lst (its'.map fun p=>V.ref p.1)))=H3 at *
 have hL:its'.map (·.2)=pkL m.toNat k.toNat:=by
  refine srtL_is ((hperm.map _).trans ?_) (by rw[List.pairwise_map];exact hsort)
  have e:pickS m.toNat k.toNat=(its.filter fun p=>decide (p.2.length=k.toNat)).map (·.2):=by
   unfold pickS
   rw[<-hm,List.filter_map]
   rfl
  rw[e]
 refine⟨_,rfl,l,_,rfl,.inl (SqL.of e3),fun _=> ?_⟩
 rw[List.length_map,hlen]
 refine⟨_,rfl,(cntS m k:Int),rfl,by omega,?_⟩
 refine⟨_,rfl,_,rfl,(cntS m k:Int),rfl,by omega,by omega,fun l2 H4 s4 hP=> ?_⟩
 obtain⟨rs,e1,v1⟩:=hP.ex
 refine⟨l2,rs,rfl,SqL.of e1,fun hz2=> ?_⟩
 have hrs:rs.length=(rows tt (cntS m k:Int) (cntS m k:Int).toNat).length:=by have:=v1.len;rwa [List.length_map]at this
 refine zda (xs:=rs) (fun i acc σ H'=>DVs K H' acc ((((rows tt (cntS m k:Int) (cntS m k:Int).toNat).take i).filter fun q=>notBoth (pkL m.toNat k.toNat) q.1 q.2).map pairD)/\Same H4 H'/\∃o1 o2,σ=[o1,o2,some (.ref l)]) ⟨.nil,Same.refl _,_,_,rfl⟩ (fun i acc σ H' _ p=>p.2.1.seq (SqL.of e1)) (fun i acc σ H' _ p=> ?_) hz2 (fun i x acc σ H5 hx p=> ?_) (fun acc σ H5 p=> ?_)
 ·have z:=p.1.len
  rw[z,List.length_map]
  exact Nat.le_trans (List.length_filter_le _ _) (by rw[List.length_take];exact Nat.min_le_left _ _)
 ·obtain⟨hla,s5,o1,o2,rfl⟩:=p
  obtain⟨t,hi,rfl,ht⟩:=pair_at v1 hx
  have hmem:=List.getElem_mem hi
  have hget:(rows tt (cntS m k:Int) (cntS m k:Int).toNat)[i]? =some (rows tt (cntS m k:Int) (cntS m k:Int).toNat)[i]:=List.getElem?_eq_getElem hi
  have go:=rows_take_go (so:=notBoth (pkL m.toNat k.toNat)) hget
  generalize (rows tt (cntS m k:Int) (cntS m k:Int).toNat)[i]=pr at *
  obtain⟨q0,q1,q2,q3,_⟩:=zcn.mp hmem
  have s45:=s4.trans s5
  have hLs:SqL K H5 l (its'.map fun p=>V.ref p.1):=SqL.of (s45 _ _ e3)
  obtain⟨v,mv,av,ev⟩:=at_its hL (j:=pr.1) q0 (by omega)
  obtain⟨u,mu,au,eu⟩:=at_its hL (j:=pr.2) (by omega) (by omega)
  refine⟨t,_,rfl,s5.tup ht,rfl,_,_,rfl,_,_,rfl,rfl,?_⟩
  refine⟨_,rfl,_,rfl,l,_,_,_,rfl,rfl,hLs,av,_,rfl,_,rfl,l,_,_,_,rfl,rfl,hLs,au,v.1,u.1,v.2,u.2,rfl,s45.tup (hJ3 v mv),s45.tup (hJ3 u mu),fun r6 H6 s6 h6=>⟨_,.inl ⟨_,SqL.of h6,rfl⟩,?_⟩⟩
  have nb:(!(!((v.2.filter fun o=>decide (o∈u.2)).map V.int).isEmpty))=notBoth (pkL m.toNat k.toNat) pr.1 pr.2:=by
   unfold notBoth
   rw[Bool.not_not,List.isEmpty_map,ev,eu]
  dsimp only
  rw[nb]
  refine ite2 (fun c=> ?_) (fun c=> ?_)
  ·refine⟨_,rfl,_,rfl,(by show 2<=sizeLine;decide),fun pn hpn=> ?_⟩
   have s7:=s6.trans (zad hpn (.tup [.int pr.1,.int pr.2]))
   refine⟨?_,s5.trans s7,_,_,rfl⟩
   rw[go,if_pos c,List.map_append]
   exact(hla.same s7).append (.cons (.tup (SqT.of zab) (.cons (.int _) (.cons (.int _) .nil))) .nil)
  ·refine⟨?_,s5.trans s6,_,_,rfl⟩
   rw[go,if_neg c,List.append_nil]
   exact hla.same s6
 ·intro p2 hp2
  obtain⟨hla,s5,_⟩:=p
  rw[hrs,List.take_length,rows_filter]at hla
  refine⟨p2,_,rfl,.inl ⟨SqL.of zab,fun t ht=>⟨(by show 2<=sizeLine;decide),fun r' hr'=> ?_⟩⟩⟩
  have s6:=zad hp2 (.lst acc)
  have s7:=zad ht (.tup acc)
  have s8:=zad hr' (.tup [.int (cntS m k:Int),.ref t])
  refine q r' _ (s03.trans (s4.trans (s5.trans (s6.trans (s7.trans s8))))) ?_
  exact⟨t,acc,SqT.of zab,s8.tup (SqT.of zab),hla.same (s6.trans (s7.trans s8))⟩
noncomputable def spPicksX(K:W.Frag)(C:Addr):Sp:=fun vs H Q E=>∃m k:Int,vs=[.int m,.int k]/\1<=m/\m<=10/\1<=k/\k<=m/\10<cntS m k/\ER C H E
theorem ok_picksX{f f1 f2 f3:Addr}{fd d1 d2 d3:FuncData}{tk0:Tok}{C:Addr}(F:Fun K "picks" "picks" zce f fd)(D1:Dfn K mg "need_from_to" zak ["least","most","thing"] f1 d1)(G1:FnOk P w K mg base CX0 2 f1 d1 ["least","most","thing"] (spFromTo K))(D2:Dfn K mg "all_sets" zbg ["n"] f2 d2)(G2':FnOk P w K mg base CX0 1 f2 d2 ["n"] (spAllSets K))(D3:Dfn K mg "need_few" zbd ["n"] f3 d3)(X3:FnOk P w K mg base (CX1 P w) 1 f3 d3 ["n"] (spNeedFewX K C))(m_sorted:mg "sorted"=none)(m_len:mg "len"=none)(m_MOST_PLACES:mg "MOST_PLACES"=some (.int 10 tk0)):
  FnOk P w K mg base (CX1 P w) 3 f fd ["m","k"] (spPicksX K C):=by
 have G2:FnOk P w K mg base CX0 2 f2 d2 ["n"] (spAllSets K):=G2'.mono (by decide)
 refine F.okX zck (fun vs H Q E h=> ?_) (fun cdv A outer s H vs Q E hr h=> ?_)
 ·obtain⟨_,_,rfl,_⟩:=h
  rfl
 obtain⟨m,k,rfl,m0,m1,k0,k1,hc,q⟩:=h
 have hc2:cntS m k<=252:=by
  have z:=look_at (m:=m.toNat) (k:=k.toNat) (by omega) (by omega)
  rw[zdl,z.1]
  exact(z.2.1 _ (Nat.le_refl _)).1
 refine⟨_,(zae (zcg (zal G1 hr rfl D1.m D1.F.kp D1.b .nil pass0 (zaa zag (zaa (zbj rfl m_MOST_PLACES (v:= .int 10) ⟨_,rfl⟩) (zaa (pv 0) zac))))) (zae (zcg (zal G1 hr rfl D1.m D1.F.kp D1.b .nil pass0 (zaa zag (zaa (pv 0) (zaa (pv 1) zac))))) (zae (zar (i:=2) zck.nd rfl (Or.inr rfl) (zaf zdj rfl m_sorted (by decide+kernel) (zaa (zbv (own:=["some"]) (caps:=["k"]) (ix:=[1]) rfl (zcw (zal G2 hr rfl D2.m D2.F.kp D2.b .nil pass0 (zaa (pv 0) zac))) rfl rfl (.cons rfl rfl .nil) (fun _ _ _ _ _=>(zay (i:=0) (show(["some","k"]:List Str).Nodup from by decide+kernel) rfl (Or.inl rfl))) (fun _ _ _ _ _=>pts_one (zbh op_eq (zaf (call_lenK K) rfl m_len PySem.boot_len (zaa (pv 0) zac)) (pv 1) (nomark _))) (fun _ _ _ _ _=>(pv 0))) zac))) (zae (zar (i:=3) zck.nd rfl (Or.inl rfl) (zaf zbc rfl m_len PySem.boot_len (zaa (pv 2) zac))) (zae (zcg (zal (E:=E) (X3.mono (by decide)) hr rfl D3.m D3.F.kp D3.b .nil pass1 (zaa (pv 3) zac))) pss_never))))),?_⟩
 refine⟨_,rfl,1,10,m,rfl,m0,m1,?_⟩
 refine⟨_,rfl,_,rfl,1,m,k,rfl,k0,k1,?_⟩
 refine⟨_,rfl,m,rfl,by omega,m1,fun r its H1 s1 hr1 hT hm=> ?_⟩
 refine⟨r,_,rfl,SqL.of hr1,fun hz=> ?_⟩
 refine zda (xs:=its.map fun p=>V.ref p.1) (fun i acc σ H'=>acc=((its.take i).filter fun p=>decide (p.2.length=k.toNat)).map (fun p=>V.ref p.1)/\Same H1 H'/\∃o,σ=[o,some (.int k)]) ⟨rfl,Same.refl _,_,rfl⟩ (fun i acc σ H' _ p=>p.2.1.seq (SqL.of hr1)) (fun i acc σ H' hi p=> ?_) hz (fun i x acc σ H' hx p=> ?_) (fun acc σ H' p=> ?_)
 ·rw[p.1,List.length_map]
  exact Nat.le_trans (List.length_filter_le _ _) (by rw[List.length_take];exact Nat.min_le_left _ _)
 ·obtain⟨rfl,sm,o,rfl⟩:=p
  rw[List.getElem?_map]at hx
  cases ex:its[i]? with
  |none=>rw[ex]at hx;cases hx
  |some v=>
   rw[ex]at hx
   cases hx
   have mv:=List.mem_of_getElem? ex
   refine⟨_,rfl,v.1,_,rfl,.inr (sm.tup (hT v mv)),fun _=>⟨_,rfl,rfl,_,rfl,?_⟩⟩
   have e:decide (V.int (((v.2.map V.int).length:Nat):Int)=V.int k)=decide (v.2.length=k.toNat):=by
    refine decide_eq_decide.mpr ⟨fun z=> ?_,fun z=> ?_⟩
    ·have:=V.int.inj z
     rw[List.length_map]at this
     omega
    ·rw[List.length_map,z]
     congr 1
     omega
   rw[e]
   have go:=picked_go (H:=H) (k:=k) ex
   refine ite2 (fun c=> ?_) (fun c=> ?_)
   ·exact⟨_,rfl,by rw[go,if_pos c,List.map_append];rfl,sm,_,rfl⟩
   ·exact⟨by rw[go,if_neg c,List.append_nil],sm,_,rfl⟩
 intro p1 hp1
 obtain⟨rfl,sm,_⟩:=p
 rw[List.length_map,List.take_length]
 have hcnt:=cnt_its (k:=k) hm
 have s2:=zad hp1 (.lst ((its.filter fun p=>decide (p.2.length=k.toNat)).map fun p=>V.ref p.1))
 have s02:=s1.trans (sm.trans s2)
 have hJ:∀p∈(its.filter fun p=>decide (p.2.length=k.toNat)),SqT K (upd H' p1 (.lst ((its.filter fun p=>decide (p.2.length=k.toNat)).map fun p=>V.ref p.1))) p.1 (p.2.map V.int)/\p.2≠[]:=fun p hp=>by
  obtain⟨z1,z2⟩:=List.mem_filter.mp hp
  refine⟨(sm.trans s2).tup (hT p z1),fun e=> ?_⟩
  have:=of_decide_eq_true z2
  rw[e,List.length_nil]at this
  omega
 refine⟨p1,_,rfl,SqL.of zab,hJ,by rw[hcnt];omega,fun l its' hl hlen0 hmem0=> ?_⟩
 have s3:=zad hl (.lst (its'.map fun p=>V.ref p.1))
 have hlen:its'.length=cntS m k:=by rw[hlen0,hcnt]
 have e3:(upd (upd H' p1 (.lst ((its.filter fun p=>decide (p.2.length=k.toNat)).map fun p=>V.ref p.1))) l (.lst (its'.map fun p=>V.ref p.1))) l=some (.lst (its'.map fun p=>V.ref p.1)):=zab
 have hJ3:SetsV K (upd (upd H' p1 (.lst ((its.filter fun p=>decide (p.2.length=k.toNat)).map fun p=>V.ref p.1))) l (.lst (its'.map fun p=>V.ref p.1))) its':=fun p hp=>s3.tup (hJ p (hmem0 p hp)).1
 have s03:=s02.trans s3
 generalize (upd (upd H' p1 (.lst ((its.filter fun p=>decide (p.2.length=k.toNat)).map fun p=>V.ref p.1))) l (.lst (its'.map fun p=>V.ref p.1)))=H3 at *
 refine⟨_,rfl,l,_,rfl,.inl (SqL.of e3),fun _=> ?_⟩
 rw[List.length_map,hlen]
 exact⟨_,rfl,(cntS m k:Int),rfl,by omega,fun e H' s5 he=>q e H' (s03.trans s5) he⟩
end
end Hs
namespace Hs
open PySem L2 HsD
section
variable{P:Program}{w:World}{K:W.Frag}{mg:Str->Option Value}{base:Heap}
theorem extAll_go{m:Int}{l:List (List Int)}{i:Nat}{s:List Int}(ex:l[i]? =some s):extAll m (l.take (i+1))=extAll m (l.take i)++exts m s (m-(topI s+1)).toNat:=by
 unfold extAll
 rw[List.take_add_one,ex,List.map_append,List.flatten_append]
 show _++List.flatten [_]=_
 simp
theorem extAll_pre(m:Int)(l:List (List Int))(j:Nat):extAll m (l.take j)<+:extAll m l:=by
 unfold extAll
 refine⟨((l.drop j).map fun s=>exts m s (m-(topI s+1)).toNat).flatten,?_⟩
 rw[<-List.flatten_append,<-List.map_append,List.take_append_drop]
noncomputable def spChoi(K:W.Frag):Sp:=fun vs H Q _=>∃m k:Int,vs=[.int m,.int k]/\1<=m/\m<=10/\1<=k/\k<=m/\∀(r:Addr) (its:List (Addr×List Int)) H',Same H H'->H' r=some (.lst (its.map fun p=>V.ref p.1))->SetsV K H' its->its.length=cntS m k->(cntS m k<=10->its.map (·.2)=pkL m.toNat k.toNat)->Q (.ref r) H'
theorem zcr:FnScope ["m","k","found","turn","longer","some"] ["m","k"] (defScope zan):=⟨rfl,rfl,rfl,by decide+kernel,rfl,by decide+kernel,by decide+kernel⟩
theorem ok_choi{f:Addr}{fd:FuncData}(F:Fun K "_law_b_choices" "_law_b_choices" zan f fd)(m_range:mg "range"=none)(m_max:mg "max"=none)(m_sorted:mg "sorted"=none):
  FnOk P w K mg base CX0 1 f fd ["m","k"] (spChoi K):=by
 refine F.ok zcr (fun vs H Q E h=> ?_) (fun cdv A outer s H vs Q E hr h=> ?_)
 ·obtain⟨m,k,rfl,_⟩:=h
  rfl
 obtain⟨m,k,rfl,m0,m1,k0,k1,q⟩:=h
 refine⟨_,(zae (zar (i:=2) zcr.nd rfl (Or.inl rfl) (zbx (zaa (zbt zac) zac))) (zae (zdg PassesOwn.never rfl (zbn rfl m_range (zaa (pv 1) zac)) (zay (i:=3) zcr.nd rfl (Or.inl rfl)) (zae (zar (i:=4) zcr.nd rfl (Or.inl rfl) (zbx zac)) (zae (zdg PassesOwn.never rfl (zcw (pv 2)) (zay (i:=5) zcr.nd rfl (Or.inr rfl)) (zah (zar (i:=4) zcr.nd rfl (Or.inl rfl) (zao op_cat (pv 4) (zbv (own:=["one"]) (caps:=["some"]) (ix:=[5]) rfl (pi_range2 rfl m_range (zaa (zao zbp (zaf (call_maxT rfl) rfl m_max (by decide+kernel) (zaa (zao op_catE (zbt (zaa (pe_un un_neg zag) zac)) (pv 5)) zac)) zag) (zaa (pv 0) zac))) rfl rfl (.cons rfl rfl .nil) (fun _ _ _ _ _=>(zay (i:=0) (show(["one","some"]:List Str).Nodup from by decide+kernel) rfl (Or.inl rfl))) (fun _ _ _ _ _=>zdc) (fun _ _ _ _ _=>(zao (op_catEK K) (pv 1) (zbt (zaa (pv 0) zac))))))))) (zah (zar (i:=2) zcr.nd rfl (Or.inl rfl) (pv 4)))))) (zah (zbb (zaf (zbz.or zdj) rfl m_sorted (by decide+kernel) (zaa (pv 2) zac)))))),?_⟩
 obtain⟨lk1,lk2,lk3⟩:=look_at (m:=m.toNat) (k:=k.toNat) (by omega) (by omega)
 have em:((m.toNat:Nat):Int)=m:=by omega
 rw[em]at lk1 lk2 lk3
 refine⟨(by show 0<=sizeLine;decide),fun p0 hp0=> ?_⟩
 have s0:=zad hp0 (.tup [])
 refine⟨(by show 1<=sizeLine;decide),fun l0 hl0=> ?_⟩
 have s1:=zad hl0 (.lst [.ref p0])
 refine⟨_,rfl,k,rfl,by omega,by omega,?_⟩
 refine zbw (n:=k.toNat) (fun t σ H'=>∃(l:Addr) (its:List (Addr×List Int)) (b3 b4 b5:Option V),σ=[some (.int m),some (.int k),some (.ref l),b3,b4,b5]/\Same H H'/\H' l=some (.lst (its.map fun p=>V.ref p.1))/\SetsV K H' its/\its.map (·.2)=choF m t) ⟨l0,[(p0,[])],_,_,_,rfl,s0.trans s1,zab,fun p hp=>by rw[List.mem_singleton.mp hp];exact s1.tup (SqT.of zab),rfl⟩ (fun t σ H1 ht p=> ?_) (fun σ H1 p=> ?_)
 ·obtain⟨l,its,b3,b4,b5,rfl,sm,hl,hT,hm⟩:=p
  have lkt:=lk2 (t+1) (by omega)
  have lkt0:=lk2 t (by omega)
  have hlen:its.length<=252:=by have:=congrArg List.length hm;rw[List.length_map]at this;rw[this];exact lkt0.1
  refine⟨(by show 0<=sizeLine;decide),fun l1 hl1=> ?_⟩
  have s2:=zad hl1 (.lst [])
  have hl2:=s2 _ _ hl
  have hT2:=hT.same s2
  have e1:(upd H1 l1 (.lst [])) l1=some (.lst []):=zab
  generalize (upd H1 l1 (.lst []))=H2 at *
  refine⟨_,rfl,l,_,rfl,SqL.of hl2,fun hz=> ?_⟩
  refine for_list (xs:=its.map fun p=>V.ref p.1) (fun i σ H'=>∃(lg:Addr) (jts:List (Addr×List Int)) (b5:Option V),σ=[some (.int m),some (.int k),some (.ref l),some (.int (0+(t:Int))),some (.ref lg),b5]/\Same H2 H'/\H' lg=some (.lst (jts.map fun p=>V.ref p.1))/\SetsV K H' jts/\jts.map (·.2)=extAll m ((its.map (·.2)).take i)) ⟨l1,[],_,rfl,Same.refl _,e1,fun p hp=>(nomatch hp),rfl⟩ (fun i σ H' _ p=> ?_) (fun i x σ H3 hx p=> ?_) (fun σ H3 p=> ?_)
  ·obtain⟨_,_,_,_,s3,_⟩:=p
   exact s3.seq (SqL.of hl2)
  ·obtain⟨lg,jts,b5,rfl,s3,hg,hJ,hj⟩:=p
   rw[List.getElem?_map]at hx
   cases ex:its[i]? with
   |none=>rw[ex]at hx;cases hx
   |some v=>
    rw[ex]at hx
    cases hx
    have mv:=List.mem_of_getElem? ex
    have exs:(its.map (·.2))[i]? =some v.2:=by rw[List.getElem?_map,ex];rfl
    have go:=extAll_go (m:=m) exs
    obtain⟨lv,bv⟩:=lkt0.2 v.2 (by rw[<-hm];exact List.mem_map_of_mem mv)
    -- how many there are
    have h252:(extAll m (its.map (·.2))).length<=252:=by rw[hm];exact lkt.1
    have hjl:jts.length<=252:=by
     have:=congrArg List.length hj
     rw[List.length_map]at this
     rw[this]
     exact Nat.le_trans (extAll_pre m _ i).length_le h252
    have tops:=top_le v.2 (-1)
    have t0: -1<=topI v.2:=tops.1
    have t1:topI v.2<10:=by
     rcases tops.2.2 with z|z
     ·show v.2.foldl _ (-1)<10;rw[z];decide
     ·have:=(bv _ z).2;show v.2.foldl _ (-1)<10;omega
    refine⟨_,rfl,_,rfl,(by show 1<=sizeLine;decide),fun p1 hp1=> ?_⟩
    have s4:=zad hp1 (.tup [.int (-1)])
    have hv4:=(s3.trans s4).tup (hT2 v mv)
    refine⟨_,rfl,p1,v.1,_,_,rfl,rfl,SqT.of zab,hv4,(by rw[List.length_map,lv,sizeLine_eq];show 1+_<=_;omega),fun r5 H5 s5 h5=> ?_⟩
    refine⟨r5, -1::v.2,rfl,h5,(fun e=>nomatch e),fun mx hmx hmx2=> ?_⟩
    have emx:=top_is hmx hmx2
    subst emx
    refine⟨_,_,rfl,rfl,_,rfl,_,_,rfl,⟨by omega,by omega,by omega,by omega⟩,?_⟩
    have s35:=s3.trans (s4.trans s5)
    have hg5:=s5 _ _ (s4 _ _ hg)
    have hJ5:=hJ.same (s4.trans s5)
    have hv5:=s5.tup hv4
    refine zcd (n:=(m-(topI v.2+1)).toNat) (fun c acc σ H'=>∃kts:List (Addr×List Int),acc=kts.map (fun p=>V.ref p.1)/\kts.map (·.2)=exts m v.2 c/\SetsV K H' kts/\Same H5 H'/\∃o,σ=[o,some (.ref v.1)]) ⟨[],rfl,rfl,fun p hp=>(nomatch hp),Same.refl _,_,rfl⟩ (fun c acc σ H' hc p=> ?_) (by rw[sizeLine_eq];omega) (fun c acc σ H' hc p=> ?_) (fun acc σ H' p=> ?_)
    ·obtain⟨kts,rfl,hk,_⟩:=p
     have:=congrArg List.length hk
     unfold exts at this
     rw[List.length_map,List.length_map,List.length_range]at this
     rw[List.length_map,this];exact Nat.le_refl _
    ·obtain⟨kts,rfl,hk,hK,s6,o,rfl⟩:=p
     refine⟨_,rfl,_,rfl,(by show 1<=sizeLine;decide),fun p2 hp2=> ?_⟩
     have s7:=zad hp2 (.tup [.int (topI v.2+1+(c:Int))])
     refine⟨v.1,p2,_,_,rfl,rfl,(s6.trans s7).tup hv5,SqT.of zab,(by rw[List.length_map,lv,sizeLine_eq];show _+1<=_;omega),fun r8 H8 s8 h8=> ?_⟩
     have s78:=s7.trans s8
     refine⟨kts++[(r8,v.2++[topI v.2+1+(c:Int)])],by rw[List.map_append];rfl,by rw[List.map_append,hk,exts_succ];rfl,fun p hp=> ?_,s6.trans s78,_,rfl⟩
     rcases List.mem_append.mp hp with z|z
     ·exact s78.tup (hK p z)
     ·rw[List.mem_singleton.mp z]
      show SqT K H8 r8 ((v.2++[topI v.2+1+(c:Int)]).map V.int)
      rw[List.map_append]
      exact h8
    ·intro p2 hp2
     obtain⟨kts,rfl,hk,hK,s6,_⟩:=p
     have s7:=zad hp2 (.lst (kts.map fun p=>V.ref p.1))
     have hg7:=s7 _ _ (s6 _ _ hg5)
     have hkl:kts.length<=11:=by
      have:=congrArg List.length hk
      unfold exts at this
      rw[List.length_map,List.length_map,List.length_range]at this
      omega
     refine⟨lg,p2,_,_,rfl,rfl,hg7,zab,(by rw[List.length_map,List.length_map,sizeLine_eq];omega),fun p3 hp3=> ?_⟩
     have s8:=zad hp3 (.lst (jts.map (fun p=>V.ref p.1)++kts.map fun p=>V.ref p.1))
     have s78:=s7.trans s8
     refine⟨p3,jts++kts,_,rfl,s35.trans (s6.trans s78),by rw[zab,List.map_append],fun p hp=> ?_,by rw[List.map_append,hj,hk,go]⟩
     rcases List.mem_append.mp hp with z|z
     ·exact(s6.trans s78).tup (hJ5 p z)
     ·exact s78.tup (hK p z)
  ·obtain⟨lg,jts,b5,rfl,s3,hg,hJ,hj⟩:=p
   have e:(its.map (·.2)).take (its.map fun p=>V.ref p.1).length=its.map (·.2):=by rw[List.length_map,<-List.length_map (f:=(·.2)) (as:=its),List.take_length]
   rw[e,hm]at hj
   exact⟨_,rfl,lg,jts,_,_,_,rfl,sm.trans (s2.trans s3),hg,hJ,hj⟩
 ·obtain⟨l,its,b3,b4,b5,rfl,sm,hl,hT,hm⟩:=p
  have hlen:its.length=cntS m k:=by have:=congrArg List.length hm;rw[List.length_map]at this;rw[this,zdl,lk1]
  have h252:its.length<=252:=by rw[hlen,zdl,lk1];exact(lk2 _ (Nat.le_refl _)).1
  have hne:∀p∈its,p.2≠[]:=fun p hp e=>by
   have:=((lk2 _ (Nat.le_refl _)).2 p.2 (by rw[<-hm];exact List.mem_map_of_mem hp)).1
   rw[e,List.length_nil]at this
   omega
  by_cases hc:cntS m k<=10
  ·refine⟨_,rfl,.inl ⟨l,its,rfl,SqL.of hl,fun p hp=>⟨hT p hp,hne p hp⟩,by omega,fun l2 its' hl2 hperm hsort=> ?_⟩⟩
   have s2:=zad hl2 (.lst (its'.map fun p=>V.ref p.1))
   refine q l2 its' _ (sm.trans s2) zab (fun p hp=>s2.tup (hT p (hperm.mem_iff.mp hp))) (hperm.length_eq.trans hlen) fun _=> ?_
   refine srtL_is ((hperm.map _).trans ?_) (by rw[List.pairwise_map];exact hsort)
   rw[hm]
   exact(lk3 (by rw[<-zdl];exact hc)).symm
  ·refine⟨_,rfl,.inr ⟨l,its,rfl,SqL.of hl,fun p hp=>⟨hT p hp,hne p hp⟩,by omega,fun l2 its' hl2 hlen2 hmem2=> ?_⟩⟩
   have s2:=zad hl2 (.lst (its'.map fun p=>V.ref p.1))
   exact q l2 its' _ (sm.trans s2) zab (fun p hp=>s2.tup (hT p (hmem2 p hp))) (hlen2.trans hlen) fun z=>absurd z hc
end
end Hs
namespace Hs
open PySem L2 HsD
section
variable{P:Program}{w:World}{K:W.Frag}{mg:Str->Option Value}{base:Heap}
noncomputable def spLPicks(K:W.Frag):Sp:=fun vs H Q _=>∃(a:Addr) (its:List (Addr×List Int)),vs=[.ref a]/\H a=some (.lst (its.map fun p=>V.ref p.1))/\SetsV K H its/\its.length<=10/\∀r H',Same H H'->WebV K H' r (its.length:Int) (rows (notBoth (its.map (·.2))) (its.length:Int) (its.length:Int).toNat)->Q (.ref r) H'
theorem zcu:FnScope ["places","found","i","j"] ["places"] (defScope zau):=⟨rfl,rfl,rfl,by decide+kernel,rfl,by decide+kernel,by decide+kernel⟩
theorem ok_lpicks{f:Addr}{fd:FuncData}(F:Fun K "_law_b_picks" "_law_b_picks" zau f fd)(m_range:mg "range"=none)(m_len:mg "len"=none)(m_tuple:mg "tuple"=none):
  FnOk P w K mg base CX0 1 f fd ["places"] (spLPicks K):=by
 refine F.ok zcu (fun vs H Q E h=> ?_) (fun cdv A outer s H vs Q E hr h=> ?_)
 ·obtain⟨a,its,rfl,_⟩:=h
  rfl
 obtain⟨a,its,rfl,hA,hT,h10,q⟩:=h
 refine⟨_,(zae (zar (i:=1) zcu.nd rfl (Or.inl rfl) (zbx zac)) (zae (zdg PassesOwn.never rfl (zbn rfl m_range (zaa (zaf zbc rfl m_len PySem.boot_len (zaa (pv 0) zac)) zac)) (zay (i:=2) zcu.nd rfl (Or.inl rfl)) (zah (zdg PassesOwn.never rfl (pi_range2 rfl m_range (zaa (zao zbp (pv 2) zag) (zaa (zaf zbc rfl m_len PySem.boot_len (zaa (pv 0) zac)) zac))) (zay (i:=3) zcu.nd rfl (Or.inr rfl)) (zah (zcp (zbh (op_eqD hr.units) (zbv (own:=["one"]) (caps:=["places","j"]) (ix:=[0,3]) rfl (pi_tupL (zch zbl (pv 0) (pv 2) (fun _ _=>rfl))) rfl rfl (.cons rfl rfl (.cons rfl rfl .nil)) (fun _ _ _ _ _=>(zay (i:=0) (show(["one","places","j"]:List Str).Nodup from by decide+kernel) rfl (Or.inl rfl))) (fun _ _ _ _ _=>pts_one (zbh (op_inDK K hr.units) (pv 0) (zch (ix_listK K) (pv 1) (pv 2) (fun _ _=>rfl)) (by with_unfolding_all rfl))) (fun _ _ _ _ _=>(pv 0))) (zbx zac) (nomark _)) (zah (zcg (pe_bm PySem.F.plainAttrs_list PySem.F.slot_list_append PySem.F.type_list_append mt_append (pv 1) (zaa (zbt (zaa (pv 2) (zaa (pv 3) zac))) zac)))) zbi))))) (zah (zbb (zbt (zaa (zaf zbc rfl m_len PySem.boot_len (zaa (pv 0) zac)) (zaa (zcx zbu rfl m_tuple (by decide+kernel) (zaa (pv 1) zac)) zac))))))),?_⟩
 refine⟨(by show 0<=sizeLine;decide),fun l hl=> ?_⟩
 have s0:=zad hl (.lst [])
 have e0:(upd H l (.lst [])) l=some (.lst []):=zab
 generalize (upd H l (.lst []))=H0 at *
 have hA0:=s0 _ _ hA
 have hT0:=hT.same s0
 have nla:a≠l:=fun z=>by rw[z,hl]at hA;cases hA
 refine⟨_,rfl,a,_,rfl,.inl (SqL.of hA0),fun _=> ?_⟩
 rw[List.length_map]
 refine⟨_,rfl,by omega,by omega,?_⟩
 refine zbw (n:=its.length) (fun i σ H'=>Same H H'/\(∃rs,H' l=some (.lst rs)/\DVs K H' rs ((rows (notBoth (its.map (·.2))) (its.length:Int) i).map pairD))/\∃o2 o3,σ=[some (.ref a),some (.ref l),o2,o3]) ⟨s0,⟨[],e0,.nil⟩,_,_,rfl⟩ (fun i σ H' hi p=> ?_) (fun σ H' p=> ?_)
 ·obtain⟨sm,hrs0,o2,o3,rfl⟩:=p
  refine⟨_,rfl,_,_,rfl,rfl,_,rfl,a,_,rfl,.inl (SqL.of (sm _ _ hA)),fun _=> ?_⟩
  rw[List.length_map]
  refine⟨_,_,rfl,⟨by omega,by omega,by omega,by omega⟩,?_⟩
  refine zbw (n:=((its.length:Int)-(0+(i:Int)+1)).toNat) (fun c σ H'=>Same H H'/\(∃rs,H' l=some (.lst rs)/\DVs K H' rs ((rows (notBoth (its.map (·.2))) (its.length:Int) i++row (notBoth (its.map (·.2))) (0+(i:Int)) c).map pairD))/\∃o3,σ=[some (.ref a),some (.ref l),some (.int (0+(i:Int))),o3]) ⟨sm,by rw[show row (notBoth (its.map (·.2))) (0+(i:Int)) 0=[]from rfl,List.append_nil];exact hrs0,_,rfl⟩ (fun c σ H1 hc p=> ?_) (fun σ H1 p=> ?_)
  ·obtain⟨s1,⟨rs,hr1,hr2⟩,o3,rfl⟩:=p
   have hl1:rs.length<=100:=by
    have z:=hr2.len
    rw[List.length_map,List.length_append]at z
    have y:=pairs_len (rows_ok (so:=notBoth (its.map (·.2))) (m:=(its.length:Int)) (i:=i)) (by omega)
    have x:(row (notBoth (its.map (·.2))) (0+(i:Int)) c).length<=c:=by
     unfold row
     exact Nat.le_trans (List.length_filter_le _ _) (by rw[List.length_map,List.length_range];exact Nat.le_refl _)
    omega
   obtain⟨v,mv,av,ev⟩:=at_its (rfl:its.map (·.2)=its.map (·.2)) (j:=0+(i:Int)) (by omega) (by omega)
   obtain⟨u,mu,au,eu⟩:=at_its (rfl:its.map (·.2)=its.map (·.2)) (j:=0+(i:Int)+1+(c:Int)) (by omega) (by omega)
   have hA1:SqL K H1 a (its.map fun p=>V.ref p.1):=SqL.of (s1 _ _ hA)
   have hv:=s1.tup (hT v mv)
   refine⟨_,rfl,_,rfl,a,_,_,_,rfl,rfl,hA1,av,v.1,_,rfl,hv,fun hz=> ?_⟩
   refine comp_tup (xs:=v.2.map V.int) (fun j acc σ H'=>acc=((v.2.take j).filter fun o=>decide (o∈u.2)).map V.int/\H'=H1/\∃o,σ=[o,some (.ref a),some (.int (0+(i:Int)+1+(c:Int)))]) ⟨rfl,rfl,_,rfl⟩ (fun j acc σ H' _ p=>by rw[p.2.1];exact hv) (fun j acc σ H' _ p=> ?_) hz (fun j x acc σ H' hx p=> ?_) (fun acc σ H' p=> ?_)
   ·rw[p.1,List.length_map]
    exact Nat.le_trans (List.length_filter_le _ _) (by rw[List.length_take];exact Nat.min_le_left _ _)
   ·obtain⟨rfl,rfl,o,rfl⟩:=p
    rw[List.getElem?_map]at hx
    cases ex:v.2[j]? with
    |none=>rw[ex]at hx;cases hx
    |some y=>
     rw[ex]at hx
     cases hx
     refine⟨_,rfl,_,rfl,_,rfl,a,_,_,_,rfl,rfl,hA1,au,u.1,_,_,.int y,rfl,.inr (s1.tup (hT u mu)),DVs.ints u.2,.int _,zcz u.2,rfl,(by show 0<=60;decide),_,rfl,?_⟩
     rw[any_ints]
     have go:=filt_go (p:=fun o=>decide (o∈u.2)) ex
     refine ite2 (fun c=> ?_) (fun c=> ?_)
     ·exact⟨_,rfl,by rw[go,if_pos c,List.map_append];rfl,rfl,_,rfl⟩
     ·exact⟨by rw[go,if_neg c,List.append_nil],rfl,_,rfl⟩
   ·intro p1 hp1
    obtain⟨rfl,rfl,_⟩:=p
    rw[List.length_map,List.take_length]
    have s2:=zad hp1 (.lst ((v.2.filter fun o=>decide (o∈u.2)).map V.int))
    refine⟨(by show 0<=sizeLine;decide),fun p2 hp2=> ?_⟩
    have s3:=zad hp2 (.lst [])
    refine⟨.list ((v.2.filter fun o=>decide (o∈u.2)).map PyData.int),.list [],.lst (SqL.of (s3 _ _ zab)) (DVs.ints _),.lst (SqL.of zab) .nil,zcz _,rfl,(by show min _ 1<=64;omega),_,rfl,?_⟩
    have en:PyData.eqv (.list ((v.2.filter fun o=>decide (o∈u.2)).map PyData.int)) (.list [])=notBoth (its.map (·.2)) (0+(i:Int)) (0+(i:Int)+1+(c:Int)):=by
     unfold notBoth
     rw[<-ev,<-eu]
     cases v.2.filter fun o=>decide (o∈u.2)<;>rfl
    rw[en]
    have hr1':=s3 _ _ (s2 _ _ hr1)
    have hr2':=(hr2.same s2).same s3
    have s13:=s1.trans (s2.trans s3)
    generalize (upd (upd _ p1 (.lst ((v.2.filter fun o=>decide (o∈u.2)).map V.int))) p2 (.lst []))=H3 at *
    have er:=row_succ (notBoth (its.map (·.2))) (0+(i:Int)) c
    refine ite2 (fun cc=> ?_) (fun cc=> ?_)
    ·refine⟨_,rfl,.inl ⟨rfl,_,SqL.of hr1'⟩,_,rfl,_,rfl,(by show 2<=sizeLine;decide),fun p4 hp4=> ?_⟩
     have s4:=zad hp4 (.tup [.int (0+(i:Int)),.int (0+(i:Int)+1+(c:Int))])
     refine⟨l,rs,_,rfl,rfl,s4 _ _ hr1',(by rw[sizeLine_eq];omega),?_⟩
     have x5:SameX l (upd H3 p4 (.tup [.int (0+(i:Int)),.int (0+(i:Int)+1+(c:Int))])) (upd (upd H3 p4 (.tup [.int (0+(i:Int)),.int (0+(i:Int)+1+(c:Int))])) l (.lst (rs++[.ref p4]))):=(SameX.refl _ _).upd
     refine⟨fun b o hb=> ?_,⟨_,zab,?_⟩,_,rfl⟩
     ·have nb:b≠l:=fun e=>by rw[e,hl]at hb;cases hb
      exact x5 _ _ nb (s4 _ _ (s13 _ _ hb))
     ·rw[er,if_pos cc,<-List.append_assoc]
      exact zct x5 (s4 _ _ hr1') (by rw[List.map_append];exact(hr2'.same s4).append (.cons (.tup (SqT.of zab) (.cons (.int _) (.cons (.int _) .nil))) .nil))
    ·refine⟨s13,⟨rs,hr1',?_⟩,_,rfl⟩
     rw[er,if_neg cc,List.append_nil]
     exact hr2'
  ·obtain⟨s1,⟨rs,hr1,hr2⟩,o3,rfl⟩:=p
   rw[<-zcv]at hr2
   exact⟨s1,⟨rs,hr1,hr2⟩,_,_,rfl⟩
 ·obtain⟨sm,⟨rs,hr1,hr2⟩,o2,o3,rfl⟩:=p
  refine⟨_,rfl,a,_,rfl,.inl (SqL.of (sm _ _ hA)),fun _=>⟨_,rfl,l,rs,rfl,.inl ⟨SqL.of hr1,fun t ht=>⟨(by show 2<=sizeLine;decide),fun r hr'=> ?_⟩⟩⟩⟩
  rw[List.length_map]
  have s3:=zad ht (.tup rs)
  have s4:=zad hr' (.tup [.int (its.length:Int),.ref t])
  refine q r _ (sm.trans (s3.trans s4)) ⟨t,rs,SqT.of zab,s4.tup (SqT.of zab),?_⟩
  have e:((its.length:Int)).toNat=its.length:=by omega
  rw[e]
  exact(hr2.same s3).same s4
end
end Hs
namespace Hs
open PySem L2 HsD
section
variable{P:Program}{w:World}{K:W.Frag}{mg:Str->Option Value}{base:Heap}
end
end Hs
namespace L2
open PySem
noncomputable def spOr(a b:Sp):Sp:=fun vs H Q E=>a vs H Q E\/b vs H Q E
theorem FnOk.or{P:Program}{w:World}{K:W.Frag}{mg:Str->Option Value}{base:Heap}{CX:CXT}{k:Nat}{f:Addr}{fd:FuncData}{ps:List Str}{sp sp':Sp}(F:FnOk P w K mg base CX k f fd ps sp)(F':FnOk P w K mg base CX k f fd ps sp'):FnOk P w K mg base CX k f fd ps (spOr sp sp'):=
 ⟨fun vs H Q E q=>q.elim (F.len vs H Q E) (F'.len vs H Q E),fun A outer s H args us vs Q E hr he hb hv hs=>hs.elim (F.run A outer s H args us vs Q E hr he hb hv) (F'.run A outer s H args us vs Q E hr he hb hv)⟩
end L2
namespace Hs
open PySem L2 HsD
section
variable{P:Program}{w:World}{K:W.Frag}{mg:Str->Option Value}{base:Heap}
theorem plain_pairs:∀ts:List (Int×Int),plainDs (ts.map pairD)=true
 |[]=>rfl
 |p::ts=>by
  show(plainD (pairD p)&&plainDs (ts.map pairD))=true
  rw[plain_pairs ts];rfl
theorem plain_web(n:Int)(ts:List (Int×Int)):plainD (webDat n ts)=true:=by
 show(true&&(plainDs (ts.map pairD)&&true))=true
 rw[plain_pairs];rfl
noncomputable def spPRight(K:W.Frag):Sp:=fun vs H Q _=>∃m k:Int,vs=[.int m,.int k]/\1<=m/\m<=10/\1<=k/\k<=m/\∀H',Same H H'->Q (.bl true) H'
theorem zca:FnScope ["m","k","places","caught","found","e"] ["m","k"] (defScope zai):=⟨rfl,rfl,rfl,by decide+kernel,rfl,by decide+kernel,by decide+kernel⟩
theorem ok_pright{f f1 f2 f3 f4 f5 C D:Addr}{cs:List Addr}{fd d1 d2 d3 d4 d5:FuncData}(F:Fun K "_law_b_picks_right" "_law_b_picks_right" zai f fd)(D1:Dfn K mg "_law_b_choices" zan ["m","k"] f1 d1)(G1':FnOk P w K mg base CX0 1 f1 d1 ["m","k"] (spChoi K))(D2:Dfn K mg "picks" zce ["m","k"] f2 d2)(D3:Dfn K mg "_law_b_word" zaz ["e"] f3 d3)(G3':FnOk P w K mg base CX0 2 f3 d3 ["e"] (spWord K cs))(D4:Dfn K mg "_law_b_same" zat ["found","due"] f4 d4)(G4:FnOk P w K mg base CX0 4 f4 d4 ["found","due"] (spSame K 3))(D5:Dfn K mg "_law_b_picks" zau ["places"] f5 d5)(G5':FnOk P w K mg base CX0 1 f5 d5 ["places"] (spLPicks K))(m_len:mg "len"=none)(m_HueError:mg "HueError"=some (.ref D))(X2':FnOk P w K mg base (CX1 P w) 3 f2 d2 ["m","k"] (spOr (spPicks K) (spPicksX K C)))(hx:PySem.W.exmOne K (.ref C) (.ref D)=some true)(hK:Kinds K cs C [false,false,false,false,false,false,false,false,true]):
  FnOk P w K mg base CX0 5 f fd ["m","k"] (spPRight K):=by
 have G1:FnOk P w K mg base CX0 4 f1 d1 ["m","k"] (spChoi K):=G1'.mono (by decide)
 have X2:FnOk P w K mg base (CX1 P w) 4 f2 d2 ["m","k"] (spOr (spPicks K) (spPicksX K C)):=X2'.mono (by decide)
 have G3:FnOk P w K mg base CX0 4 f3 d3 ["e"] (spWord K cs):=G3'.mono (by decide)
 have G5:FnOk P w K mg base CX0 4 f5 d5 ["places"] (spLPicks K):=G5'.mono (by decide)
 refine F.ok zca (fun vs H Q E h=> ?_) (fun cdv A outer s H vs Q E hr h=> ?_)
 ·obtain⟨m,k,rfl,_⟩:=h
  rfl
 obtain⟨m,k,rfl,m0,m1,k0,k1,q⟩:=h
 refine⟨_,(zae (zar (i:=2) zca.nd rfl (Or.inl rfl) (zal G1 hr rfl D1.m D1.F.kp D1.b .nil pass0 (zaa (pv 0) (zaa (pv 1) zac)))) (zae (zar (i:=3) zca.nd rfl (Or.inl rfl) pe_non) (zae (zar (i:=4) zca.nd rfl (Or.inl rfl) pe_non) (zae (ps_tryA (i:=5) (j:=4) rfl rfl X2 hr rfl D2.m D2.F.kp D2.b (zaa (pv 0) (zaa (pv 1) zac)) rfl rfl rfl m_HueError zca.nd rfl rfl (fun e=>(zah (zar (i:=3) zca.nd rfl (Or.inl rfl) (pv 5))))) (zae (zcp (zbh op_gt (zaf zbc rfl m_len PySem.boot_len (zaa (pv 2) zac)) zag (nomark _)) (zah (zbb (zcs op_eq (zal G3 hr rfl D3.m D3.F.kp D3.b .nil pass0 (zaa (pv 3) zac)) zcb (nomark _)))) zbi) (zah (zbb (zcy (zcs op_isN (pv 3) pe_non (nomark _)) (pe_one (zal G4 hr rfl D4.m D4.F.kp D4.b .nil pass0 (zaa (pv 4) (zaa (zal G5 hr rfl D5.m D5.F.kp D5.b .nil pass0 (zaa (pv 2) zac)) zac)))))))))))),?_⟩
 refine⟨_,rfl,_,rfl,m,k,rfl,m0,m1,k0,k1,fun r its H1 s1 hr1 hT hlen hpk=> ?_⟩
 by_cases hc:cntS m k<=10
 ·refine⟨_,rfl,_,rfl,.inl ⟨m,k,rfl,m0,m1,k0,k1,hc,fun r2 H2 s2 hW=> ?_⟩⟩
  have hr2:=s2 _ _ hr1
  refine⟨_,rfl,r,_,rfl,.inl (SqL.of hr2),fun _=>⟨_,_,rfl,rfl,_,rfl,?_⟩⟩
  rw[List.length_map,decide_eq_false (show¬(10:Int)<(its.length:Int) by omega)]
  refine iteF ?_
  refine⟨_,rfl,rfl,_,rfl,iteT ?_⟩
  refine⟨_,rfl,_,rfl,r,its,rfl,hr2,hT.same s2,by omega,fun r3 H3 s3 hW3=> ?_⟩
  have e:WebV K H3 r3 (cntS m k) (nbT m k):=by
   unfold nbT
   rw[<-hlen,<-hpk hc]
   exact hW3
  exact⟨_,_,_,rfl,(hW.same s3).dv,e.dv,plain_web _ _,web_depth4 _ _,fun H4 s4=>q H4 (s1.trans (s2.trans (s3.trans s4)))⟩
 ·refine⟨_,rfl,_,rfl,.inr ⟨m,k,rfl,m0,m1,k0,k1,by omega,fun e H2 s2 he=>⟨e,C,rfl,rfl,hx,?_⟩⟩⟩
  have s3:=zad he (ExcO e C)
  refine⟨_,rfl,?_⟩
  have hr2:=s3 _ _ (s2 _ _ hr1)
  refine⟨_,rfl,r,_,rfl,.inl (SqL.of hr2),fun _=>⟨_,_,rfl,rfl,_,rfl,?_⟩⟩
  rw[List.length_map,decide_eq_true (show(10:Int)<(its.length:Int) by omega)]
  refine iteT ?_
  refine⟨_,rfl,e,C,_,8,"many",rfl,zab,hK,rfl,rfl,fun j hj=> ?_,rfl,fun H4 s4=>⟨rfl,?_⟩⟩
  ·match j,hj with
   |0,_=>rfl
   |1,_=>rfl
   |2,_=>rfl
   |3,_=>rfl
   |4,_=>rfl
   |5,_=>rfl
   |6,_=>rfl
   |7,_=>rfl
  ·exact q H4 (s1.trans (s2.trans (s3.trans s4)))
end
end Hs
namespace Hs
open PySem L2 HsD
section
variable{P:Program}{w:World}{K:W.Frag}{mg:Str->Option Value}{base:Heap}
theorem sc_law:FnScope ["script","tape","turn","n","m"] ["script"] (defScope s_law):=⟨rfl,rfl,rfl,by decide+kernel,rfl,by decide+kernel,by decide+kernel⟩
theorem ok_law{f f1 f2 f3 f4 f5:Addr}{fd d1 d2 d3 d4 d5:FuncData}(F:Fun K "law" "law" s_law f fd)(D1:Dfn K mg "_law_b_digit" zaw ["tape","many"] f1 d1)(G1':FnOk P w K mg base CX0 2 f1 d1 ["tape","many"] (spDigit K))(D2:Dfn K mg "_law_b_same" zat ["found","due"] f2 d2)(G2':FnOk P w K mg base CX0 4 f2 d2 ["found","due"] (spSame K 3))(D3:Dfn K mg "ring" zdf ["n"] f3 d3)(G3':FnOk P w K mg base CX0 3 f3 d3 ["n"] (spRingW K))(D4:Dfn K mg "_law_b_ring" zba ["n"] f4 d4)(G4':FnOk P w K mg base CX0 1 f4 d4 ["n"] (spRingW K))(D5:Dfn K mg "_law_b_picks_right" zai ["m","k"] f5 d5)(G5:FnOk P w K mg base CX0 5 f5 d5 ["m","k"] (spPRight K))(m_range:mg "range"=none):
  FnOk P w K mg base CX0 6 f fd ["script"] (spLaw K):=by
 have G1:FnOk P w K mg base CX0 5 f1 d1 ["tape","many"] (spDigit K):=G1'.mono (by decide)
 have G2:FnOk P w K mg base CX0 5 f2 d2 ["found","due"] (spSame K 3):=G2'.mono (by decide)
 have G3:FnOk P w K mg base CX0 5 f3 d3 ["n"] (spRingW K):=G3'.mono (by decide)
 have G4:FnOk P w K mg base CX0 5 f4 d4 ["n"] (spRingW K):=G4'.mono (by decide)
 refine F.ok sc_law (fun vs H Q E h=> ?_) (fun cdv A outer s H vs Q E hr h=> ?_)
 ·obtain⟨a,ns,rfl,_⟩:=h
  rfl
 obtain⟨a,ns,rfl,hS,h63,q⟩:=h
 refine⟨_,(zae (zar (i:=1) sc_law.nd rfl (Or.inl rfl) (zbx (zaa (pv 0) (zaa zag (zaa zag zac))))) (zae (zdg PassesOwn.never rfl (zbn rfl m_range (zaa zag zac)) (zay (i:=2) sc_law.nd rfl (Or.inl rfl)) (zae (zar (i:=3) sc_law.nd rfl (Or.inl rfl) (zao zbp zag (zal G1 hr rfl D1.m D1.F.kp D1.b .nil pass0 (zaa (pv 1) (zaa zag zac))))) (zah (zcp (pt_not (pt_val (zal G2 hr rfl D2.m D2.F.kp D2.b .nil pass0 (zaa (zal G3 hr rfl D3.m D3.F.kp D3.b .nil pass0 (zaa (pv 3) zac)) (zaa (zal G4 hr rfl D4.m D4.F.kp D4.b .nil pass0 (zaa (pv 3) zac)) zac))))) (zah (zbb pe_bl)) zbi)))) (zae (zdg PassesOwn.never rfl (zbn rfl m_range (zaa zag zac)) (zay (i:=2) sc_law.nd rfl (Or.inl rfl)) (zae (zar (i:=4) sc_law.nd rfl (Or.inl rfl) (zao zbp zag (zal G1 hr rfl D1.m D1.F.kp D1.b .nil pass0 (zaa (pv 1) (zaa zag zac))))) (zah (zcp (pt_not (pt_val (zal G5 hr rfl D5.m D5.F.kp D5.b .nil pass0 (zaa (pv 4) (zaa (zao zbp zag (zal G1 hr rfl D1.m D1.F.kp D1.b .nil pass0 (zaa (pv 1) (zaa (pv 4) zac)))) zac))))) (zah (zbb pe_bl)) zbi)))) (zah (zbb (zcy (zal G5 hr rfl D5.m D5.F.kp D5.b .nil pass0 (zaa zag (zaa zag zac))) (zcy (zal G5 hr rfl D5.m D5.F.kp D5.b .nil pass0 (zaa zag (zaa zag zac))) (pe_one (zal G5 hr rfl D5.m D5.F.kp D5.b .nil pass0 (zaa zag (zaa zag zac))))))))))),?_⟩
 refine⟨_,rfl,(by show 3<=sizeLine;decide),fun tp htp=> ?_⟩
 have tv0:=tape_new hS h63 htp
 refine⟨6,rfl,by decide,by decide,?_⟩
 refine zbw (n:=6) (fun k σ H'=>TapeV K H' tp a ns/\∃b2 b3 b4,σ=[some (.ref a),some (.ref tp),b2,b3,b4]) ⟨tv0,_,_,_,rfl⟩ (fun k σ H' hk p=> ?_) (fun σ H' p=> ?_)
 ·obtain⟨tv,b2,b3,b4,rfl⟩:=p
  refine⟨_,rfl,tp,a,ns,8,rfl,tv,by decide,by decide,fun d H1 d0 d1 x1 tv1=>⟨_,_,rfl,rfl,?_⟩⟩
  refine⟨_,rfl,3+d,rfl,by omega,by omega,fun r1 H2 s2 w2=> ?_⟩
  refine⟨_,rfl,3+d,rfl,by omega,by omega,fun r2 H3 s3 w3=> ?_⟩
  refine⟨_,_,_,rfl,(w2.same s3).dv,w3.dv,plain_web _ _,web_depth4 _ _,fun H4 s4=>⟨_,rfl,?_⟩⟩
  exact iteF ⟨tv1.same (s2.trans (s3.trans s4)),_,_,_,rfl⟩
 ·obtain⟨tv,b2,b3,b4,rfl⟩:=p
  refine⟨10,rfl,by decide,by decide,?_⟩
  refine zbw (n:=10) (fun k σ H'=>TapeV K H' tp a ns/\∃b2 b3 b4,σ=[some (.ref a),some (.ref tp),b2,b3,b4]) ⟨tv,_,_,_,rfl⟩ (fun k σ H' hk p=> ?_) (fun σ H' p=> ?_)
  ·obtain⟨tv,b2,b3,b4,rfl⟩:=p
   refine⟨_,rfl,tp,a,ns,10,rfl,tv,by decide,by decide,fun d H1 d0 d1 x1 tv1=>⟨_,_,rfl,rfl,?_⟩⟩
   refine⟨_,rfl,_,rfl,_,rfl,tp,a,ns,1+d,rfl,tv1,by omega,by omega,fun d2 H2 e0 e1 x2 tv2=>⟨_,_,rfl,rfl,?_⟩⟩
   refine⟨1+d,1+d2,rfl,by omega,by omega,by omega,by omega,fun H3 s3=>⟨_,rfl,?_⟩⟩
   exact iteF ⟨tv2.same s3,_,_,_,rfl⟩
  ·refine⟨5,2,rfl,by decide,by decide,by decide,by decide,fun H1 s1=>⟨_,rfl,iteT ?_⟩⟩
   refine⟨10,1,rfl,by decide,by decide,by decide,by decide,fun H2 s2=>⟨_,rfl,iteT ?_⟩⟩
   exact⟨10,10,rfl,by decide,by decide,by decide,by decide,fun H3 s3=>q H3⟩
end
end Hs
namespace Hs
open PySem L2 HsD
theorem len_1{α:Type}:∀{us:List α},us.length=1->∃a,us=[a]
 |[a],_=>⟨a,rfl⟩
theorem len_2{α:Type}:∀{us:List α},us.length=2->∃a b,us=[a,b]
 |[a,b],_=>⟨a,b,rfl⟩
theorem len_3{α:Type}:∀{us:List α},us.length=3->∃a b c,us=[a,b,c]
 |[a,b,c],_=>⟨a,b,c,rfl⟩
theorem all_mk{l:W.OpenLaw}{w:World}{K:W.Frag}{h:Heap}{mg:Str->Option Value}{fa:Addr}(X:K.In h)(G:h.Ns mainGlobals mg)(hfa:mg "law"=some (.ref fa)){f0 f1 f2 f3 f4 f5 f6 f7 f8 f9 f10 f11 f12 f13 f14 f15 f16 f17:Addr}{od0 an0 od1 an1 od2 an2 od3 an3 od4 an4 od5 an5 od6 an6 od7 an7 od8 an8 od9 an9 od10 an10 od11 an11 od12 an12 od13 an13 od14 an14 od15 an15 od16 an16 od17 an17:Option Addr}{sl0 sl1 sl2 sl3 sl4 sl5 sl6 sl7 sl8 sl9 sl10 sl11 sl12 sl13 sl14 sl15 sl16 sl17:Array (Option Value)}{oc0 kV0 dc0 pm0 cd0 ct0 oc1 kV1 dc1 pm1 cd1 ct1 oc2 kV2 dc2 pm2 cd2 ct2 oc3 kV3 dc3 pm3 cd3 ct3 oc4 kV4 dc4 pm4 cd4 ct4 oc5 kV5 dc5 pm5 cd5 ct5 oc6 kV6 dc6 pm6 cd6 ct6 oc7 kV7 dc7 pm7 cd7 ct7 oc8 kV8 dc8 pm8 cd8 ct8 oc9 kV9 dc9 pm9 cd9 ct9 oc10 kV10 dc10 pm10 cd10 ct10 oc11 kV11 dc11 pm11 cd11 ct11 oc12 kV12 dc12 pm12 cd12 ct12 oc13 kV13 dc13 pm13 cd13 ct13 oc14 kV14 dc14 pm14 cd14 ct14 oc15 kV15 dc15 pm15 cd15 ct15 oc16 kV16 dc16 pm16 cd16 ct16 oc17 kV17 dc17 pm17 cd17 ct17:Value}{tk0:Tok}{tk1:Tok}{c_NoFold:Addr}{c_NoNumber:Addr}{c_NoPlace:Addr}{c_NoRow:Addr}{c_NoText:Addr}{c_NoTie:Addr}{c_NoWants:Addr}{c_NoWeb:Addr}{c_TooMany:Addr}{c_HueError:Addr}{cd_TooMany:ClassData}(a0:W.nsIn K mainGlobals "is_whole"=some (some (.ref f0)))(l0:K.lookup f0=some ⟨oc0,od0,.func (W.fnOf "is_whole" "is_whole" (defArgs zbm) (defBody zbm) (defScope zbm) .none kV0 dc0 pm0 an0 cd0 ct0),sl0⟩)(c0:W.codeIn K cd0 "is_whole"=true)(k0:W.keepIn K (.ref f0)=true)(a1:W.nsIn K mainGlobals "need_from_to"=some (some (.ref f1)))(l1:K.lookup f1=some ⟨oc1,od1,.func (W.fnOf "need_from_to" "need_from_to" (defArgs zak) (defBody zak) (defScope zak) .none kV1 dc1 pm1 an1 cd1 ct1),sl1⟩)(c1:W.codeIn K cd1 "need_from_to"=true)(k1:W.keepIn K (.ref f1)=true)(a2:W.nsIn K mainGlobals "need_few"=some (some (.ref f2)))(l2:K.lookup f2=some ⟨oc2,od2,.func (W.fnOf "need_few" "need_few" (defArgs zbd) (defBody zbd) (defScope zbd) .none kV2 dc2 pm2 an2 cd2 ct2),sl2⟩)(c2:W.codeIn K cd2 "need_few"=true)(k2:W.keepIn K (.ref f2)=true)(a3:W.nsIn K mainGlobals "pairs"=some (some (.ref f3)))(l3:K.lookup f3=some ⟨oc3,od3,.func (W.fnOf "pairs" "pairs" (defArgs zci) (defBody zci) (defScope zci) .none kV3 dc3 pm3 an3 cd3 ct3),sl3⟩)(c3:W.codeIn K cd3 "pairs"=true)(k3:W.keepIn K (.ref f3)=true)(a4:W.nsIn K mainGlobals "all_sets"=some (some (.ref f4)))(l4:K.lookup f4=some ⟨oc4,od4,.func (W.fnOf "all_sets" "all_sets" (defArgs zbg) (defBody zbg) (defScope zbg) .none kV4 dc4 pm4 an4 cd4 ct4),sl4⟩)(c4:W.codeIn K cd4 "all_sets"=true)(k4:W.keepIn K (.ref f4)=true)(a5:W.nsIn K mainGlobals "in_both"=some (some (.ref f5)))(l5:K.lookup f5=some ⟨oc5,od5,.func (W.fnOf "in_both" "in_both" (defArgs zbr) (defBody zbr) (defScope zbr) .none kV5 dc5 pm5 an5 cd5 ct5),sl5⟩)(c5:W.codeIn K cd5 "in_both"=true)(k5:W.keepIn K (.ref f5)=true)(a6:W.nsIn K mainGlobals "ring"=some (some (.ref f6)))(l6:K.lookup f6=some ⟨oc6,od6,.func (W.fnOf "ring" "ring" (defArgs zdf) (defBody zdf) (defScope zdf) .none kV6 dc6 pm6 an6 cd6 ct6),sl6⟩)(c6:W.codeIn K cd6 "ring"=true)(k6:W.keepIn K (.ref f6)=true)(a7:W.nsIn K mainGlobals "picks"=some (some (.ref f7)))(l7:K.lookup f7=some ⟨oc7,od7,.func (W.fnOf "picks" "picks" (defArgs zce) (defBody zce) (defScope zce) .none kV7 dc7 pm7 an7 cd7 ct7),sl7⟩)(c7:W.codeIn K cd7 "picks"=true)(k7:W.keepIn K (.ref f7)=true)(a8:W.nsIn K mainGlobals "_law_b_stirred"=some (some (.ref f8)))(l8:K.lookup f8=some ⟨oc8,od8,.func (W.fnOf "_law_b_stirred" "_law_b_stirred" (defArgs zam) (defBody zam) (defScope zam) .none kV8 dc8 pm8 an8 cd8 ct8),sl8⟩)(c8:W.codeIn K cd8 "_law_b_stirred"=true)(k8:W.keepIn K (.ref f8)=true)(a9:W.nsIn K mainGlobals "_law_b_digit"=some (some (.ref f9)))(l9:K.lookup f9=some ⟨oc9,od9,.func (W.fnOf "_law_b_digit" "_law_b_digit" (defArgs zaw) (defBody zaw) (defScope zaw) .none kV9 dc9 pm9 an9 cd9 ct9),sl9⟩)(c9:W.codeIn K cd9 "_law_b_digit"=true)(k9:W.keepIn K (.ref f9)=true)(a10:W.nsIn K mainGlobals "_law_b_same"=some (some (.ref f10)))(l10:K.lookup f10=some ⟨oc10,od10,.func (W.fnOf "_law_b_same" "_law_b_same" (defArgs zat) (defBody zat) (defScope zat) .none kV10 dc10 pm10 an10 cd10 ct10),sl10⟩)(c10:W.codeIn K cd10 "_law_b_same"=true)(k10:W.keepIn K (.ref f10)=true)(a11:W.nsIn K mainGlobals "_law_b_kinds"=some (some (.ref f11)))(l11:K.lookup f11=some ⟨oc11,od11,.func (W.fnOf "_law_b_kinds" "_law_b_kinds" (defArgs zav) (defBody zav) (defScope zav) .none kV11 dc11 pm11 an11 cd11 ct11),sl11⟩)(c11:W.codeIn K cd11 "_law_b_kinds"=true)(k11:W.keepIn K (.ref f11)=true)(a12:W.nsIn K mainGlobals "_law_b_word"=some (some (.ref f12)))(l12:K.lookup f12=some ⟨oc12,od12,.func (W.fnOf "_law_b_word" "_law_b_word" (defArgs zaz) (defBody zaz) (defScope zaz) .none kV12 dc12 pm12 an12 cd12 ct12),sl12⟩)(c12:W.codeIn K cd12 "_law_b_word"=true)(k12:W.keepIn K (.ref f12)=true)(a13:W.nsIn K mainGlobals "_law_b_ring"=some (some (.ref f13)))(l13:K.lookup f13=some ⟨oc13,od13,.func (W.fnOf "_law_b_ring" "_law_b_ring" (defArgs zba) (defBody zba) (defScope zba) .none kV13 dc13 pm13 an13 cd13 ct13),sl13⟩)(c13:W.codeIn K cd13 "_law_b_ring"=true)(k13:W.keepIn K (.ref f13)=true)(a14:W.nsIn K mainGlobals "_law_b_choices"=some (some (.ref f14)))(l14:K.lookup f14=some ⟨oc14,od14,.func (W.fnOf "_law_b_choices" "_law_b_choices" (defArgs zan) (defBody zan) (defScope zan) .none kV14 dc14 pm14 an14 cd14 ct14),sl14⟩)(c14:W.codeIn K cd14 "_law_b_choices"=true)(k14:W.keepIn K (.ref f14)=true)(a15:W.nsIn K mainGlobals "_law_b_picks"=some (some (.ref f15)))(l15:K.lookup f15=some ⟨oc15,od15,.func (W.fnOf "_law_b_picks" "_law_b_picks" (defArgs zau) (defBody zau) (defScope zau) .none kV15 dc15 pm15 an15 cd15 ct15),sl15⟩)(c15:W.codeIn K cd15 "_law_b_picks"=true)(k15:W.keepIn K (.ref f15)=true)(a16:W.nsIn K mainGlobals "_law_b_picks_right"=some (some (.ref f16)))(l16:K.lookup f16=some ⟨oc16,od16,.func (W.fnOf "_law_b_picks_right" "_law_b_picks_right" (defArgs zai) (defBody zai) (defScope zai) .none kV16 dc16 pm16 an16 cd16 ct16),sl16⟩)(c16:W.codeIn K cd16 "_law_b_picks_right"=true)(k16:W.keepIn K (.ref f16)=true)(a17:W.nsIn K mainGlobals "law"=some (some (.ref f17)))(l17:K.lookup f17=some ⟨oc17,od17,.func (W.fnOf "law" "law" (defArgs s_law) (defBody s_law) (defScope s_law) .none kV17 dc17 pm17 an17 cd17 ct17),sl17⟩)(c17:W.codeIn K cd17 "law"=true)(k17:W.keepIn K (.ref f17)=true)(x0:W.nsIn K mainGlobals "MOST_PLACES"=some (some (.int 10 tk0)))(x1:W.nsIn K mainGlobals "LEAST_RING"=some (some (.int 3 tk1)))(z0:W.nsIn K mainGlobals "ValueError"=some none)(z1:W.nsIn K mainGlobals "all"=some none)(z2:W.nsIn K mainGlobals "bool"=some none)(z3:W.nsIn K mainGlobals "int"=some none)(z4:W.nsIn K mainGlobals "isinstance"=some none)(z5:W.nsIn K mainGlobals "len"=some none)(z6:W.nsIn K mainGlobals "list"=some none)(z7:W.nsIn K mainGlobals "max"=some none)(z8:W.nsIn K mainGlobals "range"=some none)(z9:W.nsIn K mainGlobals "sorted"=some none)(z10:W.nsIn K mainGlobals "tuple"=some none)(y0:W.nsIn K mainGlobals "NoFold"=some (some (.ref c_NoFold)))(y1:W.nsIn K mainGlobals "NoNumber"=some (some (.ref c_NoNumber)))(y2:W.nsIn K mainGlobals "NoPlace"=some (some (.ref c_NoPlace)))(y3:W.nsIn K mainGlobals "NoRow"=some (some (.ref c_NoRow)))(y4:W.nsIn K mainGlobals "NoText"=some (some (.ref c_NoText)))(y5:W.nsIn K mainGlobals "NoTie"=some (some (.ref c_NoTie)))(y6:W.nsIn K mainGlobals "NoWants"=some (some (.ref c_NoWants)))(y7:W.nsIn K mainGlobals "NoWeb"=some (some (.ref c_NoWeb)))(y8:W.nsIn K mainGlobals "TooMany"=some (some (.ref c_TooMany)))(y9:W.nsIn K mainGlobals "HueError"=some (some (.ref c_HueError)))(r_get:W.specialIn K (.builtin "object.__class__") "__get__"=some (some (.builtin "getset_descriptor.__get__")))(r_tk:W.takesIn K (.builtin "object.__class__")=some true)(i_TooMany:W.excIn K c_TooMany [.type "ValueError",.type "Exception",.type "BaseException",.type "object"] "ValueError.__new__"=true)(s_TooMany:W.clsIn K c_TooMany=some cd_TooMany)(ga_TooMany:W.findIn K (.ref c_TooMany) "__getattribute__"=some (some (.builtin "BaseException.__getattribute__")))(gn_TooMany:W.findIn K (.ref c_TooMany) "__getattr__"=some none)(gc_TooMany:W.findIn K (.ref c_TooMany) "__class__"=some (some (.builtin "object.__class__")))(mo_TooMany:W.mroIn K c_TooMany (.type "object")=some true)(mb_TooMany:W.mroIn K c_TooMany (.type "BaseException")=some true)(v_TooMany:W.kitOne K (.ref c_TooMany) (.type "ValueError")=some true)(k0_TooMany:W.kitOne K (.ref c_TooMany) (.ref c_NoFold)=some false)(k1_TooMany:W.kitOne K (.ref c_TooMany) (.ref c_NoNumber)=some false)(k2_TooMany:W.kitOne K (.ref c_TooMany) (.ref c_NoPlace)=some false)(k3_TooMany:W.kitOne K (.ref c_TooMany) (.ref c_NoRow)=some false)(k4_TooMany:W.kitOne K (.ref c_TooMany) (.ref c_NoText)=some false)(k5_TooMany:W.kitOne K (.ref c_TooMany) (.ref c_NoTie)=some false)(k6_TooMany:W.kitOne K (.ref c_TooMany) (.ref c_NoWants)=some false)(k7_TooMany:W.kitOne K (.ref c_TooMany) (.ref c_NoWeb)=some false)(k8_TooMany:W.kitOne K (.ref c_TooMany) (.ref c_TooMany)=some true)(h_TooMany:W.exmOne K (.ref c_TooMany) (.ref c_HueError)=some true):
  ∃fd:FuncData,(∀(s:Shared) (v:Value),BindsTo s fd ⟨[v],[]⟩ [("script",v)])/\∀base:Heap,K.In base->base.Ns mainGlobals mg->FnOk l.prog w K mg base CX0 6 fa fd ["script"] (spLaw K):=by
 have e:=hfa.symm.trans (W.mg_of X G a17)
 cases e
 have F0:=zbq (st:=zbm) l0 c0 k0
 have E_is_whole:Dfn K mg "is_whole" zbm ["thing"] f0 _:=⟨F0,F0.binds (fun _ _ _ _ _ _ us hl=>by obtain⟨u0,rfl⟩:=Hs.len_1 hl;rfl),W.mg_of X G a0⟩
 have F1:=zbq (st:=zak) l1 c1 k1
 have E_need_from_to:Dfn K mg "need_from_to" zak ["least","most","thing"] f1 _:=⟨F1,F1.binds (fun _ _ _ _ _ _ us hl=>by obtain⟨u0,u1,u2,rfl⟩:=Hs.len_3 hl;rfl),W.mg_of X G a1⟩
 have F2:=zbq (st:=zbd) l2 c2 k2
 have E_need_few:Dfn K mg "need_few" zbd ["n"] f2 _:=⟨F2,F2.binds (fun _ _ _ _ _ _ us hl=>by obtain⟨u0,rfl⟩:=Hs.len_1 hl;rfl),W.mg_of X G a2⟩
 have F3:=zbq (st:=zci) l3 c3 k3
 have E_pairs:Dfn K mg "pairs" zci ["n"] f3 _:=⟨F3,F3.binds (fun _ _ _ _ _ _ us hl=>by obtain⟨u0,rfl⟩:=Hs.len_1 hl;rfl),W.mg_of X G a3⟩
 have F4:=zbq (st:=zbg) l4 c4 k4
 have E_all_sets:Dfn K mg "all_sets" zbg ["n"] f4 _:=⟨F4,F4.binds (fun _ _ _ _ _ _ us hl=>by obtain⟨u0,rfl⟩:=Hs.len_1 hl;rfl),W.mg_of X G a4⟩
 have F5:=zbq (st:=zbr) l5 c5 k5
 have E_in_both:Dfn K mg "in_both" zbr ["ones","others"] f5 _:=⟨F5,F5.binds (fun _ _ _ _ _ _ us hl=>by obtain⟨u0,u1,rfl⟩:=Hs.len_2 hl;rfl),W.mg_of X G a5⟩
 have F6:=zbq (st:=zdf) l6 c6 k6
 have E_ring:Dfn K mg "ring" zdf ["n"] f6 _:=⟨F6,F6.binds (fun _ _ _ _ _ _ us hl=>by obtain⟨u0,rfl⟩:=Hs.len_1 hl;rfl),W.mg_of X G a6⟩
 have F7:=zbq (st:=zce) l7 c7 k7
 have E_picks:Dfn K mg "picks" zce ["m","k"] f7 _:=⟨F7,F7.binds (fun _ _ _ _ _ _ us hl=>by obtain⟨u0,u1,rfl⟩:=Hs.len_2 hl;rfl),W.mg_of X G a7⟩
 have F8:=zbq (st:=zam) l8 c8 k8
 have E_law_b_stirred:Dfn K mg "_law_b_stirred" zam ["cell","at"] f8 _:=⟨F8,F8.binds (fun _ _ _ _ _ _ us hl=>by obtain⟨u0,u1,rfl⟩:=Hs.len_2 hl;rfl),W.mg_of X G a8⟩
 have F9:=zbq (st:=zaw) l9 c9 k9
 have E_law_b_digit:Dfn K mg "_law_b_digit" zaw ["tape","many"] f9 _:=⟨F9,F9.binds (fun _ _ _ _ _ _ us hl=>by obtain⟨u0,u1,rfl⟩:=Hs.len_2 hl;rfl),W.mg_of X G a9⟩
 have F10:=zbq (st:=zat) l10 c10 k10
 have E_law_b_same:Dfn K mg "_law_b_same" zat ["found","due"] f10 _:=⟨F10,F10.binds (fun _ _ _ _ _ _ us hl=>by obtain⟨u0,u1,rfl⟩:=Hs.len_2 hl;rfl),W.mg_of X G a10⟩
 have F11:=zbq (st:=zav) l11 c11 k11
 have E_law_b_kinds:Dfn K mg "_law_b_kinds" zav ["e"] f11 _:=⟨F11,F11.binds (fun _ _ _ _ _ _ us hl=>by obtain⟨u0,rfl⟩:=Hs.len_1 hl;rfl),W.mg_of X G a11⟩
 have F12:=zbq (st:=zaz) l12 c12 k12
 have E_law_b_word:Dfn K mg "_law_b_word" zaz ["e"] f12 _:=⟨F12,F12.binds (fun _ _ _ _ _ _ us hl=>by obtain⟨u0,rfl⟩:=Hs.len_1 hl;rfl),W.mg_of X G a12⟩
 have F13:=zbq (st:=zba) l13 c13 k13
 have E_law_b_ring:Dfn K mg "_law_b_ring" zba ["n"] f13 _:=⟨F13,F13.binds (fun _ _ _ _ _ _ us hl=>by obtain⟨u0,rfl⟩:=Hs.len_1 hl;rfl),W.mg_of X G a13⟩
 have F14:=zbq (st:=zan) l14 c14 k14
 have E_law_b_choices:Dfn K mg "_law_b_choices" zan ["m","k"] f14 _:=⟨F14,F14.binds (fun _ _ _ _ _ _ us hl=>by obtain⟨u0,u1,rfl⟩:=Hs.len_2 hl;rfl),W.mg_of X G a14⟩
 have F15:=zbq (st:=zau) l15 c15 k15
 have E_law_b_picks:Dfn K mg "_law_b_picks" zau ["places"] f15 _:=⟨F15,F15.binds (fun _ _ _ _ _ _ us hl=>by obtain⟨u0,rfl⟩:=Hs.len_1 hl;rfl),W.mg_of X G a15⟩
 have F16:=zbq (st:=zai) l16 c16 k16
 have E_law_b_picks_right:Dfn K mg "_law_b_picks_right" zai ["m","k"] f16 _:=⟨F16,F16.binds (fun _ _ _ _ _ _ us hl=>by obtain⟨u0,u1,rfl⟩:=Hs.len_2 hl;rfl),W.mg_of X G a16⟩
 have F17:=zbq (st:=s_law) l17 c17 k17
 have v_MOST_PLACES:=W.mg_of X G x0
 have v_LEAST_RING:=W.mg_of X G x1
 have n_ValueError:=W.mg_none_of X G z0
 have n_all:=W.mg_none_of X G z1
 have n_bool:=W.mg_none_of X G z2
 have n_int:=W.mg_none_of X G z3
 have n_isinstance:=W.mg_none_of X G z4
 have n_len:=W.mg_none_of X G z5
 have n_list:=W.mg_none_of X G z6
 have n_max:=W.mg_none_of X G z7
 have n_range:=W.mg_none_of X G z8
 have n_sorted:=W.mg_none_of X G z9
 have n_tuple:=W.mg_none_of X G z10
 have m_NoFold:=W.mg_of X G y0
 have m_NoNumber:=W.mg_of X G y1
 have m_NoPlace:=W.mg_of X G y2
 have m_NoRow:=W.mg_of X G y3
 have m_NoText:=W.mg_of X G y4
 have m_NoTie:=W.mg_of X G y5
 have m_NoWants:=W.mg_of X G y6
 have m_NoWeb:=W.mg_of X G y7
 have m_TooMany:=W.mg_of X G y8
 have m_HueError:=W.mg_of X G y9
 refine⟨W.fnOf "law" "law" (defArgs s_law) (defBody s_law) (defScope s_law) .none kV17 dc17 pm17 an17 cd17 ct17,fun s v=> .of_eq rfl,fun base _ _=> ?_⟩
 have g_whole:=ok_whole (P:=l.prog) (w:=w) (base:=base) F0 n_isinstance n_int n_bool
 have g_fromTo:=ok_fromTo (P:=l.prog) (w:=w) (mg:=mg) (base:=base) F1 E_is_whole g_whole
 have g_needFew:=ok_needFew (P:=l.prog) (w:=w) (base:=base) F2 v_MOST_PLACES
 have g_fewX:=ok_needFewX (P:=l.prog) (w:=w) (base:=base) F2 v_MOST_PLACES PySem.F.excBase_ValueError m_TooMany i_TooMany
 have g_allp:=ok_allp (P:=l.prog) (w:=w) (mg:=mg) (base:=base) F3 n_range
 have g_allSets:=ok_allSets (P:=l.prog) (w:=w) (mg:=mg) (base:=base) F4 n_range
 have g_stir:=ok_stir (P:=l.prog) (w:=w) (mg:=mg) (base:=base) F8
 have g_digit:=ok_digit (P:=l.prog) (w:=w) (base:=base) F9 E_law_b_stirred g_stir n_len
 have g_same:=ok_same (P:=l.prog) (w:=w) (base:=base) E_law_b_same n_isinstance n_int n_bool n_tuple n_list n_len n_all n_range 3
 have g_kinds:=ok_kinds (P:=l.prog) (w:=w) (mg:=mg) (base:=base) F11 n_isinstance m_NoFold m_NoNumber m_NoPlace m_NoRow m_NoText m_NoTie m_NoWants m_NoWeb m_TooMany
 have g_word:=ok_word (P:=l.prog) (w:=w) (mg:=mg) (base:=base) F12 E_law_b_kinds g_kinds n_isinstance n_ValueError
 have g_inBoth:=ok_inBoth (P:=l.prog) (w:=w) (mg:=mg) (base:=base) F5
 have g_ringW:=ok_ringW (P:=l.prog) (w:=w) (mg:=mg) (base:=base) F6 E_need_from_to g_fromTo n_range n_tuple n_sorted v_LEAST_RING v_MOST_PLACES
 have g_lring:=ok_lring (P:=l.prog) (w:=w) (mg:=mg) (base:=base) F13 n_range n_tuple n_sorted
 have g_picks:=ok_picks (P:=l.prog) (w:=w) (mg:=mg) (base:=base) F7 E_need_from_to g_fromTo E_all_sets g_allSets E_need_few g_needFew E_in_both g_inBoth E_pairs g_allp n_sorted n_len n_tuple v_MOST_PLACES
 have g_picksX:=ok_picksX (P:=l.prog) (w:=w) (mg:=mg) (base:=base) F7 E_need_from_to g_fromTo E_all_sets g_allSets E_need_few g_fewX n_sorted n_len v_MOST_PLACES
 have g_choi:=ok_choi (P:=l.prog) (w:=w) (mg:=mg) (base:=base) F14 n_range n_max n_sorted
 have g_lpicks:=ok_lpicks (P:=l.prog) (w:=w) (mg:=mg) (base:=base) F15 n_range n_len n_tuple
 have g_pright:=ok_pright (P:=l.prog) (w:=w) (mg:=mg) (base:=base) F16 E_law_b_choices g_choi E_picks E_law_b_word g_word E_law_b_same g_same E_law_b_picks g_lpicks n_len m_HueError (FnOk.or g_picks.up g_picksX) h_TooMany (kinds_mk ⟨⟨_,s_TooMany⟩,ga_TooMany,gn_TooMany,gc_TooMany,r_get,r_tk,mo_TooMany,mb_TooMany⟩ v_TooMany k0_TooMany k1_TooMany k2_TooMany k3_TooMany k4_TooMany k5_TooMany k6_TooMany k7_TooMany k8_TooMany)
 exact ok_law (P:=l.prog) (w:=w) (mg:=mg) (base:=base) F17 E_law_b_digit g_digit E_law_b_same g_same E_ring g_ringW E_law_b_ring g_lring E_law_b_picks_right g_pright n_range
theorem walk{l:PySem.W.OpenLaw}{q:Program}{loose:List Str}{XP:(Str->Option Value)->Heap->Prop}{YP:World->Heap->Prop}{d:DefRec}{K:Params->PySem.W.Frag}(hn:l.most=some 63)(hdf:d.params.defaults=[])(hY:∀(w:World) (h:Heap),YP w h->(K w.params).In h)
  (F:∀(w:World) (mg:Str->Option Value) (fa:Addr) (h:Heap),(K w.params).In h->h.Ns mainGlobals mg->mg d.name=some (.ref fa)->
   ∃fd:FuncData,(∀(s:Shared) (u:Value),BindsTo s fd ⟨[u],[]⟩ [("script",u)])/\∀base:Heap,(K w.params).In base->base.Ns mainGlobals mg->FnOk l.prog w (K w.params) mg base CX0 6 fa fd ["script"] (spLaw (K w.params))):
  PySem.W.WalkO q loose XP YP l.row.toRowW d [] (fun f vs=>PySem.call f vs):=
 L2.walk_of (n:=63) (k:=6) (x:="script") (CX:=fun _=>CX0) (sp:=fun w=>spLaw (K w.params)) hn (by decide) hdf ⟨rfl,by decide,by decide,rfl⟩ hY F (fun _ _ a ns hl hO hS=>spLaw_of hl hO hS) fun _ _ _ _ _ z=>z
end Hs
open PySem PySem.W PyProof.Rows
set_option maxRecDepth 100000 in
set_option maxHeartbeats 0 in
theorem PySem.Challenge.cw_hueshare_k10_rings_and_picks_holds : PySem.Challenge.rw_hueshare_k10_rings_and_picks.Holds := by
 refine Hd.early.2 ?_
 unfold Hd.early
 dsimp only
 k_fill
 refine Hs.walk (l:=PySem.Challenge.rw_hueshare_k10_rings_and_picks) rfl rfl (fun w h Y=>PySem.W.kIn_of Y) ?F
 case F=>
  intro w mg fa h KX G hmg
  refine' Hs.all_mk KX G hmg ?a0 ?l0 ?c0 ?k0 ?a1 ?l1 ?c1 ?k1 ?a2 ?l2 ?c2 ?k2 ?a3 ?l3 ?c3 ?k3 ?a4 ?l4 ?c4 ?k4 ?a5 ?l5 ?c5 ?k5 ?a6 ?l6 ?c6 ?k6 ?a7 ?l7 ?c7 ?k7 ?a8 ?l8 ?c8 ?k8 ?a9 ?l9 ?c9 ?k9 ?a10 ?l10 ?c10 ?k10 ?a11 ?l11 ?c11 ?k11 ?a12 ?l12 ?c12 ?k12 ?a13 ?l13 ?c13 ?k13 ?a14 ?l14 ?c14 ?k14 ?a15 ?l15 ?c15 ?k15 ?a16 ?l16 ?c16 ?k16 ?a17 ?l17 ?c17 ?k17 ?x0 ?x1 ?z0 ?z1 ?z2 ?z3 ?z4 ?z5 ?z6 ?z7 ?z8 ?z9 ?z10 ?y0 ?y1 ?y2 ?y3 ?y4 ?y5 ?y6 ?y7 ?y8 ?y9 ?r_get ?r_tk ?i_TooMany ?s_TooMany ?ga_TooMany ?gn_TooMany ?gc_TooMany ?mo_TooMany ?mb_TooMany ?v_TooMany ?k0_TooMany ?k1_TooMany ?k2_TooMany ?k3_TooMany ?k4_TooMany ?k5_TooMany ?k6_TooMany ?k7_TooMany ?k8_TooMany ?h_TooMany
  (case a0=>k_is)
  (case l0=>k_is)
  (case c0=>k_is)
  (case k0=>k_is)
  (case a1=>k_is)
  (case l1=>k_is)
  (case c1=>k_is)
  (case k1=>k_is)
  (case a2=>k_is)
  (case l2=>k_is)
  (case c2=>k_is)
  (case k2=>k_is)
  (case a3=>k_is)
  (case l3=>k_is)
  (case c3=>k_is)
  (case k3=>k_is)
  (case a4=>k_is)
  (case l4=>k_is)
  (case c4=>k_is)
  (case k4=>k_is)
  (case a5=>k_is)
  (case l5=>k_is)
  (case c5=>k_is)
  (case k5=>k_is)
  (case a6=>k_is)
  (case l6=>k_is)
  (case c6=>k_is)
  (case k6=>k_is)
  (case a7=>k_is)
  (case l7=>k_is)
  (case c7=>k_is)
  (case k7=>k_is)
  (case a8=>k_is)
  (case l8=>k_is)
  (case c8=>k_is)
  (case k8=>k_is)
  (case a9=>k_is)
  (case l9=>k_is)
  (case c9=>k_is)
  (case k9=>k_is)
  (case a10=>k_is)
  (case l10=>k_is)
  (case c10=>k_is)
  (case k10=>k_is)
  (case a11=>k_is)
  (case l11=>k_is)
  (case c11=>k_is)
  (case k11=>k_is)
  (case a12=>k_is)
  (case l12=>k_is)
  (case c12=>k_is)
  (case k12=>k_is)
  (case a13=>k_is)
  (case l13=>k_is)
  (case c13=>k_is)
  (case k13=>k_is)
  (case a14=>k_is)
  (case l14=>k_is)
  (case c14=>k_is)
  (case k14=>k_is)
  (case a15=>k_is)
  (case l15=>k_is)
  (case c15=>k_is)
  (case k15=>k_is)
  (case a16=>k_is)
  (case l16=>k_is)
  (case c16=>k_is)
  (case k16=>k_is)
  (case a17=>k_is)
  (case l17=>k_is)
  (case c17=>k_is)
  (case k17=>k_is)
  (case x0=>k_is)
  (case x1=>k_is)
  (case z0=>k_is)
  (case z1=>k_is)
  (case z2=>k_is)
  (case z3=>k_is)
  (case z4=>k_is)
  (case z5=>k_is)
  (case z6=>k_is)
  (case z7=>k_is)
  (case z8=>k_is)
  (case z9=>k_is)
  (case z10=>k_is)
  (case y0=>k_is)
  (case y1=>k_is)
  (case y2=>k_is)
  (case y3=>k_is)
  (case y4=>k_is)
  (case y5=>k_is)
  (case y6=>k_is)
  (case y7=>k_is)
  (case y8=>k_is)
  (case y9=>k_is)
  (case r_get=>k_is)
  (case r_tk=>k_is)
  (case i_TooMany=>k_exc)
  (case s_TooMany=>k_is)
  (case ga_TooMany=>k_is)
  (case gn_TooMany=>k_is)
  (case gc_TooMany=>k_is)
  (case mo_TooMany=>k_is)
  (case mb_TooMany=>k_is)
  (case v_TooMany=>kit_is)
  (case k0_TooMany=>kit_is)
  (case k1_TooMany=>kit_is)
  (case k2_TooMany=>kit_is)
  (case k3_TooMany=>kit_is)
  (case k4_TooMany=>kit_is)
  (case k5_TooMany=>kit_is)
  (case k6_TooMany=>kit_is)
  (case k7_TooMany=>kit_is)
  (case k8_TooMany=>kit_is)
  (case h_TooMany=>kts_exm)
